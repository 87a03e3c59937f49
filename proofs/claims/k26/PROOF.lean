import PyProof.Rows.All
import Wide.All
import OpenK.AllK
import Wide.FinOn
import Lean
import PyProof.EqAt
import PyProof.EqKinds
import PyProof.TupleCall
import PyProof.AttrMissSeq
import KE.KDictOf
import PySem.Challenge.RW_neveragain_k26_places_refused
abbrev L2.Fg:=PySem.W.Frag
theorem L2.tI:True:=True.intro
set_option Elab.async false
set_option linter.all false
set_option maxRecDepth 100000
set_option maxHeartbeats 4000000
namespace L2
open PySem PySem.Spec PyProof.Rows
abbrev Key:=Sum Int Str
def keyIs:Key->Value->Bool
 | .inl k,v=>Value.isInt k v
 | .inr x,v=>Value.isStrOf x v
def keyH (w:World):Key->Int
 | .inl k=>hashInt k
 | .inr x=>hashStr w x
theorem keyIs_shape:∀{k:Key} {v:Value},keyIs k v=true->(∃i t,k=Sum.inl i/\v=Value.int i t)\/(∃x t,k=Sum.inr x/\v=Value.str x t)
 | .inl i,v,h=>by
  obtain ⟨t,e⟩:=Value.isInt_shape (k:=i) (v:=v) h;exact .inl ⟨i,t,rfl,e⟩
 | .inr x,v,h=>by
  obtain ⟨t,e⟩:=Value.isStrOf_shape (x:=x) (v:=v) h;exact .inr ⟨x,t,rfl,e⟩
theorem keyIs_int (i:Int) (t:Tok):keyIs (.inl i) (.int i t)=true:=by simp [keyIs,Value.isInt]
theorem keyIs_str (x:Str) (t:Tok):keyIs (.inr x) (.str x t)=true:=by simp [keyIs,Value.isStrOf]
theorem key_ll (a b:Int):decide ((Sum.inl a:Key)=Sum.inl b)=(a==b):=by
 by_cases e:a=b
 ·subst e;simp
 ·have h:¬(Sum.inl a:Key)=Sum.inl b:=λq=>e (Sum.inl.inj q);rw[decide_eq_false h];exact (beq_eq_false_iff_ne.mpr e).symm
theorem key_rr (a b:Str):decide ((Sum.inr a:Key)=Sum.inr b)=decide (a=b):=by
 by_cases e:a=b
 ·subst e;simp
 ·have h:¬(Sum.inr a:Key)=Sum.inr b:=λq=>e (Sum.inr.inj q);rw[decide_eq_false h,decide_eq_false e]
theorem key_lr (a:Int) (b:Str):decide ((Sum.inl a:Key)=Sum.inr b)=false:=decide_eq_false (λq=>nomatch q)
theorem key_rl (a:Str) (b:Int):decide ((Sum.inr a:Key)=Sum.inl b)=false:=decide_eq_false (λq=>nomatch q)
def mixKind (prog:Program) (w:World):PySem.KeyKind prog w Key where
 is:=keyIs
 hash:=keyH w
 inj:=λv a b ha hb=>by
  rcases keyIs_shape ha with ⟨i,t,rfl,rfl⟩|⟨x,t,rfl,rfl⟩
  ·rcases keyIs_shape hb with ⟨j,u,rfl,e⟩|⟨y,u,rfl,e⟩
   ·injection e with e1 _;rw[e1]
   ·exact nomatch e
  ·rcases keyIs_shape hb with ⟨j,u,rfl,e⟩|⟨y,u,rfl,e⟩
   ·exact nomatch e
   ·injection e with e1 _;rw[e1]
 byValue:=λk v h=>by
  rcases keyIs_shape h with ⟨i,t,rfl,rfl⟩|⟨x,t,rfl,rfl⟩<;>rfl
 pyHash:=λhv h=>by
  rcases keyIs_shape hv with ⟨i,t,rfl,rfl⟩|⟨x,t,rfl,rfl⟩
  ·exact wpAny_pyHash_int h
  ·exact wpAny_pyHash_str h
 eqBool:=λhu hv h=>by
  rcases keyIs_shape hu with ⟨i,t,rfl,rfl⟩|⟨x,t,rfl,rfl⟩
  ·rcases keyIs_shape hv with ⟨j,u,rfl,rfl⟩|⟨y,u,rfl,rfl⟩
   ·rw[key_ll] at h;exact wpAny_eqBool_int h
   ·rw[key_lr] at h;exact SeqAt.EqAt.int_str i t y u _ _ _ _ h
  ·rcases keyIs_shape hv with ⟨j,u,rfl,rfl⟩|⟨y,u,rfl,rfl⟩
   ·rw[key_rl] at h;exact SeqAt.EqAt.str_int x t j u _ _ _ _ h
   ·rw[key_rr] at h;exact wpAny_eqBool_str h
 «strs»:=λk x t v h=>by
  rcases keyIs_shape h with ⟨i,u,rfl,e⟩|⟨y,u,rfl,e⟩
  ·exact nomatch e
  ·injection e with e1 _
   subst e1;cases v<;>rfl
theorem mixKind_int (prog:Program) (w:World) (i:Int) (t:Tok):(mixKind prog w).is (.inl i) (.int i t)=true:=keyIs_int i t
theorem mixKind_str (prog:Program) (w:World) (x:Str) (t:Tok):(mixKind prog w).is (.inr x) (.str x t)=true:=keyIs_str x t
inductive V where
 |non|bl (b:Bool)|int (i:Int)|str (x:Str)|byt (b:Array UInt8)|flt (b:UInt64)|ref (a:Addr)|ty (n:String)
 deriving DecidableEq
def RelV:V->Value->Prop
 | .non,u=>u=Value.none
 | .bl b,u=>u=Value.bool b
 | .int i,u=>∃t,u=Value.int i t
 | .str x,u=>∃t,u=Value.str x t
 | .byt b,u=>∃t,u=Value.bytes b t
 | .flt b,u=>∃t,u=Value.float b t
 | .ref a,u=>u=Value.ref a
 | .ty n,u=>u=Value.type n
abbrev Vals:List V->List Value->Prop:=Paired RelV
theorem Vals.length {xs:List V} {us:List Value} (r:Vals xs us):xs.length=us.length:=Paired.length r
theorem Vals.get:∀{xs:List V} {us:List Value} {i:Nat} {x:V},Vals xs us->xs[i]?=some x->∃u,us[i]?=some u/\RelV x u
 |_,_,_,_,.nil,e=>by simp at e
 |_,_,0,_,.cons r _,e=>by simp at e;subst e;exact ⟨_,rfl,r⟩
 |_,_,i+1,x,.cons _ t,e=>by
  obtain ⟨u,h1,h2⟩:=Vals.get (i:=i) (x:=x) t (by simpa using e);exact ⟨u,by simpa using h1,h2⟩
theorem Vals.append:∀{xs ys:List V} {us ws:List Value},Vals xs us->Vals ys ws->Vals (xs++ys) (us++ws)
 |_,_,_,_,.nil,s=>s
 |_,_,_,_,.cons r t,s=>.cons r (Vals.append t s)
theorem Vals.take:∀{xs:List V} {us:List Value} (n:Nat),Vals xs us->Vals (xs.take n) (us.take n)
 |_,_,0,_=>.nil
 |_,_,_+1,.nil=>.nil
 |_,_,n+1,.cons r t=>.cons r (Vals.take n t)
theorem Vals.drop:∀{xs:List V} {us:List Value} (n:Nat),Vals xs us->Vals (xs.drop n) (us.drop n)
 |_,_,0,r=>r
 |_,_,_+1,.nil=>.nil
 |_,_,n+1,.cons _ t=>Vals.drop n t
def RelO:Option V->Option Value->Prop
 |some v,some u=>RelV v u
 |none,none=>True
 |_,_=>False
def KV {κ:Type}:List (κ × V)->List (κ × Value)->Prop:=Paired λ(p:κ × V) (q:κ × Value)=>p.1=q.1/\RelV p.2 q.2
def kV:Key->V
 | .inl i=>.int i
 | .inr x=>.str x
inductive HO where
  
 |lst (xs:List V)
  
 |tup (xs:List V)
  
 |dK (kvs:List (Key × V))|dT (kvs:List (List Key × V))
  
 |set (S:Int->Bool) (n:Nat)
  
 |ins (C dx:Addr) (fs:List (Str × V))
  
 |own (x:Addr)
  
 |xd (fs:List (Str × V))
  
 |met (f x:Addr)
  
 |rng (lo hi:Int)
  
 |frz (o:Obj) (u:HO)
  
 |tbl (ps:Array Value)
  
 |ext (φ:Heap->Prop)
abbrev Hp:=Addr->Option HO
def upd (H:Hp) (a:Addr) (o:HO):Hp:=λb=>if b=a then some o else H b
theorem upd_same {H:Hp} {a:Addr} {o:HO}:upd H a o a=some o:=by unfold upd;rw[if_pos rfl]
theorem upd_ne {H:Hp} {a b:Addr} {o:HO} (h:b≠a):upd H a o b=H b:=by unfold upd;rw[if_neg h]
theorem ne_of_none {H:Hp} {a b:Addr} {o:HO} (h:H a=some o) (h':H b=none):a≠b:=by
 intro e;subst e;rw[h] at h';cases h'
section
variable (P:Program) (w:World)
def ObjOk (H:Hp) (h:Heap) (a:Addr):HO->Prop
 | .lst xs=>xs.length<=sizeLine/\∃(its:List Value) (n:Nat),Vals xs its/\h.get? a=some {cls:=.type "list",data:=.seq its.toArray n}
 | .tup xs=>xs.length<=sizeLine/\∃its:List Value,Vals xs its/\IsTup h a its.toArray
 | .dK kvs=>kvs.length<=sizeLine/\(a==sysModules)=false/\∃vs,KV kvs vs/\h.DictOf (mixKind P w) a vs
 | .dT kvs=>kvs.length<=sizeLine/\(a==sysModules)=false/\∃xs:List (List Key × Addr × Value),
   Paired (λ(p:List Key × V) (q:List Key × Addr × Value)=>p.1=q.1/\H q.2.1=some (.tup (p.1.map kV))/\RelV p.2 q.2.2) kvs xs/\
   ∃o es ep,h.get? a=some o/\o.ExactDict/\o.data=.dict es ep/\es.toList=xs.map (entryOfKey (tupleKind (mixKind P w)))/\(xs.map (·.1)).Nodup
 | .set S n=>h.SetOf (intKind P w) a S n
 | .ins C dx fs=>H dx=some (.own a)/\fs.length<=1000/\dx≠a/\h.get? a=some (PySem.W.instObj C dx)/\
   ∃mA,h.Ns1 dx mA/\(∀f,RelO (fs.lookup f) (mA f))/\PySem.Within mA (fs.map (·.1))
 | .own _=>∃o,h.get? a=some o
 | .xd fs=>∃mA,h.Ns1 a mA/\∀f,RelO (fs.lookup f) (mA f)
 | .rng lo hi=>∃t u v,h.get? a=some {cls:=.type "range",data:=.fields #[.int lo t,.int hi u,.int 1 v]}
 | .frz o u=>h.get? a=some o/\ObjOk H h a u
 | .tbl ps=>h.get? a=some {cls:=.none,data:=.fields ps}
 | .met f x=>h.get? a=some (PySem.W.methodObj (.ref f) (.ref x))
 | .ext φ=>φ h/\(∃o,h.get? a=some o)/\∀h1 h2:Heap,φ h1->(∀o,h1.get? a=some o->h2.get? a=some o)->φ h2
def HOk (H:Hp) (h:Heap):Prop:=∀a o,H a=some o->ObjOk P w H h a o
end
section
variable {P:Program} {w:World} {H H':Hp} {h h':Heap} {a:Addr} {o:HO}
theorem ObjOk.lt (x:ObjOk P w H h a o):a<h.objs.size:=by
 cases o with
 |lst xs=>obtain ⟨_,_,_,_,e⟩:=x;exact Heap.lt_size e
 |tup xs=>obtain ⟨_,_,_,p⟩:=x;exact p.lt
 |dK kvs=>obtain ⟨_,_,_,_,o,_,_,e,_⟩:=x;exact Heap.lt_size e
 |dT kvs=>obtain ⟨_,_,_,_,o,_,_,e,_⟩:=x;exact Heap.lt_size e
 |set S n=>obtain ⟨o,_,_,_,e,_⟩:=x;exact Heap.lt_size e
 |ins C dx fs=>obtain ⟨_,_,_,e,_⟩:=x;exact Heap.lt_size e
 |own y=>obtain ⟨_,e⟩:=x;exact Heap.lt_size e
 |xd fs=>obtain ⟨_,⟨_,_,_,e,_⟩,_⟩:=x;exact Heap.lt_size e
 |rng lo hi=>obtain ⟨_,_,_,e⟩:=x;exact Heap.lt_size e
 |frz ob u=>obtain ⟨e,_⟩:=x;exact Heap.lt_size e
 |tbl ps=>exact Heap.lt_size (show h.get? a=some _ from x)
 |met f y=>exact Heap.lt_size (show h.get? a=some _ from x)
 |ext φ=>obtain ⟨_,⟨_,e⟩,_⟩:=x;exact Heap.lt_size e
theorem Paired.mapP {α β:Type} {F G:α->β->Prop}:∀{l₁:List α} {l₂:List β},Paired F l₁ l₂->(∀a b,F a b->G a b)->Paired G l₁ l₂
 |_,_,.nil,_=>.nil
 |_,_,.cons r t,f=>.cons (f _ _ r) (Paired.mapP t f)
theorem ObjOk.stay (x:ObjOk P w H h a o) (k:∀b u,(b=a\/H b=some (.own a))->h.get? b=some u->h'.get? b=some u)
  (ho:∀b,H b=some (.own a)->H' b=some (.own a)) (ht:∀b xs,H b=some (.tup xs)->H' b=some (.tup xs)):ObjOk P w H' h' a o:=by
 induction o with
 |lst xs=>obtain ⟨z,its,n,r,e⟩:=x;exact ⟨z,its,n,r,k _ _ (.inl rfl) e⟩
 |tup xs=>obtain ⟨z,its,r,ob,e,c⟩:=x;exact ⟨z,its,r,ob,k _ _ (.inl rfl) e,c⟩
 |dK kvs=>obtain ⟨z,y,vs,r,ob,es,ep,e,c⟩:=x;exact ⟨z,y,vs,r,ob,es,ep,k _ _ (.inl rfl) e,c⟩
 |dT kvs=>
  obtain ⟨z,y,xs,r,ob,es,ep,e,c⟩:=x;exact ⟨z,y,xs,Paired.mapP r λp q z=>⟨z.1,ht _ _ z.2.1,z.2.2⟩,ob,es,ep,k _ _ (.inl rfl) e,c⟩
 |set S n=>obtain ⟨ob,es,ep,t,e,c⟩:=x;exact ⟨ob,es,ep,t,k _ _ (.inl rfl) e,c⟩
 |ins C dx fs=>
  obtain ⟨d,z,ne,e,mA,⟨od,es,ep,e2,c⟩,r⟩:=x;exact ⟨ho _ d,z,ne,k _ _ (.inl rfl) e,mA,⟨od,es,ep,k _ _ (.inr d) e2,c⟩,r⟩
 |own y=>obtain ⟨ob,e⟩:=x;exact ⟨ob,k _ _ (.inl rfl) e⟩
 |xd fs=>obtain ⟨mA,⟨od,es,ep,e,c⟩,r⟩:=x;exact ⟨mA,⟨od,es,ep,k _ _ (.inl rfl) e,c⟩,r⟩
 |rng lo hi=>obtain ⟨t,u,v,e⟩:=x;exact ⟨t,u,v,k _ _ (.inl rfl) e⟩
 |frz ob u ih=>obtain ⟨e,q⟩:=x;exact ⟨k _ _ (.inl rfl) e,ih q⟩
 |tbl ps=>
  have e:h.get? a=some {cls:=.none,data:=.fields ps}:=x;show h'.get? a=some {cls:=.none,data:=.fields ps};exact k a _ (.inl rfl) e
 |met f y=>
  have e:h.get? a=some (PySem.W.methodObj (.ref f) (.ref y)):=x;show h'.get? a=some (PySem.W.methodObj (.ref f) (.ref y));exact k a _ (.inl rfl) e
 |ext φ=>obtain ⟨p,⟨o,e⟩,st⟩:=x;exact ⟨st _ _ p λo q=>k _ _ (.inl rfl) q,⟨o,k _ _ (.inl rfl) e⟩,st⟩
theorem HOk.lt (x:HOk P w H h) (e:H a=some o):a<h.objs.size:=(x a o e).lt
theorem HOk.fresh (x:HOk P w H h) (e:h.objs.size<=a):H a=none:=by
 cases q:H a with
 |none=>rfl
 |some u=>exact absurd (Nat.lt_of_lt_of_le (x.lt q) e) (Nat.lt_irrefl _)
theorem HOk.kept (x:HOk P w H h) (k:∀b u,h.get? b=some u->h'.get? b=some u):HOk P w H h':=λa o e=>
 (x a o e).stay (λb u _ q=>k b u q) (λ_ q=>q) λ_ _ q=>q
theorem HOk.laid (x:HOk P w H h) (k:∀b u,h.get? b=some u->h'.get? b=some u) (hp:h.objs.size<=a) (new:ObjOk P w (upd H a o) h' a o):HOk P w (upd H a o) h':=λb u e=>by
 have hn:=x.fresh hp;by_cases hb:b=a
 ·subst hb;rw[upd_same] at e;cases e;exact new
 ·rw[upd_ne hb] at e;exact (x b u e).stay (λc v _ q=>k c v q) (λc q=>by rw[upd_ne (ne_of_none q hn)];exact q) λc xs q=>by rw[upd_ne (ne_of_none q hn)];exact q
end
def Rd (H:Hp) (a:Addr) (u:HO):Prop:=H a=some u\/∃o,H a=some (.frz o u)
theorem Rd.ok {P:Program} {w:World} {H:Hp} {h:Heap} {a:Addr} {u:HO} (r:Rd H a u) (x:HOk P w H h):ObjOk P w H h a u:=by
 rcases r with r|⟨o,r⟩
 ·exact x a u r
 ·obtain ⟨_,q⟩:=x a _ r;exact q
def Mut:Option HO->Prop
 |some (.lst _)=>True
 |some (.dK _)=>True
 |some (.dT _)=>True
 |some (.set _ _)=>True
 |some (.ins _ _ _)=>True
 |some (.ext _)=>True
 |_=>False
section
variable {P:Program} {w:World} {H:Hp} {h h':Heap} {x e:Addr} {o':HO}
theorem HOk.write (ok:HOk P w H h) (mu:Mut (H x)) (he:e=x\/H e=some (.own x)) (k:∀b u,b≠e->h.get? b=some u->h'.get? b=some u) (heo:∃u,h'.get? e=some u)
  (new:ObjOk P w (upd H x o') h' x o'):HOk P w (upd H x o') h':=λb u q=>by
 have nown:∀c y,H c=some (.own y)->c≠x:=λc y r z=>by subst z;rw[r] at mu;exact mu
 have ntup:∀c xs,H c=some (.tup xs)->c≠x:=λc xs r z=>by subst z;rw[r] at mu;exact mu
 by_cases hb:b=x
 ·subst hb;rw[upd_same] at q;cases q;exact new
 ·rw[upd_ne hb] at q;by_cases hbe:b=e
  ·have q':H b=some (.own x):=by
    rcases he with z|z
    ·exact absurd (hbe.trans z) hb
    ·rw[hbe];exact z
   rw[q] at q';cases q';obtain ⟨v,hv⟩:=heo;exact ⟨v,by rw[hbe];exact hv⟩
  ·refine (ok b u q).stay (λc v hc r=>k c v ?_ r) (λc r=>by rw[upd_ne (nown c b r)];exact r) λc xs r=>by rw[upd_ne (ntup c xs r)];exact r
   rcases hc with rfl|hc
   ·exact hbe
   ·rintro rfl;rcases he with z|z
    ·exact nown c b hc z
    ·rw[hc] at z;cases z;exact hb rfl
end
structure Un (fs ex:List Addr) (H H':Hp) (h h':Heap):Prop where
 keep:∀b o,h.get? b=some o->H b=none->b∉fs->b∉ex->h'.get? b=some o
 slot:∀b o,h.get? b=some o->H b=none->b∈fs->b∉ex->∃sl,h'.get? b=some {o with slots:=sl}
 free:∀b o,h.get? b=some o->H b=none->b∉ex->H' b=none
 there:∀b o,h.get? b=some o->b∉ex->∃o',h'.get? b=some o'
 tups:∀b xs,H b=some (.tup xs)->H' b=some (.tup xs)
 frzs:∀b o u,H b=some (.frz o u)->H' b=some (.frz o u)
 tbls:∀b ps,H b=some (.tbl ps)->∃more,H' b=some (.tbl (ps++more))
section
variable {fs fs' ex ex':List Addr} {H H1 H2:Hp} {h h1 h2 h':Heap} {a x e:Addr} {o:HO}
theorem Un.any (u:Un fs ex H H1 h h1) {b:Addr} {ob:Obj} (q:h.get? b=some ob) (n:H b=none) (hx:b∉ex):∃sl,h1.get? b=some {ob with slots:=sl}:=by
 by_cases hb:b∈fs
 ·exact u.slot b ob q n hb hx
 ·exact ⟨ob.slots,u.keep b ob q n hb hx⟩
theorem Un.kept (k:∀b u,h.get? b=some u->h'.get? b=some u):Un fs ex H H h h':=
 ⟨λb ob q _ _ _=>k b ob q,λb ob q _ _ _=>⟨ob.slots,k b ob q⟩,λ_ _ _ n _=>n,λb ob q _=>⟨ob,k b ob q⟩,λ_ _ q=>q,λ_ _ _ q=>q,λ_ ps q=>⟨#[],by rw[q];simp⟩⟩
theorem Un.refl:Un fs ex H H h h:=Un.kept λ_ _ q=>q
theorem Un.laid (k:∀b u,h.get? b=some u->h'.get? b=some u) (hp:h.objs.size<=a) (hn:H a=none):Un fs ex H (upd H a o) h h' where
 keep:=λb u q _ _ _=>k b u q
 slot:=λb u q _ _ _=>⟨u.slots,k b u q⟩
 free:=λb u q n _=>by rw[upd_ne (Nat.ne_of_lt (Nat.lt_of_lt_of_le (Heap.lt_size q) hp))];exact n
 there:=λb u q _=>⟨u,k b u q⟩
 tups:=λb xs q=>by rw[upd_ne (ne_of_none q hn)];exact q
 frzs:=λb u xs q=>by rw[upd_ne (ne_of_none q hn)];exact q
 tbls:=λb ps q=>⟨#[],by rw[upd_ne (ne_of_none q hn),q];simp⟩
theorem Un.write (mu:Mut (H x)) (he:e=x\/H e=some (.own x)) (k:∀b u,b≠e->h.get? b=some u->h'.get? b=some u) (heo:∃u,h'.get? e=some u):Un fs ex H (upd H x o) h h':=by
 have hx:∀b,H b=none->b≠x:=λb n z=>by subst z;rw[n] at mu;exact mu
 have hb:∀b,H b=none->b≠e:=λb n z=>by
  subst z;rcases he with r|r
  ·exact hx b n r
  ·rw[n] at r;cases r
 have hm:∀b u,H b=some u->¬Mut (some u)->b≠x:=λb u q nm z=>by subst z;rw[q] at mu;exact nm mu
 refine ⟨λb u q n _ _=>k b u (hb b n) q,λb u q n _ _=>⟨u.slots,k b u (hb b n) q⟩,λb u q n _=>by rw[upd_ne (hx b n)];exact n,λb u q _=>?_,
  λb xs q=>by rw[upd_ne (hm b _ q λz=>z)];exact q,λb u xs q=>by rw[upd_ne (hm b _ q λz=>z)];exact q,λb ps q=>⟨#[],by rw[upd_ne (hm b _ q λz=>z),q];simp⟩⟩
 by_cases hbe:b=e
 ·subst hbe;exact heo
 ·exact ⟨u,k b u hbe q⟩
end
def trk (h:Heap) (H:Hp):List Addr:=(List.range h.objs.size).filter λa=>(H a).isSome
def hidT (h:Heap) (H:Hp):Heap:=PySem.W.hideAll h (trk h H)
theorem hidT_size (h:Heap) (H:Hp):(hidT h H).objs.size=h.objs.size:=PySem.W.hideAll_size _ _
theorem hidT_get {h:Heap} {H:Hp} {b:Addr} {o:Obj} (e:h.get? b=some o) (n:H b=none):(hidT h H).get? b=some o:=
 PySem.W.hideAll_get _ e λhm=>by
  have q:(H b).isSome=true:=(List.mem_filter.mp hm).2;rw[n] at q;simp at q
theorem of_hidT {h:Heap} {H:Hp} {b:Addr} {o:Obj} (e:(hidT h H).get? b=some o):h.get? b=some o/\H b=none:=by
 have e':h.get? b=some o:=PySem.W.of_hideAll (trk h H) e;refine ⟨e',?_⟩;cases q:H b with
 |none=>rfl
 |some x=>
  have hm:b∈trk h H:=List.mem_filter.mpr ⟨List.mem_range.mpr (Heap.lt_size e'),by simp [q]⟩;have z:(hidT h H).get? b=none:=PySem.W.hideAll_none (trk h H) hm;rw[z] at e;cases e
structure Mod (K:Fg) (mg:Str->Option Value) (base:Heap):Prop where
 kin:K.In base
 glob:base.Ns mainGlobals mg
 blt:∃mb,base.Ns builtinsNs mb/\∀x:Str,x≠"__name__"->mb x=bootBuiltins x
 nolimit:base.NoLimit
structure Cx where
 prog:Program
 w:World
 K:Fg
 mg:Str->Option Value
 base:Heap
 A:Around
 N:List Str
 s₀:Shared
 H₀:Hp
 env:Env
 outer:List Env
 stack:List Env
 ex:List Addr
 fn:Str->Bool
 calm:Bool
 pn:List (Addr × Obj)
 xe:Value->Shared->Prop
def frs (l:List Env):List Addr:=l.filterMap (·.frame)
abbrev Cx.fs (X:Cx):List Addr:=frs X.outer
def Vis (sc:Scope) (x:Str):Prop:=sc.names.lookup x=some .local\/sc.names.lookup x=some .cell\/sc.names.lookup x=some .free
def Loc (sc:Scope) (x:Str):Prop:=sc.names.lookup x=some .local\/sc.names.lookup x=some .cell
def Look (env:Env) (h:Heap) (m:Str->Option Value) (x:Str) (u:Value):Prop:=
 (env.kindOf x=some .local/\m x=some u)\/((env.kindOf x=some .cell\/env.kindOf x=some .free)/\∃c,env.cells.lookup x=some c/\h.IsCell c (some u))
structure Cx.Ok (X:Cx):Prop where
 mod:Mod X.K X.mg X.base
 kind:X.env.scope.kind=.function
 glob:X.env.globals=mainGlobals
 blt:X.env.builtins=builtinsNs
 above:X.s₀.heap.objs.size<=X.env.locals
 inj:∀x y c,X.env.cells.lookup x=some c->X.env.cells.lookup y=some c->x=y
 has:∀x,(X.env.kindOf x=some .cell\/X.env.kindOf x=some .free)->∃c,X.env.cells.lookup x=some c
 cab:∀x c,X.fn x=true->X.env.cells.lookup x=some c->X.s₀.heap.objs.size<=c
 hd:X.calm=true->X.A.handled=none
 frames:X.A.frames=some X.stack
 stk:X.stack=X.outer\/(X.stack=X.env::X.outer/\X.env.frame=some X.env.locals)
 exf:∀b∈X.ex,b≠X.env.locals/\∀x c,X.env.cells.lookup x=some c->c≠b
 bs:∀b o,X.base.get? b=some o->X.s₀.heap.get? b=some o/\X.H₀ b=none
 bsz:X.base.objs.size<=X.s₀.heap.objs.size
 noex:∀b o,X.base.get? b=some o->b∉X.ex
 exfs:∀b∈X.ex,b∉X.fs
 funs:X.s₀.heap.FunFrames X.base X.outer
 frf:∀b∈X.fs,X.H₀ b=none
structure Inv (X:Cx) (pins:List (Addr × Obj)) (σ:List (Option V)) (H:Hp) (s:Shared):Prop where
 ok:X.Ok
 os:s.os=X.s₀.os
 bare:AllBare s.gens
 base:Un X.fs X.ex X.H₀ H X.s₀.heap s.heap
 loc:∃m,s.heap.Ns X.env.locals m/\∀(i:Nat) (x:Str) (v:V),X.N[i]?=some x->σ[i]?=some (some v)->Vis X.env.scope x->∃u,RelV v u/\Look X.env s.heap m x u
 cell:∀x c,X.env.cells.lookup x=some c->∃v,s.heap.IsCell c v
 free:H X.env.locals=none
 freeC:∀x c,X.env.cells.lookup x=some c->H c=none
 pin:∀p∈X.pn++pins,s.heap.get? p.1=some p.2/\H p.1=none/\p.1≠X.env.locals/\p.1∉X.fs/\∀v,p.2.data≠.cell v
 hok:HOk X.prog X.w H s.heap
 len:σ.length=X.N.length
section
variable {X:Cx} {pins:List (Addr × Obj)} {σ:List (Option V)} {H H':Hp} {s:Shared} {h':Heap}
theorem Cx.Ok.nofr (ok:X.Ok) {b:Addr} {o:Obj} (e:X.base.get? b=some o):b∉X.fs:=λhb=>by
 have:=(ok.funs.mem hb).1;rw[e] at this;cases this
theorem Inv.bs (I:Inv X pins σ H s):∀b o,X.base.get? b=some o->s.heap.get? b=some o/\H b=none:=λb o e=>
 ⟨I.base.keep b o (I.ok.bs b o e).1 (I.ok.bs b o e).2 (I.ok.nofr e) (I.ok.noex b o e),I.base.free b o (I.ok.bs b o e).1 (I.ok.bs b o e).2 (I.ok.noex b o e)⟩
theorem Inv.bk (I:Inv X pins σ H s):∀b o,X.base.get? b=some o->s.heap.get? b=some o:=λb o e=>(I.bs b o e).1
theorem Inv.mod (I:Inv X pins σ H s):Mod X.K X.mg X.base:=I.ok.mod
theorem Inv.kIn (I:Inv X pins σ H s):X.K.In s.heap:=I.ok.mod.kin.keeps I.bk
theorem Inv.nolimit (I:Inv X pins σ H s):s.heap.NoLimit:=I.ok.mod.nolimit.keeps I.bk
theorem Inv.lt (I:Inv X pins σ H s):X.env.locals<s.heap.objs.size:=let ⟨_,hn,_⟩:=I.loc;hn.lt
theorem Inv.sz (I:Inv X pins σ H s):X.s₀.heap.objs.size<=s.heap.objs.size:=Nat.le_trans I.ok.above (Nat.le_of_lt I.lt)
theorem Inv.nofs (I:Inv X pins σ H s) {a:Addr} (h:s.heap.objs.size<=a):a∉X.fs:=λhb=>by
 obtain ⟨_,o,ho,_⟩:=I.ok.funs.mem hb;exact absurd (Nat.lt_of_lt_of_le (Heap.lt_size ho) (Nat.le_trans I.sz h)) (Nat.lt_irrefl _)
theorem Inv.cne (I:Inv X pins σ H s):∀x c,X.env.cells.lookup x=some c->c≠X.env.locals:=λx c e z=>by
 obtain ⟨v,o,ho,hd⟩:=I.cell x c e;obtain ⟨m,⟨o',es,ep,ho',hd',_⟩,_⟩:=I.loc;rw[z,ho'] at ho;cases ho;rw[hd'] at hd;cases hd
theorem Inv.funs (I:Inv X pins σ H s):s.heap.FunFrames X.base X.outer:=by
 have all:∀(l:List Env),(∀b∈frs l,b∈X.fs)->X.s₀.heap.FunFrames X.base l->s.heap.FunFrames X.base l:=by
  intro l;induction l with
  |nil=>intro _ _;trivial
  |cons env r ih=>
   intro hs hl;obtain ⟨hk,⟨L,o,hf,hn,ho,hd⟩,hr⟩:=hl;have hL:L∈X.fs:=hs L (by unfold frs;rw[List.filterMap_cons,hf];exact List.mem_cons_self);obtain ⟨sl,e⟩:=I.base.slot L o ho (I.ok.frf L hL) hL λz=>I.ok.exfs L z hL;exact ⟨hk,⟨L,_,hf,hn,e,hd⟩,ih (λb hb=>hs b (by unfold frs;rw[List.filterMap_cons,hf];exact List.mem_cons_of_mem _ hb)) hr⟩
 exact all X.outer (λ_ hb=>hb) I.ok.funs
theorem Inv.stack (I:Inv X pins σ H s):s.heap.FunFrames X.base X.stack:=by
 rcases I.ok.stk with e|⟨e,hf⟩
 ·rw[e];exact I.funs
 ·rw[e];obtain ⟨m,hn,_⟩:=I.loc;refine .cons (by rw[I.ok.kind];decide) hf hn ?_ I.funs;exact Heap.get?_none_of_le (Nat.le_trans I.ok.bsz I.ok.above)
theorem Inv.stkSub (I:Inv X pins σ H s):∀b∈frs X.stack,b∈X.env.locals::X.fs:=λb hb=>by
 rcases I.ok.stk with e|⟨e,hf⟩
 ·rw[e] at hb;exact List.mem_cons_of_mem _ hb
 ·rw[e] at hb;unfold frs at hb;rw[List.filterMap_cons,hf] at hb;exact hb
theorem Inv.stkFree (I:Inv X pins σ H s):∀b∈frs X.stack,H b=none:=λb hb=>by
 rcases List.mem_cons.mp (I.stkSub b hb) with e|hb
 ·rw[e];exact I.free
 ·obtain ⟨_,o,ho,_⟩:=I.ok.funs.mem hb;exact I.base.free b o ho (I.ok.frf b hb) λz=>I.ok.exfs b z hb
theorem Inv.step {g':Array GenState} {t':Nat} {d':Drawn} {ch:List Addr} (I:Inv X pins σ H s)
  (hch:∀b∈ch,(b∈X.ex\/X.s₀.heap.objs.size<=b)/\b≠X.env.locals/\(∀x c,X.env.cells.lookup x=some c->c≠b)/\∀p∈X.pn++pins,p.1≠b)
  (keep:∀b o,b≠X.env.locals->b∉X.fs->b∉ch->s.heap.get? b=some o->H b=none->h'.get? b=some o)
  (slot:∀b o,b≠X.env.locals->b∈X.fs->b∉ch->s.heap.get? b=some o->H b=none->∃sl,h'.get? b=some {o with slots:=sl}) (free:∀b o,b∉ch->s.heap.get? b=some o->H b=none->H' b=none)
  (there:∀b o,b∉ch->s.heap.get? b=some o->∃o',h'.get? b=some o')
  (tups:∀b xs,H b=some (.tup xs)->H' b=some (.tup xs)) (frzs:∀b o u,H b=some (.frz o u)->H' b=some (.frz o u)) (tbls:∀b ps,H b=some (.tbl ps)->∃more,H' b=some (.tbl (ps++more)))
  (ns:∀m,s.heap.Ns X.env.locals m->h'.Ns X.env.locals m) (hok:HOk X.prog X.w H' h') (hg:AllBare g'):
  Inv X pins σ H' {s with heap:=h',gens:=g',drawn:=d',toks:=t'}:=by
 have neL:∀b o,X.s₀.heap.get? b=some o->b≠X.env.locals:=λb o e=>Nat.ne_of_lt (Nat.lt_of_lt_of_le (Heap.lt_size e) I.ok.above);have neC:∀b o,X.s₀.heap.get? b=some o->b∉X.ex->b∉ch:=λb o e hx hb=>by
  rcases (hch b hb).1 with z|z
  ·exact hx z
  ·exact absurd (Nat.lt_of_lt_of_le (Heap.lt_size e) z) (Nat.lt_irrefl _)
 have cellK:∀x c,X.env.cells.lookup x=some c->∀v,s.heap.IsCell c v->h'.IsCell c v:=λx c e v ⟨o,ho,hd⟩=>by
  have nch:c∉ch:=λz=>(hch c z).2.2.1 x c e rfl;by_cases hc:c∈X.fs
  ·obtain ⟨sl,q⟩:=slot c o (I.cne x c e) hc nch ho (I.freeC x c e);exact ⟨_,q,hd⟩
  ·exact ⟨o,keep c o (I.cne x c e) hc nch ho (I.freeC x c e),hd⟩
 refine ⟨I.ok,I.os,hg,⟨λb o e n hb hx=>?_,λb o e n hb hx=>?_,λb o e n hx=>?_,λb o e hx=>?_,λb xs e=>tups b xs (I.base.tups b xs e),λb o xs e=>frzs b o xs (I.base.frzs b o xs e),λb ps e=>?_⟩,?_,λx c e=>?_,?_,λx c e=>?_,λp hp=>?_,hok,I.len⟩
 ·exact keep b o (neL b o e) hb (neC b o e hx) (I.base.keep b o e n hb hx) (I.base.free b o e n hx)
 ·obtain ⟨sl,e1⟩:=I.base.slot b o e n hb hx;obtain ⟨sl',e2⟩:=slot b _ (neL b o e) hb (neC b o e hx) e1 (I.base.free b o e n hx);exact ⟨sl',e2⟩
 ·obtain ⟨o',e1⟩:=I.base.there b o e hx;exact free b o' (neC b o e hx) e1 (I.base.free b o e n hx)
 ·obtain ⟨o',e1⟩:=I.base.there b o e hx;exact there b o' (neC b o e hx) e1
 ·obtain ⟨m1,e1⟩:=I.base.tbls b ps e;obtain ⟨m2,e2⟩:=tbls b _ e1;exact ⟨m1++m2,by rw[e2,Array.append_assoc]⟩
 ·obtain ⟨m,hn,hl⟩:=I.loc;refine ⟨m,ns m hn,λi x v e1 e2 e3=>?_⟩;obtain ⟨u,r,l⟩:=hl i x v e1 e2 e3;refine ⟨u,r,?_⟩;rcases l with l|⟨k,c,e,z⟩
  ·exact .inl l
  ·exact .inr ⟨k,c,e,cellK x c e _ z⟩
 ·obtain ⟨v,z⟩:=I.cell x c e;exact ⟨v,cellK x c e v z⟩
 ·obtain ⟨m,⟨o,_,_,ho,_⟩,_⟩:=I.loc;exact free _ o (λz=>(hch _ z).2.1 rfl) ho I.free
 ·obtain ⟨v,o,ho,hd⟩:=I.cell x c e;exact free c o (λz=>(hch c z).2.2.1 x c e rfl) ho (I.freeC x c e)
 ·obtain ⟨e,n,ne,nf,d⟩:=I.pin p hp;have nch:p.1∉ch:=λz=>(hch p.1 z).2.2.2 p hp rfl;exact ⟨keep p.1 p.2 ne nf nch e n,free p.1 p.2 nch e n,ne,nf,d⟩
theorem Inv.un {t':Nat} (I:Inv X pins σ H s) (u:Un X.fs [] H H' s.heap h') (hok:HOk X.prog X.w H' h'):Inv X pins σ H' {s with heap:=h',toks:=t'}:=by
 obtain ⟨m,⟨o,es,ep,ho,r⟩,_⟩:=id I.loc;obtain ⟨sl,hL⟩:=u.any ho I.free (by simp);exact I.step (g':=s.gens) (d':=s.drawn) (ch:=[]) (λ_ z=>nomatch z) (λb o _ hb _ e n=>u.keep b o e n hb (by simp)) (λb o _ hb _ e n=>u.slot b o e n hb (by simp)) (λb o _ e n=>u.free b o e n (by simp)) (λb o _ e=>u.there b o e (by simp)) u.tups u.frzs u.tbls (λm' hm=>by
  obtain ⟨o',es',ep',ho',r'⟩:=hm
  rw[ho] at ho';cases ho'
  exact ⟨_,es',ep',hL,r'⟩) hok I.bare
theorem Inv.call {g':Array GenState} {t':Nat} {d':Drawn} {ch:List Addr} (I:Inv X pins σ H s) (u:Un (frs X.stack) ch H H' s.heap h') (hok:HOk X.prog X.w H' h') (hg:AllBare g')
  (hch:∀b∈ch,(b∈X.ex\/X.s₀.heap.objs.size<=b)/\b≠X.env.locals/\(∀x c,X.env.cells.lookup x=some c->c≠b)/\∀p∈X.pn++pins,p.1≠b):
  Inv X pins σ H' {s with heap:=h',gens:=g',drawn:=d',toks:=t'}:=by
 obtain ⟨m,⟨o,es,ep,ho,r⟩,_⟩:=id I.loc;obtain ⟨sl,hL⟩:=u.any ho I.free λz=>(hch _ z).2.1 rfl;exact I.step (ch:=ch) hch (λb o hL hb hc e n=>u.keep b o e n (λz=>(List.mem_cons.mp (I.stkSub b z)).elim hL hb) hc) (λb o _ _ hc e n=>u.any e n hc) (λb o hc e n=>u.free b o e n hc) (λb o hc e=>u.there b o e hc) u.tups u.frzs u.tbls (λm' hm=>by
  obtain ⟨o',es',ep',ho',r'⟩:=hm
  rw[ho] at ho';cases ho'
  exact ⟨_,es',ep',hL,r'⟩) hok hg
theorem Inv.turned {t':Nat} {it:Addr} (I:Inv X pins σ H s) (k:∀b o,b≠it->s.heap.get? b=some o->h'.get? b=some o) (hn:H it=none) (hL:it≠X.env.locals)
  (h1:it∈X.ex\/X.s₀.heap.objs.size<=it) (h2:∀x c,X.env.cells.lookup x=some c->c≠it) (h3:∀p∈X.pn++pins,p.1≠it):Inv X pins σ H {s with heap:=h',toks:=t'}:=by
 have nit:∀b u,H b=some u->b≠it:=λb u e z=>by rw[z,hn] at e;cases e
 refine I.step (g':=s.gens) (d':=s.drawn) (ch:=[it]) (λb hb=>?_) (λb o _ _ hc e _=>k b o (λz=>hc (by simp [z])) e) (λb o _ _ hc e _=>⟨o.slots,k b o (λz=>hc (by simp [z])) e⟩) (λ_ _ _ _ n=>n)
  (λb o hc e=>⟨o,k b o (λz=>hc (by simp [z])) e⟩) (λ_ _ e=>e) (λ_ _ _ e=>e) (λb ps e=>⟨#[],by rw[e];simp⟩) (λm hm=>?_) (λb u e=>?_) I.bare
 ·have e:b=it:=by simpa using hb
  subst e;exact ⟨h1,hL,h2,h3⟩
 ·obtain ⟨o,es,ep,ho,r⟩:=hm;exact ⟨o,es,ep,k _ o (Ne.symm hL) ho,r⟩
 ·refine (I.hok b u e).stay (λc v hc q=>k c v ?_ q) (λ_ q=>q) λ_ _ q=>q;rcases hc with z|z
  ·rw[z];exact nit b u e
  ·exact nit c _ z
theorem Inv.tok (I:Inv X pins σ H s) (t:Nat):Inv X pins σ H {s with toks:=t}:=I.un (h':=s.heap) (t':=t) Un.refl I.hok
theorem Inv.kept {t':Nat} (I:Inv X pins σ H s) (k:∀b u,s.heap.get? b=some u->h'.get? b=some u):Inv X pins σ H {s with heap:=h',toks:=t'}:=I.un (Un.kept k) (I.hok.kept k)
theorem Inv.laid {a:Addr} {o:HO} {t':Nat} (I:Inv X pins σ H s) (k:∀b u,s.heap.get? b=some u->h'.get? b=some u) (hp:s.heap.objs.size<=a) (new:ObjOk X.prog X.w (upd H a o) h' a o):
  Inv X pins σ (upd H a o) {s with heap:=h',toks:=t'}:=I.un (Un.laid k hp (I.hok.fresh hp)) (I.hok.laid k hp new)
theorem Inv.write {x e:Addr} {o:HO} {t':Nat} (I:Inv X pins σ H s) (mu:Mut (H x)) (he:e=x\/H e=some (.own x)) (k:∀b u,b≠e->s.heap.get? b=some u->h'.get? b=some u) (heo:∃u,h'.get? e=some u)
  (new:ObjOk X.prog X.w (upd H x o) h' x o):Inv X pins σ (upd H x o) {s with heap:=h',toks:=t'}:=I.un (Un.write mu he k heo) (I.hok.write mu he k heo new)
theorem Inv.pins_of {pins':List (Addr × Obj)} (I:Inv X pins σ H s) (h:∀p∈pins',s.heap.get? p.1=some p.2/\H p.1=none/\p.1≠X.env.locals/\p.1∉X.fs/\∀v,p.2.data≠.cell v):Inv X pins' σ H s:=
 ⟨I.ok,I.os,I.bare,I.base,I.loc,I.cell,I.free,I.freeC,λp hp=>(List.mem_append.mp hp).elim (λz=>I.pin p (List.mem_append_left _ z)) (h p),I.hok,I.len⟩
theorem nodup_ix {N:List Str} (hN:N.Nodup) {i j:Nat} {x:Str} (a:N[i]?=some x) (b:N[j]?=some x):i=j:=by
 obtain ⟨h1,e1⟩:=List.getElem?_eq_some_iff.mp a;obtain ⟨h2,e2⟩:=List.getElem?_eq_some_iff.mp b;exact (List.getElem_inj hN).mp (e1.trans e2.symm)
theorem store_ok2 {M:Model} {A:Around} {E:Value->Shared->Prop} {i:Nat} {x:Str} {v:V} {u:Value} {Q:Unit->Shared->Prop} (I:Inv X pins σ H s) (hN:X.N.Nodup) (hi:X.N[i]?=some x) (hx:Loc X.env.scope x) (r:RelV v u)
  (h:∀s',Inv X pins (σ.set i (some v)) H s'->(∃a,Heap.SameBut a s.heap s'.heap/\(a=X.env.locals\/X.env.cells.lookup x=some a))->Q () s') (hf:X.fn x=true\/X.env.scope.names.lookup x=some .local:=by first|exact .inl rfl|exact .inr rfl|assumption):wpAny M A (storeName X.env x u) Q E s:=by
 obtain ⟨m,hn,hl⟩:=id I.loc;have hcls:(X.env.scope.kind==.class || (X.env.scope.kind==.module&&X.env.locals != X.env.globals))=false:=by rw[I.ok.kind];rfl
 have hiσ:i<σ.length:=by rw[I.len];exact (List.getElem?_eq_some_iff.mp hi).1
 have cne:=I.cne;have tracked:∀{a:Addr} {h':Heap},(∃o,s.heap.get? a=some o/\H a=none)->Heap.SameBut a s.heap h'->HOk X.prog X.w H h':=λ{a h'} ha hs b ob e=>by
  obtain ⟨_,_,hfree⟩:=ha;refine (I.hok b ob e).stay (λc w' hc q=>(hs.2 c ?_).trans q) (λ_ q=>q) λ_ _ q=>q;rintro rfl;rcases hc with rfl|hc
  ·rw[hfree] at e;cases e
  ·rw[hfree] at hc;cases hc
 rcases hx with hk|hk
 ·refine wpAny_storeName_local hk hn (λh' hn' hs=>?_) hcls;obtain ⟨oL,_,_,hoL,_⟩:=id hn;refine h _ ⟨I.ok,I.os,I.bare,⟨λb o e n hb hx=>?_,λb o e n hb hx=>?_,I.base.free,λb o e hx=>?_,I.base.tups,I.base.frzs,I.base.tbls⟩,⟨_,hn',λj y v' e1 e2 e3=>?_⟩,λy c e=>?_,I.free,I.freeC,λp hp=>?_,tracked ⟨oL,hoL,I.free⟩ hs,by simpa using I.len⟩ ⟨_,hs,.inl rfl⟩
  ·exact (hs.2 b (Nat.ne_of_lt (Nat.lt_of_lt_of_le (Heap.lt_size e) I.ok.above))).trans (I.base.keep b o e n hb hx)
  ·obtain ⟨sl,e1⟩:=I.base.slot b o e n hb hx;exact ⟨sl,(hs.2 b (Nat.ne_of_lt (Nat.lt_of_lt_of_le (Heap.lt_size e) I.ok.above))).trans e1⟩
  ·obtain ⟨o',e1⟩:=I.base.there b o e hx;exact ⟨o',(hs.2 b (Nat.ne_of_lt (Nat.lt_of_lt_of_le (Heap.lt_size e) I.ok.above))).trans e1⟩
  ·by_cases hj:j=i
   ·subst hj;rw[hi] at e1;cases e1;rw[List.getElem?_set_self hiσ] at e2;cases e2;exact ⟨u,r,.inl ⟨hk,by simp⟩⟩
   ·rw[List.getElem?_set_ne (Ne.symm hj)] at e2;obtain ⟨u',r',q⟩:=hl j y v' e1 e2 e3;refine ⟨u',r',?_⟩;rcases q with ⟨k,e⟩|⟨k,c,e,z⟩
    ·refine .inl ⟨k,?_⟩;have:y≠x:=λe=>hj (nodup_ix hN e1 (e▸hi));simp [this,e]
    ·exact .inr ⟨k,c,e,z.sameBut hs (cne y c e)⟩
  ·obtain ⟨w',z⟩:=I.cell y c e;exact ⟨w',z.sameBut hs (cne y c e)⟩
  ·obtain ⟨e,n,ne,nf,d⟩:=I.pin p hp;exact ⟨(hs.2 p.1 ne).trans e,n,ne,nf,d⟩
 ·have hfn:X.fn x=true:=by
   rcases hf with z|z
   ·exact z
   ·rw[z] at hk;cases hk
  obtain ⟨c,hc⟩:=I.ok.has x (.inl hk);obtain ⟨w',z⟩:=I.cell x c hc;refine wpAny_storeName_cell I.ok.kind hk hc z (λh' hc' hs=>?_);obtain ⟨oc,hoc,hocd⟩:=id z;refine h {s with heap:=h'} ⟨I.ok,I.os,I.bare,⟨λb o e n hb hx=>?_,λb o e n hb hx=>?_,I.base.free,λb o e hx=>?_,I.base.tups,I.base.frzs,I.base.tbls⟩,⟨m,hn.sameBut hs (Ne.symm (cne x c hc)),λj y v' e1 e2 e3=>?_⟩,λy c' e=>?_,I.free,I.freeC,λp hp=>?_,tracked ⟨oc,hoc,I.freeC x c hc⟩ hs,by simpa using I.len⟩ ⟨c,hs,.inr hc⟩
  ·exact (hs.2 b (Nat.ne_of_lt (Nat.lt_of_lt_of_le (Heap.lt_size e) (I.ok.cab x c hfn hc)))).trans (I.base.keep b o e n hb hx)
  ·obtain ⟨sl,e1⟩:=I.base.slot b o e n hb hx;exact ⟨sl,(hs.2 b (Nat.ne_of_lt (Nat.lt_of_lt_of_le (Heap.lt_size e) (I.ok.cab x c hfn hc)))).trans e1⟩
  ·obtain ⟨o',e1⟩:=I.base.there b o e hx;exact ⟨o',(hs.2 b (Nat.ne_of_lt (Nat.lt_of_lt_of_le (Heap.lt_size e) (I.ok.cab x c hfn hc)))).trans e1⟩
  ·by_cases hj:j=i
   ·subst hj;rw[hi] at e1;cases e1;rw[List.getElem?_set_self hiσ] at e2;cases e2;exact ⟨u,r,.inr ⟨.inl hk,c,hc,hc'⟩⟩
   ·rw[List.getElem?_set_ne (Ne.symm hj)] at e2;obtain ⟨u',r',q⟩:=hl j y v' e1 e2 e3;refine ⟨u',r',?_⟩;rcases q with q|⟨k,c',e,z'⟩
    ·exact .inl q
    ·refine .inr ⟨k,c',e,z'.sameBut hs ?_⟩;rintro rfl;exact hj (nodup_ix hN e1 (I.ok.inj _ _ _ e hc▸hi))
  ·by_cases hcc:c'=c
   ·subst hcc;exact ⟨_,hc'⟩
   ·obtain ⟨w2,z2⟩:=I.cell y c' e;exact ⟨w2,z2.sameBut hs hcc⟩
  ·obtain ⟨e,n,ne,nf,d⟩:=I.pin p hp;refine ⟨(hs.2 p.1 ?_).trans e,n,ne,nf,d⟩;intro q;rw[q,hoc] at e;have q':oc=p.2:=Option.some.inj e;exact d w' (by rw[<-q'];exact hocd)
theorem store_ok {M:Model} {A:Around} {E:Value->Shared->Prop} {i:Nat} {x:Str} {v:V} {u:Value} {Q:Unit->Shared->Prop} (I:Inv X pins σ H s) (hN:X.N.Nodup) (hi:X.N[i]?=some x) (hx:Loc X.env.scope x) (r:RelV v u)
  (h:∀s',Inv X pins (σ.set i (some v)) H s'->Q () s') (hf:X.fn x=true\/X.env.scope.names.lookup x=some .local:=by first|exact .inl rfl|exact .inr rfl|assumption):wpAny M A (storeName X.env x u) Q E s:=
 store_ok2 I hN hi hx r (λs' I' _=>h s' I') hf
theorem Inv.call' {s':Shared} {ch:List Addr} (I:Inv X pins σ H s) (ho:s'.os=s.os) (u:Un (frs X.stack) ch H H' s.heap s'.heap) (hok:HOk X.prog X.w H' s'.heap) (hg:AllBare s'.gens)
  (hch:∀b∈ch,(b∈X.ex\/X.s₀.heap.objs.size<=b)/\b≠X.env.locals/\(∀x c,X.env.cells.lookup x=some c->c≠b)/\∀p∈X.pn++pins,p.1≠b):Inv X pins σ H' s':=by
 obtain ⟨h',g',d',t',o'⟩:=s';have e:o'=s.os:=ho;subst e;exact I.call (g':=g') (t':=t') (d':=d') u hok hg hch
end
abbrev XK:=Value->Option Addr->Hp->Prop
abbrev St:=List (Option V)
abbrev VK:=V->Hp->Prop
abbrev TE:=St->Hp->VK->Prop
abbrev TT:=St->Hp->(Bool->Hp->Prop)->Prop
abbrev TA:=St->Hp->(List V->Hp->Prop)->Prop
structure Ends where
 nx:St->Hp->Prop
 rt:VK
 bk:St->Hp->Prop:=λ_ _=>False
 ct:St->Hp->Prop:=λ_ _=>False
abbrev TS:=Ends->St->Hp->Prop
def EP (X:Cx) (pins:List (Addr × Obj)) (σ:St) (Q:VK) (u:Value) (s':Shared):Prop:=∃v H',Inv X pins σ H' s'/\RelV v u/\Q v H'
def TP (X:Cx) (pins:List (Addr × Obj)) (σ:St) (Q:Bool->Hp->Prop) (b:Bool) (s':Shared):Prop:=∃H',Inv X pins σ H' s'/\Q b H'
def AP (X:Cx) (pins:List (Addr × Obj)) (σ:St) (Q:List V->Hp->Prop) (us:List Value) (s':Shared):Prop:=∃vs H',Inv X pins σ H' s'/\Vals vs us/\Q vs H'
def SP (X:Cx) (pins:List (Addr × Obj)) (D:Ends) (f:Flow) (s':Shared):Prop:=
 match f with
 | .next=>∃σ' H',Inv X pins σ' H' s'/\D.nx σ' H'
 | .brk=>∃σ' H',Inv X pins σ' H' s'/\D.bk σ' H'
 | .cont=>∃σ' H',Inv X pins σ' H' s'/\D.ct σ' H'
 | .ret u=>∃v σ' H',Inv X pins σ' H' s'/\RelV v u/\D.rt v H'
def PE (X:Cx) (e:Expr) (t:TE):Prop:=
 ∀(pins:List (Addr × Obj)) (s:Shared) (σ:St) (H:Hp) (Q:VK),Inv X pins σ H s->t σ H Q->wpAny (model X.prog X.w) X.A (eval e X.env) (EP X pins σ Q) X.xe s
def PT (X:Cx) (e:Expr) (t:TT):Prop:=
 ∀(pins:List (Addr × Obj)) (s:Shared) (σ:St) (H:Hp) (Q:Bool->Hp->Prop),Inv X pins σ H s->t σ H Q->wpAny (model X.prog X.w) X.A (isTrue e X.env (eval e X.env)) (TP X pins σ Q) X.xe s
def PW (X:Cx) (e:Expr) (t:TT):Prop:=
 ∀(whole:Sem Value) (pins:List (Addr × Obj)) (s:Shared) (σ:St) (H:Hp) (Q:Bool->Hp->Prop),Inv X pins σ H s->t σ H Q->wpAny (model X.prog X.w) X.A (isTrue e X.env whole) (TP X pins σ Q) X.xe s
theorem PW.pt {X:Cx} {e:Expr} {t:TT} (h:PW X e t):PT X e t:=h _
def PA (X:Cx) (es:List Expr) (t:TA):Prop:=
 ∀(pos:Pos) (pins:List (Addr × Obj)) (s:Shared) (σ:St) (H:Hp) (Q:List V->Hp->Prop),Inv X pins σ H s->t σ H Q->wpAny (model X.prog X.w) X.A (spliced (backTo pos (starEach es X.env))) (AP X pins σ Q) X.xe s
def PS (X:Cx) (st:Stmt) (t:TS):Prop:=
 ∀(pins:List (Addr × Obj)) (s:Shared) (σ:St) (H:Hp) (D:Ends),Inv X pins σ H s->t D σ H->wpAny (model X.prog X.w) X.A (exec st X.env) (SP X pins D) X.xe s
def PSs (X:Cx) (st:List Stmt) (t:TS):Prop:=
 ∀(pins:List (Addr × Obj)) (s:Shared) (σ:St) (H:Hp) (D:Ends),Inv X pins σ H s->t D σ H->wpAny (model X.prog X.w) X.A (execs st X.env) (SP X pins D) X.xe s
theorem thn {α:Type} {t:Sem α} {Q Q':α->Shared->Prop} {M:Model} {A:Around} {E:Value->Shared->Prop} {s:Shared} (h:wpAny M A t Q E s) (hQ:∀a s,Q a s->Q' a s):wpAny M A t Q' E s:=wpAny_mono h hQ λ_ _ x=>x
section
variable {X:Cx}
def tVar (i:Nat):TE:=λσ H Q=>∃v,σ[i]?=some (some v)/\Q v H
def tC (v:V):TE:=λ_ H Q=>Q v H
theorem pe_var {i:Nat} {x:Str} {pos:Pos} (hN:X.N[i]?=some x) (hv:Vis X.env.scope x) (hd:(x==("__debug__":Str))=false:=by decide) (hcd:(x==("__classdict__":Str))=false:=by decide):PE X (.Name x pos) (tVar i):=by
 intro pins s σ H Q I h;obtain ⟨v,e,h⟩:=h;obtain ⟨m,hn,hl⟩:=I.loc;obtain ⟨u,r,l⟩:=hl i x v hN e hv;have fin:EP X pins σ Q u s:=⟨v,H,I,r,h⟩;rcases l with ⟨hk,hm⟩|⟨hk,c,hc,hcell⟩
 ·exact wpAny_Name (wpAny_loadName_local I.ok.kind hk hn hm fin) hd
 ·rcases hk with hk|hk
  ·exact wpAny_Name (wpAny_loadName_cell I.ok.kind hk hc hcell fin) hd
  ·exact wpAny_Name (wpAny_loadName_free I.ok.kind hk hc hcell fin hcd) hd
theorem pe_int {i j pos}:PE X (.Constant (.int i) j pos) (tC (.int i)):=λ_ _ _ H _ I h=>wpAny_Constant_int ⟨.int i,H,I.tok _,⟨_,rfl⟩,h⟩
theorem pe_bl {b j pos}:PE X (.Constant (.bool b) j pos) (tC (.bl b)):=λ_ _ _ H _ I h=>Constant_bool ⟨.bl b,H,I,rfl,h⟩
theorem pe_non {j pos}:PE X (.Constant .none j pos) (tC .non):=λ_ _ _ H _ I h=>Constant_none ⟨.non,H,I,rfl,h⟩
theorem pe_str {x j pos}:PE X (.Constant (.str x) j pos) (tC (.str x)):=λ_ _ _ H _ I h=>Calls.Constant_str ⟨.str x,H,I.tok _,⟨_,rfl⟩,h⟩
def Gl (X:Cx) (x:Str):Prop:=X.env.kindOf x=some .globalImplicit
theorem ld_glob {E:Value->Shared->Prop} {pins:List (Addr × Obj)} {s:Shared} {σ:St} {H:Hp} {x:Str} {u:Value} {pos:Pos} {Q:Value->Shared->Prop} (I:Inv X pins σ H s) (hg:Gl X x) (hm:X.mg x=some u) (h:Q u s)
  (hd:(x==("__debug__":Str))=false:=by decide):wpAny (model X.prog X.w) X.A (eval (.Name x pos) X.env) Q E s:=
 Calls.Name_function_global I.ok.kind hg (Calls.loadGlobal_global (by rw[I.ok.glob];exact I.mod.glob.keeps I.bk) hm h) hd
theorem ld_blt {E:Value->Shared->Prop} {pins:List (Addr × Obj)} {s:Shared} {σ:St} {H:Hp} {x:Str} {u:Value} {pos:Pos} {Q:Value->Shared->Prop} (I:Inv X pins σ H s) (hg:Gl X x) (hm:X.mg x=none) (hv:bootBuiltins x=some u) (h:Q u s)
  (hn:x≠"__name__":=by decide) (hd:(x==("__debug__":Str))=false:=by decide):wpAny (model X.prog X.w) X.A (eval (.Name x pos) X.env) Q E s:=by
 obtain ⟨mb,h1,h2⟩:=I.mod.blt;exact Calls.Name_function_global I.ok.kind hg (Calls.loadGlobal_builtin (by rw[I.ok.glob];exact I.mod.glob.keeps I.bk) hm (by rw[I.ok.blt];exact h1.keeps I.bk) ((h2 x hn).trans hv) h) hd
theorem pe_glob {x:Str} {v:V} {u:Value} {pos:Pos} (hg:Gl X x) (hm:X.mg x=some u) (r:RelV v u) (hd:(x==("__debug__":Str))=false:=by decide):PE X (.Name x pos) (tC v):=
 λ_ _ _ H _ I h=>ld_glob I hg hm ⟨v,H,I,r,h⟩ hd
theorem pe_bltn {x:Str} {v:V} {u:Value} {pos:Pos} (hg:Gl X x) (hm:X.mg x=none) (hv:bootBuiltins x=some u) (r:RelV v u) (hn:x≠"__name__":=by decide) (hd:(x==("__debug__":Str))=false:=by decide):PE X (.Name x pos) (tC v):=
 λ_ _ _ H _ I h=>ld_blt I hg hm hv ⟨v,H,I,r,h⟩ hn hd
variable {a b:Expr} {ta tb:TE} {pos:Pos}
variable {tA tB':TT} {rest:List Expr}
def tNot (t:TT):TT:=λσ H Q=>t σ H λc H1=>Q (!c) H1
theorem pw_and1 (ha:PT X a tA):PW X (.BoolOp .And [a] pos) tA:=by
 intro wh pins s σ H Q I h;refine isTrue_and (thn (ha pins s σ H Q I h) λc s1 e=>?_);cases c with
 |true=>exact isTrue_and_nil e
 |false=>exact e
theorem pw_or1 (ha:PT X a tA):PW X (.BoolOp .Or [a] pos) tA:=by
 intro wh pins s σ H Q I h;refine isTrue_or (thn (ha pins s σ H Q I h) λc s1 e=>?_);cases c with
 |false=>exact isTrue_or_nil e
 |true=>exact e
theorem pt_not (ha:PT X a tA):PT X (.UnaryOp .Not a pos) (tNot tA):=by
 intro pins s σ H Q I h;exact isTrue_not (ha pins s σ H (λc H1=>Q (!c) H1) I h)
theorem pe_one {op} {t:TE} (h:PE X a t):PE X (.BoolOp op [a] pos) t:=λpins s σ H Q I hw=>BoolOp_one (h pins s σ H Q I hw)
end
def SqL (K:Fg) (H:Hp) (a:Addr) (xs:List V):Prop:=
 Rd H a (.lst xs)\/
  ∃(o:Obj) (its:Array Value) (n:Nat),K.lookup a=some o/\o.cls=.type "list"/\o.dict=none/\o.data=.seq its n/\its.size<=sizeLine/\Vals xs its.toList
def SqT (K:Fg) (H:Hp) (a:Addr) (xs:List V):Prop:=
 Rd H a (.tup xs)\/
  ∃(o:Obj) (its:Array Value) (n:Nat),K.lookup a=some o/\o.cls=.type "tuple"/\o.data=.seq its n/\its.size<=sizeLine/\Vals xs its.toList
def absV:Value->Option V
 | .none=>some .non
 | .bool b=>some (.bl b)
 | .int i _=>some (.int i)
 | .str x _=>some (.str x)
 | .bytes b _=>some (.byt b)
 | .float b _=>some (.flt b)
 | .ref a=>some (.ref a)
 | .type n=>some (.ty n)
 |_=>none
theorem RelV.abs {x:V} {u:Value} (r:RelV x u):absV u=some x:=by
 cases x with
 |non=>cases r;rfl
 |bl _=>cases r;rfl
 |int _=>obtain ⟨t,rfl⟩:=r;rfl
 |str _=>obtain ⟨t,rfl⟩:=r;rfl
 |byt _=>obtain ⟨t,rfl⟩:=r;rfl
 |flt _=>obtain ⟨t,rfl⟩:=r;rfl
 |ref _=>cases r;rfl
 |ty _=>cases r;rfl
theorem RelV.inj {x y:V} {u:Value} (r:RelV x u) (q:RelV y u):x=y:=Option.some.inj (r.abs.symm.trans q.abs)
theorem Vals.inj:∀{xs ys:List V} {us:List Value},Vals xs us->Vals ys us->xs=ys
 |_,_,_,.nil,.nil=>rfl
 |_,_,_,.cons r t,.cons r' t'=>by rw[r.inj r',Vals.inj t t']
section
variable {X:Cx} {pins:List (Addr × Obj)} {σ:St} {H:Hp} {s:Shared} {a:Addr} {xs ys:List V}
theorem SqL.of {K:Fg} (h:H a=some (.lst xs)):SqL K H a xs:=.inl (.inl h)
theorem SqT.of {K:Fg} (h:H a=some (.tup xs)):SqT K H a xs:=.inl (.inl h)
theorem Inv.list (I:Inv X pins σ H s) (h:SqL X.K H a xs):∃its:List Value,Vals xs its/\PlainL s.heap a its.toArray/\xs.length<=sizeLine:=by
 rcases h with h|⟨o,its,n,hk,hc,hd,hs,hz,r⟩
 ·obtain ⟨z,its,n,r,e⟩:=h.ok I.hok;exact ⟨its,r,⟨_,n,e,rfl,rfl,rfl⟩,z⟩
 ·refine ⟨its.toList,r,⟨o,n,I.kIn a o hk,hc,hd,by simpa using hs⟩,?_⟩;have e:=r.length;simp only [Array.length_toList] at e;lia
theorem Inv.tuple (I:Inv X pins σ H s) (h:SqT X.K H a xs):∃its:List Value,Vals xs its/\IsTup s.heap a its.toArray/\xs.length<=sizeLine:=by
 rcases h with h|⟨o,its,n,hk,hc,hs,hz,r⟩
 ·obtain ⟨z,its,r,p⟩:=h.ok I.hok;exact ⟨its,r,p,z⟩
 ·refine ⟨its.toList,r,⟨o,I.kIn a o hk,hc,n,by simpa using hs⟩,?_⟩;have e:=r.length;simp only [Array.length_toList] at e;lia
theorem Inv.list_inj (I:Inv X pins σ H s) (h:SqL X.K H a xs) (h':SqL X.K H a ys):xs=ys:=by
 obtain ⟨its,r,⟨o,n,e,_,_,d⟩,_⟩:=I.list h;obtain ⟨its',r',⟨o',n',e',_,_,d'⟩,_⟩:=I.list h';rw[e] at e';cases e';rw[d] at d';injection d' with d1 _
 have:its=its':=by simpa using congrArg Array.toList d1
 subst this;exact r.inj r'
theorem Inv.tuple_inj (I:Inv X pins σ H s) (h:SqT X.K H a xs) (h':SqT X.K H a ys):xs=ys:=by
 obtain ⟨its,r,⟨o,e,_,n,d⟩,_⟩:=I.tuple h;obtain ⟨its',r',⟨o',e',_,n',d'⟩,_⟩:=I.tuple h';rw[e] at e';cases e';rw[d] at d';injection d' with d1 _
 have:its=its':=by simpa using congrArg Array.toList d1
 subst this;exact r.inj r'
end
section
variable {X:Cx} {pins:List (Addr × Obj)} {σ:St} {H:Hp} {s:Shared} {E:Value->Shared->Prop}
end
section
variable {X:Cx} {st:Stmt} {rest:List Stmt} {t u:TS} {e:Expr} {te:TE} {pos:Pos}
def tNext:TS:=λD σ H=>D.nx σ H
def tSeq (t u:TS):TS:=λD σ H=>t {D with nx:=u D} σ H
theorem pss_nil:PSs X [] tNext:=λ_ _ σ H _ I h=>wpAny_execs_nil ⟨σ,H,I,h⟩
theorem pss_cons (h1:PS X st t) (h2:PSs X rest u):PSs X (st::rest) (tSeq t u):=by
 intro pins s σ H D I h;refine wpAny_execs_cons (thn (h1 pins s σ H {D with nx:=u D} I h) λf s1 q=>?_);cases f with
 |next=>
  obtain ⟨σ',H',I',q⟩:=q;exact h2 pins s1 σ' H' D I' q
 |ret v=>exact q
 |brk=>exact q
 |cont=>exact q
theorem Inv.quiet {pins:List (Addr × Obj)} {σ:St} {H:Hp} {s:Shared} (I:Inv X pins σ H s):interactive X.env=false:=by simp [interactive,I.ok.kind]
def tDrop (te:TE):TS:=λD σ H=>te σ H λ_ H1=>D.nx σ H1
theorem ps_expr (he:PE X e te) (hs:swapsWith e none pos.line X.env=pure false:=by rfl):PS X (.Expr e pos) (tDrop te):=by
 intro pins s σ H D I h;exact wpAny_Expr_any (thn (he pins s σ H _ I h) λv s1 ⟨x,H1,I1,r1,q1⟩=>⟨σ,H1,I1,q1⟩) I.quiet hs
def tRet (te:TE):TS:=λD σ H=>te σ H D.rt
theorem ps_ret (he:PE X e te):PS X (.Return (some e) pos) (tRet te):=by
 intro pins s σ H D I h;exact wpAny_Return_some (thn (he pins s σ H _ I h) λv s1 ⟨x,H1,I1,r1,q1⟩=>⟨x,σ,H1,I1,r1,q1⟩)
end
abbrev TG:=V->St->Hp->(St->Hp->Prop)->Prop
abbrev TGs:=List V->St->Hp->(St->Hp->Prop)->Prop
def PG (X:Cx) (target:Expr) (t:TG):Prop:=
 ∀(pins:List (Addr × Obj)) (s:Shared) (σ:St) (H:Hp) (v:V) (u:Value) (Q:St->Hp->Prop),Inv X pins σ H s->RelV v u->t v σ H Q->
  wpAny (model X.prog X.w) X.A (assign target X.env u) (λ_ s'=>∃σ' H',Inv X pins σ' H' s'/\Q σ' H') X.xe s
def PGs (X:Cx) (ts:List Expr) (t:TGs):Prop:=
 ∀(pins:List (Addr × Obj)) (s:Shared) (σ:St) (H:Hp) (vs:List V) (us:List Value) (Q:St->Hp->Prop),Inv X pins σ H s->Vals vs us->t vs σ H Q->
  wpAny (model X.prog X.w) X.A (assignInOrder ((assignEach ts X.env).map (·.2)) us) (λ_ s'=>∃σ' H',Inv X pins σ' H' s'/\Q σ' H') X.xe s
section
variable {X:Cx} {pos:Pos}
def gName (i:Nat):TG:=λv σ H Q=>Q (σ.set i (some v)) H
theorem pg_name {i:Nat} {x:Str} (hN:X.N.Nodup) (hi:X.N[i]?=some x) (hx:Loc X.env.scope x) (hf:X.fn x=true\/X.env.scope.names.lookup x=some .local:=by first|exact .inl rfl|exact .inr rfl|assumption):PG X (.Name x pos) (gName i):=by
 intro pins s σ H v u Q I r h;exact wpAny_assign_Name (store_ok I hN hi hx r (λs' I'=>⟨_,H,I',h⟩) hf)
def gNil:TGs:=λvs σ H Q=>vs=[]/\Q σ H
def gCons (t:TG) (u:TGs):TGs:=λvs σ H Q=>∃v r,vs=v::r/\t v σ H λσ' H'=>u r σ' H' Q
theorem pgs_nil:PGs X [] gNil:=by
 intro pins s σ H vs us Q I r h;obtain ⟨e,h⟩:=h;subst e;cases r;exact assignInOrder_nil ⟨σ,H,I,h⟩
theorem pgs_cons {e:Expr} {es:List Expr} {t:TG} {u:TGs} (h1:PG X e t) (h2:PGs X es u)
  (hs:(assignEach (e::es) X.env).map (·.2)=assign e X.env::(assignEach es X.env).map (·.2):=by rfl):PGs X (e::es) (gCons t u):=by
 intro pins s σ H vs us Q I r h;obtain ⟨v,vr,e1,h⟩:=h;subst e1;cases r with
 |cons r rr=>
  rw[hs];refine assignInOrder_cons (thn (h1 pins s σ H _ _ _ I r h) λ_ s1 ⟨σ1,H1,I1,q1⟩=>?_);exact h2 pins s1 σ1 H1 _ _ Q I1 rr q1
def gTup (K:Fg) (n:Nat) (t:TGs):TG:=λv σ H Q=>∃a xs,v=.ref a/\SqT K H a xs/\xs.length=n/\t xs σ H Q
theorem pg_tup {es:List Expr} {k:Nat} {t:TGs} {n:Nat} (hc:X.calm=true) (h:PGs X es t)
  (hn:(assignEach es X.env).length=n:=by rfl) (hst:(assignEach es X.env).findIdx? (·.1)=none:=by rfl):PG X (.Tuple es k pos) (gTup X.K n t):=by
 intro pins s σ H v u Q I r hw;obtain ⟨a,xs,e1,hq,hl,hw⟩:=hw;subst e1;cases r;obtain ⟨its,rv,ht,hz⟩:=I.tuple hq;refine assign_Tuple_tuple (I.ok.hd hc) ht (by simp [hn,<-hl,rv.length]) hst λh' hx=>?_;have I1:Inv X pins σ H {s with heap:=h'}:=I.kept (t':=s.toks) λb o e=>hx b o (Nat.ne_of_lt (Heap.lt_size e)) e;exact h pins _ σ H xs _ Q I1 (by simpa using rv) hw
def tAsg (te:TE) (g:TG):TS:=λD σ H=>te σ H λx H1=>g x σ H1 D.nx
theorem ps_set {i:Nat} {x:Str} {e:Expr} {te:TE} {pos':Pos} (hN:X.N.Nodup) (hi:X.N[i]?=some x) (hx:Loc X.env.scope x) (he:PE X e te) (hs:swapsWith e (some (.Name x pos')) pos.line X.env=pure false:=by rfl) (hf:X.fn x=true\/X.env.scope.names.lookup x=some .local:=by first|exact .inl rfl|exact .inr rfl|assumption):
  PS X (.Assign [.Name x pos'] e pos) (tAsg te (gName i)):=by
 intro pins s σ H D I h;refine wpAny_Assign_Name (thn (he pins s σ H _ I h) λv s1 ⟨y,H1,I1,r1,q1⟩=>?_) hs;exact store_ok I1 hN hi hx r1 (λs2 I2=>⟨_,H1,I2,q1⟩) hf
end
section
variable {X:Cx} {pos:Pos}
end
structure It where
 go:Nat->Hp->Prop
 yld:Nat->Hp->V->Hp->Prop
 stop:Nat->Hp->Prop
def FpOk (X:Cx) (pins:List (Addr × Obj)) (H:Hp) (b:Addr):Prop:=
 H b=none/\b≠X.env.locals/\b∉X.fs/\(b∈X.ex\/X.s₀.heap.objs.size<=b)/\(∀x c,X.env.cells.lookup x=some c->c≠b)/\∀p∈X.pn++pins,p.1≠b
theorem Inv.fpOk {X:Cx} {pins:List (Addr × Obj)} {σ:St} {H H':Hp} {s:Shared} {b:Addr} (I:Inv X pins σ H s) (hb:s.heap.objs.size<=b) (hn:H' b=none):FpOk X pins H' b:=by
 refine ⟨hn,Nat.ne_of_gt (Nat.lt_of_lt_of_le I.lt hb),I.nofs hb,.inr (Nat.le_trans I.sz hb),λx c e z=>?_,λp hp z=>?_⟩
 ·obtain ⟨v,q⟩:=I.cell x c e;exact absurd (Nat.lt_of_lt_of_le q.lt (by rw[z];exact hb)) (Nat.lt_irrefl _)
 ·exact absurd (Nat.lt_of_lt_of_le (Heap.lt_size (I.pin p hp).1) (by rw[z];exact hb)) (Nat.lt_irrefl _)
structure Turn (P:Program) (w:World) (K:Fg) (tg:Expr) (J:It) (fp:List Addr) (it:Addr) (tn:Nat->Heap->Prop):Prop where
 mem:it∈fp
 obj:∀i h,tn i h->∀b∈fp,∃o,h.get? b=some o/\∀v,o.data≠.cell v
 keep:∀i h h',tn i h->(∀b∈fp,∀o,h.get? b=some o->h'.get? b=some o)->tn i h'
 item:∀(X:Cx),X.prog=P->X.w=w->X.K=K->X.calm=true->∀(i:Nat) (pins:List (Addr × Obj)) (s:Shared) (σ:St) (H:Hp) (E:Value->Shared->Prop),Inv X pins σ H s->(∀b∈fp,FpOk X pins H b)->tn i s.heap->J.go i H->
  wpAny (model P w) X.A (pyNext (.ref it)) (λr s1=>∃u,r=some u/\
   wpAny (model P w) X.A (letOwnedTupleGo tg (.ref it) u) (λ_ s2=>∃x H',Inv X pins σ H' s2/\RelV x u/\J.yld i H x H'/\tn (i+1) s2.heap/\∀b∈fp,H' b=none) E s1) E s
 done:∀(X:Cx),X.prog=P->X.w=w->X.K=K->X.calm=true->∀(i:Nat) (pins:List (Addr × Obj)) (s:Shared) (σ:St) (H:Hp) (E:Value->Shared->Prop),Inv X pins σ H s->(∀b∈fp,FpOk X pins H b)->tn i s.heap->J.stop i H->
  wpAny (model P w) X.A (pyNext (.ref it)) (λr s1=>r=none/\Inv X pins σ H s1) E s
 self:∀(A:Around) (i:Nat) (s:Shared) (Q:Value->Shared->Prop) (E:Value->Shared->Prop),tn i s.heap->Q (.ref it) s->wpAny (model P w) A (pyIter (.ref it)) Q E s
abbrev TI:=St->Hp->(It->Hp->Prop)->Prop
def PIE (X:Cx) (pins:List (Addr × Obj)) (σ:St) (tg:Expr) (R:It->Hp->Prop) (itv:Value) (s2:Shared):Prop:=
 ∃(it:Addr) (fp:List Addr) (tn:Nat->Heap->Prop) (J:It) (H':Hp),itv=.ref it/\Inv X pins σ H' s2/\Turn X.prog X.w X.K tg J fp it tn/\tn 0 s2.heap/\(∀b∈fp,FpOk X pins H' b)/\R J H'
def PI (X:Cx) (tg iter:Expr) (wi:TI):Prop:=
 ∀(pins:List (Addr × Obj)) (s:Shared) (σ:St) (H:Hp) (R:It->Hp->Prop),Inv X pins σ H s->wi σ H R->
  wpAny (model X.prog X.w) X.A (eval iter X.env) (λv s1=>wpAny (model X.prog X.w) X.A (pyIter v) (PIE X pins σ tg R) X.xe s1) X.xe s
theorem go_of {M:Model} {A:Around} {E:Value->Shared->Prop} {s:Shared} {tg:Expr} {it:Addr} {u:Value} {o:Obj} {n:String} {vs:Array Value} {Q:Unit->Shared->Prop} (ho:s.heap.get? it=some o) (hc:o.cls=.type n) (hd:o.data=.fields vs)
  (hn:["enumerate","zip","dict_itemiterator","dict_reverseitemiterator","odict_iterator","itertools.zip_longest","itertools.pairwise"].contains n=false) (hQ:Q () s):wpAny M A (letOwnedTupleGo tg (.ref it) u) Q E s:=by
 unfold letOwnedTupleGo;cases tg<;>first
  |exact wpAny_pure hQ
  | (cases u<;>first
    |exact wpAny_pure hQ
    | (refine wpAny_bind (wpAny_load ho ?_)
       rw[hc,hd]
       show wpAny M A (if (["enumerate","zip","dict_itemiterator","dict_reverseitemiterator","odict_iterator","itertools.zip_longest","itertools.pairwise"].contains n&&vs[0]?==some (rawInt _))=true then _ else _) Q E s
       rw[if_neg (by intro h;rw[hn,Bool.false_and] at h;cases h)]
       exact wpAny_pure hQ))
def Itl (K:Fg) (a:Addr):It:=
 ⟨λi H=>∃xs x,SqL K H a xs/\xs[i]?=some x,λi H x H'=>H'=H/\∀xs,SqL K H a xs->xs[i]?=some x,λi H=>∃xs,SqL K H a xs/\xs.length<=i⟩
def Itt (K:Fg) (a:Addr):It:=
 ⟨λi H=>∃xs x,SqT K H a xs/\xs[i]?=some x,λi H x H'=>H'=H/\∀xs,SqT K H a xs->xs[i]?=some x,λi H=>∃xs,SqT K H a xs/\xs.length<=i⟩
def Itr (lo:Int) (n:Nat):It:=⟨λi _=>i<n,λi H x H'=>H'=H/\x=.int (lo+i),λi _=>n<=i⟩
theorem turn_list {P:Program} {w:World} {K:Fg} {tg:Expr} (a it:Addr):Turn P w K tg (Itl K a) [it] it (λi h=>h.IsListIter it a i) where
 mem:=by simp
 obj:=λi h st b hb=>by
  have e:b=it:=by simpa using hb
  subst e;obtain ⟨o,e,c,d⟩:=st;exact ⟨o,e,λv z=>by rw[d] at z;cases z⟩
 keep:=λi h h' st k=>st.at λo e=>k it (by simp) o e
 item:=by
  intro X hP hw hK hc i pins s σ H E I hf st hg;subst hP hw hK;obtain ⟨xs,x,hq,hx⟩:=hg;obtain ⟨its,rv,p,hz⟩:=I.list hq;obtain ⟨u,hu,ru⟩:=rv.get hx;obtain ⟨f0,f1,f2,f3,f4,f5⟩:=hf it (by simp);refine wpAny_pyNext_list_item st p.isList (x:=u) (by simpa using hu) λh' st' sb=>?_;have I1:Inv X pins σ H {s with heap:=h'}:=I.turned (t':=s.toks) (λb o hb e=>(sb.2 b hb).trans e) f0 f1 f3 f4 f5;obtain ⟨o,e,c,d⟩:=id st';exact ⟨u,rfl,go_of (s:={s with heap:=h'}) e c d (by decide) ⟨x,H,I1,ru,⟨rfl,λys hy=>by rw[I.list_inj hy hq];exact hx⟩,st',λb hb=>(hf b hb).1⟩⟩
 done:=by
  intro X hP hw hK hc i pins s σ H E I hf st hg;subst hP hw hK;obtain ⟨xs,hq,hx⟩:=hg;obtain ⟨its,rv,p,hz⟩:=I.list hq;obtain ⟨f0,f1,f2,f3,f4,f5⟩:=hf it (by simp);have hl:=rv.length;exact wpAny_pyNext_list_end (I.ok.hd hc) st p.isList (by simp;lia) λh' eb=>⟨rfl,I.turned (t':=s.toks) (λb o hb e=>eb b o hb e) f0 f1 f3 f4 f5⟩
 self:=λ_ _ _ _ _ st h=>wpAny_pyIter_listiter st h
theorem turn_tuple {P:Program} {w:World} {K:Fg} {tg:Expr} (a it:Addr):Turn P w K tg (Itt K a) [it] it (λi h=>h.IsTupleIter it a i) where
 mem:=by simp
 obj:=λi h st b hb=>by
  have e:b=it:=by simpa using hb
  subst e;obtain ⟨o,e,c,d⟩:=st;exact ⟨o,e,λv z=>by rw[d] at z;cases z⟩
 keep:=λi h h' st k=>st.at λo e=>k it (by simp) o e
 item:=by
  intro X hP hw hK hc i pins s σ H E I hf st hg;subst hP hw hK;obtain ⟨xs,x,hq,hx⟩:=hg;obtain ⟨its,rv,p,hz⟩:=I.tuple hq;obtain ⟨u,hu,ru⟩:=rv.get hx;obtain ⟨f0,f1,f2,f3,f4,f5⟩:=hf it (by simp);refine wpAny_pyNext_tuple_item st (show s.heap.IsTuple a its.toArray from p) (x:=u) (by simpa using hu) λh' st' sb=>?_;have I1:Inv X pins σ H {s with heap:=h'}:=I.turned (t':=s.toks) (λb o hb e=>(sb.2 b hb).trans e) f0 f1 f3 f4 f5;obtain ⟨o,e,c,d⟩:=id st';exact ⟨u,rfl,go_of (s:={s with heap:=h'}) e c d (by decide) ⟨x,H,I1,ru,⟨rfl,λys hy=>by rw[I.tuple_inj hy hq];exact hx⟩,st',λb hb=>(hf b hb).1⟩⟩
 done:=by
  intro X hP hw hK hc i pins s σ H E I hf st hg;subst hP hw hK;obtain ⟨xs,hq,hx⟩:=hg;obtain ⟨its,rv,p,hz⟩:=I.tuple hq;obtain ⟨f0,f1,f2,f3,f4,f5⟩:=hf it (by simp);have hl:=rv.length;exact wpAny_pyNext_tuple_end (I.ok.hd hc) st (show s.heap.IsTuple a its.toArray from p) (by simp;lia) λh' eb=>⟨rfl,I.turned (t':=s.toks) (λb o hb e=>eb b o hb e) f0 f1 f3 f4 f5⟩
 self:=λ_ _ _ _ _ st h=>wpAny_pyIter_tupleiter st h
theorem turn_range {P:Program} {w:World} {K:Fg} {tg:Expr} (it:Addr) (lo:Int) (n:Nat):Turn P w K tg (Itr lo n) [it] it (λi h=>IsRangeIter h it (lo+(i:Nat) * 1) ((n:Int) - (i:Nat)) 1) where
 mem:=by simp
 obj:=λi h st b hb=>by
  have e:b=it:=by simpa using hb
  subst e;exact ⟨_,st,λv z=>by
   have z':Data.fields _=Data.cell v:=z
   cases z'⟩
 keep:=λi h h' st k=>k it (by simp) _ st
 item:=by
  intro X hP hw hK hc i pins s σ H E I hf st hg;subst hP hw hK;obtain ⟨f0,f1,f2,f3,f4,f5⟩:=hf it (by simp);have W:=Walks.range (prog:=X.prog) (w:=X.w) (I.ok.hd hc) it lo 1 n;refine W.item i s _ _ hg st λv h' tk hv st' kk=>?_;obtain ⟨t,rfl⟩:=hv;have I1:Inv X pins σ H {s with heap:=h',toks:=tk}:=I.turned (λb o hb e=>kk b o (by simpa using hb) e) f0 f1 f3 f4 f5;refine ⟨_,rfl,go_of (s:={s with heap:=h',toks:=tk}) (n:="range_iterator") st' rfl rfl (by decide) ⟨.int (lo+i),H,I1,⟨t,?_⟩,⟨rfl,rfl⟩,st',λb hb=>(hf b hb).1⟩⟩;rw[Int.mul_one]
 done:=by
  intro X hP hw hK hc i pins s σ H E I hf st hg;subst hP hw hK;obtain ⟨f0,f1,f2,f3,f4,f5⟩:=hf it (by simp);exact wpAny_pyNext_range_end (I.ok.hd hc) st (by have:n<=i:=hg;lia) λh' eb=>⟨rfl,I.turned (t':=s.toks) (λb o hb e=>eb b o hb e) f0 f1 f3 f4 f5⟩
 self:=λ_ _ _ _ _ st h=>wpAny_pyIter_rangeiter st h
section
variable {X:Cx} {tg:Expr}
theorem range_it {pins:List (Addr × Obj)} {σ:St} {H:Hp} {s:Shared} {R:It->Hp->Prop} {E:Value->Shared->Prop} {lo hi:Int} {t u v:Tok} {tk:Nat} (I:Inv X pins σ H s) (h1:-(2 ^ 62)<=lo) (h2:lo<2 ^ 62) (h3:-(2 ^ 62)<=hi) (h4:hi<2 ^ 62)
  (q:R (Itr lo (hi - lo).toNat) H):wpAny (model X.prog X.w) X.A (pyIter (.ref s.heap.objs.size)) (PIE X pins σ tg R) E {s with heap:=s.heap.push {cls:=.type "range",data:=.fields #[.int lo t,.int hi u,.int 1 v]},toks:=tk}:=by
 refine wpAny_pyIter_range (IsRange.new ..) (small_one h1 h2 h3 h4) ?_;have I1:Inv X pins σ H {s with heap:=s.heap.push {cls:=.type "range",data:=.fields #[.int lo t,.int hi u,.int 1 v]},toks:=tk}:=I.kept λb o e=>Heap.get?_push_of_some _ e;refine ⟨(s.heap.push {cls:=.type "range",data:=.fields #[.int lo t,.int hi u,.int 1 v]}).objs.size,[(s.heap.push {cls:=.type "range",data:=.fields #[.int lo t,.int hi u,.int 1 v]}).objs.size],_,_,H,rfl,
  I1.kept (t':=tk) λb o e=>Heap.get?_push_of_some _ e,turn_range _ lo (hi - lo).toNat,?_,λb hb=>?_,q⟩
 ·have e1:lo+((0:Nat):Int) * 1=lo:=by simp
  have e2:(((hi - lo).toNat:Nat):Int) - ((0:Nat):Int)=Builtin.Range.rangeSize lo hi 1:=by rw[rangeSize_one];split<;>lia
  show IsRangeIter _ _ (lo+((0:Nat):Int) * 1) ((((hi - lo).toNat:Nat):Int) - ((0:Nat):Int)) 1;rw[e1,e2];exact Heap.get?_push_size _ rfl
 ·have e:b=(s.heap.push {cls:=.type "range",data:=.fields #[.int lo t,.int hi u,.int 1 v]}).objs.size:=by simpa using hb
  subst e;exact I1.fpOk (Nat.le_refl _) (I1.hok.fresh (Nat.le_refl _))
def tFor (wi:TI) (g:TG) (tb:TS):TS:=λD σ H=>wi σ H λJ H1=>∃W:Nat->Nat->St->Hp->Prop,(∃m,W 0 m σ H1)/\∀i m σ H,W i m σ H->
 (J.stop i H/\D.nx σ H)\/(J.go i H/\∃N:St->Hp->Prop,(∀σ' H',N σ' H'->∃m',m'<m/\W (i+1) m' σ' H')/\∀x H',J.yld i H x H'->g x σ H' λσ2 H2=>tb {D with nx:=N,ct:=N,bk:=D.nx} σ2 H2)
def pinsAt (fp:List Addr) (h:Heap):List (Addr × Obj):=fp.filterMap λb=>(h.get? b).map λo=>(b,o)
theorem mem_pinsAt {fp:List Addr} {h:Heap} {b:Addr} {o:Obj} (hb:b∈fp) (e:h.get? b=some o):(b,o)∈pinsAt fp h:=List.mem_filterMap.mpr ⟨b,hb,by rw[e];rfl⟩
theorem of_pinsAt {fp:List Addr} {h:Heap} {p:Addr × Obj} (hp:p∈pinsAt fp h):p.1∈fp/\h.get? p.1=some p.2:=by
 obtain ⟨b,hb,e⟩:=List.mem_filterMap.mp hp;cases q:h.get? b with
 |none=>rw[q] at e;cases e
 |some o=>
  rw[q] at e;have e':(b,o)=p:=Option.some.inj e;subst e';exact ⟨hb,q⟩
theorem Inv.pinned {pins:List (Addr × Obj)} {σ:St} {H:Hp} {s:Shared} {fp:List Addr} (I:Inv X pins σ H s) (hf:∀b∈fp,FpOk X pins H b) (ho:∀b∈fp,∃o,s.heap.get? b=some o/\∀v,o.data≠.cell v):Inv X (pins++pinsAt fp s.heap) σ H s:=
 I.pins_of λp hp=>(List.mem_append.mp hp).elim (λz=>I.pin p (List.mem_append_right _ z)) λz=>by
  obtain ⟨hb,e⟩:=of_pinsAt z;obtain ⟨f0,f1,f2,_⟩:=hf p.1 hb;obtain ⟨o,e',d⟩:=ho p.1 hb;rw[e] at e';cases e';exact ⟨e,f0,f1,f2,d⟩
theorem Inv.unpinned {pins pl:List (Addr × Obj)} {σ:St} {H:Hp} {s:Shared} (I:Inv X (pins++pl) σ H s):Inv X pins σ H s:=I.pins_of λp hp=>I.pin p (List.mem_append_right _ (List.mem_append_left _ hp))
theorem ps_for {iter:Expr} {body:List Stmt} {wi:TI} {g:TG} {tb:TS} {pos:Pos} (hp:PassesOwn (model X.prog X.w) X.A X.env X.xe) (hc:X.calm=true) (hi:PI X tg iter wi) (hg:PG X tg g) (hb:PSs X body tb)
  (hs:∀x,foldedSetIterable iter X.env x=pure x:=by intro _;rfl):PS X (.For tg iter body [] pos) (tFor wi g tb):=by
 intro pins s σ H D I h;refine wpAny_For (thn (hi pins s σ H _ I h) λv s1 h1=>thn h1 λitv s2 h2=>?_) hs;obtain ⟨it,fp,tn,J,H2,e,I2,T,st2,f2,W,⟨m0,w0⟩,turn⟩:=h2;subst e;have stat:∀{H':Hp},(∀b∈fp,H' b=none)->∀b∈fp,FpOk X pins H' b:=λhn b hb=>⟨hn b hb,(f2 b hb).2⟩;refine codeAny_forLoop_any (λn s'=>∃i σ' H',Inv X pins σ' H' s'/\tn i s'.heap/\(∀b∈fp,H' b=none)/\W i n σ' H') ?_ m0 ⟨0,σ,H2,I2,st2,λb hb=>(f2 b hb).1,w0⟩;rintro n s3 ⟨i,σ3,H3,I3,st3,fr3,w3⟩;rcases turn i n σ3 H3 w3 with ⟨stop,qn⟩|⟨go,N,hN,step⟩
 ·refine wpAny_passesOwn hp (thn (T.done X rfl rfl rfl hc i pins s3 σ3 H3 X.xe I3 (stat fr3) st3 stop) λr s4 ⟨hr,I4⟩=>?_);subst hr;exact wpAny_execs_nil ⟨σ3,H3,I4,qn⟩
 ·refine wpAny_passesOwn hp (thn (T.item X rfl rfl rfl hc i pins s3 σ3 H3 X.xe I3 (stat fr3) st3 go) λr s4 ⟨u,hr,h4⟩=>?_);subst hr;refine wpAny_passesOwn hp (thn h4 λ_ s5 ⟨x,H5,I5,r5,y5,st5,fr5⟩=>?_);have I5':=I5.pinned (stat fr5) (T.obj _ _ st5);refine wpAny_passesOwn hp (thn (hg _ s5 σ3 H5 x u _ I5' r5 (step x H5 y5)) λ_ s6 ⟨σ6,H6,I6,q6⟩=>?_);refine wpAny_passesOwn hp (thn (hb _ s6 σ6 H6 _ I6 q6) λf s7 q7=>?_);have again:∀{σ7:St} {H7:Hp},Inv X (pins++pinsAt fp s5.heap) σ7 H7 s7->N σ7 H7->∃m,m<n/\∃i σ' H',Inv X pins σ' H' s7/\tn i s7.heap/\(∀b∈fp,H' b=none)/\W i m σ' H':=λ{σ7 H7} I7 n7=>by
   obtain ⟨m',hm,w7⟩:=hN σ7 H7 n7;refine ⟨m',hm,i+1,σ7,H7,I7.unpinned,T.keep _ _ _ st5 λb hb o e=>(I7.pin (b,o) (List.mem_append_right _ (List.mem_append_right _ (mem_pinsAt hb e)))).1,λb hb=>?_,w7⟩;obtain ⟨o,e,d⟩:=T.obj _ _ st5 b hb;exact (I7.pin (b,o) (List.mem_append_right _ (List.mem_append_right _ (mem_pinsAt hb e)))).2.1
  cases f with
  |next=>obtain ⟨σ7,H7,I7,n7⟩:=q7;exact again I7 n7
  |cont=>obtain ⟨σ7,H7,I7,n7⟩:=q7;exact again I7 n7
  |brk=>obtain ⟨σ7,H7,I7,q7⟩:=q7;exact ⟨σ7,H7,I7.unpinned,q7⟩
  |ret v=>obtain ⟨x7,σ7,H7,I7,r7,q7⟩:=q7;exact ⟨x7,σ7,H7,I7.unpinned,r7,q7⟩
end
theorem for_range {lo:Int} {n:Nat} {g:TG} {tb:TS} {D:Ends} {σ:St} {H:Hp} (Pv:Nat->St->Hp->Prop) (h0:Pv 0 σ H)
  (hs:∀i σ H,i<n->Pv i σ H->g (.int (lo+i)) σ H λσ2 H2=>tb {D with nx:=Pv (i+1),ct:=Pv (i+1),bk:=D.nx} σ2 H2) (hd:∀σ H,Pv n σ H->D.nx σ H):
  ∃W:Nat->Nat->St->Hp->Prop,(∃m,W 0 m σ H)/\∀i m σ H,W i m σ H->
   ((Itr lo n).stop i H/\D.nx σ H)\/((Itr lo n).go i H/\∃N:St->Hp->Prop,(∀σ' H',N σ' H'->∃m',m'<m/\W (i+1) m' σ' H')/\∀x H',(Itr lo n).yld i H x H'->g x σ H' λσ2 H2=>tb {D with nx:=N,ct:=N,bk:=D.nx} σ2 H2):=by
 refine ⟨λi m σ H=>m=n - i/\i<=n/\Pv i σ H,⟨n,by simp,Nat.zero_le _,h0⟩,?_⟩;rintro i m σ H ⟨rfl,hi,p⟩;by_cases hlt:i<n
 ·refine .inr ⟨hlt,Pv (i+1),λσ' H' p'=>⟨n - (i+1),by lia,rfl,hlt,p'⟩,λx H' y=>?_⟩;obtain ⟨e,y⟩:=y;subst e y;exact hs i σ _ hlt p
 ·have e:i=n:=by lia
  subst e;exact .inl ⟨Nat.le_refl _,hd σ H p⟩
abbrev R2:=V->V->Hp->VK->Prop
def OpR (X:Cx) (f:Value->Value->Sem Value) (r:R2):Prop:=
 ∀(pins:List (Addr × Obj)) (s:Shared) (σ:St) (H:Hp) (x y:V) (v u:Value) (Q:VK),Inv X pins σ H s->RelV x v->RelV y u->r x y H Q->
  wpAny (model X.prog X.w) X.A (f v u) (EP X pins σ Q) X.xe s
def UnR (X:Cx) (f:Value->Sem Value) (r:V->Hp->VK->Prop):Prop:=
 ∀(pins:List (Addr × Obj)) (s:Shared) (σ:St) (H:Hp) (x:V) (v:Value) (Q:VK),Inv X pins σ H s->RelV x v->r x H Q->
  wpAny (model X.prog X.w) X.A (f v) (EP X pins σ Q) X.xe s
def CallR (X:Cx) (f:Value) (r:List V->Hp->VK->Prop):Prop:=
 ∀(pins:List (Addr × Obj)) (s:Shared) (σ:St) (H:Hp) (xs:List V) (us:List Value) (Q:VK),Inv X pins σ H s->Vals xs us->r xs H Q->
  wpAny (model X.prog X.w) X.A (call f us) (EP X pins σ Q) X.xe s
def TruR (X:Cx) (r:V->Hp->(Bool->Hp->Prop)->Prop):Prop:=
 ∀(pins:List (Addr × Obj)) (s:Shared) (σ:St) (H:Hp) (x:V) (v:Value) (Q:Bool->Hp->Prop),Inv X pins σ H s->RelV x v->r x H Q->
  wpAny (model X.prog X.w) X.A (truthy v) (TP X pins σ Q) X.xe s
def tOp (r:R2) (ta tb:TE):TE:=λσ H Q=>ta σ H λx H1=>tb σ H1 λy H2=>r x y H2 Q
def tUn (r:V->Hp->VK->Prop) (ta:TE):TE:=λσ H Q=>ta σ H λx H1=>r x H1 Q
def rI (C:Int->Int->Prop) (g:Int->Int->V):R2:=λx y H Q=>∃i j,x=.int i/\y=.int j/\C i j/\Q (g i j) H
def rI0 (g:Int->Int->V):R2:=λx y H Q=>∃i j,x=.int i/\y=.int j/\Q (g i j) H
def rU (g:Int->V):V->Hp->VK->Prop:=λx H Q=>∃i,x=.int i/\Q (g i) H
section
variable {X:Cx} {a b c:Expr} {ta tb tc:TE} {pos:Pos}
theorem binT (ha:PE X a ta) (hb:PE X b tb) {pins:List (Addr × Obj)} {s:Shared} {σ:St} {H:Hp} {R:V->V->Hp->Prop} (I:Inv X pins σ H s)
  (h:ta σ H λx H1=>tb σ H1 λy H2=>R x y H2) {Q:Value->Shared->Prop} {f:Value->Value->Sem Value}
  (hf:∀v u s2 x y H2,Inv X pins σ H2 s2->RelV x v->RelV y u->R x y H2->wpAny (model X.prog X.w) X.A (f v u) Q X.xe s2):
  wpAny (model X.prog X.w) X.A (eval a X.env) (λv s₁=>wpAny (model X.prog X.w) X.A (eval b X.env) (λu s₂=>wpAny (model X.prog X.w) X.A (f v u) Q X.xe s₂) X.xe s₁) X.xe s:=by
 refine thn (ha pins s σ H _ I h) λv s1 ⟨x,H1,I1,r1,q1⟩=>?_;refine thn (hb pins s1 σ H1 _ I1 q1) λu s2 ⟨y,H2,I2,r2,q2⟩=>?_;exact hf v u s2 x y H2 I2 r1 r2 q2
theorem pe_op {op:Operator} {r:R2} (ho:OpR X (binaryOp op) r) (ha:PE X a ta) (hb:PE X b tb):PE X (.BinOp a op b pos) (tOp r ta tb):=by
 intro pins s σ H Q I h;exact wpAny_BinOp (binT ha hb I h λv u s2 x y H2 I2 rx ry q=>ho pins s2 σ H2 x y v u Q I2 rx ry q)
theorem pe_un {op:UnaryOp} {r:V->Hp->VK->Prop} (ho:UnR X (unaryOp op) r) (ha:PE X a ta):PE X (.UnaryOp op a pos) (tUn r ta):=by
 intro pins s σ H Q I h;exact UnaryOp_ (thn (ha pins s σ H _ I h) λv s1 ⟨x,H1,I1,r1,q1⟩=>ho pins s1 σ H1 x v Q I1 r1 q1)
theorem opI {f:Value->Value->Sem Value} {C:Int->Int->Prop} {g:Int->Int->Int}
  (rule:∀(i j:Int) (t u:Tok) (s:Shared) (Q:Value->Shared->Prop) (E:Value->Shared->Prop),C i j->Q (.int (g i j) s.toks) {s with toks:=s.toks+1}->wpAny (model X.prog X.w) X.A (f (.int i t) (.int j u)) Q E s):
  OpR X f (rI C λi j=>.int (g i j)):=by
 intro pins s σ H x y v u Q I rx ry h;obtain ⟨i,j,rfl,rfl,hc,q⟩:=h;obtain ⟨t,rfl⟩:=rx;obtain ⟨t',rfl⟩:=ry;exact rule i j t t' s _ _ hc ⟨.int (g i j),H,I.tok _,⟨_,rfl⟩,q⟩
theorem opI0 {f:Value->Value->Sem Value} {g:Int->Int->Int}
  (rule:∀(i j:Int) (t u:Tok) (s:Shared) (Q:Value->Shared->Prop) (E:Value->Shared->Prop),Q (.int (g i j) s.toks) {s with toks:=s.toks+1}->wpAny (model X.prog X.w) X.A (f (.int i t) (.int j u)) Q E s):
  OpR X f (rI0 λi j=>.int (g i j)):=by
 intro pins s σ H x y v u Q I rx ry h;obtain ⟨i,j,rfl,rfl,q⟩:=h;obtain ⟨t,rfl⟩:=rx;obtain ⟨t',rfl⟩:=ry;exact rule i j t t' s _ _ ⟨.int (g i j),H,I.tok _,⟨_,rfl⟩,q⟩
theorem opB0 {f:Value->Value->Sem Value} {g:Int->Int->Bool}
  (rule:∀(i j:Int) (t u:Tok) (s:Shared) (Q:Value->Shared->Prop) (E:Value->Shared->Prop),Q (.bool (g i j)) s->wpAny (model X.prog X.w) X.A (f (.int i t) (.int j u)) Q E s):
  OpR X f (rI0 λi j=>.bl (g i j)):=by
 intro pins s σ H x y v u Q I rx ry h;obtain ⟨i,j,rfl,rfl,q⟩:=h;obtain ⟨t,rfl⟩:=rx;obtain ⟨t',rfl⟩:=ry;exact rule i j t t' s _ _ ⟨.bl (g i j),H,I,rfl,q⟩
def CDiv (i j:Int):Prop:=0<j/\j<1073741824
def CPow (i j:Int):Prop:=0<=j/\j<=1000000/\i.natAbs<2 ^ 64
def CMul (i j:Int):Prop:=(-(2 ^ 64)<i/\i<2 ^ 64)\/(-(2 ^ 64)<j/\j<2 ^ 64)
theorem CMul.ok {i j:Int} (h:CMul i j):IntMulOk i j:=by
 rcases h with ⟨h1,h2⟩|⟨h1,h2⟩
 ·exact .of_left (intBits_le_64 h1 h2)
 ·exact .of_right (intBits_le_64 h1 h2)
theorem op_add:OpR X (binaryOp .Add) (rI0 λi j=>.int (i+j)):=opI0 λ_ _ _ _ _ _ _ q=>add_int q
theorem op_sub:OpR X (binaryOp .Sub) (rI0 λi j=>.int (i - j)):=opI0 λ_ _ _ _ _ _ _ q=>sub_int q
theorem op_mod:OpR X (binaryOp .Mod) (rI (λ_ j=>0<j) λi j=>.int (i % j)):=opI λi j _ _ _ _ _ hc q=>by
 have h1:(0:Int)<j:=hc;exact mod_int' (by lia) (by rw[Int.fmod_eq_emod_of_nonneg i (by lia)];exact q)
theorem unI {f:Value->Sem Value} {g:Int->Int}
  (rule:∀(i:Int) (t:Tok) (s:Shared) (Q:Value->Shared->Prop) (E:Value->Shared->Prop),Q (.int (g i) s.toks) {s with toks:=s.toks+1}->wpAny (model X.prog X.w) X.A (f (.int i t)) Q E s):
  UnR X f (rU λi=>.int (g i)):=by
 intro pins s σ H x v Q I rx h;obtain ⟨i,rfl,q⟩:=h;obtain ⟨t,rfl⟩:=rx;exact rule i t s _ _ ⟨.int (g i),H,I.tok _,⟨_,rfl⟩,q⟩
theorem un_neg:UnR X (unaryOp .USub) (rU λi=>.int (-i)):=unI λ_ _ _ _ _ q=>neg_int q
theorem op_add_ib:OpR X (binaryOp .Add) (λx y H Q=>∃i k,x=.int i/\y=.bl k/\Q (.int (i+b2i k)) H):=by
 intro pins s σ H x y v u Q I rx ry h;obtain ⟨i,k,rfl,rfl,q⟩:=h;obtain ⟨t,rfl⟩:=rx;cases ry;exact add_int_bool ⟨.int (i+b2i k),H,I.tok _,⟨_,rfl⟩,q⟩
end
def scal:V->V->Bool
 | .non,.non=>true| .non,.int _=>true| .int _,.non=>true| .non,.bl _=>true| .bl _,.non=>true| .non,.str _=>true| .str _,.non=>true
 | .int _,.int _=>true| .bl _,.bl _=>true| .str _,.str _=>true| .byt _,.byt _=>true
 | .int _,.str _=>true| .str _,.int _=>true| .bl _,.str _=>true| .str _,.bl _=>true
 |_,_=>false
def rEq:R2:=λx y H Q=>scal x y=true/\Q (.bl (decide (x=y))) H
def rNe:R2:=λx y H Q=>scal x y=true/\Q (.bl (!decide (x=y))) H
theorem dec_int {i j:Int}:decide (V.int i=V.int j)=(i==j):=by
 rw[Bool.eq_iff_iff];simp
theorem dec_bl {i j:Bool}:decide (V.bl i=V.bl j)=(i==j):=by
 rw[Bool.eq_iff_iff];simp
theorem dec_str {i j:Str}:decide (V.str i=V.str j)=(i==j):=by
 rw[Bool.eq_iff_iff];simp
theorem dec_byt {i j:Array UInt8}:decide (V.byt i=V.byt j)=(i.toList==j.toList):=by
 rw[Bool.eq_iff_iff];cases i;cases j;simp
section
variable {X:Cx} {a b c:Expr} {ta tb tc:TE} {pos:Pos}
theorem fin_bl {pins:List (Addr × Obj)} {σ:St} {H:Hp} {s:Shared} {Q:VK} {k k':Bool} (I:Inv X pins σ H s) (q:Q (.bl k) H) (e:k=k'):EP X pins σ Q (.bool k') s:=by
 subst e;exact ⟨.bl k,H,I,rfl,q⟩
theorem op_eq:OpR X (compareOp .Eq) rEq:=by
 intro pins s σ H x y v u Q I rx ry h;obtain ⟨hs,q⟩:=h;cases x with
 |non=>
  cases rx;cases y with
  |non=>cases ry;exact PySem.EqNone.eq_none_none (fin_bl I q (by simp))
  |bl j=>cases ry;exact PySem.EqNone.eq_none_bool (fin_bl I q (by simp))
  |int j=>obtain ⟨t',rfl⟩:=ry;exact PySem.EqNone.eq_none_int (fin_bl I q (by simp))
  |str j=>obtain ⟨t',rfl⟩:=ry;exact PySem.EqNone.eq_none_str (fin_bl I q (by simp))
  |_=>exact absurd (show false=true from hs) Bool.false_ne_true
 |bl i=>
  cases rx;cases y with
  |non=>cases ry;exact PySem.EqNone.eq_bool_none (fin_bl I q (by simp))
  |bl j=>cases ry;exact eq_bool (fin_bl I q dec_bl)
  |str j=>obtain ⟨t',rfl⟩:=ry;exact PySem.EqMixed.eq_bool_str (fin_bl I q (by simp))
  |_=>exact absurd (show false=true from hs) Bool.false_ne_true
 |int i=>
  obtain ⟨t,rfl⟩:=rx;cases y with
  |non=>cases ry;exact PySem.EqNone.eq_int_none (fin_bl I q (by simp))
  |int j=>obtain ⟨t',rfl⟩:=ry;exact eq_int (fin_bl I q dec_int)
  |str j=>obtain ⟨t',rfl⟩:=ry;exact PySem.EqMixed.eq_int_str (fin_bl I q (by simp))
  |_=>exact absurd (show false=true from hs) Bool.false_ne_true
 |str i=>
  obtain ⟨t,rfl⟩:=rx;cases y with
  |non=>cases ry;exact PySem.EqNone.eq_str_none (fin_bl I q (by simp))
  |bl j=>cases ry;exact PySem.EqMixed.eq_str_bool (fin_bl I q (by simp))
  |int j=>obtain ⟨t',rfl⟩:=ry;exact PySem.EqMixed.eq_str_int (fin_bl I q (by simp))
  |str j=>obtain ⟨t',rfl⟩:=ry;exact eq_str (fin_bl I q dec_str)
  |_=>exact absurd (show false=true from hs) Bool.false_ne_true
 |byt i=>
  obtain ⟨t,rfl⟩:=rx;cases y with
  |byt j=>obtain ⟨t',rfl⟩:=ry;exact PySem.W.eq_bytes (fin_bl I q dec_byt)
  |_=>exact absurd (show false=true from hs) Bool.false_ne_true
 |_=>cases y<;>exact absurd (show false=true from hs) Bool.false_ne_true
theorem op_ne:OpR X (compareOp .NotEq) rNe:=by
 intro pins s σ H x y v u Q I rx ry h;obtain ⟨hs,q⟩:=h;cases x with
 |non=>
  cases rx;cases y with
  |non=>cases ry;exact PySem.EqNone.ne_none_none (fin_bl I q (by simp))
  |bl j=>cases ry;exact PySem.EqNone.ne_none_bool (fin_bl I q (by simp))
  |int j=>obtain ⟨t',rfl⟩:=ry;exact PySem.EqNone.ne_none_int (fin_bl I q (by simp))
  |str j=>obtain ⟨t',rfl⟩:=ry;exact PySem.EqNone.ne_none_str (fin_bl I q (by simp))
  |_=>exact absurd (show false=true from hs) Bool.false_ne_true
 |bl i=>
  cases rx;cases y with
  |non=>cases ry;exact PySem.EqNone.ne_bool_none (fin_bl I q (by simp))
  |bl j=>cases ry;exact ne_bool (fin_bl I q (congrArg not dec_bl))
  |str j=>obtain ⟨t',rfl⟩:=ry;exact PySem.EqMixed.ne_bool_str (fin_bl I q (by simp))
  |_=>exact absurd (show false=true from hs) Bool.false_ne_true
 |int i=>
  obtain ⟨t,rfl⟩:=rx;cases y with
  |non=>cases ry;exact PySem.EqNone.ne_int_none (fin_bl I q (by simp))
  |int j=>obtain ⟨t',rfl⟩:=ry;exact ne_int (fin_bl I q (congrArg not dec_int))
  |str j=>obtain ⟨t',rfl⟩:=ry;exact PySem.EqMixed.ne_int_str (fin_bl I q (by simp))
  |_=>exact absurd (show false=true from hs) Bool.false_ne_true
 |str i=>
  obtain ⟨t,rfl⟩:=rx;cases y with
  |non=>cases ry;exact PySem.EqNone.ne_str_none (fin_bl I q (by simp))
  |bl j=>cases ry;exact PySem.EqMixed.ne_str_bool (fin_bl I q (by simp))
  |int j=>obtain ⟨t',rfl⟩:=ry;exact PySem.EqMixed.ne_str_int (fin_bl I q (by simp))
  |str j=>obtain ⟨t',rfl⟩:=ry;exact ne_str (fin_bl I q (congrArg not dec_str))
  |_=>exact absurd (show false=true from hs) Bool.false_ne_true
 |byt i=>
  obtain ⟨t,rfl⟩:=rx;cases y with
  |byt j=>obtain ⟨t',rfl⟩:=ry;exact PySem.W.ne_bytes (fin_bl I q (congrArg not dec_byt))
  |_=>exact absurd (show false=true from hs) Bool.false_ne_true
 |_=>cases y<;>exact absurd (show false=true from hs) Bool.false_ne_true
theorem op_lt:OpR X (compareOp .Lt) (rI0 λi j=>.bl (decide (i<j))):=opB0 λ_ _ _ _ _ _ _ q=>lt_int q
theorem op_le:OpR X (compareOp .LtE) (rI0 λi j=>.bl (decide (i<=j))):=opB0 λ_ _ _ _ _ _ _ q=>le_int q
theorem op_gt:OpR X (compareOp .Gt) (rI0 λi j=>.bl (decide (j<i))):=opB0 λ_ _ _ _ _ _ _ q=>gt_int q
theorem op_ge:OpR X (compareOp .GtE) (rI0 λi j=>.bl (decide (j<=i))):=opB0 λ_ _ _ _ _ _ _ q=>ge_int q
theorem op_in_str:OpR X (compareOp .In) (λx y H Q=>∃i j,x=.str i/\y=.str j/\Q (.bl (!(Builtin.Str.occurrences j i 0 j.length 1).isEmpty)) H):=by
 intro pins s σ H x y v u Q I rx ry h;obtain ⟨i,j,rfl,rfl,q⟩:=h;obtain ⟨t,rfl⟩:=rx;obtain ⟨t',rfl⟩:=ry;exact in_str (fin_bl I q rfl)
theorem op_isN:OpR X (compareOp .Is) (λx y H Q=>y=.non/\Q (.bl (decide (x=.non))) H):=by
 intro pins s σ H x y v u Q I rx ry h;obtain ⟨rfl,q⟩:=h;cases ry;refine is_none_gen (fin_bl I q ?_);cases x<;>first
  | (cases rx;rfl)
  | (obtain ⟨t,rfl⟩:=rx;rfl)
theorem op_notN:OpR X (compareOp .IsNot) (λx y H Q=>y=.non/\Q (.bl (!decide (x=.non))) H):=by
 intro pins s σ H x y v u Q I rx ry h;obtain ⟨rfl,q⟩:=h;cases ry;refine isnot_none_gen (fin_bl I q ?_);cases x<;>first
  | (cases rx;rfl)
  | (obtain ⟨t,rfl⟩:=rx;rfl)
theorem pe_cmpR {op:CmpOp} {r:R2} (ho:OpR X (compareOp op) r) (ha:PE X a ta) (hb:PE X b tb) (hm:behindInMarks op b=false):PE X (.Compare a [op] [b] pos) (tOp r ta tb):=by
 intro pins s σ H Q I h;exact wpAny_Compare1 (binT ha hb I h λv u s2 x y H2 I2 rx ry q=>ho pins s2 σ H2 x y v u Q I2 rx ry q) hm
def TruV (K:Fg) (x:V) (H:Hp) (k:Bool):Prop:=
 match x with
 | .non=>k=false
 | .bl b=>k=b
 | .int i=>k=(i != 0)
 | .str y=>y.length<=sizeLine/\k=((y.length:Int) != 0)
 | .byt y=>y.size<=sizeLine/\k=((y.size:Int) != 0)
 | .ref p=>(∃xs,SqL K H p xs/\k=!xs.isEmpty)\/(∃xs,SqT K H p xs/\k=!xs.isEmpty)\/∃kvs,H p=some (.dK kvs)/\k=!kvs.isEmpty
 |_=>False
theorem isEmpty_kv {κ:Type} {kvs:List (κ × V)} {vs:List (κ × Value)} (r:KV kvs vs):(!vs.isEmpty)=!kvs.isEmpty:=by
 cases r<;>rfl
theorem isEmpty_of {xs:List V} {its:List Value} (r:Vals xs its):(!its.toArray.isEmpty)=!xs.isEmpty:=by
 cases r<;>simp
theorem line63:(sizeLine:Nat)<2 ^ 63:=by rw[sizeLine_eq];decide
theorem tru_ok:TruR X (λx H Q=>∃k,TruV X.K x H k/\Q k H):=by
 intro pins s σ H x v Q I rx h;obtain ⟨k,e,q⟩:=h;have hl:=line63;have hs:sizeLine=16777216:=sizeLine_eq;cases x with
 |non=>
  cases rx;have e':k=false:=e;subst e';exact truthy_none ⟨H,I,q⟩
 |bl b=>
  cases rx;have e':k=b:=e;subst e';exact wpAny_truthy_bool ⟨H,I,q⟩
 |int i=>
  obtain ⟨t,rfl⟩:=rx;have e':k=(i != 0):=e;subst e';exact PySem.P.truthy_int ⟨H,I,q⟩
 |str y=>
  obtain ⟨t,rfl⟩:=rx;obtain ⟨hy,e'⟩:y.length<=sizeLine/\k=((y.length:Int) != 0):=e;subst e';exact PySem.P.truthy_str (by lia) ⟨H,I.tok _,q⟩
 |byt y=>
  obtain ⟨t,rfl⟩:=rx;obtain ⟨hy,e'⟩:y.size<=sizeLine/\k=((y.size:Int) != 0):=e;subst e';exact PySem.W.truthy_bytes (by lia) ⟨H,I.tok _,q⟩
 |ref p=>
  cases rx;have e':(∃xs,SqL X.K H p xs/\k=!xs.isEmpty)\/(∃xs,SqT X.K H p xs/\k=!xs.isEmpty)\/∃kvs,H p=some (.dK kvs)/\k=!kvs.isEmpty:=e;rcases e' with ⟨xs,hx,e'⟩|⟨xs,hx,e'⟩|⟨kvs,hx,e'⟩
  ·subst e';obtain ⟨its,r,pl,hz⟩:=I.list hx;have hlen:=r.length;exact wpAny_truthy_list pl.isList (by simp only [List.size_toArray];lia) ⟨H,I.tok _,by rw[isEmpty_of r];exact q⟩
  ·subst e';obtain ⟨its,r,pl,hz⟩:=I.tuple hx;have hlen:=r.length;exact truthy_tuple pl (by simp only [List.size_toArray];lia) ⟨H,I.tok _,by rw[isEmpty_of r];exact q⟩
  ·subst e';obtain ⟨hz,hS,vs,r,m⟩:kvs.length<=sizeLine/\(p==sysModules)=false/\∃vs,KV kvs vs/\s.heap.DictOf (mixKind X.prog X.w) p vs:=I.hok p _ hx;have hlen:kvs.length=vs.length:=Paired.length r;exact wpAny_truthy_dict hS m (by lia) ⟨H,I.tok _,by rw[isEmpty_kv r];exact q⟩
 |_=>exact (show False from e).elim
theorem op_add_str:OpR X (binaryOp .Add) (λx y H Q=>∃i j,x=.str i/\y=.str j/\i.length+j.length<=sizeLine/\Q (.str (i++j)) H):=by
 intro pins s σ H x y v u Q I rx ry h;obtain ⟨i,j,rfl,rfl,hz,q⟩:=h;obtain ⟨t,rfl⟩:=rx;obtain ⟨t',rfl⟩:=ry;exact add_str (λt' tk=>⟨.str (i++j),H,I.tok _,⟨_,rfl⟩,q⟩) hz
theorem vals1 {x:V} {us:List Value} (r:Vals [x] us):∃u,us=[u]/\RelV x u:=by
 cases r with
 |cons r1 r2=>cases r2;exact ⟨_,rfl,r1⟩
theorem vals2 {x y:V} {us:List Value} (r:Vals [x,y] us):∃u w',us=[u,w']/\RelV x u/\RelV y w':=by
 cases r with
 |cons r1 r2=>
  cases r2 with
  |cons r3 r4=>cases r4;exact ⟨_,_,rfl,r1,r3⟩
theorem call_max2 (hc:X.calm=true):CallR X (.builtin "max") (λxs H Q=>∃i j,xs=[.int i,.int j]/\Q (.int (if j>i then j else i)) H):=by
 intro pins s σ H xs us Q I r h;obtain ⟨i,j,rfl,q⟩:=h;obtain ⟨u,w',rfl,⟨t,rfl⟩,⟨t',rfl⟩⟩:=vals2 r;refine max_two_ints (I.ok.hd hc) λh' tk k=>⟨_,H,I.kept k,?_,q⟩;by_cases hj:j>i
 ·rw[if_pos hj,if_pos hj];exact ⟨_,rfl⟩
 ·rw[if_neg hj,if_neg hj];exact ⟨_,rfl⟩
theorem call_min2 (hc:X.calm=true):CallR X (.builtin "min") (λxs H Q=>∃i j,xs=[.int i,.int j]/\Q (.int (if j<i then j else i)) H):=by
 intro pins s σ H xs us Q I r h;obtain ⟨i,j,rfl,q⟩:=h;obtain ⟨u,w',rfl,⟨t,rfl⟩,⟨t',rfl⟩⟩:=vals2 r;refine min_two_ints (I.ok.hd hc) λh' tk k=>⟨_,H,I.kept k,?_,q⟩;by_cases hj:j<i
 ·rw[if_pos hj,if_pos hj];exact ⟨_,rfl⟩
 ·rw[if_neg hj,if_neg hj];exact ⟨_,rfl⟩
theorem call_int1:CallR X (.type "int") (λxs H Q=>(∃i,xs=[.int i]/\Q (.int i) H)\/∃k,xs=[.bl k]/\Q (.int (if k then 1 else 0)) H):=by
 intro pins s σ H xs us Q I r h;rcases h with ⟨i,rfl,q⟩|⟨k,rfl,q⟩
 ·obtain ⟨u,rfl,t,rfl⟩:=vals1 r;exact call_int_int ⟨.int i,H,I,⟨_,rfl⟩,q⟩
 ·obtain ⟨u,rfl,r1⟩:=vals1 r;cases r1;exact call_int_bool ⟨.int (if k then 1 else 0),H,I.tok _,⟨_,rfl⟩,q⟩
def LenV (K:Fg) (x:V) (H:Hp) (n:Nat):Prop:=
 match x with
 | .str y=>y.length<=sizeLine/\n=y.length
 | .byt y=>y.size<=sizeLine/\n=y.size
 | .ref p=>(∃xs,SqL K H p xs/\n=xs.length)\/∃xs,SqT K H p xs/\n=xs.length
 |_=>False
theorem call_len:CallR X (.builtin "len") (λxs H Q=>∃x n,xs=[x]/\LenV X.K x H n/\Q (.int n) H):=by
 intro pins s σ H xs us Q I r h;obtain ⟨x,n,rfl,e,q⟩:=h;obtain ⟨u,rfl,rx⟩:=vals1 r;have hl:=line63;have hs:sizeLine=16777216:=sizeLine_eq;cases x with
 |str y=>
  obtain ⟨t,rfl⟩:=rx;obtain ⟨hy,e'⟩:y.length<=sizeLine/\n=y.length:=e;subst e';exact len_str (by lia) ⟨.int _,H,I.tok _,⟨_,rfl⟩,q⟩
 |byt y=>
  obtain ⟨t,rfl⟩:=rx;obtain ⟨hy,e'⟩:y.size<=sizeLine/\n=y.size:=e;subst e';exact PySem.W.len_bytes (by lia) ⟨.int _,H,I.tok _,⟨_,rfl⟩,q⟩
 |ref p=>
  cases rx;have e':(∃xs,SqL X.K H p xs/\n=xs.length)\/∃xs,SqT X.K H p xs/\n=xs.length:=e;rcases e' with ⟨xs,hx,e'⟩|⟨xs,hx,e'⟩
  ·subst e';obtain ⟨its,r',pl,hz⟩:=I.list hx;have hlen:=r'.length;exact Calls.call_len_list pl.isList (by simp only [List.size_toArray];lia) ⟨.int xs.length,H,I.tok _,⟨_,by simp only [List.size_toArray];rw[hlen]⟩,q⟩
  ·subst e';obtain ⟨its,r',pl,hz⟩:=I.tuple hx;have hlen:=r'.length;exact len_tuple pl (by simp only [List.size_toArray];lia) ⟨.int xs.length,H,I.tok _,⟨_,by simp only [List.size_toArray];rw[hlen]⟩,q⟩
 |_=>exact (show False from e).elim
end
structure ObjM (h:Heap) (x dx C:Addr) (mA:Str->Option Value):Prop where
 obj:h.get? x=some (PySem.W.instObj C dx)
 ns:h.Ns1 dx mA
 ne:dx≠x
theorem lookIn_ns {h:Heap} {dx:Addr} {mA:Str->Option Value} (n:h.Ns1 dx mA):∃od,h.get? dx=some od/\∀name,PySem.W.lookIn name od=some (mA name):=by
 obtain ⟨o,es,ep,ho,hd,hk,_,hm⟩:=n;refine ⟨o,ho,λname=>?_⟩;have e:=hm name;unfold nsFind findBy at e;rw[<-Array.find?_toList] at e;unfold PySem.W.lookIn;rw[hd];dsimp only;split
 ·rename_i y q;rw[q] at e;exact congrArg some e
 ·rename_i q;rw[q] at e;have a:es.toList.any (·.refKey)=false:=by
   rw[List.any_eq_false];intro y hy;obtain ⟨z,t,hkey⟩:=hk y (Array.mem_toList_iff.mp hy);simp [DictEntry.refKey,hkey]
  have a':¬es.toList.any (·.refKey)=true:=by rw[a];exact Bool.false_ne_true
  rw[if_neg a'];exact congrArg some e
theorem ObjM.look {h:Heap} {x dx C:Addr} {mA:Str->Option Value} (I:ObjM h x dx C mA):∃od,PySem.W.InstAt h x (PySem.W.instObj C dx) C (some od)/\∀name,PySem.W.lookIn name od=some (mA name):=
 let ⟨od,ho,hl⟩:=lookIn_ns I.ns
 ⟨od,⟨I.obj,rfl,rfl,ho⟩,hl⟩
section
variable {prog:Program} {w:World} {A:Around} {E:Value->Shared->Prop} {s:Shared} {K:Fg} {x dx C f:Addr} {mA:Str->Option Value} {name:Str} {v:Value}
end
theorem RelO.some_of {v:V} {o:Option Value} (r:RelO (some v) o):∃u,o=some u/\RelV v u:=by
 cases o with
 |none=>exact (show False from r).elim
 |some u=>exact ⟨u,rfl,r⟩
theorem handed_of {v:V} {u:Value} (r:RelV v u):PySem.W.handedIn u=true:=by
 cases v with
 |non=>cases (show u=Value.none from r);rfl
 |bl b=>cases (show u=Value.bool b from r);rfl
 |int i=>obtain ⟨t,e⟩:=(show ∃t,u=Value.int i t from r);cases e;rfl
 |str x=>obtain ⟨t,e⟩:=(show ∃t,u=Value.str x t from r);cases e;rfl
 |byt b=>obtain ⟨t,e⟩:=(show ∃t,u=Value.bytes b t from r);cases e;rfl
 |flt b=>obtain ⟨t,e⟩:=(show ∃t,u=Value.float b t from r);cases e;rfl
 |ref a=>cases (show u=Value.ref a from r);rfl
 |ty n=>cases (show u=Value.type n from r);rfl
section
variable {P:Program} {w:World} {H H':Hp} {h h':Heap} {a C dx:Addr} {fs fs':List (Str × V)}
theorem ins_get (hok:HOk P w H h) (e:H a=some (.ins C dx fs)):∃mA,ObjM h a dx C mA/\(∀f,RelO (fs.lookup f) (mA f))/\PySem.Within mA (fs.map (·.1))/\fs.length<=1000/\H dx=some (.own a):=by
 obtain ⟨d,z,ne,ob,mA,n,r,q⟩:=(show ObjOk P w H h a (.ins C dx fs) from hok a _ e);exact ⟨mA,⟨ob,n,ne⟩,r,q,z,d⟩
end
structure Cls (K:Fg) (C:Addr):Prop where
 pg:PySem.W.plainGet K C Str.empty=true
 hd:PySem.W.hasDictIn K C=true
 po:PySem.W.plainOver K C=true
 sa:PySem.W.findIn K (.ref C) "__setattr__"=some (some (.builtin "object.__setattr__"))
theorem Cls.get {K:Fg} {C:Addr} (c:Cls K C) (f:Str):PySem.W.plainGet K C f=true:=c.pg
section
variable {X:Cx} {pins:List (Addr × Obj)} {σ:St} {H:Hp} {s:Shared} {a C dx:Addr} {fs:List (Str × V)} {f:Str} {v:V} {A:Around} {E:Value->Shared->Prop}
theorem attr_of {prog:Program} {w:World} {env:Env} {e:Expr} {f:Str} {pos:Pos} {s:Shared} {Q:Value->Shared->Prop} (hb:attributeBase e f env (eval e env)=eval e env)
  (h:wpAny (model prog w) A (eval e env) (λo s₁=>wpAny (model prog w) A (getAttr o f true) Q E s₁) E s):wpAny (model prog w) A (eval (.Attribute e f pos) env) Q E s:=
 Attribute_any_ h (by rw[arm_eval_Attribute,hb])
end
section
variable {X:Cx} {o e value:Expr} {f:Str} {pos pos' tpos:Pos} {ta tv:TE}
end
section
variable {X:Cx} {pins:List (Addr × Obj)} {σ:St} {H:Hp} {s:Shared} {A:Around} {E:Value->Shared->Prop} {Q:Value->Shared->Prop} {c:Value} {b:Bool}
inductive TyOf (K:Fg) (H:Hp):V->Value->Prop where
 |non:TyOf K H .non (.type "NoneType")
 |bl (x:Bool):TyOf K H (.bl x) (.type "bool")
 |int (i:Int):TyOf K H (.int i) (.type "int")
 |str (x:Str):TyOf K H (.str x) (.type "str")
 |flt (x:UInt64):TyOf K H (.flt x) (.type "float")
 |lst {a:Addr} {xs:List V} (e:H a=some (.lst xs)):TyOf K H (.ref a) (.type "list")
 |frz {a:Addr} {o:Obj} {xs:List V} (e:H a=some (.frz o (.lst xs))):TyOf K H (.ref a) (.type "list")
 |tup {a:Addr} {xs:List V} (e:H a=some (.tup xs)):TyOf K H (.ref a) (.type "tuple")
 |dK {a:Addr} {kvs:List (Key × V)} (e:H a=some (.dK kvs)):TyOf K H (.ref a) (.type "dict")
 |dT {a:Addr} {kvs:List (List Key × V)} (e:H a=some (.dT kvs)):TyOf K H (.ref a) (.type "dict")
 |ins {a C dx:Addr} {fs:List (Str × V)} (e:H a=some (.ins C dx fs)) (cl:Cls K C) (ha:PySem.W.findIn K (.ref C) "__class__"=some (some (.builtin "object.__class__")))
   (hn:PySem.W.specialIn K (.builtin "object.__class__") "__get__"=some (some (.builtin "getset_descriptor.__get__"))) (htk:PySem.W.takesIn K (.builtin "object.__class__")=some true)
   (hm:PySem.W.mroIn K C (.type "object")=some true):TyOf K H (.ref a) (.ref C)
theorem isinst_ok {x:V} {u t:Value} (I:Inv X pins σ H s) (rx:RelV x u) (ty:TyOf X.K H x t) (e:PySem.W.kitOne X.K t c=some b) (h:∀tk,Q (.bool b) {s with toks:=tk}):
  wpAny (model X.prog X.w) A (call (.builtin "isinstance") [u,c]) Q E s:=by
 cases ty with
 |non=>cases (show u=Value.none from rx);exact PySem.W.kia_one PySem.W.kitx_none I.kIn tI e (λz=>nomatch z) h
 |bl y=>cases (show u=Value.bool y from rx);exact PySem.W.kia_one PySem.W.kitx_bool I.kIn tI e (λz=>nomatch z) h
 |int i=>obtain ⟨t,q⟩:=(show ∃t,u=Value.int i t from rx);cases q;exact PySem.W.kia_one PySem.W.kitx_int I.kIn tI e (λz=>nomatch z) h
 |str y=>obtain ⟨t,q⟩:=(show ∃t,u=Value.str y t from rx);cases q;exact PySem.W.kia_one PySem.W.kitx_str I.kIn tI e (λz=>nomatch z) h
 |flt y=>obtain ⟨t,q⟩:=(show ∃t,u=Value.float y t from rx);cases q;exact PySem.W.kia_one PySem.W.kitx_float I.kIn tI e (λz=>nomatch z) h
 |@lst a xs ea=>
  cases (show u=Value.ref a from rx);obtain ⟨_,_,n,_,h1⟩:=(show ObjOk X.prog X.w H s.heap a (.lst xs) from I.hok a _ ea);exact PySem.W.kia_one PySem.W.kitx_list I.kIn ⟨_,h1,rfl⟩ e (λz=>nomatch z) h
 |@frz a ob xs ea=>
  cases (show u=Value.ref a from rx);obtain ⟨_,_,_,n,_,h1⟩:=(show ObjOk X.prog X.w H s.heap a (.frz ob (.lst xs)) from I.hok a _ ea);exact PySem.W.kia_one PySem.W.kitx_list I.kIn ⟨_,h1,rfl⟩ e (λz=>nomatch z) h
 |@tup a xs ea=>
  cases (show u=Value.ref a from rx);obtain ⟨_,_,_,p⟩:=(show ObjOk X.prog X.w H s.heap a (.tup xs) from I.hok a _ ea);obtain ⟨o,h1,h2,_⟩:=p;exact PySem.W.kia_one PySem.W.kitx_tuple I.kIn ⟨o,h1,h2⟩ e (λz=>nomatch z) h
 |@dK a kvs ea=>
  cases (show u=Value.ref a from rx);obtain ⟨_,_,vs,_,p⟩:=(show ObjOk X.prog X.w H s.heap a (.dK kvs) from I.hok a _ ea);obtain ⟨o,es,ep,h1,h2,_⟩:=p;exact PySem.W.kia_one PySem.W.kitx_dict I.kIn ⟨o,h1,h2.1⟩ e (λz=>nomatch z) h
 |@dT a kvs ea=>
  cases (show u=Value.ref a from rx);obtain ⟨_,_,xs,_,o,es,ep,h1,h2,_⟩:=(show ObjOk X.prog X.w H s.heap a (.dT kvs) from I.hok a _ ea);exact PySem.W.kia_one PySem.W.kitx_dict I.kIn ⟨o,h1,h2.1⟩ e (λz=>nomatch z) h
 |@ins a C dx fs ea cl ha hn htk hm=>
  cases (show u=Value.ref a from rx);obtain ⟨mA,O,_⟩:=ins_get I.hok ea;obtain ⟨od,J,_⟩:=O.look;exact PySem.W.kia_one (PySem.W.kitx_own (cl.get _) cl.hd ha hn htk hm) I.kIn J e (λz=>nomatch z) h
end
structure Room (k:Nat) (A:Around):Prop where
 hd:A.handled=none
 dp:A.depth+3 * k+5<recursionLimit
 un:A.units+16 * k+200<cLine
theorem Room.mono {j k:Nat} {A:Around} (r:Room k A) (h:j<=k):Room j A:=⟨r.hd,by have:=r.dp;lia,by have:=r.un;lia⟩
theorem Room.deeper {k:Nat} {A:Around} (r:Room (k+1) A) (env:Env):Room k (A.deeper env):=
 ⟨r.hd,by have:=r.dp;show A.depth+1+3 * k+5<_;lia,by have:=r.un;show A.units+3+16 * k+200<_;lia⟩
theorem make_depth {A:Around} {C:Addr} {us:List Value} {kw:List (Str × Value)}:(A.under (.builtin "type.__call__" ⟨.ref C::us,kw⟩)).depth=A.depth+1:=by
 first|rfl|simp [Around.under,Code.weight,Code.isCreation,Code.isGuard,Code.isCaller,Code.frames,Code.isFrame,guardIds]
theorem Room.depth {k:Nat} {A:Around} (r:Room k A):A.depth<recursionLimit:=by have:=r.dp;lia
theorem Room.units {k:Nat} {A:Around} (r:Room k A):A.units+64<cLine:=by have:=r.un;lia
def tNil:TA:=λ_ H Q=>Q [] H
def tCons (ta:TE) (tr:TA):TA:=λσ H Q=>ta σ H λx H1=>tr σ H1 λxs H2=>Q (x::xs) H2
section
variable {X:Cx} {e:Expr} {es:List Expr} {te:TE} {t:TA} {pos:Pos}
theorem pa_nil:PA X [] tNil:=λ_ _ _ _ H Q I h=>Calls.spliced_nil ⟨[],H,I,.nil,h⟩
theorem pa_cons (ha:PE X e te) (hr:PA X es t) (hs:starEach (e::es) X.env=(false,eval e X.env)::starEach es X.env:=by rfl):PA X (e::es) (tCons te t):=by
 intro pos pins s σ H Q I h;rw[hs];show wpAny _ _ (spliced ((false,eval e X.env)::backTo pos (starEach es X.env))) _ _ s;refine Calls.spliced_cons (thn (ha pins s σ H _ I h) λu s1 ⟨x,H1,I1,r1,q1⟩=>?_);exact thn (hr pos pins s1 σ H1 _ I1 q1) λus s2 ⟨xs,H2,I2,r2,q2⟩=>⟨x::xs,H2,I2,.cons r1 r2,q2⟩
def tTup (t:TA):TE:=λσ H Q=>t σ H λxs H1=>xs.length<=sizeLine/\∀p,H1 p=none->Q (.ref p) (upd H1 p (.tup xs))
def tLst (t:TA):TE:=λσ H Q=>t σ H λxs H1=>xs.length<=sizeLine/\∀p,H1 p=none->Q (.ref p) (upd H1 p (.lst xs))
theorem pe_tup {x1} (h:PA X es t):PE X (.Tuple es x1 pos) (tTup t):=by
 intro pins s σ H Q I hq;refine wpAny_Tuple_spliced (thn (h pos pins s σ H _ I hq) λus s1 ⟨xs,H1,I1,r,z,q⟩=>⟨by rw[<-r.length];exact z,?_⟩);have hf:H1 s1.heap.objs.size=none:=I1.hok.fresh (Nat.le_refl _);refine ⟨.ref s1.heap.objs.size,upd H1 s1.heap.objs.size (.tup xs),I1.laid (t':=s1.toks) (λb u e=>Heap.get?_push_of_some _ e) (Nat.le_refl _) ?_,rfl,q _ hf⟩;exact ⟨z,us,r,⟨_,Heap.get?_push_size _ rfl,rfl,_,rfl⟩⟩
theorem pe_lst (h:PA X es t):PE X (.List es pos) (tLst t):=by
 intro pins s σ H Q I hq;refine wpAny_List_spliced (thn (h pos pins s σ H _ I hq) λus s1 ⟨xs,H1,I1,r,z,q⟩=>⟨by rw[<-r.length];exact z,?_⟩);have hf:H1 s1.heap.objs.size=none:=I1.hok.fresh (Nat.le_refl _);refine ⟨.ref s1.heap.objs.size,upd H1 s1.heap.objs.size (.lst xs),I1.laid (t':=s1.toks) (λb u e=>Heap.get?_push_of_some _ e) (Nat.le_refl _) ?_,rfl,q _ hf⟩;exact ⟨z,us,0,r,Heap.get?_push_size _ rfl⟩
end
abbrev Sp:=List V->Hp->VK->XK->Prop
abbrev CXT:=List Env->Hp->Shared->XK->Value->Shared->Prop
structure Env0 (P:Program) (w:World) (K:Fg) (mg:Str->Option Value) (base:Heap) (A:Around) (outer:List Env) (s:Shared) (H:Hp):Prop where
 frames:A.frames=some outer
 mod:Mod K mg base
 bs:∀b o,base.get? b=some o->s.heap.get? b=some o/\H b=none
 bsz:base.objs.size<=s.heap.objs.size
 funs:s.heap.FunFrames base outer
 frf:∀b∈frs outer,H b=none
 hok:HOk P w H s.heap
 bare:AllBare s.gens
def CE (outer:List Env) (P:Program) (w:World) (H:Hp) (s:Shared) (Q:VK) (u:Value) (s':Shared):Prop:=
 ∃v H',s'.os=s.os/\AllBare s'.gens/\Un (frs outer) [] H H' s.heap s'.heap/\HOk P w H' s'.heap/\RelV v u/\Q v H'
def CR (CX:CXT) (outer:List Env) (P:Program) (w:World) (H:Hp) (s:Shared) (Q:VK) (E:XK) (r:Result) (s':Shared):Prop:=
 match r with
 | .ok (.ret u)=>CE outer P w H s Q u s'
 | .ok _=>False
 | .error e=>CX outer H s E e s'
structure FnOk (P:Program) (w:World) (K:Fg) (mg:Str->Option Value) (base:Heap) (CX:CXT) (k:Nat) (f:Addr) (fd:FuncData) (ps:List Str) (sp:Sp):Prop where
 len:∀vs H Q E,sp vs H Q E->vs.length=ps.length
 run:∀(A:Around) (outer:List Env) (s:Shared) (H:Hp) (args:Args) (us:List Value) (vs:List V) (Q:VK) (E:XK),Room k A->Env0 P w K mg base A outer s H->BindsTo s fd args (ps.zip us)->Vals vs us->sp vs H Q E->
  codeAny (model P w) A (.call (.ref f) args) (CR CX outer P w H s Q E) s
section
variable {X:Cx} {pins:List (Addr × Obj)} {σ:St} {H:Hp} {s s':Shared}
theorem Inv.env0 (I:Inv X pins σ H s):Env0 X.prog X.w X.K X.mg X.base X.A X.stack s H:=
 ⟨I.ok.frames,I.ok.mod,I.bs,Nat.le_trans I.ok.bsz I.sz,I.stack,I.stkFree,I.hok,I.bare⟩
theorem Inv.after {Q:VK} {u:Value} (I:Inv X pins σ H s) (h:CE X.stack X.prog X.w H s Q u s'):EP X pins σ Q u s':=by
 obtain ⟨v,H',os,bare,un,hok,r,q⟩:=h;obtain ⟨hh,g,d,t,os'⟩:=s';obtain rfl:os'=s.os:=os;exact ⟨v,H',I.call (h':=hh) (g':=g) (d':=d) (t':=t) (ch:=[]) un hok bare (λb z=>absurd z (by simp)),r,q⟩
end
def Binds (K:Fg) (fd:FuncData) (ps:List Str) (ds:List Value):Prop:=
 ∀(s:Shared) (us:List Value),K.In s.heap->(us++ds).length=ps.length->BindsTo s fd ⟨us,[]⟩ (ps.zip (us++ds))
theorem Binds.all {K:Fg} {fd:FuncData} {ps:List Str} (h:∀us:List Value,us.length=ps.length->bindArgs fd ⟨us,[]⟩=pure (ps.zip us)):Binds K fd ps []:=λs us _ hl=>by
 rw[List.append_nil] at hl ⊢;exact .of_eq (h us hl)
def Passes (CX:CXT) (X:Cx) (E:XK):Prop:=∀(pins:List (Addr × Obj)) (σ:St) (H:Hp) (s:Shared) (e:Value) (s':Shared),Inv X pins σ H s->CX X.stack H s E e s'->X.xe e s'
section
variable {X:Cx} {CX:CXT} {k:Nat} {f C:Addr} {fd:FuncData} {ps:List Str} {sp:Sp} {dvs:List V} {ds:List Value} {E:XK} {x m:Str} {p pos apos:Pos} {e o:Expr} {es:List Expr} {ta:TE} {t:TA}
end
section
variable {X:Cx} {CX:CXT} {k:Nat} {f C:Addr} {fd:FuncData} {ps ks:List Str} {sp:Sp} {E:XK} {x m:Str} {p pos apos kpos:Pos} {e o:Expr} {es:List Expr} {kws:List Keyword} {te ta:TE} {t tk:TA} {nm:Option Str}
variable {g:List Value->List Value->List Value} {gV:List V->List V->List V}
end
structure FnScope (N P:List Str) (sc:Scope):Prop where
 kind:sc.kind=.function
 co:sc.isCoroutine=false
 gen:sc.isGenerator=false
 nd:N.Nodup
 pre:N.take P.length=P
 par:∀x∈P,sc.names.lookup x=some .local\/sc.names.lookup x=some .cell
 nofree:∀y∈sc.names,y.2≠.free
theorem bindL_out {kindOf:Str->Option NameKind} {x:Str}:∀{binds:List (Str × Value)} {m:Str->Option Value},(∀v,(x,v)∉binds)->bindL kindOf binds m x=m x
 |[],_,_=>rfl
 | (n,v)::r,m,h=>by
  unfold bindL;rw[bindL_out λw hw=>h w (List.mem_cons_of_mem _ hw)];split
  ·have:x≠n:=by rintro rfl;exact h v List.mem_cons_self
   simp [this]
  ·rfl
theorem bindC_out {kindOf:Str->Option NameKind} {x:Str}:∀{binds:List (Str × Value)} {m:Str->Option Value},(∀v,(x,v)∉binds)->bindC kindOf binds m x=m x
 |[],_,_=>rfl
 | (n,v)::r,m,h=>by
  unfold bindC;rw[bindC_out λw hw=>h w (List.mem_cons_of_mem _ hw)];split
  ·rfl
  ·have:x≠n:=by rintro rfl;exact h v List.mem_cons_self
   simp [this]
theorem bindL_get {kindOf:Str->Option NameKind} {x:Str} {v:Value}:∀{P:List Str} {vs:List Value} {i:Nat} {m:Str->Option Value},P.Nodup->P[i]?=some x->vs[i]?=some v->kindOf x=some .local->
  bindL kindOf (P.zip vs) m x=some v
 |[],_,_,_,_,h,_,_=>by simp at h
 |_::_,[],_,_,_,_,h,_=>by simp at h
 |p::P,w::vs,0,m,nd,h1,h2,hk=>by
  simp at h1 h2;subst h1;subst h2;show bindL kindOf ((p,w)::P.zip vs) m p=_;unfold bindL;rw[bindL_out λv hv=>(List.nodup_cons.mp nd).1 (List.of_mem_zip hv).1,if_pos hk];simp
 |p::P,w::vs,i+1,m,nd,h1,h2,hk=>by
  show bindL kindOf ((p,w)::P.zip vs) m x=_;unfold bindL;exact bindL_get (i:=i) (List.nodup_cons.mp nd).2 (by simpa using h1) (by simpa using h2) hk
theorem bindC_get {kindOf:Str->Option NameKind} {x:Str} {v:Value}:∀{P:List Str} {vs:List Value} {i:Nat} {m:Str->Option Value},P.Nodup->P[i]?=some x->vs[i]?=some v->kindOf x≠some .local->
  bindC kindOf (P.zip vs) m x=some v
 |[],_,_,_,_,h,_,_=>by simp at h
 |_::_,[],_,_,_,_,h,_=>by simp at h
 |p::P,w::vs,0,m,nd,h1,h2,hk=>by
  simp at h1 h2;subst h1;subst h2;show bindC kindOf ((p,w)::P.zip vs) m p=_;unfold bindC;rw[bindC_out λv hv=>(List.nodup_cons.mp nd).1 (List.of_mem_zip hv).1,if_neg hk];simp
 |p::P,w::vs,i+1,m,nd,h1,h2,hk=>by
  show bindC kindOf ((p,w)::P.zip vs) m x=_;unfold bindC;exact bindC_get (i:=i) (List.nodup_cons.mp nd).2 (by simpa using h1) (by simpa using h2) hk
def start (N:List Str) (vs:List V):St:=vs.map some++List.replicate (N.length - vs.length) none
def cxOf (CX:CXT) (P:Program) (w:World) (K:Fg) (mg:Str->Option Value) (base:Heap) (N:List Str) (qual:Str) (scope:Scope) (f:Addr) (cd:Value) (A:Around) (outer:List Env) (s:Shared) (H:Hp) (E:XK):Cx where
 prog:=P
 w:=w
 K:=K
 mg:=mg
 base:=base
 A:=A.deeper (envOfC qual scope s.heap.objs.size f cd)
 N:=N
 s₀:=s
 H₀:=H
 env:=envOfC qual scope s.heap.objs.size f cd
 outer:=outer
 stack:=envOfC qual scope s.heap.objs.size f cd::outer
 ex:=[]
 calm:=true
 fn:=λ_=>true
 pn:=[]
 xe:=λe s'=>wpAny (model P w) (A.deeper (envOfC qual scope s.heap.objs.size f cd)) (leaving (envOfC qual scope s.heap.objs.size f cd) e) (λ_ s''=>CX outer H s E e s'') (λe' s''=>CX outer H s E e' s'') s'
theorem cell_has {sc:Scope} {n:Nat} {x:Str} (h:sc.names.lookup x=some .cell):∃c,(cellsFrom n sc.names []).lookup x=some c:=by
 have q:=PySem.W.cellsFrom_some sc.names n [] (.inl h);exact Option.isSome_iff_exists.mp q
theorem inv_start {CX:CXT} {P:Program} {w:World} {K:Fg} {mg:Str->Option Value} {base:Heap} {N ps:List Str} {qual:Str} {scope:Scope} {f:Addr} {cd:Value} {A:Around} {outer:List Env} {s s1:Shared} {H:Hp} {E:XK} {us:List Value} {vs:List V}
  (S:FnScope N ps scope) (hd:A.handled=none) (e0:Env0 P w K mg base A outer s H) (hl:vs.length=ps.length) (r:Vals vs us)
  (x:InCallC s s.heap.objs.size (bindL (envOfC qual scope s.heap.objs.size f cd).kindOf (ps.zip us) λ_=>none) (cellsFrom (s.heap.objs.size+1) scope.names []) (bindC (envOfC qual scope s.heap.objs.size f cd).kindOf (ps.zip us) λ_=>none) s1):
  Inv (cxOf CX P w K mg base N qual scope f cd A outer s H E) [] (start N vs) H s1:=by
 have hpl:ps.length<=N.length:=by have:=congrArg List.length S.pre;rw[List.length_take] at this;lia
 obtain ⟨h1,tk,rfl,hk⟩:=x.done;have noA:∀b:Addr,b∉(cxOf CX P w K mg base N qual scope f cd A outer s H E).ex:=λb z=>absurd (show b∈([]:List Addr) from z) (by simp);refine ⟨⟨e0.mod,S.kind,rfl,rfl,Nat.le_refl _,λy z c h1 h2=>?_,λy hy=>?_,λy c _ h=>?_,λ_=>hd,Around.frames_deeper e0.frames,.inr ⟨rfl,rfl⟩,λb z=>absurd z (noA b),e0.bs,e0.bsz,λb _ _=>noA b,λb z=>absurd z (noA b),e0.funs,e0.frf⟩,
  rfl,e0.bare,Un.kept hk,⟨_,x.toInCall.ns,λi y v h1 h2 h3=>?_⟩,λy c h=>⟨_,x.cell y c h⟩,e0.hok.fresh (Nat.le_refl _),λy c h=>?_,λp hp=>absurd (show p∈([]:List (Addr × Obj)) from hp) (by simp),e0.hok.kept hk,?_⟩
 ·exact name_of_addr x.apart (PySem.mem_of_lookup h1) (PySem.mem_of_lookup h2)
 ·have hy:scope.names.lookup y=some .cell\/scope.names.lookup y=some .free:=hy;rcases hy with hy|hy
  ·exact cell_has hy
  ·exact absurd rfl (S.nofree _ (PySem.mem_of_lookup hy))
 ·exact Nat.le_of_lt (x.above y c (PySem.mem_of_lookup h))
 ·have hi:i<vs.length:=by
   unfold start at h2;by_cases hi:i<vs.length
   ·exact hi
   ·rw[List.getElem?_append_right (by simpa using hi)] at h2;rw[List.getElem?_replicate] at h2;split at h2<;>cases h2
  have ha:vs[i]?=some v:=by
   unfold start at h2;rw[List.getElem?_append_left (by simpa using hi),List.getElem?_map] at h2;cases e:vs[i]? with
   |none=>rw[e] at h2;cases h2
   |some a=>rw[e] at h2;cases h2;rfl
  obtain ⟨u,hu,rv⟩:=r.get ha;have hp:ps[i]?=some y:=by
   rw[<-S.pre,List.getElem?_take_of_lt (by lia)];exact h1
  have ndP:ps.Nodup:=by rw[<-S.pre];exact S.nd.sublist (List.take_sublist _ _)
  refine ⟨u,rv,?_⟩;rcases S.par y (List.mem_of_getElem? hp) with k|k
  ·exact .inl ⟨k,bindL_get ndP hp hu k⟩
  ·obtain ⟨c,e⟩:=cell_has (n:=s.heap.objs.size+1) k;refine .inr ⟨.inl k,c,e,?_⟩;have q:=x.cell y c e;rw[bindC_get ndP hp hu (by show scope.names.lookup y≠_;rw[k];decide)] at q;exact q
 ·exact e0.hok.fresh (Nat.le_of_lt (x.above y c (PySem.mem_of_lookup h)))
 ·unfold start;show _=N.length;rw[List.length_append,List.length_map,List.length_replicate];lia
theorem fn_of {CX:CXT} {P:Program} {w:World} {K:Fg} {mg:Str->Option Value} {base:Heap} {k:Nat} {f:Addr} {name qual:Str} {params:Arguments} {body:List Stmt} {scope:Scope} {dV kV doc pm cdv ct oc:Value} {an od:Option Addr}
  {osl:Array (Option Value)} {N ps:List Str} {sp:Sp} (lk:K.lookup f=some ⟨oc,od,.func (PySem.W.fnOf name qual params body scope dV kV doc pm an cdv ct),osl⟩) (hcd:PySem.W.codeIn K cdv qual=true) (S:FnScope N ps scope)
  (len:∀vs H Q E,sp vs H Q E->vs.length=ps.length)
  (hbody:∀(A:Around) (outer:List Env) (s:Shared) (H:Hp) (vs:List V) (Q:VK) (E:XK),Room k (A.deeper (envOfC qual scope s.heap.objs.size f cdv))->sp vs H Q E->
   ∃t,PSs (cxOf CX P w K mg base N qual scope f cdv A outer s H E) body t/\t {nx:=λ_ H'=>Q .non H',rt:=Q} (start N vs) H):
  FnOk P w K mg base CX (k+1) f (PySem.W.fnOf name qual params body scope dV kV doc pm an cdv ct) ps sp:=by
 refine ⟨len,λA outer s H args us vs Q E hr e0 hb r hsp=>?_⟩;have hl:=len _ _ _ _ hsp;have KX:K.In s.heap:=e0.mod.kin.keeps λb o e=>(e0.bs b o e).1;have lim:s.heap.NoLimit:=e0.mod.nolimit.keeps λb o e=>(e0.bs b o e).1;have hkind:∀y∈ps.zip us,scope.names.lookup y.1=some .local\/(scope.names.lookup y.1=some .cell/\((cellsFrom (s.heap.objs.size+1) scope.names []).lookup y.1).isSome=true):=λ⟨n,v⟩ hy=>by
  rcases S.par n (List.of_mem_zip hy).1 with q|q
  ·exact .inl q
  ·exact .inr ⟨q,PySem.W.cellsFrom_some _ _ _ (.inl q)⟩
 refine codeAny_call_function hr.depth (KX _ _ lk) rfl S.co S.gen rfl (PySem.W.codeRec_of KX hcd) (hb _ _ _ _ ?_);refine wpAny_newFunctionEnv_cells S.kind hkind λenv he s1 x=>?_;subst he;refine ⟨lim.keeps x.toInCall.keep,codeAny_func ?_⟩;obtain ⟨t,ht,hq⟩:=hbody A outer s H vs Q E (hr.deeper _) hsp;have I:Inv (cxOf CX P w K mg base N qual scope f cdv A outer s H E) [] (start N vs) H s1:=inv_start S hr.hd e0 hl r x;refine wpAny_mono (ht [] s1 (start N vs) H _ I hq) (λfl s' hs=>?_) λe s' hs=>hs;have fin:∀{σ':St} {H':Hp} {v:V} {u:Value},Inv (cxOf CX P w K mg base N qual scope f cdv A outer s H E) [] σ' H' s'->RelV v u->Q v H'->CE outer P w H s Q u s':=
  λ{σ' H' v u} J rv q=>⟨v,H',J.os,J.bare,J.base,J.hok,rv,q⟩
 cases fl with
 |ret u=>
  obtain ⟨v,σ',H',J,rv,q⟩:=hs;exact fin J rv q
 |next=>
  obtain ⟨σ',H',J,q⟩:=hs;exact fin (v:=V.non) (u:=Value.none) J rfl q
 |brk=>
  obtain ⟨_,_,_,q⟩:=hs;exact False.elim q
 |cont=>
  obtain ⟨_,_,_,q⟩:=hs;exact False.elim q
section
variable {X:Cx} {x:Str} {p pos:Pos} {e:Expr} {es:List Expr} {t:TA} {id T:String} {r:List V->Hp->VK->Prop}
def tCB (r:List V->Hp->VK->Prop) (t:TA):TE:=λσ H Q=>t σ H λvs H1=>r vs H1 Q
theorem pe_callB (hc:CallR X (.builtin id) r) (hg:Gl X x) (hm:X.mg x=none) (hv:bootBuiltins x=some (.builtin id)) (ha:PA X (e::es) t) (hn:x≠"__name__":=by decide) (hdb:(x==("__debug__":Str))=false:=by decide)
  (he:starEach (e::es) X.env=(false,eval e X.env)::starEach es X.env:=by rfl) (hpl:(backTo pos (starEach es X.env)).any (·.1)=false:=by rfl):PE X (.Call (.Name x p) (e::es) [] pos) (tCB r t):=by
 intro pins s σ H Q I h;refine wpAny_Call_Name_kw (ld_blt I hg hm hv ?_ hn hdb);exact PyProof.Rows.callWith_builtin1 (thn (ha pos pins s σ H _ I h) λus s1 ⟨vs,H1,I1,r1,q1⟩=>hc pins s1 σ H1 vs us Q I1 r1 q1) he hpl
theorem pe_callTy (hc:CallR X (.type T) r) (hg:Gl X x) (hm:X.mg x=none) (hv:bootBuiltins x=some (.type T)) (ha:PA X (e::es) t) (hn:x≠"__name__":=by decide) (hdb:(x==("__debug__":Str))=false:=by decide)
  (he:starEach (e::es) X.env=(false,eval e X.env)::starEach es X.env:=by rfl) (hpl:(backTo pos (starEach es X.env)).any (·.1)=false:=by rfl):PE X (.Call (.Name x p) (e::es) [] pos) (tCB r t):=by
 intro pins s σ H Q I h;refine wpAny_Call_Name_kw (ld_blt I hg hm hv ?_ hn hdb);exact PyProof.Rows.callWith_type1 (thn (ha pos pins s σ H _ I h) λus s1 ⟨vs,H1,I1,r1,q1⟩=>hc pins s1 σ H1 vs us Q I1 r1 q1) he hpl
end
end L2
namespace HT
open PySem PyProof.Rows
section
open PySem.SeqAt
open PySem.AutoSeq1 (wpAny_loadPart')
open PySem.MeetsSeq PySem.MeetsSeq2 PySem.MeetsSeq3
end
section
variable {prog:Program} {w:World} {A:Around} {E:Value->Shared->Prop} {s:Shared}
theorem cat_tup {t b:Addr} {vs ws:List Value} {Q:Value->Shared->Prop} (ht:IsTup s.heap t vs.toArray) (hb:IsTup s.heap b ws.toArray) (hv:vs≠[])
  (h1:ws=[]->Q (.ref t) s) (h2:ws≠[]->Q (.ref s.heap.objs.size) {s with heap:=s.heap.push {cls:=.type "tuple",data:=.seq (vs++ws).toArray}})
  (hsz:vs.length+ws.length<=sizeLine):wpAny (model prog w) A (binaryOp .Add (.ref t) (.ref b)) Q E s:=by
 obtain ⟨⟨cls,dd,data,sl⟩,ho,hc,n,hd⟩:=id ht;obtain ⟨⟨cls2,dd2,data2,sl2⟩,ho2,hc2,n2,hd2⟩:=id hb;simp only at hc hd hc2 hd2;subst hc hd hc2 hd2;have e:vs.toArray++ws.toArray=(vs++ws).toArray:=by simp
 by_cases hw:ws=[]
 ·exact concat_meets ⟨_,ho,rfl⟩ ⟨_,ho2,rfl⟩ noFill_tuple_add seq_tuple_add PySem.F.slot_tuple_add PySem.F.entry_tuple_add (PySem.F.args_tuple_add_2 _ _)
   (tuple_addW1 t b vs.toArray ws.toArray n n2 dd dd2 sl sl2 (by simpa using hv) (by simp [hw])) ⟨ho,ho2,h1 hw⟩
 ·refine concat_meets ⟨_,ho,rfl⟩ ⟨_,ho2,rfl⟩ noFill_tuple_add seq_tuple_add PySem.F.slot_tuple_add PySem.F.entry_tuple_add (PySem.F.args_tuple_add_2 _ _)
   (tuple_addW2 t b vs.toArray ws.toArray n n2 dd dd2 sl sl2 (by simpa using hv) (by simpa using hw) (by rw[List.size_toArray,List.size_toArray];exact hsz)) ⟨ho,ho2,?_⟩
  rw[e];exact h2 hw
def sIx (n d:Nat):Option Int->Nat
 |none=>d
 |some v=>if v<0 then (v+(n:Int)).toNat else min v.toNat n
theorem sIx_none (n d:Nat):sIx n d none=d:=rfl
theorem sIx_le (n d:Nat) (hd:d<=n) (o:Option Int):sIx n d o<=n:=by
 cases o with
 |none=>exact hd
 |some v=>
  show (if v<0 then (v+(n:Int)).toNat else min v.toNat n)<=n;by_cases hv:v<0
  ·rw[if_pos hv];lia
  ·rw[if_neg hv];exact Nat.min_le_right _ _
theorem clip_eq (v:Int) (n d:Nat):(if v<0 then max (v+(n:Int)) 0 else min v (n:Int))=((sIx n d (some v):Nat):Int):=by
 show (if v<0 then max (v+(n:Int)) 0 else min v (n:Int))=(((if v<0 then (v+(n:Int)).toNat else min v.toNat n):Nat):Int);by_cases hv:v<0
 ·simp only [if_pos hv];lia
 ·simp only [if_neg hv];lia
theorem adjust_gen (lo hi:Option Int) (n:Nat):Builtin.Slice.sliceAdjust lo hi 1 (n:Int)=(((sIx n 0 lo:Nat):Int),((sIx n n hi:Nat):Int)):=by
 have h1:¬((1:Int)<0):=by lia
 unfold Builtin.Slice.sliceAdjust;simp only [h1,if_false];refine Prod.ext ?_ ?_
 ·cases lo with
  |none=>rfl
  |some v=>exact clip_eq v n 0
 ·cases hi with
  |none=>rfl
  |some v=>exact clip_eq v n n
theorem places_gen (i j:Nat):Builtin.Slice.slicePlaces (i:Int) (j:Int) 1=j - i:=by
 unfold Builtin.Slice.slicePlaces;have h1:(1:Int)>0:=by lia
 simp only [h1,if_true,Int.ediv_one];split<;>lia
theorem slicePart_ {v:Value} {o:Option Int} {Q:Option Int->Shared->Prop} (p:IsPart v o) (h:Q o s):wpAny (model prog w) A (Builtin.Slice.slicePartIndex v) Q E s:=by
 cases p with
 |none=>exact slicePart_none h
 |int i t=>exact slicePart_int h
theorem sliceApplied_gen {sl:Addr} {vl vu:Value} {lo hi:Option Int} {n:Nat} {Q:Int × Int × Nat->Shared->Prop} (hs:s.heap.IsSliceOf sl vl vu .none) (pl:IsPart vl lo) (pu:IsPart vu hi)
  (h:Q (((sIx n 0 lo:Nat):Int),1,sIx n n hi - sIx n 0 lo) s):wpAny (model prog w) A (Builtin.Slice.sliceApplied (.ref sl) (pure (n:Int))) Q E s:=by
 obtain ⟨os,hos,hcs,hds⟩:=id hs;unfold Builtin.Slice.sliceApplied Builtin.Slice.sliceFields;refine wpAny_bind (wpAny_bind (wpAny_field hos hds (x:=vl) rfl (wpAny_bind (wpAny_field hos hds (x:=vu) rfl (wpAny_bind (wpAny_field hos hds (x:=.none) rfl (wpAny_pure ?_)))))));refine wpAny_bind (slicePart_none ?_);show wpAny _ _ (if ((1:Int)==0)=true then _ else _) _ _ s;rw[if_neg (by decide)];refine wpAny_bind (slicePart_ pl (wpAny_bind (slicePart_ pu (wpAny_bind (wpAny_pure ?_)))));show wpAny _ _ (match Builtin.Slice.sliceAdjust lo hi 1 (n:Int) with|(lo,hi)=>pure (lo,(1:Int),Builtin.Slice.slicePlaces lo hi 1)) _ _ s;rw[adjust_gen lo hi n];show wpAny _ _ (pure (((sIx n 0 lo:Nat):Int),(1:Int),Builtin.Slice.slicePlaces ((sIx n 0 lo:Nat):Int) ((sIx n n hi:Nat):Int) 1)) _ _ s;rw[places_gen];exact wpAny_pure h
theorem pick_gen (xs:Array Value) (i k:Nat):((List.range k).filterMap λ(m:Nat)=>xs[((i:Int)+(m:Int) * 1).toNat]?).toArray=((xs.toList.drop i).take k).toArray:=by
 have e:(λ(m:Nat)=>xs[((i:Int)+(m:Int) * 1).toNat]?)=λm=>xs[i+m]?:=by
  funext m
  have:((i:Int)+(m:Int) * 1).toNat=i+m:=by lia
  rw[this]
 rw[e];have:=pick_run xs i k;rw[List.filterMap_map] at this;have e2:((λx=>xs[x]?)∘λx=>i+x)=λm=>xs[i+m]?:=rfl;rw[e2] at this;rw[this]
theorem getItem_tuple_cut {t sl:Addr} {items:Array Value} {vl vu:Value} {lo hi:Option Int} {Q:Value->Shared->Prop} (ht:IsTup s.heap t items) (hs:s.heap.IsSliceOf sl vl vu .none) (pl:IsPart vl lo) (pu:IsPart vu hi)
  (hw:¬(sIx items.size 0 lo=0/\sIx items.size items.size hi=items.size))
  (h:Q (.ref s.heap.objs.size) {s with heap:=s.heap.push {cls:=.type "tuple",data:=.seq ((items.toList.drop (sIx items.size 0 lo)).take (sIx items.size items.size hi - sIx items.size 0 lo)).toArray}})
  (hsz:items.size<=sizeLine):wpAny (model prog w) A (getItem (.ref t) (.ref sl)) Q E s:=by
 have htake:sizeOk (.seq ((items.toList.drop (sIx items.size 0 lo)).take (sIx items.size items.size hi - sIx items.size 0 lo)).toArray):=by
  show ((items.toList.drop (sIx items.size 0 lo)).take (sIx items.size items.size hi - sIx items.size 0 lo)).toArray.size<=sizeLine;rw[List.size_toArray,List.length_take,List.length_drop,Array.length_toList];lia
 have hj:sIx items.size items.size hi<=items.size:=sIx_le _ _ (Nat.le_refl _) hi;obtain ⟨os,hos,hcs,hds⟩:=id hs;have hTs:s.TypeIs (.ref sl) "slice":=⟨os,hos,hcs⟩;unfold getItem
 try with_reducible refine wpAny_holding ?_
 first|refine wpAny_bind (wpAny_pure ?_)|skip
 refine wpAny_bind (wpAny_sequenceKey ht.typeIs (by decide) ?_);refine wpAny_bind (wpAny_callSpecial?_slot (name:=Str.ofString "__getitem__") ht.typeIs PyProof.Rows.slot_tuple_getitem
  (wpAny_call_entry PyProof.Rows.slot_tuple_getitem ht.typeIs entry_tuple_getitem ?_ (args_tuple_getitem _ _)))
 show wpAny _ _ (Builtin.Tuple.tupleItemsOf (.ref t) >>=_) _ _ s;refine wpAny_bind (tupleItemsOf_ ht ?_);refine wpAny_bind (wpAny_typeOf hTs ?_);rw[if_pos (by decide)];refine wpAny_bind (sliceApplied_gen hs pl pu ?_);have hno:¬((((sIx items.size 0 lo:Nat):Int)==0&&(1:Int)==1&&(sIx items.size items.size hi - sIx items.size 0 lo)==items.size)=true):=by
  intro q;rw[Bool.and_eq_true,Bool.and_eq_true] at q;have q1:((sIx items.size 0 lo:Nat):Int)=0:=eq_of_beq q.1.1;have q2:sIx items.size items.size hi - sIx items.size 0 lo=items.size:=eq_of_beq q.2;exact hw ⟨by lia,by lia⟩
 show wpAny _ _ (if (((sIx items.size 0 lo:Nat):Int)==0&&(1:Int)==1&&(sIx items.size items.size hi - sIx items.size 0 lo)==items.size)=true then _ else _) _ _ s;rw[if_neg hno,pick_gen]
 first
  |exact wpAny_bind (m:=Builtin.Tuple.tupleExact _) (wpAny_newObj_type (wpAny_pure ⟨_,rfl,wpAny_pure h⟩) htake)
  |exact wpAny_bind (m:=Builtin.Tuple.tupleExact _) (wpAny_newObj_type (wpAny_bind (wpAny_pure (wpAny_pure ⟨_,rfl,wpAny_pure h⟩))) htake)
  |exact wpAny_bind (wpAny_bind (m:=Builtin.Tuple.tupleExact _) (wpAny_newObj_type (wpAny_pure (wpAny_pure ⟨_,rfl,wpAny_pure h⟩)) htake))
  |exact wpAny_bind (wpAny_bind (m:=Builtin.Tuple.tupleExact _) (wpAny_newObj_type (wpAny_pure ⟨_,rfl,wpAny_pure h⟩) htake))
end
end HT
namespace L2
open PySem PySem.Spec PyProof.Rows
abbrev TO:=St->Hp->(Option Int->Hp->Prop)->Prop
def PO (X:Cx) (e:Option Expr) (t:TO):Prop:=
 ∀(pins:List (Addr × Obj)) (s:Shared) (σ:St) (H:Hp) (Q:Option Int->Hp->Prop),Inv X pins σ H s->t σ H Q->
  wpAny (model X.prog X.w) X.A (evalPart e X.env) (λu s'=>∃o H',Inv X pins σ H' s'/\IsPart u o/\Q o H') X.xe s
def tNoPart:TO:=λ_ H Q=>Q none H
theorem intsAre_of {ns:List Int}:∀{us:List Value},Vals (ns.map V.int) us->IntsAre us ns:=by
 induction ns with
 |nil=>intro us r;rw[List.map_nil] at r;cases r;exact .nil
 |cons n ns ih=>
  intro us r;rw[List.map_cons] at r;cases r with
  |cons r1 r2=>
   obtain ⟨t,e⟩:=r1;subst e;exact .cons n t (ih r2)
section
variable {X:Cx} {e:Expr} {te:TE} {lo hi:Option Expr} {tl th:TO} {pos p2:Pos}
theorem po_none:PO X none tNoPart:=by
 intro pins s σ H Q I h;rw[evalPart_none];exact wpAny_pure ⟨none,H,I,.none,h⟩
def SlR (X:Cx) (r:V->Option Int->Option Int->Hp->VK->Prop):Prop:=
 ∀(pins:List (Addr × Obj)) (s:Shared) (σ:St) (H:Hp) (x:V) (v vl vu:Value) (lo hi:Option Int) (sl:Addr) (Q:VK),Inv X pins σ H s->RelV x v->s.heap.IsSliceOf sl vl vu .none->IsPart vl lo->IsPart vu hi->r x lo hi H Q->
  ∃T id,typeLookup (.type T) "__getitem__"=pure (some (.builtin id))/\s.TypeIs v T/\wpAny (model X.prog X.w) X.A (getItem v (.ref sl)) (EP X pins σ Q) X.xe s
def tSl (r:V->Option Int->Option Int->Hp->VK->Prop) (te:TE) (tl th:TO):TE:=λσ H Q=>te σ H λx H1=>tl σ H1 λl H2=>th σ H2 λu H3=>r x l u H3 Q
theorem pe_slice {r:V->Option Int->Option Int->Hp->VK->Prop} (hr:SlR X r) (he:PE X e te) (hl:PO X lo tl) (hu:PO X hi th):PE X (.Subscript e (.Slice lo hi none p2) pos) (tSl r te tl th):=by
 intro pins s σ H Q I h;refine Subscript_ (thn (he pins s σ H _ I h) λv s1 ⟨x,H1,I1,r1,q1⟩=>?_);refine wpAny_Slice (thn (hl pins s1 σ H1 _ I1 q1) λvl s2 ⟨l,H2,I2,pl,q2⟩=>thn (hu pins s2 σ H2 _ I2 q2) λvu s3 ⟨u,H3,I3,pu,q3⟩=>?_);rw[evalPart_none];refine wpAny_pure ?_;have I4:Inv X pins σ H3 {s3 with heap:=s3.heap.push {cls:=.type "slice",data:=.fields #[vl,vu,.none]}}:=I3.kept (t':=s3.toks) λb ob q=>Heap.get?_push_of_some _ q;obtain ⟨T,id,hT,ht,hg⟩:=hr pins {s3 with heap:=s3.heap.push {cls:=.type "slice",data:=.fields #[vl,vu,.none]}} σ H3 x v vl vu l u s3.heap.objs.size Q I4 r1 (Heap.IsSliceOf.new ..) pl pu q3;show wpAny (model X.prog X.w) X.A (subscriptTail e (.Slice lo hi none p2) v (.ref s3.heap.objs.size)) (EP X pins σ Q) X.xe {s3 with heap:=s3.heap.push {cls:=.type "slice",data:=.fields #[vl,vu,.none]}};exact tail_any (ops:=[.ref s3.heap.objs.size,v]) ht hT hg (by with_unfolding_all rfl)
def cutV (xs:List V) (lo hi:Option Int):List V:=(xs.drop (HT.sIx xs.length 0 lo)).take (HT.sIx xs.length xs.length hi - HT.sIx xs.length 0 lo)
theorem cutV_length (xs:List V) (lo hi:Option Int):(cutV xs lo hi).length<=xs.length:=by
 unfold cutV;rw[List.length_take,List.length_drop];lia
def rSlT (K:Fg):V->Option Int->Option Int->Hp->VK->Prop:=λx lo hi H Q=>∃a xs,x=.ref a/\SqT K H a xs/\
 ¬(HT.sIx xs.length 0 lo=0/\HT.sIx xs.length xs.length hi=xs.length)/\∀p,H p=none->Q (.ref p) (upd H p (.tup (cutV xs lo hi)))
theorem sl_tup:SlR X (rSlT X.K):=by
 intro pins s σ H x v vl vu lo hi sl Q I rx hs pl pu h;obtain ⟨a,xs,rfl,hx,hw,q⟩:=h;cases rx;obtain ⟨its,r,ht,hz⟩:=I.tuple hx;have hlen:its.toArray.size=xs.length:=by rw[List.size_toArray];exact r.length.symm
 refine ⟨"tuple",_,PyProof.Rows.slot_tuple_getitem.lookup,ht.typeIs,?_⟩;refine HT.getItem_tuple_cut ht hs pl pu (by rw[hlen];exact hw) ?_ (by rw[hlen];exact hz);rw[hlen];refine ⟨.ref s.heap.objs.size,_,I.laid (t':=s.toks) (o:=.tup (cutV xs lo hi)) (λb ob q=>Heap.get?_push_of_some _ q) (Nat.le_refl _) ?_,rfl,q _ (I.hok.fresh (Nat.le_refl _))⟩;exact ⟨Nat.le_trans (cutV_length xs lo hi) hz,_,(r.drop (HT.sIx xs.length 0 lo)).take (HT.sIx xs.length xs.length hi - HT.sIx xs.length 0 lo),IsTup.new _ _⟩
def rCatT (K:Fg):R2:=λx y H Q=>∃a b xs ys,x=.ref a/\y=.ref b/\SqT K H a xs/\SqT K H b ys/\xs≠[]/\xs.length+ys.length<=sizeLine/\
 (ys=[]->Q (.ref a) H)/\(ys≠[]->∀p,H p=none->Q (.ref p) (upd H p (.tup (xs++ys))))
theorem Vals.nil_iff {xs:List V} {us:List Value} (r:Vals xs us):us=[]↔xs=[]:=by
 cases r with
 |nil=>simp
 |cons _ _=>simp
theorem op_catT:OpR X (binaryOp .Add) (rCatT X.K):=by
 intro pins s σ H x y v u Q I rx ry h;obtain ⟨a,b,xs,ys,rfl,rfl,ha,hb,hx,hz,q1,q2⟩:=h;cases rx;cases ry;obtain ⟨its,r1,p1,_⟩:=I.tuple ha;obtain ⟨its2,r2,p2,_⟩:=I.tuple hb;refine HT.cat_tup p1 p2 (λz=>hx (r1.nil_iff.mp z)) (λz=>⟨.ref a,H,I,rfl,q1 (r2.nil_iff.mp z)⟩) (λz=>?_) (by rw[<-r1.length,<-r2.length];exact hz);refine ⟨.ref s.heap.objs.size,_,I.laid (t':=s.toks) (o:=.tup (xs++ys)) (λb ob q=>Heap.get?_push_of_some _ q) (Nat.le_refl _) ?_,rfl,q2 (λw=>z (r2.nil_iff.mpr w)) _ (I.hok.fresh (Nat.le_refl _))⟩;exact ⟨by rw[List.length_append];exact hz,_,r1.append r2,IsTup.new _ _⟩
end
def ixN (n:Nat) (i:Int):Option Nat:=if 0<=i then (if i<n then some i.toNat else none) else if -(n:Int)<=i then some (i+n).toNat else none
def atI {α:Type} (xs:List α) (i:Int):Option α:=(ixN xs.length i).bind λj=>xs[j]?
theorem ixN_seq {n:Nat} {i:Int} {j:Nat} (h:ixN n i=some j):seqIndex? i n=some j/\j<n/\-(n:Int)<=i/\i<n:=by
 unfold ixN at h;by_cases h0:0<=i
 ·rw[if_pos h0] at h;by_cases h1:i<n
  ·rw[if_pos h1] at h;have e:i.toNat=j:=Option.some.inj h;exact ⟨by rw[seqIndex_of h0 h1,e],by lia,by lia,h1⟩
  ·rw[if_neg h1] at h;cases h
 ·rw[if_neg h0] at h;by_cases h1:-(n:Int)<=i
  ·rw[if_pos h1] at h;have e:(i+n).toNat=j:=Option.some.inj h;exact ⟨by rw[seqIndex_neg (by lia) h1,e],by lia,h1,by lia⟩
  ·rw[if_neg h1] at h;cases h
theorem atI_get {α:Type} {xs:List α} {i:Int} {v:α} (h:atI xs i=some v):∃j,seqIndex? i xs.length=some j/\xs[j]?=some v/\j<xs.length/\-(xs.length:Int)<=i/\i<xs.length:=by
 unfold atI at h;cases e:ixN xs.length i with
 |none=>rw[e] at h;cases h
 |some j=>
  rw[e] at h;obtain ⟨h1,h2,h3,h4⟩:=ixN_seq e;exact ⟨j,h1,h,h2,h3,h4⟩
theorem atI_nat {α:Type} {xs:List α} {j:Nat} {v:α} (h:xs[j]?=some v):atI xs (j:Int)=some v:=by
 have hj:j<xs.length:=(List.getElem?_eq_some_iff.mp h).1;have e:ixN xs.length (j:Int)=some j:=by
  unfold ixN;rw[if_pos (by lia),if_pos (by lia)];simp
 unfold atI;rw[e];exact h
theorem atI_last {α:Type} (xs:List α) (v:α):atI (xs++[v]) (-1)=some v:=by
 have hl:(xs++[v]).length=xs.length+1:=by simp
 have e:ixN (xs++[v]).length (-1)=some xs.length:=by
  unfold ixN;rw[hl,if_neg (by decide),if_pos (by lia)]
  congr 1
  lia
 unfold atI;rw[e];show (xs++[v])[xs.length]?=some v;simp
def PlainIx (b:Expr):Prop:=∀o i,subscripted b false o i=operate [o,i] (getItem o i)
def IxR (X:Cx) (r:R2):Prop:=
 ∀(value slice:Expr) (pins:List (Addr × Obj)) (s:Shared) (σ:St) (H:Hp) (x y:V) (v u:Value) (Q:VK),Inv X pins σ H s->RelV x v->RelV y u->r x y H Q->
  subscripted slice false v u=operate [v,u] (getItem v u)->wpAny (model X.prog X.w) X.A (subscriptTail value slice v u) (EP X pins σ Q) X.xe s
def MtR (X:Cx) (id:String) (r:V->List V->Hp->VK->Prop):Prop:=
 ∀(pins:List (Addr × Obj)) (s:Shared) (σ:St) (H:Hp) (x:V) (xs:List V) (v:Value) (us:List Value) (Q:VK),Inv X pins σ H s->RelV x v->Vals xs us->r x xs H Q->
  wpAny (model X.prog X.w) X.A (call (.builtin id) (v::us)) (EP X pins σ Q) X.xe s
section
variable {X:Cx} {a b:Expr} {ta tb:TE} {pos:Pos}
theorem pe_ix {r:R2} (hr:IxR X r) (ha:PE X a ta) (hb:PE X b tb) (hs:PlainIx b):PE X (.Subscript a b pos) (tOp r ta tb):=by
 intro pins s σ H Q I h;exact Subscript_ (binT ha hb I h λv u s2 x y H2 I2 rx ry q=>hr a b pins s2 σ H2 x y v u Q I2 rx ry q (hs _ _))
def rIxL (K:Fg):R2:=λx y H Q=>∃p xs i v,x=.ref p/\y=.int i/\SqL K H p xs/\atI xs i=some v/\Q v H
def rIxT (K:Fg):R2:=λx y H Q=>∃p xs i v,x=.ref p/\y=.int i/\SqT K H p xs/\atI xs i=some v/\Q v H
def rIxS:R2:=λx y H Q=>∃z i c,x=.str z/\y=.int i/\z.length<=sizeLine/\atI z.cps.toList i=some c/\Q (.str ⟨#[c]⟩) H
theorem ix_list:IxR X (rIxL X.K):=by
 intro value slice pins s σ H x y v u Q I rx ry h hs;obtain ⟨p,xs,i,z,rfl,rfl,hq,he,q⟩:=h;cases rx;obtain ⟨t,rfl⟩:=ry;obtain ⟨its,r,pl,hz⟩:=I.list hq;obtain ⟨j,h1,h2,h3,h4,h5⟩:=atI_get he;obtain ⟨w,ew,rw'⟩:=r.get h2;have hl:=r.length;have hn:=line63;have fin:EP X pins σ Q w s:=⟨z,H,I,rw',q⟩;by_cases h0:0<=i
 ·have hj:i.toNat=j:=by
   rw[seqIndex_of h0 h5] at h1;exact Option.some.inj h1
  exact item_listR pl.isList h0 (by lia) (by rw[hj];simpa using ew) fin hs
 ·have hj:(i+(its.toArray.size:Int)).toNat=j:=by
   rw[seqIndex_neg (by lia) h4] at h1;rw[List.size_toArray,<-hl];exact Option.some.inj h1
  exact subscriptTail_builtinR (x:=w) pl.isList.typeIs slot_list_getitem.lookup
   (wpAny_getItem_list_neg (Q:=λr s'=>r=w/\EP X pins σ Q r s') pl.isList (by lia) (by rw[List.size_toArray]<;>lia) (by lia) (by rw[hj];simpa using ew) ⟨rfl,fin⟩) hs
theorem ix_tup:IxR X (rIxT X.K):=by
 intro value slice pins s σ H x y v u Q I rx ry h hs;obtain ⟨p,xs,i,z,rfl,rfl,hq,he,q⟩:=h;cases rx;obtain ⟨t,rfl⟩:=ry;obtain ⟨its,r,pl,hz⟩:=I.tuple hq;obtain ⟨j,h1,h2,h3,h4,h5⟩:=atI_get he;obtain ⟨w,ew,rw'⟩:=r.get h2;have hl:=r.length;have hn:=line63;have fin:EP X pins σ Q w s:=⟨z,H,I,rw',q⟩;exact subscriptTail_builtinR (x:=w) pl.typeIs slot_tuple_getitem.lookup
  (getItem_tuple (j:=j) (Q:=λr s'=>r=w/\EP X pins σ Q r s') pl (by lia) (by lia) (by rw[List.size_toArray,<-hl];exact h1) (by simpa using ew) ⟨rfl,fin⟩) hs
theorem ix_str:IxR X rIxS:=by
 intro value slice pins s σ H x y v u Q I rx ry h hs;obtain ⟨z,i,c,rfl,rfl,hz,he,q⟩:=h;obtain ⟨t,rfl⟩:=rx;obtain ⟨t',rfl⟩:=ry;obtain ⟨j,h1,h2,h3,h4,h5⟩:=atI_get he;have hl:z.cps.toList.length=z.length:=by simp [Str.length]
 rw[hl] at h1 h4 h5;have hn:=line63;exact tail_any (typeIs_str s z t) slot_str_getitem.lookup (getItem_str (c:=c) (by
  have e1:decide (i< -(2 ^ 63:Int))=false:=decide_eq_false (by lia)
  have e2:decide (i>=2 ^ 63)=false:=decide_eq_false (by lia)
  rw[e1,e2,Bool.or_false]) (by rw[h1];simpa using h2) ⟨.str ⟨#[c]⟩,H,I.tok _,⟨_,rfl⟩,q⟩) hs
theorem slice_bounds (lo hi:Option Int) (n:Nat):(sliceBounds lo hi none n).1=((HT.sIx n 0 lo:Nat):Int)/\(sliceBounds lo hi none n).2.1=((HT.sIx n n hi:Nat):Int)/\(sliceBounds lo hi none n).2.2=1:=by
 refine ⟨?_,?_,rfl⟩
 ·cases lo with
  |none=>simp [sliceBounds,HT.sIx]
  |some i=>
   simp only [sliceBounds,HT.sIx,Option.getD_none,show (1:Int)>0 by decide,if_true];by_cases h:i<0
   ·simp only [h,if_true]<;>lia
   ·simp only [h,if_false]<;>lia
 ·cases hi with
  |none=>simp [sliceBounds,HT.sIx]
  |some i=>
   simp only [sliceBounds,HT.sIx,Option.getD_none,show (1:Int)>0 by decide,if_true];by_cases h:i<0
   ·simp only [h,if_true]<;>lia
   ·simp only [h,if_false]<;>lia
theorem slicePick_cut (its:List Value) (lo hi:Option Int):slicePick its.toArray lo hi none=((its.drop (HT.sIx its.length 0 lo)).take (HT.sIx its.length its.length hi - HT.sIx its.length 0 lo)).toArray:=by
 obtain ⟨h1,h2,h3⟩:=slice_bounds lo hi its.toArray.size;unfold slicePick;rw[h1,h2,h3];simp only [sliceRange_one,pick_run,List.size_toArray]<;>rfl
def rSlL (K:Fg):V->Option Int->Option Int->Hp->VK->Prop:=λx lo hi H Q=>∃a xs,x=.ref a/\SqL K H a xs/\∀p,H p=none->Q (.ref p) (upd H p (.lst (cutV xs lo hi)))
theorem sl_list:SlR X (rSlL X.K):=by
 intro pins s σ H x v vl vu lo hi sl Q I rx hs pl pu h;obtain ⟨a,xs,rfl,hx,q⟩:=h;cases rx;obtain ⟨its,r,ht,hz⟩:=I.list hx;have hlen:=r.length;refine ⟨"list",_,slot_list_getitem.lookup,ht.isList.typeIs,?_⟩;refine wpAny_getItem_list_slice ht.isList hs pl pu .none (by simp) ?_ (by rw[List.size_toArray]<;>lia);rw[slicePick_cut,<-hlen];refine ⟨.ref s.heap.objs.size,_,I.laid (t':=s.toks) (o:=.lst (cutV xs lo hi)) (λb ob q=>Heap.get?_push_of_some _ q) (Nat.le_refl _) ?_,rfl,q _ (I.hok.fresh (Nat.le_refl _))⟩;exact ⟨Nat.le_trans (cutV_length xs lo hi) hz,_,0,(r.drop (HT.sIx xs.length 0 lo)).take (HT.sIx xs.length xs.length hi - HT.sIx xs.length 0 lo),Heap.get?_push_size _ rfl⟩
def flatV:V->Bool
 | .non=>true
 | .bl _=>true
 | .int _=>true
 | .str _=>true
 |_=>false
def eqV:V->V->Bool
 | .non,.non=>true
 | .bl a,.bl b=>a==b
 | .bl a,.int b=>(if a then 1 else 0)==b
 | .int a,.bl b=>a==(if b then 1 else 0)
 | .int a,.int b=>a==b
 | .str a,.str b=>a==b
 |_,_=>false
theorem eqAt_V {A:Around} {s:Shared} {y x:V} {u v:Value} (ry:RelV y u) (rx:RelV x v) (fy:flatV y=true) (fx:flatV x=true):SeqAt.EqAt A s u v (eqV y x):=by
 cases y with
 |non=>
  cases ry;cases x with
  |non=>cases rx;exact SeqAt.EqAt.same _
  |bl b=>cases rx;exact SeqAt.EqAt.none_bool b
  |int b=>obtain ⟨t,rfl⟩:=rx;exact SeqAt.EqAt.none_int b t
  |str b=>obtain ⟨t,rfl⟩:=rx;exact SeqAt.EqAt.none_str b t
  |_=>exact absurd (show false=true from fx) Bool.false_ne_true
 |bl a=>
  cases ry;cases x with
  |non=>cases rx;exact SeqAt.EqAt.bool_none a
  |bl b=>cases rx;exact SeqAt.EqAt.bool_bool a b
  |int b=>obtain ⟨t,rfl⟩:=rx;exact SeqAt.EqAt.bool_int a b t
  |str b=>obtain ⟨t,rfl⟩:=rx;exact SeqAt.EqAt.bool_str a b t
  |_=>exact absurd (show false=true from fx) Bool.false_ne_true
 |int a=>
  obtain ⟨t',rfl⟩:=ry;cases x with
  |non=>cases rx;exact SeqAt.EqAt.int_none a t'
  |bl b=>cases rx;exact SeqAt.EqAt.int_bool a t' b
  |int b=>obtain ⟨t,rfl⟩:=rx;exact SeqAt.EqAt.int_int a t' b t
  |str b=>obtain ⟨t,rfl⟩:=rx;exact SeqAt.EqAt.int_str a t' b t
  |_=>exact absurd (show false=true from fx) Bool.false_ne_true
 |str a=>
  obtain ⟨t',rfl⟩:=ry;cases x with
  |non=>cases rx;exact SeqAt.EqAt.str_none a t'
  |bl b=>cases rx;exact SeqAt.EqAt.str_bool a t' b
  |int b=>obtain ⟨t,rfl⟩:=rx;exact SeqAt.EqAt.str_int a t' b t
  |str b=>obtain ⟨t,rfl⟩:=rx;exact SeqAt.EqAt.str_str a t' b t
  |_=>exact absurd (show false=true from fx) Bool.false_ne_true
 |_=>exact absurd (show false=true from fy) Bool.false_ne_true
def eqU (x:V) (u:Value):Bool:=match u with
 | .none=>eqV .non x
 | .bool b=>eqV (.bl b) x
 | .int i _=>eqV (.int i) x
 | .str z _=>eqV (.str z) x
 |_=>false
theorem eqU_of {x y:V} {u:Value} (r:RelV y u) (f:flatV y=true):eqU x u=eqV y x:=by
 cases y with
 |non=>cases r;rfl
 |bl b=>cases r;rfl
 |int i=>obtain ⟨t,rfl⟩:=r;rfl
 |str z=>obtain ⟨t,rfl⟩:=r;rfl
 |_=>exact absurd (show false=true from f) Bool.false_ne_true
theorem any_eqU {x:V}:∀{xs:List V} {us:List Value},Vals xs us->xs.all flatV=true->us.any (eqU x)=xs.any λy=>eqV y x
 |_,_,.nil,_=>rfl
 |y::xs,u::us,.cons r t,f=>by
  rw[List.all_cons,Bool.and_eq_true] at f;rw[List.any_cons,List.any_cons,eqU_of r f.1,any_eqU t f.2]
theorem mem_eqAt {A:Around} {s:Shared} {x:V} {v:Value} (rx:RelV x v) (fx:flatV x=true):∀{xs:List V} {us:List Value},Vals xs us->xs.all flatV=true->∀u∈us,SeqAt.EqAt A s u v (eqU x u)
 |_,_,.nil,_=>λu hu=>by cases hu
 |y::xs,u::us,.cons r t,f=>λu' hu=>by
  rw[List.all_cons,Bool.and_eq_true] at f;rcases List.mem_cons.mp hu with rfl|hu
  ·rw[eqU_of r f.1];exact eqAt_V r rx f.1 fx
  ·exact mem_eqAt rx fx t f.2 u' hu
def inV (x:V) (xs:List V):Bool:=xs.any λy=>eqV y x
def rIn (K:Fg) (neg:Bool):R2:=λx y H Q=>∃p xs,y=.ref p/\(SqL K H p xs\/SqT K H p xs)/\flatV x=true/\xs.all flatV=true/\Q (.bl (if neg then !inV x xs else inV x xs)) H
theorem op_in_seq:OpR X (compareOp .In) (rIn X.K false):=by
 intro pins s σ H x y v u Q I rx ry h;obtain ⟨p,xs,rfl,hq,fx,fs,q⟩:=h;cases ry;rcases hq with hq|hq
 ·obtain ⟨its,r,pl,hz⟩:=I.list hq;refine SeqAt.in_listAt (eqU x) pl.isList (λw hw=>mem_eqAt rx fx r fs w (by simpa using hw)) ⟨.bl _,H,I,rfl,?_⟩;rw[show its.toArray.any (eqU x)=its.any (eqU x) by simp,any_eqU r fs];exact q
 ·obtain ⟨its,r,pl,hz⟩:=I.tuple hq;refine SeqAt.in_tupleAt (eqU x) pl (λw hw=>mem_eqAt rx fx r fs w (by simpa using hw)) ⟨.bl _,H,I,rfl,?_⟩;rw[show its.toArray.any (eqU x)=its.any (eqU x) by simp,any_eqU r fs];exact q
theorem op_notIn_seq:OpR X (compareOp .NotIn) (rIn X.K true):=by
 intro pins s σ H x y v u Q I rx ry h;obtain ⟨p,xs,rfl,hq,fx,fs,q⟩:=h;cases ry;rcases hq with hq|hq
 ·obtain ⟨its,r,pl,hz⟩:=I.list hq;refine SeqAt.notIn_listAt (eqU x) pl.isList (λw hw=>mem_eqAt rx fx r fs w (by simpa using hw)) ⟨.bl _,H,I,rfl,?_⟩;rw[show its.toArray.any (eqU x)=its.any (eqU x) by simp,any_eqU r fs];exact q
 ·obtain ⟨its,r,pl,hz⟩:=I.tuple hq;refine SeqAt.notIn_tupleAt (eqU x) pl (λw hw=>mem_eqAt rx fx r fs w (by simpa using hw)) ⟨.bl _,H,I,rfl,?_⟩;rw[show its.toArray.any (eqU x)=its.any (eqU x) by simp,any_eqU r fs];exact q
theorem op_notIn_str:OpR X (compareOp .NotIn) (λx y H Q=>∃i j,x=.str i/\y=.str j/\Q (.bl (!(!(Builtin.Str.occurrences j i 0 j.length 1).isEmpty))) H):=by
 intro pins s σ H x y v u Q I rx ry h;obtain ⟨i,j,rfl,rfl,q⟩:=h;obtain ⟨t,rfl⟩:=rx;obtain ⟨t',rfl⟩:=ry;exact notIn_str ⟨.bl _,H,I,rfl,q⟩
theorem call_list_of:CallR X (.type "list") (λxs H Q=>∃p ys,xs=[.ref p]/\(SqL X.K H p ys\/SqT X.K H p ys)/\∀l,H l=none->Q (.ref l) (upd H l (.lst ys))):=by
 intro pins s σ H xs us Q I r h;obtain ⟨p,ys,rfl,hq,q⟩:=h;obtain ⟨u,rfl,rx⟩:=vals1 r;cases rx;have fin:∀(its:List Value),Vals ys its->ys.length<=sizeLine->∀(h':Heap) (c':Nat),(∀b o',s.heap.get? b=some o'->h'.get? b=some o')->
   h'.get? s.heap.objs.size=some {cls:=.type "list",dict:=none,data:=.seq its.toArray c',slots:=#[]}->EP X pins σ Q (.ref s.heap.objs.size) {s with heap:=h'}:=λits r' hz h' c' kp e=>
  ⟨.ref s.heap.objs.size,_,I.laid (t':=s.toks) kp (Nat.le_refl _) (show ObjOk X.prog X.w _ h' _ (.lst ys) from ⟨hz,its,c',r',e⟩),rfl,q _ (I.hok.fresh (Nat.le_refl _))⟩
 rcases hq with hq|hq
 ·obtain ⟨its,r',pl,hz⟩:=I.list hq;have hlen:=r'.length;obtain ⟨o,ho,hc,n,hd⟩:=pl.isList;exact call_list_seq p (.inl rfl) ho hc hd (λh' c' kp e=>fin its r' hz h' c' kp e) (by simp only [List.size_toArray]<;>lia)
 ·obtain ⟨its,r',pl,hz⟩:=I.tuple hq;have hlen:=r'.length;obtain ⟨o,ho,hc,n,hd⟩:=pl;exact call_list_seq p (.inr rfl) ho hc hd (λh' c' kp e=>fin its r' hz h' c' kp e) (by simp only [List.size_toArray]<;>lia)
def tyV (K:Fg) (T:String) (x:V) (H:Hp):Prop:=match x with
 | .str _=>T="str"
 | .int _=>T="int"
 | .ref p=>(T="list"/\∃xs,SqL K H p xs)\/(T="tuple"/\∃o,K.lookup p=some o/\o.cls=.type "tuple"/\o.dict=none)\/
   (T="dict"/\((∃kvs,H p=some (.dK kvs))\/∃kvs,H p=some (.dT kvs)))\/(T="set"/\∃S n,H p=some (.set S n))
 |_=>False
theorem tyV_is {pins:List (Addr × Obj)} {σ:St} {H:Hp} {s:Shared} {T:String} {x:V} {v:Value} (I:Inv X pins σ H s) (r:RelV x v) (ty:tyV X.K T x H):
  s.TypeIs v T/\∀a,v=.ref a->∃ob,s.heap.get? a=some ob/\ob.dict=none:=by
 cases x with
 |str z=>
  obtain ⟨t,rfl⟩:=r;cases (show T="str" from ty);exact ⟨typeIs_str s z t,λ_ e=>nomatch e⟩
 |int i=>
  obtain ⟨t,rfl⟩:=r;cases (show T="int" from ty);exact ⟨typeIs_int s i t,λ_ e=>nomatch e⟩
 |ref p=>
  cases r;rcases ty with ⟨rfl,xs,hq⟩|⟨rfl,o,hk,hc,hd⟩|⟨rfl,hk⟩|⟨rfl,S,n,hk⟩
  ·obtain ⟨its,_,pl,_⟩:=I.list hq;refine ⟨pl.isList.typeIs,λa e=>?_⟩;cases e;obtain ⟨o,n,e,c,hd,_⟩:=pl;exact ⟨o,e,hd⟩
  ·refine ⟨⟨o,I.kIn p o hk,hc⟩,λa e=>?_⟩;cases e;exact ⟨o,I.kIn _ o hk,hd⟩
  ·have z:∃o,s.heap.get? p=some o/\o.ExactDict:=by
    rcases hk with ⟨kvs,hk⟩|⟨kvs,hk⟩
    ·obtain ⟨_,_,_,_,o,_,_,e,ex,_⟩:=I.hok p _ hk;exact ⟨o,e,ex⟩
    ·obtain ⟨_,_,_,_,o,_,_,e,ex,_⟩:=I.hok p _ hk;exact ⟨o,e,ex⟩
   obtain ⟨o,e,ex⟩:=z;refine ⟨⟨o,e,ex.1⟩,λa e2=>?_⟩;cases e2;exact ⟨o,e,ex.2.1⟩
  ·obtain ⟨o,_,_,_,e,ex,_⟩:=I.hok p _ hk;refine ⟨⟨o,e,ex.1⟩,λa e2=>?_⟩;cases e2;exact ⟨o,e,ex.2.1⟩
 |_=>exact False.elim ty
variable {o e:Expr} {es:List Expr} {to:TE} {t:TA} {name:Str} {apos cpos:Pos} {T id:String} {r:V->List V->Hp->VK->Prop}
end
def MtM (X:Cx) (id:String) (r:V->List V->Hp->VK->Prop):Prop:=
 ∀(pins:List (Addr × Obj)) (s:Shared) (σ:St) (H:Hp) (x:V) (xs:List V) (v:Value) (us:List Value) (Q:VK),Inv X pins σ H s->RelV x v->Vals xs us->r x xs H Q->
  wpAny (model X.prog X.w) X.A (call (.builtin id) (v::us)) (EP X pins σ Q) X.xe s
theorem Vals.one:∀{x:V} {us:List Value},Vals [x] us->∃u,us=[u]/\RelV x u
 |_,_,.cons r .nil=>⟨_,rfl,r⟩
theorem Vals.two:∀{x y:V} {us:List Value},Vals [x,y] us->∃u v,us=[u,v]/\RelV x u/\RelV y v
 |_,_,_,.cons r (.cons q .nil)=>⟨_,_,rfl,r,q⟩
theorem Vals.rep {xs:List V} {us:List Value} (h:Vals xs us):∀k:Nat,Vals (List.replicate k xs).flatten (List.replicate k us).flatten
 |0=>.nil
 |k+1=>by
  rw[List.replicate_succ,List.replicate_succ,List.flatten_cons,List.flatten_cons];exact Vals.append h (Vals.rep h k)
theorem foldl_rep (its:List Value):∀(k:Nat) (acc:List Value),
  List.foldl (λx1 x2=>x1++x2) acc.toArray (List.replicate k its.toArray)=(acc++(List.replicate k its).flatten).toArray
 |0,acc=>by simp
 |k+1,acc=>by
  have e:acc.toArray++its.toArray=(acc++its).toArray:=by simp
  have e2:(acc++its)++(List.replicate k its).flatten=acc++(List.replicate (k+1) its).flatten:=by
   rw[List.replicate_succ,List.flatten_cons,List.append_assoc]
  rw[<-e2,<-foldl_rep its k (acc++its),<-e,List.replicate_succ,List.foldl_cons]
section
variable {X:Cx} {pins:List (Addr × Obj)} {σ:St} {H:Hp} {s:Shared} {l b:Addr} {xs ys zs:List V}
theorem Inv.lset {its its':List Value} {n:Nat} {f:Array Value->Array Value} {t':Nat} (I:Inv X pins σ H s) (hH:H l=some (.lst xs))
  (e:s.heap.get? l=some {cls:=.type "list",data:=.seq its.toArray n}) (hf:f its.toArray=its'.toArray) (hv:Vals ys its') (hz:ys.length<=sizeLine):
  Inv X pins σ (upd H l (.lst ys)) {s with heap:=s.heap.update l (Obj.mapSeq f),toks:=t'}:=by
 have q:=PySem.IsL.update e f;rw[hf] at q;refine I.write (x:=l) (e:=l) (by rw[hH];exact trivial) (.inl rfl) (λb' u hb hu=>(Heap.get?_update_other s.heap (Obj.mapSeq f) (Ne.symm hb)).trans hu) ⟨_,q⟩ ?_;exact ⟨hz,its',_,hv,q⟩
theorem Inv.lnew {its:List Value} {t':Nat} (I:Inv X pins σ H s) (hv:Vals ys its) (hz:ys.length<=sizeLine):
  Inv X pins σ (upd H s.heap.objs.size (.lst ys)) {s with heap:=s.heap.push {cls:=.type "list",data:=.seq its.toArray},toks:=t'}:=
 I.laid (λ_ _ q=>Heap.get?_push_of_some _ q) (Nat.le_refl _) ⟨hz,its,0,hv,Heap.get?_push_size _ rfl⟩
theorem Inv.fresh (I:Inv X pins σ H s):H s.heap.objs.size=none:=I.hok.fresh (Nat.le_refl _)
theorem Inv.lstM (I:Inv X pins σ H s) (hH:H l=some (.lst xs)):xs.length<=sizeLine/\∃(its:List Value) (n:Nat),Vals xs its/\xs.length=its.length/\s.heap.get? l=some {cls:=.type "list",data:=.seq its.toArray n}:=by
 obtain ⟨z,its,n,r,e⟩:=I.hok l _ hH;exact ⟨z,its,n,r,r.length,e⟩
theorem notLongL {n:Nat} (h:n<=sizeLine):Builtin.List.listTooLong n=false:=by
 unfold Builtin.List.listTooLong;exact decide_eq_false (by lia)
end
section
variable {X:Cx}
def rAppend:V->List V->Hp->VK->Prop:=λx vs H Q=>∃l xs y,x=.ref l/\vs=[y]/\H l=some (.lst xs)/\xs.length<sizeLine/\Q .non (upd H l (.lst (xs++[y])))
theorem mt_append:MtM X "list.append" rAppend:=by
 intro pins s σ H x vs v us Q I rx rv h;obtain ⟨l,xs,y,rfl,rfl,hH,hz,q⟩:=h;cases rx;obtain ⟨u,rfl,ru⟩:=rv.one;obtain ⟨z,its,n,r,hl,e⟩:=I.lstM hH;refine call_meets F.slot_list_append ⟨_,e,rfl⟩ F.entry_list_append (F.args_list_append_2 _ _) (PySem.list_append l its.toArray n u (by rw[List.size_toArray];lia)) ⟨e,?_⟩;refine ⟨.non,_,I.lset (its':=its++[u]) hH e (by simp) (r.append (.cons ru .nil)) ?_,rfl,q⟩;rw[List.length_append,List.length_singleton];lia
def rCat:R2:=λx y H Q=>∃l b xs zs,x=.ref l/\y=.ref b/\H l=some (.lst xs)/\H b=some (.lst zs)/\xs.length+zs.length<=sizeLine/\∀p,H p=none->Q (.ref p) (upd H p (.lst (xs++zs)))
theorem op_cat:OpR X (binaryOp .Add) rCat:=by
 intro pins s σ H x y v u Q I rx ry h;obtain ⟨l,b,xs,zs,rfl,rfl,hH,hB,hz,q⟩:=h;cases rx;cases ry;obtain ⟨z,its,n,r,hl,e⟩:=I.lstM hH;obtain ⟨z2,its2,n2,r2,hl2,e2⟩:=I.lstM hB;refine PySem.P.add_list e e2 ?_ (by rw[List.size_toArray,List.size_toArray];lia);have ea:its.toArray++its2.toArray=(its++its2).toArray:=by simp
 rw[ea];exact ⟨.ref _,_,I.lnew (t':=s.toks) (r.append r2) (by rw[List.length_append];lia),rfl,q _ I.fresh⟩
def rRep:R2:=λx y H Q=>∃l k xs,x=.ref l/\y=.int k/\H l=some (.lst xs)/\-(2 ^ 63)<=k/\k<2 ^ 63/\xs.length * k.toNat<=sizeLine/\
 ∀p,H p=none->Q (.ref p) (upd H p (.lst (List.replicate k.toNat xs).flatten))
theorem len_rep {α:Type} (xs:List α) (k:Nat):(List.replicate k xs).flatten.length=k * xs.length:=by
 induction k with
 |zero=>simp
 |succ k ih=>rw[List.replicate_succ,List.flatten_cons,List.length_append,ih,Nat.succ_mul,Nat.add_comm]
theorem op_rep:OpR X (binaryOp .Mult) rRep:=by
 intro pins s σ H x y v u Q I rx ry h;obtain ⟨l,k,xs,rfl,rfl,hH,h1,h2,hz,q⟩:=h;cases rx;obtain ⟨t,rfl⟩:=ry;obtain ⟨z,its,n,r,hl,e⟩:=I.lstM hH;have hlen:its.toArray.size * k.toNat<=sizeLine:=by rw[List.size_toArray,<-hl];exact hz
 have hcap:¬its.toArray.size * k.toNat>(2 ^ 63 - 1) / 8:=by
  have:(sizeLine:Nat)<=(2 ^ 63 - 1) / 8:=by decide
  lia
 have hfit:¬(!Builtin.List.listFitsIndex k)=true:=by
  rw[fitsIndex_both h1 h2];exact Bool.false_ne_true
 have hlong:¬Builtin.List.listTooLong (its.toArray.size * k.toNat)=true:=by
  rw[notLongL hlen];exact Bool.false_ne_true
 have hnew:List.foldl (λx1 x2=>x1++x2) #[] (List.replicate (if its.toArray.isEmpty=true then 0 else k.toNat) its.toArray)=(List.replicate k.toNat its).flatten.toArray:=by
  have f0:∀m:Nat,List.foldl (λx1 x2=>x1++x2) #[] (List.replicate m its.toArray)=(List.replicate m its).flatten.toArray:=λm=>by
   have:=foldl_rep its m [];rw[List.nil_append] at this;exact this
  rw[f0];cases its with
  |nil=>simp
  |cons a r'=>rw[if_neg (by simp)]
 refine wpAny_binaryOp_repeat_ref (T:="list") (U:="int") (by decide) ⟨_,e,rfl⟩ (λs'=>typeIs_int s' k t) noFill_list_mul F.fills_int_mul F.slot_int_rmul repeat_list F.slot_int_index.lookup
  (call_meets F.slot_int_rmul (typeIs_int s k t) F.entry_int_rmul (F.args_int_rmul_2 _ _) (int___rmul___int_list k t l its.toArray n)
   ⟨e,rfl,⟨_,e,rfl⟩,call_meets F.slot_list_mul ⟨_,e,rfl⟩ F.entry_list_mul (F.args_list_mul_2 _ _) (AutoListH.list___mul___list_int_3 l its.toArray n k t hfit hcap hlong) ⟨e,?_⟩⟩)
 rw[hnew];exact ⟨.ref _,_,I.lnew (t':=s.toks) (r.rep k.toNat) (by rw[len_rep,Nat.mul_comm];exact hz),rfl,q _ I.fresh⟩
end
section
variable {prog:Program} {w:World} {A:Around} {E:Value->Shared->Prop} {s:Shared}
end
section
variable {X:Cx}
end
end L2
namespace Att
open PySem PySem.W PySem.Calls PyProof.Rows
theorem ints_of_wellAll {P:Params} {h:Heap}:∀(ns:List Int) (vs:List Value),WellAll P h vs (ns.map WData.int)->IntsAre vs ns:=by
 intro ns;induction ns with
 |nil=>
  intro vs w;rw[List.map_nil] at w;cases w;exact .nil
 |cons n ns ih=>
  intro vs w;rw[List.map_cons] at w;cases w with
  |cons a b=>
   cases a;exact .cons _ _ (ih _ b)
theorem script_of {l:OpenLaw} {n:Nat} (hn:l.most=some n) {P:Params} {h:Heap} {args:List WData} {vals:List Value}
  (hpre:l.row.toRowW.claim.pre args=true) (hwl:WellAll P h vals args):
  ∃a vs ns,vals=[Value.ref a]/\args=[WData.list (ns.map WData.int)]/\h.get? a=some {cls:=.type "list",data:=.seq vs.toArray}/\IntsAre vs ns/\ns.length<=n:=by
 have hsh:WShape.hasAll [] args [.list .int]=true:=(pre_splitW hpre).1;have hc:l.pre.holds [] {args:=args}=true:=(pre_splitW hpre).2;obtain ⟨d,r,rfl,h1,h2⟩:=hasAllW_cons hsh;obtain rfl:=hasAllW_nil h2;obtain ⟨xs,rfl,h3⟩:=hasW_list h1;obtain ⟨ns,rfl⟩:=items_int h3;have hlen:ns.length<=n:=by
  unfold OpenLaw.pre at hc;have h4:(WTm.not (.lt (.lit (.int (n:Int))) (.len (.arg 0)))).holds [] {args:=[.list (ns.map .int)]}=true:=by
   have h4:=(holds_andW hc).1;rw[hn] at h4;exact h4
  have h5:=condW_of h4 (w_not (w_lt w_lit (w_len_list (w_arg rfl))));rw[List.length_map] at h5;refine Nat.le_of_not_lt λq=>?_;have q':(n:Int)<((ns.length:Nat):Int):=by lia
  first
   | (rw[decide_eq_true q'] at h5;exact absurd h5 (by decide))
   | (simp at h5;lia)
 cases hwl with
 |cons w1 w2=>
  cases w2;cases w1 with
  |list ho hall=>exact ⟨_,_,ns,rfl,rfl,ho,ints_of_wellAll ns _ hall,hlen⟩
theorem post_true (l:OpenLaw) (args:List WData):l.row.toRowW.claim.post args (.bool true) args=true:=
 postW_of (r:=l.row.toRowW) (X:=(true==true))
  (show WShape.has [] (.bool true) .bool=true by first|rfl|decide|simp [WShape.has,WShape.arms,WShape.armsAll])
  (show (WTm.eq .res (.lit (.bool true))).value [] {args:=args,res:=some (.bool true),after:=args}=some (.bool (true==true)) from w_eq_bool (w_res rfl) w_lit) rfl
theorem attach_call {l:OpenLaw} {n:Nat} {q:Program} {loose:List Str} {XP:(Str->Option Value)->Heap->Prop} {YP:World->Heap->Prop} {d:DefRec}
  (hn:l.most=some n) (hdf:d.params.defaults=[])
  (call:∀(w:World) (s₀ s₁:Shared) (mg mb:Str->Option Value) (fa:Addr) (o:Obj) (pm cd doc:Value) (a:Addr) (vs:List Value) (ns:List Int),
   Ground q loose [] XP w s₀ mg mb s₁.heap->YP w s₁.heap->
   s₁.heap.get? fa=some o->o.data=.func (docDef d.name d.params d.body d.scope pm cd doc)->s₁.heap.CodeRec cd d.name->mg d.name=some (.ref fa)->
   s₁.heap.get? a=some {cls:=.type "list",data:=.seq vs.toArray}->IntsAre vs ns->ns.length<=n->s₁.gens=#[]->
   codeAny (model l.prog w) callerA (.call (.ref fa) ⟨[.ref a],[]⟩) (λr s'=>r=.ok (.ret (.bool true))/\OldK s₁.heap s'.heap/\s'.os=s₁.os/\AllBare s'.gens) s₁):
  WalkO q loose XP YP l.row.toRowW d [] (λf vs=>PySem.call f vs):=by
 intro w s₀ s₁ mg mb G Y fa o pm cd doc dV kV ho hd hcd hD hmg hg args vals as hpre hlay hrd hwl hlo;obtain rfl:dV=.none:=Dflts.none hD hdf;obtain rfl:kV=.none:=Dflts.noKw hD;obtain ⟨a,vs,ns,rfl,rfl,hobj,hints,hlen⟩:=script_of hn hpre hwl;refine enter_call (codeAny_mono (call w s₀ s₁ mg mb fa o pm cd doc a vs ns G Y ho (fd_plain hd) hcd hmg hobj hints hlen hg) λr s' hq=>?_);obtain ⟨rfl,h2,h3,h4⟩:=hq;exact ⟨.inl ⟨.bool true,.bool true,[],rfl,λ_=>rfl,.bool true,post_true l _,λ_=>⟨List.Pairwise.nil,λ_ hm=>(nomatch hm)⟩⟩,h2,h3,h4⟩
section
variable {prog:Program} {w:World} {A:Around} {E:Value->Shared->Prop} {s:Shared} {K:Frag}
theorem call_fn {R:Result->Shared->Prop} {name qual:Str} {params:Arguments} {body:List Stmt} {scope:Scope} {dV kV doc pm cdv ct oc:Value} {an od:Option Addr} {osl:Array (Option Value)} {f:Addr} {args:Args} {binds:List (Str × Value)}
  (X:K.In s.heap) (hlim:s.heap.NoLimit) (ho:K.lookup f=some ⟨oc,od,.func (fnOf name qual params body scope dV kV doc pm an cdv ct),osl⟩) (hcd:codeIn K cdv qual=true) (hroom:A.depth<recursionLimit)
  (hbind:BindsTo s (fnOf name qual params body scope dV kV doc pm an cdv ct) args binds)
  (hkind:(binds.all λy=>scope.names.lookup y.1==some .local || scope.names.lookup y.1==some .cell)=true)
  (h:∀s₁,InCallC s s.heap.objs.size (bindL (envOfC qual scope s.heap.objs.size f cdv).kindOf binds λ_=>none) (cellsFrom (s.heap.objs.size+1) scope.names [])
    (bindC (envOfC qual scope s.heap.objs.size f cdv).kindOf binds λ_=>none) s₁->
   wpAny (model prog w) (A.deeper (envOfC qual scope s.heap.objs.size f cdv)) (execs body (envOfC qual scope s.heap.objs.size f cdv))
    (λfl s'=>R (.ok (.ret (match fl with| .ret v=>v|_=>.none))) s')
    (λe s'=>wpAny (model prog w) (A.deeper (envOfC qual scope s.heap.objs.size f cdv)) (leaving (envOfC qual scope s.heap.objs.size f cdv) e) (λ_ s''=>R (.error e) s'') (λe' s''=>R (.error e') s'') s') s₁)
  (hco:scope.isCoroutine=false) (hgen:scope.isGenerator=false) (hk:scope.kind=.function):codeAny (model prog w) A (.call (.ref f) args) R s:=by
 refine codeAny_call_function hroom (X _ _ ho) rfl hco hgen rfl (codeRec_of X hcd) (hbind _ _ _ _ ?_);refine wpAny_newFunctionEnv_cells hk (kindsX hkind _) λenv he s₁ x=>?_;subst he;exact ⟨hlim.keeps x.toInCall.keep,codeAny_func (h s₁ x)⟩
end
end Att
namespace L2
open PySem PySem.Spec PyProof.Rows
theorem vals_ints:∀{vs:List Value} {ns:List Int},IntsAre vs ns->Vals (ns.map V.int) vs
 |_,_,.nil=>.nil
 |_,_,.cons n t h=>.cons ⟨t,rfl⟩ (vals_ints h)
def Only (H:Hp):Prop:=∀b,H b=none\/∃o xs,H b=some (.frz o (.lst xs))
theorem law_call {P:Program} {w:World} {K:Fg} {mg mb:Str->Option Value} {CX:CXT} {k:Nat} {fa a:Addr} {fd:FuncData} {x:Str} {sp:Sp} {s₁:Shared} {vs:List Value} {ns:List Int}
  (KX:K.In s₁.heap) (hns:s₁.heap.Ns mainGlobals mg) (hb:s₁.heap.Ns builtinsNs mb) (hbb:∀x:Str,x≠"__name__"->mb x=bootBuiltins x) (hlim:s₁.heap.NoLimit) (hg:s₁.gens=#[])
  (ha:s₁.heap.get? a=some {cls:=.type "list",data:=.seq vs.toArray}) (hi:IntsAre vs ns) (hl:ns.length<=sizeLine) (hr:Room k callerA)
  (F:∀base:Heap,K.In base->base.Ns mainGlobals mg->FnOk P w K mg base CX k fa fd [x] sp) (hbind:∀(s:Shared) (u:Value),BindsTo s fd ⟨[u],[]⟩ [(x,u)])
  (hsp:∀H:Hp,Only H->SqL K H a (ns.map V.int)->sp [.ref a] H (λv _=>v=.bl true) λ_ _ _=>False)
  (hCX:∀H e s',CX [] H s₁ (λ_ _ _=>False) e s'->False):
  codeAny (model P w) callerA (.call (.ref fa) ⟨[.ref a],[]⟩) (λr s'=>r=.ok (.ret (.bool true))/\OldK s₁.heap s'.heap/\s'.os=s₁.os/\AllBare s'.gens) s₁:=by
 have rv:=vals_ints hi;have lenV:=hi.length;have core:∀H:Hp,Only H->SqL K H a (ns.map V.int)->HOk P w H s₁.heap->(∀b,H b≠none->b=a)->(H a≠none->K.lookup a=none)->
   codeAny (model P w) callerA (.call (.ref fa) ⟨[.ref a],[]⟩) (λr s'=>r=.ok (.ret (.bool true))/\OldK s₁.heap s'.heap/\s'.os=s₁.os/\AllBare s'.gens) s₁:=by
  intro H hO hS hok hA hK;have base_of:∀{b:Addr} {o:Obj},s₁.heap.get? b=some o->H b=none->(hidT s₁.heap H).get? b=some o:=λe n=>hidT_get e n;have noA:∀{b:Addr} {o:Obj} {es:Array DictEntry} {ep:Nat},s₁.heap.get? b=some o->o.data=.dict es ep->H b=none:=λ{b o es ep} e d=>by
   cases q:H b with
   |none=>rfl
   |some u=>
    have e':b=a:=hA b (by rw[q];simp);subst e';rw[ha] at e;cases e;have d':Data.seq vs.toArray _=Data.dict es ep:=d;cases d'
  have nsK:∀{b:Addr} {m:Str->Option Value},s₁.heap.Ns b m->(hidT s₁.heap H).Ns b m:=λ{b m} ⟨o,es,ep,e,d,r⟩=>⟨o,es,ep,base_of e (noA e d),d,r⟩;have hKb:K.In (hidT s₁.heap H):=λb o e=>base_of (KX b o e) (by
   cases q:H b with
   |none=>rfl
   |some u=>
    have e':b=a:=hA b (by rw[q];simp)
    subst e'
    rw[hK (by rw[q];simp)] at e;cases e)
  have hM:Mod K mg (hidT s₁.heap H):=⟨hKb,nsK hns,⟨mb,nsK hb,hbb⟩,let ⟨mc,h1,h2⟩:=hlim;⟨mc,nsK h1,h2⟩⟩;have e0:Env0 P w K mg (hidT s₁.heap H) callerA [] s₁ H:=⟨rfl,hM,λb o e=>of_hidT e,Nat.le_of_eq (hidT_size _ _),trivial,λb hb=>absurd (show b∈([]:List Addr) from hb) (by simp),hok,.of_eq hg⟩;refine codeAny_mono ((F _ hKb (nsK hns)).run callerA [] s₁ H ⟨[.ref a],[]⟩ [.ref a] [.ref a] _ _ hr e0 (hbind s₁ (.ref a)) (.cons rfl .nil) (hsp H hO hS)) λr s' h=>?_;cases r with
  |error e=>exact (hCX H e s' h).elim
  |ok fl=>
   cases fl with
   |next=>exact False.elim h
   |brk=>exact False.elim h
   |cont=>exact False.elim h
   |ret u=>
    obtain ⟨v,H',os,bare,un,hok',r',q⟩:=h;have q':v=.bl true:=q;subst q';obtain rfl:u=Value.bool true:=r';refine ⟨rfl,OldK.of_keep λb o e=>?_,os,bare⟩;cases q:H b with
    |none=>exact un.keep b o e q (by intro z;exact absurd (show b∈([]:List Addr) from z) (by simp)) (by simp)
    |some u=>
     rcases hO b with z|⟨ob,xs,z⟩
     ·rw[q] at z;cases z
     ·have z2:=un.frzs b ob _ z;obtain ⟨e1,_⟩:=hok b _ z;obtain ⟨e2,_⟩:=hok' b _ z2;rw[e] at e1;cases e1;exact e2
 cases hk:K.lookup a with
 |some o=>
  have e:=KX a o hk;rw[ha] at e;cases e;refine core (λ_=>none) (λ_=>.inl rfl) (.inr ⟨_,vs.toArray,_,hk,rfl,rfl,rfl,by rw[List.size_toArray,lenV];exact hl,by simpa using rv⟩) (λb u z=>by have z':(none:Option HO)=some u:=z;cases z') (λb z=>absurd rfl z) λz=>absurd rfl z
 |none=>
  refine core (λb=>if b=a then some (.frz {cls:=.type "list",data:=.seq vs.toArray} (.lst (ns.map V.int))) else none) (λb=>?_) (.inl (.inr ⟨{cls:=.type "list",data:=.seq vs.toArray},if_pos rfl⟩)) (λb u z=>?_) (λb z=>?_) λ_=>hk
  ·by_cases hb:b=a
   ·exact .inr ⟨_,_,if_pos hb⟩
   ·exact .inl (if_neg hb)
  ·by_cases hb:b=a
   ·have z':=(if_pos hb).symm.trans z;cases z';subst hb;exact ⟨ha,by rw[List.length_map];exact hl,vs,_,rv,ha⟩
   ·have z':=(if_neg hb).symm.trans z;cases z'
  ·by_cases hb:b=a
   ·exact hb
   ·exact absurd (if_neg hb) z
theorem walk_of {l:PySem.W.OpenLaw} {n k:Nat} {q:Program} {loose:List Str} {XP:(Str->Option Value)->Heap->Prop} {YP:World->Heap->Prop} {d:DefRec} {K:Params->Fg} {CX:World->CXT} {sp:World->Sp} {x:Str}
  (hn:l.most=some n) (hn2:n<=sizeLine) (hdf:d.params.defaults=[]) (hr:Room k callerA)
  (hY:∀(w:World) (h:Heap),YP w h->(K w.params).In h)
  (F:∀(w:World) (mg:Str->Option Value) (fa:Addr) (h:Heap),(K w.params).In h->h.Ns mainGlobals mg->mg d.name=some (.ref fa)->
   ∃fd:FuncData,(∀(s:Shared) (u:Value),BindsTo s fd ⟨[u],[]⟩ [(x,u)])/\
    ∀base:Heap,(K w.params).In base->base.Ns mainGlobals mg->FnOk l.prog w (K w.params) mg base (CX w) k fa fd [x] (sp w))
  (hsp:∀(w:World) (H:Hp) (a:Addr) (ns:List Int),ns.length<=n->Only H->SqL (K w.params) H a (ns.map V.int)->sp w [.ref a] H (λv _=>v=.bl true) λ_ _ _=>False)
  (hCX:∀(w:World) (H:Hp) (s:Shared) (e:Value) (s':Shared),CX w [] H s (λ_ _ _=>False) e s'->False):
  PySem.W.WalkO q loose XP YP l.row.toRowW d [] (λf vs=>PySem.call f vs):=by
 refine Att.attach_call hn hdf λw s₀ s₁ mg mb fa o pm cd doc a vs ns G Y ho hd hcd hmg hobj hints hlen hg=>?_;have KX:=hY w _ Y;obtain ⟨fd,hb,hF⟩:=F w mg fa _ KX G.T.g hmg;exact law_call KX G.T.g G.T.b G.T.builtins G.T.nolimit hg hobj hints (Nat.le_trans hlen hn2) hr hF hb (λH hO hS=>hsp w H a ns hlen hO hS) λH e s'=>hCX w H s₁ e s'
def defArgs (s:Stmt):Arguments:=match s with
 | .FunctionDef _ a _ _ _ _ _ _ _ _=>a
 |_=>{posonlyargs:=[],args:=[],vararg:=none,kwonlyargs:=[],kw_defaults:=[],kwarg:=none,defaults:=[]}
def defBody (s:Stmt):List Stmt:=match s with
 | .FunctionDef _ _ b _ _ _ _ _ _ _=>b
 |_=>[]
def defScope (s:Stmt):Scope:=match s with
 | .FunctionDef _ _ _ _ _ _ sc _ _ _=>sc
 |_=>{kind:=.function,names:=[],isGenerator:=false,isCoroutine:=false}
abbrev E0:XK:=λ_ _ _=>False
structure Fun (K:Fg) (x qual:Str) (st:Stmt) (f:Addr) (fd:FuncData):Prop where
 ex:∃(oc:Value) (od:Option Addr) (kV doc pm:Value) (an:Option Addr) (cdv ct:Value) (osl:Array (Option Value)),
  fd=PySem.W.fnOf x qual (defArgs st) (defBody st) (defScope st) .none kV doc pm an cdv ct/\K.lookup f=some ⟨oc,od,.func fd,osl⟩/\PySem.W.codeIn K cdv qual=true
 kp:PySem.W.keepIn K (.ref f)=true
section
variable {P:Program} {w:World} {K:Fg} {mg:Str->Option Value} {base:Heap}
theorem Fun.binds {x qual:Str} {st:Stmt} {f:Addr} {fd:FuncData} {ps:List Str} (F:Fun K x qual st f fd)
  (h:∀(kV doc pm:Value) (an:Option Addr) (cdv ct:Value) (us:List Value),us.length=ps.length->bindArgs (PySem.W.fnOf x qual (defArgs st) (defBody st) (defScope st) .none kV doc pm an cdv ct) ⟨us,[]⟩=pure (ps.zip us)):Binds K fd ps []:=by
 obtain ⟨oc,od,kV,doc,pm,an,cdv,ct,osl,rfl,lk,hcd⟩:=F.ex;exact .all (h kV doc pm an cdv ct)
theorem fun_mk {x qual:Str} {st:Stmt} {f:Addr} {oc:Value} {od an:Option Addr} {osl:Array (Option Value)} {kV doc pm cdv ct:Value} (l:K.lookup f=some ⟨oc,od,.func (PySem.W.fnOf x qual (defArgs st) (defBody st) (defScope st) .none kV doc pm an cdv ct),osl⟩)
  (c:PySem.W.codeIn K cdv qual=true) (k:PySem.W.keepIn K (.ref f)=true):Fun K x qual st f (PySem.W.fnOf x qual (defArgs st) (defBody st) (defScope st) .none kV doc pm an cdv ct):=⟨⟨oc,od,kV,doc,pm,an,cdv,ct,osl,rfl,l,c⟩,k⟩
end
theorem small1000 {n:Nat} (h:n<=1000):n<sizeLine:=Nat.lt_of_le_of_lt h (by decide)
section
variable {X:Cx}
end
def Same (H H':Hp):Prop:=∀b o,H b=some o->H' b=some o
theorem Same.refl (H:Hp):Same H H:=λ_ _ h=>h
theorem Same.trans {H H1 H2:Hp} (a:Same H H1) (b:Same H1 H2):Same H H2:=λc o h=>b c o (a c o h)
theorem Same.seq {K:Fg} {H H':Hp} {a:Addr} {xs:List V} (e:Same H H') (h:SqL K H a xs):SqL K H' a xs:=by
 rcases h with (h|⟨o,h⟩)|h
 ·exact .inl (.inl (e _ _ h))
 ·exact .inl (.inr ⟨o,e _ _ h⟩)
 ·exact .inr h
section
variable {κ:Type} [DecidableEq κ]
def valV (kvs:List (κ × V)) (k:κ):Option V:=(kvs.find? λkv=>decide (kv.1=k)).map (·.2)
theorem valV_pos {p:κ × V} {r:List (κ × V)} {k:κ} (e:p.1=k):valV (p::r) k=some p.2:=by simp [valV,List.find?_cons,e]
theorem valV_neg {p:κ × V} {r:List (κ × V)} {k:κ} (e:¬p.1=k):valV (p::r) k=valV r k:=by simp [valV,List.find?_cons,e]
theorem RelO.getD {o:Option V} {u:Option Value} {d:V} {d':Value} (r:RelO o u) (rd:RelV d d'):RelV (o.getD d) (u.getD d'):=by
 cases o with
 |none=>cases u with
  |none=>exact rd
  |some _=>exact (show False from r).elim
 |some _=>cases u with
  |none=>exact (show False from r).elim
  |some _=>exact r
theorem KV.val {kvs:List (κ × V)} {vs:List (κ × Value)} (r:KV kvs vs) (k:κ):RelO (valV kvs k) (valueAt vs k):=by
 unfold KV at r;induction r with
 |nil=>exact tI
 |@cons p q ps qs h t ih=>
  obtain ⟨h1,h2⟩:=h;by_cases e:p.1=k
  ·have e':q.1=k:=h1.symm.trans e;have b:valueAt (q::qs) k=some q.2:=by simp [valueAt,List.find?_cons,e']
   rw[valV_pos e,b];exact h2
  ·have e':¬q.1=k:=λz=>e (h1.trans z);have b:valueAt (q::qs) k=valueAt qs k:=by simp [valueAt,List.find?_cons,e']
   rw[valV_neg e,b];exact ih
theorem KV.length {kvs:List (κ × V)} {vs:List (κ × Value)} (r:KV kvs vs):kvs.length=vs.length:=Paired.length r
end
theorem kV_is {P:Program} {w:World} {k:Key} {u:Value} (r:RelV (kV k) u):(mixKind P w).is k u=true:=by
 cases k with
 |inl i=>obtain ⟨t,e⟩:=(show ∃t,u=Value.int i t from r);subst e;exact mixKind_int P w i t
 |inr x=>obtain ⟨t,e⟩:=(show ∃t,u=Value.str x t from r);subst e;exact mixKind_str P w x t
theorem items_are {P:Program} {w:World}:∀{ks:List Key} {us:List Value},Vals (ks.map kV) us->ItemsAre (mixKind P w) ks us
 |[],_,r=>by rw[List.map_nil] at r;cases r;exact .nil
 |k::ks,_,r=>by
  rw[List.map_cons] at r;cases r with
  |cons h t=>exact .cons (kV_is h) (items_are t)
abbrev KT (H:Hp):List (List Key × V)->List (List Key × Addr × Value)->Prop:=Paired λp q=>p.1=q.1/\H q.2.1=some (.tup (p.1.map kV))/\RelV p.2 q.2.2
theorem KT.val {H:Hp} {kvs:List (List Key × V)} {xs:List (List Key × Addr × Value)} (r:KT H kvs xs) (k:List Key):RelO (valV kvs k) ((atKey xs k).map (·.2)):=by
 induction r with
 |nil=>exact tI
 |@cons p q ps qs h t ih=>
  obtain ⟨h1,_,h2⟩:=h;by_cases e:p.1=k
  ·have e':q.1=k:=h1.symm.trans e;have b:atKey (q::qs) k=some q.2:=by simp [atKey,List.find?_cons,e']
   rw[valV_pos e,b];exact h2
  ·have e':¬q.1=k:=λz=>e (h1.trans z);have b:atKey (q::qs) k=atKey qs k:=by simp [atKey,List.find?_cons,e']
   rw[valV_neg e,b];exact ih
section
variable {P:Program} {w:World} {H:Hp} {h:Heap} {a:Addr}
theorem rd_of {u:HO} (ok:HOk P w H h) (e:Rd H a u):ObjOk P w H h a u:=e.ok ok
theorem dk_rd {kvs:List (Key × V)} (ok:HOk P w H h) (e:Rd H a (.dK kvs)):kvs.length<=sizeLine/\(a==sysModules)=false/\∃vs,KV kvs vs/\h.DictOf (mixKind P w) a vs:=
 show ObjOk P w H h a (.dK kvs) from rd_of ok e
theorem key_of {ks:List Key} (ok:HOk P w H h) (e:H a=some (.tup (ks.map kV))):(tupleKind (mixKind P w)).is h ks a:=by
 obtain ⟨_,its,r,o,h1,h2,n,h3⟩:=(show ObjOk P w H h a (.tup (ks.map kV)) from ok a _ e);exact ⟨o,its.toArray,n,h1,h2,h3,by simpa using items_are r⟩
theorem dt_rd {kvs:List (List Key × V)} (ok:HOk P w H h) (e:Rd H a (.dT kvs)):kvs.length<=sizeLine/\(a==sysModules)=false/\
  ∃xs,KT H kvs xs/\h.DictOfH (tupleKind (mixKind P w)) a xs:=by
 obtain ⟨z,y,xs,r,o,es,ep,h1,h2,h3,h4,h5⟩:=(show ObjOk P w H h a (.dT kvs) from rd_of ok e);refine ⟨z,y,xs,r,o,es,ep,h1,h2,h3,h4,λx hx=>?_,h5⟩;have all:∀{l:List (List Key × V)} {m:List (List Key × Addr × Value)},KT H l m->∀x∈m,(tupleKind (mixKind P w)).is h x.1 x.2.1:=by
  intro l m q;induction q with
  |nil=>intro x hx;exact nomatch hx
  |@cons p q ps qs hq t ih=>
   intro x hx;rcases List.mem_cons.mp hx with e|hx
   ·subst e;exact key_of ok (by rw[<-hq.1];exact hq.2.1)
   ·exact ih x hx
 exact all r x hx
end
def DGet (H:Hp) (a:Addr) (y:V) (r:Option V):Prop:=
 (∃kvs k,Rd H a (.dK kvs)/\y=kV k/\r=valV kvs k)\/∃kvs k b,Rd H a (.dT kvs)/\y=.ref b/\H b=some (.tup (k.map kV))/\r=valV kvs k
theorem DGet.k {H:Hp} {a:Addr} {kvs:List (Key × V)} {k:Key} (e:H a=some (.dK kvs)):DGet H a (kV k) (valV kvs k):=.inl ⟨kvs,k,.inl e,rfl,rfl⟩
section
variable {X:Cx} {pins:List (Addr × Obj)} {σ:St} {H:Hp} {s:Shared} {a:Addr} {y v:V} {u r:Value} {o:Option V} {A:Around} {E:Value->Shared->Prop}
theorem d_getItem {Q:Value->Shared->Prop} (hu:A.units+1<cLine) (I:Inv X pins σ H s) (g:DGet H a y (some v)) (ry:RelV y u) (h:∀w' s',Inv X pins σ H s'->RelV v w'->Q w' s'):
  wpAny (model X.prog X.w) A (getItem (.ref a) u) Q E s:=by
 rcases g with ⟨kvs,k,e,ey,l⟩|⟨kvs,k,b,e,ey,eb,l⟩
 ·subst ey;obtain ⟨z,hd,vs,rel,dd⟩:=dk_rd I.hok e;obtain ⟨w',hw,rw'⟩:=RelO.some_of (v:=v) (o:=valueAt vs k) (by rw[l];exact rel.val k);exact wpAny_getItem_of (kV_is ry) dd.mapOf hw (h w' _ (I.tok _) rw')
 ·subst ey;cases (show u=Value.ref b from ry);obtain ⟨z,hd,xs,rel,dd⟩:=dt_rd I.hok e;obtain ⟨w',hw,rw'⟩:=RelO.some_of (v:=v) (o:=(atKey xs k).map (·.2)) (by rw[l];exact rel.val k);obtain ⟨p,hp,hp2⟩:=Option.map_eq_some_iff.mp hw;refine wpAny_getItem_heap (tupleKind_room_in1 hu) (key_of I.hok eb) dd hp ?_;rw[hp2];exact h w' _ (I.tok _) rw'
end
section
variable {X:Cx} {pins:List (Addr × Obj)} {σ:St} {H:Hp} {s:Shared} {a:Addr} {kvs:List (Key × V)} {k:Key} {u:Value} {A:Around} {E:Value->Shared->Prop}
theorem d_len {Q:Value->Shared->Prop} (I:Inv X pins σ H s) (e:Rd H a (.dK kvs)) (h:∀t s',Inv X pins σ H s'->Q (.int kvs.length t) s'):wpAny (model X.prog X.w) A (call (.builtin "len") [.ref a]) Q E s:=by
 obtain ⟨z,hd,vs,rel,dd⟩:=dk_rd I.hok e;refine call_len_dict hd dd (by rw[<-rel.length];rw[sizeLine_eq] at z;lia) ?_;rw[<-rel.length];exact h _ _ (I.tok _)
end
theorem dict_typeIs {X:Cx} {pins:List (Addr × Obj)} {σ:St} {H:Hp} {s:Shared} {a:Addr} {y:V} {o:Option V} (I:Inv X pins σ H s) (g:DGet H a y o):s.TypeIs (.ref a) "dict":=by
 rcases g with ⟨kvs,k,e,_,_⟩|⟨kvs,k,b,e,_,_,_⟩
 ·obtain ⟨_,_,vs,_,dd⟩:=dk_rd I.hok e;exact dd.typeIs
 ·obtain ⟨_,_,xs,_,dd⟩:=dt_rd I.hok e;exact dd.typeIs
section
variable {X:Cx} {o i e value:Expr} {pos pos' tpos:Pos} {td ty tv:TE}
end
section
variable {X:Cx} {pos:Pos}
end
section
variable {X:Cx} {pins:List (Addr × Obj)} {σ:St} {H:Hp} {s:Shared} {a:Addr} {y d:V} {u r:Value} {o:Option V} {A:Around} {E:Value->Shared->Prop}
theorem d_get2 {Q:Value->Shared->Prop} (hu:A.units+1<cLine) (I:Inv X pins σ H s) (g:DGet H a y o) (ry:RelV y u) (rd:RelV d r) (h:∀w' s',Inv X pins σ H s'->RelV (o.getD d) w'->Q w' s'):
  wpAny (model X.prog X.w) A (call (.builtin "dict.get") [.ref a,u,r]) Q E s:=by
 rcases g with ⟨kvs,k,e,ey,l⟩|⟨kvs,k,b,e,ey,eb,l⟩
 ·subst ey;obtain ⟨z,hd,vs,rel,dd⟩:=dk_rd I.hok e;refine call_meetsIn PySem.F.slot_dict_get dd.typeIs PySem.F.entry_dict_get (PySem.F.args_dict_get_3 _ _ _) (meets_dict_get_default (mixKind X.prog X.w) a (kV_is ry) hd r) ⟨_,dd.mapOf,h _ _ (I.tok _) ?_⟩;rw[l];exact (rel.val k).getD rd
 ·subst ey;cases (show u=Value.ref b from ry);obtain ⟨z,hd,xs,rel,dd⟩:=dt_rd I.hok e;refine call_meetsIn PySem.F.slot_dict_get dd.typeIs PySem.F.entry_dict_get (PySem.F.args_dict_get_3 _ _ _) (meetsH_dict_get_default (tupleKind (mixKind X.prog X.w)) a b hd r) ⟨tupleKind_room_in1 hu,k,xs,key_of I.hok eb,dd,h _ _ (I.tok _) ?_⟩;rw[l];exact (rel.val k).getD rd
end
section
variable {X:Cx} {o e f:Expr} {apos cpos:Pos} {td ty tx:TE}
end
section
variable {X:Cx} {pins:List (Addr × Obj)} {σ:St} {H:Hp} {s:Shared} {a:Addr} {kvs:List (Key × V)} {A:Around} {E:Value->Shared->Prop}
end
section
variable {X:Cx} {pins:List (Addr × Obj)} {σ:St} {H:Hp} {s:Shared} {a:Addr} {y:V} {u:Value} {A:Around} {E:Value->Shared->Prop}
end
end L2
namespace L2.L3
open PySem PySem.Spec PyProof.Rows
def sgn (c:Nat):V:=.str ⟨#[c]⟩
def Its (z:Str):It:=⟨λi _=>i<z.cps.size,λi H x H'=>H'=H/\∃c,z.cps[i]?=some c/\x=sgn c,λi _=>z.cps.size<=i⟩
theorem turn_str {P:Program} {w:World} {K:Fg} {tg:Expr} (z:Str) (t:Tok) (it:Addr) (T:String) (hT:T="str_ascii_iterator"\/T="str_iterator"):
  Turn P w K tg (Its z) [it] it (λi h=>h.IsStrIter it T z t i) where
 mem:=by simp
 obj:=λi h st b hb=>by
  have e:b=it:=by simpa using hb
  subst e;obtain ⟨o,e,c,d⟩:=st;exact ⟨o,e,λv z=>by rw[d] at z;cases z⟩
 keep:=λi h h' st k=>by
  obtain ⟨o,e,c,d⟩:=st;exact ⟨o,k it (by simp) o e,c,d⟩
 item:=by
  intro X hP hw hK hc i pins s σ H E I hf st hg;subst hP hw hK;obtain ⟨f0,f1,f2,f3,f4,f5⟩:=hf it (by simp);have hi:i<z.cps.size:=hg;rcases hT with rfl|rfl
  ·refine wpAny_pyNext_ascii_item st (c:=z.cps[i]) (by simp [hi]) λh' st' sb=>?_;have I1:Inv X pins σ H {s with heap:=h',toks:=s.toks+1}:=I.turned (λb o hb e=>(sb.2 b hb).trans e) f0 f1 f3 f4 f5;obtain ⟨o,e,c,d⟩:=id st';exact ⟨_,rfl,go_of (s:={s with heap:=h',toks:=s.toks+1}) e c d (by decide) ⟨sgn z.cps[i],H,I1,⟨_,rfl⟩,⟨rfl,_,by simp [hi],rfl⟩,st',λb hb=>(hf b hb).1⟩⟩
  ·refine wpAny_pyNext_wide_item st (c:=z.cps[i]) (by simp [hi]) λh' st' sb=>?_;have I1:Inv X pins σ H {s with heap:=h',toks:=s.toks+1}:=I.turned (λb o hb e=>(sb.2 b hb).trans e) f0 f1 f3 f4 f5;obtain ⟨o,e,c,d⟩:=id st';exact ⟨_,rfl,go_of (s:={s with heap:=h',toks:=s.toks+1}) e c d (by decide) ⟨sgn z.cps[i],H,I1,⟨_,rfl⟩,⟨rfl,_,by simp [hi],rfl⟩,st',λb hb=>(hf b hb).1⟩⟩
 done:=by
  intro X hP hw hK hc i pins s σ H E I hf st hg;subst hP hw hK;obtain ⟨f0,f1,f2,f3,f4,f5⟩:=hf it (by simp);have hi:z.cps.size<=i:=hg;rcases hT with rfl|rfl
  ·exact wpAny_pyNext_ascii_end (I.ok.hd hc) st (by simp [hi]) λh' eb=>⟨rfl,I.turned (t':=s.toks) (λb o hb e=>eb b o hb e) f0 f1 f3 f4 f5⟩
  ·exact wpAny_pyNext_wide_end (I.ok.hd hc) st (by simp [hi]) λh' eb=>⟨rfl,I.turned (t':=s.toks) (λb o hb e=>eb b o hb e) f0 f1 f3 f4 f5⟩
 self:=λ_ _ _ _ _ st h=>by
  rcases hT with rfl|rfl
  ·exact wpAny_pyIter_striter_ascii st h
  ·exact wpAny_pyIter_striter_wide st h
structure Yl (J:It) (P:Hp->Prop) (items:List V):Prop where
 go:∀i H,P H->i<items.length->J.go i H
 yld:∀i H x H',P H->i<items.length->J.yld i H x H'->H'=H/\items[i]?=some x
 stop:∀H,P H->J.stop items.length H
theorem yl_list {K:Fg} {a:Addr} {xs:List V}:Yl (Itl K a) (λH=>SqL K H a xs) xs where
 go:=λi H p h=>⟨xs,xs[i],p,by simp [h]⟩
 yld:=λi H x H' p _ h=>⟨h.1,h.2 xs p⟩
 stop:=λH p=>⟨xs,p,Nat.le_refl _⟩
theorem yl_tup {K:Fg} {a:Addr} {xs:List V}:Yl (Itt K a) (λH=>SqT K H a xs) xs where
 go:=λi H p h=>⟨xs,xs[i],p,by simp [h]⟩
 yld:=λi H x H' p _ h=>⟨h.1,h.2 xs p⟩
 stop:=λH p=>⟨xs,p,Nat.le_refl _⟩
def rngV (lo:Int) (n:Nat):List V:=(List.range n).map λi=>.int (lo+(i:Nat))
theorem rngV_len (lo:Int) (n:Nat):(rngV lo n).length=n:=by unfold rngV;rw[List.length_map,List.length_range]
theorem rngV_get {lo:Int} {n i:Nat} {x:V} (h:(rngV lo n)[i]?=some x):i<n/\x=.int (lo+(i:Nat)):=by
 unfold rngV at h;rw[List.getElem?_map] at h;by_cases hi:i<n
 ·rw[List.getElem?_range hi] at h;exact ⟨hi,(Option.some.inj h).symm⟩
 ·rw[List.getElem?_eq_none_iff.mpr (by rw[List.length_range];lia)] at h;cases h
theorem yl_rng {lo:Int} {n:Nat}:Yl (Itr lo n) (λ_=>True) (rngV lo n) where
 go:=λi H _ h=>by rw[rngV_len] at h;exact h
 yld:=λi H x H' _ hi h=>⟨h.1,by
  have e:x=.int (lo+(i:Nat)):=h.2
  rw[rngV_len] at hi
  rw[e]
  unfold rngV
  rw[List.getElem?_map,List.getElem?_range hi]
  rfl⟩
 stop:=λH _=>by rw[rngV_len];exact Nat.le_refl _
def sgnV (z:Str):List V:=z.cps.toList.map sgn
theorem sgnV_len (z:Str):(sgnV z).length=z.cps.size:=by unfold sgnV;rw[List.length_map,Array.length_toList]
theorem yl_str {z:Str}:Yl (Its z) (λ_=>True) (sgnV z) where
 go:=λi H _ h=>by rw[sgnV_len] at h;exact h
 yld:=λi H x H' _ hi h=>by
  obtain ⟨e,c,h1,h2⟩:=h;refine ⟨e,?_⟩;unfold sgnV;rw[List.getElem?_map,h2];have q:z.cps.toList[i]?=some c:=by simpa using h1
  rw[q];rfl
 stop:=λH _=>by rw[sgnV_len];exact Nat.le_refl _
theorem for_yl {J:It} {P:Hp->Prop} {xs:List V} {g:TG} {tb:TS} {D:Ends} {σ:St} {H:Hp} (Y:Yl J P xs) (Pv:Nat->St->Hp->Prop) (h0:Pv 0 σ H) (hl:∀i σ H,i<=xs.length->Pv i σ H->P H)
  (hs:∀i x σ H,xs[i]?=some x->Pv i σ H->g x σ H λσ2 H2=>tb {D with nx:=Pv (i+1),ct:=Pv (i+1),bk:=D.nx} σ2 H2) (hd:∀σ H,Pv xs.length σ H->D.nx σ H):
  ∃W:Nat->Nat->St->Hp->Prop,(∃m,W 0 m σ H)/\∀i m σ H,W i m σ H->
   (J.stop i H/\D.nx σ H)\/(J.go i H/\∃N:St->Hp->Prop,(∀σ' H',N σ' H'->∃m',m'<m/\W (i+1) m' σ' H')/\∀x H',J.yld i H x H'->g x σ H' λσ2 H2=>tb {D with nx:=N,ct:=N,bk:=D.nx} σ2 H2):=by
 refine ⟨λi m σ H=>m=xs.length - i/\i<=xs.length/\Pv i σ H,⟨xs.length,by simp,Nat.zero_le _,h0⟩,?_⟩;rintro i m σ H ⟨rfl,hi,p⟩;have q:=hl i σ H hi p;by_cases hlt:i<xs.length
 ·refine .inr ⟨Y.go i H q hlt,Pv (i+1),λσ' H' p'=>⟨xs.length - (i+1),by lia,rfl,hlt,p'⟩,λx H' y=>?_⟩;obtain ⟨e,hx⟩:=Y.yld i H x H' q hlt y;subst e;exact hs i x σ H' hx p
 ·have e:i=xs.length:=by lia
  subst e;exact .inl ⟨Y.stop H q,hd σ H p⟩
theorem for_same {J:It} {P:Hp->Prop} {xs:List V} {g:TG} {tb:TS} {D:Ends} {σ:St} {H:Hp} (Y:Yl J P xs) (hP:∀H',Same H H'->P H') (S:Nat->St->Prop) (h0:S 0 σ)
  (hs:∀i x σ1 H1,xs[i]?=some x->S i σ1->Same H H1->g x σ1 H1 λσ2 H2=>tb {D with nx:=λσ3 H3=>S (i+1) σ3/\Same H H3,ct:=λσ3 H3=>S (i+1) σ3/\Same H H3,bk:=D.nx} σ2 H2) (hd:∀σ1 H1,S xs.length σ1->Same H H1->D.nx σ1 H1):
  ∃W:Nat->Nat->St->Hp->Prop,(∃m,W 0 m σ H)/\∀i m σ H,W i m σ H->
   (J.stop i H/\D.nx σ H)\/(J.go i H/\∃N:St->Hp->Prop,(∀σ' H',N σ' H'->∃m',m'<m/\W (i+1) m' σ' H')/\∀x H',J.yld i H x H'->g x σ H' λσ2 H2=>tb {D with nx:=N,ct:=N,bk:=D.nx} σ2 H2):=
 for_yl Y (λi σ1 H1=>S i σ1/\Same H H1) ⟨h0,Same.refl _⟩ (λ_ _ H1 _ p=>hP H1 p.2) (λi x σ1 H1 hx p=>hs i x σ1 H1 hx p.1 p.2) λσ1 H1 p=>hd σ1 H1 p.1 p.2
def clOf (names:List (Str × NameKind)) (env:Env):List (Str × Addr):=((names.filter λx=>x.2==.free).filterMap λx=>(env.cells.lookup x.1).map λc=>(x.1,c)).reverse
theorem clOf_mem {names:List (Str × NameKind)} {env:Env} {x:Str} {c:Addr} (h:(x,c)∈clOf names env):env.cells.lookup x=some c:=by
 obtain ⟨y,hy,e⟩:=List.mem_filterMap.mp (List.mem_reverse.mp h);cases q:env.cells.lookup y.1 with
 |none=>rw[q] at e;cases e
 |some d=>
  rw[q] at e;have e':(y.1,d)=(x,c):=Option.some.inj e;cases e';exact q
theorem clOf_lookup {names:List (Str × NameKind)} {env:Env} {x:Str} {c:Addr} (h:(clOf names env).lookup x=some c):env.cells.lookup x=some c:=clOf_mem (PySem.mem_of_lookup h)
theorem clOf_has {names:List (Str × NameKind)} {env:Env} {x:Str} {c:Addr} (h:names.lookup x=some .free) (e:env.cells.lookup x=some c):(clOf names env).lookup x=some c:=by
 have hm:(x,c)∈clOf names env:=List.mem_reverse.mpr (List.mem_filterMap.mpr ⟨(x,.free),List.mem_filter.mpr ⟨PySem.mem_of_lookup h,rfl⟩,by rw[e];rfl⟩);cases q:(clOf names env).lookup x with
 |none=>
  have z:=List.lookup_eq_none_iff.mp q _ hm;simp at z
 |some d=>
  have z:=clOf_lookup q;rw[e] at z;exact z.symm
theorem relabel_cell {env:Env}:∀{names:List (Str × NameKind)} {x:Str},env.scope.kind=.function->names.lookup x=some .free->env.kindOf x=some .cell->
  (names.map λ(n,k)=>if (k==NameKind.free&&env.scope.kind==.function&&env.kindOf n==some .cell) then (n,NameKind.cell) else (n,k)).lookup x=some .cell
 |[],_,_,h,_=>by simp at h
 | (n,k)::r,x,hk,h,hc=>by
  by_cases hx:x=n
  ·subst hx;rw[List.lookup_cons_self] at h;cases h;rw[List.map_cons];dsimp only;rw[if_pos (by rw[hk,hc];rfl)];exact List.lookup_cons_self
  ·have hb:(x==n)=false:=beq_eq_false_iff_ne.mpr hx;rw[List.lookup_cons,hb] at h;have ih:=relabel_cell (names:=r) hk h hc;rw[List.map_cons];dsimp only;by_cases c:(k==NameKind.free&&env.scope.kind==.function&&env.kindOf n==some .cell)=true
   ·rw[if_pos c,List.lookup_cons,hb];exact ih
   ·rw[if_neg c,List.lookup_cons,hb];exact ih
theorem relabel_back {env:Env}:∀{names:List (Str × NameKind)} {x:Str} {k:NameKind},(names.map λ(n,k)=>if (k==NameKind.free&&env.scope.kind==.function&&env.kindOf n==some .cell) then (n,NameKind.cell) else (n,k)).lookup x=some k->
  names.lookup x=some k\/(k=.cell/\names.lookup x=some .free)
 |[],_,_,h=>by simp at h
 | (n,k')::r,x,k,h=>by
  rw[List.map_cons] at h;dsimp only at h;by_cases hx:x=n
  ·subst hx;rw[List.lookup_cons_self];by_cases c:(k'==NameKind.free&&env.scope.kind==.function&&env.kindOf x==some .cell)=true
   ·rw[if_pos c,List.lookup_cons_self] at h;cases h;have z:k'=.free:=by
     rw[Bool.and_eq_true,Bool.and_eq_true] at c;exact beq_iff_eq.mp c.1.1
    exact .inr ⟨rfl,by rw[z]⟩
   ·rw[if_neg c,List.lookup_cons_self] at h;exact .inl h
  ·have hb:(x==n)=false:=beq_eq_false_iff_ne.mpr hx;have h':(r.map λ(n,k)=>if (k==NameKind.free&&env.scope.kind==.function&&env.kindOf n==some .cell) then (n,NameKind.cell) else (n,k)).lookup x=some k:=by
    by_cases c:(k'==NameKind.free&&env.scope.kind==.function&&env.kindOf n==some .cell)=true
    ·rw[if_pos c,List.lookup_cons,hb] at h;exact h
    ·rw[if_neg c,List.lookup_cons,hb] at h;exact h
   rw[List.lookup_cons,hb];exact relabel_back h'
theorem cellsFrom_app:∀(names:List (Str × NameKind)) (n:Nat) (acc:List (Str × Addr)),cellsFrom n names acc=cellsFrom n names []++acc
 |[],_,_=>rfl
 | (name,kind)::r,n,acc=>by
  unfold cellsFrom;split
  ·rw[cellsFrom_app r (n+1) ((name,n)::acc),cellsFrom_app r (n+1) [(name,n)],List.append_assoc];rfl
  ·exact cellsFrom_app r n acc
theorem cellsFrom_key:∀(names:List (Str × NameKind)) (n:Nat) {x:Str} {c:Addr},(x,c)∈cellsFrom n names []->(x,NameKind.cell)∈names
 |[],_,_,_,h=>nomatch h
 | (name,kind)::r,n,x,c,h=>by
  unfold cellsFrom at h;split at h
  ·rename_i hk;rw[cellsFrom_app] at h;rcases List.mem_append.mp h with h|h
   ·exact List.mem_cons_of_mem _ (cellsFrom_key r _ h)
   ·have e:=List.mem_singleton.mp h;have e1:x=name:=congrArg Prod.fst e;have e2:kind=NameKind.cell:=eq_of_beq hk;rw[e1,e2];exact List.mem_cons_self
  ·exact List.mem_cons_of_mem _ (cellsFrom_key r _ h)
def blkCl (sc:Scope) (C:Addr) (env:Env):List (Str × Addr):=cellsFrom (C+1) sc.names (clOf sc.names env)
theorem blkCl_or {sc:Scope} {C:Addr} {env:Env} {x:Str} {c:Addr} (h:(blkCl sc C env).lookup x=some c):(x,c)∈cellsFrom (C+1) sc.names []\/env.cells.lookup x=some c:=by
 unfold blkCl at h;rw[cellsFrom_app,List.lookup_append] at h;cases q:(cellsFrom (C+1) sc.names []).lookup x with
 |some d=>
  rw[q] at h;have e:d=c:=Option.some.inj h;subst e;exact .inl (PySem.mem_of_lookup q)
 |none=>
  rw[q] at h;exact .inr (clOf_lookup h)
theorem blkCl_own {sc:Scope} {C:Addr} {env:Env} {x:Str} {c:Addr} (hx:sc.names.lookup x=some .cell) (h:(blkCl sc C env).lookup x=some c):(x,c)∈cellsFrom (C+1) sc.names []:=by
 obtain ⟨d,q⟩:=cell_has (n:=C+1) hx;unfold blkCl at h;rw[cellsFrom_app,List.lookup_append,q] at h;have e:d=c:=Option.some.inj h;subst e;exact PySem.mem_of_lookup q
theorem blkCl_free {sc:Scope} {C:Addr} {env:Env} {x:Str} {c:Addr} (hown:∀y∈sc.names,y.2=.cell->sc.names.lookup y.1=some .cell) (hx:sc.names.lookup x=some .free) (e:env.cells.lookup x=some c):(blkCl sc C env).lookup x=some c:=by
 unfold blkCl;rw[cellsFrom_app,List.lookup_append];cases q:(cellsFrom (C+1) sc.names []).lookup x with
 |some d=>
  have z:=hown _ (cellsFrom_key _ _ (PySem.mem_of_lookup q)) rfl;have z':sc.names.lookup x=some .cell:=z;rw[hx] at z';cases z'
 |none=>exact clOf_has hx e
theorem own_ok (h:Heap) (ob:Obj) (sc:Scope):CellsOk (pushCells (h.push ob) sc.names) (h.objs.size+1) (cellsFrom (h.objs.size+1) sc.names []):=by
 have ok:=cellsFrom_ok sc.names (h.push ob) (h.objs.size+1) [] ⟨λ_ _ hm=>(nomatch hm),List.Pairwise.nil⟩ (by rw[Heap.size_push];exact Nat.le_refl _);rwa [Heap.size_push] at ok
theorem wpAny_blkEnv {M:Model} {A:Around} {E:Value->Shared->Prop} {s:Shared} {scope:Scope} {globals:Addr} {closure:List (Str × Addr)} {qual:Str} {func:Option Addr} {code:Value} {outer:Env} {builtins:Addr} {Q:Env->Shared->Prop}
  (hQ:Q (newEnv scope s.heap.objs.size globals (cellsFrom (s.heap.objs.size+1) scope.names closure) qual func code (some outer) builtins) {s with heap:=pushCells (s.heap.push {cls:=.type "dict",data:=.dict #[]}) scope.names}):
  wpAny M A (newFunctionEnv scope globals closure [] qual func code (some outer) builtins) Q E s:=by
 simp only [newFunctionEnv,Option.isSome_some,if_true];refine wpAny_bind (wpAny_alloc ?_);refine wpAny_bind (wpAny_layCells _ (λname kind cells=>by cases hkc:kind==NameKind.cell<;>simp [hkc]) _ _ _ _ ?_);rw[show ({s with heap:=s.heap.push {cls:=.type "dict",data:=.dict #[]}}:Shared).heap.objs.size=s.heap.objs.size+1 from Heap.size_push ..];refine wpAny_bind ?_;rw[List.forIn_nil];exact wpAny_pure (wpAny_pure hQ)
def blk (X:Cx) (N:List Str) (sc:Scope) (C:Addr) (s₀:Shared) (H₀:Hp) (ex:List Addr):Cx:=
 {X with N:=N,s₀:=s₀,H₀:=H₀,env:=compEnvC sc (blkCl sc C X.env) C X.env,outer:=X.stack,ex:=ex,fn:=λx=>sc.names.lookup x==some .cell,pn:=[],xe:=λ_ _=>False}
inductive Cap (X:Cx) (sc:Scope):List Str->List Nat->Prop
 |nil:Cap X sc [] []
 |cons {x:Str} {i:Nat} {xs:List Str} {is:List Nat} (hN:X.N[i]?=some x) (hk:X.env.kindOf x=some .cell) (hf:sc.names.lookup x=some .free) (t:Cap X sc xs is):Cap X sc (x::xs) (i::is)
theorem Cap.length {X:Cx} {sc:Scope}:∀{xs:List Str} {is:List Nat},Cap X sc xs is->xs.length=is.length
 |_,_,.nil=>rfl
 |_,_,.cons _ _ _ t=>by rw[List.length_cons,List.length_cons,Cap.length t]
theorem Cap.get {X:Cx} {sc:Scope}:∀{xs:List Str} {is:List Nat} {j:Nat} {x:Str},Cap X sc xs is->xs[j]?=some x->∃i,is[j]?=some i/\X.N[i]?=some x/\X.env.kindOf x=some .cell/\sc.names.lookup x=some .free
 |_,_,_,_,.nil,e=>by simp at e
 |_,_,0,_,.cons hN hk hf _,e=>by
  have e':=Option.some.inj e;subst e';exact ⟨_,rfl,hN,hk,hf⟩
 |_,_,j+1,x,.cons _ _ _ t,e=>by
  obtain ⟨i,h1,h2⟩:=Cap.get (j:=j) (x:=x) t (by simpa using e);exact ⟨i,by simpa using h1,h2⟩
def capV (is:List Nat) (σ:St):St:=is.map λi=>(σ[i]?).join
def capS (n:Nat) (is:List Nat) (σ:St):St:=List.replicate n none++capV is σ
theorem Un.but {fs ex:List Addr} {H H1:Hp} {h h1 h2:Heap} {C:Addr} (u:Un fs ex H H1 h h1) (hs:Heap.SameBut C h1 h2) (hC:h.objs.size<=C):Un fs ex H H1 h h2:=by
 have ne:∀b o,h.get? b=some o->b≠C:=λb o e=>Nat.ne_of_lt (Nat.lt_of_lt_of_le (Heap.lt_size e) hC);refine ⟨λb o q n hb hx=>(hs.2 b (ne b o q)).trans (u.keep b o q n hb hx),λb o q n hb hx=>?_,u.free,λb o q hx=>?_,u.tups,u.frzs,u.tbls⟩
 ·obtain ⟨sl,e⟩:=u.slot b o q n hb hx;exact ⟨sl,(hs.2 b (ne b o q)).trans e⟩
 ·obtain ⟨o',e⟩:=u.there b o q hx;exact ⟨o',(hs.2 b (ne b o q)).trans e⟩
theorem HOk.but {P:Program} {w:World} {H:Hp} {h h':Heap} {C:Addr} (k:HOk P w H h) (hs:Heap.SameBut C h h') (hn:H C=none):HOk P w H h':=λb ob e=>by
 refine (k b ob e).stay (λc w' hc q=>(hs.2 c ?_).trans q) (λ_ q=>q) λ_ _ q=>q;rintro rfl;rcases hc with rfl|hc
 ·rw[hn] at e;cases e
 ·rw[hn] at hc;cases hc
section
variable {X:Cx} {pins:List (Addr × Obj)} {σ:St} {H:Hp} {s:Shared}
theorem blk_ok (I:Inv X pins σ H s) {N:List Str} {sc:Scope} {ex:List Addr} (hkind:sc.kind=.function) (hown:∀y∈sc.names,y.2=.cell->sc.names.lookup y.1=some .cell) (hfr:(sc.names.all λy=>y.2 != .free || X.env.kindOf y.1==some .cell)=true)
  (hex:∀b∈ex,FpOk X pins H b) (hob:∀b∈ex,∃o,s.heap.get? b=some o):(blk X N sc s.heap.objs.size s H ex).Ok:=by
 have oc:=own_ok s.heap {cls:=.type "dict",data:=.dict #[]} sc;have lo:∀{x c},(x,c)∈cellsFrom (s.heap.objs.size+1) sc.names []->s.heap.objs.size<c:=λhm=>(oc.empty _ _ hm).2;have hi:∀{x c},X.env.cells.lookup x=some c->c<s.heap.objs.size:=λe=>by
  obtain ⟨v,o,e',_⟩:=I.cell _ _ e;exact Heap.lt_size e'
 refine ⟨I.ok.mod,hkind,I.ok.glob,I.ok.blt,Nat.le_refl _,λx y c h1 h2=>?_,λx h=>?_,λx c hf h=>?_,I.ok.hd,I.ok.frames,.inl rfl,λb hb=>⟨?_,λx c h=>?_⟩,I.bs,Nat.le_trans I.ok.bsz I.sz,λb o e hb=>?_,λb hb hf=>?_,I.stack,I.stkFree⟩
 ·rcases blkCl_or h1 with h1|h1<;>rcases blkCl_or h2 with h2|h2
  ·exact PySem.name_of_addr oc.apart h1 h2
  ·exact absurd (hi h2) (Nat.lt_asymm (lo h1))
  ·exact absurd (hi h1) (Nat.lt_asymm (lo h2))
  ·exact I.ok.inj x y c h1 h2
 ·have fr:sc.names.lookup x=some .free->∃c,(blkCl sc s.heap.objs.size X.env).lookup x=some c:=λq=>by
   have z:=List.all_eq_true.mp hfr _ (PySem.mem_of_lookup q);have z':(X.env.kindOf x==some .cell)=true:=z;obtain ⟨c,e⟩:=I.ok.has x (.inl (beq_iff_eq.mp z'));exact ⟨c,blkCl_free hown q e⟩
  rcases h with h|h
  ·rcases relabel_back (show (sc.names.map λ(n,k)=>if (k==NameKind.free&&X.env.scope.kind==.function&&X.env.kindOf n==some .cell) then (n,NameKind.cell) else (n,k)).lookup x=some .cell from h) with q|⟨_,q⟩
   ·exact Option.isSome_iff_exists.mp (PySem.W.cellsFrom_some sc.names _ _ (.inl q))
   ·exact fr q
  ·rcases relabel_back (show (sc.names.map λ(n,k)=>if (k==NameKind.free&&X.env.scope.kind==.function&&X.env.kindOf n==some .cell) then (n,NameKind.cell) else (n,k)).lookup x=some .free from h) with q|⟨q,_⟩
   ·exact fr q
   ·cases q
 ·have hx:sc.names.lookup x=some .cell:=eq_of_beq hf;exact Nat.le_of_lt (lo (blkCl_own hx h))
 ·obtain ⟨o,e⟩:=hob b hb;exact Nat.ne_of_lt (Heap.lt_size e)
 ·rcases blkCl_or h with h|h
  ·obtain ⟨o,e⟩:=hob b hb;exact Nat.ne_of_gt (Nat.lt_trans (Heap.lt_size e) (lo h))
  ·exact (hex b hb).2.2.2.2.1 x c h
 ·obtain ⟨_,_,_,q,_⟩:=hex b hb;rcases q with q|q
  ·exact I.ok.noex b o e q
  ·exact absurd (Nat.lt_of_lt_of_le (Heap.lt_size (I.ok.bs b o e).1) q) (Nat.lt_irrefl _)
 ·obtain ⟨_,n1,n2,_⟩:=hex b hb;rcases List.mem_cons.mp (I.stkSub b hf) with z|z
  ·exact n1 z
  ·exact n2 z
theorem blk_start (I:Inv X pins σ H s) {own caps:List Str} {is:List Nat} {sc:Scope} {ex:List Addr} (hkind:sc.kind=.function) (hown:∀y∈sc.names,y.2=.cell->sc.names.lookup y.1=some .cell) (hfr:(sc.names.all λy=>y.2 != .free || X.env.kindOf y.1==some .cell)=true)
  (hcap:Cap X sc caps is) (hex:∀b∈ex,FpOk X pins H b) (hob:∀b∈ex,∃o,s.heap.get? b=some o) {h1:Heap} {tk:Nat} {m0:Str->Option Value} (hn:h1.Ns s.heap.objs.size m0) (hk:∀b o,s.heap.get? b=some o->h1.get? b=some o) (oc:CellsOk h1 (s.heap.objs.size+1) (cellsFrom (s.heap.objs.size+1) sc.names [])):
  Inv (blk X (own++caps) sc s.heap.objs.size s H ex) [] (capS own.length is σ) H {s with heap:=h1,toks:=tk}:=by
 refine ⟨blk_ok I hkind hown hfr hex hob,rfl,I.bare,Un.kept hk,⟨m0,hn,λi x v e1 e2 _=>?_⟩,λx c h=>?_,I.hok.fresh (Nat.le_refl _),λx c h=>(blkCl_or h).elim (λh=>I.hok.fresh (Nat.le_of_lt (oc.empty _ _ h).2)) λh=>I.freeC x c h,λp hp=>absurd (show p∈([]:List (Addr × Obj)) from hp) (by simp),I.hok.kept hk,?_⟩
 ·have e1':(own++caps)[i]?=some x:=e1;by_cases hi:i<own.length
  ·unfold capS at e2;rw[List.getElem?_append_left (by rw[List.length_replicate];exact hi),List.getElem?_replicate,if_pos hi] at e2;cases e2
  ·rw[List.getElem?_append_right (by lia)] at e1';unfold capS at e2;rw[List.getElem?_append_right (by rw[List.length_replicate];lia),List.length_replicate] at e2;obtain ⟨i',q1,q2,q3,q4⟩:=hcap.get e1';unfold capV at e2;rw[List.getElem?_map,q1] at e2;have e2':(σ[i']?).join=some v:=Option.some.inj e2;have e3:σ[i']?=some (some v):=by
    cases z:σ[i']? with
    |none=>rw[z] at e2';cases e2'
    |some w=>
     rw[z] at e2';have e4:w=some v:=e2';rw[e4]
   obtain ⟨m,_,hl⟩:=I.loc;obtain ⟨u,r,l⟩:=hl i' x v q2 e3 (.inr (.inl q3));refine ⟨u,r,?_⟩;rcases l with ⟨z,_⟩|⟨_,c,z1,o,z2,z3⟩
   ·rw[q3] at z;cases z
   ·refine .inr ⟨.inl ?_,c,blkCl_free hown q4 z1,o,hk _ _ z2,z3⟩;exact relabel_cell I.ok.kind q4 q3
 ·rcases blkCl_or h with h|h
  ·exact ⟨none,(oc.empty _ _ h).1⟩
  ·obtain ⟨v,o,e,d⟩:=I.cell x c h;exact ⟨v,o,hk _ _ e,d⟩
 ·show (capS own.length is σ).length=(own++caps).length;unfold capS capV;rw[List.length_append,List.length_append,List.length_replicate,List.length_map,hcap.length]
end
section
variable {X:Cx}
def rSlS:V->Option Int->Option Int->Hp->VK->Prop:=λx lo hi H Q=>∃z,x=.str z/\z.length<=sizeLine/\Q (.str (Txt.slice z lo hi)) H
theorem sl_str:SlR X rSlS:=by
 intro pins s σ H x v vl vu lo hi sl Q I rx hs pl pu h;obtain ⟨z,rfl,hz,q⟩:=h;obtain ⟨t,rfl⟩:=rx;have fin:∀lo hi:Option Int,Q (.str (Txt.slice z lo hi)) H->(Txt.slice z lo hi).length<=sizeLine/\∀t' k,EP X pins σ Q (.str (Txt.slice z lo hi) t') {s with toks:=k}:=λlo hi q=>
  ⟨Nat.le_trans (Txt.slice_le z _ _) hz,λt' k=>⟨.str _,H,I.tok k,⟨t',rfl⟩,q⟩⟩
 refine ⟨"str",_,F.slot_str_getitem.lookup,typeIs_str _ _ _,?_⟩;cases pl with
 |none=>
  cases pu with
  |none=>exact wpAny_getItem_str_slice (l:=none) (u:=none) (st:=none) hs rfl (post_val_or_str (fin none none q))
  |int j t2=>exact wpAny_getItem_str_slice (l:=none) (u:=some (j,t2)) (st:=none) hs rfl (post_val_or_str (fin none (some j) q))
 |int i t1=>
  cases pu with
  |none=>exact wpAny_getItem_str_slice (l:=some (i,t1)) (u:=none) (st:=none) hs rfl (post_val_or_str (fin (some i) none q))
  |int j t2=>exact wpAny_getItem_str_slice (l:=some (i,t1)) (u:=some (j,t2)) (st:=none) hs rfl (post_val_or_str (fin (some i) (some j) q))
theorem slice_to {z:Str} {j:Int} (h0:0<=j):(Txt.slice z none (some j)).cps.toList=z.cps.toList.take j.toNat:=by
 have hl:z.cps.toList.length=z.length:=by simp [Str.length]
 by_cases h:j<=z.length
 ·have e:=beq_iff_eq.mp (slice_closes_to (x:=z) (j:=j) ⟨h0,by rw[hl];exact h⟩);rw[e];simp
 ·have e:=beq_iff_eq.mp (slice_closes_to (x:=z) (j:=(z.length:Int)) ⟨by lia,by rw[hl];exact Int.le_refl _⟩);rw[slice_to_beyond (by lia),e];show List.take ((z.length:Int) - 0).toNat (z.cps.toList.drop 0)=_;rw[List.drop_zero,List.take_of_length_le (by lia),List.take_of_length_le (by lia)]
theorem slice_from {z:Str} {i:Int} (h0:0<=i) (h1:i<=z.length):(Txt.slice z (some i) none).cps.toList=z.cps.toList.drop i.toNat:=by
 have hl:z.cps.toList.length=z.length:=by simp [Str.length]
 rw[slice_from_eq (b:=(z.length:Int)) h0 h1 rfl];show (z.cps.toList.drop i.toNat).take ((z.length:Int) - i).toNat=_;rw[List.take_of_length_le (by rw[List.length_drop];lia)]
theorem slice_len (z:Str) (lo hi:Option Int):(Txt.slice z lo hi).length<=z.length:=Txt.slice_le z lo hi
def rIsi (K:Fg):List V->Hp->VK->Prop:=λxs H Q=>∃x n t b,xs=[x,.ty n]/\TyOf K H x t/\PySem.W.kitOne K t (.type n)=some b/\Q (.bl b) H
theorem call_isi:CallR X (.builtin "isinstance") (rIsi X.K):=by
 intro pins s σ H xs us Q I rv h;obtain ⟨x,n,t,b,rfl,ty,k,q⟩:=h;obtain ⟨u,w',rfl,rx,ry⟩:=rv.two;cases (show w'=Value.type n from ry);exact isinst_ok I rx ty k λtk=>⟨.bl b,H,I.tok tk,rfl,q⟩
end
def constV:Const->Option V
 | .none=>some .non
 | .bool b=>some (.bl b)
 | .int i=>some (.int i)
 | .str x=>some (.str x)
 |_=>none
theorem pe_constV {X:Cx} {c:Const} {v:V} {j:Nat} {pos:Pos} (h:constV c=some v):PE X (.Constant c j pos) (tC v):=by
 cases c with
 |none=>cases h;exact pe_non
 |bool b=>cases h;exact pe_bl
 |int i=>cases h;exact pe_int
 |str x=>cases h;exact pe_str
 |_=>cases h
theorem same_new {H:Hp} {p:Addr} (h:H p=none) (o:HO):Same H (upd H p o):=λb u q=>by rw[upd_ne (ne_of_none q h)];exact q
theorem big_dict {X:Cx} {pins:List (Addr × Obj)} {σ:St} {H:Hp} {s:Shared} (I:Inv X pins σ H s):sysModules<s.heap.objs.size:=by
 have h:mainGlobals<s.heap.objs.size:=(I.mod.glob.keeps I.bk).lt;exact Nat.lt_trans (by decide) h
end L2.L3
namespace ZD
open PySem PySem.Spec PyProof.Rows
section
variable {prog:Program} {w:World} {A:Around} {E:Value->Shared->Prop} {s:Shared}
theorem alive {α:Type} {M:Model} {a:Addr} {o:Obj} {k:Option Obj->Sem α} {Q:α->Shared->Prop} (ho:s.heap.get? a=some o) (h:wpAny M A (k (some o)) Q E s):wpAny M A (.loadIfAlive a k) Q E s:=λΓ p hi=>by
 rw[Sem.wp_loadIfAlive,ho];exact h Γ p hi
theorem next_tup {it t:Addr} {i:Nat} {items:Array Value} {x:Value} {Q:Value->Shared->Prop} (hit:s.heap.IsTupleIter it t i) (ht:s.heap.IsTuple t items) (hx:items[i]?=some x)
  (hQ:∀h',h'.IsTupleIter it t (i+1)->Heap.SameBut it s.heap h'->Q x {s with heap:=h'}):wpAny (model prog w) A (Builtin.SmallTypes.nextOf (.ref it)) Q E s:=by
 obtain ⟨oi,hoi,hci,hdi⟩:=id hit;obtain ⟨ot,hot,_,nt,hdt⟩:=ht;unfold Builtin.SmallTypes.nextOf;refine wpAny_bind (wpAny_callSpecial?_slot (name:=Str.ofString "__next__") hit.typeIs F.slot_tuple_iterator_next
  (wpAny_call_entry F.slot_tuple_iterator_next hit.typeIs F.entry_tuple_iterator_next ?_ (F.args_tuple_iterator_next_1 _)))
 show wpAny _ _ (field (.ref it) 0 >>=_) _ _ s;refine wpAny_bind (wpAny_field hoi hdi (x:=.ref t) rfl ?_);show wpAny _ _ (if (Value.ref t==Value.none)=true then _ else _) _ _ s;rw[if_neg (show ¬((Value.ref t==Value.none)=true) from Bool.false_ne_true)];show wpAny _ _ (field (.ref it) 1 >>=_) _ _ s;refine wpAny_bind (wpAny_field hoi hdi (x:=.int i 0) rfl ?_);show wpAny _ _ (seqItems? (.ref t) >>=_) _ _ s;refine wpAny_bind (wpAny_seqItems hot hdt ?_);simp only [Int.toNat_natCast,hx];refine wpAny_bind (wpAny_setField hoi hdi (by simp) (wpAny_pure ⟨x,rfl,wpAny_pure (hQ _ ?_ (Heap.SameBut.update ..))⟩));exact ⟨_,Heap.get?_update_self _ hoi (Obj.isFreed_of_fields (Obj.data_mapFields hdi _)),(Obj.cls_mapFields ..).trans hci,by
  rw[Obj.data_mapFields hdi];simp [rawInt]⟩
structure IsSI (h:Heap) (it:Addr) (x:Str) (t:Tok) (i:Nat):Prop where
 ex:∃T:String,(T="str_ascii_iterator"\/T="str_iterator")/\h.IsStrIter it T x t i
theorem IsSI.at' {h h':Heap} {it:Addr} {x:Str} {t:Tok} {i:Nat} (z:IsSI h it x t i) (k:∀o,h.get? it=some o->h'.get? it=some o):IsSI h' it x t i:=by
 obtain ⟨T,hT,o,e,r⟩:=z.ex;exact ⟨T,hT,o,k o e,r⟩
theorem IsSI.lt {h:Heap} {it:Addr} {x:Str} {t:Tok} {i:Nat} (z:IsSI h it x t i):it<h.objs.size:=by
 obtain ⟨T,hT,o,e,r⟩:=z.ex;exact Heap.lt_size e
theorem next_si {it:Addr} {x:Str} {t:Tok} {i c:Nat} {Q:Value->Shared->Prop} (hit:IsSI s.heap it x t i) (hx:x.cps[i]?=some c)
  (hQ:∀h' u tk,IsSI h' it x t (i+1)->Heap.SameBut it s.heap h'->Q (.str ⟨#[c]⟩ u) {s with heap:=h',toks:=tk}):wpAny (model prog w) A (Builtin.SmallTypes.nextOf (.ref it)) Q E s:=by
 obtain ⟨T,hT,z⟩:=hit.ex;rcases hT with rfl|rfl
 ·exact wpAny_nextOf_ascii_item z hx λh' z' sb=>hQ h' _ _ ⟨_,.inl rfl,z'⟩ sb
 ·exact wpAny_nextOf_wide_item z hx λh' z' sb=>hQ h' _ _ ⟨_,.inr rfl,z'⟩ sb
theorem next_si_end {it:Addr} {x:Str} {t:Tok} {i:Nat} {Q:Value->Shared->Prop} (hh:A.handled=none) (hit:IsSI s.heap it x t i) (hx:x.cps[i]?=none)
  (hE:∀h' e,Heap.ExtBut it s.heap h'->(∃o,h'.get? e=some o/\o.cls=.type "StopIteration")->E (.ref e) {s with heap:=h'}):wpAny (model prog w) A (Builtin.SmallTypes.nextOf (.ref it)) Q E s:=by
 obtain ⟨T,hT,z⟩:=hit.ex;rcases hT with rfl|rfl
 ·exact wpAny_nextOf_ascii_end hh z hx hE
 ·exact wpAny_nextOf_wide_end hh z hx hE
def It2 (h:Heap) (i2 t:Addr) (items:Array Value) (k:Nat):Prop:=(h.IsTupleIter i2 t k/\h.IsTuple t items)\/(h.IsListIter i2 t k/\h.IsList t items)
theorem It2.at {h h':Heap} {i2 t:Addr} {items:Array Value} {k:Nat} (z:It2 h i2 t items k) (k1:∀o,h.get? i2=some o->h'.get? i2=some o) (k2:∀o,h.get? t=some o->h'.get? t=some o):It2 h' i2 t items k:=by
 rcases z with ⟨a,o,e,r⟩|⟨a,o,e,r⟩
 ·exact .inl ⟨a.at k1,o,k2 _ e,r⟩
 ·exact .inr ⟨a.at k1,o,k2 _ e,r⟩
theorem It2.lt {h:Heap} {i2 t:Addr} {items:Array Value} {k:Nat} (z:It2 h i2 t items k):i2<h.objs.size:=by
 rcases z with ⟨⟨o,e,_⟩,_⟩|⟨⟨o,e,_⟩,_⟩
 ·exact Heap.lt_size e
 ·exact Heap.lt_size e
theorem It2.ltT {h:Heap} {i2 t:Addr} {items:Array Value} {k:Nat} (z:It2 h i2 t items k):t<h.objs.size:=by
 rcases z with ⟨_,o,e,_⟩|⟨_,o,e,_⟩
 ·exact Heap.lt_size e
 ·exact Heap.lt_size e
theorem next_it2 {i2 t:Addr} {k:Nat} {items:Array Value} {x:Value} {Q:Value->Shared->Prop} (z:It2 s.heap i2 t items k) (ht:t≠i2) (hx:items[k]?=some x)
  (hQ:∀h',It2 h' i2 t items (k+1)->Heap.SameBut i2 s.heap h'->Q x {s with heap:=h'}):wpAny (model prog w) A (Builtin.SmallTypes.nextOf (.ref i2)) Q E s:=by
 rcases z with ⟨a,b⟩|⟨a,b⟩
 ·exact next_tup a b hx λh' j sb=>hQ h' (.inl ⟨j,let ⟨o,e,r⟩:=b;⟨o,sb.extBut _ _ ht e,r⟩⟩) sb
 ·exact wpAny_nextOf_list_item a b hx λh' j sb=>hQ h' (.inr ⟨j,let ⟨o,e,r⟩:=b;⟨o,sb.extBut _ _ ht e,r⟩⟩) sb
def ZipO (f0 f1:Value) (TI TO:Addr):Obj:={cls:=.type "zip",dict:=none,data:=.fields #[f0,f1,.bool false,.ref TI,.ref TO],slots:=#[]}
structure Apart (z TI TO i1 i2 t:Addr):Prop where
 TIz:TI≠z
 TOz:TO≠z
 i1z:i1≠z
 i2z:i2≠z
 TITO:TI≠TO
 TIi1:TI≠i1
 TIi2:TI≠i2
 TOi1:TO≠i1
 TOi2:TO≠i2
 i12:i1≠i2
 tz:t≠z
 tTO:t≠TO
 ti1:t≠i1
 ti2:t≠i2
structure ZSt (h:Heap) (z TI TO i1 i2 t:Addr) (x:Str) (tk:Tok) (items:Array Value) (k:Nat):Prop where
 zip:∃f0 f1,h.get? z=some (ZipO f0 f1 TI TO)/\(f0=.none\/∃a o,f0=rawInt (a:Nat)/\h.get? a=some o/\a≠z/\a≠TO/\a≠i1/\a≠i2)
 pTI:IsPair h TI (.ref i1) (.ref i2)
 pTO:∃a b,IsPair h TO a b
 s1:IsSI h i1 x tk k
 s2:It2 h i2 t items k
theorem ZSt.keep {h h':Heap} {z TI TO i1 i2 t:Addr} {x:Str} {tk:Tok} {items:Array Value} {k:Nat} (y:ZSt h z TI TO i1 i2 t x tk items k) (kp:∀b o,h.get? b=some o->h'.get? b=some o):ZSt h' z TI TO i1 i2 t x tk items k:=by
 obtain ⟨⟨f0,f1,e,r⟩,p1,⟨a,b,p2⟩,s1,s2⟩:=y;refine ⟨⟨f0,f1,kp _ _ e,?_⟩,kp _ _ p1,⟨a,b,kp _ _ p2⟩,s1.at' λo=>kp _ o,s2.at (λo=>kp _ o) λo=>kp _ o⟩;rcases r with r|⟨a,o,r1,r2,r3⟩
 ·exact .inl r
 ·exact .inr ⟨a,o,r1,kp _ _ r2,r3⟩
theorem zip_next {z TI TO i1 i2 t:Addr} {x:Str} {tk:Tok} {items:Array Value} {k c:Nat} {y:Value} {Q:Value->Shared->Prop} (D:Apart z TI TO i1 i2 t) (S:ZSt s.heap z TI TO i1 i2 t x tk items k) (hx:x.cps[k]?=some c) (hy:items[k]?=some y)
  (hQ:∀h' T u tk',ZSt h' z TI TO i1 i2 t x tk items (k+1)->IsPair h' T (.str ⟨#[c]⟩ u) y->s.heap.objs.size<=T->(∀b o,b≠z->b≠TO->b≠i1->b≠i2->s.heap.get? b=some o->h'.get? b=some o)->Q (.ref T) {s with heap:=h',toks:=tk'}):
  wpAny (model prog w) A (Builtin.«zip.__next__» ⟨[.ref z],[]⟩) (λfin s'=>∃v,fin=.done (.ret v)/\Q v s') E s:=by
 obtain ⟨⟨f0,f1,hz,hf⟩,hTI,⟨a,b,hTO⟩,h1,h2⟩:=S;show wpAny _ _ (field (.ref z) 2 >>=_) _ _ _;refine wpAny_bind (wpAny_field hz rfl (x:=.bool false) rfl ?_);show wpAny _ _ (field (.ref z) 3 >>=_) _ _ _;refine wpAny_bind (wpAny_field hz rfl (x:=.ref TI) rfl ?_);refine wpAny_bind (wpAny_seqItems hTI rfl ?_);show wpAny _ _ (Builtin.SmallTypes.ownedTupleIsFree (.ref z) >>=_) _ _ _;refine wpAny_bind ?_;unfold Builtin.SmallTypes.ownedTupleIsFree;rcases hf with rfl|⟨q,oq,rfl,hq,q1,q2,q3,q4⟩
 ·refine wpAny_bind (wpAny_field hz rfl (x:=.none) rfl (wpAny_pure ?_));simp only [if_true];refine wpAny_bind (wpAny_rule ?_);refine wpAny_bind (wpAny_field hz rfl (x:=.ref TO) rfl ?_);refine wpAny_bind (wpAny_setField_rec hz (by simp) λg1 z1 b1=>?_);replace z1:g1.get? z=some (ZipO .ellipsis f1 TI TO):=z1;refine wpAny_bind ?_;simp only [List.zipIdx_cons,List.zipIdx_nil,List.forIn_cons,List.forIn_nil];refine wpAny_bind (wpAny_bind (wpAny_onRaise ?_));show wpAny _ _ (Builtin.SmallTypes.nextOf (.ref i1) >>=_) _ _ _;refine wpAny_bind (next_si (h1.at' λo e=>b1.extBut _ _ D.i1z e) hx λg2 u tk2 i2' b2=>wpAny_pure ?_);have o2:IsPair g2 TO a b:=b2.extBut _ _ D.TOi1 (b1.extBut _ _ D.TOz hTO);refine wpAny_bind (wpAny_seqItems o2 rfl ?_);refine wpAny_bind (wpAny_updateSeq_pair o2 λg3 o3 b3=>?_);replace o3:IsPair g3 TO (.str ⟨#[c]⟩ u) b:=o3;refine wpAny_bind (wpAny_letGo (wpAny_pure ?_));refine wpAny_bind (wpAny_bind (wpAny_onRaise ?_));show wpAny _ _ (Builtin.SmallTypes.nextOf (.ref i2) >>=_) _ _ _;have up3:∀c o,c≠z->c≠TO->c≠i1->s.heap.get? c=some o->g3.get? c=some o:=λc o c1 c2 c3 e=>b3.extBut _ _ c2 (b2.extBut _ _ c3 (b1.extBut _ _ c1 e));refine wpAny_bind (next_it2 (h2.at (λo e=>up3 _ _ D.i2z D.TOi2.symm D.i12.symm e) λo e=>up3 _ _ D.tz D.tTO D.ti1 e) D.ti2 hy λg4 j4 b4=>wpAny_pure ?_);have o4:IsPair g4 TO (.str ⟨#[c]⟩ u) b:=b4.extBut _ _ D.TOi2 o3;refine wpAny_bind (wpAny_seqItems o4 rfl ?_);refine wpAny_bind (wpAny_updateSeq_pair o4 λg5 o5 b5=>?_);replace o5:IsPair g5 TO (.str ⟨#[c]⟩ u) y:=o5;refine wpAny_bind (wpAny_letGo (wpAny_pure (wpAny_pure ?_)));refine wpAny_bind (wpAny_seqItems o5 rfl ?_);refine wpAny_bind (wpAny_newTuple ?_);have sz:g5.objs.size=s.heap.objs.size:=by rw[b5.1,b4.1,b3.1,b2.1,b1.1]
  have z5:g5.get? z=some (ZipO .ellipsis f1 TI TO):=b5.extBut _ _ D.TOz.symm (b4.extBut _ _ D.i2z.symm (b3.extBut _ _ D.TOz.symm (b2.extBut _ _ D.i1z.symm z1)));have up5:∀c o,c≠z->c≠TO->c≠i1->c≠i2->s.heap.get? c=some o->g5.get? c=some o:=λc o c1 c2 c3 c4 e=>b5.extBut _ _ c2 (b4.extBut _ _ c4 (up3 c o c1 c2 c3 e));have s5:IsSI g5 i1 x tk (k+1):=i2'.at' λo e=>b5.extBut _ _ D.TOi1.symm (b4.extBut _ _ D.i12 (b3.extBut _ _ D.TOi1.symm e));have j5:It2 g5 i2 t items (k+1):=j4.at (λo e=>b5.extBut _ _ D.TOi2.symm e) λo e=>b5.extBut _ _ D.tTO e;show wpAny _ _ (Builtin.SmallTypes.ownedTupleHandOut (.ref z) (.ref g5.objs.size) >>=_) _ _ _;refine wpAny_bind ?_;unfold Builtin.SmallTypes.ownedTupleHandOut;have z6:(g5.push {cls:=.type "tuple",data:=.seq #[.str ⟨#[c]⟩ u,y]}).get? z=some (ZipO .ellipsis f1 TI TO):=Heap.get?_push_of_some _ z5;refine wpAny_bind (wpAny_setField_rec z6 (by simp) λg7 z7 b7=>?_);replace z7:g7.get? z=some (ZipO (rawInt g5.objs.size) f1 TI TO):=z7;refine wpAny_setField_rec z7 (by simp) λg8 z8 b8=>?_;replace z8:g8.get? z=some (ZipO (rawInt g5.objs.size) (.bool false) TI TO):=z8;have up:∀c o,c≠z->g5.get? c=some o->g8.get? c=some o:=λc o c1 e=>b8.extBut _ _ c1 (b7.extBut _ _ c1 (Heap.get?_push_of_some _ e));have zlt:z<g5.objs.size:=Heap.lt_size z5;have T8:IsPair g8 g5.objs.size (.str ⟨#[c]⟩ u) y:=b8.extBut _ _ (Nat.ne_of_gt zlt) (b7.extBut _ _ (Nat.ne_of_gt zlt) (Heap.get?_push_size _ rfl));refine wpAny_pure ⟨_,rfl,?_⟩;refine hQ g8 g5.objs.size u tk2 ⟨⟨_,_,z8,.inr ⟨g5.objs.size,_,rfl,T8,Nat.ne_of_gt zlt,Nat.ne_of_gt (Heap.lt_size o5),Nat.ne_of_gt s5.lt,?_⟩⟩,up _ _ D.TIz (up5 _ _ D.TIz D.TITO D.TIi1 D.TIi2 hTI),⟨_,_,up _ _ D.TOz o5⟩,s5.at' λo e=>up _ _ D.i1z e,j5.at (λo e=>up _ _ D.i2z e) λo e=>up _ _ D.tz e⟩ T8 (Nat.le_of_eq sz.symm) λc o c1 c2 c3 c4 e=>up c o c1 (up5 c o c1 c2 c3 c4 e);exact Nat.ne_of_gt j5.lt
 ·refine wpAny_bind (wpAny_field hz rfl (x:=rawInt (q:Nat)) rfl ?_);show wpAny _ _ (loadIfAlive ((q:Int)).toNat >>=_) _ _ _;refine wpAny_bind ?_;unfold loadIfAlive;refine alive (o:=oq) (by simpa using hq) (wpAny_pure ?_);simp only [Option.isNone_some,Bool.false_eq_true,if_false];refine wpAny_bind (wpAny_field hz rfl (x:=f1) rfl ?_);refine wpAny_mono (Q:=λr s'=>r=false/\∃g1 f1',s'={s with heap:=g1}/\g1.get? z=some (ZipO (rawInt (q:Nat)) f1' TI TO)/\Heap.SameBut z s.heap g1) ?_ (λr s' hr=>?_) (λ_ _ e=>e)
  ·by_cases hb:(f1 != Value.bool true)=true
   ·rw[if_pos hb];exact wpAny_bind (wpAny_setField_rec hz (by simp) λg1 z1 b1=>wpAny_pure ⟨rfl,g1,.bool true,rfl,z1,b1⟩)
   ·rw[if_neg hb];exact wpAny_pure ⟨rfl,s.heap,f1,rfl,hz,.refl ..⟩
  obtain ⟨rfl,g1,f1',rfl,z1,b1⟩:=hr;simp only [Bool.false_eq_true,if_false];refine wpAny_bind ?_;simp only [List.forIn_toArray,List.forIn_cons,List.forIn_nil];refine wpAny_bind (wpAny_bind (wpAny_holding ?_));show wpAny _ _ (Builtin.SmallTypes.nextOf (.ref i1) >>=_) _ _ _;refine wpAny_bind (next_si (h1.at' λo e=>b1.extBut _ _ D.i1z e) hx λg2 u tk2 i2' b2=>wpAny_pure ?_);refine wpAny_pure ?_;refine wpAny_bind (wpAny_bind (wpAny_holding ?_));show wpAny _ _ (Builtin.SmallTypes.nextOf (.ref i2) >>=_) _ _ _;have up2:∀c o,c≠z->c≠i1->s.heap.get? c=some o->g2.get? c=some o:=λc o c1 c3 e=>b2.extBut _ _ c3 (b1.extBut _ _ c1 e);refine wpAny_bind (next_it2 (h2.at (λo e=>up2 _ _ D.i2z D.i12.symm e) λo e=>up2 _ _ D.tz D.ti1 e) D.ti2 hy λg4 j4 b4=>wpAny_pure ?_);refine wpAny_pure (wpAny_pure ?_);refine wpAny_bind (wpAny_newTuple (hsz:=by show 2<=sizeLine;decide) ?_);have up4:∀c o,c≠z->c≠i1->c≠i2->s.heap.get? c=some o->g4.get? c=some o:=λc o c1 c3 c4 e=>b4.extBut _ _ c4 (up2 c o c1 c3 e);have sz:g4.objs.size=s.heap.objs.size:=by rw[b4.1,b2.1,b1.1]
  have z4:g4.get? z=some (ZipO (rawInt (q:Nat)) f1' TI TO):=b4.extBut _ _ D.i2z.symm (b2.extBut _ _ D.i1z.symm z1);refine wpAny_pure ⟨_,rfl,?_⟩;refine hQ _ g4.objs.size u tk2 ⟨⟨_,_,Heap.get?_push_of_some _ z4,.inr ⟨q,oq,rfl,Heap.get?_push_of_some _ (up4 _ _ q1 q3 q4 hq),q1,q2,q3,q4⟩⟩,Heap.get?_push_of_some _ (up4 _ _ D.TIz D.TIi1 D.TIi2 hTI),⟨_,_,Heap.get?_push_of_some _ (up4 _ _ D.TOz D.TOi1 D.TOi2 hTO)⟩,
   i2'.at' λo e=>Heap.get?_push_of_some _ (b4.extBut _ _ D.i12 e),j4.at (λo e=>Heap.get?_push_of_some _ e) λo e=>Heap.get?_push_of_some _ e⟩ (Heap.get?_push_size _ rfl) (Nat.le_of_eq sz.symm) λc o c1 c2 c3 c4 e=>Heap.get?_push_of_some _ (up4 c o c1 c3 c4 e)
theorem zip_end {z TI TO i1 i2 t:Addr} {x:Str} {tk:Tok} {items:Array Value} {k:Nat} {Q:Fin->Shared->Prop} (hh:A.handled=none) (D:Apart z TI TO i1 i2 t) (S:ZSt s.heap z TI TO i1 i2 t x tk items k) (hx:x.cps[k]?=none)
  (hE:∀h' e,(∀b o,b≠z->b≠TO->b≠i1->b≠i2->s.heap.get? b=some o->h'.get? b=some o)->(∃o,h'.get? e=some o/\o.cls=.type "StopIteration")->E (.ref e) {s with heap:=h'}):
  wpAny (model prog w) A (Builtin.«zip.__next__» ⟨[.ref z],[]⟩) Q E s:=by
 obtain ⟨⟨f0,f1,hz,hf⟩,hTI,⟨a,b,hTO⟩,h1,h2⟩:=S;show wpAny _ _ (field (.ref z) 2 >>=_) _ _ _;refine wpAny_bind (wpAny_field hz rfl (x:=.bool false) rfl ?_);show wpAny _ _ (field (.ref z) 3 >>=_) _ _ _;refine wpAny_bind (wpAny_field hz rfl (x:=.ref TI) rfl ?_);refine wpAny_bind (wpAny_seqItems hTI rfl ?_);show wpAny _ _ (Builtin.SmallTypes.ownedTupleIsFree (.ref z) >>=_) _ _ _;refine wpAny_bind ?_;unfold Builtin.SmallTypes.ownedTupleIsFree;rcases hf with rfl|⟨q,oq,rfl,hq,q1,q2,q3,q4⟩
 ·refine wpAny_bind (wpAny_field hz rfl (x:=.none) rfl (wpAny_pure ?_));simp only [if_true];refine wpAny_bind (wpAny_rule ?_);refine wpAny_bind (wpAny_field hz rfl (x:=.ref TO) rfl ?_);refine wpAny_bind (wpAny_setField_rec hz (by simp) λg1 z1 b1=>?_);replace z1:g1.get? z=some (ZipO .ellipsis f1 TI TO):=z1;refine wpAny_bind ?_;simp only [List.zipIdx_cons,List.zipIdx_nil,List.forIn_cons,List.forIn_nil];refine wpAny_bind (wpAny_bind (wpAny_onRaise ?_));show wpAny _ _ (Builtin.SmallTypes.nextOf (.ref i1) >>=_) _ _ _;refine wpAny_bind (next_si_end hh (h1.at' λo e=>b1.extBut _ _ D.i1z e) hx λg2 e b2 he=>?_);obtain ⟨oe,hoe,hce⟩:=he;have z2:g2.get? z=some (ZipO .ellipsis f1 TI TO):=b2 _ _ D.i1z.symm z1;have ne:e≠z:=λy=>by
   subst y;rw[z2] at hoe;cases hoe;have c':(Value.type "zip")=.type "StopIteration":=hce;simp at c'
  exact wpAny_setField_rec z2 (by simp) λg3 _ b3=>hE g3 e (λc o c1 _ c3 _ y=>b3.extBut _ _ c1 (b2 _ _ c3 (b1.extBut _ _ c1 y))) ⟨oe,b3.extBut _ _ ne hoe,hce⟩
 ·refine wpAny_bind (wpAny_field hz rfl (x:=rawInt (q:Nat)) rfl ?_);show wpAny _ _ (loadIfAlive ((q:Int)).toNat >>=_) _ _ _;refine wpAny_bind ?_;unfold loadIfAlive;refine alive (o:=oq) (by simpa using hq) (wpAny_pure ?_);simp only [Option.isNone_some,Bool.false_eq_true,if_false];refine wpAny_bind (wpAny_field hz rfl (x:=f1) rfl ?_);refine wpAny_mono (Q:=λr s'=>r=false/\∃g1,s'={s with heap:=g1}/\Heap.SameBut z s.heap g1) ?_ (λr s' hr=>?_) (λ_ _ e=>e)
  ·by_cases hb:(f1 != Value.bool true)=true
   ·rw[if_pos hb];exact wpAny_bind (wpAny_setField_rec hz (by simp) λg1 z1 b1=>wpAny_pure ⟨rfl,g1,rfl,b1⟩)
   ·rw[if_neg hb];exact wpAny_pure ⟨rfl,s.heap,rfl,.refl ..⟩
  obtain ⟨rfl,g1,rfl,b1⟩:=hr;simp only [Bool.false_eq_true,if_false];refine wpAny_bind ?_;simp only [List.forIn_toArray,List.forIn_cons,List.forIn_nil];refine wpAny_bind (wpAny_bind (wpAny_holding ?_));show wpAny _ _ (Builtin.SmallTypes.nextOf (.ref i1) >>=_) _ _ _;exact wpAny_bind (next_si_end hh (h1.at' λo e=>b1.extBut _ _ D.i1z e) hx λg2 e b2 he=>hE g2 e (λc o c1 _ c3 _ y=>b2 _ _ c3 (b1.extBut _ _ c1 y)) he)
theorem py_next {z TI TO i1 i2 t:Addr} {x:Str} {tk:Tok} {items:Array Value} {k c:Nat} {y:Value} {Q:Option Value->Shared->Prop} (D:Apart z TI TO i1 i2 t) (S:ZSt s.heap z TI TO i1 i2 t x tk items k) (hx:x.cps[k]?=some c) (hy:items[k]?=some y)
  (hQ:∀h' T u tk',ZSt h' z TI TO i1 i2 t x tk items (k+1)->IsPair h' T (.str ⟨#[c]⟩ u) y->s.heap.objs.size<=T->(∀b o,b≠z->b≠TO->b≠i1->b≠i2->s.heap.get? b=some o->h'.get? b=some o)->Q (some (.ref T)) {s with heap:=h',toks:=tk'}):
  wpAny (model prog w) A (pyNext (.ref z)) Q E s:=by
 have hT:s.TypeIs (.ref z) "zip":=let ⟨_,_,e,_⟩:=S.zip;⟨_,e,rfl⟩;unfold pyNext;exact wpAny_bind (wpAny_attempt (wpAny_callSpecial?_slot (name:=Str.ofString "__next__") hT F.slot_zip_next
  (wpAny_call_entry F.slot_zip_next hT F.entry_zip_next (zip_next D S hx hy λh' T u tk' a1 a2 a3 a4=>wpAny_pure (hQ h' T u tk' a1 a2 a3 a4)) (F.args_zip_next_1 _))))
theorem py_end {z TI TO i1 i2 t:Addr} {x:Str} {tk:Tok} {items:Array Value} {k:Nat} {Q:Option Value->Shared->Prop} (hh:A.handled=none) (D:Apart z TI TO i1 i2 t) (S:ZSt s.heap z TI TO i1 i2 t x tk items k) (hx:x.cps[k]?=none)
  (hQ:∀h',(∀b o,b≠z->b≠TO->b≠i1->b≠i2->s.heap.get? b=some o->h'.get? b=some o)->Q none {s with heap:=h'}):wpAny (model prog w) A (pyNext (.ref z)) Q E s:=by
 have hT:s.TypeIs (.ref z) "zip":=let ⟨_,_,e,_⟩:=S.zip;⟨_,e,rfl⟩;unfold pyNext;refine wpAny_bind (wpAny_attempt (wpAny_callSpecial?_slot (name:=Str.ofString "__next__") hT F.slot_zip_next
  (wpAny_call_entry F.slot_zip_next hT F.entry_zip_next (zip_end hh D S hx λh' e hk he=>?_) (F.args_zip_next_1 _))))
 obtain ⟨o,ho,hc⟩:=he;refine wpAny_bind (wpAny_isInstance (T:="StopIteration") (b:=true) ⟨o,ho,hc⟩ isSubtype_stop ?_);exact wpAny_pure (hQ _ hk)
end
theorem entry_ga:entryFor table "zip.__getattribute__"=some Builtin.«object.__getattribute__»:=
 entryFor_alias (id':="object.__getattribute__") (by kernel_rfl) (by decide+kernel) (by decide+kernel) (by kernel_rfl)
theorem no_keys:typeLookup (.type "zip") "keys"=pure none:=by rw[typeLookup_type,builtinLookup_eq_fast];kernel_rfl
theorem no_getattr:typeLookup (.type "zip") "__getattr__"=pure none:=by rw[typeLookup_type,builtinLookup_eq_fast];kernel_rfl
theorem meets_miss (a:Addr) (vs:Array Value) (name:Str) (u:Tok) (hmiss:typeLookup (.type "zip") name=pure none) (hname:(["__module__","__name__","__qualname__","__doc__","__annotations__"]:List Str).contains name=false) (hsz:name.length+100<=sizeLine):
  Meets (Builtin.«object.__getattribute__» ⟨[.ref a,.str name u],[]⟩) (λA R s=>s.heap.get? a=some {cls:=.type "zip",dict:=none,data:=.fields vs,slots:=#[]}/\raisesAttr (.ref a) name A R s):=
 Meets.of_wp λprog w A R s hs=>by
  obtain ⟨hp,g,d,tk,os⟩:=s;obtain ⟨hx,hs⟩:=hs;have hT:(⟨hp,g,d,tk,os⟩:Shared).TypeIs (.ref a) "zip":=⟨_,hx,rfl⟩;unfold Builtin.«object.__getattribute__»
  repeat (any_goals (first|assumption|wp_step))
  simp only [hname,Bool.false_eq_true,if_false]
  repeat (any_goals (first|assumption|wp_step))
  exact wpAny_raiseAttrError hs.1 hs.2 (attrMsg_fits (by decide+kernel) hsz)
section
variable {prog:Program} {w:World} {A:Around} {E:Value->Shared->Prop} {s:Shared}
theorem no_attr_keys {a:Addr} {vs:Array Value} {Q:Option Value->Shared->Prop} (hx:s.heap.get? a=some {cls:=.type "zip",dict:=none,data:=.fields vs,slots:=#[]}) (hA:A.handled=none)
  (h:∀h' tk,(∀b o,s.heap.get? b=some o->h'.get? b=some o)->Q none {s with heap:=h',toks:=tk}):wpAny (model prog w) A (getAttr? (.ref a) "keys") Q E s:=by
 obtain ⟨hp,g,d,tk,os⟩:=s;have hT:∀tk',(⟨hp,g,d,tk',os⟩:Shared).TypeIs (.ref a) "zip":=λ_=>⟨_,hx,rfl⟩;have f1:=sub_AttributeError;have f3:=F.slot_zip_getattribute.lookup;have f4:=F.slot_zip_getattribute.bind (.ref a);have f5:=no_getattr;unfold getAttr? getAttrBy? getAttrBy
 repeat (any_goals (first|assumption|exact hT _|((with_reducible show wpAny _ _ (call (Value.builtin "zip.__getattribute__") _ _) _ _ _);refine call_meets F.slot_zip_getattribute (hT _) entry_ga (F.args_zip_getattribute_2 _ _) (meets_miss a vs "keys" _ no_keys (by decide+kernel) (by decide+kernel)) ⟨hx,hA,λh' tk' e hx'=>?_⟩)|wp_step))
 obtain ⟨t',u',he⟩:=hx'.there;show wpAny _ _ (getattributeRaised _ _ _ _ _ _ _) _ _ _;unfold getattributeRaised
 repeat (any_goals (first|assumption|wp_step))
 exact h _ _ hx'.keeps
end
end ZD
namespace ZD
open PySem PySem.Spec PyProof.Rows
theorem entry_loop:entryFor table "dict.update.loop"=some Builtin.«dict.update.loop»:=entryFor_of_tree (by kernel_rfl)
theorem plain_loop:plainId "dict.update.loop"=true:=by decide+kernel
def storeAll {K:Type} [DecidableEq K] (kk:Nat->K) (items:Array Value):Nat->Nat->List (K × Value)->List (K × Value)
 |0,_,kvs=>kvs
 |n+1,k,kvs=>storeAll kk items n (k+1) (stored kvs (kk k) (items[k]?.getD .none))
theorem stored_len {K:Type} [DecidableEq K] (kvs:List (K × Value)) (k:K) (v:Value):(stored kvs k v).length<=kvs.length+1:=by
 unfold stored;split
 ·simp
 ·simp
theorem ZSt.but {h h':Heap} {d z TI TO i1 i2 t:Addr} {x:Str} {tk:Tok} {items:Array Value} {k:Nat} (y:ZSt h z TI TO i1 i2 t x tk items k) (sb:Heap.SameBut d h h') (d1:d≠z) (d2:d≠TO) (d3:d≠i1) (d4:d≠i2) (d5:d≠TI) (d6:d≠t) (ob:∃o,h'.get? d=some o):
  ZSt h' z TI TO i1 i2 t x tk items k:=by
 obtain ⟨⟨f0,f1,e,r⟩,p1,⟨a,b,p2⟩,s1,s2⟩:=y;refine ⟨⟨f0,f1,sb.extBut _ _ d1.symm e,?_⟩,sb.extBut _ _ d5.symm p1,⟨a,b,sb.extBut _ _ d2.symm p2⟩,s1.at' λo e=>sb.extBut _ _ d3.symm e,s2.at (λo e=>sb.extBut _ _ d4.symm e) λo e=>sb.extBut _ _ d6.symm e⟩;rcases r with r|⟨a,o,r1,r2,r3⟩
 ·exact .inl r
 ·by_cases ha:a=d
  ·obtain ⟨o',e'⟩:=ob;exact .inr ⟨a,o',r1,by rw[ha];exact e',r3⟩
  ·exact .inr ⟨a,o,r1,sb.extBut _ _ ha r2,r3⟩
section
variable {prog:Program} {w:World} {A:Around} {K:Type} [DecidableEq K] {knd:KeyKind prog w K} {R:Result->Shared->Prop} {d z TI TO i1 i2 t:Addr} {x:Str} {tk:Tok} {items:Array Value}
theorem upd_loop {kk:Nat->K} (hk:∀i c u,x.cps[i]?=some c->knd.is (kk i) (.str ⟨#[c]⟩ u)=true) (D:Apart z TI TO i1 i2 t) (hh:A.handled=none) (d1:d≠z) (d2:d≠TO) (d3:d≠i1) (d4:d≠i2) (d5:d≠TI) (d6:d≠t) (hsz:x.cps.size=items.size) (hle:x.cps.size<=1000):
  ∀(n k:Nat) (j:Int) (s:Shared) (kvs:List (K × Value)),k+n=x.cps.size->ZSt s.heap z TI TO i1 i2 t x tk items k->s.heap.DictOf knd d kvs->kvs.length<=k->
   (∀h' tk',h'.DictOf knd d (storeAll kk items n k kvs)->(∀b o,b≠z->b≠TO->b≠i1->b≠i2->b≠d->s.heap.get? b=some o->h'.get? b=some o)->R (.ok (.ret .none)) {s with heap:=h',toks:=tk'})->
   codeAny (model prog w) A (.builtin "dict.update.loop" ⟨[.ref d,.ref z,rawInt j,.none],[]⟩) R s:=by
 intro n;induction n with
 |zero=>
  intro k j s kvs hkn S hd hl hR;refine codeAny_builtin entry_loop ?_;rw[Around.under_plainId plain_loop _];show wpAny _ A.in1 (pyNext (.ref z) >>=_) _ _ s;refine wpAny_bind (py_end hh D S (by simp;lia) λh' hk'=>?_);show wpAny _ _ (Builtin.Dict.addKeywords d [] >>=_) _ _ _;refine wpAny_bind (wpAny_pure (wpAny_pure ?_));exact hR h' s.toks (let ⟨o,es,ep,ho,r⟩:=hd;⟨o,es,ep,hk' d o d1 d2 d3 d4 ho,r⟩) λb o b1 b2 b3 b4 _ e=>hk' b o b1 b2 b3 b4 e
 |succ n ih=>
  intro k j s kvs hkn S hd hl hR;have hkx:k<x.cps.size:=by lia
  have hx:x.cps[k]?=some x.cps[k]:=by simp [hkx]
  have hy:items[k]?=some items[k]:=by simp
  refine codeAny_builtin entry_loop ?_;rw[Around.under_plainId plain_loop _];show wpAny _ A.in1 (pyNext (.ref z) >>=_) _ _ s;refine wpAny_bind (py_next D S hx hy λh' T u tk' S' pT hT hk'=>?_);refine wpAny_bind (wpAny_holding ?_);have hTy:(⟨h',s.gens,s.drawn,tk',s.os⟩:Shared).TypeIs (.ref T) "tuple":=⟨_,pT,rfl⟩;refine wpAny_bind (wpAny_tryCatch ?_);unfold Builtin.Dict.pairItems;refine wpAny_bind (wpAny_typeOf hTy ?_);rw[if_pos (by decide)];refine wpAny_bind (wpAny_seqItems (s:=⟨h',s.gens,s.drawn,tk',s.os⟩) pT rfl (wpAny_pure ?_));show wpAny _ _ (holding [.str ⟨#[x.cps[k]]⟩ u,items[k]] (dictSet d (.str ⟨#[x.cps[k]]⟩ u) items[k])) _ _ _;have hd':h'.DictOf knd d kvs:=let ⟨o,es,ep,ho,r⟩:=hd;⟨o,es,ep,hk' d o d1 d2 d3 d4 ho,r⟩;refine wpAny_holding (wpAny_dictSet_pairs (s:=⟨h',s.gens,s.drawn,tk',s.os⟩) (hk k _ u hx) hd' (λh2 hd2 sb=>?_) (Nat.le_of_lt (Nat.lt_of_le_of_lt (show kvs.length<=1000 by lia) (by decide))));refine wpAny_pure ⟨plainId_quiet plain_loop _,?_⟩;have ob:∃o,h2.get? d=some o:=let ⟨o,_,_,ho,_⟩:=hd2;⟨o,ho⟩;refine ih (k+1) (j+1) _ _ (by lia) (S'.but sb d1 d2 d3 d4 d5 d6 ob) hd2 ?_ (λh3 tk3 hd3 hk3=>?_)
  ·have:=stored_len kvs (kk k) items[k];lia
  ·have e:storeAll kk items (n+1) k kvs=storeAll kk items n (k+1) (stored kvs (kk k) items[k]):=by
    show storeAll kk items n (k+1) (stored kvs (kk k) (items[k]?.getD .none))=_;rw[hy];rfl
   refine hR h3 tk3 (by rw[e];exact hd3) λb o b1 b2 b3 b4 b5 eb=>hk3 b o b1 b2 b3 b4 b5 (sb.extBut b o b5 (hk' b o b1 b2 b3 b4 eb))
end
end ZD
namespace ZD
open PySem PySem.Spec PyProof.Rows
abbrev zA (h:Heap) (x:Str) (tk:Tok):Heap:=h.push {cls:=.type "str_ascii_iterator",data:=.fields #[.str x tk,.int 0 0]}
abbrev zB (T:String) (h:Heap) (x:Str) (tk:Tok) (t:Addr):Heap:=(zA h x tk).push {cls:=.type T,data:=.fields #[.ref t,.int 0 0]}
abbrev zC (T:String) (h:Heap) (x:Str) (tk:Tok) (t:Addr):Heap:=(zB T h x tk t).push {cls:=.type "tuple",data:=.seq #[.ref h.objs.size,.ref (zA h x tk).objs.size]}
abbrev zD (T:String) (h:Heap) (x:Str) (tk:Tok) (t:Addr):Heap:=(zC T h x tk t).push {cls:=.type "tuple",data:=.seq #[.none,.none]}
abbrev zE (T:String) (h:Heap) (x:Str) (tk:Tok) (t:Addr):Heap:=(zD T h x tk t).push {cls:=.type "zip",data:=.fields #[.none,.bool false,.bool false,.ref (zB T h x tk t).objs.size,.ref (zC T h x tk t).objs.size]}
theorem meets_new (x:Str) (tk:Tok) (t:Addr) (items:Array Value) (ha:x.cps.all (·<128)=true):
  Meets (Builtin.«zip.__new__» ⟨[.type "zip",.str x tk,.ref t],[]⟩) (λ_ R s=>s.heap.IsTuple t items/\R (.ok (.ret (.ref (zD "tuple_iterator" s.heap x tk t).objs.size))) {s with heap:=zE "tuple_iterator" s.heap x tk t}):=
 .of_wp λprog w A R s h=>by
  obtain ⟨hp,g,d,tks,os⟩:=s;obtain ⟨ht,h⟩:=h;have hsub:=sub_zip;have hT:Heap.IsTuple (Shared.heap ⟨hp.push {cls:=.type "str_ascii_iterator",data:=.fields #[.str x tk,.int 0 0]},g,d,tks,os⟩) t items:=let ⟨o,e,r⟩:=ht;⟨o,Heap.get?_push_of_some _ e,r⟩
  wp_walk using wpAny_pyIter_ascii (t:=tk) ha,wpAny_pyIter_tuple hT
  exact ⟨_,rfl,h⟩
theorem meets_newL (x:Str) (tk:Tok) (t:Addr) (items:Array Value) (ha:x.cps.all (·<128)=true):
  Meets (Builtin.«zip.__new__» ⟨[.type "zip",.str x tk,.ref t],[]⟩) (λ_ R s=>s.heap.IsList t items/\R (.ok (.ret (.ref (zD "list_iterator" s.heap x tk t).objs.size))) {s with heap:=zE "list_iterator" s.heap x tk t}):=
 .of_wp λprog w A R s h=>by
  obtain ⟨hp,g,d,tks,os⟩:=s;obtain ⟨ht,h⟩:=h;have hsub:=sub_zip;have hT:Heap.IsList (Shared.heap ⟨hp.push {cls:=.type "str_ascii_iterator",data:=.fields #[.str x tk,.int 0 0]},g,d,tks,os⟩) t items:=let ⟨o,e,r⟩:=ht;⟨o,Heap.get?_push_of_some _ e,r⟩
  wp_walk using wpAny_pyIter_ascii (t:=tk) ha,wpAny_pyIter_list hT
  exact ⟨_,rfl,h⟩
section
variable {prog:Program} {w:World} {A:Around} {E:Value->Shared->Prop} {s:Shared}
theorem zipped (T:String) (hT:T="tuple_iterator"\/T="list_iterator") {x:Str} {tk:Tok} {t:Addr} {items:Array Value} {Q:Value->Shared->Prop} (ht:(T="tuple_iterator"/\s.heap.IsTuple t items)\/(T="list_iterator"/\s.heap.IsList t items))
  (h:∀h',ZSt h' (s.heap.objs.size+4) (s.heap.objs.size+2) (s.heap.objs.size+3) s.heap.objs.size (s.heap.objs.size+1) t x tk items 0->h'.objs.size=s.heap.objs.size+5->(∀c o,s.heap.get? c=some o->h'.get? c=some o)->Q (.ref (s.heap.objs.size+4)) {s with heap:=h'}):
  ({s with heap:=zE T s.heap x tk t}:Shared).TypeIs (.ref (zD T s.heap x tk t).objs.size) "zip"/\Q (.ref (zD T s.heap x tk t).objs.size) {s with heap:=zE T s.heap x tk t}:=by
 have z1:(zA s.heap x tk).objs.size=s.heap.objs.size+1:=Heap.size_push ..;have z2:(zB T s.heap x tk t).objs.size=s.heap.objs.size+2:=by rw[Heap.size_push,z1]
 have z3:(zC T s.heap x tk t).objs.size=s.heap.objs.size+3:=by rw[Heap.size_push,z2]
 have z4:(zD T s.heap x tk t).objs.size=s.heap.objs.size+4:=by rw[Heap.size_push,z3]
 have z5:(zE T s.heap x tk t).objs.size=s.heap.objs.size+5:=by rw[Heap.size_push,z4]
 have g5:(zE T s.heap x tk t).get? (zD T s.heap x tk t).objs.size=some _:=Heap.get?_push_size _ rfl;have g4:(zE T s.heap x tk t).get? (zC T s.heap x tk t).objs.size=some _:=Heap.get?_push_of_some _ (Heap.get?_push_size _ rfl);have g3:(zE T s.heap x tk t).get? (zB T s.heap x tk t).objs.size=some _:=Heap.get?_push_of_some _ (Heap.get?_push_of_some _ (Heap.get?_push_size _ rfl));have g2:(zE T s.heap x tk t).get? (zA s.heap x tk).objs.size=some _:=Heap.get?_push_of_some _ (Heap.get?_push_of_some _ (Heap.get?_push_of_some _ (Heap.get?_push_size _ rfl)));have g1:(zE T s.heap x tk t).get? s.heap.objs.size=some _:=Heap.get?_push_of_some _ (Heap.get?_push_of_some _ (Heap.get?_push_of_some _ (Heap.get?_push_of_some _ (Heap.get?_push_size _ rfl))));have up:∀c o,s.heap.get? c=some o->(zE T s.heap x tk t).get? c=some o:=λc o y=>Heap.get?_push_of_some _ (Heap.get?_push_of_some _ (Heap.get?_push_of_some _ (Heap.get?_push_of_some _ (Heap.get?_push_of_some _ y))));rw[z2,z3,z4] at g5;rw[z1,z2] at g3;rw[z3] at g4;rw[z1] at g2;rw[z4];refine ⟨⟨_,g5,rfl⟩,h _ ⟨⟨_,_,g5,.inl rfl⟩,g3,⟨_,_,g4⟩,⟨_,.inl rfl,_,g1,rfl,rfl⟩,?_⟩ z5 up⟩;rcases ht with ⟨rfl,o,e,r⟩|⟨rfl,o,e,r⟩
 ·exact .inl ⟨⟨_,g2,rfl,rfl⟩,o,up _ _ e,r⟩
 ·exact .inr ⟨⟨_,g2,rfl,rfl⟩,o,up _ _ e,r⟩
theorem call_zip {x:Str} {tk:Tok} {t:Addr} {items:Array Value} {Q:Value->Shared->Prop} (ha:x.cps.all (·<128)=true) (ht:s.heap.IsTuple t items\/s.heap.IsList t items)
  (h:∀h',ZSt h' (s.heap.objs.size+4) (s.heap.objs.size+2) (s.heap.objs.size+3) s.heap.objs.size (s.heap.objs.size+1) t x tk items 0->h'.objs.size=s.heap.objs.size+5->(∀c o,s.heap.get? c=some o->h'.get? c=some o)->Q (.ref (s.heap.objs.size+4)) {s with heap:=h'}):
  wpAny (model prog w) A (call (.type "zip") [.str x tk,.ref t]) Q E s:=by
 rcases ht with ht|ht
 ·exact callType_new F.called_zip (by decide) (F.typeCall_zip_2 _ _) (F.newCall_zip_2 _ _) (λobj=>F.args_object_init_3 obj _ _) F.entry_zip_new (meets_new x tk t items ha) ⟨ht,zipped "tuple_iterator" (.inl rfl) (.inl ⟨rfl,ht⟩) h⟩
 ·exact callType_new F.called_zip (by decide) (F.typeCall_zip_2 _ _) (F.newCall_zip_2 _ _) (λobj=>F.args_object_init_3 obj _ _) F.entry_zip_new (meets_newL x tk t items ha) ⟨ht,zipped "list_iterator" (.inr rfl) (.inr ⟨rfl,ht⟩) h⟩
theorem apart_new {n t:Nat} (h:t<n):Apart (n+4) (n+2) (n+3) n (n+1) t:=by
 constructor<;>(intro (e:(_:Nat)=_);lia)
end
end ZD
namespace ZD
open PySem PySem.Spec PyProof.Rows
section
variable {prog:Program} {w:World} {A:Around} {E:Value->Shared->Prop} {s:Shared}
theorem dict_of_zip {K:Type} [DecidableEq K] {knd:KeyKind prog w K} {z TI TO i1 i2 t:Addr} {x:Str} {tk:Tok} {items:Array Value} {kk:Nat->K} {Q:Value->Shared->Prop} (hk:∀i c u,x.cps[i]?=some c->knd.is (kk i) (.str ⟨#[c]⟩ u)=true) (D:Apart z TI TO i1 i2 t) (hh:A.handled=none)
  (hsz:x.cps.size=items.size) (hle:x.cps.size<=1000) (S:ZSt s.heap z TI TO i1 i2 t x tk items 0)
  (h:∀h' d tk',s.heap.objs.size<=d->h'.DictOf knd d (storeAll kk items x.cps.size 0 [])->(∀b o,b≠z->b≠TO->b≠i1->b≠i2->s.heap.get? b=some o->h'.get? b=some o)->Q (.ref d) {s with heap:=h',toks:=tk'}):
  wpAny (model prog w) A (call (.type "dict") [.ref z]) Q E s:=by
 refine callType_codes (Q₁:=λobj s₁=>obj=.ref s.heap.objs.size/\s₁={s with heap:=s.heap.push {cls:=.type "dict",data:=.dict #[]}}) F.kt_called_dict (F.kt_typeCall_dict_1 _) F.entry_dict_init (kt_code_dict_new _ ⟨rfl,rfl⟩) ?_;rintro obj s₁ ⟨rfl,rfl⟩;have hnew:(s.heap.push {cls:=.type "dict",data:=.dict #[]}).DictOf knd s.heap.objs.size []:=Heap.DictOf.new s.heap;have S1:=S.keep (h':=s.heap.push {cls:=.type "dict",data:=.dict #[]}) λb o e=>Heap.get?_push_of_some _ e;refine ⟨hnew.typeIs,F.args_dict_init_2 _ _,?_⟩;unfold Builtin.«dict.__init__»;refine wpAny_bind ?_;unfold Builtin.Dict.selfAndRest;refine wpAny_bind (wpAny_notOrdered_dict hnew.typeIs ?_);show wpAny _ _ (pure (s.heap.objs.size,[Value.ref z])) _ _ _;refine wpAny_pure ?_;show wpAny _ _ (Builtin.Dict.updateFrom "dict.__init__" s.heap.objs.size (.ref z) [] .none) _ _ _;unfold Builtin.Dict.updateFrom;obtain ⟨f0,f1,ez,_⟩:=S1.zip;have hTz:(⟨s.heap.push {cls:=.type "dict",data:=.dict #[]},s.gens,s.drawn,s.toks,s.os⟩:Shared).TypeIs (.ref z) "zip":=⟨_,ez,rfl⟩;refine wpAny_bind (wpAny_typeOf hTz ?_);rw[if_pos (by decide)];refine wpAny_bind (no_attr_keys ez hh λh1 tk1 k1=>?_);simp only [Option.isNone_none,if_true];refine wpAny_bind (wpAny_rule ?_);have S2:=S1.keep k1;obtain ⟨f0',f1',ez2,_⟩:=id S2.zip;have hT2:(⟨h1,s.gens,s.drawn,tk1,s.os⟩:Shared).TypeIs (.ref z) "zip":=⟨_,ez2,rfl⟩;have lt:∀{b:Addr} {o:Obj},s.heap.get? b=some o->s.heap.objs.size≠b:=λe=>Nat.ne_of_gt (Heap.lt_size e);obtain ⟨⟨g0,g1,e0,_⟩,e1,⟨pa,pb,e2⟩,s1,s2⟩:=id S;refine wpAny_bind ?_;refine wpAny_pyIter_slot hT2 F.slot_zip_iter (wpAny_call_entry F.slot_zip_iter hT2 F.entry_zip_iter ?_ (F.args_zip_iter_1 _));show wpAny _ _ (ret (.ref z)) _ _ _;refine wpAny_pure ⟨_,rfl,"zip",_,hT2,F.slot_zip_next.lookup,?_⟩;refine wpAny_pure ⟨plainId_quiet plain_loop _,?_⟩;have hd1:h1.DictOf knd s.heap.objs.size []:=let ⟨o,es,ep,ho,r⟩:=hnew;⟨o,es,ep,k1 _ o ho,r⟩;refine upd_loop (A:=A.in1) hk D hh (lt e0) (lt e2) (Nat.ne_of_gt s1.lt) (Nat.ne_of_gt s2.lt) (lt e1) (Nat.ne_of_gt s2.ltT) hsz hle x.cps.size 0 0 ⟨h1,s.gens,s.drawn,tk1,s.os⟩ [] (by lia) S2 hd1 (Nat.zero_le _) λh2 tk2 hd2 hk2=>?_;refine ⟨rfl,?_⟩;exact h h2 _ tk2 (Nat.le_refl _) hd2 λb o b1 b2 b3 b4 e=>hk2 b o b1 b2 b3 b4 (lt e).symm (k1 b o (Heap.get?_push_of_some _ e))
end
end ZD
namespace L2.L3
open PySem PySem.Spec PyProof.Rows
section
variable {X:Cx}
theorem strsAre_of {ys:List Str}:∀{us:List Value},Vals (ys.map V.str) us->StrsAre us ys:=by
 induction ys with
 |nil=>intro us r;rw[List.map_nil] at r;cases r;exact .nil
 |cons y ys ih=>
  intro us r;rw[List.map_cons] at r;cases r with
  |cons r1 r2=>
   obtain ⟨t,e⟩:=r1;subst e;exact .cons y t (ih r2)
def rJoin:V->List V->Hp->VK->Prop:=λx vs H Q=>∃(z:Str) (p:Addr) (ys:List Str),x=.str z/\vs=[.ref p]/\H p=some (.lst (ys.map V.str))/\(ys.map (·.length)).sum+ys.length * z.length<=16777216/\Q (.str (Txt.join z ys)) H
theorem mt_join:MtM X "str.join" rJoin:=by
 intro pins s σ H x vs v us Q I rx rv h;obtain ⟨z,p,ys,rfl,rfl,hp,hok,q⟩:=h;obtain ⟨t,rfl⟩:=rx;obtain ⟨u,rfl,ru⟩:=rv.one;cases (show u=Value.ref p from ru);obtain ⟨hz,its,n,r,hl,e⟩:=I.lstM hp;have isl:s.heap.IsList p its.toArray:=⟨_,e,rfl,n,rfl⟩;exact join_list isl (strsAre_of r) hok λt' k=>⟨.str _,H,I.tok k,⟨t',rfl⟩,q⟩
def rJoinT (K:Fg):V->List V->Hp->VK->Prop:=λx vs H Q=>∃(z:Str) (p:Addr) (ys:List Str),x=.str z/\vs=[.ref p]/\SqT K H p (ys.map V.str)/\(ys.map (·.length)).sum+ys.length * z.length<=16777216/\Q (.str (Txt.join z ys)) H
theorem mt_joinT:MtM X "str.join" (rJoinT X.K):=by
 intro pins s σ H x vs v us Q I rx rv h;obtain ⟨z,p,ys,rfl,rfl,hp,hok,q⟩:=h;obtain ⟨t,rfl⟩:=rx;obtain ⟨u,rfl,ru⟩:=rv.one;cases (show u=Value.ref p from ru);obtain ⟨its,r,ht,hz⟩:=I.tuple hp;exact join_tuple ht (strsAre_of r) hok λt' k=>⟨.str _,H,I.tok k,⟨t',rfl⟩,q⟩
def rCount:V->List V->Hp->VK->Prop:=λx vs H Q=>∃(z y:Str),x=.str z/\vs=[.str y]/\Q (.int (Txt.count z y)) H
theorem mt_count:MtM X "str.count" rCount:=by
 intro pins s σ H x vs v us Q I rx rv h;obtain ⟨z,y,rfl,rfl,q⟩:=h;obtain ⟨t,rfl⟩:=rx;obtain ⟨u,rfl,ru⟩:=rv.one;obtain ⟨t2,rfl⟩:=ru;exact SC.count ⟨.int _,H,I.tok _,⟨_,rfl⟩,q⟩
def rIndex:V->List V->Hp->VK->Prop:=λx vs H Q=>∃(z y:Str) (i:Nat) (rest:List Nat),x=.str z/\vs=[.str y]/\Builtin.Str.occurrences z y 0 z.length 1=i::rest/\Q (.int i) H
theorem mt_index:MtM X "str.index" rIndex:=by
 intro pins s σ H x vs v us Q I rx rv h;obtain ⟨z,y,i,rest,rfl,rfl,ho,q⟩:=h;obtain ⟨t,rfl⟩:=rx;obtain ⟨u,rfl,ru⟩:=rv.one;obtain ⟨t2,rfl⟩:=ru;exact SC.index ho ⟨.int _,H,I.tok _,⟨_,rfl⟩,q⟩
def rSum:List V->Hp->VK->Prop:=λxs H Q=>∃(p:Addr) (ns:List Int),xs=[.ref p]/\H p=some (.lst (ns.map V.int))/\Q (.int ns.sum) H
theorem call_sum (hc:X.calm=true):CallR X (.builtin "sum") rSum:=by
 intro pins s σ H xs us Q I rv h;obtain ⟨p,ns,rfl,hp,q⟩:=h;obtain ⟨u,rfl,ru⟩:=rv.one;cases (show u=Value.ref p from ru);obtain ⟨hz,its,n,r,hl,e⟩:=I.lstM hp;have isl:s.heap.IsList p its.toArray:=⟨_,e,rfl,n,rfl⟩;have hi:=intsAre_of r;have hn:numsOf its=ns:=hi.numsOf;obtain ⟨ys,ey⟩:=hi.allInts.items;have en:numsOf its=numsOf (intItems ys).toList:=by rw[<-ey]
 rw[ey] at isl;refine sum_intListG (I.ok.hd hc) isl λh' tk t' hk=>⟨.int ns.sum,H,I.kept (t':=tk) hk,⟨t',?_⟩,q⟩;rw[preSum_eq,List.take_of_length_le (by simp),<-hn,en,nums_intItems]
theorem stored_new {K:Type} [DecidableEq K] {kvs:List (K × Value)} {k:K} {v:Value} (h:∀p∈kvs,p.1≠k):stored kvs k v=kvs++[(k,v)]:=by
 unfold stored;rw[if_neg];intro z;obtain ⟨p,hp,e⟩:=List.any_eq_true.mp z;exact h p hp (of_decide_eq_true e)
theorem storeAll_range {K:Type} [DecidableEq K] {kk:Nat->K} {items:Array Value}:∀(n k:Nat),(∀i j,i<k+n->j<k+n->kk i=kk j->i=j)->
  ZD.storeAll kk items n k ((List.range k).map λi=>(kk i,items[i]?.getD .none))=(List.range (k+n)).map λi=>(kk i,items[i]?.getD .none)
 |0,k,_=>rfl
 |n+1,k,hi=>by
  show ZD.storeAll kk items n (k+1) (stored _ (kk k) (items[k]?.getD .none))=_;rw[stored_new]
  ·have ih:=storeAll_range (kk:=kk) (items:=items) n (k+1) (λi j a b=>hi i j (by lia) (by lia));rw[List.range_succ,List.map_append] at ih;rw[show k+(n+1)=k+1+n by lia];exact ih
  ·intro p hp;obtain ⟨i,hm,rfl⟩:=List.mem_map.mp hp;have hlt:=List.mem_range.mp hm;intro e;have:=hi i k (by lia) (by lia) e;lia
theorem paired_map {α β γ:Type} {R:β->γ->Prop} {f:α->β} {g:α->γ}:∀(l:List α),(∀a∈l,R (f a) (g a))->Paired R (l.map f) (l.map g)
 |[],_=>.nil
 |a::l,h=>.cons (h a List.mem_cons_self) (paired_map l λb hb=>h b (List.mem_cons_of_mem _ hb))
def zkey (x:Str) (i:Nat):Key:=.inr ⟨#[x.cps.getD i 0]⟩
def zipKV (x:Str) (ws:List V):List (Key × V):=(List.range x.cps.size).map λi=>(zkey x i,ws[i]?.getD .non)
def tDZ (K:Fg) (ta:TA):TE:=λσ H Q=>ta σ H λvs H1=>∃(x:Str) (t:Addr) (ws:List V),vs=[.str x,.ref t]/\(SqT K H1 t ws\/SqL K H1 t ws)/\x.cps.size=ws.length/\x.cps.size<=1000/\x.cps.all (·<128)=true/\(∀i j,i<x.cps.size->j<x.cps.size->zkey x i=zkey x j->i=j)/\
 ∀d,H1 d=none->Q (.ref d) (upd H1 d (.dK (zipKV x ws)))
theorem dz_run {pins:List (Addr × Obj)} {σ:St} {H:Hp} {s:Shared} {Q:VK} {x:Str} {tk:Tok} {t:Addr} {ws:List V} (hc:X.calm=true) (I:Inv X pins σ H s) (ht:SqT X.K H t ws\/SqL X.K H t ws) (hl:x.cps.size=ws.length) (hle:x.cps.size<=1000) (ha:x.cps.all (·<128)=true)
  (hinj:∀i j,i<x.cps.size->j<x.cps.size->zkey x i=zkey x j->i=j) (q:∀d,H d=none->Q (.ref d) (upd H d (.dK (zipKV x ws)))):
  wpAny (model X.prog X.w) X.A (call (.type "zip") [.str x tk,.ref t]) (λz s1=>wpAny (model X.prog X.w) X.A (call (.type "dict") [z]) (EP X pins σ Q) X.xe s1) X.xe s:=by
 obtain ⟨its,r,it,hlt⟩:∃its:List Value,Vals ws its/\(s.heap.IsTuple t its.toArray\/s.heap.IsList t its.toArray)/\t<s.heap.objs.size:=by
  rcases ht with ht|ht
  ·obtain ⟨its,r,it,hz⟩:=I.tuple ht;exact ⟨its,r,.inl it,let ⟨o,e,_⟩:=it;Heap.lt_size e⟩
  ·obtain ⟨its,r,it,hz⟩:=I.list ht;exact ⟨its,r,.inr it.isList,let ⟨o,n,e,_⟩:=it;Heap.lt_size e⟩
 have hlen:ws.length=its.length:=r.length;refine ZD.call_zip ha it λh1 S1 sz1 k1=>?_;refine ZD.dict_of_zip (s:={s with heap:=h1}) (knd:=mixKind X.prog X.w) (kk:=zkey x) (λi c u hx=>?_) (ZD.apart_new hlt) (I.ok.hd hc) (by rw[hl,hlen,List.size_toArray]) hle S1 λh2 d tk2 hd hdict k2=>?_
 ·show keyIs (.inr ⟨#[x.cps.getD i 0]⟩) (.str ⟨#[c]⟩ u)=true;have e:x.cps.getD i 0=c:=by
   rw[Array.getD_eq_getD_getElem?,hx];rfl
  rw[e];exact keyIs_str _ _
 ·have hd':s.heap.objs.size<=d:=by
   have:h1.objs.size<=d:=hd;lia
  have kept:∀b o,s.heap.get? b=some o->h2.get? b=some o:=λb o e=>by
   have lb:b<s.heap.objs.size:=Heap.lt_size e;exact k2 b o (Nat.ne_of_lt (Nat.lt_add_right _ lb)) (Nat.ne_of_lt (Nat.lt_add_right _ lb)) (Nat.ne_of_lt lb) (Nat.ne_of_lt (Nat.lt_add_right _ lb)) (k1 b o e)
  have e0:=storeAll_range (kk:=zkey x) (items:=its.toArray) x.cps.size 0 (λi j a b=>hinj i j (by lia) (by lia));have e1:ZD.storeAll (zkey x) its.toArray x.cps.size 0 []=(List.range x.cps.size).map λi=>(zkey x i,its.toArray[i]?.getD .none):=by
   rw[show 0+x.cps.size=x.cps.size by lia] at e0;exact e0
  rw[e1] at hdict;have hrel:KV (zipKV x ws) ((List.range x.cps.size).map λi=>(zkey x i,its.toArray[i]?.getD .none)):=by
   refine paired_map _ λi hi=>⟨rfl,?_⟩;have hi':=List.mem_range.mp hi;have hw:ws[i]?=some (ws[i]'(by lia)):=List.getElem?_eq_getElem (by lia);obtain ⟨u,hu,ru⟩:=r.get hw;have hu':its.toArray[i]?=some u:=by simpa using hu
   show RelV (ws[i]?.getD .non) (its.toArray[i]?.getD .none);rw[hw,hu'];exact ru
  refine ⟨.ref d,upd H d (.dK (zipKV x ws)),?_,rfl,q d (I.hok.fresh hd')⟩;refine I.laid (t':=tk2) kept hd' ⟨?_,beq_eq_false_iff_ne.mpr (Ne.symm (Nat.ne_of_lt (Nat.lt_of_lt_of_le (big_dict I) hd'))),_,hrel,hdict⟩;show (zipKV x ws).length<=sizeLine;unfold zipKV;rw[List.length_map,List.length_range];exact Nat.le_of_lt (small1000 hle)
theorem pe_dictzip {a b:Expr} {ta:TA} {p1 p2 pos1 pos2:Pos} (hc:X.calm=true) (hgd:Gl X "dict") (hmd:X.mg "dict"=none) (hgz:Gl X "zip") (hmz:X.mg "zip"=none) (ha:PA X [a,b] ta)
  (hs:starEach [a,b] X.env=(false,eval a X.env)::starEach [b] X.env:=by rfl) (hpl:(backTo pos2 (starEach [b] X.env)).any (·.1)=false:=by rfl)
  (hs1:starEach [.Call (.Name "zip" p2) [a,b] [] pos2] X.env=(false,eval (.Call (.Name "zip" p2) [a,b] [] pos2) X.env)::starEach [] X.env:=by rfl) (hpl1:(backTo pos1 (starEach [] X.env)).any (·.1)=false:=by rfl):
  PE X (.Call (.Name "dict" p1) [.Call (.Name "zip" p2) [a,b] [] pos2] [] pos1) (tDZ X.K ta):=by
 intro pins s σ H Q I h;refine wpAny_Call_Name_kw (ld_blt I hgd hmd PyProof.Rows.Boot.dict ?_ (by decide) (by decide));refine PyProof.Rows.callWith_type1 ?_ hs1 hpl1;rw[hs1];show wpAny _ _ (spliced ((false,eval (.Call (.Name "zip" p2) [a,b] [] pos2) X.env)::backTo pos1 (starEach [] X.env))) _ _ s;refine Calls.spliced_cons ?_;refine thn (Q:=λz s1=>wpAny (model X.prog X.w) X.A (call (.type "dict") [z]) (EP X pins σ Q) X.xe s1) ?_ λz s1 hz=>Calls.spliced_nil hz;refine wpAny_Call_Name_kw (ld_blt I hgz hmz PyProof.Rows.Boot.zip ?_ (by decide) (by decide));refine PyProof.Rows.callWith_type1 (thn (ha pos2 pins s σ H _ I h) λus s1 ⟨vs,H1,I1,r1,q1⟩=>?_) hs hpl;obtain ⟨x,t,ws,rfl,ht,hl,hle,hasc,hinj,q⟩:=q1;obtain ⟨u,v,rfl,ru,rv⟩:=r1.two;obtain ⟨tk,rfl⟩:=ru;cases (show v=Value.ref t from rv);exact dz_run hc I1 ht hl hle hasc hinj q
theorem val_range {n:Nat} {key:Nat->Key} {f:Nat->V} {j:Nat} (hinj:∀i j,i<n->j<n->key i=key j->i=j) (hj:j<n):valV ((List.range n).map λi=>(key i,f i)) (key j)=some (f j):=by
 unfold valV;rw[List.find?_map];have e:(List.range n).find? ((λkv:Key × V=>decide (kv.1=key j))∘λi=>(key i,f i))=some j:=by
  cases q:(List.range n).find? ((λkv:Key × V=>decide (kv.1=key j))∘λi=>(key i,f i)) with
  |none=>
   have z:=List.find?_eq_none.mp q j (List.mem_range.mpr hj);simp at z
  |some i=>
   have z1:=List.mem_range.mp (List.mem_of_find?_eq_some q);have z2:=List.find?_some q;have z3:key i=key j:=of_decide_eq_true z2;rw[hinj i j z1 hj z3]
 rw[e];rfl
end
section
variable {X:Cx} {pins:List (Addr × Obj)} {σ:St} {H:Hp} {s:Shared}
theorem Inv.but {C:Addr} {h':Heap} (I:Inv X pins σ H s) (hs:Heap.SameBut C s.heap h') (hC:X.s₀.heap.objs.size<=C) (hL:X.env.locals≠C) (hcl:∀x c,X.env.cells.lookup x=some c->c≠C) (hp:∀p∈X.pn++pins,p.1≠C) (hn:H C=none):
  Inv X pins σ H {s with heap:=h'}:=by
 have kp:∀b o,b≠C->s.heap.get? b=some o->h'.get? b=some o:=λb o hb e=>(hs.2 b hb).trans e;obtain ⟨m,hm,hl⟩:=I.loc;have cells:∀c v,c≠C->s.heap.IsCell c v->h'.IsCell c v:=λc v hc ⟨o,e,d⟩=>⟨o,kp _ _ hc e,d⟩;refine ⟨I.ok,I.os,I.bare,Un.but I.base hs hC,⟨m,hm.sameBut hs hL,λi x v e1 e2 e3=>?_⟩,λx c e=>?_,I.free,I.freeC,λp hpp=>⟨kp _ _ (hp p hpp) (I.pin p hpp).1,(I.pin p hpp).2⟩,HOk.but I.hok hs hn,I.len⟩
 ·obtain ⟨u,r,l⟩:=hl i x v e1 e2 e3;refine ⟨u,r,?_⟩;rcases l with l|⟨hk,c,hc,hcell⟩
  ·exact .inl l
  ·exact .inr ⟨hk,c,hc,cells c _ (hcl x c hc) hcell⟩
 ·obtain ⟨v,hv⟩:=I.cell x c e;exact ⟨v,cells c v (hcl x c e) hv⟩
theorem compLoop_ifs {prog:Program} {w:World} {A:Around} {R:Result->Shared->Prop} {s:Shared} {elt target iter:Expr} {ifs:List Expr} {scope:Scope} {pos:Pos} {it acc:Value} {env:Env} (Iv:Nat->Shared->Prop)
  (turn:∀n s,Iv n s->wpAny (model prog w) A (pyNext it) (λr s1=>match r with
   |none=>R (.ok .next) s1
   |some v=>wpAny (model prog w) A (letOwnedTupleGo target it v) (λ_ s1'=>wpAny (model prog w) A (assign target env v) (λ_ s2=>
     wpAny (model prog w) A (forIn ifs true λc r=>if r=true then do let ok <-isTrue c env (eval c env);pure (ForInStep.yield ok) else pure (ForInStep.yield r)) (λok s3=>
      if ok=true then wpAny (model prog w) A (eval elt env) (λx s4=>wpAny (model prog w) A (call (.builtin "list.append") [acc,x]) (λ_ s5=>∃m,m<n/\Iv m s5) (notedBy (model prog w) A env λe s'=>R (.error e) s') s4) (notedBy (model prog w) A env λe s'=>R (.error e) s') s3
      else ∃m,m<n/\Iv m s3) (notedBy (model prog w) A env λe s'=>R (.error e) s') s2)
     (notedBy (model prog w) A env λe s'=>R (.error e) s') s1') (notedBy (model prog w) A env λe s'=>R (.error e) s') s1) (notedBy (model prog w) A env λe s'=>R (.error e) s') s)
  (n:Nat) (h:Iv n s):codeAny (model prog w) A (.compLoop (.ListComp elt [⟨target,iter,ifs,0⟩] scope pos) 0 it acc env) R s:=by
 refine codeAny_loop rfl Iv (λn s hI=>?_) n h;show wpAny _ _ ((compTurn (.ListComp elt [⟨target,iter,ifs,0⟩] scope pos) 0 it acc env).onRaise (λx=>do noteFrame x env;theTreesLotGoes x)) _ _ s;refine wpAny_noted ?_;rw[compTurn_list];refine wpAny_bind (wpAny_standAt (wpAny_bind (wpAny_mono (turn n s hI) (λr s1 h1=>?_) λ_ _ h'=>h')));cases r with
 |none=>exact wpAny_pure h1
 |some v=>
  refine wpAny_bind (wpAny_mono h1 (λ_ s1' h1'=>wpAny_bind (wpAny_mono h1' (λ_ s2 h2=>wpAny_bind (wpAny_mono h2 (λok s3 h3=>?_) λ_ _ h'=>h')) λ_ _ h'=>h')) λ_ _ h'=>h');cases ok with
  |true=>
   rw[if_pos rfl] at h3 ⊢;exact wpAny_bind (wpAny_bind (wpAny_mono h3 (λx s4 h4=>wpAny_bind (wpAny_mono h4 (λ_ s5 h5=>wpAny_pure (wpAny_pure ⟨rfl,h5⟩)) λ_ _ h'=>h')) λ_ _ h'=>h'))
  |false=>
   rw[if_neg Bool.false_ne_true] at h3 ⊢
   first
    |exact wpAny_pure ⟨rfl,h3⟩
    |exact wpAny_bind (wpAny_pure (wpAny_pure ⟨rfl,h3⟩))
inductive Tests (X:Cx):List Expr->TT->Prop
 |nil:Tests X [] (λ_ H Q=>Q true H)
 |one {c:Expr} {t:TT} (h:PT X c t):Tests X [c] t
theorem Tests.run {ifs:List Expr} {t:TT} (T:Tests X ifs t) {QB:Bool->Hp->Prop} (I:Inv X pins σ H s) (h:t σ H QB):
  wpAny (model X.prog X.w) X.A (forIn ifs true λc r=>if r=true then do let ok <-isTrue c X.env (eval c X.env);pure (ForInStep.yield ok) else pure (ForInStep.yield r)) (TP X pins σ QB) X.xe s:=by
 cases T with
 |nil=>exact wpAny_tests_nil ⟨H,I,h⟩
 |one hc=>exact wpAny_tests_one (hc pins s σ H QB I h)
def CompBodyI (J:It) (g:TG) (tc:TT) (te:TE) (n:Nat) (is:List Nat) (σ:St) (D:Addr) (H1:Hp) (Q:VK):Prop:=∃W:Nat->Nat->St->Hp->Prop,(∃m,W 0 m (capS n is σ) (upd H1 D (.lst [])))/\
 ∀i m σ' H,W i m σ' H->(J.stop i H/\Q (.ref D) H)\/(J.go i H/\∀x H',J.yld i H x H'->g x σ' H' λσ2 H2=>tc σ2 H2 λb H3=>
  (b=true->te σ2 H3 λy H4=>∃xs,H4 D=some (.lst xs)/\xs.length<sizeLine/\∃m',m'<m/\W (i+1) m' σ2 (upd H4 D (.lst (xs++[y]))))/\(b=false->∃m',m'<m/\W (i+1) m' σ2 H3))
def tCompI (wi:TI) (g:TG) (tc:TT) (te:TE) (n:Nat) (is:List Nat):TE:=λσ H Q=>wi σ H λJ H1=>∀D,H1 D=none->CompBodyI J g tc te n is σ D H1 Q
theorem comp_core {elt target iter:Expr} {ifs:List Expr} {sc:Scope} {pos pos2:Pos} {own caps:List Str} {is:List Nat} {wi:TI} {g:TG} {tc:TT} {te:TE} {Q:VK} {QQ:Value->Shared->Prop} (use:Option (Value->Sem Unit)) (hc:X.calm=true) (hi:PI X target iter wi)
  (hg:∀C s₀ H₀ ex,PG (blk X (own++caps) sc C s₀ H₀ ex) target g) (ht:∀C s₀ H₀ ex,Tests (blk X (own++caps) sc C s₀ H₀ ex) ifs tc) (he:∀C s₀ H₀ ex,PE (blk X (own++caps) sc C s₀ H₀ ex) elt te) (hcap:Cap X sc caps is)
  (hkind:sc.kind=.function) (hown:∀y∈sc.names,y.2=.cell->sc.names.lookup y.1=some .cell) (hfr:(sc.names.all λy=>y.2 != .free || X.env.kindOf y.1==some .cell)=true)
  (hclos:closureFor sc X.env=pure (clOf sc.names X.env)) (hnames:∀y∈sc.names,y.2=.local->sc.names.lookup y.1=some .local)
  (hs:∀x,foldedSetIterable iter X.env x=pure x) (I:Inv X pins σ H s) (h:tCompI wi g tc te own.length is σ H Q)
  (fin:∀(D C:Addr) (H':Hp) (s':Shared) (m:Str->Option Value),Inv X pins σ H' s'->s'.heap.Ns C m->H' C=none->X.s₀.heap.objs.size<=C->X.env.locals≠C->(∀x c,X.env.cells.lookup x=some c->c≠C)->(∀p∈X.pn++pins,p.1≠C)->Q (.ref D) H'->
   compPost (model X.prog X.w) X.A X.xe use QQ (.ref D) C (.ok .next) s'):
  wpAny (model X.prog X.w) X.A (comprehension (.ListComp elt [⟨target,iter,ifs,0⟩] sc pos) sc X.env pos2 (newList []) false (eval iter X.env) use) QQ X.xe s:=by
 refine wpAny_comprehension_free (use:=use) rfl hs hclos hkind hnames ?_;refine thn (hi pins s σ H _ I h) λv s1 h1=>thn h1 λitv s2 h2=>?_;obtain ⟨it,fp,tn,J,H2,e,I2,T,st2,f2,q2⟩:=h2;subst e;have ob2:∀b∈fp,∃o,s2.heap.get? b=some o:=λb hb=>let ⟨o,e,_⟩:=T.obj _ _ st2 b hb;⟨o,e⟩;refine wpAny_newObj_type (wpAny_blkEnv ?_);have hns₁:(pushCells ((s2.heap.push {cls:=.type "list",data:=.seq ([]:List Value).toArray}).push {cls:=.type "dict",data:=.dict #[]}) sc.names).Ns (s2.heap.push {cls:=.type "list",data:=.seq ([]:List Value).toArray}).objs.size (λ_=>none):=(Heap.Ns.new _ (.type "dict")).keeps (pushCells_keeps _ _);have oc₁:=own_ok (s2.heap.push {cls:=.type "list",data:=.seq ([]:List Value).toArray}) {cls:=.type "dict",data:=.dict #[]} sc;have hk₁:∀b o,(s2.heap.push {cls:=.type "list",data:=.seq ([]:List Value).toArray}).get? b=some o->(pushCells ((s2.heap.push {cls:=.type "list",data:=.seq ([]:List Value).toArray}).push {cls:=.type "dict",data:=.dict #[]}) sc.names).get? b=some o:=λb o e=>pushCells_keeps _ _ b o (Heap.get?_push_of_some _ e);generalize hh₁:pushCells ((s2.heap.push {cls:=.type "list",data:=.seq ([]:List Value).toArray}).push {cls:=.type "dict",data:=.dict #[]}) sc.names=h₁ at hns₁ oc₁ hk₁;have I3:=I2.lnew (its:=[]) (ys:=[]) (t':=s2.toks) .nil (Nat.zero_le _);have hD:H2 s2.heap.objs.size=none:=I2.hok.fresh (Nat.le_refl _);obtain ⟨W,⟨m0,w0⟩,turn⟩:=q2 s2.heap.objs.size hD;have f3:∀b∈fp,FpOk X pins (upd H2 s2.heap.objs.size (.lst [])) b:=λb hb=>by
  obtain ⟨o,e⟩:=ob2 b hb;exact ⟨by rw[upd_ne (Nat.ne_of_lt (Heap.lt_size e))];exact (f2 b hb).1,(f2 b hb).2⟩
 have hk3:=hk₁;have ob3:∀b∈fp,∃o,(s2.heap.push {cls:=.type "list",data:=.seq ([]:List Value).toArray}).get? b=some o:=λb hb=>by
  obtain ⟨o,e⟩:=ob2 b hb;exact ⟨o,Heap.get?_push_of_some _ e⟩
 have I4:=blk_start (own:=own) I3 hkind hown hfr hcap f3 ob3 (tk:=s2.toks) hns₁ hk3 oc₁;have st4:tn 0 h₁:=T.keep 0 s2.heap h₁ st2 λb hb o e=>hk3 b o (Heap.get?_push_of_some _ e);have stat:∀{H':Hp},(∀b∈fp,H' b=none)->∀b∈fp,FpOk (blk X (own++caps) sc (s2.heap.push {cls:=.type "list",data:=.seq ([]:List Value).toArray}).objs.size {s2 with heap:=s2.heap.push {cls:=.type "list",data:=.seq ([]:List Value).toArray}} (upd H2 s2.heap.objs.size (.lst [])) fp) [] H' b:=λ{H'} hn b hb=>by
  obtain ⟨o,e⟩:=ob3 b hb;refine ⟨hn b hb,Nat.ne_of_lt (Heap.lt_size e),I4.ok.exfs b hb,.inl hb,(I4.ok.exf b hb).2,λp hp=>absurd (show p∈([]:List (Addr × Obj)) from hp) (by simp)⟩
 have loop:∀s4:Shared,s4={s2 with heap:=h₁}->
   codeAny (model X.prog X.w) X.A (.compLoop (.ListComp elt [⟨target,iter,ifs,0⟩] sc pos) 0 (.ref it) (.ref s2.heap.objs.size) (compEnvC sc (blkCl sc (s2.heap.push {cls:=.type "list",data:=.seq ([]:List Value).toArray}).objs.size X.env) (s2.heap.push {cls:=.type "list",data:=.seq ([]:List Value).toArray}).objs.size X.env))
    (compPost (model X.prog X.w) X.A X.xe use QQ (.ref s2.heap.objs.size) (s2.heap.push {cls:=.type "list",data:=.seq ([]:List Value).toArray}).objs.size) s4:=by
  rintro s4 rfl;refine compLoop_ifs (λn s'=>∃i σ' H',Inv (blk X (own++caps) sc (s2.heap.push {cls:=.type "list",data:=.seq ([]:List Value).toArray}).objs.size {s2 with heap:=s2.heap.push {cls:=.type "list",data:=.seq ([]:List Value).toArray}} (upd H2 s2.heap.objs.size (.lst [])) fp) [] σ' H' s'/\tn i s'.heap/\(∀b∈fp,H' b=none)/\W i n σ' H') ?_ m0
   ⟨0,_,_,I4,st4,λb hb=>(f3 b hb).1,w0⟩
  rintro n s5 ⟨i,σ5,H5,I5,st5,fr5,w5⟩;rcases turn i n σ5 H5 w5 with ⟨stop,qn⟩|⟨go,step⟩
  ·refine wpAny_mono (T.done (blk X (own++caps) sc _ _ _ fp) rfl rfl rfl hc i [] s5 σ5 H5 (λ_ _=>False) I5 (stat fr5) st5 stop) (λr s6 ⟨hr,I6⟩=>?_) λ_ _ z=>z.elim;subst hr;obtain ⟨m,hn,_⟩:=I6.loc;have IX:Inv X pins σ H5 s6:=I3.call' (s':=s6) I6.os I6.base I6.hok I6.bare (ch:=fp) λb hb=>by
    obtain ⟨_,n1,_,n3,n4,n5⟩:=f3 b hb;exact ⟨n3,n1,n4,n5⟩
   have lt3:∀{b:Addr} {o:Obj},(s2.heap.push {cls:=.type "list",data:=.seq ([]:List Value).toArray}).get? b=some o->b≠(s2.heap.push {cls:=.type "list",data:=.seq ([]:List Value).toArray}).objs.size:=λe=>Nat.ne_of_lt (Heap.lt_size e);refine fin _ _ H5 s6 m IX hn I6.free I3.sz (Nat.ne_of_lt I3.lt) (λx c e=>?_) (λp hp=>lt3 (I3.pin p hp).1) qn;obtain ⟨v,o,e',_⟩:=I3.cell x c e;exact lt3 e'
  ·refine wpAny_mono (T.item (blk X (own++caps) sc _ _ _ fp) rfl rfl rfl hc i [] s5 σ5 H5 (λ_ _=>False) I5 (stat fr5) st5 go) (λr s6 ⟨u,hr,h6⟩=>?_) λ_ _ z=>z.elim;subst hr;refine wpAny_mono h6 (λ_ s7 ⟨x,H7,I7,r7,y7,st7,fr7⟩=>?_) λ_ _ z=>z.elim;have I7':=I7.pinned (stat fr7) (T.obj _ _ st7);refine wpAny_mono (hg _ _ _ _ _ s7 σ5 H7 x u _ I7' r7 (step x H7 y7)) (λ_ s8 ⟨σ8,H8,I8,q8⟩=>?_) λ_ _ z=>z.elim;refine wpAny_mono ((ht _ _ _ _).run I8 q8) (λb s8' ⟨H8',I8',q8'⟩=>?_) λ_ _ z=>z.elim;have back:∀{σ9:St} {H9:Hp} {s9:Shared},Inv (blk X (own++caps) sc (s2.heap.push {cls:=.type "list",data:=.seq ([]:List Value).toArray}).objs.size {s2 with heap:=s2.heap.push {cls:=.type "list",data:=.seq ([]:List Value).toArray}} (upd H2 s2.heap.objs.size (.lst [])) fp) ([]++pinsAt fp s7.heap) σ9 H9 s9->tn (i+1) s9.heap/\∀b∈fp,H9 b=none:=λ{σ9 H9 s9} I9=>
    ⟨T.keep _ _ _ st7 λb hb o e=>(I9.pin (b,o) (List.mem_append_right _ (List.mem_append_right _ (mem_pinsAt hb e)))).1,λb hb=>by
     obtain ⟨o,e,d⟩:=T.obj _ _ st7 b hb
     exact (I9.pin (b,o) (List.mem_append_right _ (List.mem_append_right _ (mem_pinsAt hb e)))).2.1⟩
   cases b with
   |false=>
    rw[if_neg Bool.false_ne_true];obtain ⟨m',hm,w9⟩:=q8'.2 rfl;exact ⟨m',hm,i+1,σ8,_,I8'.unpinned,(back I8').1,(back I8').2,w9⟩
   |true=>
    rw[if_pos rfl];refine wpAny_mono (he _ _ _ _ _ s8' σ8 H8' _ I8' (q8'.1 rfl)) (λyv s9 ⟨y,H9,I9,r9,xs,hx,hz,m',hm,w9⟩=>?_) λ_ _ z=>z.elim;refine wpAny_mono (mt_append (X:=blk X (own++caps) sc _ _ _ fp) _ s9 σ8 H9 (.ref s2.heap.objs.size) [y] (.ref s2.heap.objs.size) [yv] (λv Hn=>v=.non/\Hn=upd H9 s2.heap.objs.size (.lst (xs++[y]))) I9 rfl (.cons r9 .nil) ⟨_,xs,y,rfl,rfl,hx,hz,rfl,rfl⟩)
     (λv s10 ⟨v10,H10,I10,r10,q10⟩=>?_) λ_ _ z=>z.elim
    obtain ⟨_,rfl⟩:=q10;exact ⟨m',hm,i+1,σ8,_,I10.unpinned,(back I10).1,(back I10).2,w9⟩
 exact codeAny_compStart_list (loop _ rfl) (T.self _ 0 _ _ _ st4 (loop _ rfl))
end
end L2.L3
namespace L2.Na
open PySem PySem.Spec PyProof.Rows L2 L2.L3
theorem Inv.turnedN {X:Cx} {pins:List (Addr × Obj)} {σ:St} {H:Hp} {s:Shared} {h':Heap} {t':Nat} {fp:List Addr} (I:Inv X pins σ H s) (k:∀b o,b∉fp->s.heap.get? b=some o->h'.get? b=some o) (hf:∀b∈fp,FpOk X pins H b):Inv X pins σ H {s with heap:=h',toks:=t'}:=by
 have nit:∀b u,H b=some u->b∉fp:=λb u e z=>by rw[(hf b z).1] at e;cases e
 refine I.step (g':=s.gens) (d':=s.drawn) (ch:=fp) (λb hb=>?_) (λb o _ _ hc e _=>k b o hc e) (λb o _ _ hc e _=>⟨o.slots,k b o hc e⟩) (λ_ _ _ _ n=>n)
  (λb o hc e=>⟨o,k b o hc e⟩) (λ_ _ e=>e) (λ_ _ _ e=>e) (λb ps e=>⟨#[],by rw[e];simp⟩) (λm hm=>?_) (λb u e=>?_) I.bare
 ·obtain ⟨_,hL,_,h1,h2,h3⟩:=hf b hb;exact ⟨h1,hL,h2,h3⟩
 ·obtain ⟨o,es,ep,ho,r⟩:=hm;exact ⟨o,es,ep,k _ o (λz=>(hf _ z).2.1 rfl) ho,r⟩
 ·refine (I.hok b u e).stay (λc v hc q=>k c v ?_ q) (λ_ q=>q) λ_ _ q=>q;rcases hc with z|z
  ·rw[z];exact nit b u e
  ·exact nit c _ z
def Itz (K:Fg) (a b:Addr):It:=
 ⟨λi H=>∃xs ys x y,SqL K H a xs/\SqL K H b ys/\xs[i]?=some x/\ys[i]?=some y,
  λi H v H'=>∃p x y,H p=none/\v=.ref p/\H'=upd H p (.tup [x,y])/\(∀xs,SqL K H a xs->xs[i]?=some x)/\∀ys,SqL K H b ys->ys[i]?=some y,
  λi H=>∃xs ys,SqL K H a xs/\SqL K H b ys/\(xs.length<=i\/ys.length<=i)⟩
structure ZApart (z TI TO i1 i2:Addr):Prop where
 TIz:TI≠z
 TOz:TO≠z
 i1z:i1≠z
 i2z:i2≠z
 TITO:TI≠TO
 TIi1:TI≠i1
 TIi2:TI≠i2
 TOi1:TO≠i1
 TOi2:TO≠i2
 i12:i1≠i2
theorem cls_ne {h:Heap} {a b:Addr} {o u:Obj} {m n:String} (e1:h.get? a=some o) (e2:h.get? b=some u) (c1:o.cls=.type m) (c2:u.cls=.type n) (hn:m≠n):a≠b:=λz=>by
 subst z;rw[e1] at e2;cases e2;rw[c1] at c2;exact hn (by simpa using c2)
def ZTn (z TI TO i1 i2 a b:Addr) (i:Nat) (h:Heap):Prop:=IsZip h z TI TO .none/\IsPair h TI (.ref i1) (.ref i2)/\(∃u v,IsPair h TO u v)/\h.IsListIter i1 a i/\h.IsListIter i2 b i
theorem ZTn.apart {z TI TO i1 i2 a b:Addr} {i:Nat} {h:Heap} {xs ys:Array Value} (Z:ZApart z TI TO i1 i2) (t:ZTn z TI TO i1 i2 a b i h) (h1:h.IsList a xs) (h2:h.IsList b ys):ZipApart z TI TO i1 i2 a b:=by
 obtain ⟨hz,_,⟨u,v,hTO⟩,⟨o1,e1,c1,_⟩,⟨o2,e2,c2,_⟩⟩:=t;obtain ⟨oa,ea,ca,_⟩:=h1;obtain ⟨ob,eb,cb,_⟩:=h2;exact ⟨Z.TIz,Z.TOz,Z.i1z,Z.i2z,Z.TITO,Z.TIi1,Z.TIi2,Z.TOi1,Z.TOi2,Z.i12,
  cls_ne ea hz ca rfl (by decide),cls_ne ea hTO ca rfl (by decide),cls_ne ea e1 ca c1 (by decide),cls_ne ea e2 ca c2 (by decide),
  cls_ne eb hz cb rfl (by decide),cls_ne eb hTO cb rfl (by decide),cls_ne eb e1 cb c1 (by decide),cls_ne eb e2 cb c2 (by decide)⟩
theorem turn_zip {P:Program} {w:World} {K:Fg} {elts:List Expr} {k:Nat} {pos:Pos} (a b z TI TO i1 i2:Addr) (Z:ZApart z TI TO i1 i2):Turn P w K (.Tuple elts k pos) (Itz K a b) [z,TI,TO,i1,i2] z (ZTn z TI TO i1 i2 a b) where
 mem:=by simp
 obj:=λi h st c hc=>by
  obtain ⟨hz,hTI,⟨u,v,hTO⟩,⟨o1,e1,c1,d1⟩,⟨o2,e2,c2,d2⟩⟩:=st;simp only [List.mem_cons,List.not_mem_nil,or_false] at hc;rcases hc with rfl|rfl|rfl|rfl|rfl
  ·exact ⟨_,hz,λ_ q=>by have q':Data.fields _=Data.cell _:=q;cases q'⟩
  ·exact ⟨_,hTI,λ_ q=>by have q':Data.seq _=Data.cell _:=q;cases q'⟩
  ·exact ⟨_,hTO,λ_ q=>by have q':Data.seq _=Data.cell _:=q;cases q'⟩
  ·exact ⟨_,e1,λ_ q=>by rw[d1] at q;cases q⟩
  ·exact ⟨_,e2,λ_ q=>by rw[d2] at q;cases q⟩
 keep:=λi h h' st kp=>by
  obtain ⟨hz,hTI,⟨u,v,hTO⟩,l1,l2⟩:=st;exact ⟨kp z (by simp) _ hz,kp TI (by simp) _ hTI,⟨u,v,kp TO (by simp) _ hTO⟩,l1.at λo e=>kp i1 (by simp) o e,l2.at λo e=>kp i2 (by simp) o e⟩
 item:=by
  intro X hP hw hK hc i pins s σ H E I hf st hg;subst hP hw hK;obtain ⟨xs,ys,x,y,hqa,hqb,hx,hy⟩:=hg;obtain ⟨ia,ra,pa,_⟩:=I.list hqa;obtain ⟨ib,rb,pb,_⟩:=I.list hqb;obtain ⟨u,hu,ru⟩:=ra.get hx;obtain ⟨v,hv,rv⟩:=rb.get hy;have D:=ZTn.apart Z st pa.isList pb.isList;obtain ⟨hz,hTI,⟨u0,v0,hTO⟩,l1,l2⟩:=st;refine wpAny_pyNext_zip_item D hz hTI hTO l1 l2 pa.isList pb.isList (x:=u) (y:=v) (by simpa using hu) (by simpa using hv) λh' a1 a2 a3 a4 a5 a6 hk=>?_;refine ⟨_,rfl,?_⟩;refine wpAny_letOwnedTupleGo_zip (s:={s with heap:=h'}) a1 λh2 z2 sb=>?_;have fr:H s.heap.objs.size=none:=I.hok.fresh (Nat.le_refl _);have zlt:z<s.heap.objs.size:=Heap.lt_size hz;have k2:∀c o,c∉[z,TI,TO,i1,i2]->s.heap.get? c=some o->h2.get? c=some o:=λc o hc' e=>by
   simp only [List.mem_cons,List.not_mem_nil,or_false,not_or] at hc';exact sb.extBut _ _ hc'.1 (hk c o hc'.1 hc'.2.2.1 hc'.2.2.2.1 hc'.2.2.2.2 e)
  have T2:IsPair h2 s.heap.objs.size u v:=sb.extBut _ _ (Nat.ne_of_gt zlt) a5;have ne:∀c∈[z,TI,TO,i1,i2],c≠s.heap.objs.size:=λc hc'=>by
   obtain ⟨o,e⟩:∃o,s.heap.get? c=some o:=by
    simp only [List.mem_cons,List.not_mem_nil,or_false] at hc';obtain ⟨o1,e1,_⟩:=l1;obtain ⟨o2,e2,_⟩:=l2;rcases hc' with rfl|rfl|rfl|rfl|rfl
    ·exact ⟨_,hz⟩
    ·exact ⟨_,hTI⟩
    ·exact ⟨_,hTO⟩
    ·exact ⟨_,e1⟩
    ·exact ⟨_,e2⟩
   exact Nat.ne_of_lt (Heap.lt_size e)
  have I0:Inv X pins σ (upd H s.heap.objs.size (.tup [x,y])) {s with heap:=s.heap.push {cls:=.type "tuple",data:=.seq #[u,v]}}:=
   I.laid (t':=s.toks) (λc o e=>Heap.get?_push_of_some _ e) (Nat.le_refl _) (show ObjOk X.prog X.w _ _ _ (.tup [x,y]) from ⟨by show 2<=sizeLine;decide,[u,v],.cons ru (.cons rv .nil),IsTup.new _ _⟩)
  have hf':∀c∈[z,TI,TO,i1,i2],FpOk X pins (upd H s.heap.objs.size (.tup [x,y])) c:=λc hc'=>⟨by rw[upd_ne (ne c hc')];exact (hf c hc').1,(hf c hc').2⟩;have I1:Inv X pins σ (upd H s.heap.objs.size (.tup [x,y])) {s with heap:=h2}:=Inv.turnedN (s:={s with heap:=s.heap.push {cls:=.type "tuple",data:=.seq #[u,v]}}) (t':=s.toks) I0 (λc o hc' e=>by
   rcases Heap.get?_push_cases e with ⟨hcs,ho⟩|e
   ·subst hcs ho
    exact T2
   ·exact k2 c o hc' e) hf'
  exact ⟨.ref s.heap.objs.size,_,I1,rfl,⟨_,x,y,fr,rfl,rfl,λxs' h'=>by rw[I.list_inj h' hqa];exact hx,λys' h'=>by rw[I.list_inj h' hqb];exact hy⟩,
   ⟨z2,sb.extBut _ _ Z.TIz (hk _ _ Z.TIz Z.TITO Z.TIi1 Z.TIi2 hTI),⟨_,_,sb.extBut _ _ Z.TOz a2⟩,a3.at λo e=>sb.extBut _ _ Z.i1z e,a4.at λo e=>sb.extBut _ _ Z.i2z e⟩,λc hc'=>(hf' c hc').1⟩
 done:=by
  intro X hP hw hK hc i pins s σ H E I hf st hg;subst hP hw hK;obtain ⟨xs,ys,hqa,hqb,hx⟩:=hg;obtain ⟨ia,ra,pa,_⟩:=I.list hqa;obtain ⟨ib,rb,pb,_⟩:=I.list hqb;have D:=ZTn.apart Z st pa.isList pb.isList;obtain ⟨hz,hTI,⟨u0,v0,hTO⟩,l1,l2⟩:=st;have n1:=ra.length;have n2:=rb.length;refine wpAny_pyNext_zip_end (I.ok.hd hc) D hz hTI hTO l1 l2 pa.isList pb.isList (by rcases hx with hx|hx;exact .inl (by simp;lia);exact .inr (by simp;lia)) λh' hk=>⟨rfl,Inv.turnedN (t':=s.toks) I (λc o hc' e=>?_) hf⟩;simp only [List.mem_cons,List.not_mem_nil,or_false,not_or] at hc';exact hk c o hc'.1 hc'.2.2.1 hc'.2.2.2.1 hc'.2.2.2.2 e
 self:=λ_ _ _ _ _ st h=>wpAny_pyIter_zip st.1 h
end L2.Na
namespace L2.L3
open PySem PySem.Spec PyProof.Rows L2 PySem.SeqAt
def Eqv:Nat->Hp->V->V->Prop
 |0,_,x,y=>(∃i,x=.int i/\y=.int i)\/(∃z,x=.str z/\y=.str z)\/(x=.non/\y=.non)
 |n+1,H,x,y=>Eqv n H x y\/∃p q xs ys,x=.ref p/\y=.ref q/\((H p=some (.lst xs)/\H q=some (.lst ys))\/(H p=some (.tup xs)/\H q=some (.tup ys)))/\xs.length=ys.length/\∀(i:Nat) (x y:V),xs[i]?=some x->ys[i]?=some y->Eqv n H x y
section
variable {X:Cx} {pins:List (Addr × Obj)} {σ:St} {H:Hp} {s:Shared}
theorem all_true (n:Nat):(List.range n).all (λ_=>true)=true:=List.all_eq_true.mpr λ_ _=>rfl
theorem vals_at {xs:List V} {us:List Value} (r:Vals xs us) {j:Nat} (h:j<us.toArray.size):∃x,xs[j]?=some x/\RelV x us.toArray[j]:=by
 have hj:j<us.length:=by simpa using h
 have hx:j<xs.length:=by rw[r.length];exact hj
 obtain ⟨u,h1,h2⟩:=r.get (List.getElem?_eq_getElem hx);have e:us.toArray[j]=u:=by
  rw[List.getElem?_eq_getElem hj] at h1;simpa using Option.some.inj h1
 exact ⟨xs[j],List.getElem?_eq_getElem hx,by rw[e];exact h2⟩
theorem eqv_items {A:Around} {n:Nat} {xs ys:List V} {us vs:List Value} (r1:Vals xs us) (r2:Vals ys vs) (hi:∀(i:Nat) (x y:V),xs[i]?=some x->ys[i]?=some y->Eqv n H x y)
  (ih:∀(x y:V) (u v:Value),Eqv n H x y->RelV x u->RelV y v->EqAt A s u v true):∀j (h1:j<us.toArray.size) (h2:j<vs.toArray.size),EqAt A s us.toArray[j] vs.toArray[j] ((λ_=>true) j):=λj h1 h2=>by
 obtain ⟨x,e1,q1⟩:=vals_at r1 h1;obtain ⟨y,e2,q2⟩:=vals_at r2 h2;exact ih x y _ _ (hi j x y e1 e2) q1 q2
theorem eqv_at (I:Inv X pins σ H s):∀(n:Nat) (A:Around) (x y:V) (u v:Value),A.units+n<cLine->Eqv n H x y->RelV x u->RelV y v->EqAt A s u v true
 |0,A,x,y,u,v,hu,h,r1,r2=>by
  rcases h with ⟨i,rfl,rfl⟩|⟨z,rfl,rfl⟩|⟨rfl,rfl⟩
  ·obtain ⟨t,rfl⟩:=r1;obtain ⟨t2,rfl⟩:=r2;have e:=EqAt.int_int (A:=A) (s:=s) i t i t2;rwa [beq_self_eq_true] at e
  ·obtain ⟨t,rfl⟩:=r1;obtain ⟨t2,rfl⟩:=r2;have e:=EqAt.str_str (A:=A) (s:=s) z t z t2;rwa [beq_self_eq_true] at e
  ·cases r1;cases r2;exact EqAt.same _
 |n+1,A,x,y,u,v,hu,.inl h,r1,r2=>eqv_at I n A x y u v (by lia) h r1 r2
 |n+1,A,x,y,u,v,hu,.inr ⟨p,q,xs,ys,e1,e2,hh,hl,hi⟩,r1,r2=>by
  subst e1 e2;cases r1;cases r2;by_cases e:p=q
  ·subst e;exact EqAt.same _
  refine EqAt.of_refs e ?_;have hu1:A.in1.units+n<cLine:=by show A.units+1+n<cLine;lia
  rcases hh with ⟨h1,h2⟩|⟨h1,h2⟩
  ·obtain ⟨_,its,n1,k1,l1,g1⟩:=I.lstM h1;obtain ⟨_,its2,n2,k2,l2,g2⟩:=I.lstM h2;have z:=RcAt.lists (A:=A) (e:=λ_=>true) (⟨_,g1,rfl,n1,rfl⟩:s.heap.IsList p its.toArray) (⟨_,g2,rfl,n2,rfl⟩:s.heap.IsList q its2.toArray) (by rw[List.size_toArray,List.size_toArray];lia) (by lia)
    (eqv_items k1 k2 hi λx y u v=>eqv_at I n A.in1 x y u v hu1)
   rwa [all_true] at z
  ·obtain ⟨its,k1,p1,_⟩:=I.tuple (SqT.of h1);obtain ⟨its2,k2,p2,_⟩:=I.tuple (SqT.of h2);have z:=RcAt.tuples (A:=A) (e:=λ_=>true) (show s.heap.IsTuple p its.toArray from p1) (show s.heap.IsTuple q its2.toArray from p2) (by lia)
    (eqv_items k1 k2 hi λx y u v=>eqv_at I n A.in1 x y u v hu1)
   have e3:its.toArray.size=its2.toArray.size:=by rw[List.size_toArray,List.size_toArray,<-k1.length,<-k2.length];exact hl
   rwa [all_true,e3,beq_self_eq_true,Bool.true_and] at z
def EqvR (n:Nat) (H:Hp) (p q:Addr):Prop:=∃xs ys,((H p=some (.lst xs)/\H q=some (.lst ys))\/(H p=some (.tup xs)/\H q=some (.tup ys)))/\xs.length=ys.length/\∀(i:Nat) (x y:V),xs[i]?=some x->ys[i]?=some y->Eqv n H x y
def rEqA:R2:=λx y H Q=>∃p q n,x=.ref p/\y=.ref q/\n<=40/\EqvR n H p q/\Q (.bl true) H
def rNeA:R2:=λx y H Q=>∃p q n,x=.ref p/\y=.ref q/\n<=40/\EqvR n H p q/\Q (.bl false) H
theorem op_eqA (hu:X.A.units+64<cLine):OpR X (compareOp .Eq) rEqA:=by
 intro pins s σ H x y v u Q I rx ry h;obtain ⟨p,q,n,rfl,rfl,hn,⟨xs,ys,hh,hl,hi⟩,qq⟩:=h;cases rx;cases ry;have hu1:X.A.in1.units+n<cLine:=by show X.A.units+1+n<cLine;lia
 rcases hh with ⟨h1,h2⟩|⟨h1,h2⟩
 ·obtain ⟨_,its,n1,k1,l1,g1⟩:=I.lstM h1;obtain ⟨_,its2,n2,k2,l2,g2⟩:=I.lstM h2;have z:=RcAt.lists (A:=X.A) (e:=λ_=>true) (⟨_,g1,rfl,n1,rfl⟩:s.heap.IsList p its.toArray) (⟨_,g2,rfl,n2,rfl⟩:s.heap.IsList q its2.toArray) (by rw[List.size_toArray,List.size_toArray];lia) (by lia)
   (eqv_items k1 k2 hi λx y u v=>eqv_at I n X.A.in1 x y u v hu1)
  rw[all_true] at z;exact z X.prog X.w X.xe _ ⟨.bl true,H,I,rfl,qq⟩
 ·obtain ⟨its,k1,p1,_⟩:=I.tuple (SqT.of h1);obtain ⟨its2,k2,p2,_⟩:=I.tuple (SqT.of h2);have z:=RcAt.tuples (A:=X.A) (e:=λ_=>true) (show s.heap.IsTuple p its.toArray from p1) (show s.heap.IsTuple q its2.toArray from p2) (by lia)
   (eqv_items k1 k2 hi λx y u v=>eqv_at I n X.A.in1 x y u v hu1)
  have e3:its.toArray.size=its2.toArray.size:=by rw[List.size_toArray,List.size_toArray,<-k1.length,<-k2.length];exact hl
  rw[all_true,e3,beq_self_eq_true,Bool.true_and] at z;exact z X.prog X.w X.xe _ ⟨.bl true,H,I,rfl,qq⟩
def rEqN:R2:=λx y H Q=>∃p q xs ys,x=.ref p/\y=.ref q/\H p=some (.lst xs)/\H q=some (.lst ys)/\xs.length≠ys.length/\Q (.bl false) H
theorem op_eqN (hu:X.A.units+64<cLine):OpR X (compareOp .Eq) rEqN:=by
 intro pins s σ H x y v u Q I rx ry h;obtain ⟨p,q,xs,ys,rfl,rfl,h1,h2,hl,qq⟩:=h;cases rx;cases ry;obtain ⟨_,its,n1,k1,l1,g1⟩:=I.lstM h1;obtain ⟨_,its2,n2,k2,l2,g2⟩:=I.lstM h2;have hne:(its.toArray.size != its2.toArray.size)=true:=by
  rw[List.size_toArray,List.size_toArray,<-l1,<-l2];exact bne_iff_ne.mpr hl
 exact RcAt.lists_lengths (A:=X.A) (⟨_,g1,rfl,n1,rfl⟩:s.heap.IsList p its.toArray) (⟨_,g2,rfl,n2,rfl⟩:s.heap.IsList q its2.toArray) hne (by lia) X.prog X.w X.xe _ ⟨.bl false,H,I,rfl,qq⟩
theorem op_neA (hu:X.A.units+64<cLine):OpR X (compareOp .NotEq) rNeA:=by
 intro pins s σ H x y v u Q I rx ry h;obtain ⟨p,q,n,rfl,rfl,hn,⟨xs,ys,hh,hl,hi⟩,qq⟩:=h;cases rx;cases ry;have hu1:X.A.in1.units+n<cLine:=by show X.A.units+1+n<cLine;lia
 rcases hh with ⟨h1,h2⟩|⟨h1,h2⟩
 ·obtain ⟨_,its,n1,k1,l1,g1⟩:=I.lstM h1;obtain ⟨_,its2,n2,k2,l2,g2⟩:=I.lstM h2;have z:=RcNeAt.lists (A:=X.A) (e:=λ_=>true) (⟨_,g1,rfl,n1,rfl⟩:s.heap.IsList p its.toArray) (⟨_,g2,rfl,n2,rfl⟩:s.heap.IsList q its2.toArray) (by rw[List.size_toArray,List.size_toArray];lia) (by lia)
   (eqv_items k1 k2 hi λx y u v=>eqv_at I n X.A.in1 x y u v hu1)
  rw[all_true] at z;exact z X.prog X.w X.xe _ ⟨.bl false,H,I,rfl,qq⟩
 ·obtain ⟨its,k1,p1,_⟩:=I.tuple (SqT.of h1);obtain ⟨its2,k2,p2,_⟩:=I.tuple (SqT.of h2);have z:=RcNeAt.tuples (A:=X.A) (e:=λ_=>true) (show s.heap.IsTuple p its.toArray from p1) (show s.heap.IsTuple q its2.toArray from p2) (by lia)
   (eqv_items k1 k2 hi λx y u v=>eqv_at I n X.A.in1 x y u v hu1)
  have e3:its.toArray.size=its2.toArray.size:=by rw[List.size_toArray,List.size_toArray,<-k1.length,<-k2.length];exact hl
  rw[all_true,e3,beq_self_eq_true,Bool.true_and] at z;exact z X.prog X.w X.xe _ ⟨.bl false,H,I,rfl,qq⟩
def rNeN:R2:=λx y H Q=>∃p q xs ys,x=.ref p/\y=.ref q/\H p=some (.lst xs)/\H q=some (.lst ys)/\xs.length≠ys.length/\Q (.bl true) H
theorem op_neN (hu:X.A.units+64<cLine):OpR X (compareOp .NotEq) rNeN:=by
 intro pins s σ H x y v u Q I rx ry h;obtain ⟨p,q,xs,ys,rfl,rfl,h1,h2,hl,qq⟩:=h;cases rx;cases ry;obtain ⟨_,its,n1,k1,l1,g1⟩:=I.lstM h1;obtain ⟨_,its2,n2,k2,l2,g2⟩:=I.lstM h2;have hne:(its.toArray.size != its2.toArray.size)=true:=by
  rw[List.size_toArray,List.size_toArray,<-l1,<-l2];exact bne_iff_ne.mpr hl
 exact RcNeAt.lists_lengths (A:=X.A) (⟨_,g1,rfl,n1,rfl⟩:s.heap.IsList p its.toArray) (⟨_,g2,rfl,n2,rfl⟩:s.heap.IsList q its2.toArray) hne (by lia) X.prog X.w X.xe _ ⟨.bl true,H,I,rfl,qq⟩
def rCatT0 (K:Fg):R2:=λx y H Q=>∃a b ys,x=.ref a/\y=.ref b/\SqT K H a []/\SqT K H b ys/\Q (.ref b) H
theorem op_catT0:OpR X (binaryOp .Add) (rCatT0 X.K):=by
 intro pins s σ H x y v u Q I rx ry h;obtain ⟨a,b,ys,rfl,rfl,ha,hb,q⟩:=h;cases rx;cases ry;obtain ⟨its,r1,p1,_⟩:=I.tuple ha;obtain ⟨its2,r2,p2,_⟩:=I.tuple hb;have e:its=[]:=r1.nil_iff.mpr rfl;subst e;obtain ⟨⟨cls,dd,data,sl⟩,ho,hc,n,hd⟩:=id p1;obtain ⟨⟨cls2,dd2,data2,sl2⟩,ho2,hc2,n2,hd2⟩:=id p2;simp only at hc hd hc2 hd2;subst hc hd hc2 hd2;exact concat_meets ⟨_,ho,rfl⟩ ⟨_,ho2,rfl⟩ noFill_tuple_add seq_tuple_add PySem.F.slot_tuple_add PySem.F.entry_tuple_add (PySem.F.args_tuple_add_2 _ _)
  (tuple_addW0 a b [].toArray its2.toArray n n2 dd dd2 sl sl2 rfl) ⟨ho,ho2,⟨.ref b,H,I,rfl,q⟩⟩
def CMulS (z:Str) (k:Int):Prop:=0<=k/\k<2 ^ 31/\z.length * k.toNat<=sizeLine
theorem op_mulS:OpR X (binaryOp .Mult) (λx y H Q=>∃i k,x=.str i/\y=.int k/\CMulS i k/\Q (.str (Txt.mul i k)) H):=by
 intro pins s σ H x y v u Q I rx ry h;obtain ⟨i,k,rfl,rfl,⟨h1,h2,h3⟩,q⟩:=h;obtain ⟨t,rfl⟩:=rx;obtain ⟨t',rfl⟩:=ry;have e1:(decide (k< -(2 ^ 63:Int)) || decide (k>=2 ^ 63))=false:=by
  rw[decide_eq_false (by lia),decide_eq_false (by lia)];rfl
 have hs:(sizeLine:Nat)<=2 ^ 40:=by rw[sizeLine_eq];decide
 refine SB.mul ⟨e1,λg1 _ c=>?_,λg1 _=>?_⟩ (λt' tk=>⟨.str (Txt.mul i k),H,I.tok _,⟨_,rfl⟩,q⟩)
 ·have c1:(2 ^ 63 - 1) / k<(i.length:Int):=c;have c2:¬(i.length:Int)<=(2 ^ 63 - 1) / k:=by lia
  refine c2 ((Int.le_ediv_iff_mul_le (by lia)).mpr ?_);have e:((i.length * k.toNat:Nat):Int)=(i.length:Int) * k:=by rw[Int.natCast_mul,Int.toNat_of_nonneg (by lia)]
  lia
 ·show decide _=false;exact decide_eq_false (by lia)
def CPw (i j:Int):Prop:=0<=j/\(Builtin.Int.intBits i:Int) * j<=2 ^ 27
theorem CPow.pw {i j:Int} (h:CPow i j):CPw i j:=by
 obtain ⟨h0,h1,h2⟩:=h;refine ⟨h0,?_⟩;have hb:Builtin.Int.intBits i<=64:=PyProof.Rows.intBits_le h2;have:(Builtin.Int.intBits i:Int) * j<=64 * j:=Int.mul_le_mul_of_nonneg_right (by lia) h0;lia
def CDv (_ j:Int):Prop:=0<j/\j<2 ^ 64
theorem op_fdivA:OpR X (binaryOp .FloorDiv) (rI CDv λi j=>.int (i / j)):=opI λi j _ _ _ _ _ hc q=>by
 have h1:(0:Int)<j:=hc.1;have h2:j<2 ^ 64:=hc.2;refine floordiv_int (by lia) (by rw[Int.fdiv_eq_ediv_of_nonneg i (by lia)];exact q) (.inl (PyProof.noPylong_of_log2 ?_));have h3:j.natAbs.log2<64:=(Nat.log2_lt (by lia)).mpr (by lia);lia
theorem op_mulA:OpR X (binaryOp .Mult) (rI IntMulOk λi j=>.int (i * j)):=opI λ_ _ _ _ _ _ _ hc q=>mul_int q hc
theorem op_powA:OpR X (binaryOp .Pow) (rI CPw λi j=>.int (i ^ j.toNat)):=opI λ_ _ _ _ _ _ _ hc q=>pow_int hc.1 hc.2 q
end
end L2.L3
namespace L2.Na
open PySem PySem.Spec PyProof.Rows L2 L2.L3
theorem dict_mapFields (o:Obj) (f:Array Value->Array Value):(o.mapFields f).dict=o.dict:=by
 unfold Obj.mapFields;split<;>rfl
def TrD (h B:Heap) (e:Addr) (c:Value) (dx:Option Addr) (fl:Value):Prop:=
 ∃oe vs T oT ts,h.get? e=some oe/\oe.cls=c/\oe.dict=dx/\oe.data=.fields vs/\vs[1]?=some (.ref T)/\B.get? T=none/\T≠e/\h.get? T=some oT/\oT.data=.fields ts/\ts[3]?=some fl
structure Went (B:Heap) (l:List Env) (e:Addr) (c:Value) (dx:Option Addr) (fl:Value) (h h':Heap):Prop where
 stay:B.StaysIn h'
 frames:h'.FunFrames B l
 tr:TrD h' B e c dx fl
 slots:h.UpToSlots h'
structure FlyD (B:Heap) (l:List Env) (e:Addr) (c:Value) (dx:Option Addr) (fl:Value) (h:Heap):Prop where
 stay:B.StaysIn h
 new:B.get? e=none
 frames:h.FunFrames B l
 tr:TrD h B e c dx fl
section
variable {M:Model} {A:Around} {E:Value->Shared->Prop} {s:Shared} {B:Heap} {env:Env} {outer:List Env} {L e:Addr} {Q:Unit->Shared->Prop}
theorem frameOf_in {env2:Env} {R:Value->Shared->Prop} (fr:A.frames=some (env::outer)) (ff:s.heap.FunFrames B (env::outer)) (ef:env.frame=some L) (ef2:env2.frame=some L)
  (h:∀h',Heap.SlotsOnly ((env::outer).filterMap (·.frame)) s.heap h'->R (.ref L) {s with heap:=h'}):wpAny M A (PySem.frameOf env2) R E s:=by
 unfold PySem.frameOf;refine wpAny_bind (wpAny_frameEnvs fr ?_);have hdw:((env::outer).dropWhile λx=>x.frame != env2.frame)=env::outer:=by simp [List.dropWhile,ef,ef2]
 rw[hdw];unfold frameObject;refine wpAny_bind (wpAny_bind (wpAny_readyFrames_fun ff λh₁ hs₁=>wpAny_pure ?_));rw[ef];exact wpAny_pure (h h₁ hs₁)
theorem entry_run {env2:Env} {oe:Obj} {vs:Array Value} {hd0:Value} {nx:Bool} (fr:A.frames=some (env::outer)) (ff:s.heap.FunFrames B (env::outer)) (ef:env.frame=some L) (ef2:env2.frame=some L) (eo:s.heap.get? e=some oe) (st:B.StaysIn s.heap)
  (en:B.get? e=none) (dt:oe.data=.fields vs) (sz:1<vs.size) (k:∀g,Went B (env::outer) e oe.cls oe.dict (rawInt L) s.heap g->Q () {s with heap:=g}):
  wpAny M A (do let a <-frameOf env2;let pl <-entryPlaceOf L nx;let b <-EntryCells.newEntry hd0 a .none (rawInt L) .none pl;setField (.ref e) 1 b) Q E s:=by
 have nf:e∉(env::outer).filterMap (·.frame):=λm=>by
  obtain ⟨_,o,ho,n⟩:=ff.mem m;rw[eo] at ho;cases ho;exact n vs dt
 refine wpAny_bind (frameOf_in fr ff ef ef2 λg1 s1=>wpAny_bind (wpAny_entryPlaceOf λpl ip=>?_));unfold EntryCells.newEntry newFields;refine wpAny_bind (wpAny_newObj_type ?_ (ip.sizeOk5 _ _ _ _ _));have e1:g1.get? e=some oe:=by rw[s1.2.1 e nf];exact eo
 have b1:B.StaysIn g1:=λb o q=>by
  rw[s1.2.1 b λm=>by rw[(ff.mem m).1] at q;cases q];exact st b o q
 generalize ho:({cls:=.type "traceback",dict:=none,data:=.fields ([hd0,.ref L,.none,rawInt L,.none]++(if pl.isEmpty then List.replicate 6 Value.none else pl)).toArray}:Obj)=ot;have od:ot.data=.fields ([hd0,.ref L,.none,rawInt L,.none]++(if pl.isEmpty then List.replicate 6 Value.none else pl)).toArray:=by rw[<-ho]
 have of3:([hd0,.ref L,.none,rawInt L,.none]++(if pl.isEmpty then List.replicate 6 Value.none else pl)).toArray[3]?=some (rawInt L):=by simp
 have onf:ot.isFreed=false:=Obj.isFreed_of_fields od;have e2:(g1.push ot).get? e=some oe:=Heap.get?_push_of_some _ e1;have ne:g1.objs.size≠e:=Nat.ne_of_gt (Heap.lt_size e1);refine wpAny_setField e2 dt sz (k _ ?_);have d3:(oe.mapFields (·.setIfInBounds 1 (Value.ref g1.objs.size))).data=.fields (vs.setIfInBounds 1 (Value.ref g1.objs.size)):=Obj.data_mapFields dt _;have e3:((g1.push ot).update e (Obj.mapFields (·.setIfInBounds 1 (Value.ref g1.objs.size)))).get? e=some (oe.mapFields (·.setIfInBounds 1 (Value.ref g1.objs.size))):=Heap.get?_update_self _ e2 (Obj.isFreed_of_fields d3);have kp:∀b o,b≠e->g1.get? b=some o->((g1.push ot).update e (Obj.mapFields (·.setIfInBounds 1 (Value.ref g1.objs.size)))).get? b=some o:=λb o hb q=>by
  rw[Heap.get?_update_other _ _ hb.symm];exact Heap.get?_push_of_some _ q
 have nr:∀b o,s.heap.get? b=some o->(∀ws,o.data≠.fields ws)->b≠e:=λb o q n z=>by
  subst z;rw[eo] at q;cases q;exact n vs dt
 refine ⟨λb o q=>kp b o (λz=>by rw[z,en] at q;cases q) (b1 b o q),ff.of_keeps λb o q n=>?_,⟨_,_,g1.objs.size,ot,_,e3,Obj.cls_mapFields _ _,dict_mapFields _ _,d3,by simp [sz],b1.fresh,ne,?_,od,of3⟩,λb o q n=>?_⟩
 ·obtain ⟨sl,z⟩:=s1.2.2 b o q;exact ⟨_,kp b _ (nr b o q n) z,rfl⟩
 ·rw[Heap.get?_update_other _ _ ne.symm];exact Heap.get?_push_size g1 onf
 ·obtain ⟨sl,z⟩:=s1.2.2 b o q;exact ⟨sl,kp b _ (nr b o q n) z⟩
theorem note_new {env2:Env} {oe:Obj} {vs:Array Value} (fr:A.frames=some (env::outer)) (ff:s.heap.FunFrames B (env::outer)) (ef:env.frame=some L) (ef2:env2.frame=some L) (eo:s.heap.get? e=some oe) (st:B.StaysIn s.heap)
  (en:B.get? e=none) (dt:oe.data=.fields vs) (v1:vs[1]?=some .none) (k:∀g,FlyD B (env::outer) e oe.cls oe.dict (rawInt L) g->s.heap.UpToSlots g->Q () {s with heap:=g}):wpAny M A (noteFrame (.ref e) env2) Q E s:=by
 unfold noteFrame;simp only [ef2];refine wpAny_bind (wpAny_field eo dt v1 ?_);rw[if_neg (show ¬((Value.none != Value.none)=true) by decide)];exact entry_run fr ff ef ef2 eo st en dt (Array.getElem?_eq_some_iff.mp v1).1 λg w=>k g ⟨w.stay,en,w.frames,w.tr⟩ w.slots
theorem note_fly {env2:Env} {c fl:Value} {dx:Option Addr} (fr:A.frames=some (env::outer)) (ef:env.frame=some L) (ef2:env2.frame=some L) (F:FlyD B (env::outer) e c dx fl s.heap)
  (k:∀g fl',FlyD B (env::outer) e c dx fl' g->s.heap.UpToSlots g->Q () {s with heap:=g}):wpAny M A (noteFrame (.ref e) env2) Q E s:=by
 have F0:=F;obtain ⟨st,en,ff,oe,vs,T,oT,ts,eo,rfl,rfl,dt,v1,nT,ne,eT,dT,t3⟩:=F;unfold noteFrame;simp only [ef2];refine wpAny_bind (wpAny_field eo dt v1 ?_);rw[if_pos (show (Value.ref T != Value.none)=true by simp)];refine wpAny_bind (wpAny_field eT dT t3 ?_);by_cases hfl:(fl==rawInt L)=true
 ·rw[if_pos hfl];exact wpAny_pure (k s.heap fl F0 (Heap.UpToSlots.refl _))
 rw[if_neg hfl];refine wpAny_bind (wpAny_setField eT dT (Array.getElem?_eq_some_iff.mp t3).1 ?_);have ot:∀b,b≠T->(s.heap.update T (Obj.mapFields (·.setIfInBounds 3 Value.none))).get? b=s.heap.get? b:=λb hb=>Heap.get?_update_other _ _ hb.symm;have nr:∀b o,s.heap.get? b=some o->(∀ws,o.data≠.fields ws)->b≠T:=λb o q n z=>by
  subst z;rw[eT] at q;cases q;exact n ts dT
 refine entry_run (s:={s with heap:=s.heap.update T (Obj.mapFields (·.setIfInBounds 3 Value.none))}) fr (ff.of_keeps λb o q n=>⟨o,by rw[ot b (nr b o q n)];exact q,rfl⟩) ef ef2 (by show (s.heap.update T _).get? e=_;rw[ot e ne.symm];exact eo)
  (λb o q=>by show (s.heap.update T _).get? b=_;rw[ot b λz=>by rw[z,nT] at q;cases q];exact st b o q) en dt (Array.getElem?_eq_some_iff.mp v1).1 λg w=>k g _ ⟨w.stay,en,w.frames,w.tr⟩ λb o q n=>w.slots b o (by rw[ot b (nr b o q n)];exact q) n
theorem mark_fly {l:List Env} {c fl:Value} {dx:Option Addr} (fo:Option Addr) (F:FlyD B l e c dx fl s.heap) (k:∀g,FlyD B l e c dx (fo.elim Value.none λf=>rawInt f) g->s.heap.UpToSlots g->Q () {s with heap:=g}):wpAny M A (setFlight (.ref e) fo) Q E s:=by
 obtain ⟨st,en,ff,oe,vs,T,oT,ts,eo,hc,hx,dt,v1,nT,ne,eT,dT,t3⟩:=F;have ot:∀b,b≠T->(s.heap.update T (Obj.mapFields (·.setIfInBounds 3 (fo.elim Value.none λf=>rawInt f)))).get? b=s.heap.get? b:=λb hb=>Heap.get?_update_other _ _ hb.symm;have nr:∀b o,s.heap.get? b=some o->(∀ws,o.data≠.fields ws)->b≠T:=λb o q n z=>by
  subst z;rw[eT] at q;cases q;exact n ts dT
 have s3:=(Array.getElem?_eq_some_iff.mp t3).1;unfold setFlight;refine wpAny_bind (wpAny_field eo dt v1 ?_);rw[if_pos (show (Value.ref T != Value.none)=true by simp)];refine wpAny_setField eT dT s3 (k _ ⟨λb o q=>?_,en,ff.of_keeps λb o q n=>⟨o,by rw[ot b (nr b o q n)];exact q,rfl⟩,oe,vs,T,_,_,by rw[ot e ne.symm];exact eo,hc,hx,dt,v1,nT,ne,Heap.get?_update_self _ eT (Obj.isFreed_of_fields (Obj.data_mapFields dT _)),Obj.data_mapFields dT _,by simp [s3]⟩
  λb o q n=>⟨o.slots,by rw[ot b (nr b o q n)];exact q⟩)
 rw[ot b λz=>by rw[z,nT] at q;cases q];exact st b o q
theorem land_fly {l:List Env} {c fl:Value} {dx:Option Addr} (F:FlyD B l e c dx fl s.heap) (k:∀g,FlyD B l e c dx .none g->s.heap.UpToSlots g->Q () {s with heap:=g}):wpAny M A (setFlight (.ref e) none) Q E s:=mark_fly none F k
theorem FlyD.tail {c fl:Value} {dx:Option Addr} {h:Heap} (F:FlyD B (env::outer) e c dx fl h):FlyD B outer e c dx fl h:=⟨F.stay,F.new,F.frames.2.2,F.tr⟩
theorem leave_new {oe:Obj} {vs:Array Value} (fr:A.frames=some (env::outer)) (ff:s.heap.FunFrames B (env::outer)) (ef:env.frame=some L) (eo:s.heap.get? e=some oe) (st:B.StaysIn s.heap)
  (en:B.get? e=none) (dt:oe.data=.fields vs) (v1:vs[1]?=some .none) (k:∀g,FlyD B outer e oe.cls oe.dict .none g->s.heap.UpToSlots g->Q () {s with heap:=g}):wpAny M A (leaving env (.ref e)) Q E s:=by
 unfold leaving;exact wpAny_bind (note_new fr ff ef ef eo st en dt v1 λg F u=>land_fly F λg2 F2 u2=>k g2 F2.tail (u.trans u2))
theorem leave_fly {c fl:Value} {dx:Option Addr} (fr:A.frames=some (env::outer)) (ef:env.frame=some L) (F:FlyD B (env::outer) e c dx fl s.heap)
  (k:∀g,FlyD B outer e c dx .none g->s.heap.UpToSlots g->Q () {s with heap:=g}):wpAny M A (leaving env (.ref e)) Q E s:=by
 unfold leaving;exact wpAny_bind (note_fly fr ef ef F λg _ F1 u=>land_fly F1 λg2 F2 u2=>k g2 F2.tail (u.trans u2))
end
def CXF (P:Program) (w:World):CXT:=λouter H s E ev s'=>∃(e:Addr) (c:Value) (dx:Option Addr) (H':Hp) (B:Heap),ev=.ref e/\s'.os=s.os/\AllBare s'.gens/\Un (frs outer) [] H H' s.heap s'.heap/\HOk P w H' s'.heap/\
 (∃fl,FlyD B outer e c dx fl s'.heap)/\(∀b o,s.heap.get? b=some o->b∉frs outer->∃u,B.get? b=some u)/\(∀b o,H' b=some o->∃u,B.get? b=some u)/\E c dx H'
theorem CXF.no {P:Program} {w:World} {outer:List Env} {H:Hp} {s s':Shared} {ev:Value} (h:CXF P w outer H s E0 ev s'):False:=by
 obtain ⟨_,_,_,_,_,_,_,_,_,_,_,_,_,z⟩:=h;exact z
theorem there_of {P:Program} {w:World} {H:Hp} {h:Heap} {a:Addr} {o:HO} (x:ObjOk P w H h a o):∃u,h.get? a=some u:=by
 induction o with
 |lst xs=>obtain ⟨_,_,_,_,e⟩:=x;exact ⟨_,e⟩
 |tup xs=>obtain ⟨_,_,_,u,e,_⟩:=x;exact ⟨_,e⟩
 |dK kvs=>obtain ⟨_,_,_,_,o,_,_,e,_⟩:=x;exact ⟨_,e⟩
 |dT kvs=>obtain ⟨_,_,_,_,o,_,_,e,_⟩:=x;exact ⟨_,e⟩
 |set S n=>obtain ⟨o,_,_,_,e,_⟩:=x;exact ⟨_,e⟩
 |ins C dx fs=>obtain ⟨_,_,_,e,_⟩:=x;exact ⟨_,e⟩
 |own y=>exact x
 |xd fs=>obtain ⟨_,⟨_,_,_,e,_⟩,_⟩:=x;exact ⟨_,e⟩
 |rng lo hi=>obtain ⟨_,_,_,e⟩:=x;exact ⟨_,e⟩
 |frz ob u _=>exact ⟨_,x.1⟩
 |tbl ps=>exact ⟨_,x⟩
 |met f y=>exact ⟨_,x⟩
 |ext φ=>exact x.2.1
section
variable {P:Program} {w:World} {K:Fg} {mg:Str->Option Value} {base:Heap} {N:List Str} {qual:Str} {scope:Scope} {f:Addr} {cd:Value} {A:Around} {outer:List Env} {s:Shared} {H:Hp} {E:XK}
theorem hok_in {H':Hp} {h g B:Heap} (x:HOk P w H' h) (c2:∀b o,H' b=some o->∃u,B.get? b=some u) (s1:B.StaysIn h) (s2:B.StaysIn g):HOk P w H' g:=λb o q=>
 (x b o q).stay (λb' u' hb' q'=>by
  obtain ⟨u,hu⟩:∃u,B.get? b'=some u:=by
   rcases hb' with rfl|hb'
   ·exact c2 _ _ q
   ·exact c2 _ _ hb'
  have z:=s1 _ _ hu
  rw[q'] at z
  cases z
  exact s2 _ _ hu) (λ_ z=>z) λ_ _ z=>z
theorem pass_def:Passes (CXF P w) (cxOf (CXF P w) P w K mg base N qual scope f cd A outer s H E) E:=by
 intro pins σ H1 s1 ev s' I hc;obtain ⟨e,c,dx,H',B,rfl,os,bare,un,hok,⟨fl,F⟩,c1,c2,hE⟩:=hc;have un':Un (frs (envOfC qual scope s.heap.objs.size f cd::outer)) [] H1 H' s1.heap s'.heap:=un;have I0:Un (frs outer) [] H H1 s.heap s1.heap:=I.base;have nl:∀b o,s.heap.get? b=some o->b∉frs outer->b∉frs (envOfC qual scope s.heap.objs.size f cd::outer):=λb o q hb z=>by
  have z':b=s.heap.objs.size\/b∈frs outer:=by simpa [frs,envOfC] using z
  rcases z' with z'|z'
  ·exact absurd (Heap.lt_size q) (by rw[z'];exact Nat.lt_irrefl _)
  ·exact hb z'
 have fs:∀b,b∈frs outer->b∈frs (envOfC qual scope s.heap.objs.size f cd::outer):=λb z=>by
  have:b=s.heap.objs.size\/b∈frs outer:=.inr z;simpa [frs,envOfC] using this
 show wpAny _ _ (leaving _ (.ref e)) _ _ s';refine leave_fly (L:=s.heap.objs.size) I.ok.frames rfl F λg F2 u=>?_;have bg:∀b o,s'.heap.get? b=some o->(∃u,B.get? b=some u)->g.get? b=some o:=λb o q ⟨v,hv⟩=>by
  have z:=F.stay _ _ hv;rw[q] at z;cases z;exact F2.stay _ _ hv
 have c1':∀b o,s.heap.get? b=some o->b∉frs outer->∃u,B.get? b=some u:=λb o q hb=>by
  obtain ⟨o1,q1⟩:=I0.there b o q (by simp);exact c1 b o1 q1 (nl b o q hb)
 have slot:∀b o,s.heap.get? b=some o->H b=none->b∈frs outer->∃sl,g.get? b=some {o with slots:=sl}:=λb o q n hb=>by
  obtain ⟨sl,q1⟩:=I0.slot b o q n hb (by simp);obtain ⟨sl2,q2⟩:=un'.slot b _ q1 (I0.free b o q n (by simp)) (fs b hb) (by simp);have nf:∀ws,o.data≠.fields ws:=by
   obtain ⟨_,o',q',n'⟩:=(show s.heap.FunFrames base outer from I.ok.funs).mem hb;rw[q] at q';cases q';exact n'
  obtain ⟨sl3,q3⟩:=u b _ q2 nf;exact ⟨sl3,q3⟩
 refine ⟨e,c,dx,H',B,rfl,os.trans I.os,bare,⟨λb o q n hb _=>?_,λb o q n hb _=>slot b o q n hb,λb o q n _=>?_,λb o q _=>?_,λb xs q=>un.tups b xs (I0.tups b xs q),λb o xs q=>un.frzs b o xs (I0.frzs b o xs q),λb ps q=>?_⟩,hok_in hok c2 F.stay F2.stay,⟨_,F2⟩,c1',c2,hE⟩
 ·exact bg b o (un'.keep b o (I0.keep b o q n hb (by simp)) (I0.free b o q n (by simp)) (nl b o q hb) (by simp)) (c1' b o q hb)
 ·obtain ⟨o1,q1⟩:=I0.there b o q (by simp);exact un'.free b o1 q1 (I0.free b o q n (by simp)) (by simp)
 ·by_cases hb:b∈frs outer
  ·obtain ⟨sl,z⟩:=slot b o q (I.ok.frf b hb) hb;exact ⟨_,z⟩
  ·obtain ⟨v,hv⟩:=c1' b o q hb;exact ⟨v,F2.stay _ _ hv⟩
 ·obtain ⟨m1,e1⟩:=I0.tbls b ps q;obtain ⟨m2,e2⟩:=un.tbls b _ e1;exact ⟨m1++m2,by rw[e2,Array.append_assoc]⟩
theorem made_def {pins:List (Addr × Obj)} {σ:St} {H1:Hp} {s1:Shared} {e:Addr} {oe:Obj} {vs:Array Value} (I:Inv (cxOf (CXF P w) P w K mg base N qual scope f cd A outer s H E) pins σ H1 s1)
  (eo:s1.heap.get? e=some oe) (dt:oe.data=.fields vs) (v1:vs[1]?=some .none) (en:H1 e=none) (e0:∀b o,s.heap.get? b=some o->b≠e) (hE:E oe.cls oe.dict H1):
  (cxOf (CXF P w) P w K mg base N qual scope f cd A outer s H E).xe (.ref e) s1:=by
 have I0:Un (frs outer) [] H H1 s.heap s1.heap:=I.base;have ff:s1.heap.FunFrames base (envOfC qual scope s.heap.objs.size f cd::outer):=I.stack;have nl:∀b o,s.heap.get? b=some o->b∉frs outer->b∉frs (envOfC qual scope s.heap.objs.size f cd::outer):=λb o q hb z=>by
  have z':b=s.heap.objs.size\/b∈frs outer:=by simpa [frs,envOfC] using z
  rcases z' with z'|z'
  ·exact absurd (Heap.lt_size q) (by rw[z'];exact Nat.lt_irrefl _)
  ·exact hb z'
 have ne:e∉frs (envOfC qual scope s.heap.objs.size f cd::outer):=λz=>by
  obtain ⟨_,o,q,n⟩:=ff.mem z;rw[eo] at q;cases q;exact n vs dt
 have hid:∀{b o},(PySem.W.hideAll s1.heap (e::frs (envOfC qual scope s.heap.objs.size f cd::outer))).get? b=some o->s1.heap.get? b=some o:=λq=>PySem.W.of_hideAll _ q;have has:∀{b o},s1.heap.get? b=some o->b≠e->b∉frs (envOfC qual scope s.heap.objs.size f cd::outer)->(PySem.W.hideAll s1.heap (e::frs (envOfC qual scope s.heap.objs.size f cd::outer))).get? b=some o:=
  λq h1 h2=>PySem.W.hideAll_get _ q (by simp only [List.mem_cons,not_or];exact ⟨h1,h2⟩)
 have ff2:s1.heap.FunFrames (PySem.W.hideAll s1.heap (e::frs (envOfC qual scope s.heap.objs.size f cd::outer))) (envOfC qual scope s.heap.objs.size f cd::outer):=
  PySem.W.funFrames_hide ff λenv' he' a ha=>List.mem_cons_of_mem _ (List.mem_filterMap.mpr ⟨env',he',ha⟩)
 show wpAny _ _ (leaving _ (.ref e)) _ _ s1;refine leave_new (L:=s.heap.objs.size) I.ok.frames ff2 rfl eo (λb o q=>hid q) (PySem.W.hideAll_none _ (by simp)) dt v1 λg F2 u=>?_;have c1':∀b o,s.heap.get? b=some o->b∉frs outer->∃u,(PySem.W.hideAll s1.heap (e::frs (envOfC qual scope s.heap.objs.size f cd::outer))).get? b=some u:=λb o q hb=>by
  obtain ⟨o1,q1⟩:=I0.there b o q (by simp);exact ⟨o1,has q1 (e0 b o q) (nl b o q hb)⟩
 have c2:∀b o,H1 b=some o->∃u,(PySem.W.hideAll s1.heap (e::frs (envOfC qual scope s.heap.objs.size f cd::outer))).get? b=some u:=λb o q=>by
  obtain ⟨o1,q1⟩:∃o1,s1.heap.get? b=some o1:=there_of (I.hok b o q);refine ⟨o1,has q1 (λz=>by rw[z,en] at q;cases q) λz=>?_⟩;have:=I.stkFree b z;rw[q] at this;cases this
 have slot:∀b o,s.heap.get? b=some o->H b=none->b∈frs outer->∃sl,g.get? b=some {o with slots:=sl}:=λb o q n hb=>by
  obtain ⟨sl,q1⟩:=I0.slot b o q n hb (by simp);have nf:∀ws,o.data≠.fields ws:=by
   obtain ⟨_,o',q',n'⟩:=(show s.heap.FunFrames base outer from I.ok.funs).mem hb;rw[q] at q';cases q';exact n'
  obtain ⟨sl3,q3⟩:=u b _ q1 nf;exact ⟨sl3,q3⟩
 refine ⟨e,oe.cls,oe.dict,H1,_,rfl,I.os,I.bare,⟨λb o q n hb _=>?_,λb o q n hb _=>slot b o q n hb,λb o q n _=>I0.free b o q n (by simp),λb o q _=>?_,I0.tups,I0.frzs,I0.tbls⟩,hok_in I.hok c2 (λb o q=>hid q) F2.stay,⟨_,F2⟩,c1',c2,hE⟩
 ·exact F2.stay _ _ (has (I0.keep b o q n hb (by simp)) (e0 b o q) (nl b o q hb))
 ·by_cases hb:b∈frs outer
  ·obtain ⟨sl,z⟩:=slot b o q (I.ok.frf b hb) hb;exact ⟨_,z⟩
  ·obtain ⟨v,hv⟩:=c1' b o q hb;exact ⟨v,F2.stay _ _ hv⟩
end
theorem ff {P:Prop} (h:false=true):P:=nomatch h
abbrev XS:=St->XK
abbrev E0:XS:=λ_ _ _ _=>False
def blts:List Str:=["len","range","sum","all","any","min","max","sorted","isinstance","list","tuple","int","str","bool","dict","zip","set","abs","enumerate","reversed","divmod","ValueError"]
structure Rt where
 P:Program
 w:World
 K:Fg
 mg:Str->Option Value
 base:Heap
 A:Around
def rtOf (X:Cx):Rt:=⟨X.prog,X.w,X.K,X.mg,X.base,X.A⟩
def FnAt (R:Rt) (x:Str) (sp:Sp):Prop:=∃(k:Nat) (f:Addr) (fd:FuncData) (ps:List Str),Room k R.A/\FnOk R.P R.w R.K R.mg R.base (CXF R.P R.w) k f fd ps sp/\Binds R.K fd ps []/\PySem.W.keepIn R.K (.ref f)=true/\R.mg x=some (.ref f)
def GlAt (R:Rt) (x:Str) (v:V):Prop:=∃u,R.mg x=some u/\RelV v u
inductive Fb where
 |all
 |own (l:List Str)
 |hot
def Fb.of:Bool->Fb
 |true=>.all
 |false=>.own []
instance:Coe Bool Fb:=⟨Fb.of⟩
structure Sc where
 N:List Str
 nm:List (Str × NameKind)
 fo:Fb
def Sc.fb (C:Sc):Bool:=match C.fo with
 | .all=>true
 | .own _=>false
 | .hot=>true
def Sc.cm (C:Sc):Bool:=match C.fo with
 | .hot=>false
 |_=>true
def Sc.ow (C:Sc):List Str:=match C.fo with
 | .all=>[]
 | .own l=>l
 | .hot=>[]
structure Gd (X:Cx) (C:Sc):Prop where
 N:X.N=C.N
 nm:X.env.scope.names=C.nm
 nd:C.N.Nodup
 calm:C.cm=true->X.calm=true
 bl:∀x∈blts,X.mg x=none
 hu:X.A.units+64<cLine
 fb:C.fb=true->∀x,X.fn x=true
 top:C.fb=true->X.stack=X.env::X.outer/\X.env.frame=some X.env.locals
 ow:∀x∈C.ow,X.fn x=true
structure Thr (X:Cx) (E:XS):Prop where
 pass:∀(pins:List (Addr × Obj)) (σ:St) (H:Hp) (s:Shared) (ev:Value) (s':Shared),Inv X pins σ H s->CXF X.prog X.w X.stack H s (E σ) ev s'->X.xe ev s'
 made:∀(pins:List (Addr × Obj)) (σ:St) (H H':Hp) (s s':Shared) (e:Addr) (oe:Obj) (vs:Array Value),Inv X pins σ H s->s'.os=s.os->AllBare s'.gens->Un (frs X.stack) [] H H' s.heap s'.heap->HOk X.prog X.w H' s'.heap->s.heap.get? e=none->H' e=none->
  s'.heap.get? e=some oe->oe.data=.fields vs->vs[1]?=some .none->E σ oe.cls oe.dict H'->X.xe (.ref e) s'
 own:PassesOwn (model X.prog X.w) X.A X.env X.xe
inductive Shp where
 |pl|cp|zc
 deriving DecidableEq
def shpOf:Expr->Option Shp
 | .Starred ..=>none
 | .Slice ..=>none
 | .Set ..=>none
 | .SetComp ..=>none
 | .DictComp ..=>none
 | .GeneratorExp ..=>none
 | .ListComp ..=>some .cp
 | .Call (.Name _ _) [] [] _=>some .zc
 |_=>some .pl
def tstOf:Expr->Bool
 | .UnaryOp .Not _ _=>false
 | .BoolOp ..=>false
 | .IfExp ..=>false
 | .Compare ..=>false
 |_=>true
section
variable {e b o:Expr} {es:List Expr} {env:Env} {s:Shp}
theorem shp_star (h:shpOf e=some s):starEach (e::es) env=(false,eval e env)::starEach es env:=by
 cases e<;>first|rfl|cases h
theorem shp_swap {tgt:Option Expr} {line:Nat} (h:shpOf e=some s) (hs:s≠.cp):swapsWith e tgt line env=pure false:=by
 cases e with
 |ListComp a b c d=>exact absurd (Option.some.inj h).symm hs
 |SetComp a b c d=>cases h
 |DictComp a b c d=>cases h
 |_=>rfl
theorem shp_ix (h:shpOf b=some s):PlainIx b:=by
 cases b with
 |Slice a b c d=>cases h
 |_=>exact λ_ _=>rfl
theorem shp_mark {op:CmpOp} (h:shpOf b=some s):behindInMarks op b=false:=by
 cases b with
 |Set a b c=>cases h
 |_=>rfl
theorem shp_fold (h:shpOf e=some s) (x:Value):foldedSetIterable e env x=pure x:=by
 cases e with
 |Set a b c=>cases h
 |_=>rfl
theorem shp_base {attr:Str} {w:Sem Value} (h:shpOf o=some s) (hs:s≠.zc):attributeBase o attr env w=w:=by
 cases o with
 |Call f a k p=>
  cases f with
  |Name x q=>
   cases a with
   |nil=>
    cases k with
    |nil=>exact absurd (Option.some.inj h).symm hs
    |cons _ _=>rfl
   |cons _ _=>rfl
  |_=>rfl
 |_=>rfl
theorem tst_ok (h:tstOf e=true) (whole:Sem Value):isTrue e env whole=(do let v <-whole;standAt e.pos;holding [v] (truthy v)):=by
 cases e with
 |UnaryOp op x p=>
  cases op with
  |Not=>cases h
  |_=>rfl
 |BoolOp a b c=>cases h
 |IfExp a b c d=>cases h
 |Compare a b c d=>cases h
 |_=>rfl
end
def br (b:Bool) (A B:Prop):Prop:=(b=true->A)/\(b=false->B)
theorem brT {A B:Prop} (h:A):br true A B:=⟨λ_=>h,λz=>nomatch z⟩
theorem brF {A B:Prop} (h:B):br false A B:=⟨λz=>(nomatch z),λ_=>h⟩
theorem br_d {c A B:Prop} [Decidable c] (h1:c->A) (h2:¬c->B):br (decide c) A B:=⟨λz=>h1 (of_decide_eq_true z),λz=>h2 (of_decide_eq_false z)⟩
def rTru (K:Fg) (x:V) (H:Hp) (Q:Bool->Hp->Prop):Prop:=match x with
 | .bl b=>Q b H
 | .non=>Q false H
 | .int i=>Q (i != 0) H
 | .str y=>y.length<=sizeLine/\Q ((y.length:Int) != 0) H
 | .ref p=>∃k,TruV K (.ref p) H k/\Q k H
 |_=>False
theorem rTru_ok {K:Fg} {x:V} {H:Hp} {Q:Bool->Hp->Prop} (h:rTru K x H Q):∃k,TruV K x H k/\Q k H:=by
 cases x with
 |bl b=>exact ⟨b,rfl,h⟩
 |non=>exact ⟨false,rfl,h⟩
 |int i=>exact ⟨_,rfl,h⟩
 |str y=>exact ⟨_,⟨h.1,rfl⟩,h.2⟩
 |ref p=>exact h
 |byt _=>exact h.elim
 |flt _=>exact h.elim
 |ty _=>exact h.elim
theorem tru_run {X:Cx}:TruR X (rTru X.K):=λpins s σ H x v Q I rx h=>tru_ok pins s σ H x v Q I rx (rTru_ok h)
def truT (K:Fg) (t:TE):TT:=λσ H Q=>t σ H λx H'=>rTru K x H' Q
theorem pt_tru {X:Cx} {a:Expr} {ta:TE} (ha:PE X a ta) (he:tstOf a=true):PT X a (truT X.K ta):=by
 intro pins s σ H Q I h;exact isTrue_plain (thn (ha pins s σ H _ I h) λv s1 ⟨x,H1,I1,r1,q1⟩=>tru_run pins s1 σ H1 x v Q I1 r1 q1) (tst_ok he _)
theorem PE.imp {X:Cx} {e:Expr} {t t':TE} (h:PE X e t) (f:∀σ H Q,t' σ H Q->t σ H Q):PE X e t':=λpins s σ H Q I q=>h pins s σ H Q I (f σ H Q q)
structure EX (K:Fg) where
 t:XS->TE
 tt:XS->TT
 m:Sc->Expr->Bool
 q:Rt->Prop
 s:Shp
 ok:∀(X:Cx) (C:Sc) (E:XS) (e:Expr),X.K=K->Gd X C->Thr X E->q (rtOf X)->m C e=true->PE X e (t E)
 okT:∀(X:Cx) (C:Sc) (E:XS) (e:Expr),X.K=K->Gd X C->Thr X E->q (rtOf X)->m C e=true->PT X e (tt E)
 sok:∀(C:Sc) (e:Expr),m C e=true->shpOf e=some s
def mkE {K:Fg} (t:XS->TE) (m:Sc->Expr->Bool) (q:Rt->Prop) (s:Shp)
  (ok:∀(X:Cx) (C:Sc) (E:XS) (e:Expr),X.K=K->Gd X C->Thr X E->q (rtOf X)->m C e=true->PE X e (t E))
  (sok:∀(C:Sc) (e:Expr),m C e=true->shpOf e=some s) (hT:∀(C:Sc) (e:Expr),m C e=true->tstOf e=true):EX K:=
 ⟨t,λE=>truT K (t E),m,q,s,ok,λX C E e hK G hE hq hm=>by subst hK;exact pt_tru (ok X C E e rfl G hE hq hm) (hT C e hm),sok⟩
def mkE2 {K:Fg} (t:XS->TE) (m:Sc->Expr->Bool) (q:Rt->Prop) (s:Shp)
  (ok:∀(X:Cx) (C:Sc) (E:XS) (e:Expr),X.K=K->Gd X C->Thr X E->q (rtOf X)->m C e=true->PE X e (t E))
  (both:∀(C:Sc) (e:Expr),m C e=true->shpOf e=some s/\tstOf e=true):EX K:=mkE t m q s ok (λC e h=>(both C e h).1) λC e h=>(both C e h).2
section
variable {K:Fg}
def tV (i:Nat):TE:=λσ H Q=>match σ[i]? with
 |some (some v)=>Q v H
 |_=>False
def visB:Option NameKind->Bool
 |some .local=>true
 |some .cell=>true
 |some .free=>true
 |_=>false
theorem visB_of {sc:Scope} {x:Str} (h:visB (sc.names.lookup x)=true):Vis sc x:=by
 unfold Vis;cases e:sc.names.lookup x with
 |none=>rw[e] at h;cases h
 |some k=>
  cases k with
  |«local»=>exact .inl rfl
  |cell=>exact .inr (.inl rfl)
  |free=>exact .inr (.inr rfl)
  |globalExplicit=>rw[e] at h;cases h
  |globalImplicit=>rw[e] at h;cases h
theorem ne_of_bne {x y:Str} (h:(x != y)=true):(x==y)=false:=by
 cases e:x==y with
 |false=>rfl
 |true=>rw[bne,e] at h;cases h
def var (i:Nat):EX K:=mkE2 (λ_=>tV i)
 (λC e=>match e with
  | .Name x _=>C.N[i]?==some x&&(visB (C.nm.lookup x)&&(x != "__debug__"&&x != "__classdict__"))
  |_=>false) (λ_=>True) .pl
 (λX C E e hK G hE hq hm=>by
  cases e with
  |Name x p=>
   simp only [Bool.and_eq_true] at hm
   obtain ⟨h1,h2,h3,h4⟩:=hm
   refine PE.imp (pe_var (i:=i) (by rw[G.N];exact eq_of_beq h1) (visB_of (by rw[G.nm];exact h2)) (ne_of_bne h3) (ne_of_bne h4)) λσ H Q h=>?_
   unfold tV at h
   split at h
   ·exact ⟨_,by assumption,h⟩
   ·exact h.elim
  |_=>exact ff hm)
 (λC e hm=>by cases e with|Name x p=>exact ⟨rfl,rfl⟩|_=>exact ff hm)
def cst (v:V):EX K:=mkE2 (λ_=>tC v)
 (λ_ e=>match e with
  | .Constant c _ _=>decide (constV c=some v)
  |_=>false) (λ_=>True) .pl
 (λX C E e hK G hE hq hm=>by
  cases e with
  |Constant c k p=>exact pe_constV (of_decide_eq_true hm)
  |_=>exact ff hm)
 (λC e hm=>by cases e with|Constant c k p=>exact ⟨rfl,rfl⟩|_=>exact ff hm)
def glB (C:Sc) (x y:Str):Bool:=y==x&&(C.nm.lookup x==some .globalImplicit&&x != "__debug__")
theorem glB_eq {C:Sc} {x y:Str} (h:glB C x y=true):y=x:=by
 unfold glB at h;simp only [Bool.and_eq_true] at h;exact eq_of_beq h.1
theorem glB_gl {X:Cx} {C:Sc} {x y:Str} (G:Gd X C) (h:glB C x y=true):Gl X x/\(x==("__debug__":Str))=false:=by
 unfold glB at h;simp only [Bool.and_eq_true] at h;obtain ⟨_,h2,h3⟩:=h;exact ⟨by show X.env.scope.names.lookup x=_;rw[G.nm];exact eq_of_beq h2,ne_of_bne h3⟩
def glb (x:Str) (v:V):EX K:=mkE2 (λ_=>tC v)
 (λC e=>match e with
  | .Name y _=>glB C x y
  |_=>false) (λR=>GlAt R x v) .pl
 (λX C E e hK G hE hq hm=>by
  cases e with
  |Name y p=>
   obtain ⟨u,h1,h2⟩:=hq
   have e:=glB_eq hm
   subst e
   obtain ⟨g,d⟩:=glB_gl G hm
   exact pe_glob g h1 h2 d
  |_=>exact ff hm)
 (λC e hm=>by cases e with|Name x p=>exact ⟨rfl,rfl⟩|_=>exact ff hm)
def bty (x:Str) (T:String) (hb:bootBuiltins x=some (.type T)) (hi:x∈blts) (hn:x≠"__name__"):EX K:=mkE2 (λ_=>tC (.ty T))
 (λC e=>match e with
  | .Name y _=>glB C x y
  |_=>false) (λ_=>True) .pl
 (λX C E e hK G hE hq hm=>by
  cases e with
  |Name y p=>
   have e:=glB_eq hm
   subst e
   obtain ⟨g,d⟩:=glB_gl G hm
   exact pe_bltn g (G.bl _ hi) hb rfl hn d
  |_=>exact ff hm)
 (λC e hm=>by cases e with|Name x p=>exact ⟨rfl,rfl⟩|_=>exact ff hm)
def iOp (f:Int->Int->Hp->(V->Hp->Prop)->Prop):R2:=λx y H Q=>match x with
 | .int i=>(match y with
  | .int j=>f i j H Q
  |_=>False)
 |_=>False
theorem iOp_of {f:Int->Int->Hp->(V->Hp->Prop)->Prop} {x y:V} {H:Hp} {Q:V->Hp->Prop} (h:iOp f x y H Q):∃i j,x=.int i/\y=.int j/\f i j H Q:=by
 cases x with
 |int i=>cases y with
  |int j=>exact ⟨i,j,rfl,rfl,h⟩
  |_=>exact False.elim h
 |_=>exact False.elim h
def rAdd (K:Fg):R2:=λx y H Q=>match x with
 | .int i=>(match y with
  | .int j=>Q (.int (i+j)) H
  | .bl k=>Q (.int (i+b2i k)) H
  |_=>False)
 | .str a=>(match y with
  | .str b=>a.length+b.length<=sizeLine/\Q (.str (a++b)) H
  |_=>False)
 | .ref a=>(match y with
  | .ref b=>rCat (.ref a) (.ref b) H Q\/rCatT K (.ref a) (.ref b) H Q\/rCatT0 K (.ref a) (.ref b) H Q
  |_=>False)
 |_=>False
def rMul:R2:=λx y H Q=>match y with
 | .int j=>(match x with
  | .int i=>IntMulOk i j/\Q (.int (i * j)) H
  | .ref a=>rRep (.ref a) (.int j) H Q
  | .str a=>CMulS a j/\Q (.str (Txt.mul a j)) H
  |_=>False)
 |_=>False
def rBin (K:Fg):Operator->R2
 | .Add=>rAdd K
 | .Sub=>iOp λi j H Q=>Q (.int (i - j)) H
 | .Mult=>rMul
 | .FloorDiv=>iOp λi j H Q=>CDv i j/\Q (.int (i / j)) H
 | .Mod=>iOp λi j H Q=>0<j/\Q (.int (i % j)) H
 | .Pow=>iOp λi j H Q=>CPw i j/\Q (.int (i ^ j.toNat)) H
 |_=>λ_ _ _ _=>False
theorem bin_ok {X:Cx} (op:Operator):OpR X (binaryOp op) (rBin X.K op):=by
 intro pins s σ H x y v u Q I rx ry h;cases op with
 |Add=>
  cases x with
  |int i=>cases y with
   |int j=>exact op_add pins s σ H _ _ v u Q I rx ry ⟨_,_,rfl,rfl,h⟩
   |bl k=>exact op_add_ib pins s σ H _ _ v u Q I rx ry ⟨_,_,rfl,rfl,h⟩
   |_=>exact False.elim h
  |str a=>cases y with
   |str b=>exact op_add_str pins s σ H _ _ v u Q I rx ry ⟨_,_,rfl,rfl,h.1,h.2⟩
   |_=>exact False.elim h
  |ref a=>cases y with
   |ref b=>
    rcases h with h|h|h
    ·exact op_cat pins s σ H _ _ v u Q I rx ry h
    ·exact op_catT pins s σ H _ _ v u Q I rx ry h
    ·exact op_catT0 pins s σ H _ _ v u Q I rx ry h
   |_=>exact False.elim h
  |_=>exact False.elim h
 |Sub=>exact op_sub pins s σ H _ _ v u Q I rx ry (iOp_of (f:=λi j H Q=>Q (.int (i - j)) H) h)
 |Mult=>
  cases y with
  |int j=>cases x with
   |int i=>exact op_mulA pins s σ H _ _ v u Q I rx ry ⟨_,_,rfl,rfl,h.1,h.2⟩
   |ref a=>exact op_rep pins s σ H _ _ v u Q I rx ry h
   |str a=>exact op_mulS pins s σ H _ _ v u Q I rx ry ⟨_,_,rfl,rfl,h.1,h.2⟩
   |_=>exact False.elim h
  |_=>exact False.elim h
 |FloorDiv=>exact op_fdivA pins s σ H _ _ v u Q I rx ry (iOp_of (f:=λi j H Q=>CDv i j/\Q (.int (i / j)) H) h)
 |Mod=>exact op_mod pins s σ H _ _ v u Q I rx ry (iOp_of (f:=λi j H Q=>0<j/\Q (.int (i % j)) H) h)
 |Pow=>exact op_powA pins s σ H _ _ v u Q I rx ry (iOp_of (f:=λi j H Q=>CPw i j/\Q (.int (i ^ j.toNat)) H) h)
 |_=>exact False.elim h
def bin (op:Operator) (a b:EX K):EX K:=mkE2 (λE=>tOp (rBin K op) (a.t E) (b.t E))
 (λC e=>match e with
  | .BinOp l o r _=>decide (o=op)&&(a.m C l&&b.m C r)
  |_=>false) (λR=>a.q R/\b.q R) .pl
 (λX C E e hK G hE hq hm=>by
  subst hK
  cases e with
  |BinOp l o r p=>
   simp only [Bool.and_eq_true] at hm
   obtain ⟨h1,h2,h3⟩:=hm
   have e:=of_decide_eq_true h1
   subst e
   exact pe_op (bin_ok _) (a.ok X C E l rfl G hE hq.1 h2) (b.ok X C E r rfl G hE hq.2 h3)
  |_=>exact ff hm)
 (λC e hm=>by cases e with|BinOp l o r p=>exact ⟨rfl,rfl⟩|_=>exact ff hm)
def rNeg:V->Hp->VK->Prop
 | .int i,H,Q=>Q (.int (-i)) H
 |_,_,_=>False
def neg (a:EX K):EX K:=mkE (λE=>tUn rNeg (a.t E))
 (λC e=>match e with
  | .UnaryOp .USub l _=>a.m C l
  |_=>false) a.q .pl
 (λX C E e hK G hE hq hm=>by
  cases e with
  |UnaryOp o l p=>
   cases o with
   |USub=>
    refine pe_un (λpins s σ H x v Q I rx h=>?_) (a.ok X C E l hK G hE hq hm)
    unfold rNeg at h
    split at h
    ·exact un_neg pins s σ H _ v Q I rx ⟨_,rfl,h⟩
    ·exact h.elim
   |_=>exact ff hm
  |_=>exact ff hm)
 (λC e hm=>by cases e with|UnaryOp o l p=>rfl|_=>exact ff hm)
 (λC e hm=>by cases e with|UnaryOp o l p=>(cases o with|USub=>rfl|_=>exact ff hm)|_=>exact ff hm)
theorem op_isB {X:Cx}:OpR X (compareOp .Is) (λx y H Q=>∃c d,x=.bl c/\y=.bl d/\Q (.bl (c==d)) H):=by
 intro pins s σ H x y v u Q I rx ry h;obtain ⟨c,d,rfl,rfl,q⟩:=h;cases (show v=Value.bool c from rx);cases (show u=Value.bool d from ry);exact is_bool ⟨.bl _,H,I,rfl,q⟩
theorem op_isnotB {X:Cx}:OpR X (compareOp .IsNot) (λx y H Q=>∃c d,x=.bl c/\y=.bl d/\Q (.bl (c != d)) H):=by
 intro pins s σ H x y v u Q I rx ry h;obtain ⟨c,d,rfl,rfl,q⟩:=h;cases (show v=Value.bool c from rx);cases (show u=Value.bool d from ry);exact isnot_bool ⟨.bl _,H,I,rfl,q⟩
def rIs (f:Bool->Bool):R2:=λx y H Q=>match y with
 | .non=>Q (.bl (f (decide (x=.non)))) H
 | .bl d=>(match x with
  | .bl c=>Q (.bl (f (c==d))) H
  |_=>False)
 |_=>False
def rInS (K:Fg) (n:Bool) (f:Bool->Bool):R2:=λx y H Q=>match y with
 | .ref b=>rIn K n x (.ref b) H Q
 | .str j=>(match x with
  | .str i=>Q (.bl (f (!(Builtin.Str.occurrences j i 0 j.length 1).isEmpty))) H
  |_=>False)
 |_=>False
def rCmp (K:Fg):CmpOp->R2
 | .Eq=>λx y H Q=>(scal x y=true/\Q (.bl (decide (x=y))) H)\/rEqA x y H Q\/rEqN x y H Q
 | .NotEq=>λx y H Q=>(scal x y=true/\Q (.bl (!decide (x=y))) H)\/rNeA x y H Q\/rNeN x y H Q
 | .Lt=>iOp λi j H Q=>Q (.bl (decide (i<j))) H
 | .LtE=>iOp λi j H Q=>Q (.bl (decide (i<=j))) H
 | .Gt=>iOp λi j H Q=>Q (.bl (decide (j<i))) H
 | .GtE=>iOp λi j H Q=>Q (.bl (decide (j<=i))) H
 | .Is=>rIs λb=>b
 | .IsNot=>rIs λb=>!b
 | .In=>rInS K false λb=>b
 | .NotIn=>rInS K true λb=>!b
theorem cmp_ok {X:Cx} (hu:X.A.units+64<cLine) (op:CmpOp):OpR X (compareOp op) (rCmp X.K op):=by
 intro pins s σ H x y v u Q I rx ry h;cases op with
 |Eq=>
  rcases h with h|h|h
  ·exact op_eq pins s σ H _ _ v u Q I rx ry h
  ·exact op_eqA hu pins s σ H _ _ v u Q I rx ry h
  ·exact op_eqN hu pins s σ H _ _ v u Q I rx ry h
 |NotEq=>
  rcases h with h|h|h
  ·exact op_ne pins s σ H _ _ v u Q I rx ry h
  ·exact op_neA hu pins s σ H _ _ v u Q I rx ry h
  ·exact op_neN hu pins s σ H _ _ v u Q I rx ry h
 |Lt=>exact op_lt pins s σ H _ _ v u Q I rx ry (iOp_of (f:=λi j H Q=>Q (.bl (decide (i<j))) H) h)
 |LtE=>exact op_le pins s σ H _ _ v u Q I rx ry (iOp_of (f:=λi j H Q=>Q (.bl (decide (i<=j))) H) h)
 |Gt=>exact op_gt pins s σ H _ _ v u Q I rx ry (iOp_of (f:=λi j H Q=>Q (.bl (decide (j<i))) H) h)
 |GtE=>exact op_ge pins s σ H _ _ v u Q I rx ry (iOp_of (f:=λi j H Q=>Q (.bl (decide (j<=i))) H) h)
 |Is=>
  cases y with
  |non=>exact op_isN pins s σ H _ _ v u Q I rx ry ⟨rfl,h⟩
  |bl d=>cases x with
   |bl c=>exact op_isB pins s σ H _ _ v u Q I rx ry ⟨_,_,rfl,rfl,h⟩
   |_=>exact False.elim h
  |_=>exact False.elim h
 |IsNot=>
  cases y with
  |non=>exact op_notN pins s σ H _ _ v u Q I rx ry ⟨rfl,h⟩
  |bl d=>cases x with
   |bl c=>exact op_isnotB pins s σ H _ _ v u Q I rx ry ⟨_,_,rfl,rfl,h⟩
   |_=>exact False.elim h
  |_=>exact False.elim h
 |In=>
  cases y with
  |ref b=>exact op_in_seq pins s σ H _ _ v u Q I rx ry h
  |str j=>cases x with
   |str i=>exact op_in_str pins s σ H _ _ v u Q I rx ry ⟨_,_,rfl,rfl,h⟩
   |_=>exact False.elim h
  |_=>exact False.elim h
 |NotIn=>
  cases y with
  |ref b=>exact op_notIn_seq pins s σ H _ _ v u Q I rx ry h
  |str j=>cases x with
   |str i=>exact op_notIn_str pins s σ H _ _ v u Q I rx ry ⟨_,_,rfl,rfl,h⟩
   |_=>exact False.elim h
  |_=>exact False.elim h
def bV (Q:Bool->Hp->Prop):V->Hp->Prop
 | .bl b,H=>Q b H
 |_,_=>False
def rB (r:R2):V->V->Hp->(Bool->Hp->Prop)->Prop:=λx y H Q=>r x y H (bV Q)
theorem bl_of {z:V} {H:Hp} {Q:Bool->Hp->Prop} (h:bV Q z H):∃b,z=.bl b/\Q b H:=by
 cases z with
 |bl b=>exact ⟨b,rfl,h⟩
 |_=>exact h.elim
def cmp (op:CmpOp) (a b:EX K):EX K where
 t:=λE=>tOp (rCmp K op) (a.t E) (b.t E)
 tt:=λE σ H Q=>a.t E σ H λx H1=>b.t E σ H1 λy H2=>rB (rCmp K op) x y H2 Q
 m:=λC e=>match e with
  | .Compare l [o] [r] _=>decide (o=op)&&(a.m C l&&b.m C r)
  |_=>false
 q:=λR=>a.q R/\b.q R
 s:=.pl
 ok:=λX C E e hK G hE hq hm=>by
  subst hK;cases e with
  |Compare l os rs p=>
   match os,rs,hm with
   |[o],[r],hm=>
    simp only [Bool.and_eq_true] at hm;obtain ⟨h1,h2,h3⟩:=hm;have e:=of_decide_eq_true h1;subst e;exact pe_cmpR (cmp_ok G.hu _) (a.ok X C E l rfl G hE hq.1 h2) (b.ok X C E r rfl G hE hq.2 h3) (shp_mark (b.sok C r h3))
  |_=>exact ff hm
 okT:=λX C E e hK G hE hq hm=>by
  subst hK;cases e with
  |Compare l os rs p=>
   match os,rs,hm with
   |[o],[r],hm=>
    simp only [Bool.and_eq_true] at hm;obtain ⟨h1,h2,h3⟩:=hm;have e:=of_decide_eq_true h1;subst e;intro pins s σ H Q I hw;refine wpAny_isTrue_Compare1 (thn (a.ok X C E l rfl G hE hq.1 h2 pins s σ H _ I hw) λv s1 ⟨x,H1,I1,r1,q1⟩=>thn (b.ok X C E r rfl G hE hq.2 h3 pins s1 σ H1 _ I1 q1) λu s2 ⟨y,H2,I2,r2,q2⟩=>
     thn (cmp_ok G.hu _ pins s2 σ H2 x y v u _ I2 r1 r2 q2) λc s3 ⟨z,H3,I3,r3,q3⟩=>?_) (shp_mark (b.sok C r h3))
    obtain ⟨d,rfl,q⟩:=bl_of q3;cases r3;exact wpAny_truthy_bool ⟨H3,I3,q⟩
  |_=>exact ff hm
 sok:=λC e hm=>by cases e with|Compare l o r p=>rfl|_=>exact ff hm
def notE (a:EX K):EX K where
 t:=λE σ H Q=>a.t E σ H λx H1=>rTru K x H1 λb H2=>Q (.bl (!b)) H2
 tt:=λE σ H Q=>a.tt E σ H λb H1=>Q (!b) H1
 m:=λC e=>match e with
  | .UnaryOp .Not l _=>a.m C l
  |_=>false
 q:=a.q
 s:=.pl
 ok:=λX C E e hK G hE hq hm=>by
  subst hK;cases e with
  |UnaryOp o l p=>
   cases o with
   |Not=>
    intro pins s σ H Q I h;refine UnaryOp_ (thn (a.ok X C E l rfl G hE hq hm pins s σ H _ I h) λv s1 ⟨x,H1,I1,r1,q1⟩=>?_);exact not_of (thn (tru_run pins s1 σ H1 x v _ I1 r1 q1) λb s2 ⟨H2,I2,q2⟩=>⟨.bl (!b),H2,I2,rfl,q2⟩)
   |_=>exact ff hm
  |_=>exact ff hm
 okT:=λX C E e hK G hE hq hm=>by
  cases e with
  |UnaryOp o l p=>
   cases o with
   |Not=>exact pt_not (a.okT X C E l hK G hE hq hm)
   |_=>exact ff hm
  |_=>exact ff hm
 sok:=λC e hm=>by cases e with|UnaryOp o l p=>rfl|_=>exact ff hm
def tBop (K:Fg) (op:BoolOp) (E:XS):TE->List (EX K)->TE
 |t,[]=>t
 |t,y::ys=>λσ H Q=>t σ H λx H1=>rTru K x H1 λb H2=>match op with
  | .And=>br b (tBop K op E (y.t E) ys σ H2 Q) (Q x H2)
  | .Or=>br b (Q x H2) (tBop K op E (y.t E) ys σ H2 Q)
def tBopT (K:Fg) (op:BoolOp) (E:XS):TT->List (EX K)->TT
 |t,[]=>t
 |t,y::ys=>λσ H Q=>t σ H λb H1=>match op with
  | .And=>br b (tBopT K op E (y.tt E) ys σ H1 Q) (Q false H1)
  | .Or=>br b (Q true H1) (tBopT K op E (y.tt E) ys σ H1 Q)
def mAs:List (EX K)->Sc->List Expr->Bool
 |[],_,[]=>true
 |x::xs,C,e::es=>x.m C e&&mAs xs C es
 |_,_,_=>false
def qAs:List (EX K)->Rt->Prop
 |[],_=>True
 |x::xs,R=>x.q R/\qAs xs R
theorem bop_ok {X:Cx} {C:Sc} {E:XS} {pos:Pos} (op:BoolOp) (G:Gd X C) (hE:Thr X E):∀(xs:List (EX X.K)) (e:Expr) (es:List Expr) (t:TE),PE X e t->qAs xs (rtOf X)->mAs xs C es=true->PE X (.BoolOp op (e::es) pos) (tBop X.K op E t xs)
 |[],e,[],t,he,_,_=>pe_one he
 |[],e,_::_,t,he,_,hm=>nomatch hm
 |x::xs,e,[],t,he,_,hm=>nomatch hm
 |x::xs,e,e2::es,t,he,hq,hm=>by
  have hm':(x.m C e2&&mAs xs C es)=true:=hm;simp only [Bool.and_eq_true] at hm';have h2:=bop_ok (pos:=pos) op G hE xs e2 es (x.t E) (x.ok X C E e2 rfl G hE hq.1 hm'.1) hq.2 hm'.2;cases op with
  |And=>
   intro pins s σ H Q I h;refine BoolOp_and (thn (he pins s σ H _ I h) λv s1 ⟨y,H1,I1,r1,q1⟩=>?_);refine thn (tru_run pins s1 σ H1 y v _ I1 r1 q1) λb s2 ⟨H2,I2,q2⟩=>?_;cases b with
   |true=>exact h2 pins s2 σ H2 Q I2 (q2.1 rfl)
   |false=>exact ⟨y,H2,I2,r1,q2.2 rfl⟩
  |Or=>
   intro pins s σ H Q I h;refine BoolOp_or (thn (he pins s σ H _ I h) λv s1 ⟨y,H1,I1,r1,q1⟩=>?_);refine thn (tru_run pins s1 σ H1 y v _ I1 r1 q1) λb s2 ⟨H2,I2,q2⟩=>?_;cases b with
   |true=>exact ⟨y,H2,I2,r1,q2.1 rfl⟩
   |false=>exact h2 pins s2 σ H2 Q I2 (q2.2 rfl)
theorem bopT_ok {X:Cx} {C:Sc} {E:XS} {pos:Pos} (op:BoolOp) (G:Gd X C) (hE:Thr X E):∀(xs:List (EX X.K)) (e:Expr) (es:List Expr) (t:TT),PT X e t->qAs xs (rtOf X)->mAs xs C es=true->PW X (.BoolOp op (e::es) pos) (tBopT X.K op E t xs)
 |[],e,[],t,he,_,_=>by
  cases op with
  |And=>exact pw_and1 he
  |Or=>exact pw_or1 he
 |[],e,_::_,t,he,_,hm=>nomatch hm
 |x::xs,e,[],t,he,_,hm=>nomatch hm
 |x::xs,e,e2::es,t,he,hq,hm=>by
  have hm':(x.m C e2&&mAs xs C es)=true:=hm;simp only [Bool.and_eq_true] at hm';have h2:=bopT_ok (pos:=pos) op G hE xs e2 es (x.tt E) (x.okT X C E e2 rfl G hE hq.1 hm'.1) hq.2 hm'.2;cases op with
  |And=>
   intro wh pins s σ H Q I h;refine isTrue_and (thn (he pins s σ H _ I h) λb s1 ⟨H1,I1,q1⟩=>?_);cases b with
   |true=>exact h2 wh pins s1 σ H1 Q I1 (q1.1 rfl)
   |false=>exact ⟨H1,I1,q1.2 rfl⟩
  |Or=>
   intro wh pins s σ H Q I h;refine isTrue_or (thn (he pins s σ H _ I h) λb s1 ⟨H1,I1,q1⟩=>?_);cases b with
   |true=>exact ⟨H1,I1,q1.1 rfl⟩
   |false=>exact h2 wh pins s1 σ H1 Q I1 (q1.2 rfl)
def bop (op:BoolOp) (x:EX K) (xs:List (EX K)):EX K where
 t:=λE=>tBop K op E (x.t E) xs
 tt:=λE=>tBopT K op E (x.tt E) xs
 m:=λC e=>match e with
  | .BoolOp o (l::ls) _=>decide (o=op)&&(x.m C l&&mAs xs C ls)
  |_=>false
 q:=λR=>x.q R/\qAs xs R
 s:=.pl
 ok:=λX C E e hK G hE hq hm=>by
  subst hK;cases e with
  |BoolOp o ls p=>
   cases ls with
   |nil=>cases hm
   |cons l ls=>
    simp only [Bool.and_eq_true] at hm;obtain ⟨h1,h2,h3⟩:=hm;have e:=of_decide_eq_true h1;subst e;exact bop_ok _ G hE xs l ls _ (x.ok X C E l rfl G hE hq.1 h2) hq.2 h3
  |_=>exact ff hm
 okT:=λX C E e hK G hE hq hm=>by
  subst hK;cases e with
  |BoolOp o ls p=>
   cases ls with
   |nil=>cases hm
   |cons l ls=>
    simp only [Bool.and_eq_true] at hm;obtain ⟨h1,h2,h3⟩:=hm;have e:=of_decide_eq_true h1;subst e;exact (bopT_ok _ G hE xs l ls _ (x.okT X C E l rfl G hE hq.1 h2) hq.2 h3).pt
  |_=>exact ff hm
 sok:=λC e hm=>by cases e with|BoolOp o l p=>rfl|_=>exact ff hm
def andE (x:EX K) (xs:List (EX K)):EX K:=bop .And x xs
def orE (x:EX K) (xs:List (EX K)):EX K:=bop .Or x xs
end
section
variable {K:Fg}
def tAs:List (EX K)->XS->TA
 |[],_=>tNil
 |x::xs,E=>tCons (x.t E) (tAs xs E)
theorem mAs_cons {x:EX K} {xs:List (EX K)} {C:Sc} {e:Expr} {es:List Expr} (h:mAs (x::xs) C (e::es)=true):x.m C e=true/\mAs xs C es=true:=by
 have h':(x.m C e&&mAs xs C es)=true:=h;simpa only [Bool.and_eq_true] using h'
theorem as_ok {X:Cx} {C:Sc} {E:XS} (G:Gd X C) (hE:Thr X E):∀(xs:List (EX X.K)) (es:List Expr),qAs xs (rtOf X)->mAs xs C es=true->PA X es (tAs xs E)
 |[],[],_,_=>pa_nil
 |[],_::_,_,hm=>nomatch hm
 |_::_,[],_,hm=>nomatch hm
 |x::xs,e::es,hq,hm=>pa_cons (x.ok X C E e rfl G hE hq.1 (mAs_cons hm).1) (as_ok G hE xs es hq.2 (mAs_cons hm).2) (shp_star (x.sok C e (mAs_cons hm).1))
theorem as_plain {C:Sc} {env:Env} {pos:Pos}:∀(xs:List (EX K)) (es:List Expr),mAs xs C es=true->(backTo pos (starEach es env)).any (·.1)=false
 |[],[],_=>rfl
 |[],_::_,hm=>nomatch hm
 |_::_,[],hm=>nomatch hm
 |x::xs,e::es,hm=>by
  rw[shp_star (x.sok C e (mAs_cons hm).1)];show (false || (backTo pos (starEach es env)).any (·.1))=false;rw[as_plain xs es (mAs_cons hm).2];rfl
theorem as_none {C:Sc} {env:Env} {pos:Pos}:∀(xs:List (EX K)) (es:List Expr),mAs xs C es=true->(backTo pos (starEach es env)).all (λx=>!x.1)=true
 |[],[],_=>rfl
 |[],_::_,hm=>nomatch hm
 |_::_,[],hm=>nomatch hm
 |x::xs,e::es,hm=>by
  rw[shp_star (x.sok C e (mAs_cons hm).1)];show (true&&(backTo pos (starEach es env)).all (λx=>!x.1))=true;rw[as_none xs es (mAs_cons hm).2];rfl
def shA:List (EX K)->Shp
 |[]=>.zc
 |_=>.pl
theorem shA_ok {C:Sc} {y:Str} {p q:Pos}:∀(xs:List (EX K)) (es:List Expr),mAs xs C es=true->shpOf (.Call (.Name y p) es [] q)=some (shA xs)
 |[],[],_=>rfl
 |[],_::_,hm=>nomatch hm
 |_::_,[],hm=>nomatch hm
 |_::_,_::_,_=>rfl
def tCallS (sp:Sp) (E:XS) (t:TA):TE:=λσ H Q=>t σ H λvs H1=>sp vs H1 Q (E σ)
theorem run_own {X:Cx} {E:XS} {k:Nat} {f:Addr} {fd:FuncData} {ps:List Str} {sp:Sp} {pins:List (Addr × Obj)} {σ:St} {H1:Hp} {s1:Shared} {Q1:VK} {us:List Value} {vs:List V} (hE:Thr X E) (F:FnOk X.prog X.w X.K X.mg X.base (CXF X.prog X.w) k f fd ps sp)
  (room:Room k X.A) (bd:Binds X.K fd ps []) (I1:Inv X pins σ H1 s1) (rl:Vals vs us) (pr:sp vs H1 Q1 (E σ)):wpAny (model X.prog X.w) X.A (PySem.call (.ref f) us) (EP X pins σ Q1) X.xe s1:=by
 have ln:(us++[]).length=ps.length:=by rw[List.append_nil,<-rl.length];exact F.len _ _ _ _ pr
 have b:=bd s1 us I1.kIn ln;rw[List.append_nil] at b;refine wpAny_call (codeAny_mono (F.run X.A X.stack s1 H1 ⟨us,[]⟩ us vs Q1 (E σ) room I1.env0 b rl pr) λres s2 fin=>?_);cases res with
 |error ev=>exact hE.pass pins σ H1 s1 ev s2 I1 fin
 |ok fl=>
  cases fl with
  |ret v=>exact I1.after fin
  |next=>exact fin.elim
  |brk=>exact fin.elim
  |cont=>exact fin.elim
def call (x:Str) (sp:Sp) (as:List (EX K)):EX K:=mkE (λE=>tCallS sp E (tAs as E))
 (λC e=>match e with
  | .Call (.Name y _) es [] _=>glB C x y&&mAs as C es
  |_=>false) (λR=>FnAt R x sp/\qAs as R) (shA as)
 (λX C E e hK G hE hq hm=>by
  subst hK
  cases e with
  |Call f es ks p=>
   cases f with
   |Name y py=>
    cases ks with
    |nil=>
     simp only [Bool.and_eq_true] at hm
     obtain ⟨h1,h2⟩:=hm
     have e:=glB_eq h1
     subst e
     obtain ⟨g,d⟩:=glB_gl G h1
     obtain ⟨⟨k,f,fd,ps,hr,F,hb,kp,hg⟩,hqa⟩:=hq
     cases as with
     |nil=>
      cases es with
      |nil=>
       intro pins s σ H Q I h
       exact wpAny_Call_Name_kw (ld_glob I g hg (PySem.W.callWith_K0 I.kIn kp (run_own (us:=[]) hE F hr hb I .nil h)) d)
      |cons _ _=>cases h2
     |cons a as=>
      cases es with
      |nil=>cases h2
      |cons e es=>
       intro pins s σ H Q I h
       exact wpAny_Call_Name_kw (ld_glob I g hg (PySem.W.callWith_K (h₀:=X.base) I.ok.mod.kin kp (thn (as_ok G hE (a::as) (e::es) hqa h2 p pins s σ H _ I h) λus s1 ⟨vs,H1,I1,r,q⟩=>⟨I1.kIn,run_own hE F hr hb I1 r q⟩) (shp_star (a.sok C e (mAs_cons h2).1)) (as_plain as es (mAs_cons h2).2)) d)
    |cons _ _=>cases hm
   |_=>exact ff hm
  |_=>exact ff hm)
 (λC e hm=>by
  cases e with
  |Call f es ks p=>
   cases f with
   |Name y py=>
    cases ks with
    |nil=>
     simp only [Bool.and_eq_true] at hm
     exact shA_ok as es hm.2
    |cons _ _=>cases hm
   |_=>exact ff hm
  |_=>exact ff hm)
 (λC e hm=>by cases e with|Call f es ks p=>rfl|_=>exact ff hm)
def bfn (x:Str) (id:String) (r:List V->Hp->VK->Prop) (ok:∀X:Cx,X.K=K->X.calm=true->X.A.units+64<cLine->CallR X (.builtin id) r) (hb:bootBuiltins x=some (.builtin id)) (hi:x∈blts) (hn:x≠"__name__") (a:EX K) (as:List (EX K)):EX K:=
 mkE (λE=>tCB r (tAs (a::as) E))
 (λC e=>match e with
  | .Call (.Name y _) es [] _=>(C.cm&&glB C x y)&&mAs (a::as) C es
  |_=>false) (λR=>qAs (a::as) R) .pl
 (λX C E e hK G hE hq hm=>by
  subst hK
  cases e with
  |Call f es ks p=>
   cases f with
   |Name y py=>
    cases ks with
    |nil=>
     simp only [Bool.and_eq_true] at hm
     obtain ⟨⟨hcm,h1⟩,h2⟩:=hm
     have e:=glB_eq h1
     subst e
     obtain ⟨g,d⟩:=glB_gl G h1
     cases es with
     |nil=>cases h2
     |cons e es=>exact pe_callB (ok X rfl (G.calm hcm) G.hu) g (G.bl _ hi) hb (as_ok G hE (a::as) (e::es) hq h2) hn d (shp_star (a.sok C e (mAs_cons h2).1)) (as_plain as es (mAs_cons h2).2)
    |cons _ _=>cases hm
   |_=>exact ff hm
  |_=>exact ff hm)
 (λC e hm=>by
  cases e with
  |Call f es ks p=>
   cases f with
   |Name y py=>
    cases ks with
    |nil=>
     simp only [Bool.and_eq_true] at hm
     exact shA_ok (a::as) es hm.2
    |cons _ _=>cases hm
   |_=>exact ff hm
  |_=>exact ff hm)
 (λC e hm=>by cases e with|Call f es ks p=>rfl|_=>exact ff hm)
def bfT (x:Str) (T:String) (r:List V->Hp->VK->Prop) (ok:∀X:Cx,X.K=K->X.calm=true->X.A.units+64<cLine->CallR X (.type T) r) (hb:bootBuiltins x=some (.type T)) (hi:x∈blts) (hn:x≠"__name__") (a:EX K) (as:List (EX K)):EX K:=
 mkE (λE=>tCB r (tAs (a::as) E))
 (λC e=>match e with
  | .Call (.Name y _) es [] _=>(C.cm&&glB C x y)&&mAs (a::as) C es
  |_=>false) (λR=>qAs (a::as) R) .pl
 (λX C E e hK G hE hq hm=>by
  subst hK
  cases e with
  |Call f es ks p=>
   cases f with
   |Name y py=>
    cases ks with
    |nil=>
     simp only [Bool.and_eq_true] at hm
     obtain ⟨⟨hcm,h1⟩,h2⟩:=hm
     have e:=glB_eq h1
     subst e
     obtain ⟨g,d⟩:=glB_gl G h1
     cases es with
     |nil=>cases h2
     |cons e es=>exact pe_callTy (ok X rfl (G.calm hcm) G.hu) g (G.bl _ hi) hb (as_ok G hE (a::as) (e::es) hq h2) hn d (shp_star (a.sok C e (mAs_cons h2).1)) (as_plain as es (mAs_cons h2).2)
    |cons _ _=>cases hm
   |_=>exact ff hm
  |_=>exact ff hm)
 (λC e hm=>by
  cases e with
  |Call f es ks p=>
   cases f with
   |Name y py=>
    cases ks with
    |nil=>
     simp only [Bool.and_eq_true] at hm
     exact shA_ok (a::as) es hm.2
    |cons _ _=>cases hm
   |_=>exact ff hm
  |_=>exact ff hm)
 (λC e hm=>by cases e with|Call f es ks p=>rfl|_=>exact ff hm)
def rLen (K:Fg):List V->Hp->VK->Prop
 |[.str z],H,Q=>z.length<=sizeLine/\Q (.int z.length) H
 |[.ref a],H,Q=>(∃n,LenV K (.ref a) H n/\Q (.int n) H)\/∃kvs,H a=some (.dK kvs)/\Q (.int kvs.length) H
 |_,_,_=>False
theorem callLenD {X:Cx}:CallR X (.builtin "len") (λxs H Q=>∃a kvs,xs=[V.ref a]/\H a=some (.dK kvs)/\Q (.int kvs.length) H):=by
 intro pins s σ H xs us Q I r h;obtain ⟨a,kvs,rfl,ha,q⟩:=h;obtain ⟨u,rfl,ru⟩:=vals1 r;cases ru;exact d_len I (.inl ha) λt s' I'=>⟨.int kvs.length,H,I',⟨t,rfl⟩,q⟩
theorem len_ok (X:Cx):CallR X (.builtin "len") (rLen X.K):=by
 intro pins s σ H xs us Q I r h;unfold rLen at h;split at h
 ·exact call_len pins s σ H _ us Q I r ⟨_,_,rfl,⟨h.1,rfl⟩,h.2⟩
 ·rcases h with ⟨n,h1,h2⟩|⟨kvs,h1,h2⟩
  ·exact call_len pins s σ H _ us Q I r ⟨_,n,rfl,h1,h2⟩
  ·exact callLenD pins s σ H _ us Q I r ⟨_,kvs,rfl,h1,h2⟩
 ·exact h.elim
def len (a:EX K):EX K:=bfn "len" "len" (rLen K) (λX hK _ _=>by subst hK;exact len_ok X) PySem.boot_len (by decide+kernel) (by decide+kernel) a []
def sum (a:EX K):EX K:=bfn "sum" "sum" rSum (λX hK hc _=>call_sum hc) PyProof.Rows.Boot.sum (by decide+kernel) (by decide+kernel) a []
def rMin2:List V->Hp->VK->Prop
 |[.int i,.int j],H,Q=>Q (.int (min i j)) H
 |_,_,_=>False
def rMax2:List V->Hp->VK->Prop
 |[.int i,.int j],H,Q=>Q (.int (max i j)) H
 |_,_,_=>False
theorem min_ok {X:Cx} (hc:X.calm=true):CallR X (.builtin "min") rMin2:=by
 intro pins s σ H xs us Q I r h;unfold rMin2 at h;split at h
 ·rename_i i j;refine call_min2 hc pins s σ H _ us Q I r ⟨i,j,rfl,?_⟩;have e:(if j<i then j else i)=min i j:=by split<;>lia
  rw[e];exact h
 ·exact h.elim
theorem max_ok {X:Cx} (hc:X.calm=true):CallR X (.builtin "max") rMax2:=by
 intro pins s σ H xs us Q I r h;unfold rMax2 at h;split at h
 ·rename_i i j;refine call_max2 hc pins s σ H _ us Q I r ⟨i,j,rfl,?_⟩;have e:(if j>i then j else i)=max i j:=by split<;>lia
  rw[e];exact h
 ·exact h.elim
def min2 (a b:EX K):EX K:=bfn "min" "min" rMin2 (λX hK hc _=>min_ok hc) PyProof.Rows.Boot.min (by decide+kernel) (by decide+kernel) a [b]
def max2 (a b:EX K):EX K:=bfn "max" "max" rMax2 (λX hK hc _=>max_ok hc) PyProof.Rows.Boot.max (by decide+kernel) (by decide+kernel) a [b]
def rIsiV (K:Fg):List V->Hp->VK->Prop
 |[x,.ty n],H,Q=>∃t b,TyOf K H x t/\PySem.W.kitOne K t (.type n)=some b/\Q (.bl b) H
 |_,_,_=>False
theorem isi_ok (X:Cx):CallR X (.builtin "isinstance") (rIsiV X.K):=by
 intro pins s σ H xs us Q I r h;unfold rIsiV at h;split at h
 ·obtain ⟨t,b,h1,h2,h3⟩:=h;exact call_isi pins s σ H _ us Q I r ⟨_,_,t,b,rfl,h1,h2,h3⟩
 ·exact h.elim
def isi (a b:EX K):EX K:=bfn "isinstance" "isinstance" (rIsiV K) (λX hK _ _=>by subst hK;exact isi_ok X) PyProof.Rows.Boot.isinstance (by decide+kernel) (by decide+kernel) a [b]
def tyInt:EX K:=bty "int" "int" PyProof.Rows.Boot.int (by decide+kernel) (by decide+kernel)
def tyStr:EX K:=bty "str" "str" PyProof.Rows.Boot.str (by decide+kernel) (by decide+kernel)
def tyBool:EX K:=bty "bool" "bool" PyProof.Rows.Boot.bool (by decide+kernel) (by decide+kernel)
def rListOf (K:Fg):List V->Hp->VK->Prop
 |[.ref p],H,Q=>∃ys,(SqL K H p ys\/SqT K H p ys)/\∀l,H l=none->Q (.ref l) (upd H l (.lst ys))
 |_,_,_=>False
theorem list_ok (X:Cx):CallR X (.type "list") (rListOf X.K):=by
 intro pins s σ H xs us Q I r h;unfold rListOf at h;split at h
 ·obtain ⟨ys,h1,h2⟩:=h;exact call_list_of pins s σ H _ us Q I r ⟨_,ys,rfl,h1,h2⟩
 ·exact h.elim
def listE (a:EX K):EX K:=bfT "list" "list" (rListOf K) (λX hK _ _=>by subst hK;exact list_ok X) PyProof.Rows.Boot.list (by decide+kernel) (by decide+kernel) a []
def rInt1:List V->Hp->VK->Prop
 |[.int i],H,Q=>Q (.int i) H
 |[.bl k],H,Q=>Q (.int (if k then 1 else 0)) H
 |_,_,_=>False
theorem int_ok (X:Cx):CallR X (.type "int") rInt1:=by
 intro pins s σ H xs us Q I r h;unfold rInt1 at h;split at h
 ·exact call_int1 pins s σ H _ us Q I r (.inl ⟨_,rfl,h⟩)
 ·exact call_int1 pins s σ H _ us Q I r (.inr ⟨_,rfl,h⟩)
 ·exact h.elim
def intE (a:EX K):EX K:=bfT "int" "int" rInt1 (λX hK _ _=>int_ok X) PyProof.Rows.Boot.int (by decide+kernel) (by decide+kernel) a []
theorem pe_bmG {X:Cx} {o:Expr} {es:List Expr} {to:TE} {name:Str} {apos cpos:Pos} {T id:String} {r:V->List V->Hp->VK->Prop} {RR:V->St->Hp->VK->Prop} {C:Sc} {E:XS} {xs:List (EX X.K)}
  (pa:PlainAttrs T) (slot:Slot T name id) (hty:typeOf (.builtin id)=pure (.type "method_descriptor")) (hm:MtR X id r) (ho:PE X o to) (ha:PA X es (tAs xs E))
  (hR:∀x σ H Q,RR x σ H Q->tyV X.K T x H/\tAs xs E σ H λys H2=>r x ys H2 Q)
  (hbase:attributeBase o name X.env (eval o X.env)=eval o X.env) (hx:mAs xs C es=true) (h30:es.length<30) (hline:(apos.endLine==cpos.line)=true):
  PE X (.Call (.Attribute o name apos) es [] cpos) (λσ H Q=>to σ H λx H1=>RR x σ H1 Q):=by
 intro pins s σ H Q I h;cases es with
 |nil=>
  refine wpAny_Call_method0_late hbase hline (thn (ho pins s σ H _ I h) λv s1 ⟨x,H1,I1,r1,q0⟩=>?_);obtain ⟨ty,q1⟩:=hR x σ H1 Q q0;obtain ⟨h1,h2⟩:=tyV_is I1 r1 ty;cases xs with
  |nil=>exact ⟨T,id,pa,slot,hty,h1,h2,Calls.callWith_builtin rfl (PySem.evalArgs_none (hm pins s1 σ H1 x [] v [] Q I1 r1 .nil q1))⟩
  |cons _ _=>cases hx
 |cons e es=>
  cases xs with
  |nil=>cases hx
  |cons a as=>
   have hs:=shp_star (env:=X.env) (es:=es) (a.sok C e (mAs_cons hx).1);have hplain:=as_plain (env:=X.env) (pos:=cpos) as es (mAs_cons hx).2;have hfew:((backTo cpos (starEach (e::es) X.env)).all (λx=>!x.1)&&(backToKw cpos (keywordEach [] X.env)).all (λx=>x.1.isSome)
     &&decide ((e::es).length+([]:List Keyword).length+(if ([]:List Keyword).isEmpty then 0 else 1)<30))=true:=by
    rw[as_none (env:=X.env) (pos:=cpos) (a::as) (e::es) hx];have h30':(e::es).length+([]:List Keyword).length+(if ([]:List Keyword).isEmpty then 0 else 1)<30:=h30;rw[decide_eq_true h30'];rfl
   refine wpAny_Call_method_late hbase hfew hline rfl (thn (ho pins s σ H _ I h) λv s1 ⟨x,H1,I1,r1,q0⟩=>?_);obtain ⟨ty,q1⟩:=hR x σ H1 Q q0;obtain ⟨h1,h2⟩:=tyV_is I1 r1 ty;refine ⟨T,id,pa,slot,hty,h1,h2,?_⟩;have hA:=ha cpos pins s1 σ H1 _ I1 q1;rw[hs] at hA ⊢;refine Calls.callWith_builtin (by show (false || (backTo cpos (starEach es X.env)).any (·.1))=false;rw[hplain]<;>rfl) (Calls.evalArgs_plain ?_);exact thn hA λus s2 ⟨vs,H2,I2,r2,q2⟩=>hm pins s2 σ H2 x vs v us Q I2 r1 r2 q2
def methG (name:Str) (T id:String) (r:V->List V->Hp->VK->Prop) (RR:TA->V->St->Hp->VK->Prop) (pa:PlainAttrs T) (slot:Slot T name id) (hty:typeOf (.builtin id)=pure (.type "method_descriptor")) (ok:∀X:Cx,X.K=K->X.calm=true->X.A.units+64<cLine->MtR X id r)
  (hR:∀t x σ H Q,RR t x σ H Q->tyV K T x H/\t σ H λys H2=>r x ys H2 Q) (o:EX K) (ho:o.s≠.zc) (as:List (EX K)):EX K:=mkE (λE σ H Q=>o.t E σ H λx H1=>RR (tAs as E) x σ H1 Q)
 (λC e=>match e with
  | .Call (.Attribute l y p) es [] p2=>(y==name&&(C.cm&&(p.endLine==p2.line&&decide (es.length<30))))&&(o.m C l&&mAs as C es)
  |_=>false) (λR=>o.q R/\qAs as R) .pl
 (λX C E e hK G hE hq hm=>by
  subst hK
  cases e with
  |Call f es ks p=>
   cases f with
   |Attribute l y py=>
    cases ks with
    |nil=>
     simp only [Bool.and_eq_true] at hm
     obtain ⟨⟨h1,hcm,h2,h3⟩,h4,h5⟩:=hm
     have e:=eq_of_beq h1
     subst e
     exact pe_bmG pa slot hty (ok X rfl (G.calm hcm) G.hu) (o.ok X C E l rfl G hE hq.1 h4) (as_ok G hE as es hq.2 h5) (hR _) (shp_base (o.sok C l h4) ho) h5 (of_decide_eq_true h3) h2
    |cons _ _=>cases hm
   |_=>exact ff hm
  |_=>exact ff hm)
 (λC e hm=>by
  cases e with
  |Call f es ks p=>
   cases f with
   |Attribute l y py=>rfl
   |_=>exact ff hm
  |_=>exact ff hm)
 (λC e hm=>by cases e with|Call f es ks p=>rfl|_=>exact ff hm)
def RS (r:Str->List V->Hp->VK->Prop) (t:TA):V->St->Hp->VK->Prop
 | .str z,σ,H,Q=>t σ H λys H2=>r z ys H2 Q
 |_,_,_,_=>False
def rS (r:Str->List V->Hp->VK->Prop):V->List V->Hp->VK->Prop
 | .str z,ys,H,Q=>r z ys H Q
 |_,_,_,_=>False
def methS (name:Str) (id:String) (r:Str->List V->Hp->VK->Prop) (slot:Slot "str" name id) (hty:typeOf (.builtin id)=pure (.type "method_descriptor")) (ok:∀X:Cx,X.K=K->X.calm=true->X.A.units+64<cLine->MtR X id (rS r)) (o:EX K) (ho:o.s≠.zc) (as:List (EX K)):EX K:=
 methG name "str" id (rS r) (RS r) PySem.F.plainAttrs_str slot hty ok (λt x σ H Q h=>by
  cases x with
  |str z=>exact ⟨rfl,h⟩
  |_=>exact h.elim) o ho as
def RL (K:Fg) (r:V->List V->Hp->VK->Prop) (t:TA):V->St->Hp->VK->Prop
 | .ref p,σ,H,Q=>(∃xs,SqL K H p xs)/\t σ H λys H2=>r (.ref p) ys H2 Q
 |_,_,_,_=>False
def methL (name:Str) (id:String) (r:V->List V->Hp->VK->Prop) (slot:Slot "list" name id) (hty:typeOf (.builtin id)=pure (.type "method_descriptor")) (ok:∀X:Cx,X.K=K->X.calm=true->X.A.units+64<cLine->MtR X id r) (o:EX K) (ho:o.s≠.zc) (as:List (EX K)):EX K:=
 methG name "list" id r (RL K r) PySem.F.plainAttrs_list slot hty ok (λt x σ H Q h=>by
  cases x with
  |ref p=>exact ⟨.inl ⟨rfl,h.1⟩,h.2⟩
  |_=>exact h.elim) o ho as
theorem ix_dict {X:Cx} (hu:X.A.units+1<cLine):IxR X (λx y H Q=>∃a v,x=.ref a/\DGet H a y (some v)/\Q v H):=by
 intro value slice pins s σ H x y v u Q I rx ry h hs;obtain ⟨a,z,rfl,g,q⟩:=h;obtain rfl:v=Value.ref a:=rx;exact tail_any (dict_typeIs I g) PySem.F.slot_dict_getitem.lookup (d_getItem hu I g ry λw' s3 I3 rw'=>⟨z,H,I3,rw',q⟩) hs
def rIxU (K:Fg):R2
 | .str z,.int i,H,Q=>z.length<=sizeLine/\∃c,atI z.cps.toList i=some c/\Q (sgn c) H
 | .ref a,y,H,Q=>rIxL K (.ref a) y H Q\/rIxT K (.ref a) y H Q\/∃v,DGet H a y (some v)/\Q v H
 |_,_,_,_=>False
theorem ix_ok {X:Cx} (hu:X.A.units+1<cLine):IxR X (rIxU X.K):=by
 intro value slice pins s σ H x y v u Q I rx ry h hs;unfold rIxU at h;split at h
 ·obtain ⟨h1,c,h2,h3⟩:=h;exact ix_str value slice pins s σ H _ _ v u Q I rx ry ⟨_,_,c,rfl,rfl,h1,h2,h3⟩ hs
 ·rcases h with h|h|⟨z,h,q⟩
  ·exact ix_list value slice pins s σ H _ _ v u Q I rx ry h hs
  ·exact ix_tup value slice pins s σ H _ _ v u Q I rx ry h hs
  ·exact ix_dict hu value slice pins s σ H _ _ v u Q I rx ry ⟨_,z,rfl,h,q⟩ hs
 ·exact h.elim
def ix (a b:EX K):EX K:=mkE2 (λE=>tOp (rIxU K) (a.t E) (b.t E))
 (λC e=>match e with
  | .Subscript l r _=>a.m C l&&b.m C r
  |_=>false) (λR=>a.q R/\b.q R) .pl
 (λX C E e hK G hE hq hm=>by
  subst hK
  cases e with
  |Subscript l r p=>
   simp only [Bool.and_eq_true] at hm
   exact pe_ix (ix_ok (by have:=G.hu;lia)) (a.ok X C E l rfl G hE hq.1 hm.1) (b.ok X C E r rfl G hE hq.2 hm.2) (shp_ix (b.sok C r hm.2))
  |_=>exact ff hm)
 (λC e hm=>by cases e with|Subscript l r p=>exact ⟨rfl,rfl⟩|_=>exact ff hm)
def rO (QO:Option Int->Hp->Prop):V->Hp->Prop
 | .int i,H=>QO (some i) H
 |_,_=>False
def tO (E:XS):Option (EX K)->TO
 |none=>tNoPart
 |some x=>λσ H Q=>x.t E σ H (rO Q)
def mO:Option (EX K)->Sc->Option Expr->Bool
 |none,_,none=>true
 |some x,C,some e=>x.m C e
 |_,_,_=>false
def qO:Option (EX K)->Rt->Prop
 |none,_=>True
 |some x,R=>x.q R
theorem o_ok {X:Cx} {C:Sc} {E:XS} (G:Gd X C) (hE:Thr X E):∀(o:Option (EX X.K)) (e:Option Expr),qO o (rtOf X)->mO o C e=true->PO X e (tO E o)
 |none,none,_,_=>po_none
 |none,some _,_,hm=>nomatch hm
 |some _,none,_,hm=>nomatch hm
 |some x,some e,hq,hm=>by
  intro pins s σ H Q I hw;rw[evalPart_some];refine thn (x.ok X C E e rfl G hE hq hm pins s σ H _ I hw) λu s1 ⟨y,H1,I1,r1,q1⟩=>?_;cases y with
  |int i=>
   obtain ⟨t,rfl⟩:=r1;exact ⟨some i,H1,I1,.int i t,q1⟩
  |_=>exact q1.elim
def rSlU (K:Fg):V->Option Int->Option Int->Hp->VK->Prop
 | .str z,lo,hi,H,Q=>z.length<=sizeLine/\Q (.str (Txt.slice z lo hi)) H
 | .ref a,lo,hi,H,Q=>rSlL K (.ref a) lo hi H Q\/rSlT K (.ref a) lo hi H Q
 |_,_,_,_,_=>False
theorem sl_ok {X:Cx}:SlR X (rSlU X.K):=by
 intro pins s σ H x v vl vu lo hi sl Q I rx hs pl pu h;unfold rSlU at h;split at h
 ·exact sl_str pins s σ H _ v vl vu _ _ sl Q I rx hs pl pu ⟨_,rfl,h.1,h.2⟩
 ·rcases h with h|h
  ·exact sl_list pins s σ H _ v vl vu _ _ sl Q I rx hs pl pu h
  ·exact sl_tup pins s σ H _ v vl vu _ _ sl Q I rx hs pl pu h
 ·exact h.elim
def slc (a:EX K) (lo hi:Option (EX K)):EX K:=mkE2 (λE=>tSl (rSlU K) (a.t E) (tO E lo) (tO E hi))
 (λC e=>match e with
  | .Subscript l (.Slice x y none _) _=>a.m C l&&(mO lo C x&&mO hi C y)
  |_=>false) (λR=>a.q R/\qO lo R/\qO hi R) .pl
 (λX C E e hK G hE hq hm=>by
  subst hK
  cases e with
  |Subscript l r p=>
   cases r with
   |Slice x y z p2=>
    cases z with
    |none=>
     simp only [Bool.and_eq_true] at hm
     exact pe_slice sl_ok (a.ok X C E l rfl G hE hq.1 hm.1) (o_ok G hE lo x hq.2.1 hm.2.1) (o_ok G hE hi y hq.2.2 hm.2.2)
    |some _=>cases hm
   |_=>exact ff hm
  |_=>exact ff hm)
 (λC e hm=>by cases e with|Subscript l r p=>exact ⟨rfl,rfl⟩|_=>exact ff hm)
def lst (as:List (EX K)):EX K:=mkE2 (λE=>tLst (tAs as E))
 (λC e=>match e with
  | .List es _=>mAs as C es
  |_=>false) (λR=>qAs as R) .pl
 (λX C E e hK G hE hq hm=>by
  subst hK
  cases e with
  |List es p=>exact pe_lst (as_ok G hE as es hq hm)
  |_=>exact ff hm)
 (λC e hm=>by cases e with|List es p=>exact ⟨rfl,rfl⟩|_=>exact ff hm)
def tup (as:List (EX K)):EX K:=mkE2 (λE=>tTup (tAs as E))
 (λC e=>match e with
  | .Tuple es _ _=>mAs as C es
  |_=>false) (λR=>qAs as R) .pl
 (λX C E e hK G hE hq hm=>by
  subst hK
  cases e with
  |Tuple es k p=>exact pe_tup (as_ok G hE as es hq hm)
  |_=>exact ff hm)
 (λC e hm=>by cases e with|Tuple es k p=>exact ⟨rfl,rfl⟩|_=>exact ff hm)
end
section
variable {K:Fg}
structure IX (K:Fg) where
 t:XS->TI
 tm:Expr->Bool
 m:Sc->Expr->Bool
 q:Rt->Prop
 ok:∀(X:Cx) (C:Sc) (E:XS) (tg e:Expr),X.K=K->Gd X C->Thr X E->q (rtOf X)->tm tg=true->m C e=true->PI X tg e (t E)
 fs:∀(C:Sc) (e:Expr) (env:Env) (x:Value),m C e=true->foldedSetIterable e env x=pure x
def rIter (K:Fg):V->Hp->(It->Hp->Prop)->Prop
 | .str z,H,R=>R (Its z) H
 | .ref a,H,R=>((∃xs,SqL K H a xs)/\R (Itl K a) H)\/((∃xs,SqT K H a xs)/\R (Itt K a) H)
 |_,_,_=>False
theorem iter_run {X:Cx} {tg:Expr} {pins:List (Addr × Obj)} {s1:Shared} {σ:St} {H1:Hp} {x:V} {v:Value} {R:It->Hp->Prop} (I1:Inv X pins σ H1 s1) (r1:RelV x v) (q1:rIter X.K x H1 R):
  wpAny (model X.prog X.w) X.A (pyIter v) (PIE X pins σ tg R) X.xe s1:=by
 unfold rIter at q1;split at q1
 ·rename_i z;obtain ⟨t,rfl⟩:=r1;have fin:∀T:String,(T="str_ascii_iterator"\/T="str_iterator")->PIE X pins σ tg R (.ref s1.heap.objs.size) {s1 with heap:=s1.heap.push {cls:=.type T,data:=.fields #[.str z t,.int 0 0]}}:=λT hT=>by
   refine ⟨s1.heap.objs.size,[s1.heap.objs.size],_,_,H1,rfl,I1.kept (t':=s1.toks) λb o e=>Heap.get?_push_of_some _ e,turn_str z t _ T hT,⟨_,Heap.get?_push_size _ rfl,rfl,rfl⟩,λb hb=>?_,q1⟩;have e:b=s1.heap.objs.size:=by simpa using hb
   subst e;exact I1.fpOk (Nat.le_refl _) (I1.hok.fresh (Nat.le_refl _))
  cases ha:z.cps.all (·<128) with
  |true=>exact wpAny_pyIter_ascii ha (fin _ (.inl rfl))
  |false=>exact wpAny_pyIter_wide ha (fin _ (.inr rfl))
 ·rename_i a;cases (show v=Value.ref a from r1);rcases q1 with ⟨⟨xs,hq⟩,q⟩|⟨⟨xs,hq⟩,q⟩
  ·obtain ⟨its,rv,p,hz⟩:=I1.list hq;refine wpAny_pyIter_list p.isList ?_;refine ⟨s1.heap.objs.size,[s1.heap.objs.size],_,_,H1,rfl,I1.kept (t':=s1.toks) λb o e=>Heap.get?_push_of_some _ e,turn_list a _,⟨_,Heap.get?_push_size _ rfl,rfl,rfl⟩,λb hb=>?_,q⟩;have e:b=s1.heap.objs.size:=by simpa using hb
   subst e;exact I1.fpOk (Nat.le_refl _) (I1.hok.fresh (Nat.le_refl _))
  ·obtain ⟨its,rv,p,hz⟩:=I1.tuple hq;refine wpAny_pyIter_tuple (show s1.heap.IsTuple a its.toArray from p) ?_;refine ⟨s1.heap.objs.size,[s1.heap.objs.size],_,_,H1,rfl,I1.kept (t':=s1.toks) λb o e=>Heap.get?_push_of_some _ e,turn_tuple a _,⟨_,Heap.get?_push_size _ rfl,rfl,rfl⟩,λb hb=>?_,q⟩;have e:b=s1.heap.objs.size:=by simpa using hb
   subst e;exact I1.fpOk (Nat.le_refl _) (I1.hok.fresh (Nat.le_refl _))
 ·exact q1.elim
def iSeq (a:EX K):IX K where
 t:=λE σ H R=>a.t E σ H λx H1=>rIter K x H1 R
 tm:=λ_=>true
 m:=a.m
 q:=a.q
 ok:=λX C E tg e hK G hE hq _ hm=>by
  subst hK;intro pins s σ H R I h;exact thn (a.ok X C E e rfl G hE hq hm pins s σ H _ I h) λv s1 ⟨x,H1,I1,r1,q1⟩=>iter_run I1 r1 q1
 fs:=λC e env x hm=>shp_fold (a.sok C e hm) x
def rRng:List V->Hp->(It->Hp->Prop)->Prop
 |[.int j],H,R=>(-(2 ^ 62)<=j/\j<2 ^ 62)/\R (Itr 0 j.toNat) H
 |[.int i,.int j],H,R=>(-(2 ^ 62)<=i/\i<2 ^ 62/\-(2 ^ 62)<=j/\j<2 ^ 62)/\R (Itr i (j - i).toNat) H
 |_,_,_=>False
def iRng (a:EX K) (as:List (EX K)):IX K where
 t:=λE σ H R=>tAs (a::as) E σ H λvs H1=>rRng vs H1 R
 tm:=λ_=>true
 m:=λC e=>match e with
  | .Call (.Name y _) es [] _=>glB C "range" y&&mAs (a::as) C es
  |_=>false
 q:=λR=>qAs (a::as) R
 ok:=λX C E tg e hK G hE hq _ hm=>by
  subst hK;cases e with
  |Call f es ks p=>
   cases f with
   |Name y py=>
    cases ks with
    |nil=>
     simp only [Bool.and_eq_true] at hm;obtain ⟨h1,h2⟩:=hm;have e:=glB_eq h1;subst e;obtain ⟨g,d⟩:=glB_gl G h1;cases es with
     |nil=>cases h2
     |cons e es=>
      intro pins s σ H R I h;refine Call_ (ld_blt I g (G.bl _ (by decide+kernel)) boot_range (PyProof.Rows.callWith_type1 (thn (as_ok G hE (a::as) (e::es) hq h2 p pins s σ H _ I h) λus s1 ⟨vs,H1,I1,r1,q1⟩=>?_) (shp_star (a.sok C e (mAs_cons h2).1)) (as_plain as es (mAs_cons h2).2)));replace q1:rRng vs H1 R:=q1;unfold rRng at q1;split at q1
      ·cases r1 with
       |cons r rr=>
        cases rr;obtain ⟨t,rfl⟩:=r;exact call_range_1 (range_it I1 (by lia) (by lia) q1.1.1 q1.1.2 (by simpa using q1.2))
      ·cases r1 with
       |cons r rr=>
        cases rr with
        |cons r' rr=>
         cases rr;obtain ⟨t,rfl⟩:=r;obtain ⟨t',rfl⟩:=r';exact call_range_2 (range_it I1 q1.1.1 q1.1.2.1 q1.1.2.2.1 q1.1.2.2.2 q1.2)
      ·exact q1.elim
    |cons _ _=>cases hm
   |_=>exact ff hm
  |_=>exact ff hm
 fs:=λC e env x hm=>by cases e with|Call f es ks p=>rfl|_=>exact ff hm
def rZip (K:Fg):List V->Hp->(It->Hp->Prop)->Prop
 |[.ref p,.ref q],H,R=>((∃xs,SqL K H p xs)/\∃ys,SqL K H q ys)/\R (Itz K p q) H
 |_,_,_=>False
def iZip (a b:EX K):IX K where
 t:=λE σ H R=>tAs [a,b] E σ H λvs H1=>rZip K vs H1 R
 tm:=λe=>match e with
  | .Tuple _ _ _=>true
  |_=>false
 m:=λC e=>match e with
  | .Call (.Name y _) es [] _=>glB C "zip" y&&mAs [a,b] C es
  |_=>false
 q:=λR=>qAs [a,b] R
 ok:=λX C E tg e hK G hE hq ht hm=>by
  subst hK;cases tg with
  |Tuple ts tk tp=>
   cases e with
   |Call f es ks p=>
    cases f with
    |Name y py=>
     cases ks with
     |nil=>
      simp only [Bool.and_eq_true] at hm;obtain ⟨h1,h2⟩:=hm;have e:=glB_eq h1;subst e;obtain ⟨g,d⟩:=glB_gl G h1;cases es with
      |nil=>cases h2
      |cons e es=>
       intro pins s σ H R I h;refine Call_ (ld_blt I g (G.bl _ (by decide+kernel)) boot_zip (PyProof.Rows.callWith_type1 (thn (as_ok G hE [a,b] (e::es) hq h2 p pins s σ H _ I h) λus s1 ⟨vs,H1,I1,r1,q1⟩=>?_) (shp_star (a.sok C e (mAs_cons h2).1)) (as_plain [b] es (mAs_cons h2).2)));replace q1:rZip X.K vs H1 R:=q1;unfold rZip at q1;split at q1
       ·rename_i p1 p2;cases r1 with
        |cons r rr=>
         cases rr with
         |cons r' rr=>
          cases rr;cases r;cases r';obtain ⟨⟨⟨xs,hx⟩,ys,hy⟩,q⟩:=q1;obtain ⟨ia,ra,pa,_⟩:=I1.list hx;obtain ⟨ib,rb,pb,_⟩:=I1.list hy;refine call_zip_2 pa.isList pb.isList λh' z1 z2 z3 z4 z5 z6 kp=>?_;refine wpAny_pyIter_zip (s:={s1 with heap:=h'}) z1 ?_;have Z:ZApart (s1.heap.objs.size+4) (s1.heap.objs.size+2) (s1.heap.objs.size+3) s1.heap.objs.size (s1.heap.objs.size+1):=by constructor<;>simp<;>lia
          have big:∀c∈[s1.heap.objs.size+4,s1.heap.objs.size+2,s1.heap.objs.size+3,s1.heap.objs.size,s1.heap.objs.size+1],s1.heap.objs.size<=c:=by
           intro c hc;simp only [List.mem_cons,List.not_mem_nil,or_false] at hc;lia
          exact ⟨_,[s1.heap.objs.size+4,s1.heap.objs.size+2,s1.heap.objs.size+3,s1.heap.objs.size,s1.heap.objs.size+1],_,_,H1,rfl,I1.kept (t':=s1.toks) kp,turn_zip p1 p2 _ _ _ _ _ Z,⟨z1,z2,⟨_,_,z3⟩,z4,z5⟩,λc hc=>I1.fpOk (big c hc) (I1.hok.fresh (big c hc)),q⟩
       ·exact q1.elim
     |cons _ _=>cases hm
    |_=>exact ff hm
   |_=>exact ff hm
  |_=>cases ht
 fs:=λC e env x hm=>by cases e with|Call f es ks p=>rfl|_=>exact ff hm
structure TX (K:Fg) where
 g:TG
 m:Sc->Expr->Bool
 ok:∀(X:Cx) (C:Sc) (e:Expr),X.K=K->Gd X C->m C e=true->PG X e g
def stB (C:Sc) (i:Nat) (x:Str):Bool:=C.N[i]?==some x&&(C.nm.lookup x==some .local || (C.nm.lookup x==some .cell&&(C.fb || C.ow.contains x)))
theorem stB_ok {X:Cx} {C:Sc} {i:Nat} {x:Str} (G:Gd X C) (h:stB C i x=true):X.N[i]?=some x/\Loc X.env.scope x/\(X.fn x=true\/X.env.scope.names.lookup x=some .local):=by
 unfold stB at h;simp only [Bool.and_eq_true,Bool.or_eq_true] at h;obtain ⟨h1,h2⟩:=h;refine ⟨by rw[G.N];exact eq_of_beq h1,?_,?_⟩
 ·rcases h2 with h2|⟨h2,_⟩
  ·exact .inl (by rw[G.nm];exact eq_of_beq h2)
  ·exact .inr (by rw[G.nm];exact eq_of_beq h2)
 ·rcases h2 with h2|⟨_,h2⟩
  ·exact .inr (by rw[G.nm];exact eq_of_beq h2)
  ·rcases h2 with h2|h2
   ·exact .inl (G.fb h2 x)
   ·exact .inl (G.ow x (List.contains_iff_mem.mp h2))
def nam (i:Nat):TX K where
 g:=gName i
 m:=λC e=>match e with
  | .Name x _=>stB C i x
  |_=>false
 ok:=λX C e hK G hm=>by
  cases e with
  |Name x p=>
   obtain ⟨h1,h2,h3⟩:=stB_ok G hm;exact pg_name (by rw[G.N];exact G.nd) h1 h2 h3
  |_=>exact ff hm
def gNs:List Nat->TGs
 |[]=>gNil
 |i::is=>gCons (gName i) (gNs is)
def mNs:List Nat->Sc->List Expr->Bool
 |[],_,[]=>true
 |i::is,C,.Name x _::es=>stB C i x&&mNs is C es
 |_,_,_=>false
theorem ns_ok {X:Cx} {C:Sc} (G:Gd X C):∀(is:List Nat) (es:List Expr),mNs is C es=true->PGs X es (gNs is)/\(assignEach es X.env).length=is.length/\(assignEach es X.env).findIdx? (·.1)=none
 |[],[],_=>⟨pgs_nil,rfl,rfl⟩
 |[],_::_,hm=>nomatch hm
 |_::_,[],hm=>nomatch hm
 |i::is,e::es,hm=>by
  cases e with
  |Name x p=>
   have hm':(stB C i x&&mNs is C es)=true:=hm;simp only [Bool.and_eq_true] at hm';obtain ⟨h1,h2,h3⟩:=ns_ok G is es hm'.2;obtain ⟨g1,g2,g3⟩:=stB_ok G hm'.1;refine ⟨pgs_cons (pg_name (by rw[G.N];exact G.nd) g1 g2 g3) h1 rfl,?_,?_⟩
   ·show (assignEach es X.env).length+1=is.length+1;rw[h2]
   ·show List.findIdx? (·.1) ((false,assign (.Name x p) X.env)::assignEach es X.env)=none;rw[List.findIdx?_cons,h3];rfl
  |_=>exact nomatch hm
def unp (is:List Nat):TX K where
 g:=gTup K is.length (gNs is)
 m:=λC e=>match e with
  | .Tuple es _ _=>C.cm&&mNs is C es
  |_=>false
 ok:=λX C e hK G hm=>by
  subst hK;cases e with
  |Tuple es k p=>
   simp only [Bool.and_eq_true] at hm;obtain ⟨h1,h2,h3⟩:=ns_ok G is es hm.2;exact pg_tup (G.calm hm.1) h1 h2 h3
  |_=>exact ff hm
structure SX (K:Fg) where
 t:XS->TS
 m:Sc->Stmt->Bool
 q:Rt->Prop
 ok:∀(X:Cx) (C:Sc) (E:XS) (s:Stmt),X.K=K->Gd X C->Thr X E->q (rtOf X)->m C s=true->PS X s (t E)
def tSs:List (SX K)->XS->TS
 |[],_=>tNext
 |s::ss,E=>tSeq (s.t E) (tSs ss E)
def mSs:List (SX K)->Sc->List Stmt->Bool
 |[],_,[]=>true
 |s::ss,C,e::es=>s.m C e&&mSs ss C es
 |_,_,_=>false
def qSs:List (SX K)->Rt->Prop
 |[],_=>True
 |s::ss,R=>s.q R/\qSs ss R
theorem ss_ok {X:Cx} {C:Sc} {E:XS} (G:Gd X C) (hE:Thr X E):∀(xs:List (SX X.K)) (es:List Stmt),qSs xs (rtOf X)->mSs xs C es=true->PSs X es (tSs xs E)
 |[],[],_,_=>pss_nil
 |[],_::_,_,hm=>nomatch hm
 |_::_,[],_,hm=>nomatch hm
 |x::xs,e::es,hq,hm=>by
  have hm':(x.m C e&&mSs xs C es)=true:=hm;simp only [Bool.and_eq_true] at hm';exact pss_cons (x.ok X C E e rfl G hE hq.1 hm'.1) (ss_ok G hE xs es hq.2 hm'.2)
def set (i:Nat) (a:EX K):SX K where
 t:=λE D σ H=>a.t E σ H λx H1=>D.nx (σ.set i (some x)) H1
 m:=λC s=>match s with
  | .Assign [.Name x _] e _=>decide (a.s≠.cp)&&(stB C i x&&a.m C e)
  |_=>false
 q:=a.q
 ok:=λX C E s hK G hE hq hm=>by
  split at hm
  ·rename_i x px e p;simp only [Bool.and_eq_true] at hm;obtain ⟨h1,h2,h3⟩:=hm;obtain ⟨g1,g2,g3⟩:=stB_ok G h2;exact ps_set (by rw[G.N];exact G.nd) g1 g2 (a.ok X C E e hK G hE hq h3) (shp_swap (a.sok C e h3) (of_decide_eq_true h1)) g3
  ·cases hm
def ex (a:EX K):SX K where
 t:=λE D σ H=>a.t E σ H λ_ H1=>D.nx σ H1
 m:=λC s=>match s with
  | .Expr e _=>decide (a.s≠.cp)&&a.m C e
  |_=>false
 q:=a.q
 ok:=λX C E s hK G hE hq hm=>by
  cases s with
  |Expr e p=>
   simp only [Bool.and_eq_true] at hm;exact ps_expr (a.ok X C E e hK G hE hq hm.2) (shp_swap (a.sok C e hm.2) (of_decide_eq_true hm.1))
  |_=>exact ff hm
def ret (a:EX K):SX K where
 t:=λE D σ H=>a.t E σ H D.rt
 m:=λC s=>match s with
  | .Return (some e) _=>a.m C e
  |_=>false
 q:=a.q
 ok:=λX C E s hK G hE hq hm=>by
  cases s with
  |Return o p=>
   cases o with
   |some e=>exact ps_ret (a.ok X C E e hK G hE hq hm)
   |none=>cases hm
  |_=>exact ff hm
def ifS (c:EX K) (t f:List (SX K)):SX K where
 t:=λE D σ H=>c.tt E σ H λb H1=>br b (tSs t E D σ H1) (tSs f E D σ H1)
 m:=λC s=>match s with
  | .If e x y _=>c.m C e&&(mSs t C x&&mSs f C y)
  |_=>false
 q:=λR=>c.q R/\qSs t R/\qSs f R
 ok:=λX C E s hK G hE hq hm=>by
  subst hK;cases s with
  |If e x y p=>
   simp only [Bool.and_eq_true] at hm;obtain ⟨h1,h2,h3⟩:=hm;intro pins s σ H D I h;refine wpAny_If (thn (c.okT X C E e rfl G hE hq.1 h1 pins s σ H _ I h) λd s1 ⟨H1,I1,q1⟩=>?_);cases d with
   |true=>exact ss_ok G hE t x hq.2.1 h2 pins s1 σ H1 D I1 (q1.1 rfl)
   |false=>exact ss_ok G hE f y hq.2.2 h3 pins s1 σ H1 D I1 (q1.2 rfl)
  |_=>exact ff hm
def forS (tg:TX K) (it:IX K) (b:List (SX K)):SX K where
 t:=λE=>tFor (it.t E) tg.g (tSs b E)
 m:=λC s=>match s with
  | .For x e y [] _=>(C.cm&&it.tm x)&&(tg.m C x&&(it.m C e&&mSs b C y))
  |_=>false
 q:=λR=>it.q R/\qSs b R
 ok:=λX C E s hK G hE hq hm=>by
  subst hK;cases s with
  |For x e y z p=>
   cases z with
   |nil=>
    simp only [Bool.and_eq_true] at hm;obtain ⟨⟨hcm,h0⟩,h1,h2,h3⟩:=hm;exact ps_for hE.own (G.calm hcm) (it.ok X C E x e rfl G hE hq.1 h0 h2) (tg.ok X C x rfl G h1) (ss_ok G hE b y hq.2 h3) (λv=>it.fs C e X.env v h2)
   |cons _ _=>cases hm
  |_=>exact ff hm
def tWh (c:TT) (tb:TS):TS:=λD σ H=>∃W:Nat->St->Hp->Prop,(∃m,W m σ H)/\∀m σ H,W m σ H->
 c σ H λb H1=>br b (∃N:St->Hp->Prop,(∀σ' H',N σ' H'->∃m',m'<m/\W m' σ' H')/\tb {D with nx:=N,ct:=N,bk:=D.nx} σ H1) (D.nx σ H1)
theorem ps_wh {X:Cx} {c:Expr} {body:List Stmt} {tc:TT} {tb:TS} {pos:Pos} (hp:PassesOwn (model X.prog X.w) X.A X.env X.xe) (hc:PT X c tc) (hb:PSs X body tb):PS X (.While c body [] pos) (tWh tc tb):=by
 intro pins s σ H D I h;obtain ⟨W,⟨m0,w0⟩,turn⟩:=h;refine wpAny_While (codeAny_whileLoop (λn s'=>∃σ' H',Inv X pins σ' H' s'/\W n σ' H') ?_ m0 ⟨σ,H,I,w0⟩);rintro n s1 ⟨σ1,H1,I1,w1⟩;refine wpAny_passesOwn hp (thn (hc pins s1 σ1 H1 _ I1 (turn n σ1 H1 w1)) λb s2 ⟨H2,I2,q2⟩=>?_);cases b with
 |true=>
  obtain ⟨N,hN,q2⟩:=q2.1 rfl;rw[if_pos rfl];refine wpAny_passesOwn hp (thn (hb pins s2 σ1 H2 _ I2 q2) λf s3 q3=>?_);cases f with
  |next=>
   obtain ⟨σ3,H3,I3,n3⟩:=q3;obtain ⟨m',hm,w3⟩:=hN σ3 H3 n3;exact ⟨m',hm,σ3,H3,I3,w3⟩
  |cont=>
   obtain ⟨σ3,H3,I3,n3⟩:=q3;obtain ⟨m',hm,w3⟩:=hN σ3 H3 n3;exact ⟨m',hm,σ3,H3,I3,w3⟩
  |brk=>exact q3
  |ret v=>exact q3
 |false=>
  rw[if_neg Bool.false_ne_true];exact wpAny_execs_nil ⟨σ1,H2,I2,q2.2 rfl⟩
def whS (c:EX K) (b:List (SX K)):SX K where
 t:=λE=>tWh (c.tt E) (tSs b E)
 m:=λC s=>match s with
  | .While e y [] _=>c.m C e&&mSs b C y
  |_=>false
 q:=λR=>c.q R/\qSs b R
 ok:=λX C E s hK G hE hq hm=>by
  subst hK;cases s with
  |While e y z p=>
   cases z with
   |nil=>
    simp only [Bool.and_eq_true] at hm;exact ps_wh hE.own (c.okT X C E e rfl G hE hq.1 hm.1) (ss_ok G hE b y hq.2 hm.2)
   |cons _ _=>cases hm
  |_=>exact ff hm
def relab (nm names:List (Str × NameKind)):List (Str × NameKind):=names.map λ(n,k)=>if (k==NameKind.free&&nm.lookup n==some .cell) then (n,NameKind.cell) else (n,k)
def capB (C:Sc) (sc:Scope):List Str->List Nat->Bool
 |[],[]=>true
 |x::xs,i::is=>(C.N[i]?==some x&&(C.nm.lookup x==some .cell&&sc.names.lookup x==some .free))&&capB C sc xs is
 |_,_=>false
theorem capB_ok {X:Cx} {C:Sc} {sc:Scope} (G:Gd X C):∀(xs:List Str) (is:List Nat),capB C sc xs is=true->Cap X sc xs is
 |[],[],_=>.nil
 |[],_::_,h=>nomatch h
 |_::_,[],h=>nomatch h
 |x::xs,i::is,h=>by
  have h':((C.N[i]?==some x&&(C.nm.lookup x==some .cell&&sc.names.lookup x==some .free))&&capB C sc xs is)=true:=h;simp only [Bool.and_eq_true] at h';obtain ⟨⟨h1,h2,h3⟩,h4⟩:=h';exact .cons (by rw[G.N];exact eq_of_beq h1) (by show X.env.scope.names.lookup x=_;rw[G.nm];exact eq_of_beq h2) (eq_of_beq h3) (capB_ok G xs is h4)
def compB (C:Sc) (sc:Scope) (own caps:List Str) (is:List Nat):Bool:=
 (decide (sc.kind=.function)&&decide (own++caps).Nodup)&&((sc.names.all λy=>y.2 != .cell || sc.names.lookup y.1==some .cell)&&((sc.names.all λy=>y.2 != .free || C.nm.lookup y.1==some .cell)&&((sc.names.all λy=>y.2 != .local || sc.names.lookup y.1==some .local)&&capB C sc caps is)))
theorem clos_loop (env:Env):∀(names:List (Str × NameKind)) (acc:List (Str × Addr)),(∀y∈names,y.2=.free->∃c,env.cells.lookup y.1=some c)->
  (forIn names acc (λ(x:Str × NameKind) (r:List (Str × Addr))=>(if (x.2==NameKind.free)=true then (do let c <-cellOf env x.1;pure (ForInStep.yield ((x.1,c)::r))) else pure (ForInStep.yield r):Sem (ForInStep (List (Str × Addr))))))=
   (pure (((names.filter λx=>x.2==.free).filterMap λx=>(env.cells.lookup x.1).map λc=>(x.1,c)).reverse++acc):Sem (List (Str × Addr)))
 |[],acc,_=>rfl
 | (n,k)::r,acc,h=>by
  have ih:=λacc'=>clos_loop env r acc' λy hy=>h y (List.mem_cons_of_mem _ hy);rw[List.forIn_cons];cases hk:(k==NameKind.free) with
  |false=>
   rw[if_neg Bool.false_ne_true];have e:((n,k)::r).filter (λx=>x.2==NameKind.free)=r.filter (λx=>x.2==NameKind.free):=by rw[List.filter_cons,if_neg (by show ¬(k==NameKind.free)=true;rw[hk];exact Bool.false_ne_true)]
   rw[e];exact ih acc
  |true=>
   rw[if_pos rfl];obtain ⟨c,hc⟩:=h (n,k) List.mem_cons_self (eq_of_beq hk);have e:((n,k)::r).filter (λx=>x.2==NameKind.free)=(n,k)::r.filter (λx=>x.2==NameKind.free):=by rw[List.filter_cons,if_pos (by show (k==NameKind.free)=true;exact hk)]
   have hcell:cellOf env n=pure c:=by
    unfold cellOf;rw[hc]
   rw[e,List.filterMap_cons,hcell];have hc':(env.cells.lookup n)=some c:=hc;simp only [hc',Option.map_some,List.reverse_cons,List.append_assoc,List.singleton_append];exact ih ((n,c)::acc)
theorem clos_ok {X:Cx} {sc:Scope} (ok:X.Ok) (hfr:(sc.names.all λy=>y.2 != .free || X.env.kindOf y.1==some .cell)=true):closureFor sc X.env=pure (clOf sc.names X.env):=by
 have h:=clos_loop X.env sc.names [] λy hy hf=>by
  have z:=List.all_eq_true.mp hfr y hy;simp only [Bool.or_eq_true] at z;rcases z with z|z
  ·rw[hf] at z;cases z
  ·exact ok.has y.1 (.inl (eq_of_beq z))
 rw[List.append_nil] at h;have h3:closureFor sc X.env=(forIn sc.names ([]:List (Str × Addr)) (λ(x:Str × NameKind) (r:List (Str × Addr))=>(if (x.2==NameKind.free)=true then (do let c <-cellOf X.env x.1;pure (ForInStep.yield ((x.1,c)::r))) else pure (ForInStep.yield r):Sem (ForInStep (List (Str × Addr))))) >>=λr=>pure r):=rfl;rw[h3,h];rfl
def owOf (names:List (Str × NameKind)):List Str:=(names.filter λy=>names.lookup y.1==some .cell).map (·.1)
theorem blk_gd {X:Cx} {C:Sc} {own caps:List Str} {sc:Scope} {Ca:Addr} {s₀:Shared} {H₀:Hp} {ex:List Addr} (G:Gd X C) (hcm:C.cm=true) (hk:X.env.scope.kind=.function) (hnd:(own++caps).Nodup):Gd (blk X (own++caps) sc Ca s₀ H₀ ex) ⟨own++caps,relab C.nm sc.names,.own (owOf sc.names)⟩ where
 N:=rfl
 nm:=by
  show (sc.names.map λ(n,k)=>if (k==NameKind.free&&X.env.scope.kind==.function&&X.env.kindOf n==some .cell) then (n,NameKind.cell) else (n,k))=relab C.nm sc.names;unfold relab;rw[hk];show (sc.names.map λ(n,k)=>if (k==NameKind.free&&true&&X.env.scope.names.lookup n==some NameKind.cell) then (n,NameKind.cell) else (n,k))=_;rw[G.nm];simp only [Bool.and_true]
 nd:=hnd
 calm:=λ_=>G.calm hcm
 bl:=G.bl
 top:=λz=>nomatch z
 hu:=G.hu
 fb:=λh=>nomatch h
 ow:=λx hx=>by
  obtain ⟨y,hy,rfl⟩:=List.mem_map.mp (show x∈owOf sc.names from hx);exact (List.mem_filter.mp hy).2
theorem thr0 {X:Cx} (h:X.xe=λ_ _=>False):Thr X E0:=⟨λ_ _ _ _ _ _ _ z=>(CXF.no z).elim,λ_ _ _ _ _ _ _ _ _ _ _ _ _ _ _ _ _ _ _ z=>z.elim,by rw[h];exact PassesOwn.never⟩
structure CPX (K:Fg) where
 t:XS->TE
 m:Sc->Expr->Bool
 q:Rt->Prop
 sok:∀(C:Sc) (e:Expr),m C e=true->shpOf e=some .cp/\tstOf e=true
 ok:∀(X:Cx) (C:Sc) (E:XS) (e:Expr),X.K=K->Gd X C->Thr X E->q (rtOf X)->m C e=true->PE X e (t E)
 okS:∀(X:Cx) (C:Sc) (E:XS) (i:Nat) (x:Str) (p' pos:Pos) (e:Expr),X.K=K->Gd X C->Thr X E->q (rtOf X)->m C e=true->stB C i x=true->PS X (.Assign [.Name x p'] e pos) (λD σ H=>t E σ H λv H1=>D.nx (σ.set i (some v)) H1)
def cT (c:Option (EX K)):TT:=match c with
 |none=>λ_ H Q=>Q true H
 |some c=>c.tt E0
def mC (c:Option (EX K)) (C:Sc) (ifs:List Expr):Bool:=match c,ifs with
 |none,[]=>true
 |some c,[e]=>c.m C e
 |_,_=>false
def qC (c:Option (EX K)) (R:Rt):Prop:=match c with
 |none=>True
 |some c=>c.q R
theorem tests_ok {X:Cx} {C:Sc} (G:Gd X C) (hE:Thr X E0):∀(c:Option (EX X.K)) (ifs:List Expr),qC c (rtOf X)->mC c C ifs=true->Tests X ifs (cT c)
 |none,[],_,_=>.nil
 |none,_::_,_,hm=>nomatch hm
 |some _,[],_,hm=>nomatch hm
 |some c,[e],hq,hm=>.one (c.okT X C E0 e rfl G hE hq hm)
 |some _,_::_::_,_,hm=>nomatch hm
def mCp (c:Option (EX K)) (elt:EX K) (tg:TX K) (it:IX K) (own caps:List Str) (is:List Nat) (C:Sc) (e:Expr):Bool:=match e with
 | .ListComp l [⟨x,y,ifs,asy⟩] sc _=>((C.cm&&decide (asy=0))&&it.tm x)&&(compB C sc own caps is&&(it.m C y&&(tg.m ⟨own++caps,relab C.nm sc.names,.own (owOf sc.names)⟩ x&&(mC c ⟨own++caps,relab C.nm sc.names,.own (owOf sc.names)⟩ ifs&&elt.m ⟨own++caps,relab C.nm sc.names,.own (owOf sc.names)⟩ l))))
 |_=>false
theorem cp_run {X:Cx} {C:Sc} {E:XS} {e:Expr} {c:Option (EX X.K)} {elt:EX X.K} {tg:TX X.K} {it:IX X.K} {own caps:List Str} {is:List Nat} (G:Gd X C) (hE:Thr X E) (hq:it.q (rtOf X)/\elt.q (rtOf X)/\qC c (rtOf X)) (hm:mCp c elt tg it own caps is C e=true):
  ∃l x y ifs sc p,e=.ListComp l [⟨x,y,ifs,0⟩] sc p/\∀(use:Option (Value->Sem Unit)) (p2:Pos) (pins:List (Addr × Obj)) (s:Shared) (σ:St) (H:Hp) (Q:VK) (QQ:Value->Shared->Prop),Inv X pins σ H s->tCompI (it.t E) tg.g (cT c) (elt.t E0) own.length is σ H Q->
   (∀(D C:Addr) (H':Hp) (s':Shared) (m:Str->Option Value),Inv X pins σ H' s'->s'.heap.Ns C m->H' C=none->X.s₀.heap.objs.size<=C->X.env.locals≠C->(∀x c,X.env.cells.lookup x=some c->c≠C)->(∀p∈X.pn++pins,p.1≠C)->Q (.ref D) H'->
    compPost (model X.prog X.w) X.A X.xe use QQ (.ref D) C (.ok .next) s')->
   wpAny (model X.prog X.w) X.A (comprehension (.ListComp l [⟨x,y,ifs,0⟩] sc p) sc X.env p2 (newList []) false (eval y X.env) use) QQ X.xe s:=by
 unfold mCp at hm;cases e with
 |ListComp l gs sc p=>
  match gs,hm with
  |[⟨x,y,ifs,asy⟩],hm=>
   simp only [Bool.and_eq_true] at hm;obtain ⟨⟨⟨hcm,h1⟩,h0⟩,h2,h3,h4,h6,h5⟩:=hm;have e1:=of_decide_eq_true h1;subst e1;unfold compB at h2;simp only [Bool.and_eq_true] at h2;obtain ⟨⟨k1,k2⟩,k3,k4,k5,k6⟩:=h2;have k4':(sc.names.all λy=>y.2 != .free || X.env.kindOf y.1==some .cell)=true:=by
    show (sc.names.all λy=>y.2 != .free || X.env.scope.names.lookup y.1==some .cell)=true;rw[G.nm];exact k4
   refine ⟨l,x,y,ifs,sc,p,rfl,λuse p2 pins s σ H Q QQ I h fin=>?_⟩;have hg:=λCa s₀ H₀ ex=>blk_gd (own:=own) (caps:=caps) (sc:=sc) (Ca:=Ca) (s₀:=s₀) (H₀:=H₀) (ex:=ex) G hcm I.ok.kind (of_decide_eq_true k2);refine comp_core (own:=own) (caps:=caps) (is:=is) use (G.calm hcm) (it.ok X C E x y rfl G hE hq.1 h0 h3) (λCa s₀ H₀ ex=>tg.ok _ _ x rfl (hg Ca s₀ H₀ ex) h4)
    (λCa s₀ H₀ ex=>tests_ok (X:=blk X (own++caps) sc Ca s₀ H₀ ex) (hg Ca s₀ H₀ ex) (thr0 rfl) c ifs hq.2.2 h6) (λCa s₀ H₀ ex=>elt.ok _ _ E0 l rfl (hg Ca s₀ H₀ ex) (thr0 rfl) hq.2.1 h5) (capB_ok G caps is k6) (of_decide_eq_true k1)
    (λz hz=>?_) k4' (clos_ok I.ok k4') (λz hz hl=>?_) (λv=>it.fs C y X.env v h3) I h fin
   ·have:=List.all_eq_true.mp k3 z hz;simp only [Bool.or_eq_true] at this;intro hl;rcases this with q|q
    ·rw[hl] at q;cases q
    ·exact eq_of_beq q
   ·have:=List.all_eq_true.mp k5 z hz;simp only [Bool.or_eq_true] at this;rcases this with q|q
    ·rw[hl] at q;cases q
    ·exact eq_of_beq q
 |_=>exact ff hm
theorem cp_pe {X:Cx} {C:Sc} {E:XS} {e:Expr} {c:Option (EX X.K)} {elt:EX X.K} {tg:TX X.K} {it:IX X.K} {own caps:List Str} {is:List Nat} (G:Gd X C) (hE:Thr X E) (hq:it.q (rtOf X)/\elt.q (rtOf X)/\qC c (rtOf X)) (hm:mCp c elt tg it own caps is C e=true):
  PE X e (tCompI (it.t E) tg.g (cT c) (elt.t E0) own.length is):=by
 obtain ⟨l,x,y,ifs,sc,p,rfl,R⟩:=cp_run G hE hq hm;intro pins s σ H Q I h;rw[eval_ListComp];refine R none _ pins s σ H Q _ I h λD C H' s' m I' hn hC h1 h2 h3 h4 q=>?_;exact ⟨m,hn,λh' hs'=>⟨.ref D,H',Inv.but I' hs' h1 h2 h3 h4 hC,rfl,q⟩⟩
theorem cp_ps {X:Cx} {C:Sc} {E:XS} {e:Expr} {i:Nat} {nm:Str} {p' pos:Pos} {c:Option (EX X.K)} {elt:EX X.K} {tg:TX X.K} {it:IX X.K} {own caps:List Str} {is:List Nat} (G:Gd X C) (hE:Thr X E) (hq:it.q (rtOf X)/\elt.q (rtOf X)/\qC c (rtOf X)) (hm:mCp c elt tg it own caps is C e=true) (hst:stB C i nm=true):
  PS X (.Assign [.Name nm p'] e pos) (λD σ H=>tCompI (it.t E) tg.g (cT c) (elt.t E0) own.length is σ H λv H1=>D.nx (σ.set i (some v)) H1):=by
 have P:=cp_pe G hE hq hm;obtain ⟨g1,g2,g3⟩:=stB_ok G hst;have nd:X.N.Nodup:=by rw[G.N];exact G.nd
 obtain ⟨l,x,y,ifs,sc,p,rfl,R⟩:=cp_run G hE hq hm;obtain ⟨b,hb⟩:∃b:Bool,swapsWith (.ListComp l [⟨x,y,ifs,0⟩] sc p) (some (.Name nm p')) pos.line X.env=pure b:=⟨_,rfl⟩;cases b with
 |false=>exact ps_set nd g1 g2 P hb g3
 |true=>
  intro pins s σ H D I h;rw[exec_Assign_Name_used _ _ _ _ hb];refine wpAny_bind (wpAny_standAt (wpAny_bind ?_));show wpAny _ _ (do let _ <-comprehension (.ListComp l [⟨x,y,ifs,0⟩] sc p) sc X.env _ (newList []) false (eval y X.env) (some (assign (.Name nm p') X.env))) _ _ s;refine wpAny_bind (wpAny_mono (R (some (assign (.Name nm p') X.env)) _ pins s σ H _ (λ_ s'=>SP X pins D .next s') I h λA C H' s' m I' hn hC h1 h2 h3 h4 q=>?_) (λ_ s' hq=>wpAny_pure (wpAny_pure hq)) λ_ _ z=>z);show wpAny _ _ (assign (.Name nm p') X.env (.ref A)) _ _ s';refine wpAny_assign_Name (store_ok2 I' nd g1 g2 (v:=.ref A) rfl (λs'' I'' ⟨a,sb,ha⟩=>?_) g3);have hne:C≠a:=by
   rcases ha with ha|ha
   ·rw[ha];exact h2.symm
   ·exact (h3 _ _ ha).symm
  exact ⟨m,hn.sameBut sb hne,λh' hs'=>⟨_,H',Inv.but I'' hs' h1 h2 h3 h4 hC,q⟩⟩
def compC (c:Option (EX K)) (elt:EX K) (tg:TX K) (it:IX K) (own caps:List Str) (is:List Nat):CPX K where
 t:=λE=>tCompI (it.t E) tg.g (cT c) (elt.t E0) own.length is
 m:=mCp c elt tg it own caps is
 q:=λR=>it.q R/\elt.q R/\qC c R
 sok:=λC e hm=>by
  unfold mCp at hm;cases e with
  |ListComp l gs sc p=>exact ⟨rfl,rfl⟩
  |_=>exact ff hm
 ok:=λX C E e hK G hE hq hm=>by subst hK;exact cp_pe G hE hq hm
 okS:=λX C E i x p' pos e hK G hE hq hm hst=>by subst hK;exact cp_ps G hE hq hm hst
def cpE (c:CPX K):EX K:=mkE c.t c.m c.q .cp c.ok (λC e hm=>(c.sok C e hm).1) (λC e hm=>(c.sok C e hm).2)
def setC (i:Nat) (c:CPX K):SX K where
 t:=λE D σ H=>c.t E σ H λv H1=>D.nx (σ.set i (some v)) H1
 m:=λC s=>match s with
  | .Assign [.Name x _] e _=>stB C i x&&c.m C e
  |_=>false
 q:=c.q
 ok:=λX C E s hK G hE hq hm=>by
  split at hm
  ·rename_i x px e p;simp only [Bool.and_eq_true] at hm;exact c.okS X C E i x _ p e hK G hE hq hm.2 hm.1
  ·cases hm
def comp (elt:EX K) (tg:TX K) (it:IX K) (own caps:List Str) (is:List Nat):EX K:=cpE (compC none elt tg it own caps is)
def DnK (P:Program) (w:World) (K:Fg) (mg:Str->Option Value) (base:Heap) (k:Nat) (x:Str) (sp:Sp):Prop:=
 ∃(f:Addr) (fd:FuncData) (ps:List Str),FnOk P w K mg base (CXF P w) k f fd ps sp/\Binds K fd ps []/\PySem.W.keepIn K (.ref f)=true/\mg x=some (.ref f)
theorem DnK.at {P:Program} {w:World} {mg:Str->Option Value} {base:Heap} {j k:Nat} {x:Str} {sp:Sp} {A:Around} (D:DnK P w K mg base j x sp) (hr:Room k A) (h:j<=k):FnAt ⟨P,w,K,mg,base,A⟩ x sp:=by
 obtain ⟨f,fd,ps,F,hb,kp,hg⟩:=D;exact ⟨j,f,fd,ps,hr.mono h,F,hb,kp,hg⟩
theorem def_ok {P:Program} {w:World} {mg:Str->Option Value} {base:Heap} {x qual:Str} {st:Stmt} {f:Addr} {fd:FuncData} {N ps:List Str} {k:Nat} {sp:Sp} (F:Fun K x qual st f fd) (b:List (SX K)) (S:FnScope N ps (defScope st))
  (hm:mSs b ⟨N,(defScope st).names,true⟩ (defBody st)=true) (bl:∀x∈blts,mg x=none) (hq:∀A,Room k A->qSs b ⟨P,w,K,mg,base,A⟩) (len:∀vs H Q E,sp vs H Q E->vs.length=ps.length)
  (h:∀vs H Q E,sp vs H Q E->tSs b (λ_=>E) {nx:=λ_ H'=>Q .non H',rt:=Q} (start N vs) H):FnOk P w K mg base (CXF P w) (k+1) f fd ps sp:=by
 obtain ⟨oc,od,kV,doc,pm,an,cdv,ct,osl,rfl,lk,hcd⟩:=F.ex;refine fn_of lk hcd S len λA outer s H vs Q E hr hsp=>?_;have G:Gd (cxOf (CXF P w) P w K mg base N qual (defScope st) f cdv A outer s H E) ⟨N,(defScope st).names,true⟩:=⟨rfl,rfl,S.nd,λ_=>rfl,bl,hr.units,λ_ _=>rfl,λ_=>⟨rfl,rfl⟩,λ_ h=>nomatch h⟩;have T:Thr (cxOf (CXF P w) P w K mg base N qual (defScope st) f cdv A outer s H E) (λ_=>E):=⟨λpins σ H1 s1 ev s' I z=>pass_def pins σ H1 s1 ev s' I z,λ_ _ _ _ _ _ e _ _ I o1 b1 u1 k1 n1 en eo dt v1 z=>made_def (I.call' o1 u1 k1 b1 λb y=>absurd y (by simp)) eo dt v1 en (λb o q y=>by obtain ⟨v,hv⟩:=I.base.there b o q (λy=>nomatch y);rw[y,n1] at hv;cases hv) z,PassesOwn.leaving⟩;exact ⟨_,ss_ok G T b (defBody st) (hq _ hr) hm,h vs H Q E hsp⟩
end
abbrev ls (z:Str):List Nat:=z.cps.toList
def mkS (l:List Nat):Str:=⟨l.toArray⟩
theorem ls_mk (l:List Nat):ls (mkS l)=l:=by simp [ls,mkS]
theorem ls_len (z:Str):(ls z).length=z.length:=by show z.cps.toList.length=z.cps.size;simp
theorem mk_len (l:List Nat):(mkS l).length=l.length:=by rw[<-ls_len,ls_mk]
theorem ls_inj {a b:Str} (h:ls a=ls b):a=b:=by
 cases a;cases b;simp only [ls] at h
 congr 1
 exact Array.toList_inj.mp h
theorem mk_ls (z:Str):mkS (ls z)=z:=ls_inj (ls_mk _)
theorem ls_app (a b:Str):ls (a++b)=ls a++ls b:=by
 show (a.cps++b.cps).toList=a.cps.toList++b.cps.toList;simp
theorem glued_fold (g:Array Nat):∀(r:List Str) (acc:Array Nat),(r.foldl (λacc p=>acc++g++p.cps) acc).toList=acc.toList++(r.map λp=>g.toList++p.cps.toList).flatten
 |[],acc=>by simp
 |p::r,acc=>by
  rw[List.foldl_cons,glued_fold g r];simp [List.append_assoc]
theorem ls_join0 (ys:List Str):ls (Txt.join (Str.ofString "") ys)=(ys.map ls).flatten:=by
 have e:(Str.ofString "").cps=#[]:=by decide+kernel
 cases ys with
 |nil=>decide+kernel
 |cons y r=>
  show ((r.foldl (λacc p=>acc++(Str.ofString "").cps++p.cps) y.cps)).toList=_;rw[e,glued_fold];simp
theorem occ_one_count (x:Str) (c lim:Nat):∀(l:List Nat) (st:Array Nat × Nat),(∀i∈l,st.snd<=i)->l.Pairwise (·<·)->st.fst.size+l.length<=lim->
  (forIn l st (StrLaws.occBody x ⟨#[c]⟩ x.length lim)).run.fst.size=st.fst.size+(l.filter λi=>decide (x.cps.toList[i]?=some c)).length
 |[],st,_,_,_=>by simp
 |a::l,st,hf,hp,hl=>by
  rw[List.forIn_cons];have ha:st.snd<=a:=hf a List.mem_cons_self;rw[List.length_cons] at hl;have hp':=List.pairwise_cons.mp hp;unfold StrLaws.occBody;by_cases hc:x.cps.toList[a]?=some c
  ·have h1:=(StrLaws.subAt_one x c a).mpr hc;rw[if_pos ⟨⟨⟨by lia,ha⟩,h1.1⟩,h1.2⟩];have ih:=occ_one_count x c lim l (st.fst.push a,a+(⟨#[c]⟩:Str).length) (λi hi=>by
    have:=hp'.1 i hi
    show a+1<=i
    lia) hp'.2 (by rw[Array.size_push];lia)
   show (forIn l (st.fst.push a,a+(⟨#[c]⟩:Str).length) (StrLaws.occBody x ⟨#[c]⟩ x.length lim)).run.fst.size=_;rw[ih,List.filter_cons,if_pos (decide_eq_true hc),List.length_cons,Array.size_push];lia
  ·rw[if_neg (λh=>hc ((StrLaws.subAt_one x c a).mp ⟨h.1.2,h.2⟩))];have ih:=occ_one_count x c lim l (st.fst,st.snd) (λi hi=>hf i (List.mem_cons_of_mem _ hi)) hp'.2 (by show st.fst.size+l.length<=lim;lia);show (forIn l (st.fst,st.snd) (StrLaws.occBody x ⟨#[c]⟩ x.length lim)).run.fst.size=_;rw[ih,List.filter_cons,if_neg (by rw[decide_eq_false hc];exact Bool.false_ne_true)]
theorem filter_at (c:Nat):∀(l:List Nat) (k:Nat),((List.range' k (l.length+1)).filter λi=>decide (l[i - k]?=some c)).length=l.count c
 |[],k=>by simp [List.range']
 |a::l,k=>by
  have e:List.range' k ((a::l).length+1)=k::List.range' (k+1) (l.length+1):=by rw[List.length_cons,List.range'_succ]
  rw[e,List.filter_cons];have ih:=filter_at c l (k+1);have e2:((List.range' (k+1) (l.length+1)).filter λi=>decide ((a::l)[i - k]?=some c))=((List.range' (k+1) (l.length+1)).filter λi=>decide (l[i - (k+1)]?=some c)):=by
   refine List.filter_congr λi hi=>?_;have hi':=List.mem_range'_1.mp hi;have:i - k=(i - (k+1))+1:=by lia
   rw[this,List.getElem?_cons_succ]
  have e3:(a::l)[k - k]?=some a:=by rw[Nat.sub_self];rfl
  rw[e2,e3,List.count_cons];by_cases hc:a=c
  ·subst hc;rw[if_pos (decide_eq_true rfl),List.length_cons,ih];simp
  ·rw[if_neg (by simp [hc]),ih];simp [hc]
theorem count_one (x:Str) (c:Nat):Txt.count x ⟨#[c]⟩=((ls x).count c:Int):=by
 unfold Txt.count;rw[StrLaws.occ_eq,Array.length_toList,Nat.sub_zero];rw[occ_one_count x c (x.length+1) _ _ (λi hi=>Nat.zero_le _) List.pairwise_lt_range' (by simp)];have h:=filter_at c (ls x) 0;rw[ls_len] at h;simp only [Nat.sub_zero] at h;simp only [List.size_toArray,List.length_nil,Nat.zero_add];rw[<-h]
def IsW (m:Nat) (z:Str):Prop:=∀c∈ls z,97<=c/\c<97+m
theorem IsW.sgn {m c:Nat} (h:97<=c) (l:c<97+m):IsW m ⟨#[c]⟩:=λd hd=>by
 have:d=c:=by simpa [ls] using hd
 subst this;exact ⟨h,l⟩
def wd (ws:List Str) (c:Nat):List Nat:=ls (ws[c - 97]?.getD ⟨#[]⟩)
def img (ws:List Str) (z:Str):Str:=mkS ((ls z).flatMap (wd ws))
theorem ls_img (ws:List Str) (z:Str):ls (img ws z)=(ls z).flatMap (wd ws):=ls_mk _
theorem sum_le {l:List Nat} {B:Nat} (h:∀x∈l,x<=B):l.sum<=l.length * B:=by
 induction l with
 |nil=>simp
 |cons a l ih=>
  have h1:=h a List.mem_cons_self;have h2:=ih λx hx=>h x (List.mem_cons_of_mem _ hx);rw[List.sum_cons,List.length_cons,Nat.add_mul,Nat.one_mul];lia
theorem img_le {ws:List Str} {z:Str} {B:Nat} (h:∀w∈ws,w.length<=B):(img ws z).length<=z.length * B:=by
 rw[<-ls_len,ls_img,List.length_flatMap,<-ls_len z];refine Nat.le_trans (sum_le (B:=B) λx hx=>?_) (by rw[List.length_map];exact Nat.le_refl _);obtain ⟨c,hc,rfl⟩:=List.mem_map.mp hx;unfold wd;cases e:ws[c - 97]? with
 |none=>simp [ls]
 |some w=>rw[show (some w).getD ⟨#[]⟩=w from rfl,ls_len];exact h w (List.mem_of_getElem? e)
section
variable {K:Fg}
theorem ms_ok {X:Cx} {id:String} {r:Str->List V->Hp->VK->Prop} {r':V->List V->Hp->VK->Prop} (h:MtM X id r') (f:∀z ys H Q,r z ys H Q->r' (.str z) ys H Q):MtR X id (rS r):=by
 intro pins s σ H x xs v us Q I rx rs q;cases x with
 |str z=>exact h pins s σ H _ xs v us Q I rx rs (f z xs H Q q)
 |_=>exact q.elim
def rJoinU (K:Fg):Str->List V->Hp->VK->Prop
 |z,[.ref p],H,Q=>∃ys:List Str,(H p=some (.lst (ys.map V.str))\/SqT K H p (ys.map V.str))/\(ys.map (·.length)).sum+ys.length * z.length<=16777216/\Q (.str (Txt.join z ys)) H
 |_,_,_,_=>False
def m_join (o a:EX K) (ho:o.s≠.zc:=by intro z;cases z):EX K:=methS "join" "str.join" (rJoinU K) PySem.F.slot_str_join PySem.F.type_str_join (λX hK _ _=>by
 subst hK
 intro pins s σ H x xs v us Q I rx rs q
 cases x with
 |str z=>
  have q':rJoinU X.K z xs H Q:=q
  unfold rJoinU at q'
  split at q'
  ·obtain ⟨ys,h1|h1,h2,h3⟩:=q'
   ·exact mt_join pins s σ H _ _ v us Q I rx rs ⟨_,_,ys,rfl,rfl,h1,h2,h3⟩
   ·exact mt_joinT pins s σ H _ _ v us Q I rx rs ⟨_,_,ys,rfl,rfl,h1,h2,h3⟩
  ·exact q'.elim
 |_=>exact q.elim) o ho [a]
def rCountU:Str->List V->Hp->VK->Prop
 |z,[.str y],H,Q=>Q (.int (Txt.count z y)) H
 |_,_,_,_=>False
def m_count (o a:EX K) (ho:o.s≠.zc:=by intro z;cases z):EX K:=methS "count" "str.count" rCountU PySem.F.slot_str_count PySem.F.type_str_count (λX hK _ _=>ms_ok mt_count (λz ys H Q h=>by
 unfold rCountU at h
 split at h
 ·exact ⟨_,_,rfl,rfl,h⟩
 ·exact h.elim)) o ho [a]
def rIndexU:Str->List V->Hp->VK->Prop
 |z,[.str y],H,Q=>∃(i:Nat) (rest:List Nat),Builtin.Str.occurrences z y 0 z.length 1=i::rest/\Q (.int i) H
 |_,_,_,_=>False
def m_index (o a:EX K) (ho:o.s≠.zc:=by intro z;cases z):EX K:=methS "index" "str.index" rIndexU PySem.F.slot_str_index PySem.F.type_str_index (λX hK _ _=>ms_ok mt_index (λz ys H Q h=>by
 unfold rIndexU at h
 split at h
 ·obtain ⟨i,rest,h1,h2⟩:=h
  exact ⟨_,_,i,rest,rfl,rfl,h1,h2⟩
 ·exact h.elim)) o ho [a]
def m_append (o a:EX K) (ho:o.s≠.zc:=by intro z;cases z):EX K:=methL "append" "list.append" rAppend PySem.F.slot_list_append PySem.F.type_list_append (λX hK _ _=>mt_append) o ho [a]
def dzip (a b:EX K):EX K:=mkE (λE=>tDZ K (tAs [a,b] E))
 (λC e=>match e with
  | .Call (.Name y _) [.Call (.Name z _) es [] _] [] _=>(C.cm&&glB C "dict" y)&&(glB C "zip" z&&mAs [a,b] C es)
  |_=>false) (λR=>qAs [a,b] R) .pl
 (λX C E e hK G hE hq hm=>by
  subst hK
  split at hm
  ·rename_i y py z pz es p2 p
   ·simp only [Bool.and_eq_true] at hm
    obtain ⟨⟨hcm,h1⟩,h2,h3⟩:=hm
    have e:=glB_eq h1
    have e2:=glB_eq h2
    subst e e2
    match es,h3 with
    |[],h3=>exact nomatch h3
    |[x],h3=>exact nomatch (mAs_cons h3).2
    |x::y::z::r,h3=>exact nomatch (mAs_cons (mAs_cons h3).2).2
    |[x,y],h3=>
     have s1:=shp_star (env:=X.env) (es:=[y]) (a.sok C x (mAs_cons h3).1)
     have s2:=shp_star (env:=X.env) (es:=[]) (b.sok C y (mAs_cons (mAs_cons h3).2).1)
     exact pe_dictzip (G.calm hcm) (glB_gl G h1).1 (G.bl _ (by decide+kernel)) (glB_gl G h2).1 (G.bl _ (by decide+kernel)) (as_ok G hE [a,b] [x,y] hq h3)
      s1 (as_plain [b] [y] (mAs_cons h3).2)
  ·cases hm)
 (λC e hm=>by
  split at hm
  ·rfl
  ·cases hm)
 (λC e hm=>by cases e with|Call f es ks p=>rfl|_=>exact ff hm)
section
variable {E:XS} {σ:St} {H:Hp} {Q:VK} {D:Ends} {QB:Bool->Hp->Prop} {QL:List V->Hp->Prop} {v:V} {i j:Int} {n:Nat} {a b c:EX K} {as:List (EX K)} {ss:List (SX K)} {s:SX K} {op:Operator} {co:CmpOp} {x:Str} {sp:Sp}
theorem i_seq (h:s.t E {D with nx:=tSs ss E D} σ H):tSs (s::ss) E D σ H:=h
theorem i_nil (h:D.nx σ H):tSs ([]:List (SX K)) E D σ H:=h
theorem i_set (h:a.t E σ H λx H1=>D.nx (σ.set n (some x)) H1):(set n a).t E D σ H:=h
theorem i_ret (h:a.t E σ H D.rt):(ret a).t E D σ H:=h
theorem i_ex (h:a.t E σ H λ_ H1=>D.nx σ H1):(ex a).t E D σ H:=h
theorem i_if {t f:List (SX K)} (h:c.tt E σ H λb H1=>br b (tSs t E D σ H1) (tSs f E D σ H1)):(ifS c t f).t E D σ H:=h
theorem i_var (e:σ[n]?=some (some v)) (h:Q v H):(var n:EX K).t E σ H Q:=by
 show tV n σ H Q;unfold tV;rw[e];exact h
theorem i_cst (h:Q v H):(cst v:EX K).t E σ H Q:=h
theorem i_glb (h:Q v H):(glb x v:EX K).t E σ H Q:=h
theorem i_bin (h:a.t E σ H λx H1=>b.t E σ H1 λy H2=>rBin K op x y H2 Q):(bin op a b).t E σ H Q:=h
theorem i_add (h:Q (.int (i+j)) H):rBin K .Add (.int i) (.int j) H Q:=h
theorem i_sub (h:Q (.int (i - j)) H):rBin K .Sub (.int i) (.int j) H Q:=h
theorem i_mul (c:CMul i j) (h:Q (.int (i * j)) H):rBin K .Mult (.int i) (.int j) H Q:=⟨c.ok,h⟩
theorem i_mulS {z:Str} (c:CMulS z j) (h:Q (.str (Txt.mul z j)) H):rBin K .Mult (.str z) (.int j) H Q:=⟨c,h⟩
theorem i_div (c:CDiv i j) (h:Q (.int (i / j)) H):rBin K .FloorDiv (.int i) (.int j) H Q:=⟨⟨c.1,by have:=c.2;lia⟩,h⟩
theorem i_mod (c:0<j) (h:Q (.int (i % j)) H):rBin K .Mod (.int i) (.int j) H Q:=⟨c,h⟩
theorem i_pow (c:CPow i j) (h:Q (.int (i ^ j.toNat)) H):rBin K .Pow (.int i) (.int j) H Q:=⟨L2.L3.CPow.pw c,h⟩
theorem i_addS {y z:Str} (c:y.length+z.length<=sizeLine) (h:Q (.str (y++z)) H):rBin K .Add (.str y) (.str z) H Q:=⟨c,h⟩
theorem i_cmp (h:a.t E σ H λx H1=>b.t E σ H1 λy H2=>rCmp K co x y H2 Q):(cmp co a b).t E σ H Q:=h
theorem j_cmp (h:a.t E σ H λx H1=>b.t E σ H1 λy H2=>rB (rCmp K co) x y H2 QB):(cmp co a b).tt E σ H QB:=h
theorem i_gt (h:Q (.bl (decide (j<i))) H):rCmp K .Gt (.int i) (.int j) H Q:=h
theorem dI:decide (V.int i=V.int j)=decide (i=j):=decide_eq_decide.mpr ⟨λz=>V.int.inj z,λz=>by rw[z]⟩
theorem dS {y z:Str}:decide (V.str y=V.str z)=decide (y=z):=decide_eq_decide.mpr ⟨λe=>V.str.inj e,λe=>by rw[e]⟩
theorem i_eq (h:Q (.bl (decide (i=j))) H):rCmp K .Eq (.int i) (.int j) H Q:=.inl ⟨rfl,by rw[dI];exact h⟩
theorem i_eqS {y z:Str} (h:Q (.bl (decide (y=z))) H):rCmp K .Eq (.str y) (.str z) H Q:=.inl ⟨rfl,by rw[dS];exact h⟩
theorem j_isN (h:QB (decide (v=.non)) H):rB (rCmp K .Is) v .non H QB:=h
theorem j_isnN (h:QB (!decide (v=.non)) H):rB (rCmp K .IsNot) v .non H QB:=h
theorem j_lt (h:QB (decide (i<j)) H):rB (rCmp K .Lt) (.int i) (.int j) H QB:=h
theorem j_le (h:QB (decide (i<=j)) H):rB (rCmp K .LtE) (.int i) (.int j) H QB:=h
theorem j_gt (h:QB (decide (j<i)) H):rB (rCmp K .Gt) (.int i) (.int j) H QB:=h
theorem j_eq (h:QB (decide (i=j)) H):rB (rCmp K .Eq) (.int i) (.int j) H QB:=.inl ⟨rfl,by show QB _ H;rw[dI];exact h⟩
theorem j_tru (e:a.tt E=truT K (a.t E)) (h:a.t E σ H λx H1=>rTru K x H1 QB):a.tt E σ H QB:=by rw[e];exact h
theorem j_not (h:a.tt E σ H λb H1=>QB (!b) H1):(notE a).tt E σ H QB:=h
theorem i_not (h:a.t E σ H λx H1=>rTru K x H1 λb H2=>Q (.bl (!b)) H2):(notE a).t E σ H Q:=h
theorem i_truB {k:Bool} (h:QB k H):rTru K (.bl k) H QB:=h
theorem i_and (h:a.t E σ H λx H1=>rTru K x H1 λk H2=>br k (tBop K .And E (b.t E) as σ H2 Q) (Q x H2)):(andE a (b::as)).t E σ H Q:=h
theorem j_and (h:a.tt E σ H λk H1=>br k (tBopT K .And E (b.tt E) as σ H1 QB) (QB false H1)):(andE a (b::as)).tt E σ H QB:=h
theorem j_or (h:a.tt E σ H λk H1=>br k (QB true H1) (tBopT K .Or E (b.tt E) as σ H1 QB)):(orE a (b::as)).tt E σ H QB:=h
theorem i_bop0 {bo:BoolOp} {t:TE} (h:t σ H Q):tBop K bo E t [] σ H Q:=h
theorem j_bop0 {bo:BoolOp} {t:TT} (h:t σ H QB):tBopT K bo E t [] σ H QB:=h
theorem j_bopA {t:TT} (h:t σ H λk H1=>br k (tBopT K .And E (b.tt E) as σ H1 QB) (QB false H1)):tBopT K .And E t (b::as) σ H QB:=h
theorem i_bopA {t:TE} (h:t σ H λx H1=>rTru K x H1 λk H2=>br k (tBop K .And E (b.t E) as σ H2 Q) (Q x H2)):tBop K .And E t (b::as) σ H Q:=h
theorem i_acons (h:a.t E σ H λx H1=>tAs as E σ H1 λxs H2=>QL (x::xs) H2):tAs (a::as) E σ H QL:=h
theorem i_anil (h:QL [] H):tAs ([]:List (EX K)) E σ H QL:=h
theorem i_call (h:tAs as E σ H λvs H1=>sp vs H1 Q (E σ)):(call x sp as).t E σ H Q:=h
theorem i_len (h:a.t E σ H λx H1=>rLen K [x] H1 Q):(len a).t E σ H Q:=h
theorem i_lenS {z:Str} (c:z.length<=sizeLine) (h:Q (.int z.length) H):rLen K [.str z] H Q:=⟨c,h⟩
theorem i_lenL {p:Addr} {xs:List V} (c:SqL K H p xs) (h:Q (.int xs.length) H):rLen K [.ref p] H Q:=.inl ⟨_,.inl ⟨xs,c,rfl⟩,h⟩
theorem i_lenT {p:Addr} {xs:List V} (c:SqT K H p xs) (h:Q (.int xs.length) H):rLen K [.ref p] H Q:=.inl ⟨_,.inr ⟨xs,c,rfl⟩,h⟩
theorem i_sum (h:a.t E σ H λx H1=>rSum [x] H1 Q):(sum a).t E σ H Q:=h
theorem i_min (h:a.t E σ H λx H1=>b.t E σ H1 λy H2=>rMin2 [x,y] H2 Q):(min2 a b).t E σ H Q:=h
theorem i_max (h:a.t E σ H λx H1=>b.t E σ H1 λy H2=>rMax2 [x,y] H2 Q):(max2 a b).t E σ H Q:=h
theorem i_min2 (h:Q (.int (min i j)) H):rMin2 [.int i,.int j] H Q:=h
theorem i_max2 (h:Q (.int (max i j)) H):rMax2 [.int i,.int j] H Q:=h
theorem i_isi (h:a.t E σ H λx H1=>b.t E σ H1 λy H2=>rIsiV K [x,y] H2 Q):(isi a b).t E σ H Q:=h
theorem i_tyStr (h:Q (.ty "str") H):(tyStr:EX K).t E σ H Q:=h
theorem i_tyInt (h:Q (.ty "int") H):(tyInt:EX K).t E σ H Q:=h
theorem i_tyBool (h:Q (.ty "bool") H):(tyBool:EX K).t E σ H Q:=h
theorem i_listE (h:a.t E σ H λx H1=>rListOf K [x] H1 Q):(listE a).t E σ H Q:=h
theorem i_intE (h:a.t E σ H λx H1=>rInt1 [x] H1 Q):(intE a).t E σ H Q:=h
theorem i_ix (h:a.t E σ H λx H1=>b.t E σ H1 λy H2=>rIxU K x y H2 Q):(ix a b).t E σ H Q:=h
theorem i_ixS {z:Str} {k:Nat} (c:z.length<=sizeLine) (e:atI z.cps.toList i=some k) (h:Q (sgn k) H):rIxU K (.str z) (.int i) H Q:=⟨c,k,e,h⟩
theorem i_ixL {p:Addr} {xs:List V} (c:SqL K H p xs) (e:atI xs i=some v) (h:Q v H):rIxU K (.ref p) (.int i) H Q:=.inl ⟨p,xs,i,v,rfl,rfl,c,e,h⟩
theorem i_ixT {p:Addr} {xs:List V} (c:SqT K H p xs) (e:atI xs i=some v) (h:Q v H):rIxU K (.ref p) (.int i) H Q:=.inr (.inl ⟨p,xs,i,v,rfl,rfl,c,e,h⟩)
theorem i_ixD {p:Addr} {y:V} (c:DGet H p y (some v)) (h:Q v H):rIxU K (.ref p) y H Q:=.inr (.inr ⟨v,c,h⟩)
theorem i_slc {lo hi:Option (EX K)} (h:a.t E σ H λx H1=>tO E lo σ H1 λl H2=>tO E hi σ H2 λu H3=>rSlU K x l u H3 Q):(slc a lo hi).t E σ H Q:=h
theorem i_o0 {QO:Option Int->Hp->Prop} (h:QO none H):tO E (none:Option (EX K)) σ H QO:=h
theorem i_o1 {QO:Option Int->Hp->Prop} (h:a.t E σ H (rO QO)):tO E (some a) σ H QO:=h
theorem i_rO {QO:Option Int->Hp->Prop} (h:QO (some i) H):rO QO (.int i) H:=h
theorem i_slS {z:Str} {lo hi:Option Int} (c:z.length<=sizeLine) (h:Q (.str (Txt.slice z lo hi)) H):rSlU K (.str z) lo hi H Q:=⟨c,h⟩
theorem i_slL {p:Addr} {xs:List V} {lo hi:Option Int} (c:SqL K H p xs) (h:∀q,H q=none->Q (.ref q) (upd H q (.lst (cutV xs lo hi)))):rSlU K (.ref p) lo hi H Q:=.inl ⟨p,xs,rfl,c,h⟩
theorem i_lst (h:tAs as E σ H λxs H1=>xs.length<=sizeLine/\∀p,H1 p=none->Q (.ref p) (upd H1 p (.lst xs))):(lst as).t E σ H Q:=h
theorem i_tup (h:tAs as E σ H λxs H1=>xs.length<=sizeLine/\∀p,H1 p=none->Q (.ref p) (upd H1 p (.tup xs))):(tup as).t E σ H Q:=h
theorem i_join {ho:a.s≠.zc} (h:a.t E σ H λx H1=>RS (rJoinU K) (tAs [b] E) x σ H1 Q):(m_join a b ho).t E σ H Q:=h
theorem i_count {ho:a.s≠.zc} (h:a.t E σ H λx H1=>RS rCountU (tAs [b] E) x σ H1 Q):(m_count a b ho).t E σ H Q:=h
theorem i_index {ho:a.s≠.zc} (h:a.t E σ H λx H1=>RS rIndexU (tAs [b] E) x σ H1 Q):(m_index a b ho).t E σ H Q:=h
theorem i_append {ho:a.s≠.zc} (h:a.t E σ H λx H1=>RL K rAppend (tAs [b] E) x σ H1 Q):(m_append a b ho).t E σ H Q:=h
theorem i_RS {r:Str->List V->Hp->VK->Prop} {t:TA} {z:Str} (h:t σ H λys H2=>r z ys H2 Q):RS r t (.str z) σ H Q:=h
theorem i_RL {r:V->List V->Hp->VK->Prop} {t:TA} {p:Addr} {xs:List V} (c:SqL K H p xs) (h:t σ H λys H2=>r (.ref p) ys H2 Q):RL K r t (.ref p) σ H Q:=⟨⟨xs,c⟩,h⟩
theorem i_count1 {z:Str} {k:Nat} (h:Q (.int (((ls z).count k:Nat):Int)) H):rCountU z [sgn k] H Q:=by
 show Q (.int (Txt.count z ⟨#[k]⟩)) H;rw[count_one];exact h
theorem i_indexU {z y:Str} {k:Nat} {r:List Nat} (e:Builtin.Str.occurrences z y 0 z.length 1=k::r) (h:Q (.int k) H):rIndexU z [.str y] H Q:=⟨k,r,e,h⟩
theorem i_appendU {p:Addr} {xs:List V} {y:V} (e:H p=some (.lst xs)) (c:xs.length<sizeLine) (h:Q .non (upd H p (.lst (xs++[y])))):rAppend (.ref p) [y] H Q:=⟨p,xs,y,rfl,rfl,e,c,h⟩
def LoopW (J:It) (g:TG) (tb:TS) (D:Ends) (σ:St) (H:Hp):Prop:=∃W:Nat->Nat->St->Hp->Prop,(∃m,W 0 m σ H)/\∀i m σ H,W i m σ H->
 (J.stop i H/\D.nx σ H)\/(J.go i H/\∃N:St->Hp->Prop,(∀σ' H',N σ' H'->∃m',m'<m/\W (i+1) m' σ' H')/\∀x H',J.yld i H x H'->g x σ H' λσ2 H2=>tb {D with nx:=N,ct:=N,bk:=D.nx} σ2 H2)
theorem i_for {tg:TX K} {it:IX K} {bd:List (SX K)} (h:it.t E σ H λJ H1=>LoopW J tg.g (tSs bd E) D σ H1):(forS tg it bd).t E D σ H:=h
theorem i_rng {R:It->Hp->Prop} (h:tAs (a::as) E σ H λvs H1=>rRng vs H1 R):(iRng a as).t E σ H R:=h
theorem i_rng1 {R:It->Hp->Prop} (c:-(2 ^ 62)<=j/\j<2 ^ 62) (h:R (Itr 0 j.toNat) H):rRng [.int j] H R:=⟨c,h⟩
theorem i_zip {R:It->Hp->Prop} (h:tAs [a,b] E σ H λvs H1=>rZip K vs H1 R):(iZip a b).t E σ H R:=h
theorem i_zipL {R:It->Hp->Prop} {p r:Addr} {xs ys:List V} (c:SqL K H p xs) (d:SqL K H r ys) (h:R (Itz K p r) H):rZip K [.ref p,.ref r] H R:=⟨⟨⟨xs,c⟩,ys,d⟩,h⟩
theorem i_iseq {R:It->Hp->Prop} (h:a.t E σ H λx H1=>rIter K x H1 R):(iSeq a).t E σ H R:=h
theorem i_itS {R:It->Hp->Prop} {z:Str} (h:R (Its z) H):rIter K (.str z) H R:=h
theorem i_itL {R:It->Hp->Prop} {p:Addr} {xs:List V} (c:SqL K H p xs) (h:R (Itl K p) H):rIter K (.ref p) H R:=.inl ⟨⟨xs,c⟩,h⟩
theorem i_itT {R:It->Hp->Prop} {p:Addr} {xs:List V} (c:SqT K H p xs) (h:R (Itt K p) H):rIter K (.ref p) H R:=.inr ⟨⟨xs,c⟩,h⟩
theorem loop_yl {J:It} {P:Hp->Prop} {xs:List V} {g:TG} {tb:TS} (Y:Yl J P xs) (Pv:Nat->St->Hp->Prop) (h0:Pv 0 σ H) (hl:∀i σ H,i<=xs.length->Pv i σ H->P H)
  (hs:∀i x σ H,xs[i]?=some x->Pv i σ H->g x σ H λσ2 H2=>tb {D with nx:=Pv (i+1),ct:=Pv (i+1),bk:=D.nx} σ2 H2) (hd:∀σ H,Pv xs.length σ H->D.nx σ H):LoopW J g tb D σ H:=for_yl Y Pv h0 hl hs hd
theorem loop_rng {lo:Int} {k:Nat} {g:TG} {tb:TS} (Pv:Nat->St->Hp->Prop) (h0:Pv 0 σ H)
  (hs:∀i σ H,i<k->Pv i σ H->g (.int (lo+(i:Nat))) σ H λσ2 H2=>tb {D with nx:=Pv (i+1),ct:=Pv (i+1),bk:=D.nx} σ2 H2) (hd:∀σ H,Pv k σ H->D.nx σ H):LoopW (Itr lo k) g tb D σ H:=for_range Pv h0 hs hd
theorem i_nam {QS:St->Hp->Prop} (h:QS (σ.set n (some v)) H):(nam n:TX K).g v σ H QS:=h
theorem i_dzip (h:a.t E σ H λx H1=>b.t E σ H1 λy H2=>∃(z:Str) (t:Addr) (ws:List V),[x,y]=[V.str z,.ref t]/\(SqT K H2 t ws\/SqL K H2 t ws)/\z.cps.size=ws.length/\z.cps.size<=1000/\z.cps.all (·<128)=true/\(∀i j,i<z.cps.size->j<z.cps.size->zkey z i=zkey z j->i=j)/\
 ∀d,H2 d=none->Q (.ref d) (upd H2 d (.dK (zipKV z ws)))):(dzip a b).t E σ H Q:=h
theorem loop_lst {p:Addr} {xs:List V} {g:TG} {tb:TS} (hp:SqL K H p xs) (S:Nat->St->Prop) (h0:S 0 σ)
  (hs:∀i x σ1 H1,xs[i]?=some x->S i σ1->Same H H1->g x σ1 H1 λσ2 H2=>tb {D with nx:=λσ3 H3=>S (i+1) σ3/\Same H H3,ct:=λσ3 H3=>S (i+1) σ3/\Same H H3,bk:=D.nx} σ2 H2) (hd:∀σ1 H1,S xs.length σ1->Same H H1->D.nx σ1 H1):
  LoopW (Itl K p) g tb D σ H:=for_same (yl_list (xs:=xs)) (λH' e=>e.seq hp) S h0 hs hd
theorem loop_rngS {lo:Int} {k:Nat} {g:TG} {tb:TS} (S:Nat->St->Prop) (h0:S 0 σ)
  (hs:∀i σ1 H1,i<k->S i σ1->Same H H1->g (.int (lo+(i:Nat))) σ1 H1 λσ2 H2=>tb {D with nx:=λσ3 H3=>S (i+1) σ3/\Same H H3,ct:=λσ3 H3=>S (i+1) σ3/\Same H H3,bk:=D.nx} σ2 H2) (hd:∀σ1 H1,S k σ1->Same H H1->D.nx σ1 H1):
  LoopW (Itr lo k) g tb D σ H:=loop_rng (λi σ1 H1=>S i σ1/\Same H H1) ⟨h0,Same.refl _⟩ (λi σ1 H1 hi p=>hs i σ1 H1 hi p.1 p.2) λσ1 H1 p=>hd σ1 H1 p.1 p.2
theorem i_unp2 {QS:St->Hp->Prop} {k l:Nat} {p:Addr} {x y:V} (c:SqT K H p [x,y]) (h:QS ((σ.set k (some x)).set l (some y)) H):(unp [k,l]:TX K).g (.ref p) σ H QS:=
 ⟨p,[x,y],rfl,c,rfl,x,[y],rfl,y,[],rfl,rfl,h⟩
theorem comp_base {J:It} {P:Hp->Prop} {items:List V} (Y:Yl J P items) {tc:TT} {te:TE} {is:List Nat} {D:Addr} (keep:Nat->Bool) (f:Nat->V) (hD:H D=none) (hP:∀H1,Same H H1->P H1) (hz:items.length<=sizeLine)
  (test:∀(i:Nat) (x:V) (H1:Hp) (QB:Bool->Hp->Prop),items[i]?=some x->Same H H1->(∀H2,Same H1 H2->QB (keep i) H2)->tc (some x::capV is σ) H1 QB)
  (step:∀(i:Nat) (x:V) (H1:Hp) (Q':VK),items[i]?=some x->keep i=true->Same H H1->(∀H3,Same H1 H3->Q' (f i) H3)->te (some x::capV is σ) H1 Q')
  (fin:∀H1,Same H H1->H1 D=some (.lst (((List.range items.length).filter keep).map f))->Q (.ref D) H1):CompBodyI J (nam 0:TX K).g tc te 1 is σ D H Q:=by
 have hn:∀i,(((List.range i).filter keep).map f).length<=i:=λi=>by
  rw[List.length_map];exact Nat.le_trans (List.length_filter_le _ _) (by rw[List.length_range];exact Nat.le_refl _)
 refine ⟨λi m σ' H1=>m=items.length - i/\i<=items.length/\(∃a,σ'=a::capV is σ)/\Same H H1/\H1 D=some (.lst (((List.range i).filter keep).map f)),⟨items.length,by simp,Nat.zero_le _,⟨none,rfl⟩,λb o e=>by rw[upd_ne (ne_of_none e hD)];exact e,upd_same⟩,?_⟩;rintro i m σ' H1 ⟨rfl,hi,⟨a,rfl⟩,hS,hO⟩;have p:=hP H1 hS;by_cases hlt:i<items.length
 ·refine .inr ⟨Y.go i H1 p hlt,λx H' hy=>?_⟩;obtain ⟨e,hx⟩:=Y.yld i H1 x H' p hlt hy;subst e;show tc (some x::capV is σ) H' _;refine test i x H' _ hx hS λH2 s2=>⟨λhk=>?_,λhk=>?_⟩
  ·refine step i x H2 _ hx hk (hS.trans s2) λH3 s3=>?_;refine ⟨_,s3 _ _ (s2 _ _ hO),Nat.lt_of_le_of_lt (hn i) (Nat.lt_of_lt_of_le hlt hz),items.length - (i+1),by lia,rfl,hlt,⟨_,rfl⟩,λb o q=>?_,?_⟩
   ·rw[upd_ne (ne_of_none q hD)];exact s3 _ _ (s2 _ _ (hS b o q))
   ·rw[upd_same,List.range_succ,List.filter_append,List.map_append,List.filter_cons,if_pos hk];rfl
  ·refine ⟨items.length - (i+1),by lia,rfl,hlt,⟨_,rfl⟩,hS.trans s2,?_⟩;rw[s2 _ _ hO,List.range_succ,List.filter_append,List.filter_cons,if_neg (by rw[hk];exact Bool.false_ne_true),List.filter_nil,List.append_nil]
 ·have e:i=items.length:=by lia
  subst e;exact .inl ⟨Y.stop H1 p,fin H1 hS hO⟩
theorem filter_all {α:Type} (l:List α):(l.filter λ_=>true)=l:=List.filter_eq_self.mpr λ_ _=>rfl
theorem comp_all {J:It} {P:Hp->Prop} {items:List V} (Y:Yl J P items) {te:TE} {is:List Nat} {D:Addr} (f:Nat->V) (hD:H D=none) (hP:∀H1,Same H H1->P H1) (hz:items.length<=sizeLine)
  (step:∀(i:Nat) (x:V) (H1:Hp) (Q':VK),items[i]?=some x->Same H H1->(∀H3,Same H1 H3->Q' (f i) H3)->te (some x::capV is σ) H1 Q')
  (fin:∀H1,Same H H1->H1 D=some (.lst ((List.range items.length).map f))->Q (.ref D) H1):CompBodyI J (nam 0:TX K).g (cT (none:Option (EX K))) te 1 is σ D H Q:=
 comp_base Y (λ_=>true) f hD hP hz (λ_ _ _ _ _ _ q=>q _ (Same.refl _)) (λi x H1 Q' hx _ hS q=>step i x H1 Q' hx hS q) λH1 hS hO=>fin H1 hS (by rw[filter_all] at hO;exact hO)
theorem comp_rng {lo:Int} {m:Nat} {te:TE} {is:List Nat} {D:Addr} (f:Nat->V) (hD:H D=none) (hz:m<=sizeLine)
  (step:∀(i:Nat) (H1:Hp) (Q':VK),i<m->Same H H1->(∀H3,Same H1 H3->Q' (f i) H3)->te (some (.int (lo+(i:Nat)))::capV is σ) H1 Q')
  (fin:∀H1,Same H H1->H1 D=some (.lst ((List.range m).map f))->Q (.ref D) H1):CompBodyI (Itr lo m) (nam 0:TX K).g (cT (none:Option (EX K))) te 1 is σ D H Q:=by
 refine comp_all yl_rng f hD (λ_ _=>trivial) (by rw[rngV_len];exact hz) (λi x H1 Q' hx hS q=>?_) (λH1 hS hO=>fin H1 hS (by rw[rngV_len] at hO;exact hO));obtain ⟨hi,rfl⟩:=rngV_get hx;exact step i H1 Q' hi hS q
theorem range_get {α β:Type} (l:List α) (f:α->β) (d:β):((List.range l.length).map λi=>(l[i]?.map f).getD d)=l.map f:=by
 refine List.ext_getElem? λi=>?_;rw[List.getElem?_map,List.getElem?_map];by_cases hi:i<l.length
 ·rw[List.getElem?_range hi];show some ((l[i]?.map f).getD d)=l[i]?.map f;rw[List.getElem?_eq_getElem hi];rfl
 ·rw[List.getElem?_eq_none_iff.mpr (by rw[List.length_range];lia),List.getElem?_eq_none_iff.mpr (by lia)];rfl
theorem comp_items {J:It} {P:Hp->Prop} {xs:List V} (Y:Yl J P xs) {te:TE} {is:List Nat} {D:Addr} (f:V->V) (hD:H D=none) (hP:∀H1,Same H H1->P H1) (hz:xs.length<=sizeLine)
  (step:∀(i:Nat) (x:V) (H1:Hp) (Q':VK),xs[i]?=some x->Same H H1->(∀H3,Same H1 H3->Q' (f x) H3)->te (some x::capV is σ) H1 Q')
  (fin:∀H1,Same H H1->H1 D=some (.lst (xs.map f))->Q (.ref D) H1):CompBodyI J (nam 0:TX K).g (cT (none:Option (EX K))) te 1 is σ D H Q:=by
 refine comp_all Y (λi=>(xs[i]?.map f).getD .non) hD hP hz (λi x H1 Q' hx hS q=>?_) λH1 hS hO=>fin H1 hS (by rw[range_get] at hO;exact hO);rw[hx] at q;exact step i x H1 Q' hx hS q
theorem comp_str {z:Str} {te:TE} {is:List Nat} {D:Addr} (f:Nat->V) (hD:H D=none) (hz:z.length<=sizeLine)
  (step:∀(i c:Nat) (H1:Hp) (Q':VK),z.cps.toList[i]?=some c->Same H H1->(∀H3,Same H1 H3->Q' (f c) H3)->te (some (sgn c)::capV is σ) H1 Q')
  (fin:∀H1,Same H H1->H1 D=some (.lst (z.cps.toList.map f))->Q (.ref D) H1):CompBodyI (Its z) (nam 0:TX K).g (cT (none:Option (EX K))) te 1 is σ D H Q:=by
 refine comp_all yl_str (λi=>(z.cps.toList[i]?.map f).getD .non) hD (λ_ _=>trivial) (by rw[sgnV_len];exact hz) (λi x H1 Q' hx hS q=>?_) λH1 hS hO=>fin H1 hS (by
  rw[show (sgnV z).length=z.cps.toList.length by rw[sgnV_len];simp,range_get] at hO;exact hO)
 unfold sgnV at hx;rw[List.getElem?_map] at hx;cases e:z.cps.toList[i]? with
 |none=>rw[e] at hx;cases hx
 |some c=>
  rw[e] at hx q;have hx':sgn c=x:=Option.some.inj hx;subst hx';exact step i c H1 Q' e hS q
theorem sqT_same {p:Addr} {xs:List V} (hp:SqT K H p xs) (H1:Hp) (hS:Same H H1):SqT K H1 p xs:=by
 rcases hp with (h|⟨o,h⟩)|h
 ·exact .inl (.inl (hS _ _ h))
 ·exact .inl (.inr ⟨o,hS _ _ h⟩)
 ·exact .inr h
theorem comp_lst {p:Addr} {xs:List V} {te:TE} {is:List Nat} {D:Addr} (f:V->V) (hp:SqL K H p xs) (hD:H D=none) (hz:xs.length<=sizeLine)
  (step:∀(i:Nat) (x:V) (H1:Hp) (Q':VK),xs[i]?=some x->Same H H1->(∀H3,Same H1 H3->Q' (f x) H3)->te (some x::capV is σ) H1 Q')
  (fin:∀H1,Same H H1->H1 D=some (.lst (xs.map f))->Q (.ref D) H1):CompBodyI (Itl K p) (nam 0:TX K).g (cT (none:Option (EX K))) te 1 is σ D H Q:=comp_items (yl_list (xs:=xs)) f hD (λH1 hS=>hS.seq hp) hz step fin
theorem i_compC {elt:EX K} {c:Option (EX K)} {tg:TX K} {it:IX K} {own caps:List Str} {is:List Nat} (h:it.t E σ H λJ H1=>∀D,H1 D=none->CompBodyI J tg.g (cT c) (elt.t E0) own.length is σ D H1 Q):(compC c elt tg it own caps is).t E σ H Q:=h
theorem i_comp {elt:EX K} {tg:TX K} {it:IX K} {own caps:List Str} {is:List Nat} (h:it.t E σ H λJ H1=>∀D,H1 D=none->CompBodyI J tg.g (cT (none:Option (EX K))) (elt.t E0) own.length is σ D H1 Q):(comp elt tg it own caps is).t E σ H Q:=h
theorem i_setC {c:CPX K} (h:c.t E σ H λx H1=>D.nx (σ.set n (some x)) H1):(setC n c).t E D σ H:=h
end
end
def FD (K:Fg) (x:Str) (st:Stmt):Prop:=∃(f:Addr) (fd:FuncData),Fun K x x st f fd/\PySem.W.nsIn K mainGlobals x=some (some (.ref f))
theorem fd_mk {K:Fg} {x:Str} {st:Stmt} {f:Addr} {oc:Value} {od an:Option Addr} {osl:Array (Option Value)} {kV doc pm cdv ct:Value} (a:PySem.W.nsIn K mainGlobals x=some (some (.ref f)))
  (l:K.lookup f=some ⟨oc,od,.func (PySem.W.fnOf x x (defArgs st) (defBody st) (defScope st) .none kV doc pm an cdv ct),osl⟩) (c:PySem.W.codeIn K cdv x=true) (k:PySem.W.keepIn K (.ref f)=true):FD K x st:=⟨f,_,fun_mk l c k,a⟩
def AllN (K:Fg):List Str->Prop
 |[]=>True
 |x::xs=>PySem.W.nsIn K mainGlobals x=some none/\AllN K xs
theorem all_none {K:Fg} {h:Heap} {mg:Str->Option Value} (X:K.In h) (G:h.Ns mainGlobals mg):∀{xs:List Str},AllN K xs->∀x∈xs,mg x=none
 |[],_,_,hx=>nomatch hx
 |y::ys,z,x,hx=>by
  rcases List.mem_cons.mp hx with rfl|hx
  ·exact PySem.W.mg_none_of X G z.1
  ·exact all_none X G z.2 x hx
def GC (K:Fg) (x:Str) (v:V):Prop:=∃u,PySem.W.nsIn K mainGlobals x=some (some u)/\RelV v u
theorem gc_at {K:Fg} {h:Heap} {mg:Str->Option Value} {P:Program} {w:World} {base:Heap} {A:Around} {x:Str} {v:V} (X:K.In h) (G:h.Ns mainGlobals mg) (c:GC K x v):GlAt ⟨P,w,K,mg,base,A⟩ x v:=by
 obtain ⟨u,h1,h2⟩:=c;exact ⟨u,PySem.W.mg_of X G h1,h2⟩
theorem gc_str {K:Fg} {x z:Str} {t:Tok} (h:PySem.W.nsIn K mainGlobals x=some (some (.str z t))):GC K x (.str z):=⟨_,h,t,rfl⟩
theorem gc_int {K:Fg} {x:Str} {i:Int} {t:Tok} (h:PySem.W.nsIn K mainGlobals x=some (some (.int i t))):GC K x (.int i):=⟨_,h,t,rfl⟩
section
variable {K:Fg} {P:Program} {w:World} {h base:Heap} {mg:Str->Option Value} {x:Str} {st:Stmt} {N ps:List Str} {k:Nat} {sp:Sp}
theorem dn_of (F:FD K x st) (X:K.In h) (G:h.Ns mainGlobals mg) (bl:∀x∈blts,mg x=none) (b:List (SX K)) (S:FnScope N ps (defScope st)) (hm:mSs b ⟨N,(defScope st).names,true⟩ (defBody st)=true)
  (hb:∀(kV doc pm:Value) (an:Option Addr) (cdv ct:Value) (us:List Value),us.length=ps.length->bindArgs (PySem.W.fnOf x x (defArgs st) (defBody st) (defScope st) .none kV doc pm an cdv ct) ⟨us,[]⟩=pure (ps.zip us))
  (len:∀vs H Q E,sp vs H Q E->vs.length=ps.length) (t:∀vs H Q E,sp vs H Q E->tSs b (λ_=>E) {nx:=λ_ H'=>Q .non H',rt:=Q} (start N vs) H) (hq:∀A,Room k A->qSs b ⟨P,w,K,mg,base,A⟩):DnK P w K mg base (k+1) x sp:=by
 obtain ⟨f,fd,F,a⟩:=F;exact ⟨f,fd,ps,def_ok F b S hm bl hq len t,F.binds hb,F.kp,PySem.W.mg_of X G a⟩
end
theorem by1 {Z:List Value->Prop} (h:∀a:Value,Z [a]) (us:List Value) (hl:us.length=1):Z us:=match us,hl with|[_],_=>h _
theorem by2 {Z:List Value->Prop} (h:∀a b:Value,Z [a,b]) (us:List Value) (hl:us.length=2):Z us:=match us,hl with|[_,_],_=>h _ _
theorem by3 {Z:List Value->Prop} (h:∀a b c:Value,Z [a,b,c]) (us:List Value) (hl:us.length=3):Z us:=match us,hl with|[_,_,_],_=>h _ _ _
theorem by4 {Z:List Value->Prop} (h:∀a b c d:Value,Z [a,b,c,d]) (us:List Value) (hl:us.length=4):Z us:=match us,hl with|[_,_,_,_],_=>h _ _ _ _
theorem by5 {Z:List Value->Prop} (h:∀a b c d e:Value,Z [a,b,c,d,e]) (us:List Value) (hl:us.length=5):Z us:=match us,hl with|[_,_,_,_,_],_=>h _ _ _ _ _
def clsAt (K:Fg) (x:Str):Addr:=match PySem.W.nsIn K mainGlobals x with
 |some (some (.ref C))=>C
 |_=>0
abbrev mroVE:List Value:=[.type "ValueError",.type "Exception",.type "BaseException",.type "object"]
structure ExcK (K:Fg) (x:Str):Prop where
 at_:PySem.W.nsIn K mainGlobals x=some (some (.ref (clsAt K x)))
 exc:PySem.W.excIn K (clsAt K x) mroVE "ValueError.__new__"=true
section
variable {K:Fg}
theorem exc_obj {x:Str} {h:Heap} (k:ExcK K x) (X:K.In h):∃bm N nm q bs hdct sn sub ab col dd k0 k1 k2 k3 k5 mN,h.get? (clsAt K x)=some (excClassObj nm q (clsAt K x) N bs bm hdct sn sub ab col dd k0 k1 k2 k3 k5 "ValueError.__new__")/\h.Ns N mN/\mN "__init__"=none/\OwnTail h mroVE bm:=by
 have q:=k.exc;generalize clsAt K x=C at q;unfold PySem.W.excIn at q;split at q
 ·rename_i dd cd sl ho;split at q
  ·rename_i C' bm k0 k1 k2 k3 n k5 hm hs;simp only [Bool.and_eq_true,beq_iff_eq,Bool.not_eq_true'] at q;obtain ⟨⟨⟨⟨⟨rfl,rfl⟩,hdel⟩,ht⟩,hok⟩,hni⟩:=q;obtain ⟨nm,bs,mro,ns,qn,hd,sn,sub,ab,col,del⟩:=cd;obtain ⟨l⟩:=sl;dsimp only at hm hs hdel hok hni;subst hm hdel hs;exact ⟨bm,ns,nm,qn,bs,hd,sn,sub,ab,col,dd,k0,k1,k2,k3,k5,_,X _ _ ho,.of_isNs (PySem.W.isNs_of_in X hok),PySem.W.nsMap_none_of_in X hok hni,PySem.W.tail_of_in X ht⟩
  ·cases q
 ·cases q
def raiseO (x:Str) (a:EX K) (as:List (EX K)):SX K where
 t:=λE _ σ H=>tAs (a::as) E σ H λvs H1=>vs.length<=sizeLine/\E σ (.ref (clsAt K x)) none H1
 m:=λC s=>match s with
  | .Raise (some (.Call (.Name y _) es [] _)) none _=>(C.cm&&glB C x y)&&mAs (a::as) C es
  |_=>false
 q:=λR=>(R.mg x=some (.ref (clsAt K x))/\ExcK K x)/\qAs (a::as) R
 ok:=λX C E s hK G hE hq hm=>by
  subst hK;split at hm
  ·rename_i y py es p pos;simp only [Bool.and_eq_true] at hm;obtain ⟨⟨hcm,h1⟩,h2⟩:=hm;have e:=glB_eq h1;subst e;obtain ⟨g,d⟩:=glB_gl G h1;obtain ⟨⟨hg,ek⟩,hqa⟩:=hq;cases es with
   |nil=>cases h2
   |cons e es=>
    intro pins s σ H D I h;have st:=shp_star (env:=X.env) (es:=es) (a.sok C e (mAs_cons h2).1);have pl:=as_plain (env:=X.env) (pos:=p) as es (mAs_cons h2).2;obtain ⟨bm,N,nm,q,bs,hdct,sn,sub,ab,col,dd,k0,k1,k2,k3,k5,mN,hC,hN,hni,T⟩:=exc_obj ek I.ok.mod.kin;refine wpAny_Raise_call_subT (C:=clsAt X.K y) (nm:=nm) (q:=q) (N:=N) (bs:=bs) (bm:=bm) (hdct:=hdct) (sn:=sn) (sub:=sub) (ab:=ab) (col:=col) (dd:=dd) (k0:=k0) (k1:=k1) (k2:=k2) (k3:=k3) (k5:=k5)
     PySem.F.excBase_ValueError (mN:=mN) (T.hasType PySem.F.excBase_ValueError.hasBase) (I.ok.hd (G.calm hcm)) (by rw[st];exact pl) hni (ld_glob I g hg ⟨rfl,?_⟩ d)
    have ev:=as_ok G hE (a::as) (e::es) hqa h2 p pins s σ H _ I h;rw[st] at ev ⊢;refine Calls.evalArgs_plain (wpAny_mono ev (λus s1 z=>?_) λ_ _ z=>z);obtain ⟨vs,H1,I1,r1,ln,w1⟩:=z;refine ⟨rfl,by rw[<-r1.length];exact ln,I1.bk _ _ hC,hN.keeps I1.bk,T.keeps I1.bk,λh' e' mk=>?_⟩;obtain ⟨t,eo,_,_⟩:=mk.there;refine hE.made pins σ H1 H1 s1 {s1 with heap:=h'} e' _ _ I1 rfl I1.bare (Un.kept mk.keeps) (I1.hok.kept mk.keeps) mk.new ?_ eo rfl rfl w1;cases hh:H1 e' with
    |none=>rfl
    |some o=>
     obtain ⟨u,hu⟩:=there_of (I1.hok e' o hh);rw[mk.new] at hu;cases hu
  ·cases hm
end
def IsX (e:Addr) (c:Value) (dx:Option Addr):Heap->Prop:=λh=>∃oe vs,h.get? e=some oe/\oe.cls=c/\oe.dict=dx/\oe.data=.fields vs
section
variable {X:Cx} {pins:List (Addr × Obj)} {σ:St} {H1 H':Hp} {s1 s':Shared} {B g:Heap} {e:Addr} {c fl:Value} {dx:Option Addr}
theorem caught_inv (I1:Inv X pins σ H1 s1) (os:s'.os=s1.os) (bare:AllBare s'.gens) (un:Un (frs X.stack) [] H1 H' s1.heap s'.heap) (hok:HOk X.prog X.w H' s'.heap) (st:B.StaysIn s'.heap)
  (c1:∀b o,s1.heap.get? b=some o->b∉frs X.stack->∃u,B.get? b=some u) (c2:∀b o,H' b=some o->∃u,B.get? b=some u) (F2:FlyD B X.stack e c dx fl g) (u:s'.heap.UpToSlots g):
  Inv X pins σ (upd H' e (.ext (IsX e c dx))) {s' with heap:=g}/\H' e=none:=by
 obtain ⟨oe,vs,T,oT,ts,eo,hc,hx,dt,_⟩:=id F2.tr;have nfe:e∉frs X.stack:=λz=>by
  obtain ⟨_,o,q,n⟩:=F2.frames.mem z;rw[eo] at q;cases q;exact n vs dt
 have neq:∀b o,s1.heap.get? b=some o->b≠e:=λb o q z=>by
  subst z;obtain ⟨v,hv⟩:=c1 b o q nfe;rw[F2.new] at hv;cases hv
 have ne':H' e=none:=by
  cases q:H' e with
  |none=>rfl
  |some o=>
   obtain ⟨v,hv⟩:=c2 e o q;rw[F2.new] at hv;cases hv
 have tr:∀b o,H1 b=some o->b≠e:=λb o q=>by
  obtain ⟨v,hv⟩:=there_of (I1.hok b o q);exact neq b v hv
 have bg:∀b o,s'.heap.get? b=some o->(∃v,B.get? b=some v)->g.get? b=some o:=λb o q ⟨v,hv⟩=>by
  have z:=st _ _ hv;rw[q] at z;cases z;exact F2.stay _ _ hv
 have slot:∀b o,s1.heap.get? b=some o->H1 b=none->b∈frs X.stack->∃sl,g.get? b=some {o with slots:=sl}:=λb o q n hb=>by
  obtain ⟨sl,q1⟩:=un.slot b o q n hb (by simp);have nf:∀ws,o.data≠.fields ws:=by
   obtain ⟨_,o',q',n'⟩:=I1.stack.mem hb;rw[q] at q';cases q';exact n'
  obtain ⟨sl3,q3⟩:=u b _ q1 nf;exact ⟨sl3,q3⟩
 have un2:Un (frs X.stack) [] H1 (upd H' e (.ext (IsX e c dx))) s1.heap g:=by
  refine ⟨λb o q n hb _=>bg b o (un.keep b o q n hb (by simp)) (c1 b o q hb),λb o q n hb _=>slot b o q n hb,λb o q n _=>?_,λb o q _=>?_,λb xs q=>?_,λb o xs q=>?_,λb ps q=>?_⟩
  ·rw[upd_ne (neq b o q)];exact un.free b o q n (by simp)
  ·by_cases hb:b∈frs X.stack
   ·obtain ⟨sl,z⟩:=slot b o q (I1.stkFree b hb) hb;exact ⟨_,z⟩
   ·obtain ⟨v,hv⟩:=c1 b o q hb;exact ⟨v,F2.stay _ _ hv⟩
  ·rw[upd_ne (tr b _ q)];exact un.tups b xs q
  ·rw[upd_ne (tr b _ q)];exact un.frzs b o xs q
  ·rw[upd_ne (tr b _ q)];exact un.tbls b ps q
 have hok1:HOk X.prog X.w H' g:=hok_in hok c2 st F2.stay;have hok2:HOk X.prog X.w (upd H' e (.ext (IsX e c dx))) g:=λb o q=>by
  by_cases hb:b=e
  ·subst hb;rw[upd_same] at q;cases q;exact ⟨⟨oe,vs,eo,hc,hx,dt⟩,⟨oe,eo⟩,λh1 h2 ⟨o1,v1,q1,q2⟩ k=>⟨o1,v1,k _ q1,q2⟩⟩
  ·rw[upd_ne hb] at q;exact (hok1 b o q).stay (λ_ _ _ z=>z) (λb' z=>by rw[upd_ne (ne_of_none z ne')];exact z) λb' xs z=>by rw[upd_ne (ne_of_none z ne')];exact z
 exact ⟨I1.call' (s':={s' with heap:=g}) os un2 hok2 bare (λb z=>absurd z (by simp)),ne'⟩
end
section
variable {X:Cx} {pins:List (Addr × Obj)} {σ:St} {H:Hp} {s:Shared} {M:Model} {A:Around} {E:Value->Shared->Prop} {Q:Unit->Shared->Prop}
theorem drop_ok {n:Str} {k:Nat} {pos:Pos} (I:Inv X pins σ H s) (nd:X.N.Nodup) (hi:X.N[k]?=some n) (hk:X.env.scope.names.lookup n=some .local) (h:∀s',Inv X pins (σ.set k none) H s'->Q () s'):
  wpAny M A (do bindName X.env n .none;unbindBehindTheSuite X.env n pos) Q E s:=by
 obtain ⟨m,hn,hl⟩:=id I.loc;have kd:(X.env.scope.kind==.class || (X.env.scope.kind==.module&&X.env.locals != X.env.globals))=false:=by rw[I.ok.kind];rfl
 refine wpAny_nameGoes_keeps hk hn kd λh' v hn' hs=>h _ ?_;have kp:∀b o,b≠X.env.locals->s.heap.get? b=some o->h'.get? b=some o:=λb o hb q=>(hs.2 b hb).trans q;have old:∀b o,X.s₀.heap.get? b=some o->b≠X.env.locals:=λb o q=>Nat.ne_of_lt (Nat.lt_of_lt_of_le (Heap.lt_size q) I.ok.above);have cl:∀x c w,X.env.cells.lookup x=some c->s.heap.IsCell c w->h'.IsCell c w:=λx c w e ⟨o,q,d⟩=>⟨o,kp _ _ (I.cne x c e) q,d⟩;refine ⟨I.ok,I.os,I.bare,⟨λb o q n hb hx=>kp _ _ (old b o q) (I.base.keep b o q n hb hx),λb o q n hb hx=>?_,I.base.free,λb o q hx=>?_,I.base.tups,I.base.frzs,I.base.tbls⟩,⟨_,hn',λj y w e1 e2 e3=>?_⟩,λy c e=>?_,I.free,I.freeC,λp hp=>?_,λb o q=>?_,by simpa using I.len⟩
 ·obtain ⟨sl,z⟩:=I.base.slot b o q n hb hx;exact ⟨sl,kp _ _ (old b o q) z⟩
 ·obtain ⟨o',z⟩:=I.base.there b o q hx;exact ⟨o',kp _ _ (old b o q) z⟩
 ·have hj:j≠k:=λz=>by
   subst z;rw[List.getElem?_set] at e2;split at e2
   ·split at e2<;>cases e2
   ·contradiction
  rw[List.getElem?_set,if_neg hj.symm] at e2;obtain ⟨u,r,l⟩:=hl j y w e1 e2 e3;refine ⟨u,r,?_⟩;rcases l with ⟨l1,l2⟩|⟨l1,c,l2,l3⟩
  ·refine .inl ⟨l1,?_⟩;have hy:y≠n:=λz=>by
    subst z;exact hj ((List.getElem?_inj (List.getElem?_eq_some_iff.mp e1).1 nd).mp (e1.trans hi.symm))
   show (if y=n then v else m y)=some u;rw[if_neg hy];exact l2
  ·exact .inr ⟨l1,c,l2,cl y c _ l2 l3⟩
 ·obtain ⟨w,hw⟩:=I.cell y c e;exact ⟨w,cl y c w e hw⟩
 ·obtain ⟨p1,p2,p3,p4⟩:=I.pin p hp;exact ⟨kp _ _ p3 p1,p2,p3,p4⟩
 ·refine (I.hok b o q).stay (λb' u hb' z=>kp _ _ (λy=>?_) z) (λ_ z=>z) λ_ _ z=>z;rcases hb' with y2|y2
  ·rw[y2] at y;rw[y,I.free] at q;cases q
  ·rw[y,I.free] at y2;cases y2
end
abbrev wishP (X:Cx) (pins:List (Addr × Obj)) (W:Value->Shared->Prop):Cx:={X with xe:=W,pn:=X.pn++pins}
section
variable {X:Cx} {pins pins':List (Addr × Obj)} {σ:St} {H:Hp} {s:Shared} {W:Value->Shared->Prop}
theorem ok_wishP (ok:X.Ok):(wishP X pins W).Ok:=⟨ok.mod,ok.kind,ok.glob,ok.blt,ok.above,ok.inj,ok.has,ok.cab,ok.hd,ok.frames,ok.stk,ok.exf,ok.bs,ok.bsz,ok.noex,ok.exfs,ok.funs,ok.frf⟩
theorem ok_unP (ok:(wishP X pins W).Ok):X.Ok:=⟨ok.mod,ok.kind,ok.glob,ok.blt,ok.above,ok.inj,ok.has,ok.cab,ok.hd,ok.frames,ok.stk,ok.exf,ok.bs,ok.bsz,ok.noex,ok.exfs,ok.funs,ok.frf⟩
theorem inv_wishP (I:Inv X pins σ H s):Inv (wishP X pins W) [] σ H s:=⟨ok_wishP I.ok,I.os,I.bare,I.base,I.loc,I.cell,I.free,I.freeC,λp hp=>I.pin p (by simpa using hp),I.hok,I.len⟩
theorem inv_unP (I:Inv (wishP X pins W) pins' σ H s):Inv X pins σ H s:=⟨ok_unP I.ok,I.os,I.bare,I.base,I.loc,I.cell,I.free,I.freeC,λp hp=>I.pin p (List.mem_append_left _ hp),I.hok,I.len⟩
theorem sp_unP {D:Ends} {f:Flow} {s':Shared} (h:SP (wishP X pins W) pins' D f s'):SP X pins D f s':=by
 cases f with
 |next=>obtain ⟨σ',H',I,q⟩:=h;exact ⟨σ',H',inv_unP I,q⟩
 |brk=>obtain ⟨σ',H',I,q⟩:=h;exact ⟨σ',H',inv_unP I,q⟩
 |cont=>obtain ⟨σ',H',I,q⟩:=h;exact ⟨σ',H',inv_unP I,q⟩
 |ret u=>obtain ⟨v,σ',H',I,r,q⟩:=h;exact ⟨v,σ',H',inv_unP I,r,q⟩
end
theorem looks_ty {M:Model} {h:Heap} {e:Addr} {c:Value} {dx:Option Addr} (x:IsX e c dx h):PySem.W.Looks M h (typeOf (.ref e)) c:=by
 obtain ⟨oe,vs,eo,rfl,_,_⟩:=x;exact (PySem.W.Looks.ld eo).andThen .now
theorem suite_run {X:Cx} {C:Sc} {pins:List (Addr × Obj)} {σ:St} {H2:Hp} {s3:Shared} {B:Heap} {e:Addr} {c:Value} {dx:Option Addr} {D:Ends} {kn km:Nat} {x n m:Str} {tp np mp hp ap:Pos} (G:Gd X C) (W:Addr) (g:Gl X x) (hd:(x==("__debug__":Str))=false) (hm:X.mg x=some (.ref W))
  (hx:PySem.W.exmOne X.K c (.ref W)=some true) (nn:(n==("__debug__":Str))=false) (iN:X.N[kn]?=some n) (lN:X.env.scope.names.lookup n=some .local) (iM:X.N[km]?=some m) (lM:X.env.scope.names.lookup m=some .local)
  (F:FlyD B X.stack e c dx .none s3.heap) (re:∀g2,FlyD B X.stack e c dx .none g2->s3.heap.UpToSlots g2->Inv X pins σ H2 {s3 with heap:=g2}) (ix:IsX e c dx s3.heap)
  (q:D.nx ((((σ.set kn (some (.ref e))).set km (some (.ref e)))).set kn none) H2):
  wpAny (model X.prog X.w) X.A (handleBy (.ref e) X.env [.ExceptHandler (some (.Name x tp)) (some n) [.Assign [.Name m mp] (.Name n np) ap] hp]) (SP X pins D) X.xe s3:=by
 have I3:Inv X pins σ H2 s3:=re s3.heap F (Heap.UpToSlots.refl _);refine wpAny_handleBy_cons (codeAny_handlers_test ?_) (by intro z;cases z);refine Calls.Name_function_global I3.ok.kind g (Calls.loadGlobal_global (by rw[I3.ok.glob];exact I3.mod.glob.keeps I3.bk) hm ?_) hd;refine (PySem.W.exm_one I3.kIn (looks_ty ix) hx).here ?_;show codeAny _ _ (.handlers (.ref e) [.ExceptHandler none (some n) [.Assign [.Name m mp] (.Name n np) ap] hp] X.env) _ _;refine codeAny_handlers_suite_as (land_fly F λg2 F2 u2=>?_);have I4:=re g2 F2 u2;refine store_ok I4 (by rw[G.N];exact G.nd) iN (.inl lN) (v:=.ref e) rfl (λs5 I5=>?_) (.inr lN);obtain ⟨mm,hns,hl⟩:=id I5.loc;have lt:kn<σ.length:=by rw[I4.len];exact (List.getElem?_eq_some_iff.mp iN).1
 have ln:(σ.set kn (some (V.ref e)))[kn]?=some (some (V.ref e)):=by rw[List.getElem?_set_self lt]
 obtain ⟨u,r,l⟩:=hl kn n (.ref e) iN ln (.inl lN);obtain rfl:u=Value.ref e:=r;have hmn:mm n=some (Value.ref e):=by
  rcases l with ⟨_,l⟩|⟨l,_⟩
  ·exact l
  ·have l':X.env.scope.names.lookup n=some .cell\/X.env.scope.names.lookup n=some .free:=l;rw[lN] at l';rcases l' with z|z<;>cases z
 refine wpAny_execs_cons ?_;refine wpAny_Assign_Name (wpAny_Name (wpAny_loadName_local I5.ok.kind lN hns hmn ?_) nn) rfl;refine store_ok I5 (by rw[G.N];exact G.nd) iM (.inl lM) (v:=.ref e) rfl (λs6 I6=>wpAny_execs_nil ?_) (.inr lM);show wpAny _ X.A (do bindName X.env n .none;unbindBehindTheSuite X.env n hp) _ _ s6;exact drop_ok I6 (by rw[G.N];exact G.nd) iN lN λs7 I7=>⟨_,H2,I7,q⟩
section
variable {K:Fg}
def tEx (K:Fg) (x:Str) (kn km:Nat) (D:Ends):XS:=λσ1 c dx H'=>PySem.W.exmOne K c (.ref (clsAt K x))=some true/\∀e,H' e=none->D.nx (((σ1.set kn (some (.ref e))).set km (some (.ref e))).set kn none) (upd H' e (.ext (IsX e c dx)))
theorem thr_try {X:Cx} {C:Sc} {pins:List (Addr × Obj)} {D:Ends} {kn km:Nat} {x n m:Str} {tp np mp hp ap:Pos} (G:Gd X C) (fb:C.fb=true) (g:Gl X x) (hd:(x==("__debug__":Str))=false) (hm:X.mg x=some (.ref (clsAt X.K x)))
  (nn:(n==("__debug__":Str))=false) (iN:X.N[kn]?=some n) (lN:X.env.scope.names.lookup n=some .local) (iM:X.N[km]?=some m) (lM:X.env.scope.names.lookup m=some .local):
  Thr (wishP X pins λev s1=>wpAny (model X.prog X.w) X.A (noteFrame ev X.env) (λ_ s2=>wpAny (model X.prog X.w) X.A (setFlight ev none) (λ_ s3=>
   wpAny (model X.prog X.w) X.A (handleBy ev X.env [.ExceptHandler (some (.Name x tp)) (some n) [.Assign [.Name m mp] (.Name n np) ap] hp]) (SP X pins D) X.xe s3) X.xe s2) X.xe s1) (tEx X.K x kn km D):=by
 obtain ⟨hst,hfr⟩:=G.top fb;refine ⟨λpins' σ1 H1 s1 ev s' I' hc=>?_,λpins' σ1 H1 H' s1 s' e oe vs I' os bare un hok n1 en eo dt v1 hz=>?_,PassesOwn.looking⟩
 ·have I1:Inv X pins σ1 H1 s1:=inv_unP I';obtain ⟨e,c,dx,H',B,rfl,os,bare,un,hok,⟨fl,F⟩,c1,c2,hx,hq⟩:=hc;have F0:FlyD B (X.env::X.outer) e c dx fl s'.heap:=hst▸F;refine note_fly (I1.ok.frames.trans (congrArg some hst)) hfr hfr F0 λg1 _ F1 u1=>land_fly F1 λg2 F2 u2=>?_;have F2':FlyD B X.stack e c dx .none g2:=hst.symm▸F2;have re:=λg3 (F3:FlyD B X.stack e c dx .none g3) (u3:s'.heap.UpToSlots g3)=>caught_inv I1 os bare un hok F.stay c1 c2 F3 u3;refine suite_run (s3:={s' with heap:=g2}) G (clsAt X.K x) g hd hm hx nn iN lN iM lM F2' (λg3 F3 u3=>(re g3 F3 ((u1.trans u2).trans u3)).1) ?_ (hq e (re g2 F2' (u1.trans u2)).2);obtain ⟨oe,vs,_,_,_,z1,z2,z3,z4,_⟩:=F2.tr;exact ⟨oe,vs,z1,z2,z3,z4⟩
 ·have I1:Inv X pins σ1 H1 s1:=inv_unP I';obtain ⟨hx,hq⟩:=hz;have I2:Inv X pins σ1 H' s':=I1.call' os un hok bare λb y=>absurd y (by simp);have ff:s'.heap.FunFrames X.base X.stack:=I2.stack;have ff2:s'.heap.FunFrames (PySem.W.hideAll s'.heap (e::frs X.stack)) X.stack:=PySem.W.funFrames_hide ff λenv' he' a ha=>List.mem_cons_of_mem _ (List.mem_filterMap.mpr ⟨env',he',ha⟩);have has:∀{b o},s'.heap.get? b=some o->b≠e->b∉frs X.stack->(PySem.W.hideAll s'.heap (e::frs X.stack)).get? b=some o:=λq h1 h2=>PySem.W.hideAll_get _ q (by simp only [List.mem_cons,not_or];exact ⟨h1,h2⟩);have st:(PySem.W.hideAll s'.heap (e::frs X.stack)).StaysIn s'.heap:=λb o q=>PySem.W.of_hideAll _ q;have c1:∀b o,s1.heap.get? b=some o->b∉frs X.stack->∃u,(PySem.W.hideAll s'.heap (e::frs X.stack)).get? b=some u:=λb o q hb=>by
   obtain ⟨o1,q1⟩:=un.there b o q (by simp);exact ⟨o1,has q1 (λz=>by rw[z,n1] at q;cases q) hb⟩
  have c2:∀b o,H' b=some o->∃u,(PySem.W.hideAll s'.heap (e::frs X.stack)).get? b=some u:=λb o q=>by
   obtain ⟨o1,q1⟩:=there_of (hok b o q);refine ⟨o1,has q1 (λz=>by rw[z,en] at q;cases q) λz=>?_⟩;have:=I2.stkFree b z;rw[q] at this;cases this
  refine note_new (I1.ok.frames.trans (congrArg some hst)) (hst▸ff2) hfr hfr eo st (PySem.W.hideAll_none _ (by simp)) dt v1 λg1 F1 u1=>land_fly F1 λg2 F2 u2=>?_;have F2':FlyD (PySem.W.hideAll s'.heap (e::frs X.stack)) X.stack e oe.cls oe.dict .none g2:=hst.symm▸F2;have re:=λg3 (F3:FlyD (PySem.W.hideAll s'.heap (e::frs X.stack)) X.stack e oe.cls oe.dict .none g3) (u3:s'.heap.UpToSlots g3)=>caught_inv I1 os bare un hok st c1 c2 F3 u3;refine suite_run (s3:={s' with heap:=g2}) G (clsAt X.K x) g hd hm hx nn iN lN iM lM F2' (λg3 F3 u3=>(re g3 F3 ((u1.trans u2).trans u3)).1) ?_ (hq e en);obtain ⟨oe',vs',_,_,_,z1,z2,z3,z4,_⟩:=F2.tr;exact ⟨oe',vs',z1,z2,z3,z4⟩
def hnd (h:ExceptHandler):Option (Str × Pos × Str × Str × Pos × Str × Pos × Pos × Pos):=match h with
 | .ExceptHandler (some t) (some n) [st] hp=>(match t with
  | .Name y tp=>(match st with
   | .Assign [tg] v ap=>(match tg with
    | .Name m mp=>(match v with
     | .Name n' np=>some (y,tp,n,m,mp,n',np,ap,hp)
     |_=>none)
    |_=>none)
   |_=>none)
  |_=>none)
 |_=>none
theorem hnd_of {h:ExceptHandler} {y:Str} {tp:Pos} {n m:Str} {mp:Pos} {n':Str} {np ap hp:Pos} (e:hnd h=some (y,tp,n,m,mp,n',np,ap,hp)):
  h=.ExceptHandler (some (.Name y tp)) (some n) [.Assign [.Name m mp] (.Name n' np) ap] hp:=by
 unfold hnd at e
 repeat' split at e
 all_goals first|cases e|skip
 rfl
def mTry (b:List (SX K)) (x:Str) (kn km:Nat) (C:Sc) (s:Stmt):Bool:=match s with
 | .Try body [h] [] [] _=>(match hnd h with
  |some (y,_,n,m,_,n',_,_,_)=>(C.fb&&glB C x y)&&((decide (n=n')&&!(n==("__debug__":Str)))&&((C.N[kn]?==some n&&C.nm.lookup n==some .local)&&((C.N[km]?==some m&&C.nm.lookup m==some .local)&&mSs b C body)))
  |none=>false)
 |_=>false
def tryK (b:List (SX K)) (x:Str) (kn km:Nat):SX K where
 t:=λ_ D σ H=>tSs b (tEx K x kn km D) D σ H
 m:=mTry b x kn km
 q:=λR=>R.mg x=some (.ref (clsAt K x))/\qSs b R
 ok:=λX C E s hK G hE hq hm=>by
  subst hK;unfold mTry at hm;split at hm
  ·rename_i body h pos;cases hh:hnd h with
   |none=>rw[hh] at hm;cases hm
   |some z=>
   obtain ⟨y,tp,n,m,mp,n',np,ap,hp⟩:=z;rw[hh] at hm;have eh:=hnd_of hh;subst eh;simp only [Bool.and_eq_true] at hm;obtain ⟨⟨fb,h1⟩,⟨h2,h3⟩,⟨h4,h5⟩,⟨h6,h7⟩,h8⟩:=hm;have e:=glB_eq h1;subst e;obtain ⟨g,d⟩:=glB_gl G h1;have e2:=of_decide_eq_true h2;subst e2;intro pins s σ H D I h;refine wpAny_Try_except ?_;have T:=thr_try (pins:=pins) (D:=D) (kn:=kn) (km:=km) (n:=n) (m:=m) (tp:=tp) (np:=np) (mp:=mp) (hp:=hp) (ap:=ap) G fb g d hq.1 (by simpa using h3) (by rw[G.N];exact eq_of_beq h4) (by rw[G.nm];exact eq_of_beq h5) (by rw[G.N];exact eq_of_beq h6) (by rw[G.nm];exact eq_of_beq h7);refine wpAny_mono (ss_ok (X:=wishP X pins _) ⟨G.N,G.nm,G.nd,G.calm,G.bl,G.hu,G.fb,G.top,G.ow⟩ T b body hq.2 h8 [] s σ H D (inv_wishP I) h) (λf s1 z=>?_) λ_ _ z=>z;have z':=sp_unP z;cases f with
   |next=>exact wpAny_execs_nil z'
   |brk=>exact z'
   |cont=>exact z'
   |ret v=>exact z'
  ·cases hm
end
open PySem.W
section
variable {prog:Program} {w:World} {A:Around} {E:Value->Shared->Prop} {s:Shared} {K:Frag} {x D:Addr} {ox:Obj} {od:Option Obj} {name:Str}
theorem xcheck {M:Model} {nv:Value} {Q:Unit->Shared->Prop} (X:K.In s.heap) (I:InstAt s.heap x ox D od) (hb:mroIn K D (.type "BaseException")=some true) (h:Q () s):wpAny M A (checkBuiltinCall "BaseException.__getattribute__" ⟨[.ref x,nv],[]⟩) Q E s:=by
 obtain ⟨hh,g,d,t,os⟩:=s;have kd:builtinKind "BaseException.__getattribute__"=some .slot:=by decide+kernel
 have sp:splitId "BaseException.__getattribute__"=some ("BaseException","__getattribute__"):=by decide+kernel
 have ar:=F.args_bexc_ga (.ref x) nv;simp only [checkBuiltinCall,kd,sp];refine wpAny_bind (wpAny_bind ((I.type (M:=M)).at ((looks_mroIn X hb).at ?_)))
 repeat (any_goals (first|assumption|wp_step))
theorem xby {tk:Tok} {fill ex:Bool} {Q:Value->Shared->Prop} (X:K.In s.heap) (I:InstAt s.heap x ox D od) (hga:findIn K (.ref D) "__getattribute__"=some (some (.builtin "BaseException.__getattribute__"))) (hno:findIn K (.ref D) "__getattr__"=some none)
  (hb:mroIn K D (.type "BaseException")=some true)
  (h:wpAny (model prog w) A.in1 (Builtin.«object.__getattribute__» ⟨[.ref x,.str name tk],[]⟩) (λfin s'=>∃v,fin=.done (.ret v)/\wpAny (model prog w) A (handedOut v) Q E s') (λ_ _=>False) s):
  wpAny (model prog w) A (getAttrBy (.ref x) (.str name tk) fill ex) Q E s:=by
 obtain ⟨hh,g,d,t,os⟩:=s;have cg:∀o nv,callGetattribute o nv (.builtin "BaseException.__getattribute__") ex=callGetattribute o nv (.builtin "BaseException.__getattribute__") false:=λ_ _=>by cases ex<;>rfl
 have L0:=I.type (M:=model prog w);have L1:=looks_findIn (M:=model prog w) X hga;have L2:=looks_findIn (M:=model prog w) X hno;have f3:=F.excAttr_ValueError.ga.bind (.ref x);unfold getAttrBy;refine wpAny_holding (wpAny_bind (L0.at (wpAny_bind (L1.at ?_))));show wpAny _ _ (getAttrByItsOwn _ _ _ _ _ _) _ _ _;unfold getAttrByItsOwn;rw[cg];refine wpAny_bind ?_;unfold hookBefore
 repeat (any_goals (first|assumption|(refine L2.at ?_)|wp_step))
 refine codeAny_call_builtin F.excAttr_ValueError.ga.plain F.entry_bexc_ga (xcheck X I hb (wpAny_mono h (λfin s' z=>?_) λ_ _ z=>z.elim));obtain ⟨v,rfl,z⟩:=z;exact z
theorem xget {ex:Bool} {v:Value} {Q:Value->Shared->Prop} (X:K.In s.heap) (I:InstAt s.heap x ox D od) (hga:findIn K (.ref D) "__getattribute__"=some (some (.builtin "BaseException.__getattribute__"))) (hno:findIn K (.ref D) "__getattr__"=some none)
  (hb:mroIn K D (.type "BaseException")=some true) (hf:findObj K D od name=some (.value v)) (hv:handedIn v=true) (h:Q v {s with toks:=s.toks+1}):wpAny (model prog w) A (getAttr (.ref x) name ex) Q E s:=by
 obtain ⟨hh,g,d,t,os⟩:=s;have L0:=I.type (M:=model prog w);have L1:=looks_find (M:=model prog w) X I hf;unfold getAttr;refine wpAny_bind (wpAny_mkText (xby (s:=⟨hh,g,d,t+1,os⟩) X I hga hno hb ?_));unfold Builtin.«object.__getattribute__»
 repeat (any_goals (first|assumption|(refine L0.at ?_)|(refine L1.at ?_)|wp_step))
 exact ⟨v,rfl,by rw[handedOut_of hv];exact wpAny_pure h⟩
theorem xclass {Q:Option Value->Shared->Prop} (X:K.In s.heap) (I:InstAt s.heap x ox D od) (hga:findIn K (.ref D) "__getattribute__"=some (some (.builtin "BaseException.__getattribute__"))) (hno:findIn K (.ref D) "__getattr__"=some none)
  (hb:mroIn K D (.type "BaseException")=some true) (hf:findObj K D od "__class__"=some (.bind (.builtin "getset_descriptor.__get__") (.builtin "object.__class__"))) (hm:mroIn K D (.type "object")=some true) (h:Q (some (.ref D)) {s with toks:=s.toks+1}):
  wpAny (model prog w) A (getAttr? (.ref x) "__class__") Q E s:=by
 obtain ⟨hh,g,d,t,os⟩:=s;have L0:=I.type (M:=model prog w);have L1:=looks_find (M:=model prog w) X I hf;unfold getAttr? getAttrBy?;refine wpAny_bind (wpAny_mkText (wpAny_bind (wpAny_attempt (xby (s:=⟨hh,g,d,t+1,os⟩) X I hga hno hb ?_))));unfold Builtin.«object.__getattribute__»
 repeat (any_goals (first|assumption|(refine L0.at ?_)|(refine L1.at ?_)|wp_step))
 refine class_get (s:=⟨hh,g,d,t+1,os⟩) X I hm ?_;exact wpAny_pure ⟨_,rfl,handed_on rfl (wpAny_pure h)⟩
theorem cls_there (hdct:hasDictIn K D=true):∃c d cd sl,K.lookup D=some ⟨c,d,.cls cd,sl⟩:=by
 obtain ⟨cd,hc,_⟩:=any_some hdct;unfold clsIn at hc;split at hc
 ·rename_i c d cd' sl ho;exact ⟨c,d,cd',sl,ho⟩
 ·cases hc
theorem kitx_exc (hga:findIn K (.ref D) "__getattribute__"=some (some (.builtin "BaseException.__getattribute__"))) (hno:findIn K (.ref D) "__getattr__"=some none) (hb:mroIn K D (.type "BaseException")=some true) (hdct:hasDictIn K D=true)
  (hf:findObj K D od "__class__"=some (.bind (.builtin "getset_descriptor.__get__") (.builtin "object.__class__"))) (hm:mroIn K D (.type "object")=some true):KitX K (.ref x) (.ref D) (λh=>InstAt h x ox D od) where
 ty:=λ_ _ _ I=>I.type
 it:=λ_ _ X _=>by
  obtain ⟨c,d,cd,sl,ho⟩:=cls_there hdct;intro A' Q' E' s' k q;unfold isType loadHead;exact wpAny_bind (wpAny_loadPart (k _ _ (X _ _ ho)) (wpAny_pure q))
 ne:=λh tp dd its n sl X htp=>by
  obtain ⟨c,d,cd,sl',ho⟩:=cls_there hdct;refine Bool.eq_false_iff.mpr λq=>?_;obtain rfl:D=tp:=Value.ref.inj (beq_iff_eq.mp q);have z:=(X _ _ ho).symm.trans htp;cases z
 ca:=λX I k=>xclass X I hga hno hb hf hm k
end
theorem law_ofK {KF:Fg->Prop} {l:PySem.W.OpenLaw} {q:Program} {loose:List Str} {XP:(Str->Option Value)->Heap->Prop} {YP:World->Heap->Prop} {d:DefRec} {K:Params->Fg} {st:Stmt} {N:List Str} {k:Nat} {x:Str} {sp:Fg->Sp} (hn:l.most=some 63) (hdf:d.params.defaults=[]) (hr:Room (k+1) callerA)
  (hY:∀(w:World) (h:Heap),YP w h->(K w.params).In h) (hK:∀w:World,KF (K w.params)) (hd:d.name="law") (b:∀K:Fg,List (SX K)) (S:FnScope N [x] (defScope st)) (hm:∀K,mSs (b K) ⟨N,(defScope st).names,true⟩ (defBody st)=true)
  (hb:∀(kV doc pm:Value) (an:Option Addr) (cdv ct:Value) (u:Value),bindArgs (PySem.W.fnOf "law" "law" (defArgs st) (defBody st) (defScope st) .none kV doc pm an cdv ct) ⟨[u],[]⟩=pure [(x,u)])
  (len:∀K vs H Q E,sp K vs H Q E->vs.length=1) (t:∀K,KF K->∀vs H Q E,sp K vs H Q E->tSs (b K) (λ_=>E) {nx:=λ_ H'=>Q .non H',rt:=Q} (start N vs) H)
  (F:∀(w:World) (h:Heap),(K w.params).In h->FD (K w.params) "law" st/\AllN (K w.params) blts)
  (hq:∀(w:World) (mg:Str->Option Value) (h base:Heap),KF (K w.params)->(K w.params).In h->h.Ns mainGlobals mg->(∀x∈blts,mg x=none)->∀A,Room k A->qSs (b (K w.params)) ⟨l.prog,w,K w.params,mg,base,A⟩)
  (hsp:∀(K:Fg) (H:Hp) (a:Addr) (ns:List Int),KF K->ns.length<=63->SqL K H a (ns.map V.int)->sp K [.ref a] H (λv _=>v=.bl true) λ_ _ _=>False):
  PySem.W.WalkO q loose XP YP l.row.toRowW d [] (λf vs=>PySem.call f vs):=by
 refine L2.walk_of (n:=63) (k:=k+1) (x:=x) (CX:=λw=>CXF l.prog w) (sp:=λw=>sp (K w.params)) hn (by decide) hdf hr hY (λw mg fa h KX G hmg=>?_) (λw H a ns hl _ hS=>hsp _ H a ns (hK w) hl hS) λ_ _ _ _ _ z=>CXF.no z;obtain ⟨⟨f,fd,Fn,a⟩,bl⟩:=F w h KX;rw[hd] at hmg;have e:=hmg.symm.trans (PySem.W.mg_of KX G a);cases e;refine ⟨fd,λs u=>?_,λbase _ _=>?_⟩
 ·obtain ⟨oc,od,kV,doc,pm,an,cdv,ct,osl,rfl,lk,hcd⟩:=Fn.ex;exact .of_eq (hb kV doc pm an cdv ct u)
 ·exact def_ok Fn (b (K w.params)) S (hm _) (all_none KX G bl) (hq w mg h base (hK w) KX G (all_none KX G bl)) (λvs H Q E z=>len _ vs H Q E z) (t _ (hK w))
section
variable {prog:Program} {w:World} {A:Around} {E:Value->Shared->Prop} {h:Heap} {g:Array GenState} {d:Drawn} {t:Nat} {os:OsState}
variable {nm q:Str} {C N:Addr} {bs bm bmB:List Value} {hdct:Bool} {sn:List Str} {sub:List Value} {ab:Bool} {col:Option Bool} {dd:Option Addr} {k0 k1 k2 k3 k5:Option Value} {B newId initId:String}
theorem type_call_initT (F:ExcBaseFacts B newId initId bmB) (T:OwnTail h bmB bm) {mN:Str->Option Value} {rest:List Value} {fI:Addr} {oI:Obj} {Q:Fin->Shared->Prop}
  (hC:h.get? C=some (excClassObj nm q C N bs bm hdct sn sub ab col dd k0 k1 k2 k3 k5 newId)) (hn:h.Ns N mN) (hi:mN "__init__"=some (.ref fI)) (hfI:h.get? fI=some oI) (hfc:oI.cls=.type "function")
  (hq:∀h' e,Heap.MadeExcOf h h' e (.ref C) rest->wpAny (model prog w) A (PySem.call (.ref fI) (.ref e::rest)) (λr s'=>r=.none/\Q (.done (.ret (.ref e))) s') E ⟨h',g,d,t,os⟩) (hrest:rest.length<=sizeLine):
  wpAny (model prog w) A (Builtin.«type.__call__» ⟨.ref C::rest,[]⟩) Q E ⟨h,g,d,t,os⟩:=by
 repeat (first|with_reducible refine wpAny_loadPart_at hC ?_|with_reducible refine wpAny_madeBy_exc hC ?_|wp_step)
 refine codeAny_call_builtin_code (Code.quiet_builtin _ F.quiet) (wpAny_check_new_subT F T hC ?_);refine codeAny_exc_new_subT F T hC ?_ hrest;show wpAny _ _ _ _ _ _;have kp:∀b o,h.get? b=some o->((h.push {cls:=.type "tuple",data:=.seq rest.toArray}).push {cls:=.ref C,data:=.fields #[.ref h.objs.size,.none,.none,.none,.bool false,.none]}).get? b=some o:=λb o e=>Heap.get?_push_of_some _ (Heap.get?_push_of_some _ e);have hget:((h.push {cls:=.type "tuple",data:=.seq rest.toArray}).push {cls:=.ref C,data:=.fields #[.ref h.objs.size,.none,.none,.none,.bool false,.none]}).get? (h.objs.size+1)=some ({cls:=.ref C,data:=.fields #[.ref h.objs.size,.none,.none,.none,.bool false,.none]}:Obj):=by heap_get
 have hcC:(Value.ref C::bm).contains (.ref C)=true:=by simp
 have hC₁:=kp _ _ hC;unfold isInstance
 repeat (first|with_reducible refine wpAny_loadPart_at hget ?_|(with_reducible refine wpAny_isSubtype_exc hC₁ ?_;rw[hcC])|wp_step)
 show wpAny _ _ (typeLookup (.ref C) _) _ _ _;refine wpAny_typeLookup_tail hC₁ (hn.keeps kp) (T.keeps kp) F.mroIs F.init.lookup ?_;rw[hi];refine wpAny_holding (wpAny_bind ?_);unfold bindSpecial;refine wpAny_bind (wpAny_typeOf (T:="function") ⟨_,kp _ _ hfI,hfc⟩ ?_);rw[if_pos (by decide)];refine wpAny_pure (wpAny_bind (wpAny_mono (hq _ (h.objs.size+1) ⟨kp,Heap.get?_none_of_le (Nat.le_succ _),h.objs.size,hget,Heap.get?_none_of_le (Nat.le_refl _),?_⟩) (λr s' hr=>?_) λ_ _ x=>x))
 ·exact Heap.get?_push_of_some _ (Heap.get?_push_at rfl rfl)
 ·obtain ⟨rfl,hQ⟩:=hr
  wp_walk
  exact hQ
theorem call_initT (F:ExcBaseFacts B newId initId bmB) (T:OwnTail h bmB bm) {mN:Str->Option Value} {rest:List Value} {fI:Addr} {oI:Obj} {Q:Value->Shared->Prop}
  (hC:h.get? C=some (excClassObj nm q C N bs bm hdct sn sub ab col dd k0 k1 k2 k3 k5 newId)) (hn:h.Ns N mN) (hi:mN "__init__"=some (.ref fI)) (hfI:h.get? fI=some oI) (hfc:oI.cls=.type "function")
  (hq:∀h' e,Heap.MadeExcOf h h' e (.ref C) rest->
   wpAny (model prog w) (A.under (.builtin "type.__call__" ⟨.ref C::rest,[]⟩)) (PySem.call (.ref fI) (.ref e::rest)) (λr s'=>r=.none/\Q (.ref e) s') E ⟨h',g,d,t,os⟩) (hrest:rest.length<=sizeLine):
  wpAny (model prog w) A (PySem.call (.ref C) rest) Q E ⟨h,g,d,t,os⟩:=by
 have f1:=tc_lookup;have f2:=tc_bind (.ref C);have hT:(⟨h,g,d,t,os⟩:Shared).TypeIs (.ref C) "type":=⟨_,hC,rfl⟩;refine wpAny_call (codeAny_of_tree ?_);show wpAny _ _ (callAny (.ref C) _) _ _ _
 repeat (any_goals (first|assumption|with_reducible refine wpAny_loadPart_at hC ?_|wp_step))
 refine ⟨rfl,?_⟩;refine codeAny_call_builtin_at (Code.quiet_builtin _ (by decide+kernel)) entry_typeCall (wpAny_check_type_call_sub hC (type_call_initT (hrest:=hrest) F T hC hn hi hfI hfc λh' e hm=>?_));exact hq h' e hm
end
section
variable {prog:Program} {w:World} {A:Around} {E:Value->Shared->Prop} {s:Shared} {env:Env}
variable {nm q:Str} {C N:Addr} {bs bm bmB:List Value} {hdct:Bool} {sn:List Str} {sub:List Value} {ab:Bool} {col:Option Bool} {dd:Option Addr} {k0 k1 k2 k3 k5:Option Value} {B newId initId:String}
theorem raiseStmt_made {M:Model} {A:Around} {E:Value->Shared->Prop} {x:Sem Value} {Q:Flow->Shared->Prop} (hbase:bm.contains (.type "BaseException")=true) (hh:A.handled=none)
  (h:wpAny M A x (λv s₁=>∃e oe,v=.ref e/\s₁.heap.get? C=some (excClassObj nm q C N bs bm hdct sn sub ab col dd k0 k1 k2 k3 k5 newId)/\s₁.heap.get? e=some oe/\oe.cls=.ref C/\(∃vs,oe.data=.fields vs/\vs[1]?=some .none)/\E (.ref e) s₁) E s):
  wpAny M A (raiseStmt env (some x) none) Q E s:=by
 have hcB:(Value.ref C::bm).contains (.type "BaseException")=true:=by rw[List.contains_cons,hbase,Bool.or_true]
 unfold raiseStmt;refine wpAny_bind (wpAny_mono h (λv s₁ h₁=>?_) λ_ _ x=>x);obtain ⟨e,⟨oc,od,odt,osl⟩,rfl,hC,he,hc,⟨vs,hv,v1⟩,hE⟩:=h₁;dsimp only at hc hv;subst hc hv;obtain ⟨hp,g,d,tk,os⟩:=s₁
 repeat (first|with_reducible refine wpAny_loadPart_at he ?_|with_reducible refine wpAny_loadPart_at hC ?_|(with_reducible refine wpAny_isSubtype_exc hC ?_;rw[hcB])|wp_step)
 rw[v1];refine wpAny_pure ?_;rw[if_neg (show ¬((Value.none != Value.none)=true) by decide)];exact wpAny_pure (wpAny_raiseNew_none hh hE)
theorem raise_initT (F:ExcBaseFacts B newId initId bmB) {mN:Str->Option Value} {x:Str} {np cpos pos:Pos} {args:List Expr} {Q:Flow->Shared->Prop} {fI:Addr}
  (hbase:bm.contains (.type "BaseException")=true) (hh:A.handled=none) (hplain:(backTo cpos (starEach args env)).any (·.1)=false) (hi:mN "__init__"=some (.ref fI))
  (h:wpAny (model prog w) A (eval (.Name x np) env) (λf s₁=>f=.ref C/\wpAny (model prog w) A (evalArgs (.ref C) true (backTo cpos (starEach args env)) [])
   (λa s₂=>a.kw=[]/\a.pos.length<=sizeLine/\s₂.heap.get? C=some (excClassObj nm q C N bs bm hdct sn sub ab col dd k0 k1 k2 k3 k5 newId)/\s₂.heap.Ns N mN/\OwnTail s₂.heap bmB bm/\(∃oI,s₂.heap.get? fI=some oI/\oI.cls=.type "function")/\
    ∀h' e,Heap.MadeExcOf s₂.heap h' e (.ref C) a.pos->wpAny (model prog w) (A.under (.builtin "type.__call__" ⟨.ref C::a.pos,[]⟩)) (PySem.call (.ref fI) (.ref e::a.pos)) (λr s'=>r=.none/\s'.heap.get? C=some (excClassObj nm q C N bs bm hdct sn sub ab col dd k0 k1 k2 k3 k5 newId)/\
     (∃oe vs,s'.heap.get? e=some oe/\oe.cls=.ref C/\oe.data=.fields vs/\vs[1]?=some .none)/\E (.ref e) s') E {s₂ with heap:=h'}) E s₁) E s):
  wpAny (model prog w) A (exec (.Raise (some (.Call (.Name x np) args [] cpos)) none pos) env) Q E s:=by
 rw[arm_exec_Raise]
 first
  |refine wpAny_bind (wpAny_standAt (raiseStmt_made (C:=C) (nm:=nm) (q:=q) (N:=N) (bs:=bs) (bm:=bm) (hdct:=hdct) (sn:=sn) (sub:=sub) (ab:=ab) (col:=col) (dd:=dd) (k0:=k0) (k1:=k1) (k2:=k2) (k3:=k3) (k5:=k5) (newId:=newId) hbase hh (wpAny_bind (wpAny_mono (wpAny_Call_ofName (wpAny_mono h (λf s₁ h₁=>?_) λ_ _ x=>x)) (λv s₃ h₃=>wpAny_bind (wpAny_standAt (wpAny_pure h₃))) λ_ _ x=>x))))
  | (simp only [evalOpt,Option.map];refine wpAny_bind (wpAny_standAt (raiseStmt_made (C:=C) (nm:=nm) (q:=q) (N:=N) (bs:=bs) (bm:=bm) (hdct:=hdct) (sn:=sn) (sub:=sub) (ab:=ab) (col:=col) (dd:=dd) (k0:=k0) (k1:=k1) (k2:=k2) (k3:=k3) (k5:=k5) (newId:=newId) hbase hh (wpAny_bind (wpAny_mono (wpAny_Call_ofName (wpAny_mono h (λf s₁ h₁=>?_) λ_ _ x=>x)) (λv s₃ h₃=>wpAny_bind (wpAny_standAt (wpAny_pure h₃))) λ_ _ x=>x)))))
  | (refine wpAny_bind (wpAny_standAt (raiseStmt_made (C:=C) (nm:=nm) (q:=q) (N:=N) (bs:=bs) (bm:=bm) (hdct:=hdct) (sn:=sn) (sub:=sub) (ab:=ab) (col:=col) (dd:=dd) (k0:=k0) (k1:=k1) (k2:=k2) (k3:=k3) (k5:=k5) (newId:=newId) hbase hh ?_));refine wpAny_bind (wpAny_mono (wpAny_Call_ofName (wpAny_mono h (λf s₁ h₁=>?_) λ_ _ x=>x)) (λv s₃ h₃=>wpAny_bind (wpAny_standAt (wpAny_pure h₃))) λ_ _ x=>x))
 obtain ⟨rfl,h₁⟩:=h₁;unfold callWith;refine wpAny_bind (wpAny_holding (wpAny_mono h₁ (λa s₂ h₂=>wpAny_bind (wpAny_standAt ?_)) λ_ _ x=>x));obtain ⟨apos,akw⟩:=a;obtain ⟨hkw,hlen,hC,hn,T,⟨oI,hfI,hfc⟩,h₂⟩:=h₂;obtain rfl:akw=[]:=hkw;obtain ⟨hp,g,d,tk,os⟩:=s₂;simp only [hplain];refine wpAny_bind (wpAny_keeperOf_exc hC ?_);refine wpAny_bind (call_initT (hrest:=hlen) F T hC hn hi hfI hfc λh' e hm=>wpAny_mono (h₂ h' e hm) (λr s' z=>⟨z.1,wpAny_bind (wpAny_holding (wpAny_point (wpAny_pure ?_)))⟩) λ_ _ z=>z);obtain ⟨_,z1,⟨oe,vs,z2,z3,z4,z6⟩,z5⟩:=z;exact ⟨e,oe,rfl,z1,z2,z3,⟨vs,z4,z6⟩,z5⟩
end
open Builtin Builtin.ObjectAttr
section
variable {prog:Program} {w:World} {A:Around} {E:Value->Shared->Prop} {h:Heap} {g:Array GenState} {d:Drawn} {t:Nat} {os:OsState} {K:Fg}
variable {nm q:Str} {C N e:Addr} {bs bm:List Value} {sn:List Str} {sub:List Value} {ab:Bool} {col:Option Bool} {dd:Option Addr} {k0 k1 k2 k3 k5:Option Value} {newId:String} {fld:Str} {v:Value} {oe:Obj}
theorem refuse_tail (self:Value) {tl:List Value} (T:OwnTail h mroVE tl):refuseLoop self "__setattr__" tl=pure ():=by
 induction T with
 |base=>exact F.store_ValueError.passes self
 |own _ _ _ _ ih=>rw[refuseLoop_ref];exact ih
theorem look_tl {M:Model} {c:Value} {n:Str} {r:Option Value} {Q:Option Value->Shared->Prop} (X:K.In h) (e:PySem.W.findIn K c n=some r) (hq:Q r ⟨h,g,d,t,os⟩):wpAny M A (typeLookup c n) Q E ⟨h,g,d,t,os⟩:=
 PySem.W.looks_findIn X e _ _ _ _ (λ_ _ z=>z) hq
theorem check_new {M:Model} {nameV:Value} {Q:Unit->Shared->Prop} (hC:h.get? C=some (excClassObj nm q C N bs bm true sn sub ab col dd k0 k1 k2 k3 k5 newId)) (T:OwnTail h mroVE bm)
  (he:h.get? e=some oe) (hc:oe.cls=.ref C) (hq:Q () ⟨h,g,d,t,os⟩):wpAny M A (checkBuiltinCall "object.__setattr__" ⟨[.ref e,nameV,v],[]⟩) Q E ⟨h,g,d,t,os⟩:=by
 have SF:=F.store_ValueError;have hcB:(Value.ref C::bm).contains (.type "object")=true:=by rw[List.contains_cons,T.hasType SF.hasOwner,Bool.or_true]
 have ha:=SF.args (.ref e) nameV v;simp only [checkBuiltinCall,SF.kind,SF.split];refine wpAny_bind ?_;unfold isInstance
 repeat (first|(with_reducible refine wpAny_loadPart_at he ?_;rw[hc])|(with_reducible refine wpAny_isSubtype_exc hC ?_;rw[hcB])|wp_step)
 first
  |exact hq
  |cases hsig:Manifest.signature? "object.__setattr__" with
   |none=>exact wpAny_pure hq
   |some sig=>
    simp only [argsOk,hsig] at ha;have h2:Bind.checkArgs "object.__setattr__" sig ⟨[.ref e,nameV,v],[]⟩=pure ():=ha;show wpAny M A (Bind.checkArgs "object.__setattr__" sig ⟨[.ref e,nameV,v],[]⟩) Q E _;rw[h2];exact wpAny_pure hq
theorem entry_new {tk:Tok} {Q:PySem.Fin->Shared->Prop} (X:K.In h) (hC:h.get? C=some (excClassObj nm q C N bs bm true sn sub ab col dd k0 k1 k2 k3 k5 newId)) (T:OwnTail h mroVE bm)
  (hfl:PySem.W.findIn K (.ref C) fld=some none) (he:h.get? e=some oe) (hc:oe.cls=.ref C) (hdn:oe.dict=none) (hnc:∀c,oe.data≠.cls c)
  (hq:∀h' tk' dx,(∀b o,b≠e->h.get? b=some o->h'.get? b=some o)->h.get? dx=none->dx≠e->h'.get? e=some {cls:=oe.cls,dict:=some dx,data:=oe.data,slots:=oe.slots}->
   h'.Ns1 dx (λy=>if y=fld then some v else none)->Q (.done (.ret .none)) ⟨h',g,d,tk',os⟩):
  wpAny (model prog w) A (Builtin.«object.__setattr__» ⟨[.ref e,.str fld tk,v],[]⟩) Q E ⟨h,g,d,t,os⟩:=by
 have hpass:=refuse_tail (.ref e) T;unfold Builtin.«object.__setattr__»
 repeat (first|rw[refuse_eq]|(rw[refuseLoop_ref,hpass])|(with_reducible refine wpAny_loadPart_at he ?_;rw[hc])|with_reducible refine wpAny_mroOf_exc hC ?_|(with_reducible refine look_tl X hfl ?_)|wp_step)
 rw[hdn,if_neg (by simp [typeHasDict])];split
 ·rename_i hcd;cases hcd
 split
 ·rename_i c hcd;exact absurd hcd (hnc c)
 ·have hx₁:(h.push {cls:=.type "dict",data:=.dict #[]}).get? e=some oe:=Heap.get?_push_of_some _ he;have hxs:e≠h.objs.size:=Nat.ne_of_lt (Heap.lt_size he);refine wpAny_bind (wpAny_alloc' ?_);refine wpAny_bind (wpAny_update' hx₁ ?_);refine wpAny_pure ?_;have hgd:((h.push {cls:=.type "dict",data:=.dict #[]}).update e λo=>{cls:=o.cls,dict:=some h.objs.size,data:=o.data,slots:=o.slots}).get? h.objs.size
    =some ({cls:=.type "dict",data:=.dict #[]}:Obj):=(Heap.get?_update_ne _ _ _ _ hxs.symm).trans (Heap.get?_push_at rfl rfl)
  have hnd:((h.push {cls:=.type "dict",data:=.dict #[]}).update e λo=>{cls:=o.cls,dict:=some h.objs.size,data:=o.data,slots:=o.slots}).Ns h.objs.size (λ_=>none):=
   ⟨_,#[],_,hgd,rfl,λe he=>absurd he (by simp),λ_=>rfl⟩
  show wpAny _ _ (storeInDict h.objs.size (.str fld tk) fld v) _ _ _;unfold storeInDict newKeyGuard;refine wpAny_bind (wpAny_pure (wpAny_bind (wpAny_nsSet1 (Heap.Ns1.of_empty hnd) λh' hn' hs=>?_)));obtain ⟨oD,esD,epD,hoD,hdD,hcD⟩:=hn'.count (Within.cons fld v Within.nil);refine wpAny_bind (wpAny_lookBehind hoD (by rw[hdD];exact pastItsLine_dict (Nat.le_trans hcD (by rw[List.length_cons,List.length_nil,sizeLine_eq];lia))) ?_)
  wp_walk
  refine hq h' _ h.objs.size (λb ob hbx hb=>?_) (Heap.get?_none_of_le (Nat.le_refl _)) hxs.symm ?_ hn'
  ·exact (hs.2 b (Nat.ne_of_lt (Heap.lt_size hb))).trans ((Heap.get?_update_ne _ _ _ _ hbx).trans (Heap.get?_push_of_some _ hb))
  ·refine (hs.2 e hxs).trans (Heap.get?_update_self _ hx₁ ?_);have hfr:=(Heap.get?_some_iff.mp he).2;obtain ⟨oc,od,odt,osl⟩:=oe;cases odt<;>first|rfl|exact hfr
theorem store_new {Q:Unit->Shared->Prop} (X:K.In h) (hC:h.get? C=some (excClassObj nm q C N bs bm true sn sub ab col dd k0 k1 k2 k3 k5 newId)) (T:OwnTail h mroVE bm)
  (hsa:PySem.W.findIn K (.ref C) "__setattr__"=some (some (.builtin "object.__setattr__"))) (hfl:PySem.W.findIn K (.ref C) fld=some none)
  (he:h.get? e=some oe) (hc:oe.cls=.ref C) (hdn:oe.dict=none) (hnc:∀c,oe.data≠.cls c)
  (hq:∀h' tk' dx,(∀b o,b≠e->h.get? b=some o->h'.get? b=some o)->h.get? dx=none->dx≠e->h'.get? e=some {cls:=oe.cls,dict:=some dx,data:=oe.data,slots:=oe.slots}->
   h'.Ns1 dx (λy=>if y=fld then some v else none)->Q () ⟨h',g,d,tk',os⟩):
  wpAny (model prog w) A (setAttr (.ref e) fld v) Q E ⟨h,g,d,t,os⟩:=by
 have SF:=F.store_ValueError;have f3:=SF.slot.bind (.ref e);unfold setAttr callSpecial? specialOf
 repeat (any_goals (first|assumption|(with_reducible refine wpAny_loadPart_at he ?_;rw[hc])|(with_reducible refine look_tl X hsa ?_)|wp_step))
 refine codeAny_call_builtin SF.slot.plain SF.entry (check_new hC T he hc (entry_new X hC T hfl he hc hdn hnc λh' tk' dx q1 q2 q3 q4 q5=>?_))
 repeat (any_goals (first|assumption|wp_step))
 exact hq h' tk' dx q1 q2 q3 q4 q5
end
def IniFn (K:Fg) (f:Addr) (slf prm fld:Str):Prop:=
 ∃(name qual:Str) (params:Arguments) (scope:Scope) (dV kV doc pm cdv ct:Value) (an od:Option Addr) (osl:Array (Option Value)) (p1 p2 p3 p4:Pos),
  K.lookup f=some ⟨.type "function",od,.func (PySem.W.fnOf name qual params [.Assign [.Attribute (.Name slf p1) fld p2] (.Name prm p3) p4] scope dV kV doc pm an cdv ct),osl⟩/\PySem.W.codeIn K cdv qual=true/\
  (scope.kind=.function/\scope.isCoroutine=false/\scope.isGenerator=false)/\(scope.names.lookup slf=some .local/\scope.names.lookup prm=some .local)/\((slf==("__debug__":Str))=false/\(prm==("__debug__":Str))=false/\slf≠prm)/\
  ∀(s:Shared) (u v:Value),K.In s.heap->PySem.BindsTo s (PySem.W.fnOf name qual params [.Assign [.Attribute (.Name slf p1) fld p2] (.Name prm p3) p4] scope dV kV doc pm an cdv ct) ⟨[u,v],[]⟩ [(slf,u),(prm,v)]
section
variable {prog:Program} {w:World} {A:Around} {E:Value->Shared->Prop} {s:Shared} {K:Fg}
variable {nm q:Str} {C N e f:Addr} {bs bm:List Value} {sn:List Str} {sub:List Value} {ab:Bool} {col:Option Bool} {dd:Option Addr} {k0 k1 k2 k3 k5:Option Value} {newId:String} {slf prm fld:Str} {v:Value} {oe:Obj}
theorem init_run {Q:Value->Shared->Prop} (X:K.In s.heap) (I:IniFn K f slf prm fld) (hlim:s.heap.NoLimit) (hroom:A.depth<recursionLimit)
  (hC:s.heap.get? C=some (excClassObj nm q C N bs bm true sn sub ab col dd k0 k1 k2 k3 k5 newId)) (T:OwnTail s.heap mroVE bm)
  (hsa:PySem.W.findIn K (.ref C) "__setattr__"=some (some (.builtin "object.__setattr__"))) (hfl:PySem.W.findIn K (.ref C) fld=some none)
  (he:s.heap.get? e=some oe) (hc:oe.cls=.ref C) (hdn:oe.dict=none) (hnc:∀c,oe.data≠.cls c)
  (hq:∀h' tk' dx,(∀b o,b≠e->s.heap.get? b=some o->h'.get? b=some o)->s.heap.get? dx=none->dx≠e->h'.get? e=some {cls:=oe.cls,dict:=some dx,data:=oe.data,slots:=oe.slots}->
   h'.Ns1 dx (λy=>if y=fld then some v else none)->Q .none {s with heap:=h',toks:=tk'}):
  wpAny (model prog w) A (PySem.call (.ref f) [.ref e,v]) Q E s:=by
 obtain ⟨name,qual,params,scope,dV,kV,doc,pm,cdv,ct,an,od,osl,p1,p2,p3,p4,ho,hcd,⟨hk,hco,hgen⟩,⟨l1,l2⟩,⟨d1,d2,ne⟩,hb⟩:=I;refine wpAny_call (Att.call_fn X hlim ho hcd hroom (hb s (.ref e) v X) ?_ (λs₁ x=>?_) hco hgen hk)
 ·simp [l1,l2]
 have k1:(envOfC qual scope s.heap.objs.size f cdv).kindOf slf=some .local:=l1;have k2:(envOfC qual scope s.heap.objs.size f cdv).kindOf prm=some .local:=l2;have m1:bindL (envOfC qual scope s.heap.objs.size f cdv).kindOf [(slf,.ref e),(prm,v)] (λ_=>none) slf=some (.ref e):=by simp [bindL,k1,k2,ne]
 have m2:bindL (envOfC qual scope s.heap.objs.size f cdv).kindOf [(slf,.ref e),(prm,v)] (λ_=>none) prm=some v:=by simp [bindL,k1,k2]
 refine wpAny_execs_cons (plainObj_wpAny_Assign_Attribute (NameLC (s₀:=s) (env:=envOfC qual scope s.heap.objs.size f cdv) x hk k2 m2 (NameLC (s₀:=s) (env:=envOfC qual scope s.heap.objs.size f cdv) x hk k1 m1 ?_ d1) d2) rfl);obtain ⟨h₁,tk,rfl,kp⟩:=x.done;have kp':∀b o,s.heap.get? b=some o->h₁.get? b=some o:=kp;obtain ⟨h0,g,dr,t0,os⟩:=s;refine store_new (X.keeps kp') (kp' _ _ hC) (T.keeps kp') hsa hfl (kp' _ _ he) hc hdn hnc λh' tk' dx q1 q2 q3 q4 q5=>wpAny_execs_nil ?_;exact hq h' tk' dx (λb o hb eo=>q1 b o hb (kp' b o eo)) (by
  cases z:h0.get? dx with
  |none=>rfl
  |some o=>rw[kp' _ _ z] at q2;cases q2) q3 q4 q5
end
def excI (K:Fg) (C f:Addr):Bool:=match K.lookup C with
 |some ⟨.type "type",_,.cls cd,sl⟩=>(match cd.mro,sl.toList with
  | .ref C'::bm,[_,_,_,_,some (.builtin n),_]=>C'==C&&n=="ValueError.__new__"&&!cd.hasDel&&PySem.W.tailIn K mroVE bm&&PySem.W.nsOkIn K cd.ns&&(PySem.W.nsIn K cd.ns "__init__"==some (some (.ref f))&&cd.hasDict)
  |_,_=>false)
 |_=>false
def iniAt (K:Fg) (x:Str):Addr:=match PySem.W.findIn K (.ref (clsAt K x)) "__init__" with
 |some (some (.ref f))=>f
 |_=>0
structure IniK (K:Fg) (x slf prm fld:Str):Prop where
 at_:PySem.W.nsIn K mainGlobals x=some (some (.ref (clsAt K x)))
 exc:excI K (clsAt K x) (iniAt K x)=true
 sa:PySem.W.findIn K (.ref (clsAt K x)) "__setattr__"=some (some (.builtin "object.__setattr__"))
 fl:PySem.W.findIn K (.ref (clsAt K x)) fld=some none
 fn:IniFn K (iniAt K x) slf prm fld
section
variable {K:Fg}
theorem ns_some_of {h:Heap} {N:Addr} {mg:Str->Option Value} {n:Str} {v:Value} (X:K.In h) (G:h.Ns N mg) (e:PySem.W.nsIn K N n=some (some v)):mg n=some v:=by
 obtain ⟨o,es,ep,ho,hd,_,hf⟩:=G;unfold PySem.W.nsIn at e;split at e
 ·rename_i c d es' n' sl q;have z:=X _ _ q;rw[ho] at z;cases z;cases hd;split at e
  ·rename_i en he;cases e;rw[<-hf];unfold nsFind findBy;rw[<-Array.find?_toList,he];rfl
  ·split at e<;>cases e
 ·cases e
theorem ini_obj {C f:Addr} {h:Heap} (q:excI K C f=true) (X:K.In h):∃bm N nm q bs sn sub ab col dd k0 k1 k2 k3 k5 mN,h.get? C=some (excClassObj nm q C N bs bm true sn sub ab col dd k0 k1 k2 k3 k5 "ValueError.__new__")/\h.Ns N mN/\mN "__init__"=some (.ref f)/\OwnTail h mroVE bm:=by
 unfold excI at q;split at q
 ·rename_i dd cd sl ho;split at q
  ·rename_i C' bm k0 k1 k2 k3 n k5 hm hs;simp only [Bool.and_eq_true,beq_iff_eq,Bool.not_eq_true'] at q;obtain ⟨⟨⟨⟨⟨rfl,rfl⟩,hdel⟩,ht⟩,hok⟩,hni,hhd⟩:=q;obtain ⟨nm,bs,mro,ns,qn,hd,sn,sub,ab,col,del⟩:=cd;obtain ⟨l⟩:=sl;dsimp only at hm hs hdel hok hni hhd;subst hm hdel hs hhd;exact ⟨bm,ns,nm,qn,bs,sn,sub,ab,col,dd,k0,k1,k2,k3,k5,_,X _ _ ho,.of_isNs (PySem.W.isNs_of_in X hok),ns_some_of X (.of_isNs (PySem.W.isNs_of_in X hok)) hni,PySem.W.tail_of_in X ht⟩
  ·cases q
 ·cases q
theorem Un.laid' {fs ex:List Addr} {H:Hp} {h h':Heap} {a:Addr} {o:HO} (k:∀b u,h.get? b=some u->h'.get? b=some u) (hp:h.get? a=none) (hn:H a=none):Un fs ex H (upd H a o) h h' where
 keep:=λb u q _ _ _=>k b u q
 slot:=λb u q _ _ _=>⟨u.slots,k b u q⟩
 free:=λb u q n _=>by rw[upd_ne (λz=>by rw[z,hp] at q;cases q)];exact n
 there:=λb u q _=>⟨u,k b u q⟩
 tups:=λb xs q=>by rw[upd_ne (ne_of_none q hn)];exact q
 frzs:=λb u xs q=>by rw[upd_ne (ne_of_none q hn)];exact q
 tbls:=λb ps q=>⟨#[],by rw[upd_ne (ne_of_none q hn),q];simp⟩
theorem HOk.none_of {P:Program} {w:World} {H:Hp} {h:Heap} {a:Addr} (x:HOk P w H h) (e:h.get? a=none):H a=none:=by
 cases q:H a with
 |none=>rfl
 |some o=>
  obtain ⟨u,hu⟩:=there_of (x a o q);rw[e] at hu;cases hu
theorem HOk.laid' {P:Program} {w:World} {H:Hp} {h h':Heap} {a:Addr} {o:HO} (x:HOk P w H h) (k:∀b u,h.get? b=some u->h'.get? b=some u) (hn:H a=none) (new:ObjOk P w (upd H a o) h' a o):HOk P w (upd H a o) h':=λb u e=>by
 by_cases hb:b=a
 ·subst hb;rw[upd_same] at e;cases e;exact new
 ·rw[upd_ne hb] at e;exact (x b u e).stay (λc v _ q=>k c v q) (λc q=>by rw[upd_ne (ne_of_none q hn)];exact q) λc xs q=>by rw[upd_ne (ne_of_none q hn)];exact q
def one (P:V->Hp->Prop):List V->Hp->Prop
 |[v],H=>P v H
 |_,_=>False
theorem one_of {P:V->Hp->Prop} {vs:List V} {H:Hp} (h:one P vs H):∃v,vs=[v]/\P v H:=by
 cases vs with
 |nil=>exact h.elim
 |cons x xs=>
  cases xs with
  |nil=>exact ⟨x,rfl,h⟩
  |cons _ _=>exact h.elim
def raiseI (x slf prm fld:Str) (a:EX K):SX K where
 t:=λE _ σ H=>a.t E σ H λv H1=>∀dx,H1 dx=none->E σ (.ref (clsAt K x)) (some dx) (upd H1 dx (.xd [(fld,v)]))
 m:=λC s=>match s with
  | .Raise (some (.Call (.Name y _) es [] _)) none _=>(C.cm&&glB C x y)&&mAs [a] C es
  |_=>false
 q:=λR=>(R.mg x=some (.ref (clsAt K x))/\IniK K x slf prm fld/\∃k,Room k R.A)/\a.q R
 ok:=λX C E s hK G hE hq hm=>by
  subst hK;split at hm
  ·rename_i y py es p pos;simp only [Bool.and_eq_true] at hm;obtain ⟨⟨hcm,h1⟩,h2⟩:=hm;have e:=glB_eq h1;subst e;obtain ⟨g,d⟩:=glB_gl G h1;obtain ⟨⟨hg,ek,kk,rm⟩,hqa⟩:=hq;cases es with
   |nil=>cases h2
   |cons e es=>
    intro pins s σ H D I h;have st:=shp_star (env:=X.env) (es:=es) (a.sok C e (mAs_cons h2).1);have pl:=as_plain (env:=X.env) (pos:=p) [] es (mAs_cons h2).2;obtain ⟨bm,N,nm,q,bs,sn,sub,ab,col,dd,k0,k1,k2,k3,k5,mN,hC,hN,hi,T⟩:=ini_obj ek.exc I.ok.mod.kin;refine raise_initT (C:=clsAt X.K y) (nm:=nm) (q:=q) (N:=N) (bs:=bs) (bm:=bm) (hdct:=true) (sn:=sn) (sub:=sub) (ab:=ab) (col:=col) (dd:=dd) (k0:=k0) (k1:=k1) (k2:=k2) (k3:=k3) (k5:=k5)
     PySem.F.excBase_ValueError (mN:=mN) (T.hasType PySem.F.excBase_ValueError.hasBase) (I.ok.hd (G.calm hcm)) (by rw[st];exact pl) hi (ld_glob I g hg ⟨rfl,?_⟩ d)
    have ev:=as_ok G hE [a] (e::es) (show qAs [a] (rtOf X) from ⟨hqa,trivial⟩) h2 p pins s σ H (one λv H1=>∀dx,H1 dx=none->E σ (.ref (clsAt X.K y)) (some dx) (upd H1 dx (.xd [(fld,v)]))) I h;rw[st] at ev ⊢;refine Calls.evalArgs_plain (wpAny_mono ev (λus s1 z=>?_) λ_ _ z=>z);obtain ⟨vs,H1,I1,r1,w1⟩:=z;obtain ⟨v,rfl,w1⟩:=one_of w1;obtain ⟨u,rfl,r2⟩:=r1.one;obtain ⟨name,qual,params,scope,dV,kV,doc,pm,cdv,ct,an,od,osl,p1,p2,p3,p4,ho,_⟩:=ek.fn;refine ⟨rfl,by simp [sizeLine_eq],I1.bk _ _ hC,hN.keeps I1.bk,T.keeps I1.bk,⟨_,I1.kIn _ _ ho,rfl⟩,λh' e' mk=>?_⟩;obtain ⟨t,eo,_,_⟩:=mk.there;have kp:∀b o,s1.heap.get? b=some o->h'.get? b=some o:=mk.keeps;refine init_run (s:={s1 with heap:=h'}) (I1.kIn.keeps kp) ek.fn (I1.nolimit.keeps kp) ?_ (kp _ _ (I1.bk _ _ hC)) ((T.keeps I1.bk).keeps kp) ek.sa ek.fl eo rfl rfl (λc z=>by cases z) λh2 tk dx q1 q2 q3 q4 q5=>?_
    ·rw[make_depth];have z:X.A.depth+3 * kk+5<recursionLimit:=rm.dp;lia
    have q1':∀b o,s1.heap.get? b=some o->h2.get? b=some o:=λb o z=>q1 b o (λy=>by rw[y,mk.new] at z;cases z) (kp b o z);have n1:s1.heap.get? dx=none:=by
     cases z:s1.heap.get? dx with
     |none=>rfl
     |some o=>rw[kp _ _ z] at q2;cases q2
    have n2:=HOk.none_of I1.hok n1;refine ⟨rfl,q1' _ _ (I1.bk _ _ hC),⟨_,_,q4,rfl,rfl,rfl⟩,?_⟩;refine hE.made pins σ H1 _ s1 {s1 with heap:=h2,toks:=tk} e' _ _ I1 rfl I1.bare (Un.laid' q1' n1 n2) (HOk.laid' I1.hok q1' n2 ?_) mk.new ?_ q4 rfl rfl (w1 dx n2)
    ·refine ⟨_,q5,λf=>?_⟩;by_cases hf:f=fld
     ·subst hf;simp [RelO];exact r2
     ·have hb:(f==fld)=false:=beq_eq_false_iff_ne.mpr hf;simp [hb,hf,RelO,List.lookup]
    ·rw[upd_ne q3.symm];exact HOk.none_of I1.hok mk.new
  ·cases hm
end
structure XF (K:Fg) (D:Addr):Prop where
 ga:PySem.W.findIn K (.ref D) "__getattribute__"=some (some (.builtin "BaseException.__getattribute__"))
 no:PySem.W.findIn K (.ref D) "__getattr__"=some none
 mb:PySem.W.mroIn K D (.type "BaseException")=some true
 hd:PySem.W.hasDictIn K D=true
 cl:∀od,PySem.W.findObj K D od "__class__"=some (.bind (.builtin "getset_descriptor.__get__") (.builtin "object.__class__"))
 mo:PySem.W.mroIn K D (.type "object")=some true
def XAt (H:Hp) (x:V) (D:Addr) (fs:List (Str × V)):Prop:=
 ∃e,x=.ref e/\((H e=some (.ext (IsX e (.ref D) none))/\fs=[])\/∃d,H e=some (.ext (IsX e (.ref D) (some d)))/\H d=some (.xd fs))
section
variable {K:Fg} {X:Cx} {pins:List (Addr × Obj)} {σ:St} {H:Hp} {s:Shared}
theorem x_inst {x:V} {D:Addr} {fs:List (Str × V)} (I:Inv X pins σ H s) (h:XAt H x D fs):∃(e:Addr) (ox:Obj) (od:Option Obj),x=.ref e/\PySem.W.InstAt s.heap e ox D od/\(fs=[]\/∃(o:Obj) (mA:Str->Option Value),od=some o/\(∀name,PySem.W.lookIn name o=some (mA name))/\∀f,RelO (fs.lookup f) (mA f)):=by
 obtain ⟨e,rfl,h⟩:=h;rcases h with ⟨h,rfl⟩|⟨d,h,hd⟩
 ·obtain ⟨⟨oe,vs,eo,hc,hx,dt⟩,_⟩:=I.hok e _ h;refine ⟨e,oe,none,rfl,⟨eo,hc,?_,?_⟩,.inl rfl⟩
  ·unfold PySem.W.notCls;rw[dt]
  ·rw[hx];trivial
 ·obtain ⟨⟨oe,vs,eo,hc,hx,dt⟩,_⟩:=I.hok e _ h;obtain ⟨mA,n,r⟩:=I.hok d _ hd;obtain ⟨od,ho,hl⟩:=lookIn_ns n;refine ⟨e,oe,some od,rfl,⟨eo,hc,?_,?_⟩,.inr ⟨od,mA,rfl,hl,r⟩⟩
  ·unfold PySem.W.notCls;rw[dt]
  ·rw[hx];exact ho
def clV:V->Option Value
 | .ty n=>some (.type n)
 | .ref C=>some (.ref C)
 |_=>none
theorem clV_rel {c:V} {cv u:Value} (h:clV c=some cv) (r:RelV c u):u=cv:=by
 cases c with
 |ty n=>cases h;exact r
 |ref C=>cases h;exact r
 |_=>cases h
def rIsx (K:Fg):List V->Hp->VK->Prop
 |[x,c],H,Q=>∃cv t b,clV c=some cv/\(TyOf K H x t\/∃D fs,t=.ref D/\XAt H x D fs/\XF K D)/\PySem.W.kitOne K t cv=some b/\Q (.bl b) H
 |_,_,_=>False
theorem isx_ok (X:Cx):CallR X (.builtin "isinstance") (rIsx X.K):=by
 intro pins s σ H xs us Q I r h;unfold rIsx at h;split at h
 ·rename_i x c;obtain ⟨cv,t,b,hc,ty,k,q⟩:=h;obtain ⟨u,v,rfl,r1,r2⟩:=r.two;obtain rfl:=clV_rel hc r2;rcases ty with ty|⟨D,fs,rfl,xa,F⟩
  ·exact isinst_ok I r1 ty k λtk=>⟨.bl b,H,I.tok tk,rfl,q⟩
  ·obtain ⟨e,ox,od,rfl,J,_⟩:=x_inst I xa;obtain rfl:u=Value.ref e:=r1;exact PySem.W.kia_one (kitx_exc F.ga F.no F.mb F.hd (F.cl od) F.mo) I.kIn J k (λz=>nomatch z) λtk=>⟨.bl b,H,I.tok tk,rfl,q⟩
 ·exact h.elim
def isx (a b:EX K):EX K:=bfn "isinstance" "isinstance" (rIsx K) (λX hK _ _=>by subst hK;exact isx_ok X) PyProof.Rows.Boot.isinstance (by decide+kernel) (by decide+kernel) a [b]
def tXf (K:Fg) (ta:TE) (f:Str):TE:=λσ H Q=>ta σ H λx H1=>∃D fs v,XAt H1 x D fs/\XF K D/\PySem.W.findIn K (.ref D) f=some none/\fs.lookup f=some v/\Q v H1
theorem pe_xf {ta:TE} {e:Expr} {f:Str} {pos:Pos} (he:PE X e ta) (hb:attributeBase e f X.env (eval e X.env)=eval e X.env):PE X (.Attribute e f pos) (tXf X.K ta f):=by
 intro pins s σ H Q I h;refine attr_of hb (thn (he pins s σ H _ I h) λu s1 ⟨x,H1,I1,rx,D,fs,v,xa,F,n,l,q⟩=>?_);obtain ⟨a,ox,od,rfl,J,z⟩:=x_inst I1 xa;obtain rfl:u=Value.ref a:=rx;rcases z with rfl|⟨o,mA,rfl,hl,r⟩
 ·cases l
 ·have rf:=r f;rw[l] at rf;cases hm:mA f with
  |none=>rw[hm] at rf;exact rf.elim
  |some u'=>
   rw[hm] at rf;have rv:RelV v u':=rf;refine xget I1.kIn J F.ga F.no F.mb (PySem.W.findObj_own F.hd n rfl (by rw[hl,hm])) (handed_of rv) ?_;exact ⟨v,H1,I1.tok _,rv,q⟩
def xfl (a:EX K) (f:Str) (ha:a.s≠.zc:=by intro z;cases z):EX K:=mkE2 (λE=>tXf K (a.t E) f)
 (λC e=>match e with
  | .Attribute o g _=>g==f&&a.m C o
  |_=>false) a.q .pl
 (λX C E e hK G hE hq hm=>by
  subst hK
  cases e with
  |Attribute o g p=>
   simp only [Bool.and_eq_true] at hm
   obtain ⟨h1,h2⟩:=hm
   obtain rfl:=eq_of_beq h1
   exact pe_xf (a.ok X C E o rfl G hE hq h2) (shp_base (a.sok C o h2) ha)
  |_=>exact ff hm)
 (λC e hm=>by cases e with|Attribute o g p=>exact ⟨rfl,rfl⟩|_=>exact ff hm)
theorem ini_mk {x slf prm fld name qual:Str} {C f:Addr} {params:Arguments} {scope:Scope} {dV kV doc pm cdv ct:Value} {an od:Option Addr} {osl:Array (Option Value)} {p1 p2 p3 p4:Pos}
  (h1:PySem.W.nsIn K mainGlobals x=some (some (.ref C))) (h2:PySem.W.findIn K (.ref C) "__init__"=some (some (.ref f)))
  (l:K.lookup f=some ⟨.type "function",od,.func (PySem.W.fnOf name qual params [.Assign [.Attribute (.Name slf p1) fld p2] (.Name prm p3) p4] scope dV kV doc pm an cdv ct),osl⟩) (c:PySem.W.codeIn K cdv qual=true)
  (s:scope.kind=.function/\scope.isCoroutine=false/\scope.isGenerator=false) (n:scope.names.lookup slf=some .local/\scope.names.lookup prm=some .local) (d:(slf==("__debug__":Str))=false/\(prm==("__debug__":Str))=false/\slf≠prm)
  (b:∀(s:Shared) (u v:Value),K.In s.heap->PySem.BindsTo s (PySem.W.fnOf name qual params [.Assign [.Attribute (.Name slf p1) fld p2] (.Name prm p3) p4] scope dV kV doc pm an cdv ct) ⟨[u,v],[]⟩ [(slf,u),(prm,v)]):IniFn K (iniAt K x) slf prm fld:=by
 have e1:clsAt K x=C:=by unfold clsAt;rw[h1]
 have e2:iniAt K x=f:=by unfold iniAt;rw[e1,h2]
 rw[e2];exact ⟨name,qual,params,scope,dV,kV,doc,pm,cdv,ct,an,od,osl,p1,p2,p3,p4,l,c,s,n,d,b⟩
end
section
variable {K:Fg}
def tyVE:EX K:=bty "ValueError" "ValueError" (by kernel_rfl) (by decide+kernel) (by decide+kernel)
section
variable {E:XS} {σ:St} {H:Hp} {Q:VK} {a b:EX K} {D:Ends}
theorem i_tyVE (h:Q (.ty "ValueError") H):(tyVE:EX K).t E σ H Q:=h
theorem i_isx (h:a.t E σ H λx H1=>b.t E σ H1 λy H2=>rIsx K [x,y] H2 Q):(isx a b).t E σ H Q:=h
theorem i_xfl {f:Str} {ha:a.s≠.zc} (h:a.t E σ H λx H1=>∃D fs v,XAt H1 x D fs/\XF K D/\PySem.W.findIn K (.ref D) f=some none/\fs.lookup f=some v/\Q v H1):(xfl a f ha).t E σ H Q:=h
theorem i_raiseI {x slf prm fld:Str} (h:a.t E σ H λv H1=>∀dx,H1 dx=none->E σ (.ref (clsAt K x)) (some dx) (upd H1 dx (.xd [(fld,v)]))):(raiseI x slf prm fld a).t E D σ H:=h
theorem i_raiseO {x:Str} {as:List (EX K)} (h:tAs (a::as) E σ H λvs H1=>vs.length<=sizeLine/\E σ (.ref (clsAt K x)) none H1):(raiseO x a as).t E D σ H:=h
theorem i_try {b:List (SX K)} {x:Str} {kn km:Nat} (h:tSs b (tEx K x kn km D) D σ H):(tryK b x kn km).t E D σ H:=h
theorem i_isxX {x:V} {c:V} {cv:Value} {C:Addr} {fs:List (Str × V)} {k:Bool} (h1:clV c=some cv) (xa:XAt H x C fs) (F:XF K C) (h2:PySem.W.kitOne K (.ref C) cv=some k) (q:Q (.bl k) H):rIsx K [x,c] H Q:=⟨cv,_,k,h1,.inr ⟨C,fs,rfl,xa,F⟩,h2,q⟩
end
end
open PySem.Builtin PySem.Builtin.Str
section
variable {K:Fg}
def rStartsU:Str->List V->Hp->VK->Prop
 |z,[.str y],H,Q=>Q (.bl (Txt.startswith z y)) H
 |_,_,_,_=>False
theorem mt_starts {X:Cx}:MtR X "str.startswith" (rS rStartsU):=by
 intro pins s σ H x xs v us Q I rx rs q;cases x with
 |str z=>
  have q':rStartsU z xs H Q:=q;unfold rStartsU at q';split at q'
  ·obtain ⟨t,rfl⟩:=rx;obtain ⟨u,rfl,ru⟩:=rs.one;obtain ⟨t2,rfl⟩:=ru;exact SC.startswith ⟨.bl _,H,I,rfl,q'⟩
  ·exact q'.elim
 |_=>exact q.elim
def m_startswith (o a:EX K) (ho:o.s≠.zc:=by intro z;cases z):EX K:=methS "startswith" "str.startswith" rStartsU PySem.F.slot_str_startswith PySem.F.type_str_startswith (λ_ _ _ _=>mt_starts) o ho [a]
def RD (r:V->List V->Hp->VK->Prop) (t:TA):V->St->Hp->VK->Prop
 | .ref p,σ,H,Q=>(∃kvs,H p=some (.dK kvs))/\t σ H λys H2=>r (.ref p) ys H2 Q
 |_,_,_,_=>False
def rGet2:V->List V->Hp->VK->Prop
 | .ref a,[y,d],H,Q=>∃o,DGet H a y o/\Q (o.getD d) H
 |_,_,_,_=>False
theorem mt_get2 {X:Cx} (hu:X.A.units+1<cLine):MtR X "dict.get" rGet2:=by
 intro pins s σ H x xs v us Q I rx rs q;unfold rGet2 at q;split at q
 ·obtain ⟨o,g,q⟩:=q;obtain ⟨u,w',rfl,r1,r2⟩:=rs.two;cases rx;exact d_get2 hu I g r1 r2 λw' s' I' rw'=>⟨_,H,I',rw',q⟩
 ·exact q.elim
def m_get (o a b:EX K) (ho:o.s≠.zc:=by intro z;cases z):EX K:=methG "get" "dict" "dict.get" rGet2 (RD rGet2) PySem.F.plainAttrs_dict PySem.F.slot_dict_get PySem.F.type_dict_get (λX _ _ hu=>mt_get2 (by lia)) (λt x σ H Q h=>by
  cases x with
  |ref p=>exact ⟨.inr (.inr (.inl ⟨rfl,.inl h.1⟩)),h.2⟩
  |_=>exact h.elim) o ho [a,b]
section
variable {E:XS} {σ:St} {H:Hp} {Q:VK} {D:Ends} {QB:Bool->Hp->Prop} {v:V} {i j:Int} {n:Nat} {a b c:EX K}
theorem i_starts {ho:a.s≠.zc} (h:a.t E σ H λx H1=>RS rStartsU (tAs [b] E) x σ H1 Q):(m_startswith a b ho).t E σ H Q:=h
theorem i_get {ho:a.s≠.zc} (h:a.t E σ H λx H1=>RD rGet2 (tAs [b,c] E) x σ H1 Q):(m_get a b c ho).t E σ H Q:=h
theorem i_RD {r:V->List V->Hp->VK->Prop} {t:TA} {p:Addr} {kvs:List (Key × V)} (c:H p=some (.dK kvs)) (h:t σ H λys H2=>r (.ref p) ys H2 Q):RD r t (.ref p) σ H Q:=⟨⟨kvs,c⟩,h⟩
theorem i_get2 {p:Addr} {y d:V} {o:Option V} (g:DGet H p y o) (h:Q (o.getD d) H):rGet2 (.ref p) [y,d] H Q:=⟨o,g,h⟩
theorem i_catL {p q:Addr} {xs ys:List V} (h1:H p=some (.lst xs)) (h2:H q=some (.lst ys)) (hz:xs.length+ys.length<=sizeLine) (h:∀r,H r=none->Q (.ref r) (upd H r (.lst (xs++ys)))):rBin K .Add (.ref p) (.ref q) H Q:=
 .inl ⟨p,q,xs,ys,rfl,rfl,h1,h2,hz,h⟩
theorem i_rep {p:Addr} {xs:List V} {k:Int} (h1:H p=some (.lst xs)) (h2:-(2 ^ 63)<=k/\k<2 ^ 63) (hz:xs.length * k.toNat<=sizeLine) (h:∀r,H r=none->Q (.ref r) (upd H r (.lst (List.replicate k.toNat xs).flatten))):rBin K .Mult (.ref p) (.int k) H Q:=
 ⟨p,k,xs,rfl,rfl,h1,h2.1,h2.2,hz,h⟩
theorem comp_zip {p r:Addr} {xs ys:List V} {te:TE} {is:List Nat} {D:Addr} (f:V->V->V) (hp:SqL K H p xs) (hr:SqL K H r ys) (hD:H D=none) (hz:xs.length<=sizeLine)
  (step:∀(i:Nat) (x y:V) (H1:Hp) (Q':VK),xs[i]?=some x->ys[i]?=some y->Same H H1->(∀H3,Same H1 H3->Q' (f x y) H3)->te (some x::some y::capV is σ) H1 Q')
  (fin:∀H1,Same H H1->H1 D=some (.lst (List.zipWith f xs ys))->Q (.ref D) H1):CompBodyI (Itz K p r) (unp [0,1]:TX K).g (cT (none:Option (EX K))) te 2 is σ D H Q:=by
 refine ⟨λi m σ' H1=>m=min xs.length ys.length - i/\i<=min xs.length ys.length/\(∃a b,σ'=a::b::capV is σ)/\Same H H1/\H1 D=some (.lst ((List.zipWith f xs ys).take i)),⟨_,rfl,Nat.zero_le _,⟨none,none,rfl⟩,λb o e=>by rw[upd_ne (ne_of_none e hD)];exact e,by rw[upd_same,List.take_zero]⟩,?_⟩;rintro i m σ' H1 ⟨rfl,hi,⟨a,b,rfl⟩,hS,hO⟩;have hp1:=hS.seq hp;have hr1:=hS.seq hr;by_cases hlt:i<min xs.length ys.length
 ·have l1:i<xs.length:=by lia
  have l2:i<ys.length:=by lia
  refine .inr ⟨⟨xs,ys,xs[i],ys[i],hp1,hr1,List.getElem?_eq_getElem l1,List.getElem?_eq_getElem l2⟩,?_⟩;rintro v H' ⟨t,x,y,ht,rfl,rfl,hx,hy⟩;have hx1:=hx _ hp1;have hy1:=hy _ hr1;have s1:Same H1 (upd H1 t (.tup [x,y])):=λc o e=>by rw[upd_ne (ne_of_none e ht)];exact e
  refine i_unp2 (SqT.of upd_same) ?_;refine ⟨λ_=>?_,λz=>nomatch z⟩;refine step i x y _ _ hx1 hy1 (hS.trans s1) λH3 s3=>?_;refine ⟨_,s3 _ _ (s1 _ _ hO),?_,min xs.length ys.length - (i+1),by lia,rfl,hlt,⟨_,_,rfl⟩,λc o q=>?_,?_⟩
  ·rw[List.length_take];lia
  ·rw[upd_ne (ne_of_none q hD)];exact s3 _ _ (s1 _ _ (hS c o q))
  ·rw[upd_same,List.take_add_one,List.getElem?_zipWith,hx1,hy1];rfl
 ·have e:i=min xs.length ys.length:=by lia
  subst e;refine .inl ⟨⟨xs,ys,hp1,hr1,by lia⟩,fin H1 hS ?_⟩;rw[hO,List.take_of_length_le (by rw[List.length_zipWith];exact Nat.le_refl _)]
end
end
section
variable {K:Fg} {σ:St} {H:Hp} {Q:VK}
theorem comp_rel {J:It} {P:Hp->Prop} {items:List V} (Y:Yl J P items) {te:TE} {is:List Nat} {D:Addr} (R:Nat->V->Hp->Prop) (hD:H D=none) (hP:∀H1,Same H H1->P H1) (hz:items.length<=sizeLine)
  (mono:∀i y H1 H2,(∀b o,b≠D->H1 b=some o->H2 b=some o)->R i y H1->R i y H2)
  (step:∀(i:Nat) (x:V) (H1:Hp) (Q':VK),items[i]?=some x->Same H H1->(∃o,H1 D=some o)->(∀y H3,Same H1 H3->R i y H3->Q' y H3)->te (some x::capV is σ) H1 Q')
  (fin:∀H1 ys,Same H H1->H1 D=some (.lst ys)->ys.length=items.length->(∀i y,ys[i]?=some y->R i y H1)->Q (.ref D) H1):CompBodyI J (nam 0:TX K).g (cT (none:Option (EX K))) te 1 is σ D H Q:=by
 refine ⟨λi m σ' H1=>m=items.length - i/\i<=items.length/\(∃a,σ'=a::capV is σ)/\Same H H1/\∃ys:List V,H1 D=some (.lst ys)/\ys.length=i/\∀j y,ys[j]?=some y->R j y H1,⟨items.length,by simp,Nat.zero_le _,⟨none,rfl⟩,λb o e=>by rw[upd_ne (ne_of_none e hD)];exact e,[],upd_same,rfl,λj y z=>by simp at z⟩,?_⟩;rintro i m σ' H1 ⟨rfl,hi,⟨a,rfl⟩,hS,ys,hO,hl,hr⟩;have p:=hP H1 hS;by_cases hlt:i<items.length
 ·refine .inr ⟨Y.go i H1 p hlt,λx H' hy=>?_⟩;obtain ⟨e,hx⟩:=Y.yld i H1 x H' p hlt hy;subst e;refine ⟨λ_=>?_,λz=>nomatch z⟩;refine step i x H' _ hx hS ⟨_,hO⟩ λy H3 s3 hy3=>?_;refine ⟨ys,s3 _ _ hO,by rw[hl];lia,items.length - (i+1),by lia,rfl,hlt,⟨_,rfl⟩,λb o q=>?_,ys++[y],upd_same,by rw[List.length_append,hl];rfl,λj y' hj=>?_⟩
  ·rw[upd_ne (ne_of_none q hD)];exact s3 _ _ (hS b o q)
  ·by_cases hj2:j<ys.length
   ·rw[List.getElem?_append_left hj2] at hj;exact mono j y' H' _ (λb o hb q=>by rw[upd_ne hb];exact s3 _ _ q) (hr j y' hj)
   ·rw[List.getElem?_append_right (by lia)] at hj;have e0:j - ys.length=0:=by
     have:=(List.getElem?_eq_some_iff.mp hj).1;simp at this;lia
    rw[e0] at hj;have e1:y=y':=by simpa using hj
    subst e1;have e2:j=i:=by lia
    subst e2;exact mono j y H3 _ (λb o hb q=>by rw[upd_ne hb];exact q) hy3
 ·have e:i=items.length:=by lia
  subst e;exact .inl ⟨Y.stop H1 p,fin H1 ys hS hO hl hr⟩
theorem comp_tupR {p:Addr} {xs:List V} {te:TE} {is:List Nat} {D:Addr} (R:Nat->V->Hp->Prop) (hp:SqT K H p xs) (hD:H D=none) (hz:xs.length<=sizeLine)
  (mono:∀i y H1 H2,(∀b o,b≠D->H1 b=some o->H2 b=some o)->R i y H1->R i y H2)
  (step:∀(i:Nat) (x:V) (H1:Hp) (Q':VK),xs[i]?=some x->Same H H1->(∃o,H1 D=some o)->(∀y H3,Same H1 H3->R i y H3->Q' y H3)->te (some x::capV is σ) H1 Q')
  (fin:∀H1 ys,Same H H1->H1 D=some (.lst ys)->ys.length=xs.length->(∀i y,ys[i]?=some y->R i y H1)->Q (.ref D) H1):CompBodyI (Itt K p) (nam 0:TX K).g (cT (none:Option (EX K))) te 1 is σ D H Q:=comp_rel (yl_tup (xs:=xs)) R hD (sqT_same hp) hz mono step fin
theorem comp_lstI {p:Addr} {xs:List V} {te:TE} {is:List Nat} {D:Addr} (f:Nat->V) (hp:SqL K H p xs) (hD:H D=none) (hz:xs.length<=sizeLine)
  (step:∀(i:Nat) (x:V) (H1:Hp) (Q':VK),xs[i]?=some x->Same H H1->(∀H3,Same H1 H3->Q' (f i) H3)->te (some x::capV is σ) H1 Q')
  (fin:∀H1,Same H H1->H1 D=some (.lst ((List.range xs.length).map f))->Q (.ref D) H1):CompBodyI (Itl K p) (nam 0:TX K).g (cT (none:Option (EX K))) te 1 is σ D H Q:=comp_all (yl_list (xs:=xs)) f hD (λH1 hS=>hS.seq hp) hz step fin
end
def Itv (K:Fg) (a:Addr) (n:Nat):It:=
 ⟨λi H=>i<n/\∃xs x,SqL K H a xs/\xs[n - 1 - i]?=some x,λi H x H'=>H'=H/\∀xs,SqL K H a xs->xs[n - 1 - i]?=some x,λi _=>i=n⟩
theorem turn_rev {P:Program} {w:World} {K:Fg} {tg:Expr} (a it:Addr) (n:Nat):Turn P w K tg (Itv K a n) [it] it (λi h=>h.IsRevIter it a ((n:Int) - 1 - (i:Int))) where
 mem:=by simp
 obj:=λi h st b hb=>by
  have e:b=it:=by simpa using hb
  subst e;obtain ⟨o,e,c,d⟩:=st;exact ⟨o,e,λv z=>by rw[d] at z;cases z⟩
 keep:=λi h h' st k=>st.at λo e=>k it (by simp) o e
 item:=by
  intro X hP hw hK hc i pins s σ H E I hf st hg;subst hP hw hK;obtain ⟨hi,xs,x,hq,hx⟩:=hg;obtain ⟨its,rv,p,hz⟩:=I.list hq;obtain ⟨u,hu,ru⟩:=rv.get hx;obtain ⟨f0,f1,f2,f3,f4,f5⟩:=hf it (by simp);have e:(n:Int) - 1 - (i:Int)=((n - 1 - i:Nat):Int):=by lia
  rw[e] at st;refine wpAny_pyNext_rev_item st p.isList (x:=u) (by simpa using hu) λh' st' sb=>?_;have I1:Inv X pins σ H {s with heap:=h'}:=I.turned (t':=s.toks) (λb o hb e=>(sb.2 b hb).trans e) f0 f1 f3 f4 f5;have e2:((n - 1 - i:Nat):Int) - 1=(n:Int) - 1 - ((i+1:Nat):Int):=by lia
  rw[e2] at st';obtain ⟨o,e,c,d⟩:=id st';exact ⟨u,rfl,go_of (s:={s with heap:=h'}) e c d (by decide) ⟨x,H,I1,ru,⟨rfl,λys hy=>by rw[I.list_inj hy hq];exact hx⟩,st',λb hb=>(hf b hb).1⟩⟩
 done:=by
  intro X hP hw hK hc i pins s σ H E I hf st hg;subst hP hw hK;have hg:i=n:=hg;subst hg;obtain ⟨f0,f1,f2,f3,f4,f5⟩:=hf it (by simp);have e:(i:Int) - 1 - (i:Int)=-1:=by lia
  rw[e] at st;exact wpAny_pyNext_rev_end (I.ok.hd hc) st λh' eb=>⟨rfl,I.turned (t':=s.toks) (λb o hb e=>eb b o hb e) f0 f1 f3 f4 f5⟩
 self:=λ_ _ _ _ _ st h=>wpAny_pyIter_revIter st h
theorem yl_rev {K:Fg} {a:Addr} {xs:List V}:Yl (Itv K a xs.length) (λH=>SqL K H a xs) xs.reverse where
 go:=λi H p h=>by
  rw[List.length_reverse] at h;exact ⟨h,xs,xs[xs.length - 1 - i],p,List.getElem?_eq_getElem (by lia)⟩
 yld:=λi H x H' p hi h=>⟨h.1,by
  rw[List.length_reverse] at hi
  rw[List.getElem?_reverse hi]
  exact h.2 xs p⟩
 stop:=λH p=>by
  show xs.reverse.length=xs.length;exact List.length_reverse
section
variable {K:Fg}
def rRevI (K:Fg):List V->Hp->(It->Hp->Prop)->Prop
 |[.ref p],H,R=>∃xs,SqL K H p xs/\R (Itv K p xs.length) H
 |_,_,_=>False
def iRev (a:EX K):IX K where
 t:=λE σ H R=>tAs [a] E σ H λvs H1=>rRevI K vs H1 R
 tm:=λ_=>true
 m:=λC e=>match e with
  | .Call (.Name y _) es [] _=>glB C "reversed" y&&mAs [a] C es
  |_=>false
 q:=λR=>qAs [a] R
 ok:=λX C E tg e hK G hE hq _ hm=>by
  subst hK;cases e with
  |Call f es ks p=>
   cases f with
   |Name y py=>
    cases ks with
    |nil=>
     simp only [Bool.and_eq_true] at hm;obtain ⟨h1,h2⟩:=hm;have e:=glB_eq h1;subst e;obtain ⟨g,d⟩:=glB_gl G h1;cases es with
     |nil=>cases h2
     |cons e es=>
      intro pins s σ H R I h;refine Call_ (ld_blt I g (G.bl _ (by decide+kernel)) PyProof.Rows.Boot.reversed (PyProof.Rows.callWith_type1 (thn (as_ok G hE [a] (e::es) hq h2 p pins s σ H _ I h) λus s1 ⟨vs,H1,I1,r1,q1⟩=>?_) (shp_star (a.sok C e (mAs_cons h2).1)) (as_plain [] es (mAs_cons h2).2)));replace q1:rRevI X.K vs H1 R:=q1;unfold rRevI at q1;split at q1
      ·rename_i p1;obtain ⟨u,rfl,ru⟩:=r1.one;cases ru;obtain ⟨xs,hx,q⟩:=q1;obtain ⟨ia,ra,pa,_⟩:=I1.list hx;refine call_reversed_list pa.isList ?_;have hl:((ia.toArray.size:Nat):Int) - 1=(xs.length:Int) - 1 - ((0:Nat):Int):=by rw[List.size_toArray,<-ra.length];lia
       have st:({s1 with heap:=s1.heap.push (revObj p1 ((ia.toArray.size:Int) - 1))}:Shared).heap.IsRevIter s1.heap.objs.size p1 ((xs.length:Int) - 1 - ((0:Nat):Int)):=⟨_,Heap.get?_push_size _ rfl,rfl,by rw[<-hl];rfl⟩;refine wpAny_pyIter_revIter st ?_;refine ⟨s1.heap.objs.size,[s1.heap.objs.size],_,_,H1,rfl,I1.kept (t':=s1.toks) λb o e=>Heap.get?_push_of_some _ e,turn_rev p1 _ xs.length,st,λb hb=>?_,q⟩;have e:b=s1.heap.objs.size:=by simpa using hb
       subst e;exact I1.fpOk (Nat.le_refl _) (I1.hok.fresh (Nat.le_refl _))
      ·exact q1.elim
    |cons _ _=>cases hm
   |_=>exact ff hm
  |_=>exact ff hm
 fs:=λC e env x hm=>by cases e with|Call f es ks p=>rfl|_=>exact ff hm
section
variable {E:XS} {σ:St} {H:Hp} {Q:VK} {D:Ends} {a c:EX K} {bd:List (SX K)}
theorem i_revI {R:It->Hp->Prop} (h:a.t E σ H λx H1=>rRevI K [x] H1 R):(iRev a).t E σ H R:=h
theorem i_revL {R:It->Hp->Prop} {p:Addr} {xs:List V} (c:SqL K H p xs) (h:R (Itv K p xs.length) H):rRevI K [.ref p] H R:=⟨xs,c,h⟩
theorem loop_rev {p:Addr} {xs:List V} {g:TG} {tb:TS} (Pv:Nat->St->Hp->Prop) (h0:Pv 0 σ H) (hl:∀i σ H,Pv i σ H->SqL K H p xs)
  (hs:∀i x σ H,xs.reverse[i]?=some x->Pv i σ H->g x σ H λσ2 H2=>tb {D with nx:=Pv (i+1),ct:=Pv (i+1),bk:=D.nx} σ2 H2) (hd:∀σ H,Pv xs.length σ H->D.nx σ H):LoopW (Itv K p xs.length) g tb D σ H:=
 loop_yl yl_rev Pv h0 (λi σ H _ q=>hl i σ H q) hs (λσ H q=>hd σ H (by rw[List.length_reverse] at q;exact q))
theorem loop_wh (W:Nat->St->Hp->Prop) {m:Nat} (h0:W m σ H)
  (hs:∀m σ H,W m σ H->c.tt E σ H λb H1=>br b (∃N:St->Hp->Prop,(∀σ' H',N σ' H'->∃m',m'<m/\W m' σ' H')/\tSs bd E {D with nx:=N,ct:=N,bk:=D.nx} σ H1) (D.nx σ H1)):(whS c bd).t E D σ H:=⟨W,⟨m,h0⟩,hs⟩
theorem wh_go {W:Nat->St->Hp->Prop} {m:Nat} {tb:TS} (h:tb {D with nx:=λσ' H'=>∃m',m'<m/\W m' σ' H',ct:=λσ' H'=>∃m',m'<m/\W m' σ' H',bk:=D.nx} σ H):
  ∃N:St->Hp->Prop,(∀σ' H',N σ' H'->∃m',m'<m/\W m' σ' H')/\tb {D with nx:=N,ct:=N,bk:=D.nx} σ H:=⟨_,λ_ _ z=>z,h⟩
end
end
def TT {K:Fg} (sp:Sp) (b:List (SX K)) (N:List Str):Prop:=∀(vs:List V) (H:Hp) (Q:VK) (E:XK),sp vs H Q E->tSs b (λ_=>E) {nx:=λ_ H'=>Q .non H',rt:=Q} (start N vs) H
end L2.Na
set_option compiler.extract_closed false
set_option hygiene false in
local macro_rules | `(tactic| walk_at "t") => `(tactic| (with_reducible first | refine L2.Na.i_seq ?_ | refine L2.Na.i_nil ?_ | refine L2.Na.i_set ?_ | refine L2.Na.i_ret ?_ | refine L2.Na.i_ex ?_ | refine L2.Na.i_if ?_ | refine L2.Na.i_cst ?_ | refine L2.Na.i_glb ?_ | refine L2.Na.i_bin ?_ | refine L2.Na.i_call ?_ | refine L2.Na.i_acons ?_ | refine L2.Na.i_anil ?_ | refine L2.Na.i_add ?_ | refine L2.Na.i_sub ?_ | refine L2.Na.i_cmp ?_ | refine L2.Na.j_cmp ?_ | refine L2.Na.i_gt ?_ | refine L2.Na.i_eq ?_ | refine L2.Na.i_eqS ?_ | refine L2.Na.j_lt ?_ | refine L2.Na.j_le ?_ | refine L2.Na.j_gt ?_ | refine L2.Na.j_eq ?_ | refine L2.Na.j_not ?_ | refine L2.Na.i_not ?_ | refine L2.Na.i_truB ?_ | refine L2.Na.i_and ?_ | refine L2.Na.j_and ?_ | refine L2.Na.j_or ?_ | refine L2.Na.i_bop0 ?_ | refine L2.Na.j_bop0 ?_ | refine L2.Na.j_bopA ?_ | refine L2.Na.i_bopA ?_ | refine L2.Na.i_len ?_ | refine L2.Na.i_sum ?_ | refine L2.Na.i_min ?_ | refine L2.Na.i_max ?_ | refine L2.Na.i_min2 ?_ | refine L2.Na.i_max2 ?_ | refine L2.Na.i_isi ?_ | refine L2.Na.i_tyStr ?_ | refine L2.Na.i_tyInt ?_ | refine L2.Na.i_tyBool ?_ | refine L2.Na.i_dzip ?_ | refine L2.Na.i_listE ?_ | refine L2.Na.i_intE ?_ | refine L2.Na.i_ix ?_ | refine L2.Na.i_slc ?_ | refine L2.Na.i_o0 ?_ | refine L2.Na.i_o1 ?_ | refine L2.Na.i_rO ?_ | refine L2.Na.i_lst ?_ | refine L2.Na.i_tup ?_ | refine L2.Na.i_join ?_ | refine L2.Na.i_count ?_ | refine L2.Na.i_index ?_ | refine L2.Na.i_append ?_ | refine L2.Na.i_RS ?_ | refine L2.Na.j_isN ?_ | refine L2.Na.j_isnN ?_ | refine L2.Na.i_count1 ?_ | refine L2.Na.i_for ?_ | refine L2.Na.i_rng ?_ | refine L2.Na.i_iseq ?_ | refine L2.Na.i_itS ?_ | refine L2.Na.i_comp ?_ | refine L2.Na.i_compC ?_ | refine L2.Na.i_setC ?_ | refine L2.Na.i_nam ?_ | refine L2.Na.i_starts ?_ | refine L2.Na.i_get ?_ | refine L2.Na.i_zip ?_))
local macro_rules | `(tactic| walk_at "s") => `(tactic| first
 | ((with_reducible refine L2.Na.i_var (v := ?v) ?h1 ?_); (case h1 => exact rfl))
 | walk_at "t"
 | ((with_reducible refine L2.Na.i_mul ?h1 ?_); (case h1 => first | exact Or.inl ⟨by omega, by omega⟩ | exact Or.inr ⟨by omega, by omega⟩))
 | ((with_reducible refine L2.Na.i_div ?h1 ?_); (case h1 => exact ⟨by omega, by omega⟩))
 | ((with_reducible refine L2.Na.i_mod ?h1 ?_); (case h1 => omega))
 | ((with_reducible refine L2.Na.i_rng1 ?h1 ?_); (case h1 => exact ⟨by omega, by omega⟩))
 | ((with_reducible refine L2.Na.i_lenL (xs := ?xs) ?h1 ?_); (case h1 => assumption))
 | ((with_reducible refine L2.Na.i_lenT (xs := ?xs) ?h1 ?_); (case h1 => assumption))
 | ((with_reducible refine L2.Na.j_tru ?h1 ?_); (case h1 => rfl)))
local macro_rules | `(tactic| walk_at "go") => `(tactic| repeat (walk_at "s"))
namespace L2.Na
open PySem PySem.Spec PyProof.Rows L2 L2.L3
section
variable {K:Fg} {σ:St} {H:Hp} {Q:VK}
theorem comp_unp {p:Addr} {xs:List V} {te:TE} {is:List Nat} {D:Addr} (f U W:Nat->V) (hp:SqL K H p xs) (hx:∀(i:Nat) (x:V),xs[i]?=some x->∃t,x=.ref t/\SqT K H t [U i,W i]) (hD:H D=none) (hz:xs.length<=sizeLine)
  (step:∀(i:Nat) (H1:Hp) (Q':VK),i<xs.length->Same H H1->(∀H3,Same H1 H3->Q' (f i) H3)->te (some (U i)::some (W i)::capV is σ) H1 Q')
  (fin:∀H1,Same H H1->H1 D=some (.lst ((List.range xs.length).map f))->Q (.ref D) H1):CompBodyI (Itl K p) (unp [0,1]:TX K).g (cT (none:Option (EX K))) te 2 is σ D H Q:=by
 refine ⟨λi m σ' H1=>m=xs.length - i/\i<=xs.length/\(∃a b,σ'=a::b::capV is σ)/\Same H H1/\H1 D=some (.lst ((List.range i).map f)),⟨xs.length,by simp,Nat.zero_le _,⟨none,none,rfl⟩,λb o e=>by rw[upd_ne (ne_of_none e hD)];exact e,upd_same⟩,?_⟩;rintro i m σ' H1 ⟨rfl,hi,⟨a,b,rfl⟩,hS,hO⟩;have hp1:=hS.seq hp;by_cases hlt:i<xs.length
 ·refine .inr ⟨(yl_list (xs:=xs)).go i H1 hp1 hlt,λx H' hy=>?_⟩;obtain ⟨e,hx1⟩:=(yl_list (xs:=xs)).yld i H1 x H' hp1 hlt hy;subst e;obtain ⟨t,rfl,ht⟩:=hx i x hx1;refine i_unp2 (sqT_same ht _ hS) ?_;refine ⟨λ_=>?_,λz=>nomatch z⟩;refine step i H' _ hlt hS λH3 s3=>?_;refine ⟨_,s3 _ _ hO,by rw[List.length_map,List.length_range];lia,xs.length - (i+1),by lia,rfl,hlt,⟨_,_,rfl⟩,λb o q=>?_,?_⟩
  ·rw[upd_ne (ne_of_none q hD)];exact s3 _ _ (hS b o q)
  ·rw[upd_same,List.range_succ,List.map_append];rfl
 ·have e:i=xs.length:=by lia
  subst e;exact .inl ⟨(yl_list (xs:=xs)).stop H1 hp1,fin H1 hS hO⟩
end
end L2.Na
namespace PySem
namespace F
end F
section
variable {prog:Program} {w:World} {A:Around} {E:Value->Shared->Prop} {s:Shared}
end
end PySem
namespace L2.Na
open PySem PySem.Spec PyProof.Rows L2 L2.L3
section
variable {K:Fg}
section
variable {E:XS} {σ:St} {H:Hp} {a:EX K}
end
end
section
variable {K:Fg}
def cmpR (op:CmpOp) (r:R2) (hr:∀X:Cx,X.K=K->X.A.units+64<cLine->OpR X (compareOp op) r) (a b:EX K):EX K where
 t:=λE=>tOp r (a.t E) (b.t E)
 tt:=λE σ H Q=>a.t E σ H λx H1=>b.t E σ H1 λy H2=>r x y H2 λv H3=>∃c,v=.bl c/\Q c H3
 m:=λC e=>match e with
  | .Compare l [o] [r] _=>decide (o=op)&&(a.m C l&&b.m C r)
  |_=>false
 q:=λR=>a.q R/\b.q R
 s:=.pl
 ok:=λX C E e hK G hE hq hm=>by
  subst hK;cases e with
  |Compare l os rs p=>
   match os,rs,hm with
   |[o],[r'],hm=>
    simp only [Bool.and_eq_true] at hm;obtain ⟨h1,h2,h3⟩:=hm;have e:=of_decide_eq_true h1;subst e;exact pe_cmpR (hr X rfl G.hu) (a.ok X C E l rfl G hE hq.1 h2) (b.ok X C E r' rfl G hE hq.2 h3) (shp_mark (b.sok C r' h3))
  |_=>exact ff hm
 okT:=λX C E e hK G hE hq hm=>by
  subst hK;cases e with
  |Compare l os rs p=>
   match os,rs,hm with
   |[o],[r'],hm=>
    simp only [Bool.and_eq_true] at hm;obtain ⟨h1,h2,h3⟩:=hm;have e:=of_decide_eq_true h1;subst e;intro pins s σ H Q I hw;refine wpAny_isTrue_Compare1 (thn (a.ok X C E l rfl G hE hq.1 h2 pins s σ H _ I hw) λv s1 ⟨x,H1,I1,r1,q1⟩=>thn (b.ok X C E r' rfl G hE hq.2 h3 pins s1 σ H1 _ I1 q1) λu s2 ⟨y,H2,I2,r2,q2⟩=>
     thn (hr X rfl G.hu pins s2 σ H2 x y v u _ I2 r1 r2 q2) λc s3 ⟨z,H3,I3,r3,q3⟩=>?_) (shp_mark (b.sok C r' h3))
    obtain ⟨d,rfl,q⟩:=q3;cases r3;exact wpAny_truthy_bool ⟨H3,I3,q⟩
  |_=>exact ff hm
 sok:=λC e hm=>by cases e with|Compare l o r p=>rfl|_=>exact ff hm
section
variable {E:XS} {σ:St} {H:Hp} {a b:EX K}
end
end
open PySem.SeqAt
section
variable {X:Cx} {pins:List (Addr × Obj)} {σ:St} {H:Hp} {s:Shared}
end
section
variable {K:Fg}
variable {E:XS} {σ:St} {H:Hp} {a b:EX K}
end
section
variable {K:Fg}
end
section
variable {K:Fg}
section
variable {E:XS} {σ:St} {H:Hp} {Q:VK} {D:Ends} {a o:EX K} {as:List (EX K)}
end
end
section
variable {K:Fg}
def sp_law_cell (K:Fg):Sp:=λvs H Q _=>∃(a:Addr) (ns:List Int) (k:Int),vs=[.ref a,.int k]/\SqL K H a (ns.map V.int)/\0<=k/\∀v:Int,Q (.int v) H
def b_law_cell (K:Fg):List (SX K):=
 [ifS (cmp .Lt (var 1) (len (var 0))) [ret (ix (var 0) (var 1))] [],
  ret (cst (.int 0))]
theorem atI_ints {ns:List Int} {k:Int} (h0:0<=k) (h:k<ns.length):∃v:Int,atI (ns.map V.int) k=some (.int v):=by
 have hk:k.toNat<ns.length:=by lia
 have ek:k=((k.toNat:Nat):Int):=by lia
 have z:atI (ns.map V.int) ((k.toNat:Nat):Int)=some (.int ns[k.toNat]):=atI_nat (by rw[List.getElem?_map,List.getElem?_eq_getElem hk]<;>rfl);rw[<-ek] at z;exact ⟨_,z⟩
theorem t_law_cell:TT (sp_law_cell K) (b_law_cell K) ["_law_script","_law_k"]:=by
 intro vs H Q E h;obtain ⟨a,ns,k,rfl,hS,h0,q⟩:=h;unfold b_law_cell;walk_at "go";refine br_d (λc=>?_) λc=>?_
 ·rw[List.length_map] at c;obtain ⟨v,hv⟩:=atI_ints h0 c;walk_at "go";exact i_ixL hS hv (q v)
 ·walk_at "go";exact q 0
def sp_law_mixed (K:Fg):Sp:=λvs H Q _=>∃c k:Int,vs=[.int c,.int k]/\0<=k/\k<=1000/\∀v:Int,0<=v->v<2147483587->Q (.int v) H
def b_law_mixed (K:Fg):List (SX K):=
 [set 2 (bin .Mod (bin .Add (bin .Add (bin .Mult (bin .Mod (var 0) (cst (.int 2147483647))) (cst (.int 69621))) (bin .Mult (bin .Mult (cst (.int 104659)) (var 1)) (var 1))) (cst (.int 7877))) (cst (.int 2147483647))),
  ret (bin .Mod (bin .Mult (var 2) (var 2)) (cst (.int 2147483587)))]
theorem t_law_mixed:TT (sp_law_mixed K) (b_law_mixed K) ["_law_cell_here","_law_k","_law_number"]:=by
 intro vs H Q E h;obtain ⟨c,k,rfl,h0,h1,q⟩:=h;unfold b_law_mixed;walk_at "go";exact q _ (Int.emod_nonneg _ (by decide)) (Int.emod_lt_of_pos _ (by decide))
abbrev abcd:Str:=Str.ofString "abcd"
theorem abcd_len:abcd.length=4:=by decide+kernel
theorem abcd_cps:abcd.cps.toList=[97,98,99,100]:=by decide+kernel
theorem small {n:Nat} (h:n<=1000000):n<=sizeLine:=Nat.le_trans h (by rw[sizeLine_eq];decide)
theorem Same.seqT {H H':Hp} {a:Addr} {xs:List V} (e:Same H H') (h:SqT K H a xs):SqT K H' a xs:=by
 rcases h with (h|⟨o,h⟩)|h
 ·exact .inl (.inl (e _ _ h))
 ·exact .inl (.inr ⟨o,e _ _ h⟩)
 ·exact .inr h
theorem same_upd {H0 H:Hp} {p:Addr} {o:HO} (e:Same H0 H) (hp:H0 p=none):Same H0 (upd H p o):=λb u q=>by rw[upd_ne (ne_of_none q hp)];exact e b u q
def sp_law_said (K:Fg):Sp:=λvs H Q _=>∃x y:Str,vs=[.str x,.str y]/\Q (.bl (decide (x=y))) H
def b_law_said (K:Fg):List (SX K):=
 [ret (andE (isi (var 0) tyStr) [cmp .Eq (var 0) (var 1)])]
theorem kStr:PySem.W.kitOne K (.type "str") (.type "str")=some true:=by kernel_rfl
theorem t_law_said:TT (sp_law_said K) (b_law_said K) ["_law_found","_law_due"]:=by
 intro vs H Q E h;obtain ⟨x,y,rfl,q⟩:=h;unfold b_law_said;walk_at "go";refine ⟨_,_,TyOf.str x,kStr,?_⟩;walk_at "go";refine brT ?_;walk_at "go";exact q
end
section
variable {K:Fg}
def known (m:Int):Str:=Txt.slice abcd none (some m)
theorem ls_known {m:Int} (h0:0<=m) (h4:m<=4):ls (known m)=(List.range m.toNat).map (97+·):=by
 unfold known;rw[show ls (Txt.slice abcd none (some m))=abcd.cps.toList.take m.toNat from slice_to h0,abcd_cps];have:m=0\/m=1\/m=2\/m=3\/m=4:=by lia
 rcases this with rfl|rfl|rfl|rfl|rfl<;>rfl
theorem known_len {m:Int} (h0:0<=m) (h4:m<=4):(known m).length=m.toNat:=by rw[<-ls_len,ls_known h0 h4,List.length_map,List.length_range]
theorem known_at {m:Int} (h0:0<=m) (h4:m<=4) {k:Nat} (hk:k<m.toNat):(known m).cps.toList[k]?=some (97+k):=by
 rw[show (known m).cps.toList=ls (known m) from rfl,ls_known h0 h4,List.getElem?_map,List.getElem?_range hk];rfl
def sp_letters (K:Fg):Sp:=λvs H Q _=>∃m:Int,vs=[.int m]/\Q (.str (known m)) H
def b_letters (K:Fg):List (SX K):=
 [ret (slc (glb "LETTERS" (.str "abcd")) none (some (var 0)))]
theorem t_letters:TT (sp_letters K) (b_letters K) ["many"]:=by
 intro vs H Q E h;obtain ⟨m,rfl,q⟩:=h;unfold b_letters;walk_at "go";exact i_slS (by rw[abcd_len];decide) q
def WB (H:Hp) (d:Addr) (ws:List Str):Prop:=∃kvs,H d=some (.dK kvs)/\(∀k w,ws[k]?=some w->valV kvs (.inr ⟨#[97+k]⟩)=some (.str w))/\∀c,¬(97<=c/\c<97+ws.length)->valV kvs (.inr ⟨#[c]⟩)=none
theorem WB.same {H H':Hp} {d:Addr} {ws:List Str} (h:WB H d ws) (e:Same H H'):WB H' d ws:=by
 obtain ⟨kvs,h1,h2,h3⟩:=h;exact ⟨kvs,e _ _ h1,h2,h3⟩
theorem WB.get {H:Hp} {d:Addr} {ws:List Str} (h:WB H d ws) {c:Nat} {w:Str} (hc:97<=c) (hw:ws[c - 97]?=some w):DGet H d (sgn c) (some (.str w)):=by
 obtain ⟨kvs,h1,h2,_⟩:=h;have e:=h2 (c - 97) w hw;have:97+(c - 97)=c:=by lia
 rw[this] at e;rw[<-e];exact DGet.k (k:=.inr ⟨#[c]⟩) h1
theorem WB.miss {H:Hp} {d:Addr} {ws:List Str} (h:WB H d ws) {c:Nat} (hc:¬(97<=c/\c<97+ws.length)):DGet H d (sgn c) none:=by
 obtain ⟨kvs,h1,_,h3⟩:=h;rw[<-h3 c hc];exact DGet.k (k:=.inr ⟨#[c]⟩) h1
structure Rt4 (K:Fg) (H:Hp) (a:Addr) (ws:List Str):Prop where
 tp:SqT K H a (ws.map V.str)
 pos:1<=ws.length
 four:ws.length<=4
theorem Rt4.same {H H':Hp} {a:Addr} {ws:List Str} (h:Rt4 K H a ws) (e:Same H H'):Rt4 K H' a ws:=⟨Same.seqT e h.tp,h.pos,h.four⟩
def sp_words_by_letter (K:Fg):Sp:=λvs H Q _=>∃(a:Addr) (ws:List Str),vs=[.ref a]/\Rt4 K H a ws/\∀d H',Same H H'->H d=none->WB H' d ws->Q (.ref d) H'
def b_words_by_letter (K:Fg):List (SX K):=
 [ret (dzip (call "letters" (sp_letters K) [len (var 0)]) (var 0))]
theorem zkey_known {m:Int} (h0:0<=m) (h4:m<=4) {k:Nat} (hk:k<m.toNat):zkey (known m) k=.inr ⟨#[97+k]⟩:=by
 unfold zkey;rw[StrLaws.getD_of_getElem? (known_at h0 h4 hk)]
theorem sgn_inj {c d:Nat} (h:(Sum.inr ⟨#[c]⟩:Key)=.inr ⟨#[d]⟩):c=d:=by
 have e2:(⟨#[c]⟩:Str)=⟨#[d]⟩:=Sum.inr.inj h;have e3:=congrArg ls e2;simp [ls] at e3;exact e3
theorem t_words_by_letter:TT (sp_words_by_letter K) (b_words_by_letter K) ["rule"]:=by
 intro vs H Q E h;obtain ⟨a,ws,rfl,hR,q⟩:=h;have h4:=hR.four;have hq:=hR.tp;have hlen:(ws.map V.str).length=ws.length:=List.length_map _;unfold b_words_by_letter;walk_at "go";refine ⟨_,rfl,?_⟩;walk_at "go";have k0:(0:Int)<=((ws.map V.str).length:Nat):=by lia
 have k4:(((ws.map V.str).length:Nat):Int)<=4:=by lia
 have hkl:(known ((ws.map V.str).length:Nat)).cps.size=ws.length:=by
  show (known ((ws.map V.str).length:Nat)).length=_;rw[known_len k0 k4];lia
 have hinj:∀i j,i<(known ((ws.map V.str).length:Nat)).cps.size->j<(known ((ws.map V.str).length:Nat)).cps.size->zkey (known ((ws.map V.str).length:Nat)) i=zkey (known ((ws.map V.str).length:Nat)) j->i=j:=λi j hi hj e=>by
  rw[hkl] at hi hj;rw[zkey_known k0 k4 (by lia),zkey_known k0 k4 (by lia)] at e;have:=sgn_inj e;lia
 refine ⟨_,_,ws.map V.str,rfl,.inl hq,by rw[hkl,hlen],by rw[hkl];lia,?_,hinj,λd hd=>?_⟩
 ·rw[Array.all_eq_true'];intro c hc;have hc':c∈ls (known ((ws.map V.str).length:Nat)):=by simpa [ls] using hc
  rw[ls_known k0 k4] at hc';obtain ⟨k,hk,rfl⟩:=List.mem_map.mp hc';have:=List.mem_range.mp hk;simp;lia
 refine q d _ (same_new hd _) hd ⟨_,upd_same,λk w hw=>?_,λc hc=>?_⟩
 ·have hl:k<ws.length:=(List.getElem?_eq_some_iff.mp hw).1;unfold zipKV;rw[<-zkey_known k0 k4 (show k<(((ws.map V.str).length:Nat):Int).toNat by lia),val_range hinj (by rw[hkl];exact hl),List.getElem?_map,hw];rfl
 ·unfold zipKV valV;rw[List.find?_map];have e:(List.range (known ((ws.map V.str).length:Nat)).cps.size).find? ((λkv:Key × V=>decide (kv.1=.inr ⟨#[c]⟩))∘λi=>(zkey (known ((ws.map V.str).length:Nat)) i,(ws.map V.str)[i]?.getD .non))=none:=by
   refine List.find?_eq_none.mpr λi hi z=>hc ?_;have hi':=List.mem_range.mp hi;rw[hkl] at hi';have z1:zkey (known ((ws.map V.str).length:Nat)) i=.inr ⟨#[c]⟩:=of_decide_eq_true z;rw[zkey_known k0 k4 (by lia)] at z1;have:=sgn_inj z1;lia
  rw[e];rfl
def sp_put (K:Fg):Sp:=λvs H Q _=>∃(a:Addr) (ws:List Str) (z:Str),vs=[.ref a,.str z]/\Rt4 K H a ws/\(∀w∈ws,w.length<=100)/\IsW ws.length z/\z.length<=100000/\∀H',Same H H'->Q (.str (img ws z)) H'
def b_put (K:Fg):List (SX K):=
 [set 2 (call "words_by_letter" (sp_words_by_letter K) [var 0]),
  ret (m_join (cst (.str "")) (comp (ix (var 1) (var 0)) (nam 0) (iSeq (var 1)) ["sign"] ["word_for"] [2]))]
theorem t_put:TT (sp_put K) (b_put K) ["rule","word","word_for"]:=by
 intro vs H Q E h;obtain ⟨a,ws,z,rfl,hR,hle,hz,hzl,q⟩:=h;unfold b_put;walk_at "go";refine ⟨a,ws,rfl,hR,λd H1 hS1 _ hd=>?_⟩;walk_at "go";intro D hD;refine comp_str (λc=>.str (mkS (wd ws c))) hD (small (by lia)) (λi c H2 Q' hc hS2 fin=>?_) λH2 hS2 hO=>?_
 ·have hcw:=hz c (List.mem_of_getElem? hc);have hl:c - 97<ws.length:=by lia
  walk_at "go";have e:mkS (wd ws c)=ws[c - 97]:=by
   unfold wd;rw[List.getElem?_eq_getElem hl];exact mk_ls _
  have f2:=fin H2 (Same.refl _);rw[e] at f2;exact i_ixD ((hd.same hS2).get hcw.1 (List.getElem?_eq_getElem hl)) f2
 ·walk_at "go";have hb:(((ls z).map λc=>mkS (wd ws c)).map (·.length)).sum<=100000 * 100:=by
   refine Nat.le_trans (sum_le (B:=100) λx hx=>?_) (by rw[List.length_map,List.length_map,ls_len];exact Nat.mul_le_mul_right _ hzl);obtain ⟨y,hy,rfl⟩:=List.mem_map.mp hx;obtain ⟨c,hc,rfl⟩:=List.mem_map.mp hy;have hcw:=hz c hc;have hl:c - 97<ws.length:=by lia
   rw[mk_len];unfold wd;rw[List.getElem?_eq_getElem hl];show (ls ws[c - 97]).length<=100;rw[ls_len];exact hle _ (List.getElem_mem hl)
  refine ⟨(ls z).map λc=>mkS (wd ws c),.inl ?_,?_,?_⟩
  ·rw[hO,List.map_map];rfl
  ·have e:(Str.ofString "").length=0:=by decide+kernel
   rw[e];lia
  ·have e:Txt.join (Str.ofString "") ((ls z).map λc=>mkS (wd ws c))=img ws z:=ls_inj (by
    rw[ls_join0,ls_img,List.map_map,List.flatMap_def]
    congr 1)
   rw[e];exact q H2 (hS1.trans hS2)
end
section
variable {K:Fg}
end
section
variable {K:Fg}
instance (m:Nat) (z:Str):Decidable (IsW m z):=by unfold IsW;infer_instance
end
section
variable {K:Fg}
theorem kIntI:PySem.W.kitOne K (.type "int") (.type "int")=some true:=by kernel_rfl
theorem kIntB:PySem.W.kitOne K (.type "int") (.type "bool")=some false:=by kernel_rfl
end
def cnt (z:Str) (k:Nat):Int:=((ls z).count (97+k):Nat)
def cnts (n:Nat) (z:Str):List Int:=(List.range n).map (cnt z)
theorem cnts_len (n:Nat) (z:Str):(cnts n z).length=n:=by unfold cnts;rw[List.length_map,List.length_range]
theorem cnts_get {n:Nat} {z:Str} {k:Nat} (h:k<n):(cnts n z)[k]?=some (cnt z k):=by unfold cnts;rw[List.getElem?_map,List.getElem?_range h];rfl
def dot (xs ys:List Int):Int:=(List.zipWith (· * ·) xs ys).sum
def sg (ds:List Int) (z:Str):Int:=((ls z).map λc=>ds[c - 97]?.getD 0).sum
theorem zsum_add (f g:Nat->Int) (ds:List Int):(List.zipWith (· * ·) ((List.range ds.length).map λk=>f k+g k) ds).sum=(List.zipWith (· * ·) ((List.range ds.length).map f) ds).sum+(List.zipWith (· * ·) ((List.range ds.length).map g) ds).sum:=by
 induction ds generalizing f g with
 |nil=>rfl
 |cons d ds ih=>
  rw[List.length_cons,List.range_succ_eq_map];simp only [List.map_cons,List.map_map,List.zipWith_cons_cons,List.sum_cons];have e:=ih (f∘Nat.succ) (g∘Nat.succ);have e1:((λk=>f k+g k)∘Nat.succ)=λk=>(f∘Nat.succ) k+(g∘Nat.succ) k:=rfl;rw[e1,e,Int.add_mul];lia
theorem zsum_zero (ds:List Int):(List.zipWith (· * ·) ((List.range ds.length).map λ_=>(0:Int)) ds).sum=0:=by
 induction ds with
 |nil=>rfl
 |cons d ds ih=>
  rw[List.length_cons,List.range_succ_eq_map];simp only [List.map_cons,List.map_map,List.zipWith_cons_cons,List.sum_cons];have e1:((λ_=>(0:Int))∘Nat.succ)=λ_=>(0:Int):=rfl;rw[e1,ih,Int.zero_mul];rfl
theorem zsum_one (ds:List Int) (j:Nat):(List.zipWith (· * ·) ((List.range ds.length).map λk=>if k=j then (1:Int) else 0) ds).sum=ds[j]?.getD 0:=by
 induction ds generalizing j with
 |nil=>rfl
 |cons d ds ih=>
  rw[List.length_cons,List.range_succ_eq_map];simp only [List.map_cons,List.map_map,List.zipWith_cons_cons,List.sum_cons];cases j with
  |zero=>
   have e1:((λk=>if k=0 then (1:Int) else 0)∘Nat.succ)=λ_=>(0:Int):=by funext k;simp
   rw[e1,zsum_zero];simp
  |succ j=>
   have e1:((λk=>if k=j+1 then (1:Int) else 0)∘Nat.succ)=λk=>if k=j then (1:Int) else 0:=by funext k;simp
   rw[e1,ih j];simp
theorem dot_list (ds:List Int):∀(l:List Nat),(∀c∈l,97<=c/\c<97+ds.length)->(List.zipWith (· * ·) ((List.range ds.length).map λk=>((l.count (97+k):Nat):Int)) ds).sum=(l.map λc=>ds[c - 97]?.getD 0).sum
 |[],_=>by
  have e:((List.range ds.length).map λk=>(((([]:List Nat).count (97+k):Nat)):Int))=(List.range ds.length).map λ_=>(0:Int):=List.map_congr_left λk _=>by simp
  rw[e,zsum_zero];rfl
 |c::l,h=>by
  obtain ⟨h1,h2⟩:=h c List.mem_cons_self;have ih:=dot_list ds l λd hd=>h d (List.mem_cons_of_mem _ hd);have e:((List.range ds.length).map λk=>(((c::l).count (97+k):Nat):Int))=(List.range ds.length).map λk=>(if k=c - 97 then (1:Int) else 0)+((l.count (97+k):Nat):Int):=by
   refine List.map_congr_left λk _=>?_;rw[List.count_cons];by_cases hk:k=c - 97
   ·have:c=97+k:=by lia
    rw[if_pos hk,this];simp;lia
   ·have:¬(c=97+k):=by lia
    rw[if_neg hk];simp [this]
  rw[e,zsum_add,zsum_one,ih,List.map_cons,List.sum_cons]
theorem dot_cnts {ds:List Int} {z:Str} (h:IsW ds.length z):dot (cnts ds.length z) ds=sg ds z:=dot_list ds (ls z) h
def szs (ws:List Str):Nat->List Int
 |0=>List.replicate ws.length 1
 |t+1=>ws.map (sg (szs ws t))
theorem szs_len (ws:List Str):∀t,(szs ws t).length=ws.length
 |0=>List.length_replicate
 |_+1=>List.length_map _
theorem cnt_nn (z:Str) (k:Nat):0<=cnt z k:=by unfold cnt;lia
theorem cnt_le (z:Str) (k:Nat):cnt z k<=z.length:=by
 unfold cnt;have:=List.count_le_length (a:=97+k) (l:=ls z);rw[ls_len] at this;lia
def growB (ws:List Str) (c:Nat):Bool:=match ws[c - 97]? with
 |some w=>decide (97<=c)&&(decide (1<w.length)&&decide ((ls w)[0]?=some c))
 |none=>false
section
variable {K:Fg}
def sp_counts (K:Fg):Sp:=λvs H Q _=>∃(z:Str) (m:Int),vs=[.str z,.int m]/\0<=m/\m<=4/\∀r H',Same H H'->H r=none->H' r=some (.lst ((cnts m.toNat z).map V.int))->Q (.ref r) H'
def b_counts (K:Fg):List (SX K):=
 [ret (comp (m_count (var 1) (var 0)) (nam 0) (iSeq (call "letters" (sp_letters K) [var 1])) ["letter"] ["word"] [0])]
theorem t_counts:TT (sp_counts K) (b_counts K) ["word","many"]:=by
 intro vs H Q E h;obtain ⟨z,m,rfl,h0,h4,q⟩:=h;unfold b_counts;walk_at "go";refine ⟨m,rfl,?_⟩;walk_at "go";intro D hD;refine comp_str (λc=>.int (((ls z).count c:Nat):Int)) hD (small (by rw[known_len h0 h4];lia)) (λi c H1 Q' hc hS fin=>?_) λH1 hS hO=>?_
 ·walk_at "go";exact fin H1 (Same.refl _)
 ·refine q D H1 hS hD ?_;rw[hO,show (known m).cps.toList=ls (known m) from rfl,ls_known h0 h4,List.map_map];unfold cnts;rw[List.map_map];rfl
def TbR (H:Hp) (p:Addr) (rs:List Addr) (rows:List (List Int)):Prop:=H p=some (.lst (rs.map V.ref))/\rs.length=rows.length/\∀(i:Nat) (r:Addr) (row:List Int),rs[i]?=some r->rows[i]?=some row->H r=some (.lst (row.map V.int))
theorem TbR.same {H H':Hp} {p:Addr} {rs:List Addr} {rows:List (List Int)} (h:TbR H p rs rows) (e:Same H H'):TbR H' p rs rows:=⟨e _ _ h.1,h.2.1,λi r row a b=>e _ _ (h.2.2 i r row a b)⟩
def rowsOf (ws:List Str):List (List Int):=ws.map (cnts ws.length)
theorem refs_of:∀(ys:List V),(∀y∈ys,∃r,y=V.ref r)->∃rs:List Addr,ys=rs.map V.ref
 |[],_=>⟨[],rfl⟩
 |y::ys,h=>by
  obtain ⟨r,rfl⟩:=h y List.mem_cons_self;obtain ⟨rs,rfl⟩:=refs_of ys λy hy=>h y (List.mem_cons_of_mem _ hy);exact ⟨r::rs,rfl⟩
def sp_table (K:Fg):Sp:=λvs H Q _=>∃(a:Addr) (ws:List Str),vs=[.ref a]/\Rt4 K H a ws/\∀p rs H',Same H H'->H p=none->(∀r∈rs,H r=none)->TbR H' p rs (rowsOf ws)->Q (.ref p) H'
def b_table (K:Fg):List (SX K):=
 [ret (comp (call "counts" (sp_counts K) [var 0,len (var 1)]) (nam 0) (iSeq (var 0)) ["word"] ["rule"] [0])]
theorem t_table:TT (sp_table K) (b_table K) ["rule"]:=by
 intro vs H Q E h;obtain ⟨a,ws,rfl,hR,q⟩:=h;have h4:=hR.four;have hlen:(ws.map V.str).length=ws.length:=List.length_map _;unfold b_table;walk_at "go";refine i_itT hR.tp ?_;intro D hD;refine comp_tupR (λi y H1=>∃r w,y=.ref r/\r≠D/\H r=none/\ws[i]?=some w/\H1 r=some (.lst ((cnts ws.length w).map V.int))) hR.tp hD (small (by lia)) (λi y H1 H2 hh=>?_) (λi x H1 Q' hx hS hDs fin=>?_) λH1 ys hS hO hl hr=>?_
 ·rintro ⟨r,w,e1,e2,e3,e4,e5⟩;exact ⟨r,w,e1,e2,e3,e4,hh r _ e2 e5⟩
 ·obtain ⟨w,hw,hw2⟩:∃w,ws[i]?=some w/\x=.str w:=by
   rw[List.getElem?_map] at hx;cases e:ws[i]? with
   |none=>rw[e] at hx;cases hx
   |some w=>rw[e] at hx;exact ⟨w,rfl,(Option.some.inj hx).symm⟩
  subst hw2;have hq1:=Same.seqT hS hR.tp;walk_at "go";refine ⟨w,_,rfl,by lia,by lia,λr H2 hS2 hr hr2=>?_⟩;obtain ⟨o,ho⟩:=hDs;rw[hlen,Int.toNat_natCast] at hr2;refine fin (.ref r) H2 hS2 ⟨r,w,rfl,(ne_of_none ho hr).symm,?_,hw,hr2⟩;cases e:H r with
  |none=>rfl
  |some o=>rw[hS _ _ e] at hr;cases hr
 ·obtain ⟨rs,rfl⟩:=refs_of ys λy hy=>by
   obtain ⟨i,hi⟩:=List.getElem?_of_mem hy;obtain ⟨r,_,e,_⟩:=hr i y hi;exact ⟨r,e⟩
  have hget:∀i r,rs[i]?=some r->H r=none/\∃w,ws[i]?=some w/\H1 r=some (.lst ((cnts ws.length w).map V.int)):=λi r hi=>by
   obtain ⟨r',w,e1,_,e3,e4,e5⟩:=hr i (.ref r) (by rw[List.getElem?_map,hi];rfl);cases e1;exact ⟨e3,w,e4,e5⟩
  refine q D rs H1 hS hD (λr hm=>?_) ⟨hO,?_,λi r row hi hrow=>?_⟩
  ·obtain ⟨i,hi⟩:=List.getElem?_of_mem hm;exact (hget i r hi).1
  ·unfold rowsOf;rw[List.length_map,<-hlen,<-hl,List.length_map]
  ·obtain ⟨_,w,e1,e2⟩:=hget i r hi;unfold rowsOf at hrow;rw[List.getElem?_map,e1] at hrow;cases hrow;exact e2
def mulV:V->V->V
 | .int i,.int j=>.int (i * j)
 |_,_=>.non
theorem zip_int (f:Int->Int->Int) (g:V->V->V) (hg:∀i j,g (.int i) (.int j)=.int (f i j)):∀xs ys:List Int,List.zipWith g (xs.map V.int) (ys.map V.int)=(List.zipWith f xs ys).map V.int
 |[],ys=>rfl
 |x::xs,[]=>rfl
 |x::xs,y::ys=>by
  simp only [List.map_cons,List.zipWith_cons_cons,hg,zip_int f g hg xs ys]
theorem map_get {xs:List Int} {i:Nat} {x:V} (h:(xs.map V.int)[i]?=some x):∃k,xs[i]?=some k/\x=.int k:=by
 rw[List.getElem?_map] at h;cases e:xs[i]? with
 |none=>rw[e] at h;cases h
 |some k=>rw[e] at h;exact ⟨k,rfl,(Option.some.inj h).symm⟩
def Few (xs:List Int):Prop:=∀x∈xs,0<=x/\x<=1000000
def sp_signs_behind (K:Fg):Sp:=λvs H Q _=>∃(p r:Addr) (xs ys:List Int),vs=[.ref p,.ref r]/\H p=some (.lst (xs.map V.int))/\H r=some (.lst (ys.map V.int))/\Few xs/\xs.length<=1000/\∀H',Same H H'->Q (.int (dot xs ys)) H'
def b_signs_behind (K:Fg):List (SX K):=
 [ret (sum (comp (bin .Mult (var 0) (var 1)) (unp [0,1]) (iZip (var 0) (var 1)) ["count","size"] [] []))]
theorem t_signs_behind:TT (sp_signs_behind K) (b_signs_behind K) ["row","before"]:=by
 intro vs H Q E h;obtain ⟨p,r,xs,ys,rfl,hp,hr,hF,hl,q⟩:=h;unfold b_signs_behind;walk_at "go";refine i_zipL (SqL.of hp) (SqL.of hr) ?_;intro D hD;refine comp_zip mulV (SqL.of hp) (SqL.of hr) hD (small (by rw[List.length_map];lia)) (λi x y H1 Q' hx hy hS fin=>?_) λH1 hS hO=>?_
 ·obtain ⟨k,hk,rfl⟩:=map_get hx;obtain ⟨j,hj,rfl⟩:=map_get hy;have:=hF k (List.mem_of_getElem? hk);walk_at "go";exact fin H1 (Same.refl _)
 ·refine ⟨D,List.zipWith (· * ·) xs ys,rfl,?_,q H1 hS⟩;rw[hO,zip_int (· * ·) mulV λ_ _=>rfl]
def sp_sizes_once (K:Fg):Sp:=λvs H Q _=>∃(p r:Addr) (rs:List Addr) (rows:List (List Int)) (ys:List Int),vs=[.ref p,.ref r]/\TbR H p rs rows/\H r=some (.lst (ys.map V.int))/\(∀xs∈rows,Few xs/\xs.length<=1000)/\rows.length<=1000/\
 ∀t H',Same H H'->H t=none->H' t=some (.lst ((rows.map λxs=>dot xs ys).map V.int))->Q (.ref t) H'
def b_sizes_once (K:Fg):List (SX K):=
 [ret (comp (call "signs_behind" (sp_signs_behind K) [var 0,var 1]) (nam 0) (iSeq (var 0)) ["row"] ["before"] [1])]
theorem t_sizes_once:TT (sp_sizes_once K) (b_sizes_once K) ["rows","before"]:=by
 intro vs H Q E h;obtain ⟨p,r,rs,rows,ys,rfl,hT,hr,hF,hl,q⟩:=h;unfold b_sizes_once;walk_at "go";refine i_itL (SqL.of hT.1) ?_;intro D hD;have hlen:(rs.map V.ref).length=rows.length:=by rw[List.length_map];exact hT.2.1
 refine comp_lstI (λi=>.int ((rows[i]?.map λxs=>dot xs ys).getD 0)) (SqL.of hT.1) hD (small (by lia)) (λi x H1 Q' hx hS fin=>?_) λH1 hS hO=>?_
 ·have hi:i<rows.length:=by rw[<-hlen];exact (List.getElem?_eq_some_iff.mp hx).1
  have hi2:i<rs.length:=by rw[hT.2.1];exact hi
  have ex:x=.ref rs[i]:=by
   rw[List.getElem?_map,List.getElem?_eq_getElem hi2] at hx;exact (Option.some.inj hx).symm
  subst ex;have hF1:=hF _ (List.getElem_mem hi);rw[List.getElem?_eq_getElem hi] at fin;walk_at "go";refine ⟨rs[i],r,rows[i],ys,rfl,hS _ _ (hT.2.2 i _ _ (List.getElem?_eq_getElem hi2) (List.getElem?_eq_getElem hi)),hS _ _ hr,hF1.1,hF1.2,λH2 hS2=>?_⟩;exact fin H2 hS2
 ·refine q D H1 hS hD ?_;rw[hO,hlen];have e:((List.range rows.length).map λi=>V.int ((rows[i]?.map λxs=>dot xs ys).getD 0))=((List.range rows.length).map λi=>(rows[i]?.map λxs=>dot xs ys).getD 0).map V.int:=by rw[List.map_map];rfl
  rw[e,range_get]
theorem flat_rep {α:Type} (x:α):∀n:Nat,(List.replicate n [x]).flatten=List.replicate n x
 |0=>rfl
 |n+1=>by rw[List.replicate_succ,List.flatten_cons,flat_rep x n];rfl
theorem few_cnts {n:Nat} {z:Str} (h:z.length<=100000):Few (cnts n z):=λx hx=>by
 unfold cnts at hx;obtain ⟨k,_,rfl⟩:=List.mem_map.mp hx;have h1:=cnt_nn z k;have h2:=cnt_le z k;lia
theorem szs_step {ws:List Str} (hw:∀w∈ws,IsW ws.length w) (t:Nat):((rowsOf ws).map λxs=>dot xs (szs ws t))=szs ws (t+1):=by
 unfold rowsOf;rw[List.map_map];show _=ws.map (sg (szs ws t));refine List.map_congr_left λw h=>?_;have e:=dot_cnts (ds:=szs ws t) (z:=w) (by rw[szs_len];exact hw w h);rw[szs_len] at e;exact e
def sp_sizes (K:Fg):Sp:=λvs H Q _=>∃(a:Addr) (ws:List Str) (t:Int),vs=[.ref a,.int t]/\Rt4 K H a ws/\(∀w∈ws,IsW ws.length w/\w.length<=100000)/\0<=t/\t<=1000000/\
 ∀r H',Same H H'->H r=none->H' r=some (.lst ((szs ws t.toNat).map V.int))->Q (.ref r) H'
def b_sizes (K:Fg):List (SX K):=
 [set 2 (call "table" (sp_table K) [var 0]),
  set 3 (bin .Mult (lst [cst (.int 1)]) (len (var 0))),
  forS (nam 4) (iRng (var 1) []) [set 3 (call "sizes_once" (sp_sizes_once K) [var 2,var 3])],
  ret (var 3)]
theorem none_of {H H':Hp} {r:Addr} (e:Same H H') (h:H' r=none):H r=none:=by
 cases q:H r with
 |none=>rfl
 |some o=>rw[e _ _ q] at h;cases h
theorem t_sizes:TT (sp_sizes K) (b_sizes K) ["rule","times","rows","made","turn"]:=by
 intro vs H Q E h;obtain ⟨a,ws,t,rfl,hR,hw,h0,ht,q⟩:=h;have h4:=hR.four;have hlen:(ws.map V.str).length=ws.length:=List.length_map _;unfold b_sizes;walk_at "go";refine ⟨a,ws,rfl,hR,λp rs H1 hS1 _ _ hT=>?_⟩;have hq1:=Same.seqT hS1 hR.tp;walk_at "go";refine ⟨by show 1<=sizeLine;decide,λl hl=>?_⟩;have s2:=same_new hl (.lst [V.int 1]);have hq2:=Same.seqT s2 hq1;walk_at "go";refine i_rep (xs:=[V.int 1]) upd_same ⟨by lia,by lia⟩ (small (by show 1 * _<=_;lia)) λr hr=>?_;have s3:=same_new hr (.lst (List.replicate (((ws.map V.str).length:Nat):Int).toNat [V.int 1]).flatten);walk_at "go";have hrow:∀xs∈rowsOf ws,Few xs/\xs.length<=1000:=λxs hx=>by
  unfold rowsOf at hx;obtain ⟨w,hm,rfl⟩:=List.mem_map.mp hx;exact ⟨few_cnts (hw w hm).2,by rw[cnts_len];lia⟩
 refine loop_rng (λi σ H'=>Same H1 H'/\∃(u:Addr) (a4:Option V),H u=none/\H' u=some (.lst ((szs ws i).map V.int))/\σ=[some (.ref a),some (.int t),some (.ref p),some (.ref u),a4])
  ⟨s2.trans s3,r,none,none_of (hS1.trans s2) hr,?_,rfl⟩ (λi σ H' hi hP=>?_) λσ H' hP=>?_
 ·rw[upd_same,hlen,Int.toNat_natCast,flat_rep];show _=some (HO.lst ((List.replicate ws.length (1:Int)).map V.int));rw[List.map_replicate]
 ·obtain ⟨hS,u,a4,hu,hu2,rfl⟩:=hP;walk_at "go";refine ⟨p,u,rs,rowsOf ws,szs ws i,rfl,hT.same hS,hu2,hrow,?_,λv H2 hS2 hv hv2=>?_⟩
  ·unfold rowsOf;rw[List.length_map];lia
  ·rw[szs_step λw hm=>(hw w hm).1] at hv2;exact ⟨hS.trans hS2,v,_,none_of (hS1.trans hS) hv,hv2,rfl⟩
 ·obtain ⟨hS,u,a4,hu,hu2,rfl⟩:=hP;walk_at "go";exact q u H' (hS1.trans hS) hu hu2
end
section
variable {K:Fg}
theorem starts_one (w:Str) (c:Nat) (h:1<=w.length):Txt.startswith w ⟨#[c]⟩=decide ((ls w)[0]?=some c):=by
 unfold Txt.startswith;have e:=StrLaws.subAt_one w c 0;rw[Bool.eq_iff_iff,decide_eq_true_iff];show (decide ((⟨#[c]⟩:Str).length<=w.length)&&_)=true↔_;rw[Bool.and_eq_true];constructor
 ·rintro ⟨h1,h2⟩;exact e.mp ⟨by simpa using of_decide_eq_true h1,h2⟩
 ·intro z;obtain ⟨h1,h2⟩:=e.mpr z;exact ⟨decide_eq_true h,h2⟩
def sp_grows (K:Fg):Sp:=λvs H Q _=>∃(a:Addr) (ws:List Str) (c:Nat),vs=[.ref a,sgn c]/\Rt4 K H a ws/\(∀w∈ws,1<=w.length/\w.length<=100)/\97<=c/\∀H',Same H H'->Q (.bl (growB ws c)) H'
def b_grows (K:Fg):List (SX K):=
 [set 2 (m_get (call "words_by_letter" (sp_words_by_letter K) [var 0]) (var 1) (cst (.str ""))),
  ret (andE (cmp .Gt (len (var 2)) (cst (.int 1))) [m_startswith (var 2) (var 1)])]
theorem t_grows:TT (sp_grows K) (b_grows K) ["rule","start","word"]:=by
 intro vs H Q E h;obtain ⟨a,ws,c,rfl,hR,hle,hc,q⟩:=h;unfold b_grows;walk_at "go";refine ⟨a,ws,rfl,hR,λd H1 hS1 _ hd=>?_⟩;obtain ⟨kvs,hk,_⟩:=id hd;refine i_RD hk ?_;walk_at "go";have f:=q H1 hS1;unfold growB at f;by_cases hl:c - 97<ws.length
 ·have hw:=hle _ (List.getElem_mem hl);refine i_get2 (hd.get hc (List.getElem?_eq_getElem hl)) ?_;rw[List.getElem?_eq_getElem hl] at f;rw[show (some (V.str ws[c - 97])).getD (V.str (Str.ofString ""))=V.str ws[c - 97] from rfl];walk_at "go";refine i_lenS (small (by lia)) ?_;walk_at "go";simp only [decide_eq_true hc,Bool.true_and] at f;refine br_d (λc1=>?_) λc1=>?_
  ·walk_at "go";show Q (.bl (Txt.startswith ws[c - 97] ⟨#[c]⟩)) H1;rw[starts_one _ _ hw.1];rw[decide_eq_true (show 1<(ws[c - 97]).length by lia),Bool.true_and] at f;exact f
  ·rw[decide_eq_false (show ¬1<(ws[c - 97]).length by lia),Bool.false_and] at f;rw[decide_eq_false c1];exact f
 ·refine i_get2 (hd.miss (by lia)) ?_;rw[List.getElem?_eq_none_iff.mpr (by lia)] at f;rw[show (none:Option V).getD (V.str (Str.ofString ""))=V.str (Str.ofString "") from rfl];walk_at "go";refine i_lenS (by decide+kernel) ?_;walk_at "go";have e:(Str.ofString "").length=0:=by decide+kernel
  refine br_d (λc1=>?_) λc1=>?_
  ·rw[e] at c1;lia
  ·rw[decide_eq_false c1];exact f
end
section
variable {K:Fg}
end
section
variable {K:Fg}
def accStep (m:List Int) (x:Int) (row:List Int):List Int:=List.zipWith (·+·) m (row.map (x * ·))
def accN (rows:List (List Int)) (ns:List Int):Nat->List Int
 |0=>List.replicate rows.length 0
 |k+1=>accStep (accN rows ns k) (ns[k]?.getD 0) (rows[k]?.getD [])
def cOnce (rows:List (List Int)) (ns:List Int):List Int:=accN rows ns rows.length
def cBs (rows:List (List Int)) (ns:List Int):Nat->List Int
 |0=>ns
 |t+1=>cOnce rows (cBs rows ns t)
theorem acc_len {rows:List (List Int)} {ns:List Int} (h:∀r∈rows,r.length=rows.length):∀k,k<=rows.length->(accN rows ns k).length=rows.length
 |0,_=>List.length_replicate
 |k+1,hk=>by
  show (List.zipWith _ _ _).length=_;have hk':k<rows.length:=by lia
  rw[List.length_zipWith,acc_len h k (by lia),List.length_map,List.getElem?_eq_getElem hk'];show min _ (rows[k]).length=_;rw[h _ (List.getElem_mem hk')];lia
theorem acc_get {rows:List (List Int)} {ns:List Int} (h:∀r∈rows,r.length=rows.length) {j:Nat} (hj:j<rows.length):∀k,k<=rows.length->(accN rows ns k)[j]?=some (((List.range k).map λi=>(ns[i]?.getD 0) * ((rows[i]?.getD [])[j]?.getD 0)).sum)
 |0,_=>by
  show (List.replicate rows.length (0:Int))[j]?=_;rw[List.getElem?_replicate,if_pos hj];rfl
 |k+1,hk=>by
  have hk':k<rows.length:=by lia
  have hr:j<(rows[k]).length:=by rw[h _ (List.getElem_mem hk')];exact hj
  have e1:((rows[k]?.getD []).map ((ns[k]?.getD 0) * ·))[j]?=some ((ns[k]?.getD 0) * (rows[k])[j]):=by
   rw[List.getElem?_map,List.getElem?_eq_getElem hk'];show Option.map _ (rows[k])[j]?=_;rw[List.getElem?_eq_getElem hr];rfl
  have e2:((rows[k]?.getD [])[j]?.getD 0)=(rows[k])[j]:=by
   rw[List.getElem?_eq_getElem hk'];show (rows[k])[j]?.getD 0=_;rw[List.getElem?_eq_getElem hr];rfl
  show (List.zipWith _ _ _)[j]?=_;rw[List.getElem?_zipWith,acc_get h hj k (by lia),e1,List.range_succ,List.map_append,List.sum_append];simp only [List.map_cons,List.map_nil,List.sum_cons,List.sum_nil,Int.add_zero,e2]
theorem rows_len (ws:List Str):∀r∈rowsOf ws,r.length=(rowsOf ws).length:=λr hr=>by
 unfold rowsOf at hr ⊢;obtain ⟨w,_,rfl⟩:=List.mem_map.mp hr;rw[cnts_len,List.length_map]
theorem rowsOf_len (ws:List Str):(rowsOf ws).length=ws.length:=List.length_map _
theorem rowsOf_at {ws:List Str} {i:Nat} (h:i<ws.length) (h2:i<(rowsOf ws).length):(rowsOf ws)[i]=cnts ws.length ws[i]:=List.getElem_map ..
theorem cOnce_len (ws:List Str) (ns:List Int):(cOnce (rowsOf ws) ns).length=ws.length:=by
 unfold cOnce;rw[acc_len (rows_len ws) _ (Nat.le_refl _),rowsOf_len]
theorem zip_range (f g:Nat->Int):∀(n:Nat),(List.zipWith (· * ·) ((List.range n).map f) ((List.range n).map g))=(List.range n).map λi=>f i * g i:=by
 intro n;rw[List.zipWith_map];induction n generalizing f g with
 |zero=>rfl
 |succ n ih=>
  rw[List.range_succ_eq_map];simp only [List.zipWith_cons_cons,List.map_cons,List.zipWith_map,List.map_map];have e:=ih (f∘Nat.succ) (g∘Nat.succ)
  congr 1
theorem cOnce_cnts {ws:List Str} {z:Str} (hz:IsW ws.length z):cOnce (rowsOf ws) (cnts ws.length z)=cnts ws.length (img ws z):=by
 refine List.ext_getElem? λj=>?_;by_cases hj:j<ws.length
 ·unfold cOnce;rw[acc_get (rows_len ws) (by rw[rowsOf_len];exact hj) _ (Nat.le_refl _),cnts_get hj,rowsOf_len]
  congr 1
  have e:((List.range ws.length).map λi=>((cnts ws.length z)[i]?.getD 0) * (((rowsOf ws)[i]?.getD [])[j]?.getD 0))=(List.range ws.length).map λi=>cnt z i * ((ws.map λw=>cnt w j)[i]?.getD 0):=by
   refine List.map_congr_left λi hi=>?_;have hi':=List.mem_range.mp hi;unfold rowsOf;rw[cnts_get hi',List.getElem?_map,List.getElem?_map,List.getElem?_eq_getElem hi'];show cnt z i * ((cnts ws.length ws[i])[j]?.getD 0)=cnt z i * cnt ws[i] j;rw[cnts_get hj];rfl
  have hl:(ws.map λw=>cnt w j).length=ws.length:=List.length_map _;have d:=dot_cnts (ds:=ws.map λw=>cnt w j) (z:=z) (by rw[hl];exact hz);unfold dot cnts at d;rw[hl] at d;have e2:(ws.map λw=>cnt w j)=(List.range ws.length).map λi=>(ws.map λw=>cnt w j)[i]?.getD 0:=by
   have e3:=range_get ws (λw=>cnt w j) 0;rw[<-e3];refine List.map_congr_left λi hi=>?_;have hi':=List.mem_range.mp hi;rw[e3,List.getElem?_map]
  rw[e,<-zip_range (cnt z) λi=>(ws.map λw=>cnt w j)[i]?.getD 0,<-e2,d];unfold sg cnt;rw[ls_img];have:∀l:List Nat,(∀c∈l,97<=c/\c<97+ws.length)->(l.map λc=>(ws.map λw=>(((ls w).count (97+j):Nat):Int))[c - 97]?.getD 0).sum=(((l.flatMap (wd ws)).count (97+j):Nat):Int):=by
   intro l;induction l with
   |nil=>intro _;rfl
   |cons c l ih=>
    intro hc;have h1:=hc c List.mem_cons_self;have hlt:c - 97<ws.length:=by lia
    have e5:wd ws c=ls ws[c - 97]:=by
     unfold wd;rw[List.getElem?_eq_getElem hlt];rfl
    rw[List.map_cons,List.sum_cons,ih λd hd=>hc d (List.mem_cons_of_mem _ hd),List.flatMap_cons,List.count_append,e5,List.getElem?_map,List.getElem?_eq_getElem hlt];show (((ls ws[c - 97]).count (97+j):Nat):Int)+_=_;lia
  exact this (ls z) hz
 ·rw[List.getElem?_eq_none_iff.mpr (by rw[cOnce_len];lia),List.getElem?_eq_none_iff.mpr (by rw[cnts_len];lia)]
theorem cBs_len {ws:List Str} {ns:List Int} (h:ns.length=ws.length):∀t,(cBs (rowsOf ws) ns t).length=ws.length
 |0=>h
 |_+1=>cOnce_len ws _
theorem loop_zipH {σ:St} {H:Hp} {D:Ends} {p r:Addr} {xs ys:List V} {m n:Nat} {tb:TS} (hp:SqL K H p xs) (hr:SqL K H r ys) (Pv:Nat->St->Hp->Prop) (h0:Pv 0 σ H) (hk:∀i σ1 H1,Pv i σ1 H1->Same H H1)
  (hs:∀i x y σ1 H1 H2,xs[i]?=some x->ys[i]?=some y->Pv i σ1 H1->Same H1 H2->tb {D with nx:=Pv (i+1),ct:=Pv (i+1),bk:=D.nx} ((σ1.set m (some x)).set n (some y)) H2) (hd:∀σ1 H1,Pv (min xs.length ys.length) σ1 H1->D.nx σ1 H1):
  LoopW (Itz K p r) (unp [m,n]:TX K).g tb D σ H:=by
 refine ⟨λi k σ1 H1=>k=min xs.length ys.length - i/\i<=min xs.length ys.length/\Pv i σ1 H1,⟨_,rfl,Nat.zero_le _,h0⟩,?_⟩;rintro i k σ1 H1 ⟨rfl,hi,hP⟩;have hS:=hk i σ1 H1 hP;have hp1:=hS.seq hp;have hr1:=hS.seq hr;by_cases hlt:i<min xs.length ys.length
 ·have l1:i<xs.length:=by lia
  have l2:i<ys.length:=by lia
  refine .inr ⟨⟨xs,ys,xs[i],ys[i],hp1,hr1,List.getElem?_eq_getElem l1,List.getElem?_eq_getElem l2⟩,Pv (i+1),λσ3 H3 q=>⟨min xs.length ys.length - (i+1),by lia,rfl,hlt,q⟩,?_⟩;rintro v H' ⟨a,x,y,ha,rfl,rfl,hx,hy⟩;exact i_unp2 (SqT.of upd_same) (hs i x y σ1 H1 _ (hx _ hp1) (hy _ hr1) hP (same_new ha _))
 ·have e:i=min xs.length ys.length:=by lia
  subst e;exact .inl ⟨⟨xs,ys,hp1,hr1,by lia⟩,hd σ1 H1 hP⟩
def addV:V->V->V
 | .int i,.int j=>.int (i+j)
 |_,_=>.non
def sp_added (K:Fg):Sp:=λvs H Q _=>∃(p r:Addr) (xs ys:List Int),vs=[.ref p,.ref r]/\H p=some (.lst (xs.map V.int))/\H r=some (.lst (ys.map V.int))/\xs.length<=1000/\∀t H',Same H H'->H t=none->H' t=some (.lst ((List.zipWith (·+·) xs ys).map V.int))->Q (.ref t) H'
def b_added (K:Fg):List (SX K):=
 [ret (comp (bin .Add (var 0) (var 1)) (unp [0,1]) (iZip (var 0) (var 1)) ["left","right"] [] [])]
theorem t_added:TT (sp_added K) (b_added K) ["one","other"]:=by
 intro vs H Q E h;obtain ⟨p,r,xs,ys,rfl,hp,hr,hl,q⟩:=h;unfold b_added;walk_at "go";refine i_zipL (SqL.of hp) (SqL.of hr) ?_;intro D hD;refine comp_zip addV (SqL.of hp) (SqL.of hr) hD (small (by rw[List.length_map];lia)) (λi x y H1 Q' hx hy hS fin=>?_) λH1 hS hO=>?_
 ·obtain ⟨k,hk,rfl⟩:=map_get hx;obtain ⟨j,hj,rfl⟩:=map_get hy;walk_at "go";exact fin H1 (Same.refl _)
 ·refine q D H1 hS hD ?_;rw[hO,zip_int (·+·) addV λ_ _=>rfl]
def timesV (x:Int):V->V
 | .int j=>.int (x * j)
 |_=>.non
def sp_counts_once (K:Fg):Sp:=λvs H Q _=>∃(p r:Addr) (rs:List Addr) (ws:List Str) (ns:List Int),vs=[.ref p,.ref r]/\TbR H p rs (rowsOf ws)/\H r=some (.lst (ns.map V.int))/\ns.length=ws.length/\ws.length<=4/\(∀w∈ws,w.length<=100000)/\
 ∀t H',Same H H'->H t=none->H' t=some (.lst ((cOnce (rowsOf ws) ns).map V.int))->Q (.ref t) H'
def b_counts_once (K:Fg):List (SX K):=
 [set 2 (bin .Mult (lst [cst (.int 0)]) (len (var 0))),
  forS (unp [3,4]) (iZip (var 1) (var 0)) [set 2 (call "added" (sp_added K) [var 2,comp (bin .Mult (var 1) (var 0)) (nam 0) (iSeq (var 4)) ["count"] ["number"] [3]])],
  ret (var 2)]
theorem t_counts_once:TT (sp_counts_once K) (b_counts_once K) ["rows","numbers","made","number","row"]:=by
 intro vs H Q E h;obtain ⟨p,r,rs,ws,ns,rfl,hT,hr,hl,h4,hw,q⟩:=h;have hrl:(rs.map V.ref).length=ws.length:=by rw[List.length_map,hT.2.1,rowsOf_len]
 have hnl:(ns.map V.int).length=ws.length:=by rw[List.length_map,hl]
 unfold b_counts_once;walk_at "go";refine ⟨by show 1<=sizeLine;decide,λl hl'=>?_⟩;have s1:=same_new hl' (.lst [V.int 0]);have hqq:SqL K (upd H l (.lst [V.int 0])) p (rs.map V.ref):=SqL.of (s1 _ _ hT.1);walk_at "go";refine i_rep (xs:=[V.int 0]) upd_same ⟨by lia,by lia⟩ (small (by show 1 * _<=_;lia)) λl2 hl2=>?_;have s2:=same_new hl2 (.lst (List.replicate (((rs.map V.ref).length:Nat):Int).toNat [V.int 0]).flatten);have s12:=s1.trans s2;walk_at "go";have gp:=s12 _ _ hT.1;have gr:=s12 _ _ hr;refine i_zipL (SqL.of gr) (SqL.of gp) ?_;refine loop_zipH (SqL.of gr) (SqL.of gp) (λi σ H'=>Same (upd (upd H l (.lst [V.int 0])) l2 (.lst (List.replicate (((rs.map V.ref).length:Nat):Int).toNat [V.int 0]).flatten)) H'/\∃(u:Addr) (a3 a4:Option V),H u=none/\H' u=some (.lst ((accN (rowsOf ws) ns i).map V.int))/\σ=[some (.ref p),some (.ref r),some (.ref u),a3,a4])
  ⟨Same.refl _,l2,none,none,none_of s1 hl2,?_,rfl⟩ (λi σ1 H1 hP=>hP.1) (λi x y σ1 H1 H2 hx hy hP hS2=>?_) λσ1 H1 hP=>?_
 ·rw[upd_same,hrl,Int.toNat_natCast,flat_rep];show _=some (HO.lst ((List.replicate (rowsOf ws).length (0:Int)).map V.int));rw[List.map_replicate,rowsOf_len]
 ·obtain ⟨hS1,u,a3,a4,hu,hu1,rfl⟩:=hP;obtain ⟨k,hk,rfl⟩:=map_get hx;have hi:i<ws.length:=by rw[<-hl];exact (List.getElem?_eq_some_iff.mp hk).1
  have hi2:i<rs.length:=by rw[hT.2.1,rowsOf_len];exact hi
  have hi3:i<(rowsOf ws).length:=by rw[rowsOf_len];exact hi
  have ey:y=.ref rs[i]:=by
   rw[List.getElem?_map,List.getElem?_eq_getElem hi2] at hy;exact (Option.some.inj hy).symm
  subst ey;have hrow:H2 rs[i]=some (.lst (((rowsOf ws)[i]).map V.int)):=hS2 _ _ (hS1 _ _ (s12 _ _ (hT.2.2 i _ _ (List.getElem?_eq_getElem hi2) (List.getElem?_eq_getElem hi3))));have hfew:Few ((rowsOf ws)[i]):=by
   rw[rowsOf_at hi hi3];exact few_cnts (hw _ (List.getElem_mem hi))
  have hrowl:((rowsOf ws)[i]).length=ws.length:=by rw[rows_len ws _ (List.getElem_mem hi3),rowsOf_len]
  walk_at "go";refine i_itL (SqL.of hrow) ?_;intro D hD;refine comp_lst (timesV k) (SqL.of hrow) hD (small (by rw[List.length_map];lia)) (λj x H3 Q' hx3 hS3 fin=>?_) λH3 hS3 hO=>?_
  ·obtain ⟨c,hc,rfl⟩:=map_get hx3;have:=hfew c (List.mem_of_getElem? hc);walk_at "go";exact fin H3 (Same.refl _)
  ·walk_at "go";have hO2:H3 D=some (.lst ((((rowsOf ws)[i]).map (k * ·)).map V.int)):=by
    rw[hO,List.map_map,List.map_map];rfl
   refine ⟨u,D,_,_,rfl,hS3 _ _ (hS2 _ _ hu1),hO2,?_,λt H4 hS4 ht ht4=>?_⟩
   ·rw[acc_len (rows_len ws) _ (by lia),rowsOf_len];lia
   ·have hSS:=(hS1.trans hS2).trans hS3;refine ⟨hSS.trans hS4,t,_,_,none_of (s12.trans hSS) ht,?_,rfl⟩;rw[ht4];show _=some (HO.lst ((accStep (accN (rowsOf ws) ns i) (ns[i]?.getD 0) ((rowsOf ws)[i]?.getD [])).map V.int));rw[hk,List.getElem?_eq_getElem hi3];rfl
 ·obtain ⟨hS1,u,a3,a4,hu,hu1,rfl⟩:=hP;walk_at "go";refine q u H1 (s12.trans hS1) hu ?_;rw[hu1,hnl,hrl,Nat.min_self];unfold cOnce;rw[rowsOf_len]
def sp_counts_behind (K:Fg):Sp:=λvs H Q _=>∃(a r:Addr) (ws:List Str) (ns:List Int) (t:Int),vs=[.ref a,.ref r,.int t]/\Rt4 K H a ws/\H r=some (.lst (ns.map V.int))/\ns.length=ws.length/\(∀w∈ws,w.length<=100000)/\0<=t/\t<=1000000/\
 ∀u H',Same H H'->H u=none->H' u=some (.lst ((cBs (rowsOf ws) ns t.toNat).map V.int))->Q (.ref u) H'
def b_counts_behind (K:Fg):List (SX K):=
 [set 3 (call "table" (sp_table K) [var 0]),
  set 4 (listE (var 1)),
  forS (nam 5) (iRng (var 2) []) [set 4 (call "counts_once" (sp_counts_once K) [var 3,var 4])],
  ret (var 4)]
theorem t_counts_behind:TT (sp_counts_behind K) (b_counts_behind K) ["rule","numbers","times","rows","made","turn"]:=by
 intro vs H Q E h;obtain ⟨a,r,ws,ns,t,rfl,hR,hr,hl,hw,h0,ht,q⟩:=h;unfold b_counts_behind;walk_at "go";refine ⟨a,ws,rfl,hR,λp rs H1 hS1 _ _ hT=>?_⟩;walk_at "go";refine ⟨_,.inl (SqL.of (hS1 _ _ hr)),λl hl'=>?_⟩;have s2:=same_new hl' (.lst (ns.map V.int));walk_at "go";refine loop_rng (λi σ H'=>Same H1 H'/\∃(u:Addr) (a5:Option V),H u=none/\H' u=some (.lst ((cBs (rowsOf ws) ns i).map V.int))/\σ=[some (.ref a),some (.ref r),some (.int t),some (.ref p),some (.ref u),a5])
  ⟨s2,l,none,none_of hS1 hl',upd_same,rfl⟩ (λi σ H' hi hP=>?_) λσ H' hP=>?_
 ·obtain ⟨hS,u,a5,hu,hu2,rfl⟩:=hP;walk_at "go";refine ⟨p,u,rs,ws,_,rfl,hT.same hS,hu2,cBs_len hl i,hR.four,hw,λv H2 hS2 hv hv2=>?_⟩;exact ⟨hS.trans hS2,v,_,none_of (hS1.trans hS) hv,hv2,rfl⟩
 ·obtain ⟨hS,u,a5,hu,hu2,rfl⟩:=hP;walk_at "go";exact q u H' (hS1.trans hS) hu hu2
end
theorem szs_get {ws:List Str} {k j:Nat} (h:j<ws.length):∃x,(szs ws k)[j]?=some x:=⟨(szs ws k)[j]'(by rw[szs_len];exact h),List.getElem?_eq_getElem _⟩
def sz (ws:List Str) (k c:Nat):Int:=(szs ws k)[c - 97]?.getD 0
def sumsz (ws:List Str) (k:Nat) (l:List Nat):Int:=(l.map (sz ws k)).sum
theorem sz_zero {ws:List Str} {c:Nat} (h2:c - 97<ws.length):sz ws 0 c=1:=by
 show (List.replicate ws.length (1:Int))[c - 97]?.getD 0=1;rw[List.getElem?_replicate,if_pos h2];rfl
theorem sz_succ {ws:List Str} {k c:Nat} (h2:c - 97<ws.length):sz ws (k+1) c=sumsz ws k (wd ws c):=by
 show (ws.map (sg (szs ws k)))[c - 97]?.getD 0=_;rw[List.getElem?_map,List.getElem?_eq_getElem h2];unfold wd;rw[List.getElem?_eq_getElem h2];rfl
structure Ru (ws:List Str):Prop where
 pos:1<=ws.length
 four:ws.length<=4
 isw:∀w∈ws,IsW ws.length w
 one:∀w∈ws,1<=w.length
 le:∀w∈ws,w.length<=100
theorem Ru.word {ws:List Str} (h:Ru ws) {c:Nat} (h2:c - 97<ws.length):∃w,ws[c - 97]?=some w/\wd ws c=ls w/\w∈ws:=by
 refine ⟨ws[c - 97],List.getElem?_eq_getElem h2,?_,List.getElem_mem h2⟩;unfold wd;rw[List.getElem?_eq_getElem h2];rfl
theorem Ru.sign {ws:List Str} (h:Ru ws) {c d:Nat} (h2:c - 97<ws.length) (hd:d∈wd ws c):97<=d/\d - 97<ws.length:=by
 obtain ⟨w,_,e,hm⟩:=h.word h2;rw[e] at hd;have:=h.isw w hm d hd;lia
theorem sumsz_nonneg {ws:List Str} {k:Nat} {l:List Nat} (h:∀c∈l,1<=sz ws k c):(l.length:Int)<=sumsz ws k l:=by
 induction l with
 |nil=>exact Int.le_refl _
 |cons c l ih=>
  have h1:=h c List.mem_cons_self;have h2:=ih λd hd=>h d (List.mem_cons_of_mem _ hd);have e:sumsz ws k (c::l)=sz ws k c+sumsz ws k l:=by unfold sumsz;rw[List.map_cons,List.sum_cons]
  rw[e,List.length_cons];lia
theorem sz_pos {ws:List Str} (h:Ru ws):∀(k c:Nat),c - 97<ws.length->1<=sz ws k c
 |0,c,h2=>by rw[sz_zero h2];exact Int.le_refl _
 |k+1,c,h2=>by
  rw[sz_succ h2];have:=sumsz_nonneg (ws:=ws) (k:=k) (l:=wd ws c) λd hd=>sz_pos h k d (h.sign h2 hd).2;obtain ⟨w,_,e,hm⟩:=h.word h2;have h1:=h.one w hm;rw[e,ls_len] at this;rw[e];lia
def fst' (ws:List Str) (k:Nat):List Nat->Int->Nat × Int
 |[],x=>(0,x)
 |c::l,x=>if sz ws k c<=x then ((fst' ws k l (x - sz ws k c)).1+1,(fst' ws k l (x - sz ws k c)).2) else (0,x)
theorem fst_ok {ws:List Str} {k:Nat}:∀(l:List Nat) (x:Int),0<=x->x<sumsz ws k l->(fst' ws k l x).1<l.length/\0<=(fst' ws k l x).2/\(∀d,l[(fst' ws k l x).1]?=some d->(fst' ws k l x).2<sz ws k d)/\(fst' ws k l x).2=x - sumsz ws k (l.take (fst' ws k l x).1)
 |[],x,h0,h=>by
  have e:sumsz ws k []=0:=rfl;rw[e] at h;lia
 |c::l,x,h0,h=>by
  have e:sumsz ws k (c::l)=sz ws k c+sumsz ws k l:=by unfold sumsz;rw[List.map_cons,List.sum_cons]
  rw[e] at h;unfold fst';by_cases hc:sz ws k c<=x
  ·rw[if_pos hc];obtain ⟨h1,h2,h3,h4⟩:=fst_ok (ws:=ws) (k:=k) l (x - sz ws k c) (by lia) (by lia);refine ⟨by rw[List.length_cons];show _+1<_;lia,h2,λd hd=>h3 d (by simpa using hd),?_⟩;show (fst' ws k l (x - sz ws k c)).2=x - sumsz ws k ((c::l).take ((fst' ws k l (x - sz ws k c)).1+1));rw[List.take_succ_cons];have e2:sumsz ws k (c::l.take (fst' ws k l (x - sz ws k c)).1)=sz ws k c+sumsz ws k (l.take (fst' ws k l (x - sz ws k c)).1):=by unfold sumsz;rw[List.map_cons,List.sum_cons]
   rw[e2,h4];lia
  ·rw[if_neg hc];refine ⟨by rw[List.length_cons];show 0<_;lia,h0,λd hd=>?_,?_⟩
   ·have hd':c=d:=by simpa using hd
    subst hd';show x<_;lia
   ·show x=x - sumsz ws k ((c::l).take 0);rw[List.take_zero];have e0:sumsz ws k []=0:=rfl;rw[e0];lia
theorem fst_walk {ws:List Str} {k:Nat}:∀(l:List Nat) (x:Int) (s:Nat) (d:Nat),s<=(fst' ws k l x).1->l[s]?=some d->(s<(fst' ws k l x).1↔sz ws k d<=x - sumsz ws k (l.take s))
 |[],x,s,d,_,hd=>by simp at hd
 |c::l,x,0,d,_,hd=>by
  have hd':c=d:=by simpa using hd
  subst hd';have e0:sumsz ws k ((c::l).take 0)=0:=rfl;rw[e0];unfold fst';by_cases hc:sz ws k c<=x
  ·rw[if_pos hc];constructor
   ·intro _;lia
   ·intro _;show 0<_+1;lia
  ·rw[if_neg hc];constructor
   ·intro z;exact absurd z (Nat.lt_irrefl 0)
   ·intro z;lia
 |c::l,x,s+1,d,hs,hd=>by
  unfold fst' at hs ⊢;by_cases hc:sz ws k c<=x
  ·rw[if_pos hc] at hs ⊢;have ih:=fst_walk (ws:=ws) (k:=k) l (x - sz ws k c) s d (by have:s+1<=(fst' ws k l (x - sz ws k c)).1+1:=hs;lia) (by simpa using hd);have e2:sumsz ws k ((c::l).take (s+1))=sz ws k c+sumsz ws k (l.take s):=by rw[List.take_succ_cons];unfold sumsz;rw[List.map_cons,List.sum_cons]
   rw[e2];constructor
   ·intro z;have:=ih.mp (by have:s+1<(fst' ws k l (x - sz ws k c)).1+1:=z;lia);lia
   ·intro z;have:=ih.mpr (by lia);show s+1<_+1;lia
  ·rw[if_neg hc] at hs;have:s+1<=0:=hs;lia
def figs (ws:List Str):Nat->Nat->Int->List (Nat × Nat)
 |0,_,_=>[]
 |k+1,c,x=>((fst' ws k (wd ws c) x).1,(wd ws c)[(fst' ws k (wd ws c) x).1]?.getD 0)::figs ws k ((wd ws c)[(fst' ws k (wd ws c) x).1]?.getD 0) (fst' ws k (wd ws c) x).2
def fgo (ws:List Str):Nat->Nat->Int->Nat->Nat × Int
 |_,c,x,0=>(c,x)
 |0,c,x,_+1=>(c,x)
 |k+1,c,x,i+1=>fgo ws k ((wd ws c)[(fst' ws k (wd ws c) x).1]?.getD 0) (fst' ws k (wd ws c) x).2 i
theorem figs_len (ws:List Str):∀k c x,(figs ws k c x).length=k
 |0,_,_=>rfl
 |k+1,c,x=>by show (figs ws k _ _).length+1=_;rw[figs_len ws k]
def Good (ws:List Str) (k c:Nat) (x:Int):Prop:=97<=c/\c - 97<ws.length/\0<=x/\x<sz ws k c
theorem Good.step {ws:List Str} (h:Ru ws) {k c:Nat} {x:Int} (g:Good ws (k+1) c x):∃d,(wd ws c)[(fst' ws k (wd ws c) x).1]?=some d/\Good ws k d (fst' ws k (wd ws c) x).2:=by
 obtain ⟨g1,g2,g3,g4⟩:=g;rw[sz_succ g2] at g4;obtain ⟨h1,h2,h3,h4⟩:=fst_ok (wd ws c) x g3 g4;refine ⟨(wd ws c)[(fst' ws k (wd ws c) x).1],List.getElem?_eq_getElem h1,?_⟩;obtain ⟨s1,s2⟩:=h.sign g2 (List.getElem_mem h1);exact ⟨s1,s2,h2,h3 _ (List.getElem?_eq_getElem h1)⟩
theorem fgo_good {ws:List Str} (h:Ru ws):∀(k c:Nat) (x:Int) (i:Nat),Good ws k c x->i<=k->Good ws (k - i) (fgo ws k c x i).1 (fgo ws k c x i).2
 |k,c,x,0,g,_=>by unfold fgo;exact g
 |0,c,x,i+1,g,hi=>by lia
 |k+1,c,x,i+1,g,hi=>by
  obtain ⟨d,hd,g'⟩:=g.step h;have e:fgo ws (k+1) c x (i+1)=fgo ws k d (fst' ws k (wd ws c) x).2 i:=by
   show fgo ws k ((wd ws c)[(fst' ws k (wd ws c) x).1]?.getD 0) (fst' ws k (wd ws c) x).2 i=_;rw[hd];rfl
  rw[e,show k+1 - (i+1)=k - i by lia];exact fgo_good h k d _ i g' (by lia)
theorem fgo_succ {ws:List Str}:∀(k c:Nat) (x:Int) (i:Nat),i<k->fgo ws k c x (i+1)=((wd ws (fgo ws k c x i).1)[(fst' ws (k - i - 1) (wd ws (fgo ws k c x i).1) (fgo ws k c x i).2).1]?.getD 0,(fst' ws (k - i - 1) (wd ws (fgo ws k c x i).1) (fgo ws k c x i).2).2)
 |0,_,_,_,h=>by lia
 |k+1,c,x,0,_=>by
  have e:fgo ws (k+1) c x 0=(c,x):=by unfold fgo;rfl
  rw[e];show fgo ws k _ _ 0=_;unfold fgo;cases k<;>rfl
 |k+1,c,x,i+1,h=>by
  have ih:=fgo_succ (ws:=ws) k ((wd ws c)[(fst' ws k (wd ws c) x).1]?.getD 0) (fst' ws k (wd ws c) x).2 i (by lia);show fgo ws k _ _ (i+1)=_;rw[ih,show k+1 - (i+1) - 1=k - i - 1 by lia];rfl
theorem figs_at {ws:List Str}:∀(k c:Nat) (x:Int) (i:Nat),i<k->(figs ws k c x)[i]?=some ((fst' ws (k - i - 1) (wd ws (fgo ws k c x i).1) (fgo ws k c x i).2).1,(fgo ws k c x (i+1)).1)
 |0,_,_,_,h=>by lia
 |k+1,c,x,0,_=>by
  have e:fgo ws (k+1) c x 0=(c,x):=by unfold fgo;rfl
  rw[e];show some _=some _
  congr 2
  show _=(fgo ws k _ _ 0).1;unfold fgo;cases k<;>rfl
 |k+1,c,x,i+1,h=>by
  have ih:=figs_at (ws:=ws) k ((wd ws c)[(fst' ws k (wd ws c) x).1]?.getD 0) (fst' ws k (wd ws c) x).2 i (by lia);show (figs ws k _ _)[i]?=_;rw[ih,show k+1 - (i+1) - 1=k - i - 1 by lia];rfl
theorem sz_grow {ws:List Str} (h:Ru ws) {c:Nat} (hc:97<=c) (h2:c - 97<ws.length) (hg:growB ws c=true):∀k:Nat,(k:Int)+1<=sz ws k c
 |0=>by rw[sz_zero h2];lia
 |k+1=>by
  obtain ⟨w,hw,e,hm⟩:=h.word h2;have hg':=hg;unfold growB at hg;rw[hw] at hg;simp only [Bool.and_eq_true,decide_eq_true_eq] at hg;obtain ⟨_,g1,g2⟩:=hg;rw[sz_succ h2,e];cases hl:ls w with
  |nil=>rw[hl] at g2;simp at g2
  |cons d l=>
   rw[hl] at g2;have hd:d=c:=by simpa using g2
   subst hd;have e2:sumsz ws k (d::l)=sz ws k d+sumsz ws k l:=by unfold sumsz;rw[List.map_cons,List.sum_cons]
   have hlen:l.length+1=w.length:=by rw[<-ls_len,hl];rfl
   have h3:=sumsz_nonneg (ws:=ws) (k:=k) (l:=l) λx hx=>sz_pos h k x (h.sign h2 (by rw[e,hl];exact List.mem_cons_of_mem _ hx)).2;have ih:=sz_grow h hc h2 hg' k;rw[e2];lia
theorem least {P:Nat->Prop} [DecidablePred P]:∀{m:Nat},P m->∃k,k<=m/\P k/\∀i,i<k->¬P i
 |0,h=>⟨0,Nat.le_refl _,h,λi hi=>absurd hi (Nat.not_lt_zero _)⟩
 |m+1,h=>by
  by_cases h0:P 0
  ·exact ⟨0,Nat.zero_le _,h0,λi hi=>absurd hi (Nat.not_lt_zero _)⟩
  ·obtain ⟨k,h1,h2,h3⟩:=least (P:=λk=>P (k+1)) (m:=m) h;refine ⟨k+1,by lia,h2,λi hi=>?_⟩;cases i with
   |zero=>exact h0
   |succ i=>exact h3 i (by lia)
section
variable {K:Fg}
def szRows (ws:List Str) (k:Nat):List (List Int):=(List.range k).map (szs ws)
theorem szRows_len (ws:List Str) (k:Nat):(szRows ws k).length=k:=by unfold szRows;rw[List.length_map,List.length_range]
theorem szRows_get {ws:List Str} {k i:Nat} (h:i<k):(szRows ws k)[i]?=some (szs ws i):=by unfold szRows;rw[List.getElem?_map,List.getElem?_range h];rfl
theorem szRows_succ (ws:List Str) (k:Nat):szRows ws (k+1)=szRows ws k++[szs ws k]:=by unfold szRows;rw[List.range_succ,List.map_append];rfl
theorem TbR.snoc {H H':Hp} {p r:Addr} {rs:List Addr} {rows:List (List Int)} {row:List Int} (h:TbR H p rs rows) (hr:H' r=some (.lst (row.map V.int))) (hp:H' p=some (.lst ((rs++[r]).map V.ref))) (hs:∀b o,b≠p->H b=some o->H' b=some o) (hne:∀x∈rs,x≠p):TbR H' p (rs++[r]) (rows++[row]):=by
 refine ⟨hp,by rw[List.length_append,List.length_append,h.2.1];rfl,λi x y hx hy=>?_⟩;by_cases hi:i<rs.length
 ·rw[List.getElem?_append_left hi] at hx;rw[List.getElem?_append_left (by rw[<-h.2.1];exact hi)] at hy;exact hs _ _ (hne x (List.mem_of_getElem? hx)) (h.2.2 i x y hx hy)
 ·rw[List.getElem?_append_right (by lia)] at hx;rw[List.getElem?_append_right (by rw[<-h.2.1];lia),<-h.2.1] at hy;have e0:i - rs.length=0:=by
   have:=(List.getElem?_eq_some_iff.mp hx).1;simp at this;lia
  rw[e0] at hx hy;have e1:r=x:=by simpa using hx
  have e2:row=y:=by simpa using hy
  subst e1 e2;exact hr
theorem index_known {m:Int} (h0:0<=m) (h4:m<=4) {c:Nat} (h1:97<=c) (h2:c - 97<m.toNat):∃r,Builtin.Str.occurrences (known m) ⟨#[c]⟩ 0 (known m).length 1=(c - 97)::r:=by
 have hm:m=0\/m=1\/m=2\/m=3\/m=4:=by lia
 have hc:c=97\/c=98\/c=99\/c=100:=by lia
 rcases hm with rfl|rfl|rfl|rfl|rfl<;>rcases hc with rfl|rfl|rfl|rfl<;>first|exact absurd h2 (by decide)|exact ⟨[],by decide+kernel⟩
def sp_sizes_until (K:Fg):Sp:=λvs H Q _=>∃(a:Addr) (ws:List Str) (c:Nat) (n:Int) (k:Nat),vs=[.ref a,sgn c,.int n]/\Rt4 K H a ws/\Ru ws/\97<=c/\c - 97<ws.length/\growB ws c=true/\k<=400/\n<sz ws k c/\(∀i,i<k->sz ws i c<=n)/\
 ∀p rs H',Same H H'->H p=none->TbR H' p rs (szRows ws (k+1))->Q (.ref p) H'
theorem i_neg {E:XS} {σ:St} {H:Hp} {Q:VK} {a:EX K} (h:a.t E σ H λx H1=>rNeg x H1 Q):(neg a).t E σ H Q:=h
theorem i_negI {H:Hp} {Q:VK} {i:Int} (h:Q (.int (-i)) H):rNeg (.int i) H Q:=h
theorem atI_last' {α:Type} {xs:List α} {v:α} (h:xs[xs.length - 1]?=some v):atI xs (-(1:Int))=some v:=by
 have hl:0<xs.length:=by
  by_cases h0:0<xs.length
  ·exact h0
  ·rw[List.getElem?_eq_none_iff.mpr (by lia)] at h;cases h
 have e:xs=xs.dropLast++[v]:=by
  have hne:xs≠[]:=by intro z;rw[z] at hl;exact absurd hl (Nat.lt_irrefl 0)
  have e1:=List.dropLast_concat_getLast hne;have e2:xs.getLast hne=v:=by
   rw[List.getLast_eq_getElem];rw[List.getElem?_eq_getElem (by lia)] at h;exact Option.some.inj h
  rw[e2] at e1;exact e1.symm
 rw[e];exact atI_last _ _
theorem Ru.lens {ws:List Str} (h:Ru ws):∀w∈ws,1<=w.length/\w.length<=100:=λw hw=>⟨h.one w hw,h.le w hw⟩
theorem sz_at {ws:List Str} {k c:Nat} (h2:c - 97<ws.length):atI ((szs ws k).map V.int) ((c - 97:Nat):Int)=some (.int (sz ws k c)):=by
 refine atI_nat ?_;obtain ⟨x,hx⟩:=szs_get (ws:=ws) (k:=k) h2;rw[List.getElem?_map,hx];unfold sz;rw[hx];rfl
def FgR (H:Hp) (p:Addr) (rs:List Addr) (fs:List (Nat × Nat)):Prop:=H p=some (.lst (rs.map V.ref))/\rs.length=fs.length/\∀(i:Nat) (r:Addr) (f:Nat × Nat),rs[i]?=some r->fs[i]?=some f->H r=some (.tup [.int (f.1:Nat),sgn f.2])
def SB (H:Hp) (d:Addr) (ws:List Str) (k:Nat):Prop:=∃kvs,H d=some (.dK kvs)/\∀c,97<=c->c - 97<ws.length->valV kvs (.inr ⟨#[c]⟩)=some (.int (sz ws k c))
theorem SB.get {H:Hp} {d:Addr} {ws:List Str} {k c:Nat} (h:SB H d ws k) (h1:97<=c) (h2:c - 97<ws.length):DGet H d (sgn c) (some (.int (sz ws k c))):=by
 obtain ⟨kvs,e,f⟩:=h;rw[<-f c h1 h2];exact DGet.k (k:=.inr ⟨#[c]⟩) e
def sp_figures (K:Fg):Sp:=λvs H Q _=>∃(a:Addr) (ws:List Str) (c:Nat) (n:Int) (k:Nat),vs=[.ref a,sgn c,.int n]/\Rt4 K H a ws/\Ru ws/\growB ws c=true/\k<=400/\Good ws k c n/\(∀i,i<k->sz ws i c<=n)/\
 ∀p rs H',Same H H'->H p=none->(∀r∈rs,H r=none)->FgR H' p rs (figs ws k c n)->Q (.ref p) H'
theorem size_of_ok {E:XS} {σ:St} {H:Hp} {Q:VK} {a r:Addr} {ws:List Str} {k:Nat} (h0:σ[0]?=some (some (.ref a))) (h8:σ[8]?=some (some (.ref r))) (hR:Rt4 K H a ws) (hr:H r=some (.lst ((szs ws k).map V.int))) (q:∀d H',Same H H'->H d=none->SB H' d ws k->Q (.ref d) H'):
  (dzip (call "letters" (sp_letters K) [len (var 0)]) (var 8):EX K).t E σ H Q:=by
 have h4:=hR.four;have hq:=hR.tp;have hlen:(ws.map V.str).length=ws.length:=List.length_map _;refine i_dzip (i_call (i_acons (i_len (i_var h0 (i_lenT hq (i_anil ⟨_,rfl,i_var h8 ?_⟩))))));have k0:(0:Int)<=((ws.map V.str).length:Nat):=by lia
 have k4:(((ws.map V.str).length:Nat):Int)<=4:=by lia
 have hkl:(known ((ws.map V.str).length:Nat)).cps.size=ws.length:=by
  show (known ((ws.map V.str).length:Nat)).length=_;rw[known_len k0 k4];lia
 have hinj:∀i j,i<(known ((ws.map V.str).length:Nat)).cps.size->j<(known ((ws.map V.str).length:Nat)).cps.size->zkey (known ((ws.map V.str).length:Nat)) i=zkey (known ((ws.map V.str).length:Nat)) j->i=j:=λi j hi hj e=>by
  rw[hkl] at hi hj;rw[zkey_known k0 k4 (by lia),zkey_known k0 k4 (by lia)] at e;have:=sgn_inj e;lia
 refine ⟨_,_,(szs ws k).map V.int,rfl,.inr (SqL.of hr),by rw[hkl,List.length_map,szs_len],by rw[hkl];lia,?_,hinj,λd hd=>?_⟩
 ·rw[Array.all_eq_true'];intro c hc;have hc':c∈ls (known ((ws.map V.str).length:Nat)):=by simpa [ls] using hc
  rw[ls_known k0 k4] at hc';obtain ⟨k,hk,rfl⟩:=List.mem_map.mp hc';have:=List.mem_range.mp hk;simp;lia
 refine q d _ (same_new hd _) hd ⟨_,upd_same,λc h1 h2=>?_⟩;obtain ⟨x,hx⟩:=szs_get (ws:=ws) (k:=k) h2;unfold zipKV;have ek:=zkey_known k0 k4 (show c - 97<(((ws.map V.str).length:Nat):Int).toNat by lia);have e97:97+(c - 97)=c:=by lia
 rw[e97] at ek;rw[<-ek,val_range hinj (by rw[hkl];exact h2),List.getElem?_map,hx];unfold sz;rw[hx];rfl
def Off (p:Addr) (H H':Hp):Prop:=∀b o,b≠p->H b=some o->H' b=some o
theorem Off.trans {p:Addr} {H H1 H2:Hp} (a:Off p H H1) (b:Same H1 H2):Off p H H2:=λc o h e=>b c o (a c o h e)
theorem Off.upd {p:Addr} {H H1:Hp} {o:HO} (a:Off p H H1):Off p H (upd H1 p o):=λc u h e=>by rw[upd_ne h];exact a c u h e
theorem Off.same {p:Addr} {H0 H H1:Hp} (s:Same H0 H) (a:Off p H H1) (hp:H0 p=none):Same H0 H1:=λc o e=>a c o (ne_of_none e hp) (s c o e)
theorem sIx_m1 (n d:Nat) (h:0<n):HT.sIx n d (some (-(1:Int)))=n - 1:=by
 show (if (-(1:Int))<0 then ((-(1:Int))+(n:Int)).toNat else min (-(1:Int)).toNat n)=n - 1;rw[if_pos (by decide)];lia
theorem cut_m1 {xs:List V} (h:0<xs.length):cutV xs none (some (-(1:Int)))=xs.take (xs.length - 1):=by
 unfold cutV;rw[HT.sIx_none,sIx_m1 _ _ h,List.drop_zero,Nat.sub_zero]
end
def imgL (ws:List Str) (l:List Nat):List Nat:=l.flatMap (wd ws)
theorem imgL_app (ws:List Str) (a b:List Nat):imgL ws (a++b)=imgL ws a++imgL ws b:=List.flatMap_append ..
theorem imgL_cons (ws:List Str) (c:Nat) (l:List Nat):imgL ws (c::l)=wd ws c++imgL ws l:=List.flatMap_cons ..
theorem img_imgL (ws:List Str) (z:Str):img ws z=mkS (imgL ws (ls z)):=rfl
def wk (ws:List Str) (c:Nat):Nat->List Nat
 |0=>[c]
 |k+1=>imgL ws (wk ws c k)
def LetL (ws:List Str) (l:List Nat):Prop:=∀c∈l,97<=c/\c - 97<ws.length
theorem LetL.img {ws:List Str} (h:Ru ws) {l:List Nat} (hl:LetL ws l):LetL ws (imgL ws l):=λc hc=>by
 unfold imgL at hc;obtain ⟨d,hd,hcd⟩:=List.mem_flatMap.mp hc;exact h.sign (hl d hd).2 hcd
theorem LetL.isW {ws:List Str} {l:List Nat} (h:LetL ws l):IsW ws.length (mkS l):=λc hc=>by
 rw[ls_mk] at hc;have:=h c hc;lia
theorem wk_let {ws:List Str} (h:Ru ws) {c:Nat} (h1:97<=c) (h2:c - 97<ws.length):∀k,LetL ws (wk ws c k)
 |0=>λd hd=>by
  have:d=c:=by simpa [wk] using hd
  subst this;exact ⟨h1,h2⟩
 |k+1=>(wk_let h h1 h2 k).img h
theorem sumsz_app (ws:List Str) (k:Nat) (a b:List Nat):sumsz ws k (a++b)=sumsz ws k a+sumsz ws k b:=by unfold sumsz;rw[List.map_append,List.sum_append]
theorem sumsz_cons (ws:List Str) (k c:Nat) (l:List Nat):sumsz ws k (c::l)=sz ws k c+sumsz ws k l:=by unfold sumsz;rw[List.map_cons,List.sum_cons]
theorem sumsz_img {ws:List Str} {k:Nat}:∀{l:List Nat},LetL ws l->sumsz ws k (imgL ws l)=sumsz ws (k+1) l
 |[],_=>rfl
 |c::l,h=>by
  rw[imgL_cons,sumsz_app,sumsz_cons,sumsz_img λd hd=>h d (List.mem_cons_of_mem _ hd),sz_succ (h c List.mem_cons_self).2]
theorem sumsz_zero {ws:List Str}:∀{l:List Nat},LetL ws l->sumsz ws 0 l=l.length
 |[],_=>rfl
 |c::l,h=>by
  rw[sumsz_cons,sz_zero (h c List.mem_cons_self).2,sumsz_zero λd hd=>h d (List.mem_cons_of_mem _ hd),List.length_cons];lia
theorem wk_len {ws:List Str} (h:Ru ws) {c:Nat} (h1:97<=c) (h2:c - 97<ws.length) (k:Nat):((wk ws c k).length:Int)=sz ws k c:=by
 have key:∀j i,j+i=k->sumsz ws j (wk ws c i)=sz ws k c:=by
  intro j i;induction i generalizing j with
  |zero=>
   intro e;show sumsz ws j [c]=_;rw[sumsz_cons,show j=k by lia];show _+0=_;lia
  |succ i ih=>
   intro e;show sumsz ws j (imgL ws (wk ws c i))=_;rw[sumsz_img (wk_let h h1 h2 i)];exact ih (j+1) (by lia)
 rw[<-key 0 k (by lia),sumsz_zero (wk_let h h1 h2 k)]
theorem grow_head {ws:List Str} (h:Ru ws) {c:Nat} (h2:c - 97<ws.length) (hg:growB ws c=true):∃t,wd ws c=c::t:=by
 obtain ⟨w,hw,e,_⟩:=h.word h2;unfold growB at hg;rw[hw] at hg;simp only [Bool.and_eq_true,decide_eq_true_eq] at hg;rw[e];cases hl:ls w with
 |nil=>rw[hl] at hg;simp at hg
 |cons d t=>
  rw[hl] at hg;have:d=c:=by simpa using hg.2.2
  subst this;exact ⟨t,rfl⟩
theorem wk_pre {ws:List Str} (h:Ru ws) {c:Nat} (h2:c - 97<ws.length) (hg:growB ws c=true):∀k,∃t,wk ws c (k+1)=wk ws c k++t
 |0=>by
  obtain ⟨t,e⟩:=grow_head h h2 hg;refine ⟨t,?_⟩;show imgL ws [c]=[c]++t;rw[imgL_cons,e];show c::t++[]=_;rw[List.append_nil];rfl
 |k+1=>by
  obtain ⟨t,e⟩:=wk_pre h h2 hg k;refine ⟨imgL ws t,?_⟩;show imgL ws (wk ws c (k+1))=imgL ws (wk ws c k)++_;rw[e,imgL_app]
theorem wk_mono {ws:List Str} (h:Ru ws) {c:Nat} (h2:c - 97<ws.length) (hg:growB ws c=true) (k:Nat):∀j,∃t,wk ws c (k+j)=wk ws c k++t
 |0=>⟨[],by rw[List.append_nil];rfl⟩
 |j+1=>by
  obtain ⟨t,e⟩:=wk_mono h h2 hg k j;obtain ⟨u,f⟩:=wk_pre h h2 hg (k+j);exact ⟨t++u,by rw[show k+(j+1)=(k+j)+1 by lia,f,e,List.append_assoc]⟩
def ew (ws:List Str) (c i:Nat):Nat:=(wk ws c i)[i]?.getD 0
theorem wk_get {ws:List Str} (h:Ru ws) {c:Nat} (h1:97<=c) (h2:c - 97<ws.length) (hg:growB ws c=true) {k i:Nat} (hi:i<(wk ws c k).length):(wk ws c k)[i]?=some (ew ws c i):=by
 have li:i<(wk ws c i).length:=by
  have a:=wk_len h h1 h2 i;have b:=sz_grow h h1 h2 hg i;lia
 have key:∀j l,j<=l->i<(wk ws c j).length->(wk ws c l)[i]?=(wk ws c j)[i]?:=λj l hjl hj=>by
  obtain ⟨t,e⟩:=wk_mono h h2 hg j (l - j);rw[show j+(l - j)=l by lia] at e;rw[e,List.getElem?_append_left hj]
 have e:(wk ws c i)[i]?=some (ew ws c i):=by
  unfold ew;rw[List.getElem?_eq_getElem li];rfl
 by_cases hik:i<=k
 ·rw[key i k hik li,e]
 ·rw[<-key k i (by lia) hi,e]
def str (ws:List Str) (c n m:Nat):List Nat:=(List.range m).map λi=>ew ws c (n+i)
theorem str_len (ws:List Str) (c n m:Nat):(str ws c n m).length=m:=by unfold str;rw[List.length_map,List.length_range]
theorem wk_cut {ws:List Str} (h:Ru ws) {c:Nat} (h1:97<=c) (h2:c - 97<ws.length) (hg:growB ws c=true) {k n m:Nat} (hi:n+m<=(wk ws c k).length):((wk ws c k).drop n).take m=str ws c n m:=by
 refine List.ext_getElem? λi=>?_;by_cases him:i<m
 ·rw[List.getElem?_take,if_pos him,List.getElem?_drop,wk_get h h1 h2 hg (by lia)];unfold str;rw[List.getElem?_map,List.getElem?_range him];rfl
 ·rw[List.getElem?_eq_none_iff.mpr (by rw[List.length_take];lia),List.getElem?_eq_none_iff.mpr (by rw[str_len];lia)]
theorem sz_mono {ws:List Str} (h:Ru ws) {c:Nat} (h1:97<=c) (h2:c - 97<ws.length) (hg:growB ws c=true) {k l:Nat} (hkl:k<=l):sz ws k c<=sz ws l c:=by
 obtain ⟨t,e⟩:=wk_mono h h2 hg k (l - k);rw[show k+(l - k)=l by lia] at e;rw[<-wk_len h h1 h2 k,<-wk_len h h1 h2 l,e,List.length_append];lia
theorem figs_more {ws:List Str} (h:Ru ws) {c:Nat} (hg:growB ws c=true) {k:Nat} {n:Int} (g:Good ws k c n):∀j,figs ws (k+j) c n=List.replicate j (0,c)++figs ws k c n
 |0=>rfl
 |j+1=>by
  obtain ⟨g1,g2,g3,g4⟩:=id g;obtain ⟨t,e⟩:=grow_head h g2 hg;have hs:=sz_mono h g1 g2 hg (show k<=k+j by lia);have ef:fst' ws (k+j) (wd ws c) n=(0,n):=by
   rw[e];unfold fst';rw[if_neg (by lia)]
  show figs ws ((k+j)+1) c n=_;show ((fst' ws (k+j) (wd ws c) n).1,(wd ws c)[(fst' ws (k+j) (wd ws c) n).1]?.getD 0)::figs ws (k+j) ((wd ws c)[(fst' ws (k+j) (wd ws c) n).1]?.getD 0) (fst' ws (k+j) (wd ws c) n).2=_;rw[ef];have e0:(wd ws c)[0]?.getD 0=c:=by rw[e];rfl
  show (0,(wd ws c)[0]?.getD 0)::figs ws (k+j) ((wd ws c)[0]?.getD 0) n=_;rw[e0,figs_more h hg g j];rfl
theorem Good.more {ws:List Str} (h:Ru ws) {c:Nat} (hg:growB ws c=true) {k l:Nat} {n:Int} (g:Good ws k c n) (hkl:k<=l):Good ws l c n:=by
 obtain ⟨g1,g2,g3,g4⟩:=g;exact ⟨g1,g2,g3,Int.lt_of_lt_of_le g4 (sz_mono h g1 g2 hg hkl)⟩
def At (ws:List Str) (c:Nat) (k:Nat) (n:Int) (i:Nat) (A B:List Nat):Prop:=wk ws c i=A++(fgo ws k c n i).1::B/\sumsz ws (k - i) A+(fgo ws k c n i).2=n
theorem at_zero {ws:List Str} {c k:Nat} {n:Int}:At ws c k n 0 [] []:=by
 have e:fgo ws k c n 0=(c,n):=by cases k<;>rfl
 refine ⟨?_,?_⟩
 ·rw[e];rfl
 ·rw[e];show (0:Int)+n=n;lia
theorem at_step {ws:List Str} (h:Ru ws) {c k:Nat} {n:Int} {i:Nat} {A B:List Nat} (g:Good ws k c n) (hi:i<k) (a:At ws c k n i A B):
  ∃st S,(figs ws k c n)[i]?=some (st,(fgo ws k c n (i+1)).1)/\st<(wd ws (fgo ws k c n i).1).length/\wd ws (fgo ws k c n i).1=(wd ws (fgo ws k c n i).1).take st++(fgo ws k c n (i+1)).1::S/\(wd ws (fgo ws k c n i).1).drop st=(fgo ws k c n (i+1)).1::S/\At ws c k n (i+1) (imgL ws A++(wd ws (fgo ws k c n i).1).take st) (S++imgL ws B):=by
 have hGi:=fgo_good h k c n i g (by lia);obtain ⟨g1,g2,g3,g4⟩:=id hGi;have eki:k - i=(k - i - 1)+1:=by lia
 rw[eki] at hGi;obtain ⟨d,hd,hGd⟩:=hGi.step h;have hs:=fgo_succ (ws:=ws) k c n i hi;have hf:=figs_at (ws:=ws) k c n i hi;rw[hd] at hs;have e1:(fgo ws k c n (i+1)).1=d:=by rw[hs];rfl
 have e2:(fgo ws k c n (i+1)).2=(fst' ws (k - i - 1) (wd ws (fgo ws k c n i).1) (fgo ws k c n i).2).2:=by rw[hs]
 rw[eki,sz_succ g2] at g4;obtain ⟨o1,o2,o3,o4⟩:=fst_ok (wd ws (fgo ws k c n i).1) (fgo ws k c n i).2 g3 g4;obtain ⟨st,hst⟩:∃st,(fst' ws (k - i - 1) (wd ws (fgo ws k c n i).1) (fgo ws k c n i).2).1=st:=⟨_,rfl⟩;rw[hst] at o1 o4 hd hf;have hdrop:(wd ws (fgo ws k c n i).1).drop st=d::(wd ws (fgo ws k c n i).1).drop (st+1):=by
  rw[List.drop_eq_getElem_cons o1];rw[List.getElem?_eq_getElem o1] at hd;rw[Option.some.inj hd]
 have hw:wd ws (fgo ws k c n i).1=(wd ws (fgo ws k c n i).1).take st++d::(wd ws (fgo ws k c n i).1).drop (st+1):=by
  rw[<-hdrop,List.take_append_drop]
 have hA:LetL ws A:=λx hx=>wk_let h g.1 g.2.1 i x (by rw[a.1];exact List.mem_append_left _ hx);refine ⟨st,(wd ws (fgo ws k c n i).1).drop (st+1),hf,o1,by rw[e1];exact hw,by rw[e1];exact hdrop,?_,?_⟩
 ·show imgL ws (wk ws c i)=_;rw[a.1,imgL_app,imgL_cons,e1]
  conv=>lhs;rw[hw]
  simp only [List.append_assoc,List.cons_append]
 ·rw[sumsz_app,show k - (i+1)=k - i - 1 by lia,sumsz_img hA,<-eki,e2,o4];have:=a.2;lia
theorem at_end {ws:List Str} (h:Ru ws) {c k:Nat} {n:Int} {A B:List Nat} (g:Good ws k c n) (a:At ws c k n k A B):(A.length:Int)=n:=by
 have hGk:=fgo_good h k c n k g (Nat.le_refl _);rw[Nat.sub_self] at hGk;obtain ⟨g1,g2,g3,g4⟩:=hGk;rw[sz_zero g2] at g4;have hA:LetL ws A:=λx hx=>wk_let h g.1 g.2.1 k x (by rw[a.1];exact List.mem_append_left _ hx);have:=a.2;rw[Nat.sub_self,sumsz_zero hA] at this;lia
theorem img_len_ge {ws:List Str} (h:Ru ws):∀{l:List Nat},LetL ws l->l.length<=(imgL ws l).length
 |[],_=>Nat.le_refl _
 |c::l,hl=>by
  have ih:=img_len_ge h (l:=l) λd hd=>hl d (List.mem_cons_of_mem _ hd);obtain ⟨w,_,e,hm⟩:=h.word (hl c List.mem_cons_self).2;have h1:=h.one w hm;rw[imgL_cons,List.length_append,List.length_cons,e,ls_len];lia
theorem window {ws:List Str} (h:Ru ws) {c st m:Nat} {l:List Nat} (hl:LetL ws (c::l)) (hst:st<(wd ws c).length) (hm:1<=m):((imgL ws ((c::l).take m)).drop st).take m=((imgL ws (c::l)).drop st).take m:=by
 obtain ⟨m',rfl⟩:∃m',m=m'+1:=⟨m - 1,by lia⟩;have hsplit:c::l=(c::l).take (m'+1)++(c::l).drop (m'+1):=(List.take_append_drop _ _).symm;by_cases hle:(c::l).length<=m'+1
 ·rw[List.take_of_length_le hle]
 ·have hlen:st+(m'+1)<=(imgL ws ((c::l).take (m'+1))).length:=by
   rw[List.take_succ_cons,imgL_cons,List.length_append];have h2:=img_len_ge h (l:=l.take m') λd hd=>hl d (List.mem_cons_of_mem _ (List.mem_of_mem_take hd));rw[List.length_take] at h2;rw[List.length_cons] at hle;lia
  conv=>rhs;rw[hsplit,imgL_app]
  rw[List.drop_append_of_le_length (by lia),List.take_append_of_le_length (by rw[List.length_drop];lia)]
section
variable {K:Fg}
end
section
variable {K:Fg}
structure Pl (K:Fg) (H:Hp) (a:Addr) (ws:List Str) (c:Nat) (n:Int):Prop where
 rt:Rt4 K H a ws
 ru:Ru ws
 c1:97<=c
 c2:c - 97<ws.length
 gr:growB ws c=true
 n0:0<=n
 tn:∃m,m<=400/\n<sz ws m c
theorem Pl.turns {H:Hp} {a:Addr} {ws:List Str} {c:Nat} {n:Int} (h:Pl K H a ws c n):∃k,k<=400/\Good ws k c n/\∀i,i<k->sz ws i c<=n:=by
 obtain ⟨m,hm,hn⟩:=h.tn;obtain ⟨k,h1,h2,h3⟩:=least (P:=λk=>n<sz ws k c) hn;exact ⟨k,by lia,⟨h.c1,h.c2,h.n0,h2⟩,λi hi=>by have:=h3 i hi;lia⟩
theorem Pl.less {H:Hp} {a:Addr} {ws:List Str} {c:Nat} {n m:Int} (h:Pl K H a ws c n) (h0:0<=m) (hm:m<=n):Pl K H a ws c m:=⟨h.rt,h.ru,h.c1,h.c2,h.gr,h0,by
 obtain ⟨k,h1,h2⟩:=h.tn
 exact ⟨k,h1,by lia⟩⟩
theorem at_run {ws:List Str} (h:Ru ws) {c k:Nat} {n:Int} (g:Good ws k c n):∀i,i<=k->∃A B,At ws c k n i A B
 |0,_=>⟨[],[],at_zero⟩
 |i+1,hi=>by
  obtain ⟨A,B,a⟩:=at_run h g i (by lia);obtain ⟨st,S,_,_,_,_,a'⟩:=at_step h g (by lia) a;exact ⟨_,_,a'⟩
theorem at_last {ws:List Str} (h:Ru ws) {c k:Nat} {n:Int} (g:Good ws k c n) (hg:growB ws c=true):(fgo ws k c n k).1=ew ws c n.toNat:=by
 obtain ⟨A,B,a⟩:=at_run h g k (Nat.le_refl _);have e:=at_end h g a;have e2:A.length=n.toNat:=by lia
 have hi:n.toNat<(wk ws c k).length:=by rw[a.1,List.length_append,List.length_cons];lia
 have w:=wk_get h g.1 g.2.1 hg hi;rw[a.1,List.getElem?_append_right (by lia),e2,Nat.sub_self] at w;exact Option.some.inj w
def sp_letter_at (K:Fg):Sp:=λvs H Q _=>∃(a:Addr) (ws:List Str) (c:Nat) (n:Int),vs=[.ref a,sgn c,.int n]/\Pl K H a ws c n/\∀H',Same H H'->Q (sgn (ew ws c n.toNat)) H'
def sp_stretch_at (K:Fg):Sp:=λvs H Q _=>∃(a:Addr) (ws:List Str) (c n m:Nat),vs=[.ref a,sgn c,.int n,.int m]/\Pl K H a ws c ((n+m - 1:Nat):Int)/\1<=m/\m<=2000/\∀H',Same H H'->Q (.str (mkS (str ws c n m))) H'
theorem map_fst_more {ws:List Str} (h:Ru ws) {c:Nat} (hg:growB ws c=true) {k j:Nat} {n:Int} (g:Good ws k c n):List.replicate j (V.int 0)++(figs ws k c n).map (λf=>V.int (f.1:Nat))=(figs ws (k+j) c n).map λf=>V.int (f.1:Nat):=by
 rw[figs_more h hg g j,List.map_append,List.map_replicate];rfl
theorem cnts_app (n:Nat) (a b:List Nat):cnts n (mkS (a++b))=List.zipWith (·+·) (cnts n (mkS a)) (cnts n (mkS b)):=by
 refine List.ext_getElem? λi=>?_;by_cases hi:i<n
 ·rw[List.getElem?_zipWith,cnts_get hi,cnts_get hi,cnts_get hi];show some _=some _;unfold cnt;rw[ls_mk,ls_mk,ls_mk,List.count_append]
  congr 1
 ·rw[List.getElem?_eq_none_iff.mpr (by rw[cnts_len];lia),List.getElem?_eq_none_iff.mpr (by rw[List.length_zipWith,cnts_len];lia)]
theorem cnts_nil (n:Nat):cnts n (mkS [])=List.replicate n 0:=by
 have e2:cnt (mkS [])=λ_=>0:=by
  funext k
  unfold cnt;rw[ls_mk];rfl
 unfold cnts;rw[e2,List.map_const',List.length_range]
end
end L2.Na
namespace L2.Na.Pr
open PySem PySem.Spec PyProof.Rows L2 L2.L3
section
variable {K:Fg}
def NoS (K:Fg) (H:Hp) (E:XK):Prop:=∀H',Same H H'->E (.ref (clsAt K "NoStart")) none H'
def TG (K:Fg) (m:Int) (H:Hp) (E:XK):Prop:=∀H' dx,Same H H'->H' dx=some (.xd [("most",.int m)])->E (.ref (clsAt K "TooGreat")) (some dx) H'
theorem TG.same {m:Int} {H H':Hp} {E:XK} (h:TG K m H E) (e:Same H H'):TG K m H' E:=λH2 dx h1 h2=>h H2 dx (e.trans h1) h2
def Bad (K:Fg) (H:Hp) (a:Addr) (ws:List Str) (c:Nat) (n:Int) (E:XK):Prop:=Rt4 K H a ws/\Ru ws/\97<=c/\
 ((growB ws c=false/\NoS K H E)\/(growB ws c=true/\c - 97<ws.length/\(∀i,i<=400->sz ws i c<=n)/\TG K 400 H E))
def sp_sizes_until (K:Fg):Sp:=λvs H Q E=>L2.Na.sp_sizes_until K vs H Q E\/∃(a:Addr) (ws:List Str) (c:Nat) (n:Int),vs=[.ref a,sgn c,.int n]/\Bad K H a ws c n E
def sp_su (K:Fg):Sp:=λvs H Q E=>∃(a:Addr) (ws:List Str) (c:Nat) (n:Int) (k:Nat),vs=[.ref a,sgn c,.int n]/\Rt4 K H a ws/\Ru ws/\97<=c/\c - 97<ws.length/\growB ws c=true/\k<=400/\(∀i,i<k->sz ws i c<=n)/\
 ((n<sz ws k c/\∀p rs H',Same H H'->H p=none->TbR H' p rs (szRows ws (k+1))->Q (.ref p) H')\/(k=400/\sz ws k c<=n/\TG K 400 H E))
def b_sizes_until (K:Fg):List (SX K):=
 [ifS (notE (call "grows" (sp_grows K) [var 0,var 1])) [raiseO "NoStart" (cst (.str "the rule doesn't grow from this letter")) []] [],
  set 3 (call "table" (sp_table K) [var 0]),
  set 4 (m_index (call "letters" (sp_letters K) [len (var 0)]) (var 1)),
  set 5 (lst [call "sizes" (sp_sizes K) [var 0,cst (.int 0)]]),
  whS (cmp .LtE (ix (ix (var 5) (neg (cst (.int 1)))) (var 4)) (var 2)) [ifS (cmp .Gt (len (var 5)) (glb "MOST_TURNS" (.int 400))) [raiseI "TooGreat" "self" "most" "most" (glb "MOST_TURNS" (.int 400))] [],
   ex (m_append (var 5) (call "sizes_once" (sp_sizes_once K) [var 3,ix (var 5) (neg (cst (.int 1)))]))],
  ret (var 5)]
theorem l_sizes_until:∀vs H Q E,sp_sizes_until K vs H Q E->vs.length=3:=by
 rintro vs H Q E (⟨_,_,_,_,_,rfl,_⟩|⟨_,_,_,_,rfl,_⟩)<;>rfl
theorem t_su:TT (sp_su K) (b_sizes_until K) ["rule","start","n","rows","at","made"]:=by
 intro vs H Q E h;obtain ⟨a,ws,c,n,k,rfl,hR,hU,h1,h2,hg,hk,hlt,hor⟩:=h;have h4:=hR.four;have hlen:(ws.map V.str).length=ws.length:=List.length_map _;have hw:∀w∈ws,IsW ws.length w/\w.length<=100000:=λw hm=>⟨hU.isw w hm,by have:=hU.le w hm;lia⟩;unfold b_sizes_until;walk_at "go";refine ⟨a,ws,c,rfl,hR,hU.lens,h1,λH1 hS1=>?_⟩;rw[hg];walk_at "go";refine brF ?_;have hR1:=hR.same hS1;walk_at "go";refine ⟨a,ws,rfl,hR1,λpT rsT H2 hS2 _ _ hT=>?_⟩;have hR2:=hR1.same hS2;have hq2:=hR2.tp;walk_at "go";refine ⟨_,rfl,?_⟩;walk_at "go";obtain ⟨rr,hr⟩:=index_known (m:=((ws.map V.str).length:Nat)) (by lia) (by lia) h1 (show c - 97<(((ws.map V.str).length:Nat):Int).toNat by lia);refine i_indexU hr ?_;walk_at "go";refine ⟨a,ws,0,rfl,hR2,hw,by lia,by lia,λr0 H3 hS3 hr0 hr03=>?_⟩;walk_at "go";refine ⟨by show 1<=sizeLine;decide,λp hp=>?_⟩;walk_at "go";have hS0:Same H H3:=(hS1.trans hS2).trans hS3;have hTs:=hS2.trans hS3;have hrow:∀xs∈rowsOf ws,Few xs/\xs.length<=1000:=λxs hx=>by
  unfold rowsOf at hx;obtain ⟨w,hm,rfl⟩:=List.mem_map.mp hx;exact ⟨few_cnts (hw w hm).2,by rw[cnts_len];lia⟩
 refine loop_wh (m:=k) (λm σ H'=>m<=k/\(∃rs:List Addr,Same H3 H'/\TbR H' p rs (szRows ws (k - m+1))/\(∀x∈rs,x≠p))/\σ=[some (.ref a),some (sgn c),some (.int n),some (.ref pT),some (.int ((c - 97:Nat):Int)),some (.ref p)])
  ⟨Nat.le_refl _,⟨[r0],same_new hp _,⟨upd_same,by rw[szRows_len,Nat.sub_self];rfl,λi x y hx hy=>?_⟩,λx hx=>?_⟩,rfl⟩ (λm σ H' hW=>?_)
 ·have e0:i=0:=by
   have:=(List.getElem?_eq_some_iff.mp hx).1;simp at this;lia
  subst e0;have e1:r0=x:=by simpa using hx
  subst e1;rw[Nat.sub_self,szRows_get (by lia)] at hy;cases hy;exact same_new hp _ _ _ hr03
 ·have e1:x=r0:=by simpa using hx
  subst e1;exact ne_of_none hr03 hp
 ·obtain ⟨hm,⟨rs,hSs,hTb,hne⟩,rfl⟩:=hW;have hrl:rs.length=k - m+1:=by rw[hTb.2.1,szRows_len]
  obtain ⟨rl,hlast⟩:∃r,rs[k - m]?=some r:=⟨_,List.getElem?_eq_getElem (show k - m<rs.length by lia)⟩;have hrow2:=hTb.2.2 (k - m) _ _ hlast (szRows_get (by lia));have hat:atI (rs.map V.ref) (-(1:Int))=some (.ref rl):=atI_last' (by rw[List.length_map,hrl,show k - m+1 - 1=k - m by lia,List.getElem?_map,hlast];rfl);walk_at "go";refine i_neg ?_;walk_at "go";refine i_negI ?_;refine i_ixL (SqL.of hTb.1) hat ?_;walk_at "go";refine i_ixL (SqL.of hrow2) (sz_at h2) ?_;walk_at "go";refine br_d (λhc=>wh_go ?_) λhc=>?_
  ·walk_at "go";refine i_lenL (SqL.of hTb.1) ?_;walk_at "go";refine br_d (λhc2=>?_) λhc2=>?_
   ·rw[List.length_map,hrl] at hc2;have em:m=0:=by lia
    subst em;rw[Nat.sub_zero] at hc;rcases hor with ⟨hn,_⟩|⟨_,_,tg⟩
    ·lia
    walk_at "go";refine i_raiseI ?_;walk_at "go";exact λdx hdx=>tg _ dx ((hS0.trans hSs).trans (same_new hdx _)) upd_same
   rw[List.length_map,hrl] at hc2;have hm0:0<m:=by
    by_cases h0:0<m
    ·exact h0
    ·have e:m=0:=by lia
     subst e;rw[Nat.sub_zero] at hc;rcases hor with ⟨hn,_⟩|⟨_,_,_⟩<;>lia
   walk_at "go";refine i_RL (SqL.of hTb.1) ?_;walk_at "go";refine i_neg ?_;walk_at "go";refine i_negI ?_;refine i_ixL (SqL.of hTb.1) hat ?_;walk_at "go";refine ⟨pT,_,rsT,rowsOf ws,szs ws (k - m),rfl,(hT.same hS3).same hSs,hrow2,hrow,?_,λr H4 hS4 hr4 hr42=>?_⟩
   ·rw[rowsOf_len];lia
   walk_at "go";rw[szs_step hU.isw] at hr42;have hpn:r≠p:=(ne_of_none hTb.1 hr4).symm;refine i_appendU (hS4 _ _ hTb.1) (by rw[List.length_map,hrl];exact Nat.lt_of_lt_of_le (show k - m+1<1000 by lia) (small (by decide))) ?_;refine ⟨m - 1,by lia,by lia,⟨rs++[r],same_upd (hSs.trans hS4) hp,?_,λx hx=>?_⟩,rfl⟩
   ·have e:k - (m - 1)+1=(k - m+1)+1:=by lia
    rw[e,szRows_succ];refine TbR.snoc hTb ?_ ?_ (λb o hb e=>?_) hne
    ·rw[upd_ne hpn];exact hr42
    ·rw[upd_same,List.map_append];rfl
    ·rw[upd_ne hb];exact hS4 _ _ e
   ·rcases List.mem_append.mp hx with h|h
    ·exact hne x h
    ·have e:x=r:=by simpa using h
     subst e;exact hpn
  ·have hm0:m=0:=by
    by_cases h0:m=0
    ·exact h0
    ·have:=hlt (k - m) (by lia);exact absurd this hc
   subst hm0;rw[Nat.sub_zero] at hTb;walk_at "go";rw[Nat.sub_zero] at hc;rcases hor with ⟨_,q⟩|⟨_,h,_⟩
   ·exact q p rs H' (hS0.trans hSs) (none_of hS0 hp) hTb
   ·exact absurd h hc
theorem t_sizes_until:TT (sp_sizes_until K) (b_sizes_until K) ["rule","start","n","rows","at","made"]:=by
 intro vs H Q E h;rcases h with ⟨a,ws,c,n,k,rfl,hR,hU,h1,h2,hg,hk,hn,hlt,q⟩|⟨a,ws,c,n,rfl,hR,hU,h1,hb⟩
 ·exact t_su _ H Q E ⟨a,ws,c,n,k,rfl,hR,hU,h1,h2,hg,hk,hlt,.inl ⟨hn,q⟩⟩
 rcases hb with ⟨hg,q⟩|⟨hg,h2,hle,tg⟩
 ·unfold b_sizes_until;walk_at "go";refine ⟨a,ws,c,rfl,hR,hU.lens,h1,λH1 hS1=>?_⟩;rw[hg];walk_at "go";refine brT ?_;walk_at "go";refine i_raiseO ?_;walk_at "go";exact ⟨by show 1<=sizeLine;decide,q H1 hS1⟩
 ·exact t_su _ H Q E ⟨a,ws,c,n,400,rfl,hR,hU,h1,h2,hg,Nat.le_refl _,λi hi=>hle i (by lia),.inr ⟨rfl,hle 400 (Nat.le_refl _),tg⟩⟩
def sp_figures (K:Fg):Sp:=λvs H Q E=>L2.Na.sp_figures K vs H Q E\/∃(a:Addr) (ws:List Str) (c:Nat) (n:Int),vs=[.ref a,sgn c,.int n]/\Bad K H a ws c n E
def b_figures (K:Fg):List (SX K):=
 [set 3 (call "sizes_until" (sp_sizes_until K) [var 0,var 1,var 2]),
  set 4 (call "words_by_letter" (sp_words_by_letter K) [var 0]),
  set 5 (lst []),
  set 6 (var 1),
  set 7 (var 2),
  forS (nam 8) (iRev (slc (var 3) none (some (neg (cst (.int 1)))))) [set 9 (dzip (call "letters" (sp_letters K) [len (var 0)]) (var 8)),
   set 10 (ix (var 4) (var 6)),
   set 11 (cst (.int 0)),
   whS (cmp .LtE (ix (var 9) (ix (var 10) (var 11))) (var 7)) [set 7 (bin .Sub (var 7) (ix (var 9) (ix (var 10) (var 11)))),
    set 11 (bin .Add (var 11) (cst (.int 1)))],
   set 6 (ix (var 10) (var 11)),
   ex (m_append (var 5) (tup [var 11,var 6]))],
  ret (var 5)]
theorem l_figures:∀vs H Q E,sp_figures K vs H Q E->vs.length=3:=by
 rintro vs H Q E (⟨_,_,_,_,_,rfl,_⟩|⟨_,_,_,_,rfl,_⟩)<;>rfl
theorem t_figures:TT (sp_figures K) (b_figures K) ["rule","start","n","rows","word_for","pairs","letter","left","row","size_of","word","step"]:=by
 intro vs H Q E h;rcases h with h|⟨a,ws,c,n,rfl,hb⟩
 case inr=>
  unfold b_figures;walk_at "go";exact .inr ⟨a,ws,c,n,rfl,hb⟩
 obtain ⟨a,ws,c,n,k,rfl,hR,hU,hg,hk,hG,hlt,q⟩:=h;unfold b_figures;walk_at "go";refine .inl ⟨a,ws,c,n,k,rfl,hR,hU,hG.1,hG.2.1,hg,hk,hG.2.2.2,hlt,λp rs H1 hS1 hp1 hT=>?_⟩;have hrl:rs.length=k+1:=by rw[hT.2.1,szRows_len]
 walk_at "go";refine ⟨a,ws,rfl,hR.same hS1,λd H2 hS2 _ hd=>?_⟩;walk_at "go";refine ⟨Nat.zero_le _,λpl hpl=>?_⟩;have s3:=same_new hpl (.lst []);have hS02:=hS1.trans hS2;have hT3:=(hT.same hS2).same s3;walk_at "go";refine i_revI ?_;walk_at "go";refine i_neg ?_;walk_at "go";refine i_negI ?_;walk_at "go";refine i_slL (SqL.of hT3.1) λl hl=>?_;rw[cut_m1 (by rw[List.length_map];lia),List.length_map,hrl,show k+1 - 1=k by lia];have s4:=same_new hl (.lst ((rs.map V.ref).take k));have hlen:((rs.map V.ref).take k).length=k:=by rw[List.length_take,List.length_map];lia
 refine i_revL (SqL.of upd_same) ?_;have hplne:l≠pl:=(ne_of_none (H:=upd H2 pl (.lst [])) upd_same hl).symm;have hpl4:∀H',Off pl (upd (upd H2 pl (.lst [])) l (.lst ((rs.map V.ref).take k))) H'->Same H2 H':=λH' o=>Off.same (s3.trans s4) o hpl;refine loop_rev (λi σ H'=>i<=k/\Off pl (upd (upd H2 pl (.lst [])) l (.lst ((rs.map V.ref).take k))) H'/\(∃us:List Addr,FgR H' pl us ((figs ws k c n).take i)/\(∀u∈us,H u=none/\u≠pl))/\
   ∃(a8 a9 a10 a11:Option V),σ=[some (.ref a),some (sgn c),some (.int n),some (.ref p),some (.ref d),some (.ref pl),some (sgn (fgo ws k c n i).1),some (.int (fgo ws k c n i).2),a8,a9,a10,a11])
  ⟨Nat.zero_le _,λ_ _ _ e=>e,⟨[],⟨s4 _ _ upd_same,rfl,λi r f hr=>by simp at hr⟩,λu hu=>nomatch hu⟩,none,none,none,none,by cases k<;>rfl⟩
  (λi σ H' hP=>SqL.of (hP.2.1 l _ hplne upd_same)) (λi x σ H' hx hP=>?_) λσ H' hP=>?_
 ·obtain ⟨hi,hO,⟨us,hF,hus⟩,a8,a9,a10,a11,rfl⟩:=hP;have hik:i<k:=by
   have:=(List.getElem?_eq_some_iff.mp hx).1;rw[List.length_reverse,hlen] at this;exact this
  have hki:k - 1 - i<rs.length:=by lia
  have ex:x=.ref rs[k - 1 - i]:=by
   rw[List.getElem?_reverse (by rw[hlen];exact hik),hlen,List.getElem?_take,if_pos (by lia),List.getElem?_map,List.getElem?_eq_getElem hki] at hx;exact (Option.some.inj hx).symm
  subst ex;have hS:=hpl4 H' hO;have hrow:H' rs[k - 1 - i]=some (.lst ((szs ws (k - 1 - i)).map V.int)):=hS _ _ (hS2 _ _ (hT.2.2 (k - 1 - i) _ _ (List.getElem?_eq_getElem hki) (szRows_get (by lia))));have hGi:=fgo_good hU k c n i hG hi;obtain ⟨g1,g2,g3,g4⟩:=id hGi;have eki:k - i=(k - 1 - i)+1:=by lia
  rw[eki] at hGi;obtain ⟨dn,hdn,hGn⟩:=hGi.step hU;obtain ⟨w,hw,hwd,hwm⟩:=hU.word g2;have hsucc:=fgo_succ (ws:=ws) k c n i hik;have hfat:=figs_at (ws:=ws) k c n i hik;rw[show k - i - 1=k - 1 - i by lia] at hsucc hfat;obtain ⟨cl,hcl⟩:∃cl,(fgo ws k c n i).1=cl:=⟨_,rfl⟩;obtain ⟨x0,hx0⟩:∃x0,(fgo ws k c n i).2=x0:=⟨_,rfl⟩;simp only [hcl,hx0] at hsucc hfat hGn hdn g1 g2 g3 g4 hw hwd;rw[hcl,hx0];obtain ⟨st,hst⟩:∃st,(fst' ws (k - 1 - i) (wd ws cl) x0).1=st:=⟨_,rfl⟩;rw[eki,sz_succ g2] at g4;obtain ⟨o1,o2,o3,o4⟩:=fst_ok (wd ws cl) x0 g3 g4;rw[hst] at o1 o4 hdn hfat hsucc;rw[hdn] at hsucc;refine i_nam (i_seq (i_set (size_of_ok (K:=K) (a:=a) (r:=rs[k - 1 - i]) rfl rfl (hR.same (hS02.trans hS)) hrow λdz H5 hS5 _ hdz=>?_)));walk_at "go";refine i_ixD (((hd.same hS).same hS5).get g1 hw) ?_;walk_at "go";have hwl:=hU.le w hwm;have hlsw:wd ws cl=w.cps.toList:=hwd;refine i_seq (loop_wh (m:=st) (λm σ H6=>m<=st/\H6=H5/\σ=[some (.ref a),some (sgn c),some (.int n),some (.ref p),some (.ref d),some (.ref pl),some (sgn cl),some (.int (x0 - sumsz ws (k - 1 - i) ((wd ws cl).take (st - m)))),some (.ref rs[k - 1 - i]),some (.ref dz),some (.str w),some (.int ((st - m:Nat):Int))])
   ⟨Nat.le_refl _,rfl,?_⟩ (λm σ H6 hW=>?_))
  ·rw[Nat.sub_self,List.take_zero];have e0:sumsz ws (k - 1 - i) []=0:=rfl;rw[e0,Int.sub_zero];rfl
  ·obtain ⟨hm,rfl,rfl⟩:=hW;have hs:st - m<(wd ws cl).length:=by lia
   have hch:(wd ws cl)[st - m]?=some (wd ws cl)[st - m]:=List.getElem?_eq_getElem hs;obtain ⟨sg1,sg2⟩:=hU.sign g2 (List.getElem_mem hs);have hat:atI w.cps.toList ((st - m:Nat):Int)=some (wd ws cl)[st - m]:=atI_nat (by rw[<-hlsw];exact hch);have hwk:=fst_walk (ws:=ws) (k:=k - 1 - i) (wd ws cl) x0 (st - m) _ (by rw[hst];lia) hch;rw[hst] at hwk;walk_at "go";refine i_ixS (small (by lia)) hat ?_;refine i_ixD (hdz.get sg1 sg2) ?_;walk_at "go";refine br_d (λhc=>wh_go ?_) λhc=>?_
   ·have hlt2:=hwk.mpr hc;have hm0:0<m:=by lia
    walk_at "go";refine i_ixS (small (by lia)) hat ?_;refine i_ixD (hdz.get sg1 sg2) ?_;walk_at "go";refine ⟨m - 1,by lia,by lia,rfl,?_⟩;have e1:st - (m - 1)=(st - m)+1:=by lia
    have e2:sumsz ws (k - 1 - i) ((wd ws cl).take (st - m+1))=sumsz ws (k - 1 - i) ((wd ws cl).take (st - m))+sz ws (k - 1 - i) (wd ws cl)[st - m]:=by
     rw[List.take_add_one,hch];unfold sumsz;rw[List.map_append,List.sum_append];simp
    rw[e1,e2];have e3:((st - m:Nat):Int)+1=((st - m+1:Nat):Int):=by lia
    have e4:x0 - sumsz ws (k - 1 - i) ((wd ws cl).take (st - m)) - sz ws (k - 1 - i) (wd ws cl)[st - m]=x0 - (sumsz ws (k - 1 - i) ((wd ws cl).take (st - m))+sz ws (k - 1 - i) (wd ws cl)[st - m]):=by lia
    rw[<-e3,<-e4];rfl
   ·have hm0:m=0:=by
     by_cases h0:m=0
     ·exact h0
     ·exact absurd (hwk.mp (by lia)) hc
    subst hm0;have hat0:atI w.cps.toList ((st:Nat):Int)=some (wd ws cl)[st]:=atI_nat (by rw[<-hlsw];exact List.getElem?_eq_getElem o1);rw[Nat.sub_zero];walk_at "go";refine i_ixS (small (by lia)) hat0 ?_;walk_at "go";refine i_RL (SqL.of (hS5 _ _ hF.1)) ?_;walk_at "go";refine ⟨by show 2<=sizeLine;decide,λt ht=>?_⟩;walk_at "go";have s6:=same_new ht (.tup [V.int (st:Nat),sgn (wd ws cl)[st]]);have htp:t≠pl:=(ne_of_none (hS5 _ _ hF.1) ht).symm;have hdn':(wd ws cl)[st]=dn:=by
     rw[List.getElem?_eq_getElem o1] at hdn;exact Option.some.inj hdn
    have hfl:((figs ws k c n).take i).length=i:=by rw[List.length_take,figs_len];lia
    refine i_appendU (s6 _ _ (hS5 _ _ hF.1)) (by rw[List.length_map,hF.2.1,hfl];exact Nat.lt_of_lt_of_le (show i<1000 by lia) (small (by decide))) ?_;refine ⟨hik,((hO.trans hS5).trans s6).upd,⟨us++[t],⟨by rw[upd_same,List.map_append];rfl,?_,λj r f hr hf=>?_⟩,λu hu=>?_⟩,some (.ref rs[k - 1 - i]),some (.ref dz),some (.str w),some (.int st),?_⟩
    ·rw[List.length_append,hF.2.1,hfl,List.length_take,figs_len];show i+1=_;lia
    ·rw[List.take_add_one,hfat] at hf;by_cases hj:j<us.length
     ·rw[List.getElem?_append_left hj] at hr;rw[List.getElem?_append_left (by rw[<-hF.2.1];exact hj)] at hf;have hne:=(hus r (List.mem_of_getElem? hr)).2;rw[upd_ne hne];exact s6 _ _ (hS5 _ _ (hF.2.2 j r f hr hf))
     ·rw[List.getElem?_append_right (by lia)] at hr;rw[List.getElem?_append_right (by rw[<-hF.2.1];lia),<-hF.2.1] at hf;have e0:j - us.length=0:=by
       have:=(List.getElem?_eq_some_iff.mp hr).1;simp at this;lia
      rw[e0] at hr hf;have e1:t=r:=by simpa using hr
      have e2:(st,(fgo ws k c n (i+1)).1)=f:=by simpa using hf
      subst e1 e2;rw[upd_ne htp,upd_same,hsucc,hdn'];rfl
    ·rcases List.mem_append.mp hu with h|h
     ·exact hus u h
     ·have e:u=t:=by simpa using h
      subst e;exact ⟨none_of (hS02.trans (hS.trans hS5)) ht,htp⟩
    ·rw[hsucc,o4,hdn'];rfl
 ·obtain ⟨hi,hO,⟨us,hF,hus⟩,a8,a9,a10,a11,rfl⟩:=hP;walk_at "go";rw[hlen] at hF;rw[List.take_of_length_le (by rw[figs_len];exact Nat.le_refl _)] at hF;exact q pl us H' (hS02.trans (hpl4 H' hO)) (none_of hS02 hpl) (λr hr=>(hus r hr).1) hF
def sp_stretch_at (K:Fg):Sp:=λvs H Q E=>L2.Na.sp_stretch_at K vs H Q E\/∃(a:Addr) (ws:List Str) (c n m:Nat),vs=[.ref a,sgn c,.int n,.int m]/\1<=m/\Bad K H a ws c ((n+m - 1:Nat):Int) E
def b_stretch_at (K:Fg):List (SX K):=
 [set 4 (call "figures" (sp_figures K) [var 0,var 1,bin .Sub (bin .Add (var 2) (var 3)) (cst (.int 1))]),
  setC 5 (compC none (var 0) (unp [0,1]) (iSeq (call "figures" (sp_figures K) [var 0,var 1,var 2])) ["step","letter"] [] []),
  set 6 (bin .Mult (lst [cst (.int 0)]) (bin .Sub (len (var 4)) (len (var 5)))),
  set 7 (var 1),
  forS (nam 8) (iSeq (bin .Add (var 6) (var 5))) [set 7 (slc (slc (call "put" (sp_put K) [var 0,var 7]) (some (var 8)) none) none (some (var 3)))],
  ret (slc (var 7) none (some (var 3)))]
theorem l_stretch_at:∀vs H Q E,sp_stretch_at K vs H Q E->vs.length=4:=by
 rintro vs H Q E (⟨_,_,_,_,_,rfl,_⟩|⟨_,_,_,_,_,rfl,_⟩)<;>rfl
theorem t_stretch_at:TT (sp_stretch_at K) (b_stretch_at K) ["rule","start","n","many","last","steps","ahead","window","step"]:=by
 intro vs H Q E h;rcases h with h|⟨a,ws,c,n,m,rfl,hm1,hb⟩
 case inr=>
  unfold b_stretch_at;walk_at "go";exact .inr ⟨a,ws,c,_,rfl,(show ((n:Nat):Int)+((m:Nat):Int) - 1=((n+m - 1:Nat):Int) by lia)▸hb⟩
 obtain ⟨a,ws,c,n,m,rfl,hP,hm1,hm2,q⟩:=h;have hU:=hP.ru;obtain ⟨kk,hkk,hGG,hltt⟩:=hP.turns;have hP2:Pl K H a ws c ((n:Nat):Int):=hP.less (by lia) (by lia);obtain ⟨k,hk,hG,hlt⟩:=hP2.turns;have hkle:k<=kk:=by
  by_cases h:k<=kk
  ·exact h
  ·have:=hlt kk (by lia);have:=hGG.2.2.2;lia
 have hGn:=hG.more hU hP.gr hkle;unfold b_stretch_at;walk_at "go";refine .inl ⟨a,ws,c,_,kk,rfl,hP.rt,hU,hP.gr,hkk,?_,?_,λp rs H1 hS1 _ _ hF=>?_⟩
 ·rw[show ((n:Nat):Int)+((m:Nat):Int) - 1=((n+m - 1:Nat):Int) by lia];exact hGG
 ·rw[show ((n:Nat):Int)+((m:Nat):Int) - 1=((n+m - 1:Nat):Int) by lia];exact hltt
 have hrl:rs.length=kk:=by rw[hF.2.1,figs_len]
 walk_at "go";refine .inl ⟨a,ws,c,n,k,rfl,hP.rt.same hS1,hU,hP.gr,hk,hG,hlt,λp2 rs2 H2 hS2 _ _ hF2=>?_⟩;have hrl2:rs2.length=k:=by rw[hF2.2.1,figs_len]
 have hlm:(rs2.map V.ref).length=k:=by rw[List.length_map,hrl2]
 refine i_itL (SqL.of hF2.1) ?_;intro D hD;have hfi:∀i,i<k->∃f,(figs ws k c n)[i]?=some f:=λi hi=>⟨_,List.getElem?_eq_getElem (by rw[figs_len];exact hi)⟩;refine comp_unp (λi=>.int ((((figs ws k c n)[i]?.getD (0,0)).1:Nat):Int)) (λi=>.int ((((figs ws k c n)[i]?.getD (0,0)).1:Nat):Int)) (λi=>sgn ((figs ws k c n)[i]?.getD (0,0)).2) (SqL.of hF2.1) (λi x hx=>?_) hD (small (by lia)) (λi H3 Q' hi hS3 fin=>?_) λH3 hS3 hO=>?_
 ·have hi:i<rs2.length:=by
   have:=(List.getElem?_eq_some_iff.mp hx).1;rw[List.length_map] at this;exact this
  rw[List.getElem?_map,List.getElem?_eq_getElem hi] at hx;obtain ⟨f,hf⟩:=hfi i (by lia);refine ⟨rs2[i],(Option.some.inj hx).symm,?_⟩;rw[hf];exact SqT.of (hF2.2.2 i _ f (List.getElem?_eq_getElem hi) hf)
 ·walk_at "go";exact fin H3 (Same.refl _)
 have hO':H3 D=some (.lst ((figs ws k c n).map λf=>V.int (f.1:Nat))):=by
  rw[hO,hlm]
  congr 2
  refine List.ext_getElem? λi=>?_;rw[List.getElem?_map,List.getElem?_map];by_cases hi:i<k
  ·obtain ⟨f,hf⟩:=hfi i hi;rw[List.getElem?_range hi,hf];show some (V.int ((((figs ws k c n)[i]?.getD (0,0)).1:Nat):Int))=_;rw[hf];rfl
  ·rw[List.getElem?_eq_none_iff.mpr (by rw[List.length_range];lia),List.getElem?_eq_none_iff.mpr (by rw[figs_len];lia)];rfl
 have hl4:(rs.map V.ref).length=kk:=by rw[List.length_map,hrl]
 have hl5:((figs ws k c n).map λf=>V.int (f.1:Nat)).length=k:=by rw[List.length_map,figs_len]
 have hq4:SqL K H3 p (rs.map V.ref):=SqL.of ((hS2.trans hS3) _ _ hF.1);have hq5:SqL K H3 D ((figs ws k c n).map λf=>V.int (f.1:Nat)):=SqL.of hO';walk_at "go";refine ⟨by show 1<=sizeLine;decide,λl hl=>?_⟩;have s4:=same_new hl (.lst [V.int 0]);walk_at "go";refine i_lenL (s4.seq hq4) ?_;walk_at "go";refine i_lenL (s4.seq hq5) ?_;walk_at "go";rw[hl4,hl5,show ((kk:Nat):Int) - ((k:Nat):Int)=((kk - k:Nat):Int) by lia];refine i_rep (xs:=[V.int 0]) upd_same ⟨by lia,by lia⟩ (small (by show 1 * _<=_;lia)) λl2 hl2=>?_;rw[flat_rep,Int.toNat_natCast];have s5:=same_new hl2 (.lst (List.replicate (kk - k) (V.int 0)));walk_at "go";refine i_catL upd_same (s5 _ _ (s4 _ _ hO')) (small (by rw[List.length_replicate,hl5];lia)) λl3 hl3=>?_;rw[map_fst_more hU hP.gr hG,show k+(kk - k)=kk by lia];have s6:=same_new hl3 (.lst ((figs ws kk c n).map λf=>V.int (f.1:Nat)));refine i_itL (SqL.of upd_same) ?_;have hS06:Same H (upd (upd (upd H3 l (.lst [V.int 0])) l2 (.lst (List.replicate (kk - k) (V.int 0)))) l3 (.lst ((figs ws kk c n).map λf=>V.int (f.1:Nat)))):=(((hS1.trans hS2).trans hS3).trans (s4.trans s5)).trans s6;refine loop_lst (SqL.of upd_same) (λi σ=>i<=kk/\∃A B a8,At ws c kk n i A B/\σ=[some (.ref a),some (sgn c),some (.int n),some (.int m),some (.ref p),some (.ref D),some (.ref l2),some (.str (mkS (((fgo ws kk c n i).1::B).take m))),a8])
  ⟨Nat.zero_le _,[],[],none,at_zero,?_⟩ (λi x σ1 H7 hx hPi hS7=>?_) λσ1 H7 hPi hS7=>?_
 ·have e:fgo ws kk c n 0=(c,((n:Nat):Int)):=by cases kk<;>rfl
  rw[e,List.take_of_length_le (by show 1<=m;lia)];rfl
 ·obtain ⟨_,A,B,a8,hA,rfl⟩:=hPi;have hi:i<kk:=by
   have:=(List.getElem?_eq_some_iff.mp hx).1;rw[List.length_map,figs_len] at this;exact this
  obtain ⟨st,S,hf,hst,hw,hdr,hA'⟩:=at_step hU hGn hi hA;have ex:x=.int ((st:Nat):Int):=by
   rw[List.getElem?_map,hf] at hx;exact (Option.some.inj hx).symm
  subst ex;have hLw:LetL ws ((fgo ws kk c n i).1::B):=λd hd=>wk_let hU hP.c1 hP.c2 i d (by rw[hA.1];exact List.mem_append_right _ hd);have hLt:LetL ws (((fgo ws kk c n i).1::B).take m):=λd hd=>hLw d (List.mem_of_mem_take hd);have hwl:(mkS (((fgo ws kk c n i).1::B).take m)).length<=m:=by rw[mk_len,List.length_take];lia
  walk_at "go";refine ⟨a,ws,_,rfl,(hP.rt.same hS06).same hS7,hU.le,hLt.isW,by lia,λH8 hS8=>?_⟩;have hil:=img_le (ws:=ws) (z:=mkS (((fgo ws kk c n i).1::B).take m)) (B:=100) hU.le;have hil2:(img ws (mkS (((fgo ws kk c n i).1::B).take m))).length<=1000000:=by lia
  have hls:ls (img ws (mkS (((fgo ws kk c n i).1::B).take m)))=imgL ws (((fgo ws kk c n i).1::B).take m):=by rw[ls_img,ls_mk];rfl
  have hge:st<=(img ws (mkS (((fgo ws kk c n i).1::B).take m))).length:=by
   rw[<-ls_len,hls];obtain ⟨m',rfl⟩:∃m',m=m'+1:=⟨m - 1,by lia⟩;rw[List.take_succ_cons,imgL_cons,List.length_append];lia
  walk_at "go";refine i_slS (small hil2) ?_;walk_at "go";have hsl:=slice_len (img ws (mkS (((fgo ws kk c n i).1::B).take m))) (some ((st:Nat):Int)) none;refine i_slS (small (by lia)) ?_;refine ⟨⟨hi,_,_,some (.int st),hA',?_⟩,hS7.trans hS8⟩;have e:Txt.slice (Txt.slice (img ws (mkS (((fgo ws kk c n i).1::B).take m))) (some ((st:Nat):Int)) none) none (some ((m:Nat):Int))=mkS (((fgo ws kk c n (i+1)).1::(S++imgL ws B)).take m):=by
   refine ls_inj ?_;rw[show ls (Txt.slice (Txt.slice (img ws (mkS (((fgo ws kk c n i).1::B).take m))) (some ((st:Nat):Int)) none) none (some ((m:Nat):Int)))=(Txt.slice (img ws (mkS (((fgo ws kk c n i).1::B).take m))) (some ((st:Nat):Int)) none).cps.toList.take ((m:Nat):Int).toNat from slice_to (by lia)];rw[slice_from (by lia) (by lia),Int.toNat_natCast,Int.toNat_natCast,ls_mk];show ((ls (img ws (mkS (((fgo ws kk c n i).1::B).take m)))).drop st).take m=_;rw[hls,window hU hLw hst hm1,imgL_cons,List.drop_append_of_le_length (by lia),hdr];rfl
  rw[e];rfl
 ·obtain ⟨_,A,B,a8,hA,rfl⟩:=hPi;rw[List.length_map,figs_len] at hA ⊢;have hAl:=at_end hU hGn hA;walk_at "go";refine i_slS (small (by rw[mk_len,List.length_take];lia)) ?_;have e:Txt.slice (mkS (((fgo ws kk c n kk).1::B).take m)) none (some ((m:Nat):Int))=mkS (str ws c n m):=by
   refine ls_inj ?_;rw[show ls (Txt.slice (mkS (((fgo ws kk c n kk).1::B).take m)) none (some ((m:Nat):Int)))=(mkS (((fgo ws kk c n kk).1::B).take m)).cps.toList.take ((m:Nat):Int).toNat from slice_to (by lia)];show (ls (mkS (((fgo ws kk c n kk).1::B).take m))).take _=_;rw[ls_mk,Int.toNat_natCast,ls_mk,List.take_take,Nat.min_self];have hwl:=wk_len hU hP.c1 hP.c2 kk;have hgg:=hGG.2.2.2;rw[<-wk_cut hU hP.c1 hP.c2 hP.gr (k:=kk) (by lia),hA.1,List.drop_append_of_le_length (by lia),List.drop_of_length_le (by lia)];rfl
  rw[e];exact q _ (hS06.trans hS7)
end
section
variable {K:Fg}
def sp_counts_to (K:Fg):Sp:=λvs H Q _=>∃(a:Addr) (ws:List Str) (c n:Nat),vs=[.ref a,sgn c,.int n]/\Pl K H a ws c n/\∀r H',Same H H'->H r=none->H' r=some (.lst ((cnts ws.length (mkS (str ws c 0 n))).map V.int))->Q (.ref r) H'
end
end L2.Na.Pr
namespace L2.Na.K26
open PySem PySem.Spec PyProof.Rows L2 L2.L3 L2.Na.Pr
section
variable {K:Fg}
def sp_letter_at (K:Fg):Sp:=λvs H Q E=>L2.Na.sp_letter_at K vs H Q E\/∃(a:Addr) (ws:List Str) (c:Nat) (n:Int),vs=[.ref a,sgn c,.int n]/\Bad K H a ws c n E
def b_letter_at (K:Fg):List (SX K):=
 [set 3 (call "figures" (Pr.sp_figures K) [var 0,var 1,var 2]),
  ifS (cmp .Eq (len (var 3)) (cst (.int 0))) [ret (var 1)] [],
  ret (ix (ix (var 3) (neg (cst (.int 1)))) (cst (.int 1)))]
theorem l_letter_at:∀vs H Q E,sp_letter_at K vs H Q E->vs.length=3:=by
 rintro vs H Q E (⟨_,_,_,_,rfl,_⟩|⟨_,_,_,_,rfl,_⟩)
 ·rfl
 ·rfl
theorem t_letter_at:TT (sp_letter_at K) (b_letter_at K) ["rule","start","n","pairs"]:=by
 intro vs H Q E h;rcases h with h|⟨a,ws,c,n,rfl,hb⟩
 case inr=>
  unfold b_letter_at;walk_at "go";exact .inr ⟨a,ws,c,_,rfl,hb⟩
 obtain ⟨a,ws,c,n,rfl,hP,q⟩:=h;obtain ⟨k,hk,hG,hlt⟩:=hP.turns;have hlast:=at_last hP.ru hG hP.gr;unfold b_letter_at;walk_at "go";refine .inl ⟨a,ws,c,n,k,rfl,hP.rt,hP.ru,hP.gr,hk,hG,hlt,λp rs H1 hS1 _ _ hF=>?_⟩;have hrl:rs.length=k:=by rw[hF.2.1,figs_len]
 walk_at "go";refine i_lenL (SqL.of hF.1) ?_;walk_at "go";refine br_d (λc0=>?_) λc0=>?_
 ·rw[List.length_map] at c0;have hk0:k=0:=by lia
  subst hk0;walk_at "go";have e:(fgo ws 0 c n 0).1=c:=rfl;rw[e] at hlast;rw[hlast];exact q _ hS1
 ·rw[List.length_map] at c0;have hk0:k - 1<k:=by lia
  obtain ⟨rl,hl⟩:∃r,rs[k - 1]?=some r:=⟨_,List.getElem?_eq_getElem (show k - 1<rs.length by lia)⟩;have hf:=figs_at (ws:=ws) k c n (k - 1) hk0;rw[show k - 1+1=k by lia] at hf;have ht:=hF.2.2 (k - 1) rl _ hl hf;walk_at "go";refine i_neg ?_;walk_at "go";refine i_negI ?_;refine i_ixL (SqL.of hF.1) (atI_last' (v:=.ref rl) (by rw[List.length_map,hrl,List.getElem?_map,hl];rfl)) ?_;walk_at "go";refine i_ixT (v:=sgn (fgo ws k c n k).1) (SqT.of ht) rfl ?_;rw[hlast];exact q _ hS1
def sp_counts_to (K:Fg):Sp:=λvs H Q E=>Pr.sp_counts_to K vs H Q E\/∃(a:Addr) (ws:List Str) (c:Nat) (n:Int),vs=[.ref a,sgn c,.int n]/\Bad K H a ws c n E
def b_counts_to (K:Fg):List (SX K):=
 [set 3 (call "words_by_letter" (sp_words_by_letter K) [var 0]),
  set 4 (bin .Mult (lst [cst (.int 0)]) (len (var 0))),
  set 5 (m_get (var 3) (var 1) (cst (.str ""))),
  forS (unp [6,7]) (iSeq (call "figures" (Pr.sp_figures K) [var 0,var 1,var 2])) [set 4 (call "added" (sp_added K) [call "counts_behind" (sp_counts_behind K) [var 0,var 4,cst (.int 1)],call "counts" (sp_counts K) [slc (var 5) none (some (var 6)),len (var 0)]]),
   set 5 (ix (var 3) (var 7))],
  ret (var 4)]
theorem l_counts_to:∀vs H Q E,sp_counts_to K vs H Q E->vs.length=3:=by
 rintro vs H Q E (⟨_,_,_,_,rfl,_⟩|⟨_,_,_,_,rfl,_⟩)
 ·rfl
 ·rfl
theorem t_counts_to:TT (sp_counts_to K) (b_counts_to K) ["rule","start","n","word_for","made","word","step","letter"]:=by
 intro vs H Q E h;rcases h with h|⟨a,ws,c,n,rfl,hb⟩
 case inr=>
  obtain ⟨hR,hU,c1,hb⟩:=hb;have h4:=hR.four;have hlen:(ws.map V.str).length=ws.length:=List.length_map _;unfold b_counts_to;walk_at "go";refine ⟨a,ws,rfl,hR,λd H1 hS1 _ hd=>?_⟩;have hR1:=hR.same hS1;walk_at "go";refine ⟨by show 1<=sizeLine;decide,λl hl=>?_⟩;have s2:=same_new hl (.lst [V.int 0]);have hq2:=Same.seqT s2 hR1.tp;walk_at "go";refine i_rep (xs:=[V.int 0]) upd_same ⟨by lia,by lia⟩ (small (by show 1 * _<=_;lia)) λl2 hl2=>?_;have s3:=same_new hl2 (.lst (List.replicate ((ws.map V.str).length:Int).toNat [V.int 0]).flatten);have hS03:=hS1.trans (s2.trans s3);have hd3:=hd.same (s2.trans s3);obtain ⟨kvs,hkv,_⟩:=id hd3;walk_at "go";refine i_RD hkv ?_;walk_at "go";obtain ⟨o,ho⟩:∃o,DGet _ d (sgn c) o:=by
   by_cases hl:c - 97<ws.length
   ·exact ⟨_,hd3.get c1 (List.getElem?_eq_getElem hl)⟩
   ·exact ⟨_,hd3.miss (by lia)⟩
  refine i_get2 ho ?_;walk_at "go";exact .inr ⟨a,ws,c,_,rfl,⟨hR.same hS03,hU,c1,hb.imp (λ⟨x,y⟩=>⟨x,λH' e=>y H' (hS03.trans e)⟩) λ⟨x,y,z,w⟩=>⟨x,y,z,w.same hS03⟩⟩⟩
 obtain ⟨a,ws,c,n,rfl,hP,q⟩:=h;have hU:=hP.ru;have h4:=hP.rt.four;obtain ⟨k,hk,hG,hlt⟩:=hP.turns;have hlen:(ws.map V.str).length=ws.length:=List.length_map _;unfold b_counts_to;walk_at "go";refine ⟨a,ws,rfl,hP.rt,λd H1 hS1 _ hd=>?_⟩;have hR1:=hP.rt.same hS1;walk_at "go";refine ⟨by show 1<=sizeLine;decide,λl hl=>?_⟩;have s2:=same_new hl (.lst [V.int 0]);have hq2:=Same.seqT s2 hR1.tp;walk_at "go";refine i_rep (xs:=[V.int 0]) upd_same ⟨by lia,by lia⟩ (small (by show 1 * _<=_;lia)) λl2 hl2=>?_;rw[flat_rep,hlen,Int.toNat_natCast];have s3:=same_new hl2 (.lst (List.replicate ws.length (V.int 0)));have hS03:=hS1.trans (s2.trans s3);have hd3:=hd.same (s2.trans s3);obtain ⟨kvs,hkv,_⟩:=id hd3;walk_at "go";refine i_RD hkv ?_;walk_at "go";obtain ⟨w0,hw0,hwd0,hwm0⟩:=hU.word hP.c2;refine i_get2 (hd3.get hP.c1 hw0) ?_;rw[show (some (V.str w0)).getD (V.str (Str.ofString ""))=V.str w0 from rfl];walk_at "go";refine .inl ⟨a,ws,c,n,k,rfl,hP.rt.same hS03,hU,hP.gr,hk,hG,hlt,λp rs H4 hS4 _ _ hF=>?_⟩;have hrl:rs.length=k:=by rw[hF.2.1,figs_len]
 have hS04:=hS03.trans hS4;refine i_itL (SqL.of hF.1) ?_;refine loop_yl (yl_list (xs:=rs.map V.ref)) (λi σ H'=>Same H4 H'/\i<=k/\∃(A B:List Nat) (u:Addr) (w:Str) (a6 a7:Option V),At ws c k n i A B/\H u=none/\H' u=some (.lst ((cnts ws.length (mkS A)).map V.int))/\ws[(fgo ws k c n i).1 - 97]?=some w/\σ=[some (.ref a),some (sgn c),some (.int n),some (.ref d),some (.ref u),some (.str w),a6,a7])
  ⟨Same.refl _,Nat.zero_le _,[],[],l2,w0,none,none,at_zero,none_of (hS1.trans s2) hl2,?_,?_,rfl⟩ (λi σ H' _ hPi=>SqL.of (hPi.1 _ _ hF.1)) (λi x σ H' hx hPi=>?_) λσ H' hPi=>?_
 ·rw[cnts_nil,List.map_replicate];exact hS4 _ _ upd_same
 ·have e:fgo ws k c n 0=(c,((n:Nat):Int)):=by cases k<;>rfl
  rw[e];exact hw0
 ·obtain ⟨hS5,_,A,B,u,w,a6,a7,hA,hu,hu5,hw,rfl⟩:=hPi;have hi:i<rs.length:=by
   have:=(List.getElem?_eq_some_iff.mp hx).1;rw[List.length_map] at this;exact this
  have hik:i<k:=by lia
  obtain ⟨st,S,hf,hst,hwsp,hdr,hA'⟩:=at_step hU hG hik hA;have ex:x=.ref rs[i]:=by
   rw[List.getElem?_map,List.getElem?_eq_getElem hi] at hx;exact (Option.some.inj hx).symm
  subst ex;have ht:=hS5 _ _ (hF.2.2 i _ _ (List.getElem?_eq_getElem hi) hf);refine i_unp2 (SqT.of ht) ?_;have hGi:=fgo_good hU k c n i hG (by lia);obtain ⟨w',hw',hwd',hwm'⟩:=hU.word hGi.2.1;rw[hw] at hw';cases hw';have hwl:=hU.le w hwm';have hRH:=hP.rt.same (hS04.trans hS5);have hLA:LetL ws A:=λx hx=>wk_let hU hP.c1 hP.c2 i x (by rw[hA.1];exact List.mem_append_left _ hx);walk_at "go";refine ⟨a,u,ws,_,1,rfl,hRH,hu5,cnts_len _ _,λw hw=>by have:=hU.le w hw;lia,by lia,by lia,λu2 H6 hS6 hu2 hu6=>?_⟩;walk_at "go";refine i_slS (small (by lia)) ?_;have hq6:=Same.seqT hS6 hRH.tp;walk_at "go";refine ⟨_,_,rfl,by lia,by lia,λu3 H7 hS7 hu3 hu7=>?_⟩;walk_at "go";have hu6':H6 u2=some (.lst ((cnts ws.length (mkS (imgL ws A))).map V.int)):=by
   rw[hu6];show some (HO.lst ((cOnce (rowsOf ws) (cnts ws.length (mkS A))).map V.int))=_;rw[cOnce_cnts hLA.isW,img_imgL,ls_mk]
  have hsl:Txt.slice w none (some ((st:Nat):Int))=mkS ((wd ws (fgo ws k c n i).1).take st):=by
   refine ls_inj ?_;rw[show ls (Txt.slice w none (some ((st:Nat):Int)))=w.cps.toList.take ((st:Nat):Int).toNat from slice_to (by lia),Int.toNat_natCast,ls_mk,hwd']
  rw[hsl,hlen,Int.toNat_natCast] at hu7;refine ⟨u2,u3,_,_,rfl,hS7 _ _ hu6',hu7,by rw[cnts_len];lia,λu4 H8 hS8 hu4 hu8=>?_⟩;rw[<-cnts_app] at hu8;have hS58:=(hS6.trans hS7).trans hS8;have hGn:=fgo_good hU k c n (i+1) hG (by lia);obtain ⟨w2,hw2,_,hwm2⟩:=hU.word hGn.2.1;walk_at "go";refine i_ixD (((hd3.same hS4).same (hS5.trans hS58)).get hGn.1 hw2) ?_;exact ⟨hS5.trans hS58,hik,_,_,u4,w2,_,_,hA',none_of ((hS04.trans hS5).trans (hS6.trans hS7)) hu4,hu8,hw2,rfl⟩
 ·obtain ⟨hS5,_,A,B,u,w,a6,a7,hA,hu,hu5,hw,rfl⟩:=hPi;rw[List.length_map,hrl] at hA;have hAl:=at_end hU hG hA;walk_at "go";refine q u H' (hS04.trans hS5) hu ?_;rw[hu5,<-wk_cut hU hP.c1 hP.c2 hP.gr (k:=k) (n:=0) (m:=n) (by rw[hA.1,List.length_append];lia),List.drop_zero,hA.1,List.take_append_of_le_length (by lia),List.take_of_length_le (by lia)]
end
open PySem.SeqAt
def rNeB:R2:=λx y H Q=>∃p q,∃bs:List Bool,x=.ref p/\y=.ref q/\H p=some (.lst (bs.map V.bl))/\H q=some (.lst (bs.map V.bl))/\Q (.bl false) H
section
variable {K:Fg}
section
variable {X:Cx}
theorem eqb {A:Around} {s:Shared} {k:Bool} {u v:Value} (h1:RelV (.bl k) u) (h2:RelV (.bl k) v):EqAt A s u v true:=by
 cases h1;cases h2;have:=EqAt.bool_bool (A:=A) (s:=s) k k;rw[beq_self_eq_true] at this;exact this
theorem op_neB (hu:X.A.units+64<cLine):OpR X (compareOp .NotEq) rNeB:=by
 intro pins s σ H x y v u Q I rx ry h;obtain ⟨p,q,bs,rfl,rfl,h1,h2,qq⟩:=h;cases rx;cases ry;obtain ⟨_,its,n1,k1,l1,g1⟩:=I.lstM h1;obtain ⟨_,its2,n2,k2,l2,g2⟩:=I.lstM h2;have z:=RcNeAt.lists (A:=X.A) (e:=λ_=>true) (⟨_,g1,rfl,n1,rfl⟩:s.heap.IsList p its.toArray) (⟨_,g2,rfl,n2,rfl⟩:s.heap.IsList q its2.toArray) (by rw[List.size_toArray,List.size_toArray];lia) (by lia)
  (λj h1 h2=>by
   obtain ⟨x,e1,q1⟩:=vals_at k1 h1
   obtain ⟨y,e2,q2⟩:=vals_at k2 h2
   rw[e1] at e2
   cases e2
   obtain ⟨k,_,rfl⟩:=List.mem_map.mp (List.mem_of_getElem? e1)
   exact eqb q1 q2)
 rw[all_true] at z;exact z X.prog X.w X.xe _ ⟨.bl false,H,I,rfl,qq⟩
end
def neB (a b:EX K):EX K:=cmpR .NotEq rNeB (λ_ _ hu=>op_neB hu) a b
section
variable {E:XS} {σ:St} {H:Hp} {a b:EX K}
theorem j_neB2 {QB:Bool->Hp->Prop} (h:a.t E σ H λx H1=>b.t E σ H1 λy H2=>rNeB x y H2 λv H3=>∃c,v=.bl c/\QB c H3):(neB a b).tt E σ H QB:=h
end
def kin (K:Fg) (x:Str):List (Option Bool):=[PySem.W.kitOne K (.ref (clsAt K x)) (.ref (clsAt K "TooGreat")),PySem.W.kitOne K (.ref (clsAt K x)) (.ref (clsAt K "NoStart")),PySem.W.kitOne K (.ref (clsAt K x)) (.ref (clsAt K "NoRule")),PySem.W.kitOne K (.ref (clsAt K x)) (.ref (clsAt K "NoPiece")),PySem.W.kitOne K (.ref (clsAt K x)) (.ref (clsAt K "NotMixed")),PySem.W.kitOne K (.ref (clsAt K x)) (.ref (clsAt K "NoShares")),PySem.W.kitOne K (.ref (clsAt K x)) (.ref (clsAt K "NoRow")),PySem.W.kitOne K (.ref (clsAt K x)) (.type "ValueError")]
def kl (i:Nat):List (Option Bool):=[some (decide (0=i)),some (decide (1=i)),some (decide (2=i)),some (decide (3=i)),some (decide (4=i)),some (decide (5=i)),some (decide (6=i)),some true]
structure KF (K:Fg):Prop where
 n_WordError:PySem.W.nsIn K mainGlobals "WordError"=some (some (.ref (clsAt K "WordError")))
 n_NoStart:PySem.W.nsIn K mainGlobals "NoStart"=some (some (.ref (clsAt K "NoStart")))
 n_TooGreat:PySem.W.nsIn K mainGlobals "TooGreat"=some (some (.ref (clsAt K "TooGreat")))
 n_NoPiece:PySem.W.nsIn K mainGlobals "NoPiece"=some (some (.ref (clsAt K "NoPiece")))
 n_NotMixed:PySem.W.nsIn K mainGlobals "NotMixed"=some (some (.ref (clsAt K "NotMixed")))
 n_NoRule:PySem.W.nsIn K mainGlobals "NoRule"=some (some (.ref (clsAt K "NoRule")))
 n_NoShares:PySem.W.nsIn K mainGlobals "NoShares"=some (some (.ref (clsAt K "NoShares")))
 n_NoRow:PySem.W.nsIn K mainGlobals "NoRow"=some (some (.ref (clsAt K "NoRow")))
 ini:IniK K "TooGreat" "self" "most" "most"
 e_NoStart:ExcK K "NoStart"
 xfT:XF K (clsAt K "TooGreat")
 xfS:XF K (clsAt K "NoStart")
 exT:PySem.W.exmOne K (.ref (clsAt K "TooGreat")) (.ref (clsAt K "WordError"))=some true
 exS:PySem.W.exmOne K (.ref (clsAt K "NoStart")) (.ref (clsAt K "WordError"))=some true
 kT:kin K "TooGreat"=kl 0
 kS:kin K "NoStart"=kl 1
structure Ask (K:Fg) (x:Str) (i:Nat):Prop where
 xf:XF K (clsAt K x)
 ex:PySem.W.exmOne K (.ref (clsAt K x)) (.ref (clsAt K "WordError"))=some true
 k:kin K x=kl i
theorem KF.askT (kf:KF K):Ask K "TooGreat" 0:=⟨kf.xfT,kf.exT,kf.kT⟩
theorem KF.askS (kf:KF K):Ask K "NoStart" 1:=⟨kf.xfS,kf.exS,kf.kS⟩
theorem XAt.same' {H H':Hp} {x:V} {D:Addr} {fs:List (Str × V)} (e:Same H H') (h:XAt H x D fs):XAt H' x D fs:=by
 obtain ⟨a,rfl,h⟩:=h;rcases h with ⟨h,h2⟩|⟨d,h,h2⟩
 ·exact ⟨a,rfl,.inl ⟨e _ _ h,h2⟩⟩
 ·exact ⟨a,rfl,.inr ⟨d,e _ _ h,e _ _ h2⟩⟩
def kb (i:Nat):List Bool:=(List.range 8).map λj=>decide (j=i)
def sp_law_kinds (K:Fg):Sp:=λvs H Q _=>∃(v:V) (x:Str) (fs:List (Str × V)) (i:Nat),vs=[v]/\XAt H v (clsAt K x) fs/\Ask K x i/\i≠7/\
 ∀l H',Same H H'->H l=none->H' l=some (.lst ((kb i).map V.bl))->Q (.ref l) H'
def b_law_kinds (K:Fg):List (SX K):=
 [set 1 (lst [isx (var 0) (glb "TooGreat" (.ref (clsAt K "TooGreat"))),isx (var 0) (glb "NoStart" (.ref (clsAt K "NoStart"))),isx (var 0) (glb "NoRule" (.ref (clsAt K "NoRule")))]),
  set 1 (bin .Add (var 1) (lst [isx (var 0) (glb "NoPiece" (.ref (clsAt K "NoPiece"))),isx (var 0) (glb "NotMixed" (.ref (clsAt K "NotMixed"))),isx (var 0) (glb "NoShares" (.ref (clsAt K "NoShares")))])),
  ret (bin .Add (var 1) (lst [isx (var 0) (glb "NoRow" (.ref (clsAt K "NoRow"))),notE (isx (var 0) tyVE)]))]
theorem t_law_kinds:TT (sp_law_kinds K) (b_law_kinds K) ["_law_error","_law_some"]:=by
 intro vs H Q E h;obtain ⟨v,x,fs,i,rfl,hX,A,i7,q⟩:=h;have k:=A.k;unfold kin kl at k;simp only [List.cons.injEq,and_true] at k;obtain ⟨k0,k1,k2,k3,k4,k5,k6,kv⟩:=k;unfold b_law_kinds;walk_at "go";refine i_isx ?_;walk_at "go";refine i_isxX rfl hX A.xf k0 ?_;walk_at "go";refine i_isx ?_;walk_at "go";refine i_isxX rfl hX A.xf k1 ?_;walk_at "go";refine i_isx ?_;walk_at "go";refine i_isxX rfl hX A.xf k2 ?_;walk_at "go";refine ⟨by show 3<=sizeLine;decide,λp np=>?_⟩;have s1:=same_new np (.lst [V.bl (decide (0=i)),.bl (decide (1=i)),.bl (decide (2=i))]);have hX1:=XAt.same' s1 hX;walk_at "go";refine i_isx ?_;walk_at "go";refine i_isxX rfl hX1 A.xf k3 ?_;walk_at "go";refine i_isx ?_;walk_at "go";refine i_isxX rfl hX1 A.xf k4 ?_;walk_at "go";refine i_isx ?_;walk_at "go";refine i_isxX rfl hX1 A.xf k5 ?_;walk_at "go";refine ⟨by show 3<=sizeLine;decide,λp2 np2=>?_⟩;have s2:=same_new np2 (.lst [V.bl (decide (3=i)),.bl (decide (4=i)),.bl (decide (5=i))]);refine i_catL (s2 _ _ upd_same) upd_same (by show 6<=sizeLine;decide) λl nl=>?_;have s3:=same_new nl (.lst ([V.bl (decide (0=i)),.bl (decide (1=i)),.bl (decide (2=i))]++[V.bl (decide (3=i)),.bl (decide (4=i)),.bl (decide (5=i))]));have hX3:=XAt.same' s3 (XAt.same' s2 hX1);walk_at "go";refine i_isx ?_;walk_at "go";refine i_isxX rfl hX3 A.xf k6 ?_;walk_at "go";refine i_isx ?_;walk_at "go";refine i_tyVE ?_;refine i_isxX rfl hX3 A.xf kv ?_;walk_at "go";refine ⟨by show 2<=sizeLine;decide,λp4 np4=>?_⟩;have s4:=same_new np4 (.lst [V.bl (decide (6=i)),.bl (!true)]);refine i_catL (s4 _ _ upd_same) upd_same (by show 8<=sizeLine;decide) λl2 nl2=>?_;refine q l2 _ ((((s1.trans s2).trans s3).trans s4).trans (same_new nl2 _)) (none_of (((s1.trans s2).trans s3).trans s4) nl2) ?_;have e:decide (7=i)=false:=decide_eq_false (Ne.symm i7);rw[upd_same];show _=some (HO.lst [V.bl (decide (0=i)),.bl (decide (1=i)),.bl (decide (2=i)),.bl (decide (3=i)),.bl (decide (4=i)),.bl (decide (5=i)),.bl (decide (6=i)),.bl (decide (7=i))]);rw[e];rfl
structure Aw (K:Fg) (H:Hp) (a:Addr) (ws:List Str) (c:Nat):Prop where
 rt:Rt4 K H a ws
 ru:Ru ws
 c1:97<=c
def sp_law_asked (K:Fg):Sp:=λvs H Q _=>∃(w n:Nat) (a:Addr) (ws:List Str) (c:Nat),vs=[.int (w:Nat),.ref a,sgn c,.int (n:Nat)]/\KF K/\w<5/\Aw K H a ws c/\
 ((Pl K H a ws c (n:Nat)/\∀l v H',Same H H'->H' l=some (.lst [v,.non])->(w=1->v=sgn (ew ws c n))->Q (.ref l) H')\/
  (growB ws c=true/\c - 97<ws.length/\(∀i,i<=400->sz ws i c<=(n:Nat))/\∀l e H',Same H H'->H' l=some (.lst [.non,.ref e])->XAt H' (.ref e) (clsAt K "TooGreat") [("most",.int 400)]->Q (.ref l) H')\/
  (growB ws c=false/\∀l e H',Same H H'->H' l=some (.lst [.non,.ref e])->XAt H' (.ref e) (clsAt K "NoStart") []->Q (.ref l) H'))
def b_law_asked (K:Fg):List (SX K):=
 [set 4 (cst .non),
  set 5 (cst .non),
  tryK [ifS (cmp .Eq (var 0) (cst (.int 0))) [set 4 (call "figures" (Pr.sp_figures K) [var 1,var 2,var 3])] [ifS (cmp .Eq (var 0) (cst (.int 1))) [set 4 (call "letter_at" (sp_letter_at K) [var 1,var 2,var 3])] [ifS (cmp .Eq (var 0) (cst (.int 2))) [set 4 (call "stretch_at" (Pr.sp_stretch_at K) [var 1,var 2,var 3,cst (.int 1)])] [ifS (cmp .Eq (var 0) (cst (.int 3))) [set 4 (call "stretch_at" (Pr.sp_stretch_at K) [var 1,var 2,max2 (cst (.int 0)) (bin .Sub (var 3) (cst (.int 7))),min2 (cst (.int 8)) (bin .Add (var 3) (cst (.int 1)))])] [set 4 (call "counts_to" (sp_counts_to K) [var 1,var 2,var 3])]]]]] "WordError" 6 5,
  ret (lst [var 4,var 5])]
theorem t_law_asked:TT (sp_law_asked K) (b_law_asked K) ["_law_way","_law_rule","_law_start","_law_n","_law_found","_law_kept","_law_error"]:=by
 intro vs H Q E h;obtain ⟨w,n,a,ws,c,rfl,kf,w5,A,h⟩:=h;unfold b_law_asked;walk_at "go";refine i_try ?_;have fin:∀(v:V) (H1:Hp),Same H H1->(w=1->v=sgn (ew ws c n))->(Pl K H a ws c (n:Nat)/\∀l v H',Same H H'->H' l=some (.lst [v,.non])->(w=1->v=sgn (ew ws c n))->Q (.ref l) H')->
   tSs ([ret (lst [var 4,var 5])]:List (SX K)) (λ_=>E) {nx:=λ_ H'=>Q .non H',rt:=Q} [some (.int (w:Nat)),some (.ref a),some (sgn c),some (.int (n:Nat)),some v,some .non,none] H1:=λv H1 s1 hv hq=>by
  walk_at "go";refine ⟨by show 2<=sizeLine;decide,λl nl=>?_⟩;exact hq.2 l v _ (s1.trans (same_new nl _)) upd_same hv
 have e7:max 0 (((n:Nat):Int) - 7)=((n - 7:Nat):Int):=by lia
 have e8:min 8 (((n:Nat):Int)+1)=((min 8 (n+1):Nat):Int):=by lia
 rcases h with ⟨hP,q⟩|⟨hg,hc,hn,q⟩|⟨hg,q⟩
 ·obtain ⟨k,hk,hG,hlt⟩:=hP.turns;walk_at "go";refine br_d (λhw=>?_) λhw=>?_
  ·walk_at "go";refine .inl ⟨a,ws,c,_,k,rfl,hP.rt,hP.ru,hP.gr,hk,hG,hlt,λp rs H1 s1 _ _ hF=>?_⟩;walk_at "go";exact fin (.ref p) H1 s1 (λe=>by lia) ⟨hP,q⟩
  walk_at "go";refine br_d (λhw=>?_) λhw=>?_
  ·walk_at "go";refine .inl ⟨a,ws,c,_,rfl,hP,λH1 s1=>?_⟩;walk_at "go";exact fin _ H1 s1 (λ_=>by rw[Int.toNat_natCast]) ⟨hP,q⟩
  walk_at "go";refine br_d (λhw=>?_) λhw=>?_
  ·walk_at "go";refine .inl ⟨a,ws,c,n,1,rfl,by rw[Nat.add_sub_cancel];exact hP,by decide,by decide,λH1 s1=>?_⟩;walk_at "go";exact fin _ H1 s1 (λe=>by lia) ⟨hP,q⟩
  walk_at "go";refine br_d (λhw=>?_) λhw=>?_
  ·walk_at "go";rw[e7,e8];refine .inl ⟨a,ws,c,n - 7,min 8 (n+1),rfl,by rw[show n - 7+min 8 (n+1) - 1=n by lia];exact hP,by lia,by lia,λH1 s1=>?_⟩;walk_at "go";exact fin _ H1 s1 (λe=>by lia) ⟨hP,q⟩
  walk_at "go";refine .inl ⟨a,ws,c,n,rfl,hP,λr H1 s1 _ hr=>?_⟩;walk_at "go";exact fin (.ref r) H1 s1 (λe=>by lia) ⟨hP,q⟩
 ·walk_at "go";refine br_d (λhw=>?_) λhw=>?_
  ·walk_at "go";refine .inr ⟨a,ws,c,_,rfl,A.rt,A.ru,A.c1,.inr ⟨hg,hc,hn,λH1 dx s1 hd=>?_⟩⟩;refine ⟨kf.exT,λe he=>?_⟩;have s2:=same_new he (.ext (IsX e (.ref (clsAt K "TooGreat")) (some dx)));walk_at "go";refine ⟨by show 2<=sizeLine;decide,λl nl=>?_⟩;have s3:=same_new nl (.lst [V.non,.ref e]);exact q l e _ ((s1.trans s2).trans s3) upd_same ⟨e,rfl,.inr ⟨dx,s3 _ _ upd_same,s3 _ _ (s2 _ _ hd)⟩⟩
  walk_at "go";refine br_d (λhw=>?_) λhw=>?_
  ·walk_at "go";refine .inr ⟨a,ws,c,_,rfl,A.rt,A.ru,A.c1,.inr ⟨hg,hc,hn,λH1 dx s1 hd=>?_⟩⟩;refine ⟨kf.exT,λe he=>?_⟩;have s2:=same_new he (.ext (IsX e (.ref (clsAt K "TooGreat")) (some dx)));walk_at "go";refine ⟨by show 2<=sizeLine;decide,λl nl=>?_⟩;have s3:=same_new nl (.lst [V.non,.ref e]);exact q l e _ ((s1.trans s2).trans s3) upd_same ⟨e,rfl,.inr ⟨dx,s3 _ _ upd_same,s3 _ _ (s2 _ _ hd)⟩⟩
  walk_at "go";refine br_d (λhw=>?_) λhw=>?_
  ·walk_at "go";refine .inr ⟨a,ws,c,n,1,rfl,by decide,A.rt,A.ru,A.c1,.inr ⟨hg,hc,by rw[Nat.add_sub_cancel];exact hn,λH1 dx s1 hd=>?_⟩⟩;refine ⟨kf.exT,λe he=>?_⟩;have s2:=same_new he (.ext (IsX e (.ref (clsAt K "TooGreat")) (some dx)));walk_at "go";refine ⟨by show 2<=sizeLine;decide,λl nl=>?_⟩;have s3:=same_new nl (.lst [V.non,.ref e]);exact q l e _ ((s1.trans s2).trans s3) upd_same ⟨e,rfl,.inr ⟨dx,s3 _ _ upd_same,s3 _ _ (s2 _ _ hd)⟩⟩
  walk_at "go";refine br_d (λhw=>?_) λhw=>?_
  ·walk_at "go";rw[e7,e8];refine .inr ⟨a,ws,c,n - 7,min 8 (n+1),rfl,by lia,A.rt,A.ru,A.c1,.inr ⟨hg,hc,by rw[show n - 7+min 8 (n+1) - 1=n by lia];exact hn,λH1 dx s1 hd=>?_⟩⟩;refine ⟨kf.exT,λe he=>?_⟩;have s2:=same_new he (.ext (IsX e (.ref (clsAt K "TooGreat")) (some dx)));walk_at "go";refine ⟨by show 2<=sizeLine;decide,λl nl=>?_⟩;have s3:=same_new nl (.lst [V.non,.ref e]);exact q l e _ ((s1.trans s2).trans s3) upd_same ⟨e,rfl,.inr ⟨dx,s3 _ _ upd_same,s3 _ _ (s2 _ _ hd)⟩⟩
  walk_at "go";refine .inr ⟨a,ws,c,_,rfl,A.rt,A.ru,A.c1,.inr ⟨hg,hc,hn,λH1 dx s1 hd=>?_⟩⟩;refine ⟨kf.exT,λe he=>?_⟩;have s2:=same_new he (.ext (IsX e (.ref (clsAt K "TooGreat")) (some dx)));walk_at "go";refine ⟨by show 2<=sizeLine;decide,λl nl=>?_⟩;have s3:=same_new nl (.lst [V.non,.ref e]);exact q l e _ ((s1.trans s2).trans s3) upd_same ⟨e,rfl,.inr ⟨dx,s3 _ _ upd_same,s3 _ _ (s2 _ _ hd)⟩⟩
 ·walk_at "go";refine br_d (λhw=>?_) λhw=>?_
  ·walk_at "go";refine .inr ⟨a,ws,c,_,rfl,A.rt,A.ru,A.c1,.inl ⟨hg,λH1 s1=>?_⟩⟩;refine ⟨kf.exS,λe he=>?_⟩;have s2:=same_new he (.ext (IsX e (.ref (clsAt K "NoStart")) none));walk_at "go";refine ⟨by show 2<=sizeLine;decide,λl nl=>?_⟩;have s3:=same_new nl (.lst [V.non,.ref e]);exact q l e _ ((s1.trans s2).trans s3) upd_same ⟨e,rfl,.inl ⟨s3 _ _ upd_same,rfl⟩⟩
  walk_at "go";refine br_d (λhw=>?_) λhw=>?_
  ·walk_at "go";refine .inr ⟨a,ws,c,_,rfl,A.rt,A.ru,A.c1,.inl ⟨hg,λH1 s1=>?_⟩⟩;refine ⟨kf.exS,λe he=>?_⟩;have s2:=same_new he (.ext (IsX e (.ref (clsAt K "NoStart")) none));walk_at "go";refine ⟨by show 2<=sizeLine;decide,λl nl=>?_⟩;have s3:=same_new nl (.lst [V.non,.ref e]);exact q l e _ ((s1.trans s2).trans s3) upd_same ⟨e,rfl,.inl ⟨s3 _ _ upd_same,rfl⟩⟩
  walk_at "go";refine br_d (λhw=>?_) λhw=>?_
  ·walk_at "go";refine .inr ⟨a,ws,c,n,1,rfl,by decide,A.rt,A.ru,A.c1,.inl ⟨hg,λH1 s1=>?_⟩⟩;refine ⟨kf.exS,λe he=>?_⟩;have s2:=same_new he (.ext (IsX e (.ref (clsAt K "NoStart")) none));walk_at "go";refine ⟨by show 2<=sizeLine;decide,λl nl=>?_⟩;have s3:=same_new nl (.lst [V.non,.ref e]);exact q l e _ ((s1.trans s2).trans s3) upd_same ⟨e,rfl,.inl ⟨s3 _ _ upd_same,rfl⟩⟩
  walk_at "go";refine br_d (λhw=>?_) λhw=>?_
  ·walk_at "go";rw[e7,e8];refine .inr ⟨a,ws,c,n - 7,min 8 (n+1),rfl,by lia,A.rt,A.ru,A.c1,.inl ⟨hg,λH1 s1=>?_⟩⟩;refine ⟨kf.exS,λe he=>?_⟩;have s2:=same_new he (.ext (IsX e (.ref (clsAt K "NoStart")) none));walk_at "go";refine ⟨by show 2<=sizeLine;decide,λl nl=>?_⟩;have s3:=same_new nl (.lst [V.non,.ref e]);exact q l e _ ((s1.trans s2).trans s3) upd_same ⟨e,rfl,.inl ⟨s3 _ _ upd_same,rfl⟩⟩
  walk_at "go";refine .inr ⟨a,ws,c,_,rfl,A.rt,A.ru,A.c1,.inl ⟨hg,λH1 s1=>?_⟩⟩;refine ⟨kf.exS,λe he=>?_⟩;have s2:=same_new he (.ext (IsX e (.ref (clsAt K "NoStart")) none));walk_at "go";refine ⟨by show 2<=sizeLine;decide,λl nl=>?_⟩;have s3:=same_new nl (.lst [V.non,.ref e]);exact q l e _ ((s1.trans s2).trans s3) upd_same ⟨e,rfl,.inl ⟨s3 _ _ upd_same,rfl⟩⟩
def sp_law_refused (K:Fg):Sp:=λvs H Q _=>∃(e:Addr) (i:Nat),vs=[.ref e,.int (i:Nat)]/\KF K/\((i=0/\XAt H (.ref e) (clsAt K "TooGreat") [("most",.int 400)])\/(i=1/\XAt H (.ref e) (clsAt K "NoStart") []))/\∀H',Same H H'->Q (.bl true) H'
def b_rf1 (K:Fg):List (SX K):=
 [ifS (cmp .Eq (var 1) (cst (.int 1))) [ret (cst (.bl true))] [],
  ret (andE (isi (xfl (var 0) "most") tyInt) [notE (isi (xfl (var 0) "most") tyBool),cmp .Eq (xfl (var 0) "most") (cst (.int 400))])]
def b_law_refused (K:Fg):List (SX K):=
 ifS (orE (cmp .Is (var 0) (cst .non)) [neB (call "_law_kinds" (sp_law_kinds K) [var 0]) (comp (cmp .Eq (var 0) (var 1)) (nam 0) (iRng (cst (.int 8)) []) ["_law_k"] ["_law_which"] [1])]) [ret (cst (.bl false))] []::b_rf1 K
theorem t_rf0 {Q:VK} {E:XK} {H:Hp} {e:Addr} {i:Nat} {x:Str} {fs:List (Str × V)} (hX:XAt H (.ref e) (clsAt K x) fs) (A:Ask K x i) (i7:i≠7) (q:∀H',Same H H'->tSs (b_rf1 K) (λ_=>E) {nx:=λ_ H'=>Q .non H',rt:=Q} [some (.ref e),some (.int (i:Nat))] H'):
  tSs (b_law_refused K) (λ_=>E) {nx:=λ_ H'=>Q .non H',rt:=Q} [some (.ref e),some (.int (i:Nat))] H:=by
 unfold b_law_refused;walk_at "go";refine brF ?_;walk_at "go";refine j_neB2 ?_;walk_at "go";refine ⟨.ref e,x,fs,i,rfl,hX,A,i7,λl H3 s3 nl hl=>?_⟩;walk_at "go";intro D1 nD1;refine comp_rng (λj=>V.bl (decide (j=i))) nD1 (small (by decide)) (λj H4 Q' hj s4 fin=>?_) λH4 s4 hO=>?_
 ·walk_at "go";have e:decide ((0:Int)+((j:Nat):Int)=((i:Nat):Int))=decide (j=i):=by
   by_cases h:j=i
   ·rw[decide_eq_true h];exact decide_eq_true (by lia)
   ·rw[decide_eq_false h];exact decide_eq_false (by lia)
  rw[e];exact fin H4 (Same.refl _)
 ·refine ⟨l,D1,kb i,rfl,rfl,s4 _ _ hl,?_,false,rfl,?_⟩
  ·unfold kb;rw[List.map_map];exact hO
  ·refine brF ?_;walk_at "go";exact q H4 (s3.trans s4)
theorem t_law_refused:TT (sp_law_refused K) (b_law_refused K) ["_law_kept","_law_which"]:=by
 intro vs H Q E h;obtain ⟨e,i,rfl,kf,h,q⟩:=h;show tSs (b_law_refused K) (λ_=>E) {nx:=λ_ H'=>Q .non H',rt:=Q} [some (.ref e),some (.int (i:Nat))] H;rcases h with ⟨rfl,hX⟩|⟨rfl,hX⟩
 ·refine t_rf0 hX kf.askT (by decide) λH1 s1=>?_;have hX1:=XAt.same' s1 hX;unfold b_rf1;walk_at "go";refine br_d (λz=>absurd z (by decide)) λ_=>?_;walk_at "go";refine i_xfl ?_;walk_at "go";refine ⟨_,_,.int 400,hX1,kf.xfT,kf.ini.fl,rfl,?_⟩;walk_at "go";refine ⟨_,_,TyOf.int 400,kIntI,?_⟩;walk_at "go";refine brT ?_;walk_at "go";refine i_xfl ?_;walk_at "go";refine ⟨_,_,.int 400,hX1,kf.xfT,kf.ini.fl,rfl,?_⟩;walk_at "go";refine ⟨_,_,TyOf.int 400,kIntB,?_⟩;walk_at "go";refine brT ?_;walk_at "go";refine i_xfl ?_;walk_at "go";refine ⟨_,_,.int 400,hX1,kf.xfT,kf.ini.fl,rfl,?_⟩;walk_at "go";exact q H1 s1
 ·refine t_rf0 hX kf.askS (by decide) λH1 s1=>?_;unfold b_rf1;walk_at "go";refine br_d (λ_=>?_) λz=>absurd (show (((1:Nat)):Int)=1 by decide) z;walk_at "go";exact q H1 s1
end
theorem fold_rep (x:Array Nat):∀(k:Nat) (acc:Array Nat),((List.replicate k x).foldl (·++·) acc).toList=acc.toList++(List.replicate k x.toList).flatten
 |0,acc=>by simp
 |k+1,acc=>by
  rw[List.replicate_succ,List.foldl_cons,fold_rep x k,Array.toList_append,List.replicate_succ,List.flatten_cons,List.append_assoc]
theorem flat_one (c:Nat):∀k:Nat,(List.replicate k [c]).flatten=List.replicate k c
 |0=>rfl
 |k+1=>by rw[List.replicate_succ,List.flatten_cons,flat_one c k];rfl
theorem ls_mul1 {x:Str} {c:Nat} (hx:ls x=[c]) {n:Int} (h0:0<=n):ls (Txt.mul x n)=List.replicate n.toNat c:=by
 unfold Txt.mul;by_cases h1:n<1
 ·have e:n=0:=by lia
  subst e;rw[if_pos h1];rfl
 ·rw[if_neg h1];by_cases h2:(n==1 || x.length==0)=true
  ·rw[if_pos h2];rw[Bool.or_eq_true] at h2;rcases h2 with h2|h2
   ·have e:n=1:=by simpa using h2
    subst e;exact hx
   ·have:x.length=0:=by simpa using h2
    rw[<-ls_len,hx] at this;simp at this
  ·rw[if_neg h2];show ((List.replicate n.toNat x.cps).foldl (·++·) #[]).toList=_;rw[fold_rep];have hx':x.cps.toList=[c]:=hx;rw[hx',flat_one];rfl
theorem mul_fit {c:Nat} {n:Int} (h0:0<=n) (h1:n<=100):CMulS ⟨#[c]⟩ n:=⟨h0,by lia,small (by show 1 * n.toNat<=1000000;lia)⟩
structure Sw (ws:List Str) (c o m:Nat):Prop where
 ru:Ru ws
 two:ws.length=2
 wc:wd ws c=c::List.replicate m o
 wo:wd ws o=[o]
 c1:97<=c
 c2:c<99
 o1:97<=o
 o2:o<99
 ne:c≠o
 m1:1<=m
theorem imgL_rep {ws:List Str} {o:Nat} (h:wd ws o=[o]):∀k,imgL ws (List.replicate k o)=List.replicate k o
 |0=>rfl
 |k+1=>by
  rw[List.replicate_succ,imgL_cons,imgL_rep h k,h];rfl
section
variable {ws:List Str} {c o m:Nat}
theorem Sw.wk (h:Sw ws c o m):∀k,wk ws c k=c::List.replicate (m * k) o
 |0=>rfl
 |k+1=>by
  show imgL ws (L2.Na.wk ws c k)=_;rw[h.wk k,imgL_cons,imgL_rep h.wo,h.wc,List.cons_append,List.replicate_append_replicate,Nat.mul_succ,Nat.add_comm]
theorem Sw.sz (h:Sw ws c o m) (k:Nat):sz ws k c=((1+m * k:Nat):Int):=by
 rw[<-wk_len h.ru h.c1 (by have:=h.two;have:=h.c2;lia) k,h.wk k,List.length_cons,List.length_replicate]
 congr 1
 lia
theorem wd_at {x:Nat} {w:Str} (hw:ws[x - 97]?=some w):wd ws x=ls w:=by
 unfold wd;rw[hw];rfl
theorem grow_at {x:Nat} {w:Str} (hx:97<=x) (hw:ws[x - 97]?=some w):growB ws x=(decide (1<w.length)&&decide ((ls w)[0]?=some x)):=by
 unfold growB;rw[hw];show (decide (97<=x)&&_)=_;rw[decide_eq_true hx,Bool.true_and]
theorem Sw.gr (h:Sw ws c o m):growB ws c=true:=by
 have hl:c - 97<ws.length:=by have:=h.two;have:=h.c2;lia
 have hw:ws[c - 97]?=some ws[c - 97]:=List.getElem?_eq_getElem hl;have e:=wd_at hw;rw[h.wc] at e;rw[grow_at h.c1 hw,<-ls_len,<-e];have:=h.m1;rw[decide_eq_true (show 1<(c::List.replicate m o).length by rw[List.length_cons,List.length_replicate];lia),Bool.true_and];exact decide_eq_true rfl
theorem Sw.go (h:Sw ws c o m):growB ws o=false:=by
 have hl:o - 97<ws.length:=by have:=h.two;have:=h.o2;lia
 have hw:ws[o - 97]?=some ws[o - 97]:=List.getElem?_eq_getElem hl;have e:=wd_at hw;rw[h.wo] at e;rw[grow_at h.o1 hw,<-ls_len,<-e];rfl
theorem Sw.gx (h:Sw ws c o m) {x:Nat} (hx:99<=x):growB ws x=false:=by
 unfold growB;rw[List.getElem?_eq_none (by have:=h.two;lia)]
theorem Sw.ew (h:Sw ws c o m) (n:Nat):ew ws c n=if 0<n then o else c:=by
 have c2:c - 97<ws.length:=by have:=h.two;have:=h.c2;lia
 have hl:n<(L2.Na.wk ws c n).length:=by
  rw[h.wk n,List.length_cons,List.length_replicate];have:=Nat.mul_le_mul_right n h.m1;lia
 have e:=wk_get h.ru h.c1 c2 h.gr hl;rw[h.wk n] at e;cases n with
 |zero=>exact (Option.some.inj e).symm
 |succ n=>
  rw[List.getElem?_cons_succ] at e;have:=List.eq_of_mem_replicate (List.mem_of_getElem? e);rw[if_pos (Nat.succ_pos _)];exact this
end
section
variable {K:Fg}
theorem i_int1 {k:Bool} {H:Hp} {Q:VK} (h:Q (.int (if k=true then 1 else 0)) H):rInt1 [.bl k] H Q:=h
def sp_law_good (K:Fg):Sp:=λvs H Q _=>∃(a:Addr) (ws:List Str) (c o m n:Nat) (b:Bool),vs=[.ref a,sgn c,sgn o,.int (n:Nat),.bl b]/\KF K/\Rt4 K H a ws/\Sw ws c o m/\b=decide (400 * m<n)/\∀H',Same H H'->Q (.bl true) H'
def b_gd1 (K:Fg):List (SX K):=
 ifS (andE (notE (var 4)) [cmp .IsNot (ix (var 6) (cst (.int 1))) (cst .non)]) [ret (cst (.bl false))] []::
   [ifS (andE (notE (var 4)) [cmp .Eq (var 5) (cst (.int 1)),cmp .NotEq (ix (var 6) (cst (.int 0))) (ix (lst [var 1,var 2]) (intE (cmp .Gt (var 3) (cst (.int 0)))))]) [ret (cst (.bl false))] []]
def b_law_good (K:Fg):List (SX K):=
 [forS (nam 5) (iRng (cst (.int 5)) []) (set 6 (call "_law_asked" (sp_law_asked K) [var 5,var 0,var 1,var 3])::
   ifS (andE (var 4) [notE (call "_law_refused" (sp_law_refused K) [ix (var 6) (cst (.int 1)),cst (.int 0)])]) [ret (cst (.bl false))] []::b_gd1 K),
  ret (cst (.bl true))]
theorem t_law_good:TT (sp_law_good K) (b_law_good K) ["_law_rule","_law_start","_law_other","_law_n","_law_great","_law_way","_law_told"]:=by
 intro vs H Q E h;obtain ⟨a,ws,c,o,m,n,b,rfl,kf,hR,S,hb,q⟩:=h;have c2:c - 97<ws.length:=by have:=S.two;have:=S.c2;lia
 unfold b_law_good;walk_at "go";refine loop_rngS (λ_ σ=>∃b5 b6,σ=[some (.ref a),some (sgn c),some (sgn o),some (.int (n:Nat)),some (.bl b),b5,b6]) ⟨_,_,rfl⟩ (λw σ H1 hw ⟨b5,b6,e⟩ s1=>?_) λσ H1 ⟨b5,b6,e⟩ s1=>?_
 ·subst e;have e0:(0:Int)+((w:Nat):Int)=((w:Nat):Int):=by lia
  rw[e0];have hw5:w<5:=hw;walk_at "go";have A:Aw K H1 a ws c:=⟨hR.same s1,S.ru,S.c1⟩;cases b with
  |true=>
   have hn:400 * m<n:=of_decide_eq_true hb.symm;refine ⟨w,n,a,ws,c,rfl,kf,hw5,A,.inr (.inl ⟨S.gr,c2,λi hi=>?_,λl e H2 s2 hl hX=>?_⟩)⟩
   ·rw[S.sz i];have:=Nat.mul_le_mul_left m hi;lia
   ·walk_at "go";refine brT ?_;walk_at "go";refine i_ixL (v:=.ref e) (SqL.of hl) rfl ?_;walk_at "go";refine ⟨e,0,rfl,kf,.inl ⟨rfl,hX⟩,λH3 s3=>?_⟩;walk_at "go";refine brF ?_;walk_at "go";unfold b_gd1;walk_at "go";refine brF ?_;refine brF ?_;walk_at "go";refine brF ?_;refine brF ?_;walk_at "go";exact ⟨⟨_,_,rfl⟩,(s1.trans s2).trans s3⟩
  |false=>
   have hn:¬400 * m<n:=of_decide_eq_false hb.symm;have hP:Pl K H1 a ws c (n:Nat):=⟨A.rt,S.ru,S.c1,c2,S.gr,by lia,400,Nat.le_refl _,by rw[S.sz 400];lia⟩;refine ⟨w,n,a,ws,c,rfl,kf,hw5,A,.inl ⟨hP,λl v H2 s2 hl hv=>?_⟩⟩;walk_at "go";refine brF ?_;refine brF ?_;walk_at "go";unfold b_gd1;walk_at "go";refine brT ?_;walk_at "go";refine i_ixL (v:=.non) (SqL.of hl) rfl ?_;walk_at "go";refine brF ?_;walk_at "go";refine brT ?_;walk_at "go";refine br_d (λh1=>?_) λh1=>?_
   ·walk_at "go";have ev:=hv (by lia);subst ev;refine i_ixL (v:=sgn (ew ws c n)) (SqL.of hl) rfl ?_;walk_at "go";refine ⟨by show 2<=sizeLine;decide,λl2 nl2=>?_⟩;have s3:=same_new nl2 (.lst [sgn c,sgn o]);walk_at "go";refine i_int1 ?_;have ex:atI [sgn c,sgn o] (if decide ((0:Int)<((n:Nat):Int))=true then 1 else 0)=some (sgn (ew ws c n)):=by
     rw[S.ew n];by_cases z:0<n
     ·rw[if_pos z,if_pos (decide_eq_true (by lia))];rfl
     ·rw[if_neg z,if_neg (by rw[decide_eq_false (show ¬(0:Int)<((n:Nat):Int) by lia)];exact Bool.false_ne_true)];rfl
    refine i_ixL (v:=sgn (ew ws c n)) (SqL.of upd_same) ex ?_;walk_at "go";refine .inl ⟨rfl,?_⟩;rw[decide_eq_true rfl];refine brF ?_;walk_at "go";exact ⟨⟨_,_,rfl⟩,(s1.trans s2).trans s3⟩
   ·refine brF ?_;walk_at "go";exact ⟨⟨_,_,rfl⟩,s1.trans s2⟩
 ·subst e;walk_at "go";exact q H1 s1
end
theorem ab_at {s:Nat} (h:s<2):atI (Str.ofString "ab").cps.toList ((s:Nat):Int)=some (97+s):=by
 have:s=0\/s=1:=by lia
 rcases this with rfl|rfl
 ·decide+kernel
 ·decide+kernel
theorem ba_at {s:Nat} (h:s<2):atI (Str.ofString "ba").cps.toList ((s:Nat):Int)=some (98 - s):=by
 have:s=0\/s=1:=by lia
 rcases this with rfl|rfl
 ·decide+kernel
 ·decide+kernel
theorem s_c:V.str (Str.ofString "c")=sgn 99:=congrArg V.str (by decide+kernel)
theorem s_d:V.str (Str.ofString "d")=sgn 100:=congrArg V.str (by decide+kernel)
abbrev Wc (c o m:Nat):Str:=⟨#[c]⟩++Txt.mul ⟨#[o]⟩ ((m:Nat):Int)
theorem ls_Wc (c o m:Nat):ls (Wc c o m)=c::List.replicate m o:=by
 rw[ls_app,ls_mul1 (x:=⟨#[o]⟩) (c:=o) rfl (by lia),Int.toNat_natCast];rfl
theorem len_Wc (c o m:Nat):(Wc c o m).length=1+m:=by
 rw[<-ls_len,ls_Wc,List.length_cons,List.length_replicate];lia
theorem isw_Wc {c o m:Nat} (c1:97<=c) (c2:c<99) (o1:97<=o) (o2:o<99):IsW 2 (Wc c o m):=λd hd=>by
 rw[ls_Wc] at hd;rcases List.mem_cons.mp hd with rfl|hd
 ·lia
 ·rw[List.eq_of_mem_replicate hd];lia
theorem sw_a {m:Nat} (m1:1<=m) (m9:m<=9):Sw [Wc 97 98 m,⟨#[98]⟩] 97 98 m:=by
 refine ⟨⟨by show 1<=2;decide,by show 2<=4;decide,λw hw=>?_,λw hw=>?_,λw hw=>?_⟩,rfl,ls_Wc 97 98 m,rfl,by decide,by decide,by decide,by decide,by decide,m1⟩
 all_goals
  simp only [List.mem_cons,List.not_mem_nil,or_false] at hw;rcases hw with rfl|rfl
 ·exact isw_Wc (by decide) (by decide) (by decide) (by decide)
 ·exact IsW.sgn (by decide) (by show 98<97+2;decide)
 ·rw[len_Wc];lia
 ·exact Nat.le_refl 1
 ·rw[len_Wc];lia
 ·show 1<=100;decide
theorem sw_b {m:Nat} (m1:1<=m) (m9:m<=9):Sw [⟨#[97]⟩,Wc 98 97 m] 98 97 m:=by
 refine ⟨⟨by show 1<=2;decide,by show 2<=4;decide,λw hw=>?_,λw hw=>?_,λw hw=>?_⟩,rfl,ls_Wc 98 97 m,rfl,by decide,by decide,by decide,by decide,by decide,m1⟩
 all_goals
  simp only [List.mem_cons,List.not_mem_nil,or_false] at hw;rcases hw with rfl|rfl
 ·exact IsW.sgn (by decide) (by show 97<97+2;decide)
 ·exact isw_Wc (by decide) (by decide) (by decide) (by decide)
 ·exact Nat.le_refl 1
 ·rw[len_Wc];lia
 ·show 1<=100;decide
 ·rw[len_Wc];lia
section
variable {K:Fg}
def sp_law (K:Fg):Sp:=λvs H Q _=>∃(a:Addr) (ns:List Int),vs=[.ref a]/\SqL K H a (ns.map V.int)/\ns.length<=63/\∀H',Q (.bl true) H'
def b_lw3 (K:Fg):List (SX K):=
 [ret (andE (call "_law_good" (sp_law_good K) [var 5,var 3,var 4,var 6,cst (.bl false)]) [call "_law_said" (sp_law_said K) [call "letter_at" (sp_letter_at K) [var 5,var 3,cst (.int 1)],var 4]])]
def b_lw2 (K:Fg):List (SX K):=
 forS (nam 9) (iSeq (lst [var 4,cst (.str "c"),cst (.str "d")])) [forS (nam 10) (iRng (cst (.int 5)) []) [ifS (notE (call "_law_refused" (sp_law_refused K) [ix (call "_law_asked" (sp_law_asked K) [var 10,var 5,var 9,ix (lst [cst (.int 0),var 7]) (bin .Mod (bin .FloorDiv (var 1) (cst (.int 18))) (cst (.int 2)))]) (cst (.int 1)),cst (.int 1)])) [ret (cst (.bl false))] []]]::b_lw3 K
def b_lw1 (K:Fg):List (SX K):=
 set 6 (bin .Mult (cst (.int 400)) (var 2))::
  set 7 (bin .Mod (call "_law_cell" (sp_law_cell K) [var 0,cst (.int 1)]) (bin .Pow (cst (.int 10)) (cst (.int 30))))::
  forS (nam 8) (iSeq (lst [var 6,bin .Add (var 6) (cst (.int 1)),bin .Sub (var 6) (cst (.int 1)),var 7,bin .Mod (var 7) (bin .Mult (cst (.int 2)) (var 6)),cst (.int 0),bin .Add (bin .Add (var 6) (cst (.int 1))) (bin .Mod (var 7) (cst (.int 50)))])) [ifS (notE (call "_law_good" (sp_law_good K) [var 5,var 3,var 4,var 8,cmp .Gt (var 8) (var 6)])) [ret (cst (.bl false))] []]::b_lw2 K
def b_law (K:Fg):List (SX K):=
 set 1 (call "_law_mixed" (sp_law_mixed K) [call "_law_cell" (sp_law_cell K) [var 0,cst (.int 0)],cst (.int 0)])::
  set 2 (bin .Add (cst (.int 1)) (bin .Mod (var 1) (cst (.int 9))))::
  set 3 (ix (cst (.str "ab")) (bin .Mod (bin .FloorDiv (var 1) (cst (.int 9))) (cst (.int 2))))::
  set 4 (ix (cst (.str "ba")) (bin .Mod (bin .FloorDiv (var 1) (cst (.int 9))) (cst (.int 2))))::
  set 5 (tup [bin .Add (var 3) (bin .Mult (var 4) (var 2)),var 4])::
  ifS (cmp .Eq (var 3) (cst (.str "b"))) [set 5 (tup [var 4,bin .Add (var 3) (bin .Mult (var 4) (var 2))])] []::b_lw1 K
theorem l_law:∀vs H Q E,sp_law K vs H Q E->vs.length=1:=by
 rintro vs H Q E ⟨_,_,rfl,_⟩;rfl
section
variable {Q:VK} {E:XK} {a:Addr} {ws:List Str} {c o m f:Nat} {v0 v8 v9 v10:Option V} {v:Int}
theorem t_lw3 {H:Hp} (kf:KF K) (hR:Rt4 K H a ws) (S:Sw ws c o m) (m9:m<=9) {v1 v2 v7:Option V} (q:∀H',Q (.bl true) H'):
  tSs (b_lw3 K) (λ_=>E) {nx:=λ_ H'=>Q .non H',rt:=Q} [v0,v1,v2,some (sgn c),some (sgn o),some (.ref a),some (.int ((400 * m:Nat):Int)),v7,v8,v9,v10] H:=by
 have c2:c - 97<ws.length:=by have:=S.two;have:=S.c2;lia
 unfold b_lw3;walk_at "go";refine ⟨a,ws,c,o,m,400 * m,false,rfl,kf,hR,S,(decide_eq_false (Nat.lt_irrefl _)).symm,λH1 s1=>?_⟩;walk_at "go";refine brT ?_;walk_at "go";have hR1:=hR.same s1;refine .inl ⟨a,ws,c,_,rfl,⟨hR1,S.ru,S.c1,c2,S.gr,by lia,400,Nat.le_refl _,by rw[S.sz 400];have:=S.m1;lia⟩,λH2 s2=>?_⟩;walk_at "go";have e:ew ws c (1:Int).toNat=o:=by
  rw[show (1:Int).toNat=1 from rfl,S.ew 1];rfl
 rw[e];refine ⟨_,_,rfl,?_⟩;rw[decide_eq_true rfl];exact q H2
theorem t_lw2 {H:Hp} (kf:KF K) (hR:Rt4 K H a ws) (S:Sw ws c o m) (m9:m<=9) {v2:Option V} (q:∀H',Q (.bl true) H'):
  tSs (b_lw2 K) (λ_=>E) {nx:=λ_ H'=>Q .non H',rt:=Q} [v0,some (.int v),v2,some (sgn c),some (sgn o),some (.ref a),some (.int ((400 * m:Nat):Int)),some (.int (f:Nat)),v8,none,none] H:=by
 unfold b_lw2;walk_at "go";rw[s_c,s_d];refine ⟨by show 3<=sizeLine;decide,λl nl=>?_⟩;have s1:=same_new nl (.lst [sgn o,sgn 99,sgn 100]);refine i_itL (SqL.of upd_same) ?_;refine loop_lst (SqL.of upd_same) (λ_ σ=>∃b9 b10,σ=[v0,some (.int v),v2,some (sgn c),some (sgn o),some (.ref a),some (.int ((400 * m:Nat):Int)),some (.int (f:Nat)),v8,b9,b10]) ⟨_,_,rfl⟩ (λi x σ H1 hx ⟨b9,b10,e⟩ s2=>?_) λσ H1 ⟨b9,b10,e⟩ s2=>?_
 ·subst e;obtain ⟨d,rfl,d1,dg⟩:∃d,x=sgn d/\97<=d/\growB ws d=false:=by
   match i,hx with
   |0,hx=>cases hx;exact ⟨o,rfl,S.o1,S.go⟩
   |1,hx=>cases hx;exact ⟨99,rfl,by decide,S.gx (by decide)⟩
   |2,hx=>cases hx;exact ⟨100,rfl,by decide,S.gx (by decide)⟩
   |i+3,hx=>cases hx
  refine i_nam ?_;walk_at "go";refine loop_rngS (λ_ σ=>∃b10,σ=[v0,some (.int v),v2,some (sgn c),some (sgn o),some (.ref a),some (.int ((400 * m:Nat):Int)),some (.int (f:Nat)),v8,some (sgn d),b10]) ⟨_,rfl⟩ (λw σ H2 hw ⟨b10,e⟩ s3=>?_) λσ H2 ⟨b10,e⟩ s3=>?_
  ·subst e;have e0:(0:Int)+((w:Nat):Int)=((w:Nat):Int):=by lia
   rw[e0];walk_at "go";refine ⟨by show 2<=sizeLine;decide,λl2 nl2=>?_⟩;have s4:=same_new nl2 (.lst [V.int 0,.int (f:Nat)]);walk_at "go";obtain ⟨n,hn⟩:∃n:Nat,atI [V.int 0,.int (f:Nat)] (v / 18 % 2)=some (.int (n:Nat)):=by
    have:v / 18 % 2=0\/v / 18 % 2=1:=by lia
    rcases this with e|e
    ·rw[e];exact ⟨0,rfl⟩
    ·rw[e];exact ⟨f,rfl⟩
   refine i_ixL (SqL.of upd_same) hn ?_;walk_at "go";have hs:=(s1.trans s2).trans (s3.trans s4);refine ⟨w,n,a,ws,d,rfl,kf,hw,⟨hR.same hs,S.ru,d1⟩,.inr (.inr ⟨dg,λl3 e3 H4 s5 hl3 hX=>?_⟩)⟩;walk_at "go";refine i_ixL (v:=.ref e3) (SqL.of hl3) rfl ?_;walk_at "go";refine ⟨e3,1,rfl,kf,.inr ⟨rfl,hX⟩,λH5 s6=>?_⟩;walk_at "go";refine brF ?_;walk_at "go";exact ⟨⟨_,rfl⟩,(s3.trans s4).trans (s5.trans s6)⟩
  ·subst e;exact ⟨⟨_,_,rfl⟩,s2.trans s3⟩
 ·subst e;walk_at "go";exact t_lw3 kf (hR.same (s1.trans s2)) S m9 q
theorem t_lw1 {H:Hp} {b:Addr} {ns:List Int} (kf:KF K) (hS:SqL K H b (ns.map V.int)) (hR:Rt4 K H a ws) (S:Sw ws c o m) (m9:m<=9) (q:∀H',Q (.bl true) H'):
  tSs (b_lw1 K) (λ_=>E) {nx:=λ_ H'=>Q .non H',rt:=Q} [some (.ref b),some (.int v),some (.int (m:Nat)),some (sgn c),some (sgn o),some (.ref a),none,none,none,none,none] H:=by
 have m1:=S.m1;unfold b_lw1;walk_at "go";rw[show (400:Int) * ((m:Nat):Int)=((400 * m:Nat):Int) by lia];refine ⟨b,ns,1,rfl,hS,by decide,λv1=>?_⟩;walk_at "go";refine i_pow ⟨by decide,by decide,by decide⟩ ?_;refine i_mod (by decide) ?_;walk_at "go";obtain ⟨f,hf⟩:∃f:Nat,v1 % 10 ^ (30:Int).toNat=(f:Int):=⟨_,(Int.toNat_of_nonneg (Int.emod_nonneg _ (by decide))).symm⟩;rw[hf];refine ⟨by show 7<=sizeLine;decide,λl nl=>?_⟩;have hx7:∀x∈[V.int ((400 * m:Nat):Int),.int (((400 * m:Nat):Int)+1),.int (((400 * m:Nat):Int) - 1),.int (f:Nat),.int (((f:Nat):Int) % (2 * ((400 * m:Nat):Int))),.int 0,.int (((400 * m:Nat):Int)+1+((f:Nat):Int) % 50)],∃n:Nat,x=V.int (n:Nat):=λx hx=>by
  have k0:=Int.emod_nonneg ((f:Nat):Int) (show 2 * ((400 * m:Nat):Int)≠0 by lia);simp only [List.mem_cons,List.not_mem_nil,or_false] at hx;rcases hx with rfl|rfl|rfl|rfl|rfl|rfl|rfl
  ·exact ⟨_,rfl⟩
  ·exact ⟨400 * m+1,rfl⟩
  ·exact ⟨400 * m - 1,congrArg V.int (by lia)⟩
  ·exact ⟨_,rfl⟩
  ·exact ⟨_,congrArg V.int (Int.toNat_of_nonneg k0).symm⟩
  ·exact ⟨0,rfl⟩
  ·exact ⟨(((400 * m:Nat):Int)+1+((f:Nat):Int) % 50).toNat,congrArg V.int (by lia)⟩
 revert hx7 nl;generalize [V.int ((400 * m:Nat):Int),.int (((400 * m:Nat):Int)+1),.int (((400 * m:Nat):Int) - 1),.int (f:Nat),.int (((f:Nat):Int) % (2 * ((400 * m:Nat):Int))),.int 0,.int (((400 * m:Nat):Int)+1+((f:Nat):Int) % 50)]=xs;intro nl hx7;have s1:=same_new nl (.lst xs);refine i_itL (SqL.of upd_same) ?_;refine loop_lst (SqL.of upd_same) (λ_ σ=>∃b8,σ=[some (.ref b),some (.int v),some (.int (m:Nat)),some (sgn c),some (sgn o),some (.ref a),some (.int ((400 * m:Nat):Int)),some (.int (f:Nat)),b8,none,none]) ⟨_,rfl⟩ (λi x σ H1 hx ⟨b8,e⟩ s2=>?_) λσ H1 ⟨b8,e⟩ s2=>?_
 ·subst e;obtain ⟨n,rfl⟩:=hx7 x (List.mem_of_getElem? hx);refine i_nam ?_;walk_at "go";refine ⟨a,ws,c,o,m,n,_,rfl,kf,hR.same (s1.trans s2),S,decide_eq_decide.mpr (by lia),λH2 s3=>?_⟩;walk_at "go";refine brF ?_;walk_at "go";exact ⟨⟨_,rfl⟩,s2.trans s3⟩
 ·subst e;walk_at "go";exact t_lw2 kf (hR.same (s1.trans s2)) S m9 q
end
theorem t_law (kf:KF K):TT (sp_law K) (b_law K) ["_law_script","_law_number","_law_many","_law_one","_law_other","_law_rule","_law_most","_law_far","_law_n","_law_start","_law_way"]:=by
 intro vs H Q E h;obtain ⟨b,ns,rfl,hS,h63,q⟩:=h;unfold b_law;walk_at "go";refine ⟨b,ns,0,rfl,hS,by decide,λv1=>?_⟩;walk_at "go";refine ⟨v1,0,rfl,by decide,by decide,λv v0 _=>?_⟩;walk_at "go";obtain ⟨m,hm,m1,m9⟩:∃m:Nat,1+v % 9=(m:Int)/\1<=m/\m<=9:=⟨(1+v % 9).toNat,by lia,by lia,by lia⟩;rw[hm];obtain ⟨s,hs,s2⟩:∃s:Nat,v / 9 % 2=(s:Int)/\s<2:=⟨(v / 9 % 2).toNat,by lia,by lia⟩;rw[hs];refine i_ixS (small (by rw[show (Str.ofString "ab").length=2 by decide+kernel];decide)) (ab_at s2) ?_;walk_at "go";rw[hs];refine i_ixS (small (by rw[show (Str.ofString "ba").length=2 by decide+kernel];decide)) (ba_at s2) ?_;walk_at "go";have hml:(Txt.mul ⟨#[98 - s]⟩ ((m:Nat):Int)).length=m:=by
  rw[<-ls_len,ls_mul1 (x:=⟨#[98 - s]⟩) (c:=98 - s) rfl (by lia),Int.toNat_natCast,List.length_replicate]
 refine i_mulS (z:=⟨#[98 - s]⟩) (mul_fit (by lia) (by lia)) ?_;refine i_addS (y:=⟨#[97+s]⟩) (small (by rw[hml];show 1+m<=1000000;lia)) ?_;walk_at "go";refine ⟨by show 2<=sizeLine;decide,λt nt=>?_⟩;have s1:=same_new nt (.tup [V.str (Wc (97+s) (98 - s) m),sgn (98 - s)]);walk_at "go";have:s=0\/s=1:=by lia
 rcases this with rfl|rfl
 ·have ne:¬(⟨#[97+0]⟩:Str)=Str.ofString "b":=by decide+kernel
  refine .inl ⟨rfl,?_⟩;rw[decide_eq_false (show ¬sgn (97+0)=V.str (Str.ofString "b") from λe=>ne (V.str.inj e))];refine brF ?_;walk_at "go";exact t_lw1 (ws:=[Wc 97 98 m,⟨#[98]⟩]) (c:=97) (o:=98) kf (s1.seq hS) ⟨SqT.of upd_same,by show 1<=2;decide,by show 2<=4;decide⟩ (sw_a m1 m9) m9 q
 ·have ye:(⟨#[97+1]⟩:Str)=Str.ofString "b":=by decide+kernel
  refine .inl ⟨rfl,?_⟩;rw[decide_eq_true (show sgn (97+1)=V.str (Str.ofString "b") from congrArg V.str ye)];refine brT ?_;walk_at "go";refine i_mulS (z:=⟨#[97]⟩) (mul_fit (by lia) (by lia)) ?_;refine i_addS (y:=⟨#[98]⟩) (small (by rw[hml];show 1+m<=1000000;lia)) ?_;walk_at "go";refine ⟨by show 2<=sizeLine;decide,λt2 nt2=>?_⟩;have s3:=same_new nt2 (.tup [sgn 97,V.str (Wc 98 97 m)]);walk_at "go";exact t_lw1 (ws:=[⟨#[97]⟩,Wc 98 97 m]) (c:=98) (o:=97) kf ((s1.trans s3).seq hS) ⟨SqT.of upd_same,by show 1<=2;decide,by show 2<=4;decide⟩ (sw_b m1 m9) m9 q
theorem s_law (K:Fg) (H:Hp) (a:Addr) (ns:List Int) (kf:KF K) (h:ns.length<=63) (hS:SqL K H a (ns.map V.int)):sp_law K [.ref a] H (λv _=>v=.bl true) λ_ _ _=>False:=⟨a,ns,rfl,hS,h,λ_=>rfl⟩
end
end L2.Na.K26
namespace L2.Na
open PySem PySem.Spec PyProof.Rows L2 L2.L3
def OkD (st:Stmt) (n:Nat) (N:List Str) (b:∀K:Fg,List (SX K)):Prop:=FnScope N (N.take n) (defScope st)/\(∀K,mSs (b K) ⟨N,(defScope st).names,true⟩ (defBody st)=true)/\
 ∀(x y:Str) (kV doc pm:Value) (an:Option Addr) (cdv ct:Value) (us:List Value),us.length=(N.take n).length->bindArgs (PySem.W.fnOf x y (defArgs st) (defBody st) (defScope st) .none kV doc pm an cdv ct) ⟨us,[]⟩=pure ((N.take n).zip us)
theorem bz1 {f:FuncData} {ps:List Str} (h:∀a:Value,bindArgs f ⟨[a],[]⟩=pure (ps.zip [a])) (us:List Value) (hl:us.length=1):bindArgs f ⟨us,[]⟩=pure (ps.zip us):=by1 (Z:=λus=>bindArgs f ⟨us,[]⟩=pure (ps.zip us)) h us hl
theorem bz2 {f:FuncData} {ps:List Str} (h:∀a b:Value,bindArgs f ⟨[a,b],[]⟩=pure (ps.zip [a,b])) (us:List Value) (hl:us.length=2):bindArgs f ⟨us,[]⟩=pure (ps.zip us):=by2 (Z:=λus=>bindArgs f ⟨us,[]⟩=pure (ps.zip us)) h us hl
theorem bz3 {f:FuncData} {ps:List Str} (h:∀a b c:Value,bindArgs f ⟨[a,b,c],[]⟩=pure (ps.zip [a,b,c])) (us:List Value) (hl:us.length=3):bindArgs f ⟨us,[]⟩=pure (ps.zip us):=by3 (Z:=λus=>bindArgs f ⟨us,[]⟩=pure (ps.zip us)) h us hl
theorem bz4 {f:FuncData} {ps:List Str} (h:∀a b c d:Value,bindArgs f ⟨[a,b,c,d],[]⟩=pure (ps.zip [a,b,c,d])) (us:List Value) (hl:us.length=4):bindArgs f ⟨us,[]⟩=pure (ps.zip us):=by4 (Z:=λus=>bindArgs f ⟨us,[]⟩=pure (ps.zip us)) h us hl
theorem bz5 {f:FuncData} {ps:List Str} (h:∀a b c d e:Value,bindArgs f ⟨[a,b,c,d,e],[]⟩=pure (ps.zip [a,b,c,d,e])) (us:List Value) (hl:us.length=5):bindArgs f ⟨us,[]⟩=pure (ps.zip us):=by5 (Z:=λus=>bindArgs f ⟨us,[]⟩=pure (ps.zip us)) h us hl
section
variable {K:Fg} {P:Program} {w:World} {h base:Heap} {mg:Str->Option Value}
theorem dn (X:K.In h) (G:h.Ns mainGlobals mg) (bl:∀x∈blts,mg x=none) (k:Nat) {x:Str} {st:Stmt} {sp:Sp} {n:Nat} {N:List Str} {b:∀K:Fg,List (SX K)} (F:FD K x st) (o:OkD st n N b) (len:∀vs H Q E,sp vs H Q E->vs.length=(N.take n).length)
  (t:∀vs H Q E,sp vs H Q E->tSs (b K) (λ_=>E) {nx:=λ_ H'=>Q .non H',rt:=Q} (start N vs) H) (hq:∀A,Room k A->qSs (b K) ⟨P,w,K,mg,base,A⟩):DnK P w K mg base (k+1) x sp:=
 dn_of F X G bl (b K) o.1 (o.2.1 K) (o.2.2 x x) len t hq
theorem DnK.a {j k:Nat} {x:Str} {sp:Sp} {A:Around} (D:DnK P w K mg base j x sp) (hr:Room k A) (h:j<=k:=by decide):FnAt ⟨P,w,K,mg,base,A⟩ x sp:=D.at hr h
end
end L2.Na
local macro_rules | `(tactic| walk_at "l") => `(tactic| (intro vs H Q E h; first | (obtain ⟨_, e, _⟩ := h; subst e; rfl) | (obtain ⟨_, _, e, _⟩ := h; subst e; rfl) | (obtain ⟨_, _, _, e, _⟩ := h; subst e; rfl) | (obtain ⟨_, _, _, _, e, _⟩ := h; subst e; rfl) | (obtain ⟨_, _, _, _, _, e, _⟩ := h; subst e; rfl) | (obtain ⟨_, _, _, _, _, _, e, _⟩ := h; subst e; rfl) | (obtain ⟨_, _, _, _, _, _, _, e, _⟩ := h; subst e; rfl) | (obtain ⟨_, _, _, _, _, _, _, _, e, _⟩ := h; subst e; rfl) | (obtain ⟨_, _, _, _, _, _, _, _, _, e, _⟩ := h; subst e; rfl) | (obtain ⟨_, _, _, _, _, _, _, _, _, _, e, _⟩ := h; subst e; rfl) | (obtain ⟨_, _, _, _, _, _, _, _, _, _, _, e, _⟩ := h; subst e; rfl)))
local macro_rules | `(tactic| walk_at "o") => `(tactic| (refine ⟨⟨rfl, rfl, rfl, by decide +kernel, rfl, by decide +kernel, by decide +kernel⟩, fun K => by kernel_rfl, ?_⟩; intro x y kV doc pm an cdv ct us hl; first | exact L2.Na.bz1 (fun _ => by exact rfl) us hl | exact L2.Na.bz2 (fun _ _ => by exact rfl) us hl | exact L2.Na.bz3 (fun _ _ _ => by exact rfl) us hl | exact L2.Na.bz4 (fun _ _ _ _ => by exact rfl) us hl | exact L2.Na.bz5 (fun _ _ _ _ _ => by exact rfl) us hl | exact L2.Na.bz6 (fun _ _ _ _ _ _ => by exact rfl) us hl))
local macro_rules | `(tactic| walk_at "f") => `(tactic| first
 | (refine' L2.Na.fd_mk ?a1 ?a2 ?a3 ?a4; (case a1 => k_is); (case a2 => k_is); (case a3 => k_is); (case a4 => k_is))
 | (refine' L2.Na.gc_str ?a1; (case a1 => k_is))
 | (refine' L2.Na.gc_int ?a1; (case a1 => k_is))
 | (refine' L2.Na.iniO_mk ?a1 ?a2 ?a3 ?a4 ?a5 ?a6 ?a7 ?a8; (case a1 => k_is); (case a2 => k_is); (case a3 => k_is); (case a4 => k_is); (case a5 => k_is); (case a6 => k_is); (case a7 => k_is); (case a8 => k_is)))
local macro_rules | `(tactic| walk_at "e") => `(tactic| first | kernel_rfl | k_is)
local macro_rules | `(tactic| walk_at "k") => `(tactic| first
 | kernel_rfl
 | k_is
 | (show PySem.W.findIn _ _ _ = _; walk_at "e")
 | exact ⟨by walk_at "e", by walk_at "e"⟩
 | (refine' L2.Na.IniK.mk ?i1 ?i2 ?i3 ?i4 ?i5; (case i1 => walk_at "e"); (case i2 => walk_at "e"); (case i3 => walk_at "e"); (case i4 => walk_at "e"); (case i5 => (refine' L2.Na.ini_mk ?z1 ?z2 ?z3 ?z4 ?z5 ?z6 ?z7 ?z8; (case z1 => k_is); (case z2 => k_is); (case z3 => k_is); (case z4 => k_is); (case z5 => exact ⟨rfl, rfl, rfl⟩); (case z6 => exact ⟨rfl, rfl⟩); (case z7 => exact ⟨rfl, rfl, by decide⟩); (case z8 => exact fun s u v X => PySem.W.kp_binds X (fun S => by kernel_rfl)))))
 | (refine' L2.Na.XF.mk ?x1 ?x2 ?x3 ?x4 ?x5 ?x6; (case x1 => walk_at "e"); (case x2 => walk_at "e"); (case x3 => walk_at "e"); (case x4 => walk_at "e"); (case x5 => intro od; walk_at "e"); (case x6 => walk_at "e"))
 | (refine' L2.Cls.mk ?x1 ?x2 ?x3 ?x4; (case x1 => walk_at "e"); (case x2 => walk_at "e"); (case x3 => walk_at "e"); (case x4 => walk_at "e")))
local macro_rules | `(tactic| walk_at "q") => `(tactic| (intro A hr; repeat' first | exact trivial | exact L2.Na.DnK.a (by assumption) hr | refine ⟨?_, ?_⟩))
namespace L2.Na.K26
open PySem PySem.Spec PyProof.Rows L2 L2.L3 L2.Na
def top (i:Nat):Stmt:=PySem.Challenge.pw_neveragain_k26_places_refused.main.body.getD i (.Pass ⟨0,0,0,0⟩)
theorem o_law_mixed:OkD (top 34) 2 ["_law_cell_here","_law_k","_law_number"] b_law_mixed:=by walk_at "o"
theorem o_law_cell:OkD (top 33) 2 ["_law_script","_law_k"] b_law_cell:=by walk_at "o"
theorem o_letters:OkD (top 2) 1 ["many"] b_letters:=by walk_at "o"
theorem o_counts:OkD (top 4) 2 ["word","many"] b_counts:=by walk_at "o"
theorem o_table:OkD (top 5) 1 ["rule"] b_table:=by walk_at "o"
theorem o_words_by_letter:OkD (top 23) 1 ["rule"] b_words_by_letter:=by walk_at "o"
theorem o_grows:OkD (top 26) 2 ["rule","start","word"] b_grows:=by walk_at "o"
theorem o_signs_behind:OkD (top 10) 2 ["row","before"] b_signs_behind:=by walk_at "o"
theorem o_sizes_once:OkD (top 9) 2 ["rows","before"] b_sizes_once:=by walk_at "o"
theorem o_sizes:OkD (top 7) 2 ["rule","times","rows","made","turn"] b_sizes:=by walk_at "o"
theorem o_sizes_until:OkD (top 31) 3 ["rule","start","n","rows","at","made"] L2.Na.Pr.b_sizes_until:=by walk_at "o"
theorem o_figures:OkD (top 27) 3 ["rule","start","n","rows","word_for","pairs","letter","left","row","size_of","word","step"] L2.Na.Pr.b_figures:=by walk_at "o"
theorem o_letter_at:OkD (top 28) 3 ["rule","start","n","pairs"] b_letter_at:=by walk_at "o"
theorem o_put:OkD (top 22) 2 ["rule","word","word_for"] b_put:=by walk_at "o"
theorem o_stretch_at:OkD (top 29) 4 ["rule","start","n","many","last","steps","ahead","window","step"] L2.Na.Pr.b_stretch_at:=by walk_at "o"
theorem o_added:OkD (top 11) 2 ["one","other"] b_added:=by walk_at "o"
theorem o_counts_once:OkD (top 8) 2 ["rows","numbers","made","number","row"] b_counts_once:=by walk_at "o"
theorem o_counts_behind:OkD (top 6) 3 ["rule","numbers","times","rows","made","turn"] b_counts_behind:=by walk_at "o"
theorem o_counts_to:OkD (top 30) 3 ["rule","start","n","word_for","made","word","step","letter"] b_counts_to:=by walk_at "o"
theorem o_law_asked:OkD (top 36) 4 ["_law_way","_law_rule","_law_start","_law_n","_law_found","_law_kept","_law_error"] b_law_asked:=by walk_at "o"
theorem o_law_kinds:OkD (top 37) 1 ["_law_error","_law_some"] b_law_kinds:=by walk_at "o"
theorem o_law_refused:OkD (top 38) 2 ["_law_kept","_law_which"] b_law_refused:=by walk_at "o"
theorem o_law_good:OkD (top 39) 5 ["_law_rule","_law_start","_law_other","_law_n","_law_great","_law_way","_law_told"] b_law_good:=by walk_at "o"
theorem o_law_said:OkD (top 35) 2 ["_law_found","_law_due"] b_law_said:=by walk_at "o"
theorem sc_law:FnScope ["_law_script","_law_number","_law_many","_law_one","_law_other","_law_rule","_law_most","_law_far","_law_n","_law_start","_law_way"] ["_law_script"] (defScope (top 40)):=⟨rfl,rfl,rfl,by decide+kernel,rfl,by decide+kernel,by decide+kernel⟩
theorem m_law (K:Fg):mSs (b_law K) ⟨["_law_script","_law_number","_law_many","_law_one","_law_other","_law_rule","_law_most","_law_far","_law_n","_law_start","_law_way"],(defScope (top 40)).names,true⟩ (defBody (top 40))=true:=by kernel_rfl
theorem all_q {K:Fg} {P:Program} {w:World} {h base:Heap} {mg:Str->Option Value} (X:K.In h) (G:h.Ns mainGlobals mg) (bl:∀x∈blts,mg x=none) (F_law_mixed:FD K "_law_mixed" (top 34)) (F_law_cell:FD K "_law_cell" (top 33)) (F_letters:FD K "letters" (top 2)) (F_counts:FD K "counts" (top 4)) (F_table:FD K "table" (top 5)) (F_words_by_letter:FD K "words_by_letter" (top 23)) (F_grows:FD K "grows" (top 26)) (F_signs_behind:FD K "signs_behind" (top 10)) (F_sizes_once:FD K "sizes_once" (top 9)) (F_sizes:FD K "sizes" (top 7)) (F_sizes_until:FD K "sizes_until" (top 31)) (F_figures:FD K "figures" (top 27)) (F_letter_at:FD K "letter_at" (top 28)) (F_put:FD K "put" (top 22)) (F_stretch_at:FD K "stretch_at" (top 29)) (F_added:FD K "added" (top 11)) (F_counts_once:FD K "counts_once" (top 8)) (F_counts_behind:FD K "counts_behind" (top 6)) (F_counts_to:FD K "counts_to" (top 30)) (F_law_asked:FD K "_law_asked" (top 36)) (F_law_kinds:FD K "_law_kinds" (top 37)) (F_law_refused:FD K "_law_refused" (top 38)) (F_law_good:FD K "_law_good" (top 39)) (F_law_said:FD K "_law_said" (top 35)) (k_LETTERS:GC K "LETTERS" (.str "abcd")) (k_MOST_TURNS:GC K "MOST_TURNS" (.int 400)) (kf:KF K) (A:Around) (hr:Room 9 A):qSs (b_law K) ⟨P,w,K,mg,base,A⟩:=by
 have d:=@dn K P w h base mg X G bl;have r_NoPiece:=PySem.W.mg_of X G kf.n_NoPiece;have r_NoRow:=PySem.W.mg_of X G kf.n_NoRow;have r_NoRule:=PySem.W.mg_of X G kf.n_NoRule;have r_NoShares:=PySem.W.mg_of X G kf.n_NoShares;have r_NoStart:=PySem.W.mg_of X G kf.n_NoStart;have r_NotMixed:=PySem.W.mg_of X G kf.n_NotMixed;have r_TooGreat:=PySem.W.mg_of X G kf.n_TooGreat;have r_WordError:=PySem.W.mg_of X G kf.n_WordError;have D_law_mixed:=d 0 F_law_mixed o_law_mixed (by walk_at "l") t_law_mixed (by walk_at "q");have D_law_cell:=d 0 F_law_cell o_law_cell (by walk_at "l") t_law_cell (by walk_at "q");have D_letters:=d 0 F_letters o_letters (by walk_at "l") t_letters λA hr=>⟨⟨(gc_at X G k_LETTERS),tI,tI⟩,tI⟩;have D_counts:=d 1 F_counts o_counts (by walk_at "l") t_counts (by walk_at "q");have D_table:=d 2 F_table o_table (by walk_at "l") t_table (by walk_at "q");have D_words_by_letter:=d 1 F_words_by_letter o_words_by_letter (by walk_at "l") t_words_by_letter (by walk_at "q");have D_grows:=d 2 F_grows o_grows (by walk_at "l") t_grows (by walk_at "q");have D_signs_behind:=d 0 F_signs_behind o_signs_behind (by walk_at "l") t_signs_behind (by walk_at "q");have D_sizes_once:=d 1 F_sizes_once o_sizes_once (by walk_at "l") t_sizes_once (by walk_at "q");have D_sizes:=d 3 F_sizes o_sizes (by walk_at "l") t_sizes (by walk_at "q");have D_sizes_until:=d 4 F_sizes_until o_sizes_until L2.Na.Pr.l_sizes_until L2.Na.Pr.t_sizes_until λA hr=>⟨⟨⟨D_grows.a hr,⟨tI,⟨tI,tI⟩⟩⟩,⟨⟨⟨r_NoStart,kf.e_NoStart⟩,⟨tI,tI⟩⟩,tI⟩,tI⟩,⟨⟨D_table.a hr,⟨tI,tI⟩⟩,⟨⟨⟨D_letters.a hr,⟨⟨tI,tI⟩,tI⟩⟩,⟨tI,tI⟩⟩,⟨⟨⟨D_sizes.a hr,⟨tI,⟨tI,tI⟩⟩⟩,tI⟩,⟨⟨⟨⟨⟨tI,tI⟩,tI⟩,tI⟩,⟨⟨⟨⟨tI,tI⟩,(gc_at X G k_MOST_TURNS)⟩,⟨⟨⟨r_TooGreat,kf.ini,_,hr⟩,(gc_at X G k_MOST_TURNS)⟩,tI⟩,tI⟩,⟨⟨tI,⟨⟨D_sizes_once.a hr,⟨tI,⟨⟨tI,tI⟩,tI⟩⟩⟩,tI⟩⟩,tI⟩⟩⟩,⟨tI,tI⟩⟩⟩⟩⟩⟩;have D_figures:=d 5 F_figures o_figures L2.Na.Pr.l_figures L2.Na.Pr.t_figures (by walk_at "q");have D_letter_at:=d 6 F_letter_at o_letter_at l_letter_at t_letter_at (by walk_at "q");have D_put:=d 2 F_put o_put (by walk_at "l") t_put (by walk_at "q");have D_stretch_at:=d 6 F_stretch_at o_stretch_at L2.Na.Pr.l_stretch_at L2.Na.Pr.t_stretch_at (by walk_at "q");have D_added:=d 0 F_added o_added (by walk_at "l") t_added (by walk_at "q");have D_counts_once:=d 1 F_counts_once o_counts_once (by walk_at "l") t_counts_once (by walk_at "q");have D_counts_behind:=d 3 F_counts_behind o_counts_behind (by walk_at "l") t_counts_behind (by walk_at "q");have D_counts_to:=d 6 F_counts_to o_counts_to l_counts_to t_counts_to (by walk_at "q");have D_law_asked:=d 7 F_law_asked o_law_asked (by walk_at "l") t_law_asked λA hr=>⟨tI,⟨tI,⟨⟨r_WordError,⟨⟨⟨tI,tI⟩,⟨⟨D_figures.a hr,⟨tI,⟨tI,⟨tI,tI⟩⟩⟩⟩,tI⟩,⟨⟨⟨tI,tI⟩,⟨⟨D_letter_at.a hr,⟨tI,⟨tI,⟨tI,tI⟩⟩⟩⟩,tI⟩,⟨⟨⟨tI,tI⟩,⟨⟨D_stretch_at.a hr,⟨tI,⟨tI,⟨tI,⟨tI,tI⟩⟩⟩⟩⟩,tI⟩,⟨⟨⟨tI,tI⟩,⟨⟨D_stretch_at.a hr,⟨tI,⟨tI,⟨⟨tI,⟨⟨tI,tI⟩,tI⟩⟩,⟨⟨tI,⟨⟨tI,tI⟩,tI⟩⟩,tI⟩⟩⟩⟩⟩,tI⟩,⟨⟨D_counts_to.a hr,⟨tI,⟨tI,⟨tI,tI⟩⟩⟩⟩,tI⟩⟩,tI⟩⟩,tI⟩⟩,tI⟩⟩,tI⟩⟩,⟨⟨tI,⟨tI,tI⟩⟩,tI⟩⟩⟩⟩;have D_law_kinds:=d 0 F_law_kinds o_law_kinds (by walk_at "l") t_law_kinds λA hr=>⟨⟨⟨tI,⟨⟨_,r_TooGreat,rfl⟩,tI⟩⟩,⟨⟨tI,⟨⟨_,r_NoStart,rfl⟩,tI⟩⟩,⟨⟨tI,⟨⟨_,r_NoRule,rfl⟩,tI⟩⟩,tI⟩⟩⟩,⟨⟨tI,⟨⟨tI,⟨⟨_,r_NoPiece,rfl⟩,tI⟩⟩,⟨⟨tI,⟨⟨_,r_NotMixed,rfl⟩,tI⟩⟩,⟨⟨tI,⟨⟨_,r_NoShares,rfl⟩,tI⟩⟩,tI⟩⟩⟩⟩,⟨⟨tI,⟨⟨tI,⟨⟨_,r_NoRow,rfl⟩,tI⟩⟩,⟨⟨tI,⟨tI,tI⟩⟩,tI⟩⟩⟩,tI⟩⟩⟩;have D_law_refused:=d 1 F_law_refused o_law_refused (by walk_at "l") t_law_refused (by walk_at "q");have D_law_good:=d 8 F_law_good o_law_good (by walk_at "l") t_law_good (by walk_at "q");have D_law_said:=d 0 F_law_said o_law_said (by walk_at "l") t_law_said (by walk_at "q");exact ⟨⟨D_law_mixed.a hr,⟨⟨D_law_cell.a hr,⟨tI,⟨tI,tI⟩⟩⟩,⟨tI,tI⟩⟩⟩,⟨⟨tI,⟨tI,tI⟩⟩,⟨⟨tI,⟨⟨tI,tI⟩,tI⟩⟩,⟨⟨tI,⟨⟨tI,tI⟩,tI⟩⟩,⟨⟨⟨tI,⟨tI,tI⟩⟩,⟨tI,tI⟩⟩,⟨⟨⟨tI,tI⟩,⟨⟨tI,⟨⟨tI,⟨tI,tI⟩⟩,tI⟩⟩,tI⟩,tI⟩,⟨⟨tI,tI⟩,⟨⟨⟨D_law_cell.a hr,⟨tI,⟨tI,tI⟩⟩⟩,⟨tI,tI⟩⟩,⟨⟨⟨tI,⟨⟨tI,tI⟩,⟨⟨tI,tI⟩,⟨tI,⟨⟨tI,⟨tI,tI⟩⟩,⟨tI,⟨⟨⟨tI,tI⟩,⟨tI,tI⟩⟩,tI⟩⟩⟩⟩⟩⟩⟩,⟨⟨⟨D_law_good.a hr,⟨tI,⟨tI,⟨tI,⟨tI,⟨⟨tI,tI⟩,tI⟩⟩⟩⟩⟩⟩,⟨tI,tI⟩,tI⟩,tI⟩⟩,⟨⟨⟨tI,⟨tI,⟨tI,tI⟩⟩⟩,⟨⟨⟨tI,tI⟩,⟨⟨⟨D_law_refused.a hr,⟨⟨⟨D_law_asked.a hr,⟨tI,⟨tI,⟨tI,⟨⟨⟨tI,⟨tI,tI⟩⟩,⟨⟨tI,tI⟩,tI⟩⟩,tI⟩⟩⟩⟩⟩,tI⟩,⟨tI,tI⟩⟩⟩,⟨tI,tI⟩,tI⟩,tI⟩⟩,tI⟩⟩,⟨⟨⟨D_law_good.a hr,⟨tI,⟨tI,⟨tI,⟨tI,⟨tI,tI⟩⟩⟩⟩⟩⟩,⟨⟨D_law_said.a hr,⟨⟨D_letter_at.a hr,⟨tI,⟨tI,⟨tI,tI⟩⟩⟩⟩,⟨tI,tI⟩⟩⟩,tI⟩⟩,tI⟩⟩⟩⟩⟩⟩⟩⟩⟩⟩⟩
end L2.Na.K26
namespace L2.Hd
open PySem PySem.Calls PyProof.Rows PySem.W
open L2 (defArgs defBody defScope)
open L2.Na.K26 (top)
theorem q0:(PySem.Challenge.pw_neveragain_k26_places_refused.main.body.length==41)=true:=by k_qdec
noncomputable def env (p:Program):Env:={scope:=p.main.scope,locals:=mainNs,globals:=mainNs,cells:=[],code:=.ref 13,frame:=some 14}
noncomputable def cd (p:Program):Code:=.body (behindTheImports p) (env p)
noncomputable abbrev p0:Pos:=⟨0,0,0,0⟩
noncomputable abbrev p1:Pos:=⟨158,0,175,132⟩
noncomputable abbrev B:List Frame:=[topFrame p0]
noncomputable def toT (s:Shared):SharedT:=⟨(s.heap.objs.toList.foldl (λ(a:BT × Nat) o=>(a.1.ins a.2 o,a.2+1)) (BT.nil,0)).1,s.heap.objs.size,s.heap.life,s.gens,s.drawn,s.toks,s.os⟩
noncomputable def prA (x:Option (Shared × Thread)):SharedT:=match x with
 |some (s,_)=>toT s
 |none=>⟨BT.nil,0,{},#[],boot_drawn,0,{}⟩
noncomputable def prS (x:Option (Flow × SharedT × Code × Pos)):SharedT:=match x with
 |some (_,s,_)=>s
 |none=>⟨BT.nil,0,{},#[],boot_drawn,0,{}⟩
noncomputable abbrev ann:Option Value:=some (.ref 6)
noncomputable def goA (tb:String->Option Builtin) (p:Program) (w:World) (os:OsState):Option (Shared × Thread):=topGo tb p w 11 ann 12 ⟨boot_heap w.params,#[],boot_drawn,boot_toks,os⟩ (topStub p)
noncomputable def goB (tb:String->Option Builtin) (p:Program) (w:World) (os:OsState):Option (Flow × SharedT × Code × Pos):=segRunT tb p w 11 ann 1 2545 (prA (goA tb p w os)) (piecesOf (behindTheImports p) (env p) (cd p) p0 B)
theorem l1:(λ(w:World) (os:OsState)=>goA treeTable PySem.Challenge.pw_neveragain_k26_places_refused w os)=λw os=>some ((prA (goA treeTable PySem.Challenge.pw_neveragain_k26_places_refused w os)).abs,Thread.mk (denote treeTable (cd PySem.Challenge.pw_neveragain_k26_places_refused)) (cd PySem.Challenge.pw_neveragain_k26_places_refused) p0 B):=by
 unfold goA;rw[PySem.W.Fast.te15667345088766844465,PySem.W.Fast.te14364793385576792824,PySem.W.Fast.te11892475500146522536,PySem.W.Fast.te12220694444558173264];kernel_rfl
theorem l2:(λ(w:World) (os:OsState)=>segRun treeTable PySem.Challenge.pw_neveragain_k26_places_refused w 11 ann 1 1 (prA (goA treeTable PySem.Challenge.pw_neveragain_k26_places_refused w os)).abs (blockOf (behindTheImports PySem.Challenge.pw_neveragain_k26_places_refused) (env PySem.Challenge.pw_neveragain_k26_places_refused) (cd PySem.Challenge.pw_neveragain_k26_places_refused) p0 B))=λw os=>some (.next,(prA (goA treeTable PySem.Challenge.pw_neveragain_k26_places_refused w os)).abs,cd PySem.Challenge.pw_neveragain_k26_places_refused,p0):=by
 unfold goA;rw[PySem.W.Fast.te15667345088766844465,PySem.W.Fast.te14364793385576792824,PySem.W.Fast.te14374325043358763698,PySem.W.Fast.te12220694444558173264];kernel_rfl
theorem l3:(λ(w:World) (os:OsState)=>goB treeTable PySem.Challenge.pw_neveragain_k26_places_refused w os)=λw os=>some (.next,prS (goB treeTable PySem.Challenge.pw_neveragain_k26_places_refused w os),cd PySem.Challenge.pw_neveragain_k26_places_refused,p1):=by
 unfold goB goA;rw[PySem.W.Fast.te10110043849684766642,PySem.W.Fast.te15667345088766844465,PySem.W.Fast.te14364793385576792824,PySem.W.Fast.te12220694444558173264];kernel_rfl
theorem l4:(λ(w:World) (os:OsState)=>topRun treeTable PySem.Challenge.pw_neveragain_k26_places_refused w 11 ann 2 (prS (goB treeTable PySem.Challenge.pw_neveragain_k26_places_refused w os)).abs ⟨doneF .next,cd PySem.Challenge.pw_neveragain_k26_places_refused,p1,B⟩)=λw os=>some (prS (goB treeTable PySem.Challenge.pw_neveragain_k26_places_refused w os)).abs:=by
 unfold goB goA;rw[PySem.W.Fast.te14082659384304107361,PySem.W.Fast.te10110043849684766642,PySem.W.Fast.te15667345088766844465,PySem.W.Fast.te14364793385576792824,PySem.W.Fast.te12220694444558173264];kernel_rfl
noncomputable def dk (P:Params) (x:Str) (n:Nat) (v:Value):DictEntry:={hash:=PyData.keyHash P x,key:=.str x n,val:=v}
noncomputable def tp (a:Array Value):Obj:={cls:=.type "tuple",data:=.seq a}
noncomputable def fo (x:Str) (i:Nat) (m:Value) (c:Nat):Obj:={cls:=.type "function",data:=.func {name:=x,qualname:=x,params:=defArgs (top i),body:=.stmts (defBody (top i)),scope:=defScope (top i),globals:=3,closure:=[],defaults:=.none,kwdefaults:=.none,pyModule:=m,code:=.ref c}}
noncomputable def cx (x y:Str) (n:Nat) (L a:Int) (r:Nat) (u v:Value) (z t:Nat):Obj:={cls:=.type "code",data:=.fields #[.str x n,.str y (n+1),.str "/claim/cut.py" (n+2),.int L 0,.int a 0,.int 0 0,.int 0 0,.int 3 0,.ref r,.bool true,.int 181 0,.ref (r+1),.none,u,v,.ref z,.int t 0,.int L 0,.str "/claim/cut.py" (t+1)]}
noncomputable def cb (x y:Str) (n:Nat) (L a:Int) (r t:Nat):Obj:=cx x y n L a r .none .none (r+2) t
noncomputable def co (x y:Str) (n:Nat) (L a:Int) (r t:Nat):Obj:=cx x y n L a r (.ref (r+2)) (.ref (r+3)) (r+4) t
noncomputable def K:Params->Frag:=λP=>
 (nat_lit 2,{cls:=.none,data:=Data.dict #[]})::
 (nat_lit 3,{cls:=.type "dict",data:=Data.dict #[dk P "__name__" 165 (.str "law_neveragain_k26_places_refused" 488),dk P "__doc__" 166 .none,dk P "__package__" 167 .none,dk P "__loader__" 168 (.builtin "__main__.__loader__#opaque"),dk P "__spec__" 169 .none,dk P "__annotations__" 170 (.ref 6),dk P "__builtins__" 171 (.ref 4),dk P "__file__" 173 (.str "/claim/cut.py" 172),dk P "__cached__" 174 .none,dk P "LETTERS" 190 (.str "abcd" 189),dk P "letters" 197 (.ref 21),dk P "counts" 205 (.ref 26),dk P "table" 211 (.ref 31),dk P "counts_behind" 223 (.ref 38),dk P "sizes" 234 (.ref 45),dk P "counts_once" 240 (.ref 50),dk P "sizes_once" 246 (.ref 55),dk P "signs_behind" 252 (.ref 60),dk P "added" 258 (.ref 65),dk P "WordError" 278 (.ref 75),dk P "NoRule" 294 (.ref 88),dk P "NoStart" 310 (.ref 100),dk P "NoPiece" 326 (.ref 112),dk P "NotMixed" 342 (.ref 124),dk P "NoShares" 358 (.ref 136),dk P "NoRow" 374 (.ref 148),dk P "TooGreat" 399 (.ref 168),dk P "put" 407 (.ref 175),dk P "words_by_letter" 414 (.ref 182),dk P "MOST_TURNS" 418 (.int 400 417),dk P "grows" 427 (.ref 189),dk P "figures" 445 (.ref 196),dk P "letter_at" 455 (.ref 203),dk P "stretch_at" 461 (.ref 208),dk P "counts_to" 475 (.ref 215),dk P "sizes_until" 487 (.ref 222),dk P "_law_cell" 497 (.ref 229),dk P "_law_mixed" 506 (.ref 236),dk P "_law_said" 514 (.ref 243),dk P "_law_asked" 527 (.ref 250),dk P "_law_kinds" 535 (.ref 257),dk P "_law_refused" 541 (.ref 262),dk P "_law_good" 554 (.ref 269),dk P "law" 571 (.ref 276)] 44})::
 (nat_lit 15,tp #[])::
 (nat_lit 17,tp #[.str "many" 194])::
 (nat_lit 18,tp #[])::
 (nat_lit 20,co "letters" "letters" 191 3 1 15 195)::
 (nat_lit 21,fo "letters" 2 (.str "neveragain.words" 187) 20)::
 (nat_lit 22,tp #[])::
 (nat_lit 25,cb "counts" "counts" 200 6 2 22 203)::
 (nat_lit 26,fo "counts" 4 (.str "neveragain.counts" 198) 25)::
 (nat_lit 27,tp #[])::
 (nat_lit 30,cb "table" "table" 206 8 1 27 209)::
 (nat_lit 31,fo "table" 5 (.str "neveragain.counts" 198) 30)::
 (nat_lit 32,tp #[])::
 (nat_lit 34,tp #[.str "rule" 215,.str "numbers" 216,.str "times" 217,.str "rows" 218,.str "made" 219,.str "turn" 220])::
 (nat_lit 35,tp #[])::
 (nat_lit 37,co "counts_behind" "counts_behind" 212 10 3 32 221)::
 (nat_lit 38,fo "counts_behind" 6 (.str "neveragain.counts" 198) 37)::
 (nat_lit 39,tp #[])::
 (nat_lit 41,tp #[.str "rule" 227,.str "times" 228,.str "rows" 229,.str "made" 230,.str "turn" 231])::
 (nat_lit 42,tp #[])::
 (nat_lit 44,co "sizes" "sizes" 224 16 2 39 232)::
 (nat_lit 45,fo "sizes" 7 (.str "neveragain.counts" 198) 44)::
 (nat_lit 46,tp #[])::
 (nat_lit 49,cb "counts_once" "counts_once" 235 22 2 46 238)::
 (nat_lit 50,fo "counts_once" 8 (.str "neveragain.counts" 198) 49)::
 (nat_lit 51,tp #[])::
 (nat_lit 54,cb "sizes_once" "sizes_once" 241 27 2 51 244)::
 (nat_lit 55,fo "sizes_once" 9 (.str "neveragain.counts" 198) 54)::
 (nat_lit 56,tp #[])::
 (nat_lit 59,cb "signs_behind" "signs_behind" 247 29 2 56 250)::
 (nat_lit 60,fo "signs_behind" 10 (.str "neveragain.counts" 198) 59)::
 (nat_lit 61,tp #[])::
 (nat_lit 64,cb "added" "added" 253 31 2 61 256)::
 (nat_lit 65,fo "added" 11 (.str "neveragain.counts" 198) 64)::
 (nat_lit 66,tp #[.type "ValueError"])::
 (nat_lit 73,tp #[])::
 (nat_lit 74,{cls:=.type "dict",data:=Data.dict #[dk P "__module__" 268 (.str "neveragain.errors" 259),dk P "__firstlineno__" 272 (.int 34 271),dk P "__static_attributes__" 273 (.ref 73),dk P "__weakref__" 275 (.ref 76),dk P "__doc__" 276 .none] 3})::
 (nat_lit 75,{cls:=.type "type",data:=Data.cls {name:="WordError",bases:=[.type "ValueError"],mro:=[.ref 75,.type "ValueError",.type "Exception",.type "BaseException",.type "object"],ns:=74,qualname:="WordError",subclasses:=[.ref 88,.ref 100,.ref 112,.ref 124,.ref 136,.ref 148,.ref 168]},slots:=#[some (.ref 66),none,some (.str "WordError" 261),some (.str "WordError" 269),some (.builtin "ValueError.__new__"),some (.bool true)]})::
 (nat_lit 76,{cls:=.type "getset_descriptor",data:=Data.fields #[.str "__weakref__" 274,.ref 75,.builtin "ExceptionGroup.__weakref__",.none]})::
 (nat_lit 79,tp #[.ref 75])::
 (nat_lit 86,tp #[])::
 (nat_lit 87,{cls:=.type "dict",data:=Data.dict #[dk P "__module__" 286 (.str "neveragain.errors" 259),dk P "__firstlineno__" 290 (.int 36 289),dk P "__static_attributes__" 291 (.ref 86),dk P "__doc__" 292 .none] 2})::
 (nat_lit 88,{cls:=.type "type",data:=Data.cls {name:="NoRule",bases:=[.ref 75],mro:=[.ref 88,.ref 75,.type "ValueError",.type "Exception",.type "BaseException",.type "object"],ns:=87,qualname:="NoRule"},slots:=#[some (.ref 79),none,some (.str "NoRule" 279),some (.str "NoRule" 287),some (.builtin "ValueError.__new__"),some (.bool true)]})::
 (nat_lit 91,tp #[.ref 75])::
 (nat_lit 98,tp #[])::
 (nat_lit 99,{cls:=.type "dict",data:=Data.dict #[dk P "__module__" 302 (.str "neveragain.errors" 259),dk P "__firstlineno__" 306 (.int 38 305),dk P "__static_attributes__" 307 (.ref 98),dk P "__doc__" 308 .none] 2})::
 (nat_lit 100,{cls:=.type "type",data:=Data.cls {name:="NoStart",bases:=[.ref 75],mro:=[.ref 100,.ref 75,.type "ValueError",.type "Exception",.type "BaseException",.type "object"],ns:=99,qualname:="NoStart"},slots:=#[some (.ref 91),none,some (.str "NoStart" 295),some (.str "NoStart" 303),some (.builtin "ValueError.__new__"),some (.bool true)]})::
 (nat_lit 103,tp #[.ref 75])::
 (nat_lit 110,tp #[])::
 (nat_lit 111,{cls:=.type "dict",data:=Data.dict #[dk P "__module__" 318 (.str "neveragain.errors" 259),dk P "__firstlineno__" 322 (.int 40 321),dk P "__static_attributes__" 323 (.ref 110),dk P "__doc__" 324 .none] 2})::
 (nat_lit 112,{cls:=.type "type",data:=Data.cls {name:="NoPiece",bases:=[.ref 75],mro:=[.ref 112,.ref 75,.type "ValueError",.type "Exception",.type "BaseException",.type "object"],ns:=111,qualname:="NoPiece"},slots:=#[some (.ref 103),none,some (.str "NoPiece" 311),some (.str "NoPiece" 319),some (.builtin "ValueError.__new__"),some (.bool true)]})::
 (nat_lit 115,tp #[.ref 75])::
 (nat_lit 122,tp #[])::
 (nat_lit 123,{cls:=.type "dict",data:=Data.dict #[dk P "__module__" 334 (.str "neveragain.errors" 259),dk P "__firstlineno__" 338 (.int 42 337),dk P "__static_attributes__" 339 (.ref 122),dk P "__doc__" 340 .none] 2})::
 (nat_lit 124,{cls:=.type "type",data:=Data.cls {name:="NotMixed",bases:=[.ref 75],mro:=[.ref 124,.ref 75,.type "ValueError",.type "Exception",.type "BaseException",.type "object"],ns:=123,qualname:="NotMixed"},slots:=#[some (.ref 115),none,some (.str "NotMixed" 327),some (.str "NotMixed" 335),some (.builtin "ValueError.__new__"),some (.bool true)]})::
 (nat_lit 127,tp #[.ref 75])::
 (nat_lit 134,tp #[])::
 (nat_lit 135,{cls:=.type "dict",data:=Data.dict #[dk P "__module__" 350 (.str "neveragain.errors" 259),dk P "__firstlineno__" 354 (.int 44 353),dk P "__static_attributes__" 355 (.ref 134),dk P "__doc__" 356 .none] 2})::
 (nat_lit 136,{cls:=.type "type",data:=Data.cls {name:="NoShares",bases:=[.ref 75],mro:=[.ref 136,.ref 75,.type "ValueError",.type "Exception",.type "BaseException",.type "object"],ns:=135,qualname:="NoShares"},slots:=#[some (.ref 127),none,some (.str "NoShares" 343),some (.str "NoShares" 351),some (.builtin "ValueError.__new__"),some (.bool true)]})::
 (nat_lit 139,tp #[.ref 75])::
 (nat_lit 146,tp #[])::
 (nat_lit 147,{cls:=.type "dict",data:=Data.dict #[dk P "__module__" 366 (.str "neveragain.errors" 259),dk P "__firstlineno__" 370 (.int 46 369),dk P "__static_attributes__" 371 (.ref 146),dk P "__doc__" 372 .none] 2})::
 (nat_lit 148,{cls:=.type "type",data:=Data.cls {name:="NoRow",bases:=[.ref 75],mro:=[.ref 148,.ref 75,.type "ValueError",.type "Exception",.type "BaseException",.type "object"],ns:=147,qualname:="NoRow"},slots:=#[some (.ref 139),none,some (.str "NoRow" 359),some (.str "NoRow" 367),some (.builtin "ValueError.__new__"),some (.bool true)]})::
 (nat_lit 151,tp #[.ref 75])::
 (nat_lit 158,tp #[.none])::
 (nat_lit 159,tp #[])::
 (nat_lit 161,tp #[.str "self" 390,.str "most" 391])::
 (nat_lit 162,tp #[])::
 (nat_lit 164,co "__init__" "TooGreat.__init__" 387 50 2 159 392)::
 (nat_lit 165,{cls:=.type "function",data:=Data.func {name:="__init__",qualname:="TooGreat.__init__",params:={posonlyargs:=[],args:=[{arg:="self",annotation:=none,pos:={line:=50,col:=17,endLine:=50,endCol:=21}},{arg:="most",annotation:=none,pos:={line:=50,col:=23,endLine:=50,endCol:=27}}],vararg:=none,kwonlyargs:=[],kw_defaults:=[],kwarg:=none,defaults:=[Expr.Constant Const.none 0 {line:=50,col:=28,endLine:=50,endCol:=32}]},body:=FuncBody.stmts [Stmt.Assign [(Expr.Name "self" {line:=51,col:=8,endLine:=51,endCol:=12}).Attribute "most" {line:=51,col:=8,endLine:=51,endCol:=17}] (Expr.Name "most" {line:=51,col:=20,endLine:=51,endCol:=24}) {line:=51,col:=8,endLine:=51,endCol:=24}],scope:={kind:=ScopeKind.function,names:=[("self",NameKind.local),("most",NameKind.local)],isGenerator:=false,isCoroutine:=false},globals:=3,closure:=[],defaults:=.ref 158,kwdefaults:=.none,pyModule:=.str "neveragain.errors" 259,code:=.ref 164}})::
 (nat_lit 166,tp #[.str "most" 395])::
 (nat_lit 167,{cls:=.type "dict",data:=Data.dict #[dk P "__module__" 382 (.str "neveragain.errors" 259),dk P "__firstlineno__" 386 (.int 48 385),dk P "__init__" 394 (.ref 165),dk P "__static_attributes__" 396 (.ref 166),dk P "__doc__" 397 .none] 2})::
 (nat_lit 168,{cls:=.type "type",data:=Data.cls {name:="TooGreat",bases:=[.ref 75],mro:=[.ref 168,.ref 75,.type "ValueError",.type "Exception",.type "BaseException",.type "object"],ns:=167,qualname:="TooGreat"},slots:=#[some (.ref 151),none,some (.str "TooGreat" 375),some (.str "TooGreat" 383),some (.builtin "ValueError.__new__"),some (.bool true)]})::
 (nat_lit 171,tp #[])::
 (nat_lit 174,cb "put" "put" 402 53 2 171 405)::
 (nat_lit 175,fo "put" 22 (.str "neveragain.rules" 400) 174)::
 (nat_lit 176,tp #[])::
 (nat_lit 178,tp #[.str "rule" 411])::
 (nat_lit 179,tp #[])::
 (nat_lit 181,co "words_by_letter" "words_by_letter" 408 56 1 176 412)::
 (nat_lit 182,fo "words_by_letter" 23 (.str "neveragain.rules" 400) 181)::
 (nat_lit 183,tp #[])::
 (nat_lit 185,tp #[.str "rule" 422,.str "start" 423,.str "word" 424])::
 (nat_lit 186,tp #[])::
 (nat_lit 188,co "grows" "grows" 419 60 2 183 425)::
 (nat_lit 189,fo "grows" 26 (.str "neveragain.places" 415) 188)::
 (nat_lit 190,tp #[])::
 (nat_lit 192,tp #[.str "rule" 431,.str "start" 432,.str "n" 433,.str "rows" 434,.str "word_for" 435,.str "pairs" 436,.str "letter" 437,.str "left" 438,.str "row" 439,.str "size_of" 440,.str "word" 441,.str "step" 442])::
 (nat_lit 193,tp #[])::
 (nat_lit 195,co "figures" "figures" 428 63 3 190 443)::
 (nat_lit 196,fo "figures" 27 (.str "neveragain.places" 415) 195)::
 (nat_lit 197,tp #[])::
 (nat_lit 199,tp #[.str "rule" 449,.str "start" 450,.str "n" 451,.str "pairs" 452])::
 (nat_lit 200,tp #[])::
 (nat_lit 202,co "letter_at" "letter_at" 446 79 3 197 453)::
 (nat_lit 203,fo "letter_at" 28 (.str "neveragain.places" 415) 202)::
 (nat_lit 204,tp #[])::
 (nat_lit 207,cb "stretch_at" "stretch_at" 456 84 4 204 459)::
 (nat_lit 208,fo "stretch_at" 29 (.str "neveragain.places" 415) 207)::
 (nat_lit 209,tp #[])::
 (nat_lit 211,tp #[.str "rule" 465,.str "start" 466,.str "n" 467,.str "word_for" 468,.str "made" 469,.str "word" 470,.str "step" 471,.str "letter" 472])::
 (nat_lit 212,tp #[])::
 (nat_lit 214,co "counts_to" "counts_to" 462 92 3 209 473)::
 (nat_lit 215,fo "counts_to" 30 (.str "neveragain.places" 415) 214)::
 (nat_lit 216,tp #[])::
 (nat_lit 218,tp #[.str "rule" 479,.str "start" 480,.str "n" 481,.str "rows" 482,.str "at" 483,.str "made" 484])::
 (nat_lit 219,tp #[])::
 (nat_lit 221,co "sizes_until" "sizes_until" 476 100 3 216 485)::
 (nat_lit 222,fo "sizes_until" 31 (.str "neveragain.places" 415) 221)::
 (nat_lit 223,tp #[])::
 (nat_lit 225,tp #[.str "_law_script" 493,.str "_law_k" 494])::
 (nat_lit 226,tp #[])::
 (nat_lit 228,co "_law_cell" "_law_cell" 490 112 2 223 495)::
 (nat_lit 229,fo "_law_cell" 33 (.str "law_neveragain_k26_places_refused" 488) 228)::
 (nat_lit 230,tp #[])::
 (nat_lit 232,tp #[.str "_law_cell_here" 501,.str "_law_k" 502,.str "_law_number" 503])::
 (nat_lit 233,tp #[])::
 (nat_lit 235,co "_law_mixed" "_law_mixed" 498 116 2 230 504)::
 (nat_lit 236,fo "_law_mixed" 34 (.str "law_neveragain_k26_places_refused" 488) 235)::
 (nat_lit 237,tp #[])::
 (nat_lit 239,tp #[.str "_law_found" 510,.str "_law_due" 511])::
 (nat_lit 240,tp #[])::
 (nat_lit 242,co "_law_said" "_law_said" 507 119 2 237 512)::
 (nat_lit 243,fo "_law_said" 35 (.str "law_neveragain_k26_places_refused" 488) 242)::
 (nat_lit 244,tp #[])::
 (nat_lit 246,tp #[.str "_law_way" 518,.str "_law_rule" 519,.str "_law_start" 520,.str "_law_n" 521,.str "_law_found" 522,.str "_law_kept" 523,.str "_law_error" 524])::
 (nat_lit 247,tp #[])::
 (nat_lit 249,co "_law_asked" "_law_asked" 515 121 4 244 525)::
 (nat_lit 250,fo "_law_asked" 36 (.str "law_neveragain_k26_places_refused" 488) 249)::
 (nat_lit 251,tp #[])::
 (nat_lit 253,tp #[.str "_law_error" 531,.str "_law_some" 532])::
 (nat_lit 254,tp #[])::
 (nat_lit 256,co "_law_kinds" "_law_kinds" 528 138 1 251 533)::
 (nat_lit 257,fo "_law_kinds" 37 (.str "law_neveragain_k26_places_refused" 488) 256)::
 (nat_lit 258,tp #[])::
 (nat_lit 261,cb "_law_refused" "_law_refused" 536 142 2 258 539)::
 (nat_lit 262,fo "_law_refused" 38 (.str "law_neveragain_k26_places_refused" 488) 261)::
 (nat_lit 263,tp #[])::
 (nat_lit 265,tp #[.str "_law_rule" 545,.str "_law_start" 546,.str "_law_other" 547,.str "_law_n" 548,.str "_law_great" 549,.str "_law_way" 550,.str "_law_told" 551])::
 (nat_lit 266,tp #[])::
 (nat_lit 268,co "_law_good" "_law_good" 542 148 5 263 552)::
 (nat_lit 269,fo "_law_good" 39 (.str "law_neveragain_k26_places_refused" 488) 268)::
 (nat_lit 270,tp #[])::
 (nat_lit 272,tp #[.str "_law_script" 558,.str "_law_number" 559,.str "_law_many" 560,.str "_law_one" 561,.str "_law_other" 562,.str "_law_rule" 563,.str "_law_most" 564,.str "_law_far" 565,.str "_law_n" 566,.str "_law_start" 567,.str "_law_way" 568])::
 (nat_lit 273,tp #[])::
 (nat_lit 275,co "law" "law" 555 158 1 270 569)::
 (nat_lit 276,fo "law" 40 (.str "law_neveragain_k26_places_refused" 488) 275)::[]
noncomputable def ads:List Addr:=[2,3,15,17,18,20,21,22,25,26,27,30,31,32,34,35,37,38,39,41,42,44,45,46,49,50,51,54,55,56,59,60,61,64,65,66,73,74,75,76,79,86,87,88,91,98,99,100,103,110,111,112,115,122,123,124,127,134,135,136,139,146,147,148,151,158,159,161,162,164,165,166,167,168,171,174,175,176,178,179,181,182,183,185,186,188,189,190,192,193,195,196,197,199,200,202,203,204,207,208,209,211,212,214,215,216,218,219,221,222,223,225,226,228,229,230,232,233,235,236,237,239,240,242,243,244,246,247,249,250,251,253,254,256,257,258,261,262,263,265,266,268,269,270,272,273,275,276]
noncomputable def q (p:Program):Program:=view p [1,2,4,5,6,7,8,9,10,11,13,14,15,16,17,18,19,20,22,23,25,26,27,28,29,30,31,33,34,35,36,37,38,39,40]
noncomputable abbrev fin (w:World) (os:OsState):Shared:=(prS (goB treeTable PySem.Challenge.pw_neveragain_k26_places_refused w os)).abs
theorem run (w:World) (os:OsState):topRun treeTable PySem.Challenge.pw_neveragain_k26_places_refused w 11 ann (12+(1+(2545+2))) ⟨boot_heap w.params,#[],boot_drawn,boot_toks,os⟩ (topStub PySem.Challenge.pw_neveragain_k26_places_refused)=some (fin w os):=by
 refine go_top (congrFun (congrFun l1 w) os) (piece_block (congrFun (congrFun l2 w) os) ?_);have h:=piece_app (rest:=[]) (segRun_of (congrFun (congrFun l3 w) os)) (piece_nil (congrFun (congrFun l4 w) os));rw[List.append_nil] at h;exact h
theorem k1:(λ(w:World) (os:OsState)=>ads.map (fin w os).heap.get?)=λw _=>(K w.params).map λp=>some p.2:=by
 unfold fin goB goA;rw[PySem.W.Fast.te10110043849684766642,PySem.W.Fast.te15667345088766844465,PySem.W.Fast.te14364793385576792824,PySem.W.Fast.te12220694444558173264];kernel_rfl
theorem k2:(λ(w:World) (os:OsState)=>staticsOk (importedModules PySem.Challenge.pw_neveragain_k26_places_refused.main.body) (boot_heap w.params) (fin w os).heap&&namesBound PySem.Challenge.pw_neveragain_k26_places_refused (fin w os).heap&&gensDone (fin w os)&&laidKept (boot_heap w.params) (fin w os).heap)=λ_ _=>true:=by
 unfold fin goB goA;rw[PySem.W.Fast.te10110043849684766642,PySem.W.Fast.te15667345088766844465,PySem.W.Fast.te14364793385576792824,PySem.W.Fast.te12220694444558173264];kernel_rfl
theorem left_run {p v:Program} {lo:List Str} {X:Shared->Bool} {α:Type} {f:Shared->α} {g:World->α} {N:Nat} {H:Params->Heap} {gs:Array GenState} {d:Drawn} {k m M:Nat} {an:Option Value} {z:World->OsState->Shared}
  (ho:∀w:World,(fencedOpening treeTable p w N).map (λs=>(s.heap,s.gens,s.drawn,s.toks))=some (H w.params,gs,d,k))
  (hs:∀w:World,((H w.params).isNs mainGlobals&&gs.size==0,(H w.params).objs.size,(H w.params).nsMap mainGlobals "__annotations__")=(true,m,an))
  (hr:∀w os,topRun treeTable p w m an M ⟨H w.params,gs,d,k,os⟩ (topStub p)=some (z w os)) (hM:M<=N)
  (h1:∀w os,(staticsOk (importedModules p.main.body) (H w.params) (z w os).heap&&namesBound p (z w os).heap&&gensDone (z w os)&&laidKept (H w.params) (z w os).heap)=true)
  (h2:∀w os,openSeen v lo (importedModules p.main.body) X true (z w os)=openGood v lo) (h3:∀w os,f (z w os)=g w):LeftO p v lo X f g N:=by
 intro w;have a:=ho w;cases e:fencedOpening treeTable p w N with
 |none=>rw[e] at a;cases a
 |some s=>
  rw[e] at a;obtain ⟨hh,hg,hd,hk,os⟩:=s;have b:=Option.some.inj a;have b1:hh=H w.params:=congrArg (·.1) b;have b2:hg=gs:=congrArg (·.2.1) b;have b3:hd=d:=congrArg (·.2.2.1) b;have b4:hk=k:=congrArg (·.2.2.2) b;subst b1 b2 b3 b4;have s1:=congrArg (·.1) (hs w);have s2:=congrArg (·.2.1) (hs w);have s3:=congrArg (·.2.2) (hs w);have r:=topRun_mono (N - M) _ _ _ _ (hr w os);rw[Nat.add_sub_cancel' hM] at r;have t:topFrom treeTable p w N ⟨H w.params,hg,hd,hk,os⟩=some (z w os):=by
   simp only [topFrom];dsimp only at s1 s2 s3;rw[s1,s2,s3,r];simp only [Option.bind,h1 w os]
  simp only [openEnds,e,Option.bind];show (topFrom treeTable p w N _).map _=_;rw[t];exact congrArg some (Prod.ext (h2 w os) (h3 w os))
theorem k3:(λ(w:World) (os:OsState)=>openSeen (q PySem.Challenge.pw_neveragain_k26_places_refused) ["TooGreat"] (importedModules PySem.Challenge.pw_neveragain_k26_places_refused.main.body) (λs=>xlAt (q PySem.Challenge.pw_neveragain_k26_places_refused) [] s&&recOk (RowW.records (OpenRow.toRowW PySem.Challenge.rw_neveragain_k26_places_refused.row)) s) true (fin w os))=λ_ _=>openGood (q PySem.Challenge.pw_neveragain_k26_places_refused) ["TooGreat"]:=by
 unfold fin goB goA;rw[PySem.W.Fast.te4187177175401517315,PySem.W.Fast.te10110043849684766642,PySem.W.Fast.te15667345088766844465,PySem.W.Fast.te14364793385576792824,PySem.W.Fast.te12220694444558173264];kernel_rfl
theorem k4:(λ(w:World)=>((boot_heap w.params).isNs mainGlobals&&(#[]:Array GenState).size==0,(boot_heap w.params).objs.size,(boot_heap w.params).nsMap mainGlobals "__annotations__"))=λ_=>(true,11,ann):=by kernel_rfl
theorem k5:opening PySem.Challenge.pw_neveragain_k26_places_refused=plainProg PySem.Challenge.pw_neveragain_k26_places_refused.main.scope.names:=by kernel_rfl
theorem k6:(λs=>fenceModules? PySem.Challenge.pw_neveragain_k26_places_refused s)=λs=>some s:=by kernel_rfl
theorem left:LeftO PySem.Challenge.pw_neveragain_k26_places_refused (q PySem.Challenge.pw_neveragain_k26_places_refused) ["TooGreat"] (λs=>xlAt (q PySem.Challenge.pw_neveragain_k26_places_refused) [] s&&recOk (RowW.records (OpenRow.toRowW PySem.Challenge.rw_neveragain_k26_places_refused.row)) s) (λs=>ads.map s.heap.get?) (λw=>(K w.params).map λp=>some p.2) 2580:=
 left_run (boot_open k5 (by decide) (λs=>congrFun k6 s)) (λw=>congrFun k4 w) run (by decide) (λw os=>congrFun (congrFun k2 w) os) (λw os=>congrFun (congrFun k3 w) os) (λw os=>congrFun (congrFun k1 w) os)
theorem he (P:Params):ads=(K P).map (·.1):=by kernel_rfl
end L2.Hd
open PySem PySem.W PyProof.Rows
set_option maxRecDepth 100000 in
set_option maxHeartbeats 0 in
theorem PySem.Challenge.cw_neveragain_k26_places_refused_holds : PySem.Challenge.rw_neveragain_k26_places_refused.Holds := by
 w_on;o_law
 refine holds_open (q:=L2.Hd.q PySem.Challenge.pw_neveragain_k26_places_refused) (loose:=["TooGreat"]) (XP:=XL (L2.Hd.q PySem.Challenge.pw_neveragain_k26_places_refused) [])
  (Yf:=Hook.obs (kHook L2.Hd.K L2.Hd.ads L2.Hd.he)) (Ya:=Hook.val (kHook L2.Hd.K L2.Hd.ads L2.Hd.he))
  (YP:=Hook.says (kHook L2.Hd.K L2.Hd.ads L2.Hd.he)) (N:=2580) L2.Hd.left (Hook.of (kHook L2.Hd.K L2.Hd.ads L2.Hd.he))
  (Hook.keeps (kHook L2.Hd.K L2.Hd.ads L2.Hd.he)) (λs e=>xl_of s (Bool.and_eq_true_iff.mp e).1) XL.keeps (by rfl) (by rfl) (by rfl)
  (λs e=>recFacts_of (Bool.and_eq_true_iff.mp e).2) (by rfl) (by assumption) (by decide+kernel)
  ⟨rfl,rfl,rfl,rfl,rfl,by decide+kernel⟩ ?hw ?hc
 case hw=>w_witness2
 k_fill
 refine L2.Na.law_ofK (KF:=L2.Na.K26.KF) (l:=PySem.Challenge.rw_neveragain_k26_places_refused) (k:=9) (x:="_law_script") (sp:=L2.Na.K26.sp_law) rfl rfl ⟨rfl,by decide,by decide⟩ (λw h Y=>PySem.W.kIn_of Y) ?KF rfl L2.Na.K26.b_law L2.Na.K26.sc_law L2.Na.K26.m_law (λ_ _ _ _ _ _ _=>rfl) (λ_=>L2.Na.K26.l_law) (λ_ kf=>L2.Na.K26.t_law kf) ?F ?Q L2.Na.K26.s_law
 case KF=>
  intro w;constructor<;>walk_at "k"
 case F=>
  intro w h KX;refine ⟨?a,?b⟩
  case a=>walk_at "f"
  case b=>
   unfold L2.Na.blts;refine ⟨?_,?_,?_,?_,?_,?_,?_,?_,?_,?_,?_,?_,?_,?_,?_,?_,?_,?_,?_,?_,?_,?_,L2.tI⟩<;>k_is
 case Q=>
  intro w mg h base kf KX G bl A hr;refine' L2.Na.K26.all_q KX G bl ?_ ?_ ?_ ?_ ?_ ?_ ?_ ?_ ?_ ?_ ?_ ?_ ?_ ?_ ?_ ?_ ?_ ?_ ?_ ?_ ?_ ?_ ?_ ?_ ?_ ?_ kf A hr<;>walk_at "f"
#print axioms PySem.Challenge.cw_neveragain_k26_places_refused_holds
