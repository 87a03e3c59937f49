import PyProof.Rows.All
import Wide.All
import OpenK.AllK
import Wide.FinOn
import Lean
import PyProof.EqAt
import PyProof.EqKinds
import PyProof.TupleCall
import PyProof.AttrMissSeq
import KE.KDictOf
import KE.KSortTup
import PySem.Challenge.RW_neveragain_k43_whole_distance_kept
set_option genSizeOf false
set_option bootstrap.genMatcherCode false
set_option compiler.extract_closed false
open PySem.Challenge (pw_neveragain_k43_whole_distance_kept)
open List (Nodup Pairwise Perm all_cons all_eq_true any_cons any_eq_true any_map append_nil drop_zero ext_getElem? filter_cons find?_cons flatten_cons foldl foldl_append foldl_cons forIn_cons forIn_nil getD_eq_getElem?_getD getElem?_append_left getElem?_append_right getElem?_drop getElem?_map getElem?_of_mem getElem?_range getElem?_take getElem?_zipWith getElem_mem length length_append length_cons length_drop length_map length_nil length_range length_replicate length_reverse length_take length_zipWith lookup_cons lookup_cons_self map_append map_congr_left map_cons map_map map_nil mem_append mem_append_left mem_append_right mem_cons mem_cons_of_mem mem_cons_self mem_filter mem_filterMap mem_flatMap mem_map mem_of_getElem? mem_of_mem_drop mem_of_mem_take mem_range mem_singleton nodup_cons not_mem_nil pairwise_cons range range' range_succ range_succ_eq_map replicate replicate_succ size_toArray sum_cons take_add_one take_append_drop take_length take_of_length_le take_zero zipWith zipWith_cons_cons)
open Nat (le_of_eq le_of_lt le_of_not_lt le_succ le_trans lt_irrefl lt_of_not_le lt_succ_self lt_trans mod_lt ne_of_gt ne_of_lt pow_succ sub_self zero_add zero_le)
open Bool (and_eq_true false_eq_true or_eq_true)
open Int (emod_lt_of_pos emod_nonneg toNat toNat_natCast)
open Array (getD_eq_getD_getElem? getElem?_toList length_toList size_eq_one_iff)
open PySem.Heap (DictOf ExtBut SameBut get?_push_of_some get?_push_size get?_update_other get?_update_self lt_size)
abbrev L2.Fg:=PySem.W.Frag
theorem L2.tI:True:=True.intro
set_option Elab.async false
set_option linter.all false
set_option maxRecDepth 100000
set_option maxHeartbeats 4000000
namespace L2
open PySem PySem.Spec PyProof.Rows
abbrev Key:=Sum Int Str
def kT:Key->Value->Bool
 | .inl k,v=>Value.isInt k v
 | .inr x,v=>Value.isStrOf x v
def Ld (w:World):Key->Int
 | .inl k=>hashInt k
 | .inr x=>hashStr w x
theorem bD:∀{k:Key} {v:Value},kT k v=true->(∃i t,k=Sum.inl i/\v=Value.int i t)\/(∃x t,k=Sum.inr x/\v=Value.str x t)
 | .inl i,v,h=>by
  obtain ⟨t,e⟩:=Value.isInt_shape (k:=i) (v:=v) h;exact .inl ⟨i,t,rfl,e⟩
 | .inr x,v,h=>by
  obtain ⟨t,e⟩:=Value.isStrOf_shape (x:=x) (v:=v) h;exact .inr ⟨x,t,rfl,e⟩
theorem GZ (i:Int) (t:Tok):kT (.inl i) (.int i t)=true:=by simp [kT,Value.isInt]
theorem sU (x:Str) (t:Tok):kT (.inr x) (.str x t)=true:=by simp [kT,Value.isStrOf]
theorem ZS (a b:Int):decide ((Sum.inl a:Key)=Sum.inl b)=(a==b):=by
 by_cases e:a=b
 ·subst e;simp
 ·have h:¬(Sum.inl a:Key)=Sum.inl b:=λq=>e (Sum.inl.inj q);rw[decide_eq_false h];exact (beq_eq_false_iff_ne.mpr e).symm
theorem ZP (a b:Str):decide ((Sum.inr a:Key)=Sum.inr b)=decide (a=b):=by
 by_cases e:a=b
 ·subst e;simp
 ·have h:¬(Sum.inr a:Key)=Sum.inr b:=λq=>e (Sum.inr.inj q);rw[decide_eq_false h,decide_eq_false e]
theorem ZR (a:Int) (b:Str):decide ((Sum.inl a:Key)=Sum.inr b)=false:=decide_eq_false (λq=>nomatch q)
theorem ZQ (a:Str) (b:Int):decide ((Sum.inr a:Key)=Sum.inl b)=false:=decide_eq_false (λq=>nomatch q)
def aW (prog:Program) (w:World):PySem.KeyKind prog w Key where
 is:=kT
 hash:=Ld w
 inj:=λv a b ha hb=>by
  rcases bD ha with ⟨i,t,rfl,rfl⟩|⟨x,t,rfl,rfl⟩
  ·rcases bD hb with ⟨j,u,rfl,e⟩|⟨y,u,rfl,e⟩
   ·injection e with e1 _;rw[e1]
   ·exact nomatch e
  ·rcases bD hb with ⟨j,u,rfl,e⟩|⟨y,u,rfl,e⟩
   ·exact nomatch e
   ·injection e with e1 _;rw[e1]
 byValue:=λk v h=>by
  rcases bD h with ⟨i,t,rfl,rfl⟩|⟨x,t,rfl,rfl⟩<;>rfl
 pyHash:=λhv h=>by
  rcases bD hv with ⟨i,t,rfl,rfl⟩|⟨x,t,rfl,rfl⟩
  ·exact wpAny_pyHash_int h
  ·exact wpAny_pyHash_str h
 eqBool:=λhu hv h=>by
  rcases bD hu with ⟨i,t,rfl,rfl⟩|⟨x,t,rfl,rfl⟩
  ·rcases bD hv with ⟨j,u,rfl,rfl⟩|⟨y,u,rfl,rfl⟩
   ·rw[ZS] at h;exact wpAny_eqBool_int h
   ·rw[ZR] at h;exact SeqAt.EqAt.int_str i t y u _ _ _ _ h
  ·rcases bD hv with ⟨j,u,rfl,rfl⟩|⟨y,u,rfl,rfl⟩
   ·rw[ZQ] at h;exact SeqAt.EqAt.str_int x t j u _ _ _ _ h
   ·rw[ZP] at h;exact wpAny_eqBool_str h
 «strs»:=λk x t v h=>by
  rcases bD h with ⟨i,u,rfl,e⟩|⟨y,u,rfl,e⟩
  ·exact nomatch e
  ·injection e with e1 _
   subst e1;cases v<;>rfl
theorem yM (prog:Program) (w:World) (i:Int) (t:Tok):(aW prog w).is (.inl i) (.int i t)=true:=GZ i t
theorem yK (prog:Program) (w:World) (x:Str) (t:Tok):(aW prog w).is (.inr x) (.str x t)=true:=sU x t
inductive V where
 |non|bl (b:Bool)|int (i:Int)|str (x:Str)|byt (b:Array UInt8)|flt (b:UInt64)|ref (a:Addr)|ty (n:String)
 deriving DecidableEq
def RelV:V->Value->Prop
 | .non,u=>u=Value.none
 | .bl b,u=>u=Value.bool b
 | .int i,u=>∃t,u=Value.int i t
 | .str x,u=>∃t,u=Value.str x t
 | .byt b,u=>∃t,u=Value.bytes b t
 | .flt b,u=>∃t,u=Value.float b t
 | .ref a,u=>u=Value.ref a
 | .ty n,u=>u=Value.type n
abbrev Vals:List V->List Value->Prop:=Paired RelV
theorem Vals.length {xs:List V} {us:List Value} (r:Vals xs us):xs.length=us.length:=Paired.length r
theorem Vals.get:∀{xs:List V} {us:List Value} {i:Nat} {x:V},Vals xs us->xs[i]?=some x->∃u,us[i]?=some u/\RelV x u
 |_,_,_,_,.nil,e=>by simp at e
 |_,_,0,_,.cons r _,e=>by simp at e;subst e;exact ⟨_,rfl,r⟩
 |_,_,i+1,x,.cons _ t,e=>by
  obtain ⟨u,h1,h2⟩:=Vals.get (i:=i) (x:=x) t (by simpa using e);exact ⟨u,by simpa using h1,h2⟩
theorem Vals.set {x:V} {u:Value} (r:RelV x u):∀{xs:List V} {us:List Value} (i:Nat),Vals xs us->Vals (xs.set i x) (us.set i u)
 |_,_,_,.nil=>.nil
 |_,_,0,.cons _ t=>.cons r t
 |_,_,i+1,.cons q t=>.cons q (Vals.set r i t)
theorem Vals.append:∀{xs ys:List V} {us ws:List Value},Vals xs us->Vals ys ws->Vals (xs++ys) (us++ws)
 |_,_,_,_,.nil,s=>s
 |_,_,_,_,.cons r t,s=>.cons r (Vals.append t s)
theorem Vals.take:∀{xs:List V} {us:List Value} (n:Nat),Vals xs us->Vals (xs.take n) (us.take n)
 |_,_,0,_=>.nil
 |_,_,_+1,.nil=>.nil
 |_,_,n+1,.cons r t=>.cons r (Vals.take n t)
theorem Vals.drop:∀{xs:List V} {us:List Value} (n:Nat),Vals xs us->Vals (xs.drop n) (us.drop n)
 |_,_,0,r=>r
 |_,_,_+1,.nil=>.nil
 |_,_,n+1,.cons _ t=>Vals.drop n t
def iQ:Option V->Option Value->Prop
 |some v,some u=>RelV v u
 |none,none=>True
 |_,_=>False
def KV {κ:Type}:List (κ × V)->List (κ × Value)->Prop:=Paired λ(p:κ × V) (q:κ × Value)=>p.1=q.1/\RelV p.2 q.2
def kV:Key->V
 | .inl i=>.int i
 | .inr x=>.str x
inductive HO where
  
 |lst (xs:List V)
  
 |tup (xs:List V)
  
 |dK (kvs:List (Key × V))|dT (kvs:List (List Key × V))
  
 |set (S:Int->Bool) (n:Nat)
  
 |ins (C dx:Addr) (fs:List (Str × V))
  
 |own (x:Addr)
  
 |xd (fs:List (Str × V))
  
 |met (f x:Addr)
  
 |rng (lo hi:Int)
  
 |frz (o:Obj) (u:HO)
  
 |tbl (ps:Array Value)
  
 |ext (φ:Heap->Prop)
abbrev Hp:=Addr->Option HO
def upd (H:Hp) (a:Addr) (o:HO):Hp:=λb=>if b=a then some o else H b
theorem aA:upd H a o a=some o:=by unfold upd;rw[if_pos rfl]
theorem aF (h:b≠a):upd H a o b=H b:=by unfold upd;rw[if_neg h]
theorem jW:upd (upd H a o) a u=upd H a u:=by
 funext b;unfold upd;split<;>rfl
theorem Gb {H:Hp} {a b:Addr} {o u:HO} (h:H a=some o) (h':H b=some u) (d:o≠u):a≠b:=by
 intro e;subst e;rw[h] at h';exact d (Option.some.inj h')
theorem aB {H:Hp} {a b:Addr} {o:HO} (h:H a=some o) (h':H b=none):a≠b:=by
 intro e;subst e;rw[h] at h';cases h'
section
variable (P:Program) (w:World)
def aZ (H:Hp) (h:Heap) (a:Addr):HO->Prop
 | .lst xs=>xs.length<=sizeLine/\∃(its:List Value) (n:Nat),Vals xs its/\h.get? a=some {cls:=.type "list",data:=.seq its.toArray n}
 | .tup xs=>xs.length<=sizeLine/\∃its:List Value,Vals xs its/\IsTup h a its.toArray
 | .dK kvs=>kvs.length<=sizeLine/\(a==sysModules)=false/\∃vs,KV kvs vs/\h.DictOf (aW P w) a vs
 | .dT kvs=>kvs.length<=sizeLine/\(a==sysModules)=false/\∃xs:List (List Key × Addr × Value),
   Paired (λ(p:List Key × V) (q:List Key × Addr × Value)=>p.1=q.1/\H q.2.1=some (.tup (p.1.map kV))/\RelV p.2 q.2.2) kvs xs/\
   ∃o es ep,h.get? a=some o/\o.ExactDict/\o.data=.dict es ep/\es.toList=xs.map (entryOfKey (tupleKind (aW P w)))/\(xs.map (·.1)).Nodup
 | .set S n=>h.SetOf (intKind P w) a S n
 | .ins C dx fs=>H dx=some (.own a)/\fs.length<=1000/\dx≠a/\h.get? a=some (PySem.W.instObj C dx)/\
   ∃mA,h.Ns1 dx mA/\(∀f,iQ (fs.lookup f) (mA f))/\PySem.Within mA (fs.map (·.1))
 | .own _=>∃o,h.get? a=some o
 | .xd fs=>∃mA,h.Ns1 a mA/\∀f,iQ (fs.lookup f) (mA f)
 | .rng lo hi=>∃t u v,h.get? a=some {cls:=.type "range",data:=.fields #[.int lo t,.int hi u,.int 1 v]}
 | .frz o u=>h.get? a=some o/\aZ H h a u
 | .tbl ps=>h.get? a=some {cls:=.none,data:=.fields ps}
 | .met f x=>h.get? a=some (PySem.W.methodObj (.ref f) (.ref x))
 | .ext φ=>φ h/\(∃o,h.get? a=some o)/\∀h1 h2:Heap,φ h1->(∀o,h1.get? a=some o->h2.get? a=some o)->φ h2
def eE (H:Hp) (h:Heap):Prop:=∀a o,H a=some o->aZ P w H h a o
end
section
variable {P:Program} {w:World} {H H':Hp} {h h':Heap} {a:Addr} {o:HO}
theorem aZ.lt (x:aZ P w H h a o):a<h.objs.size:=by
 cases o with
 |lst xs=>obtain ⟨_,_,_,_,e⟩:=x;exact lt_size e
 |tup xs=>obtain ⟨_,_,_,p⟩:=x;exact p.lt
 |dK kvs=>obtain ⟨_,_,_,_,o,_,_,e,_⟩:=x;exact lt_size e
 |dT kvs=>obtain ⟨_,_,_,_,o,_,_,e,_⟩:=x;exact lt_size e
 |set S n=>obtain ⟨o,_,_,_,e,_⟩:=x;exact lt_size e
 |ins C dx fs=>obtain ⟨_,_,_,e,_⟩:=x;exact lt_size e
 |own y=>obtain ⟨_,e⟩:=x;exact lt_size e
 |xd fs=>obtain ⟨_,⟨_,_,_,e,_⟩,_⟩:=x;exact lt_size e
 |rng lo hi=>obtain ⟨_,_,_,e⟩:=x;exact lt_size e
 |frz ob u=>obtain ⟨e,_⟩:=x;exact lt_size e
 |tbl ps=>exact lt_size (show h.get? a=some _ from x)
 |met f y=>exact lt_size (show h.get? a=some _ from x)
 |ext φ=>obtain ⟨_,⟨_,e⟩,_⟩:=x;exact lt_size e
theorem Paired.mapP:∀{az:List α} {ar:List β},Paired F az ar->(∀a b,F a b->G a b)->Paired G az ar
 |_,_,.nil,_=>.nil
 |_,_,.cons r t,f=>.cons (f _ _ r) (Paired.mapP t f)
theorem aZ.stay (x:aZ P w H h a o) (k:∀b u,(b=a\/H b=some (.own a))->h.get? b=some u->h'.get? b=some u)
  (ho:∀b,H b=some (.own a)->H' b=some (.own a)) (ht:∀b xs,H b=some (.tup xs)->H' b=some (.tup xs)):aZ P w H' h' a o:=by
 induction o with
 |lst xs=>obtain ⟨z,its,n,r,e⟩:=x;exact ⟨z,its,n,r,k _ _ (.inl rfl) e⟩
 |tup xs=>obtain ⟨z,its,r,ob,e,c⟩:=x;exact ⟨z,its,r,ob,k _ _ (.inl rfl) e,c⟩
 |dK kvs=>obtain ⟨z,y,vs,r,ob,es,ep,e,c⟩:=x;exact ⟨z,y,vs,r,ob,es,ep,k _ _ (.inl rfl) e,c⟩
 |dT kvs=>
  obtain ⟨z,y,xs,r,ob,es,ep,e,c⟩:=x;exact ⟨z,y,xs,Paired.mapP r λp q z=>⟨z.1,ht _ _ z.2.1,z.2.2⟩,ob,es,ep,k _ _ (.inl rfl) e,c⟩
 |set S n=>obtain ⟨ob,es,ep,t,e,c⟩:=x;exact ⟨ob,es,ep,t,k _ _ (.inl rfl) e,c⟩
 |ins C dx fs=>
  obtain ⟨d,z,ne,e,mA,⟨od,es,ep,e2,c⟩,r⟩:=x;exact ⟨ho _ d,z,ne,k _ _ (.inl rfl) e,mA,⟨od,es,ep,k _ _ (.inr d) e2,c⟩,r⟩
 |own y=>obtain ⟨ob,e⟩:=x;exact ⟨ob,k _ _ (.inl rfl) e⟩
 |xd fs=>obtain ⟨mA,⟨od,es,ep,e,c⟩,r⟩:=x;exact ⟨mA,⟨od,es,ep,k _ _ (.inl rfl) e,c⟩,r⟩
 |rng lo hi=>obtain ⟨t,u,v,e⟩:=x;exact ⟨t,u,v,k _ _ (.inl rfl) e⟩
 |frz ob u ih=>obtain ⟨e,q⟩:=x;exact ⟨k _ _ (.inl rfl) e,ih q⟩
 |tbl ps=>
  have e:h.get? a=some {cls:=.none,data:=.fields ps}:=x;show h'.get? a=some {cls:=.none,data:=.fields ps};exact k a _ (.inl rfl) e
 |met f y=>
  have e:h.get? a=some (PySem.W.methodObj (.ref f) (.ref y)):=x;show h'.get? a=some (PySem.W.methodObj (.ref f) (.ref y));exact k a _ (.inl rfl) e
 |ext φ=>obtain ⟨p,⟨o,e⟩,st⟩:=x;exact ⟨st _ _ p λo q=>k _ _ (.inl rfl) q,⟨o,k _ _ (.inl rfl) e⟩,st⟩
theorem eE.lt (x:eE P w H h) (e:H a=some o):a<h.objs.size:=(x a o e).lt
theorem eE.fresh (x:eE P w H h) (e:h.objs.size<=a):H a=none:=by
 cases q:H a with
 |none=>rfl
 |some u=>exact absurd (Nat.lt_of_lt_of_le (x.lt q) e) (lt_irrefl _)
theorem eE.kept (x:eE P w H h) (k:∀b u,h.get? b=some u->h'.get? b=some u):eE P w H h':=λa o e=>
 (x a o e).stay (λb u _ q=>k b u q) (λ_ q=>q) λ_ _ q=>q
theorem eE.laid (x:eE P w H h) (k:∀b u,h.get? b=some u->h'.get? b=some u) (hp:h.objs.size<=a) (new:aZ P w (upd H a o) h' a o):eE P w (upd H a o) h':=λb u e=>by
 have hn:=x.fresh hp;by_cases hb:b=a
 ·subst hb;rw[aA] at e;cases e;exact new
 ·rw[aF hb] at e;exact (x b u e).stay (λc v _ q=>k c v q) (λc q=>by rw[aF (aB q hn)];exact q) λc xs q=>by rw[aF (aB q hn)];exact q
end
def Rd (H:Hp) (a:Addr) (u:HO):Prop:=H a=some u\/∃o,H a=some (.frz o u)
theorem Rd.ok {P:Program} {w:World} {H:Hp} {h:Heap} {a:Addr} {u:HO} (r:Rd H a u) (x:eE P w H h):aZ P w H h a u:=by
 rcases r with r|⟨o,r⟩
 ·exact x a u r
 ·obtain ⟨_,q⟩:=x a _ r;exact q
def Jk:Option HO->Prop
 |some (.lst _)=>True
 |some (.dK _)=>True
 |some (.dT _)=>True
 |some (.set _ _)=>True
 |some (.ins _ _ _)=>True
 |some (.ext _)=>True
 |_=>False
section
variable {P:Program} {w:World} {H:Hp} {h h':Heap} {x e:Addr} {o':HO}
theorem eE.write (ok:eE P w H h) (mu:Jk (H x)) (he:e=x\/H e=some (.own x)) (k:∀b u,b≠e->h.get? b=some u->h'.get? b=some u) (heo:∃u,h'.get? e=some u)
  (new:aZ P w (upd H x o') h' x o'):eE P w (upd H x o') h':=λb u q=>by
 have nown:∀c y,H c=some (.own y)->c≠x:=λc y r z=>by subst z;rw[r] at mu;exact mu
 have ntup:∀c xs,H c=some (.tup xs)->c≠x:=λc xs r z=>by subst z;rw[r] at mu;exact mu
 by_cases hb:b=x
 ·subst hb;rw[aA] at q;cases q;exact new
 ·rw[aF hb] at q;by_cases hbe:b=e
  ·have q':H b=some (.own x):=by
    rcases he with z|z
    ·exact absurd (hbe.trans z) hb
    ·rw[hbe];exact z
   rw[q] at q';cases q';obtain ⟨v,hv⟩:=heo;exact ⟨v,by rw[hbe];exact hv⟩
  ·refine (ok b u q).stay (λc v hc r=>k c v ?_ r) (λc r=>by rw[aF (nown c b r)];exact r) λc xs r=>by rw[aF (ntup c xs r)];exact r
   rcases hc with rfl|hc
   ·exact hbe
   ·rintro rfl;rcases he with z|z
    ·exact nown c b hc z
    ·rw[hc] at z;cases z;exact hb rfl
end
structure Un (fs ex:List Addr) (H H':Hp) (h h':Heap):Prop where
 keep:∀b o,h.get? b=some o->H b=none->b∉fs->b∉ex->h'.get? b=some o
 slot:∀b o,h.get? b=some o->H b=none->b∈fs->b∉ex->∃sl,h'.get? b=some {o with slots:=sl}
 free:∀b o,h.get? b=some o->H b=none->b∉ex->H' b=none
 there:∀b o,h.get? b=some o->b∉ex->∃o',h'.get? b=some o'
 tups:∀b xs,H b=some (.tup xs)->H' b=some (.tup xs)
 frzs:∀b o u,H b=some (.frz o u)->H' b=some (.frz o u)
 tbls:∀b ps,H b=some (.tbl ps)->∃more,H' b=some (.tbl (ps++more))
section
variable {fs fs' ex ex':List Addr} {H H1 H2:Hp} {h h1 h2 h':Heap} {a x e:Addr} {o:HO}
theorem Un.any (u:Un fs ex H H1 h h1) {b:Addr} {ob:Obj} (q:h.get? b=some ob) (n:H b=none) (hx:b∉ex):∃sl,h1.get? b=some {ob with slots:=sl}:=by
 by_cases hb:b∈fs
 ·exact u.slot b ob q n hb hx
 ·exact ⟨ob.slots,u.keep b ob q n hb hx⟩
theorem Un.kept (k:∀b u,h.get? b=some u->h'.get? b=some u):Un fs ex H H h h':=
 ⟨λb ob q _ _ _=>k b ob q,λb ob q _ _ _=>⟨ob.slots,k b ob q⟩,λ_ _ _ n _=>n,λb ob q _=>⟨ob,k b ob q⟩,λ_ _ q=>q,λ_ _ _ q=>q,λ_ ps q=>⟨#[],by rw[q];simp⟩⟩
theorem Un.refl:Un fs ex H H h h:=Un.kept λ_ _ q=>q
theorem Un.laid (k:∀b u,h.get? b=some u->h'.get? b=some u) (hp:h.objs.size<=a) (hn:H a=none):Un fs ex H (upd H a o) h h' where
 keep:=λb u q _ _ _=>k b u q
 slot:=λb u q _ _ _=>⟨u.slots,k b u q⟩
 free:=λb u q n _=>by rw[aF (ne_of_lt (Nat.lt_of_lt_of_le (lt_size q) hp))];exact n
 there:=λb u q _=>⟨u,k b u q⟩
 tups:=λb xs q=>by rw[aF (aB q hn)];exact q
 frzs:=λb u xs q=>by rw[aF (aB q hn)];exact q
 tbls:=λb ps q=>⟨#[],by rw[aF (aB q hn),q];simp⟩
theorem Un.write (mu:Jk (H x)) (he:e=x\/H e=some (.own x)) (k:∀b u,b≠e->h.get? b=some u->h'.get? b=some u) (heo:∃u,h'.get? e=some u):Un fs ex H (upd H x o) h h':=by
 have hx:∀b,H b=none->b≠x:=λb n z=>by subst z;rw[n] at mu;exact mu
 have hb:∀b,H b=none->b≠e:=λb n z=>by
  subst z;rcases he with r|r
  ·exact hx b n r
  ·rw[n] at r;cases r
 have hm:∀b u,H b=some u->¬Jk (some u)->b≠x:=λb u q nm z=>by subst z;rw[q] at mu;exact nm mu
 refine ⟨λb u q n _ _=>k b u (hb b n) q,λb u q n _ _=>⟨u.slots,k b u (hb b n) q⟩,λb u q n _=>by rw[aF (hx b n)];exact n,λb u q _=>?_,
  λb xs q=>by rw[aF (hm b _ q λz=>z)];exact q,λb u xs q=>by rw[aF (hm b _ q λz=>z)];exact q,λb ps q=>⟨#[],by rw[aF (hm b _ q λz=>z),q];simp⟩⟩
 by_cases hbe:b=e
 ·subst hbe;exact heo
 ·exact ⟨u,k b u hbe q⟩
end
def Jt (h:Heap) (H:Hp):List Addr:=(range h.objs.size).filter λa=>(H a).isSome
def wF (h:Heap) (H:Hp):Heap:=PySem.W.hideAll h (Jt h H)
theorem HE (h:Heap) (H:Hp):(wF h H).objs.size=h.objs.size:=PySem.W.hideAll_size _ _
theorem NC (e:h.get? b=some o) (n:H b=none):(wF h H).get? b=some o:=
 PySem.W.hideAll_get _ e λhm=>by
  have q:(H b).isSome=true:=(mem_filter.mp hm).2;rw[n] at q;simp at q
theorem SA (e:(wF h H).get? b=some o):h.get? b=some o/\H b=none:=by
 have e':h.get? b=some o:=PySem.W.of_hideAll (Jt h H) e;refine ⟨e',?_⟩;cases q:H b with
 |none=>rfl
 |some x=>
  have hm:b∈Jt h H:=mem_filter.mpr ⟨mem_range.mpr (lt_size e'),by simp [q]⟩;have z:(wF h H).get? b=none:=PySem.W.hideAll_none (Jt h H) hm;rw[z] at e;cases e
structure Mod (K:Fg) (mg:Str->Option Value) (base:Heap):Prop where
 kin:K.In base
 glob:base.Ns mainGlobals mg
 blt:∃mb,base.Ns builtinsNs mb/\∀x:Str,x≠"__name__"->mb x=bootBuiltins x
 nolimit:base.NoLimit
structure Cx where
 prog:Program
 w:World
 K:Fg
 mg:Str->Option Value
 base:Heap
 A:Around
 N:List Str
 s₀:Shared
 H₀:Hp
 env:Env
 outer:List Env
 stack:List Env
 ex:List Addr
 fn:Str->Bool
 calm:Bool
 pn:List (Addr × Obj)
 xe:Value->Shared->Prop
def fV (l:List Env):List Addr:=l.filterMap (·.frame)
abbrev Cx.fs (X:Cx):List Addr:=fV X.outer
def Jz (sc:Scope) (x:Str):Prop:=sc.names.lookup x=some .local\/sc.names.lookup x=some .cell\/sc.names.lookup x=some .free
def Loc (sc:Scope) (x:Str):Prop:=sc.names.lookup x=some .local\/sc.names.lookup x=some .cell
def Look (env:Env) (h:Heap) (m:Str->Option Value) (x:Str) (u:Value):Prop:=
 (env.kindOf x=some .local/\m x=some u)\/((env.kindOf x=some .cell\/env.kindOf x=some .free)/\∃c,env.cells.lookup x=some c/\h.IsCell c (some u))
structure Cx.Ok (X:Cx):Prop where
 mod:Mod X.K X.mg X.base
 kind:X.env.scope.kind=.function
 glob:X.env.globals=mainGlobals
 blt:X.env.builtins=builtinsNs
 above:X.s₀.heap.objs.size<=X.env.locals
 inj:∀x y c,X.env.cells.lookup x=some c->X.env.cells.lookup y=some c->x=y
 has:∀x,(X.env.kindOf x=some .cell\/X.env.kindOf x=some .free)->∃c,X.env.cells.lookup x=some c
 cab:∀x c,X.fn x=true->X.env.cells.lookup x=some c->X.s₀.heap.objs.size<=c
 hd:X.calm=true->X.A.handled=none
 frames:X.A.frames=some X.stack
 stk:X.stack=X.outer\/(X.stack=X.env::X.outer/\X.env.frame=some X.env.locals)
 exf:∀b∈X.ex,b≠X.env.locals/\∀x c,X.env.cells.lookup x=some c->c≠b
 bs:∀b o,X.base.get? b=some o->X.s₀.heap.get? b=some o/\X.H₀ b=none
 bsz:X.base.objs.size<=X.s₀.heap.objs.size
 noex:∀b o,X.base.get? b=some o->b∉X.ex
 exfs:∀b∈X.ex,b∉X.fs
 funs:X.s₀.heap.FunFrames X.base X.outer
 frf:∀b∈X.fs,X.H₀ b=none
structure Inv (X:Cx) (pins:List (Addr × Obj)) (σ:List (Option V)) (H:Hp) (s:Shared):Prop where
 ok:X.Ok
 os:s.os=X.s₀.os
 bare:AllBare s.gens
 base:Un X.fs X.ex X.H₀ H X.s₀.heap s.heap
 loc:∃m,s.heap.Ns X.env.locals m/\∀(i:Nat) (x:Str) (v:V),X.N[i]?=some x->σ[i]?=some (some v)->Jz X.env.scope x->∃u,RelV v u/\Look X.env s.heap m x u
 cell:∀x c,X.env.cells.lookup x=some c->∃v,s.heap.IsCell c v
 free:H X.env.locals=none
 freeC:∀x c,X.env.cells.lookup x=some c->H c=none
 pin:∀p∈X.pn++pins,s.heap.get? p.1=some p.2/\H p.1=none/\p.1≠X.env.locals/\p.1∉X.fs/\∀v,p.2.data≠.cell v
 hok:eE X.prog X.w H s.heap
 len:σ.length=X.N.length
section
variable {X:Cx} {pins:List (Addr × Obj)} {σ:List (Option V)} {H H':Hp} {s:Shared} {h':Heap}
theorem Cx.Ok.nofr (ok:X.Ok) (e:X.base.get? b=some o):b∉X.fs:=λhb=>by
 have:=(ok.funs.mem hb).1;rw[e] at this;cases this
theorem Inv.bs (I:Inv X pins σ H s):∀b o,X.base.get? b=some o->s.heap.get? b=some o/\H b=none:=λb o e=>
 ⟨I.base.keep b o (I.ok.bs b o e).1 (I.ok.bs b o e).2 (I.ok.nofr e) (I.ok.noex b o e),I.base.free b o (I.ok.bs b o e).1 (I.ok.bs b o e).2 (I.ok.noex b o e)⟩
theorem Inv.bk (I:Inv X pins σ H s):∀b o,X.base.get? b=some o->s.heap.get? b=some o:=λb o e=>(I.bs b o e).1
theorem Inv.mod (I:Inv X pins σ H s):Mod X.K X.mg X.base:=I.ok.mod
theorem Inv.kIn (I:Inv X pins σ H s):X.K.In s.heap:=I.ok.mod.kin.keeps I.bk
theorem Inv.nolimit (I:Inv X pins σ H s):s.heap.NoLimit:=I.ok.mod.nolimit.keeps I.bk
theorem Inv.lt (I:Inv X pins σ H s):X.env.locals<s.heap.objs.size:=let ⟨_,hn,_⟩:=I.loc;hn.lt
theorem Inv.sz (I:Inv X pins σ H s):X.s₀.heap.objs.size<=s.heap.objs.size:=le_trans I.ok.above (le_of_lt I.lt)
theorem Inv.nofs (I:Inv X pins σ H s) (h:s.heap.objs.size<=a):a∉X.fs:=λhb=>by
 obtain ⟨_,o,ho,_⟩:=I.ok.funs.mem hb;exact absurd (Nat.lt_of_lt_of_le (lt_size ho) (le_trans I.sz h)) (lt_irrefl _)
theorem Inv.cne (I:Inv X pins σ H s):∀x c,X.env.cells.lookup x=some c->c≠X.env.locals:=λx c e z=>by
 obtain ⟨v,o,ho,hd⟩:=I.cell x c e;obtain ⟨m,⟨o',es,ep,ho',hd',_⟩,_⟩:=I.loc;rw[z,ho'] at ho;cases ho;rw[hd'] at hd;cases hd
theorem Inv.funs (I:Inv X pins σ H s):s.heap.FunFrames X.base X.outer:=by
 have all:∀(l:List Env),(∀b∈fV l,b∈X.fs)->X.s₀.heap.FunFrames X.base l->s.heap.FunFrames X.base l:=by
  intro l;induction l with
  |nil=>intro _ _;trivial
  |cons env r ih=>
   intro hs hl;obtain ⟨hk,⟨L,o,hf,hn,ho,hd⟩,hr⟩:=hl;have hL:L∈X.fs:=hs L (by unfold fV;rw[List.filterMap_cons,hf];exact mem_cons_self);obtain ⟨sl,e⟩:=I.base.slot L o ho (I.ok.frf L hL) hL λz=>I.ok.exfs L z hL;exact ⟨hk,⟨L,_,hf,hn,e,hd⟩,ih (λb hb=>hs b (by unfold fV;rw[List.filterMap_cons,hf];exact mem_cons_of_mem _ hb)) hr⟩
 exact all X.outer (λ_ hb=>hb) I.ok.funs
theorem Inv.stack (I:Inv X pins σ H s):s.heap.FunFrames X.base X.stack:=by
 rcases I.ok.stk with e|⟨e,hf⟩
 ·rw[e];exact I.funs
 ·rw[e];obtain ⟨m,hn,_⟩:=I.loc;refine .cons (by rw[I.ok.kind];decide) hf hn ?_ I.funs;exact Heap.get?_none_of_le (le_trans I.ok.bsz I.ok.above)
theorem Inv.stkSub (I:Inv X pins σ H s):∀b∈fV X.stack,b∈X.env.locals::X.fs:=λb hb=>by
 rcases I.ok.stk with e|⟨e,hf⟩
 ·rw[e] at hb;exact mem_cons_of_mem _ hb
 ·rw[e] at hb;unfold fV at hb;rw[List.filterMap_cons,hf] at hb;exact hb
theorem Inv.stkFree (I:Inv X pins σ H s):∀b∈fV X.stack,H b=none:=λb hb=>by
 rcases mem_cons.mp (I.stkSub b hb) with e|hb
 ·rw[e];exact I.free
 ·obtain ⟨_,o,ho,_⟩:=I.ok.funs.mem hb;exact I.base.free b o ho (I.ok.frf b hb) λz=>I.ok.exfs b z hb
theorem Inv.step {g':Array GenState} {t':Nat} {d':Drawn} {ch:List Addr} (I:Inv X pins σ H s)
  (hch:∀b∈ch,(b∈X.ex\/X.s₀.heap.objs.size<=b)/\b≠X.env.locals/\(∀x c,X.env.cells.lookup x=some c->c≠b)/\∀p∈X.pn++pins,p.1≠b)
  (keep:∀b o,b≠X.env.locals->b∉X.fs->b∉ch->s.heap.get? b=some o->H b=none->h'.get? b=some o)
  (slot:∀b o,b≠X.env.locals->b∈X.fs->b∉ch->s.heap.get? b=some o->H b=none->∃sl,h'.get? b=some {o with slots:=sl}) (free:∀b o,b∉ch->s.heap.get? b=some o->H b=none->H' b=none)
  (there:∀b o,b∉ch->s.heap.get? b=some o->∃o',h'.get? b=some o')
  (tups:∀b xs,H b=some (.tup xs)->H' b=some (.tup xs)) (frzs:∀b o u,H b=some (.frz o u)->H' b=some (.frz o u)) (tbls:∀b ps,H b=some (.tbl ps)->∃more,H' b=some (.tbl (ps++more)))
  (ns:∀m,s.heap.Ns X.env.locals m->h'.Ns X.env.locals m) (hok:eE X.prog X.w H' h') (hg:AllBare g'):
  Inv X pins σ H' {s with heap:=h',gens:=g',drawn:=d',toks:=t'}:=by
 have neL:∀b o,X.s₀.heap.get? b=some o->b≠X.env.locals:=λb o e=>ne_of_lt (Nat.lt_of_lt_of_le (lt_size e) I.ok.above);have neC:∀b o,X.s₀.heap.get? b=some o->b∉X.ex->b∉ch:=λb o e hx hb=>by
  rcases (hch b hb).1 with z|z
  ·exact hx z
  ·exact absurd (Nat.lt_of_lt_of_le (lt_size e) z) (lt_irrefl _)
 have cellK:∀x c,X.env.cells.lookup x=some c->∀v,s.heap.IsCell c v->h'.IsCell c v:=λx c e v ⟨o,ho,hd⟩=>by
  have nch:c∉ch:=λz=>(hch c z).2.2.1 x c e rfl;by_cases hc:c∈X.fs
  ·obtain ⟨sl,q⟩:=slot c o (I.cne x c e) hc nch ho (I.freeC x c e);exact ⟨_,q,hd⟩
  ·exact ⟨o,keep c o (I.cne x c e) hc nch ho (I.freeC x c e),hd⟩
 refine ⟨I.ok,I.os,hg,⟨λb o e n hb hx=>?_,λb o e n hb hx=>?_,λb o e n hx=>?_,λb o e hx=>?_,λb xs e=>tups b xs (I.base.tups b xs e),λb o xs e=>frzs b o xs (I.base.frzs b o xs e),λb ps e=>?_⟩,?_,λx c e=>?_,?_,λx c e=>?_,λp hp=>?_,hok,I.len⟩
 ·exact keep b o (neL b o e) hb (neC b o e hx) (I.base.keep b o e n hb hx) (I.base.free b o e n hx)
 ·obtain ⟨sl,e1⟩:=I.base.slot b o e n hb hx;obtain ⟨sl',e2⟩:=slot b _ (neL b o e) hb (neC b o e hx) e1 (I.base.free b o e n hx);exact ⟨sl',e2⟩
 ·obtain ⟨o',e1⟩:=I.base.there b o e hx;exact free b o' (neC b o e hx) e1 (I.base.free b o e n hx)
 ·obtain ⟨o',e1⟩:=I.base.there b o e hx;exact there b o' (neC b o e hx) e1
 ·obtain ⟨m1,e1⟩:=I.base.tbls b ps e;obtain ⟨m2,e2⟩:=tbls b _ e1;exact ⟨m1++m2,by rw[e2,Array.append_assoc]⟩
 ·obtain ⟨m,hn,hl⟩:=I.loc;refine ⟨m,ns m hn,λi x v e1 e2 e3=>?_⟩;obtain ⟨u,r,l⟩:=hl i x v e1 e2 e3;refine ⟨u,r,?_⟩;rcases l with l|⟨k,c,e,z⟩
  ·exact .inl l
  ·exact .inr ⟨k,c,e,cellK x c e _ z⟩
 ·obtain ⟨v,z⟩:=I.cell x c e;exact ⟨v,cellK x c e v z⟩
 ·obtain ⟨m,⟨o,_,_,ho,_⟩,_⟩:=I.loc;exact free _ o (λz=>(hch _ z).2.1 rfl) ho I.free
 ·obtain ⟨v,o,ho,hd⟩:=I.cell x c e;exact free c o (λz=>(hch c z).2.2.1 x c e rfl) ho (I.freeC x c e)
 ·obtain ⟨e,n,ne,nf,d⟩:=I.pin p hp;have nch:p.1∉ch:=λz=>(hch p.1 z).2.2.2 p hp rfl;exact ⟨keep p.1 p.2 ne nf nch e n,free p.1 p.2 nch e n,ne,nf,d⟩
theorem Inv.un {t':Nat} (I:Inv X pins σ H s) (u:Un X.fs [] H H' s.heap h') (hok:eE X.prog X.w H' h'):Inv X pins σ H' {s with heap:=h',toks:=t'}:=by
 obtain ⟨m,⟨o,es,ep,ho,r⟩,_⟩:=id I.loc;obtain ⟨sl,hL⟩:=u.any ho I.free (by simp);exact I.step (g':=s.gens) (d':=s.drawn) (ch:=[]) (λ_ z=>nomatch z) (λb o _ hb _ e n=>u.keep b o e n hb (by simp)) (λb o _ hb _ e n=>u.slot b o e n hb (by simp)) (λb o _ e n=>u.free b o e n (by simp)) (λb o _ e=>u.there b o e (by simp)) u.tups u.frzs u.tbls (λm' hm=>by
  obtain ⟨o',es',ep',ho',r'⟩:=hm
  rw[ho] at ho';cases ho'
  exact ⟨_,es',ep',hL,r'⟩) hok I.bare
theorem Inv.call {g':Array GenState} {t':Nat} {d':Drawn} {ch:List Addr} (I:Inv X pins σ H s) (u:Un (fV X.stack) ch H H' s.heap h') (hok:eE X.prog X.w H' h') (hg:AllBare g')
  (hch:∀b∈ch,(b∈X.ex\/X.s₀.heap.objs.size<=b)/\b≠X.env.locals/\(∀x c,X.env.cells.lookup x=some c->c≠b)/\∀p∈X.pn++pins,p.1≠b):
  Inv X pins σ H' {s with heap:=h',gens:=g',drawn:=d',toks:=t'}:=by
 obtain ⟨m,⟨o,es,ep,ho,r⟩,_⟩:=id I.loc;obtain ⟨sl,hL⟩:=u.any ho I.free λz=>(hch _ z).2.1 rfl;exact I.step (ch:=ch) hch (λb o hL hb hc e n=>u.keep b o e n (λz=>(mem_cons.mp (I.stkSub b z)).elim hL hb) hc) (λb o _ _ hc e n=>u.any e n hc) (λb o hc e n=>u.free b o e n hc) (λb o hc e=>u.there b o e hc) u.tups u.frzs u.tbls (λm' hm=>by
  obtain ⟨o',es',ep',ho',r'⟩:=hm
  rw[ho] at ho';cases ho'
  exact ⟨_,es',ep',hL,r'⟩) hok hg
theorem Inv.turned {t':Nat} {it:Addr} (I:Inv X pins σ H s) (k:∀b o,b≠it->s.heap.get? b=some o->h'.get? b=some o) (hn:H it=none) (hL:it≠X.env.locals)
  (h1:it∈X.ex\/X.s₀.heap.objs.size<=it) (h2:∀x c,X.env.cells.lookup x=some c->c≠it) (h3:∀p∈X.pn++pins,p.1≠it):Inv X pins σ H {s with heap:=h',toks:=t'}:=by
 have nit:∀b u,H b=some u->b≠it:=λb u e z=>by rw[z,hn] at e;cases e
 refine I.step (g':=s.gens) (d':=s.drawn) (ch:=[it]) (λb hb=>?_) (λb o _ _ hc e _=>k b o (λz=>hc (by simp [z])) e) (λb o _ _ hc e _=>⟨o.slots,k b o (λz=>hc (by simp [z])) e⟩) (λ_ _ _ _ n=>n)
  (λb o hc e=>⟨o,k b o (λz=>hc (by simp [z])) e⟩) (λ_ _ e=>e) (λ_ _ _ e=>e) (λb ps e=>⟨#[],by rw[e];simp⟩) (λm hm=>?_) (λb u e=>?_) I.bare
 ·have e:b=it:=by simpa using hb
  subst e;exact ⟨h1,hL,h2,h3⟩
 ·obtain ⟨o,es,ep,ho,r⟩:=hm;exact ⟨o,es,ep,k _ o (Ne.symm hL) ho,r⟩
 ·refine (I.hok b u e).stay (λc v hc q=>k c v ?_ q) (λ_ q=>q) λ_ _ q=>q;rcases hc with z|z
  ·rw[z];exact nit b u e
  ·exact nit c _ z
theorem Inv.tok (I:Inv X pins σ H s) (t:Nat):Inv X pins σ H {s with toks:=t}:=I.un (h':=s.heap) (t':=t) Un.refl I.hok
theorem Inv.kept {t':Nat} (I:Inv X pins σ H s) (k:∀b u,s.heap.get? b=some u->h'.get? b=some u):Inv X pins σ H {s with heap:=h',toks:=t'}:=I.un (Un.kept k) (I.hok.kept k)
theorem Inv.laid {a:Addr} {o:HO} {t':Nat} (I:Inv X pins σ H s) (k:∀b u,s.heap.get? b=some u->h'.get? b=some u) (hp:s.heap.objs.size<=a) (new:aZ X.prog X.w (upd H a o) h' a o):
  Inv X pins σ (upd H a o) {s with heap:=h',toks:=t'}:=I.un (Un.laid k hp (I.hok.fresh hp)) (I.hok.laid k hp new)
theorem Inv.write (I:Inv X pins σ H s) (mu:Jk (H x)) (he:e=x\/H e=some (.own x)) (k:∀b u,b≠e->s.heap.get? b=some u->h'.get? b=some u) (heo:∃u,h'.get? e=some u)
  (new:aZ X.prog X.w (upd H x o) h' x o):Inv X pins σ (upd H x o) {s with heap:=h',toks:=t'}:=I.un (Un.write mu he k heo) (I.hok.write mu he k heo new)
theorem Inv.pins_of (I:Inv X pins σ H s) (h:∀p∈pins',s.heap.get? p.1=some p.2/\H p.1=none/\p.1≠X.env.locals/\p.1∉X.fs/\∀v,p.2.data≠.cell v):Inv X pins' σ H s:=
 ⟨I.ok,I.os,I.bare,I.base,I.loc,I.cell,I.free,I.freeC,λp hp=>(mem_append.mp hp).elim (λz=>I.pin p (mem_append_left _ z)) (h p),I.hok,I.len⟩
theorem yI {N:List Str} (hN:N.Nodup) {i j:Nat} {x:Str} (a:N[i]?=some x) (b:N[j]?=some x):i=j:=by
 obtain ⟨h1,e1⟩:=List.getElem?_eq_some_iff.mp a;obtain ⟨h2,e2⟩:=List.getElem?_eq_some_iff.mp b;exact (List.getElem_inj hN).mp (e1.trans e2.symm)
theorem sI (I:Inv X pins σ H s) (hN:X.N.Nodup) (hi:X.N[i]?=some x) (hx:Loc X.env.scope x) (r:RelV v u)
  (h:∀s',Inv X pins (σ.set i (some v)) H s'->(∃a,SameBut a s.heap s'.heap/\(a=X.env.locals\/X.env.cells.lookup x=some a))->Q () s') (hf:X.fn x=true\/X.env.scope.names.lookup x=some .local:=by first|exact .inl rfl|exact .inr rfl|assumption):wpAny M A (storeName X.env x u) Q E s:=by
 obtain ⟨m,hn,hl⟩:=id I.loc;have hcls:(X.env.scope.kind==.class || (X.env.scope.kind==.module&&X.env.locals != X.env.globals))=false:=by rw[I.ok.kind];rfl
 have hiσ:i<σ.length:=by rw[I.len];exact (List.getElem?_eq_some_iff.mp hi).1
 have cne:=I.cne;have tracked:∀{a:Addr} {h':Heap},(∃o,s.heap.get? a=some o/\H a=none)->SameBut a s.heap h'->eE X.prog X.w H h':=λ{a h'} ha hs b ob e=>by
  obtain ⟨_,_,hfree⟩:=ha;refine (I.hok b ob e).stay (λc w' hc q=>(hs.2 c ?_).trans q) (λ_ q=>q) λ_ _ q=>q;rintro rfl;rcases hc with rfl|hc
  ·rw[hfree] at e;cases e
  ·rw[hfree] at hc;cases hc
 rcases hx with hk|hk
 ·refine wpAny_storeName_local hk hn (λh' hn' hs=>?_) hcls;obtain ⟨oL,_,_,hoL,_⟩:=id hn;refine h _ ⟨I.ok,I.os,I.bare,⟨λb o e n hb hx=>?_,λb o e n hb hx=>?_,I.base.free,λb o e hx=>?_,I.base.tups,I.base.frzs,I.base.tbls⟩,⟨_,hn',λj y v' e1 e2 e3=>?_⟩,λy c e=>?_,I.free,I.freeC,λp hp=>?_,tracked ⟨oL,hoL,I.free⟩ hs,by simpa using I.len⟩ ⟨_,hs,.inl rfl⟩
  ·exact (hs.2 b (ne_of_lt (Nat.lt_of_lt_of_le (lt_size e) I.ok.above))).trans (I.base.keep b o e n hb hx)
  ·obtain ⟨sl,e1⟩:=I.base.slot b o e n hb hx;exact ⟨sl,(hs.2 b (ne_of_lt (Nat.lt_of_lt_of_le (lt_size e) I.ok.above))).trans e1⟩
  ·obtain ⟨o',e1⟩:=I.base.there b o e hx;exact ⟨o',(hs.2 b (ne_of_lt (Nat.lt_of_lt_of_le (lt_size e) I.ok.above))).trans e1⟩
  ·by_cases hj:j=i
   ·subst hj;rw[hi] at e1;cases e1;rw[List.getElem?_set_self hiσ] at e2;cases e2;exact ⟨u,r,.inl ⟨hk,by simp⟩⟩
   ·rw[List.getElem?_set_ne (Ne.symm hj)] at e2;obtain ⟨u',r',q⟩:=hl j y v' e1 e2 e3;refine ⟨u',r',?_⟩;rcases q with ⟨k,e⟩|⟨k,c,e,z⟩
    ·refine .inl ⟨k,?_⟩;have:y≠x:=λe=>hj (yI hN e1 (e▸hi));simp [this,e]
    ·exact .inr ⟨k,c,e,z.sameBut hs (cne y c e)⟩
  ·obtain ⟨w',z⟩:=I.cell y c e;exact ⟨w',z.sameBut hs (cne y c e)⟩
  ·obtain ⟨e,n,ne,nf,d⟩:=I.pin p hp;exact ⟨(hs.2 p.1 ne).trans e,n,ne,nf,d⟩
 ·have hfn:X.fn x=true:=by
   rcases hf with z|z
   ·exact z
   ·rw[z] at hk;cases hk
  obtain ⟨c,hc⟩:=I.ok.has x (.inl hk);obtain ⟨w',z⟩:=I.cell x c hc;refine wpAny_storeName_cell I.ok.kind hk hc z (λh' hc' hs=>?_);obtain ⟨oc,hoc,hocd⟩:=id z;refine h {s with heap:=h'} ⟨I.ok,I.os,I.bare,⟨λb o e n hb hx=>?_,λb o e n hb hx=>?_,I.base.free,λb o e hx=>?_,I.base.tups,I.base.frzs,I.base.tbls⟩,⟨m,hn.sameBut hs (Ne.symm (cne x c hc)),λj y v' e1 e2 e3=>?_⟩,λy c' e=>?_,I.free,I.freeC,λp hp=>?_,tracked ⟨oc,hoc,I.freeC x c hc⟩ hs,by simpa using I.len⟩ ⟨c,hs,.inr hc⟩
  ·exact (hs.2 b (ne_of_lt (Nat.lt_of_lt_of_le (lt_size e) (I.ok.cab x c hfn hc)))).trans (I.base.keep b o e n hb hx)
  ·obtain ⟨sl,e1⟩:=I.base.slot b o e n hb hx;exact ⟨sl,(hs.2 b (ne_of_lt (Nat.lt_of_lt_of_le (lt_size e) (I.ok.cab x c hfn hc)))).trans e1⟩
  ·obtain ⟨o',e1⟩:=I.base.there b o e hx;exact ⟨o',(hs.2 b (ne_of_lt (Nat.lt_of_lt_of_le (lt_size e) (I.ok.cab x c hfn hc)))).trans e1⟩
  ·by_cases hj:j=i
   ·subst hj;rw[hi] at e1;cases e1;rw[List.getElem?_set_self hiσ] at e2;cases e2;exact ⟨u,r,.inr ⟨.inl hk,c,hc,hc'⟩⟩
   ·rw[List.getElem?_set_ne (Ne.symm hj)] at e2;obtain ⟨u',r',q⟩:=hl j y v' e1 e2 e3;refine ⟨u',r',?_⟩;rcases q with q|⟨k,c',e,z'⟩
    ·exact .inl q
    ·refine .inr ⟨k,c',e,z'.sameBut hs ?_⟩;rintro rfl;exact hj (yI hN e1 (I.ok.inj _ _ _ e hc▸hi))
  ·by_cases hcc:c'=c
   ·subst hcc;exact ⟨_,hc'⟩
   ·obtain ⟨w2,z2⟩:=I.cell y c' e;exact ⟨w2,z2.sameBut hs hcc⟩
  ·obtain ⟨e,n,ne,nf,d⟩:=I.pin p hp;refine ⟨(hs.2 p.1 ?_).trans e,n,ne,nf,d⟩;intro q;rw[q,hoc] at e;have q':oc=p.2:=Option.some.inj e;exact d w' (by rw[<-q'];exact hocd)
theorem xK {M:Model} {A:Around} {E:Value->Shared->Prop} {i:Nat} {x:Str} {v:V} {u:Value} {Q:Unit->Shared->Prop} (I:Inv X pins σ H s) (hN:X.N.Nodup) (hi:X.N[i]?=some x) (hx:Loc X.env.scope x) (r:RelV v u)
  (h:∀s',Inv X pins (σ.set i (some v)) H s'->Q () s') (hf:X.fn x=true\/X.env.scope.names.lookup x=some .local:=by first|exact .inl rfl|exact .inr rfl|assumption):wpAny M A (storeName X.env x u) Q E s:=
 sI I hN hi hx r (λs' I' _=>h s' I') hf
theorem Inv.call' (I:Inv X pins σ H s) (ho:s'.os=s.os) (u:Un (fV X.stack) ch H H' s.heap s'.heap) (hok:eE X.prog X.w H' s'.heap) (hg:AllBare s'.gens)
  (hch:∀b∈ch,(b∈X.ex\/X.s₀.heap.objs.size<=b)/\b≠X.env.locals/\(∀x c,X.env.cells.lookup x=some c->c≠b)/\∀p∈X.pn++pins,p.1≠b):Inv X pins σ H' s':=by
 obtain ⟨h',g',d',t',o'⟩:=s';have e:o'=s.os:=ho;subst e;exact I.call (g':=g') (t':=t') (d':=d') u hok hg hch
end
abbrev XK:=Value->Option Addr->Hp->Prop
abbrev St:=List (Option V)
abbrev VK:=V->Hp->Prop
abbrev TE:=St->Hp->VK->Prop
abbrev TT:=St->Hp->(Bool->Hp->Prop)->Prop
abbrev TA:=St->Hp->(List V->Hp->Prop)->Prop
structure Ends where
 nx:St->Hp->Prop
 rt:VK
 bk:St->Hp->Prop:=λ_ _=>False
 ct:St->Hp->Prop:=λ_ _=>False
abbrev TS:=Ends->St->Hp->Prop
def EP (X:Cx) (pins:List (Addr × Obj)) (σ:St) (Q:VK) (u:Value) (s':Shared):Prop:=∃v H',Inv X pins σ H' s'/\RelV v u/\Q v H'
def TP (X:Cx) (pins:List (Addr × Obj)) (σ:St) (Q:Bool->Hp->Prop) (b:Bool) (s':Shared):Prop:=∃H',Inv X pins σ H' s'/\Q b H'
def AP (X:Cx) (pins:List (Addr × Obj)) (σ:St) (Q:List V->Hp->Prop) (us:List Value) (s':Shared):Prop:=∃vs H',Inv X pins σ H' s'/\Vals vs us/\Q vs H'
def SP (X:Cx) (pins:List (Addr × Obj)) (D:Ends) (f:Flow) (s':Shared):Prop:=
 match f with
 | .next=>∃σ' H',Inv X pins σ' H' s'/\D.nx σ' H'
 | .brk=>∃σ' H',Inv X pins σ' H' s'/\D.bk σ' H'
 | .cont=>∃σ' H',Inv X pins σ' H' s'/\D.ct σ' H'
 | .ret u=>∃v σ' H',Inv X pins σ' H' s'/\RelV v u/\D.rt v H'
def PE (X:Cx) (e:Expr) (t:TE):Prop:=
 ∀(pins:List (Addr × Obj)) (s:Shared) (σ:St) (H:Hp) (Q:VK),Inv X pins σ H s->t σ H Q->wpAny (model X.prog X.w) X.A (eval e X.env) (EP X pins σ Q) X.xe s
def PT (X:Cx) (e:Expr) (t:TT):Prop:=
 ∀(pins:List (Addr × Obj)) (s:Shared) (σ:St) (H:Hp) (Q:Bool->Hp->Prop),Inv X pins σ H s->t σ H Q->wpAny (model X.prog X.w) X.A (isTrue e X.env (eval e X.env)) (TP X pins σ Q) X.xe s
def PW (X:Cx) (e:Expr) (t:TT):Prop:=
 ∀(whole:Sem Value) (pins:List (Addr × Obj)) (s:Shared) (σ:St) (H:Hp) (Q:Bool->Hp->Prop),Inv X pins σ H s->t σ H Q->wpAny (model X.prog X.w) X.A (isTrue e X.env whole) (TP X pins σ Q) X.xe s
theorem PW.pt {X:Cx} {e:Expr} {t:TT} (h:PW X e t):PT X e t:=h _
def PA (X:Cx) (es:List Expr) (t:TA):Prop:=
 ∀(pos:Pos) (pins:List (Addr × Obj)) (s:Shared) (σ:St) (H:Hp) (Q:List V->Hp->Prop),Inv X pins σ H s->t σ H Q->wpAny (model X.prog X.w) X.A (spliced (backTo pos (starEach es X.env))) (AP X pins σ Q) X.xe s
def PS (X:Cx) (st:Stmt) (t:TS):Prop:=
 ∀(pins:List (Addr × Obj)) (s:Shared) (σ:St) (H:Hp) (D:Ends),Inv X pins σ H s->t D σ H->wpAny (model X.prog X.w) X.A (exec st X.env) (SP X pins D) X.xe s
def Cc (X:Cx) (st:List Stmt) (t:TS):Prop:=
 ∀(pins:List (Addr × Obj)) (s:Shared) (σ:St) (H:Hp) (D:Ends),Inv X pins σ H s->t D σ H->wpAny (model X.prog X.w) X.A (execs st X.env) (SP X pins D) X.xe s
theorem bU {α:Type} {t:Sem α} {Q Q':α->Shared->Prop} {M:Model} {A:Around} {E:Value->Shared->Prop} {s:Shared} (h:wpAny M A t Q E s) (hQ:∀a s,Q a s->Q' a s):wpAny M A t Q' E s:=wpAny_mono h hQ λ_ _ x=>x
section
variable {X:Cx}
def Km (i:Nat):TE:=λσ H Q=>∃v,σ[i]?=some (some v)/\Q v H
def tC (v:V):TE:=λ_ H Q=>Q v H
theorem YL (hN:X.N[i]?=some x) (hv:Jz X.env.scope x) (hd:(x==("__debug__":Str))=false:=by decide) (hcd:(x==("__classdict__":Str))=false:=by decide):PE X (.Name x pos) (Km i):=by
 intro pins s σ H Q I h;obtain ⟨v,e,h⟩:=h;obtain ⟨m,hn,hl⟩:=I.loc;obtain ⟨u,r,l⟩:=hl i x v hN e hv;have fin:EP X pins σ Q u s:=⟨v,H,I,r,h⟩;rcases l with ⟨hk,hm⟩|⟨hk,c,hc,hcell⟩
 ·exact wpAny_Name (wpAny_loadName_local I.ok.kind hk hn hm fin) hd
 ·rcases hk with hk|hk
  ·exact wpAny_Name (wpAny_loadName_cell I.ok.kind hk hc hcell fin) hd
  ·exact wpAny_Name (wpAny_loadName_free I.ok.kind hk hc hcell fin hcd) hd
theorem YS {i j pos}:PE X (.Constant (.int i) j pos) (tC (.int i)):=λ_ _ _ H _ I h=>wpAny_Constant_int ⟨.int i,H,I.tok _,⟨_,rfl⟩,h⟩
theorem Fj {b j pos}:PE X (.Constant (.bool b) j pos) (tC (.bl b)):=λ_ _ _ H _ I h=>Constant_bool ⟨.bl b,H,I,rfl,h⟩
theorem YQ {j pos}:PE X (.Constant .none j pos) (tC .non):=λ_ _ _ H _ I h=>Constant_none ⟨.non,H,I,rfl,h⟩
theorem YN {x j pos}:PE X (.Constant (.str x) j pos) (tC (.str x)):=λ_ _ _ H _ I h=>Calls.Constant_str ⟨.str x,H,I.tok _,⟨_,rfl⟩,h⟩
def Gl (X:Cx) (x:Str):Prop:=X.env.kindOf x=some .globalImplicit
theorem iW {E:Value->Shared->Prop} {pins:List (Addr × Obj)} {s:Shared} {σ:St} {H:Hp} {x:Str} {u:Value} {pos:Pos} {Q:Value->Shared->Prop} (I:Inv X pins σ H s) (hg:Gl X x) (hm:X.mg x=some u) (h:Q u s)
  (hd:(x==("__debug__":Str))=false:=by decide):wpAny (model X.prog X.w) X.A (eval (.Name x pos) X.env) Q E s:=
 Calls.Name_function_global I.ok.kind hg (Calls.loadGlobal_global (by rw[I.ok.glob];exact I.mod.glob.keeps I.bk) hm h) hd
theorem fQ {E:Value->Shared->Prop} {pins:List (Addr × Obj)} {s:Shared} {σ:St} {H:Hp} {x:Str} {u:Value} {pos:Pos} {Q:Value->Shared->Prop} (I:Inv X pins σ H s) (hg:Gl X x) (hm:X.mg x=none) (hv:bootBuiltins x=some u) (h:Q u s)
  (hn:x≠"__name__":=by decide) (hd:(x==("__debug__":Str))=false:=by decide):wpAny (model X.prog X.w) X.A (eval (.Name x pos) X.env) Q E s:=by
 obtain ⟨mb,h1,h2⟩:=I.mod.blt;exact Calls.Name_function_global I.ok.kind hg (Calls.loadGlobal_builtin (by rw[I.ok.glob];exact I.mod.glob.keeps I.bk) hm (by rw[I.ok.blt];exact h1.keeps I.bk) ((h2 x hn).trans hv) h) hd
theorem RM (hg:Gl X x) (hm:X.mg x=some u) (r:RelV v u) (hd:(x==("__debug__":Str))=false:=by decide):PE X (.Name x pos) (tC v):=
 λ_ _ _ H _ I h=>iW I hg hm ⟨v,H,I,r,h⟩ hd
theorem RO (hg:Gl X x) (hm:X.mg x=none) (hv:bootBuiltins x=some u) (r:RelV v u) (hn:x≠"__name__":=by decide) (hd:(x==("__debug__":Str))=false:=by decide):PE X (.Name x pos) (tC v):=
 λ_ _ _ H _ I h=>fQ I hg hm hv ⟨v,H,I,r,h⟩ hn hd
variable {a b:Expr} {ta tb:TE} {pos:Pos}
variable {tA tB':TT} {rest:List Expr}
def Ko (t:TT):TT:=λσ H Q=>t σ H λc H1=>Q (!c) H1
theorem RE (ha:PT X a tA):PW X (.BoolOp .And [a] pos) tA:=by
 intro wh pins s σ H Q I h;refine isTrue_and (bU (ha pins s σ H Q I h) λc s1 e=>?_);cases c with
 |true=>exact isTrue_and_nil e
 |false=>exact e
theorem YB (ha:PT X a tA):PW X (.BoolOp .Or [a] pos) tA:=by
 intro wh pins s σ H Q I h;refine isTrue_or (bU (ha pins s σ H Q I h) λc s1 e=>?_);cases c with
 |false=>exact isTrue_or_nil e
 |true=>exact e
theorem YE (ha:PT X a tA):PT X (.UnaryOp .Not a pos) (Ko tA):=by
 intro pins s σ H Q I h;exact isTrue_not (ha pins s σ H (λc H1=>Q (!c) H1) I h)
theorem YO {op} (h:PE X a t):PE X (.BoolOp op [a] pos) t:=λpins s σ H Q I hw=>BoolOp_one (h pins s σ H Q I hw)
end
def aP (K:Fg) (H:Hp) (a:Addr) (xs:List V):Prop:=
 Rd H a (.lst xs)\/
  ∃(o:Obj) (its:Array Value) (n:Nat),K.lookup a=some o/\o.cls=.type "list"/\o.dict=none/\o.data=.seq its n/\its.size<=sizeLine/\Vals xs its.toList
def cZ (K:Fg) (H:Hp) (a:Addr) (xs:List V):Prop:=
 Rd H a (.tup xs)\/
  ∃(o:Obj) (its:Array Value) (n:Nat),K.lookup a=some o/\o.cls=.type "tuple"/\o.data=.seq its n/\its.size<=sizeLine/\Vals xs its.toList
def Mh:Value->Option V
 | .none=>some .non
 | .bool b=>some (.bl b)
 | .int i _=>some (.int i)
 | .str x _=>some (.str x)
 | .bytes b _=>some (.byt b)
 | .float b _=>some (.flt b)
 | .ref a=>some (.ref a)
 | .type n=>some (.ty n)
 |_=>none
theorem RelV.abs (r:RelV x u):Mh u=some x:=by
 cases x with
 |non=>cases r;rfl
 |bl _=>cases r;rfl
 |int _=>obtain ⟨t,rfl⟩:=r;rfl
 |str _=>obtain ⟨t,rfl⟩:=r;rfl
 |byt _=>obtain ⟨t,rfl⟩:=r;rfl
 |flt _=>obtain ⟨t,rfl⟩:=r;rfl
 |ref _=>cases r;rfl
 |ty _=>cases r;rfl
theorem RelV.inj {x y:V} {u:Value} (r:RelV x u) (q:RelV y u):x=y:=Option.some.inj (r.abs.symm.trans q.abs)
theorem Vals.inj:∀{xs ys:List V} {us:List Value},Vals xs us->Vals ys us->xs=ys
 |_,_,_,.nil,.nil=>rfl
 |_,_,_,.cons r t,.cons r' t'=>by rw[r.inj r',Vals.inj t t']
section
variable {X:Cx} {pins:List (Addr × Obj)} {σ:St} {H:Hp} {s:Shared} {a:Addr} {xs ys:List V}
theorem aP.of {K:Fg} (h:H a=some (.lst xs)):aP K H a xs:=.inl (.inl h)
theorem cZ.of {K:Fg} (h:H a=some (.tup xs)):cZ K H a xs:=.inl (.inl h)
theorem Inv.list (I:Inv X pins σ H s) (h:aP X.K H a xs):∃its:List Value,Vals xs its/\PlainL s.heap a its.toArray/\xs.length<=sizeLine:=by
 rcases h with h|⟨o,its,n,hk,hc,hd,hs,hz,r⟩
 ·obtain ⟨z,its,n,r,e⟩:=h.ok I.hok;exact ⟨its,r,⟨_,n,e,rfl,rfl,rfl⟩,z⟩
 ·refine ⟨its.toList,r,⟨o,n,I.kIn a o hk,hc,hd,by simpa using hs⟩,?_⟩;have e:=r.length;simp only [length_toList] at e;lia
theorem Inv.tuple (I:Inv X pins σ H s) (h:cZ X.K H a xs):∃its:List Value,Vals xs its/\IsTup s.heap a its.toArray/\xs.length<=sizeLine:=by
 rcases h with h|⟨o,its,n,hk,hc,hs,hz,r⟩
 ·obtain ⟨z,its,r,p⟩:=h.ok I.hok;exact ⟨its,r,p,z⟩
 ·refine ⟨its.toList,r,⟨o,I.kIn a o hk,hc,n,by simpa using hs⟩,?_⟩;have e:=r.length;simp only [length_toList] at e;lia
theorem Inv.list_inj (I:Inv X pins σ H s) (h:aP X.K H a xs) (h':aP X.K H a ys):xs=ys:=by
 obtain ⟨its,r,⟨o,n,e,_,_,d⟩,_⟩:=I.list h;obtain ⟨its',r',⟨o',n',e',_,_,d'⟩,_⟩:=I.list h';rw[e] at e';cases e';rw[d] at d';injection d' with d1 _
 have:its=its':=by simpa using congrArg Array.toList d1
 subst this;exact r.inj r'
theorem Inv.tuple_inj (I:Inv X pins σ H s) (h:cZ X.K H a xs) (h':cZ X.K H a ys):xs=ys:=by
 obtain ⟨its,r,⟨o,e,_,n,d⟩,_⟩:=I.tuple h;obtain ⟨its',r',⟨o',e',_,n',d'⟩,_⟩:=I.tuple h';rw[e] at e';cases e';rw[d] at d';injection d' with d1 _
 have:its=its':=by simpa using congrArg Array.toList d1
 subst this;exact r.inj r'
end
section
variable {X:Cx} {pins:List (Addr × Obj)} {σ:St} {H:Hp} {s:Shared} {E:Value->Shared->Prop}
end
section
variable {X:Cx} {st:Stmt} {rest:List Stmt} {t u:TS} {e:Expr} {te:TE} {pos:Pos}
def VH:TS:=λD σ H=>D.nx σ H
def Dv (t u:TS):TS:=λD σ H=>t {D with nx:=u D} σ H
theorem RF:Cc X [] VH:=λ_ _ σ H _ I h=>wpAny_execs_nil ⟨σ,H,I,h⟩
theorem KI (h1:PS X st t) (h2:Cc X rest u):Cc X (st::rest) (Dv t u):=by
 intro pins s σ H D I h;refine wpAny_execs_cons (bU (h1 pins s σ H {D with nx:=u D} I h) λf s1 q=>?_);cases f with
 |next=>
  obtain ⟨σ',H',I',q⟩:=q;exact h2 pins s1 σ' H' D I' q
 |ret v=>exact q
 |brk=>exact q
 |cont=>exact q
theorem Inv.quiet {pins:List (Addr × Obj)} {σ:St} {H:Hp} {s:Shared} (I:Inv X pins σ H s):interactive X.env=false:=by simp [interactive,I.ok.kind]
def Eb (te:TE):TS:=λD σ H=>te σ H λ_ H1=>D.nx σ H1
theorem RG (he:PE X e te) (hs:swapsWith e none pos.line X.env=pure false:=by rfl):PS X (.Expr e pos) (Eb te):=by
 intro pins s σ H D I h;exact wpAny_Expr_any (bU (he pins s σ H _ I h) λv s1 ⟨x,H1,I1,r1,q1⟩=>⟨σ,H1,I1,q1⟩) I.quiet hs
def Kn (te:TE):TS:=λD σ H=>te σ H D.rt
theorem YF (he:PE X e te):PS X (.Return (some e) pos) (Kn te):=by
 intro pins s σ H D I h;exact wpAny_Return_some (bU (he pins s σ H _ I h) λv s1 ⟨x,H1,I1,r1,q1⟩=>⟨x,σ,H1,I1,r1,q1⟩)
def JO:TS:=λ_ _ _=>False
theorem KL:PS X st JO:=λ_ _ _ _ _ _ h=>h.elim
end
abbrev TG:=V->St->Hp->(St->Hp->Prop)->Prop
abbrev UY:=List V->St->Hp->(St->Hp->Prop)->Prop
def PG (X:Cx) (target:Expr) (t:TG):Prop:=
 ∀(pins:List (Addr × Obj)) (s:Shared) (σ:St) (H:Hp) (v:V) (u:Value) (Q:St->Hp->Prop),Inv X pins σ H s->RelV v u->t v σ H Q->
  wpAny (model X.prog X.w) X.A (assign target X.env u) (λ_ s'=>∃σ' H',Inv X pins σ' H' s'/\Q σ' H') X.xe s
def Cw (X:Cx) (ts:List Expr) (t:UY):Prop:=
 ∀(pins:List (Addr × Obj)) (s:Shared) (σ:St) (H:Hp) (vs:List V) (us:List Value) (Q:St->Hp->Prop),Inv X pins σ H s->Vals vs us->t vs σ H Q->
  wpAny (model X.prog X.w) X.A (assignInOrder ((assignEach ts X.env).map (·.2)) us) (λ_ s'=>∃σ' H',Inv X pins σ' H' s'/\Q σ' H') X.xe s
abbrev Bz:=V->V->V->Hp->(Hp->Prop)->Prop
def Cd (X:Cx) (t:Bz):Prop:=
 ∀(pins:List (Addr × Obj)) (s:Shared) (σ:St) (H:Hp) (o i v:V) (ov iv u:Value) (Q:Hp->Prop),Inv X pins σ H s->RelV o ov->RelV i iv->RelV v u->t o i v H Q->
  wpAny (model X.prog X.w) X.A (setItem ov iv u) (λ_ s'=>∃H',Inv X pins σ H' s'/\Q H') X.xe s
section
variable {X:Cx} {pos:Pos}
def EB (i:Nat):TG:=λv σ H Q=>Q (σ.set i (some v)) H
theorem DG (hN:X.N.Nodup) (hi:X.N[i]?=some x) (hx:Loc X.env.scope x) (hf:X.fn x=true\/X.env.scope.names.lookup x=some .local:=by first|exact .inl rfl|exact .inr rfl|assumption):PG X (.Name x pos) (EB i):=by
 intro pins s σ H v u Q I r h;exact wpAny_assign_Name (xK I hN hi hx r (λs' I'=>⟨_,H,I',h⟩) hf)
def Ig:UY:=λvs σ H Q=>vs=[]/\Q σ H
def WG (t:TG) (u:UY):UY:=λvs σ H Q=>∃v r,vs=v::r/\t v σ H λσ' H'=>u r σ' H' Q
theorem RK:Cw X [] Ig:=by
 intro pins s σ H vs us Q I r h;obtain ⟨e,h⟩:=h;subst e;cases r;exact assignInOrder_nil ⟨σ,H,I,h⟩
theorem KR {e:Expr} {es:List Expr} {t:TG} {u:UY} (h1:PG X e t) (h2:Cw X es u)
  (hs:(assignEach (e::es) X.env).map (·.2)=assign e X.env::(assignEach es X.env).map (·.2):=by rfl):Cw X (e::es) (WG t u):=by
 intro pins s σ H vs us Q I r h;obtain ⟨v,vr,e1,h⟩:=h;subst e1;cases r with
 |cons r rr=>
  rw[hs];refine assignInOrder_cons (bU (h1 pins s σ H _ _ _ I r h) λ_ s1 ⟨σ1,H1,I1,q1⟩=>?_);exact h2 pins s1 σ1 H1 _ _ Q I1 rr q1
def Ie (K:Fg) (n:Nat) (t:UY):TG:=λv σ H Q=>∃a xs,v=.ref a/\cZ K H a xs/\xs.length=n/\t xs σ H Q
theorem YI (hc:X.calm=true) (h:Cw X es t)
  (hn:(assignEach es X.env).length=n:=by rfl) (hst:(assignEach es X.env).findIdx? (·.1)=none:=by rfl):PG X (.Tuple es k pos) (Ie X.K n t):=by
 intro pins s σ H v u Q I r hw;obtain ⟨a,xs,e1,hq,hl,hw⟩:=hw;subst e1;cases r;obtain ⟨its,rv,ht,hz⟩:=I.tuple hq;refine assign_Tuple_tuple (I.ok.hd hc) ht (by simp [hn,<-hl,rv.length]) hst λh' hx=>?_;have I1:Inv X pins σ H {s with heap:=h'}:=I.kept (t':=s.toks) λb o e=>hx b o (ne_of_lt (lt_size e)) e;exact h pins _ σ H xs _ Q I1 (by simpa using rv) hw
def Mb (to ti:TE) (t:Bz):TG:=λv σ H Q=>to σ H λo H1=>ti σ H1 λi H2=>t o i v H2 λH3=>Q σ H3
theorem YJ {o i:Expr} {to ti:TE} {t:Bz} (ho:PE X o to) (hi:PE X i ti) (hs:Cd X t)
  (ha:∀v,assign (.Subscript o i pos) X.env v=(do
   let ov <-holding [v] (eval o X.env)
   let iv <-holding [v,ov] (eval i X.env)
   standAt pos
   holding [v,ov,iv] (setItem ov iv v)
   release [v,ov,iv] []):=by intro _;rfl):PG X (.Subscript o i pos) (Mb to ti t):=by
 intro pins s σ H v u Q I r h;rw[ha];refine wpAny_bind (wpAny_holding (bU (ho pins s σ H _ I h) λov s1 ⟨x,H1,I1,r1,q1⟩=>?_));refine wpAny_bind (wpAny_holding (bU (hi pins s1 σ H1 _ I1 q1) λiv s2 ⟨y,H2,I2,r2,q2⟩=>?_));refine wpAny_bind (wpAny_standAt (wpAny_bind (wpAny_holding (bU (hs pins s2 σ H2 x y v ov iv u _ I2 r1 r2 r q2) λ_ s3 ⟨H3,I3,q3⟩=>?_))));exact wpAny_release ⟨σ,H3,I3,q3⟩
def XE (te:TE) (g:TG):TS:=λD σ H=>te σ H λx H1=>g x σ H1 D.nx
theorem KN {tg e:Expr} {te:TE} {g:TG} (he:PE X e te) (hg:PG X tg g) (hs:swapsWithSole [tg] e pos.line X.env=pure false:=by rfl) (hw:swappedStores [tg] e X.env=pure none:=by rfl)
  (h1:(assignEach [tg] X.env).map (·.2)=[assign tg X.env]:=by rfl):PS X (.Assign [tg] e pos) (XE te g):=by
 intro pins s σ H D I h;refine wpAny_Assign_stores (bU (he pins s σ H _ I h) λv s1 ⟨x,H1,I1,r1,q1⟩=>?_) hs hw;rw[h1];exact bU (hg pins s1 σ H1 x v _ I1 r1 q1) λ_ s2 q=>q
theorem KJ {i:Nat} {x:Str} {e:Expr} {te:TE} {pos':Pos} (hN:X.N.Nodup) (hi:X.N[i]?=some x) (hx:Loc X.env.scope x) (he:PE X e te) (hs:swapsWith e (some (.Name x pos')) pos.line X.env=pure false:=by rfl) (hf:X.fn x=true\/X.env.scope.names.lookup x=some .local:=by first|exact .inl rfl|exact .inr rfl|assumption):
  PS X (.Assign [.Name x pos'] e pos) (XE te (EB i)):=by
 intro pins s σ H D I h;refine wpAny_Assign_Name (bU (he pins s σ H _ I h) λv s1 ⟨y,H1,I1,r1,q1⟩=>?_) hs;exact xK I1 hN hi hx r1 (λs2 I2=>⟨_,H1,I2,q1⟩) hf
end
structure It where
 go:Nat->Hp->Prop
 yld:Nat->Hp->V->Hp->Prop
 stop:Nat->Hp->Prop
def mL (X:Cx) (pins:List (Addr × Obj)) (H:Hp) (b:Addr):Prop:=
 H b=none/\b≠X.env.locals/\b∉X.fs/\(b∈X.ex\/X.s₀.heap.objs.size<=b)/\(∀x c,X.env.cells.lookup x=some c->c≠b)/\∀p∈X.pn++pins,p.1≠b
theorem Inv.fpOk {X:Cx} {pins:List (Addr × Obj)} {σ:St} {H H':Hp} {s:Shared} {b:Addr} (I:Inv X pins σ H s) (hb:s.heap.objs.size<=b) (hn:H' b=none):mL X pins H' b:=by
 refine ⟨hn,ne_of_gt (Nat.lt_of_lt_of_le I.lt hb),I.nofs hb,.inr (le_trans I.sz hb),λx c e z=>?_,λp hp z=>?_⟩
 ·obtain ⟨v,q⟩:=I.cell x c e;exact absurd (Nat.lt_of_lt_of_le q.lt (by rw[z];exact hb)) (lt_irrefl _)
 ·exact absurd (Nat.lt_of_lt_of_le (lt_size (I.pin p hp).1) (by rw[z];exact hb)) (lt_irrefl _)
structure Turn (P:Program) (w:World) (K:Fg) (tg:Expr) (J:It) (fp:List Addr) (it:Addr) (tn:Nat->Heap->Prop):Prop where
 mem:it∈fp
 obj:∀i h,tn i h->∀b∈fp,∃o,h.get? b=some o/\∀v,o.data≠.cell v
 keep:∀i h h',tn i h->(∀b∈fp,∀o,h.get? b=some o->h'.get? b=some o)->tn i h'
 item:∀(X:Cx),X.prog=P->X.w=w->X.K=K->X.calm=true->∀(i:Nat) (pins:List (Addr × Obj)) (s:Shared) (σ:St) (H:Hp) (E:Value->Shared->Prop),Inv X pins σ H s->(∀b∈fp,mL X pins H b)->tn i s.heap->J.go i H->
  wpAny (model P w) X.A (pyNext (.ref it)) (λr s1=>∃u,r=some u/\
   wpAny (model P w) X.A (letOwnedTupleGo tg (.ref it) u) (λ_ s2=>∃x H',Inv X pins σ H' s2/\RelV x u/\J.yld i H x H'/\tn (i+1) s2.heap/\∀b∈fp,H' b=none) E s1) E s
 done:∀(X:Cx),X.prog=P->X.w=w->X.K=K->X.calm=true->∀(i:Nat) (pins:List (Addr × Obj)) (s:Shared) (σ:St) (H:Hp) (E:Value->Shared->Prop),Inv X pins σ H s->(∀b∈fp,mL X pins H b)->tn i s.heap->J.stop i H->
  wpAny (model P w) X.A (pyNext (.ref it)) (λr s1=>r=none/\Inv X pins σ H s1) E s
 self:∀(A:Around) (i:Nat) (s:Shared) (Q:Value->Shared->Prop) (E:Value->Shared->Prop),tn i s.heap->Q (.ref it) s->wpAny (model P w) A (pyIter (.ref it)) Q E s
abbrev TI:=St->Hp->(It->Hp->Prop)->Prop
def Jj (X:Cx) (pins:List (Addr × Obj)) (σ:St) (tg:Expr) (R:It->Hp->Prop) (itv:Value) (s2:Shared):Prop:=
 ∃(it:Addr) (fp:List Addr) (tn:Nat->Heap->Prop) (J:It) (H':Hp),itv=.ref it/\Inv X pins σ H' s2/\Turn X.prog X.w X.K tg J fp it tn/\tn 0 s2.heap/\(∀b∈fp,mL X pins H' b)/\R J H'
def PI (X:Cx) (tg iter:Expr) (wi:TI):Prop:=
 ∀(pins:List (Addr × Obj)) (s:Shared) (σ:St) (H:Hp) (R:It->Hp->Prop),Inv X pins σ H s->wi σ H R->
  wpAny (model X.prog X.w) X.A (eval iter X.env) (λv s1=>wpAny (model X.prog X.w) X.A (pyIter v) (Jj X pins σ tg R) X.xe s1) X.xe s
theorem qJ (ho:s.heap.get? it=some o) (hc:o.cls=.type n) (hd:o.data=.fields vs)
  (hn:["enumerate","zip","dict_itemiterator","dict_reverseitemiterator","odict_iterator","itertools.zip_longest","itertools.pairwise"].contains n=false) (hQ:Q () s):wpAny M A (letOwnedTupleGo tg (.ref it) u) Q E s:=by
 unfold letOwnedTupleGo;cases tg<;>first
  |exact wpAny_pure hQ
  | (cases u<;>first
    |exact wpAny_pure hQ
    | (refine wpAny_bind (wpAny_load ho ?_)
       rw[hc,hd]
       show wpAny M A (if (["enumerate","zip","dict_itemiterator","dict_reverseitemiterator","odict_iterator","itertools.zip_longest","itertools.pairwise"].contains n&&vs[0]?==some (rawInt _))=true then _ else _) Q E s
       rw[if_neg (by intro h;rw[hn,Bool.false_and] at h;cases h)]
       exact wpAny_pure hQ))
def VA (K:Fg) (a:Addr):It:=
 ⟨λi H=>∃xs x,aP K H a xs/\xs[i]?=some x,λi H x H'=>H'=H/\∀xs,aP K H a xs->xs[i]?=some x,λi H=>∃xs,aP K H a xs/\xs.length<=i⟩
def Jq (K:Fg) (a:Addr):It:=
 ⟨λi H=>∃xs x,cZ K H a xs/\xs[i]?=some x,λi H x H'=>H'=H/\∀xs,cZ K H a xs->xs[i]?=some x,λi H=>∃xs,cZ K H a xs/\xs.length<=i⟩
def II (lo:Int) (n:Nat):It:=⟨λi _=>i<n,λi H x H'=>H'=H/\x=.int (lo+i),λi _=>n<=i⟩
theorem FJ {P:Program} {w:World} {K:Fg} {tg:Expr} (a it:Addr):Turn P w K tg (VA K a) [it] it (λi h=>h.IsListIter it a i) where
 mem:=by simp
 obj:=λi h st b hb=>by
  have e:b=it:=by simpa using hb
  subst e;obtain ⟨o,e,c,d⟩:=st;exact ⟨o,e,λv z=>by rw[d] at z;cases z⟩
 keep:=λi h h' st k=>st.at λo e=>k it (by simp) o e
 item:=by
  intro X hP hw hK hc i pins s σ H E I hf st hg;subst hP hw hK;obtain ⟨xs,x,hq,hx⟩:=hg;obtain ⟨its,rv,p,hz⟩:=I.list hq;obtain ⟨u,hu,ru⟩:=rv.get hx;obtain ⟨f0,f1,f2,f3,f4,f5⟩:=hf it (by simp);refine wpAny_pyNext_list_item st p.isList (x:=u) (by simpa using hu) λh' st' sb=>?_;have I1:Inv X pins σ H {s with heap:=h'}:=I.turned (t':=s.toks) (λb o hb e=>(sb.2 b hb).trans e) f0 f1 f3 f4 f5;obtain ⟨o,e,c,d⟩:=id st';exact ⟨u,rfl,qJ (s:={s with heap:=h'}) e c d (by decide) ⟨x,H,I1,ru,⟨rfl,λys hy=>by rw[I.list_inj hy hq];exact hx⟩,st',λb hb=>(hf b hb).1⟩⟩
 done:=by
  intro X hP hw hK hc i pins s σ H E I hf st hg;subst hP hw hK;obtain ⟨xs,hq,hx⟩:=hg;obtain ⟨its,rv,p,hz⟩:=I.list hq;obtain ⟨f0,f1,f2,f3,f4,f5⟩:=hf it (by simp);have hl:=rv.length;exact wpAny_pyNext_list_end (I.ok.hd hc) st p.isList (by simp;lia) λh' eb=>⟨rfl,I.turned (t':=s.toks) (λb o hb e=>eb b o hb e) f0 f1 f3 f4 f5⟩
 self:=λ_ _ _ _ _ st h=>wpAny_pyIter_listiter st h
theorem AK {P:Program} {w:World} {K:Fg} {tg:Expr} (a it:Addr):Turn P w K tg (Jq K a) [it] it (λi h=>h.IsTupleIter it a i) where
 mem:=by simp
 obj:=λi h st b hb=>by
  have e:b=it:=by simpa using hb
  subst e;obtain ⟨o,e,c,d⟩:=st;exact ⟨o,e,λv z=>by rw[d] at z;cases z⟩
 keep:=λi h h' st k=>st.at λo e=>k it (by simp) o e
 item:=by
  intro X hP hw hK hc i pins s σ H E I hf st hg;subst hP hw hK;obtain ⟨xs,x,hq,hx⟩:=hg;obtain ⟨its,rv,p,hz⟩:=I.tuple hq;obtain ⟨u,hu,ru⟩:=rv.get hx;obtain ⟨f0,f1,f2,f3,f4,f5⟩:=hf it (by simp);refine wpAny_pyNext_tuple_item st (show s.heap.IsTuple a its.toArray from p) (x:=u) (by simpa using hu) λh' st' sb=>?_;have I1:Inv X pins σ H {s with heap:=h'}:=I.turned (t':=s.toks) (λb o hb e=>(sb.2 b hb).trans e) f0 f1 f3 f4 f5;obtain ⟨o,e,c,d⟩:=id st';exact ⟨u,rfl,qJ (s:={s with heap:=h'}) e c d (by decide) ⟨x,H,I1,ru,⟨rfl,λys hy=>by rw[I.tuple_inj hy hq];exact hx⟩,st',λb hb=>(hf b hb).1⟩⟩
 done:=by
  intro X hP hw hK hc i pins s σ H E I hf st hg;subst hP hw hK;obtain ⟨xs,hq,hx⟩:=hg;obtain ⟨its,rv,p,hz⟩:=I.tuple hq;obtain ⟨f0,f1,f2,f3,f4,f5⟩:=hf it (by simp);have hl:=rv.length;exact wpAny_pyNext_tuple_end (I.ok.hd hc) st (show s.heap.IsTuple a its.toArray from p) (by simp;lia) λh' eb=>⟨rfl,I.turned (t':=s.toks) (λb o hb e=>eb b o hb e) f0 f1 f3 f4 f5⟩
 self:=λ_ _ _ _ _ st h=>wpAny_pyIter_tupleiter st h
theorem AL {P:Program} {w:World} {K:Fg} {tg:Expr} (it:Addr) (lo:Int) (n:Nat):Turn P w K tg (II lo n) [it] it (λi h=>IsRangeIter h it (lo+(i:Nat) * 1) ((n:Int) - (i:Nat)) 1) where
 mem:=by simp
 obj:=λi h st b hb=>by
  have e:b=it:=by simpa using hb
  subst e;exact ⟨_,st,λv z=>by
   have z':Data.fields _=Data.cell v:=z
   cases z'⟩
 keep:=λi h h' st k=>k it (by simp) _ st
 item:=by
  intro X hP hw hK hc i pins s σ H E I hf st hg;subst hP hw hK;obtain ⟨f0,f1,f2,f3,f4,f5⟩:=hf it (by simp);have W:=Walks.range (prog:=X.prog) (w:=X.w) (I.ok.hd hc) it lo 1 n;refine W.item i s _ _ hg st λv h' tk hv st' kk=>?_;obtain ⟨t,rfl⟩:=hv;have I1:Inv X pins σ H {s with heap:=h',toks:=tk}:=I.turned (λb o hb e=>kk b o (by simpa using hb) e) f0 f1 f3 f4 f5;refine ⟨_,rfl,qJ (s:={s with heap:=h',toks:=tk}) (n:="range_iterator") st' rfl rfl (by decide) ⟨.int (lo+i),H,I1,⟨t,?_⟩,⟨rfl,rfl⟩,st',λb hb=>(hf b hb).1⟩⟩;rw[Int.mul_one]
 done:=by
  intro X hP hw hK hc i pins s σ H E I hf st hg;subst hP hw hK;obtain ⟨f0,f1,f2,f3,f4,f5⟩:=hf it (by simp);exact wpAny_pyNext_range_end (I.ok.hd hc) st (by have:n<=i:=hg;lia) λh' eb=>⟨rfl,I.turned (t':=s.toks) (λb o hb e=>eb b o hb e) f0 f1 f3 f4 f5⟩
 self:=λ_ _ _ _ _ st h=>wpAny_pyIter_rangeiter st h
section
variable {X:Cx} {tg:Expr}
theorem xZ {pins:List (Addr × Obj)} {σ:St} {H:Hp} {s:Shared} {R:It->Hp->Prop} {E:Value->Shared->Prop} {lo hi:Int} {t u v:Tok} {tk:Nat} (I:Inv X pins σ H s) (h1:-(2 ^ 62)<=lo) (h2:lo<2 ^ 62) (h3:-(2 ^ 62)<=hi) (h4:hi<2 ^ 62)
  (q:R (II lo (hi - lo).toNat) H):wpAny (model X.prog X.w) X.A (pyIter (.ref s.heap.objs.size)) (Jj X pins σ tg R) E {s with heap:=s.heap.push {cls:=.type "range",data:=.fields #[.int lo t,.int hi u,.int 1 v]},toks:=tk}:=by
 refine wpAny_pyIter_range (IsRange.new ..) (small_one h1 h2 h3 h4) ?_;have I1:Inv X pins σ H {s with heap:=s.heap.push {cls:=.type "range",data:=.fields #[.int lo t,.int hi u,.int 1 v]},toks:=tk}:=I.kept λb o e=>get?_push_of_some _ e;refine ⟨(s.heap.push {cls:=.type "range",data:=.fields #[.int lo t,.int hi u,.int 1 v]}).objs.size,[(s.heap.push {cls:=.type "range",data:=.fields #[.int lo t,.int hi u,.int 1 v]}).objs.size],_,_,H,rfl,
  I1.kept (t':=tk) λb o e=>get?_push_of_some _ e,AL _ lo (hi - lo).toNat,?_,λb hb=>?_,q⟩
 ·have e1:lo+((0:Nat):Int) * 1=lo:=by simp
  have e2:(((hi - lo).toNat:Nat):Int) - ((0:Nat):Int)=Builtin.Range.rangeSize lo hi 1:=by rw[rangeSize_one];split<;>lia
  show IsRangeIter _ _ (lo+((0:Nat):Int) * 1) ((((hi - lo).toNat:Nat):Int) - ((0:Nat):Int)) 1;rw[e1,e2];exact get?_push_size _ rfl
 ·have e:b=(s.heap.push {cls:=.type "range",data:=.fields #[.int lo t,.int hi u,.int 1 v]}).objs.size:=by simpa using hb
  subst e;exact I1.fpOk (Nat.le_refl _) (I1.hok.fresh (Nat.le_refl _))
def Dz (wi:TI) (g:TG) (tb:TS):TS:=λD σ H=>wi σ H λJ H1=>∃W:Nat->Nat->St->Hp->Prop,(∃m,W 0 m σ H1)/\∀i m σ H,W i m σ H->
 (J.stop i H/\D.nx σ H)\/(J.go i H/\∃N:St->Hp->Prop,(∀σ' H',N σ' H'->∃m',m'<m/\W (i+1) m' σ' H')/\∀x H',J.yld i H x H'->g x σ H' λσ2 H2=>tb {D with nx:=N,ct:=N,bk:=D.nx} σ2 H2)
def pN (fp:List Addr) (h:Heap):List (Addr × Obj):=fp.filterMap λb=>(h.get? b).map λo=>(b,o)
theorem gK {fp:List Addr} {h:Heap} {b:Addr} {o:Obj} (hb:b∈fp) (e:h.get? b=some o):(b,o)∈pN fp h:=mem_filterMap.mpr ⟨b,hb,by rw[e];rfl⟩
theorem GP (hp:p∈pN fp h):p.1∈fp/\h.get? p.1=some p.2:=by
 obtain ⟨b,hb,e⟩:=mem_filterMap.mp hp;cases q:h.get? b with
 |none=>rw[q] at e;cases e
 |some o=>
  rw[q] at e;have e':(b,o)=p:=Option.some.inj e;subst e';exact ⟨hb,q⟩
theorem Inv.pinned {pins:List (Addr × Obj)} {σ:St} {H:Hp} {s:Shared} {fp:List Addr} (I:Inv X pins σ H s) (hf:∀b∈fp,mL X pins H b) (ho:∀b∈fp,∃o,s.heap.get? b=some o/\∀v,o.data≠.cell v):Inv X (pins++pN fp s.heap) σ H s:=
 I.pins_of λp hp=>(mem_append.mp hp).elim (λz=>I.pin p (mem_append_right _ z)) λz=>by
  obtain ⟨hb,e⟩:=GP z;obtain ⟨f0,f1,f2,_⟩:=hf p.1 hb;obtain ⟨o,e',d⟩:=ho p.1 hb;rw[e] at e';cases e';exact ⟨e,f0,f1,f2,d⟩
theorem Inv.unpinned {pins pl:List (Addr × Obj)} {σ:St} {H:Hp} {s:Shared} (I:Inv X (pins++pl) σ H s):Inv X pins σ H s:=I.pins_of λp hp=>I.pin p (mem_append_right _ (mem_append_left _ hp))
theorem YG {iter:Expr} {body:List Stmt} {wi:TI} {g:TG} {tb:TS} {pos:Pos} (hp:PassesOwn (model X.prog X.w) X.A X.env X.xe) (hc:X.calm=true) (hi:PI X tg iter wi) (hg:PG X tg g) (hb:Cc X body tb)
  (hs:∀x,foldedSetIterable iter X.env x=pure x:=by intro _;rfl):PS X (.For tg iter body [] pos) (Dz wi g tb):=by
 intro pins s σ H D I h;refine wpAny_For (bU (hi pins s σ H _ I h) λv s1 h1=>bU h1 λitv s2 h2=>?_) hs;obtain ⟨it,fp,tn,J,H2,e,I2,T,st2,f2,W,⟨m0,w0⟩,turn⟩:=h2;subst e;have stat:∀{H':Hp},(∀b∈fp,H' b=none)->∀b∈fp,mL X pins H' b:=λhn b hb=>⟨hn b hb,(f2 b hb).2⟩;refine codeAny_forLoop_any (λn s'=>∃i σ' H',Inv X pins σ' H' s'/\tn i s'.heap/\(∀b∈fp,H' b=none)/\W i n σ' H') ?_ m0 ⟨0,σ,H2,I2,st2,λb hb=>(f2 b hb).1,w0⟩;rintro n s3 ⟨i,σ3,H3,I3,st3,fr3,w3⟩;rcases turn i n σ3 H3 w3 with ⟨stop,qn⟩|⟨go,N,hN,step⟩
 ·refine wpAny_passesOwn hp (bU (T.done X rfl rfl rfl hc i pins s3 σ3 H3 X.xe I3 (stat fr3) st3 stop) λr s4 ⟨hr,I4⟩=>?_);subst hr;exact wpAny_execs_nil ⟨σ3,H3,I4,qn⟩
 ·refine wpAny_passesOwn hp (bU (T.item X rfl rfl rfl hc i pins s3 σ3 H3 X.xe I3 (stat fr3) st3 go) λr s4 ⟨u,hr,h4⟩=>?_);subst hr;refine wpAny_passesOwn hp (bU h4 λ_ s5 ⟨x,H5,I5,r5,y5,st5,fr5⟩=>?_);have I5':=I5.pinned (stat fr5) (T.obj _ _ st5);refine wpAny_passesOwn hp (bU (hg _ s5 σ3 H5 x u _ I5' r5 (step x H5 y5)) λ_ s6 ⟨σ6,H6,I6,q6⟩=>?_);refine wpAny_passesOwn hp (bU (hb _ s6 σ6 H6 _ I6 q6) λf s7 q7=>?_);have again:∀{σ7:St} {H7:Hp},Inv X (pins++pN fp s5.heap) σ7 H7 s7->N σ7 H7->∃m,m<n/\∃i σ' H',Inv X pins σ' H' s7/\tn i s7.heap/\(∀b∈fp,H' b=none)/\W i m σ' H':=λ{σ7 H7} I7 n7=>by
   obtain ⟨m',hm,w7⟩:=hN σ7 H7 n7;refine ⟨m',hm,i+1,σ7,H7,I7.unpinned,T.keep _ _ _ st5 λb hb o e=>(I7.pin (b,o) (mem_append_right _ (mem_append_right _ (gK hb e)))).1,λb hb=>?_,w7⟩;obtain ⟨o,e,d⟩:=T.obj _ _ st5 b hb;exact (I7.pin (b,o) (mem_append_right _ (mem_append_right _ (gK hb e)))).2.1
  cases f with
  |next=>obtain ⟨σ7,H7,I7,n7⟩:=q7;exact again I7 n7
  |cont=>obtain ⟨σ7,H7,I7,n7⟩:=q7;exact again I7 n7
  |brk=>obtain ⟨σ7,H7,I7,q7⟩:=q7;exact ⟨σ7,H7,I7.unpinned,q7⟩
  |ret v=>obtain ⟨x7,σ7,H7,I7,r7,q7⟩:=q7;exact ⟨x7,σ7,H7,I7.unpinned,r7,q7⟩
end
theorem HG {lo:Int} {n:Nat} {g:TG} {tb:TS} {D:Ends} {σ:St} {H:Hp} (Pv:Nat->St->Hp->Prop) (h0:Pv 0 σ H)
  (hs:∀i σ H,i<n->Pv i σ H->g (.int (lo+i)) σ H λσ2 H2=>tb {D with nx:=Pv (i+1),ct:=Pv (i+1),bk:=D.nx} σ2 H2) (hd:∀σ H,Pv n σ H->D.nx σ H):
  ∃W:Nat->Nat->St->Hp->Prop,(∃m,W 0 m σ H)/\∀i m σ H,W i m σ H->
   ((II lo n).stop i H/\D.nx σ H)\/((II lo n).go i H/\∃N:St->Hp->Prop,(∀σ' H',N σ' H'->∃m',m'<m/\W (i+1) m' σ' H')/\∀x H',(II lo n).yld i H x H'->g x σ H' λσ2 H2=>tb {D with nx:=N,ct:=N,bk:=D.nx} σ2 H2):=by
 refine ⟨λi m σ H=>m=n - i/\i<=n/\Pv i σ H,⟨n,by simp,zero_le _,h0⟩,?_⟩;rintro i m σ H ⟨rfl,hi,p⟩;by_cases hlt:i<n
 ·refine .inr ⟨hlt,Pv (i+1),λσ' H' p'=>⟨n - (i+1),by lia,rfl,hlt,p'⟩,λx H' y=>?_⟩;obtain ⟨e,y⟩:=y;subst e y;exact hs i σ _ hlt p
 ·have e:i=n:=by lia
  subst e;exact .inl ⟨Nat.le_refl _,hd σ H p⟩
abbrev R2:=V->V->Hp->VK->Prop
def gD (X:Cx) (f:Value->Value->Sem Value) (r:R2):Prop:=
 ∀(pins:List (Addr × Obj)) (s:Shared) (σ:St) (H:Hp) (x y:V) (v u:Value) (Q:VK),Inv X pins σ H s->RelV x v->RelV y u->r x y H Q->
  wpAny (model X.prog X.w) X.A (f v u) (EP X pins σ Q) X.xe s
def Mj (X:Cx) (f:Value->Sem Value) (r:V->Hp->VK->Prop):Prop:=
 ∀(pins:List (Addr × Obj)) (s:Shared) (σ:St) (H:Hp) (x:V) (v:Value) (Q:VK),Inv X pins σ H s->RelV x v->r x H Q->
  wpAny (model X.prog X.w) X.A (f v) (EP X pins σ Q) X.xe s
def bS (X:Cx) (f:Value) (r:List V->Hp->VK->Prop):Prop:=
 ∀(pins:List (Addr × Obj)) (s:Shared) (σ:St) (H:Hp) (xs:List V) (us:List Value) (Q:VK),Inv X pins σ H s->Vals xs us->r xs H Q->
  wpAny (model X.prog X.w) X.A (call f us) (EP X pins σ Q) X.xe s
def Jh (X:Cx) (r:V->Hp->(Bool->Hp->Prop)->Prop):Prop:=
 ∀(pins:List (Addr × Obj)) (s:Shared) (σ:St) (H:Hp) (x:V) (v:Value) (Q:Bool->Hp->Prop),Inv X pins σ H s->RelV x v->r x H Q->
  wpAny (model X.prog X.w) X.A (truthy v) (TP X pins σ Q) X.xe s
def XC (r:R2) (ta tb:TE):TE:=λσ H Q=>ta σ H λx H1=>tb σ H1 λy H2=>r x y H2 Q
def Mr (r:V->Hp->VK->Prop) (ta:TE):TE:=λσ H Q=>ta σ H λx H1=>r x H1 Q
def rI (C:Int->Int->Prop) (g:Int->Int->V):R2:=λx y H Q=>∃i j,x=.int i/\y=.int j/\C i j/\Q (g i j) H
def VO (g:Int->Int->V):R2:=λx y H Q=>∃i j,x=.int i/\y=.int j/\Q (g i j) H
def rU (g:Int->V):V->Hp->VK->Prop:=λx H Q=>∃i,x=.int i/\Q (g i) H
section
variable {X:Cx} {a b c:Expr} {ta tb tc:TE} {pos:Pos}
theorem Bu (ha:PE X a ta) (hb:PE X b tb) {pins:List (Addr × Obj)} {s:Shared} {σ:St} {H:Hp} {R:V->V->Hp->Prop} (I:Inv X pins σ H s)
  (h:ta σ H λx H1=>tb σ H1 λy H2=>R x y H2) {Q:Value->Shared->Prop} {f:Value->Value->Sem Value}
  (hf:∀v u s2 x y H2,Inv X pins σ H2 s2->RelV x v->RelV y u->R x y H2->wpAny (model X.prog X.w) X.A (f v u) Q X.xe s2):
  wpAny (model X.prog X.w) X.A (eval a X.env) (λv aa=>wpAny (model X.prog X.w) X.A (eval b X.env) (λu ah=>wpAny (model X.prog X.w) X.A (f v u) Q X.xe ah) X.xe aa) X.xe s:=by
 refine bU (ha pins s σ H _ I h) λv s1 ⟨x,H1,I1,r1,q1⟩=>?_;refine bU (hb pins s1 σ H1 _ I1 q1) λu s2 ⟨y,H2,I2,r2,q2⟩=>?_;exact hf v u s2 x y H2 I2 r1 r2 q2
theorem Fh (ho:gD X (binaryOp op) r) (ha:PE X a ta) (hb:PE X b tb):PE X (.BinOp a op b pos) (XC r ta tb):=by
 intro pins s σ H Q I h;exact wpAny_BinOp (Bu ha hb I h λv u s2 x y H2 I2 rx ry q=>ho pins s2 σ H2 x y v u Q I2 rx ry q)
theorem Ff {op:UnaryOp} {r:V->Hp->VK->Prop} (ho:Mj X (unaryOp op) r) (ha:PE X a ta):PE X (.UnaryOp op a pos) (Mr r ta):=by
 intro pins s σ H Q I h;exact UnaryOp_ (bU (ha pins s σ H _ I h) λv s1 ⟨x,H1,I1,r1,q1⟩=>ho pins s1 σ H1 x v Q I1 r1 q1)
theorem Ju {f:Value->Value->Sem Value} {C:Int->Int->Prop} {g:Int->Int->Int}
  (rule:∀(i j:Int) (t u:Tok) (s:Shared) (Q:Value->Shared->Prop) (E:Value->Shared->Prop),C i j->Q (.int (g i j) s.toks) {s with toks:=s.toks+1}->wpAny (model X.prog X.w) X.A (f (.int i t) (.int j u)) Q E s):
  gD X f (rI C λi j=>.int (g i j)):=by
 intro pins s σ H x y v u Q I rx ry h;obtain ⟨i,j,rfl,rfl,hc,q⟩:=h;obtain ⟨t,rfl⟩:=rx;obtain ⟨t',rfl⟩:=ry;exact rule i j t t' s _ _ hc ⟨.int (g i j),H,I.tok _,⟨_,rfl⟩,q⟩
theorem Fy {f:Value->Value->Sem Value} {g:Int->Int->Int}
  (rule:∀(i j:Int) (t u:Tok) (s:Shared) (Q:Value->Shared->Prop) (E:Value->Shared->Prop),Q (.int (g i j) s.toks) {s with toks:=s.toks+1}->wpAny (model X.prog X.w) X.A (f (.int i t) (.int j u)) Q E s):
  gD X f (VO λi j=>.int (g i j)):=by
 intro pins s σ H x y v u Q I rx ry h;obtain ⟨i,j,rfl,rfl,q⟩:=h;obtain ⟨t,rfl⟩:=rx;obtain ⟨t',rfl⟩:=ry;exact rule i j t t' s _ _ ⟨.int (g i j),H,I.tok _,⟨_,rfl⟩,q⟩
theorem RZ {f:Value->Value->Sem Value} {g:Int->Int->Bool}
  (rule:∀(i j:Int) (t u:Tok) (s:Shared) (Q:Value->Shared->Prop) (E:Value->Shared->Prop),Q (.bool (g i j)) s->wpAny (model X.prog X.w) X.A (f (.int i t) (.int j u)) Q E s):
  gD X f (VO λi j=>.bl (g i j)):=by
 intro pins s σ H x y v u Q I rx ry h;obtain ⟨i,j,rfl,rfl,q⟩:=h;obtain ⟨t,rfl⟩:=rx;obtain ⟨t',rfl⟩:=ry;exact rule i j t t' s _ _ ⟨.bl (g i j),H,I,rfl,q⟩
def Mo (i j:Int):Prop:=0<j/\j<1073741824
def VC (i j:Int):Prop:=0<=j/\j<=1000000/\i.natAbs<2 ^ 64
def Cp (i j:Int):Prop:=(-(2 ^ 64)<i/\i<2 ^ 64)\/(-(2 ^ 64)<j/\j<2 ^ 64)
theorem Cp.ok {i j:Int} (h:Cp i j):IntMulOk i j:=by
 rcases h with ⟨h1,h2⟩|⟨h1,h2⟩
 ·exact .of_left (intBits_le_64 h1 h2)
 ·exact .of_right (intBits_le_64 h1 h2)
theorem ZJ:gD X (binaryOp .Add) (VO λi j=>.int (i+j)):=Fy λ_ _ _ _ _ _ _ q=>add_int q
theorem YX:gD X (binaryOp .Sub) (VO λi j=>.int (i - j)):=Fy λ_ _ _ _ _ _ _ q=>sub_int q
theorem ZC:gD X (binaryOp .Mod) (rI (λ_ j=>0<j) λi j=>.int (i % j)):=Ju λi j _ _ _ _ _ hc q=>by
 have h1:(0:Int)<j:=hc;exact mod_int' (by lia) (by rw[Int.fmod_eq_emod_of_nonneg i (by lia)];exact q)
theorem Nc {f:Value->Sem Value} {g:Int->Int}
  (rule:∀(i:Int) (t:Tok) (s:Shared) (Q:Value->Shared->Prop) (E:Value->Shared->Prop),Q (.int (g i) s.toks) {s with toks:=s.toks+1}->wpAny (model X.prog X.w) X.A (f (.int i t)) Q E s):
  Mj X f (rU λi=>.int (g i)):=by
 intro pins s σ H x v Q I rx h;obtain ⟨i,rfl,q⟩:=h;obtain ⟨t,rfl⟩:=rx;exact rule i t s _ _ ⟨.int (g i),H,I.tok _,⟨_,rfl⟩,q⟩
theorem WW:Mj X (unaryOp .USub) (rU λi=>.int (-i)):=Nc λ_ _ _ _ _ q=>neg_int q
theorem GO:gD X (binaryOp .Add) (λx y H Q=>∃i k,x=.int i/\y=.bl k/\Q (.int (i+b2i k)) H):=by
 intro pins s σ H x y v u Q I rx ry h;obtain ⟨i,k,rfl,rfl,q⟩:=h;obtain ⟨t,rfl⟩:=rx;cases ry;exact add_int_bool ⟨.int (i+b2i k),H,I.tok _,⟨_,rfl⟩,q⟩
end
def QW:V->V->Bool
 | .non,.non=>true| .non,.int _=>true| .int _,.non=>true| .non,.bl _=>true| .bl _,.non=>true| .non,.str _=>true| .str _,.non=>true
 | .int _,.int _=>true| .bl _,.bl _=>true| .str _,.str _=>true| .byt _,.byt _=>true
 | .int _,.str _=>true| .str _,.int _=>true| .bl _,.str _=>true| .str _,.bl _=>true
 |_,_=>false
def Nq:R2:=λx y H Q=>QW x y=true/\Q (.bl (decide (x=y))) H
def Np:R2:=λx y H Q=>QW x y=true/\Q (.bl (!decide (x=y))) H
theorem EF:decide (V.int i=V.int j)=(i==j):=by
 rw[Bool.eq_iff_iff];simp
theorem NS:decide (V.bl i=V.bl j)=(i==j):=by
 rw[Bool.eq_iff_iff];simp
theorem EE:decide (V.str i=V.str j)=(i==j):=by
 rw[Bool.eq_iff_iff];simp
theorem EG:decide (V.byt i=V.byt j)=(i.toList==j.toList):=by
 rw[Bool.eq_iff_iff];cases i;cases j;simp
section
variable {X:Cx} {a b c:Expr} {ta tb tc:TE} {pos:Pos}
theorem aR (I:Inv X pins σ H s) (q:Q (.bl k) H) (e:k=k'):EP X pins σ Q (.bool k') s:=by
 subst e;exact ⟨.bl k,H,I,rfl,q⟩
theorem Fv:gD X (compareOp .Eq) Nq:=by
 intro pins s σ H x y v u Q I rx ry h;obtain ⟨hs,q⟩:=h;cases x with
 |non=>
  cases rx;cases y with
  |non=>cases ry;exact PySem.EqNone.eq_none_none (aR I q (by simp))
  |bl j=>cases ry;exact PySem.EqNone.eq_none_bool (aR I q (by simp))
  |int j=>obtain ⟨t',rfl⟩:=ry;exact PySem.EqNone.eq_none_int (aR I q (by simp))
  |str j=>obtain ⟨t',rfl⟩:=ry;exact PySem.EqNone.eq_none_str (aR I q (by simp))
  |_=>exact absurd (show false=true from hs) Bool.false_ne_true
 |bl i=>
  cases rx;cases y with
  |non=>cases ry;exact PySem.EqNone.eq_bool_none (aR I q (by simp))
  |bl j=>cases ry;exact eq_bool (aR I q NS)
  |str j=>obtain ⟨t',rfl⟩:=ry;exact PySem.EqMixed.eq_bool_str (aR I q (by simp))
  |_=>exact absurd (show false=true from hs) Bool.false_ne_true
 |int i=>
  obtain ⟨t,rfl⟩:=rx;cases y with
  |non=>cases ry;exact PySem.EqNone.eq_int_none (aR I q (by simp))
  |int j=>obtain ⟨t',rfl⟩:=ry;exact eq_int (aR I q EF)
  |str j=>obtain ⟨t',rfl⟩:=ry;exact PySem.EqMixed.eq_int_str (aR I q (by simp))
  |_=>exact absurd (show false=true from hs) Bool.false_ne_true
 |str i=>
  obtain ⟨t,rfl⟩:=rx;cases y with
  |non=>cases ry;exact PySem.EqNone.eq_str_none (aR I q (by simp))
  |bl j=>cases ry;exact PySem.EqMixed.eq_str_bool (aR I q (by simp))
  |int j=>obtain ⟨t',rfl⟩:=ry;exact PySem.EqMixed.eq_str_int (aR I q (by simp))
  |str j=>obtain ⟨t',rfl⟩:=ry;exact eq_str (aR I q EE)
  |_=>exact absurd (show false=true from hs) Bool.false_ne_true
 |byt i=>
  obtain ⟨t,rfl⟩:=rx;cases y with
  |byt j=>obtain ⟨t',rfl⟩:=ry;exact PySem.W.eq_bytes (aR I q EG)
  |_=>exact absurd (show false=true from hs) Bool.false_ne_true
 |_=>cases y<;>exact absurd (show false=true from hs) Bool.false_ne_true
theorem Fo:gD X (compareOp .NotEq) Np:=by
 intro pins s σ H x y v u Q I rx ry h;obtain ⟨hs,q⟩:=h;cases x with
 |non=>
  cases rx;cases y with
  |non=>cases ry;exact PySem.EqNone.ne_none_none (aR I q (by simp))
  |bl j=>cases ry;exact PySem.EqNone.ne_none_bool (aR I q (by simp))
  |int j=>obtain ⟨t',rfl⟩:=ry;exact PySem.EqNone.ne_none_int (aR I q (by simp))
  |str j=>obtain ⟨t',rfl⟩:=ry;exact PySem.EqNone.ne_none_str (aR I q (by simp))
  |_=>exact absurd (show false=true from hs) Bool.false_ne_true
 |bl i=>
  cases rx;cases y with
  |non=>cases ry;exact PySem.EqNone.ne_bool_none (aR I q (by simp))
  |bl j=>cases ry;exact ne_bool (aR I q (congrArg not NS))
  |str j=>obtain ⟨t',rfl⟩:=ry;exact PySem.EqMixed.ne_bool_str (aR I q (by simp))
  |_=>exact absurd (show false=true from hs) Bool.false_ne_true
 |int i=>
  obtain ⟨t,rfl⟩:=rx;cases y with
  |non=>cases ry;exact PySem.EqNone.ne_int_none (aR I q (by simp))
  |int j=>obtain ⟨t',rfl⟩:=ry;exact ne_int (aR I q (congrArg not EF))
  |str j=>obtain ⟨t',rfl⟩:=ry;exact PySem.EqMixed.ne_int_str (aR I q (by simp))
  |_=>exact absurd (show false=true from hs) Bool.false_ne_true
 |str i=>
  obtain ⟨t,rfl⟩:=rx;cases y with
  |non=>cases ry;exact PySem.EqNone.ne_str_none (aR I q (by simp))
  |bl j=>cases ry;exact PySem.EqMixed.ne_str_bool (aR I q (by simp))
  |int j=>obtain ⟨t',rfl⟩:=ry;exact PySem.EqMixed.ne_str_int (aR I q (by simp))
  |str j=>obtain ⟨t',rfl⟩:=ry;exact ne_str (aR I q (congrArg not EE))
  |_=>exact absurd (show false=true from hs) Bool.false_ne_true
 |byt i=>
  obtain ⟨t,rfl⟩:=rx;cases y with
  |byt j=>obtain ⟨t',rfl⟩:=ry;exact PySem.W.ne_bytes (aR I q (congrArg not EG))
  |_=>exact absurd (show false=true from hs) Bool.false_ne_true
 |_=>cases y<;>exact absurd (show false=true from hs) Bool.false_ne_true
theorem Fq:gD X (compareOp .Lt) (VO λi j=>.bl (decide (i<j))):=RZ λ_ _ _ _ _ _ _ q=>lt_int q
theorem Fs:gD X (compareOp .LtE) (VO λi j=>.bl (decide (i<=j))):=RZ λ_ _ _ _ _ _ _ q=>le_int q
theorem Ft:gD X (compareOp .Gt) (VO λi j=>.bl (decide (j<i))):=RZ λ_ _ _ _ _ _ _ q=>gt_int q
theorem Fu:gD X (compareOp .GtE) (VO λi j=>.bl (decide (j<=i))):=RZ λ_ _ _ _ _ _ _ q=>ge_int q
theorem GK:gD X (compareOp .In) (λx y H Q=>∃i j,x=.str i/\y=.str j/\Q (.bl (!(Builtin.Str.occurrences j i 0 j.length 1).isEmpty)) H):=by
 intro pins s σ H x y v u Q I rx ry h;obtain ⟨i,j,rfl,rfl,q⟩:=h;obtain ⟨t,rfl⟩:=rx;obtain ⟨t',rfl⟩:=ry;exact in_str (aR I q rfl)
theorem ZE:gD X (compareOp .Is) (λx y H Q=>y=.non/\Q (.bl (decide (x=.non))) H):=by
 intro pins s σ H x y v u Q I rx ry h;obtain ⟨rfl,q⟩:=h;cases ry;refine is_none_gen (aR I q ?_);cases x<;>first
  | (cases rx;rfl)
  | (obtain ⟨t,rfl⟩:=rx;rfl)
theorem RU:gD X (compareOp .IsNot) (λx y H Q=>y=.non/\Q (.bl (!decide (x=.non))) H):=by
 intro pins s σ H x y v u Q I rx ry h;obtain ⟨rfl,q⟩:=h;cases ry;refine isnot_none_gen (aR I q ?_);cases x<;>first
  | (cases rx;rfl)
  | (obtain ⟨t,rfl⟩:=rx;rfl)
theorem DH (ho:gD X (compareOp op) r) (ha:PE X a ta) (hb:PE X b tb) (hm:behindInMarks op b=false):PE X (.Compare a [op] [b] pos) (XC r ta tb):=by
 intro pins s σ H Q I h;exact wpAny_Compare1 (Bu ha hb I h λv u s2 x y H2 I2 rx ry q=>ho pins s2 σ H2 x y v u Q I2 rx ry q) hm
def By (K:Fg) (x:V) (H:Hp) (k:Bool):Prop:=
 match x with
 | .non=>k=false
 | .bl b=>k=b
 | .int i=>k=(i != 0)
 | .str y=>y.length<=sizeLine/\k=((y.length:Int) != 0)
 | .byt y=>y.size<=sizeLine/\k=((y.size:Int) != 0)
 | .ref p=>(∃xs,aP K H p xs/\k=!xs.isEmpty)\/(∃xs,cZ K H p xs/\k=!xs.isEmpty)\/∃kvs,H p=some (.dK kvs)/\k=!kvs.isEmpty
 |_=>False
theorem BO {κ:Type} {kvs:List (κ × V)} {vs:List (κ × Value)} (r:KV kvs vs):(!vs.isEmpty)=!kvs.isEmpty:=by
 cases r<;>rfl
theorem qA {xs:List V} {its:List Value} (r:Vals xs its):(!its.toArray.isEmpty)=!xs.isEmpty:=by
 cases r<;>simp
theorem mD:(sizeLine:Nat)<2 ^ 63:=by rw[sizeLine_eq];decide
theorem WZ:Jh X (λx H Q=>∃k,By X.K x H k/\Q k H):=by
 intro pins s σ H x v Q I rx h;obtain ⟨k,e,q⟩:=h;have hl:=mD;have hs:sizeLine=16777216:=sizeLine_eq;cases x with
 |non=>
  cases rx;have e':k=false:=e;subst e';exact truthy_none ⟨H,I,q⟩
 |bl b=>
  cases rx;have e':k=b:=e;subst e';exact wpAny_truthy_bool ⟨H,I,q⟩
 |int i=>
  obtain ⟨t,rfl⟩:=rx;have e':k=(i != 0):=e;subst e';exact PySem.P.truthy_int ⟨H,I,q⟩
 |str y=>
  obtain ⟨t,rfl⟩:=rx;obtain ⟨hy,e'⟩:y.length<=sizeLine/\k=((y.length:Int) != 0):=e;subst e';exact PySem.P.truthy_str (by lia) ⟨H,I.tok _,q⟩
 |byt y=>
  obtain ⟨t,rfl⟩:=rx;obtain ⟨hy,e'⟩:y.size<=sizeLine/\k=((y.size:Int) != 0):=e;subst e';exact PySem.W.truthy_bytes (by lia) ⟨H,I.tok _,q⟩
 |ref p=>
  cases rx;have e':(∃xs,aP X.K H p xs/\k=!xs.isEmpty)\/(∃xs,cZ X.K H p xs/\k=!xs.isEmpty)\/∃kvs,H p=some (.dK kvs)/\k=!kvs.isEmpty:=e;rcases e' with ⟨xs,hx,e'⟩|⟨xs,hx,e'⟩|⟨kvs,hx,e'⟩
  ·subst e';obtain ⟨its,r,pl,hz⟩:=I.list hx;have hlen:=r.length;exact wpAny_truthy_list pl.isList (by simp only [size_toArray];lia) ⟨H,I.tok _,by rw[qA r];exact q⟩
  ·subst e';obtain ⟨its,r,pl,hz⟩:=I.tuple hx;have hlen:=r.length;exact truthy_tuple pl (by simp only [size_toArray];lia) ⟨H,I.tok _,by rw[qA r];exact q⟩
  ·subst e';obtain ⟨hz,hS,vs,r,m⟩:kvs.length<=sizeLine/\(p==sysModules)=false/\∃vs,KV kvs vs/\s.heap.DictOf (aW X.prog X.w) p vs:=I.hok p _ hx;have hlen:kvs.length=vs.length:=Paired.length r;exact wpAny_truthy_dict hS m (by lia) ⟨H,I.tok _,by rw[BO r];exact q⟩
 |_=>exact (show False from e).elim
theorem BC:gD X (binaryOp .Add) (λx y H Q=>∃i j,x=.str i/\y=.str j/\i.length+j.length<=sizeLine/\Q (.str (i++j)) H):=by
 intro pins s σ H x y v u Q I rx ry h;obtain ⟨i,j,rfl,rfl,hz,q⟩:=h;obtain ⟨t,rfl⟩:=rx;obtain ⟨t',rfl⟩:=ry;exact add_str (λt' tk=>⟨.str (i++j),H,I.tok _,⟨_,rfl⟩,q⟩) hz
theorem vals1 (r:Vals [x] us):∃u,us=[u]/\RelV x u:=by
 cases r with
 |cons r1 r2=>cases r2;exact ⟨_,rfl,r1⟩
theorem vals2 (r:Vals [x,y] us):∃u w',us=[u,w']/\RelV x u/\RelV y w':=by
 cases r with
 |cons r1 r2=>
  cases r2 with
  |cons r3 r4=>cases r4;exact ⟨_,_,rfl,r1,r3⟩
theorem HZ (hc:X.calm=true):bS X (.builtin "max") (λxs H Q=>∃i j,xs=[.int i,.int j]/\Q (.int (if j>i then j else i)) H):=by
 intro pins s σ H xs us Q I r h;obtain ⟨i,j,rfl,q⟩:=h;obtain ⟨u,w',rfl,⟨t,rfl⟩,⟨t',rfl⟩⟩:=vals2 r;refine max_two_ints (I.ok.hd hc) λh' tk k=>⟨_,H,I.kept k,?_,q⟩;by_cases hj:j>i
 ·rw[if_pos hj,if_pos hj];exact ⟨_,rfl⟩
 ·rw[if_neg hj,if_neg hj];exact ⟨_,rfl⟩
theorem HY (hc:X.calm=true):bS X (.builtin "min") (λxs H Q=>∃i j,xs=[.int i,.int j]/\Q (.int (if j<i then j else i)) H):=by
 intro pins s σ H xs us Q I r h;obtain ⟨i,j,rfl,q⟩:=h;obtain ⟨u,w',rfl,⟨t,rfl⟩,⟨t',rfl⟩⟩:=vals2 r;refine min_two_ints (I.ok.hd hc) λh' tk k=>⟨_,H,I.kept k,?_,q⟩;by_cases hj:j<i
 ·rw[if_pos hj,if_pos hj];exact ⟨_,rfl⟩
 ·rw[if_neg hj,if_neg hj];exact ⟨_,rfl⟩
def Jn (K:Fg) (x:V) (H:Hp) (n:Nat):Prop:=
 match x with
 | .str y=>y.length<=sizeLine/\n=y.length
 | .byt y=>y.size<=sizeLine/\n=y.size
 | .ref p=>(∃xs,aP K H p xs/\n=xs.length)\/∃xs,cZ K H p xs/\n=xs.length
 |_=>False
theorem zQ:bS X (.builtin "len") (λxs H Q=>∃x n,xs=[x]/\Jn X.K x H n/\Q (.int n) H):=by
 intro pins s σ H xs us Q I r h;obtain ⟨x,n,rfl,e,q⟩:=h;obtain ⟨u,rfl,rx⟩:=vals1 r;have hl:=mD;have hs:sizeLine=16777216:=sizeLine_eq;cases x with
 |str y=>
  obtain ⟨t,rfl⟩:=rx;obtain ⟨hy,e'⟩:y.length<=sizeLine/\n=y.length:=e;subst e';exact len_str (by lia) ⟨.int _,H,I.tok _,⟨_,rfl⟩,q⟩
 |byt y=>
  obtain ⟨t,rfl⟩:=rx;obtain ⟨hy,e'⟩:y.size<=sizeLine/\n=y.size:=e;subst e';exact PySem.W.len_bytes (by lia) ⟨.int _,H,I.tok _,⟨_,rfl⟩,q⟩
 |ref p=>
  cases rx;have e':(∃xs,aP X.K H p xs/\n=xs.length)\/∃xs,cZ X.K H p xs/\n=xs.length:=e;rcases e' with ⟨xs,hx,e'⟩|⟨xs,hx,e'⟩
  ·subst e';obtain ⟨its,r',pl,hz⟩:=I.list hx;have hlen:=r'.length;exact Calls.call_len_list pl.isList (by simp only [size_toArray];lia) ⟨.int xs.length,H,I.tok _,⟨_,by simp only [size_toArray];rw[hlen]⟩,q⟩
  ·subst e';obtain ⟨its,r',pl,hz⟩:=I.tuple hx;have hlen:=r'.length;exact len_tuple pl (by simp only [size_toArray];lia) ⟨.int xs.length,H,I.tok _,⟨_,by simp only [size_toArray];rw[hlen]⟩,q⟩
 |_=>exact (show False from e).elim
end
structure IF (h:Heap) (x dx C:Addr) (mA:Str->Option Value):Prop where
 obj:h.get? x=some (PySem.W.instObj C dx)
 ns:h.Ns1 dx mA
 ne:dx≠x
theorem GV {h:Heap} {dx:Addr} {mA:Str->Option Value} (n:h.Ns1 dx mA):∃od,h.get? dx=some od/\∀name,PySem.W.lookIn name od=some (mA name):=by
 obtain ⟨o,es,ep,ho,hd,hk,_,hm⟩:=n;refine ⟨o,ho,λname=>?_⟩;have e:=hm name;unfold nsFind findBy at e;rw[<-Array.find?_toList] at e;unfold PySem.W.lookIn;rw[hd];dsimp only;split
 ·rename_i y q;rw[q] at e;exact congrArg some e
 ·rename_i q;rw[q] at e;have a:es.toList.any (·.refKey)=false:=by
   rw[List.any_eq_false];intro y hy;obtain ⟨z,t,hkey⟩:=hk y (Array.mem_toList_iff.mp hy);simp [DictEntry.refKey,hkey]
  have a':¬es.toList.any (·.refKey)=true:=by rw[a];exact Bool.false_ne_true
  rw[if_neg a'];exact congrArg some e
theorem IF.look (I:IF h x dx C mA):∃od,PySem.W.InstAt h x (PySem.W.instObj C dx) C (some od)/\∀name,PySem.W.lookIn name od=some (mA name):=
 let ⟨od,ho,hl⟩:=GV I.ns
 ⟨od,⟨I.obj,rfl,rfl,ho⟩,hl⟩
section
variable {prog:Program} {w:World} {A:Around} {E:Value->Shared->Prop} {s:Shared} {K:Fg} {x dx C f:Addr} {mA:Str->Option Value} {name:Str} {v:Value}
theorem get_map (X:K.In s.heap) (I:IF s.heap x dx C mA) (hg:PySem.W.plainGet K C name=true) (hh:PySem.W.hasDictIn K C=true)
  (ha:PySem.W.findIn K (.ref C) name=some none) (hv:mA name=some v) (hv':PySem.W.handedIn v=true) (h:Q v {s with toks:=s.toks+1}):
  wpAny (model prog w) A (getAttr (.ref x) name expr) Q E s:=by
 obtain ⟨od,J,hl⟩:=I.look;exact PySem.W.get_value X J (PySem.W.plainGet_of hg).1 (PySem.W.findObj_own hh ha rfl (by rw[hl,hv])) hv' h
theorem nV (X:K.In s.heap) (I:IF s.heap x dx C mA)
  (hs:PySem.W.findIn K (.ref C) "__setattr__"=some (some (.builtin "object.__setattr__"))) (hp:PySem.W.plainOver K C=true) (ht:PySem.W.takerIn K C name=some none) (hh:PySem.W.hasDictIn K C=true)
  (hw:PySem.Within mA ns) (hsz:ns.length<=sizeLine)
  (h:∀h',IF h' x dx C (λy=>if y=name then some v else mA y)->SameBut dx s.heap h'->Q () {s with heap:=h',toks:=s.toks+2}):
  wpAny (model prog w) A (setAttr (.ref x) name v) Q E s:=by
 obtain ⟨od,J,hl⟩:=I.look;refine PySem.W.set_plain X J hs (PySem.W.osa_open (s:={s with toks:=s.toks+1}) (r:=none) X J hp ht λb=>?_);obtain ⟨cd,hc,hd'⟩:=PySem.W.any_some hh;have hx:s.heap.get? x=some ⟨.ref C,some dx,.plain,#[]⟩:=I.obj;refine wpAny_bind (wpAny_pure (wpAny_bind (wpAny_bind (wpAny_loadPart hx (wpAny_bind (PySem.W.Looks.here (s:={s with toks:=s.toks+1}) (PySem.W.looks_clsIn X hc) ?_))))));rw[hd'];refine wpAny_pure (a:=some dx) (wpAny_bind (wpAny_pure (wpAny_bind ?_)));refine wpAny_nsSet1 (s:={s with toks:=s.toks+1}) I.ns λh' hn2 hs2=>?_;obtain ⟨oD,esD,epD,hoD,hdD,hcD⟩:=hn2.count (PySem.Within.cons name v hw);refine wpAny_bind (wpAny_lookBehind hoD (by rw[hdD];exact pastItsLine_dict (le_trans hcD (by rw[length_cons];lia))) ?_);exact wpAny_pure (h _ ⟨(hs2.2 _ (Ne.symm I.ne)).trans I.obj,hn2,I.ne⟩ hs2)
theorem LR (X:K.In s.heap) (hm:PySem.W.makesIn K C=true)
  (hi:PySem.W.findIn K (.ref C) "__init__"=some (some (.ref f))) (hf:PySem.W.typeIn K (.ref f)=some (.type "function"))
  (h:codeAny (model prog w) (A.under (.builtin "type.__call__" ⟨.ref C::vs,kw⟩)) (.call (.ref f) ⟨.ref (s.heap.objs.size+1)::vs,kw⟩) (PySem.W.InitBack (s.heap.objs.size+1) R)
   {s with heap:=(s.heap.push PySem.W.emptyDict).push (PySem.W.instObj C s.heap.objs.size)}):
  codeAny (model prog w) A (.call (.ref C) ⟨vs,kw⟩) R s:=by
 obtain ⟨hh,g,d,t,os⟩:=s;exact PySem.W.make_core (PySem.W.makes_of X hm) (PySem.W.looks_findIn X hi) (λself=>PySem.W.bind_fn X self hf) (.inl rfl) h
end
def iC (f:Str) (v:V):List (Str × V)->List (Str × V)
 |[]=>[(f,v)]
 | (g,x)::r=>if g=f then (g,v)::r else (g,x)::iC f v r
theorem mS (f g:Str) (v:V):∀fs:List (Str × V),(iC f v fs).lookup g=if g=f then some v else fs.lookup g
 |[]=>by
  show List.lookup g [(f,v)]=_;by_cases h:g=f
  ·have hb:(g==f)=true:=beq_iff_eq.mpr h;simp only [List.lookup,hb,if_pos h]
  ·have hb:(g==f)=false:=beq_eq_false_iff_ne.mpr h;simp only [List.lookup,hb,if_neg h]
 | (k,x)::r=>by
  have ih:=mS f g v r;rw[show iC f v ((k,x)::r)=(if k=f then (k,v)::r else (k,x)::iC f v r) from rfl];by_cases hk:k=f
  ·rw[if_pos hk];by_cases h:g=k
   ·have hb:(g==k)=true:=beq_iff_eq.mpr h;simp only [List.lookup,hb,if_pos (h.trans hk)]
   ·have hb:(g==k)=false:=beq_eq_false_iff_ne.mpr h;simp only [List.lookup,hb,if_neg (λe:g=f=>h (e.trans hk.symm))]
  ·rw[if_neg hk];by_cases h:g=k
   ·have hb:(g==k)=true:=beq_iff_eq.mpr h;simp only [List.lookup,hb,if_neg (λe:g=f=>hk (h.symm.trans e))]
   ·have hb:(g==k)=false:=beq_eq_false_iff_ne.mpr h;simp only [List.lookup,hb];exact ih
theorem mE (f:Str) (v:V):∀fs:List (Str × V),f∈(iC f v fs).map (·.1)/\∀g,g∈fs.map (·.1)->g∈(iC f v fs).map (·.1)
 |[]=>⟨by simp [iC],λg h=>by simp at h⟩
 | (k,x)::r=>by
  obtain ⟨i1,i2⟩:=mE f v r;rw[show iC f v ((k,x)::r)=(if k=f then (k,v)::r else (k,x)::iC f v r) from rfl];by_cases hk:k=f
  ·rw[if_pos hk];subst hk;exact ⟨by simp,λg h=>by simpa using h⟩
  ·rw[if_neg hk];refine ⟨?_,λg h=>?_⟩
   ·rw[map_cons];exact mem_cons_of_mem _ i1
   ·rw[map_cons] at h ⊢;rcases mem_cons.mp h with e|e
    ·exact mem_cons.mpr (.inl e)
    ·exact mem_cons_of_mem _ (i2 g e)
theorem mT (f:Str) (v:V):∀fs:List (Str × V),(iC f v fs).length<=fs.length+1
 |[]=>by simp [iC]
 | (k,x)::r=>by
  have ih:=mT f v r;rw[show iC f v ((k,x)::r)=(if k=f then (k,v)::r else (k,x)::iC f v r) from rfl];by_cases hk:k=f
  ·rw[if_pos hk,length_cons,length_cons];lia
  ·rw[if_neg hk,length_cons,length_cons];lia
theorem iQ.some_of (r:iQ (some v) o):∃u,o=some u/\RelV v u:=by
 cases o with
 |none=>exact (show False from r).elim
 |some u=>exact ⟨u,rfl,r⟩
theorem HF (r:RelV v u):PySem.W.handedIn u=true:=by
 cases v with
 |non=>cases (show u=Value.none from r);rfl
 |bl b=>cases (show u=Value.bool b from r);rfl
 |int i=>obtain ⟨t,e⟩:=(show ∃t,u=Value.int i t from r);cases e;rfl
 |str x=>obtain ⟨t,e⟩:=(show ∃t,u=Value.str x t from r);cases e;rfl
 |byt b=>obtain ⟨t,e⟩:=(show ∃t,u=Value.bytes b t from r);cases e;rfl
 |flt b=>obtain ⟨t,e⟩:=(show ∃t,u=Value.float b t from r);cases e;rfl
 |ref a=>cases (show u=Value.ref a from r);rfl
 |ty n=>cases (show u=Value.type n from r);rfl
section
variable {P:Program} {w:World} {H H':Hp} {h h':Heap} {a C dx:Addr} {fs fs':List (Str × V)}
theorem vV (hok:eE P w H h) (e:H a=some (.ins C dx fs)):∃mA,IF h a dx C mA/\(∀f,iQ (fs.lookup f) (mA f))/\PySem.Within mA (fs.map (·.1))/\fs.length<=1000/\H dx=some (.own a):=by
 obtain ⟨d,z,ne,ob,mA,n,r,q⟩:=(show aZ P w H h a (.ins C dx fs) from hok a _ e);exact ⟨mA,⟨ob,n,ne⟩,r,q,z,d⟩
end
structure IJ (K:Fg) (C:Addr):Prop where
 pg:PySem.W.plainGet K C Str.empty=true
 hd:PySem.W.hasDictIn K C=true
 po:PySem.W.plainOver K C=true
 sa:PySem.W.findIn K (.ref C) "__setattr__"=some (some (.builtin "object.__setattr__"))
theorem IJ.get {K:Fg} {C:Addr} (c:IJ K C) (f:Str):PySem.W.plainGet K C f=true:=c.pg
def bX (K:Fg) (C:Addr) (f:Str):Prop:=PySem.W.findIn K (.ref C) f=some none
theorem bX.taker {K:Fg} {C:Addr} {f:Str} (n:bX K C f):PySem.W.takerIn K C f=some none:=by
 unfold PySem.W.takerIn;rw[show PySem.W.findIn K (.ref C) f=some none from n];rfl
section
variable {X:Cx} {pins:List (Addr × Obj)} {σ:St} {H:Hp} {s:Shared} {a C dx:Addr} {fs:List (Str × V)} {f:Str} {v:V} {A:Around} {E:Value->Shared->Prop}
theorem BX {b:Bool} {Q:Value->Shared->Prop} (I:Inv X pins σ H s) (e:H a=some (.ins C dx fs)) (c:IJ X.K C) (n:bX X.K C f) (l:fs.lookup f=some v)
  (h:∀u s',Inv X pins σ H s'->RelV v u->Q u s'):wpAny (model X.prog X.w) A (getAttr (.ref a) f b) Q E s:=by
 obtain ⟨mA,O,r,_,_,_⟩:=vV I.hok e;obtain ⟨u,hu,ru⟩:=iQ.some_of (v:=v) (o:=mA f) (by rw[<-l];exact r f);exact get_map I.kIn O (c.get f) c.hd n hu (HF ru) (h u _ (I.tok _) ru)
theorem AX {y:V} {u:Value} {Q:Unit->Shared->Prop} (I:Inv X pins σ H s) (e:H a=some (.ins C dx fs)) (c:IJ X.K C) (n:bX X.K C f) (hl:fs.length<1000) (ry:RelV y u)
  (h:∀s',Inv X pins σ (upd H a (.ins C dx (iC f y fs))) s'->Q () s'):wpAny (model X.prog X.w) A (setAttr (.ref a) f u) Q E s:=by
 obtain ⟨mA,O,r,wi,_,ho⟩:=vV I.hok e;have hz:(fs.map (·.1)).length<=sizeLine:=by rw[length_map,sizeLine_eq];lia
 refine nV I.kIn O c.sa c.po n.taker c.hd wi hz λh' O' sb=>h _ ?_;have hd:∃o,h'.get? dx=some o:=let ⟨o,_,_,e',_⟩:=O'.ns;⟨o,e'⟩;refine I.write (x:=a) (e:=dx) (by rw[e];exact tI) (.inr ho) (λb q hb z=>(sb.2 b hb).trans z) hd ?_;refine ⟨by rw[aF O.ne];exact ho,?_,O.ne,O'.obj,_,O'.ns,λg=>?_,λg hg=>?_⟩
 ·have:=mT f y fs;lia
 ·show iQ ((iC f y fs).lookup g) (if g=f then some u else mA g);rw[mS];by_cases q:g=f
  ·rw[if_pos q,if_pos q];exact ry
  ·rw[if_neg q,if_neg q];exact r g
 ·by_cases q:g=f
  ·rw[q];exact (mE f y fs).1
  ·refine (mE f y fs).2 g (wi g λz=>hg ?_);show (if g=f then some u else mA g)=none;rw[if_neg q];exact z
theorem Inv.made (I:Inv X pins σ H s):Inv X pins σ (upd (upd H s.heap.objs.size (.own (s.heap.objs.size+1))) (s.heap.objs.size+1) (.ins C s.heap.objs.size []))
  {s with heap:=(s.heap.push PySem.W.emptyDict).push (PySem.W.instObj C s.heap.objs.size)}:=by
 have e1:(s.heap.push PySem.W.emptyDict).get? s.heap.objs.size=some PySem.W.emptyDict:=get?_push_size s.heap rfl;have e2:((s.heap.push PySem.W.emptyDict).push (PySem.W.instObj C s.heap.objs.size)).get? (s.heap.objs.size+1)=some (PySem.W.instObj C s.heap.objs.size):=by
  have:=get?_push_size (s.heap.push PySem.W.emptyDict) (o:=PySem.W.instObj C s.heap.objs.size) rfl;rwa [Heap.size_push] at this
 have e3:(s.heap.push PySem.W.emptyDict).Ns s.heap.objs.size (λ_=>none):=⟨PySem.W.emptyDict,#[],_,e1,rfl,(λe he=>absurd he (by simp)),λ_=>rfl⟩;have I1:=I.laid (a:=s.heap.objs.size) (o:=.own (s.heap.objs.size+1)) (h':=s.heap.push PySem.W.emptyDict) (t':=s.toks) (λb u q=>get?_push_of_some _ q) (Nat.le_refl _) ⟨_,e1⟩;refine I1.laid (a:=s.heap.objs.size+1) (o:=.ins C s.heap.objs.size []) (t':=s.toks) (λb u q=>get?_push_of_some _ q) (le_of_eq (Heap.size_push _ _)) ?_;have ne:s.heap.objs.size≠s.heap.objs.size+1:=ne_of_lt (lt_succ_self _);refine ⟨by rw[aF ne,aA],zero_le _,ne,e2,λ_=>none,(Heap.Ns1.of_empty e3).at λo q=>get?_push_of_some _ q,λ_=>tI,λy hy=>absurd rfl hy⟩
theorem UR {prog:Program} {w:World} {env:Env} {e:Expr} {f:Str} {pos:Pos} {s:Shared} {Q:Value->Shared->Prop} (hb:attributeBase e f env (eval e env)=eval e env)
  (h:wpAny (model prog w) A (eval e env) (λo aa=>wpAny (model prog w) A (getAttr o f true) Q E aa) E s):wpAny (model prog w) A (eval (.Attribute e f pos) env) Q E s:=
 Attribute_any_ h (by rw[arm_eval_Attribute,hb])
end
def Ea (K:Fg) (ta:TE) (f:Str):TE:=λσ H Q=>ta σ H λx H1=>∃a C dx fs v,x=.ref a/\H1 a=some (.ins C dx fs)/\IJ K C/\bX K C f/\fs.lookup f=some v/\Q v H1
def El (K:Fg) (ta tv:TE) (f:Str):TS:=λD σ H=>tv σ H λy H1=>ta σ H1 λx H2=>∃a C dx fs,x=.ref a/\H2 a=some (.ins C dx fs)/\IJ K C/\bX K C f/\fs.length<1000/\
 D.nx σ (upd H2 a (.ins C dx (iC f y fs)))
section
variable {X:Cx} {o e value:Expr} {f:Str} {pos pos' tpos:Pos} {ta tv:TE}
theorem YT (he:PE X e ta) (hb:attributeBase e f X.env (eval e X.env)=eval e X.env):PE X (.Attribute e f pos) (Ea X.K ta f):=by
 intro pins s σ H Q I h;refine UR hb (bU (he pins s σ H _ I h) λu s1 ⟨x,H1,I1,rx,a,C,dx,fs,v,ex,ea,c,n,l,q⟩=>?_);subst ex;obtain rfl:u=Value.ref a:=rx;exact BX I1 ea c n l λu' s2 I2 ru=>⟨v,H1,I2,ru,q⟩
theorem YH (ha:PE X o ta) (hv:PE X value tv) (hs:swapsWith value (some (.Attribute o f pos')) pos.line X.env=pure false):PS X (.Assign [.Attribute o f pos'] value pos) (El X.K ta tv f):=by
 intro pins s σ H D I h;refine plainObj_wpAny_Assign_Attribute (bU (hv pins s σ H _ I h) λu s1 ⟨y,H1,I1,ry,q⟩=>bU (ha pins s1 σ H1 _ I1 q) λov s2 ⟨x,H2,I2,rx,a,C,dx,fs,ex,ea,c,n,l,q2⟩=>?_) hs;subst ex;obtain rfl:ov=Value.ref a:=rx;exact AX I2 ea c n l ry λs3 I3=>⟨σ,_,I3,q2⟩
end
section
variable {X:Cx} {pins:List (Addr × Obj)} {σ:St} {H:Hp} {s:Shared} {A:Around} {E:Value->Shared->Prop} {Q:Value->Shared->Prop} {c:Value} {b:Bool}
inductive iP (K:Fg) (H:Hp):V->Value->Prop where
 |non:iP K H .non (.type "NoneType")
 |bl (x:Bool):iP K H (.bl x) (.type "bool")
 |int (i:Int):iP K H (.int i) (.type "int")
 |str (x:Str):iP K H (.str x) (.type "str")
 |flt (x:UInt64):iP K H (.flt x) (.type "float")
 |lst {a:Addr} {xs:List V} (e:H a=some (.lst xs)):iP K H (.ref a) (.type "list")
 |frz {a:Addr} {o:Obj} {xs:List V} (e:H a=some (.frz o (.lst xs))):iP K H (.ref a) (.type "list")
 |tup {a:Addr} {xs:List V} (e:H a=some (.tup xs)):iP K H (.ref a) (.type "tuple")
 |dK {a:Addr} {kvs:List (Key × V)} (e:H a=some (.dK kvs)):iP K H (.ref a) (.type "dict")
 |dT {a:Addr} {kvs:List (List Key × V)} (e:H a=some (.dT kvs)):iP K H (.ref a) (.type "dict")
 |ins {a C dx:Addr} {fs:List (Str × V)} (e:H a=some (.ins C dx fs)) (cl:IJ K C) (ha:PySem.W.findIn K (.ref C) "__class__"=some (some (.builtin "object.__class__")))
   (hn:PySem.W.specialIn K (.builtin "object.__class__") "__get__"=some (some (.builtin "getset_descriptor.__get__"))) (htk:PySem.W.takesIn K (.builtin "object.__class__")=some true)
   (hm:PySem.W.mroIn K C (.type "object")=some true):iP K H (.ref a) (.ref C)
theorem HA (I:Inv X pins σ H s) (rx:RelV x u) (ty:iP X.K H x t) (e:PySem.W.kitOne X.K t c=some b) (h:∀tk,Q (.bool b) {s with toks:=tk}):
  wpAny (model X.prog X.w) A (call (.builtin "isinstance") [u,c]) Q E s:=by
 cases ty with
 |non=>cases (show u=Value.none from rx);exact PySem.W.kia_one PySem.W.kitx_none I.kIn tI e (λz=>nomatch z) h
 |bl y=>cases (show u=Value.bool y from rx);exact PySem.W.kia_one PySem.W.kitx_bool I.kIn tI e (λz=>nomatch z) h
 |int i=>obtain ⟨t,q⟩:=(show ∃t,u=Value.int i t from rx);cases q;exact PySem.W.kia_one PySem.W.kitx_int I.kIn tI e (λz=>nomatch z) h
 |str y=>obtain ⟨t,q⟩:=(show ∃t,u=Value.str y t from rx);cases q;exact PySem.W.kia_one PySem.W.kitx_str I.kIn tI e (λz=>nomatch z) h
 |flt y=>obtain ⟨t,q⟩:=(show ∃t,u=Value.float y t from rx);cases q;exact PySem.W.kia_one PySem.W.kitx_float I.kIn tI e (λz=>nomatch z) h
 |@lst a xs ea=>
  cases (show u=Value.ref a from rx);obtain ⟨_,_,n,_,h1⟩:=(show aZ X.prog X.w H s.heap a (.lst xs) from I.hok a _ ea);exact PySem.W.kia_one PySem.W.kitx_list I.kIn ⟨_,h1,rfl⟩ e (λz=>nomatch z) h
 |@frz a ob xs ea=>
  cases (show u=Value.ref a from rx);obtain ⟨_,_,_,n,_,h1⟩:=(show aZ X.prog X.w H s.heap a (.frz ob (.lst xs)) from I.hok a _ ea);exact PySem.W.kia_one PySem.W.kitx_list I.kIn ⟨_,h1,rfl⟩ e (λz=>nomatch z) h
 |@tup a xs ea=>
  cases (show u=Value.ref a from rx);obtain ⟨_,_,_,p⟩:=(show aZ X.prog X.w H s.heap a (.tup xs) from I.hok a _ ea);obtain ⟨o,h1,h2,_⟩:=p;exact PySem.W.kia_one PySem.W.kitx_tuple I.kIn ⟨o,h1,h2⟩ e (λz=>nomatch z) h
 |@dK a kvs ea=>
  cases (show u=Value.ref a from rx);obtain ⟨_,_,vs,_,p⟩:=(show aZ X.prog X.w H s.heap a (.dK kvs) from I.hok a _ ea);obtain ⟨o,es,ep,h1,h2,_⟩:=p;exact PySem.W.kia_one PySem.W.kitx_dict I.kIn ⟨o,h1,h2.1⟩ e (λz=>nomatch z) h
 |@dT a kvs ea=>
  cases (show u=Value.ref a from rx);obtain ⟨_,_,xs,_,o,es,ep,h1,h2,_⟩:=(show aZ X.prog X.w H s.heap a (.dT kvs) from I.hok a _ ea);exact PySem.W.kia_one PySem.W.kitx_dict I.kIn ⟨o,h1,h2.1⟩ e (λz=>nomatch z) h
 |@ins a C dx fs ea cl ha hn htk hm=>
  cases (show u=Value.ref a from rx);obtain ⟨mA,O,_⟩:=vV I.hok ea;obtain ⟨od,J,_⟩:=O.look;exact PySem.W.kia_one (PySem.W.kitx_own (cl.get _) cl.hd ha hn htk hm) I.kIn J e (λz=>nomatch z) h
end
structure cI (k:Nat) (A:Around):Prop where
 hd:A.handled=none
 dp:A.depth+3 * k+5<recursionLimit
 un:A.units+16 * k+200<cLine
theorem cI.mono (r:cI k A) (h:j<=k):cI j A:=⟨r.hd,by have:=r.dp;lia,by have:=r.un;lia⟩
theorem cI.deeper (r:cI (k+1) A) (env:Env):cI k (A.deeper env):=
 ⟨r.hd,by have:=r.dp;show A.depth+1+3 * k+5<_;lia,by have:=r.un;show A.units+3+16 * k+200<_;lia⟩
theorem pP {A:Around} {C:Addr} {us:List Value} {kw:List (Str × Value)}:(A.under (.builtin "type.__call__" ⟨.ref C::us,kw⟩)).depth=A.depth+1:=by
 first|rfl|simp [Around.under,Code.weight,Code.isCreation,Code.isGuard,Code.isCaller,Code.frames,Code.isFrame,guardIds]
theorem BJ {A:Around} {C:Addr} {us:List Value} {kw:List (Str × Value)}:(A.under (.builtin "type.__call__" ⟨.ref C::us,kw⟩)).units=A.units+1:=by
 first|rfl|simp [Around.under,Code.cUnits,Code.frames,Code.isFrame]
theorem cI.make (r:cI (k+1) A) (C:Addr) (us:List Value) (kw:List (Str × Value)):cI k (A.under (.builtin "type.__call__" ⟨.ref C::us,kw⟩)):=
 ⟨r.hd,by have:=r.dp;rw[pP];lia,by have:=r.un;rw[BJ];lia⟩
theorem cI.depth (r:cI k A):A.depth<recursionLimit:=by have:=r.dp;lia
theorem cI.units (r:cI k A):A.units+64<cLine:=by have:=r.un;lia
def Dx:TA:=λ_ H Q=>Q [] H
def VJ (ta:TE) (tr:TA):TA:=λσ H Q=>ta σ H λx H1=>tr σ H1 λxs H2=>Q (x::xs) H2
section
variable {X:Cx} {e:Expr} {es:List Expr} {te:TE} {t:TA} {pos:Pos}
theorem KW:PA X [] Dx:=λ_ _ _ _ H Q I h=>Calls.spliced_nil ⟨[],H,I,.nil,h⟩
theorem DI (ha:PE X e te) (hr:PA X es t) (hs:starEach (e::es) X.env=(false,eval e X.env)::starEach es X.env:=by rfl):PA X (e::es) (VJ te t):=by
 intro pos pins s σ H Q I h;rw[hs];show wpAny _ _ (spliced ((false,eval e X.env)::backTo pos (starEach es X.env))) _ _ s;refine Calls.spliced_cons (bU (ha pins s σ H _ I h) λu s1 ⟨x,H1,I1,r1,q1⟩=>?_);exact bU (hr pos pins s1 σ H1 _ I1 q1) λus s2 ⟨xs,H2,I2,r2,q2⟩=>⟨x::xs,H2,I2,.cons r1 r2,q2⟩
def Du (t:TA):TE:=λσ H Q=>t σ H λxs H1=>xs.length<=sizeLine/\∀p,H1 p=none->Q (.ref p) (upd H1 p (.tup xs))
def Dy (t:TA):TE:=λσ H Q=>t σ H λxs H1=>xs.length<=sizeLine/\∀p,H1 p=none->Q (.ref p) (upd H1 p (.lst xs))
theorem YM {x1} (h:PA X es t):PE X (.Tuple es x1 pos) (Du t):=by
 intro pins s σ H Q I hq;refine wpAny_Tuple_spliced (bU (h pos pins s σ H _ I hq) λus s1 ⟨xs,H1,I1,r,z,q⟩=>⟨by rw[<-r.length];exact z,?_⟩);have hf:H1 s1.heap.objs.size=none:=I1.hok.fresh (Nat.le_refl _);refine ⟨.ref s1.heap.objs.size,upd H1 s1.heap.objs.size (.tup xs),I1.laid (t':=s1.toks) (λb u e=>get?_push_of_some _ e) (Nat.le_refl _) ?_,rfl,q _ hf⟩;exact ⟨z,us,r,⟨_,get?_push_size _ rfl,rfl,_,rfl⟩⟩
theorem YR (h:PA X es t):PE X (.List es pos) (Dy t):=by
 intro pins s σ H Q I hq;refine wpAny_List_spliced (bU (h pos pins s σ H _ I hq) λus s1 ⟨xs,H1,I1,r,z,q⟩=>⟨by rw[<-r.length];exact z,?_⟩);have hf:H1 s1.heap.objs.size=none:=I1.hok.fresh (Nat.le_refl _);refine ⟨.ref s1.heap.objs.size,upd H1 s1.heap.objs.size (.lst xs),I1.laid (t':=s1.toks) (λb u e=>get?_push_of_some _ e) (Nat.le_refl _) ?_,rfl,q _ hf⟩;exact ⟨z,us,0,r,get?_push_size _ rfl⟩
end
abbrev Sp:=List V->Hp->VK->XK->Prop
abbrev PL:=List Env->Hp->Shared->XK->Value->Shared->Prop
structure CP (P:Program) (w:World) (K:Fg) (mg:Str->Option Value) (base:Heap) (A:Around) (outer:List Env) (s:Shared) (H:Hp):Prop where
 frames:A.frames=some outer
 mod:Mod K mg base
 bs:∀b o,base.get? b=some o->s.heap.get? b=some o/\H b=none
 bsz:base.objs.size<=s.heap.objs.size
 funs:s.heap.FunFrames base outer
 frf:∀b∈fV outer,H b=none
 hok:eE P w H s.heap
 bare:AllBare s.gens
def CE (outer:List Env) (P:Program) (w:World) (H:Hp) (s:Shared) (Q:VK) (u:Value) (s':Shared):Prop:=
 ∃v H',s'.os=s.os/\AllBare s'.gens/\Un (fV outer) [] H H' s.heap s'.heap/\eE P w H' s'.heap/\RelV v u/\Q v H'
def CR (CX:PL) (outer:List Env) (P:Program) (w:World) (H:Hp) (s:Shared) (Q:VK) (E:XK) (r:Result) (s':Shared):Prop:=
 match r with
 | .ok (.ret u)=>CE outer P w H s Q u s'
 | .ok _=>False
 | .error e=>CX outer H s E e s'
structure sA (P:Program) (w:World) (K:Fg) (mg:Str->Option Value) (base:Heap) (CX:PL) (k:Nat) (f:Addr) (fd:FuncData) (ps:List Str) (sp:Sp):Prop where
 len:∀vs H Q E,sp vs H Q E->vs.length=ps.length
 run:∀(A:Around) (outer:List Env) (s:Shared) (H:Hp) (args:Args) (us:List Value) (vs:List V) (Q:VK) (E:XK),cI k A->CP P w K mg base A outer s H->BindsTo s fd args (ps.zip us)->Vals vs us->sp vs H Q E->
  codeAny (model P w) A (.call (.ref f) args) (CR CX outer P w H s Q E) s
theorem CP.make {P:Program} {w:World} {K:Fg} {mg:Str->Option Value} {base:Heap} {A:Around} {outer:List Env} {s:Shared} {H:Hp} (e:CP P w K mg base A outer s H) (C:Addr) (us:List Value) (kw:List (Str × Value)):
  CP P w K mg base (A.under (.builtin "type.__call__" ⟨.ref C::us,kw⟩)) outer s H:=⟨by first|exact e.frames|(simpa [Around.under,Code.envs,Code.isFrame,pushEnvs] using e.frames),e.mod,e.bs,e.bsz,e.funs,e.frf,e.hok,e.bare⟩
section
variable {X:Cx} {pins:List (Addr × Obj)} {σ:St} {H:Hp} {s s':Shared}
theorem Inv.env0 (I:Inv X pins σ H s):CP X.prog X.w X.K X.mg X.base X.A X.stack s H:=
 ⟨I.ok.frames,I.ok.mod,I.bs,le_trans I.ok.bsz I.sz,I.stack,I.stkFree,I.hok,I.bare⟩
theorem Inv.after (I:Inv X pins σ H s) (h:CE X.stack X.prog X.w H s Q u s'):EP X pins σ Q u s':=by
 obtain ⟨v,H',os,bare,un,hok,r,q⟩:=h;obtain ⟨hh,g,d,t,os'⟩:=s';obtain rfl:os'=s.os:=os;exact ⟨v,H',I.call (h':=hh) (g':=g) (d':=d) (t':=t) (ch:=[]) un hok bare (λb z=>absurd z (by simp)),r,q⟩
end
def Binds (K:Fg) (fd:FuncData) (ps:List Str) (ds:List Value):Prop:=
 ∀(s:Shared) (us:List Value),K.In s.heap->(us++ds).length=ps.length->BindsTo s fd ⟨us,[]⟩ (ps.zip (us++ds))
theorem Binds.all {K:Fg} {fd:FuncData} {ps:List Str} (h:∀us:List Value,us.length=ps.length->bindArgs fd ⟨us,[]⟩=pure (ps.zip us)):Binds K fd ps []:=λs us _ hl=>by
 rw[append_nil] at hl ⊢;exact .of_eq (h us hl)
def Passes (CX:PL) (X:Cx) (E:XK):Prop:=∀(pins:List (Addr × Obj)) (σ:St) (H:Hp) (s:Shared) (e:Value) (s':Shared),Inv X pins σ H s->CX X.stack H s E e s'->X.xe e s'
section
variable {X:Cx} {CX:PL} {k:Nat} {f C:Addr} {fd:FuncData} {ps:List Str} {sp:Sp} {dvs:List V} {ds:List Value} {E:XK} {x m:Str} {p pos apos:Pos} {e o:Expr} {es:List Expr} {ta:TE} {t:TA}
structure Mk (K:Fg) (C f:Addr):Prop where
 makes:PySem.W.makesIn K C=true
 init:PySem.W.findIn K (.ref C) "__init__"=some (some (.ref f))
 fn:PySem.W.isFn K (.ref f)=true
 kp:PySem.W.keepIn K (.ref C)=true
end
section
variable {X:Cx} {CX:PL} {k:Nat} {f C:Addr} {fd:FuncData} {ps ks:List Str} {sp:Sp} {E:XK} {x m:Str} {p pos apos kpos:Pos} {e o:Expr} {es:List Expr} {kws:List Keyword} {te ta:TE} {t tk:TA} {nm:Option Str}
variable {g:List Value->List Value->List Value} {gV:List V->List V->List V}
end
structure dZ (N P:List Str) (sc:Scope):Prop where
 kind:sc.kind=.function
 co:sc.isCoroutine=false
 gen:sc.isGenerator=false
 nd:N.Nodup
 pre:N.take P.length=P
 par:∀x∈P,sc.names.lookup x=some .local\/sc.names.lookup x=some .cell
 nofree:∀y∈sc.names,y.2≠.free
theorem tP {kindOf:Str->Option NameKind} {x:Str}:∀{binds:List (Str × Value)} {m:Str->Option Value},(∀v,(x,v)∉binds)->bindL kindOf binds m x=m x
 |[],_,_=>rfl
 | (n,v)::r,m,h=>by
  unfold bindL;rw[tP λw hw=>h w (mem_cons_of_mem _ hw)];split
  ·have:x≠n:=by rintro rfl;exact h v mem_cons_self
   simp [this]
  ·rfl
theorem tS {kindOf:Str->Option NameKind} {x:Str}:∀{binds:List (Str × Value)} {m:Str->Option Value},(∀v,(x,v)∉binds)->bindC kindOf binds m x=m x
 |[],_,_=>rfl
 | (n,v)::r,m,h=>by
  unfold bindC;rw[tS λw hw=>h w (mem_cons_of_mem _ hw)];split
  ·rfl
  ·have:x≠n:=by rintro rfl;exact h v mem_cons_self
   simp [this]
theorem tQ {kindOf:Str->Option NameKind} {x:Str} {v:Value}:∀{P:List Str} {vs:List Value} {i:Nat} {m:Str->Option Value},P.Nodup->P[i]?=some x->vs[i]?=some v->kindOf x=some .local->
  bindL kindOf (P.zip vs) m x=some v
 |[],_,_,_,_,h,_,_=>by simp at h
 |_::_,[],_,_,_,_,h,_=>by simp at h
 |p::P,w::vs,0,m,nd,h1,h2,hk=>by
  simp at h1 h2;subst h1;subst h2;show bindL kindOf ((p,w)::P.zip vs) m p=_;unfold bindL;rw[tP λv hv=>(nodup_cons.mp nd).1 (List.of_mem_zip hv).1,if_pos hk];simp
 |p::P,w::vs,i+1,m,nd,h1,h2,hk=>by
  show bindL kindOf ((p,w)::P.zip vs) m x=_;unfold bindL;exact tQ (i:=i) (nodup_cons.mp nd).2 (by simpa using h1) (by simpa using h2) hk
theorem tU {kindOf:Str->Option NameKind} {x:Str} {v:Value}:∀{P:List Str} {vs:List Value} {i:Nat} {m:Str->Option Value},P.Nodup->P[i]?=some x->vs[i]?=some v->kindOf x≠some .local->
  bindC kindOf (P.zip vs) m x=some v
 |[],_,_,_,_,h,_,_=>by simp at h
 |_::_,[],_,_,_,_,h,_=>by simp at h
 |p::P,w::vs,0,m,nd,h1,h2,hk=>by
  simp at h1 h2;subst h1;subst h2;show bindC kindOf ((p,w)::P.zip vs) m p=_;unfold bindC;rw[tS λv hv=>(nodup_cons.mp nd).1 (List.of_mem_zip hv).1,if_neg hk];simp
 |p::P,w::vs,i+1,m,nd,h1,h2,hk=>by
  show bindC kindOf ((p,w)::P.zip vs) m x=_;unfold bindC;exact tU (i:=i) (nodup_cons.mp nd).2 (by simpa using h1) (by simpa using h2) hk
def start (N:List Str) (vs:List V):St:=vs.map some++replicate (N.length - vs.length) none
def rW (CX:PL) (P:Program) (w:World) (K:Fg) (mg:Str->Option Value) (base:Heap) (N:List Str) (qual:Str) (scope:Scope) (f:Addr) (cd:Value) (A:Around) (outer:List Env) (s:Shared) (H:Hp) (E:XK):Cx where
 prog:=P
 w:=w
 K:=K
 mg:=mg
 base:=base
 A:=A.deeper (envOfC qual scope s.heap.objs.size f cd)
 N:=N
 s₀:=s
 H₀:=H
 env:=envOfC qual scope s.heap.objs.size f cd
 outer:=outer
 stack:=envOfC qual scope s.heap.objs.size f cd::outer
 ex:=[]
 calm:=true
 fn:=λ_=>true
 pn:=[]
 xe:=λe s'=>wpAny (model P w) (A.deeper (envOfC qual scope s.heap.objs.size f cd)) (leaving (envOfC qual scope s.heap.objs.size f cd) e) (λ_ s''=>CX outer H s E e s'') (λe' s''=>CX outer H s E e' s'') s'
theorem qT {sc:Scope} {n:Nat} {x:Str} (h:sc.names.lookup x=some .cell):∃c,(cellsFrom n sc.names []).lookup x=some c:=by
 have q:=PySem.W.cellsFrom_some sc.names n [] (.inl h);exact Option.isSome_iff_exists.mp q
theorem HB {CX:PL} {P:Program} {w:World} {K:Fg} {mg:Str->Option Value} {base:Heap} {N ps:List Str} {qual:Str} {scope:Scope} {f:Addr} {cd:Value} {A:Around} {outer:List Env} {s s1:Shared} {H:Hp} {E:XK} {us:List Value} {vs:List V}
  (S:dZ N ps scope) (hd:A.handled=none) (e0:CP P w K mg base A outer s H) (hl:vs.length=ps.length) (r:Vals vs us)
  (x:InCallC s s.heap.objs.size (bindL (envOfC qual scope s.heap.objs.size f cd).kindOf (ps.zip us) λ_=>none) (cellsFrom (s.heap.objs.size+1) scope.names []) (bindC (envOfC qual scope s.heap.objs.size f cd).kindOf (ps.zip us) λ_=>none) s1):
  Inv (rW CX P w K mg base N qual scope f cd A outer s H E) [] (start N vs) H s1:=by
 have hpl:ps.length<=N.length:=by have:=congrArg length S.pre;rw[length_take] at this;lia
 obtain ⟨h1,tk,rfl,hk⟩:=x.done;have noA:∀b:Addr,b∉(rW CX P w K mg base N qual scope f cd A outer s H E).ex:=λb z=>absurd (show b∈([]:List Addr) from z) (by simp);refine ⟨⟨e0.mod,S.kind,rfl,rfl,Nat.le_refl _,λy z c h1 h2=>?_,λy hy=>?_,λy c _ h=>?_,λ_=>hd,Around.frames_deeper e0.frames,.inr ⟨rfl,rfl⟩,λb z=>absurd z (noA b),e0.bs,e0.bsz,λb _ _=>noA b,λb z=>absurd z (noA b),e0.funs,e0.frf⟩,
  rfl,e0.bare,Un.kept hk,⟨_,x.toInCall.ns,λi y v h1 h2 h3=>?_⟩,λy c h=>⟨_,x.cell y c h⟩,e0.hok.fresh (Nat.le_refl _),λy c h=>?_,λp hp=>absurd (show p∈([]:List (Addr × Obj)) from hp) (by simp),e0.hok.kept hk,?_⟩
 ·exact name_of_addr x.apart (PySem.mem_of_lookup h1) (PySem.mem_of_lookup h2)
 ·have hy:scope.names.lookup y=some .cell\/scope.names.lookup y=some .free:=hy;rcases hy with hy|hy
  ·exact qT hy
  ·exact absurd rfl (S.nofree _ (PySem.mem_of_lookup hy))
 ·exact le_of_lt (x.above y c (PySem.mem_of_lookup h))
 ·have hi:i<vs.length:=by
   unfold start at h2;by_cases hi:i<vs.length
   ·exact hi
   ·rw[getElem?_append_right (by simpa using hi)] at h2;rw[List.getElem?_replicate] at h2;split at h2<;>cases h2
  have ha:vs[i]?=some v:=by
   unfold start at h2;rw[getElem?_append_left (by simpa using hi),getElem?_map] at h2;cases e:vs[i]? with
   |none=>rw[e] at h2;cases h2
   |some a=>rw[e] at h2;cases h2;rfl
  obtain ⟨u,hu,rv⟩:=r.get ha;have hp:ps[i]?=some y:=by
   rw[<-S.pre,List.getElem?_take_of_lt (by lia)];exact h1
  have ndP:ps.Nodup:=by rw[<-S.pre];exact S.nd.sublist (List.take_sublist _ _)
  refine ⟨u,rv,?_⟩;rcases S.par y (mem_of_getElem? hp) with k|k
  ·exact .inl ⟨k,tQ ndP hp hu k⟩
  ·obtain ⟨c,e⟩:=qT (n:=s.heap.objs.size+1) k;refine .inr ⟨.inl k,c,e,?_⟩;have q:=x.cell y c e;rw[tU ndP hp hu (by show scope.names.lookup y≠_;rw[k];decide)] at q;exact q
 ·exact e0.hok.fresh (le_of_lt (x.above y c (PySem.mem_of_lookup h)))
 ·unfold start;show _=N.length;rw[length_append,length_map,length_replicate];lia
theorem Ik {CX:PL} {P:Program} {w:World} {K:Fg} {mg:Str->Option Value} {base:Heap} {k:Nat} {f:Addr} {name qual:Str} {params:Arguments} {body:List Stmt} {scope:Scope} {dV kV doc pm cdv ct oc:Value} {an od:Option Addr}
  {osl:Array (Option Value)} {N ps:List Str} {sp:Sp} (lk:K.lookup f=some ⟨oc,od,.func (PySem.W.fnOf name qual params body scope dV kV doc pm an cdv ct),osl⟩) (hcd:PySem.W.codeIn K cdv qual=true) (S:dZ N ps scope)
  (len:∀vs H Q E,sp vs H Q E->vs.length=ps.length)
  (hbody:∀(A:Around) (outer:List Env) (s:Shared) (H:Hp) (vs:List V) (Q:VK) (E:XK),cI k (A.deeper (envOfC qual scope s.heap.objs.size f cdv))->sp vs H Q E->
   ∃t,Cc (rW CX P w K mg base N qual scope f cdv A outer s H E) body t/\t {nx:=λ_ H'=>Q .non H',rt:=Q} (start N vs) H):
  sA P w K mg base CX (k+1) f (PySem.W.fnOf name qual params body scope dV kV doc pm an cdv ct) ps sp:=by
 refine ⟨len,λA outer s H args us vs Q E hr e0 hb r hsp=>?_⟩;have hl:=len _ _ _ _ hsp;have KX:K.In s.heap:=e0.mod.kin.keeps λb o e=>(e0.bs b o e).1;have lim:s.heap.NoLimit:=e0.mod.nolimit.keeps λb o e=>(e0.bs b o e).1;have hkind:∀y∈ps.zip us,scope.names.lookup y.1=some .local\/(scope.names.lookup y.1=some .cell/\((cellsFrom (s.heap.objs.size+1) scope.names []).lookup y.1).isSome=true):=λ⟨n,v⟩ hy=>by
  rcases S.par n (List.of_mem_zip hy).1 with q|q
  ·exact .inl q
  ·exact .inr ⟨q,PySem.W.cellsFrom_some _ _ _ (.inl q)⟩
 refine codeAny_call_function hr.depth (KX _ _ lk) rfl S.co S.gen rfl (PySem.W.codeRec_of KX hcd) (hb _ _ _ _ ?_);refine wpAny_newFunctionEnv_cells S.kind hkind λenv he s1 x=>?_;subst he;refine ⟨lim.keeps x.toInCall.keep,codeAny_func ?_⟩;obtain ⟨t,ht,hq⟩:=hbody A outer s H vs Q E (hr.deeper _) hsp;have I:Inv (rW CX P w K mg base N qual scope f cdv A outer s H E) [] (start N vs) H s1:=HB S hr.hd e0 hl r x;refine wpAny_mono (ht [] s1 (start N vs) H _ I hq) (λfl s' hs=>?_) λe s' hs=>hs;have fin:∀{σ':St} {H':Hp} {v:V} {u:Value},Inv (rW CX P w K mg base N qual scope f cdv A outer s H E) [] σ' H' s'->RelV v u->Q v H'->CE outer P w H s Q u s':=
  λ{σ' H' v u} J rv q=>⟨v,H',J.os,J.bare,J.base,J.hok,rv,q⟩
 cases fl with
 |ret u=>
  obtain ⟨v,σ',H',J,rv,q⟩:=hs;exact fin J rv q
 |next=>
  obtain ⟨σ',H',J,q⟩:=hs;exact fin (v:=V.non) (u:=Value.none) J rfl q
 |brk=>
  obtain ⟨_,_,_,q⟩:=hs;exact False.elim q
 |cont=>
  obtain ⟨_,_,_,q⟩:=hs;exact False.elim q
section
variable {X:Cx} {x:Str} {p pos:Pos} {e:Expr} {es:List Expr} {t:TA} {id T:String} {r:List V->Hp->VK->Prop}
def Ec (r:List V->Hp->VK->Prop) (t:TA):TE:=λσ H Q=>t σ H λvs H1=>r vs H1 Q
theorem yG (hc:bS X (.builtin id) r) (hg:Gl X x) (hm:X.mg x=none) (hv:bootBuiltins x=some (.builtin id)) (ha:PA X (e::es) t) (hn:x≠"__name__":=by decide) (hdb:(x==("__debug__":Str))=false:=by decide)
  (he:starEach (e::es) X.env=(false,eval e X.env)::starEach es X.env:=by rfl) (hpl:(backTo pos (starEach es X.env)).any (·.1)=false:=by rfl):PE X (.Call (.Name x p) (e::es) [] pos) (Ec r t):=by
 intro pins s σ H Q I h;refine wpAny_Call_Name_kw (fQ I hg hm hv ?_ hn hdb);exact PyProof.Rows.callWith_builtin1 (bU (ha pos pins s σ H _ I h) λus s1 ⟨vs,H1,I1,r1,q1⟩=>hc pins s1 σ H1 vs us Q I1 r1 q1) he hpl
theorem GH (hc:bS X (.type T) r) (hg:Gl X x) (hm:X.mg x=none) (hv:bootBuiltins x=some (.type T)) (ha:PA X (e::es) t) (hn:x≠"__name__":=by decide) (hdb:(x==("__debug__":Str))=false:=by decide)
  (he:starEach (e::es) X.env=(false,eval e X.env)::starEach es X.env:=by rfl) (hpl:(backTo pos (starEach es X.env)).any (·.1)=false:=by rfl):PE X (.Call (.Name x p) (e::es) [] pos) (Ec r t):=by
 intro pins s σ H Q I h;refine wpAny_Call_Name_kw (fQ I hg hm hv ?_ hn hdb);exact PyProof.Rows.callWith_type1 (bU (ha pos pins s σ H _ I h) λus s1 ⟨vs,H1,I1,r1,q1⟩=>hc pins s1 σ H1 vs us Q I1 r1 q1) he hpl
end
end L2
namespace HT
open PySem PyProof.Rows
section
open PySem.SeqAt
open PySem.AutoSeq1 (wpAny_loadPart')
open PySem.MeetsSeq PySem.MeetsSeq2 PySem.MeetsSeq3
end
section
variable {prog:Program} {w:World} {A:Around} {E:Value->Shared->Prop} {s:Shared}
theorem UO (ht:IsTup s.heap t vs.toArray) (hb:IsTup s.heap b ws.toArray) (hv:vs≠[])
  (h1:ws=[]->Q (.ref t) s) (h2:ws≠[]->Q (.ref s.heap.objs.size) {s with heap:=s.heap.push {cls:=.type "tuple",data:=.seq (vs++ws).toArray}})
  (hsz:vs.length+ws.length<=sizeLine):wpAny (model prog w) A (binaryOp .Add (.ref t) (.ref b)) Q E s:=by
 obtain ⟨⟨cls,dd,data,sl⟩,ho,hc,n,hd⟩:=id ht;obtain ⟨⟨cls2,dd2,data2,sl2⟩,ho2,hc2,n2,hd2⟩:=id hb;simp only at hc hd hc2 hd2;subst hc hd hc2 hd2;have e:vs.toArray++ws.toArray=(vs++ws).toArray:=by simp
 by_cases hw:ws=[]
 ·exact concat_meets ⟨_,ho,rfl⟩ ⟨_,ho2,rfl⟩ noFill_tuple_add seq_tuple_add PySem.F.slot_tuple_add PySem.F.entry_tuple_add (PySem.F.args_tuple_add_2 _ _)
   (tuple_addW1 t b vs.toArray ws.toArray n n2 dd dd2 sl sl2 (by simpa using hv) (by simp [hw])) ⟨ho,ho2,h1 hw⟩
 ·refine concat_meets ⟨_,ho,rfl⟩ ⟨_,ho2,rfl⟩ noFill_tuple_add seq_tuple_add PySem.F.slot_tuple_add PySem.F.entry_tuple_add (PySem.F.args_tuple_add_2 _ _)
   (tuple_addW2 t b vs.toArray ws.toArray n n2 dd dd2 sl sl2 (by simpa using hv) (by simpa using hw) (by rw[size_toArray,size_toArray];exact hsz)) ⟨ho,ho2,?_⟩
  rw[e];exact h2 hw
def dB (n d:Nat):Option Int->Nat
 |none=>d
 |some v=>if v<0 then (v+(n:Int)).toNat else min v.toNat n
theorem pG (n d:Nat):dB n d none=d:=rfl
theorem QX (n d k:Nat):dB n d (some (k:Int))=min k n:=by
 show (if (k:Int)<0 then ((k:Int)+(n:Int)).toNat else min (k:Int).toNat n)=min k n;rw[if_neg (by lia),toNat_natCast]
theorem XQ (n d:Nat) (hd:d<=n) (o:Option Int):dB n d o<=n:=by
 cases o with
 |none=>exact hd
 |some v=>
  show (if v<0 then (v+(n:Int)).toNat else min v.toNat n)<=n;by_cases hv:v<0
  ·rw[if_pos hv];lia
  ·rw[if_neg hv];exact Nat.min_le_right _ _
theorem EK (v:Int) (n d:Nat):(if v<0 then max (v+(n:Int)) 0 else min v (n:Int))=((dB n d (some v):Nat):Int):=by
 show (if v<0 then max (v+(n:Int)) 0 else min v (n:Int))=(((if v<0 then (v+(n:Int)).toNat else min v.toNat n):Nat):Int);by_cases hv:v<0
 ·simp only [if_pos hv];lia
 ·simp only [if_neg hv];lia
theorem CM (lo hi:Option Int) (n:Nat):Builtin.Slice.sliceAdjust lo hi 1 (n:Int)=(((dB n 0 lo:Nat):Int),((dB n n hi:Nat):Int)):=by
 have h1:¬((1:Int)<0):=by lia
 unfold Builtin.Slice.sliceAdjust;simp only [h1,if_false];refine Prod.ext ?_ ?_
 ·cases lo with
  |none=>rfl
  |some v=>exact EK v n 0
 ·cases hi with
  |none=>rfl
  |some v=>exact EK v n n
theorem BA (i j:Nat):Builtin.Slice.slicePlaces (i:Int) (j:Int) 1=j - i:=by
 unfold Builtin.Slice.slicePlaces;have h1:(1:Int)>0:=by lia
 simp only [h1,if_true,Int.ediv_one];split<;>lia
theorem pF (p:IsPart v o) (h:Q o s):wpAny (model prog w) A (Builtin.Slice.slicePartIndex v) Q E s:=by
 cases p with
 |none=>exact slicePart_none h
 |int i t=>exact slicePart_int h
theorem lT {sl:Addr} {vl vu:Value} {lo hi:Option Int} {n:Nat} {Q:Int × Int × Nat->Shared->Prop} (hs:s.heap.IsSliceOf sl vl vu .none) (pl:IsPart vl lo) (pu:IsPart vu hi)
  (h:Q (((dB n 0 lo:Nat):Int),1,dB n n hi - dB n 0 lo) s):wpAny (model prog w) A (Builtin.Slice.sliceApplied (.ref sl) (pure (n:Int))) Q E s:=by
 obtain ⟨os,hos,hcs,hds⟩:=id hs;unfold Builtin.Slice.sliceApplied Builtin.Slice.sliceFields;refine wpAny_bind (wpAny_bind (wpAny_field hos hds (x:=vl) rfl (wpAny_bind (wpAny_field hos hds (x:=vu) rfl (wpAny_bind (wpAny_field hos hds (x:=.none) rfl (wpAny_pure ?_)))))));refine wpAny_bind (slicePart_none ?_);show wpAny _ _ (if ((1:Int)==0)=true then _ else _) _ _ s;rw[if_neg (by decide)];refine wpAny_bind (pF pl (wpAny_bind (pF pu (wpAny_bind (wpAny_pure ?_)))));show wpAny _ _ (match Builtin.Slice.sliceAdjust lo hi 1 (n:Int) with|(lo,hi)=>pure (lo,(1:Int),Builtin.Slice.slicePlaces lo hi 1)) _ _ s;rw[CM lo hi n];show wpAny _ _ (pure (((dB n 0 lo:Nat):Int),(1:Int),Builtin.Slice.slicePlaces ((dB n 0 lo:Nat):Int) ((dB n n hi:Nat):Int) 1)) _ _ s;rw[BA];exact wpAny_pure h
theorem KQ (xs:Array Value) (i k:Nat):((range k).filterMap λ(m:Nat)=>xs[((i:Int)+(m:Int) * 1).toNat]?).toArray=((xs.toList.drop i).take k).toArray:=by
 have e:(λ(m:Nat)=>xs[((i:Int)+(m:Int) * 1).toNat]?)=λm=>xs[i+m]?:=by
  funext m
  have:((i:Int)+(m:Int) * 1).toNat=i+m:=by lia
  rw[this]
 rw[e];have:=pick_run xs i k;rw[List.filterMap_map] at this;have e2:((λx=>xs[x]?)∘λx=>i+x)=λm=>xs[i+m]?:=rfl;rw[e2] at this;rw[this]
theorem kW {t sl:Addr} {items:Array Value} {vl vu:Value} {lo hi:Option Int} {Q:Value->Shared->Prop} (ht:IsTup s.heap t items) (hs:s.heap.IsSliceOf sl vl vu .none) (pl:IsPart vl lo) (pu:IsPart vu hi)
  (hw:¬(dB items.size 0 lo=0/\dB items.size items.size hi=items.size))
  (h:Q (.ref s.heap.objs.size) {s with heap:=s.heap.push {cls:=.type "tuple",data:=.seq ((items.toList.drop (dB items.size 0 lo)).take (dB items.size items.size hi - dB items.size 0 lo)).toArray}})
  (hsz:items.size<=sizeLine):wpAny (model prog w) A (getItem (.ref t) (.ref sl)) Q E s:=by
 have htake:sizeOk (.seq ((items.toList.drop (dB items.size 0 lo)).take (dB items.size items.size hi - dB items.size 0 lo)).toArray):=by
  show ((items.toList.drop (dB items.size 0 lo)).take (dB items.size items.size hi - dB items.size 0 lo)).toArray.size<=sizeLine;rw[size_toArray,length_take,length_drop,length_toList];lia
 have hj:dB items.size items.size hi<=items.size:=XQ _ _ (Nat.le_refl _) hi;obtain ⟨os,hos,hcs,hds⟩:=id hs;have hTs:s.TypeIs (.ref sl) "slice":=⟨os,hos,hcs⟩;unfold getItem
 try with_reducible refine wpAny_holding ?_
 first|refine wpAny_bind (wpAny_pure ?_)|skip
 refine wpAny_bind (wpAny_sequenceKey ht.typeIs (by decide) ?_);refine wpAny_bind (wpAny_callSpecial?_slot (name:=Str.ofString "__getitem__") ht.typeIs PyProof.Rows.slot_tuple_getitem
  (wpAny_call_entry PyProof.Rows.slot_tuple_getitem ht.typeIs entry_tuple_getitem ?_ (args_tuple_getitem _ _)))
 show wpAny _ _ (Builtin.Tuple.tupleItemsOf (.ref t) >>=_) _ _ s;refine wpAny_bind (tupleItemsOf_ ht ?_);refine wpAny_bind (wpAny_typeOf hTs ?_);rw[if_pos (by decide)];refine wpAny_bind (lT hs pl pu ?_);have hno:¬((((dB items.size 0 lo:Nat):Int)==0&&(1:Int)==1&&(dB items.size items.size hi - dB items.size 0 lo)==items.size)=true):=by
  intro q;rw[and_eq_true,and_eq_true] at q;have q1:((dB items.size 0 lo:Nat):Int)=0:=eq_of_beq q.1.1;have q2:dB items.size items.size hi - dB items.size 0 lo=items.size:=eq_of_beq q.2;exact hw ⟨by lia,by lia⟩
 show wpAny _ _ (if (((dB items.size 0 lo:Nat):Int)==0&&(1:Int)==1&&(dB items.size items.size hi - dB items.size 0 lo)==items.size)=true then _ else _) _ _ s;rw[if_neg hno,KQ]
 first
  |exact wpAny_bind (m:=Builtin.Tuple.tupleExact _) (wpAny_newObj_type (wpAny_pure ⟨_,rfl,wpAny_pure h⟩) htake)
  |exact wpAny_bind (m:=Builtin.Tuple.tupleExact _) (wpAny_newObj_type (wpAny_bind (wpAny_pure (wpAny_pure ⟨_,rfl,wpAny_pure h⟩))) htake)
  |exact wpAny_bind (wpAny_bind (m:=Builtin.Tuple.tupleExact _) (wpAny_newObj_type (wpAny_pure (wpAny_pure ⟨_,rfl,wpAny_pure h⟩)) htake))
  |exact wpAny_bind (wpAny_bind (m:=Builtin.Tuple.tupleExact _) (wpAny_newObj_type (wpAny_pure ⟨_,rfl,wpAny_pure h⟩) htake))
end
end HT
namespace L2
open PySem PySem.Spec PyProof.Rows
abbrev TO:=St->Hp->(Option Int->Hp->Prop)->Prop
def PO (X:Cx) (e:Option Expr) (t:TO):Prop:=
 ∀(pins:List (Addr × Obj)) (s:Shared) (σ:St) (H:Hp) (Q:Option Int->Hp->Prop),Inv X pins σ H s->t σ H Q->
  wpAny (model X.prog X.w) X.A (evalPart e X.env) (λu s'=>∃o H',Inv X pins σ H' s'/\IsPart u o/\Q o H') X.xe s
def CU:TO:=λ_ H Q=>Q none H
theorem intsAre_of:∀{us:List Value},Vals (ns.map V.int) us->IntsAre us ns:=by
 induction ns with
 |nil=>intro us r;rw[map_nil] at r;cases r;exact .nil
 |cons n ns ih=>
  intro us r;rw[map_cons] at r;cases r with
  |cons r1 r2=>
   obtain ⟨t,e⟩:=r1;subst e;exact .cons n t (ih r2)
section
variable {X:Cx} {e:Expr} {te:TE} {lo hi:Option Expr} {tl th:TO} {pos p2:Pos}
theorem RJ:PO X none CU:=by
 intro pins s σ H Q I h;rw[evalPart_none];exact wpAny_pure ⟨none,H,I,.none,h⟩
def Ji (X:Cx) (r:V->Option Int->Option Int->Hp->VK->Prop):Prop:=
 ∀(pins:List (Addr × Obj)) (s:Shared) (σ:St) (H:Hp) (x:V) (v vl vu:Value) (lo hi:Option Int) (sl:Addr) (Q:VK),Inv X pins σ H s->RelV x v->s.heap.IsSliceOf sl vl vu .none->IsPart vl lo->IsPart vu hi->r x lo hi H Q->
  ∃T id,typeLookup (.type T) "__getitem__"=pure (some (.builtin id))/\s.TypeIs v T/\wpAny (model X.prog X.w) X.A (getItem v (.ref sl)) (EP X pins σ Q) X.xe s
def Ms (r:V->Option Int->Option Int->Hp->VK->Prop) (te:TE) (tl th:TO):TE:=λσ H Q=>te σ H λx H1=>tl σ H1 λl H2=>th σ H2 λu H3=>r x l u H3 Q
theorem KS (hr:Ji X r) (he:PE X e te) (hl:PO X lo tl) (hu:PO X hi th):PE X (.Subscript e (.Slice lo hi none p2) pos) (Ms r te tl th):=by
 intro pins s σ H Q I h;refine Subscript_ (bU (he pins s σ H _ I h) λv s1 ⟨x,H1,I1,r1,q1⟩=>?_);refine wpAny_Slice (bU (hl pins s1 σ H1 _ I1 q1) λvl s2 ⟨l,H2,I2,pl,q2⟩=>bU (hu pins s2 σ H2 _ I2 q2) λvu s3 ⟨u,H3,I3,pu,q3⟩=>?_);rw[evalPart_none];refine wpAny_pure ?_;have I4:Inv X pins σ H3 {s3 with heap:=s3.heap.push {cls:=.type "slice",data:=.fields #[vl,vu,.none]}}:=I3.kept (t':=s3.toks) λb ob q=>get?_push_of_some _ q;obtain ⟨T,id,hT,ht,hg⟩:=hr pins {s3 with heap:=s3.heap.push {cls:=.type "slice",data:=.fields #[vl,vu,.none]}} σ H3 x v vl vu l u s3.heap.objs.size Q I4 r1 (Heap.IsSliceOf.new ..) pl pu q3;show wpAny (model X.prog X.w) X.A (subscriptTail e (.Slice lo hi none p2) v (.ref s3.heap.objs.size)) (EP X pins σ Q) X.xe {s3 with heap:=s3.heap.push {cls:=.type "slice",data:=.fields #[vl,vu,.none]}};exact tail_any (ops:=[.ref s3.heap.objs.size,v]) ht hT hg (by with_unfolding_all rfl)
def lC (xs:List V) (lo hi:Option Int):List V:=(xs.drop (HT.dB xs.length 0 lo)).take (HT.dB xs.length xs.length hi - HT.dB xs.length 0 lo)
theorem mY (xs:List V) (lo hi:Option Int):(lC xs lo hi).length<=xs.length:=by
 unfold lC;rw[length_take,length_drop];lia
def Eo (K:Fg):V->Option Int->Option Int->Hp->VK->Prop:=λx lo hi H Q=>∃a xs,x=.ref a/\cZ K H a xs/\
 ¬(HT.dB xs.length 0 lo=0/\HT.dB xs.length xs.length hi=xs.length)/\∀p,H p=none->Q (.ref p) (upd H p (.tup (lC xs lo hi)))
theorem XH:Ji X (Eo X.K):=by
 intro pins s σ H x v vl vu lo hi sl Q I rx hs pl pu h;obtain ⟨a,xs,rfl,hx,hw,q⟩:=h;cases rx;obtain ⟨its,r,ht,hz⟩:=I.tuple hx;have hlen:its.toArray.size=xs.length:=by rw[size_toArray];exact r.length.symm
 refine ⟨"tuple",_,PyProof.Rows.slot_tuple_getitem.lookup,ht.typeIs,?_⟩;refine HT.kW ht hs pl pu (by rw[hlen];exact hw) ?_ (by rw[hlen];exact hz);rw[hlen];refine ⟨.ref s.heap.objs.size,_,I.laid (t':=s.toks) (o:=.tup (lC xs lo hi)) (λb ob q=>get?_push_of_some _ q) (Nat.le_refl _) ?_,rfl,q _ (I.hok.fresh (Nat.le_refl _))⟩;exact ⟨le_trans (mY xs lo hi) hz,_,(r.drop (HT.dB xs.length 0 lo)).take (HT.dB xs.length xs.length hi - HT.dB xs.length 0 lo),IsTup.new _ _⟩
def VQ (K:Fg):R2:=λx y H Q=>∃a b xs ys,x=.ref a/\y=.ref b/\cZ K H a xs/\cZ K H b ys/\xs≠[]/\xs.length+ys.length<=sizeLine/\
 (ys=[]->Q (.ref a) H)/\(ys≠[]->∀p,H p=none->Q (.ref p) (upd H p (.tup (xs++ys))))
theorem Vals.nil_iff (r:Vals xs us):us=[]↔xs=[]:=by
 cases r with
 |nil=>simp
 |cons _ _=>simp
theorem RY:gD X (binaryOp .Add) (VQ X.K):=by
 intro pins s σ H x y v u Q I rx ry h;obtain ⟨a,b,xs,ys,rfl,rfl,ha,hb,hx,hz,q1,q2⟩:=h;cases rx;cases ry;obtain ⟨its,r1,p1,_⟩:=I.tuple ha;obtain ⟨its2,r2,p2,_⟩:=I.tuple hb;refine HT.UO p1 p2 (λz=>hx (r1.nil_iff.mp z)) (λz=>⟨.ref a,H,I,rfl,q1 (r2.nil_iff.mp z)⟩) (λz=>?_) (by rw[<-r1.length,<-r2.length];exact hz);refine ⟨.ref s.heap.objs.size,_,I.laid (t':=s.toks) (o:=.tup (xs++ys)) (λb ob q=>get?_push_of_some _ q) (Nat.le_refl _) ?_,rfl,q2 (λw=>z (r2.nil_iff.mpr w)) _ (I.hok.fresh (Nat.le_refl _))⟩;exact ⟨by rw[length_append];exact hz,_,r1.append r2,IsTup.new _ _⟩
end
def PN (n:Nat) (i:Int):Option Nat:=if 0<=i then (if i<n then some i.toNat else none) else if -(n:Int)<=i then some (i+n).toNat else none
def rX {α:Type} (xs:List α) (i:Int):Option α:=(PN xs.length i).bind λj=>xs[j]?
theorem DQ (h:PN n i=some j):seqIndex? i n=some j/\j<n/\-(n:Int)<=i/\i<n:=by
 unfold PN at h;by_cases h0:0<=i
 ·rw[if_pos h0] at h;by_cases h1:i<n
  ·rw[if_pos h1] at h;have e:i.toNat=j:=Option.some.inj h;exact ⟨by rw[seqIndex_of h0 h1,e],by lia,by lia,h1⟩
  ·rw[if_neg h1] at h;cases h
 ·rw[if_neg h0] at h;by_cases h1:-(n:Int)<=i
  ·rw[if_pos h1] at h;have e:(i+n).toNat=j:=Option.some.inj h;exact ⟨by rw[seqIndex_neg (by lia) h1,e],by lia,h1,by lia⟩
  ·rw[if_neg h1] at h;cases h
theorem wQ {α:Type} {xs:List α} {i:Int} {v:α} (h:rX xs i=some v):∃j,seqIndex? i xs.length=some j/\xs[j]?=some v/\j<xs.length/\-(xs.length:Int)<=i/\i<xs.length:=by
 unfold rX at h;cases e:PN xs.length i with
 |none=>rw[e] at h;cases h
 |some j=>
  rw[e] at h;obtain ⟨h1,h2,h3,h4⟩:=DQ e;exact ⟨j,h1,h,h2,h3,h4⟩
theorem gN {α:Type} {xs:List α} {j:Nat} {v:α} (h:xs[j]?=some v):rX xs (j:Int)=some v:=by
 have hj:j<xs.length:=(List.getElem?_eq_some_iff.mp h).1;have e:PN xs.length (j:Int)=some j:=by
  unfold PN;rw[if_pos (by lia),if_pos (by lia)];simp
 unfold rX;rw[e];exact h
theorem OT (xs:List α) (v:α):rX (xs++[v]) (-1)=some v:=by
 have hl:(xs++[v]).length=xs.length+1:=by simp
 have e:PN (xs++[v]).length (-1)=some xs.length:=by
  unfold PN;rw[hl,if_neg (by decide),if_pos (by lia)]
  congr 1
  lia
 unfold rX;rw[e];show (xs++[v])[xs.length]?=some v;simp
def FC (b:Expr):Prop:=∀o i,subscripted b false o i=operate [o,i] (getItem o i)
def Cz (X:Cx) (r:R2):Prop:=
 ∀(value slice:Expr) (pins:List (Addr × Obj)) (s:Shared) (σ:St) (H:Hp) (x y:V) (v u:Value) (Q:VK),Inv X pins σ H s->RelV x v->RelV y u->r x y H Q->
  subscripted slice false v u=operate [v,u] (getItem v u)->wpAny (model X.prog X.w) X.A (subscriptTail value slice v u) (EP X pins σ Q) X.xe s
def Cf (X:Cx) (id:String) (r:V->List V->Hp->VK->Prop):Prop:=
 ∀(pins:List (Addr × Obj)) (s:Shared) (σ:St) (H:Hp) (x:V) (xs:List V) (v:Value) (us:List Value) (Q:VK),Inv X pins σ H s->RelV x v->Vals xs us->r x xs H Q->
  wpAny (model X.prog X.w) X.A (call (.builtin id) (v::us)) (EP X pins σ Q) X.xe s
section
variable {X:Cx} {a b:Expr} {ta tb:TE} {pos:Pos}
theorem Fi (hr:Cz X r) (ha:PE X a ta) (hb:PE X b tb) (hs:FC b):PE X (.Subscript a b pos) (XC r ta tb):=by
 intro pins s σ H Q I h;exact Subscript_ (Bu ha hb I h λv u s2 x y H2 I2 rx ry q=>hr a b pins s2 σ H2 x y v u Q I2 rx ry q (hs _ _))
def Ew (K:Fg):R2:=λx y H Q=>∃p xs i v,x=.ref p/\y=.int i/\aP K H p xs/\rX xs i=some v/\Q v H
def Eu (K:Fg):R2:=λx y H Q=>∃p xs i v,x=.ref p/\y=.int i/\cZ K H p xs/\rX xs i=some v/\Q v H
def Ku:R2:=λx y H Q=>∃z i c,x=.str z/\y=.int i/\z.length<=sizeLine/\rX z.cps.toList i=some c/\Q (.str ⟨#[c]⟩) H
theorem SY:Cz X (Ew X.K):=by
 intro value slice pins s σ H x y v u Q I rx ry h hs;obtain ⟨p,xs,i,z,rfl,rfl,hq,he,q⟩:=h;cases rx;obtain ⟨t,rfl⟩:=ry;obtain ⟨its,r,pl,hz⟩:=I.list hq;obtain ⟨j,h1,h2,h3,h4,h5⟩:=wQ he;obtain ⟨w,ew,rw'⟩:=r.get h2;have hl:=r.length;have hn:=mD;have fin:EP X pins σ Q w s:=⟨z,H,I,rw',q⟩;by_cases h0:0<=i
 ·have hj:i.toNat=j:=by
   rw[seqIndex_of h0 h5] at h1;exact Option.some.inj h1
  exact item_listR pl.isList h0 (by lia) (by rw[hj];simpa using ew) fin hs
 ·have hj:(i+(its.toArray.size:Int)).toNat=j:=by
   rw[seqIndex_neg (by lia) h4] at h1;rw[size_toArray,<-hl];exact Option.some.inj h1
  exact subscriptTail_builtinR (x:=w) pl.isList.typeIs slot_list_getitem.lookup
   (wpAny_getItem_list_neg (Q:=λr s'=>r=w/\EP X pins σ Q r s') pl.isList (by lia) (by rw[size_toArray]<;>lia) (by lia) (by rw[hj];simpa using ew) ⟨rfl,fin⟩) hs
theorem ZX:Cz X (Eu X.K):=by
 intro value slice pins s σ H x y v u Q I rx ry h hs;obtain ⟨p,xs,i,z,rfl,rfl,hq,he,q⟩:=h;cases rx;obtain ⟨t,rfl⟩:=ry;obtain ⟨its,r,pl,hz⟩:=I.tuple hq;obtain ⟨j,h1,h2,h3,h4,h5⟩:=wQ he;obtain ⟨w,ew,rw'⟩:=r.get h2;have hl:=r.length;have hn:=mD;have fin:EP X pins σ Q w s:=⟨z,H,I,rw',q⟩;exact subscriptTail_builtinR (x:=w) pl.typeIs slot_tuple_getitem.lookup
  (getItem_tuple (j:=j) (Q:=λr s'=>r=w/\EP X pins σ Q r s') pl (by lia) (by lia) (by rw[size_toArray,<-hl];exact h1) (by simpa using ew) ⟨rfl,fin⟩) hs
theorem ZY:Cz X Ku:=by
 intro value slice pins s σ H x y v u Q I rx ry h hs;obtain ⟨z,i,c,rfl,rfl,hz,he,q⟩:=h;obtain ⟨t,rfl⟩:=rx;obtain ⟨t',rfl⟩:=ry;obtain ⟨j,h1,h2,h3,h4,h5⟩:=wQ he;have hl:z.cps.toList.length=z.length:=by simp [Str.length]
 rw[hl] at h1 h4 h5;have hn:=mD;exact tail_any (typeIs_str s z t) slot_str_getitem.lookup (getItem_str (c:=c) (by
  have e1:decide (i< -(2 ^ 63:Int))=false:=decide_eq_false (by lia)
  have e2:decide (i>=2 ^ 63)=false:=decide_eq_false (by lia)
  rw[e1,e2,Bool.or_false]) (by rw[h1];simpa using h2) ⟨.str ⟨#[c]⟩,H,I.tok _,⟨_,rfl⟩,q⟩) hs
theorem BI (its:List Value) (n j:Nat) (u:Value):Obj.mapSeq (·.setIfInBounds j u) {cls:=.type "list",data:=.seq its.toArray n}={cls:=.type "list",data:=.seq (its.set j u).toArray n}:=by
 simp [Obj.mapSeq]
theorem Inv.lst {pins:List (Addr × Obj)} {σ:St} {H:Hp} {s:Shared} {p:Addr} {xs:List V} (I:Inv X pins σ H s) (h:H p=some (.lst xs)):
  ∃(its:List Value) (n:Nat),Vals xs its/\s.heap.get? p=some {cls:=.type "list",data:=.seq its.toArray n}/\xs.length<=sizeLine:=by
 obtain ⟨z,its,n,r,e⟩:=I.hok p _ h;exact ⟨its,n,r,e,z⟩
theorem Inv.lstUpd {pins:List (Addr × Obj)} {σ:St} {H:Hp} {s:Shared} {p:Addr} {xs ys:List V} {its its':List Value} {n n':Nat} {f:Obj->Obj} (I:Inv X pins σ H s) (h:H p=some (.lst xs))
  (ho:s.heap.get? p=some {cls:=.type "list",data:=.seq its.toArray n}) (hf:f {cls:=.type "list",data:=.seq its.toArray n}={cls:=.type "list",data:=.seq its'.toArray n'}) (r:Vals ys its') (hz:ys.length<=sizeLine) (t:Nat):
  Inv X pins σ (upd H p (.lst ys)) {s with heap:=s.heap.update p f,toks:=t}:=by
 have e:(s.heap.update p f).get? p=some {cls:=.type "list",data:=.seq its'.toArray n'}:=by
  rw[get?_update_self f ho (by rw[hf]<;>rfl),hf]
 refine I.write (x:=p) (e:=p) (by rw[h];trivial) (.inl rfl) (λb u hb q=>(get?_update_other _ _ (Ne.symm hb)).trans q) ⟨_,e⟩ ?_;exact ⟨hz,its',n',r,e⟩
def VN:V->V->V->Hp->(Hp->Prop)->Prop:=λo i v H Q=>∃p xs k j,o=.ref p/\i=.int k/\H p=some (.lst xs)/\PN xs.length k=some j/\Q (upd H p (.lst (xs.set j v)))
theorem set_list:Cd X VN:=by
 intro pins s σ H o i v ov iv u Q I ro ri rv h;obtain ⟨p,xs,k,j,rfl,rfl,hp,hj,q⟩:=h;cases ro;obtain ⟨t,rfl⟩:=ri;obtain ⟨its,n,r,ho,hz⟩:=I.lst hp;obtain ⟨h1,h2,h3,h4⟩:=DQ hj;have hl:=r.length;have hn:=mD;have I':Inv X pins σ (upd H p (.lst (xs.set j v))) {s with heap:=s.heap.update p (Obj.mapSeq (·.setIfInBounds j u))}:=
  I.lstUpd hp ho (BI its n j u) (r.set rv j) (by rw[List.length_set];exact hz) s.toks
 by_cases h0:0<=k
 ·have hk:k.toNat=j:=by
   rw[seqIndex_of h0 h4] at h1;exact Option.some.inj h1
  exact PySem.W.ki_setAt ho h0 (by lia) (by rw[size_toArray,<-hl];exact h4) (by rw[hk];exact ⟨_,I',q⟩)
 ·have hk:(k+(its.toArray.size:Int)).toNat=j:=by
   rw[seqIndex_neg (by lia) h3] at h1;rw[size_toArray,<-hl];exact Option.some.inj h1
  exact PySem.W.ki_setBack ho (by lia) (by rw[size_toArray,<-hl];exact h3) (by lia) (by rw[hk];exact ⟨_,I',q⟩)
theorem uS (lo hi:Option Int) (n:Nat):(sliceBounds lo hi none n).1=((HT.dB n 0 lo:Nat):Int)/\(sliceBounds lo hi none n).2.1=((HT.dB n n hi:Nat):Int)/\(sliceBounds lo hi none n).2.2=1:=by
 refine ⟨?_,?_,rfl⟩
 ·cases lo with
  |none=>simp [sliceBounds,HT.dB]
  |some i=>
   simp only [sliceBounds,HT.dB,Option.getD_none,show (1:Int)>0 by decide,if_true];by_cases h:i<0
   ·simp only [h,if_true]<;>lia
   ·simp only [h,if_false]<;>lia
 ·cases hi with
  |none=>simp [sliceBounds,HT.dB]
  |some i=>
   simp only [sliceBounds,HT.dB,Option.getD_none,show (1:Int)>0 by decide,if_true];by_cases h:i<0
   ·simp only [h,if_true]<;>lia
   ·simp only [h,if_false]<;>lia
theorem rP (its:List Value) (lo hi:Option Int):slicePick its.toArray lo hi none=((its.drop (HT.dB its.length 0 lo)).take (HT.dB its.length its.length hi - HT.dB its.length 0 lo)).toArray:=by
 obtain ⟨h1,h2,h3⟩:=uS lo hi its.toArray.size;unfold slicePick;rw[h1,h2,h3];simp only [sliceRange_one,pick_run,size_toArray]<;>rfl
def Ep (K:Fg):V->Option Int->Option Int->Hp->VK->Prop:=λx lo hi H Q=>∃a xs,x=.ref a/\aP K H a xs/\∀p,H p=none->Q (.ref p) (upd H p (.lst (lC xs lo hi)))
theorem QN:Ji X (Ep X.K):=by
 intro pins s σ H x v vl vu lo hi sl Q I rx hs pl pu h;obtain ⟨a,xs,rfl,hx,q⟩:=h;cases rx;obtain ⟨its,r,ht,hz⟩:=I.list hx;have hlen:=r.length;refine ⟨"list",_,slot_list_getitem.lookup,ht.isList.typeIs,?_⟩;refine wpAny_getItem_list_slice ht.isList hs pl pu .none (by simp) ?_ (by rw[size_toArray]<;>lia);rw[rP,<-hlen];refine ⟨.ref s.heap.objs.size,_,I.laid (t':=s.toks) (o:=.lst (lC xs lo hi)) (λb ob q=>get?_push_of_some _ q) (Nat.le_refl _) ?_,rfl,q _ (I.hok.fresh (Nat.le_refl _))⟩;exact ⟨le_trans (mY xs lo hi) hz,_,0,(r.drop (HT.dB xs.length 0 lo)).take (HT.dB xs.length xs.length hi - HT.dB xs.length 0 lo),get?_push_size _ rfl⟩
def iI:V->Bool
 | .non=>true
 | .bl _=>true
 | .int _=>true
 | .str _=>true
 |_=>false
def WH:V->V->Bool
 | .non,.non=>true
 | .bl a,.bl b=>a==b
 | .bl a,.int b=>(if a then 1 else 0)==b
 | .int a,.bl b=>a==(if b then 1 else 0)
 | .int a,.int b=>a==b
 | .str a,.str b=>a==b
 |_,_=>false
theorem Bj (ry:RelV y u) (rx:RelV x v) (fy:iI y=true) (fx:iI x=true):SeqAt.EqAt A s u v (WH y x):=by
 cases y with
 |non=>
  cases ry;cases x with
  |non=>cases rx;exact SeqAt.EqAt.same _
  |bl b=>cases rx;exact SeqAt.EqAt.none_bool b
  |int b=>obtain ⟨t,rfl⟩:=rx;exact SeqAt.EqAt.none_int b t
  |str b=>obtain ⟨t,rfl⟩:=rx;exact SeqAt.EqAt.none_str b t
  |_=>exact absurd (show false=true from fx) Bool.false_ne_true
 |bl a=>
  cases ry;cases x with
  |non=>cases rx;exact SeqAt.EqAt.bool_none a
  |bl b=>cases rx;exact SeqAt.EqAt.bool_bool a b
  |int b=>obtain ⟨t,rfl⟩:=rx;exact SeqAt.EqAt.bool_int a b t
  |str b=>obtain ⟨t,rfl⟩:=rx;exact SeqAt.EqAt.bool_str a b t
  |_=>exact absurd (show false=true from fx) Bool.false_ne_true
 |int a=>
  obtain ⟨t',rfl⟩:=ry;cases x with
  |non=>cases rx;exact SeqAt.EqAt.int_none a t'
  |bl b=>cases rx;exact SeqAt.EqAt.int_bool a t' b
  |int b=>obtain ⟨t,rfl⟩:=rx;exact SeqAt.EqAt.int_int a t' b t
  |str b=>obtain ⟨t,rfl⟩:=rx;exact SeqAt.EqAt.int_str a t' b t
  |_=>exact absurd (show false=true from fx) Bool.false_ne_true
 |str a=>
  obtain ⟨t',rfl⟩:=ry;cases x with
  |non=>cases rx;exact SeqAt.EqAt.str_none a t'
  |bl b=>cases rx;exact SeqAt.EqAt.str_bool a t' b
  |int b=>obtain ⟨t,rfl⟩:=rx;exact SeqAt.EqAt.str_int a t' b t
  |str b=>obtain ⟨t,rfl⟩:=rx;exact SeqAt.EqAt.str_str a t' b t
  |_=>exact absurd (show false=true from fx) Bool.false_ne_true
 |_=>exact absurd (show false=true from fy) Bool.false_ne_true
def CD (x:V) (u:Value):Bool:=match u with
 | .none=>WH .non x
 | .bool b=>WH (.bl b) x
 | .int i _=>WH (.int i) x
 | .str z _=>WH (.str z) x
 |_=>false
theorem NM (r:RelV y u) (f:iI y=true):CD x u=WH y x:=by
 cases y with
 |non=>cases r;rfl
 |bl b=>cases r;rfl
 |int i=>obtain ⟨t,rfl⟩:=r;rfl
 |str z=>obtain ⟨t,rfl⟩:=r;rfl
 |_=>exact absurd (show false=true from f) Bool.false_ne_true
theorem lI:∀{xs:List V} {us:List Value},Vals xs us->xs.all iI=true->us.any (CD x)=xs.any λy=>WH y x
 |_,_,.nil,_=>rfl
 |y::xs,u::us,.cons r t,f=>by
  rw[all_cons,and_eq_true] at f;rw[any_cons,any_cons,NM r f.1,lI t f.2]
theorem iD (rx:RelV x v) (fx:iI x=true):∀{xs:List V} {us:List Value},Vals xs us->xs.all iI=true->∀u∈us,SeqAt.EqAt A s u v (CD x u)
 |_,_,.nil,_=>λu hu=>by cases hu
 |y::xs,u::us,.cons r t,f=>λu' hu=>by
  rw[all_cons,and_eq_true] at f;rcases mem_cons.mp hu with rfl|hu
  ·rw[NM r f.1];exact Bj r rx f.1 fx
  ·exact iD rx fx t f.2 u' hu
def Ct (x:V) (xs:List V):Bool:=xs.any λy=>WH y x
def Kw (K:Fg) (neg:Bool):R2:=λx y H Q=>∃p xs,y=.ref p/\(aP K H p xs\/cZ K H p xs)/\iI x=true/\xs.all iI=true/\Q (.bl (if neg then !Ct x xs else Ct x xs)) H
theorem GL:gD X (compareOp .In) (Kw X.K false):=by
 intro pins s σ H x y v u Q I rx ry h;obtain ⟨p,xs,rfl,hq,fx,fs,q⟩:=h;cases ry;rcases hq with hq|hq
 ·obtain ⟨its,r,pl,hz⟩:=I.list hq;refine SeqAt.in_listAt (CD x) pl.isList (λw hw=>iD rx fx r fs w (by simpa using hw)) ⟨.bl _,H,I,rfl,?_⟩;rw[show its.toArray.any (CD x)=its.any (CD x) by simp,lI r fs];exact q
 ·obtain ⟨its,r,pl,hz⟩:=I.tuple hq;refine SeqAt.in_tupleAt (CD x) pl (λw hw=>iD rx fx r fs w (by simpa using hw)) ⟨.bl _,H,I,rfl,?_⟩;rw[show its.toArray.any (CD x)=its.any (CD x) by simp,lI r fs];exact q
theorem vI:gD X (compareOp .NotIn) (Kw X.K true):=by
 intro pins s σ H x y v u Q I rx ry h;obtain ⟨p,xs,rfl,hq,fx,fs,q⟩:=h;cases ry;rcases hq with hq|hq
 ·obtain ⟨its,r,pl,hz⟩:=I.list hq;refine SeqAt.notIn_listAt (CD x) pl.isList (λw hw=>iD rx fx r fs w (by simpa using hw)) ⟨.bl _,H,I,rfl,?_⟩;rw[show its.toArray.any (CD x)=its.any (CD x) by simp,lI r fs];exact q
 ·obtain ⟨its,r,pl,hz⟩:=I.tuple hq;refine SeqAt.notIn_tupleAt (CD x) pl (λw hw=>iD rx fx r fs w (by simpa using hw)) ⟨.bl _,H,I,rfl,?_⟩;rw[show its.toArray.any (CD x)=its.any (CD x) by simp,lI r fs];exact q
theorem vH:gD X (compareOp .NotIn) (λx y H Q=>∃i j,x=.str i/\y=.str j/\Q (.bl (!(!(Builtin.Str.occurrences j i 0 j.length 1).isEmpty))) H):=by
 intro pins s σ H x y v u Q I rx ry h;obtain ⟨i,j,rfl,rfl,q⟩:=h;obtain ⟨t,rfl⟩:=rx;obtain ⟨t',rfl⟩:=ry;exact notIn_str ⟨.bl _,H,I,rfl,q⟩
theorem wN:bS X (.type "list") (λxs H Q=>∃p ys,xs=[.ref p]/\(aP X.K H p ys\/cZ X.K H p ys)/\∀l,H l=none->Q (.ref l) (upd H l (.lst ys))):=by
 intro pins s σ H xs us Q I r h;obtain ⟨p,ys,rfl,hq,q⟩:=h;obtain ⟨u,rfl,rx⟩:=vals1 r;cases rx;have fin:∀(its:List Value),Vals ys its->ys.length<=sizeLine->∀(h':Heap) (c':Nat),(∀b o',s.heap.get? b=some o'->h'.get? b=some o')->
   h'.get? s.heap.objs.size=some {cls:=.type "list",dict:=none,data:=.seq its.toArray c',slots:=#[]}->EP X pins σ Q (.ref s.heap.objs.size) {s with heap:=h'}:=λits r' hz h' c' kp e=>
  ⟨.ref s.heap.objs.size,_,I.laid (t':=s.toks) kp (Nat.le_refl _) (show aZ X.prog X.w _ h' _ (.lst ys) from ⟨hz,its,c',r',e⟩),rfl,q _ (I.hok.fresh (Nat.le_refl _))⟩
 rcases hq with hq|hq
 ·obtain ⟨its,r',pl,hz⟩:=I.list hq;have hlen:=r'.length;obtain ⟨o,ho,hc,n,hd⟩:=pl.isList;exact call_list_seq p (.inl rfl) ho hc hd (λh' c' kp e=>fin its r' hz h' c' kp e) (by simp only [size_toArray]<;>lia)
 ·obtain ⟨its,r',pl,hz⟩:=I.tuple hq;have hlen:=r'.length;obtain ⟨o,ho,hc,n,hd⟩:=pl;exact call_list_seq p (.inr rfl) ho hc hd (λh' c' kp e=>fin its r' hz h' c' kp e) (by simp only [size_toArray]<;>lia)
theorem jH:bS X (.type "tuple") (λxs H Q=>∃p ys,xs=[.ref p]/\((aP X.K H p ys/\∀l,H l=none->Q (.ref l) (upd H l (.tup ys)))\/(cZ X.K H p ys/\Q (.ref p) H))):=by
 intro pins s σ H xs us Q I r h;obtain ⟨p,ys,rfl,h⟩:=h;obtain ⟨u,rfl,rx⟩:=vals1 r;cases rx;rcases h with ⟨hq,q⟩|⟨hq,q⟩
 ·obtain ⟨its,r',pl,hz⟩:=I.list hq;have hlen:=r'.length;refine call_tuple_list pl.isList (λh' kp=>?_) (by simp only [size_toArray]<;>lia);have I1:Inv X pins σ H {s with heap:=h'}:=I.kept (t':=s.toks) kp;have I2:Inv X pins σ (upd H h'.objs.size (.tup ys)) {s with heap:=h'.push {cls:=.type "tuple",data:=.seq its.toArray}}:=
   I1.laid (t':=s.toks) (λb o e=>get?_push_of_some _ e) (Nat.le_refl _) (show aZ X.prog X.w _ _ _ (.tup ys) from ⟨hz,its,r',IsTup.new _ _⟩)
  exact ⟨.ref h'.objs.size,_,I2,rfl,q _ (I1.hok.fresh (Nat.le_refl _))⟩
 ·obtain ⟨its,r',pl,hz⟩:=I.tuple hq;exact call_tuple_same pl ⟨.ref p,H,I,rfl,q⟩
def Ki (K:Fg) (T:String) (x:V) (H:Hp):Prop:=match x with
 | .str _=>T="str"
 | .int _=>T="int"
 | .ref p=>(T="list"/\∃xs,aP K H p xs)\/(T="tuple"/\∃o,K.lookup p=some o/\o.cls=.type "tuple"/\o.dict=none)\/
   (T="dict"/\((∃kvs,H p=some (.dK kvs))\/∃kvs,H p=some (.dT kvs)))\/(T="set"/\∃S n,H p=some (.set S n))
 |_=>False
theorem JC (I:Inv X pins σ H s) (r:RelV x v) (ty:Ki X.K T x H):
  s.TypeIs v T/\∀a,v=.ref a->∃ob,s.heap.get? a=some ob/\ob.dict=none:=by
 cases x with
 |str z=>
  obtain ⟨t,rfl⟩:=r;cases (show T="str" from ty);exact ⟨typeIs_str s z t,λ_ e=>nomatch e⟩
 |int i=>
  obtain ⟨t,rfl⟩:=r;cases (show T="int" from ty);exact ⟨typeIs_int s i t,λ_ e=>nomatch e⟩
 |ref p=>
  cases r;rcases ty with ⟨rfl,xs,hq⟩|⟨rfl,o,hk,hc,hd⟩|⟨rfl,hk⟩|⟨rfl,S,n,hk⟩
  ·obtain ⟨its,_,pl,_⟩:=I.list hq;refine ⟨pl.isList.typeIs,λa e=>?_⟩;cases e;obtain ⟨o,n,e,c,hd,_⟩:=pl;exact ⟨o,e,hd⟩
  ·refine ⟨⟨o,I.kIn p o hk,hc⟩,λa e=>?_⟩;cases e;exact ⟨o,I.kIn _ o hk,hd⟩
  ·have z:∃o,s.heap.get? p=some o/\o.ExactDict:=by
    rcases hk with ⟨kvs,hk⟩|⟨kvs,hk⟩
    ·obtain ⟨_,_,_,_,o,_,_,e,ex,_⟩:=I.hok p _ hk;exact ⟨o,e,ex⟩
    ·obtain ⟨_,_,_,_,o,_,_,e,ex,_⟩:=I.hok p _ hk;exact ⟨o,e,ex⟩
   obtain ⟨o,e,ex⟩:=z;refine ⟨⟨o,e,ex.1⟩,λa e2=>?_⟩;cases e2;exact ⟨o,e,ex.2.1⟩
  ·obtain ⟨o,_,_,_,e,ex,_⟩:=I.hok p _ hk;refine ⟨⟨o,e,ex.1⟩,λa e2=>?_⟩;cases e2;exact ⟨o,e,ex.2.1⟩
 |_=>exact False.elim ty
variable {o e:Expr} {es:List Expr} {to:TE} {t:TA} {name:Str} {apos cpos:Pos} {T id:String} {r:V->List V->Hp->VK->Prop}
end
def UZ (X:Cx) (id:String) (r:V->List V->Hp->VK->Prop):Prop:=
 ∀(pins:List (Addr × Obj)) (s:Shared) (σ:St) (H:Hp) (x:V) (xs:List V) (v:Value) (us:List Value) (Q:VK),Inv X pins σ H s->RelV x v->Vals xs us->r x xs H Q->
  wpAny (model X.prog X.w) X.A (call (.builtin id) (v::us)) (EP X pins σ Q) X.xe s
theorem Vals.one:∀{x:V} {us:List Value},Vals [x] us->∃u,us=[u]/\RelV x u
 |_,_,.cons r .nil=>⟨_,rfl,r⟩
theorem Vals.two:∀{x y:V} {us:List Value},Vals [x,y] us->∃u v,us=[u,v]/\RelV x u/\RelV y v
 |_,_,_,.cons r (.cons q .nil)=>⟨_,_,rfl,r,q⟩
theorem Vals.zero:∀{us:List Value},Vals [] us->us=[]
 |_,.nil=>rfl
theorem Vals.dropLast (h:Vals xs us):Vals xs.dropLast us.dropLast:=by
 induction h with
 |nil=>exact .nil
 |cons r t ih=>
  cases t with
  |nil=>exact .nil
  |cons q t'=>exact .cons r ih
theorem Vals.reverse {xs:List V} {us:List Value} (h:Vals xs us):Vals xs.reverse us.reverse:=by
 induction h with
 |nil=>exact .nil
 |cons r t ih=>rw[List.reverse_cons,List.reverse_cons];exact Vals.append ih (.cons r .nil)
theorem Vals.rep (h:Vals xs us):∀k:Nat,Vals (replicate k xs).flatten (replicate k us).flatten
 |0=>.nil
 |k+1=>by
  rw[replicate_succ,replicate_succ,flatten_cons,flatten_cons];exact Vals.append h (Vals.rep h k)
theorem CC (l:List α):l.eraseIdx (l.length - 1)=l.dropLast:=by
 induction l with
 |nil=>rfl
 |cons a r ih=>
  cases r with
  |nil=>rfl
  |cons b r=>
   have e:(a::b::r).length - 1=((b::r).length - 1)+1:=by
    have h1:(a::b::r).length=r.length+2:=rfl;have h2:(b::r).length=r.length+1:=rfl;lia
   rw[e,List.eraseIdx_cons_succ,ih]
   all_goals rfl
theorem foldl_rep (its:List Value):∀(k:Nat) (acc:List Value),
  foldl (λx1 x2=>x1++x2) acc.toArray (replicate k its.toArray)=(acc++(replicate k its).flatten).toArray
 |0,acc=>by simp
 |k+1,acc=>by
  have e:acc.toArray++its.toArray=(acc++its).toArray:=by simp
  have e2:(acc++its)++(replicate k its).flatten=acc++(replicate (k+1) its).flatten:=by
   rw[replicate_succ,flatten_cons,List.append_assoc]
  rw[<-e2,<-foldl_rep its k (acc++its),<-e,replicate_succ,foldl_cons]
section
variable {X:Cx} {pins:List (Addr × Obj)} {σ:St} {H:Hp} {s:Shared} {l b:Addr} {xs ys zs:List V}
theorem Inv.lset {its its':List Value} {n:Nat} {f:Array Value->Array Value} {t':Nat} (I:Inv X pins σ H s) (hH:H l=some (.lst xs))
  (e:s.heap.get? l=some {cls:=.type "list",data:=.seq its.toArray n}) (hf:f its.toArray=its'.toArray) (hv:Vals ys its') (hz:ys.length<=sizeLine):
  Inv X pins σ (upd H l (.lst ys)) {s with heap:=s.heap.update l (Obj.mapSeq f),toks:=t'}:=by
 have q:=PySem.IsL.update e f;rw[hf] at q;refine I.write (x:=l) (e:=l) (by rw[hH];exact trivial) (.inl rfl) (λb' u hb hu=>(get?_update_other s.heap (Obj.mapSeq f) (Ne.symm hb)).trans hu) ⟨_,q⟩ ?_;exact ⟨hz,its',_,hv,q⟩
theorem Inv.lnew (I:Inv X pins σ H s) (hv:Vals ys its) (hz:ys.length<=sizeLine):
  Inv X pins σ (upd H s.heap.objs.size (.lst ys)) {s with heap:=s.heap.push {cls:=.type "list",data:=.seq its.toArray},toks:=t'}:=
 I.laid (λ_ _ q=>get?_push_of_some _ q) (Nat.le_refl _) ⟨hz,its,0,hv,get?_push_size _ rfl⟩
theorem Inv.fresh (I:Inv X pins σ H s):H s.heap.objs.size=none:=I.hok.fresh (Nat.le_refl _)
theorem Inv.lstM (I:Inv X pins σ H s) (hH:H l=some (.lst xs)):xs.length<=sizeLine/\∃(its:List Value) (n:Nat),Vals xs its/\xs.length=its.length/\s.heap.get? l=some {cls:=.type "list",data:=.seq its.toArray n}:=by
 obtain ⟨z,its,n,r,e⟩:=I.hok l _ hH;exact ⟨z,its,n,r,r.length,e⟩
theorem LI (h:n<=sizeLine):Builtin.List.listTooLong n=false:=by
 unfold Builtin.List.listTooLong;exact decide_eq_false (by lia)
end
section
variable {X:Cx}
def oB:V->List V->Hp->VK->Prop:=λx vs H Q=>∃l xs y,x=.ref l/\vs=[y]/\H l=some (.lst xs)/\xs.length<sizeLine/\Q .non (upd H l (.lst (xs++[y])))
theorem sR:UZ X "list.append" oB:=by
 intro pins s σ H x vs v us Q I rx rv h;obtain ⟨l,xs,y,rfl,rfl,hH,hz,q⟩:=h;cases rx;obtain ⟨u,rfl,ru⟩:=rv.one;obtain ⟨z,its,n,r,hl,e⟩:=I.lstM hH;refine call_meets F.slot_list_append ⟨_,e,rfl⟩ F.entry_list_append (F.args_list_append_2 _ _) (PySem.list_append l its.toArray n u (by rw[size_toArray];lia)) ⟨e,?_⟩;refine ⟨.non,_,I.lset (its':=its++[u]) hH e (by simp) (r.append (.cons ru .nil)) ?_,rfl,q⟩;rw[length_append,List.length_singleton];lia
def RB:V->List V->Hp->VK->Prop:=λx vs H Q=>∃l xs y,x=.ref l/\vs=[]/\H l=some (.lst xs)/\xs[xs.length - 1]?=some y/\Q y (upd H l (.lst xs.dropLast))
theorem ZL:UZ X "list.pop" RB:=by
 intro pins s σ H x vs v us Q I rx rv h;obtain ⟨l,xs,y,rfl,rfl,hH,hy,q⟩:=h;cases rx;have hus:=rv.zero;subst hus;obtain ⟨z,its,n,r,hl,e⟩:=I.lstM hH;obtain ⟨u,hu,ru⟩:=r.get hy;have hy':its.toArray[its.toArray.size - 1]?=some u:=by
  show its.toArray[its.length - 1]?=some u;rw[<-getElem?_toList,<-hl];exact hu
 refine call_meets F.slot_list_pop ⟨_,e,rfl⟩ F.entry_list_pop (F.args_list_pop_1 _) (MeetsSeq.list_pop_last l its.toArray n u hy' (by rw[size_toArray];lia)) ⟨e,?_⟩;refine ⟨y,_,I.lset (its':=its.dropLast) hH e ?_ r.dropLast ?_,ru,q⟩
 ·show its.toArray.eraseIdxIfInBounds (its.toArray.size - 1)=its.dropLast.toArray;rw[size_toArray,List.eraseIdxIfInBounds_toArray,CC]
 ·rw[List.length_dropLast];lia
def Fd:R2:=λx y H Q=>∃l b xs zs,x=.ref l/\y=.ref b/\H l=some (.lst xs)/\H b=some (.lst zs)/\xs.length+zs.length<=sizeLine/\∀p,H p=none->Q (.ref p) (upd H p (.lst (xs++zs)))
theorem ZI:gD X (binaryOp .Add) Fd:=by
 intro pins s σ H x y v u Q I rx ry h;obtain ⟨l,b,xs,zs,rfl,rfl,hH,hB,hz,q⟩:=h;cases rx;cases ry;obtain ⟨z,its,n,r,hl,e⟩:=I.lstM hH;obtain ⟨z2,its2,n2,r2,hl2,e2⟩:=I.lstM hB;refine PySem.P.add_list e e2 ?_ (by rw[size_toArray,size_toArray];lia);have ea:its.toArray++its2.toArray=(its++its2).toArray:=by simp
 rw[ea];exact ⟨.ref _,_,I.lnew (t':=s.toks) (r.append r2) (by rw[length_append];lia),rfl,q _ I.fresh⟩
def Er:R2:=λx y H Q=>∃l k xs,x=.ref l/\y=.int k/\H l=some (.lst xs)/\-(2 ^ 63)<=k/\k<2 ^ 63/\xs.length * k.toNat<=sizeLine/\
 ∀p,H p=none->Q (.ref p) (upd H p (.lst (replicate k.toNat xs).flatten))
theorem len_rep (xs:List α) (k:Nat):(replicate k xs).flatten.length=k * xs.length:=by
 induction k with
 |zero=>simp
 |succ k ih=>rw[replicate_succ,flatten_cons,length_append,ih,Nat.succ_mul,Nat.add_comm]
theorem YY:gD X (binaryOp .Mult) Er:=by
 intro pins s σ H x y v u Q I rx ry h;obtain ⟨l,k,xs,rfl,rfl,hH,h1,h2,hz,q⟩:=h;cases rx;obtain ⟨t,rfl⟩:=ry;obtain ⟨z,its,n,r,hl,e⟩:=I.lstM hH;have hlen:its.toArray.size * k.toNat<=sizeLine:=by rw[size_toArray,<-hl];exact hz
 have hcap:¬its.toArray.size * k.toNat>(2 ^ 63 - 1) / 8:=by
  have:(sizeLine:Nat)<=(2 ^ 63 - 1) / 8:=by decide
  lia
 have hfit:¬(!Builtin.List.listFitsIndex k)=true:=by
  rw[fitsIndex_both h1 h2];exact Bool.false_ne_true
 have hlong:¬Builtin.List.listTooLong (its.toArray.size * k.toNat)=true:=by
  rw[LI hlen];exact Bool.false_ne_true
 have hnew:foldl (λx1 x2=>x1++x2) #[] (replicate (if its.toArray.isEmpty=true then 0 else k.toNat) its.toArray)=(replicate k.toNat its).flatten.toArray:=by
  have f0:∀m:Nat,foldl (λx1 x2=>x1++x2) #[] (replicate m its.toArray)=(replicate m its).flatten.toArray:=λm=>by
   have:=foldl_rep its m [];rw[List.nil_append] at this;exact this
  rw[f0];cases its with
  |nil=>simp
  |cons a r'=>rw[if_neg (by simp)]
 refine wpAny_binaryOp_repeat_ref (T:="list") (U:="int") (by decide) ⟨_,e,rfl⟩ (λs'=>typeIs_int s' k t) noFill_list_mul F.fills_int_mul F.slot_int_rmul repeat_list F.slot_int_index.lookup
  (call_meets F.slot_int_rmul (typeIs_int s k t) F.entry_int_rmul (F.args_int_rmul_2 _ _) (int___rmul___int_list k t l its.toArray n)
   ⟨e,rfl,⟨_,e,rfl⟩,call_meets F.slot_list_mul ⟨_,e,rfl⟩ F.entry_list_mul (F.args_list_mul_2 _ _) (AutoListH.list___mul___list_int_3 l its.toArray n k t hfit hcap hlong) ⟨e,?_⟩⟩)
 rw[hnew];exact ⟨.ref _,_,I.lnew (t':=s.toks) (r.rep k.toNat) (by rw[len_rep,Nat.mul_comm];exact hz),rfl,q _ I.fresh⟩
end
section
variable {prog:Program} {w:World} {A:Around} {E:Value->Shared->Prop} {s:Shared}
end
section
variable {X:Cx}
end
end L2
namespace Att
open PySem PySem.W PySem.Calls PyProof.Rows
theorem nM:∀(ns:List Int) (vs:List Value),WellAll P h vs (ns.map WData.int)->IntsAre vs ns:=by
 intro ns;induction ns with
 |nil=>
  intro vs w;rw[map_nil] at w;cases w;exact .nil
 |cons n ns ih=>
  intro vs w;rw[map_cons] at w;cases w with
  |cons a b=>
   cases a;exact .cons _ _ (ih _ b)
theorem FV {l:OpenLaw} {n:Nat} (hn:l.most=some n) {P:Params} {h:Heap} {args:List WData} {vals:List Value}
  (hpre:l.row.toRowW.claim.pre args=true) (hwl:WellAll P h vals args):
  ∃a vs ns,vals=[Value.ref a]/\args=[WData.list (ns.map WData.int)]/\h.get? a=some {cls:=.type "list",data:=.seq vs.toArray}/\IntsAre vs ns/\ns.length<=n:=by
 have hsh:WShape.hasAll [] args [.list .int]=true:=(pre_splitW hpre).1;have hc:l.pre.holds [] {args:=args}=true:=(pre_splitW hpre).2;obtain ⟨d,r,rfl,h1,h2⟩:=hasAllW_cons hsh;obtain rfl:=hasAllW_nil h2;obtain ⟨xs,rfl,h3⟩:=hasW_list h1;obtain ⟨ns,rfl⟩:=items_int h3;have hlen:ns.length<=n:=by
  unfold OpenLaw.pre at hc;have h4:(WTm.not (.lt (.lit (.int (n:Int))) (.len (.arg 0)))).holds [] {args:=[.list (ns.map .int)]}=true:=by
   have h4:=(holds_andW hc).1;rw[hn] at h4;exact h4
  have h5:=condW_of h4 (w_not (w_lt w_lit (w_len_list (w_arg rfl))));rw[length_map] at h5;refine le_of_not_lt λq=>?_;have q':(n:Int)<((ns.length:Nat):Int):=by lia
  first
   | (rw[decide_eq_true q'] at h5;exact absurd h5 (by decide))
   | (simp at h5;lia)
 cases hwl with
 |cons w1 w2=>
  cases w2;cases w1 with
  |list ho hall=>exact ⟨_,_,ns,rfl,rfl,ho,nM ns _ hall,hlen⟩
theorem GF (l:OpenLaw) (args:List WData):l.row.toRowW.claim.post args (.bool true) args=true:=
 postW_of (r:=l.row.toRowW) (X:=(true==true))
  (show WShape.has [] (.bool true) .bool=true by first|rfl|decide|simp [WShape.has,WShape.arms,WShape.armsAll])
  (show (WTm.eq .res (.lit (.bool true))).value [] {args:=args,res:=some (.bool true),after:=args}=some (.bool (true==true)) from w_eq_bool (w_res rfl) w_lit) rfl
theorem zW {l:OpenLaw} {n:Nat} {q:Program} {loose:List Str} {XP:(Str->Option Value)->Heap->Prop} {YP:World->Heap->Prop} {d:DefRec}
  (hn:l.most=some n) (hdf:d.params.defaults=[])
  (call:∀(w:World) (s₀ aa:Shared) (mg mb:Str->Option Value) (fa:Addr) (o:Obj) (pm cd doc:Value) (a:Addr) (vs:List Value) (ns:List Int),
   Ground q loose [] XP w s₀ mg mb aa.heap->YP w aa.heap->
   aa.heap.get? fa=some o->o.data=.func (docDef d.name d.params d.body d.scope pm cd doc)->aa.heap.CodeRec cd d.name->mg d.name=some (.ref fa)->
   aa.heap.get? a=some {cls:=.type "list",data:=.seq vs.toArray}->IntsAre vs ns->ns.length<=n->aa.gens=#[]->
   codeAny (model l.prog w) callerA (.call (.ref fa) ⟨[.ref a],[]⟩) (λr s'=>r=.ok (.ret (.bool true))/\OldK aa.heap s'.heap/\s'.os=aa.os/\AllBare s'.gens) aa):
  WalkO q loose XP YP l.row.toRowW d [] (λf vs=>PySem.call f vs):=by
 intro w s₀ aa mg mb G Y fa o pm cd doc dV kV ho hd hcd hD hmg hg args vals as hpre hlay hrd hwl hlo;obtain rfl:dV=.none:=Dflts.none hD hdf;obtain rfl:kV=.none:=Dflts.noKw hD;obtain ⟨a,vs,ns,rfl,rfl,hobj,hints,hlen⟩:=FV hn hpre hwl;refine enter_call (codeAny_mono (call w s₀ aa mg mb fa o pm cd doc a vs ns G Y ho (fd_plain hd) hcd hmg hobj hints hlen hg) λr s' hq=>?_);obtain ⟨rfl,h2,h3,h4⟩:=hq;exact ⟨.inl ⟨.bool true,.bool true,[],rfl,λ_=>rfl,.bool true,GF l _,λ_=>⟨Pairwise.nil,λ_ hm=>(nomatch hm)⟩⟩,h2,h3,h4⟩
section
variable {prog:Program} {w:World} {A:Around} {E:Value->Shared->Prop} {s:Shared} {K:Frag}
theorem UQ {dV kV doc pm cdv ct oc:Value}
  (X:K.In s.heap) (hlim:s.heap.NoLimit) (ho:K.lookup f=some ⟨oc,od,.func (fnOf name qual params body scope dV kV doc pm an cdv ct),osl⟩) (hcd:codeIn K cdv qual=true) (hroom:A.depth<recursionLimit)
  (hbind:BindsTo s (fnOf name qual params body scope dV kV doc pm an cdv ct) args binds)
  (hkind:(binds.all λy=>scope.names.lookup y.1==some .local || scope.names.lookup y.1==some .cell)=true)
  (h:∀aa,InCallC s s.heap.objs.size (bindL (envOfC qual scope s.heap.objs.size f cdv).kindOf binds λ_=>none) (cellsFrom (s.heap.objs.size+1) scope.names [])
    (bindC (envOfC qual scope s.heap.objs.size f cdv).kindOf binds λ_=>none) aa->
   wpAny (model prog w) (A.deeper (envOfC qual scope s.heap.objs.size f cdv)) (execs body (envOfC qual scope s.heap.objs.size f cdv))
    (λfl s'=>R (.ok (.ret (match fl with| .ret v=>v|_=>.none))) s')
    (λe s'=>wpAny (model prog w) (A.deeper (envOfC qual scope s.heap.objs.size f cdv)) (leaving (envOfC qual scope s.heap.objs.size f cdv) e) (λ_ s''=>R (.error e) s'') (λe' s''=>R (.error e') s'') s') aa)
  (hco:scope.isCoroutine=false) (hgen:scope.isGenerator=false) (hk:scope.kind=.function):codeAny (model prog w) A (.call (.ref f) args) R s:=by
 refine codeAny_call_function hroom (X _ _ ho) rfl hco hgen rfl (codeRec_of X hcd) (hbind _ _ _ _ ?_);refine wpAny_newFunctionEnv_cells hk (kindsX hkind _) λenv he aa x=>?_;subst he;exact ⟨hlim.keeps x.toInCall.keep,codeAny_func (h aa x)⟩
end
end Att
namespace L2
open PySem PySem.Spec PyProof.Rows
theorem sE:∀{vs:List Value} {ns:List Int},IntsAre vs ns->Vals (ns.map V.int) vs
 |_,_,.nil=>.nil
 |_,_,.cons n t h=>.cons ⟨t,rfl⟩ (sE h)
def Ce (H:Hp):Prop:=∀b,H b=none\/∃o xs,H b=some (.frz o (.lst xs))
theorem MB {P:Program} {w:World} {K:Fg} {mg mb:Str->Option Value} {CX:PL} {k:Nat} {fa a:Addr} {fd:FuncData} {x:Str} {sp:Sp} {aa:Shared} {vs:List Value} {ns:List Int}
  (KX:K.In aa.heap) (hns:aa.heap.Ns mainGlobals mg) (hb:aa.heap.Ns builtinsNs mb) (hbb:∀x:Str,x≠"__name__"->mb x=bootBuiltins x) (hlim:aa.heap.NoLimit) (hg:aa.gens=#[])
  (ha:aa.heap.get? a=some {cls:=.type "list",data:=.seq vs.toArray}) (hi:IntsAre vs ns) (hl:ns.length<=sizeLine) (hr:cI k callerA)
  (F:∀base:Heap,K.In base->base.Ns mainGlobals mg->sA P w K mg base CX k fa fd [x] sp) (hbind:∀(s:Shared) (u:Value),BindsTo s fd ⟨[u],[]⟩ [(x,u)])
  (hsp:∀H:Hp,Ce H->aP K H a (ns.map V.int)->sp [.ref a] H (λv _=>v=.bl true) λ_ _ _=>False)
  (hCX:∀H e s',CX [] H aa (λ_ _ _=>False) e s'->False):
  codeAny (model P w) callerA (.call (.ref fa) ⟨[.ref a],[]⟩) (λr s'=>r=.ok (.ret (.bool true))/\OldK aa.heap s'.heap/\s'.os=aa.os/\AllBare s'.gens) aa:=by
 have rv:=sE hi;have lenV:=hi.length;have core:∀H:Hp,Ce H->aP K H a (ns.map V.int)->eE P w H aa.heap->(∀b,H b≠none->b=a)->(H a≠none->K.lookup a=none)->
   codeAny (model P w) callerA (.call (.ref fa) ⟨[.ref a],[]⟩) (λr s'=>r=.ok (.ret (.bool true))/\OldK aa.heap s'.heap/\s'.os=aa.os/\AllBare s'.gens) aa:=by
  intro H hO hS hok hA hK;have base_of:∀{b:Addr} {o:Obj},aa.heap.get? b=some o->H b=none->(wF aa.heap H).get? b=some o:=λe n=>NC e n;have noA:∀{b:Addr} {o:Obj} {es:Array DictEntry} {ep:Nat},aa.heap.get? b=some o->o.data=.dict es ep->H b=none:=λ{b o es ep} e d=>by
   cases q:H b with
   |none=>rfl
   |some u=>
    have e':b=a:=hA b (by rw[q];simp);subst e';rw[ha] at e;cases e;have d':Data.seq vs.toArray _=Data.dict es ep:=d;cases d'
  have nsK:∀{b:Addr} {m:Str->Option Value},aa.heap.Ns b m->(wF aa.heap H).Ns b m:=λ{b m} ⟨o,es,ep,e,d,r⟩=>⟨o,es,ep,base_of e (noA e d),d,r⟩;have hKb:K.In (wF aa.heap H):=λb o e=>base_of (KX b o e) (by
   cases q:H b with
   |none=>rfl
   |some u=>
    have e':b=a:=hA b (by rw[q];simp)
    subst e'
    rw[hK (by rw[q];simp)] at e;cases e)
  have hM:Mod K mg (wF aa.heap H):=⟨hKb,nsK hns,⟨mb,nsK hb,hbb⟩,let ⟨mc,h1,h2⟩:=hlim;⟨mc,nsK h1,h2⟩⟩;have e0:CP P w K mg (wF aa.heap H) callerA [] aa H:=⟨rfl,hM,λb o e=>SA e,le_of_eq (HE _ _),trivial,λb hb=>absurd (show b∈([]:List Addr) from hb) (by simp),hok,.of_eq hg⟩;refine codeAny_mono ((F _ hKb (nsK hns)).run callerA [] aa H ⟨[.ref a],[]⟩ [.ref a] [.ref a] _ _ hr e0 (hbind aa (.ref a)) (.cons rfl .nil) (hsp H hO hS)) λr s' h=>?_;cases r with
  |error e=>exact (hCX H e s' h).elim
  |ok fl=>
   cases fl with
   |next=>exact False.elim h
   |brk=>exact False.elim h
   |cont=>exact False.elim h
   |ret u=>
    obtain ⟨v,H',os,bare,un,hok',r',q⟩:=h;have q':v=.bl true:=q;subst q';obtain rfl:u=Value.bool true:=r';refine ⟨rfl,OldK.of_keep λb o e=>?_,os,bare⟩;cases q:H b with
    |none=>exact un.keep b o e q (by intro z;exact absurd (show b∈([]:List Addr) from z) (by simp)) (by simp)
    |some u=>
     rcases hO b with z|⟨ob,xs,z⟩
     ·rw[q] at z;cases z
     ·have z2:=un.frzs b ob _ z;obtain ⟨e1,_⟩:=hok b _ z;obtain ⟨e2,_⟩:=hok' b _ z2;rw[e] at e1;cases e1;exact e2
 cases hk:K.lookup a with
 |some o=>
  have e:=KX a o hk;rw[ha] at e;cases e;refine core (λ_=>none) (λ_=>.inl rfl) (.inr ⟨_,vs.toArray,_,hk,rfl,rfl,rfl,by rw[size_toArray,lenV];exact hl,by simpa using rv⟩) (λb u z=>by have z':(none:Option HO)=some u:=z;cases z') (λb z=>absurd rfl z) λz=>absurd rfl z
 |none=>
  refine core (λb=>if b=a then some (.frz {cls:=.type "list",data:=.seq vs.toArray} (.lst (ns.map V.int))) else none) (λb=>?_) (.inl (.inr ⟨{cls:=.type "list",data:=.seq vs.toArray},if_pos rfl⟩)) (λb u z=>?_) (λb z=>?_) λ_=>hk
  ·by_cases hb:b=a
   ·exact .inr ⟨_,_,if_pos hb⟩
   ·exact .inl (if_neg hb)
  ·by_cases hb:b=a
   ·have z':=(if_pos hb).symm.trans z;cases z';subst hb;exact ⟨ha,by rw[length_map];exact hl,vs,_,rv,ha⟩
   ·have z':=(if_neg hb).symm.trans z;cases z'
  ·by_cases hb:b=a
   ·exact hb
   ·exact absurd (if_neg hb) z
theorem PY {l:PySem.W.OpenLaw} {n k:Nat} {q:Program} {loose:List Str} {XP:(Str->Option Value)->Heap->Prop} {YP:World->Heap->Prop} {d:DefRec} {K:Params->Fg} {CX:World->PL} {sp:World->Sp} {x:Str}
  (hn:l.most=some n) (hn2:n<=sizeLine) (hdf:d.params.defaults=[]) (hr:cI k callerA)
  (hY:∀(w:World) (h:Heap),YP w h->(K w.params).In h)
  (F:∀(w:World) (mg:Str->Option Value) (fa:Addr) (h:Heap),(K w.params).In h->h.Ns mainGlobals mg->mg d.name=some (.ref fa)->
   ∃fd:FuncData,(∀(s:Shared) (u:Value),BindsTo s fd ⟨[u],[]⟩ [(x,u)])/\
    ∀base:Heap,(K w.params).In base->base.Ns mainGlobals mg->sA l.prog w (K w.params) mg base (CX w) k fa fd [x] (sp w))
  (hsp:∀(w:World) (H:Hp) (a:Addr) (ns:List Int),ns.length<=n->Ce H->aP (K w.params) H a (ns.map V.int)->sp w [.ref a] H (λv _=>v=.bl true) λ_ _ _=>False)
  (hCX:∀(w:World) (H:Hp) (s:Shared) (e:Value) (s':Shared),CX w [] H s (λ_ _ _=>False) e s'->False):
  PySem.W.WalkO q loose XP YP l.row.toRowW d [] (λf vs=>PySem.call f vs):=by
 refine Att.zW hn hdf λw s₀ aa mg mb fa o pm cd doc a vs ns G Y ho hd hcd hmg hobj hints hlen hg=>?_;have KX:=hY w _ Y;obtain ⟨fd,hb,hF⟩:=F w mg fa _ KX G.T.g hmg;exact MB KX G.T.g G.T.b G.T.builtins G.T.nolimit hg hobj hints (le_trans hlen hn2) hr hF hb (λH hO hS=>hsp w H a ns hlen hO hS) λH e s'=>hCX w H aa e s'
def cL (s:Stmt):Arguments:=match s with
 | .FunctionDef _ a _ _ _ _ _ _ _ _=>a
 |_=>{posonlyargs:=[],args:=[],vararg:=none,kwonlyargs:=[],kw_defaults:=[],kwarg:=none,defaults:=[]}
def bB (s:Stmt):List Stmt:=match s with
 | .FunctionDef _ _ b _ _ _ _ _ _ _=>b
 |_=>[]
def aM (s:Stmt):Scope:=match s with
 | .FunctionDef _ _ _ _ _ _ sc _ _ _=>sc
 |_=>{kind:=.function,names:=[],isGenerator:=false,isCoroutine:=false}
abbrev E0:XK:=λ_ _ _=>False
structure De (K:Fg) (x qual:Str) (st:Stmt) (f:Addr) (fd:FuncData):Prop where
 ex:∃(oc:Value) (od:Option Addr) (kV doc pm:Value) (an:Option Addr) (cdv ct:Value) (osl:Array (Option Value)),
  fd=PySem.W.fnOf x qual (cL st) (bB st) (aM st) .none kV doc pm an cdv ct/\K.lookup f=some ⟨oc,od,.func fd,osl⟩/\PySem.W.codeIn K cdv qual=true
 kp:PySem.W.keepIn K (.ref f)=true
section
variable {P:Program} {w:World} {K:Fg} {mg:Str->Option Value} {base:Heap}
theorem De.binds {x qual:Str} {st:Stmt} {f:Addr} {fd:FuncData} {ps:List Str} (F:De K x qual st f fd)
  (h:∀(kV doc pm:Value) (an:Option Addr) (cdv ct:Value) (us:List Value),us.length=ps.length->bindArgs (PySem.W.fnOf x qual (cL st) (bB st) (aM st) .none kV doc pm an cdv ct) ⟨us,[]⟩=pure (ps.zip us)):Binds K fd ps []:=by
 obtain ⟨oc,od,kV,doc,pm,an,cdv,ct,osl,rfl,lk,hcd⟩:=F.ex;exact .all (h kV doc pm an cdv ct)
theorem NF {x qual:Str} {st:Stmt} {f:Addr} {oc:Value} {od an:Option Addr} {osl:Array (Option Value)} {kV doc pm cdv ct:Value} (l:K.lookup f=some ⟨oc,od,.func (PySem.W.fnOf x qual (cL st) (bB st) (aM st) .none kV doc pm an cdv ct),osl⟩)
  (c:PySem.W.codeIn K cdv qual=true) (k:PySem.W.keepIn K (.ref f)=true):De K x qual st f (PySem.W.fnOf x qual (cL st) (bB st) (aM st) .none kV doc pm an cdv ct):=⟨⟨oc,od,kV,doc,pm,an,cdv,ct,osl,rfl,l,c⟩,k⟩
end
theorem FR (h:n<=1000):n<sizeLine:=Nat.lt_of_le_of_lt h (by decide)
section
variable {X:Cx}
end
def aC (H H':Hp):Prop:=∀b o,H b=some o->H' b=some o
theorem aC.refl (H:Hp):aC H H:=λ_ _ h=>h
theorem aC.trans (a:aC H H1) (b:aC H1 H2):aC H H2:=λc o h=>b c o (a c o h)
theorem aC.seq {K:Fg} {H H':Hp} {a:Addr} {xs:List V} (e:aC H H') (h:aP K H a xs):aP K H' a xs:=by
 rcases h with (h|⟨o,h⟩)|h
 ·exact .inl (.inl (e _ _ h))
 ·exact .inl (.inr ⟨o,e _ _ h⟩)
 ·exact .inr h
section
variable {κ:Type} [DecidableEq κ]
def dJ (kvs:List (κ × V)) (k:κ):Option V:=(kvs.find? λkv=>decide (kv.1=k)).map (·.2)
def putK (kvs:List (κ × V)) (k:κ) (v:V):List (κ × V):=
 if (kvs.any λkv=>decide (kv.1=k))=true then kvs.map (λkv=>if kv.1=k then (kv.1,v) else kv) else kvs++[(k,v)]
theorem gX {p:κ × V} {r:List (κ × V)} {k:κ} (e:p.1=k):dJ (p::r) k=some p.2:=by simp [dJ,find?_cons,e]
theorem fX {p:κ × V} {r:List (κ × V)} {k:κ} (e:¬p.1=k):dJ (p::r) k=dJ r k:=by simp [dJ,find?_cons,e]
theorem jV (k:κ):∀kvs:List (κ × V),(kvs.any λkv=>decide (kv.1=k))=(dJ kvs k).isSome
 |[]=>rfl
 |p::r=>by
  rw[any_cons];by_cases e:p.1=k
  ·simp only [gX e,decide_eq_true e,Bool.true_or,Option.isSome_some]
  ·rw[fX e,decide_eq_false e,Bool.false_or];exact jV k r
theorem iE (kvs:List (κ × V)) (k:κ) (v:V):(putK kvs k v).length<=kvs.length+1:=by
 unfold putK;split
 ·rw[length_map];lia
 ·rw[length_append,length_cons,length_nil];lia
theorem iQ.isSome_eq (r:iQ o u):o.isSome=u.isSome:=by
 cases o with
 |none=>cases u with
  |none=>rfl
  |some _=>exact (show False from r).elim
 |some _=>cases u with
  |none=>exact (show False from r).elim
  |some _=>rfl
theorem iQ.getD (r:iQ o u) (rd:RelV d d'):RelV (o.getD d) (u.getD d'):=by
 cases o with
 |none=>cases u with
  |none=>exact rd
  |some _=>exact (show False from r).elim
 |some _=>cases u with
  |none=>exact (show False from r).elim
  |some _=>exact r
theorem KV.val {kvs:List (κ × V)} (r:KV kvs vs) (k:κ):iQ (dJ kvs k) (valueAt vs k):=by
 unfold KV at r;induction r with
 |nil=>exact tI
 |@cons p q ps qs h t ih=>
  obtain ⟨h1,h2⟩:=h;by_cases e:p.1=k
  ·have e':q.1=k:=h1.symm.trans e;have b:valueAt (q::qs) k=some q.2:=by simp [valueAt,find?_cons,e']
   rw[gX e,b];exact h2
  ·have e':¬q.1=k:=λz=>e (h1.trans z);have b:valueAt (q::qs) k=valueAt qs k:=by simp [valueAt,find?_cons,e']
   rw[fX e,b];exact ih
theorem KV.any {kvs:List (κ × V)} {vs:List (κ × Value)} (r:KV kvs vs) (k:κ):(kvs.any λkv=>decide (kv.1=k))=vs.any λkv=>decide (kv.1=k):=by
 unfold KV at r;induction r with
 |nil=>rfl
 |cons h t ih=>rw[any_cons,any_cons,ih,h.1]
theorem KV.repl {kvs:List (κ × V)} (r:KV kvs vs) (k:κ) (ry:RelV y u):
  KV (kvs.map λkv=>if kv.1=k then (kv.1,y) else kv) (vs.map λkv=>if kv.1=k then (kv.1,u) else kv):=by
 unfold KV at r ⊢;induction r with
 |nil=>exact .nil
 |@cons p q ps qs h t ih=>
  rw[map_cons,map_cons];refine .cons ?_ ih;obtain ⟨h1,h2⟩:=h;by_cases e:p.1=k
  ·rw[if_pos e,if_pos (h1.symm.trans e)];exact ⟨h1,ry⟩
  ·rw[if_neg e,if_neg (λz=>e (h1.trans z))];exact ⟨h1,h2⟩
theorem KV.put {kvs:List (κ × V)} (r:KV kvs vs) (k:κ) (ry:RelV y u):KV (putK kvs k y) (stored vs k u):=by
 unfold putK stored;rw[r.any k];by_cases e:(vs.any λkv=>decide (kv.1=k))=true
 ·rw[if_pos e,if_pos e];exact r.repl k ry
 ·rw[if_neg e,if_neg e];exact Paired.snoc r ⟨rfl,ry⟩
theorem KV.keys {kvs:List (κ × V)} {vs:List (κ × Value)} (r:KV kvs vs):kvs.map (·.1)=vs.map (·.1):=by
 unfold KV at r;induction r with
 |nil=>rfl
 |cons h t ih=>rw[map_cons,map_cons,ih,h.1]
theorem KV.length {kvs:List (κ × V)} {vs:List (κ × Value)} (r:KV kvs vs):kvs.length=vs.length:=Paired.length r
end
theorem pX (r:RelV (kV k) u):(aW P w).is k u=true:=by
 cases k with
 |inl i=>obtain ⟨t,e⟩:=(show ∃t,u=Value.int i t from r);subst e;exact yM P w i t
 |inr x=>obtain ⟨t,e⟩:=(show ∃t,u=Value.str x t from r);subst e;exact yK P w x t
theorem sV:∀{ks:List Key} {us:List Value},Vals (ks.map kV) us->ItemsAre (aW P w) ks us
 |[],_,r=>by rw[map_nil] at r;cases r;exact .nil
 |k::ks,_,r=>by
  rw[map_cons] at r;cases r with
  |cons h t=>exact .cons (pX h) (sV t)
abbrev KT (H:Hp):List (List Key × V)->List (List Key × Addr × Value)->Prop:=Paired λp q=>p.1=q.1/\H q.2.1=some (.tup (p.1.map kV))/\RelV p.2 q.2.2
theorem KT.val {kvs:List (List Key × V)} (r:KT H kvs xs) (k:List Key):iQ (dJ kvs k) ((atKey xs k).map (·.2)):=by
 induction r with
 |nil=>exact tI
 |@cons p q ps qs h t ih=>
  obtain ⟨h1,_,h2⟩:=h;by_cases e:p.1=k
  ·have e':q.1=k:=h1.symm.trans e;have b:atKey (q::qs) k=some q.2:=by simp [atKey,find?_cons,e']
   rw[gX e,b];exact h2
  ·have e':¬q.1=k:=λz=>e (h1.trans z);have b:atKey (q::qs) k=atKey qs k:=by simp [atKey,find?_cons,e']
   rw[fX e,b];exact ih
theorem KT.repl {kvs:List (List Key × V)} (r:KT H kvs xs) (k:List Key) (ry:RelV y u):
  KT H (kvs.map λkv=>if kv.1=k then (kv.1,y) else kv) (xs.map (putAt k u)):=by
 induction r with
 |nil=>exact .nil
 |@cons p q ps qs h t ih=>
  rw[map_cons,map_cons];refine .cons ?_ ih;obtain ⟨h1,h2,h3⟩:=h;unfold putAt;by_cases e:p.1=k
  ·rw[if_pos e,if_pos (h1.symm.trans e)];exact ⟨h1,h2,ry⟩
  ·rw[if_neg e,if_neg (λz=>e (h1.trans z))];exact ⟨h1,h2,h3⟩
theorem KT.put {kvs:List (List Key × V)} (r:KT H kvs xs) (k:List Key) (hb:H b=some (.tup (k.map kV))) (ry:RelV y u):
  KT H (putK kvs k y) (storedH xs k b u):=by
 have e:(kvs.any λkv=>decide (kv.1=k))=(atKey xs k).isSome:=by
  rw[jV,(r.val k).isSome_eq,Option.isSome_map]
 unfold putK storedH;rw[e];by_cases q:(atKey xs k).isSome=true
 ·rw[if_pos q,if_pos q];exact r.repl k ry
 ·rw[if_neg q,if_neg q];exact Paired.snoc r ⟨rfl,hb,ry⟩
theorem KT.keeps {kvs:List (List Key × V)} (r:KT H kvs xs) (ht:∀b ys,H b=some (.tup ys)->H' b=some (.tup ys)):KT H' kvs xs:=
 Paired.mapP r λ_ _ z=>⟨z.1,ht _ _ z.2.1,z.2.2⟩
section
variable {P:Program} {w:World} {H:Hp} {h:Heap} {a:Addr}
theorem VL (ok:eE P w H h) (e:Rd H a u):aZ P w H h a u:=e.ok ok
theorem tK {kvs:List (Key × V)} (ok:eE P w H h) (e:Rd H a (.dK kvs)):kvs.length<=sizeLine/\(a==sysModules)=false/\∃vs,KV kvs vs/\h.DictOf (aW P w) a vs:=
 show aZ P w H h a (.dK kvs) from VL ok e
theorem EC {kvs:List (Key × V)} (ok:eE P w H h) (e:H a=some (.dK kvs)):kvs.length<=sizeLine/\(a==sysModules)=false/\∃vs,KV kvs vs/\h.DictOf (aW P w) a vs:=tK ok (.inl e)
theorem pW (ok:eE P w H h) (e:H a=some (.tup (ks.map kV))):(tupleKind (aW P w)).is h ks a:=by
 obtain ⟨_,its,r,o,h1,h2,n,h3⟩:=(show aZ P w H h a (.tup (ks.map kV)) from ok a _ e);exact ⟨o,its.toArray,n,h1,h2,h3,by simpa using sV r⟩
theorem zH {kvs:List (List Key × V)} (ok:eE P w H h) (e:Rd H a (.dT kvs)):kvs.length<=sizeLine/\(a==sysModules)=false/\
  ∃xs,KT H kvs xs/\h.DictOfH (tupleKind (aW P w)) a xs:=by
 obtain ⟨z,y,xs,r,o,es,ep,h1,h2,h3,h4,h5⟩:=(show aZ P w H h a (.dT kvs) from VL ok e);refine ⟨z,y,xs,r,o,es,ep,h1,h2,h3,h4,λx hx=>?_,h5⟩;have all:∀{l:List (List Key × V)} {m:List (List Key × Addr × Value)},KT H l m->∀x∈m,(tupleKind (aW P w)).is h x.1 x.2.1:=by
  intro l m q;induction q with
  |nil=>intro x hx;exact nomatch hx
  |@cons p q ps qs hq t ih=>
   intro x hx;rcases mem_cons.mp hx with e|hx
   ·subst e;exact pW ok (by rw[<-hq.1];exact hq.2.1)
   ·exact ih x hx
 exact all r x hx
theorem Ip {kvs:List (List Key × V)} (ok:eE P w H h) (e:H a=some (.dT kvs)):kvs.length<=sizeLine/\(a==sysModules)=false/\
  ∃xs,KT H kvs xs/\h.DictOfH (tupleKind (aW P w)) a xs:=zH ok (.inl e)
end
def eY (H:Hp) (a:Addr) (y:V) (r:Option V):Prop:=
 (∃kvs k,Rd H a (.dK kvs)/\y=kV k/\r=dJ kvs k)\/∃kvs k b,Rd H a (.dT kvs)/\y=.ref b/\H b=some (.tup (k.map kV))/\r=dJ kvs k
def PJ (H:Hp) (a:Addr) (y v:V) (H':Hp):Prop:=
 (∃kvs k,H a=some (.dK kvs)/\y=kV k/\kvs.length<sizeLine/\H'=upd H a (.dK (putK kvs k v)))\/
 ∃kvs k b,H a=some (.dT kvs)/\y=.ref b/\H b=some (.tup (k.map kV))/\kvs.length<sizeLine/\H'=upd H a (.dT (putK kvs k v))
theorem eY.k {H:Hp} {a:Addr} {kvs:List (Key × V)} {k:Key} (e:H a=some (.dK kvs)):eY H a (kV k) (dJ kvs k):=.inl ⟨kvs,k,.inl e,rfl,rfl⟩
theorem PJ.k {H:Hp} {a:Addr} {kvs:List (Key × V)} {k:Key} {v:V} (e:H a=some (.dK kvs)) (hl:kvs.length<sizeLine):PJ H a (kV k) v (upd H a (.dK (putK kvs k v))):=.inl ⟨kvs,k,e,rfl,hl,rfl⟩
section
variable {X:Cx} {pins:List (Addr × Obj)} {σ:St} {H:Hp} {s:Shared} {a:Addr} {y v:V} {u r:Value} {o:Option V} {A:Around} {E:Value->Shared->Prop}
theorem Inv.big (I:Inv X pins σ H s):sysModules<s.heap.objs.size:=by
 have h:mainGlobals<s.heap.objs.size:=(I.mod.glob.keeps I.bk).lt;exact lt_trans (by decide) h
theorem HM (hu:A.units+1<cLine) (I:Inv X pins σ H s) (g:eY H a y (some v)) (ry:RelV y u) (h:∀w' s',Inv X pins σ H s'->RelV v w'->Q w' s'):
  wpAny (model X.prog X.w) A (getItem (.ref a) u) Q E s:=by
 rcases g with ⟨kvs,k,e,ey,l⟩|⟨kvs,k,b,e,ey,eb,l⟩
 ·subst ey;obtain ⟨z,hd,vs,rel,dd⟩:=tK I.hok e;obtain ⟨w',hw,rw'⟩:=iQ.some_of (v:=v) (o:=valueAt vs k) (by rw[l];exact rel.val k);exact wpAny_getItem_of (pX ry) dd.mapOf hw (h w' _ (I.tok _) rw')
 ·subst ey;cases (show u=Value.ref b from ry);obtain ⟨z,hd,xs,rel,dd⟩:=zH I.hok e;obtain ⟨w',hw,rw'⟩:=iQ.some_of (v:=v) (o:=(atKey xs k).map (·.2)) (by rw[l];exact rel.val k);obtain ⟨p,hp,hp2⟩:=Option.map_eq_some_iff.mp hw;refine wpAny_getItem_heap (tupleKind_room_in1 hu) (pW I.hok eb) dd hp ?_;rw[hp2];exact h w' _ (I.tok _) rw'
theorem UL (hu:A.units+1<cLine) (I:Inv X pins σ H s) (g:eY H a y o) (ry:RelV y u) (h:∀s',Inv X pins σ H s'->Q (.bool (!o.isSome)) s'):
  wpAny (model X.prog X.w) A (compareOp .NotIn u (.ref a)) Q E s:=by
 rcases g with ⟨kvs,k,e,ey,l⟩|⟨kvs,k,b,e,ey,eb,l⟩
 ·subst ey;obtain ⟨z,hd,vs,rel,dd⟩:=tK I.hok e;refine wpAny_notIn_of (pX ry) hd dd.mapOf ?_;rw[<-(rel.val k).isSome_eq,<-l];exact h _ (I.tok _)
 ·subst ey;cases (show u=Value.ref b from ry);obtain ⟨z,hd,xs,rel,dd⟩:=zH I.hok e;refine wpAny_notIn_heap (tupleKind_room_in1 hu) (pW I.hok eb) hd dd ?_;have q:=(rel.val k).isSome_eq;rw[Option.isSome_map] at q;rw[<-q,<-l];exact h _ (I.tok _)
theorem oH (I:Inv X pins σ H s) (mu:Jk (H a)) (hs:SameBut a s.heap h') (he:∃q,h'.get? a=some q) (new:aZ X.prog X.w (upd H a ob) h' a ob):
  Inv X pins σ (upd H a ob) {s with heap:=h',toks:=t'}:=
 I.write (x:=a) (e:=a) mu (.inl rfl) (λb q hb z=>(hs.2 b hb).trans z) he new
theorem NP {kvs:List (Key × V)} (z:kvs.length<=sizeLine) (hd:(a==sysModules)=false) (rel:KV kvs vs) (dd:h'.DictOf (aW P w) a vs):
  aZ P w H' h' a (.dK kvs):=⟨z,hd,vs,rel,dd⟩
theorem HL (hu:A.units+1<cLine) (I:Inv X pins σ H s) (g:PJ H a y v H') (ry:RelV y u) (rv:RelV v r) (h:∀s',Inv X pins σ H' s'->Q () s'):
  wpAny (model X.prog X.w) A (setItem (.ref a) u r) Q E s:=by
 rcases g with ⟨kvs,k,e,ey,l,eH⟩|⟨kvs,k,b,e,ey,eb,l,eH⟩
 ·subst ey eH;obtain ⟨z,hd,vs,rel,dd⟩:=EC I.hok e;have hz:vs.length<=sizeLine:=by rw[<-rel.length];exact z
  have hl:(putK kvs k v).length<=sizeLine:=by have:=iE kvs k v;lia
  refine wpAny_setItem_pairs (hsz:=hz) (pX ry) dd λh' dd' hs=>h _ ?_;have he:∃q,h'.get? a=some q:=let ⟨q,_,_,hq,_⟩:=dd';⟨q,hq⟩;exact oH I (by rw[e];exact tI) hs he (NP hl hd (rel.put k rv) dd')
 ·subst ey eH;cases (show u=Value.ref b from ry);obtain ⟨z,hd,xs,rel,dd⟩:=Ip I.hok e;have hz:xs.length<=sizeLine:=by rw[<-Paired.length rel];exact z
  have hl:(putK kvs k v).length<=sizeLine:=by have:=iE kvs k v;lia
  refine wpAny_setItem_heap (hsz:=hz) (tupleKind_room_in1 hu) (pW I.hok eb) dd λh' dd' hs=>h _ ?_;obtain ⟨q,es,ep,hq,h2,h3,h4,_,h5⟩:=dd';refine oH I (by rw[e];exact tI) hs ⟨q,hq⟩ ⟨hl,hd,_,(rel.put k eb rv).keeps λc ys ec=>?_,q,es,ep,hq,h2,h3,h4,h5⟩;rw[aF (Gb ec e (λz=>nomatch z))];exact ec
end
section
variable {X:Cx} {pins:List (Addr × Obj)} {σ:St} {H:Hp} {s:Shared} {a:Addr} {kvs:List (Key × V)} {k:Key} {u:Value} {A:Around} {E:Value->Shared->Prop}
theorem Iu (I:Inv X pins σ H s) (e:Rd H a (.dK kvs)) (h:∀t s',Inv X pins σ H s'->Q (.int kvs.length t) s'):wpAny (model X.prog X.w) A (call (.builtin "len") [.ref a]) Q E s:=by
 obtain ⟨z,hd,vs,rel,dd⟩:=tK I.hok e;refine call_len_dict hd dd (by rw[<-rel.length];rw[sizeLine_eq] at z;lia) ?_;rw[<-rel.length];exact h _ _ (I.tok _)
end
theorem zJ (I:Inv X pins σ H s) (g:eY H a y o):s.TypeIs (.ref a) "dict":=by
 rcases g with ⟨kvs,k,e,_,_⟩|⟨kvs,k,b,e,_,_,_⟩
 ·obtain ⟨_,_,vs,_,dd⟩:=tK I.hok e;exact dd.typeIs
 ·obtain ⟨_,_,xs,_,dd⟩:=zH I.hok e;exact dd.typeIs
section
variable {X:Cx} {o i e value:Expr} {pos pos' tpos:Pos} {td ty tv:TE}
end
theorem NQ (h:Heap) (hb:sysModules<h.objs.size):aZ P w H (h.push {cls:=.type "dict",data:=.dict #[]}) h.objs.size (.dK []):=
 ⟨zero_le _,beq_eq_false_iff_ne.mpr (Ne.symm (ne_of_lt hb)),[],.nil,DictOf.new h⟩
section
variable {X:Cx} {pos:Pos}
end
def AR:List (TE × TE)->St->Hp->(List (V × V)->Hp->Prop)->Prop
 |[],_,H,Q=>Q [] H
 | (tk,tv)::r,σ,H,Q=>tk σ H λx H1=>tv σ H1 λy H2=>AR r σ H2 λps H3=>Q ((x,y)::ps) H3
abbrev VV:List (V × V)->List (Value × Value)->Prop:=Paired λp q=>RelV p.1 q.1/\RelV p.2 q.2
def Kc (X:Cx) (pos:Pos) (keys:List (Option Expr)) (values:List Expr) (trs:List (TE × TE)):Prop:=
 ∀(pins:List (Addr × Obj)) (s:Shared) (σ:St) (H:Hp) (Q:List (V × V)->Hp->Prop),Inv X pins σ H s->AR trs σ H Q->
  wpAny (model X.prog X.w) X.A (evalPairs (pairTrees keys values X.env pos)) (λvs s'=>∃ps H',Inv X pins σ H' s'/\VV ps vs/\Q ps H') X.xe s
theorem RH:Kc X pos [] [] []:=λpins s σ H Q I h=>pairTrees_nil_walk ⟨[],H,I,.nil,h⟩
theorem KP (hk:PE X k tk) (hv:PE X v tv) (hr:Kc X pos ks vs trs):
  Kc X pos (some k::ks) (v::vs) ((tk,tv)::trs):=λpins s σ H Q I h=>
 pairTrees_cons_walk (bU (hk pins s σ H _ I h) λu s1 ⟨x,H1,I1,rx,q1⟩=>bU (hv pins s1 σ H1 _ I1 q1) λw2 s2 ⟨y,H2,I2,ry,q2⟩=>
  bU (hr pins s2 σ H2 _ I2 q2) λws s3 ⟨ps,H3,I3,rel,q3⟩=>⟨(x,y)::ps,H3,I3,.cons ⟨rx,ry⟩ rel,q3⟩)
def eN (kvs more:List (Key × V)):List (Key × V):=more.foldl (λacc kv=>putK acc kv.1 kv.2) kvs
theorem KV.merge:∀{more:List (Key × V)} {rs:List (Key × Value)} {kvs:List (Key × V)} {vs:List (Key × Value)},KV more rs->KV kvs vs->KV (eN kvs more) (merged vs rs):=by
 intro more rs kvs vs r;unfold KV at r;induction r generalizing kvs vs with
 |nil=>intro q;exact q
 |@cons p q ps qs h t ih=>
  intro r0;have e:KV (putK kvs p.1 p.2) (stored vs q.1 q.2):=by
   have:=r0.put p.1 h.2;rw[<-h.1];exact this
  exact ih e
theorem fP:∀(more kvs:List (Key × V)),(eN kvs more).length<=kvs.length+more.length
 |[],kvs=>by show kvs.length<=kvs.length+0;lia
 |p::r,kvs=>by
  have h1:=fP r (putK kvs p.1 p.2);have h2:=iE kvs p.1 p.2;show (eN (putK kvs p.1 p.2) r).length<=_;rw[length_cons];lia
theorem qU:∀{kvs:List (Key × V)} {ws:List (Value × Value)},VV (kvs.map λkv=>(kV kv.1,kv.2)) ws->∃rs,Carries (aW P w) ws rs/\KV kvs rs
 |[],_,r=>by rw[map_nil] at r;cases r;exact ⟨[],tI,.nil⟩
 |p::kvs,_,r=>by
  rw[map_cons] at r;cases r with
  |@cons a b as bs h t=>
   obtain ⟨rs,c,q⟩:=qU (P:=P) (w:=w) t;obtain ⟨b1,b2⟩:=b;exact ⟨(p.1,b2)::rs,⟨pX h.1,rfl,c⟩,.cons ⟨rfl,h.2⟩ q⟩
def VI (trs:List (TE × TE)):TE:=λσ H Q=>∀p,H p=none->AR trs σ (upd H p (.dK [])) λps H2=>H2 p=some (.dK [])/\∃kvs:List (Key × V),ps=kvs.map (λkv=>(kV kv.1,kv.2))/\kvs.length<=15/\Q (.ref p) (upd H2 p (.dK (eN [] kvs)))
theorem RN (h:Kc X pos keys values trs) (hall:keys.all (·.isSome)=true) (hl:keys.length=values.length) (h0:keys≠[])
  (h15:keys.length<=15):PE X (.Dict keys values pos) (VI trs):=by
 intro pins s σ H Q I q;have hn:=I.hok.fresh (Nat.le_refl s.heap.objs.size);have I1:=I.laid (a:=s.heap.objs.size) (o:=.dK []) (h':=s.heap.push {cls:=.type "dict",data:=.dict #[]}) (t':=s.toks) (λ_ _ q=>get?_push_of_some _ q) (Nat.le_refl _) (NQ s.heap I.big);refine wpAny_Dict_walk (knd:=aW X.prog X.w) hall hl h0 h15 (bU (h pins _ σ _ _ I1 (q _ hn)) λws s2 ⟨ps,H2,I2,rel,e,kvs,ep,lk,q2⟩=>?_);subst ep;obtain ⟨rs,c,rk⟩:=qU (P:=X.prog) (w:=X.w) rel;obtain ⟨z,hd,vs0,r0,dd⟩:=EC I2.hok e;cases r0;refine ⟨rs,c,dd,λh' dd' hs=>⟨.ref s.heap.objs.size,_,?_,rfl,q2⟩⟩;have hz:(eN [] kvs).length<=sizeLine:=by
  have h1:=fP kvs [];rw[length_nil] at h1;rw[sizeLine_eq];lia
 have he:∃q,h'.get? s.heap.objs.size=some q:=let ⟨q,_,_,hq,_⟩:=dd';⟨q,hq⟩;exact oH I2 (by rw[e];exact tI) hs he (NP hz hd (rk.merge .nil) dd')
section
variable {X:Cx} {pins:List (Addr × Obj)} {σ:St} {H:Hp} {s:Shared} {a:Addr} {y d:V} {u r:Value} {o:Option V} {A:Around} {E:Value->Shared->Prop}
theorem Bn (hu:A.units+1<cLine) (I:Inv X pins σ H s) (g:eY H a y o) (ry:RelV y u) (rd:RelV d r) (h:∀w' s',Inv X pins σ H s'->RelV (o.getD d) w'->Q w' s'):
  wpAny (model X.prog X.w) A (call (.builtin "dict.get") [.ref a,u,r]) Q E s:=by
 rcases g with ⟨kvs,k,e,ey,l⟩|⟨kvs,k,b,e,ey,eb,l⟩
 ·subst ey;obtain ⟨z,hd,vs,rel,dd⟩:=tK I.hok e;refine call_meetsIn PySem.F.slot_dict_get dd.typeIs PySem.F.entry_dict_get (PySem.F.args_dict_get_3 _ _ _) (meets_dict_get_default (aW X.prog X.w) a (pX ry) hd r) ⟨_,dd.mapOf,h _ _ (I.tok _) ?_⟩;rw[l];exact (rel.val k).getD rd
 ·subst ey;cases (show u=Value.ref b from ry);obtain ⟨z,hd,xs,rel,dd⟩:=zH I.hok e;refine call_meetsIn PySem.F.slot_dict_get dd.typeIs PySem.F.entry_dict_get (PySem.F.args_dict_get_3 _ _ _) (meetsH_dict_get_default (tupleKind (aW X.prog X.w)) a b hd r) ⟨tupleKind_room_in1 hu,k,xs,pW I.hok eb,dd,h _ _ (I.tok _) ?_⟩;rw[l];exact (rel.val k).getD rd
end
section
variable {X:Cx} {o e f:Expr} {apos cpos:Pos} {td ty tx:TE}
end
section
variable {X:Cx} {pins:List (Addr × Obj)} {σ:St} {H:Hp} {s:Shared} {a:Addr} {kvs:List (Key × V)} {A:Around} {E:Value->Shared->Prop}
end
section
variable {X:Cx} {pins:List (Addr × Obj)} {σ:St} {H:Hp} {s:Shared} {a:Addr} {y:V} {u:Value} {A:Around} {E:Value->Shared->Prop}
end
end L2
namespace L2.Na
open PySem PySem.Spec PyProof.Rows
theorem BK (t:SetTable) (es:Array (Int × Value)) (h:Int) (x:Value):(layNew t es h x).2.1.led=t.led:=by
 unfold layNew;split
 ·show (SetTable.orStandIn _ _).led=_;unfold SetTable.orStandIn;split<;>rfl
 ·rfl
theorem pI (t:SetTable) (es:Array (Int × Value)) (m:Nat):(relayAll t es m).2.1.led=t.led/\(t.plain=false->(relayAll t es m).2.1.plain=false):=by
 unfold relayAll;split
 ·rename_i t' order he;have ht:t'.led=t.led/\t'.plain=t.plain:=by
   unfold SetTable.relaid SetTable.laid at he;cases hl:SetTable.layClean (SetTable.sizeAbove m - 1) (es.map (·.1)) with
   |none=>rw[hl] at he;cases he
   |some owner=>
    rw[hl] at he;cases he;exact ⟨rfl,rfl⟩
  dsimp only;split
  ·exact ⟨ht.1,λz=>ht.2.trans z⟩
  ·exact ⟨rfl,λ_=>rfl⟩
 ·exact ⟨rfl,λ_=>rfl⟩
def cG (es:Array (Int × Value)):List Str:=es.toList.map λe=>PyProof.Rows.strOf e.2
def eW (prog:Program) (w:World) (bt:Bool) (h:Heap) (a:Addr) (zs:List Str):Prop:=
 ∃(o:Obj) (es:Array (Int × Value)) (ep:Nat) (t:SetTable),h.get? a=some o/\o.ExactSet/\o.data=.set es ep t/\ElemsOf (PySem.strKind prog w) es.toList/\cG es=zs/\zs.Nodup/\es.size<scanBound/\t.fits es.size=true/\t.led=(!bt)/\(es.size≠0->t.plain=false)
section
variable {prog:Program} {w:World} {A:Around} {E:Value->Shared->Prop} {s:Shared} {bt:Bool} {a:Addr}
theorem eW.keep (hS:eW prog w bt h a zs) (k:∀o,h.get? a=some o->h'.get? a=some o):eW prog w bt h' a zs:=by
 obtain ⟨o,es,ep,t,ho,r⟩:=hS;exact ⟨o,es,ep,t,k o ho,r⟩
theorem DB {h:Heap} {o:Obj} {es es':Array (Int × Value)} {ep:Nat} {t t':SetTable} (ho:h.get? a=some o) (hd:o.data=.set es ep t):(h.update a (Obj.putSet es' t')).get? a=some {o with data:=.set es' (ep+1) t'}:=by
 have z:=get?_update_self (Obj.putSet es' t') ho (by rw[putSet_of es' t' hd];rfl);rwa [putSet_of es' t' hd] at z
theorem zG {es:Array (Int × Value)} (hel:ElemsOf (PySem.strKind prog w) es.toList) {e:Int × Value} (he:e∈es.toList) (x:Str):(PySem.strKind prog w).is x e.2=true↔PyProof.Rows.strOf e.2=x:=by
 obtain ⟨⟨k,hk,_⟩,_⟩:=hel e he;obtain ⟨u,hu⟩:=Value.isStrOf_shape hk;constructor
 ·intro h;obtain ⟨u',hu'⟩:=Value.isStrOf_shape (show Value.isStrOf x e.2=true from h);rw[hu'];rfl
 ·intro h;rw[hu] at h;have e1:k=x:=h;rw[<-e1];exact hk
theorem sM {g:Bool->Sem Unit} (hg:∀(b:Bool) (aa:Shared) (Q':Unit->Shared->Prop),Q' () aa->wpAny (model prog w) A (g b) Q' E aa)
  {o:Obj} {es es1:Array (Int × Value)} {ep:Nat} {t t2:SetTable} (ho:s.heap.get? a=some o) (hex:o.ExactSet) (hd:o.data=.set es ep t) (hel:ElemsOf (PySem.strKind prog w) es1.toList) (nd:(cG es1).Nodup)
  (hb:es1.size<scanBound) (hf:t2.fits es1.size=true) (hl:t2.led=!bt) (hp:t2.plain=false) {wd:Bool} {R:Option Bool->Shared->Prop}
  (h:∀h' zs,SameBut a s.heap h'->eW prog w bt h' a zs->Perm zs (cG es1)->R (some true) {s with heap:=h'}):
  wpAny (model prog w) A (do
    storeSet a es1 t2
    if (!wd&&t2.tooFull)=true then do
      g (relayAll t2 es1 (SetTable.grown es1.size)).2.2
      storeSet a (relayAll t2 es1 (SetTable.grown es1.size)).1 (relayAll t2 es1 (SetTable.grown es1.size)).2.1
      pure (some true)
     else pure (some true)) R E s:=by
 refine wpAny_bind (wpAny_storeSet_of ho hd ?_ (fits_of_scanBound hb));have g1:=DB (es':=es1) (t':=t2) ho hd;have sb1:=SameBut.update s.heap a (Obj.putSet es1 t2);split
 ·obtain ⟨l3,p3⟩:=pI t2 es1 (SetTable.grown es1.size);have pm:=relayAll_perm t2 es1 (SetTable.grown es1.size);have f3:=relayAll_fits t2 es1 (SetTable.grown es1.size);revert l3 p3 pm f3;generalize relayAll t2 es1 (SetTable.grown es1.size)=r;obtain ⟨es2,t3,gv⟩:=r;intro l3 p3 pm f3;have sz:es2.size=es1.size:=by rw[<-length_toList,<-length_toList];exact pm.length_eq
  have pk:Perm (cG es2) (cG es1):=pm.map _;refine wpAny_bind (hg _ _ _ ?_);refine wpAny_bind (wpAny_storeSet_of g1 rfl ?_ (fits_of_scanBound (by show es2.size<scanBound;rw[sz];exact hb)));refine wpAny_pure (h _ (cG es2) (sb1.trans (SameBut.update _ a _)) ?_ pk);exact ⟨_,es2,_,t3,DB g1 rfl,hex,rfl,hel.perm pm,rfl,pk.nodup_iff.mpr nd,by rw[sz];exact hb,f3,l3.trans hl,λ_=>p3 hp⟩
 ·exact wpAny_pure (h _ (cG es1) sb1 ⟨_,es1,_,t2,g1,hex,rfl,hel,rfl,nd,hb,hf,hl,λ_=>hp⟩ (Perm.refl _))
theorem JT {zs:List Str} {x:Str} {tk:Tok} {Q:Bool->Shared->Prop} (hS:eW prog w bt s.heap a zs) (hroom:zs.length+1<scanBound)
  (h:∀h' zs' b,SameBut a s.heap h'->eW prog w bt h' a zs'->(∀y,y∈zs'↔y∈zs\/y=x)->zs'.length<=zs.length+1->Q b {s with heap:=h',toks:=s.toks+1}):
  wpAny (model prog w) A (setAdd a (.str x tk)) Q E s:=by
 obtain ⟨o,es,ep,t,ho,hex,hd,hel,rfl,nd,hb,hf,hl,hp⟩:=hS;have hlen:(cG es).length=es.size:=by unfold cG;rw[length_map,length_toList]
 have hkey:(PySem.strKind prog w).is x (.str x tk)=true:=by show Value.isStrOf x (.str x tk)=true;simp [Value.isStrOf]
 have hsc:(Value.str x tk).scannable=true:=rfl;unfold setAdd;refine wpAny_holding (wpAny_bind ((PySem.strKind prog w).pyHash hkey ?_));unfold setAddHashed setAddHashedIn;refine wpAny_holding (wpAny_bind (wpAny_setState_of (s:={s with toks:=s.toks+1}) ho hd hf ?_));dsimp only;rw[byScan_of hsc hb hel];simp only [↓reduceIte];unfold setAddByScan;refine wpAny_bind (wpAny_bind (wpAny_rule (wpAny_bind (wpAny_setScan_of (s:={s with toks:=s.toks+1}) hkey ho hd hf hel ?_))));cases hr:List.findIdx? (λe=>(PySem.strKind prog w).is x e.2) es.toList with
 |some j=>
  dsimp only;obtain ⟨hj,hpj,_⟩:=List.findIdx?_eq_some_iff_getElem.mp hr;have hm:x∈cG es:=mem_map.mpr ⟨_,getElem_mem hj,(zG hel (getElem_mem hj) x).mp hpj⟩;refine wpAny_pure (wpAny_pure ?_);exact h s.heap (cG es) _ (SameBut.refl a s.heap) ⟨o,es,ep,t,ho,hex,hd,hel,rfl,nd,hb,hf,hl,hp⟩ (λy=>⟨.inl,λz=>z.elim id λe=>e▸hm⟩) (le_succ _)
 |none=>
  dsimp only;have hn:x∉cG es:=λz=>by
   obtain ⟨e,he,hx⟩:=mem_map.mp z;have:=List.findIdx?_eq_none_iff.mp hr e he;rw[(zG hel he x).mpr hx] at this;cases this
  have pm:=layNew_perm t es ((PySem.strKind prog w).hash x) (.str x tk);have ft:=layNew_fits t es ((PySem.strKind prog w).hash x) (.str x tk);have ld:=BK t es ((PySem.strKind prog w).hash x) (.str x tk);revert pm ft ld;generalize layNew t es ((PySem.strKind prog w).hash x) (.str x tk)=L;obtain ⟨es1,t1,wd,gv⟩:=L;intro pm ft ld;dsimp only at pm ft ld ⊢;rw[Array.toList_push] at pm;have el1:=(hel.push hkey hsc).perm pm;have pk:Perm (cG es1) (cG es++[x]):=by
   have:=pm.map λe:Int × Value=>PyProof.Rows.strOf e.2;rw[map_append] at this;exact this
  have nd1:(cG es1).Nodup:=pk.nodup_iff.mpr (List.nodup_append.mpr ⟨nd,by simp,λu hu v hv e=>by
   have:v=x:=by simpa using hv
   rw[this] at e
   exact hn (e▸hu)⟩)
  have sz1:es1.size=es.size+1:=by rw[<-length_toList,pm.length_eq,length_append,length_toList];rfl
  have hb1:es1.size<scanBound:=by rw[sz1,<-hlen];exact hroom
  have fin:∀h' zs',SameBut a s.heap h'->eW prog w bt h' a zs'->Perm zs' (cG es1)->Q true {s with heap:=h',toks:=s.toks+1}:=λh' zs' sb hS' pz=>by
   refine h h' zs' true sb hS' (λy=>?_) ?_
   ·rw[(pz.trans pk).mem_iff,mem_append];simp
   ·rw[(pz.trans pk).length_eq,length_append];exact Nat.le_refl _
  have hgw:∀(b:Bool) (aa:Shared) (Q':Unit->Shared->Prop),Q' () aa->wpAny (model prog w) A (match b with|true=>rule "set.scan.the-table-gave-way"|false=>pure ()) Q' E aa:=
   λb aa Q' hq=>by cases b<;>first|exact wpAny_pure hq|exact wpAny_rule hq
  refine wpAny_bind (hgw _ _ _ ?_);split
  ·refine wpAny_bind ?_;rw[hashByValue_scannable 8 hsc];refine wpAny_pure ?_;refine sM (s:={s with toks:=s.toks+1}) (t2:={t1 with plain:=false}) hgw ho hex hd el1 nd1 hb1 (SetTable.fits_plain_off ft) (ld.trans hl) rfl λh' zs' sb hS' pz=>?_;exact wpAny_pure (fin h' zs' sb hS' pz)
  ·rename_i hpl;refine wpAny_bind (wpAny_pure ?_);simp only [↓reduceIte];refine sM (s:={s with toks:=s.toks+1}) (t2:=t1) hgw ho hex hd el1 nd1 hb1 ft (ld.trans hl) (by simpa using hpl) λh' zs' sb hS' pz=>?_;exact wpAny_pure (fin h' zs' sb hS' pz)
end
abbrev wX (w:World):Bool:=w.params.followText "set-order"
def gJ (w:World):Obj:={cls:=.type "set",dict:=none,data:=.set #[] 0 (.fresh 0 0 (!wX w))}
section
variable {prog:Program} {w:World} {A:Around} {E:Value->Shared->Prop} {s:Shared}
theorem JS (e:h.get? a=some (gJ w)):eW prog w (wX w) h a []:=
 ⟨_,#[],0,_,e,⟨rfl,rfl,rfl⟩,rfl,λx hx=>by simp at hx,rfl,List.nodup_nil,by decide,by rfl,rfl,λz=>absurd rfl z⟩
theorem HU (x:Value) (h:Q (.ref s.heap.objs.size) {s with heap:=s.heap.push (gJ w)}):
  codeAny (model prog w) A (.call (.builtin "set.__new__") ⟨[.type "set",x],[]⟩) (wants Q E) s:=by
 refine codeAny_of_tree ?_;show wpAny _ A.in1 (do checkBuiltinCall "set.__new__" ⟨[.type "set",x],[]⟩;again (.builtin "set.__new__" ⟨[.type "set",x],[]⟩)) _ _ s;refine wpAny_bind (wpAny_of_eq (PySem.F.newCall_set_1 x) (wpAny_pure ⟨plainId_quiet PySem.F.plain_set_new _,codeAny_builtin PySem.F.entry_set_new ?_⟩));rw[Around.under_plainId PySem.F.plain_set_new _];unfold Builtin.«set.__new__» Builtin.Frozenset.newClass;have sub:=sub_set_self;obtain ⟨hp,g,d,tk,os⟩:=s;dsimp only
 wp_walk
 refine wpAny_askSetting (wpAny_pure ?_);dsimp only;simp only [newObj];refine wpAny_bind (wpAny_alloc (wpAny_pure (wpAny_pure ?_)));exact h
variable {R:Result->Shared->Prop} {I:Addr} {fp wr:List Addr} {G:Array GenState->Array GenState->Prop} {n:Nat} {P:Nat->Value->Prop} {St:Nat->Shared->Prop} {bt:Bool}
theorem FI (W:WalksS prog w A.in1 I fp wr G n P St) (S:Addr) (hSf:S∉fp) (val:Nat->Str) (hval:∀i v,P i v->∃t,v=.str (val i) t) (hb:n+1<scanBound):
  ∀(k i:Nat) (s:Shared) (zs:List Str),n - i=k->i<=n->St i s->eW prog w bt s.heap S zs->(∀y,y∈zs↔∃j,j<i/\val j=y)->zs.length<=i->
   (∀s' zs',Moved (S::wr) G s s'->eW prog w bt s'.heap S zs'->(∀y,y∈zs'↔∃j,j<n/\val j=y)->R (.ok (.ret .none)) s')->
   codeAny (model prog w) A (.builtin "set.update.loop" ⟨[.ref S,.ref I],[]⟩) R s:=by
 have hSw:S∉wr:=λh=>hSf (W.sub _ h);have up:∀b∈wr,b∈S::wr:=λb hb=>mem_cons_of_mem _ hb;intro k;induction k with
 |zero=>
  intro i s zs hk hi st hS hm _ fin;have e:i=n:=by lia
  subst e;refine codeAny_builtin PyProof.Rows.F.entry_set_update_loop ?_;rw[Around.under_plainId PyProof.Rows.F.plain_set_update_loop _];show wpAny _ A.in1 (pyNext (.ref I) >>=_) _ _ s;refine wpAny_bind (W.done s _ _ st λs' mv=>?_);show wpAny _ A.in1 (ret Value.none) _ _ s';exact wpAny_pure (fin s' zs (mv.mono up) (hS.keep λo ho=>mv.heap S o hSw ho) hm)
 |succ k ih=>
  intro i s zs hk hi st hS hm hl fin;have lt:i<n:=by lia
  refine codeAny_builtin PyProof.Rows.F.entry_set_update_loop ?_;rw[Around.under_plainId PyProof.Rows.F.plain_set_update_loop _];show wpAny _ A.in1 (pyNext (.ref I) >>=_) _ _ s;refine wpAny_bind (W.item i s _ _ lt st λv s1 hP st1 mv=>?_);obtain ⟨t,rfl⟩:=hval i v hP;have hS1:eW prog w bt s1.heap S zs:=hS.keep λo ho=>mv.heap S o hSw ho;show wpAny _ A.in1 (holding [Value.str (val i) t] (setAdd S (.str (val i) t)) >>=_) _ _ s1;refine wpAny_bind (wpAny_holding (JT hS1 (by lia) λh2 zs2 b sb hS2 hm2 hl2=>?_));refine wpAny_pure ⟨plainId_quiet PyProof.Rows.F.plain_set_update_loop _,ih (i+1) _ zs2 (by lia) lt (W.frame _ s1 _ _ st1 (le_succ _) λb hb o e=>?_) hS2 (λy=>?_) (by lia) λs3 zs3 mv3 hS3 hm3=>?_⟩
  ·rw[sb.2 b (λh:b=S=>hSf (by rw[<-h];exact hb))];exact e
  ·rw[hm2 y,hm y];constructor
   ·rintro (⟨j,hj,rfl⟩|rfl)
    ·exact ⟨j,by lia,rfl⟩
    ·exact ⟨i,by lia,rfl⟩
   ·rintro ⟨j,hj,rfl⟩;by_cases e:j=i
    ·rw[e];exact .inr rfl
    ·exact .inl ⟨j,by lia,rfl⟩
  ·refine fin s3 zs3 (Moved.trans W.gtrans ((mv.mono up).then_heap (le_succ _) λb o hb e=>?_) mv3) hS3 hm3;rw[sb.2 b (λh:b=S=>hb (by rw[h];exact mem_cons_self))];exact e
set_option maxHeartbeats 3200000 in
theorem FU (hh:A.handled=none) (hb:z.cps.size+1<scanBound)
  (h:∀(h':Heap) (tk:Nat) (zs:List Str),eW prog w (wX w) h' s.heap.objs.size zs->(∀y,y∈zs↔∃c∈z.cps.toList,y=⟨#[c]⟩)->
   (∀b o,s.heap.get? b=some o->h'.get? b=some o)->Q (.ref s.heap.objs.size) {s with heap:=h',toks:=tk}):
  wpAny (model prog w) A (call (.type "set") [.str z t]) Q E s:=by
 obtain ⟨c,tl,hmro⟩:=PySem.F.called_set.mro;have hmade:=PySem.F.called_set.made;have hsub:=PySem.F.called_set.sub;refine wpAny_call (codeAny_of_tree ?_);show wpAny _ _ (callAny (.type "set") _) _ _ _;refine wpAny_pure ⟨Code.quiet_builtin _ (by decide+kernel),codeAny_builtin PySem.F.entry_type_call ?_⟩;rw[Around.under_plain (weight_type_call_type "set" [.str z t] []) rfl];have h1:=PySem.F.called_set.notType;have h2:=PySem.F.called_set.canCreate;have hct:=PySem.F.typeCall_set_1 (.str z t)
 repeat (any_goals (first|assumption|wp_step))
 refine codeAny_mono (HU (.str z t) (E:=E) (Q:=λob s1=>ob=.ref s.heap.objs.size/\s1={s with heap:=s.heap.push (gJ w)}) ⟨rfl,rfl⟩) λr s1 hr=>?_;cases r with
 |error e=>exact hr
 |ok fl=>
  cases fl with
  |ret ob=>
   obtain ⟨rfl,rfl⟩:=hr;have hS:(s.heap.push (gJ w)).get? s.heap.objs.size=some (gJ w):=get?_push_size _ rfl;have hT:Shared.TypeIs {s with heap:=s.heap.push (gJ w)} (.ref s.heap.objs.size) "set":=⟨_,hS,rfl⟩;have hli:=PySem.F.called_set.init.lookup;have hbi:=PySem.F.called_set.init.bind (.ref s.heap.objs.size)
   repeat (any_goals (first|assumption|wp_step))
   refine codeAny_mono (codeAny_call_builtin (R:=wants (λr s2=>r=.none/\∃h' tk zs,s2={s with heap:=h',toks:=tk}/\eW prog w (wX w) h' s.heap.objs.size zs/\(∀y,y∈zs↔∃c∈z.cps.toList,y=⟨#[c]⟩)/\
     (∀b o,s.heap.get? b=some o->h'.get? b=some o)) E) PySem.F.called_set.init.plain PySem.F.entry_set_init (check_set_init_1 hT ?_)) λr2 s2 hr2=>?_
   ·unfold Builtin.«set.__init__» noKeywords Builtin.Frozenset.updateFrom;have a1:isSubtype (.type "str") (.type "set")=pure false:=by rw[isSubtype_type];kernel_rfl
    have a2:isSubtype (.type "str") (.type "frozenset")=pure false:=by rw[isSubtype_type];kernel_rfl
    have a3:(Value.type "str"==Value.type "dict")=false:=by decide
    generalize hPI:pyIter=PI
    wp_walk
    subst hPI;refine wpAny_pyIter_str λo St W st=>?_;refine wpAny_bind (wpAny_runValue ?_);have hne:s.heap.objs.size≠(s.heap.push (gJ w)).objs.size:=by rw[Heap.size_push];exact ne_of_lt (lt_succ_self _)
    have hh3:A.in1.in1.in1.handled=none:=by simp [hh]
    have hval:∀(i:Nat) (v:Value),SignAt z i v->∃t,v=.str ((λi=>(⟨#[z.cps.getD i 0]⟩:Str)) i) t:=λi v hv=>by
     obtain ⟨c,u,hc,rfl⟩:=hv;exact ⟨u,by simp [getD_eq_getD_getElem?,hc]⟩
    refine FI (bt:=wX w) ((W _ hh3).toS) s.heap.objs.size (by simpa using hne) (λi=>(⟨#[z.cps.getD i 0]⟩:Str)) hval hb (z.cps.size - 0) 0 _ [] (by lia) (zero_le _) st
     (JS (get?_push_of_some _ hS)) (λy=>by simp) (Nat.le_refl _) λs' zs mv hS' hm=>?_
    obtain ⟨h',g',d',tk',os'⟩:=s';have eg:g'=s.gens:=mv.gens;have ed:d'=s.drawn:=mv.drawn;have eo:os'=s.os:=mv.os;subst eg ed eo;show wpAny _ _ _ _ _ _;refine wpAny_pure ?_;show wpAny _ _ (ret Value.none) _ _ _;refine wpAny_pure ⟨rfl,h',tk',zs,rfl,hS',λy=>?_,λb o e=>?_⟩
    ·rw[hm y];constructor
     ·rintro ⟨j,hj,rfl⟩;exact ⟨z.cps[j],by simp,by simp [getD_eq_getD_getElem?,hj]⟩
     ·rintro ⟨c,hc,rfl⟩;obtain ⟨j,hj,e⟩:=List.getElem_of_mem hc;exact ⟨j,by simpa using hj,by simp [getD_eq_getD_getElem?,show j<z.cps.size by simpa using hj] at e ⊢;exact e⟩
    ·have b1:=lt_size e;refine mv.heap b o (by rw[Heap.size_push];simp only [mem_cons,not_mem_nil,or_false,not_or];exact ⟨ne_of_lt b1,ne_of_lt (Nat.lt_succ_of_lt b1)⟩) (get?_push_of_some _ (get?_push_of_some _ e))
   ·cases r2 with
    |error e=>exact hr2
    |ok fl2=>
     cases fl2 with
     |ret r=>
      obtain ⟨rfl,h',tk,zs,rfl,q1,q2,q3⟩:=hr2
      repeat (any_goals (first|assumption|wp_step))
      exact h _ _ zs q1 q2 q3
     |_=>exact hr2.elim
  |_=>exact hr.elim
end
theorem aT:Slot "set_iterator" "__next__" "set_iterator.__next__":=
 .of (owner:="set_iterator") (n:="__next__") (by rw[typeLookup_type,builtinLookup_eq_fast];kernel_rfl) (by decide+kernel) (by decide+kernel) (by decide+kernel)
  (by first|exact .inl (by decide+kernel)|exact .inr (by decide+kernel)) (by rw[isSubtype_type];kernel_rfl)
theorem dG:entryFor table "set_iterator.__next__"=some Builtin.«set_iterator.__next__»:=entryFor_of_fast (by kernel_rfl)
theorem dY (a:Value):argsOk "set_iterator.__next__" ⟨[a],[]⟩:=by unfold argsOk;kernel_rfl
theorem kI:Slot "set_iterator" "__iter__" "set_iterator.__iter__":=
 .of (owner:="set_iterator") (n:="__iter__") (by rw[typeLookup_type,builtinLookup_eq_fast];kernel_rfl) (by decide+kernel) (by decide+kernel) (by decide+kernel)
  (by first|exact .inl (by decide+kernel)|exact .inr (by decide+kernel)) (by rw[isSubtype_type];kernel_rfl)
theorem rV:entryFor table "set_iterator.__iter__"=some Builtin.«dict_keyiterator.__iter__»:=
 entryFor_alias (id':="dict_keyiterator.__iter__") (by kernel_rfl) rfl (by decide+kernel) (by kernel_rfl)
theorem wR (a:Value):argsOk "set_iterator.__iter__" ⟨[a],[]⟩:=by unfold argsOk;kernel_rfl
theorem qP:entryFor table "set.__iter__"=some Builtin.«frozenset.__iter__»:=
 entryFor_alias (id':="frozenset.__iter__") (by kernel_rfl) rfl (by decide+kernel) (by kernel_rfl)
def cY (h:Heap) (it:Addr) (first:Value) (i:Nat) (a:Addr) (n ep:Nat):Prop:=∃o,h.get? it=some o/\o.cls=.type "set_iterator"/\o.data=.fields #[first,.int i 0,.ref a,.int n 0,.int ep 0]
section
variable {prog:Program} {w:World} {A:Around} {E:Value->Shared->Prop} {s:Shared} {it a:Addr} {i n ep:Nat} {o:Obj} {es:Array (Int × Value)} {t:SetTable}
theorem cY.type (h:cY s.heap it first i a n ep):s.TypeIs (.ref it) "set_iterator":=by
 obtain ⟨o,ho,hc,_⟩:=h;exact ⟨o,ho,hc⟩
theorem uU (hit:cY s.heap it first i a n ep) (h:Q (.ref it) s):wpAny (model prog w) A (pyIter (.ref it)) Q E s:=by
 refine wpAny_pyIter_slot hit.type kI (wpAny_call_entry kI hit.type rV ?_ (wR _));show wpAny _ _ (ret (.ref it)) _ _ s;exact wpAny_pure ⟨_,rfl,"set_iterator",_,hit.type,aT.lookup,h⟩
theorem xR {slot nx:Nat} (hit:cY s.heap it (.int slot 0) i a n ep) (ho:s.heap.get? a=some o) (hd:o.data=.set es ep t) (hf:t.fits es.size=true) (hn:es.size=n)
  (hx:∀(A:Around) (E:Value->Shared->Prop) (Q':Option (Value × Nat)->Shared->Prop),Q' (some (x,nx)) s->wpAny (model prog w) A (setNext a slot i ep) Q' E s)
  (h:∀h',cY h' it (.int nx 0) (i+1) a n ep->SameBut it s.heap h'->Q (some x) {s with heap:=h'}):wpAny (model prog w) A (pyNext (.ref it)) Q E s:=by
 obtain ⟨oi,hoi,hci,hdi⟩:=id hit;unfold pyNext;refine wpAny_bind (wpAny_attempt (wpAny_callSpecial?_slot (name:=Str.ofString "__next__") hit.type aT (wpAny_call_entry aT hit.type dG ?_ (dY _))));show wpAny _ _ (fieldsOf (.ref it) >>=_) _ _ s;refine wpAny_bind (wpAny_fieldsOf hoi hdi ?_);show wpAny _ _ (setEntries a >>=_) _ _ s;refine wpAny_bind (wpAny_setEntries_of ho hd hf ?_);rw[if_neg (by simp [hn])];show wpAny _ _ (setNext a (toNat (slot:Nat)) (toNat (i:Nat)) (toNat (ep:Nat)) >>=_) _ _ s;rw[toNat_natCast,toNat_natCast,toNat_natCast];refine wpAny_bind (hx _ _ _ ?_);dsimp only;refine wpAny_bind (wpAny_setField hoi hdi (by simp) ?_);have g1:=get?_update_self (Obj.mapFields (·.setIfInBounds 0 (rawInt nx))) hoi (Obj.isFreed_of_fields (Obj.data_mapFields hdi _));have d1:=Obj.data_mapFields hdi (·.setIfInBounds 0 (rawInt nx));refine wpAny_bind (wpAny_setField g1 d1 (by simp) ?_);have g2:=get?_update_self (Obj.mapFields (·.setIfInBounds 1 (rawInt ((i:Int)+1)))) g1 (Obj.isFreed_of_fields (Obj.data_mapFields d1 _));have d2:=Obj.data_mapFields d1 (·.setIfInBounds 1 (rawInt ((i:Int)+1)));refine wpAny_pure ⟨x,rfl,wpAny_pure (h _ ⟨_,g2,(Obj.cls_mapFields ..).trans ((Obj.cls_mapFields ..).trans hci),?_⟩ ((SameBut.update ..).trans (SameBut.update ..)))⟩;rw[d2];simp [rawInt]
theorem JQ {tp:Addr} {m p:Nat} {hx:Int} (hit:cY s.heap it (.ref tp) i a n ep) (ho:s.heap.get? a=some o) (hd:o.data=.set es ep t) (hf:t.fits es.size=true) (hn:es.size=n)
  (hot:s.heap.get? tp=some ot) (hdt:ot.data=.seq ps m) (hp:ps[i]?=some (.int p u)) (he:es[p]?=some (hx,x))
  (h:∀h',cY h' it (.ref tp) (i+1) a n ep->SameBut it s.heap h'->Q (some x) {s with heap:=h'}):wpAny (model prog w) A (pyNext (.ref it)) Q E s:=by
 obtain ⟨oi,hoi,hci,hdi⟩:=id hit;unfold pyNext;refine wpAny_bind (wpAny_attempt (wpAny_callSpecial?_slot (name:=Str.ofString "__next__") hit.type aT (wpAny_call_entry aT hit.type dG ?_ (dY _))));show wpAny _ _ (fieldsOf (.ref it) >>=_) _ _ s;refine wpAny_bind (wpAny_fieldsOf hoi hdi ?_);show wpAny _ _ (setEntries a >>=_) _ _ s;refine wpAny_bind (wpAny_setEntries_of ho hd hf ?_);rw[if_neg (by simp [hn])];show wpAny _ _ (seqItems? (.ref tp) >>=_) _ _ s;refine wpAny_bind (wpAny_seqItems hot hdt ?_);dsimp only;rw[toNat_natCast,hp];dsimp only;rw[toNat_natCast,toNat_natCast];unfold setNextDrawn;refine wpAny_bind (wpAny_bind (wpAny_setState_of ho hd hf ?_));dsimp only;rw[if_neg (by simp)];rw[he];refine wpAny_pure ?_;refine wpAny_bind (wpAny_setField hoi hdi (by simp) ?_);have g2:=get?_update_self (Obj.mapFields (·.setIfInBounds 1 (rawInt ((i:Int)+1)))) hoi (Obj.isFreed_of_fields (Obj.data_mapFields hdi _));have d2:=Obj.data_mapFields hdi (·.setIfInBounds 1 (rawInt ((i:Int)+1)));refine wpAny_pure ⟨x,rfl,wpAny_pure (h _ ⟨_,g2,(Obj.cls_mapFields ..).trans hci,?_⟩ (SameBut.update ..))⟩;rw[d2];simp [rawInt]
theorem DA {slot:Nat} (hh:A.handled=none) (hit:cY s.heap it (.int slot 0) i a n ep) (ho:s.heap.get? a=some o) (hd:o.data=.set es ep t) (hf:t.fits es.size=true) (hn:es.size=n)
  (hx:∀(A:Around) (E:Value->Shared->Prop) (Q':Option (Value × Nat)->Shared->Prop),Q' none s->wpAny (model prog w) A (setNext a slot i ep) Q' E s)
  (h:∀h',ExtBut it s.heap h'->Q none {s with heap:=h'}):wpAny (model prog w) A (pyNext (.ref it)) Q E s:=by
 obtain ⟨oi,hoi,hci,hdi⟩:=id hit;unfold pyNext;refine wpAny_bind (wpAny_attempt (wpAny_callSpecial?_slot (name:=Str.ofString "__next__") hit.type aT (wpAny_call_entry aT hit.type dG ?_ (dY _))));show wpAny _ _ (fieldsOf (.ref it) >>=_) _ _ s;refine wpAny_bind (wpAny_fieldsOf hoi hdi ?_);show wpAny _ _ (setEntries a >>=_) _ _ s;refine wpAny_bind (wpAny_setEntries_of ho hd hf ?_);rw[if_neg (by simp [hn])];show wpAny _ _ (setNext a (toNat (slot:Nat)) (toNat (i:Nat)) (toNat (ep:Nat)) >>=_) _ _ s;rw[toNat_natCast,toNat_natCast,toNat_natCast];refine wpAny_bind (hx _ _ _ ?_);dsimp only;refine wpAny_bind (wpAny_setField hoi hdi (by simp) ?_);show wpAny _ _ (newExc (.type "StopIteration") [] >>=_) _ _ _;refine wpAny_bind ?_;simp only [newExc,newTuple];refine wpAny_bind (wpAny_newObj_type ?_ (by size_fits));refine wpAny_bind (m:=firstArgMember _ _) (wpAny_of_eq (a:=Value.none) (by first|rfl|(simp only [firstArgMember];rfl)) ?_);refine wpAny_newObj_type ?_ (by size_fits);simp only [raiseNew];refine wpAny_bind (wpAny_handled ?_)
 first|rw[show A.in1.handled=none from hh]|rw[hh]
 refine wpAny_bind (wpAny_pure (wpAny_throw ?_));refine wpAny_bind (wpAny_isInstance (T:="StopIteration") (b:=true) ⟨_,get?_push_size _ rfl,rfl⟩ isSubtype_stop ?_);exact wpAny_pure (h _ (((SameBut.update ..).extBut.push _).push _))
theorem QR {tp:Addr} (hh:A.handled=none) (hit:cY s.heap it (.ref tp) i a n ep) (ho:s.heap.get? a=some o) (hd:o.data=.set es ep t) (hf:t.fits es.size=true) (hn:es.size=n)
  (hot:s.heap.get? tp=some ot) (hdt:ot.data=.seq ps m) (hp:ps[i]?=none)
  (h:∀h',ExtBut it s.heap h'->Q none {s with heap:=h'}):wpAny (model prog w) A (pyNext (.ref it)) Q E s:=by
 obtain ⟨oi,hoi,hci,hdi⟩:=id hit;unfold pyNext;refine wpAny_bind (wpAny_attempt (wpAny_callSpecial?_slot (name:=Str.ofString "__next__") hit.type aT (wpAny_call_entry aT hit.type dG ?_ (dY _))));show wpAny _ _ (fieldsOf (.ref it) >>=_) _ _ s;refine wpAny_bind (wpAny_fieldsOf hoi hdi ?_);show wpAny _ _ (setEntries a >>=_) _ _ s;refine wpAny_bind (wpAny_setEntries_of ho hd hf ?_);rw[if_neg (by simp [hn])];show wpAny _ _ (seqItems? (.ref tp) >>=_) _ _ s;refine wpAny_bind (wpAny_seqItems hot hdt ?_);dsimp only;rw[toNat_natCast,hp];dsimp only;refine wpAny_bind (wpAny_setField hoi hdi (by simp) ?_);have g1:=get?_update_self (Obj.mapFields (·.setIfInBounds 0 (rawInt 0))) hoi (Obj.isFreed_of_fields (Obj.data_mapFields hdi _));have d1:=Obj.data_mapFields hdi (·.setIfInBounds 0 (rawInt 0));refine wpAny_bind (wpAny_setField g1 d1 (by simp) ?_);show wpAny _ _ (newExc (.type "StopIteration") [] >>=_) _ _ _;refine wpAny_bind ?_;simp only [newExc,newTuple];refine wpAny_bind (wpAny_newObj_type ?_ (by size_fits));refine wpAny_bind (m:=firstArgMember _ _) (wpAny_of_eq (a:=Value.none) (by first|rfl|(simp only [firstArgMember];rfl)) ?_);refine wpAny_newObj_type ?_ (by size_fits);simp only [raiseNew];refine wpAny_bind (wpAny_handled ?_)
 first|rw[show A.in1.handled=none from hh]|rw[hh]
 refine wpAny_bind (wpAny_pure (wpAny_throw ?_));refine wpAny_bind (wpAny_isInstance (T:="StopIteration") (b:=true) ⟨_,get?_push_size _ rfl,rfl⟩ isSubtype_stop ?_);exact wpAny_pure (h _ ((((SameBut.update ..).trans (SameBut.update ..)).extBut.push _).push _))
end
section
variable {prog:Program} {w:World} {A:Around} {E:Value->Shared->Prop} {s:Shared}
theorem CH (hn:n≠0) (h:∀i d,i<n->Q i {s with drawn:=d}):wpAny (model prog w) A (choose src n) Q E s:=λΓ p hΓ=>by
 unfold choose;rw[Sem.wp_choose];exact ⟨hn,h _ _ (mod_lt _ (Nat.pos_of_ne_zero hn))⟩
theorem jQ:∀{l:List α} {i:Nat} (h:i<l.length),Perm (l[i]::l.eraseIdx i) l
 |_::_,0,_=>Perm.refl _
 |x::l,i+1,h=>(Perm.swap ..).trans ((jQ (l:=l) (i:=i) (by simpa using h)).cons x)
theorem tH:∀(n:Nat) (xs:List α) (s:Shared) (Q:List α->Shared->Prop),xs.length=n->(∀ys d,Perm ys xs->Q ys {s with drawn:=d})->wpAny (model prog w) A (drawOrder n xs) Q E s
 |0,xs,s,Q,hl,h=>by
  have e:xs=[]:=List.eq_nil_of_length_eq_zero hl;subst e;exact wpAny_pure (h [] s.drawn (Perm.refl _))
 |n+1,[],s,Q,hl,h=>nomatch hl
 |n+1,x::xs,s,Q,hl,h=>by
  unfold drawOrder;refine wpAny_bind (CH (by simp) λi d hi=>?_);rw[List.getElem?_eq_getElem hi];dsimp only;refine wpAny_bind (tH n _ _ _ (by rw[List.length_eraseIdx_of_lt hi];simpa using hl) λys d' hp=>?_);exact wpAny_pure (h _ d' ((Perm.cons _ hp).trans (jQ hi)))
theorem DF (next:Nat->Nat):∀(f k:Nat) (left:List α) (out:Array α),left.length=f->Perm (pickOrder.go next f k left out).toList (out.toList++left)
 |0,k,left,out,hl=>by
  have e:left=[]:=List.eq_nil_of_length_eq_zero hl;subst e;unfold pickOrder.go;rw[append_nil]
 |f+1,k,left,out,hl=>by
  unfold pickOrder.go;have hi:next k % left.length<left.length:=mod_lt _ (by lia);rw[List.getElem?_eq_getElem hi];dsimp only;refine (DF next f (k+1) _ _ (by rw[List.length_eraseIdx_of_lt hi];lia)).trans ?_;rw[Array.toList_push,List.append_assoc];exact (Perm.refl _).append (jQ hi)
theorem lV (next:Nat->Nat) (xs:Array α):Perm (pickOrder next xs).toList xs.toList:=by
 unfold pickOrder;exact DF next _ _ _ _ (by simp)
variable {a:Addr} {o:Obj} {es:Array (Int × Value)} {ep:Nat} {t:SetTable}
theorem iZ (h:Q (wX w) s):wpAny (model prog w) A setsByText Q E s:=by
 unfold setsByText;exact wpAny_bind (wpAny_askSetting (wpAny_pure h))
theorem xW (ho:s.heap.get? a=some o) (hd:o.data=.set es ep t) (hf:t.fits es.size=true) (h:Q (!wX w&&(!t.plain&&decide (es.size>1))) s):wpAny (model prog w) A (setDrawn a) Q E s:=by
 unfold setDrawn;refine wpAny_bind (wpAny_setState_of ho hd hf ?_);dsimp only;refine wpAny_bind (iZ ?_);exact wpAny_pure h
theorem kL (bt:wX w=true) (ho:s.heap.get? a=some o) (hd:o.data=.set es ep t) (hf:t.fits es.size=true)
  (h:Q (((pickOrder (w.params.setOrder a ep) es)[i]?).map λe=>(e.2,slot)) s):wpAny (model prog w) A (setNext a slot i ep) Q E s:=by
 unfold setNext;refine wpAny_bind (wpAny_setState_of ho hd hf ?_);dsimp only;refine wpAny_bind (iZ ?_);rw[bt];simp only [↓reduceIte,bne_self_eq_false,false_eq_true];refine wpAny_bind ?_;unfold setWalk;refine wpAny_bind (wpAny_setState_of ho hd hf ?_);dsimp only;refine wpAny_bind (iZ ?_);rw[bt];simp only [↓reduceIte];exact wpAny_bind (wpAny_askSetting (wpAny_pure (wpAny_pure h)))
theorem kM (bt:wX w=false) (h1:es.size<=1) (hl:t.led=true) (ho:s.heap.get? a=some o) (hd:o.data=.set es ep t) (hf:t.fits es.size=true)
  (h:Q (match es[SetTable.below t.place slot]?,t.place[SetTable.below t.place slot]? with
   |some (_,x),some j=>some (x,j+1)
   |_,_=>none) s):wpAny (model prog w) A (setNext a slot i ep) Q E s:=by
 obtain ⟨mk,pl,dm,fg,ld,mv,pn⟩:=t;cases hl;have hz:decide (es.size>1)=false:=decide_eq_false (by lia);unfold setNext;refine wpAny_bind (wpAny_setState_of ho hd hf ?_);dsimp only;refine wpAny_bind (iZ ?_);rw[bt];simp only [false_eq_true,↓reduceIte];split
 ·rename_i hc;have hc':(!pn&&decide (es.size>1))=true:=hc;rw[hz,Bool.and_false] at hc';cases hc'
 ·exact wpAny_bind (wpAny_of_eq (a:=()) rfl (wpAny_pure h))
end
section
variable {prog:Program} {w:World} {A:Around} {I a:Addr} {o:Obj} {es:Array (Int × Value)} {ep:Nat} {t:SetTable}
theorem cY.keep (hI:cY h it first i a n ep) (k:∀o,h.get? it=some o->h'.get? it=some o):cY h' it first i a n ep:=by
 obtain ⟨o,ho,r⟩:=hI;exact ⟨o,k o ho,r⟩
theorem FH (bt:wX w=true) (hh:A.handled=none) (hne:a≠I) (hd:o.data=.set es ep t) (hf:t.fits es.size=true):
  Walks prog w A I [I,a] [I] es.size (λi v=>((pickOrder (w.params.setOrder a ep) es).toList.map (·.2))[i]?=some v) (λi h=>cY h I (.int (0:Nat) 0) i a es.size ep/\h.get? a=some o) where
 sub:=λb hb=>by simp at hb;simp [hb]
 frame:=λ_ _ _ st hk=>⟨st.1.keep λo e=>hk I (by simp) o e,hk a (by simp) o st.2⟩
 item:=λi s Q E hi st hQ=>by
  have hl:(pickOrder (w.params.setOrder a ep) es).size=es.size:=by
   rw[<-length_toList,(lV _ es).length_eq,length_toList]
  have hi':i<(pickOrder (w.params.setOrder a ep) es).size:=by lia
  refine xR (x:=(pickOrder (w.params.setOrder a ep) es)[i].2) (nx:=0) st.1 st.2 hd hf rfl (λA' E' Q' q=>kL bt st.2 hd hf (by simpa [hi'] using q)) λh' hit' hs'=>?_;exact hQ _ h' s.toks (by simp [hi']) ⟨hit',by rw[hs'.2 a hne];exact st.2⟩ λb o hb e=>hs'.extBut b o (λh=>hb (by simp [h])) e
 done:=λs Q E st hQ=>by
  have hl:(pickOrder (w.params.setOrder a ep) es).size=es.size:=by
   rw[<-length_toList,(lV _ es).length_eq,length_toList]
  exact DA hh st.1 st.2 hd hf rfl (λA' E' Q' q=>kL bt st.2 hd hf (by rw[Array.getElem?_eq_none (by lia)];exact q)) λh' he'=>hQ h' s.toks λb o hb e=>he' b o (λh=>hb (by simp [h])) e
 self:=λi s Q E st hQ=>uU st.1 hQ
def slotAt (t:SetTable):Nat->Nat
 |0=>0
 |_+1=>t.place.getD 0 0+1
theorem tW (j:Nat):SetTable.below #[j] 0=0/\SetTable.below #[j] (j+1)=1:=by
 constructor<;>simp [SetTable.below,SetTable.below.go]
theorem IY (bt:wX w=false) (h1:es.size<=1) (hl:t.led=true) (hh:A.handled=none) (hne:a≠I) (hd:o.data=.set es ep t) (hf:t.fits es.size=true):
  Walks prog w A I [I,a] [I] es.size (λi v=>(es.toList.map (·.2))[i]?=some v) (λi h=>cY h I (.int (slotAt t i:Nat) 0) i a es.size ep/\h.get? a=some o) where
 sub:=λb hb=>by simp at hb;simp [hb]
 frame:=λ_ _ _ st hk=>⟨st.1.keep λo e=>hk I (by simp) o e,hk a (by simp) o st.2⟩
 item:=λi s Q E hi st hQ=>by
  have i0:i=0:=by lia
  subst i0;have hpl:t.place.size=es.size:=by
   simp only [SetTable.fits,and_eq_true,beq_iff_eq] at hf;exact hf.1
  obtain ⟨j,hj⟩:∃j,t.place=#[j]:=size_eq_one_iff.mp (by lia);obtain ⟨e,he⟩:∃e,es=#[e]:=size_eq_one_iff.mp (by lia);refine xR (x:=e.2) (nx:=j+1) st.1 st.2 hd hf rfl (λA' E' Q' q=>kM bt h1 hl st.2 hd hf (by
   show Q' (match es[SetTable.below t.place 0]?,t.place[SetTable.below t.place 0]? with
    |some (_,x),some j=>some (x,j+1)
    |_,_=>none) s
   rw[hj,(tW j).1,he]
   exact q)) λh' hit' hs'=>?_
  refine hQ _ h' s.toks (by simp [he]) ⟨?_,by rw[hs'.2 a hne];exact st.2⟩ λb o hb e=>hs'.extBut b o (λh=>hb (by simp [h])) e;have:slotAt t (0+1)=j+1:=by unfold slotAt;rw[hj];rfl
  rw[this];exact hit'
 done:=λs Q E st hQ=>by
  have hpl:t.place.size=es.size:=by
   simp only [SetTable.fits,and_eq_true,beq_iff_eq] at hf;exact hf.1
  refine DA hh st.1 st.2 hd hf rfl (λA' E' Q' q=>kM bt h1 hl st.2 hd hf ?_) λh' he'=>hQ h' s.toks λb o hb e=>he' b o (λh=>hb (by simp [h])) e;by_cases h0:es.size=0
  ·rw[Array.getElem?_eq_none (show es.size<=_ by lia)];exact q
  ·obtain ⟨j,hj⟩:∃j,t.place=#[j]:=size_eq_one_iff.mp (by lia);obtain ⟨e,he⟩:∃e,es=#[e]:=size_eq_one_iff.mp (by lia);have:slotAt t es.size=j+1:=by rw[he];unfold slotAt;rw[hj];rfl
   rw[this,hj,(tW j).2,he];exact q
 self:=λi s Q E st hQ=>uU st.1 hQ
theorem NJ {α β:Type} {f:α->Option β} {d:β}:∀(l:List α),(∀x∈l,(f x).isSome=true)->l.filterMap f=l.map λx=>(f x).getD d
 |[],_=>rfl
 |x::l,h=>by
  obtain ⟨y,hy⟩:=Option.isSome_iff_exists.mp (h x mem_cons_self);rw[List.filterMap_cons_some hy,map_cons,NJ l λz hz=>h z (mem_cons_of_mem _ hz),hy];rfl
theorem AJ {tp:Addr} (hh:A.handled=none) (hne:a≠I) (hnt:tp≠I) (hd:o.data=.set es ep t) (hf:t.fits es.size=true) (hdt:ot.data=.seq (ord.map λ(i:Nat)=>rawInt i).toArray m) (hp:Perm ord (range es.size)):
  Walks prog w A I [I,a,tp] [I] es.size (λi v=>(ord.filterMap λp=>es[p]?.map (·.2))[i]?=some v) (λi h=>cY h I (.ref tp) i a es.size ep/\h.get? a=some o/\h.get? tp=some ot) where
 sub:=λb hb=>by simp at hb;simp [hb]
 frame:=λ_ _ _ st hk=>⟨st.1.keep λo e=>hk I (by simp) o e,hk a (by simp) o st.2.1,hk tp (by simp) ot st.2.2⟩
 item:=λi s Q E hi st hQ=>by
  have hl:ord.length=es.size:=by rw[hp.length_eq,length_range]
  have hlt:∀p∈ord,p<es.size:=λp hp'=>mem_range.mp (hp.mem_iff.mp hp');have hi':i<ord.length:=by lia
  have hpi:=hlt _ (getElem_mem hi');have hfm:ord.filterMap (λp=>es[p]?.map (·.2))=ord.map λp=>(es[p]?.map (·.2)).getD .none:=NJ _ λp hp'=>by simp [hlt p hp']
  refine JQ (x:=es[ord[i]].2) (hx:=es[ord[i]].1) (p:=ord[i]) (u:=0) st.1 st.2.1 hd hf rfl st.2.2 hdt (by simp [hi',rawInt]) (by simp [hpi]) λh' hit' hs'=>?_;exact hQ _ h' s.toks (by rw[hfm];simp [hi',hpi]) ⟨hit',by rw[hs'.2 a hne];exact st.2.1,by rw[hs'.2 tp hnt];exact st.2.2⟩ λb o hb e=>hs'.extBut b o (λh=>hb (by simp [h])) e
 done:=λs Q E st hQ=>by
  have hl:ord.length=es.size:=by rw[hp.length_eq,length_range]
  exact QR hh st.1 st.2.1 hd hf rfl st.2.2 hdt (by simp [hl]) λh' he'=>hQ h' s.toks λb o hb e=>he' b o (λh=>hb (by simp [h])) e
 self:=λi s Q E st hQ=>uU st.1 hQ
end
section
variable {prog:Program} {w:World} {A:Around} {E:Value->Shared->Prop} {s:Shared}
theorem gW (hel:ElemsOf (PySem.strKind prog w) es.toList) (hp:Perm ys (es.toList.map (·.2))):ys.length=(cG es).length/\StrsAre ys (ys.map PyProof.Rows.strOf)/\Perm (ys.map PyProof.Rows.strOf) (cG es):=by
 refine ⟨by rw[hp.length_eq];unfold cG;rw[length_map,length_map],strsAre_map ys λv hv=>?_,?_⟩
 ·obtain ⟨e,he,rfl⟩:=mem_map.mp (hp.mem_iff.mp hv);obtain ⟨⟨k,hk,_⟩,_⟩:=hel e he;obtain ⟨u,hu⟩:=Value.isStrOf_shape hk;exact ⟨k,u,hu⟩
 ·have:=hp.map PyProof.Rows.strOf;rw[map_map] at this;exact this
theorem FT (hS:eW prog w (wX w) s.heap a zs)
  (h:∀(I:Addr) (s':Shared) (fp:List Addr) (ys:List Value) (St:Nat->Heap->Prop),(∀A':Around,A'.handled=none->Walks prog w A' I fp [I] zs.length (λi v=>ys[i]?=some v) St)->St 0 s'.heap->
   (∀b o,s.heap.get? b=some o->s'.heap.get? b=some o)->s.heap.objs.size<=I->(∀b∈fp,b=a\/s.heap.objs.size<=b)->ys.length=zs.length->StrsAre ys (ys.map PyProof.Rows.strOf)->Perm (ys.map PyProof.Rows.strOf) zs->
   s'.gens=s.gens->s'.os=s.os->s'.toks=s.toks->Q (.ref I) s'):
  wpAny (model prog w) A (pyIter (.ref a)) Q E s:=by
 obtain ⟨o,es,ep,t,ho,hex,hd,hel,rfl,nd,hb,hf,hl,hp⟩:=hS;have hT:s.TypeIs (.ref a) "set":=⟨o,ho,hex.1⟩;have hlen:(cG es).length=es.size:=by unfold cG;rw[length_map,length_toList]
 have alt:a<s.heap.objs.size:=lt_size ho;refine wpAny_pyIter_slot hT PySem.F.slot_set_iter (wpAny_call_entry PySem.F.slot_set_iter hT qP ?_ (PySem.F.args_set_iter_1 _));unfold Builtin.«frozenset.__iter__» Builtin.Frozenset.slot0 slotArgs;simp only [List.isEmpty_nil,Bool.not_true,false_eq_true,↓reduceIte,bind_assoc,length_nil,bne_self_eq_false];unfold Builtin.Frozenset.addrOf Builtin.Frozenset.sizeOf;refine wpAny_bind (wpAny_pure ?_)
 try dsimp only
 refine wpAny_bind (wpAny_pure ?_);refine wpAny_bind (wpAny_bind (wpAny_setEntries_of ho hd hf (wpAny_pure ?_)));refine wpAny_bind (xW ho hd hf ?_);split
 ·refine wpAny_bind (tH es.size (range es.size) s _ length_range λord d hpo=>?_);have hol:ord.length=es.size:=by rw[hpo.length_eq,length_range]
  refine wpAny_bind (wpAny_newTuple ?_ (by rw[length_map,hol];exact fits_of_scanBound hb));refine wpAny_bind (wpAny_setEpoch_of (get?_push_of_some _ ho) hd hf ?_);refine wpAny_bind (wpAny_newObj_type ?_);refine wpAny_pure ⟨_,rfl,"set_iterator",_,⟨_,get?_push_size _ rfl,rfl⟩,aT.lookup,?_⟩;have pm:Perm (ord.filterMap λp=>es[p]?.map (·.2)) (es.toList.map (·.2)):=by
   have z:=hpo.filterMap λp=>es[p]?.map (·.2);rw[<-List.map_filterMap,<-List.map_filterMap,filterMap_getElem?_range] at z;rwa [<-List.map_filterMap]
  obtain ⟨q1,q2,q3⟩:=gW hel pm;refine h (s.heap.push ({cls:=.type "tuple",data:=.seq (ord.map λ(i:Nat)=>rawInt i).toArray}:Obj)).objs.size _ [(s.heap.push ({cls:=.type "tuple",data:=.seq (ord.map λ(i:Nat)=>rawInt i).toArray}:Obj)).objs.size,a,s.heap.objs.size] _ (λi h=>cY h (s.heap.push ({cls:=.type "tuple",data:=.seq (ord.map λ(i:Nat)=>rawInt i).toArray}:Obj)).objs.size (.ref s.heap.objs.size) i a es.size ep/\h.get? a=some o/\h.get? s.heap.objs.size=some ({cls:=.type "tuple",data:=.seq (ord.map λ(i:Nat)=>rawInt i).toArray}:Obj)) (λA' hh'=>?_) ⟨⟨_,get?_push_size _ rfl,rfl,rfl⟩,get?_push_of_some _ (get?_push_of_some _ ho),get?_push_of_some _ (get?_push_size _ rfl)⟩ (λb o e=>get?_push_of_some _ (get?_push_of_some _ e)) ?_ (λb hb'=>?_) q1 q2 q3 rfl rfl rfl
  ·rw[hlen];exact AJ hh' (by rw[Heap.size_push];exact ne_of_lt (Nat.lt_succ_of_lt alt)) (by rw[Heap.size_push];exact ne_of_lt (lt_succ_self _)) hd hf rfl hpo
  ·rw[Heap.size_push];exact le_succ _
  ·rcases mem_cons.mp hb' with rfl|hb'
   ·exact .inr (by rw[Heap.size_push];exact le_succ _)
   ·rcases mem_cons.mp hb' with rfl|hb'
    ·exact .inl rfl
    ·rw[mem_singleton.mp hb'];exact .inr (Nat.le_refl _)
 ·rename_i hc;refine wpAny_bind (wpAny_pure ?_);refine wpAny_bind (wpAny_setEpoch_of ho hd hf ?_);refine wpAny_bind (wpAny_newObj_type ?_);refine wpAny_pure ⟨_,rfl,"set_iterator",_,⟨_,get?_push_size _ rfl,rfl⟩,aT.lookup,?_⟩;have fps:∀b∈[s.heap.objs.size,a],b=a\/s.heap.objs.size<=b:=λb hb'=>by
   rcases mem_cons.mp hb' with rfl|hb'
   ·exact .inr (Nat.le_refl _)
   ·exact .inl (mem_singleton.mp hb')
  cases bt:wX w with
  |true=>
   obtain ⟨q1,q2,q3⟩:=gW hel ((lV (w.params.setOrder a ep) es).map (·.2));refine h s.heap.objs.size _ [s.heap.objs.size,a] _ (λi h=>cY h s.heap.objs.size (.int (0:Nat) 0) i a es.size ep/\h.get? a=some o) (λA' hh'=>?_) ⟨⟨_,get?_push_size _ rfl,rfl,rfl⟩,get?_push_of_some _ ho⟩ (λb o e=>get?_push_of_some _ e) (Nat.le_refl _) fps q1 q2 q3 rfl rfl rfl;rw[hlen];exact FH bt hh' (ne_of_lt alt) hd hf
  |false=>
   have h1:es.size<=1:=by
    rw[bt] at hc;by_cases z:es.size<=1
    ·exact z
    ·rw[hp (by lia),decide_eq_true (show es.size>1 by lia)] at hc;exact absurd rfl hc
   obtain ⟨q1,q2,q3⟩:=gW hel (Perm.refl _);refine h s.heap.objs.size _ [s.heap.objs.size,a] _ (λi h=>cY h s.heap.objs.size (.int (slotAt t i:Nat) 0) i a es.size ep/\h.get? a=some o) (λA' hh'=>?_) ⟨⟨_,get?_push_size _ rfl,rfl,rfl⟩,get?_push_of_some _ ho⟩ (λb o e=>get?_push_of_some _ e) (Nat.le_refl _) fps q1 q2 q3 rfl rfl rfl;rw[hlen];exact IY bt h1 (by rw[hl,bt];rfl) hh' (ne_of_lt alt) hd hf
theorem JR (hT:s.TypeIs (.ref a) "set") (h:Q false s):wpAny (model prog w) A (Builtin.List.listLengthHint (.ref a)) Q E s:=by
 unfold Builtin.List.listLengthHint;refine wpAny_bind (wpAny_specialOf hT PySem.F.slot_set_len.lookup ?_);generalize hid:("set.__len__":String)=id0
 wp_delta
 rw[show splitId id0=some ("set","__len__") from by subst hid;decide+kernel];subst hid;refine wpAny_bind (wpAny_isInstance (b:=true) hT (by rw[isSubtype_type];kernel_rfl) ?_);refine wpAny_ite_split (λz=>absurd z (by decide)) (λ_=>?_);refine wpAny_ite_split (λ_=>?_) (λz=>absurd (by decide+kernel) z);exact wpAny_bind (wpAny_typeOf hT (wpAny_pure h))
theorem eW.type {bt:Bool} (hS:eW prog w bt s.heap a zs):s.TypeIs (.ref a) "set":=by
 obtain ⟨o,_,_,_,ho,hex,_⟩:=hS;exact ⟨o,ho,hex.1⟩
theorem uY (hh:A.handled=none) (hS:eW prog w (wX w) s.heap a zs) (hn:zs.length<=sizeLine)
  (h:∀(s':Shared) (ys:List Value),(∀b o,s.heap.get? b=some o->s'.heap.get? b=some o)->s.heap.objs.size<=s'.heap.objs.size->StrsAre ys (ys.map PyProof.Rows.strOf)->Perm (ys.map PyProof.Rows.strOf) zs->s'.gens=s.gens->s'.os=s.os->Q ys s'):
  wpAny (model prog w) A (collect (.ref a)) Q E s:=by
 have alt:a<s.heap.objs.size:=by
  obtain ⟨o,_,_,_,ho,_⟩:=hS;exact lt_size ho
 unfold collect;refine wpAny_bind (wpAny_runValue (codeAny_builtin entry_proto_collect' ?_));rw[Around.under_plainId PySem.F.plain_proto_collect _];show wpAny _ A.in1 (newList [] >>=λl=>again (.builtin "list.__iadd__" ⟨[l,.ref a],[]⟩)) _ _ s;refine wpAny_bind (wpAny_newObj_type ?_);refine wpAny_pure ⟨plainId_quiet PySem.F.plain_list_iadd _,codeAny_builtin entry_list_iadd' ?_⟩;rw[Around.under_plainId PySem.F.plain_list_iadd _];have g1:(s.heap.push {cls:=.type "list",data:=.seq ([]:List Value).toArray}).get? s.heap.objs.size=some {cls:=.type "list",data:=.seq #[]}:=get?_push_size _ rfl;have hS1:eW prog w (wX w) (s.heap.push {cls:=.type "list",data:=.seq ([]:List Value).toArray}) a zs:=hS.keep λo e=>get?_push_of_some _ e;show wpAny _ A.in1 (Builtin.List.listExtendWith (.ref s.heap.objs.size) (.ref a) (.ref s.heap.objs.size)) _ _ _;unfold Builtin.List.listExtendWith;refine wpAny_bind (wpAny_typeOf (T:="set") hS1.type ?_);have n1:Builtin.List.listSameRef (.ref s.heap.objs.size) (.ref a)=false:=by simp [Builtin.List.listSameRef,ne_of_gt alt]
 have n2:(Value.type "set"==Value.type "list")=false:=by decide
 have n3:(Value.type "set"==Value.type "tuple")=false:=by decide
 simp only [n1,n2,n3,Bool.or_false,false_eq_true,if_false];refine wpAny_bind (FT (s:={s with heap:=s.heap.push {cls:=.type "list",data:=.seq ([]:List Value).toArray}}) hS1 λI s2 fp ys St W st kp hI hfp q1 q2 q3 eg eo et=>?_);have g2:=kp _ _ g1;have hI1:s.heap.objs.size<I:=by
  have:(s.heap.push {cls:=.type "list",data:=.seq ([]:List Value).toArray}).objs.size<=I:=hI;rw[Heap.size_push] at this;exact this
 have hSf:s.heap.objs.size∉fp:=λz=>by
  rcases hfp _ z with e|e
  ·exact absurd e (ne_of_gt alt)
  ·have e':(s.heap.push {cls:=.type "list",data:=.seq ([]:List Value).toArray}).objs.size<=s.heap.objs.size:=e;rw[Heap.size_push] at e';exact absurd e' (Nat.not_le.mpr (lt_succ_self _))
 have hh2:A.in1.handled=none:=by simp [hh]
 have key:∀(h:Heap) (c:Nat),St 0 h->(∀b o,b≠s.heap.objs.size->s2.heap.get? b=some o->h.get? b=some o)->h.get? s.heap.objs.size=some {cls:=.type "list",data:=.seq #[] c}->
   codeAny (model prog w) A (.builtin "list.extend.loop" ⟨[.ref s.heap.objs.size,.ref I,.ref s.heap.objs.size],[]⟩) (λr s'=>match r with
    | .ok (.ret v)=>wpAny (model prog w) A (match v with
     | .ref a=>do
      let o <-load a
      match o.data with
      | .seq xs _=>pure xs.toList
      |_=>unsupported "internal:collect"
     |_=>unsupported "internal:collect") Q E s'
    | .ok _=>False
    | .error e=>E e s') {s2 with heap:=h}:=λh3 c st3 k3 g3=>by
  refine codeAny_extend_loopS ((W _ hh2).toS) hn s.heap.objs.size hSf (.ref s.heap.objs.size) zs.length 0 _ #[] c rfl (zero_le _) st3 g3 (ItemsOf.nil _) λs4 acc c4 mv g4 ac=>?_;dsimp only;refine wpAny_bind (wpAny_load g4 ?_);dsimp only;have ea:acc.toList=ys:=by
   refine ext_getElem? λj=>?_;by_cases hj:j<acc.size
   ·have z:=ac.2 j acc[j] (by simp [hj]);rw[z];simp [hj]
   ·have e1:acc.size=zs.length:=ac.1;rw[List.getElem?_eq_none (by simpa using hj),List.getElem?_eq_none (by lia)]
  rw[ea];refine wpAny_pure (h s4 ys (λb o e=>?_) (le_of_lt (lt_size g4)) q2 q3 (mv.gens.trans eg) (mv.os.trans eo));have b1:=lt_size e;refine mv.heap b o (by simp only [mem_cons,not_mem_nil,or_false,not_or];exact ⟨ne_of_lt b1,ne_of_lt (lt_trans b1 hI1)⟩) (k3 b o (ne_of_lt b1) (kp b o (get?_push_of_some _ e)))
 refine wpAny_bind (wpAny_holding (JR (eW.type (hS1.keep λo e=>kp _ _ e)) ?_));refine wpAny_ite_split (λ_=>?_) (λ_=>wpAny_pure ⟨plainId_quiet PySem.F.plain_extend_loop _,key _ _ st (λb o _ e=>e) g2⟩);refine wpAny_bind (wpAny_rule ?_);refine wpAny_bind ?_;show wpAny _ _ (updateSeq s.heap.objs.size (·.push .none) >>=λ_=>updateSeq s.heap.objs.size (·.pop)) _ _ _;refine wpAny_bind (wpAny_updateSeq g2 rfl ?_);have g5:=get?_update_self (Obj.mapSeq (·.push Value.none)) g2 rfl;refine wpAny_updateSeq (hz:=by seq_fits) g5 rfl ?_;have g6:=get?_update_self (Obj.mapSeq (·.pop)) g5 rfl;have oth:∀b o,b≠s.heap.objs.size->s2.heap.get? b=some o->((s2.heap.update s.heap.objs.size (Obj.mapSeq (·.push Value.none))).update s.heap.objs.size (Obj.mapSeq (·.pop))).get? b=some o:=λb o hb e=>
  (get?_update_other _ _ (Ne.symm hb)).trans ((get?_update_other _ _ (Ne.symm hb)).trans e)
 exact wpAny_pure ⟨plainId_quiet PySem.F.plain_extend_loop _,key _ _ ((W _ hh2).frame 0 _ _ st λb hb o e=>oth b o (λz=>hSf (z▸hb)) e) oth g6⟩
theorem xV (hh:A.handled=none) (hS:eW prog w (wX w) s.heap a zs) (h64:zs.length<64)
  (h:∀(s':Shared) (D:Addr) (vs:List Value) (ss:List Str) (e:Nat),(∀b o,s.heap.get? b=some o->s'.heap.get? b=some o)->s.heap.objs.size<=D->s'.heap.get? D=some (seqObj "list" vs.toArray e)->StrsAre vs ss->Perm ss zs->sortedS ss=true->
   s'.gens=s.gens->s'.os=s.os->Q (.ref D) s'):wpAny (model prog w) A (call (.builtin "sorted") [.ref a]) Q E s:=by
 have hn:zs.length<=sizeLine:=by rw[sizeLine_eq];lia
 refine Calls.call_function_entry kind_sorted plain_sorted entry_sorted (args_sorted1 _) ?_;unfold Builtin.«sorted»;refine wpAny_bind (m:=checkCount "sorted" 1 1 _) (wpAny_pure ?_);refine wpAny_bind (uY (A:=A.in1) (by simp [hh]) hS hn λs1 ys k1 le q2 q3 eg eo=>?_);have hl:ys.length=zs.length:=by rw[<-q3.length_eq,length_map]
 refine wpAny_bind (wpAny_newList ?_ (by rw[hl];exact hn));have hoL:(s1.heap.push (seqObj "list" ys.toArray 0)).get? s1.heap.objs.size=some (seqObj "list" ys.toArray 0):=get?_push_size _ rfl;show wpAny _ _ _ _ _ {s1 with heap:=s1.heap.push (seqObj "list" ys.toArray 0)};refine wpAny_bind (wpAny_holding (wpAny_call_entry slot_list_sort ⟨_,hoL,rfl⟩ entry_list_sort (list_sort_treeK strKind_oneLt hoL q2.keysOf (λbu bw rest e=>keyKind_strs (by rw[<-e];exact q2)) (by lia) λst' a1 a2=>⟨_,rfl,?_⟩) (args_list_sort _)));obtain ⟨ss,b1,b2,b3⟩:=sorted_out_str q2 a1 a2;obtain ⟨e,he⟩:=sortedHeap_at (out:=(arrOf st').map (·.2)) hoL;refine wpAny_pure ⟨_,rfl,h _ s1.heap.objs.size ((arrOf st').map (·.2)).toList ss e (λb o z=>?_) le ?_ b1 (b2.trans q3) b3 eg eo⟩
 ·have lt:=lt_size (k1 b o z);show (sortedHeap _ _ _ _).get? b=some o;rw[sortedHeap_old (ne_of_lt lt) (by rw[Heap.size_push];exact Nat.lt_succ_of_lt lt)];exact get?_push_of_some _ (k1 b o z)
 ·rw[Array.toArray_toList];exact he
end
end L2.Na
namespace L2.L3
open PySem PySem.Spec PyProof.Rows
def sgn (c:Nat):V:=.str ⟨#[c]⟩
def Dc (z:Str):It:=⟨λi _=>i<z.cps.size,λi H x H'=>H'=H/\∃c,z.cps[i]?=some c/\x=sgn c,λi _=>z.cps.size<=i⟩
theorem JF {P:Program} {w:World} {K:Fg} {tg:Expr} (z:Str) (t:Tok) (it:Addr) (T:String) (hT:T="str_ascii_iterator"\/T="str_iterator"):
  Turn P w K tg (Dc z) [it] it (λi h=>h.IsStrIter it T z t i) where
 mem:=by simp
 obj:=λi h st b hb=>by
  have e:b=it:=by simpa using hb
  subst e;obtain ⟨o,e,c,d⟩:=st;exact ⟨o,e,λv z=>by rw[d] at z;cases z⟩
 keep:=λi h h' st k=>by
  obtain ⟨o,e,c,d⟩:=st;exact ⟨o,k it (by simp) o e,c,d⟩
 item:=by
  intro X hP hw hK hc i pins s σ H E I hf st hg;subst hP hw hK;obtain ⟨f0,f1,f2,f3,f4,f5⟩:=hf it (by simp);have hi:i<z.cps.size:=hg;rcases hT with rfl|rfl
  ·refine wpAny_pyNext_ascii_item st (c:=z.cps[i]) (by simp [hi]) λh' st' sb=>?_;have I1:Inv X pins σ H {s with heap:=h',toks:=s.toks+1}:=I.turned (λb o hb e=>(sb.2 b hb).trans e) f0 f1 f3 f4 f5;obtain ⟨o,e,c,d⟩:=id st';exact ⟨_,rfl,qJ (s:={s with heap:=h',toks:=s.toks+1}) e c d (by decide) ⟨sgn z.cps[i],H,I1,⟨_,rfl⟩,⟨rfl,_,by simp [hi],rfl⟩,st',λb hb=>(hf b hb).1⟩⟩
  ·refine wpAny_pyNext_wide_item st (c:=z.cps[i]) (by simp [hi]) λh' st' sb=>?_;have I1:Inv X pins σ H {s with heap:=h',toks:=s.toks+1}:=I.turned (λb o hb e=>(sb.2 b hb).trans e) f0 f1 f3 f4 f5;obtain ⟨o,e,c,d⟩:=id st';exact ⟨_,rfl,qJ (s:={s with heap:=h',toks:=s.toks+1}) e c d (by decide) ⟨sgn z.cps[i],H,I1,⟨_,rfl⟩,⟨rfl,_,by simp [hi],rfl⟩,st',λb hb=>(hf b hb).1⟩⟩
 done:=by
  intro X hP hw hK hc i pins s σ H E I hf st hg;subst hP hw hK;obtain ⟨f0,f1,f2,f3,f4,f5⟩:=hf it (by simp);have hi:z.cps.size<=i:=hg;rcases hT with rfl|rfl
  ·exact wpAny_pyNext_ascii_end (I.ok.hd hc) st (by simp [hi]) λh' eb=>⟨rfl,I.turned (t':=s.toks) (λb o hb e=>eb b o hb e) f0 f1 f3 f4 f5⟩
  ·exact wpAny_pyNext_wide_end (I.ok.hd hc) st (by simp [hi]) λh' eb=>⟨rfl,I.turned (t':=s.toks) (λb o hb e=>eb b o hb e) f0 f1 f3 f4 f5⟩
 self:=λ_ _ _ _ _ st h=>by
  rcases hT with rfl|rfl
  ·exact wpAny_pyIter_striter_ascii st h
  ·exact wpAny_pyIter_striter_wide st h
structure Yl (J:It) (P:Hp->Prop) (items:List V):Prop where
 go:∀i H,P H->i<items.length->J.go i H
 yld:∀i H x H',P H->i<items.length->J.yld i H x H'->H'=H/\items[i]?=some x
 stop:∀H,P H->J.stop items.length H
theorem dW {K:Fg} {a:Addr} {xs:List V}:Yl (VA K a) (λH=>aP K H a xs) xs where
 go:=λi H p h=>⟨xs,xs[i],p,by simp [h]⟩
 yld:=λi H x H' p _ h=>⟨h.1,h.2 xs p⟩
 stop:=λH p=>⟨xs,p,Nat.le_refl _⟩
theorem WR {K:Fg} {a:Addr} {xs:List V}:Yl (Jq K a) (λH=>cZ K H a xs) xs where
 go:=λi H p h=>⟨xs,xs[i],p,by simp [h]⟩
 yld:=λi H x H' p _ h=>⟨h.1,h.2 xs p⟩
 stop:=λH p=>⟨xs,p,Nat.le_refl _⟩
def FZ (lo:Int) (n:Nat):List V:=(range n).map λi=>.int (lo+(i:Nat))
theorem iA (lo:Int) (n:Nat):(FZ lo n).length=n:=by unfold FZ;rw[length_map,length_range]
theorem JV {lo:Int} {n i:Nat} (h:(FZ lo n)[i]?=some x):i<n/\x=.int (lo+(i:Nat)):=by
 unfold FZ at h;rw[getElem?_map] at h;by_cases hi:i<n
 ·rw[getElem?_range hi] at h;exact ⟨hi,(Option.some.inj h).symm⟩
 ·rw[List.getElem?_eq_none_iff.mpr (by rw[length_range];lia)] at h;cases h
theorem WS {lo:Int} {n:Nat}:Yl (II lo n) (λ_=>True) (FZ lo n) where
 go:=λi H _ h=>by rw[iA] at h;exact h
 yld:=λi H x H' _ hi h=>⟨h.1,by
  have e:x=.int (lo+(i:Nat)):=h.2
  rw[iA] at hi
  rw[e]
  unfold FZ
  rw[getElem?_map,getElem?_range hi]
  rfl⟩
 stop:=λH _=>by rw[iA];exact Nat.le_refl _
def jB (z:Str):List V:=z.cps.toList.map sgn
theorem eJ (z:Str):(jB z).length=z.cps.size:=by unfold jB;rw[length_map,length_toList]
theorem IS:Yl (Dc z) (λ_=>True) (jB z) where
 go:=λi H _ h=>by rw[eJ] at h;exact h
 yld:=λi H x H' _ hi h=>by
  obtain ⟨e,c,h1,h2⟩:=h;refine ⟨e,?_⟩;unfold jB;rw[getElem?_map,h2];have q:z.cps.toList[i]?=some c:=by simpa using h1
  rw[q];rfl
 stop:=λH _=>by rw[eJ];exact Nat.le_refl _
theorem NH {J:It} {P:Hp->Prop} {xs:List V} {g:TG} {tb:TS} {D:Ends} {σ:St} {H:Hp} (Y:Yl J P xs) (Pv:Nat->St->Hp->Prop) (h0:Pv 0 σ H) (hl:∀i σ H,i<=xs.length->Pv i σ H->P H)
  (hs:∀i x σ H,xs[i]?=some x->Pv i σ H->g x σ H λσ2 H2=>tb {D with nx:=Pv (i+1),ct:=Pv (i+1),bk:=D.nx} σ2 H2) (hd:∀σ H,Pv xs.length σ H->D.nx σ H):
  ∃W:Nat->Nat->St->Hp->Prop,(∃m,W 0 m σ H)/\∀i m σ H,W i m σ H->
   (J.stop i H/\D.nx σ H)\/(J.go i H/\∃N:St->Hp->Prop,(∀σ' H',N σ' H'->∃m',m'<m/\W (i+1) m' σ' H')/\∀x H',J.yld i H x H'->g x σ H' λσ2 H2=>tb {D with nx:=N,ct:=N,bk:=D.nx} σ2 H2):=by
 refine ⟨λi m σ H=>m=xs.length - i/\i<=xs.length/\Pv i σ H,⟨xs.length,by simp,zero_le _,h0⟩,?_⟩;rintro i m σ H ⟨rfl,hi,p⟩;have q:=hl i σ H hi p;by_cases hlt:i<xs.length
 ·refine .inr ⟨Y.go i H q hlt,Pv (i+1),λσ' H' p'=>⟨xs.length - (i+1),by lia,rfl,hlt,p'⟩,λx H' y=>?_⟩;obtain ⟨e,hx⟩:=Y.yld i H x H' q hlt y;subst e;exact hs i x σ H' hx p
 ·have e:i=xs.length:=by lia
  subst e;exact .inl ⟨Y.stop H q,hd σ H p⟩
theorem NI {J:It} {P:Hp->Prop} {xs:List V} {g:TG} {tb:TS} {D:Ends} {σ:St} {H:Hp} (Y:Yl J P xs) (hP:∀H',aC H H'->P H') (S:Nat->St->Prop) (h0:S 0 σ)
  (hs:∀i x σ1 H1,xs[i]?=some x->S i σ1->aC H H1->g x σ1 H1 λσ2 H2=>tb {D with nx:=λσ3 H3=>S (i+1) σ3/\aC H H3,ct:=λσ3 H3=>S (i+1) σ3/\aC H H3,bk:=D.nx} σ2 H2) (hd:∀σ1 H1,S xs.length σ1->aC H H1->D.nx σ1 H1):
  ∃W:Nat->Nat->St->Hp->Prop,(∃m,W 0 m σ H)/\∀i m σ H,W i m σ H->
   (J.stop i H/\D.nx σ H)\/(J.go i H/\∃N:St->Hp->Prop,(∀σ' H',N σ' H'->∃m',m'<m/\W (i+1) m' σ' H')/\∀x H',J.yld i H x H'->g x σ H' λσ2 H2=>tb {D with nx:=N,ct:=N,bk:=D.nx} σ2 H2):=
 NH Y (λi σ1 H1=>S i σ1/\aC H H1) ⟨h0,aC.refl _⟩ (λ_ _ H1 _ p=>hP H1 p.2) (λi x σ1 H1 hx p=>hs i x σ1 H1 hx p.1 p.2) λσ1 H1 p=>hd σ1 H1 p.1 p.2
def zP (names:List (Str × NameKind)) (env:Env):List (Str × Addr):=((names.filter λx=>x.2==.free).filterMap λx=>(env.cells.lookup x.1).map λc=>(x.1,c)).reverse
theorem OA {env:Env} (h:(x,c)∈zP names env):env.cells.lookup x=some c:=by
 obtain ⟨y,hy,e⟩:=mem_filterMap.mp (List.mem_reverse.mp h);cases q:env.cells.lookup y.1 with
 |none=>rw[q] at e;cases e
 |some d=>
  rw[q] at e;have e':(y.1,d)=(x,c):=Option.some.inj e;cases e';exact q
theorem mZ {env:Env} (h:(zP names env).lookup x=some c):env.cells.lookup x=some c:=OA (PySem.mem_of_lookup h)
theorem OB {env:Env} (h:names.lookup x=some .free) (e:env.cells.lookup x=some c):(zP names env).lookup x=some c:=by
 have hm:(x,c)∈zP names env:=List.mem_reverse.mpr (mem_filterMap.mpr ⟨(x,.free),mem_filter.mpr ⟨PySem.mem_of_lookup h,rfl⟩,by rw[e];rfl⟩);cases q:(zP names env).lookup x with
 |none=>
  have z:=List.lookup_eq_none_iff.mp q _ hm;simp at z
 |some d=>
  have z:=mZ q;rw[e] at z;exact z.symm
theorem kP {env:Env}:∀{names:List (Str × NameKind)} {x:Str},env.scope.kind=.function->names.lookup x=some .free->env.kindOf x=some .cell->
  (names.map λ(n,k)=>if (k==NameKind.free&&env.scope.kind==.function&&env.kindOf n==some .cell) then (n,NameKind.cell) else (n,k)).lookup x=some .cell
 |[],_,_,h,_=>by simp at h
 | (n,k)::r,x,hk,h,hc=>by
  by_cases hx:x=n
  ·subst hx;rw[lookup_cons_self] at h;cases h;rw[map_cons];dsimp only;rw[if_pos (by rw[hk,hc];rfl)];exact lookup_cons_self
  ·have hb:(x==n)=false:=beq_eq_false_iff_ne.mpr hx;rw[lookup_cons,hb] at h;have ih:=kP (names:=r) hk h hc;rw[map_cons];dsimp only;by_cases c:(k==NameKind.free&&env.scope.kind==.function&&env.kindOf n==some .cell)=true
   ·rw[if_pos c,lookup_cons,hb];exact ih
   ·rw[if_neg c,lookup_cons,hb];exact ih
theorem gI {env:Env}:∀{names:List (Str × NameKind)} {x:Str} {k:NameKind},(names.map λ(n,k)=>if (k==NameKind.free&&env.scope.kind==.function&&env.kindOf n==some .cell) then (n,NameKind.cell) else (n,k)).lookup x=some k->
  names.lookup x=some k\/(k=.cell/\names.lookup x=some .free)
 |[],_,_,h=>by simp at h
 | (n,k')::r,x,k,h=>by
  rw[map_cons] at h;dsimp only at h;by_cases hx:x=n
  ·subst hx;rw[lookup_cons_self];by_cases c:(k'==NameKind.free&&env.scope.kind==.function&&env.kindOf x==some .cell)=true
   ·rw[if_pos c,lookup_cons_self] at h;cases h;have z:k'=.free:=by
     rw[and_eq_true,and_eq_true] at c;exact beq_iff_eq.mp c.1.1
    exact .inr ⟨rfl,by rw[z]⟩
   ·rw[if_neg c,lookup_cons_self] at h;exact .inl h
  ·have hb:(x==n)=false:=beq_eq_false_iff_ne.mpr hx;have h':(r.map λ(n,k)=>if (k==NameKind.free&&env.scope.kind==.function&&env.kindOf n==some .cell) then (n,NameKind.cell) else (n,k)).lookup x=some k:=by
    by_cases c:(k'==NameKind.free&&env.scope.kind==.function&&env.kindOf n==some .cell)=true
    ·rw[if_pos c,lookup_cons,hb] at h;exact h
    ·rw[if_neg c,lookup_cons,hb] at h;exact h
   rw[lookup_cons,hb];exact gI h'
theorem bL:∀(names:List (Str × NameKind)) (n:Nat) (acc:List (Str × Addr)),cellsFrom n names acc=cellsFrom n names []++acc
 |[],_,_=>rfl
 | (name,kind)::r,n,acc=>by
  unfold cellsFrom;split
  ·rw[bL r (n+1) ((name,n)::acc),bL r (n+1) [(name,n)],List.append_assoc];rfl
  ·exact bL r n acc
theorem fS:∀(names:List (Str × NameKind)) (n:Nat) {x:Str} {c:Addr},(x,c)∈cellsFrom n names []->(x,NameKind.cell)∈names
 |[],_,_,_,h=>nomatch h
 | (name,kind)::r,n,x,c,h=>by
  unfold cellsFrom at h;split at h
  ·rename_i hk;rw[bL] at h;rcases mem_append.mp h with h|h
   ·exact mem_cons_of_mem _ (fS r _ h)
   ·have e:=mem_singleton.mp h;have e1:x=name:=congrArg Prod.fst e;have e2:kind=NameKind.cell:=eq_of_beq hk;rw[e1,e2];exact mem_cons_self
  ·exact mem_cons_of_mem _ (fS r _ h)
def lE (sc:Scope) (C:Addr) (env:Env):List (Str × Addr):=cellsFrom (C+1) sc.names (zP sc.names env)
theorem iK {env:Env} (h:(lE sc C env).lookup x=some c):(x,c)∈cellsFrom (C+1) sc.names []\/env.cells.lookup x=some c:=by
 unfold lE at h;rw[bL,List.lookup_append] at h;cases q:(cellsFrom (C+1) sc.names []).lookup x with
 |some d=>
  rw[q] at h;have e:d=c:=Option.some.inj h;subst e;exact .inl (PySem.mem_of_lookup q)
 |none=>
  rw[q] at h;exact .inr (mZ h)
theorem IB {env:Env} (hx:sc.names.lookup x=some .cell) (h:(lE sc C env).lookup x=some c):(x,c)∈cellsFrom (C+1) sc.names []:=by
 obtain ⟨d,q⟩:=qT (n:=C+1) hx;unfold lE at h;rw[bL,List.lookup_append,q] at h;have e:d=c:=Option.some.inj h;subst e;exact PySem.mem_of_lookup q
theorem qX {env:Env} (hown:∀y∈sc.names,y.2=.cell->sc.names.lookup y.1=some .cell) (hx:sc.names.lookup x=some .free) (e:env.cells.lookup x=some c):(lE sc C env).lookup x=some c:=by
 unfold lE;rw[bL,List.lookup_append];cases q:(cellsFrom (C+1) sc.names []).lookup x with
 |some d=>
  have z:=hown _ (fS _ _ (PySem.mem_of_lookup q)) rfl;have z':sc.names.lookup x=some .cell:=z;rw[hx] at z';cases z'
 |none=>exact OB hx e
theorem KY (h:Heap) (ob:Obj) (sc:Scope):CellsOk (pushCells (h.push ob) sc.names) (h.objs.size+1) (cellsFrom (h.objs.size+1) sc.names []):=by
 have ok:=cellsFrom_ok sc.names (h.push ob) (h.objs.size+1) [] ⟨λ_ _ hm=>(nomatch hm),Pairwise.nil⟩ (by rw[Heap.size_push];exact Nat.le_refl _);rwa [Heap.size_push] at ok
theorem uE {M:Model} {A:Around} {E:Value->Shared->Prop} {s:Shared} {scope:Scope} {globals:Addr} {closure:List (Str × Addr)} {qual:Str} {func:Option Addr} {code:Value} {outer:Env} {builtins:Addr} {Q:Env->Shared->Prop}
  (hQ:Q (newEnv scope s.heap.objs.size globals (cellsFrom (s.heap.objs.size+1) scope.names closure) qual func code (some outer) builtins) {s with heap:=pushCells (s.heap.push {cls:=.type "dict",data:=.dict #[]}) scope.names}):
  wpAny M A (newFunctionEnv scope globals closure [] qual func code (some outer) builtins) Q E s:=by
 simp only [newFunctionEnv,Option.isSome_some,if_true];refine wpAny_bind (wpAny_alloc ?_);refine wpAny_bind (wpAny_layCells _ (λname kind cells=>by cases hkc:kind==NameKind.cell<;>simp [hkc]) _ _ _ _ ?_);rw[show ({s with heap:=s.heap.push {cls:=.type "dict",data:=.dict #[]}}:Shared).heap.objs.size=s.heap.objs.size+1 from Heap.size_push ..];refine wpAny_bind ?_;rw[forIn_nil];exact wpAny_pure (wpAny_pure hQ)
def IC (X:Cx) (N:List Str) (sc:Scope) (C:Addr) (s₀:Shared) (H₀:Hp) (ex:List Addr):Cx:=
 {X with N:=N,s₀:=s₀,H₀:=H₀,env:=compEnvC sc (lE sc C X.env) C X.env,outer:=X.stack,ex:=ex,fn:=λx=>sc.names.lookup x==some .cell,pn:=[],xe:=λ_ _=>False}
inductive IK (X:Cx) (sc:Scope):List Str->List Nat->Prop
 |nil:IK X sc [] []
 |cons {x:Str} {i:Nat} {xs:List Str} {is:List Nat} (hN:X.N[i]?=some x) (hk:X.env.kindOf x=some .cell) (hf:sc.names.lookup x=some .free) (t:IK X sc xs is):IK X sc (x::xs) (i::is)
theorem IK.length:∀{xs:List Str} {is:List Nat},IK X sc xs is->xs.length=is.length
 |_,_,.nil=>rfl
 |_,_,.cons _ _ _ t=>by rw[length_cons,length_cons,IK.length t]
theorem IK.get {X:Cx} {sc:Scope}:∀{xs:List Str} {is:List Nat} {j:Nat} {x:Str},IK X sc xs is->xs[j]?=some x->∃i,is[j]?=some i/\X.N[i]?=some x/\X.env.kindOf x=some .cell/\sc.names.lookup x=some .free
 |_,_,_,_,.nil,e=>by simp at e
 |_,_,0,_,.cons hN hk hf _,e=>by
  have e':=Option.some.inj e;subst e';exact ⟨_,rfl,hN,hk,hf⟩
 |_,_,j+1,x,.cons _ _ _ t,e=>by
  obtain ⟨i,h1,h2⟩:=IK.get (j:=j) (x:=x) t (by simpa using e);exact ⟨i,by simpa using h1,h2⟩
def eU (is:List Nat) (σ:St):St:=is.map λi=>(σ[i]?).join
def HX (n:Nat) (is:List Nat) (σ:St):St:=replicate n none++eU is σ
theorem Un.but {fs ex:List Addr} (u:Un fs ex H H1 h h1) (hs:SameBut C h1 h2) (hC:h.objs.size<=C):Un fs ex H H1 h h2:=by
 have ne:∀b o,h.get? b=some o->b≠C:=λb o e=>ne_of_lt (Nat.lt_of_lt_of_le (lt_size e) hC);refine ⟨λb o q n hb hx=>(hs.2 b (ne b o q)).trans (u.keep b o q n hb hx),λb o q n hb hx=>?_,u.free,λb o q hx=>?_,u.tups,u.frzs,u.tbls⟩
 ·obtain ⟨sl,e⟩:=u.slot b o q n hb hx;exact ⟨sl,(hs.2 b (ne b o q)).trans e⟩
 ·obtain ⟨o',e⟩:=u.there b o q hx;exact ⟨o',(hs.2 b (ne b o q)).trans e⟩
theorem eE.but (k:eE P w H h) (hs:SameBut C h h') (hn:H C=none):eE P w H h':=λb ob e=>by
 refine (k b ob e).stay (λc w' hc q=>(hs.2 c ?_).trans q) (λ_ q=>q) λ_ _ q=>q;rintro rfl;rcases hc with rfl|hc
 ·rw[hn] at e;cases e
 ·rw[hn] at hc;cases hc
section
variable {X:Cx} {pins:List (Addr × Obj)} {σ:St} {H:Hp} {s:Shared}
theorem Br (I:Inv X pins σ H s) {N:List Str} {sc:Scope} {ex:List Addr} (hkind:sc.kind=.function) (hown:∀y∈sc.names,y.2=.cell->sc.names.lookup y.1=some .cell) (hfr:(sc.names.all λy=>y.2 != .free || X.env.kindOf y.1==some .cell)=true)
  (hex:∀b∈ex,mL X pins H b) (hob:∀b∈ex,∃o,s.heap.get? b=some o):(IC X N sc s.heap.objs.size s H ex).Ok:=by
 have oc:=KY s.heap {cls:=.type "dict",data:=.dict #[]} sc;have lo:∀{x c},(x,c)∈cellsFrom (s.heap.objs.size+1) sc.names []->s.heap.objs.size<c:=λhm=>(oc.empty _ _ hm).2;have hi:∀{x c},X.env.cells.lookup x=some c->c<s.heap.objs.size:=λe=>by
  obtain ⟨v,o,e',_⟩:=I.cell _ _ e;exact lt_size e'
 refine ⟨I.ok.mod,hkind,I.ok.glob,I.ok.blt,Nat.le_refl _,λx y c h1 h2=>?_,λx h=>?_,λx c hf h=>?_,I.ok.hd,I.ok.frames,.inl rfl,λb hb=>⟨?_,λx c h=>?_⟩,I.bs,le_trans I.ok.bsz I.sz,λb o e hb=>?_,λb hb hf=>?_,I.stack,I.stkFree⟩
 ·rcases iK h1 with h1|h1<;>rcases iK h2 with h2|h2
  ·exact PySem.name_of_addr oc.apart h1 h2
  ·exact absurd (hi h2) (Nat.lt_asymm (lo h1))
  ·exact absurd (hi h1) (Nat.lt_asymm (lo h2))
  ·exact I.ok.inj x y c h1 h2
 ·have fr:sc.names.lookup x=some .free->∃c,(lE sc s.heap.objs.size X.env).lookup x=some c:=λq=>by
   have z:=all_eq_true.mp hfr _ (PySem.mem_of_lookup q);have z':(X.env.kindOf x==some .cell)=true:=z;obtain ⟨c,e⟩:=I.ok.has x (.inl (beq_iff_eq.mp z'));exact ⟨c,qX hown q e⟩
  rcases h with h|h
  ·rcases gI (show (sc.names.map λ(n,k)=>if (k==NameKind.free&&X.env.scope.kind==.function&&X.env.kindOf n==some .cell) then (n,NameKind.cell) else (n,k)).lookup x=some .cell from h) with q|⟨_,q⟩
   ·exact Option.isSome_iff_exists.mp (PySem.W.cellsFrom_some sc.names _ _ (.inl q))
   ·exact fr q
  ·rcases gI (show (sc.names.map λ(n,k)=>if (k==NameKind.free&&X.env.scope.kind==.function&&X.env.kindOf n==some .cell) then (n,NameKind.cell) else (n,k)).lookup x=some .free from h) with q|⟨q,_⟩
   ·exact fr q
   ·cases q
 ·have hx:sc.names.lookup x=some .cell:=eq_of_beq hf;exact le_of_lt (lo (IB hx h))
 ·obtain ⟨o,e⟩:=hob b hb;exact ne_of_lt (lt_size e)
 ·rcases iK h with h|h
  ·obtain ⟨o,e⟩:=hob b hb;exact ne_of_gt (lt_trans (lt_size e) (lo h))
  ·exact (hex b hb).2.2.2.2.1 x c h
 ·obtain ⟨_,_,_,q,_⟩:=hex b hb;rcases q with q|q
  ·exact I.ok.noex b o e q
  ·exact absurd (Nat.lt_of_lt_of_le (lt_size (I.ok.bs b o e).1) q) (lt_irrefl _)
 ·obtain ⟨_,n1,n2,_⟩:=hex b hb;rcases mem_cons.mp (I.stkSub b hf) with z|z
  ·exact n1 z
  ·exact n2 z
theorem IA (I:Inv X pins σ H s) {own caps:List Str} {ex:List Addr} (hkind:sc.kind=.function) (hown:∀y∈sc.names,y.2=.cell->sc.names.lookup y.1=some .cell) (hfr:(sc.names.all λy=>y.2 != .free || X.env.kindOf y.1==some .cell)=true)
  (hcap:IK X sc caps is) (hex:∀b∈ex,mL X pins H b) (hob:∀b∈ex,∃o,s.heap.get? b=some o) (hn:h1.Ns s.heap.objs.size m0) (hk:∀b o,s.heap.get? b=some o->h1.get? b=some o) (oc:CellsOk h1 (s.heap.objs.size+1) (cellsFrom (s.heap.objs.size+1) sc.names [])):
  Inv (IC X (own++caps) sc s.heap.objs.size s H ex) [] (HX own.length is σ) H {s with heap:=h1,toks:=tk}:=by
 refine ⟨Br I hkind hown hfr hex hob,rfl,I.bare,Un.kept hk,⟨m0,hn,λi x v e1 e2 _=>?_⟩,λx c h=>?_,I.hok.fresh (Nat.le_refl _),λx c h=>(iK h).elim (λh=>I.hok.fresh (le_of_lt (oc.empty _ _ h).2)) λh=>I.freeC x c h,λp hp=>absurd (show p∈([]:List (Addr × Obj)) from hp) (by simp),I.hok.kept hk,?_⟩
 ·have e1':(own++caps)[i]?=some x:=e1;by_cases hi:i<own.length
  ·unfold HX at e2;rw[getElem?_append_left (by rw[length_replicate];exact hi),List.getElem?_replicate,if_pos hi] at e2;cases e2
  ·rw[getElem?_append_right (by lia)] at e1';unfold HX at e2;rw[getElem?_append_right (by rw[length_replicate];lia),length_replicate] at e2;obtain ⟨i',q1,q2,q3,q4⟩:=hcap.get e1';unfold eU at e2;rw[getElem?_map,q1] at e2;have e2':(σ[i']?).join=some v:=Option.some.inj e2;have e3:σ[i']?=some (some v):=by
    cases z:σ[i']? with
    |none=>rw[z] at e2';cases e2'
    |some w=>
     rw[z] at e2';have e4:w=some v:=e2';rw[e4]
   obtain ⟨m,_,hl⟩:=I.loc;obtain ⟨u,r,l⟩:=hl i' x v q2 e3 (.inr (.inl q3));refine ⟨u,r,?_⟩;rcases l with ⟨z,_⟩|⟨_,c,z1,o,z2,z3⟩
   ·rw[q3] at z;cases z
   ·refine .inr ⟨.inl ?_,c,qX hown q4 z1,o,hk _ _ z2,z3⟩;exact kP I.ok.kind q4 q3
 ·rcases iK h with h|h
  ·exact ⟨none,(oc.empty _ _ h).1⟩
  ·obtain ⟨v,o,e,d⟩:=I.cell x c h;exact ⟨v,o,hk _ _ e,d⟩
 ·show (HX own.length is σ).length=(own++caps).length;unfold HX eU;rw[length_append,length_append,length_replicate,length_map,hcap.length]
end
section
variable {X:Cx}
def Ks:V->Option Int->Option Int->Hp->VK->Prop:=λx lo hi H Q=>∃z,x=.str z/\z.length<=sizeLine/\Q (.str (Txt.slice z lo hi)) H
theorem XI:Ji X Ks:=by
 intro pins s σ H x v vl vu lo hi sl Q I rx hs pl pu h;obtain ⟨z,rfl,hz,q⟩:=h;obtain ⟨t,rfl⟩:=rx;have fin:∀lo hi:Option Int,Q (.str (Txt.slice z lo hi)) H->(Txt.slice z lo hi).length<=sizeLine/\∀t' k,EP X pins σ Q (.str (Txt.slice z lo hi) t') {s with toks:=k}:=λlo hi q=>
  ⟨le_trans (Txt.slice_le z _ _) hz,λt' k=>⟨.str _,H,I.tok k,⟨t',rfl⟩,q⟩⟩
 refine ⟨"str",_,F.slot_str_getitem.lookup,typeIs_str _ _ _,?_⟩;cases pl with
 |none=>
  cases pu with
  |none=>exact wpAny_getItem_str_slice (l:=none) (u:=none) (st:=none) hs rfl (post_val_or_str (fin none none q))
  |int j t2=>exact wpAny_getItem_str_slice (l:=none) (u:=some (j,t2)) (st:=none) hs rfl (post_val_or_str (fin none (some j) q))
 |int i t1=>
  cases pu with
  |none=>exact wpAny_getItem_str_slice (l:=some (i,t1)) (u:=none) (st:=none) hs rfl (post_val_or_str (fin (some i) none q))
  |int j t2=>exact wpAny_getItem_str_slice (l:=some (i,t1)) (u:=some (j,t2)) (st:=none) hs rfl (post_val_or_str (fin (some i) (some j) q))
theorem cV (h0:0<=j):(Txt.slice z none (some j)).cps.toList=z.cps.toList.take j.toNat:=by
 have hl:z.cps.toList.length=z.length:=by simp [Str.length]
 by_cases h:j<=z.length
 ·have e:=beq_iff_eq.mp (slice_closes_to (x:=z) (j:=j) ⟨h0,by rw[hl];exact h⟩);rw[e];simp
 ·have e:=beq_iff_eq.mp (slice_closes_to (x:=z) (j:=(z.length:Int)) ⟨by lia,by rw[hl];exact Int.le_refl _⟩);rw[slice_to_beyond (by lia),e];show List.take ((z.length:Int) - 0).toNat (z.cps.toList.drop 0)=_;rw[drop_zero,take_of_length_le (by lia),take_of_length_le (by lia)]
theorem gH (h0:0<=i) (h1:i<=z.length):(Txt.slice z (some i) none).cps.toList=z.cps.toList.drop i.toNat:=by
 have hl:z.cps.toList.length=z.length:=by simp [Str.length]
 rw[slice_from_eq (b:=(z.length:Int)) h0 h1 rfl];show (z.cps.toList.drop i.toNat).take ((z.length:Int) - i).toNat=_;rw[take_of_length_le (by rw[length_drop];lia)]
theorem lS (z:Str) (lo hi:Option Int):(Txt.slice z lo hi).length<=z.length:=Txt.slice_le z lo hi
def Kv (K:Fg):List V->Hp->VK->Prop:=λxs H Q=>∃x n t b,xs=[x,.ty n]/\iP K H x t/\PySem.W.kitOne K t (.type n)=some b/\Q (.bl b) H
theorem OG:bS X (.builtin "isinstance") (Kv X.K):=by
 intro pins s σ H xs us Q I rv h;obtain ⟨x,n,t,b,rfl,ty,k,q⟩:=h;obtain ⟨u,w',rfl,rx,ry⟩:=rv.two;cases (show w'=Value.type n from ry);exact HA I rx ty k λtk=>⟨.bl b,H,I.tok tk,rfl,q⟩
theorem oO (h:∀i v,P i v->v=.bool (tr i)):TruthOf prog w A P tr:=by
 intro i v s Q E hP hQ;rw[h i v hP];exact wpAny_pure hQ
def XZ (K:Fg):List V->Hp->VK->Prop:=λxs H Q=>∃(p:Addr) (bs:List Bool),xs=[.ref p]/\H p=some (.lst (bs.map V.bl))/\Q (.bl (bs.all id)) H
theorem OI (hc:X.calm=true):bS X (.builtin "all") (XZ X.K):=by
 intro pins s σ H xs us Q I rv h;obtain ⟨p,bs,rfl,hp,q⟩:=h;obtain ⟨u,rfl,ru⟩:=rv.one;cases (show u=Value.ref p from ru);obtain ⟨z,its,n,r,hl,e⟩:=I.lstM hp;have hlt:p<s.heap.objs.size:=lt_size e;have isl:s.heap.IsList p its.toArray:=⟨_,e,rfl,n,rfl⟩;refine call_all_walk ?_;refine wpAny_pyIter_list isl ?_;have hitm:∀(i:Nat) (v:Value),its.toArray[i]?=some v->v=Value.bool (bs.getD i true):=λi v hv=>by
  have hv':its[i]?=some v:=by simpa using hv
  have hi:i<its.length:=(List.getElem?_eq_some_iff.mp hv').1;have hib:i<bs.length:=by rw[length_map] at hl;lia
  have hb:(bs.map V.bl)[i]?=some (V.bl bs[i]):=by rw[getElem?_map,List.getElem?_eq_getElem hib];rfl
  obtain ⟨u',h1,h2⟩:=r.get hb;rw[hv'] at h1;cases h1;rw[getD_eq_getElem?_getD,List.getElem?_eq_getElem hib];exact h2
 refine ⟨s.heap.objs.size,_,_,_,_,_,λi=>bs.getD i true,rfl,Walks.list (A:=X.A.in1) (I.ok.hd hc) _ p (ne_of_lt hlt) its.toArray,⟨⟨_,get?_push_size _ rfl,rfl,rfl⟩,isl.at λo e=>get?_push_of_some _ e⟩,oO hitm,λh' tk hk=>?_⟩;have I1:Inv X pins σ H {s with heap:=h',toks:=tk}:=by
  have I0:Inv X pins σ H {s with heap:=s.heap.push {cls:=.type "list_iterator",data:=.fields #[.ref p,.int 0 0]}}:=I.kept (t':=s.toks) λb o e=>get?_push_of_some _ e;obtain ⟨f0,f1,f2,f3,f4,f5⟩:=I.fpOk (H':=H) (Nat.le_refl _) (I.hok.fresh (Nat.le_refl _));exact I0.turned (t':=tk) (λb o hb e=>hk b o (by simpa using hb) e) f0 f1 f3 f4 f5
 refine ⟨.bl _,H,I1,rfl,?_⟩;have ea:(range its.toArray.size).all (λi=>bs.getD i true)=bs.all id:=by
  rw[size_toArray,<-hl,length_map];rw[Bool.eq_iff_iff,all_eq_true,all_eq_true];constructor
  ·intro h b hb;obtain ⟨i,hi,rfl⟩:=List.mem_iff_getElem.mp hb;have q:=h i (mem_range.mpr hi);rw[getD_eq_getElem?_getD,List.getElem?_eq_getElem hi] at q;exact q
  ·intro h i hi;have hi:=mem_range.mp hi;rw[getD_eq_getElem?_getD,List.getElem?_eq_getElem hi];exact h _ (getElem_mem hi)
 rw[ea];exact q
end
def NV:Const->Option V
 | .none=>some .non
 | .bool b=>some (.bl b)
 | .int i=>some (.int i)
 | .str x=>some (.str x)
 |_=>none
theorem GG (h:NV c=some v):PE X (.Constant c j pos) (tC v):=by
 cases c with
 |none=>cases h;exact YQ
 |bool b=>cases h;exact Fj
 |int i=>cases h;exact YS
 |str x=>cases h;exact YN
 |_=>cases h
theorem aE (h:H p=none) (o:HO):aC H (upd H p o):=λb u q=>by rw[aF (aB q h)];exact q
theorem OL (I:Inv X pins σ H s):sysModules<s.heap.objs.size:=by
 have h:mainGlobals<s.heap.objs.size:=(I.mod.glob.keeps I.bk).lt;exact lt_trans (by decide) h
end L2.L3
namespace ZD
open PySem PySem.Spec PyProof.Rows
section
variable {prog:Program} {w:World} {A:Around} {E:Value->Shared->Prop} {s:Shared}
theorem alive {α:Type} {M:Model} {a:Addr} {o:Obj} {k:Option Obj->Sem α} {Q:α->Shared->Prop} (ho:s.heap.get? a=some o) (h:wpAny M A (k (some o)) Q E s):wpAny M A (.loadIfAlive a k) Q E s:=λΓ p hi=>by
 rw[Sem.wp_loadIfAlive,ho];exact h Γ p hi
theorem LK (hit:s.heap.IsTupleIter it t i) (ht:s.heap.IsTuple t items) (hx:items[i]?=some x)
  (hQ:∀h',h'.IsTupleIter it t (i+1)->SameBut it s.heap h'->Q x {s with heap:=h'}):wpAny (model prog w) A (Builtin.SmallTypes.nextOf (.ref it)) Q E s:=by
 obtain ⟨oi,hoi,hci,hdi⟩:=id hit;obtain ⟨ot,hot,_,nt,hdt⟩:=ht;unfold Builtin.SmallTypes.nextOf;refine wpAny_bind (wpAny_callSpecial?_slot (name:=Str.ofString "__next__") hit.typeIs F.slot_tuple_iterator_next
  (wpAny_call_entry F.slot_tuple_iterator_next hit.typeIs F.entry_tuple_iterator_next ?_ (F.args_tuple_iterator_next_1 _)))
 show wpAny _ _ (field (.ref it) 0 >>=_) _ _ s;refine wpAny_bind (wpAny_field hoi hdi (x:=.ref t) rfl ?_);show wpAny _ _ (if (Value.ref t==Value.none)=true then _ else _) _ _ s;rw[if_neg (show ¬((Value.ref t==Value.none)=true) from Bool.false_ne_true)];show wpAny _ _ (field (.ref it) 1 >>=_) _ _ s;refine wpAny_bind (wpAny_field hoi hdi (x:=.int i 0) rfl ?_);show wpAny _ _ (seqItems? (.ref t) >>=_) _ _ s;refine wpAny_bind (wpAny_seqItems hot hdt ?_);simp only [toNat_natCast,hx];refine wpAny_bind (wpAny_setField hoi hdi (by simp) (wpAny_pure ⟨x,rfl,wpAny_pure (hQ _ ?_ (SameBut.update ..))⟩));exact ⟨_,get?_update_self _ hoi (Obj.isFreed_of_fields (Obj.data_mapFields hdi _)),(Obj.cls_mapFields ..).trans hci,by
  rw[Obj.data_mapFields hdi];simp [rawInt]⟩
structure cY (h:Heap) (it:Addr) (x:Str) (t:Tok) (i:Nat):Prop where
 ex:∃T:String,(T="str_ascii_iterator"\/T="str_iterator")/\h.IsStrIter it T x t i
theorem cY.at' {h h':Heap} {it:Addr} {x:Str} {t:Tok} {i:Nat} (z:cY h it x t i) (k:∀o,h.get? it=some o->h'.get? it=some o):cY h' it x t i:=by
 obtain ⟨T,hT,o,e,r⟩:=z.ex;exact ⟨T,hT,o,k o e,r⟩
theorem cY.lt {h:Heap} {it:Addr} {x:Str} {t:Tok} {i:Nat} (z:cY h it x t i):it<h.objs.size:=by
 obtain ⟨T,hT,o,e,r⟩:=z.ex;exact lt_size e
theorem DJ {it:Addr} {x:Str} {t:Tok} {i c:Nat} {Q:Value->Shared->Prop} (hit:cY s.heap it x t i) (hx:x.cps[i]?=some c)
  (hQ:∀h' u tk,cY h' it x t (i+1)->SameBut it s.heap h'->Q (.str ⟨#[c]⟩ u) {s with heap:=h',toks:=tk}):wpAny (model prog w) A (Builtin.SmallTypes.nextOf (.ref it)) Q E s:=by
 obtain ⟨T,hT,z⟩:=hit.ex;rcases hT with rfl|rfl
 ·exact wpAny_nextOf_ascii_item z hx λh' z' sb=>hQ h' _ _ ⟨_,.inl rfl,z'⟩ sb
 ·exact wpAny_nextOf_wide_item z hx λh' z' sb=>hQ h' _ _ ⟨_,.inr rfl,z'⟩ sb
theorem mR {it:Addr} {x:Str} {t:Tok} {i:Nat} {Q:Value->Shared->Prop} (hh:A.handled=none) (hit:cY s.heap it x t i) (hx:x.cps[i]?=none)
  (hE:∀h' e,ExtBut it s.heap h'->(∃o,h'.get? e=some o/\o.cls=.type "StopIteration")->E (.ref e) {s with heap:=h'}):wpAny (model prog w) A (Builtin.SmallTypes.nextOf (.ref it)) Q E s:=by
 obtain ⟨T,hT,z⟩:=hit.ex;rcases hT with rfl|rfl
 ·exact wpAny_nextOf_ascii_end hh z hx hE
 ·exact wpAny_nextOf_wide_end hh z hx hE
def PC (h:Heap) (i2 t:Addr) (items:Array Value) (k:Nat):Prop:=(h.IsTupleIter i2 t k/\h.IsTuple t items)\/(h.IsListIter i2 t k/\h.IsList t items)
theorem PC.at {h h':Heap} {i2 t:Addr} {items:Array Value} {k:Nat} (z:PC h i2 t items k) (k1:∀o,h.get? i2=some o->h'.get? i2=some o) (k2:∀o,h.get? t=some o->h'.get? t=some o):PC h' i2 t items k:=by
 rcases z with ⟨a,o,e,r⟩|⟨a,o,e,r⟩
 ·exact .inl ⟨a.at k1,o,k2 _ e,r⟩
 ·exact .inr ⟨a.at k1,o,k2 _ e,r⟩
theorem PC.lt {h:Heap} {i2 t:Addr} {items:Array Value} {k:Nat} (z:PC h i2 t items k):i2<h.objs.size:=by
 rcases z with ⟨⟨o,e,_⟩,_⟩|⟨⟨o,e,_⟩,_⟩
 ·exact lt_size e
 ·exact lt_size e
theorem PC.ltT (z:PC h i2 t items k):t<h.objs.size:=by
 rcases z with ⟨_,o,e,_⟩|⟨_,o,e,_⟩
 ·exact lt_size e
 ·exact lt_size e
theorem yJ {i2 t:Addr} {k:Nat} {items:Array Value} {x:Value} {Q:Value->Shared->Prop} (z:PC s.heap i2 t items k) (ht:t≠i2) (hx:items[k]?=some x)
  (hQ:∀h',PC h' i2 t items (k+1)->SameBut i2 s.heap h'->Q x {s with heap:=h'}):wpAny (model prog w) A (Builtin.SmallTypes.nextOf (.ref i2)) Q E s:=by
 rcases z with ⟨a,b⟩|⟨a,b⟩
 ·exact LK a b hx λh' j sb=>hQ h' (.inl ⟨j,let ⟨o,e,r⟩:=b;⟨o,sb.extBut _ _ ht e,r⟩⟩) sb
 ·exact wpAny_nextOf_list_item a b hx λh' j sb=>hQ h' (.inr ⟨j,let ⟨o,e,r⟩:=b;⟨o,sb.extBut _ _ ht e,r⟩⟩) sb
def rY (f0 f1:Value) (TI TO:Addr):Obj:={cls:=.type "zip",dict:=none,data:=.fields #[f0,f1,.bool false,.ref TI,.ref TO],slots:=#[]}
structure Apart (z TI TO i1 i2 t:Addr):Prop where
 TIz:TI≠z
 TOz:TO≠z
 i1z:i1≠z
 i2z:i2≠z
 TITO:TI≠TO
 TIi1:TI≠i1
 TIi2:TI≠i2
 TOi1:TO≠i1
 TOi2:TO≠i2
 i12:i1≠i2
 tz:t≠z
 tTO:t≠TO
 ti1:t≠i1
 ti2:t≠i2
structure AB (h:Heap) (z TI TO i1 i2 t:Addr) (x:Str) (tk:Tok) (items:Array Value) (k:Nat):Prop where
 zip:∃f0 f1,h.get? z=some (rY f0 f1 TI TO)/\(f0=.none\/∃a o,f0=rawInt (a:Nat)/\h.get? a=some o/\a≠z/\a≠TO/\a≠i1/\a≠i2)
 pTI:IsPair h TI (.ref i1) (.ref i2)
 pTO:∃a b,IsPair h TO a b
 s1:cY h i1 x tk k
 s2:PC h i2 t items k
theorem AB.keep {z TI TO i1 i2 t:Addr} (y:AB h z TI TO i1 i2 t x tk items k) (kp:∀b o,h.get? b=some o->h'.get? b=some o):AB h' z TI TO i1 i2 t x tk items k:=by
 obtain ⟨⟨f0,f1,e,r⟩,p1,⟨a,b,p2⟩,s1,s2⟩:=y;refine ⟨⟨f0,f1,kp _ _ e,?_⟩,kp _ _ p1,⟨a,b,kp _ _ p2⟩,s1.at' λo=>kp _ o,s2.at (λo=>kp _ o) λo=>kp _ o⟩;rcases r with r|⟨a,o,r1,r2,r3⟩
 ·exact .inl r
 ·exact .inr ⟨a,o,r1,kp _ _ r2,r3⟩
theorem IQ {z TI TO i1 i2 t:Addr} {x:Str} {tk:Tok} {items:Array Value} {k c:Nat} {y:Value} {Q:Value->Shared->Prop} (D:Apart z TI TO i1 i2 t) (S:AB s.heap z TI TO i1 i2 t x tk items k) (hx:x.cps[k]?=some c) (hy:items[k]?=some y)
  (hQ:∀h' T u tk',AB h' z TI TO i1 i2 t x tk items (k+1)->IsPair h' T (.str ⟨#[c]⟩ u) y->s.heap.objs.size<=T->(∀b o,b≠z->b≠TO->b≠i1->b≠i2->s.heap.get? b=some o->h'.get? b=some o)->Q (.ref T) {s with heap:=h',toks:=tk'}):
  wpAny (model prog w) A (Builtin.«zip.__next__» ⟨[.ref z],[]⟩) (λfin s'=>∃v,fin=.done (.ret v)/\Q v s') E s:=by
 obtain ⟨⟨f0,f1,hz,hf⟩,hTI,⟨a,b,hTO⟩,h1,h2⟩:=S;show wpAny _ _ (field (.ref z) 2 >>=_) _ _ _;refine wpAny_bind (wpAny_field hz rfl (x:=.bool false) rfl ?_);show wpAny _ _ (field (.ref z) 3 >>=_) _ _ _;refine wpAny_bind (wpAny_field hz rfl (x:=.ref TI) rfl ?_);refine wpAny_bind (wpAny_seqItems hTI rfl ?_);show wpAny _ _ (Builtin.SmallTypes.ownedTupleIsFree (.ref z) >>=_) _ _ _;refine wpAny_bind ?_;unfold Builtin.SmallTypes.ownedTupleIsFree;rcases hf with rfl|⟨q,oq,rfl,hq,q1,q2,q3,q4⟩
 ·refine wpAny_bind (wpAny_field hz rfl (x:=.none) rfl (wpAny_pure ?_));simp only [if_true];refine wpAny_bind (wpAny_rule ?_);refine wpAny_bind (wpAny_field hz rfl (x:=.ref TO) rfl ?_);refine wpAny_bind (wpAny_setField_rec hz (by simp) λg1 z1 b1=>?_);replace z1:g1.get? z=some (rY .ellipsis f1 TI TO):=z1;refine wpAny_bind ?_;simp only [List.zipIdx_cons,List.zipIdx_nil,forIn_cons,forIn_nil];refine wpAny_bind (wpAny_bind (wpAny_onRaise ?_));show wpAny _ _ (Builtin.SmallTypes.nextOf (.ref i1) >>=_) _ _ _;refine wpAny_bind (DJ (h1.at' λo e=>b1.extBut _ _ D.i1z e) hx λg2 u tk2 i2' b2=>wpAny_pure ?_);have o2:IsPair g2 TO a b:=b2.extBut _ _ D.TOi1 (b1.extBut _ _ D.TOz hTO);refine wpAny_bind (wpAny_seqItems o2 rfl ?_);refine wpAny_bind (wpAny_updateSeq_pair o2 λg3 o3 b3=>?_);replace o3:IsPair g3 TO (.str ⟨#[c]⟩ u) b:=o3;refine wpAny_bind (wpAny_letGo (wpAny_pure ?_));refine wpAny_bind (wpAny_bind (wpAny_onRaise ?_));show wpAny _ _ (Builtin.SmallTypes.nextOf (.ref i2) >>=_) _ _ _;have up3:∀c o,c≠z->c≠TO->c≠i1->s.heap.get? c=some o->g3.get? c=some o:=λc o c1 c2 c3 e=>b3.extBut _ _ c2 (b2.extBut _ _ c3 (b1.extBut _ _ c1 e));refine wpAny_bind (yJ (h2.at (λo e=>up3 _ _ D.i2z D.TOi2.symm D.i12.symm e) λo e=>up3 _ _ D.tz D.tTO D.ti1 e) D.ti2 hy λg4 j4 b4=>wpAny_pure ?_);have o4:IsPair g4 TO (.str ⟨#[c]⟩ u) b:=b4.extBut _ _ D.TOi2 o3;refine wpAny_bind (wpAny_seqItems o4 rfl ?_);refine wpAny_bind (wpAny_updateSeq_pair o4 λg5 o5 b5=>?_);replace o5:IsPair g5 TO (.str ⟨#[c]⟩ u) y:=o5;refine wpAny_bind (wpAny_letGo (wpAny_pure (wpAny_pure ?_)));refine wpAny_bind (wpAny_seqItems o5 rfl ?_);refine wpAny_bind (wpAny_newTuple ?_);have sz:g5.objs.size=s.heap.objs.size:=by rw[b5.1,b4.1,b3.1,b2.1,b1.1]
  have z5:g5.get? z=some (rY .ellipsis f1 TI TO):=b5.extBut _ _ D.TOz.symm (b4.extBut _ _ D.i2z.symm (b3.extBut _ _ D.TOz.symm (b2.extBut _ _ D.i1z.symm z1)));have up5:∀c o,c≠z->c≠TO->c≠i1->c≠i2->s.heap.get? c=some o->g5.get? c=some o:=λc o c1 c2 c3 c4 e=>b5.extBut _ _ c2 (b4.extBut _ _ c4 (up3 c o c1 c2 c3 e));have s5:cY g5 i1 x tk (k+1):=i2'.at' λo e=>b5.extBut _ _ D.TOi1.symm (b4.extBut _ _ D.i12 (b3.extBut _ _ D.TOi1.symm e));have j5:PC g5 i2 t items (k+1):=j4.at (λo e=>b5.extBut _ _ D.TOi2.symm e) λo e=>b5.extBut _ _ D.tTO e;show wpAny _ _ (Builtin.SmallTypes.ownedTupleHandOut (.ref z) (.ref g5.objs.size) >>=_) _ _ _;refine wpAny_bind ?_;unfold Builtin.SmallTypes.ownedTupleHandOut;have z6:(g5.push {cls:=.type "tuple",data:=.seq #[.str ⟨#[c]⟩ u,y]}).get? z=some (rY .ellipsis f1 TI TO):=get?_push_of_some _ z5;refine wpAny_bind (wpAny_setField_rec z6 (by simp) λg7 z7 b7=>?_);replace z7:g7.get? z=some (rY (rawInt g5.objs.size) f1 TI TO):=z7;refine wpAny_setField_rec z7 (by simp) λg8 z8 b8=>?_;replace z8:g8.get? z=some (rY (rawInt g5.objs.size) (.bool false) TI TO):=z8;have up:∀c o,c≠z->g5.get? c=some o->g8.get? c=some o:=λc o c1 e=>b8.extBut _ _ c1 (b7.extBut _ _ c1 (get?_push_of_some _ e));have zlt:z<g5.objs.size:=lt_size z5;have T8:IsPair g8 g5.objs.size (.str ⟨#[c]⟩ u) y:=b8.extBut _ _ (ne_of_gt zlt) (b7.extBut _ _ (ne_of_gt zlt) (get?_push_size _ rfl));refine wpAny_pure ⟨_,rfl,?_⟩;refine hQ g8 g5.objs.size u tk2 ⟨⟨_,_,z8,.inr ⟨g5.objs.size,_,rfl,T8,ne_of_gt zlt,ne_of_gt (lt_size o5),ne_of_gt s5.lt,?_⟩⟩,up _ _ D.TIz (up5 _ _ D.TIz D.TITO D.TIi1 D.TIi2 hTI),⟨_,_,up _ _ D.TOz o5⟩,s5.at' λo e=>up _ _ D.i1z e,j5.at (λo e=>up _ _ D.i2z e) λo e=>up _ _ D.tz e⟩ T8 (le_of_eq sz.symm) λc o c1 c2 c3 c4 e=>up c o c1 (up5 c o c1 c2 c3 c4 e);exact ne_of_gt j5.lt
 ·refine wpAny_bind (wpAny_field hz rfl (x:=rawInt (q:Nat)) rfl ?_);show wpAny _ _ (loadIfAlive ((q:Int)).toNat >>=_) _ _ _;refine wpAny_bind ?_;unfold loadIfAlive;refine alive (o:=oq) (by simpa using hq) (wpAny_pure ?_);simp only [Option.isNone_some,false_eq_true,if_false];refine wpAny_bind (wpAny_field hz rfl (x:=f1) rfl ?_);refine wpAny_mono (Q:=λr s'=>r=false/\∃g1 f1',s'={s with heap:=g1}/\g1.get? z=some (rY (rawInt (q:Nat)) f1' TI TO)/\SameBut z s.heap g1) ?_ (λr s' hr=>?_) (λ_ _ e=>e)
  ·by_cases hb:(f1 != Value.bool true)=true
   ·rw[if_pos hb];exact wpAny_bind (wpAny_setField_rec hz (by simp) λg1 z1 b1=>wpAny_pure ⟨rfl,g1,.bool true,rfl,z1,b1⟩)
   ·rw[if_neg hb];exact wpAny_pure ⟨rfl,s.heap,f1,rfl,hz,.refl ..⟩
  obtain ⟨rfl,g1,f1',rfl,z1,b1⟩:=hr;simp only [false_eq_true,if_false];refine wpAny_bind ?_;simp only [List.forIn_toArray,forIn_cons,forIn_nil];refine wpAny_bind (wpAny_bind (wpAny_holding ?_));show wpAny _ _ (Builtin.SmallTypes.nextOf (.ref i1) >>=_) _ _ _;refine wpAny_bind (DJ (h1.at' λo e=>b1.extBut _ _ D.i1z e) hx λg2 u tk2 i2' b2=>wpAny_pure ?_);refine wpAny_pure ?_;refine wpAny_bind (wpAny_bind (wpAny_holding ?_));show wpAny _ _ (Builtin.SmallTypes.nextOf (.ref i2) >>=_) _ _ _;have up2:∀c o,c≠z->c≠i1->s.heap.get? c=some o->g2.get? c=some o:=λc o c1 c3 e=>b2.extBut _ _ c3 (b1.extBut _ _ c1 e);refine wpAny_bind (yJ (h2.at (λo e=>up2 _ _ D.i2z D.i12.symm e) λo e=>up2 _ _ D.tz D.ti1 e) D.ti2 hy λg4 j4 b4=>wpAny_pure ?_);refine wpAny_pure (wpAny_pure ?_);refine wpAny_bind (wpAny_newTuple (hsz:=by show 2<=sizeLine;decide) ?_);have up4:∀c o,c≠z->c≠i1->c≠i2->s.heap.get? c=some o->g4.get? c=some o:=λc o c1 c3 c4 e=>b4.extBut _ _ c4 (up2 c o c1 c3 e);have sz:g4.objs.size=s.heap.objs.size:=by rw[b4.1,b2.1,b1.1]
  have z4:g4.get? z=some (rY (rawInt (q:Nat)) f1' TI TO):=b4.extBut _ _ D.i2z.symm (b2.extBut _ _ D.i1z.symm z1);refine wpAny_pure ⟨_,rfl,?_⟩;refine hQ _ g4.objs.size u tk2 ⟨⟨_,_,get?_push_of_some _ z4,.inr ⟨q,oq,rfl,get?_push_of_some _ (up4 _ _ q1 q3 q4 hq),q1,q2,q3,q4⟩⟩,get?_push_of_some _ (up4 _ _ D.TIz D.TIi1 D.TIi2 hTI),⟨_,_,get?_push_of_some _ (up4 _ _ D.TOz D.TOi1 D.TOi2 hTO)⟩,
   i2'.at' λo e=>get?_push_of_some _ (b4.extBut _ _ D.i12 e),j4.at (λo e=>get?_push_of_some _ e) λo e=>get?_push_of_some _ e⟩ (get?_push_size _ rfl) (le_of_eq sz.symm) λc o c1 c2 c3 c4 e=>get?_push_of_some _ (up4 c o c1 c3 c4 e)
theorem PU {z TI TO i1 i2 t:Addr} {x:Str} {tk:Tok} {items:Array Value} {k:Nat} {Q:Fin->Shared->Prop} (hh:A.handled=none) (D:Apart z TI TO i1 i2 t) (S:AB s.heap z TI TO i1 i2 t x tk items k) (hx:x.cps[k]?=none)
  (hE:∀h' e,(∀b o,b≠z->b≠TO->b≠i1->b≠i2->s.heap.get? b=some o->h'.get? b=some o)->(∃o,h'.get? e=some o/\o.cls=.type "StopIteration")->E (.ref e) {s with heap:=h'}):
  wpAny (model prog w) A (Builtin.«zip.__next__» ⟨[.ref z],[]⟩) Q E s:=by
 obtain ⟨⟨f0,f1,hz,hf⟩,hTI,⟨a,b,hTO⟩,h1,h2⟩:=S;show wpAny _ _ (field (.ref z) 2 >>=_) _ _ _;refine wpAny_bind (wpAny_field hz rfl (x:=.bool false) rfl ?_);show wpAny _ _ (field (.ref z) 3 >>=_) _ _ _;refine wpAny_bind (wpAny_field hz rfl (x:=.ref TI) rfl ?_);refine wpAny_bind (wpAny_seqItems hTI rfl ?_);show wpAny _ _ (Builtin.SmallTypes.ownedTupleIsFree (.ref z) >>=_) _ _ _;refine wpAny_bind ?_;unfold Builtin.SmallTypes.ownedTupleIsFree;rcases hf with rfl|⟨q,oq,rfl,hq,q1,q2,q3,q4⟩
 ·refine wpAny_bind (wpAny_field hz rfl (x:=.none) rfl (wpAny_pure ?_));simp only [if_true];refine wpAny_bind (wpAny_rule ?_);refine wpAny_bind (wpAny_field hz rfl (x:=.ref TO) rfl ?_);refine wpAny_bind (wpAny_setField_rec hz (by simp) λg1 z1 b1=>?_);replace z1:g1.get? z=some (rY .ellipsis f1 TI TO):=z1;refine wpAny_bind ?_;simp only [List.zipIdx_cons,List.zipIdx_nil,forIn_cons,forIn_nil];refine wpAny_bind (wpAny_bind (wpAny_onRaise ?_));show wpAny _ _ (Builtin.SmallTypes.nextOf (.ref i1) >>=_) _ _ _;refine wpAny_bind (mR hh (h1.at' λo e=>b1.extBut _ _ D.i1z e) hx λg2 e b2 he=>?_);obtain ⟨oe,hoe,hce⟩:=he;have z2:g2.get? z=some (rY .ellipsis f1 TI TO):=b2 _ _ D.i1z.symm z1;have ne:e≠z:=λy=>by
   subst y;rw[z2] at hoe;cases hoe;have c':(Value.type "zip")=.type "StopIteration":=hce;simp at c'
  exact wpAny_setField_rec z2 (by simp) λg3 _ b3=>hE g3 e (λc o c1 _ c3 _ y=>b3.extBut _ _ c1 (b2 _ _ c3 (b1.extBut _ _ c1 y))) ⟨oe,b3.extBut _ _ ne hoe,hce⟩
 ·refine wpAny_bind (wpAny_field hz rfl (x:=rawInt (q:Nat)) rfl ?_);show wpAny _ _ (loadIfAlive ((q:Int)).toNat >>=_) _ _ _;refine wpAny_bind ?_;unfold loadIfAlive;refine alive (o:=oq) (by simpa using hq) (wpAny_pure ?_);simp only [Option.isNone_some,false_eq_true,if_false];refine wpAny_bind (wpAny_field hz rfl (x:=f1) rfl ?_);refine wpAny_mono (Q:=λr s'=>r=false/\∃g1,s'={s with heap:=g1}/\SameBut z s.heap g1) ?_ (λr s' hr=>?_) (λ_ _ e=>e)
  ·by_cases hb:(f1 != Value.bool true)=true
   ·rw[if_pos hb];exact wpAny_bind (wpAny_setField_rec hz (by simp) λg1 z1 b1=>wpAny_pure ⟨rfl,g1,rfl,b1⟩)
   ·rw[if_neg hb];exact wpAny_pure ⟨rfl,s.heap,rfl,.refl ..⟩
  obtain ⟨rfl,g1,rfl,b1⟩:=hr;simp only [false_eq_true,if_false];refine wpAny_bind ?_;simp only [List.forIn_toArray,forIn_cons,forIn_nil];refine wpAny_bind (wpAny_bind (wpAny_holding ?_));show wpAny _ _ (Builtin.SmallTypes.nextOf (.ref i1) >>=_) _ _ _;exact wpAny_bind (mR hh (h1.at' λo e=>b1.extBut _ _ D.i1z e) hx λg2 e b2 he=>hE g2 e (λc o c1 _ c3 _ y=>b2 _ _ c3 (b1.extBut _ _ c1 y)) he)
theorem RC {z TI TO i1 i2 t:Addr} (D:Apart z TI TO i1 i2 t) (S:AB s.heap z TI TO i1 i2 t x tk items k) (hx:x.cps[k]?=some c) (hy:items[k]?=some y)
  (hQ:∀h' T u tk',AB h' z TI TO i1 i2 t x tk items (k+1)->IsPair h' T (.str ⟨#[c]⟩ u) y->s.heap.objs.size<=T->(∀b o,b≠z->b≠TO->b≠i1->b≠i2->s.heap.get? b=some o->h'.get? b=some o)->Q (some (.ref T)) {s with heap:=h',toks:=tk'}):
  wpAny (model prog w) A (pyNext (.ref z)) Q E s:=by
 have hT:s.TypeIs (.ref z) "zip":=let ⟨_,_,e,_⟩:=S.zip;⟨_,e,rfl⟩;unfold pyNext;exact wpAny_bind (wpAny_attempt (wpAny_callSpecial?_slot (name:=Str.ofString "__next__") hT F.slot_zip_next
  (wpAny_call_entry F.slot_zip_next hT F.entry_zip_next (IQ D S hx hy λh' T u tk' a1 a2 a3 a4=>wpAny_pure (hQ h' T u tk' a1 a2 a3 a4)) (F.args_zip_next_1 _))))
theorem YA {z TI TO i1 i2 t:Addr} (hh:A.handled=none) (D:Apart z TI TO i1 i2 t) (S:AB s.heap z TI TO i1 i2 t x tk items k) (hx:x.cps[k]?=none)
  (hQ:∀h',(∀b o,b≠z->b≠TO->b≠i1->b≠i2->s.heap.get? b=some o->h'.get? b=some o)->Q none {s with heap:=h'}):wpAny (model prog w) A (pyNext (.ref z)) Q E s:=by
 have hT:s.TypeIs (.ref z) "zip":=let ⟨_,_,e,_⟩:=S.zip;⟨_,e,rfl⟩;unfold pyNext;refine wpAny_bind (wpAny_attempt (wpAny_callSpecial?_slot (name:=Str.ofString "__next__") hT F.slot_zip_next
  (wpAny_call_entry F.slot_zip_next hT F.entry_zip_next (PU hh D S hx λh' e hk he=>?_) (F.args_zip_next_1 _))))
 obtain ⟨o,ho,hc⟩:=he;refine wpAny_bind (wpAny_isInstance (T:="StopIteration") (b:=true) ⟨o,ho,hc⟩ isSubtype_stop ?_);exact wpAny_pure (hQ _ hk)
end
theorem NN:entryFor table "zip.__getattribute__"=some Builtin.«object.__getattribute__»:=
 entryFor_alias (id':="object.__getattribute__") (by kernel_rfl) (by decide+kernel) (by decide+kernel) (by kernel_rfl)
theorem SE:typeLookup (.type "zip") "keys"=pure none:=by rw[typeLookup_type,builtinLookup_eq_fast];kernel_rfl
theorem BF:typeLookup (.type "zip") "__getattr__"=pure none:=by rw[typeLookup_type,builtinLookup_eq_fast];kernel_rfl
theorem BH (a:Addr) (vs:Array Value) (name:Str) (u:Tok) (hmiss:typeLookup (.type "zip") name=pure none) (hname:(["__module__","__name__","__qualname__","__doc__","__annotations__"]:List Str).contains name=false) (hsz:name.length+100<=sizeLine):
  Meets (Builtin.«object.__getattribute__» ⟨[.ref a,.str name u],[]⟩) (λA R s=>s.heap.get? a=some {cls:=.type "zip",dict:=none,data:=.fields vs,slots:=#[]}/\raisesAttr (.ref a) name A R s):=
 Meets.of_wp λprog w A R s hs=>by
  obtain ⟨hp,g,d,tk,os⟩:=s;obtain ⟨hx,hs⟩:=hs;have hT:(⟨hp,g,d,tk,os⟩:Shared).TypeIs (.ref a) "zip":=⟨_,hx,rfl⟩;unfold Builtin.«object.__getattribute__»
  repeat (any_goals (first|assumption|wp_step))
  simp only [hname,false_eq_true,if_false]
  repeat (any_goals (first|assumption|wp_step))
  exact wpAny_raiseAttrError hs.1 hs.2 (attrMsg_fits (by decide+kernel) hsz)
section
variable {prog:Program} {w:World} {A:Around} {E:Value->Shared->Prop} {s:Shared}
theorem vK (hx:s.heap.get? a=some {cls:=.type "zip",dict:=none,data:=.fields vs,slots:=#[]}) (hA:A.handled=none)
  (h:∀h' tk,(∀b o,s.heap.get? b=some o->h'.get? b=some o)->Q none {s with heap:=h',toks:=tk}):wpAny (model prog w) A (getAttr? (.ref a) "keys") Q E s:=by
 obtain ⟨hp,g,d,tk,os⟩:=s;have hT:∀tk',(⟨hp,g,d,tk',os⟩:Shared).TypeIs (.ref a) "zip":=λ_=>⟨_,hx,rfl⟩;have f1:=sub_AttributeError;have f3:=F.slot_zip_getattribute.lookup;have f4:=F.slot_zip_getattribute.bind (.ref a);have f5:=BF;unfold getAttr? getAttrBy? getAttrBy
 repeat (any_goals (first|assumption|exact hT _|((with_reducible show wpAny _ _ (call (Value.builtin "zip.__getattribute__") _ _) _ _ _);refine call_meets F.slot_zip_getattribute (hT _) NN (F.args_zip_getattribute_2 _ _) (BH a vs "keys" _ SE (by decide+kernel) (by decide+kernel)) ⟨hx,hA,λh' tk' e hx'=>?_⟩)|wp_step))
 obtain ⟨t',u',he⟩:=hx'.there;show wpAny _ _ (getattributeRaised _ _ _ _ _ _ _) _ _ _;unfold getattributeRaised
 repeat (any_goals (first|assumption|wp_step))
 exact h _ _ hx'.keeps
end
end ZD
namespace ZD
open PySem PySem.Spec PyProof.Rows
theorem gL:entryFor table "dict.update.loop"=some Builtin.«dict.update.loop»:=entryFor_of_tree (by kernel_rfl)
theorem cA:plainId "dict.update.loop"=true:=by decide+kernel
def storeAll {K:Type} [DecidableEq K] (kk:Nat->K) (items:Array Value):Nat->Nat->List (K × Value)->List (K × Value)
 |0,_,kvs=>kvs
 |n+1,k,kvs=>storeAll kk items n (k+1) (stored kvs (kk k) (items[k]?.getD .none))
theorem AS {K:Type} [DecidableEq K] (kvs:List (K × Value)) (k:K) (v:Value):(stored kvs k v).length<=kvs.length+1:=by
 unfold stored;split
 ·simp
 ·simp
theorem AB.but {d z TI TO i1 i2 t:Addr} (y:AB h z TI TO i1 i2 t x tk items k) (sb:SameBut d h h') (d1:d≠z) (d2:d≠TO) (d3:d≠i1) (d4:d≠i2) (d5:d≠TI) (d6:d≠t) (ob:∃o,h'.get? d=some o):
  AB h' z TI TO i1 i2 t x tk items k:=by
 obtain ⟨⟨f0,f1,e,r⟩,p1,⟨a,b,p2⟩,s1,s2⟩:=y;refine ⟨⟨f0,f1,sb.extBut _ _ d1.symm e,?_⟩,sb.extBut _ _ d5.symm p1,⟨a,b,sb.extBut _ _ d2.symm p2⟩,s1.at' λo e=>sb.extBut _ _ d3.symm e,s2.at (λo e=>sb.extBut _ _ d4.symm e) λo e=>sb.extBut _ _ d6.symm e⟩;rcases r with r|⟨a,o,r1,r2,r3⟩
 ·exact .inl r
 ·by_cases ha:a=d
  ·obtain ⟨o',e'⟩:=ob;exact .inr ⟨a,o',r1,by rw[ha];exact e',r3⟩
  ·exact .inr ⟨a,o,r1,sb.extBut _ _ ha r2,r3⟩
section
variable {prog:Program} {w:World} {A:Around} {K:Type} [DecidableEq K] {knd:KeyKind prog w K} {R:Result->Shared->Prop} {d z TI TO i1 i2 t:Addr} {x:Str} {tk:Tok} {items:Array Value}
theorem IZ (hk:∀i c u,x.cps[i]?=some c->knd.is (kk i) (.str ⟨#[c]⟩ u)=true) (D:Apart z TI TO i1 i2 t) (hh:A.handled=none) (d1:d≠z) (d2:d≠TO) (d3:d≠i1) (d4:d≠i2) (d5:d≠TI) (d6:d≠t) (hsz:x.cps.size=items.size) (hle:x.cps.size<=1000):
  ∀(n k:Nat) (j:Int) (s:Shared) (kvs:List (K × Value)),k+n=x.cps.size->AB s.heap z TI TO i1 i2 t x tk items k->s.heap.DictOf knd d kvs->kvs.length<=k->
   (∀h' tk',h'.DictOf knd d (storeAll kk items n k kvs)->(∀b o,b≠z->b≠TO->b≠i1->b≠i2->b≠d->s.heap.get? b=some o->h'.get? b=some o)->R (.ok (.ret .none)) {s with heap:=h',toks:=tk'})->
   codeAny (model prog w) A (.builtin "dict.update.loop" ⟨[.ref d,.ref z,rawInt j,.none],[]⟩) R s:=by
 intro n;induction n with
 |zero=>
  intro k j s kvs hkn S hd hl hR;refine codeAny_builtin gL ?_;rw[Around.under_plainId cA _];show wpAny _ A.in1 (pyNext (.ref z) >>=_) _ _ s;refine wpAny_bind (YA hh D S (by simp;lia) λh' hk'=>?_);show wpAny _ _ (Builtin.Dict.addKeywords d [] >>=_) _ _ _;refine wpAny_bind (wpAny_pure (wpAny_pure ?_));exact hR h' s.toks (let ⟨o,es,ep,ho,r⟩:=hd;⟨o,es,ep,hk' d o d1 d2 d3 d4 ho,r⟩) λb o b1 b2 b3 b4 _ e=>hk' b o b1 b2 b3 b4 e
 |succ n ih=>
  intro k j s kvs hkn S hd hl hR;have hkx:k<x.cps.size:=by lia
  have hx:x.cps[k]?=some x.cps[k]:=by simp [hkx]
  have hy:items[k]?=some items[k]:=by simp
  refine codeAny_builtin gL ?_;rw[Around.under_plainId cA _];show wpAny _ A.in1 (pyNext (.ref z) >>=_) _ _ s;refine wpAny_bind (RC D S hx hy λh' T u tk' S' pT hT hk'=>?_);refine wpAny_bind (wpAny_holding ?_);have hTy:(⟨h',s.gens,s.drawn,tk',s.os⟩:Shared).TypeIs (.ref T) "tuple":=⟨_,pT,rfl⟩;refine wpAny_bind (wpAny_tryCatch ?_);unfold Builtin.Dict.pairItems;refine wpAny_bind (wpAny_typeOf hTy ?_);rw[if_pos (by decide)];refine wpAny_bind (wpAny_seqItems (s:=⟨h',s.gens,s.drawn,tk',s.os⟩) pT rfl (wpAny_pure ?_));show wpAny _ _ (holding [.str ⟨#[x.cps[k]]⟩ u,items[k]] (dictSet d (.str ⟨#[x.cps[k]]⟩ u) items[k])) _ _ _;have hd':h'.DictOf knd d kvs:=let ⟨o,es,ep,ho,r⟩:=hd;⟨o,es,ep,hk' d o d1 d2 d3 d4 ho,r⟩;refine wpAny_holding (wpAny_dictSet_pairs (s:=⟨h',s.gens,s.drawn,tk',s.os⟩) (hk k _ u hx) hd' (λh2 hd2 sb=>?_) (le_of_lt (Nat.lt_of_le_of_lt (show kvs.length<=1000 by lia) (by decide))));refine wpAny_pure ⟨plainId_quiet cA _,?_⟩;have ob:∃o,h2.get? d=some o:=let ⟨o,_,_,ho,_⟩:=hd2;⟨o,ho⟩;refine ih (k+1) (j+1) _ _ (by lia) (S'.but sb d1 d2 d3 d4 d5 d6 ob) hd2 ?_ (λh3 tk3 hd3 hk3=>?_)
  ·have:=AS kvs (kk k) items[k];lia
  ·have e:storeAll kk items (n+1) k kvs=storeAll kk items n (k+1) (stored kvs (kk k) items[k]):=by
    show storeAll kk items n (k+1) (stored kvs (kk k) (items[k]?.getD .none))=_;rw[hy];rfl
   refine hR h3 tk3 (by rw[e];exact hd3) λb o b1 b2 b3 b4 b5 eb=>hk3 b o b1 b2 b3 b4 b5 (sb.extBut b o b5 (hk' b o b1 b2 b3 b4 eb))
end
end ZD
namespace ZD
open PySem PySem.Spec PyProof.Rows
abbrev zA (h:Heap) (x:Str) (tk:Tok):Heap:=h.push {cls:=.type "str_ascii_iterator",data:=.fields #[.str x tk,.int 0 0]}
abbrev zB (T:String) (h:Heap) (x:Str) (tk:Tok) (t:Addr):Heap:=(zA h x tk).push {cls:=.type T,data:=.fields #[.ref t,.int 0 0]}
abbrev zC (T:String) (h:Heap) (x:Str) (tk:Tok) (t:Addr):Heap:=(zB T h x tk t).push {cls:=.type "tuple",data:=.seq #[.ref h.objs.size,.ref (zA h x tk).objs.size]}
abbrev zD (T:String) (h:Heap) (x:Str) (tk:Tok) (t:Addr):Heap:=(zC T h x tk t).push {cls:=.type "tuple",data:=.seq #[.none,.none]}
abbrev zE (T:String) (h:Heap) (x:Str) (tk:Tok) (t:Addr):Heap:=(zD T h x tk t).push {cls:=.type "zip",data:=.fields #[.none,.bool false,.bool false,.ref (zB T h x tk t).objs.size,.ref (zC T h x tk t).objs.size]}
theorem GR (x:Str) (tk:Tok) (t:Addr) (items:Array Value) (ha:x.cps.all (·<128)=true):
  Meets (Builtin.«zip.__new__» ⟨[.type "zip",.str x tk,.ref t],[]⟩) (λ_ R s=>s.heap.IsTuple t items/\R (.ok (.ret (.ref (zD "tuple_iterator" s.heap x tk t).objs.size))) {s with heap:=zE "tuple_iterator" s.heap x tk t}):=
 .of_wp λprog w A R s h=>by
  obtain ⟨hp,g,d,tks,os⟩:=s;obtain ⟨ht,h⟩:=h;have hsub:=sub_zip;have hT:Heap.IsTuple (Shared.heap ⟨hp.push {cls:=.type "str_ascii_iterator",data:=.fields #[.str x tk,.int 0 0]},g,d,tks,os⟩) t items:=let ⟨o,e,r⟩:=ht;⟨o,get?_push_of_some _ e,r⟩
  wp_walk using wpAny_pyIter_ascii (t:=tk) ha,wpAny_pyIter_tuple hT
  exact ⟨_,rfl,h⟩
theorem BG (x:Str) (tk:Tok) (t:Addr) (items:Array Value) (ha:x.cps.all (·<128)=true):
  Meets (Builtin.«zip.__new__» ⟨[.type "zip",.str x tk,.ref t],[]⟩) (λ_ R s=>s.heap.IsList t items/\R (.ok (.ret (.ref (zD "list_iterator" s.heap x tk t).objs.size))) {s with heap:=zE "list_iterator" s.heap x tk t}):=
 .of_wp λprog w A R s h=>by
  obtain ⟨hp,g,d,tks,os⟩:=s;obtain ⟨ht,h⟩:=h;have hsub:=sub_zip;have hT:Heap.IsList (Shared.heap ⟨hp.push {cls:=.type "str_ascii_iterator",data:=.fields #[.str x tk,.int 0 0]},g,d,tks,os⟩) t items:=let ⟨o,e,r⟩:=ht;⟨o,get?_push_of_some _ e,r⟩
  wp_walk using wpAny_pyIter_ascii (t:=tk) ha,wpAny_pyIter_list hT
  exact ⟨_,rfl,h⟩
section
variable {prog:Program} {w:World} {A:Around} {E:Value->Shared->Prop} {s:Shared}
theorem IP (T:String) (hT:T="tuple_iterator"\/T="list_iterator") {x:Str} {tk:Tok} {t:Addr} {items:Array Value} {Q:Value->Shared->Prop} (ht:(T="tuple_iterator"/\s.heap.IsTuple t items)\/(T="list_iterator"/\s.heap.IsList t items))
  (h:∀h',AB h' (s.heap.objs.size+4) (s.heap.objs.size+2) (s.heap.objs.size+3) s.heap.objs.size (s.heap.objs.size+1) t x tk items 0->h'.objs.size=s.heap.objs.size+5->(∀c o,s.heap.get? c=some o->h'.get? c=some o)->Q (.ref (s.heap.objs.size+4)) {s with heap:=h'}):
  ({s with heap:=zE T s.heap x tk t}:Shared).TypeIs (.ref (zD T s.heap x tk t).objs.size) "zip"/\Q (.ref (zD T s.heap x tk t).objs.size) {s with heap:=zE T s.heap x tk t}:=by
 have z1:(zA s.heap x tk).objs.size=s.heap.objs.size+1:=Heap.size_push ..;have z2:(zB T s.heap x tk t).objs.size=s.heap.objs.size+2:=by rw[Heap.size_push,z1]
 have z3:(zC T s.heap x tk t).objs.size=s.heap.objs.size+3:=by rw[Heap.size_push,z2]
 have z4:(zD T s.heap x tk t).objs.size=s.heap.objs.size+4:=by rw[Heap.size_push,z3]
 have z5:(zE T s.heap x tk t).objs.size=s.heap.objs.size+5:=by rw[Heap.size_push,z4]
 have g5:(zE T s.heap x tk t).get? (zD T s.heap x tk t).objs.size=some _:=get?_push_size _ rfl;have g4:(zE T s.heap x tk t).get? (zC T s.heap x tk t).objs.size=some _:=get?_push_of_some _ (get?_push_size _ rfl);have g3:(zE T s.heap x tk t).get? (zB T s.heap x tk t).objs.size=some _:=get?_push_of_some _ (get?_push_of_some _ (get?_push_size _ rfl));have g2:(zE T s.heap x tk t).get? (zA s.heap x tk).objs.size=some _:=get?_push_of_some _ (get?_push_of_some _ (get?_push_of_some _ (get?_push_size _ rfl)));have g1:(zE T s.heap x tk t).get? s.heap.objs.size=some _:=get?_push_of_some _ (get?_push_of_some _ (get?_push_of_some _ (get?_push_of_some _ (get?_push_size _ rfl))));have up:∀c o,s.heap.get? c=some o->(zE T s.heap x tk t).get? c=some o:=λc o y=>get?_push_of_some _ (get?_push_of_some _ (get?_push_of_some _ (get?_push_of_some _ (get?_push_of_some _ y))));rw[z2,z3,z4] at g5;rw[z1,z2] at g3;rw[z3] at g4;rw[z1] at g2;rw[z4];refine ⟨⟨_,g5,rfl⟩,h _ ⟨⟨_,_,g5,.inl rfl⟩,g3,⟨_,_,g4⟩,⟨_,.inl rfl,_,g1,rfl,rfl⟩,?_⟩ z5 up⟩;rcases ht with ⟨rfl,o,e,r⟩|⟨rfl,o,e,r⟩
 ·exact .inl ⟨⟨_,g2,rfl,rfl⟩,o,up _ _ e,r⟩
 ·exact .inr ⟨⟨_,g2,rfl,rfl⟩,o,up _ _ e,r⟩
theorem OE (ha:x.cps.all (·<128)=true) (ht:s.heap.IsTuple t items\/s.heap.IsList t items)
  (h:∀h',AB h' (s.heap.objs.size+4) (s.heap.objs.size+2) (s.heap.objs.size+3) s.heap.objs.size (s.heap.objs.size+1) t x tk items 0->h'.objs.size=s.heap.objs.size+5->(∀c o,s.heap.get? c=some o->h'.get? c=some o)->Q (.ref (s.heap.objs.size+4)) {s with heap:=h'}):
  wpAny (model prog w) A (call (.type "zip") [.str x tk,.ref t]) Q E s:=by
 rcases ht with ht|ht
 ·exact callType_new F.called_zip (by decide) (F.typeCall_zip_2 _ _) (F.newCall_zip_2 _ _) (λobj=>F.args_object_init_3 obj _ _) F.entry_zip_new (GR x tk t items ha) ⟨ht,IP "tuple_iterator" (.inl rfl) (.inl ⟨rfl,ht⟩) h⟩
 ·exact callType_new F.called_zip (by decide) (F.typeCall_zip_2 _ _) (F.newCall_zip_2 _ _) (λobj=>F.args_object_init_3 obj _ _) F.entry_zip_new (BG x tk t items ha) ⟨ht,IP "list_iterator" (.inr rfl) (.inr ⟨rfl,ht⟩) h⟩
theorem apart_new {n t:Nat} (h:t<n):Apart (n+4) (n+2) (n+3) n (n+1) t:=by
 constructor<;>(intro (e:(_:Nat)=_);lia)
end
end ZD
namespace ZD
open PySem PySem.Spec PyProof.Rows
section
variable {prog:Program} {w:World} {A:Around} {E:Value->Shared->Prop} {s:Shared}
theorem zK {K:Type} [DecidableEq K] {knd:KeyKind prog w K} {z TI TO i1 i2 t:Addr} {x:Str} {tk:Tok} {items:Array Value} {kk:Nat->K} {Q:Value->Shared->Prop} (hk:∀i c u,x.cps[i]?=some c->knd.is (kk i) (.str ⟨#[c]⟩ u)=true) (D:Apart z TI TO i1 i2 t) (hh:A.handled=none)
  (hsz:x.cps.size=items.size) (hle:x.cps.size<=1000) (S:AB s.heap z TI TO i1 i2 t x tk items 0)
  (h:∀h' d tk',s.heap.objs.size<=d->h'.DictOf knd d (storeAll kk items x.cps.size 0 [])->(∀b o,b≠z->b≠TO->b≠i1->b≠i2->s.heap.get? b=some o->h'.get? b=some o)->Q (.ref d) {s with heap:=h',toks:=tk'}):
  wpAny (model prog w) A (call (.type "dict") [.ref z]) Q E s:=by
 refine callType_codes (Q₁:=λobj aa=>obj=.ref s.heap.objs.size/\aa={s with heap:=s.heap.push {cls:=.type "dict",data:=.dict #[]}}) F.kt_called_dict (F.kt_typeCall_dict_1 _) F.entry_dict_init (kt_code_dict_new _ ⟨rfl,rfl⟩) ?_;rintro obj aa ⟨rfl,rfl⟩;have hnew:(s.heap.push {cls:=.type "dict",data:=.dict #[]}).DictOf knd s.heap.objs.size []:=DictOf.new s.heap;have S1:=S.keep (h':=s.heap.push {cls:=.type "dict",data:=.dict #[]}) λb o e=>get?_push_of_some _ e;refine ⟨hnew.typeIs,F.args_dict_init_2 _ _,?_⟩;unfold Builtin.«dict.__init__»;refine wpAny_bind ?_;unfold Builtin.Dict.selfAndRest;refine wpAny_bind (wpAny_notOrdered_dict hnew.typeIs ?_);show wpAny _ _ (pure (s.heap.objs.size,[Value.ref z])) _ _ _;refine wpAny_pure ?_;show wpAny _ _ (Builtin.Dict.updateFrom "dict.__init__" s.heap.objs.size (.ref z) [] .none) _ _ _;unfold Builtin.Dict.updateFrom;obtain ⟨f0,f1,ez,_⟩:=S1.zip;have hTz:(⟨s.heap.push {cls:=.type "dict",data:=.dict #[]},s.gens,s.drawn,s.toks,s.os⟩:Shared).TypeIs (.ref z) "zip":=⟨_,ez,rfl⟩;refine wpAny_bind (wpAny_typeOf hTz ?_);rw[if_pos (by decide)];refine wpAny_bind (vK ez hh λh1 tk1 k1=>?_);simp only [Option.isNone_none,if_true];refine wpAny_bind (wpAny_rule ?_);have S2:=S1.keep k1;obtain ⟨f0',f1',ez2,_⟩:=id S2.zip;have hT2:(⟨h1,s.gens,s.drawn,tk1,s.os⟩:Shared).TypeIs (.ref z) "zip":=⟨_,ez2,rfl⟩;have lt:∀{b:Addr} {o:Obj},s.heap.get? b=some o->s.heap.objs.size≠b:=λe=>ne_of_gt (lt_size e);obtain ⟨⟨g0,g1,e0,_⟩,e1,⟨pa,pb,e2⟩,s1,s2⟩:=id S;refine wpAny_bind ?_;refine wpAny_pyIter_slot hT2 F.slot_zip_iter (wpAny_call_entry F.slot_zip_iter hT2 F.entry_zip_iter ?_ (F.args_zip_iter_1 _));show wpAny _ _ (ret (.ref z)) _ _ _;refine wpAny_pure ⟨_,rfl,"zip",_,hT2,F.slot_zip_next.lookup,?_⟩;refine wpAny_pure ⟨plainId_quiet cA _,?_⟩;have hd1:h1.DictOf knd s.heap.objs.size []:=let ⟨o,es,ep,ho,r⟩:=hnew;⟨o,es,ep,k1 _ o ho,r⟩;refine IZ (A:=A.in1) hk D hh (lt e0) (lt e2) (ne_of_gt s1.lt) (ne_of_gt s2.lt) (lt e1) (ne_of_gt s2.ltT) hsz hle x.cps.size 0 0 ⟨h1,s.gens,s.drawn,tk1,s.os⟩ [] (by lia) S2 hd1 (zero_le _) λh2 tk2 hd2 hk2=>?_;refine ⟨rfl,?_⟩;exact h h2 _ tk2 (Nat.le_refl _) hd2 λb o b1 b2 b3 b4 e=>hk2 b o b1 b2 b3 b4 (lt e).symm (k1 b o (get?_push_of_some _ e))
end
end ZD
namespace L2.L3
open PySem PySem.Spec PyProof.Rows
section
variable {X:Cx}
theorem oX:∀{us:List Value},Vals (ys.map V.str) us->StrsAre us ys:=by
 induction ys with
 |nil=>intro us r;rw[map_nil] at r;cases r;exact .nil
 |cons y ys ih=>
  intro us r;rw[map_cons] at r;cases r with
  |cons r1 r2=>
   obtain ⟨t,e⟩:=r1;subst e;exact .cons y t (ih r2)
def rJoin:V->List V->Hp->VK->Prop:=λx vs H Q=>∃(z:Str) (p:Addr) (ys:List Str),x=.str z/\vs=[.ref p]/\H p=some (.lst (ys.map V.str))/\(ys.map (·.length)).sum+ys.length * z.length<=16777216/\Q (.str (Txt.join z ys)) H
theorem SH:UZ X "str.join" rJoin:=by
 intro pins s σ H x vs v us Q I rx rv h;obtain ⟨z,p,ys,rfl,rfl,hp,hok,q⟩:=h;obtain ⟨t,rfl⟩:=rx;obtain ⟨u,rfl,ru⟩:=rv.one;cases (show u=Value.ref p from ru);obtain ⟨hz,its,n,r,hl,e⟩:=I.lstM hp;have isl:s.heap.IsList p its.toArray:=⟨_,e,rfl,n,rfl⟩;exact join_list isl (oX r) hok λt' k=>⟨.str _,H,I.tok k,⟨t',rfl⟩,q⟩
def XT (K:Fg):V->List V->Hp->VK->Prop:=λx vs H Q=>∃(z:Str) (p:Addr) (ys:List Str),x=.str z/\vs=[.ref p]/\cZ K H p (ys.map V.str)/\(ys.map (·.length)).sum+ys.length * z.length<=16777216/\Q (.str (Txt.join z ys)) H
theorem LL:UZ X "str.join" (XT X.K):=by
 intro pins s σ H x vs v us Q I rx rv h;obtain ⟨z,p,ys,rfl,rfl,hp,hok,q⟩:=h;obtain ⟨t,rfl⟩:=rx;obtain ⟨u,rfl,ru⟩:=rv.one;cases (show u=Value.ref p from ru);obtain ⟨its,r,ht,hz⟩:=I.tuple hp;exact join_tuple ht (oX r) hok λt' k=>⟨.str _,H,I.tok k,⟨t',rfl⟩,q⟩
def XX:V->List V->Hp->VK->Prop:=λx vs H Q=>∃(z y:Str),x=.str z/\vs=[.str y]/\Q (.int (Txt.count z y)) H
theorem LO:UZ X "str.count" XX:=by
 intro pins s σ H x vs v us Q I rx rv h;obtain ⟨z,y,rfl,rfl,q⟩:=h;obtain ⟨t,rfl⟩:=rx;obtain ⟨u,rfl,ru⟩:=rv.one;obtain ⟨t2,rfl⟩:=ru;exact SC.count ⟨.int _,H,I.tok _,⟨_,rfl⟩,q⟩
def XU:V->List V->Hp->VK->Prop:=λx vs H Q=>∃(z y:Str) (i:Nat) (rest:List Nat),x=.str z/\vs=[.str y]/\Builtin.Str.occurrences z y 0 z.length 1=i::rest/\Q (.int i) H
theorem LM:UZ X "str.index" XU:=by
 intro pins s σ H x vs v us Q I rx rv h;obtain ⟨z,y,i,rest,rfl,rfl,ho,q⟩:=h;obtain ⟨t,rfl⟩:=rx;obtain ⟨u,rfl,ru⟩:=rv.one;obtain ⟨t2,rfl⟩:=ru;exact SC.index ho ⟨.int _,H,I.tok _,⟨_,rfl⟩,q⟩
def XR:List V->Hp->VK->Prop:=λxs H Q=>∃(p:Addr) (ns:List Int),xs=[.ref p]/\H p=some (.lst (ns.map V.int))/\Q (.int ns.sum) H
theorem OF (hc:X.calm=true):bS X (.builtin "sum") XR:=by
 intro pins s σ H xs us Q I rv h;obtain ⟨p,ns,rfl,hp,q⟩:=h;obtain ⟨u,rfl,ru⟩:=rv.one;cases (show u=Value.ref p from ru);obtain ⟨hz,its,n,r,hl,e⟩:=I.lstM hp;have isl:s.heap.IsList p its.toArray:=⟨_,e,rfl,n,rfl⟩;have hi:=intsAre_of r;have hn:numsOf its=ns:=hi.numsOf;obtain ⟨ys,ey⟩:=hi.allInts.items;have en:numsOf its=numsOf (intItems ys).toList:=by rw[<-ey]
 rw[ey] at isl;refine sum_intListG (I.ok.hd hc) isl λh' tk t' hk=>⟨.int ns.sum,H,I.kept (t':=tk) hk,⟨t',?_⟩,q⟩;rw[preSum_eq,take_of_length_le (by simp),<-hn,en,nums_intItems]
theorem stored_new {K:Type} [DecidableEq K] {kvs:List (K × Value)} {k:K} {v:Value} (h:∀p∈kvs,p.1≠k):stored kvs k v=kvs++[(k,v)]:=by
 unfold stored;rw[if_neg];intro z;obtain ⟨p,hp,e⟩:=any_eq_true.mp z;exact h p hp (of_decide_eq_true e)
theorem hJ {K:Type} [DecidableEq K] {kk:Nat->K} {items:Array Value}:∀(n k:Nat),(∀i j,i<k+n->j<k+n->kk i=kk j->i=j)->
  ZD.storeAll kk items n k ((range k).map λi=>(kk i,items[i]?.getD .none))=(range (k+n)).map λi=>(kk i,items[i]?.getD .none)
 |0,k,_=>rfl
 |n+1,k,hi=>by
  show ZD.storeAll kk items n (k+1) (stored _ (kk k) (items[k]?.getD .none))=_;rw[stored_new]
  ·have ih:=hJ (kk:=kk) (items:=items) n (k+1) (λi j a b=>hi i j (by lia) (by lia));rw[range_succ,map_append] at ih;rw[show k+(n+1)=k+1+n by lia];exact ih
  ·intro p hp;obtain ⟨i,hm,rfl⟩:=mem_map.mp hp;have hlt:=mem_range.mp hm;intro e;have:=hi i k (by lia) (by lia) e;lia
theorem pO {α β γ:Type} {R:β->γ->Prop} {f:α->β} {g:α->γ}:∀(l:List α),(∀a∈l,R (f a) (g a))->Paired R (l.map f) (l.map g)
 |[],_=>.nil
 |a::l,h=>.cons (h a mem_cons_self) (pO l λb hb=>h b (mem_cons_of_mem _ hb))
def fW (x:Str) (i:Nat):Key:=.inr ⟨#[x.cps.getD i 0]⟩
def jC (x:Str) (ws:List V):List (Key × V):=(range x.cps.size).map λi=>(fW x i,ws[i]?.getD .non)
def Mt (K:Fg) (ta:TA):TE:=λσ H Q=>ta σ H λvs H1=>∃(x:Str) (t:Addr) (ws:List V),vs=[.str x,.ref t]/\(cZ K H1 t ws\/aP K H1 t ws)/\x.cps.size=ws.length/\x.cps.size<=1000/\x.cps.all (·<128)=true/\(∀i j,i<x.cps.size->j<x.cps.size->fW x i=fW x j->i=j)/\
 ∀d,H1 d=none->Q (.ref d) (upd H1 d (.dK (jC x ws)))
theorem Bk {pins:List (Addr × Obj)} {σ:St} {H:Hp} {s:Shared} {Q:VK} {x:Str} {tk:Tok} {t:Addr} {ws:List V} (hc:X.calm=true) (I:Inv X pins σ H s) (ht:cZ X.K H t ws\/aP X.K H t ws) (hl:x.cps.size=ws.length) (hle:x.cps.size<=1000) (ha:x.cps.all (·<128)=true)
  (hinj:∀i j,i<x.cps.size->j<x.cps.size->fW x i=fW x j->i=j) (q:∀d,H d=none->Q (.ref d) (upd H d (.dK (jC x ws)))):
  wpAny (model X.prog X.w) X.A (call (.type "zip") [.str x tk,.ref t]) (λz s1=>wpAny (model X.prog X.w) X.A (call (.type "dict") [z]) (EP X pins σ Q) X.xe s1) X.xe s:=by
 obtain ⟨its,r,it,hlt⟩:∃its:List Value,Vals ws its/\(s.heap.IsTuple t its.toArray\/s.heap.IsList t its.toArray)/\t<s.heap.objs.size:=by
  rcases ht with ht|ht
  ·obtain ⟨its,r,it,hz⟩:=I.tuple ht;exact ⟨its,r,.inl it,let ⟨o,e,_⟩:=it;lt_size e⟩
  ·obtain ⟨its,r,it,hz⟩:=I.list ht;exact ⟨its,r,.inr it.isList,let ⟨o,n,e,_⟩:=it;lt_size e⟩
 have hlen:ws.length=its.length:=r.length;refine ZD.OE ha it λh1 S1 sz1 k1=>?_;refine ZD.zK (s:={s with heap:=h1}) (knd:=aW X.prog X.w) (kk:=fW x) (λi c u hx=>?_) (ZD.apart_new hlt) (I.ok.hd hc) (by rw[hl,hlen,size_toArray]) hle S1 λh2 d tk2 hd hdict k2=>?_
 ·show kT (.inr ⟨#[x.cps.getD i 0]⟩) (.str ⟨#[c]⟩ u)=true;have e:x.cps.getD i 0=c:=by
   rw[getD_eq_getD_getElem?,hx];rfl
  rw[e];exact sU _ _
 ·have hd':s.heap.objs.size<=d:=by
   have:h1.objs.size<=d:=hd;lia
  have kept:∀b o,s.heap.get? b=some o->h2.get? b=some o:=λb o e=>by
   have lb:b<s.heap.objs.size:=lt_size e;exact k2 b o (ne_of_lt (Nat.lt_add_right _ lb)) (ne_of_lt (Nat.lt_add_right _ lb)) (ne_of_lt lb) (ne_of_lt (Nat.lt_add_right _ lb)) (k1 b o e)
  have e0:=hJ (kk:=fW x) (items:=its.toArray) x.cps.size 0 (λi j a b=>hinj i j (by lia) (by lia));have e1:ZD.storeAll (fW x) its.toArray x.cps.size 0 []=(range x.cps.size).map λi=>(fW x i,its.toArray[i]?.getD .none):=by
   rw[show 0+x.cps.size=x.cps.size by lia] at e0;exact e0
  rw[e1] at hdict;have hrel:KV (jC x ws) ((range x.cps.size).map λi=>(fW x i,its.toArray[i]?.getD .none)):=by
   refine pO _ λi hi=>⟨rfl,?_⟩;have hi':=mem_range.mp hi;have hw:ws[i]?=some (ws[i]'(by lia)):=List.getElem?_eq_getElem (by lia);obtain ⟨u,hu,ru⟩:=r.get hw;have hu':its.toArray[i]?=some u:=by simpa using hu
   show RelV (ws[i]?.getD .non) (its.toArray[i]?.getD .none);rw[hw,hu'];exact ru
  refine ⟨.ref d,upd H d (.dK (jC x ws)),?_,rfl,q d (I.hok.fresh hd')⟩;refine I.laid (t':=tk2) kept hd' ⟨?_,beq_eq_false_iff_ne.mpr (Ne.symm (ne_of_lt (Nat.lt_of_lt_of_le (OL I) hd'))),_,hrel,hdict⟩;show (jC x ws).length<=sizeLine;unfold jC;rw[length_map,length_range];exact le_of_lt (FR hle)
theorem BB {p1 p2 pos1 pos2:Pos} (hc:X.calm=true) (hgd:Gl X "dict") (hmd:X.mg "dict"=none) (hgz:Gl X "zip") (hmz:X.mg "zip"=none) (ha:PA X [a,b] ta)
  (hs:starEach [a,b] X.env=(false,eval a X.env)::starEach [b] X.env:=by rfl) (hpl:(backTo pos2 (starEach [b] X.env)).any (·.1)=false:=by rfl)
  (hs1:starEach [.Call (.Name "zip" p2) [a,b] [] pos2] X.env=(false,eval (.Call (.Name "zip" p2) [a,b] [] pos2) X.env)::starEach [] X.env:=by rfl) (hpl1:(backTo pos1 (starEach [] X.env)).any (·.1)=false:=by rfl):
  PE X (.Call (.Name "dict" p1) [.Call (.Name "zip" p2) [a,b] [] pos2] [] pos1) (Mt X.K ta):=by
 intro pins s σ H Q I h;refine wpAny_Call_Name_kw (fQ I hgd hmd PyProof.Rows.Boot.dict ?_ (by decide) (by decide));refine PyProof.Rows.callWith_type1 ?_ hs1 hpl1;rw[hs1];show wpAny _ _ (spliced ((false,eval (.Call (.Name "zip" p2) [a,b] [] pos2) X.env)::backTo pos1 (starEach [] X.env))) _ _ s;refine Calls.spliced_cons ?_;refine bU (Q:=λz s1=>wpAny (model X.prog X.w) X.A (call (.type "dict") [z]) (EP X pins σ Q) X.xe s1) ?_ λz s1 hz=>Calls.spliced_nil hz;refine wpAny_Call_Name_kw (fQ I hgz hmz PyProof.Rows.Boot.zip ?_ (by decide) (by decide));refine PyProof.Rows.callWith_type1 (bU (ha pos2 pins s σ H _ I h) λus s1 ⟨vs,H1,I1,r1,q1⟩=>?_) hs hpl;obtain ⟨x,t,ws,rfl,ht,hl,hle,hasc,hinj,q⟩:=q1;obtain ⟨u,v,rfl,ru,rv⟩:=r1.two;obtain ⟨tk,rfl⟩:=ru;cases (show v=Value.ref t from rv);exact Bk hc I1 ht hl hle hasc hinj q
theorem sF {n:Nat} {key:Nat->Key} {f:Nat->V} {j:Nat} (hinj:∀i j,i<n->j<n->key i=key j->i=j) (hj:j<n):dJ ((range n).map λi=>(key i,f i)) (key j)=some (f j):=by
 unfold dJ;rw[List.find?_map];have e:(range n).find? ((λkv:Key × V=>decide (kv.1=key j))∘λi=>(key i,f i))=some j:=by
  cases q:(range n).find? ((λkv:Key × V=>decide (kv.1=key j))∘λi=>(key i,f i)) with
  |none=>
   have z:=List.find?_eq_none.mp q j (mem_range.mpr hj);simp at z
  |some i=>
   have z1:=mem_range.mp (List.mem_of_find?_eq_some q);have z2:=List.find?_some q;have z3:key i=key j:=of_decide_eq_true z2;rw[hinj i j z1 hj z3]
 rw[e];rfl
end
section
variable {X:Cx} {pins:List (Addr × Obj)} {σ:St} {H:Hp} {s:Shared}
theorem Inv.but (I:Inv X pins σ H s) (hs:SameBut C s.heap h') (hC:X.s₀.heap.objs.size<=C) (hL:X.env.locals≠C) (hcl:∀x c,X.env.cells.lookup x=some c->c≠C) (hp:∀p∈X.pn++pins,p.1≠C) (hn:H C=none):
  Inv X pins σ H {s with heap:=h'}:=by
 have kp:∀b o,b≠C->s.heap.get? b=some o->h'.get? b=some o:=λb o hb e=>(hs.2 b hb).trans e;obtain ⟨m,hm,hl⟩:=I.loc;have cells:∀c v,c≠C->s.heap.IsCell c v->h'.IsCell c v:=λc v hc ⟨o,e,d⟩=>⟨o,kp _ _ hc e,d⟩;refine ⟨I.ok,I.os,I.bare,Un.but I.base hs hC,⟨m,hm.sameBut hs hL,λi x v e1 e2 e3=>?_⟩,λx c e=>?_,I.free,I.freeC,λp hpp=>⟨kp _ _ (hp p hpp) (I.pin p hpp).1,(I.pin p hpp).2⟩,eE.but I.hok hs hn,I.len⟩
 ·obtain ⟨u,r,l⟩:=hl i x v e1 e2 e3;refine ⟨u,r,?_⟩;rcases l with l|⟨hk,c,hc,hcell⟩
  ·exact .inl l
  ·exact .inr ⟨hk,c,hc,cells c _ (hcl x c hc) hcell⟩
 ·obtain ⟨v,hv⟩:=I.cell x c e;exact ⟨v,cells c v (hcl x c e) hv⟩
theorem wL {env:Env} (Iv:Nat->Shared->Prop)
  (turn:∀n s,Iv n s->wpAny (model prog w) A (pyNext it) (λr s1=>match r with
   |none=>R (.ok .next) s1
   |some v=>wpAny (model prog w) A (letOwnedTupleGo target it v) (λ_ s1'=>wpAny (model prog w) A (assign target env v) (λ_ s2=>
     wpAny (model prog w) A (forIn ifs true λc r=>if r=true then do let ok <-isTrue c env (eval c env);pure (ForInStep.yield ok) else pure (ForInStep.yield r)) (λok s3=>
      if ok=true then wpAny (model prog w) A (eval elt env) (λx s4=>wpAny (model prog w) A (call (.builtin "list.append") [acc,x]) (λ_ s5=>∃m,m<n/\Iv m s5) (notedBy (model prog w) A env λe s'=>R (.error e) s') s4) (notedBy (model prog w) A env λe s'=>R (.error e) s') s3
      else ∃m,m<n/\Iv m s3) (notedBy (model prog w) A env λe s'=>R (.error e) s') s2)
     (notedBy (model prog w) A env λe s'=>R (.error e) s') s1') (notedBy (model prog w) A env λe s'=>R (.error e) s') s1) (notedBy (model prog w) A env λe s'=>R (.error e) s') s)
  (n:Nat) (h:Iv n s):codeAny (model prog w) A (.compLoop (.ListComp elt [⟨target,iter,ifs,0⟩] scope pos) 0 it acc env) R s:=by
 refine codeAny_loop rfl Iv (λn s hI=>?_) n h;show wpAny _ _ ((compTurn (.ListComp elt [⟨target,iter,ifs,0⟩] scope pos) 0 it acc env).onRaise (λx=>do noteFrame x env;theTreesLotGoes x)) _ _ s;refine wpAny_noted ?_;rw[compTurn_list];refine wpAny_bind (wpAny_standAt (wpAny_bind (wpAny_mono (turn n s hI) (λr s1 h1=>?_) λ_ _ h'=>h')));cases r with
 |none=>exact wpAny_pure h1
 |some v=>
  refine wpAny_bind (wpAny_mono h1 (λ_ s1' h1'=>wpAny_bind (wpAny_mono h1' (λ_ s2 h2=>wpAny_bind (wpAny_mono h2 (λok s3 h3=>?_) λ_ _ h'=>h')) λ_ _ h'=>h')) λ_ _ h'=>h');cases ok with
  |true=>
   rw[if_pos rfl] at h3 ⊢;exact wpAny_bind (wpAny_bind (wpAny_mono h3 (λx s4 h4=>wpAny_bind (wpAny_mono h4 (λ_ s5 h5=>wpAny_pure (wpAny_pure ⟨rfl,h5⟩)) λ_ _ h'=>h')) λ_ _ h'=>h'))
  |false=>
   rw[if_neg Bool.false_ne_true] at h3 ⊢
   first
    |exact wpAny_pure ⟨rfl,h3⟩
    |exact wpAny_bind (wpAny_pure (wpAny_pure ⟨rfl,h3⟩))
inductive uB (X:Cx):List Expr->TT->Prop
 |nil:uB X [] (λ_ H Q=>Q true H)
 |one {c:Expr} {t:TT} (h:PT X c t):uB X [c] t
theorem uB.run (T:uB X ifs t) (I:Inv X pins σ H s) (h:t σ H QB):
  wpAny (model X.prog X.w) X.A (forIn ifs true λc r=>if r=true then do let ok <-isTrue c X.env (eval c X.env);pure (ForInStep.yield ok) else pure (ForInStep.yield r)) (TP X pins σ QB) X.xe s:=by
 cases T with
 |nil=>exact wpAny_tests_nil ⟨H,I,h⟩
 |one hc=>exact wpAny_tests_one (hc pins s σ H QB I h)
def aU (J:It) (g:TG) (tc:TT) (te:TE) (n:Nat) (is:List Nat) (σ:St) (D:Addr) (H1:Hp) (Q:VK):Prop:=∃W:Nat->Nat->St->Hp->Prop,(∃m,W 0 m (HX n is σ) (upd H1 D (.lst [])))/\
 ∀i m σ' H,W i m σ' H->(J.stop i H/\Q (.ref D) H)\/(J.go i H/\∀x H',J.yld i H x H'->g x σ' H' λσ2 H2=>tc σ2 H2 λb H3=>
  (b=true->te σ2 H3 λy H4=>∃xs,H4 D=some (.lst xs)/\xs.length<sizeLine/\∃m',m'<m/\W (i+1) m' σ2 (upd H4 D (.lst (xs++[y]))))/\(b=false->∃m',m'<m/\W (i+1) m' σ2 H3))
def oU (wi:TI) (g:TG) (tc:TT) (te:TE) (n:Nat) (is:List Nat):TE:=λσ H Q=>wi σ H λJ H1=>∀D,H1 D=none->aU J g tc te n is σ D H1 Q
theorem HR {own caps:List Str} (use:Option (Value->Sem Unit)) (hc:X.calm=true) (hi:PI X target iter wi)
  (hg:∀C s₀ H₀ ex,PG (IC X (own++caps) sc C s₀ H₀ ex) target g) (ht:∀C s₀ H₀ ex,uB (IC X (own++caps) sc C s₀ H₀ ex) ifs tc) (he:∀C s₀ H₀ ex,PE (IC X (own++caps) sc C s₀ H₀ ex) elt te) (hcap:IK X sc caps is)
  (hkind:sc.kind=.function) (hown:∀y∈sc.names,y.2=.cell->sc.names.lookup y.1=some .cell) (hfr:(sc.names.all λy=>y.2 != .free || X.env.kindOf y.1==some .cell)=true)
  (hclos:closureFor sc X.env=pure (zP sc.names X.env)) (hnames:∀y∈sc.names,y.2=.local->sc.names.lookup y.1=some .local)
  (hs:∀x,foldedSetIterable iter X.env x=pure x) (I:Inv X pins σ H s) (h:oU wi g tc te own.length is σ H Q)
  (fin:∀(D C:Addr) (H':Hp) (s':Shared) (m:Str->Option Value),Inv X pins σ H' s'->s'.heap.Ns C m->H' C=none->X.s₀.heap.objs.size<=C->X.env.locals≠C->(∀x c,X.env.cells.lookup x=some c->c≠C)->(∀p∈X.pn++pins,p.1≠C)->Q (.ref D) H'->
   compPost (model X.prog X.w) X.A X.xe use QQ (.ref D) C (.ok .next) s'):
  wpAny (model X.prog X.w) X.A (comprehension (.ListComp elt [⟨target,iter,ifs,0⟩] sc pos) sc X.env pos2 (newList []) false (eval iter X.env) use) QQ X.xe s:=by
 refine wpAny_comprehension_free (use:=use) rfl hs hclos hkind hnames ?_;refine bU (hi pins s σ H _ I h) λv s1 h1=>bU h1 λitv s2 h2=>?_;obtain ⟨it,fp,tn,J,H2,e,I2,T,st2,f2,q2⟩:=h2;subst e;have ob2:∀b∈fp,∃o,s2.heap.get? b=some o:=λb hb=>let ⟨o,e,_⟩:=T.obj _ _ st2 b hb;⟨o,e⟩;refine wpAny_newObj_type (uE ?_);have av:(pushCells ((s2.heap.push {cls:=.type "list",data:=.seq ([]:List Value).toArray}).push {cls:=.type "dict",data:=.dict #[]}) sc.names).Ns (s2.heap.push {cls:=.type "list",data:=.seq ([]:List Value).toArray}).objs.size (λ_=>none):=(Heap.Ns.new _ (.type "dict")).keeps (pushCells_keeps _ _);have aq:=KY (s2.heap.push {cls:=.type "list",data:=.seq ([]:List Value).toArray}) {cls:=.type "dict",data:=.dict #[]} sc;have aw:∀b o,(s2.heap.push {cls:=.type "list",data:=.seq ([]:List Value).toArray}).get? b=some o->(pushCells ((s2.heap.push {cls:=.type "list",data:=.seq ([]:List Value).toArray}).push {cls:=.type "dict",data:=.dict #[]}) sc.names).get? b=some o:=λb o e=>pushCells_keeps _ _ b o (get?_push_of_some _ e);generalize bq:pushCells ((s2.heap.push {cls:=.type "list",data:=.seq ([]:List Value).toArray}).push {cls:=.type "dict",data:=.dict #[]}) sc.names=ae at av aq aw;have I3:=I2.lnew (its:=[]) (ys:=[]) (t':=s2.toks) .nil (zero_le _);have hD:H2 s2.heap.objs.size=none:=I2.hok.fresh (Nat.le_refl _);obtain ⟨W,⟨m0,w0⟩,turn⟩:=q2 s2.heap.objs.size hD;have f3:∀b∈fp,mL X pins (upd H2 s2.heap.objs.size (.lst [])) b:=λb hb=>by
  obtain ⟨o,e⟩:=ob2 b hb;exact ⟨by rw[aF (ne_of_lt (lt_size e))];exact (f2 b hb).1,(f2 b hb).2⟩
 have hk3:=aw;have ob3:∀b∈fp,∃o,(s2.heap.push {cls:=.type "list",data:=.seq ([]:List Value).toArray}).get? b=some o:=λb hb=>by
  obtain ⟨o,e⟩:=ob2 b hb;exact ⟨o,get?_push_of_some _ e⟩
 have I4:=IA (own:=own) I3 hkind hown hfr hcap f3 ob3 (tk:=s2.toks) av hk3 aq;have st4:tn 0 ae:=T.keep 0 s2.heap ae st2 λb hb o e=>hk3 b o (get?_push_of_some _ e);have stat:∀{H':Hp},(∀b∈fp,H' b=none)->∀b∈fp,mL (IC X (own++caps) sc (s2.heap.push {cls:=.type "list",data:=.seq ([]:List Value).toArray}).objs.size {s2 with heap:=s2.heap.push {cls:=.type "list",data:=.seq ([]:List Value).toArray}} (upd H2 s2.heap.objs.size (.lst [])) fp) [] H' b:=λ{H'} hn b hb=>by
  obtain ⟨o,e⟩:=ob3 b hb;refine ⟨hn b hb,ne_of_lt (lt_size e),I4.ok.exfs b hb,.inl hb,(I4.ok.exf b hb).2,λp hp=>absurd (show p∈([]:List (Addr × Obj)) from hp) (by simp)⟩
 have loop:∀s4:Shared,s4={s2 with heap:=ae}->
   codeAny (model X.prog X.w) X.A (.compLoop (.ListComp elt [⟨target,iter,ifs,0⟩] sc pos) 0 (.ref it) (.ref s2.heap.objs.size) (compEnvC sc (lE sc (s2.heap.push {cls:=.type "list",data:=.seq ([]:List Value).toArray}).objs.size X.env) (s2.heap.push {cls:=.type "list",data:=.seq ([]:List Value).toArray}).objs.size X.env))
    (compPost (model X.prog X.w) X.A X.xe use QQ (.ref s2.heap.objs.size) (s2.heap.push {cls:=.type "list",data:=.seq ([]:List Value).toArray}).objs.size) s4:=by
  rintro s4 rfl;refine wL (λn s'=>∃i σ' H',Inv (IC X (own++caps) sc (s2.heap.push {cls:=.type "list",data:=.seq ([]:List Value).toArray}).objs.size {s2 with heap:=s2.heap.push {cls:=.type "list",data:=.seq ([]:List Value).toArray}} (upd H2 s2.heap.objs.size (.lst [])) fp) [] σ' H' s'/\tn i s'.heap/\(∀b∈fp,H' b=none)/\W i n σ' H') ?_ m0
   ⟨0,_,_,I4,st4,λb hb=>(f3 b hb).1,w0⟩
  rintro n s5 ⟨i,σ5,H5,I5,st5,fr5,w5⟩;rcases turn i n σ5 H5 w5 with ⟨stop,qn⟩|⟨go,step⟩
  ·refine wpAny_mono (T.done (IC X (own++caps) sc _ _ _ fp) rfl rfl rfl hc i [] s5 σ5 H5 (λ_ _=>False) I5 (stat fr5) st5 stop) (λr s6 ⟨hr,I6⟩=>?_) λ_ _ z=>z.elim;subst hr;obtain ⟨m,hn,_⟩:=I6.loc;have IX:Inv X pins σ H5 s6:=I3.call' (s':=s6) I6.os I6.base I6.hok I6.bare (ch:=fp) λb hb=>by
    obtain ⟨_,n1,_,n3,n4,n5⟩:=f3 b hb;exact ⟨n3,n1,n4,n5⟩
   have lt3:∀{b:Addr} {o:Obj},(s2.heap.push {cls:=.type "list",data:=.seq ([]:List Value).toArray}).get? b=some o->b≠(s2.heap.push {cls:=.type "list",data:=.seq ([]:List Value).toArray}).objs.size:=λe=>ne_of_lt (lt_size e);refine fin _ _ H5 s6 m IX hn I6.free I3.sz (ne_of_lt I3.lt) (λx c e=>?_) (λp hp=>lt3 (I3.pin p hp).1) qn;obtain ⟨v,o,e',_⟩:=I3.cell x c e;exact lt3 e'
  ·refine wpAny_mono (T.item (IC X (own++caps) sc _ _ _ fp) rfl rfl rfl hc i [] s5 σ5 H5 (λ_ _=>False) I5 (stat fr5) st5 go) (λr s6 ⟨u,hr,h6⟩=>?_) λ_ _ z=>z.elim;subst hr;refine wpAny_mono h6 (λ_ s7 ⟨x,H7,I7,r7,y7,st7,fr7⟩=>?_) λ_ _ z=>z.elim;have I7':=I7.pinned (stat fr7) (T.obj _ _ st7);refine wpAny_mono (hg _ _ _ _ _ s7 σ5 H7 x u _ I7' r7 (step x H7 y7)) (λ_ s8 ⟨σ8,H8,I8,q8⟩=>?_) λ_ _ z=>z.elim;refine wpAny_mono ((ht _ _ _ _).run I8 q8) (λb s8' ⟨H8',I8',q8'⟩=>?_) λ_ _ z=>z.elim;have back:∀{σ9:St} {H9:Hp} {s9:Shared},Inv (IC X (own++caps) sc (s2.heap.push {cls:=.type "list",data:=.seq ([]:List Value).toArray}).objs.size {s2 with heap:=s2.heap.push {cls:=.type "list",data:=.seq ([]:List Value).toArray}} (upd H2 s2.heap.objs.size (.lst [])) fp) ([]++pN fp s7.heap) σ9 H9 s9->tn (i+1) s9.heap/\∀b∈fp,H9 b=none:=λ{σ9 H9 s9} I9=>
    ⟨T.keep _ _ _ st7 λb hb o e=>(I9.pin (b,o) (mem_append_right _ (mem_append_right _ (gK hb e)))).1,λb hb=>by
     obtain ⟨o,e,d⟩:=T.obj _ _ st7 b hb
     exact (I9.pin (b,o) (mem_append_right _ (mem_append_right _ (gK hb e)))).2.1⟩
   cases b with
   |false=>
    rw[if_neg Bool.false_ne_true];obtain ⟨m',hm,w9⟩:=q8'.2 rfl;exact ⟨m',hm,i+1,σ8,_,I8'.unpinned,(back I8').1,(back I8').2,w9⟩
   |true=>
    rw[if_pos rfl];refine wpAny_mono (he _ _ _ _ _ s8' σ8 H8' _ I8' (q8'.1 rfl)) (λyv s9 ⟨y,H9,I9,r9,xs,hx,hz,m',hm,w9⟩=>?_) λ_ _ z=>z.elim;refine wpAny_mono (sR (X:=IC X (own++caps) sc _ _ _ fp) _ s9 σ8 H9 (.ref s2.heap.objs.size) [y] (.ref s2.heap.objs.size) [yv] (λv Hn=>v=.non/\Hn=upd H9 s2.heap.objs.size (.lst (xs++[y]))) I9 rfl (.cons r9 .nil) ⟨_,xs,y,rfl,rfl,hx,hz,rfl,rfl⟩)
     (λv s10 ⟨v10,H10,I10,r10,q10⟩=>?_) λ_ _ z=>z.elim
    obtain ⟨_,rfl⟩:=q10;exact ⟨m',hm,i+1,σ8,_,I10.unpinned,(back I10).1,(back I10).2,w9⟩
 exact codeAny_compStart_list (loop _ rfl) (T.self _ 0 _ _ _ st4 (loop _ rfl))
end
end L2.L3
namespace L2.Na
open PySem PySem.Spec PyProof.Rows L2 L2.L3
theorem Inv.turnedN {X:Cx} {pins:List (Addr × Obj)} {σ:St} {H:Hp} {s:Shared} {h':Heap} {t':Nat} {fp:List Addr} (I:Inv X pins σ H s) (k:∀b o,b∉fp->s.heap.get? b=some o->h'.get? b=some o) (hf:∀b∈fp,mL X pins H b):Inv X pins σ H {s with heap:=h',toks:=t'}:=by
 have nit:∀b u,H b=some u->b∉fp:=λb u e z=>by rw[(hf b z).1] at e;cases e
 refine I.step (g':=s.gens) (d':=s.drawn) (ch:=fp) (λb hb=>?_) (λb o _ _ hc e _=>k b o hc e) (λb o _ _ hc e _=>⟨o.slots,k b o hc e⟩) (λ_ _ _ _ n=>n)
  (λb o hc e=>⟨o,k b o hc e⟩) (λ_ _ e=>e) (λ_ _ _ e=>e) (λb ps e=>⟨#[],by rw[e];simp⟩) (λm hm=>?_) (λb u e=>?_) I.bare
 ·obtain ⟨_,hL,_,h1,h2,h3⟩:=hf b hb;exact ⟨h1,hL,h2,h3⟩
 ·obtain ⟨o,es,ep,ho,r⟩:=hm;exact ⟨o,es,ep,k _ o (λz=>(hf _ z).2.1 rfl) ho,r⟩
 ·refine (I.hok b u e).stay (λc v hc q=>k c v ?_ q) (λ_ q=>q) λ_ _ q=>q;rcases hc with z|z
  ·rw[z];exact nit b u e
  ·exact nit c _ z
def Jo (K:Fg) (a b:Addr):It:=
 ⟨λi H=>∃xs ys x y,aP K H a xs/\aP K H b ys/\xs[i]?=some x/\ys[i]?=some y,
  λi H v H'=>∃p x y,H p=none/\v=.ref p/\H'=upd H p (.tup [x,y])/\(∀xs,aP K H a xs->xs[i]?=some x)/\∀ys,aP K H b ys->ys[i]?=some y,
  λi H=>∃xs ys,aP K H a xs/\aP K H b ys/\(xs.length<=i\/ys.length<=i)⟩
structure CN (z TI TO i1 i2:Addr):Prop where
 TIz:TI≠z
 TOz:TO≠z
 i1z:i1≠z
 i2z:i2≠z
 TITO:TI≠TO
 TIi1:TI≠i1
 TIi2:TI≠i2
 TOi1:TO≠i1
 TOi2:TO≠i2
 i12:i1≠i2
theorem iJ {h:Heap} {a b:Addr} {o u:Obj} {m n:String} (e1:h.get? a=some o) (e2:h.get? b=some u) (c1:o.cls=.type m) (c2:u.cls=.type n) (hn:m≠n):a≠b:=λz=>by
 subst z;rw[e1] at e2;cases e2;rw[c1] at c2;exact hn (by simpa using c2)
def Jg (z TI TO i1 i2 a b:Addr) (i:Nat) (h:Heap):Prop:=IsZip h z TI TO .none/\IsPair h TI (.ref i1) (.ref i2)/\(∃u v,IsPair h TO u v)/\h.IsListIter i1 a i/\h.IsListIter i2 b i
theorem Jg.apart {z TI TO i1 i2 a b:Addr} {i:Nat} {h:Heap} {xs ys:Array Value} (Z:CN z TI TO i1 i2) (t:Jg z TI TO i1 i2 a b i h) (h1:h.IsList a xs) (h2:h.IsList b ys):ZipApart z TI TO i1 i2 a b:=by
 obtain ⟨hz,_,⟨u,v,hTO⟩,⟨o1,e1,c1,_⟩,⟨o2,e2,c2,_⟩⟩:=t;obtain ⟨oa,ea,ca,_⟩:=h1;obtain ⟨ob,eb,cb,_⟩:=h2;exact ⟨Z.TIz,Z.TOz,Z.i1z,Z.i2z,Z.TITO,Z.TIi1,Z.TIi2,Z.TOi1,Z.TOi2,Z.i12,
  iJ ea hz ca rfl (by decide),iJ ea hTO ca rfl (by decide),iJ ea e1 ca c1 (by decide),iJ ea e2 ca c2 (by decide),
  iJ eb hz cb rfl (by decide),iJ eb hTO cb rfl (by decide),iJ eb e1 cb c1 (by decide),iJ eb e2 cb c2 (by decide)⟩
theorem JE {P:Program} {w:World} {K:Fg} {elts:List Expr} {k:Nat} {pos:Pos} (a b z TI TO i1 i2:Addr) (Z:CN z TI TO i1 i2):Turn P w K (.Tuple elts k pos) (Jo K a b) [z,TI,TO,i1,i2] z (Jg z TI TO i1 i2 a b) where
 mem:=by simp
 obj:=λi h st c hc=>by
  obtain ⟨hz,hTI,⟨u,v,hTO⟩,⟨o1,e1,c1,d1⟩,⟨o2,e2,c2,d2⟩⟩:=st;simp only [mem_cons,not_mem_nil,or_false] at hc;rcases hc with rfl|rfl|rfl|rfl|rfl
  ·exact ⟨_,hz,λ_ q=>by have q':Data.fields _=Data.cell _:=q;cases q'⟩
  ·exact ⟨_,hTI,λ_ q=>by have q':Data.seq _=Data.cell _:=q;cases q'⟩
  ·exact ⟨_,hTO,λ_ q=>by have q':Data.seq _=Data.cell _:=q;cases q'⟩
  ·exact ⟨_,e1,λ_ q=>by rw[d1] at q;cases q⟩
  ·exact ⟨_,e2,λ_ q=>by rw[d2] at q;cases q⟩
 keep:=λi h h' st kp=>by
  obtain ⟨hz,hTI,⟨u,v,hTO⟩,l1,l2⟩:=st;exact ⟨kp z (by simp) _ hz,kp TI (by simp) _ hTI,⟨u,v,kp TO (by simp) _ hTO⟩,l1.at λo e=>kp i1 (by simp) o e,l2.at λo e=>kp i2 (by simp) o e⟩
 item:=by
  intro X hP hw hK hc i pins s σ H E I hf st hg;subst hP hw hK;obtain ⟨xs,ys,x,y,hqa,hqb,hx,hy⟩:=hg;obtain ⟨ia,ra,pa,_⟩:=I.list hqa;obtain ⟨ib,rb,pb,_⟩:=I.list hqb;obtain ⟨u,hu,ru⟩:=ra.get hx;obtain ⟨v,hv,rv⟩:=rb.get hy;have D:=Jg.apart Z st pa.isList pb.isList;obtain ⟨hz,hTI,⟨u0,v0,hTO⟩,l1,l2⟩:=st;refine wpAny_pyNext_zip_item D hz hTI hTO l1 l2 pa.isList pb.isList (x:=u) (y:=v) (by simpa using hu) (by simpa using hv) λh' a1 a2 a3 a4 a5 a6 hk=>?_;refine ⟨_,rfl,?_⟩;refine wpAny_letOwnedTupleGo_zip (s:={s with heap:=h'}) a1 λh2 z2 sb=>?_;have fr:H s.heap.objs.size=none:=I.hok.fresh (Nat.le_refl _);have zlt:z<s.heap.objs.size:=lt_size hz;have k2:∀c o,c∉[z,TI,TO,i1,i2]->s.heap.get? c=some o->h2.get? c=some o:=λc o hc' e=>by
   simp only [mem_cons,not_mem_nil,or_false,not_or] at hc';exact sb.extBut _ _ hc'.1 (hk c o hc'.1 hc'.2.2.1 hc'.2.2.2.1 hc'.2.2.2.2 e)
  have T2:IsPair h2 s.heap.objs.size u v:=sb.extBut _ _ (ne_of_gt zlt) a5;have ne:∀c∈[z,TI,TO,i1,i2],c≠s.heap.objs.size:=λc hc'=>by
   obtain ⟨o,e⟩:∃o,s.heap.get? c=some o:=by
    simp only [mem_cons,not_mem_nil,or_false] at hc';obtain ⟨o1,e1,_⟩:=l1;obtain ⟨o2,e2,_⟩:=l2;rcases hc' with rfl|rfl|rfl|rfl|rfl
    ·exact ⟨_,hz⟩
    ·exact ⟨_,hTI⟩
    ·exact ⟨_,hTO⟩
    ·exact ⟨_,e1⟩
    ·exact ⟨_,e2⟩
   exact ne_of_lt (lt_size e)
  have I0:Inv X pins σ (upd H s.heap.objs.size (.tup [x,y])) {s with heap:=s.heap.push {cls:=.type "tuple",data:=.seq #[u,v]}}:=
   I.laid (t':=s.toks) (λc o e=>get?_push_of_some _ e) (Nat.le_refl _) (show aZ X.prog X.w _ _ _ (.tup [x,y]) from ⟨by show 2<=sizeLine;decide,[u,v],.cons ru (.cons rv .nil),IsTup.new _ _⟩)
  have hf':∀c∈[z,TI,TO,i1,i2],mL X pins (upd H s.heap.objs.size (.tup [x,y])) c:=λc hc'=>⟨by rw[aF (ne c hc')];exact (hf c hc').1,(hf c hc').2⟩;have I1:Inv X pins σ (upd H s.heap.objs.size (.tup [x,y])) {s with heap:=h2}:=Inv.turnedN (s:={s with heap:=s.heap.push {cls:=.type "tuple",data:=.seq #[u,v]}}) (t':=s.toks) I0 (λc o hc' e=>by
   rcases Heap.get?_push_cases e with ⟨hcs,ho⟩|e
   ·subst hcs ho
    exact T2
   ·exact k2 c o hc' e) hf'
  exact ⟨.ref s.heap.objs.size,_,I1,rfl,⟨_,x,y,fr,rfl,rfl,λxs' h'=>by rw[I.list_inj h' hqa];exact hx,λys' h'=>by rw[I.list_inj h' hqb];exact hy⟩,
   ⟨z2,sb.extBut _ _ Z.TIz (hk _ _ Z.TIz Z.TITO Z.TIi1 Z.TIi2 hTI),⟨_,_,sb.extBut _ _ Z.TOz a2⟩,a3.at λo e=>sb.extBut _ _ Z.i1z e,a4.at λo e=>sb.extBut _ _ Z.i2z e⟩,λc hc'=>(hf' c hc').1⟩
 done:=by
  intro X hP hw hK hc i pins s σ H E I hf st hg;subst hP hw hK;obtain ⟨xs,ys,hqa,hqb,hx⟩:=hg;obtain ⟨ia,ra,pa,_⟩:=I.list hqa;obtain ⟨ib,rb,pb,_⟩:=I.list hqb;have D:=Jg.apart Z st pa.isList pb.isList;obtain ⟨hz,hTI,⟨u0,v0,hTO⟩,l1,l2⟩:=st;have n1:=ra.length;have n2:=rb.length;refine wpAny_pyNext_zip_end (I.ok.hd hc) D hz hTI hTO l1 l2 pa.isList pb.isList (by rcases hx with hx|hx;exact .inl (by simp;lia);exact .inr (by simp;lia)) λh' hk=>⟨rfl,Inv.turnedN (t':=s.toks) I (λc o hc' e=>?_) hf⟩;simp only [mem_cons,not_mem_nil,or_false,not_or] at hc';exact hk c o hc'.1 hc'.2.2.1 hc'.2.2.2.1 hc'.2.2.2.2 e
 self:=λ_ _ _ _ _ st h=>wpAny_pyIter_zip st.1 h
end L2.Na
namespace L2.L3
open PySem PySem.Spec PyProof.Rows L2 PySem.SeqAt
def Eqv:Nat->Hp->V->V->Prop
 |0,_,x,y=>(∃i,x=.int i/\y=.int i)\/(∃z,x=.str z/\y=.str z)\/(x=.non/\y=.non)
 |n+1,H,x,y=>Eqv n H x y\/∃p q xs ys,x=.ref p/\y=.ref q/\((H p=some (.lst xs)/\H q=some (.lst ys))\/(H p=some (.tup xs)/\H q=some (.tup ys)))/\xs.length=ys.length/\∀(i:Nat) (x y:V),xs[i]?=some x->ys[i]?=some y->Eqv n H x y
section
variable {X:Cx} {pins:List (Addr × Obj)} {σ:St} {H:Hp} {s:Shared}
theorem all_true (n:Nat):(range n).all (λ_=>true)=true:=all_eq_true.mpr λ_ _=>rfl
theorem CS (r:Vals xs us) (h:j<us.toArray.size):∃x,xs[j]?=some x/\RelV x us.toArray[j]:=by
 have hj:j<us.length:=by simpa using h
 have hx:j<xs.length:=by rw[r.length];exact hj
 obtain ⟨u,h1,h2⟩:=r.get (List.getElem?_eq_getElem hx);have e:us.toArray[j]=u:=by
  rw[List.getElem?_eq_getElem hj] at h1;simpa using Option.some.inj h1
 exact ⟨xs[j],List.getElem?_eq_getElem hx,by rw[e];exact h2⟩
theorem eD (r1:Vals xs us) (r2:Vals ys vs) (hi:∀(i:Nat) (x y:V),xs[i]?=some x->ys[i]?=some y->Eqv n H x y)
  (ih:∀(x y:V) (u v:Value),Eqv n H x y->RelV x u->RelV y v->EqAt A s u v true):∀j (h1:j<us.toArray.size) (h2:j<vs.toArray.size),EqAt A s us.toArray[j] vs.toArray[j] ((λ_=>true) j):=λj h1 h2=>by
 obtain ⟨x,e1,q1⟩:=CS r1 h1;obtain ⟨y,e2,q2⟩:=CS r2 h2;exact ih x y _ _ (hi j x y e1 e2) q1 q2
theorem jR (I:Inv X pins σ H s):∀(n:Nat) (A:Around) (x y:V) (u v:Value),A.units+n<cLine->Eqv n H x y->RelV x u->RelV y v->EqAt A s u v true
 |0,A,x,y,u,v,hu,h,r1,r2=>by
  rcases h with ⟨i,rfl,rfl⟩|⟨z,rfl,rfl⟩|⟨rfl,rfl⟩
  ·obtain ⟨t,rfl⟩:=r1;obtain ⟨t2,rfl⟩:=r2;have e:=EqAt.int_int (A:=A) (s:=s) i t i t2;rwa [beq_self_eq_true] at e
  ·obtain ⟨t,rfl⟩:=r1;obtain ⟨t2,rfl⟩:=r2;have e:=EqAt.str_str (A:=A) (s:=s) z t z t2;rwa [beq_self_eq_true] at e
  ·cases r1;cases r2;exact EqAt.same _
 |n+1,A,x,y,u,v,hu,.inl h,r1,r2=>jR I n A x y u v (by lia) h r1 r2
 |n+1,A,x,y,u,v,hu,.inr ⟨p,q,xs,ys,e1,e2,hh,hl,hi⟩,r1,r2=>by
  subst e1 e2;cases r1;cases r2;by_cases e:p=q
  ·subst e;exact EqAt.same _
  refine EqAt.of_refs e ?_;have hu1:A.in1.units+n<cLine:=by show A.units+1+n<cLine;lia
  rcases hh with ⟨h1,h2⟩|⟨h1,h2⟩
  ·obtain ⟨_,its,n1,k1,l1,g1⟩:=I.lstM h1;obtain ⟨_,its2,n2,k2,l2,g2⟩:=I.lstM h2;have z:=RcAt.lists (A:=A) (e:=λ_=>true) (⟨_,g1,rfl,n1,rfl⟩:s.heap.IsList p its.toArray) (⟨_,g2,rfl,n2,rfl⟩:s.heap.IsList q its2.toArray) (by rw[size_toArray,size_toArray];lia) (by lia)
    (eD k1 k2 hi λx y u v=>jR I n A.in1 x y u v hu1)
   rwa [all_true] at z
  ·obtain ⟨its,k1,p1,_⟩:=I.tuple (cZ.of h1);obtain ⟨its2,k2,p2,_⟩:=I.tuple (cZ.of h2);have z:=RcAt.tuples (A:=A) (e:=λ_=>true) (show s.heap.IsTuple p its.toArray from p1) (show s.heap.IsTuple q its2.toArray from p2) (by lia)
    (eD k1 k2 hi λx y u v=>jR I n A.in1 x y u v hu1)
   have e3:its.toArray.size=its2.toArray.size:=by rw[size_toArray,size_toArray,<-k1.length,<-k2.length];exact hl
   rwa [all_true,e3,beq_self_eq_true,Bool.true_and] at z
def Ck (n:Nat) (H:Hp) (p q:Addr):Prop:=∃xs ys,((H p=some (.lst xs)/\H q=some (.lst ys))\/(H p=some (.tup xs)/\H q=some (.tup ys)))/\xs.length=ys.length/\∀(i:Nat) (x y:V),xs[i]?=some x->ys[i]?=some y->Eqv n H x y
def Fc:R2:=λx y H Q=>∃p q n,x=.ref p/\y=.ref q/\n<=40/\Ck n H p q/\Q (.bl true) H
def Et:R2:=λx y H Q=>∃p q n,x=.ref p/\y=.ref q/\n<=40/\Ck n H p q/\Q (.bl false) H
theorem ZH (hu:X.A.units+64<cLine):gD X (compareOp .Eq) Fc:=by
 intro pins s σ H x y v u Q I rx ry h;obtain ⟨p,q,n,rfl,rfl,hn,⟨xs,ys,hh,hl,hi⟩,qq⟩:=h;cases rx;cases ry;have hu1:X.A.in1.units+n<cLine:=by show X.A.units+1+n<cLine;lia
 rcases hh with ⟨h1,h2⟩|⟨h1,h2⟩
 ·obtain ⟨_,its,n1,k1,l1,g1⟩:=I.lstM h1;obtain ⟨_,its2,n2,k2,l2,g2⟩:=I.lstM h2;have z:=RcAt.lists (A:=X.A) (e:=λ_=>true) (⟨_,g1,rfl,n1,rfl⟩:s.heap.IsList p its.toArray) (⟨_,g2,rfl,n2,rfl⟩:s.heap.IsList q its2.toArray) (by rw[size_toArray,size_toArray];lia) (by lia)
   (eD k1 k2 hi λx y u v=>jR I n X.A.in1 x y u v hu1)
  rw[all_true] at z;exact z X.prog X.w X.xe _ ⟨.bl true,H,I,rfl,qq⟩
 ·obtain ⟨its,k1,p1,_⟩:=I.tuple (cZ.of h1);obtain ⟨its2,k2,p2,_⟩:=I.tuple (cZ.of h2);have z:=RcAt.tuples (A:=X.A) (e:=λ_=>true) (show s.heap.IsTuple p its.toArray from p1) (show s.heap.IsTuple q its2.toArray from p2) (by lia)
   (eD k1 k2 hi λx y u v=>jR I n X.A.in1 x y u v hu1)
  have e3:its.toArray.size=its2.toArray.size:=by rw[size_toArray,size_toArray,<-k1.length,<-k2.length];exact hl
  rw[all_true,e3,beq_self_eq_true,Bool.true_and] at z;exact z X.prog X.w X.xe _ ⟨.bl true,H,I,rfl,qq⟩
def Ez:R2:=λx y H Q=>∃p q xs ys,x=.ref p/\y=.ref q/\H p=some (.lst xs)/\H q=some (.lst ys)/\xs.length≠ys.length/\Q (.bl false) H
theorem ZG (hu:X.A.units+64<cLine):gD X (compareOp .Eq) Ez:=by
 intro pins s σ H x y v u Q I rx ry h;obtain ⟨p,q,xs,ys,rfl,rfl,h1,h2,hl,qq⟩:=h;cases rx;cases ry;obtain ⟨_,its,n1,k1,l1,g1⟩:=I.lstM h1;obtain ⟨_,its2,n2,k2,l2,g2⟩:=I.lstM h2;have hne:(its.toArray.size != its2.toArray.size)=true:=by
  rw[size_toArray,size_toArray,<-l1,<-l2];exact bne_iff_ne.mpr hl
 exact RcAt.lists_lengths (A:=X.A) (⟨_,g1,rfl,n1,rfl⟩:s.heap.IsList p its.toArray) (⟨_,g2,rfl,n2,rfl⟩:s.heap.IsList q its2.toArray) hne (by lia) X.prog X.w X.xe _ ⟨.bl false,H,I,rfl,qq⟩
theorem ZA (hu:X.A.units+64<cLine):gD X (compareOp .NotEq) Et:=by
 intro pins s σ H x y v u Q I rx ry h;obtain ⟨p,q,n,rfl,rfl,hn,⟨xs,ys,hh,hl,hi⟩,qq⟩:=h;cases rx;cases ry;have hu1:X.A.in1.units+n<cLine:=by show X.A.units+1+n<cLine;lia
 rcases hh with ⟨h1,h2⟩|⟨h1,h2⟩
 ·obtain ⟨_,its,n1,k1,l1,g1⟩:=I.lstM h1;obtain ⟨_,its2,n2,k2,l2,g2⟩:=I.lstM h2;have z:=RcNeAt.lists (A:=X.A) (e:=λ_=>true) (⟨_,g1,rfl,n1,rfl⟩:s.heap.IsList p its.toArray) (⟨_,g2,rfl,n2,rfl⟩:s.heap.IsList q its2.toArray) (by rw[size_toArray,size_toArray];lia) (by lia)
   (eD k1 k2 hi λx y u v=>jR I n X.A.in1 x y u v hu1)
  rw[all_true] at z;exact z X.prog X.w X.xe _ ⟨.bl false,H,I,rfl,qq⟩
 ·obtain ⟨its,k1,p1,_⟩:=I.tuple (cZ.of h1);obtain ⟨its2,k2,p2,_⟩:=I.tuple (cZ.of h2);have z:=RcNeAt.tuples (A:=X.A) (e:=λ_=>true) (show s.heap.IsTuple p its.toArray from p1) (show s.heap.IsTuple q its2.toArray from p2) (by lia)
   (eD k1 k2 hi λx y u v=>jR I n X.A.in1 x y u v hu1)
  have e3:its.toArray.size=its2.toArray.size:=by rw[size_toArray,size_toArray,<-k1.length,<-k2.length];exact hl
  rw[all_true,e3,beq_self_eq_true,Bool.true_and] at z;exact z X.prog X.w X.xe _ ⟨.bl false,H,I,rfl,qq⟩
def Es:R2:=λx y H Q=>∃p q xs ys,x=.ref p/\y=.ref q/\H p=some (.lst xs)/\H q=some (.lst ys)/\xs.length≠ys.length/\Q (.bl true) H
theorem YZ (hu:X.A.units+64<cLine):gD X (compareOp .NotEq) Es:=by
 intro pins s σ H x y v u Q I rx ry h;obtain ⟨p,q,xs,ys,rfl,rfl,h1,h2,hl,qq⟩:=h;cases rx;cases ry;obtain ⟨_,its,n1,k1,l1,g1⟩:=I.lstM h1;obtain ⟨_,its2,n2,k2,l2,g2⟩:=I.lstM h2;have hne:(its.toArray.size != its2.toArray.size)=true:=by
  rw[size_toArray,size_toArray,<-l1,<-l2];exact bne_iff_ne.mpr hl
 exact RcNeAt.lists_lengths (A:=X.A) (⟨_,g1,rfl,n1,rfl⟩:s.heap.IsList p its.toArray) (⟨_,g2,rfl,n2,rfl⟩:s.heap.IsList q its2.toArray) hne (by lia) X.prog X.w X.xe _ ⟨.bl true,H,I,rfl,qq⟩
def KH (K:Fg):R2:=λx y H Q=>∃a b ys,x=.ref a/\y=.ref b/\cZ K H a []/\cZ K H b ys/\Q (.ref b) H
theorem LB:gD X (binaryOp .Add) (KH X.K):=by
 intro pins s σ H x y v u Q I rx ry h;obtain ⟨a,b,ys,rfl,rfl,ha,hb,q⟩:=h;cases rx;cases ry;obtain ⟨its,r1,p1,_⟩:=I.tuple ha;obtain ⟨its2,r2,p2,_⟩:=I.tuple hb;have e:its=[]:=r1.nil_iff.mpr rfl;subst e;obtain ⟨⟨cls,dd,data,sl⟩,ho,hc,n,hd⟩:=id p1;obtain ⟨⟨cls2,dd2,data2,sl2⟩,ho2,hc2,n2,hd2⟩:=id p2;simp only at hc hd hc2 hd2;subst hc hd hc2 hd2;exact concat_meets ⟨_,ho,rfl⟩ ⟨_,ho2,rfl⟩ noFill_tuple_add seq_tuple_add PySem.F.slot_tuple_add PySem.F.entry_tuple_add (PySem.F.args_tuple_add_2 _ _)
  (tuple_addW0 a b [].toArray its2.toArray n n2 dd dd2 sl sl2 rfl) ⟨ho,ho2,⟨.ref b,H,I,rfl,q⟩⟩
def WQ (z:Str) (k:Int):Prop:=0<=k/\k<2 ^ 31/\z.length * k.toNat<=sizeLine
theorem RW:gD X (binaryOp .Mult) (λx y H Q=>∃i k,x=.str i/\y=.int k/\WQ i k/\Q (.str (Txt.mul i k)) H):=by
 intro pins s σ H x y v u Q I rx ry h;obtain ⟨i,k,rfl,rfl,⟨h1,h2,h3⟩,q⟩:=h;obtain ⟨t,rfl⟩:=rx;obtain ⟨t',rfl⟩:=ry;have e1:(decide (k< -(2 ^ 63:Int)) || decide (k>=2 ^ 63))=false:=by
  rw[decide_eq_false (by lia),decide_eq_false (by lia)];rfl
 have hs:(sizeLine:Nat)<=2 ^ 40:=by rw[sizeLine_eq];decide
 refine SB.mul ⟨e1,λg1 _ c=>?_,λg1 _=>?_⟩ (λt' tk=>⟨.str (Txt.mul i k),H,I.tok _,⟨_,rfl⟩,q⟩)
 ·have c1:(2 ^ 63 - 1) / k<(i.length:Int):=c;have c2:¬(i.length:Int)<=(2 ^ 63 - 1) / k:=by lia
  refine c2 ((Int.le_ediv_iff_mul_le (by lia)).mpr ?_);have e:((i.length * k.toNat:Nat):Int)=(i.length:Int) * k:=by rw[Int.natCast_mul,Int.toNat_of_nonneg (by lia)]
  lia
 ·show decide _=false;exact decide_eq_false (by lia)
def Kf (i j:Int):Prop:=0<=j/\(Builtin.Int.intBits i:Int) * j<=2 ^ 27
theorem VC.pw (h:VC i j):Kf i j:=by
 obtain ⟨h0,h1,h2⟩:=h;refine ⟨h0,?_⟩;have hb:Builtin.Int.intBits i<=64:=PyProof.Rows.intBits_le h2;have:(Builtin.Int.intBits i:Int) * j<=64 * j:=Int.mul_le_mul_of_nonneg_right (by lia) h0;lia
def Mn (_ j:Int):Prop:=0<j/\j<2 ^ 64
theorem LA:gD X (binaryOp .FloorDiv) (rI Mn λi j=>.int (i / j)):=Ju λi j _ _ _ _ _ hc q=>by
 have h1:(0:Int)<j:=hc.1;have h2:j<2 ^ 64:=hc.2;refine floordiv_int (by lia) (by rw[Int.fdiv_eq_ediv_of_nonneg i (by lia)];exact q) (.inl (PyProof.noPylong_of_log2 ?_));have h3:j.natAbs.log2<64:=(Nat.log2_lt (by lia)).mpr (by lia);lia
theorem RX:gD X (binaryOp .Mult) (rI IntMulOk λi j=>.int (i * j)):=Ju λ_ _ _ _ _ _ _ hc q=>mul_int q hc
theorem RT:gD X (binaryOp .Pow) (rI Kf λi j=>.int (i ^ j.toNat)):=Ju λ_ _ _ _ _ _ _ hc q=>pow_int hc.1 hc.2 q
end
end L2.L3
namespace L2.Na
open PySem PySem.Spec PyProof.Rows L2 L2.L3
theorem qQ (o:Obj) (f:Array Value->Array Value):(o.mapFields f).dict=o.dict:=by
 unfold Obj.mapFields;split<;>rfl
def My (h B:Heap) (e:Addr) (c:Value) (dx:Option Addr) (fl:Value):Prop:=
 ∃oe vs T oT ts,h.get? e=some oe/\oe.cls=c/\oe.dict=dx/\oe.data=.fields vs/\vs[1]?=some (.ref T)/\B.get? T=none/\T≠e/\h.get? T=some oT/\oT.data=.fields ts/\ts[3]?=some fl
structure Mi (B:Heap) (l:List Env) (e:Addr) (c:Value) (dx:Option Addr) (fl:Value) (h h':Heap):Prop where
 stay:B.StaysIn h'
 frames:h'.FunFrames B l
 tr:My h' B e c dx fl
 slots:h.UpToSlots h'
structure lK (B:Heap) (l:List Env) (e:Addr) (c:Value) (dx:Option Addr) (fl:Value) (h:Heap):Prop where
 stay:B.StaysIn h
 new:B.get? e=none
 frames:h.FunFrames B l
 tr:My h B e c dx fl
section
variable {M:Model} {A:Around} {E:Value->Shared->Prop} {s:Shared} {B:Heap} {env:Env} {outer:List Env} {L e:Addr} {Q:Unit->Shared->Prop}
theorem BZ (fr:A.frames=some (env::outer)) (ff:s.heap.FunFrames B (env::outer)) (ef:env.frame=some L) (ef2:env2.frame=some L)
  (h:∀h',Heap.SlotsOnly ((env::outer).filterMap (·.frame)) s.heap h'->R (.ref L) {s with heap:=h'}):wpAny M A (PySem.frameOf env2) R E s:=by
 unfold PySem.frameOf;refine wpAny_bind (wpAny_frameEnvs fr ?_);have hdw:((env::outer).dropWhile λx=>x.frame != env2.frame)=env::outer:=by simp [List.dropWhile,ef,ef2]
 rw[hdw];unfold frameObject;refine wpAny_bind (wpAny_bind (wpAny_readyFrames_fun ff λae bp=>wpAny_pure ?_));rw[ef];exact wpAny_pure (h ae bp)
theorem tG (fr:A.frames=some (env::outer)) (ff:s.heap.FunFrames B (env::outer)) (ef:env.frame=some L) (ef2:env2.frame=some L) (eo:s.heap.get? e=some oe) (st:B.StaysIn s.heap)
  (en:B.get? e=none) (dt:oe.data=.fields vs) (sz:1<vs.size) (k:∀g,Mi B (env::outer) e oe.cls oe.dict (rawInt L) s.heap g->Q () {s with heap:=g}):
  wpAny M A (do let a <-frameOf env2;let pl <-entryPlaceOf L nx;let b <-EntryCells.newEntry hd0 a .none (rawInt L) .none pl;setField (.ref e) 1 b) Q E s:=by
 have nf:e∉(env::outer).filterMap (·.frame):=λm=>by
  obtain ⟨_,o,ho,n⟩:=ff.mem m;rw[eo] at ho;cases ho;exact n vs dt
 refine wpAny_bind (BZ fr ff ef ef2 λg1 s1=>wpAny_bind (wpAny_entryPlaceOf λpl ip=>?_));unfold EntryCells.newEntry newFields;refine wpAny_bind (wpAny_newObj_type ?_ (ip.sizeOk5 _ _ _ _ _));have e1:g1.get? e=some oe:=by rw[s1.2.1 e nf];exact eo
 have b1:B.StaysIn g1:=λb o q=>by
  rw[s1.2.1 b λm=>by rw[(ff.mem m).1] at q;cases q];exact st b o q
 generalize ho:({cls:=.type "traceback",dict:=none,data:=.fields ([hd0,.ref L,.none,rawInt L,.none]++(if pl.isEmpty then replicate 6 Value.none else pl)).toArray}:Obj)=ot;have od:ot.data=.fields ([hd0,.ref L,.none,rawInt L,.none]++(if pl.isEmpty then replicate 6 Value.none else pl)).toArray:=by rw[<-ho]
 have of3:([hd0,.ref L,.none,rawInt L,.none]++(if pl.isEmpty then replicate 6 Value.none else pl)).toArray[3]?=some (rawInt L):=by simp
 have onf:ot.isFreed=false:=Obj.isFreed_of_fields od;have e2:(g1.push ot).get? e=some oe:=get?_push_of_some _ e1;have ne:g1.objs.size≠e:=ne_of_gt (lt_size e1);refine wpAny_setField e2 dt sz (k _ ?_);have d3:(oe.mapFields (·.setIfInBounds 1 (Value.ref g1.objs.size))).data=.fields (vs.setIfInBounds 1 (Value.ref g1.objs.size)):=Obj.data_mapFields dt _;have e3:((g1.push ot).update e (Obj.mapFields (·.setIfInBounds 1 (Value.ref g1.objs.size)))).get? e=some (oe.mapFields (·.setIfInBounds 1 (Value.ref g1.objs.size))):=get?_update_self _ e2 (Obj.isFreed_of_fields d3);have kp:∀b o,b≠e->g1.get? b=some o->((g1.push ot).update e (Obj.mapFields (·.setIfInBounds 1 (Value.ref g1.objs.size)))).get? b=some o:=λb o hb q=>by
  rw[get?_update_other _ _ hb.symm];exact get?_push_of_some _ q
 have nr:∀b o,s.heap.get? b=some o->(∀ws,o.data≠.fields ws)->b≠e:=λb o q n z=>by
  subst z;rw[eo] at q;cases q;exact n vs dt
 refine ⟨λb o q=>kp b o (λz=>by rw[z,en] at q;cases q) (b1 b o q),ff.of_keeps λb o q n=>?_,⟨_,_,g1.objs.size,ot,_,e3,Obj.cls_mapFields _ _,qQ _ _,d3,by simp [sz],b1.fresh,ne,?_,od,of3⟩,λb o q n=>?_⟩
 ·obtain ⟨sl,z⟩:=s1.2.2 b o q;exact ⟨_,kp b _ (nr b o q n) z,rfl⟩
 ·rw[get?_update_other _ _ ne.symm];exact get?_push_size g1 onf
 ·obtain ⟨sl,z⟩:=s1.2.2 b o q;exact ⟨sl,kp b _ (nr b o q n) z⟩
theorem LG (fr:A.frames=some (env::outer)) (ff:s.heap.FunFrames B (env::outer)) (ef:env.frame=some L) (ef2:env2.frame=some L) (eo:s.heap.get? e=some oe) (st:B.StaysIn s.heap)
  (en:B.get? e=none) (dt:oe.data=.fields vs) (v1:vs[1]?=some .none) (k:∀g,lK B (env::outer) e oe.cls oe.dict (rawInt L) g->s.heap.UpToSlots g->Q () {s with heap:=g}):wpAny M A (noteFrame (.ref e) env2) Q E s:=by
 unfold noteFrame;simp only [ef2];refine wpAny_bind (wpAny_field eo dt v1 ?_);rw[if_neg (show ¬((Value.none != Value.none)=true) by decide)];exact tG fr ff ef ef2 eo st en dt (Array.getElem?_eq_some_iff.mp v1).1 λg w=>k g ⟨w.stay,en,w.frames,w.tr⟩ w.slots
theorem LH (fr:A.frames=some (env::outer)) (ef:env.frame=some L) (ef2:env2.frame=some L) (F:lK B (env::outer) e c dx fl s.heap)
  (k:∀g fl',lK B (env::outer) e c dx fl' g->s.heap.UpToSlots g->Q () {s with heap:=g}):wpAny M A (noteFrame (.ref e) env2) Q E s:=by
 have F0:=F;obtain ⟨st,en,ff,oe,vs,T,oT,ts,eo,rfl,rfl,dt,v1,nT,ne,eT,dT,t3⟩:=F;unfold noteFrame;simp only [ef2];refine wpAny_bind (wpAny_field eo dt v1 ?_);rw[if_pos (show (Value.ref T != Value.none)=true by simp)];refine wpAny_bind (wpAny_field eT dT t3 ?_);by_cases hfl:(fl==rawInt L)=true
 ·rw[if_pos hfl];exact wpAny_pure (k s.heap fl F0 (Heap.UpToSlots.refl _))
 rw[if_neg hfl];refine wpAny_bind (wpAny_setField eT dT (Array.getElem?_eq_some_iff.mp t3).1 ?_);have ot:∀b,b≠T->(s.heap.update T (Obj.mapFields (·.setIfInBounds 3 Value.none))).get? b=s.heap.get? b:=λb hb=>get?_update_other _ _ hb.symm;have nr:∀b o,s.heap.get? b=some o->(∀ws,o.data≠.fields ws)->b≠T:=λb o q n z=>by
  subst z;rw[eT] at q;cases q;exact n ts dT
 refine tG (s:={s with heap:=s.heap.update T (Obj.mapFields (·.setIfInBounds 3 Value.none))}) fr (ff.of_keeps λb o q n=>⟨o,by rw[ot b (nr b o q n)];exact q,rfl⟩) ef ef2 (by show (s.heap.update T _).get? e=_;rw[ot e ne.symm];exact eo)
  (λb o q=>by show (s.heap.update T _).get? b=_;rw[ot b λz=>by rw[z,nT] at q;cases q];exact st b o q) en dt (Array.getElem?_eq_some_iff.mp v1).1 λg w=>k g _ ⟨w.stay,en,w.frames,w.tr⟩ λb o q n=>w.slots b o (by rw[ot b (nr b o q n)];exact q) n
theorem LQ (fo:Option Addr) (F:lK B l e c dx fl s.heap) (k:∀g,lK B l e c dx (fo.elim Value.none λf=>rawInt f) g->s.heap.UpToSlots g->Q () {s with heap:=g}):wpAny M A (setFlight (.ref e) fo) Q E s:=by
 obtain ⟨st,en,ff,oe,vs,T,oT,ts,eo,hc,hx,dt,v1,nT,ne,eT,dT,t3⟩:=F;have ot:∀b,b≠T->(s.heap.update T (Obj.mapFields (·.setIfInBounds 3 (fo.elim Value.none λf=>rawInt f)))).get? b=s.heap.get? b:=λb hb=>get?_update_other _ _ hb.symm;have nr:∀b o,s.heap.get? b=some o->(∀ws,o.data≠.fields ws)->b≠T:=λb o q n z=>by
  subst z;rw[eT] at q;cases q;exact n ts dT
 have s3:=(Array.getElem?_eq_some_iff.mp t3).1;unfold setFlight;refine wpAny_bind (wpAny_field eo dt v1 ?_);rw[if_pos (show (Value.ref T != Value.none)=true by simp)];refine wpAny_setField eT dT s3 (k _ ⟨λb o q=>?_,en,ff.of_keeps λb o q n=>⟨o,by rw[ot b (nr b o q n)];exact q,rfl⟩,oe,vs,T,_,_,by rw[ot e ne.symm];exact eo,hc,hx,dt,v1,nT,ne,get?_update_self _ eT (Obj.isFreed_of_fields (Obj.data_mapFields dT _)),Obj.data_mapFields dT _,by simp [s3]⟩
  λb o q n=>⟨o.slots,by rw[ot b (nr b o q n)];exact q⟩)
 rw[ot b λz=>by rw[z,nT] at q;cases q];exact st b o q
theorem yQ (F:lK B l e c dx fl s.heap) (k:∀g,lK B l e c dx .none g->s.heap.UpToSlots g->Q () {s with heap:=g}):wpAny M A (setFlight (.ref e) none) Q E s:=LQ none F k
theorem lK.tail (F:lK B (env::outer) e c dx fl h):lK B outer e c dx fl h:=⟨F.stay,F.new,F.frames.2.2,F.tr⟩
theorem leave_new (fr:A.frames=some (env::outer)) (ff:s.heap.FunFrames B (env::outer)) (ef:env.frame=some L) (eo:s.heap.get? e=some oe) (st:B.StaysIn s.heap)
  (en:B.get? e=none) (dt:oe.data=.fields vs) (v1:vs[1]?=some .none) (k:∀g,lK B outer e oe.cls oe.dict .none g->s.heap.UpToSlots g->Q () {s with heap:=g}):wpAny M A (leaving env (.ref e)) Q E s:=by
 unfold leaving;exact wpAny_bind (LG fr ff ef ef eo st en dt v1 λg F u=>yQ F λg2 F2 u2=>k g2 F2.tail (u.trans u2))
theorem GX (fr:A.frames=some (env::outer)) (ef:env.frame=some L) (F:lK B (env::outer) e c dx fl s.heap)
  (k:∀g,lK B outer e c dx .none g->s.heap.UpToSlots g->Q () {s with heap:=g}):wpAny M A (leaving env (.ref e)) Q E s:=by
 unfold leaving;exact wpAny_bind (LH fr ef ef F λg _ F1 u=>yQ F1 λg2 F2 u2=>k g2 F2.tail (u.trans u2))
end
def uD (P:Program) (w:World):PL:=λouter H s E ev s'=>∃(e:Addr) (c:Value) (dx:Option Addr) (H':Hp) (B:Heap),ev=.ref e/\s'.os=s.os/\AllBare s'.gens/\Un (fV outer) [] H H' s.heap s'.heap/\eE P w H' s'.heap/\
 (∃fl,lK B outer e c dx fl s'.heap)/\(∀b o,s.heap.get? b=some o->b∉fV outer->∃u,B.get? b=some u)/\(∀b o,H' b=some o->∃u,B.get? b=some u)/\E c dx H'
theorem uD.no (h:uD P w outer H s E0 ev s'):False:=by
 obtain ⟨_,_,_,_,_,_,_,_,_,_,_,_,_,z⟩:=h;exact z
theorem oP (x:aZ P w H h a o):∃u,h.get? a=some u:=by
 induction o with
 |lst xs=>obtain ⟨_,_,_,_,e⟩:=x;exact ⟨_,e⟩
 |tup xs=>obtain ⟨_,_,_,u,e,_⟩:=x;exact ⟨_,e⟩
 |dK kvs=>obtain ⟨_,_,_,_,o,_,_,e,_⟩:=x;exact ⟨_,e⟩
 |dT kvs=>obtain ⟨_,_,_,_,o,_,_,e,_⟩:=x;exact ⟨_,e⟩
 |set S n=>obtain ⟨o,_,_,_,e,_⟩:=x;exact ⟨_,e⟩
 |ins C dx fs=>obtain ⟨_,_,_,e,_⟩:=x;exact ⟨_,e⟩
 |own y=>exact x
 |xd fs=>obtain ⟨_,⟨_,_,_,e,_⟩,_⟩:=x;exact ⟨_,e⟩
 |rng lo hi=>obtain ⟨_,_,_,e⟩:=x;exact ⟨_,e⟩
 |frz ob u _=>exact ⟨_,x.1⟩
 |tbl ps=>exact ⟨_,x⟩
 |met f y=>exact ⟨_,x⟩
 |ext φ=>exact x.2.1
section
variable {P:Program} {w:World} {K:Fg} {mg:Str->Option Value} {base:Heap} {N:List Str} {qual:Str} {scope:Scope} {f:Addr} {cd:Value} {A:Around} {outer:List Env} {s:Shared} {H:Hp} {E:XK}
theorem NB {H':Hp} {h g B:Heap} (x:eE P w H' h) (c2:∀b o,H' b=some o->∃u,B.get? b=some u) (s1:B.StaysIn h) (s2:B.StaysIn g):eE P w H' g:=λb o q=>
 (x b o q).stay (λb' u' hb' q'=>by
  obtain ⟨u,hu⟩:∃u,B.get? b'=some u:=by
   rcases hb' with rfl|hb'
   ·exact c2 _ _ q
   ·exact c2 _ _ hb'
  have z:=s1 _ _ hu
  rw[q'] at z
  cases z
  exact s2 _ _ hu) (λ_ z=>z) λ_ _ z=>z
theorem KU:Passes (uD P w) (rW (uD P w) P w K mg base N qual scope f cd A outer s H E) E:=by
 intro pins σ H1 s1 ev s' I hc;obtain ⟨e,c,dx,H',B,rfl,os,bare,un,hok,⟨fl,F⟩,c1,c2,hE⟩:=hc;have un':Un (fV (envOfC qual scope s.heap.objs.size f cd::outer)) [] H1 H' s1.heap s'.heap:=un;have I0:Un (fV outer) [] H H1 s.heap s1.heap:=I.base;have nl:∀b o,s.heap.get? b=some o->b∉fV outer->b∉fV (envOfC qual scope s.heap.objs.size f cd::outer):=λb o q hb z=>by
  have z':b=s.heap.objs.size\/b∈fV outer:=by simpa [fV,envOfC] using z
  rcases z' with z'|z'
  ·exact absurd (lt_size q) (by rw[z'];exact lt_irrefl _)
  ·exact hb z'
 have fs:∀b,b∈fV outer->b∈fV (envOfC qual scope s.heap.objs.size f cd::outer):=λb z=>by
  have:b=s.heap.objs.size\/b∈fV outer:=.inr z;simpa [fV,envOfC] using this
 show wpAny _ _ (leaving _ (.ref e)) _ _ s';refine GX (L:=s.heap.objs.size) I.ok.frames rfl F λg F2 u=>?_;have bg:∀b o,s'.heap.get? b=some o->(∃u,B.get? b=some u)->g.get? b=some o:=λb o q ⟨v,hv⟩=>by
  have z:=F.stay _ _ hv;rw[q] at z;cases z;exact F2.stay _ _ hv
 have c1':∀b o,s.heap.get? b=some o->b∉fV outer->∃u,B.get? b=some u:=λb o q hb=>by
  obtain ⟨o1,q1⟩:=I0.there b o q (by simp);exact c1 b o1 q1 (nl b o q hb)
 have slot:∀b o,s.heap.get? b=some o->H b=none->b∈fV outer->∃sl,g.get? b=some {o with slots:=sl}:=λb o q n hb=>by
  obtain ⟨sl,q1⟩:=I0.slot b o q n hb (by simp);obtain ⟨sl2,q2⟩:=un'.slot b _ q1 (I0.free b o q n (by simp)) (fs b hb) (by simp);have nf:∀ws,o.data≠.fields ws:=by
   obtain ⟨_,o',q',n'⟩:=(show s.heap.FunFrames base outer from I.ok.funs).mem hb;rw[q] at q';cases q';exact n'
  obtain ⟨sl3,q3⟩:=u b _ q2 nf;exact ⟨sl3,q3⟩
 refine ⟨e,c,dx,H',B,rfl,os.trans I.os,bare,⟨λb o q n hb _=>?_,λb o q n hb _=>slot b o q n hb,λb o q n _=>?_,λb o q _=>?_,λb xs q=>un.tups b xs (I0.tups b xs q),λb o xs q=>un.frzs b o xs (I0.frzs b o xs q),λb ps q=>?_⟩,NB hok c2 F.stay F2.stay,⟨_,F2⟩,c1',c2,hE⟩
 ·exact bg b o (un'.keep b o (I0.keep b o q n hb (by simp)) (I0.free b o q n (by simp)) (nl b o q hb) (by simp)) (c1' b o q hb)
 ·obtain ⟨o1,q1⟩:=I0.there b o q (by simp);exact un'.free b o1 q1 (I0.free b o q n (by simp)) (by simp)
 ·by_cases hb:b∈fV outer
  ·obtain ⟨sl,z⟩:=slot b o q (I.ok.frf b hb) hb;exact ⟨_,z⟩
  ·obtain ⟨v,hv⟩:=c1' b o q hb;exact ⟨v,F2.stay _ _ hv⟩
 ·obtain ⟨m1,e1⟩:=I0.tbls b ps q;obtain ⟨m2,e2⟩:=un.tbls b _ e1;exact ⟨m1++m2,by rw[e2,Array.append_assoc]⟩
theorem LS (I:Inv (rW (uD P w) P w K mg base N qual scope f cd A outer s H E) pins σ H1 s1)
  (eo:s1.heap.get? e=some oe) (dt:oe.data=.fields vs) (v1:vs[1]?=some .none) (en:H1 e=none) (e0:∀b o,s.heap.get? b=some o->b≠e) (hE:E oe.cls oe.dict H1):
  (rW (uD P w) P w K mg base N qual scope f cd A outer s H E).xe (.ref e) s1:=by
 have I0:Un (fV outer) [] H H1 s.heap s1.heap:=I.base;have ff:s1.heap.FunFrames base (envOfC qual scope s.heap.objs.size f cd::outer):=I.stack;have nl:∀b o,s.heap.get? b=some o->b∉fV outer->b∉fV (envOfC qual scope s.heap.objs.size f cd::outer):=λb o q hb z=>by
  have z':b=s.heap.objs.size\/b∈fV outer:=by simpa [fV,envOfC] using z
  rcases z' with z'|z'
  ·exact absurd (lt_size q) (by rw[z'];exact lt_irrefl _)
  ·exact hb z'
 have ne:e∉fV (envOfC qual scope s.heap.objs.size f cd::outer):=λz=>by
  obtain ⟨_,o,q,n⟩:=ff.mem z;rw[eo] at q;cases q;exact n vs dt
 have hid:∀{b o},(PySem.W.hideAll s1.heap (e::fV (envOfC qual scope s.heap.objs.size f cd::outer))).get? b=some o->s1.heap.get? b=some o:=λq=>PySem.W.of_hideAll _ q;have has:∀{b o},s1.heap.get? b=some o->b≠e->b∉fV (envOfC qual scope s.heap.objs.size f cd::outer)->(PySem.W.hideAll s1.heap (e::fV (envOfC qual scope s.heap.objs.size f cd::outer))).get? b=some o:=
  λq h1 h2=>PySem.W.hideAll_get _ q (by simp only [mem_cons,not_or];exact ⟨h1,h2⟩)
 have ff2:s1.heap.FunFrames (PySem.W.hideAll s1.heap (e::fV (envOfC qual scope s.heap.objs.size f cd::outer))) (envOfC qual scope s.heap.objs.size f cd::outer):=
  PySem.W.funFrames_hide ff λenv' he' a ha=>mem_cons_of_mem _ (mem_filterMap.mpr ⟨env',he',ha⟩)
 show wpAny _ _ (leaving _ (.ref e)) _ _ s1;refine leave_new (L:=s.heap.objs.size) I.ok.frames ff2 rfl eo (λb o q=>hid q) (PySem.W.hideAll_none _ (by simp)) dt v1 λg F2 u=>?_;have c1':∀b o,s.heap.get? b=some o->b∉fV outer->∃u,(PySem.W.hideAll s1.heap (e::fV (envOfC qual scope s.heap.objs.size f cd::outer))).get? b=some u:=λb o q hb=>by
  obtain ⟨o1,q1⟩:=I0.there b o q (by simp);exact ⟨o1,has q1 (e0 b o q) (nl b o q hb)⟩
 have c2:∀b o,H1 b=some o->∃u,(PySem.W.hideAll s1.heap (e::fV (envOfC qual scope s.heap.objs.size f cd::outer))).get? b=some u:=λb o q=>by
  obtain ⟨o1,q1⟩:∃o1,s1.heap.get? b=some o1:=oP (I.hok b o q);refine ⟨o1,has q1 (λz=>by rw[z,en] at q;cases q) λz=>?_⟩;have:=I.stkFree b z;rw[q] at this;cases this
 have slot:∀b o,s.heap.get? b=some o->H b=none->b∈fV outer->∃sl,g.get? b=some {o with slots:=sl}:=λb o q n hb=>by
  obtain ⟨sl,q1⟩:=I0.slot b o q n hb (by simp);have nf:∀ws,o.data≠.fields ws:=by
   obtain ⟨_,o',q',n'⟩:=(show s.heap.FunFrames base outer from I.ok.funs).mem hb;rw[q] at q';cases q';exact n'
  obtain ⟨sl3,q3⟩:=u b _ q1 nf;exact ⟨sl3,q3⟩
 refine ⟨e,oe.cls,oe.dict,H1,_,rfl,I.os,I.bare,⟨λb o q n hb _=>?_,λb o q n hb _=>slot b o q n hb,λb o q n _=>I0.free b o q n (by simp),λb o q _=>?_,I0.tups,I0.frzs,I0.tbls⟩,NB I.hok c2 (λb o q=>hid q) F2.stay,⟨_,F2⟩,c1',c2,hE⟩
 ·exact F2.stay _ _ (has (I0.keep b o q n hb (by simp)) (e0 b o q) (nl b o q hb))
 ·by_cases hb:b∈fV outer
  ·obtain ⟨sl,z⟩:=slot b o q (I.ok.frf b hb) hb;exact ⟨_,z⟩
  ·obtain ⟨v,hv⟩:=c1' b o q hb;exact ⟨v,F2.stay _ _ hv⟩
end
theorem ff {P:Prop} (h:false=true):P:=nomatch h
abbrev XS:=St->XK
abbrev E0:XS:=λ_ _ _ _=>False
def nN:List Str:=["len","range","sum","all","any","min","max","sorted","isinstance","list","tuple","int","str","bool","dict","zip","set","abs","enumerate","reversed","divmod","ValueError"]
structure Rt where
 P:Program
 w:World
 K:Fg
 mg:Str->Option Value
 base:Heap
 A:Around
def dX (X:Cx):Rt:=⟨X.prog,X.w,X.K,X.mg,X.base,X.A⟩
def FnAt (R:Rt) (x:Str) (sp:Sp):Prop:=∃(k:Nat) (f:Addr) (fd:FuncData) (ps:List Str),cI k R.A/\sA R.P R.w R.K R.mg R.base (uD R.P R.w) k f fd ps sp/\Binds R.K fd ps []/\PySem.W.keepIn R.K (.ref f)=true/\R.mg x=some (.ref f)
def Jr (R:Rt) (x:Str) (v:V):Prop:=∃u,R.mg x=some u/\RelV v u
inductive Fb where
 |all
 |own (l:List Str)
 |hot
def Fb.of:Bool->Fb
 |true=>.all
 |false=>.own []
instance:Coe Bool Fb:=⟨Fb.of⟩
structure Sc where
 N:List Str
 nm:List (Str × NameKind)
 fo:Fb
def Sc.fb (C:Sc):Bool:=match C.fo with
 | .all=>true
 | .own _=>false
 | .hot=>true
def Sc.cm (C:Sc):Bool:=match C.fo with
 | .hot=>false
 |_=>true
def Sc.ow (C:Sc):List Str:=match C.fo with
 | .all=>[]
 | .own l=>l
 | .hot=>[]
structure Gd (X:Cx) (C:Sc):Prop where
 N:X.N=C.N
 nm:X.env.scope.names=C.nm
 nd:C.N.Nodup
 calm:C.cm=true->X.calm=true
 bl:∀x∈nN,X.mg x=none
 hu:X.A.units+64<cLine
 fb:C.fb=true->∀x,X.fn x=true
 top:C.fb=true->X.stack=X.env::X.outer/\X.env.frame=some X.env.locals
 ow:∀x∈C.ow,X.fn x=true
structure uA (X:Cx) (E:XS):Prop where
 pass:∀(pins:List (Addr × Obj)) (σ:St) (H:Hp) (s:Shared) (ev:Value) (s':Shared),Inv X pins σ H s->uD X.prog X.w X.stack H s (E σ) ev s'->X.xe ev s'
 made:∀(pins:List (Addr × Obj)) (σ:St) (H H':Hp) (s s':Shared) (e:Addr) (oe:Obj) (vs:Array Value),Inv X pins σ H s->s'.os=s.os->AllBare s'.gens->Un (fV X.stack) [] H H' s.heap s'.heap->eE X.prog X.w H' s'.heap->s.heap.get? e=none->H' e=none->
  s'.heap.get? e=some oe->oe.data=.fields vs->vs[1]?=some .none->E σ oe.cls oe.dict H'->X.xe (.ref e) s'
 own:PassesOwn (model X.prog X.w) X.A X.env X.xe
inductive Cb where
 |pl|cp|zc
 deriving DecidableEq
def gQ:Expr->Option Cb
 | .Starred ..=>none
 | .Slice ..=>none
 | .Set ..=>none
 | .SetComp ..=>none
 | .DictComp ..=>none
 | .GeneratorExp ..=>none
 | .ListComp ..=>some .cp
 | .Call (.Name _ _) [] [] _=>some .zc
 |_=>some .pl
def xA:Expr->Bool
 | .UnaryOp .Not _ _=>false
 | .BoolOp ..=>false
 | .IfExp ..=>false
 | .Compare ..=>false
 |_=>true
section
variable {e b o:Expr} {es:List Expr} {env:Env} {s:Cb}
theorem aX (h:gQ e=some s):starEach (e::es) env=(false,eval e env)::starEach es env:=by
 cases e<;>first|rfl|cases h
theorem kJ {tgt:Option Expr} {line:Nat} (h:gQ e=some s) (hs:s≠.cp):swapsWith e tgt line env=pure false:=by
 cases e with
 |ListComp a b c d=>exact absurd (Option.some.inj h).symm hs
 |SetComp a b c d=>cases h
 |DictComp a b c d=>cases h
 |_=>rfl
theorem XJ (h:gQ b=some s):FC b:=by
 cases b with
 |Slice a b c d=>cases h
 |_=>exact λ_ _=>rfl
theorem kK {op:CmpOp} (h:gQ b=some s):behindInMarks op b=false:=by
 cases b with
 |Set a b c=>cases h
 |_=>rfl
theorem xT (h:gQ e=some s) (x:Value):foldedSetIterable e env x=pure x:=by
 cases e with
 |Set a b c=>cases h
 |_=>rfl
theorem xU {attr:Str} {w:Sem Value} (h:gQ o=some s) (hs:s≠.zc):attributeBase o attr env w=w:=by
 cases o with
 |Call f a k p=>
  cases f with
  |Name x q=>
   cases a with
   |nil=>
    cases k with
    |nil=>exact absurd (Option.some.inj h).symm hs
    |cons _ _=>rfl
   |cons _ _=>rfl
  |_=>rfl
 |_=>rfl
theorem WY (h:xA e=true) (whole:Sem Value):isTrue e env whole=(do let v <-whole;standAt e.pos;holding [v] (truthy v)):=by
 cases e with
 |UnaryOp op x p=>
  cases op with
  |Not=>cases h
  |_=>rfl
 |BoolOp a b c=>cases h
 |IfExp a b c d=>cases h
 |Compare a b c d=>cases h
 |_=>rfl
end
def br (b:Bool) (A B:Prop):Prop:=(b=true->A)/\(b=false->B)
theorem IH {A B:Prop} (h:A):br true A B:=⟨λ_=>h,λz=>nomatch z⟩
theorem tN {A B:Prop} (h:B):br false A B:=⟨λz=>(nomatch z),λ_=>h⟩
theorem fT {c A B:Prop} [Decidable c] (h1:c->A) (h2:¬c->B):br (decide c) A B:=⟨λz=>h1 (of_decide_eq_true z),λz=>h2 (of_decide_eq_false z)⟩
def rQ (K:Fg) (x:V) (H:Hp) (Q:Bool->Hp->Prop):Prop:=match x with
 | .bl b=>Q b H
 | .non=>Q false H
 | .int i=>Q (i != 0) H
 | .str y=>y.length<=sizeLine/\Q ((y.length:Int) != 0) H
 | .ref p=>∃k,By K (.ref p) H k/\Q k H
 |_=>False
theorem QZ {K:Fg} {x:V} {H:Hp} {Q:Bool->Hp->Prop} (h:rQ K x H Q):∃k,By K x H k/\Q k H:=by
 cases x with
 |bl b=>exact ⟨b,rfl,h⟩
 |non=>exact ⟨false,rfl,h⟩
 |int i=>exact ⟨_,rfl,h⟩
 |str y=>exact ⟨_,⟨h.1,rfl⟩,h.2⟩
 |ref p=>exact h
 |byt _=>exact h.elim
 |flt _=>exact h.elim
 |ty _=>exact h.elim
theorem nQ {X:Cx}:Jh X (rQ X.K):=λpins s σ H x v Q I rx h=>WZ pins s σ H x v Q I rx (QZ h)
def XA (K:Fg) (t:TE):TT:=λσ H Q=>t σ H λx H'=>rQ K x H' Q
theorem YD {X:Cx} {a:Expr} {ta:TE} (ha:PE X a ta) (he:xA a=true):PT X a (XA X.K ta):=by
 intro pins s σ H Q I h;exact isTrue_plain (bU (ha pins s σ H _ I h) λv s1 ⟨x,H1,I1,r1,q1⟩=>nQ pins s1 σ H1 x v Q I1 r1 q1) (WY he _)
theorem PE.imp {X:Cx} {e:Expr} {t t':TE} (h:PE X e t) (f:∀σ H Q,t' σ H Q->t σ H Q):PE X e t':=λpins s σ H Q I q=>h pins s σ H Q I (f σ H Q q)
structure EX (K:Fg) where
 t:XS->TE
 tt:XS->TT
 m:Sc->Expr->Bool
 q:Rt->Prop
 s:Cb
 ok:∀(X:Cx) (C:Sc) (E:XS) (e:Expr),X.K=K->Gd X C->uA X E->q (dX X)->m C e=true->PE X e (t E)
 okT:∀(X:Cx) (C:Sc) (E:XS) (e:Expr),X.K=K->Gd X C->uA X E->q (dX X)->m C e=true->PT X e (tt E)
 sok:∀(C:Sc) (e:Expr),m C e=true->gQ e=some s
def SK {K:Fg} (t:XS->TE) (m:Sc->Expr->Bool) (q:Rt->Prop) (s:Cb)
  (ok:∀(X:Cx) (C:Sc) (E:XS) (e:Expr),X.K=K->Gd X C->uA X E->q (dX X)->m C e=true->PE X e (t E))
  (sok:∀(C:Sc) (e:Expr),m C e=true->gQ e=some s) (hT:∀(C:Sc) (e:Expr),m C e=true->xA e=true):EX K:=
 ⟨t,λE=>XA K (t E),m,q,s,ok,λX C E e hK G hE hq hm=>by subst hK;exact YD (ok X C E e rfl G hE hq hm) (hT C e hm),sok⟩
def lX {K:Fg} (t:XS->TE) (m:Sc->Expr->Bool) (q:Rt->Prop) (s:Cb)
  (ok:∀(X:Cx) (C:Sc) (E:XS) (e:Expr),X.K=K->Gd X C->uA X E->q (dX X)->m C e=true->PE X e (t E))
  (both:∀(C:Sc) (e:Expr),m C e=true->gQ e=some s/\xA e=true):EX K:=SK t m q s ok (λC e h=>(both C e h).1) λC e h=>(both C e h).2
variable {K:Fg}
def tV (i:Nat):TE:=λσ H Q=>match σ[i]? with
 |some (some v)=>Q v H
 |_=>False
def Dg:Option NameKind->Bool
 |some .local=>true
 |some .cell=>true
 |some .free=>true
 |_=>false
theorem PZ {sc:Scope} {x:Str} (h:Dg (sc.names.lookup x)=true):Jz sc x:=by
 unfold Jz;cases e:sc.names.lookup x with
 |none=>rw[e] at h;cases h
 |some k=>
  cases k with
  |«local»=>exact .inl rfl
  |cell=>exact .inr (.inl rfl)
  |free=>exact .inr (.inr rfl)
  |globalExplicit=>rw[e] at h;cases h
  |globalImplicit=>rw[e] at h;cases h
theorem lW {x y:Str} (h:(x != y)=true):(x==y)=false:=by
 cases e:x==y with
 |false=>rfl
 |true=>rw[bne,e] at h;cases h
def var (i:Nat):EX K:=lX (λ_=>tV i)
 (λC e=>match e with
  | .Name x _=>C.N[i]?==some x&&(Dg (C.nm.lookup x)&&(x != "__debug__"&&x != "__classdict__"))
  |_=>false) (λ_=>True) .pl
 (λX C E e hK G hE hq hm=>by
  cases e with
  |Name x p=>
   simp only [and_eq_true] at hm
   obtain ⟨h1,h2,h3,h4⟩:=hm
   refine PE.imp (YL (i:=i) (by rw[G.N];exact eq_of_beq h1) (PZ (by rw[G.nm];exact h2)) (lW h3) (lW h4)) λσ H Q h=>?_
   unfold tV at h
   split at h
   ·exact ⟨_,by assumption,h⟩
   ·exact h.elim
  |_=>exact ff hm)
 (λC e hm=>by cases e with|Name x p=>exact ⟨rfl,rfl⟩|_=>exact ff hm)
def cst (v:V):EX K:=lX (λ_=>tC v)
 (λ_ e=>match e with
  | .Constant c _ _=>decide (NV c=some v)
  |_=>false) (λ_=>True) .pl
 (λX C E e hK G hE hq hm=>by
  cases e with
  |Constant c k p=>exact GG (of_decide_eq_true hm)
  |_=>exact ff hm)
 (λC e hm=>by cases e with|Constant c k p=>exact ⟨rfl,rfl⟩|_=>exact ff hm)
def rH (C:Sc) (x y:Str):Bool:=y==x&&(C.nm.lookup x==some .globalImplicit&&x != "__debug__")
theorem cE {C:Sc} {x y:Str} (h:rH C x y=true):y=x:=by
 unfold rH at h;simp only [and_eq_true] at h;exact eq_of_beq h.1
theorem cD {X:Cx} {C:Sc} {x y:Str} (G:Gd X C) (h:rH C x y=true):Gl X x/\(x==("__debug__":Str))=false:=by
 unfold rH at h;simp only [and_eq_true] at h;obtain ⟨_,h2,h3⟩:=h;exact ⟨by show X.env.scope.names.lookup x=_;rw[G.nm];exact eq_of_beq h2,lW h3⟩
def Az (x:Str) (v:V):EX K:=lX (λ_=>tC v)
 (λC e=>match e with
  | .Name y _=>rH C x y
  |_=>false) (λR=>Jr R x v) .pl
 (λX C E e hK G hE hq hm=>by
  cases e with
  |Name y p=>
   obtain ⟨u,h1,h2⟩:=hq
   have e:=cE hm
   subst e
   obtain ⟨g,d⟩:=cD G hm
   exact RM g h1 h2 d
  |_=>exact ff hm)
 (λC e hm=>by cases e with|Name x p=>exact ⟨rfl,rfl⟩|_=>exact ff hm)
def Mg (x:Str) (T:String) (hb:bootBuiltins x=some (.type T)) (hi:x∈nN) (hn:x≠"__name__"):EX K:=lX (λ_=>tC (.ty T))
 (λC e=>match e with
  | .Name y _=>rH C x y
  |_=>false) (λ_=>True) .pl
 (λX C E e hK G hE hq hm=>by
  cases e with
  |Name y p=>
   have e:=cE hm
   subst e
   obtain ⟨g,d⟩:=cD G hm
   exact RO g (G.bl _ hi) hb rfl hn d
  |_=>exact ff hm)
 (λC e hm=>by cases e with|Name x p=>exact ⟨rfl,rfl⟩|_=>exact ff hm)
def UE (f:Int->Int->Hp->(V->Hp->Prop)->Prop):R2:=λx y H Q=>match x with
 | .int i=>(match y with
  | .int j=>f i j H Q
  |_=>False)
 |_=>False
theorem iH {f:Int->Int->Hp->(V->Hp->Prop)->Prop} {x y:V} {H:Hp} {Q:V->Hp->Prop} (h:UE f x y H Q):∃i j,x=.int i/\y=.int j/\f i j H Q:=by
 cases x with
 |int i=>cases y with
  |int j=>exact ⟨i,j,rfl,rfl,h⟩
  |_=>exact False.elim h
 |_=>exact False.elim h
def Kx (K:Fg):R2:=λx y H Q=>match x with
 | .int i=>(match y with
  | .int j=>Q (.int (i+j)) H
  | .bl k=>Q (.int (i+b2i k)) H
  |_=>False)
 | .str a=>(match y with
  | .str b=>a.length+b.length<=sizeLine/\Q (.str (a++b)) H
  |_=>False)
 | .ref a=>(match y with
  | .ref b=>Fd (.ref a) (.ref b) H Q\/VQ K (.ref a) (.ref b) H Q\/KH K (.ref a) (.ref b) H Q
  |_=>False)
 |_=>False
def Kt:R2:=λx y H Q=>match y with
 | .int j=>(match x with
  | .int i=>IntMulOk i j/\Q (.int (i * j)) H
  | .ref a=>Er (.ref a) (.int j) H Q
  | .str a=>WQ a j/\Q (.str (Txt.mul a j)) H
  |_=>False)
 |_=>False
def kQ (K:Fg):Operator->R2
 | .Add=>Kx K
 | .Sub=>UE λi j H Q=>Q (.int (i - j)) H
 | .Mult=>Kt
 | .FloorDiv=>UE λi j H Q=>Mn i j/\Q (.int (i / j)) H
 | .Mod=>UE λi j H Q=>0<j/\Q (.int (i % j)) H
 | .Pow=>UE λi j H Q=>Kf i j/\Q (.int (i ^ j.toNat)) H
 |_=>λ_ _ _ _=>False
theorem Bt {X:Cx} (op:Operator):gD X (binaryOp op) (kQ X.K op):=by
 intro pins s σ H x y v u Q I rx ry h;cases op with
 |Add=>
  cases x with
  |int i=>cases y with
   |int j=>exact ZJ pins s σ H _ _ v u Q I rx ry ⟨_,_,rfl,rfl,h⟩
   |bl k=>exact GO pins s σ H _ _ v u Q I rx ry ⟨_,_,rfl,rfl,h⟩
   |_=>exact False.elim h
  |str a=>cases y with
   |str b=>exact BC pins s σ H _ _ v u Q I rx ry ⟨_,_,rfl,rfl,h.1,h.2⟩
   |_=>exact False.elim h
  |ref a=>cases y with
   |ref b=>
    rcases h with h|h|h
    ·exact ZI pins s σ H _ _ v u Q I rx ry h
    ·exact RY pins s σ H _ _ v u Q I rx ry h
    ·exact LB pins s σ H _ _ v u Q I rx ry h
   |_=>exact False.elim h
  |_=>exact False.elim h
 |Sub=>exact YX pins s σ H _ _ v u Q I rx ry (iH (f:=λi j H Q=>Q (.int (i - j)) H) h)
 |Mult=>
  cases y with
  |int j=>cases x with
   |int i=>exact RX pins s σ H _ _ v u Q I rx ry ⟨_,_,rfl,rfl,h.1,h.2⟩
   |ref a=>exact YY pins s σ H _ _ v u Q I rx ry h
   |str a=>exact RW pins s σ H _ _ v u Q I rx ry ⟨_,_,rfl,rfl,h.1,h.2⟩
   |_=>exact False.elim h
  |_=>exact False.elim h
 |FloorDiv=>exact LA pins s σ H _ _ v u Q I rx ry (iH (f:=λi j H Q=>Mn i j/\Q (.int (i / j)) H) h)
 |Mod=>exact ZC pins s σ H _ _ v u Q I rx ry (iH (f:=λi j H Q=>0<j/\Q (.int (i % j)) H) h)
 |Pow=>exact RT pins s σ H _ _ v u Q I rx ry (iH (f:=λi j H Q=>Kf i j/\Q (.int (i ^ j.toNat)) H) h)
 |_=>exact False.elim h
def bin (op:Operator) (a b:EX K):EX K:=lX (λE=>XC (kQ K op) (a.t E) (b.t E))
 (λC e=>match e with
  | .BinOp l o r _=>decide (o=op)&&(a.m C l&&b.m C r)
  |_=>false) (λR=>a.q R/\b.q R) .pl
 (λX C E e hK G hE hq hm=>by
  subst hK
  cases e with
  |BinOp l o r p=>
   simp only [and_eq_true] at hm
   obtain ⟨h1,h2,h3⟩:=hm
   have e:=of_decide_eq_true h1
   subst e
   exact Fh (Bt _) (a.ok X C E l rfl G hE hq.1 h2) (b.ok X C E r rfl G hE hq.2 h3)
  |_=>exact ff hm)
 (λC e hm=>by cases e with|BinOp l o r p=>exact ⟨rfl,rfl⟩|_=>exact ff hm)
def GB:V->Hp->VK->Prop
 | .int i,H,Q=>Q (.int (-i)) H
 |_,_,_=>False
def neg (a:EX K):EX K:=SK (λE=>Mr GB (a.t E))
 (λC e=>match e with
  | .UnaryOp .USub l _=>a.m C l
  |_=>false) a.q .pl
 (λX C E e hK G hE hq hm=>by
  cases e with
  |UnaryOp o l p=>
   cases o with
   |USub=>
    refine Ff (λpins s σ H x v Q I rx h=>?_) (a.ok X C E l hK G hE hq hm)
    unfold GB at h
    split at h
    ·exact WW pins s σ H _ v Q I rx ⟨_,rfl,h⟩
    ·exact h.elim
   |_=>exact ff hm
  |_=>exact ff hm)
 (λC e hm=>by cases e with|UnaryOp o l p=>rfl|_=>exact ff hm)
 (λC e hm=>by cases e with|UnaryOp o l p=>(cases o with|USub=>rfl|_=>exact ff hm)|_=>exact ff hm)
theorem ZF {X:Cx}:gD X (compareOp .Is) (λx y H Q=>∃c d,x=.bl c/\y=.bl d/\Q (.bl (c==d)) H):=by
 intro pins s σ H x y v u Q I rx ry h;obtain ⟨c,d,rfl,rfl,q⟩:=h;cases (show v=Value.bool c from rx);cases (show u=Value.bool d from ry);exact is_bool ⟨.bl _,H,I,rfl,q⟩
theorem GJ {X:Cx}:gD X (compareOp .IsNot) (λx y H Q=>∃c d,x=.bl c/\y=.bl d/\Q (.bl (c != d)) H):=by
 intro pins s σ H x y v u Q I rx ry h;obtain ⟨c,d,rfl,rfl,q⟩:=h;cases (show v=Value.bool c from rx);cases (show u=Value.bool d from ry);exact isnot_bool ⟨.bl _,H,I,rfl,q⟩
def Mu (f:Bool->Bool):R2:=λx y H Q=>match y with
 | .non=>Q (.bl (f (decide (x=.non)))) H
 | .bl d=>(match x with
  | .bl c=>Q (.bl (f (c==d))) H
  |_=>False)
 |_=>False
def Ex (K:Fg) (n:Bool) (f:Bool->Bool):R2:=λx y H Q=>match y with
 | .ref b=>Kw K n x (.ref b) H Q
 | .str j=>(match x with
  | .str i=>Q (.bl (f (!(Builtin.Str.occurrences j i 0 j.length 1).isEmpty))) H
  |_=>False)
 |_=>False
def eL (K:Fg):CmpOp->R2
 | .Eq=>λx y H Q=>(QW x y=true/\Q (.bl (decide (x=y))) H)\/Fc x y H Q\/Ez x y H Q
 | .NotEq=>λx y H Q=>(QW x y=true/\Q (.bl (!decide (x=y))) H)\/Et x y H Q\/Es x y H Q
 | .Lt=>UE λi j H Q=>Q (.bl (decide (i<j))) H
 | .LtE=>UE λi j H Q=>Q (.bl (decide (i<=j))) H
 | .Gt=>UE λi j H Q=>Q (.bl (decide (j<i))) H
 | .GtE=>UE λi j H Q=>Q (.bl (decide (j<=i))) H
 | .Is=>Mu λb=>b
 | .IsNot=>Mu λb=>!b
 | .In=>Ex K false λb=>b
 | .NotIn=>Ex K true λb=>!b
theorem NZ {X:Cx} (hu:X.A.units+64<cLine) (op:CmpOp):gD X (compareOp op) (eL X.K op):=by
 intro pins s σ H x y v u Q I rx ry h;cases op with
 |Eq=>
  rcases h with h|h|h
  ·exact Fv pins s σ H _ _ v u Q I rx ry h
  ·exact ZH hu pins s σ H _ _ v u Q I rx ry h
  ·exact ZG hu pins s σ H _ _ v u Q I rx ry h
 |NotEq=>
  rcases h with h|h|h
  ·exact Fo pins s σ H _ _ v u Q I rx ry h
  ·exact ZA hu pins s σ H _ _ v u Q I rx ry h
  ·exact YZ hu pins s σ H _ _ v u Q I rx ry h
 |Lt=>exact Fq pins s σ H _ _ v u Q I rx ry (iH (f:=λi j H Q=>Q (.bl (decide (i<j))) H) h)
 |LtE=>exact Fs pins s σ H _ _ v u Q I rx ry (iH (f:=λi j H Q=>Q (.bl (decide (i<=j))) H) h)
 |Gt=>exact Ft pins s σ H _ _ v u Q I rx ry (iH (f:=λi j H Q=>Q (.bl (decide (j<i))) H) h)
 |GtE=>exact Fu pins s σ H _ _ v u Q I rx ry (iH (f:=λi j H Q=>Q (.bl (decide (j<=i))) H) h)
 |Is=>
  cases y with
  |non=>exact ZE pins s σ H _ _ v u Q I rx ry ⟨rfl,h⟩
  |bl d=>cases x with
   |bl c=>exact ZF pins s σ H _ _ v u Q I rx ry ⟨_,_,rfl,rfl,h⟩
   |_=>exact False.elim h
  |_=>exact False.elim h
 |IsNot=>
  cases y with
  |non=>exact RU pins s σ H _ _ v u Q I rx ry ⟨rfl,h⟩
  |bl d=>cases x with
   |bl c=>exact GJ pins s σ H _ _ v u Q I rx ry ⟨_,_,rfl,rfl,h⟩
   |_=>exact False.elim h
  |_=>exact False.elim h
 |In=>
  cases y with
  |ref b=>exact GL pins s σ H _ _ v u Q I rx ry h
  |str j=>cases x with
   |str i=>exact GK pins s σ H _ _ v u Q I rx ry ⟨_,_,rfl,rfl,h⟩
   |_=>exact False.elim h
  |_=>exact False.elim h
 |NotIn=>
  cases y with
  |ref b=>exact vI pins s σ H _ _ v u Q I rx ry h
  |str j=>cases x with
   |str i=>exact vH pins s σ H _ _ v u Q I rx ry ⟨_,_,rfl,rfl,h⟩
   |_=>exact False.elim h
  |_=>exact False.elim h
def bV (Q:Bool->Hp->Prop):V->Hp->Prop
 | .bl b,H=>Q b H
 |_,_=>False
def rB (r:R2):V->V->Hp->(Bool->Hp->Prop)->Prop:=λx y H Q=>r x y H (bV Q)
theorem Iz {z:V} {H:Hp} {Q:Bool->Hp->Prop} (h:bV Q z H):∃b,z=.bl b/\Q b H:=by
 cases z with
 |bl b=>exact ⟨b,rfl,h⟩
 |_=>exact h.elim
def cmp (op:CmpOp) (a b:EX K):EX K where
 t:=λE=>XC (eL K op) (a.t E) (b.t E)
 tt:=λE σ H Q=>a.t E σ H λx H1=>b.t E σ H1 λy H2=>rB (eL K op) x y H2 Q
 m:=λC e=>match e with
  | .Compare l [o] [r] _=>decide (o=op)&&(a.m C l&&b.m C r)
  |_=>false
 q:=λR=>a.q R/\b.q R
 s:=.pl
 ok:=λX C E e hK G hE hq hm=>by
  subst hK;cases e with
  |Compare l os rs p=>
   match os,rs,hm with
   |[o],[r],hm=>
    simp only [and_eq_true] at hm;obtain ⟨h1,h2,h3⟩:=hm;have e:=of_decide_eq_true h1;subst e;exact DH (NZ G.hu _) (a.ok X C E l rfl G hE hq.1 h2) (b.ok X C E r rfl G hE hq.2 h3) (kK (b.sok C r h3))
  |_=>exact ff hm
 okT:=λX C E e hK G hE hq hm=>by
  subst hK;cases e with
  |Compare l os rs p=>
   match os,rs,hm with
   |[o],[r],hm=>
    simp only [and_eq_true] at hm;obtain ⟨h1,h2,h3⟩:=hm;have e:=of_decide_eq_true h1;subst e;intro pins s σ H Q I hw;refine wpAny_isTrue_Compare1 (bU (a.ok X C E l rfl G hE hq.1 h2 pins s σ H _ I hw) λv s1 ⟨x,H1,I1,r1,q1⟩=>bU (b.ok X C E r rfl G hE hq.2 h3 pins s1 σ H1 _ I1 q1) λu s2 ⟨y,H2,I2,r2,q2⟩=>
     bU (NZ G.hu _ pins s2 σ H2 x y v u _ I2 r1 r2 q2) λc s3 ⟨z,H3,I3,r3,q3⟩=>?_) (kK (b.sok C r h3))
    obtain ⟨d,rfl,q⟩:=Iz q3;cases r3;exact wpAny_truthy_bool ⟨H3,I3,q⟩
  |_=>exact ff hm
 sok:=λC e hm=>by cases e with|Compare l o r p=>rfl|_=>exact ff hm
def vJ (a:EX K):EX K where
 t:=λE σ H Q=>a.t E σ H λx H1=>rQ K x H1 λb H2=>Q (.bl (!b)) H2
 tt:=λE σ H Q=>a.tt E σ H λb H1=>Q (!b) H1
 m:=λC e=>match e with
  | .UnaryOp .Not l _=>a.m C l
  |_=>false
 q:=a.q
 s:=.pl
 ok:=λX C E e hK G hE hq hm=>by
  subst hK;cases e with
  |UnaryOp o l p=>
   cases o with
   |Not=>
    intro pins s σ H Q I h;refine UnaryOp_ (bU (a.ok X C E l rfl G hE hq hm pins s σ H _ I h) λv s1 ⟨x,H1,I1,r1,q1⟩=>?_);exact not_of (bU (nQ pins s1 σ H1 x v _ I1 r1 q1) λb s2 ⟨H2,I2,q2⟩=>⟨.bl (!b),H2,I2,rfl,q2⟩)
   |_=>exact ff hm
  |_=>exact ff hm
 okT:=λX C E e hK G hE hq hm=>by
  cases e with
  |UnaryOp o l p=>
   cases o with
   |Not=>exact YE (a.okT X C E l hK G hE hq hm)
   |_=>exact ff hm
  |_=>exact ff hm
 sok:=λC e hm=>by cases e with|UnaryOp o l p=>rfl|_=>exact ff hm
def xG (K:Fg) (op:BoolOp) (E:XS):TE->List (EX K)->TE
 |t,[]=>t
 |t,y::ys=>λσ H Q=>t σ H λx H1=>rQ K x H1 λb H2=>match op with
  | .And=>br b (xG K op E (y.t E) ys σ H2 Q) (Q x H2)
  | .Or=>br b (Q x H2) (xG K op E (y.t E) ys σ H2 Q)
def oW (K:Fg) (op:BoolOp) (E:XS):TT->List (EX K)->TT
 |t,[]=>t
 |t,y::ys=>λσ H Q=>t σ H λb H1=>match op with
  | .And=>br b (oW K op E (y.tt E) ys σ H1 Q) (Q false H1)
  | .Or=>br b (Q true H1) (oW K op E (y.tt E) ys σ H1 Q)
def jT:List (EX K)->Sc->List Expr->Bool
 |[],_,[]=>true
 |x::xs,C,e::es=>x.m C e&&jT xs C es
 |_,_,_=>false
def sQ:List (EX K)->Rt->Prop
 |[],_=>True
 |x::xs,R=>x.q R/\sQ xs R
theorem OK {X:Cx} {C:Sc} {E:XS} {pos:Pos} (op:BoolOp) (G:Gd X C) (hE:uA X E):∀(xs:List (EX X.K)) (e:Expr) (es:List Expr) (t:TE),PE X e t->sQ xs (dX X)->jT xs C es=true->PE X (.BoolOp op (e::es) pos) (xG X.K op E t xs)
 |[],e,[],t,he,_,_=>YO he
 |[],e,_::_,t,he,_,hm=>nomatch hm
 |x::xs,e,[],t,he,_,hm=>nomatch hm
 |x::xs,e,e2::es,t,he,hq,hm=>by
  have hm':(x.m C e2&&jT xs C es)=true:=hm;simp only [and_eq_true] at hm';have h2:=OK (pos:=pos) op G hE xs e2 es (x.t E) (x.ok X C E e2 rfl G hE hq.1 hm'.1) hq.2 hm'.2;cases op with
  |And=>
   intro pins s σ H Q I h;refine BoolOp_and (bU (he pins s σ H _ I h) λv s1 ⟨y,H1,I1,r1,q1⟩=>?_);refine bU (nQ pins s1 σ H1 y v _ I1 r1 q1) λb s2 ⟨H2,I2,q2⟩=>?_;cases b with
   |true=>exact h2 pins s2 σ H2 Q I2 (q2.1 rfl)
   |false=>exact ⟨y,H2,I2,r1,q2.2 rfl⟩
  |Or=>
   intro pins s σ H Q I h;refine BoolOp_or (bU (he pins s σ H _ I h) λv s1 ⟨y,H1,I1,r1,q1⟩=>?_);refine bU (nQ pins s1 σ H1 y v _ I1 r1 q1) λb s2 ⟨H2,I2,q2⟩=>?_;cases b with
   |true=>exact ⟨y,H2,I2,r1,q2.1 rfl⟩
   |false=>exact h2 pins s2 σ H2 Q I2 (q2.2 rfl)
theorem EN {X:Cx} {C:Sc} {E:XS} {pos:Pos} (op:BoolOp) (G:Gd X C) (hE:uA X E):∀(xs:List (EX X.K)) (e:Expr) (es:List Expr) (t:TT),PT X e t->sQ xs (dX X)->jT xs C es=true->PW X (.BoolOp op (e::es) pos) (oW X.K op E t xs)
 |[],e,[],t,he,_,_=>by
  cases op with
  |And=>exact RE he
  |Or=>exact YB he
 |[],e,_::_,t,he,_,hm=>nomatch hm
 |x::xs,e,[],t,he,_,hm=>nomatch hm
 |x::xs,e,e2::es,t,he,hq,hm=>by
  have hm':(x.m C e2&&jT xs C es)=true:=hm;simp only [and_eq_true] at hm';have h2:=EN (pos:=pos) op G hE xs e2 es (x.tt E) (x.okT X C E e2 rfl G hE hq.1 hm'.1) hq.2 hm'.2;cases op with
  |And=>
   intro wh pins s σ H Q I h;refine isTrue_and (bU (he pins s σ H _ I h) λb s1 ⟨H1,I1,q1⟩=>?_);cases b with
   |true=>exact h2 wh pins s1 σ H1 Q I1 (q1.1 rfl)
   |false=>exact ⟨H1,I1,q1.2 rfl⟩
  |Or=>
   intro wh pins s σ H Q I h;refine isTrue_or (bU (he pins s σ H _ I h) λb s1 ⟨H1,I1,q1⟩=>?_);cases b with
   |true=>exact ⟨H1,I1,q1.1 rfl⟩
   |false=>exact h2 wh pins s1 σ H1 Q I1 (q1.2 rfl)
def Mw (op:BoolOp) (x:EX K) (xs:List (EX K)):EX K where
 t:=λE=>xG K op E (x.t E) xs
 tt:=λE=>oW K op E (x.tt E) xs
 m:=λC e=>match e with
  | .BoolOp o (l::ls) _=>decide (o=op)&&(x.m C l&&jT xs C ls)
  |_=>false
 q:=λR=>x.q R/\sQ xs R
 s:=.pl
 ok:=λX C E e hK G hE hq hm=>by
  subst hK;cases e with
  |BoolOp o ls p=>
   cases ls with
   |nil=>cases hm
   |cons l ls=>
    simp only [and_eq_true] at hm;obtain ⟨h1,h2,h3⟩:=hm;have e:=of_decide_eq_true h1;subst e;exact OK _ G hE xs l ls _ (x.ok X C E l rfl G hE hq.1 h2) hq.2 h3
  |_=>exact ff hm
 okT:=λX C E e hK G hE hq hm=>by
  subst hK;cases e with
  |BoolOp o ls p=>
   cases ls with
   |nil=>cases hm
   |cons l ls=>
    simp only [and_eq_true] at hm;obtain ⟨h1,h2,h3⟩:=hm;have e:=of_decide_eq_true h1;subst e;exact (EN _ G hE xs l ls _ (x.okT X C E l rfl G hE hq.1 h2) hq.2 h3).pt
  |_=>exact ff hm
 sok:=λC e hm=>by cases e with|BoolOp o l p=>rfl|_=>exact ff hm
def zX (x:EX K) (xs:List (EX K)):EX K:=Mw .And x xs
def Ky (x:EX K) (xs:List (EX K)):EX K:=Mw .Or x xs
def fL:List (EX K)->XS->TA
 |[],_=>Dx
 |x::xs,E=>VJ (x.t E) (fL xs E)
theorem aH {x:EX K} {xs:List (EX K)} {C:Sc} {e:Expr} {es:List Expr} (h:jT (x::xs) C (e::es)=true):x.m C e=true/\jT xs C es=true:=by
 have h':(x.m C e&&jT xs C es)=true:=h;simpa only [and_eq_true] using h'
theorem dU {X:Cx} {C:Sc} {E:XS} (G:Gd X C) (hE:uA X E):∀(xs:List (EX X.K)) (es:List Expr),sQ xs (dX X)->jT xs C es=true->PA X es (fL xs E)
 |[],[],_,_=>KW
 |[],_::_,_,hm=>nomatch hm
 |_::_,[],_,hm=>nomatch hm
 |x::xs,e::es,hq,hm=>DI (x.ok X C E e rfl G hE hq.1 (aH hm).1) (dU G hE xs es hq.2 (aH hm).2) (aX (x.sok C e (aH hm).1))
theorem bJ {C:Sc} {env:Env} {pos:Pos}:∀(xs:List (EX K)) (es:List Expr),jT xs C es=true->(backTo pos (starEach es env)).any (·.1)=false
 |[],[],_=>rfl
 |[],_::_,hm=>nomatch hm
 |_::_,[],hm=>nomatch hm
 |x::xs,e::es,hm=>by
  rw[aX (x.sok C e (aH hm).1)];show (false || (backTo pos (starEach es env)).any (·.1))=false;rw[bJ xs es (aH hm).2];rfl
theorem as_none {C:Sc} {env:Env} {pos:Pos}:∀(xs:List (EX K)) (es:List Expr),jT xs C es=true->(backTo pos (starEach es env)).all (λx=>!x.1)=true
 |[],[],_=>rfl
 |[],_::_,hm=>nomatch hm
 |_::_,[],hm=>nomatch hm
 |x::xs,e::es,hm=>by
  rw[aX (x.sok C e (aH hm).1)];show (true&&(backTo pos (starEach es env)).all (λx=>!x.1))=true;rw[as_none xs es (aH hm).2];rfl
def Kq:List (EX K)->Cb
 |[]=>.zc
 |_=>.pl
theorem uV {C:Sc} {y:Str} {p q:Pos}:∀(xs:List (EX K)) (es:List Expr),jT xs C es=true->gQ (.Call (.Name y p) es [] q)=some (Kq xs)
 |[],[],_=>rfl
 |[],_::_,hm=>nomatch hm
 |_::_,[],hm=>nomatch hm
 |_::_,_::_,_=>rfl
def XD (sp:Sp) (E:XS) (t:TA):TE:=λσ H Q=>t σ H λvs H1=>sp vs H1 Q (E σ)
theorem DD {X:Cx} {E:XS} {k:Nat} {f:Addr} {fd:FuncData} {ps:List Str} {sp:Sp} {pins:List (Addr × Obj)} {σ:St} {H1:Hp} {s1:Shared} {Q1:VK} {us:List Value} {vs:List V} (hE:uA X E) (F:sA X.prog X.w X.K X.mg X.base (uD X.prog X.w) k f fd ps sp)
  (room:cI k X.A) (bd:Binds X.K fd ps []) (I1:Inv X pins σ H1 s1) (rl:Vals vs us) (pr:sp vs H1 Q1 (E σ)):wpAny (model X.prog X.w) X.A (PySem.call (.ref f) us) (EP X pins σ Q1) X.xe s1:=by
 have ln:(us++[]).length=ps.length:=by rw[append_nil,<-rl.length];exact F.len _ _ _ _ pr
 have b:=bd s1 us I1.kIn ln;rw[append_nil] at b;refine wpAny_call (codeAny_mono (F.run X.A X.stack s1 H1 ⟨us,[]⟩ us vs Q1 (E σ) room I1.env0 b rl pr) λres s2 fin=>?_);cases res with
 |error ev=>exact hE.pass pins σ H1 s1 ev s2 I1 fin
 |ok fl=>
  cases fl with
  |ret v=>exact I1.after fin
  |next=>exact fin.elim
  |brk=>exact fin.elim
  |cont=>exact fin.elim
noncomputable def call (x:Str) (sp:Sp) (as:List (EX K)):EX K:=SK (λE=>XD sp E (fL as E))
 (λC e=>match e with
  | .Call (.Name y _) es [] _=>rH C x y&&jT as C es
  |_=>false) (λR=>FnAt R x sp/\sQ as R) (Kq as)
 (λX C E e hK G hE hq hm=>by
  subst hK
  cases e with
  |Call f es ks p=>
   cases f with
   |Name y py=>
    cases ks with
    |nil=>
     simp only [and_eq_true] at hm
     obtain ⟨h1,h2⟩:=hm
     have e:=cE h1
     subst e
     obtain ⟨g,d⟩:=cD G h1
     obtain ⟨⟨k,f,fd,ps,hr,F,hb,kp,hg⟩,hqa⟩:=hq
     cases as with
     |nil=>
      cases es with
      |nil=>
       intro pins s σ H Q I h
       exact wpAny_Call_Name_kw (iW I g hg (PySem.W.callWith_K0 I.kIn kp (DD (us:=[]) hE F hr hb I .nil h)) d)
      |cons _ _=>cases h2
     |cons a as=>
      cases es with
      |nil=>cases h2
      |cons e es=>
       intro pins s σ H Q I h
       exact wpAny_Call_Name_kw (iW I g hg (PySem.W.callWith_K (h₀:=X.base) I.ok.mod.kin kp (bU (dU G hE (a::as) (e::es) hqa h2 p pins s σ H _ I h) λus s1 ⟨vs,H1,I1,r,q⟩=>⟨I1.kIn,DD hE F hr hb I1 r q⟩) (aX (a.sok C e (aH h2).1)) (bJ as es (aH h2).2)) d)
    |cons _ _=>cases hm
   |_=>exact ff hm
  |_=>exact ff hm)
 (λC e hm=>by
  cases e with
  |Call f es ks p=>
   cases f with
   |Name y py=>
    cases ks with
    |nil=>
     simp only [and_eq_true] at hm
     exact uV as es hm.2
    |cons _ _=>cases hm
   |_=>exact ff hm
  |_=>exact ff hm)
 (λC e hm=>by cases e with|Call f es ks p=>rfl|_=>exact ff hm)
noncomputable def Bv (x:Str) (id:String) (r:List V->Hp->VK->Prop) (ok:∀X:Cx,X.K=K->X.calm=true->X.A.units+64<cLine->bS X (.builtin id) r) (hb:bootBuiltins x=some (.builtin id)) (hi:x∈nN) (hn:x≠"__name__") (a:EX K) (as:List (EX K)):EX K:=
 SK (λE=>Ec r (fL (a::as) E))
 (λC e=>match e with
  | .Call (.Name y _) es [] _=>(C.cm&&rH C x y)&&jT (a::as) C es
  |_=>false) (λR=>sQ (a::as) R) .pl
 (λX C E e hK G hE hq hm=>by
  subst hK
  cases e with
  |Call f es ks p=>
   cases f with
   |Name y py=>
    cases ks with
    |nil=>
     simp only [and_eq_true] at hm
     obtain ⟨⟨hcm,h1⟩,h2⟩:=hm
     have e:=cE h1
     subst e
     obtain ⟨g,d⟩:=cD G h1
     cases es with
     |nil=>cases h2
     |cons e es=>exact yG (ok X rfl (G.calm hcm) G.hu) g (G.bl _ hi) hb (dU G hE (a::as) (e::es) hq h2) hn d (aX (a.sok C e (aH h2).1)) (bJ as es (aH h2).2)
    |cons _ _=>cases hm
   |_=>exact ff hm
  |_=>exact ff hm)
 (λC e hm=>by
  cases e with
  |Call f es ks p=>
   cases f with
   |Name y py=>
    cases ks with
    |nil=>
     simp only [and_eq_true] at hm
     exact uV (a::as) es hm.2
    |cons _ _=>cases hm
   |_=>exact ff hm
  |_=>exact ff hm)
 (λC e hm=>by cases e with|Call f es ks p=>rfl|_=>exact ff hm)
noncomputable def Ja (x:Str) (T:String) (r:List V->Hp->VK->Prop) (ok:∀X:Cx,X.K=K->X.calm=true->X.A.units+64<cLine->bS X (.type T) r) (hb:bootBuiltins x=some (.type T)) (hi:x∈nN) (hn:x≠"__name__") (a:EX K) (as:List (EX K)):EX K:=
 SK (λE=>Ec r (fL (a::as) E))
 (λC e=>match e with
  | .Call (.Name y _) es [] _=>(C.cm&&rH C x y)&&jT (a::as) C es
  |_=>false) (λR=>sQ (a::as) R) .pl
 (λX C E e hK G hE hq hm=>by
  subst hK
  cases e with
  |Call f es ks p=>
   cases f with
   |Name y py=>
    cases ks with
    |nil=>
     simp only [and_eq_true] at hm
     obtain ⟨⟨hcm,h1⟩,h2⟩:=hm
     have e:=cE h1
     subst e
     obtain ⟨g,d⟩:=cD G h1
     cases es with
     |nil=>cases h2
     |cons e es=>exact GH (ok X rfl (G.calm hcm) G.hu) g (G.bl _ hi) hb (dU G hE (a::as) (e::es) hq h2) hn d (aX (a.sok C e (aH h2).1)) (bJ as es (aH h2).2)
    |cons _ _=>cases hm
   |_=>exact ff hm
  |_=>exact ff hm)
 (λC e hm=>by
  cases e with
  |Call f es ks p=>
   cases f with
   |Name y py=>
    cases ks with
    |nil=>
     simp only [and_eq_true] at hm
     exact uV (a::as) es hm.2
    |cons _ _=>cases hm
   |_=>exact ff hm
  |_=>exact ff hm)
 (λC e hm=>by cases e with|Call f es ks p=>rfl|_=>exact ff hm)
noncomputable def AZ (K:Fg):List V->Hp->VK->Prop
 |[.str z],H,Q=>z.length<=sizeLine/\Q (.int z.length) H
 |[.ref a],H,Q=>(∃n,Jn K (.ref a) H n/\Q (.int n) H)\/∃kvs,H a=some (.dK kvs)/\Q (.int kvs.length) H
 |_,_,_=>False
theorem OJ {X:Cx}:bS X (.builtin "len") (λxs H Q=>∃a kvs,xs=[V.ref a]/\H a=some (.dK kvs)/\Q (.int kvs.length) H):=by
 intro pins s σ H xs us Q I r h;obtain ⟨a,kvs,rfl,ha,q⟩:=h;obtain ⟨u,rfl,ru⟩:=vals1 r;cases ru;exact Iu I (.inl ha) λt s' I'=>⟨.int kvs.length,H,I',⟨t,rfl⟩,q⟩
theorem ZO (X:Cx):bS X (.builtin "len") (AZ X.K):=by
 intro pins s σ H xs us Q I r h;unfold AZ at h;split at h
 ·exact zQ pins s σ H _ us Q I r ⟨_,_,rfl,⟨h.1,rfl⟩,h.2⟩
 ·rcases h with ⟨n,h1,h2⟩|⟨kvs,h1,h2⟩
  ·exact zQ pins s σ H _ us Q I r ⟨_,n,rfl,h1,h2⟩
  ·exact OJ pins s σ H _ us Q I r ⟨_,kvs,rfl,h1,h2⟩
 ·exact h.elim
noncomputable def len (a:EX K):EX K:=Bv "len" "len" (AZ K) (λX hK _ _=>by subst hK;exact ZO X) PySem.boot_len (by decide+kernel) (by decide+kernel) a []
noncomputable def sum (a:EX K):EX K:=Bv "sum" "sum" XR (λX hK hc _=>OF hc) PyProof.Rows.Boot.sum (by decide+kernel) (by decide+kernel) a []
noncomputable def Je (a:EX K):EX K:=Bv "all" "all" (XZ K) (λX hK hc _=>by subst hK;exact OI hc) PyProof.Rows.Boot.all (by decide+kernel) (by decide+kernel) a []
noncomputable def yC:List V->Hp->VK->Prop
 |[.int i,.int j],H,Q=>Q (.int (min i j)) H
 |_,_,_=>False
noncomputable def yD:List V->Hp->VK->Prop
 |[.int i,.int j],H,Q=>Q (.int (max i j)) H
 |_,_,_=>False
theorem ZM {X:Cx} (hc:X.calm=true):bS X (.builtin "min") yC:=by
 intro pins s σ H xs us Q I r h;unfold yC at h;split at h
 ·rename_i i j;refine HY hc pins s σ H _ us Q I r ⟨i,j,rfl,?_⟩;have e:(if j<i then j else i)=min i j:=by split<;>lia
  rw[e];exact h
 ·exact h.elim
theorem ZN {X:Cx} (hc:X.calm=true):bS X (.builtin "max") yD:=by
 intro pins s σ H xs us Q I r h;unfold yD at h;split at h
 ·rename_i i j;refine HZ hc pins s σ H _ us Q I r ⟨i,j,rfl,?_⟩;have e:(if j>i then j else i)=max i j:=by split<;>lia
  rw[e];exact h
 ·exact h.elim
noncomputable def min2 (a b:EX K):EX K:=Bv "min" "min" yC (λX hK hc _=>ZM hc) PyProof.Rows.Boot.min (by decide+kernel) (by decide+kernel) a [b]
noncomputable def max2 (a b:EX K):EX K:=Bv "max" "max" yD (λX hK hc _=>ZN hc) PyProof.Rows.Boot.max (by decide+kernel) (by decide+kernel) a [b]
noncomputable def DE (K:Fg):List V->Hp->VK->Prop
 |[x,.ty n],H,Q=>∃t b,iP K H x t/\PySem.W.kitOne K t (.type n)=some b/\Q (.bl b) H
 |_,_,_=>False
theorem ZZ (X:Cx):bS X (.builtin "isinstance") (DE X.K):=by
 intro pins s σ H xs us Q I r h;unfold DE at h;split at h
 ·obtain ⟨t,b,h1,h2,h3⟩:=h;exact OG pins s σ H _ us Q I r ⟨_,_,t,b,rfl,h1,h2,h3⟩
 ·exact h.elim
noncomputable def Jx (a b:EX K):EX K:=Bv "isinstance" "isinstance" (DE K) (λX hK _ _=>by subst hK;exact ZZ X) PyProof.Rows.Boot.isinstance (by decide+kernel) (by decide+kernel) a [b]
noncomputable def VF:EX K:=Mg "int" "int" PyProof.Rows.Boot.int (by decide+kernel) (by decide+kernel)
noncomputable def JD:EX K:=Mg "bool" "bool" PyProof.Rows.Boot.bool (by decide+kernel) (by decide+kernel)
noncomputable def CT:EX K:=Mg "tuple" "tuple" PyProof.Rows.Boot.tuple (by decide+kernel) (by decide+kernel)
noncomputable def nX (K:Fg):List V->Hp->VK->Prop
 |[.ref p],H,Q=>∃ys,(aP K H p ys\/cZ K H p ys)/\∀l,H l=none->Q (.ref l) (upd H l (.lst ys))
 |_,_,_=>False
theorem SN (X:Cx):bS X (.type "list") (nX X.K):=by
 intro pins s σ H xs us Q I r h;unfold nX at h;split at h
 ·obtain ⟨ys,h1,h2⟩:=h;exact wN pins s σ H _ us Q I r ⟨_,ys,rfl,h1,h2⟩
 ·exact h.elim
noncomputable def listE (a:EX K):EX K:=Ja "list" "list" (nX K) (λX hK _ _=>by subst hK;exact SN X) PyProof.Rows.Boot.list (by decide+kernel) (by decide+kernel) a []
noncomputable def vA (K:Fg):List V->Hp->VK->Prop
 |[.ref p],H,Q=>(∃ys,aP K H p ys/\∀l,H l=none->Q (.ref l) (upd H l (.tup ys)))\/∃ys,cZ K H p ys/\Q (.ref p) H
 |_,_,_=>False
theorem JI (X:Cx):bS X (.type "tuple") (vA X.K):=by
 intro pins s σ H xs us Q I r h;unfold vA at h;split at h
 ·rcases h with ⟨ys,h1,h2⟩|⟨ys,h1,h2⟩
  ·exact jH pins s σ H _ us Q I r ⟨_,ys,rfl,.inl ⟨h1,h2⟩⟩
  ·exact jH pins s σ H _ us Q I r ⟨_,ys,rfl,.inr ⟨h1,h2⟩⟩
 ·exact h.elim
noncomputable def JJ (a:EX K):EX K:=Ja "tuple" "tuple" (vA K) (λX hK _ _=>by subst hK;exact JI X) PyProof.Rows.Boot.tuple (by decide+kernel) (by decide+kernel) a []
theorem YU {X:Cx} {o:Expr} {es:List Expr} {to:TE} {name:Str} {apos cpos:Pos} {T id:String} {r:V->List V->Hp->VK->Prop} {RR:V->St->Hp->VK->Prop} {C:Sc} {E:XS} {xs:List (EX X.K)}
  (pa:PlainAttrs T) (slot:Slot T name id) (hty:typeOf (.builtin id)=pure (.type "method_descriptor")) (hm:Cf X id r) (ho:PE X o to) (ha:PA X es (fL xs E))
  (hR:∀x σ H Q,RR x σ H Q->Ki X.K T x H/\fL xs E σ H λys H2=>r x ys H2 Q)
  (hbase:attributeBase o name X.env (eval o X.env)=eval o X.env) (hx:jT xs C es=true) (h30:es.length<30) (hline:(apos.endLine==cpos.line)=true):
  PE X (.Call (.Attribute o name apos) es [] cpos) (λσ H Q=>to σ H λx H1=>RR x σ H1 Q):=by
 intro pins s σ H Q I h;cases es with
 |nil=>
  refine wpAny_Call_method0_late hbase hline (bU (ho pins s σ H _ I h) λv s1 ⟨x,H1,I1,r1,q0⟩=>?_);obtain ⟨ty,q1⟩:=hR x σ H1 Q q0;obtain ⟨h1,h2⟩:=JC I1 r1 ty;cases xs with
  |nil=>exact ⟨T,id,pa,slot,hty,h1,h2,Calls.callWith_builtin rfl (PySem.evalArgs_none (hm pins s1 σ H1 x [] v [] Q I1 r1 .nil q1))⟩
  |cons _ _=>cases hx
 |cons e es=>
  cases xs with
  |nil=>cases hx
  |cons a as=>
   have hs:=aX (env:=X.env) (es:=es) (a.sok C e (aH hx).1);have hplain:=bJ (env:=X.env) (pos:=cpos) as es (aH hx).2;have hfew:((backTo cpos (starEach (e::es) X.env)).all (λx=>!x.1)&&(backToKw cpos (keywordEach [] X.env)).all (λx=>x.1.isSome)
     &&decide ((e::es).length+([]:List Keyword).length+(if ([]:List Keyword).isEmpty then 0 else 1)<30))=true:=by
    rw[as_none (env:=X.env) (pos:=cpos) (a::as) (e::es) hx];have h30':(e::es).length+([]:List Keyword).length+(if ([]:List Keyword).isEmpty then 0 else 1)<30:=h30;rw[decide_eq_true h30'];rfl
   refine wpAny_Call_method_late hbase hfew hline rfl (bU (ho pins s σ H _ I h) λv s1 ⟨x,H1,I1,r1,q0⟩=>?_);obtain ⟨ty,q1⟩:=hR x σ H1 Q q0;obtain ⟨h1,h2⟩:=JC I1 r1 ty;refine ⟨T,id,pa,slot,hty,h1,h2,?_⟩;have hA:=ha cpos pins s1 σ H1 _ I1 q1;rw[hs] at hA ⊢;refine Calls.callWith_builtin (by show (false || (backTo cpos (starEach es X.env)).any (·.1))=false;rw[hplain]<;>rfl) (Calls.evalArgs_plain ?_);exact bU hA λus s2 ⟨vs,H2,I2,r2,q2⟩=>hm pins s2 σ H2 x vs v us Q I2 r1 r2 q2
noncomputable def LP (name:Str) (T id:String) (r:V->List V->Hp->VK->Prop) (RR:TA->V->St->Hp->VK->Prop) (pa:PlainAttrs T) (slot:Slot T name id) (hty:typeOf (.builtin id)=pure (.type "method_descriptor")) (ok:∀X:Cx,X.K=K->X.calm=true->X.A.units+64<cLine->Cf X id r)
  (hR:∀t x σ H Q,RR t x σ H Q->Ki K T x H/\t σ H λys H2=>r x ys H2 Q) (o:EX K) (ho:o.s≠.zc) (as:List (EX K)):EX K:=SK (λE σ H Q=>o.t E σ H λx H1=>RR (fL as E) x σ H1 Q)
 (λC e=>match e with
  | .Call (.Attribute l y p) es [] p2=>(y==name&&(C.cm&&(p.endLine==p2.line&&decide (es.length<30))))&&(o.m C l&&jT as C es)
  |_=>false) (λR=>o.q R/\sQ as R) .pl
 (λX C E e hK G hE hq hm=>by
  subst hK
  cases e with
  |Call f es ks p=>
   cases f with
   |Attribute l y py=>
    cases ks with
    |nil=>
     simp only [and_eq_true] at hm
     obtain ⟨⟨h1,hcm,h2,h3⟩,h4,h5⟩:=hm
     have e:=eq_of_beq h1
     subst e
     exact YU pa slot hty (ok X rfl (G.calm hcm) G.hu) (o.ok X C E l rfl G hE hq.1 h4) (dU G hE as es hq.2 h5) (hR _) (xU (o.sok C l h4) ho) h5 (of_decide_eq_true h3) h2
    |cons _ _=>cases hm
   |_=>exact ff hm
  |_=>exact ff hm)
 (λC e hm=>by
  cases e with
  |Call f es ks p=>
   cases f with
   |Attribute l y py=>rfl
   |_=>exact ff hm
  |_=>exact ff hm)
 (λC e hm=>by cases e with|Call f es ks p=>rfl|_=>exact ff hm)
noncomputable def RS (r:Str->List V->Hp->VK->Prop) (t:TA):V->St->Hp->VK->Prop
 | .str z,σ,H,Q=>t σ H λys H2=>r z ys H2 Q
 |_,_,_,_=>False
noncomputable def rS (r:Str->List V->Hp->VK->Prop):V->List V->Hp->VK->Prop
 | .str z,ys,H,Q=>r z ys H Q
 |_,_,_,_=>False
noncomputable def sS (name:Str) (id:String) (r:Str->List V->Hp->VK->Prop) (slot:Slot "str" name id) (hty:typeOf (.builtin id)=pure (.type "method_descriptor")) (ok:∀X:Cx,X.K=K->X.calm=true->X.A.units+64<cLine->Cf X id (rS r)) (o:EX K) (ho:o.s≠.zc) (as:List (EX K)):EX K:=
 LP name "str" id (rS r) (RS r) PySem.F.plainAttrs_str slot hty ok (λt x σ H Q h=>by
  cases x with
  |str z=>exact ⟨rfl,h⟩
  |_=>exact h.elim) o ho as
noncomputable def RL (K:Fg) (r:V->List V->Hp->VK->Prop) (t:TA):V->St->Hp->VK->Prop
 | .ref p,σ,H,Q=>(∃xs,aP K H p xs)/\t σ H λys H2=>r (.ref p) ys H2 Q
 |_,_,_,_=>False
noncomputable def VS (name:Str) (id:String) (r:V->List V->Hp->VK->Prop) (slot:Slot "list" name id) (hty:typeOf (.builtin id)=pure (.type "method_descriptor")) (ok:∀X:Cx,X.K=K->X.calm=true->X.A.units+64<cLine->Cf X id r) (o:EX K) (ho:o.s≠.zc) (as:List (EX K)):EX K:=
 LP name "list" id r (RL K r) PySem.F.plainAttrs_list slot hty ok (λt x σ H Q h=>by
  cases x with
  |ref p=>exact ⟨.inl ⟨rfl,h.1⟩,h.2⟩
  |_=>exact h.elim) o ho as
theorem TB {X:Cx} (hu:X.A.units+1<cLine):Cz X (λx y H Q=>∃a v,x=.ref a/\eY H a y (some v)/\Q v H):=by
 intro value slice pins s σ H x y v u Q I rx ry h hs;obtain ⟨a,z,rfl,g,q⟩:=h;obtain rfl:v=Value.ref a:=rx;exact tail_any (zJ I g) PySem.F.slot_dict_getitem.lookup (HM hu I g ry λw' s3 I3 rw'=>⟨z,H,I3,rw',q⟩) hs
noncomputable def yE (K:Fg):R2
 | .str z,.int i,H,Q=>z.length<=sizeLine/\∃c,rX z.cps.toList i=some c/\Q (sgn c) H
 | .ref a,y,H,Q=>Ew K (.ref a) y H Q\/Eu K (.ref a) y H Q\/∃v,eY H a y (some v)/\Q v H
 |_,_,_,_=>False
theorem Gr {X:Cx} (hu:X.A.units+1<cLine):Cz X (yE X.K):=by
 intro value slice pins s σ H x y v u Q I rx ry h hs;unfold yE at h;split at h
 ·obtain ⟨h1,c,h2,h3⟩:=h;exact ZY value slice pins s σ H _ _ v u Q I rx ry ⟨_,_,c,rfl,rfl,h1,h2,h3⟩ hs
 ·rcases h with h|h|⟨z,h,q⟩
  ·exact SY value slice pins s σ H _ _ v u Q I rx ry h hs
  ·exact ZX value slice pins s σ H _ _ v u Q I rx ry h hs
  ·exact TB hu value slice pins s σ H _ _ v u Q I rx ry ⟨_,z,rfl,h,q⟩ hs
 ·exact h.elim
noncomputable def ix (a b:EX K):EX K:=lX (λE=>XC (yE K) (a.t E) (b.t E))
 (λC e=>match e with
  | .Subscript l r _=>a.m C l&&b.m C r
  |_=>false) (λR=>a.q R/\b.q R) .pl
 (λX C E e hK G hE hq hm=>by
  subst hK
  cases e with
  |Subscript l r p=>
   simp only [and_eq_true] at hm
   exact Fi (Gr (by have:=G.hu;lia)) (a.ok X C E l rfl G hE hq.1 hm.1) (b.ok X C E r rfl G hE hq.2 hm.2) (XJ (b.sok C r hm.2))
  |_=>exact ff hm)
 (λC e hm=>by cases e with|Subscript l r p=>exact ⟨rfl,rfl⟩|_=>exact ff hm)
noncomputable def rO (QO:Option Int->Hp->Prop):V->Hp->Prop
 | .int i,H=>QO (some i) H
 |_,_=>False
noncomputable def tO (E:XS):Option (EX K)->TO
 |none=>CU
 |some x=>λσ H Q=>x.t E σ H (rO Q)
noncomputable def mO:Option (EX K)->Sc->Option Expr->Bool
 |none,_,none=>true
 |some x,C,some e=>x.m C e
 |_,_,_=>false
noncomputable def qO:Option (EX K)->Rt->Prop
 |none,_=>True
 |some x,R=>x.q R
theorem Fz {X:Cx} {C:Sc} {E:XS} (G:Gd X C) (hE:uA X E):∀(o:Option (EX X.K)) (e:Option Expr),qO o (dX X)->mO o C e=true->PO X e (tO E o)
 |none,none,_,_=>RJ
 |none,some _,_,hm=>nomatch hm
 |some _,none,_,hm=>nomatch hm
 |some x,some e,hq,hm=>by
  intro pins s σ H Q I hw;rw[evalPart_some];refine bU (x.ok X C E e rfl G hE hq hm pins s σ H _ I hw) λu s1 ⟨y,H1,I1,r1,q1⟩=>?_;cases y with
  |int i=>
   obtain ⟨t,rfl⟩:=r1;exact ⟨some i,H1,I1,.int i t,q1⟩
  |_=>exact q1.elim
noncomputable def GA (K:Fg):V->Option Int->Option Int->Hp->VK->Prop
 | .str z,lo,hi,H,Q=>z.length<=sizeLine/\Q (.str (Txt.slice z lo hi)) H
 | .ref a,lo,hi,H,Q=>Ep K (.ref a) lo hi H Q\/Eo K (.ref a) lo hi H Q
 |_,_,_,_,_=>False
theorem Ej {X:Cx}:Ji X (GA X.K):=by
 intro pins s σ H x v vl vu lo hi sl Q I rx hs pl pu h;unfold GA at h;split at h
 ·exact XI pins s σ H _ v vl vu _ _ sl Q I rx hs pl pu ⟨_,rfl,h.1,h.2⟩
 ·rcases h with h|h
  ·exact QN pins s σ H _ v vl vu _ _ sl Q I rx hs pl pu h
  ·exact XH pins s σ H _ v vl vu _ _ sl Q I rx hs pl pu h
 ·exact h.elim
noncomputable def uT (a:EX K) (lo hi:Option (EX K)):EX K:=lX (λE=>Ms (GA K) (a.t E) (tO E lo) (tO E hi))
 (λC e=>match e with
  | .Subscript l (.Slice x y none _) _=>a.m C l&&(mO lo C x&&mO hi C y)
  |_=>false) (λR=>a.q R/\qO lo R/\qO hi R) .pl
 (λX C E e hK G hE hq hm=>by
  subst hK
  cases e with
  |Subscript l r p=>
   cases r with
   |Slice x y z p2=>
    cases z with
    |none=>
     simp only [and_eq_true] at hm
     exact KS Ej (a.ok X C E l rfl G hE hq.1 hm.1) (Fz G hE lo x hq.2.1 hm.2.1) (Fz G hE hi y hq.2.2 hm.2.2)
    |some _=>cases hm
   |_=>exact ff hm
  |_=>exact ff hm)
 (λC e hm=>by cases e with|Subscript l r p=>exact ⟨rfl,rfl⟩|_=>exact ff hm)
noncomputable def lst (as:List (EX K)):EX K:=lX (λE=>Dy (fL as E))
 (λC e=>match e with
  | .List es _=>jT as C es
  |_=>false) (λR=>sQ as R) .pl
 (λX C E e hK G hE hq hm=>by
  subst hK
  cases e with
  |List es p=>exact YR (dU G hE as es hq hm)
  |_=>exact ff hm)
 (λC e hm=>by cases e with|List es p=>exact ⟨rfl,rfl⟩|_=>exact ff hm)
noncomputable def tup (as:List (EX K)):EX K:=lX (λE=>Du (fL as E))
 (λC e=>match e with
  | .Tuple es _ _=>jT as C es
  |_=>false) (λR=>sQ as R) .pl
 (λX C E e hK G hE hq hm=>by
  subst hK
  cases e with
  |Tuple es k p=>exact YM (dU G hE as es hq hm)
  |_=>exact ff hm)
 (λC e hm=>by cases e with|Tuple es k p=>exact ⟨rfl,rfl⟩|_=>exact ff hm)
theorem xS {e t:Expr} {line:Nat} {env:Env} {s:Cb} (h:gQ e=some s) (hs:s≠.cp):swapsWithSole [t] e line env=pure false:=kJ (tgt:=some t) h hs
structure IX (K:Fg) where
 t:XS->TI
 tm:Expr->Bool
 m:Sc->Expr->Bool
 q:Rt->Prop
 ok:∀(X:Cx) (C:Sc) (E:XS) (tg e:Expr),X.K=K->Gd X C->uA X E->q (dX X)->tm tg=true->m C e=true->PI X tg e (t E)
 fs:∀(C:Sc) (e:Expr) (env:Env) (x:Value),m C e=true->foldedSetIterable e env x=pure x
noncomputable def pL (K:Fg):V->Hp->(It->Hp->Prop)->Prop
 | .str z,H,R=>R (Dc z) H
 | .ref a,H,R=>((∃xs,aP K H a xs)/\R (VA K a) H)\/((∃xs,cZ K H a xs)/\R (Jq K a) H)
 |_,_,_=>False
theorem MF {X:Cx} {tg:Expr} {pins:List (Addr × Obj)} {s1:Shared} {σ:St} {H1:Hp} {x:V} {v:Value} {R:It->Hp->Prop} (I1:Inv X pins σ H1 s1) (r1:RelV x v) (q1:pL X.K x H1 R):
  wpAny (model X.prog X.w) X.A (pyIter v) (Jj X pins σ tg R) X.xe s1:=by
 unfold pL at q1;split at q1
 ·rename_i z;obtain ⟨t,rfl⟩:=r1;have fin:∀T:String,(T="str_ascii_iterator"\/T="str_iterator")->Jj X pins σ tg R (.ref s1.heap.objs.size) {s1 with heap:=s1.heap.push {cls:=.type T,data:=.fields #[.str z t,.int 0 0]}}:=λT hT=>by
   refine ⟨s1.heap.objs.size,[s1.heap.objs.size],_,_,H1,rfl,I1.kept (t':=s1.toks) λb o e=>get?_push_of_some _ e,JF z t _ T hT,⟨_,get?_push_size _ rfl,rfl,rfl⟩,λb hb=>?_,q1⟩;have e:b=s1.heap.objs.size:=by simpa using hb
   subst e;exact I1.fpOk (Nat.le_refl _) (I1.hok.fresh (Nat.le_refl _))
  cases ha:z.cps.all (·<128) with
  |true=>exact wpAny_pyIter_ascii ha (fin _ (.inl rfl))
  |false=>exact wpAny_pyIter_wide ha (fin _ (.inr rfl))
 ·rename_i a;cases (show v=Value.ref a from r1);rcases q1 with ⟨⟨xs,hq⟩,q⟩|⟨⟨xs,hq⟩,q⟩
  ·obtain ⟨its,rv,p,hz⟩:=I1.list hq;refine wpAny_pyIter_list p.isList ?_;refine ⟨s1.heap.objs.size,[s1.heap.objs.size],_,_,H1,rfl,I1.kept (t':=s1.toks) λb o e=>get?_push_of_some _ e,FJ a _,⟨_,get?_push_size _ rfl,rfl,rfl⟩,λb hb=>?_,q⟩;have e:b=s1.heap.objs.size:=by simpa using hb
   subst e;exact I1.fpOk (Nat.le_refl _) (I1.hok.fresh (Nat.le_refl _))
  ·obtain ⟨its,rv,p,hz⟩:=I1.tuple hq;refine wpAny_pyIter_tuple (show s1.heap.IsTuple a its.toArray from p) ?_;refine ⟨s1.heap.objs.size,[s1.heap.objs.size],_,_,H1,rfl,I1.kept (t':=s1.toks) λb o e=>get?_push_of_some _ e,AK a _,⟨_,get?_push_size _ rfl,rfl,rfl⟩,λb hb=>?_,q⟩;have e:b=s1.heap.objs.size:=by simpa using hb
   subst e;exact I1.fpOk (Nat.le_refl _) (I1.hok.fresh (Nat.le_refl _))
 ·exact q1.elim
noncomputable def iG (a:EX K):IX K where
 t:=λE σ H R=>a.t E σ H λx H1=>pL K x H1 R
 tm:=λ_=>true
 m:=a.m
 q:=a.q
 ok:=λX C E tg e hK G hE hq _ hm=>by
  subst hK;intro pins s σ H R I h;exact bU (a.ok X C E e rfl G hE hq hm pins s σ H _ I h) λv s1 ⟨x,H1,I1,r1,q1⟩=>MF I1 r1 q1
 fs:=λC e env x hm=>xT (a.sok C e hm) x
noncomputable def KA:List V->Hp->(It->Hp->Prop)->Prop
 |[.int j],H,R=>(-(2 ^ 62)<=j/\j<2 ^ 62)/\R (II 0 j.toNat) H
 |[.int i,.int j],H,R=>(-(2 ^ 62)<=i/\i<2 ^ 62/\-(2 ^ 62)<=j/\j<2 ^ 62)/\R (II i (j - i).toNat) H
 |_,_,_=>False
noncomputable def rT (a:EX K) (as:List (EX K)):IX K where
 t:=λE σ H R=>fL (a::as) E σ H λvs H1=>KA vs H1 R
 tm:=λ_=>true
 m:=λC e=>match e with
  | .Call (.Name y _) es [] _=>rH C "range" y&&jT (a::as) C es
  |_=>false
 q:=λR=>sQ (a::as) R
 ok:=λX C E tg e hK G hE hq _ hm=>by
  subst hK;cases e with
  |Call f es ks p=>
   cases f with
   |Name y py=>
    cases ks with
    |nil=>
     simp only [and_eq_true] at hm;obtain ⟨h1,h2⟩:=hm;have e:=cE h1;subst e;obtain ⟨g,d⟩:=cD G h1;cases es with
     |nil=>cases h2
     |cons e es=>
      intro pins s σ H R I h;refine Call_ (fQ I g (G.bl _ (by decide+kernel)) boot_range (PyProof.Rows.callWith_type1 (bU (dU G hE (a::as) (e::es) hq h2 p pins s σ H _ I h) λus s1 ⟨vs,H1,I1,r1,q1⟩=>?_) (aX (a.sok C e (aH h2).1)) (bJ as es (aH h2).2)));replace q1:KA vs H1 R:=q1;unfold KA at q1;split at q1
      ·cases r1 with
       |cons r rr=>
        cases rr;obtain ⟨t,rfl⟩:=r;exact call_range_1 (xZ I1 (by lia) (by lia) q1.1.1 q1.1.2 (by simpa using q1.2))
      ·cases r1 with
       |cons r rr=>
        cases rr with
        |cons r' rr=>
         cases rr;obtain ⟨t,rfl⟩:=r;obtain ⟨t',rfl⟩:=r';exact call_range_2 (xZ I1 q1.1.1 q1.1.2.1 q1.1.2.2.1 q1.1.2.2.2 q1.2)
      ·exact q1.elim
    |cons _ _=>cases hm
   |_=>exact ff hm
  |_=>exact ff hm
 fs:=λC e env x hm=>by cases e with|Call f es ks p=>rfl|_=>exact ff hm
noncomputable def JX (K:Fg):List V->Hp->(It->Hp->Prop)->Prop
 |[.ref p,.ref q],H,R=>((∃xs,aP K H p xs)/\∃ys,aP K H q ys)/\R (Jo K p q) H
 |_,_,_=>False
noncomputable def UD (a b:EX K):IX K where
 t:=λE σ H R=>fL [a,b] E σ H λvs H1=>JX K vs H1 R
 tm:=λe=>match e with
  | .Tuple _ _ _=>true
  |_=>false
 m:=λC e=>match e with
  | .Call (.Name y _) es [] _=>rH C "zip" y&&jT [a,b] C es
  |_=>false
 q:=λR=>sQ [a,b] R
 ok:=λX C E tg e hK G hE hq ht hm=>by
  subst hK;cases tg with
  |Tuple ts tk tp=>
   cases e with
   |Call f es ks p=>
    cases f with
    |Name y py=>
     cases ks with
     |nil=>
      simp only [and_eq_true] at hm;obtain ⟨h1,h2⟩:=hm;have e:=cE h1;subst e;obtain ⟨g,d⟩:=cD G h1;cases es with
      |nil=>cases h2
      |cons e es=>
       intro pins s σ H R I h;refine Call_ (fQ I g (G.bl _ (by decide+kernel)) boot_zip (PyProof.Rows.callWith_type1 (bU (dU G hE [a,b] (e::es) hq h2 p pins s σ H _ I h) λus s1 ⟨vs,H1,I1,r1,q1⟩=>?_) (aX (a.sok C e (aH h2).1)) (bJ [b] es (aH h2).2)));replace q1:JX X.K vs H1 R:=q1;unfold JX at q1;split at q1
       ·rename_i p1 p2;cases r1 with
        |cons r rr=>
         cases rr with
         |cons r' rr=>
          cases rr;cases r;cases r';obtain ⟨⟨⟨xs,hx⟩,ys,hy⟩,q⟩:=q1;obtain ⟨ia,ra,pa,_⟩:=I1.list hx;obtain ⟨ib,rb,pb,_⟩:=I1.list hy;refine call_zip_2 pa.isList pb.isList λh' z1 z2 z3 z4 z5 z6 kp=>?_;refine wpAny_pyIter_zip (s:={s1 with heap:=h'}) z1 ?_;have Z:CN (s1.heap.objs.size+4) (s1.heap.objs.size+2) (s1.heap.objs.size+3) s1.heap.objs.size (s1.heap.objs.size+1):=by constructor<;>simp<;>lia
          have big:∀c∈[s1.heap.objs.size+4,s1.heap.objs.size+2,s1.heap.objs.size+3,s1.heap.objs.size,s1.heap.objs.size+1],s1.heap.objs.size<=c:=by
           intro c hc;simp only [mem_cons,not_mem_nil,or_false] at hc;lia
          exact ⟨_,[s1.heap.objs.size+4,s1.heap.objs.size+2,s1.heap.objs.size+3,s1.heap.objs.size,s1.heap.objs.size+1],_,_,H1,rfl,I1.kept (t':=s1.toks) kp,JE p1 p2 _ _ _ _ _ Z,⟨z1,z2,⟨_,_,z3⟩,z4,z5⟩,λc hc=>I1.fpOk (big c hc) (I1.hok.fresh (big c hc)),q⟩
       ·exact q1.elim
     |cons _ _=>cases hm
    |_=>exact ff hm
   |_=>exact ff hm
  |_=>cases ht
 fs:=λC e env x hm=>by cases e with|Call f es ks p=>rfl|_=>exact ff hm
structure TX (K:Fg) where
 g:TG
 m:Sc->Expr->Bool
 ok:∀(X:Cx) (C:Sc) (e:Expr),X.K=K->Gd X C->m C e=true->PG X e g
noncomputable def QK (C:Sc) (i:Nat) (x:Str):Bool:=C.N[i]?==some x&&(C.nm.lookup x==some .local || (C.nm.lookup x==some .cell&&(C.fb || C.ow.contains x)))
theorem uO {X:Cx} {C:Sc} {i:Nat} {x:Str} (G:Gd X C) (h:QK C i x=true):X.N[i]?=some x/\Loc X.env.scope x/\(X.fn x=true\/X.env.scope.names.lookup x=some .local):=by
 unfold QK at h;simp only [and_eq_true,or_eq_true] at h;obtain ⟨h1,h2⟩:=h;refine ⟨by rw[G.N];exact eq_of_beq h1,?_,?_⟩
 ·rcases h2 with h2|⟨h2,_⟩
  ·exact .inl (by rw[G.nm];exact eq_of_beq h2)
  ·exact .inr (by rw[G.nm];exact eq_of_beq h2)
 ·rcases h2 with h2|⟨_,h2⟩
  ·exact .inr (by rw[G.nm];exact eq_of_beq h2)
  ·rcases h2 with h2|h2
   ·exact .inl (G.fb h2 x)
   ·exact .inl (G.ow x (List.contains_iff_mem.mp h2))
noncomputable def gR (i:Nat):TX K where
 g:=EB i
 m:=λC e=>match e with
  | .Name x _=>QK C i x
  |_=>false
 ok:=λX C e hK G hm=>by
  cases e with
  |Name x p=>
   obtain ⟨h1,h2,h3⟩:=uO G hm;exact DG (by rw[G.N];exact G.nd) h1 h2 h3
  |_=>exact ff hm
noncomputable def Jy:List Nat->UY
 |[]=>Ig
 |i::is=>WG (EB i) (Jy is)
noncomputable def Gf:List Nat->Sc->List Expr->Bool
 |[],_,[]=>true
 |i::is,C,.Name x _::es=>QK C i x&&Gf is C es
 |_,_,_=>false
theorem LF {X:Cx} {C:Sc} (G:Gd X C):∀(is:List Nat) (es:List Expr),Gf is C es=true->Cw X es (Jy is)/\(assignEach es X.env).length=is.length/\(assignEach es X.env).findIdx? (·.1)=none
 |[],[],_=>⟨RK,rfl,rfl⟩
 |[],_::_,hm=>nomatch hm
 |_::_,[],hm=>nomatch hm
 |i::is,e::es,hm=>by
  cases e with
  |Name x p=>
   have hm':(QK C i x&&Gf is C es)=true:=hm;simp only [and_eq_true] at hm';obtain ⟨h1,h2,h3⟩:=LF G is es hm'.2;obtain ⟨g1,g2,g3⟩:=uO G hm'.1;refine ⟨KR (DG (by rw[G.N];exact G.nd) g1 g2 g3) h1 rfl,?_,?_⟩
   ·show (assignEach es X.env).length+1=is.length+1;rw[h2]
   ·show List.findIdx? (·.1) ((false,assign (.Name x p) X.env)::assignEach es X.env)=none;rw[List.findIdx?_cons,h3];rfl
  |_=>exact nomatch hm
noncomputable def JB (is:List Nat):TX K where
 g:=Ie K is.length (Jy is)
 m:=λC e=>match e with
  | .Tuple es _ _=>C.cm&&Gf is C es
  |_=>false
 ok:=λX C e hK G hm=>by
  subst hK;cases e with
  |Tuple es k p=>
   simp only [and_eq_true] at hm;obtain ⟨h1,h2,h3⟩:=LF G is es hm.2;exact YI (G.calm hm.1) h1 h2 h3
  |_=>exact ff hm
structure SX (K:Fg) where
 t:XS->TS
 m:Sc->Stmt->Bool
 q:Rt->Prop
 ok:∀(X:Cx) (C:Sc) (E:XS) (s:Stmt),X.K=K->Gd X C->uA X E->q (dX X)->m C s=true->PS X s (t E)
noncomputable def gY:List (SX K)->XS->TS
 |[],_=>VH
 |s::ss,E=>Dv (s.t E) (gY ss E)
noncomputable def DN:List (SX K)->Sc->List Stmt->Bool
 |[],_,[]=>true
 |s::ss,C,e::es=>s.m C e&&DN ss C es
 |_,_,_=>false
noncomputable def IG:List (SX K)->Rt->Prop
 |[],_=>True
 |s::ss,R=>s.q R/\IG ss R
theorem sJ {X:Cx} {C:Sc} {E:XS} (G:Gd X C) (hE:uA X E):∀(xs:List (SX X.K)) (es:List Stmt),IG xs (dX X)->DN xs C es=true->Cc X es (gY xs E)
 |[],[],_,_=>RF
 |[],_::_,_,hm=>nomatch hm
 |_::_,[],_,hm=>nomatch hm
 |x::xs,e::es,hq,hm=>by
  have hm':(x.m C e&&DN xs C es)=true:=hm;simp only [and_eq_true] at hm';exact KI (x.ok X C E e rfl G hE hq.1 hm'.1) (sJ G hE xs es hq.2 hm'.2)
noncomputable def set (i:Nat) (a:EX K):SX K where
 t:=λE D σ H=>a.t E σ H λx H1=>D.nx (σ.set i (some x)) H1
 m:=λC s=>match s with
  | .Assign [.Name x _] e _=>decide (a.s≠.cp)&&(QK C i x&&a.m C e)
  |_=>false
 q:=a.q
 ok:=λX C E s hK G hE hq hm=>by
  split at hm
  ·rename_i x px e p;simp only [and_eq_true] at hm;obtain ⟨h1,h2,h3⟩:=hm;obtain ⟨g1,g2,g3⟩:=uO G h2;exact KJ (by rw[G.N];exact G.nd) g1 g2 (a.ok X C E e hK G hE hq h3) (kJ (a.sok C e h3) (of_decide_eq_true h1)) g3
  ·cases hm
noncomputable def XM (tg:TX K) (a:EX K):SX K where
 t:=λE=>XE (a.t E) tg.g
 m:=λC s=>match s with
  | .Assign [.Tuple ts k p'] e _=>(match e with| .Tuple ..=>false|_=>true)&&(decide (a.s≠.cp)&&(tg.m C (.Tuple ts k p')&&a.m C e))
  |_=>false
 q:=a.q
 ok:=λX C E s hK G hE hq hm=>by
  split at hm
  ·rename_i ts k p' e p;simp only [and_eq_true] at hm;obtain ⟨h0,h1,h2,h3⟩:=hm;refine KN (a.ok X C E e hK G hE hq h3) (tg.ok X C _ hK G h2) (xS (a.sok C e h3) (of_decide_eq_true h1)) ?_ rfl;cases e with
   |Tuple _ _ _=>cases h0
   |_=>rfl
  ·cases hm
noncomputable def RA (o i v:V) (H:Hp) (Q:Hp->Prop):Prop:=VN o i v H Q\/∃a H',o=.ref a/\PJ H a i v H'/\Q H'
theorem YC {X:Cx} (hu:X.A.units+1<cLine):Cd X RA:=by
 intro pins s σ H o i v ov iv u Q I ro ri rv h;rcases h with h|⟨a,H',rfl,g,q⟩
 ·exact set_list pins s σ H o i v ov iv u Q I ro ri rv h
 ·obtain rfl:ov=Value.ref a:=ro;exact HL hu I g ri rv λs4 I4=>⟨H',I4,q⟩
noncomputable def put (o i a:EX K):SX K where
 t:=λE D σ H=>a.t E σ H λx H1=>o.t E σ H1 λy H2=>i.t E σ H2 λz H3=>RA y z x H3 λH4=>D.nx σ H4
 m:=λC s=>match s with
  | .Assign [.Subscript l r _] e _=>decide (a.s≠.cp)&&((match r with| .Slice ..=>false|_=>true)&&(o.m C l&&(i.m C r&&a.m C e)))
  |_=>false
 q:=λR=>o.q R/\i.q R/\a.q R
 ok:=λX C E s hK G hE hq hm=>by
  split at hm
  ·rename_i l r p' e p;simp only [and_eq_true] at hm;obtain ⟨h1,h0,h2,h3,h4⟩:=hm;refine KN (a.ok X C E e hK G hE hq.2.2 h4) (YJ (o.ok X C E l hK G hE hq.1 h2) (i.ok X C E r hK G hE hq.2.1 h3) (YC (by have:=G.hu;lia)) ?_) (xS (a.sok C e h4) (of_decide_eq_true h1)) ?_ rfl
   ·intro v;cases r with
    |Slice _ _ _ _=>cases h0
    |_=>rfl
   ·cases e<;>rfl
  ·cases hm
noncomputable def ex (a:EX K):SX K where
 t:=λE D σ H=>a.t E σ H λ_ H1=>D.nx σ H1
 m:=λC s=>match s with
  | .Expr e _=>decide (a.s≠.cp)&&a.m C e
  |_=>false
 q:=a.q
 ok:=λX C E s hK G hE hq hm=>by
  cases s with
  |Expr e p=>
   simp only [and_eq_true] at hm;exact RG (a.ok X C E e hK G hE hq hm.2) (kJ (a.sok C e hm.2) (of_decide_eq_true hm.1))
  |_=>exact ff hm
noncomputable def ret (a:EX K):SX K where
 t:=λE D σ H=>a.t E σ H D.rt
 m:=λC s=>match s with
  | .Return (some e) _=>a.m C e
  |_=>false
 q:=a.q
 ok:=λX C E s hK G hE hq hm=>by
  cases s with
  |Return o p=>
   cases o with
   |some e=>exact YF (a.ok X C E e hK G hE hq hm)
   |none=>cases hm
  |_=>exact ff hm
noncomputable def qF (c:EX K) (t f:List (SX K)):SX K where
 t:=λE D σ H=>c.tt E σ H λb H1=>br b (gY t E D σ H1) (gY f E D σ H1)
 m:=λC s=>match s with
  | .If e x y _=>c.m C e&&(DN t C x&&DN f C y)
  |_=>false
 q:=λR=>c.q R/\IG t R/\IG f R
 ok:=λX C E s hK G hE hq hm=>by
  subst hK;cases s with
  |If e x y p=>
   simp only [and_eq_true] at hm;obtain ⟨h1,h2,h3⟩:=hm;intro pins s σ H D I h;refine wpAny_If (bU (c.okT X C E e rfl G hE hq.1 h1 pins s σ H _ I h) λd s1 ⟨H1,I1,q1⟩=>?_);cases d with
   |true=>exact sJ G hE t x hq.2.1 h2 pins s1 σ H1 D I1 (q1.1 rfl)
   |false=>exact sJ G hE f y hq.2.2 h3 pins s1 σ H1 D I1 (q1.2 rfl)
  |_=>exact ff hm
noncomputable def jP (tg:TX K) (it:IX K) (b:List (SX K)):SX K where
 t:=λE=>Dz (it.t E) tg.g (gY b E)
 m:=λC s=>match s with
  | .For x e y [] _=>(C.cm&&it.tm x)&&(tg.m C x&&(it.m C e&&DN b C y))
  |_=>false
 q:=λR=>it.q R/\IG b R
 ok:=λX C E s hK G hE hq hm=>by
  subst hK;cases s with
  |For x e y z p=>
   cases z with
   |nil=>
    simp only [and_eq_true] at hm;obtain ⟨⟨hcm,h0⟩,h1,h2,h3⟩:=hm;exact YG hE.own (G.calm hcm) (it.ok X C E x e rfl G hE hq.1 h0 h2) (tg.ok X C x rfl G h1) (sJ G hE b y hq.2 h3) (λv=>it.fs C e X.env v h2)
   |cons _ _=>cases hm
  |_=>exact ff hm
noncomputable def Mq (c:TT) (tb:TS):TS:=λD σ H=>∃W:Nat->St->Hp->Prop,(∃m,W m σ H)/\∀m σ H,W m σ H->
 c σ H λb H1=>br b (∃N:St->Hp->Prop,(∀σ' H',N σ' H'->∃m',m'<m/\W m' σ' H')/\tb {D with nx:=N,ct:=N,bk:=D.nx} σ H1) (D.nx σ H1)
theorem Fe {X:Cx} {c:Expr} {body:List Stmt} {tc:TT} {tb:TS} {pos:Pos} (hp:PassesOwn (model X.prog X.w) X.A X.env X.xe) (hc:PT X c tc) (hb:Cc X body tb):PS X (.While c body [] pos) (Mq tc tb):=by
 intro pins s σ H D I h;obtain ⟨W,⟨m0,w0⟩,turn⟩:=h;refine wpAny_While (codeAny_whileLoop (λn s'=>∃σ' H',Inv X pins σ' H' s'/\W n σ' H') ?_ m0 ⟨σ,H,I,w0⟩);rintro n s1 ⟨σ1,H1,I1,w1⟩;refine wpAny_passesOwn hp (bU (hc pins s1 σ1 H1 _ I1 (turn n σ1 H1 w1)) λb s2 ⟨H2,I2,q2⟩=>?_);cases b with
 |true=>
  obtain ⟨N,hN,q2⟩:=q2.1 rfl;rw[if_pos rfl];refine wpAny_passesOwn hp (bU (hb pins s2 σ1 H2 _ I2 q2) λf s3 q3=>?_);cases f with
  |next=>
   obtain ⟨σ3,H3,I3,n3⟩:=q3;obtain ⟨m',hm,w3⟩:=hN σ3 H3 n3;exact ⟨m',hm,σ3,H3,I3,w3⟩
  |cont=>
   obtain ⟨σ3,H3,I3,n3⟩:=q3;obtain ⟨m',hm,w3⟩:=hN σ3 H3 n3;exact ⟨m',hm,σ3,H3,I3,w3⟩
  |brk=>exact q3
  |ret v=>exact q3
 |false=>
  rw[if_neg Bool.false_ne_true];exact wpAny_execs_nil ⟨σ1,H2,I2,q2.2 rfl⟩
noncomputable def WV (c:EX K) (b:List (SX K)):SX K where
 t:=λE=>Mq (c.tt E) (gY b E)
 m:=λC s=>match s with
  | .While e y [] _=>c.m C e&&DN b C y
  |_=>false
 q:=λR=>c.q R/\IG b R
 ok:=λX C E s hK G hE hq hm=>by
  subst hK;cases s with
  |While e y z p=>
   cases z with
   |nil=>
    simp only [and_eq_true] at hm;exact Fe hE.own (c.okT X C E e rfl G hE hq.1 hm.1) (sJ G hE b y hq.2 hm.2)
   |cons _ _=>cases hm
  |_=>exact ff hm
noncomputable def Kz:SX K where
 t:=λ_=>JO
 m:=λ_ _=>true
 q:=λ_=>True
 ok:=λX C E s hK G hE hq hm=>KL
noncomputable def sN (nm names:List (Str × NameKind)):List (Str × NameKind):=names.map λ(n,k)=>if (k==NameKind.free&&nm.lookup n==some .cell) then (n,NameKind.cell) else (n,k)
noncomputable def UP (C:Sc) (sc:Scope):List Str->List Nat->Bool
 |[],[]=>true
 |x::xs,i::is=>(C.N[i]?==some x&&(C.nm.lookup x==some .cell&&sc.names.lookup x==some .free))&&UP C sc xs is
 |_,_=>false
theorem EM {X:Cx} {C:Sc} {sc:Scope} (G:Gd X C):∀(xs:List Str) (is:List Nat),UP C sc xs is=true->IK X sc xs is
 |[],[],_=>.nil
 |[],_::_,h=>nomatch h
 |_::_,[],h=>nomatch h
 |x::xs,i::is,h=>by
  have h':((C.N[i]?==some x&&(C.nm.lookup x==some .cell&&sc.names.lookup x==some .free))&&UP C sc xs is)=true:=h;simp only [and_eq_true] at h';obtain ⟨⟨h1,h2,h3⟩,h4⟩:=h';exact .cons (by rw[G.N];exact eq_of_beq h1) (by show X.env.scope.names.lookup x=_;rw[G.nm];exact eq_of_beq h2) (eq_of_beq h3) (EM G xs is h4)
noncomputable def WJ (C:Sc) (sc:Scope) (own caps:List Str) (is:List Nat):Bool:=
 (decide (sc.kind=.function)&&decide (own++caps).Nodup)&&((sc.names.all λy=>y.2 != .cell || sc.names.lookup y.1==some .cell)&&((sc.names.all λy=>y.2 != .free || C.nm.lookup y.1==some .cell)&&((sc.names.all λy=>y.2 != .local || sc.names.lookup y.1==some .local)&&UP C sc caps is)))
theorem tL (env:Env):∀(names:List (Str × NameKind)) (acc:List (Str × Addr)),(∀y∈names,y.2=.free->∃c,env.cells.lookup y.1=some c)->
  (forIn names acc (λ(x:Str × NameKind) (r:List (Str × Addr))=>(if (x.2==NameKind.free)=true then (do let c <-cellOf env x.1;pure (ForInStep.yield ((x.1,c)::r))) else pure (ForInStep.yield r):Sem (ForInStep (List (Str × Addr))))))=
   (pure (((names.filter λx=>x.2==.free).filterMap λx=>(env.cells.lookup x.1).map λc=>(x.1,c)).reverse++acc):Sem (List (Str × Addr)))
 |[],acc,_=>rfl
 | (n,k)::r,acc,h=>by
  have ih:=λacc'=>tL env r acc' λy hy=>h y (mem_cons_of_mem _ hy);rw[forIn_cons];cases hk:(k==NameKind.free) with
  |false=>
   rw[if_neg Bool.false_ne_true];have e:((n,k)::r).filter (λx=>x.2==NameKind.free)=r.filter (λx=>x.2==NameKind.free):=by rw[filter_cons,if_neg (by show ¬(k==NameKind.free)=true;rw[hk];exact Bool.false_ne_true)]
   rw[e];exact ih acc
  |true=>
   rw[if_pos rfl];obtain ⟨c,hc⟩:=h (n,k) mem_cons_self (eq_of_beq hk);have e:((n,k)::r).filter (λx=>x.2==NameKind.free)=(n,k)::r.filter (λx=>x.2==NameKind.free):=by rw[filter_cons,if_pos (by show (k==NameKind.free)=true;exact hk)]
   have hcell:cellOf env n=pure c:=by
    unfold cellOf;rw[hc]
   rw[e,List.filterMap_cons,hcell];have hc':(env.cells.lookup n)=some c:=hc;simp only [hc',Option.map_some,List.reverse_cons,List.append_assoc,List.singleton_append];exact ih ((n,c)::acc)
theorem UM {X:Cx} {sc:Scope} (ok:X.Ok) (hfr:(sc.names.all λy=>y.2 != .free || X.env.kindOf y.1==some .cell)=true):closureFor sc X.env=pure (zP sc.names X.env):=by
 have h:=tL X.env sc.names [] λy hy hf=>by
  have z:=all_eq_true.mp hfr y hy;simp only [or_eq_true] at z;rcases z with z|z
  ·rw[hf] at z;cases z
  ·exact ok.has y.1 (.inl (eq_of_beq z))
 rw[append_nil] at h;have h3:closureFor sc X.env=(forIn sc.names ([]:List (Str × Addr)) (λ(x:Str × NameKind) (r:List (Str × Addr))=>(if (x.2==NameKind.free)=true then (do let c <-cellOf X.env x.1;pure (ForInStep.yield ((x.1,c)::r))) else pure (ForInStep.yield r):Sem (ForInStep (List (Str × Addr))))) >>=λr=>pure r):=rfl;rw[h3,h];rfl
noncomputable def KZ (names:List (Str × NameKind)):List Str:=(names.filter λy=>names.lookup y.1==some .cell).map (·.1)
theorem Bs {X:Cx} {C:Sc} {own caps:List Str} {sc:Scope} {Ca:Addr} {s₀:Shared} {H₀:Hp} {ex:List Addr} (G:Gd X C) (hcm:C.cm=true) (hk:X.env.scope.kind=.function) (hnd:(own++caps).Nodup):Gd (IC X (own++caps) sc Ca s₀ H₀ ex) ⟨own++caps,sN C.nm sc.names,.own (KZ sc.names)⟩ where
 N:=rfl
 nm:=by
  show (sc.names.map λ(n,k)=>if (k==NameKind.free&&X.env.scope.kind==.function&&X.env.kindOf n==some .cell) then (n,NameKind.cell) else (n,k))=sN C.nm sc.names;unfold sN;rw[hk];show (sc.names.map λ(n,k)=>if (k==NameKind.free&&true&&X.env.scope.names.lookup n==some NameKind.cell) then (n,NameKind.cell) else (n,k))=_;rw[G.nm];simp only [Bool.and_true]
 nd:=hnd
 calm:=λ_=>G.calm hcm
 bl:=G.bl
 top:=λz=>nomatch z
 hu:=G.hu
 fb:=λh=>nomatch h
 ow:=λx hx=>by
  obtain ⟨y,hy,rfl⟩:=mem_map.mp (show x∈KZ sc.names from hx);exact (mem_filter.mp hy).2
theorem Di {X:Cx} (h:X.xe=λ_ _=>False):uA X E0:=⟨λ_ _ _ _ _ _ _ z=>(uD.no z).elim,λ_ _ _ _ _ _ _ _ _ _ _ _ _ _ _ _ _ _ _ z=>z.elim,by rw[h];exact PassesOwn.never⟩
structure Kg (K:Fg) where
 t:XS->TE
 m:Sc->Expr->Bool
 q:Rt->Prop
 sok:∀(C:Sc) (e:Expr),m C e=true->gQ e=some .cp/\xA e=true
 ok:∀(X:Cx) (C:Sc) (E:XS) (e:Expr),X.K=K->Gd X C->uA X E->q (dX X)->m C e=true->PE X e (t E)
 okS:∀(X:Cx) (C:Sc) (E:XS) (i:Nat) (x:Str) (p' pos:Pos) (e:Expr),X.K=K->Gd X C->uA X E->q (dX X)->m C e=true->QK C i x=true->PS X (.Assign [.Name x p'] e pos) (λD σ H=>t E σ H λv H1=>D.nx (σ.set i (some v)) H1)
noncomputable def cT (c:Option (EX K)):TT:=match c with
 |none=>λ_ H Q=>Q true H
 |some c=>c.tt E0
noncomputable def mC (c:Option (EX K)) (C:Sc) (ifs:List Expr):Bool:=match c,ifs with
 |none,[]=>true
 |some c,[e]=>c.m C e
 |_,_=>false
noncomputable def qC (c:Option (EX K)) (R:Rt):Prop:=match c with
 |none=>True
 |some c=>c.q R
theorem JK {X:Cx} {C:Sc} (G:Gd X C) (hE:uA X E0):∀(c:Option (EX X.K)) (ifs:List Expr),qC c (dX X)->mC c C ifs=true->uB X ifs (cT c)
 |none,[],_,_=>.nil
 |none,_::_,_,hm=>nomatch hm
 |some _,[],_,hm=>nomatch hm
 |some c,[e],hq,hm=>.one (c.okT X C E0 e rfl G hE hq hm)
 |some _,_::_::_,_,hm=>nomatch hm
noncomputable def Cs (c:Option (EX K)) (elt:EX K) (tg:TX K) (it:IX K) (own caps:List Str) (is:List Nat) (C:Sc) (e:Expr):Bool:=match e with
 | .ListComp l [⟨x,y,ifs,asy⟩] sc _=>((C.cm&&decide (asy=0))&&it.tm x)&&(WJ C sc own caps is&&(it.m C y&&(tg.m ⟨own++caps,sN C.nm sc.names,.own (KZ sc.names)⟩ x&&(mC c ⟨own++caps,sN C.nm sc.names,.own (KZ sc.names)⟩ ifs&&elt.m ⟨own++caps,sN C.nm sc.names,.own (KZ sc.names)⟩ l))))
 |_=>false
theorem NU {X:Cx} {C:Sc} {E:XS} {e:Expr} {c:Option (EX X.K)} {elt:EX X.K} {tg:TX X.K} {it:IX X.K} {own caps:List Str} {is:List Nat} (G:Gd X C) (hE:uA X E) (hq:it.q (dX X)/\elt.q (dX X)/\qC c (dX X)) (hm:Cs c elt tg it own caps is C e=true):
  ∃l x y ifs sc p,e=.ListComp l [⟨x,y,ifs,0⟩] sc p/\∀(use:Option (Value->Sem Unit)) (p2:Pos) (pins:List (Addr × Obj)) (s:Shared) (σ:St) (H:Hp) (Q:VK) (QQ:Value->Shared->Prop),Inv X pins σ H s->oU (it.t E) tg.g (cT c) (elt.t E0) own.length is σ H Q->
   (∀(D C:Addr) (H':Hp) (s':Shared) (m:Str->Option Value),Inv X pins σ H' s'->s'.heap.Ns C m->H' C=none->X.s₀.heap.objs.size<=C->X.env.locals≠C->(∀x c,X.env.cells.lookup x=some c->c≠C)->(∀p∈X.pn++pins,p.1≠C)->Q (.ref D) H'->
    compPost (model X.prog X.w) X.A X.xe use QQ (.ref D) C (.ok .next) s')->
   wpAny (model X.prog X.w) X.A (comprehension (.ListComp l [⟨x,y,ifs,0⟩] sc p) sc X.env p2 (newList []) false (eval y X.env) use) QQ X.xe s:=by
 unfold Cs at hm;cases e with
 |ListComp l gs sc p=>
  match gs,hm with
  |[⟨x,y,ifs,asy⟩],hm=>
   simp only [and_eq_true] at hm;obtain ⟨⟨⟨hcm,h1⟩,h0⟩,h2,h3,h4,h6,h5⟩:=hm;have e1:=of_decide_eq_true h1;subst e1;unfold WJ at h2;simp only [and_eq_true] at h2;obtain ⟨⟨k1,k2⟩,k3,k4,k5,k6⟩:=h2;have k4':(sc.names.all λy=>y.2 != .free || X.env.kindOf y.1==some .cell)=true:=by
    show (sc.names.all λy=>y.2 != .free || X.env.scope.names.lookup y.1==some .cell)=true;rw[G.nm];exact k4
   refine ⟨l,x,y,ifs,sc,p,rfl,λuse p2 pins s σ H Q QQ I h fin=>?_⟩;have hg:=λCa s₀ H₀ ex=>Bs (own:=own) (caps:=caps) (sc:=sc) (Ca:=Ca) (s₀:=s₀) (H₀:=H₀) (ex:=ex) G hcm I.ok.kind (of_decide_eq_true k2);refine HR (own:=own) (caps:=caps) (is:=is) use (G.calm hcm) (it.ok X C E x y rfl G hE hq.1 h0 h3) (λCa s₀ H₀ ex=>tg.ok _ _ x rfl (hg Ca s₀ H₀ ex) h4)
    (λCa s₀ H₀ ex=>JK (X:=IC X (own++caps) sc Ca s₀ H₀ ex) (hg Ca s₀ H₀ ex) (Di rfl) c ifs hq.2.2 h6) (λCa s₀ H₀ ex=>elt.ok _ _ E0 l rfl (hg Ca s₀ H₀ ex) (Di rfl) hq.2.1 h5) (EM G caps is k6) (of_decide_eq_true k1)
    (λz hz=>?_) k4' (UM I.ok k4') (λz hz hl=>?_) (λv=>it.fs C y X.env v h3) I h fin
   ·have:=all_eq_true.mp k3 z hz;simp only [or_eq_true] at this;intro hl;rcases this with q|q
    ·rw[hl] at q;cases q
    ·exact eq_of_beq q
   ·have:=all_eq_true.mp k5 z hz;simp only [or_eq_true] at this;rcases this with q|q
    ·rw[hl] at q;cases q
    ·exact eq_of_beq q
 |_=>exact ff hm
theorem WI {X:Cx} {C:Sc} {E:XS} {e:Expr} {c:Option (EX X.K)} {elt:EX X.K} {tg:TX X.K} {it:IX X.K} {own caps:List Str} {is:List Nat} (G:Gd X C) (hE:uA X E) (hq:it.q (dX X)/\elt.q (dX X)/\qC c (dX X)) (hm:Cs c elt tg it own caps is C e=true):
  PE X e (oU (it.t E) tg.g (cT c) (elt.t E0) own.length is):=by
 obtain ⟨l,x,y,ifs,sc,p,rfl,R⟩:=NU G hE hq hm;intro pins s σ H Q I h;rw[eval_ListComp];refine R none _ pins s σ H Q _ I h λD C H' s' m I' hn hC h1 h2 h3 h4 q=>?_;exact ⟨m,hn,λh' hs'=>⟨.ref D,H',Inv.but I' hs' h1 h2 h3 h4 hC,rfl,q⟩⟩
theorem Iw {X:Cx} {C:Sc} {E:XS} {e:Expr} {i:Nat} {nm:Str} {p' pos:Pos} {c:Option (EX X.K)} {elt:EX X.K} {tg:TX X.K} {it:IX X.K} {own caps:List Str} {is:List Nat} (G:Gd X C) (hE:uA X E) (hq:it.q (dX X)/\elt.q (dX X)/\qC c (dX X)) (hm:Cs c elt tg it own caps is C e=true) (hst:QK C i nm=true):
  PS X (.Assign [.Name nm p'] e pos) (λD σ H=>oU (it.t E) tg.g (cT c) (elt.t E0) own.length is σ H λv H1=>D.nx (σ.set i (some v)) H1):=by
 have P:=WI G hE hq hm;obtain ⟨g1,g2,g3⟩:=uO G hst;have nd:X.N.Nodup:=by rw[G.N];exact G.nd
 obtain ⟨l,x,y,ifs,sc,p,rfl,R⟩:=NU G hE hq hm;obtain ⟨b,hb⟩:∃b:Bool,swapsWith (.ListComp l [⟨x,y,ifs,0⟩] sc p) (some (.Name nm p')) pos.line X.env=pure b:=⟨_,rfl⟩;cases b with
 |false=>exact KJ nd g1 g2 P hb g3
 |true=>
  intro pins s σ H D I h;rw[exec_Assign_Name_used _ _ _ _ hb];refine wpAny_bind (wpAny_standAt (wpAny_bind ?_));show wpAny _ _ (do let _ <-comprehension (.ListComp l [⟨x,y,ifs,0⟩] sc p) sc X.env _ (newList []) false (eval y X.env) (some (assign (.Name nm p') X.env))) _ _ s;refine wpAny_bind (wpAny_mono (R (some (assign (.Name nm p') X.env)) _ pins s σ H _ (λ_ s'=>SP X pins D .next s') I h λA C H' s' m I' hn hC h1 h2 h3 h4 q=>?_) (λ_ s' hq=>wpAny_pure (wpAny_pure hq)) λ_ _ z=>z);show wpAny _ _ (assign (.Name nm p') X.env (.ref A)) _ _ s';refine wpAny_assign_Name (sI I' nd g1 g2 (v:=.ref A) rfl (λs'' I'' ⟨a,sb,ha⟩=>?_) g3);have hne:C≠a:=by
   rcases ha with ha|ha
   ·rw[ha];exact h2.symm
   ·exact (h3 _ _ ha).symm
  exact ⟨m,hn.sameBut sb hne,λh' hs'=>⟨_,H',Inv.but I'' hs' h1 h2 h3 h4 hC,q⟩⟩
noncomputable def EI (c:Option (EX K)) (elt:EX K) (tg:TX K) (it:IX K) (own caps:List Str) (is:List Nat):Kg K where
 t:=λE=>oU (it.t E) tg.g (cT c) (elt.t E0) own.length is
 m:=Cs c elt tg it own caps is
 q:=λR=>it.q R/\elt.q R/\qC c R
 sok:=λC e hm=>by
  unfold Cs at hm;cases e with
  |ListComp l gs sc p=>exact ⟨rfl,rfl⟩
  |_=>exact ff hm
 ok:=λX C E e hK G hE hq hm=>by subst hK;exact WI G hE hq hm
 okS:=λX C E i x p' pos e hK G hE hq hm hst=>by subst hK;exact Iw G hE hq hm hst
noncomputable def Oc (c:Kg K):EX K:=SK c.t c.m c.q .cp c.ok (λC e hm=>(c.sok C e hm).1) (λC e hm=>(c.sok C e hm).2)
noncomputable def setC (i:Nat) (c:Kg K):SX K where
 t:=λE D σ H=>c.t E σ H λv H1=>D.nx (σ.set i (some v)) H1
 m:=λC s=>match s with
  | .Assign [.Name x _] e _=>QK C i x&&c.m C e
  |_=>false
 q:=c.q
 ok:=λX C E s hK G hE hq hm=>by
  split at hm
  ·rename_i x px e p;simp only [and_eq_true] at hm;exact c.okS X C E i x _ p e hK G hE hq hm.2 hm.1
  ·cases hm
noncomputable def comp (elt:EX K) (tg:TX K) (it:IX K) (own caps:List Str) (is:List Nat):EX K:=Oc (EI none elt tg it own caps is)
noncomputable def Co (P:Program) (w:World) (K:Fg) (mg:Str->Option Value) (base:Heap) (k:Nat) (x:Str) (sp:Sp):Prop:=
 ∃(f:Addr) (fd:FuncData) (ps:List Str),sA P w K mg base (uD P w) k f fd ps sp/\Binds K fd ps []/\PySem.W.keepIn K (.ref f)=true/\mg x=some (.ref f)
theorem Co.at {P:Program} {w:World} {mg:Str->Option Value} {base:Heap} {j k:Nat} {x:Str} {sp:Sp} {A:Around} (D:Co P w K mg base j x sp) (hr:cI k A) (h:j<=k):FnAt ⟨P,w,K,mg,base,A⟩ x sp:=by
 obtain ⟨f,fd,ps,F,hb,kp,hg⟩:=D;exact ⟨j,f,fd,ps,hr.mono h,F,hb,kp,hg⟩
theorem CF {P:Program} {w:World} {mg:Str->Option Value} {base:Heap} {x qual:Str} {st:Stmt} {f:Addr} {fd:FuncData} {N ps:List Str} {k:Nat} {sp:Sp} (F:De K x qual st f fd) (b:List (SX K)) (S:dZ N ps (aM st))
  (hm:DN b ⟨N,(aM st).names,true⟩ (bB st)=true) (bl:∀x∈nN,mg x=none) (hq:∀A,cI k A->IG b ⟨P,w,K,mg,base,A⟩) (len:∀vs H Q E,sp vs H Q E->vs.length=ps.length)
  (h:∀vs H Q E,sp vs H Q E->gY b (λ_=>E) {nx:=λ_ H'=>Q .non H',rt:=Q} (start N vs) H):sA P w K mg base (uD P w) (k+1) f fd ps sp:=by
 obtain ⟨oc,od,kV,doc,pm,an,cdv,ct,osl,rfl,lk,hcd⟩:=F.ex;refine Ik lk hcd S len λA outer s H vs Q E hr hsp=>?_;have G:Gd (rW (uD P w) P w K mg base N qual (aM st) f cdv A outer s H E) ⟨N,(aM st).names,true⟩:=⟨rfl,rfl,S.nd,λ_=>rfl,bl,hr.units,λ_ _=>rfl,λ_=>⟨rfl,rfl⟩,λ_ h=>nomatch h⟩;have T:uA (rW (uD P w) P w K mg base N qual (aM st) f cdv A outer s H E) (λ_=>E):=⟨λpins σ H1 s1 ev s' I z=>KU pins σ H1 s1 ev s' I z,λ_ _ _ _ _ _ e _ _ I o1 b1 u1 k1 n1 en eo dt v1 z=>LS (I.call' o1 u1 k1 b1 λb y=>absurd y (by simp)) eo dt v1 en (λb o q y=>by obtain ⟨v,hv⟩:=I.base.there b o q (λy=>nomatch y);rw[y,n1] at hv;cases hv) z,PassesOwn.leaving⟩;exact ⟨_,sJ G T b (bB st) (hq _ hr) hm,h vs H Q E hsp⟩
noncomputable abbrev ls (z:Str):List Nat:=z.cps.toList
noncomputable def aG (l:List Nat):Str:=⟨l.toArray⟩
theorem aQ (l:List Nat):ls (aG l)=l:=by simp [ls,aG]
theorem aO (z:Str):(ls z).length=z.length:=by show z.cps.toList.length=z.cps.size;simp
theorem eM (l:List Nat):(aG l).length=l.length:=by rw[<-aO,aQ]
theorem cP (h:ls a=ls b):a=b:=by
 cases a;cases b;simp only [ls] at h
 congr 1
 exact Array.toList_inj.mp h
theorem VR (z:Str):aG (ls z)=z:=cP (aQ _)
theorem mB (a b:Str):ls (a++b)=ls a++ls b:=by
 show (a.cps++b.cps).toList=a.cps.toList++b.cps.toList;simp
theorem len_app (a b:Str):(a++b).length=a.length+b.length:=by rw[<-aO,mB,length_append,aO,aO]
theorem qK (g:Array Nat):∀(r:List Str) (acc:Array Nat),(r.foldl (λacc p=>acc++g++p.cps) acc).toList=acc.toList++(r.map λp=>g.toList++p.cps.toList).flatten
 |[],acc=>by simp
 |p::r,acc=>by
  rw[foldl_cons,qK g r];simp [List.append_assoc]
theorem kS (ys:List Str):ls (Txt.join (Str.ofString "") ys)=(ys.map ls).flatten:=by
 have e:(Str.ofString "").cps=#[]:=by decide+kernel
 cases ys with
 |nil=>decide+kernel
 |cons y r=>
  show ((r.foldl (λacc p=>acc++(Str.ofString "").cps++p.cps) y.cps)).toList=_;rw[e,qK];simp
theorem fO (x:Str) (c lim:Nat):∀(l:List Nat) (st:Array Nat × Nat),(∀i∈l,st.snd<=i)->l.Pairwise (·<·)->st.fst.size+l.length<=lim->
  (forIn l st (StrLaws.occBody x ⟨#[c]⟩ x.length lim)).run.fst.size=st.fst.size+(l.filter λi=>decide (x.cps.toList[i]?=some c)).length
 |[],st,_,_,_=>by simp
 |a::l,st,hf,hp,hl=>by
  rw[forIn_cons];have ha:st.snd<=a:=hf a mem_cons_self;rw[length_cons] at hl;have hp':=pairwise_cons.mp hp;unfold StrLaws.occBody;by_cases hc:x.cps.toList[a]?=some c
  ·have h1:=(StrLaws.subAt_one x c a).mpr hc;rw[if_pos ⟨⟨⟨by lia,ha⟩,h1.1⟩,h1.2⟩];have ih:=fO x c lim l (st.fst.push a,a+(⟨#[c]⟩:Str).length) (λi hi=>by
    have:=hp'.1 i hi
    show a+1<=i
    lia) hp'.2 (by rw[Array.size_push];lia)
   show (forIn l (st.fst.push a,a+(⟨#[c]⟩:Str).length) (StrLaws.occBody x ⟨#[c]⟩ x.length lim)).run.fst.size=_;rw[ih,filter_cons,if_pos (decide_eq_true hc),length_cons,Array.size_push];lia
  ·rw[if_neg (λh=>hc ((StrLaws.subAt_one x c a).mp ⟨h.1.2,h.2⟩))];have ih:=fO x c lim l (st.fst,st.snd) (λi hi=>hf i (mem_cons_of_mem _ hi)) hp'.2 (by show st.fst.size+l.length<=lim;lia);show (forIn l (st.fst,st.snd) (StrLaws.occBody x ⟨#[c]⟩ x.length lim)).run.fst.size=_;rw[ih,filter_cons,if_neg (by rw[decide_eq_false hc];exact Bool.false_ne_true)]
theorem tE (c:Nat):∀(l:List Nat) (k:Nat),((range' k (l.length+1)).filter λi=>decide (l[i - k]?=some c)).length=l.count c
 |[],k=>by simp [range']
 |a::l,k=>by
  have e:range' k ((a::l).length+1)=k::range' (k+1) (l.length+1):=by rw[length_cons,List.range'_succ]
  rw[e,filter_cons];have ih:=tE c l (k+1);have e2:((range' (k+1) (l.length+1)).filter λi=>decide ((a::l)[i - k]?=some c))=((range' (k+1) (l.length+1)).filter λi=>decide (l[i - (k+1)]?=some c)):=by
   refine List.filter_congr λi hi=>?_;have hi':=List.mem_range'_1.mp hi;have:i - k=(i - (k+1))+1:=by lia
   rw[this,List.getElem?_cons_succ]
  have e3:(a::l)[k - k]?=some a:=by rw[sub_self];rfl
  rw[e2,e3,List.count_cons];by_cases hc:a=c
  ·subst hc;rw[if_pos (decide_eq_true rfl),length_cons,ih];simp
  ·rw[if_neg (by simp [hc]),ih];simp [hc]
theorem HN (x:Str) (c:Nat):Txt.count x ⟨#[c]⟩=((ls x).count c:Int):=by
 unfold Txt.count;rw[StrLaws.occ_eq,length_toList,Nat.sub_zero];rw[fO x c (x.length+1) _ _ (λi hi=>zero_le _) List.pairwise_lt_range' (by simp)];have h:=tE c (ls x) 0;rw[aO] at h;simp only [Nat.sub_zero] at h;simp only [size_toArray,length_nil,zero_add];rw[<-h]
noncomputable def fG (m:Nat) (z:Str):Prop:=∀c∈ls z,97<=c/\c<97+m
theorem fG.app (ha:fG m a) (hb:fG m b):fG m (a++b):=λc hc=>by
 rw[mB] at hc;rcases mem_append.mp hc with h|h
 ·exact ha c h
 ·exact hb c h
theorem fG.sgn (h:97<=c) (l:c<97+m):fG m ⟨#[c]⟩:=λd hd=>by
 have:d=c:=by simpa [ls] using hd
 subst this;exact ⟨h,l⟩
theorem fG.of_ls (h:fG m z) (e:∀c∈ls y,c∈ls z):fG m y:=λc hc=>h c (e c hc)
noncomputable def wd (ws:List Str) (c:Nat):List Nat:=ls (ws[c - 97]?.getD ⟨#[]⟩)
noncomputable def img (ws:List Str) (z:Str):Str:=aG ((ls z).flatMap (wd ws))
theorem jO (ws:List Str) (z:Str):ls (img ws z)=(ls z).flatMap (wd ws):=aQ _
theorem DS (hw:∀w∈ws,fG m w):fG m (img ws z):=λc hc=>by
 rw[jO] at hc;obtain ⟨d,_,h2⟩:=mem_flatMap.mp hc;unfold wd at h2;cases e:ws[d - 97]? with
 |none=>rw[e] at h2;simp [ls] at h2
 |some w=>rw[e] at h2;exact hw w (mem_of_getElem? e) c h2
theorem uN {l:List Nat} {B:Nat} (h:∀x∈l,x<=B):l.sum<=l.length * B:=by
 induction l with
 |nil=>simp
 |cons a l ih=>
  have h1:=h a mem_cons_self;have h2:=ih λx hx=>h x (mem_cons_of_mem _ hx);rw[sum_cons,length_cons,Nat.add_mul,Nat.one_mul];lia
theorem BQ {ws:List Str} {z:Str} {B:Nat} (h:∀w∈ws,w.length<=B):(img ws z).length<=z.length * B:=by
 rw[<-aO,jO,List.length_flatMap,<-aO z];refine le_trans (uN (B:=B) λx hx=>?_) (by rw[length_map];exact Nat.le_refl _);obtain ⟨c,hc,rfl⟩:=mem_map.mp hx;unfold wd;cases e:ws[c - 97]? with
 |none=>simp [ls]
 |some w=>rw[show (some w).getD ⟨#[]⟩=w from rfl,aO];exact h w (mem_of_getElem? e)
theorem DK {X:Cx} {id:String} {r:Str->List V->Hp->VK->Prop} {r':V->List V->Hp->VK->Prop} (h:UZ X id r') (f:∀z ys H Q,r z ys H Q->r' (.str z) ys H Q):Cf X id (rS r):=by
 intro pins s σ H x xs v us Q I rx rs q;cases x with
 |str z=>exact h pins s σ H _ xs v us Q I rx rs (f z xs H Q q)
 |_=>exact q.elim
noncomputable def vC (K:Fg):Str->List V->Hp->VK->Prop
 |z,[.ref p],H,Q=>∃ys:List Str,(H p=some (.lst (ys.map V.str))\/cZ K H p (ys.map V.str))/\(ys.map (·.length)).sum+ys.length * z.length<=16777216/\Q (.str (Txt.join z ys)) H
 |_,_,_,_=>False
noncomputable def pQ (o a:EX K) (ho:o.s≠.zc:=by intro z;cases z):EX K:=sS "join" "str.join" (vC K) PySem.F.slot_str_join PySem.F.type_str_join (λX hK _ _=>by
 subst hK
 intro pins s σ H x xs v us Q I rx rs q
 cases x with
 |str z=>
  have q':vC X.K z xs H Q:=q
  unfold vC at q'
  split at q'
  ·obtain ⟨ys,h1|h1,h2,h3⟩:=q'
   ·exact SH pins s σ H _ _ v us Q I rx rs ⟨_,_,ys,rfl,rfl,h1,h2,h3⟩
   ·exact LL pins s σ H _ _ v us Q I rx rs ⟨_,_,ys,rfl,rfl,h1,h2,h3⟩
  ·exact q'.elim
 |_=>exact q.elim) o ho [a]
noncomputable def oA:Str->List V->Hp->VK->Prop
 |z,[.str y],H,Q=>Q (.int (Txt.count z y)) H
 |_,_,_,_=>False
noncomputable def DM (o a:EX K) (ho:o.s≠.zc:=by intro z;cases z):EX K:=sS "count" "str.count" oA PySem.F.slot_str_count PySem.F.type_str_count (λX hK _ _=>DK LO (λz ys H Q h=>by
 unfold oA at h
 split at h
 ·exact ⟨_,_,rfl,rfl,h⟩
 ·exact h.elim)) o ho [a]
noncomputable def nY:Str->List V->Hp->VK->Prop
 |z,[.str y],H,Q=>∃(i:Nat) (rest:List Nat),Builtin.Str.occurrences z y 0 z.length 1=i::rest/\Q (.int i) H
 |_,_,_,_=>False
noncomputable def vM (o a:EX K) (ho:o.s≠.zc:=by intro z;cases z):EX K:=sS "index" "str.index" nY PySem.F.slot_str_index PySem.F.type_str_index (λX hK _ _=>DK LM (λz ys H Q h=>by
 unfold nY at h
 split at h
 ·obtain ⟨i,rest,h1,h2⟩:=h
  exact ⟨_,_,i,rest,rfl,rfl,h1,h2⟩
 ·exact h.elim)) o ho [a]
noncomputable def cF (o a:EX K) (ho:o.s≠.zc:=by intro z;cases z):EX K:=VS "append" "list.append" oB PySem.F.slot_list_append PySem.F.type_list_append (λX hK _ _=>sR) o ho [a]
noncomputable def UJ (a b:EX K):EX K:=SK (λE=>Mt K (fL [a,b] E))
 (λC e=>match e with
  | .Call (.Name y _) [.Call (.Name z _) es [] _] [] _=>(C.cm&&rH C "dict" y)&&(rH C "zip" z&&jT [a,b] C es)
  |_=>false) (λR=>sQ [a,b] R) .pl
 (λX C E e hK G hE hq hm=>by
  subst hK
  split at hm
  ·rename_i y py z pz es p2 p
   ·simp only [and_eq_true] at hm
    obtain ⟨⟨hcm,h1⟩,h2,h3⟩:=hm
    have e:=cE h1
    have e2:=cE h2
    subst e e2
    match es,h3 with
    |[],h3=>exact nomatch h3
    |[x],h3=>exact nomatch (aH h3).2
    |x::y::z::r,h3=>exact nomatch (aH (aH h3).2).2
    |[x,y],h3=>
     have s1:=aX (env:=X.env) (es:=[y]) (a.sok C x (aH h3).1)
     have s2:=aX (env:=X.env) (es:=[]) (b.sok C y (aH (aH h3).2).1)
     exact BB (G.calm hcm) (cD G h1).1 (G.bl _ (by decide+kernel)) (cD G h2).1 (G.bl _ (by decide+kernel)) (dU G hE [a,b] [x,y] hq h3)
      s1 (bJ [b] [y] (aH h3).2)
  ·cases hm)
 (λC e hm=>by
  split at hm
  ·rfl
  ·cases hm)
 (λC e hm=>by cases e with|Call f es ks p=>rfl|_=>exact ff hm)
section
variable {E:XS} {σ:St} {H:Hp} {Q:VK} {D:Ends} {QB:Bool->Hp->Prop} {QL:List V->Hp->Prop} {v:V} {i j:Int} {n:Nat} {a b c:EX K} {as:List (EX K)} {ss:List (SX K)} {s:SX K} {op:Operator} {co:CmpOp} {x:Str} {sp:Sp}
theorem MN {tg:TX K} (h:a.t E σ H λx H1=>tg.g x σ H1 D.nx):(XM tg a).t E D σ H:=h
theorem mX (h:s.t E {D with nx:=gY ss E D} σ H):gY (s::ss) E D σ H:=h
theorem Hf (h:D.nx σ H):gY ([]:List (SX K)) E D σ H:=h
theorem sX (h:a.t E σ H λx H1=>D.nx (σ.set n (some x)) H1):(set n a).t E D σ H:=h
theorem Gz (h:a.t E σ H D.rt):(ret a).t E D σ H:=h
theorem Lv (h:a.t E σ H λ_ H1=>D.nx σ H1):(ex a).t E D σ H:=h
theorem Lr {t f:List (SX K)} (h:c.tt E σ H λb H1=>br b (gY t E D σ H1) (gY f E D σ H1)):(qF c t f).t E D σ H:=h
theorem yU (e:σ[n]?=some (some v)) (h:Q v H):(var n:EX K).t E σ H Q:=by
 show tV n σ H Q;unfold tV;rw[e];exact h
theorem yX (h:Q v H):(cst v:EX K).t E σ H Q:=h
theorem Ho (h:Q v H):(Az x v:EX K).t E σ H Q:=h
theorem WD (h:a.t E σ H λx H1=>b.t E σ H1 λy H2=>kQ K op x y H2 Q):(bin op a b).t E σ H Q:=h
theorem DX (h:Q (.int (i+j)) H):kQ K .Add (.int i) (.int j) H Q:=h
theorem VY (h:Q (.int (i - j)) H):kQ K .Sub (.int i) (.int j) H Q:=h
theorem Hg (c:Cp i j) (h:Q (.int (i * j)) H):kQ K .Mult (.int i) (.int j) H Q:=⟨c.ok,h⟩
theorem Aj (c:IntMulOk i j) (h:Q (.int (i * j)) H):kQ K .Mult (.int i) (.int j) H Q:=⟨c,h⟩
theorem Ht (c:Mo i j) (h:Q (.int (i / j)) H):kQ K .FloorDiv (.int i) (.int j) H Q:=⟨⟨c.1,by have:=c.2;lia⟩,h⟩
theorem Aq (c:0<j/\j<2 ^ 64) (h:Q (.int (i / j)) H):kQ K .FloorDiv (.int i) (.int j) H Q:=⟨c,h⟩
theorem VZ (c:0<j) (h:Q (.int (i % j)) H):kQ K .Mod (.int i) (.int j) H Q:=⟨c,h⟩
theorem Hb (c:VC i j) (h:Q (.int (i ^ j.toNat)) H):kQ K .Pow (.int i) (.int j) H Q:=⟨L2.L3.VC.pw c,h⟩
theorem BU {y z:Str} (c:y.length+z.length<=sizeLine) (h:Q (.str (y++z)) H):kQ K .Add (.str y) (.str z) H Q:=⟨c,h⟩
theorem Hv (h:a.t E σ H λx H1=>b.t E σ H1 λy H2=>eL K co x y H2 Q):(cmp co a b).t E σ H Q:=h
theorem Gn (h:a.t E σ H λx H1=>b.t E σ H1 λy H2=>rB (eL K co) x y H2 QB):(cmp co a b).tt E σ H QB:=h
theorem Lp (h:Q (.bl (decide (i<j))) H):eL K .Lt (.int i) (.int j) H Q:=h
theorem Ls (h:Q (.bl (decide (j<i))) H):eL K .Gt (.int i) (.int j) H Q:=h
theorem Lu (h:Q (.bl (decide (j<=i))) H):eL K .GtE (.int i) (.int j) H Q:=h
theorem dI:decide (V.int i=V.int j)=decide (i=j):=decide_eq_decide.mpr ⟨λz=>V.int.inj z,λz=>by rw[z]⟩
theorem dS {y z:Str}:decide (V.str y=V.str z)=decide (y=z):=decide_eq_decide.mpr ⟨λe=>V.str.inj e,λe=>by rw[e]⟩
theorem Lw (h:Q (.bl (decide (i=j))) H):eL K .Eq (.int i) (.int j) H Q:=.inl ⟨rfl,by rw[dI];exact h⟩
theorem Hs {y z:Str} (h:Q (.bl (decide (y=z))) H):eL K .Eq (.str y) (.str z) H Q:=.inl ⟨rfl,by rw[dS];exact h⟩
theorem Hm (h:Q (.bl (decide (v=.non))) H):eL K .Is v .non H Q:=h
theorem ME (h:QB (decide (v=.non)) H):rB (eL K .Is) v .non H QB:=h
theorem BM (h:QB (!decide (v=.non)) H):rB (eL K .IsNot) v .non H QB:=h
theorem Lh (h:QB (decide (i<j)) H):rB (eL K .Lt) (.int i) (.int j) H QB:=h
theorem Li (h:QB (decide (i<=j)) H):rB (eL K .LtE) (.int i) (.int j) H QB:=h
theorem Lj (h:QB (decide (j<i)) H):rB (eL K .Gt) (.int i) (.int j) H QB:=h
theorem Lk (h:QB (decide (j<=i)) H):rB (eL K .GtE) (.int i) (.int j) H QB:=h
theorem Ll (h:QB (decide (i=j)) H):rB (eL K .Eq) (.int i) (.int j) H QB:=.inl ⟨rfl,by show QB _ H;rw[dI];exact h⟩
theorem Lg (h:QB (!decide (i=j)) H):rB (eL K .NotEq) (.int i) (.int j) H QB:=.inl ⟨rfl,by show QB _ H;rw[dI];exact h⟩
theorem VX (e:a.tt E=XA K (a.t E)) (h:a.t E σ H λx H1=>rQ K x H1 QB):a.tt E σ H QB:=by rw[e];exact h
theorem Gj (h:a.tt E σ H λb H1=>QB (!b) H1):(vJ a).tt E σ H QB:=h
theorem He (h:a.t E σ H λx H1=>rQ K x H1 λb H2=>Q (.bl (!b)) H2):(vJ a).t E σ H Q:=h
theorem MK {k:Bool} (h:QB k H):rQ K (.bl k) H QB:=h
theorem Hw (h:a.t E σ H λx H1=>rQ K x H1 λk H2=>br k (xG K .And E (b.t E) as σ H2 Q) (Q x H2)):(zX a (b::as)).t E σ H Q:=h
theorem Gq (h:a.tt E σ H λk H1=>br k (oW K .And E (b.tt E) as σ H1 QB) (QB false H1)):(zX a (b::as)).tt E σ H QB:=h
theorem Lf (h:a.tt E σ H λk H1=>br k (QB true H1) (oW K .Or E (b.tt E) as σ H1 QB)):(Ky a (b::as)).tt E σ H QB:=h
theorem Aw {bo:BoolOp} {t:TE} (h:t σ H Q):xG K bo E t [] σ H Q:=h
theorem ZW {bo:BoolOp} {t:TT} (h:t σ H QB):oW K bo E t [] σ H QB:=h
theorem Av {t:TE} (h:t σ H λx H1=>rQ K x H1 λk H2=>br k (xG K .And E (b.t E) as σ H2 Q) (Q x H2)):xG K .And E t (b::as) σ H Q:=h
theorem oG (h:a.t E σ H λx H1=>fL as E σ H1 λxs H2=>QL (x::xs) H2):fL (a::as) E σ H QL:=h
theorem wD (h:QL [] H):fL ([]:List (EX K)) E σ H QL:=h
theorem MZ (h:fL as E σ H λvs H1=>sp vs H1 Q (E σ)):(call x sp as).t E σ H Q:=h
theorem WA (h:a.t E σ H λx H1=>AZ K [x] H1 Q):(len a).t E σ H Q:=h
theorem eS {z:Str} (c:z.length<=sizeLine) (h:Q (.int z.length) H):AZ K [.str z] H Q:=⟨c,h⟩
theorem wB {p:Addr} {xs:List V} (c:aP K H p xs) (h:Q (.int xs.length) H):AZ K [.ref p] H Q:=.inl ⟨_,.inl ⟨xs,c,rfl⟩,h⟩
theorem MU {p:Addr} {xs:List V} (c:cZ K H p xs) (h:Q (.int xs.length) H):AZ K [.ref p] H Q:=.inl ⟨_,.inr ⟨xs,c,rfl⟩,h⟩
theorem Gw (h:a.t E σ H λx H1=>XR [x] H1 Q):(sum a).t E σ H Q:=h
theorem Hy (h:a.t E σ H λx H1=>XZ K [x] H1 Q):(Je a).t E σ H Q:=h
theorem Hh (h:a.t E σ H λx H1=>b.t E σ H1 λy H2=>yC [x,y] H2 Q):(min2 a b).t E σ H Q:=h
theorem Hi (h:a.t E σ H λx H1=>b.t E σ H1 λy H2=>yD [x,y] H2 Q):(max2 a b).t E σ H Q:=h
theorem Ak (h:Q (.int (min i j)) H):yC [.int i,.int j] H Q:=h
theorem Al (h:Q (.int (max i j)) H):yD [.int i,.int j] H Q:=h
theorem Hl (h:a.t E σ H λx H1=>b.t E σ H1 λy H2=>DE K [x,y] H2 Q):(Jx a b).t E σ H Q:=h
theorem TL (h:Q (.ty "int") H):(VF:EX K).t E σ H Q:=h
theorem MH (h:Q (.ty "bool") H):(JD:EX K).t E σ H Q:=h
theorem HD (h:Q (.ty "tuple") H):(CT:EX K).t E σ H Q:=h
theorem TQ (h:a.t E σ H λx H1=>nX K [x] H1 Q):(listE a).t E σ H Q:=h
theorem MI (h:a.t E σ H λx H1=>vA K [x] H1 Q):(JJ a).t E σ H Q:=h
theorem Lq (h:a.t E σ H λx H1=>b.t E σ H1 λy H2=>yE K x y H2 Q):(ix a b).t E σ H Q:=h
theorem qH {z:Str} {k:Nat} (c:z.length<=sizeLine) (e:rX z.cps.toList i=some k) (h:Q (sgn k) H):yE K (.str z) (.int i) H Q:=⟨c,k,e,h⟩
theorem gS {p:Addr} {xs:List V} (c:aP K H p xs) (e:rX xs i=some v) (h:Q v H):yE K (.ref p) (.int i) H Q:=.inl ⟨p,xs,i,v,rfl,rfl,c,e,h⟩
theorem sY {p:Addr} {xs:List V} (c:cZ K H p xs) (e:rX xs i=some v) (h:Q v H):yE K (.ref p) (.int i) H Q:=.inr (.inl ⟨p,xs,i,v,rfl,rfl,c,e,h⟩)
theorem iF {p:Addr} {y:V} (c:eY H p y (some v)) (h:Q v H):yE K (.ref p) y H Q:=.inr (.inr ⟨v,c,h⟩)
theorem Gx {lo hi:Option (EX K)} (h:a.t E σ H λx H1=>tO E lo σ H1 λl H2=>tO E hi σ H2 λu H3=>GA K x l u H3 Q):(uT a lo hi).t E σ H Q:=h
theorem Lo {QO:Option Int->Hp->Prop} (h:QO none H):tO E (none:Option (EX K)) σ H QO:=h
theorem Ln {QO:Option Int->Hp->Prop} (h:a.t E σ H (rO QO)):tO E (some a) σ H QO:=h
theorem Ha {QO:Option Int->Hp->Prop} (h:QO (some i) H):rO QO (.int i) H:=h
theorem eR {z:Str} {lo hi:Option Int} (c:z.length<=sizeLine) (h:Q (.str (Txt.slice z lo hi)) H):GA K (.str z) lo hi H Q:=⟨c,h⟩
theorem MM {p:Addr} {xs:List V} {lo hi:Option Int} (c:aP K H p xs) (h:∀q,H q=none->Q (.ref q) (upd H q (.lst (lC xs lo hi)))):GA K (.ref p) lo hi H Q:=.inl ⟨p,xs,rfl,c,h⟩
theorem MS (h:fL as E σ H λxs H1=>xs.length<=sizeLine/\∀p,H1 p=none->Q (.ref p) (upd H1 p (.lst xs))):(lst as).t E σ H Q:=h
theorem MJ (h:fL as E σ H λxs H1=>xs.length<=sizeLine/\∀p,H1 p=none->Q (.ref p) (upd H1 p (.tup xs))):(tup as).t E σ H Q:=h
theorem Am {ho:a.s≠.zc} (h:a.t E σ H λx H1=>RS (vC K) (fL [b] E) x σ H1 Q):(pQ a b ho).t E σ H Q:=h
theorem UB {ho:a.s≠.zc} (h:a.t E σ H λx H1=>RS oA (fL [b] E) x σ H1 Q):(DM a b ho).t E σ H Q:=h
theorem TU {ho:a.s≠.zc} (h:a.t E σ H λx H1=>RS nY (fL [b] E) x σ H1 Q):(vM a b ho).t E σ H Q:=h
theorem NA {ho:a.s≠.zc} (h:a.t E σ H λx H1=>RL K oB (fL [b] E) x σ H1 Q):(cF a b ho).t E σ H Q:=h
theorem Ly {r:Str->List V->Hp->VK->Prop} {t:TA} {z:Str} (h:t σ H λys H2=>r z ys H2 Q):RS r t (.str z) σ H Q:=h
theorem BV {r:V->List V->Hp->VK->Prop} {t:TA} {p:Addr} {xs:List V} (c:aP K H p xs) (h:t σ H λys H2=>r (.ref p) ys H2 Q):RL K r t (.ref p) σ H Q:=⟨⟨xs,c⟩,h⟩
theorem MY {z:Str} {k:Nat} (h:Q (.int (((ls z).count k:Nat):Int)) H):oA z [sgn k] H Q:=by
 show Q (.int (Txt.count z ⟨#[k]⟩)) H;rw[HN];exact h
theorem yW {z y:Str} {k:Nat} {r:List Nat} (e:Builtin.Str.occurrences z y 0 z.length 1=k::r) (h:Q (.int k) H):nY z [.str y] H Q:=⟨k,r,e,h⟩
theorem eC {p:Addr} {xs:List V} {y:V} (e:H p=some (.lst xs)) (c:xs.length<sizeLine) (h:Q .non (upd H p (.lst (xs++[y])))):oB (.ref p) [y] H Q:=⟨p,xs,y,rfl,rfl,e,c,h⟩
noncomputable def nH (J:It) (g:TG) (tb:TS) (D:Ends) (σ:St) (H:Hp):Prop:=∃W:Nat->Nat->St->Hp->Prop,(∃m,W 0 m σ H)/\∀i m σ H,W i m σ H->
 (J.stop i H/\D.nx σ H)\/(J.go i H/\∃N:St->Hp->Prop,(∀σ' H',N σ' H'->∃m',m'<m/\W (i+1) m' σ' H')/\∀x H',J.yld i H x H'->g x σ H' λσ2 H2=>tb {D with nx:=N,ct:=N,bk:=D.nx} σ2 H2)
theorem Hr {tg:TX K} {it:IX K} {bd:List (SX K)} (h:it.t E σ H λJ H1=>nH J tg.g (gY bd E) D σ H1):(jP tg it bd).t E D σ H:=h
theorem Gy {R:It->Hp->Prop} (h:fL (a::as) E σ H λvs H1=>KA vs H1 R):(rT a as).t E σ H R:=h
theorem Ae {R:It->Hp->Prop} (c:-(2 ^ 62)<=j/\j<2 ^ 62) (h:R (II 0 j.toNat) H):KA [.int j] H R:=⟨c,h⟩
theorem Gv {R:It->Hp->Prop} (h:fL [a,b] E σ H λvs H1=>JX K vs H1 R):(UD a b).t E σ H R:=h
theorem vZ {R:It->Hp->Prop} {p r:Addr} {xs ys:List V} (c:aP K H p xs) (d:aP K H r ys) (h:R (Jo K p r) H):JX K [.ref p,.ref r] H R:=⟨⟨⟨xs,c⟩,ys,d⟩,h⟩
theorem An {R:It->Hp->Prop} (h:a.t E σ H λx H1=>pL K x H1 R):(iG a).t E σ H R:=h
theorem Hk {R:It->Hp->Prop} {z:Str} (h:R (Dc z) H):pL K (.str z) H R:=h
theorem gT {R:It->Hp->Prop} {p:Addr} {xs:List V} (c:aP K H p xs) (h:R (VA K p) H):pL K (.ref p) H R:=.inl ⟨⟨xs,c⟩,h⟩
theorem Hj {R:It->Hp->Prop} {p:Addr} {xs:List V} (c:cZ K H p xs) (h:R (Jq K p) H):pL K (.ref p) H R:=.inr ⟨⟨xs,c⟩,h⟩
theorem oE {J:It} {P:Hp->Prop} {xs:List V} {g:TG} {tb:TS} (Y:Yl J P xs) (Pv:Nat->St->Hp->Prop) (h0:Pv 0 σ H) (hl:∀i σ H,i<=xs.length->Pv i σ H->P H)
  (hs:∀i x σ H,xs[i]?=some x->Pv i σ H->g x σ H λσ2 H2=>tb {D with nx:=Pv (i+1),ct:=Pv (i+1),bk:=D.nx} σ2 H2) (hd:∀σ H,Pv xs.length σ H->D.nx σ H):nH J g tb D σ H:=NH Y Pv h0 hl hs hd
theorem eP {lo:Int} {k:Nat} {g:TG} {tb:TS} (Pv:Nat->St->Hp->Prop) (h0:Pv 0 σ H)
  (hs:∀i σ H,i<k->Pv i σ H->g (.int (lo+(i:Nat))) σ H λσ2 H2=>tb {D with nx:=Pv (i+1),ct:=Pv (i+1),bk:=D.nx} σ2 H2) (hd:∀σ H,Pv k σ H->D.nx σ H):nH (II lo k) g tb D σ H:=HG Pv h0 hs hd
theorem LV {z:Str} {g:TG} {tb:TS} (Pv:Nat->St->Hp->Prop) (h0:Pv 0 σ H)
  (hs:∀i k σ H,z.cps.toList[i]?=some k->Pv i σ H->g (sgn k) σ H λσ2 H2=>tb {D with nx:=Pv (i+1),ct:=Pv (i+1),bk:=D.nx} σ2 H2) (hd:∀σ H,Pv z.cps.toList.length σ H->D.nx σ H):nH (Dc z) g tb D σ H:=by
 refine oE IS Pv h0 (λ_ _ _ _ _=>trivial) (λi x σ1 H1 hx hp=>?_) (λσ1 H1 hp=>hd σ1 H1 ?_)
 ·unfold jB at hx;rw[getElem?_map] at hx;cases e:z.cps.toList[i]? with
  |none=>rw[e] at hx;cases hx
  |some k=>
   rw[e] at hx;have hx':sgn k=x:=Option.some.inj hx;subst hx';exact hs i k σ1 H1 e hp
 ·rw[eJ] at hp;rw[length_toList];exact hp
theorem DW {QS:St->Hp->Prop} (h:QS (σ.set n (some v)) H):(gR n:TX K).g v σ H QS:=h
theorem MX (h:a.t E σ H λx H1=>b.t E σ H1 λy H2=>∃(z:Str) (t:Addr) (ws:List V),[x,y]=[V.str z,.ref t]/\(cZ K H2 t ws\/aP K H2 t ws)/\z.cps.size=ws.length/\z.cps.size<=1000/\z.cps.all (·<128)=true/\(∀i j,i<z.cps.size->j<z.cps.size->fW z i=fW z j->i=j)/\
 ∀d,H2 d=none->Q (.ref d) (upd H2 d (.dK (jC z ws)))):(UJ a b).t E σ H Q:=h
theorem LX {p:Addr} {xs:List V} {g:TG} {tb:TS} (hp:aP K H p xs) (S:Nat->St->Prop) (h0:S 0 σ)
  (hs:∀i x σ1 H1,xs[i]?=some x->S i σ1->aC H H1->g x σ1 H1 λσ2 H2=>tb {D with nx:=λσ3 H3=>S (i+1) σ3/\aC H H3,ct:=λσ3 H3=>S (i+1) σ3/\aC H H3,bk:=D.nx} σ2 H2) (hd:∀σ1 H1,S xs.length σ1->aC H H1->D.nx σ1 H1):
  nH (VA K p) g tb D σ H:=NI (dW (xs:=xs)) (λH' e=>e.seq hp) S h0 hs hd
theorem qG {QS:St->Hp->Prop} {k l:Nat} {p:Addr} {x y:V} (c:cZ K H p [x,y]) (h:QS ((σ.set k (some x)).set l (some y)) H):(JB [k,l]:TX K).g (.ref p) σ H QS:=
 ⟨p,[x,y],rfl,c,rfl,x,[y],rfl,y,[],rfl,rfl,h⟩
theorem HS {J:It} {P:Hp->Prop} {items:List V} (Y:Yl J P items) {tc:TT} {te:TE} {is:List Nat} {D:Addr} (keep:Nat->Bool) (f:Nat->V) (hD:H D=none) (hP:∀H1,aC H H1->P H1) (hz:items.length<=sizeLine)
  (test:∀(i:Nat) (x:V) (H1:Hp) (QB:Bool->Hp->Prop),items[i]?=some x->aC H H1->(∀H2,aC H1 H2->QB (keep i) H2)->tc (some x::eU is σ) H1 QB)
  (step:∀(i:Nat) (x:V) (H1:Hp) (Q':VK),items[i]?=some x->keep i=true->aC H H1->(∀H3,aC H1 H3->Q' (f i) H3)->te (some x::eU is σ) H1 Q')
  (fin:∀H1,aC H H1->H1 D=some (.lst (((range items.length).filter keep).map f))->Q (.ref D) H1):aU J (gR 0:TX K).g tc te 1 is σ D H Q:=by
 have hn:∀i,(((range i).filter keep).map f).length<=i:=λi=>by
  rw[length_map];exact le_trans (List.length_filter_le _ _) (by rw[length_range];exact Nat.le_refl _)
 refine ⟨λi m σ' H1=>m=items.length - i/\i<=items.length/\(∃a,σ'=a::eU is σ)/\aC H H1/\H1 D=some (.lst (((range i).filter keep).map f)),⟨items.length,by simp,zero_le _,⟨none,rfl⟩,λb o e=>by rw[aF (aB e hD)];exact e,aA⟩,?_⟩;rintro i m σ' H1 ⟨rfl,hi,⟨a,rfl⟩,hS,hO⟩;have p:=hP H1 hS;by_cases hlt:i<items.length
 ·refine .inr ⟨Y.go i H1 p hlt,λx H' hy=>?_⟩;obtain ⟨e,hx⟩:=Y.yld i H1 x H' p hlt hy;subst e;show tc (some x::eU is σ) H' _;refine test i x H' _ hx hS λH2 s2=>⟨λhk=>?_,λhk=>?_⟩
  ·refine step i x H2 _ hx hk (hS.trans s2) λH3 s3=>?_;refine ⟨_,s3 _ _ (s2 _ _ hO),Nat.lt_of_le_of_lt (hn i) (Nat.lt_of_lt_of_le hlt hz),items.length - (i+1),by lia,rfl,hlt,⟨_,rfl⟩,λb o q=>?_,?_⟩
   ·rw[aF (aB q hD)];exact s3 _ _ (s2 _ _ (hS b o q))
   ·rw[aA,range_succ,List.filter_append,map_append,filter_cons,if_pos hk];rfl
  ·refine ⟨items.length - (i+1),by lia,rfl,hlt,⟨_,rfl⟩,hS.trans s2,?_⟩;rw[s2 _ _ hO,range_succ,List.filter_append,filter_cons,if_neg (by rw[hk];exact Bool.false_ne_true),List.filter_nil,append_nil]
 ·have e:i=items.length:=by lia
  subst e;exact .inl ⟨Y.stop H1 p,fin H1 hS hO⟩
theorem filter_all {α:Type} (l:List α):(l.filter λ_=>true)=l:=List.filter_eq_self.mpr λ_ _=>rfl
theorem lD {J:It} {P:Hp->Prop} {items:List V} (Y:Yl J P items) {te:TE} {is:List Nat} {D:Addr} (f:Nat->V) (hD:H D=none) (hP:∀H1,aC H H1->P H1) (hz:items.length<=sizeLine)
  (step:∀(i:Nat) (x:V) (H1:Hp) (Q':VK),items[i]?=some x->aC H H1->(∀H3,aC H1 H3->Q' (f i) H3)->te (some x::eU is σ) H1 Q')
  (fin:∀H1,aC H H1->H1 D=some (.lst ((range items.length).map f))->Q (.ref D) H1):aU J (gR 0:TX K).g (cT (none:Option (EX K))) te 1 is σ D H Q:=
 HS Y (λ_=>true) f hD hP hz (λ_ _ _ _ _ _ q=>q _ (aC.refl _)) (λi x H1 Q' hx _ hS q=>step i x H1 Q' hx hS q) λH1 hS hO=>fin H1 hS (by rw[filter_all] at hO;exact hO)
theorem NX {lo:Int} {m:Nat} {te:TE} {is:List Nat} {D:Addr} (f:Nat->V) (hD:H D=none) (hz:m<=sizeLine)
  (step:∀(i:Nat) (H1:Hp) (Q':VK),i<m->aC H H1->(∀H3,aC H1 H3->Q' (f i) H3)->te (some (.int (lo+(i:Nat)))::eU is σ) H1 Q')
  (fin:∀H1,aC H H1->H1 D=some (.lst ((range m).map f))->Q (.ref D) H1):aU (II lo m) (gR 0:TX K).g (cT (none:Option (EX K))) te 1 is σ D H Q:=by
 refine lD WS f hD (λ_ _=>trivial) (by rw[iA];exact hz) (λi x H1 Q' hx hS q=>?_) (λH1 hS hO=>fin H1 hS (by rw[iA] at hO;exact hO));obtain ⟨hi,rfl⟩:=JV hx;exact step i H1 Q' hi hS q
theorem iS {α β:Type} (l:List α) (f:α->β) (d:β):((range l.length).map λi=>(l[i]?.map f).getD d)=l.map f:=by
 refine ext_getElem? λi=>?_;rw[getElem?_map,getElem?_map];by_cases hi:i<l.length
 ·rw[getElem?_range hi];show some ((l[i]?.map f).getD d)=l[i]?.map f;rw[List.getElem?_eq_getElem hi];rfl
 ·rw[List.getElem?_eq_none_iff.mpr (by rw[length_range];lia),List.getElem?_eq_none_iff.mpr (by lia)];rfl
theorem CG {J:It} {P:Hp->Prop} {xs:List V} (Y:Yl J P xs) {te:TE} {is:List Nat} {D:Addr} (f:V->V) (hD:H D=none) (hP:∀H1,aC H H1->P H1) (hz:xs.length<=sizeLine)
  (step:∀(i:Nat) (x:V) (H1:Hp) (Q':VK),xs[i]?=some x->aC H H1->(∀H3,aC H1 H3->Q' (f x) H3)->te (some x::eU is σ) H1 Q')
  (fin:∀H1,aC H H1->H1 D=some (.lst (xs.map f))->Q (.ref D) H1):aU J (gR 0:TX K).g (cT (none:Option (EX K))) te 1 is σ D H Q:=by
 refine lD Y (λi=>(xs[i]?.map f).getD .non) hD hP hz (λi x H1 Q' hx hS q=>?_) λH1 hS hO=>fin H1 hS (by rw[iS] at hO;exact hO);rw[hx] at q;exact step i x H1 Q' hx hS q
theorem zM {z:Str} {te:TE} {is:List Nat} {D:Addr} (f:Nat->V) (hD:H D=none) (hz:z.length<=sizeLine)
  (step:∀(i c:Nat) (H1:Hp) (Q':VK),z.cps.toList[i]?=some c->aC H H1->(∀H3,aC H1 H3->Q' (f c) H3)->te (some (sgn c)::eU is σ) H1 Q')
  (fin:∀H1,aC H H1->H1 D=some (.lst (z.cps.toList.map f))->Q (.ref D) H1):aU (Dc z) (gR 0:TX K).g (cT (none:Option (EX K))) te 1 is σ D H Q:=by
 refine lD IS (λi=>(z.cps.toList[i]?.map f).getD .non) hD (λ_ _=>trivial) (by rw[eJ];exact hz) (λi x H1 Q' hx hS q=>?_) λH1 hS hO=>fin H1 hS (by
  rw[show (jB z).length=z.cps.toList.length by rw[eJ];simp,iS] at hO;exact hO)
 unfold jB at hx;rw[getElem?_map] at hx;cases e:z.cps.toList[i]? with
 |none=>rw[e] at hx;cases hx
 |some c=>
  rw[e] at hx q;have hx':sgn c=x:=Option.some.inj hx;subst hx';exact step i c H1 Q' e hS q
theorem xO {p:Addr} {xs:List V} (hp:cZ K H p xs) (H1:Hp) (hS:aC H H1):cZ K H1 p xs:=by
 rcases hp with (h|⟨o,h⟩)|h
 ·exact .inl (.inl (hS _ _ h))
 ·exact .inl (.inr ⟨o,hS _ _ h⟩)
 ·exact .inr h
theorem NY {p:Addr} {xs:List V} {te:TE} {is:List Nat} {D:Addr} (f:V->V) (hp:aP K H p xs) (hD:H D=none) (hz:xs.length<=sizeLine)
  (step:∀(i:Nat) (x:V) (H1:Hp) (Q':VK),xs[i]?=some x->aC H H1->(∀H3,aC H1 H3->Q' (f x) H3)->te (some x::eU is σ) H1 Q')
  (fin:∀H1,aC H H1->H1 D=some (.lst (xs.map f))->Q (.ref D) H1):aU (VA K p) (gR 0:TX K).g (cT (none:Option (EX K))) te 1 is σ D H Q:=CG (dW (xs:=xs)) f hD (λH1 hS=>hS.seq hp) hz step fin
theorem UC {elt:EX K} {c:Option (EX K)} {tg:TX K} {it:IX K} {own caps:List Str} {is:List Nat} (h:it.t E σ H λJ H1=>∀D,H1 D=none->aU J tg.g (cT c) (elt.t E0) own.length is σ D H1 Q):(EI c elt tg it own caps is).t E σ H Q:=h
theorem Au {elt:EX K} {tg:TX K} {it:IX K} {own caps:List Str} {is:List Nat} (h:it.t E σ H λJ H1=>∀D,H1 D=none->aU J tg.g (cT (none:Option (EX K))) (elt.t E0) own.length is σ D H1 Q):(comp elt tg it own caps is).t E σ H Q:=h
theorem Ad {c:Kg K} (h:c.t E σ H λx H1=>D.nx (σ.set n (some x)) H1):(setC n c).t E D σ H:=h
end
noncomputable def FD (K:Fg) (x:Str) (st:Stmt):Prop:=∃(f:Addr) (fd:FuncData),De K x x st f fd/\PySem.W.nsIn K mainGlobals x=some (some (.ref f))
theorem Im {K:Fg} {x:Str} {st:Stmt} {f:Addr} {oc:Value} {od an:Option Addr} {osl:Array (Option Value)} {kV doc pm cdv ct:Value} (a:PySem.W.nsIn K mainGlobals x=some (some (.ref f)))
  (l:K.lookup f=some ⟨oc,od,.func (PySem.W.fnOf x x (cL st) (bB st) (aM st) .none kV doc pm an cdv ct),osl⟩) (c:PySem.W.codeIn K cdv x=true) (k:PySem.W.keepIn K (.ref f)=true):FD K x st:=⟨f,_,NF l c k,a⟩
noncomputable def Cq (K:Fg):List Str->Prop
 |[]=>True
 |x::xs=>PySem.W.nsIn K mainGlobals x=some none/\Cq K xs
theorem all_none {K:Fg} {h:Heap} {mg:Str->Option Value} (X:K.In h) (G:h.Ns mainGlobals mg):∀{xs:List Str},Cq K xs->∀x∈xs,mg x=none
 |[],_,_,hx=>nomatch hx
 |y::ys,z,x,hx=>by
  rcases mem_cons.mp hx with rfl|hx
  ·exact PySem.W.mg_none_of X G z.1
  ·exact all_none X G z.2 x hx
noncomputable def GC (K:Fg) (x:Str) (v:V):Prop:=∃u,PySem.W.nsIn K mainGlobals x=some (some u)/\RelV v u
theorem tB {K:Fg} {h:Heap} {mg:Str->Option Value} {P:Program} {w:World} {base:Heap} {A:Around} {x:Str} {v:V} (X:K.In h) (G:h.Ns mainGlobals mg) (c:GC K x v):Jr ⟨P,w,K,mg,base,A⟩ x v:=by
 obtain ⟨u,h1,h2⟩:=c;exact ⟨u,PySem.W.mg_of X G h1,h2⟩
theorem Ba {K:Fg} {x z:Str} {t:Tok} (h:PySem.W.nsIn K mainGlobals x=some (some (.str z t))):GC K x (.str z):=⟨_,h,t,rfl⟩
theorem Bb {K:Fg} {x:Str} {i:Int} {t:Tok} (h:PySem.W.nsIn K mainGlobals x=some (some (.int i t))):GC K x (.int i):=⟨_,h,t,rfl⟩
section
variable {K:Fg} {P:Program} {w:World} {h base:Heap} {mg:Str->Option Value} {x:Str} {st:Stmt} {N ps:List Str} {k:Nat} {sp:Sp}
theorem Iq (F:FD K x st) (X:K.In h) (G:h.Ns mainGlobals mg) (bl:∀x∈nN,mg x=none) (b:List (SX K)) (S:dZ N ps (aM st)) (hm:DN b ⟨N,(aM st).names,true⟩ (bB st)=true)
  (hb:∀(kV doc pm:Value) (an:Option Addr) (cdv ct:Value) (us:List Value),us.length=ps.length->bindArgs (PySem.W.fnOf x x (cL st) (bB st) (aM st) .none kV doc pm an cdv ct) ⟨us,[]⟩=pure (ps.zip us))
  (len:∀vs H Q E,sp vs H Q E->vs.length=ps.length) (t:∀vs H Q E,sp vs H Q E->gY b (λ_=>E) {nx:=λ_ H'=>Q .non H',rt:=Q} (start N vs) H) (hq:∀A,cI k A->IG b ⟨P,w,K,mg,base,A⟩):Co P w K mg base (k+1) x sp:=by
 obtain ⟨f,fd,F,a⟩:=F;exact ⟨f,fd,ps,CF F b S hm bl hq len t,F.binds hb,F.kp,PySem.W.mg_of X G a⟩
end
theorem Ol {Z:List Value->Prop} (h:∀a:Value,Z [a]) (us:List Value) (hl:us.length=1):Z us:=match us,hl with|[_],_=>h _
theorem Oj {Z:List Value->Prop} (h:∀a b:Value,Z [a,b]) (us:List Value) (hl:us.length=2):Z us:=match us,hl with|[_,_],_=>h _ _
theorem Oi {Z:List Value->Prop} (h:∀a b c:Value,Z [a,b,c]) (us:List Value) (hl:us.length=3):Z us:=match us,hl with|[_,_,_],_=>h _ _ _
theorem by4 {Z:List Value->Prop} (h:∀a b c d:Value,Z [a,b,c,d]) (us:List Value) (hl:us.length=4):Z us:=match us,hl with|[_,_,_,_],_=>h _ _ _ _
theorem Oh {Z:List Value->Prop} (h:∀a b c d e f:Value,Z [a,b,c,d,e,f]) (us:List Value) (hl:us.length=6):Z us:=match us,hl with|[_,_,_,_,_,_],_=>h _ _ _ _ _ _
noncomputable def clsAt (K:Fg) (x:Str):Addr:=match PySem.W.nsIn K mainGlobals x with
 |some (some (.ref C))=>C
 |_=>0
noncomputable abbrev kR:List Value:=[.type "ValueError",.type "Exception",.type "BaseException",.type "object"]
structure Cj (K:Fg) (x:Str):Prop where
 at_:PySem.W.nsIn K mainGlobals x=some (some (.ref (clsAt K x)))
 exc:PySem.W.excIn K (clsAt K x) kR "ValueError.__new__"=true
theorem UH {x:Str} {h:Heap} (k:Cj K x) (X:K.In h):∃bm N nm q bs hdct sn sub ab col dd k0 k1 k2 k3 k5 mN,h.get? (clsAt K x)=some (excClassObj nm q (clsAt K x) N bs bm hdct sn sub ab col dd k0 k1 k2 k3 k5 "ValueError.__new__")/\h.Ns N mN/\mN "__init__"=none/\OwnTail h kR bm:=by
 have q:=k.exc;generalize clsAt K x=C at q;unfold PySem.W.excIn at q;split at q
 ·rename_i dd cd sl ho;split at q
  ·rename_i C' bm k0 k1 k2 k3 n k5 hm hs;simp only [and_eq_true,beq_iff_eq,Bool.not_eq_true'] at q;obtain ⟨⟨⟨⟨⟨rfl,rfl⟩,hdel⟩,ht⟩,hok⟩,hni⟩:=q;obtain ⟨nm,bs,mro,ns,qn,hd,sn,sub,ab,col,del⟩:=cd;obtain ⟨l⟩:=sl;dsimp only at hm hs hdel hok hni;subst hm hdel hs;exact ⟨bm,ns,nm,qn,bs,hd,sn,sub,ab,col,dd,k0,k1,k2,k3,k5,_,X _ _ ho,.of_isNs (PySem.W.isNs_of_in X hok),PySem.W.nsMap_none_of_in X hok hni,PySem.W.tail_of_in X ht⟩
  ·cases q
 ·cases q
noncomputable def raiseO (x:Str) (a:EX K) (as:List (EX K)):SX K where
 t:=λE _ σ H=>fL (a::as) E σ H λvs H1=>vs.length<=sizeLine/\E σ (.ref (clsAt K x)) none H1
 m:=λC s=>match s with
  | .Raise (some (.Call (.Name y _) es [] _)) none _=>(C.cm&&rH C x y)&&jT (a::as) C es
  |_=>false
 q:=λR=>(R.mg x=some (.ref (clsAt K x))/\Cj K x)/\sQ (a::as) R
 ok:=λX C E s hK G hE hq hm=>by
  subst hK;split at hm
  ·rename_i y py es p pos;simp only [and_eq_true] at hm;obtain ⟨⟨hcm,h1⟩,h2⟩:=hm;have e:=cE h1;subst e;obtain ⟨g,d⟩:=cD G h1;obtain ⟨⟨hg,ek⟩,hqa⟩:=hq;cases es with
   |nil=>cases h2
   |cons e es=>
    intro pins s σ H D I h;have st:=aX (env:=X.env) (es:=es) (a.sok C e (aH h2).1);have pl:=bJ (env:=X.env) (pos:=p) as es (aH h2).2;obtain ⟨bm,N,nm,q,bs,hdct,sn,sub,ab,col,dd,k0,k1,k2,k3,k5,mN,hC,hN,hni,T⟩:=UH ek I.ok.mod.kin;refine wpAny_Raise_call_subT (C:=clsAt X.K y) (nm:=nm) (q:=q) (N:=N) (bs:=bs) (bm:=bm) (hdct:=hdct) (sn:=sn) (sub:=sub) (ab:=ab) (col:=col) (dd:=dd) (k0:=k0) (k1:=k1) (k2:=k2) (k3:=k3) (k5:=k5)
     PySem.F.excBase_ValueError (mN:=mN) (T.hasType PySem.F.excBase_ValueError.hasBase) (I.ok.hd (G.calm hcm)) (by rw[st];exact pl) hni (iW I g hg ⟨rfl,?_⟩ d)
    have ev:=dU G hE (a::as) (e::es) hqa h2 p pins s σ H _ I h;rw[st] at ev ⊢;refine Calls.evalArgs_plain (wpAny_mono ev (λus s1 z=>?_) λ_ _ z=>z);obtain ⟨vs,H1,I1,r1,ln,w1⟩:=z;refine ⟨rfl,by rw[<-r1.length];exact ln,I1.bk _ _ hC,hN.keeps I1.bk,T.keeps I1.bk,λh' e' mk=>?_⟩;obtain ⟨t,eo,_,_⟩:=mk.there;refine hE.made pins σ H1 H1 s1 {s1 with heap:=h'} e' _ _ I1 rfl I1.bare (Un.kept mk.keeps) (I1.hok.kept mk.keeps) mk.new ?_ eo rfl rfl w1;cases hh:H1 e' with
    |none=>rfl
    |some o=>
     obtain ⟨u,hu⟩:=oP (I1.hok e' o hh);rw[mk.new] at hu;cases hu
  ·cases hm
section
variable {X:Cx} {pins:List (Addr × Obj)} {σ:St} {H1 H':Hp} {s1 s':Shared} {B g:Heap} {e:Addr} {c fl:Value} {dx:Option Addr}
end
section
variable {X:Cx} {pins:List (Addr × Obj)} {σ:St} {H:Hp} {s:Shared} {M:Model} {A:Around} {E:Value->Shared->Prop} {Q:Unit->Shared->Prop}
end
section
variable {X:Cx} {pins pins':List (Addr × Obj)} {σ:St} {H:Hp} {s:Shared} {W:Value->Shared->Prop}
end
open PySem.W
section
variable {prog:Program} {w:World} {A:Around} {E:Value->Shared->Prop} {s:Shared} {K:Frag} {x D:Addr} {ox:Obj} {od:Option Obj} {name:Str}
end
theorem SR {KF:Fg->Prop} {l:PySem.W.OpenLaw} {q:Program} {loose:List Str} {XP:(Str->Option Value)->Heap->Prop} {YP:World->Heap->Prop} {d:DefRec} {K:Params->Fg} {st:Stmt} {N:List Str} {k:Nat} {x:Str} {sp:Fg->Sp} (hn:l.most=some 63) (hdf:d.params.defaults=[]) (hr:cI (k+1) callerA)
  (hY:∀(w:World) (h:Heap),YP w h->(K w.params).In h) (hK:∀w:World,KF (K w.params)) (hd:d.name="law") (b:∀K:Fg,List (SX K)) (S:dZ N [x] (aM st)) (hm:∀K,DN (b K) ⟨N,(aM st).names,true⟩ (bB st)=true)
  (hb:∀(kV doc pm:Value) (an:Option Addr) (cdv ct:Value) (u:Value),bindArgs (PySem.W.fnOf "law" "law" (cL st) (bB st) (aM st) .none kV doc pm an cdv ct) ⟨[u],[]⟩=pure [(x,u)])
  (len:∀K vs H Q E,sp K vs H Q E->vs.length=1) (t:∀K,KF K->∀vs H Q E,sp K vs H Q E->gY (b K) (λ_=>E) {nx:=λ_ H'=>Q .non H',rt:=Q} (start N vs) H)
  (F:∀(w:World) (h:Heap),(K w.params).In h->FD (K w.params) "law" st/\Cq (K w.params) nN)
  (hq:∀(w:World) (mg:Str->Option Value) (h base:Heap),KF (K w.params)->(K w.params).In h->h.Ns mainGlobals mg->(∀x∈nN,mg x=none)->∀A,cI k A->IG (b (K w.params)) ⟨l.prog,w,K w.params,mg,base,A⟩)
  (hsp:∀(K:Fg) (H:Hp) (a:Addr) (ns:List Int),KF K->ns.length<=63->aP K H a (ns.map V.int)->sp K [.ref a] H (λv _=>v=.bl true) λ_ _ _=>False):
  PySem.W.WalkO q loose XP YP l.row.toRowW d [] (λf vs=>PySem.call f vs):=by
 refine L2.PY (n:=63) (k:=k+1) (x:=x) (CX:=λw=>uD l.prog w) (sp:=λw=>sp (K w.params)) hn (by decide) hdf hr hY (λw mg fa h KX G hmg=>?_) (λw H a ns hl _ hS=>hsp _ H a ns (hK w) hl hS) λ_ _ _ _ _ z=>uD.no z;obtain ⟨⟨f,fd,Fn,a⟩,bl⟩:=F w h KX;rw[hd] at hmg;have e:=hmg.symm.trans (PySem.W.mg_of KX G a);cases e;refine ⟨fd,λs u=>?_,λbase _ _=>?_⟩
 ·obtain ⟨oc,od,kV,doc,pm,an,cdv,ct,osl,rfl,lk,hcd⟩:=Fn.ex;exact .of_eq (hb kV doc pm an cdv ct u)
 ·exact CF Fn (b (K w.params)) S (hm _) (all_none KX G bl) (hq w mg h base (hK w) KX G (all_none KX G bl)) (λvs H Q E z=>len _ vs H Q E z) (t _ (hK w))
section
variable {prog:Program} {w:World} {A:Around} {E:Value->Shared->Prop} {h:Heap} {g:Array GenState} {d:Drawn} {t:Nat} {os:OsState}
variable {nm q:Str} {C N:Addr} {bs bm bmB:List Value} {hdct:Bool} {sn:List Str} {sub:List Value} {ab:Bool} {col:Option Bool} {dd:Option Addr} {k0 k1 k2 k3 k5:Option Value} {B newId initId:String}
theorem nI (F:ExcBaseFacts B newId initId bmB) (T:OwnTail h bmB bm) {mN:Str->Option Value} {rest:List Value} {fI:Addr} {oI:Obj} {Q:Fin->Shared->Prop}
  (hC:h.get? C=some (excClassObj nm q C N bs bm hdct sn sub ab col dd k0 k1 k2 k3 k5 newId)) (hn:h.Ns N mN) (hi:mN "__init__"=some (.ref fI)) (hfI:h.get? fI=some oI) (hfc:oI.cls=.type "function")
  (hq:∀h' e,Heap.MadeExcOf h h' e (.ref C) rest->wpAny (model prog w) A (PySem.call (.ref fI) (.ref e::rest)) (λr s'=>r=.none/\Q (.done (.ret (.ref e))) s') E ⟨h',g,d,t,os⟩) (hrest:rest.length<=sizeLine):
  wpAny (model prog w) A (Builtin.«type.__call__» ⟨.ref C::rest,[]⟩) Q E ⟨h,g,d,t,os⟩:=by
 repeat (first|with_reducible refine wpAny_loadPart_at hC ?_|with_reducible refine wpAny_madeBy_exc hC ?_|wp_step)
 refine codeAny_call_builtin_code (Code.quiet_builtin _ F.quiet) (wpAny_check_new_subT F T hC ?_);refine codeAny_exc_new_subT F T hC ?_ hrest;show wpAny _ _ _ _ _ _;have kp:∀b o,h.get? b=some o->((h.push {cls:=.type "tuple",data:=.seq rest.toArray}).push {cls:=.ref C,data:=.fields #[.ref h.objs.size,.none,.none,.none,.bool false,.none]}).get? b=some o:=λb o e=>get?_push_of_some _ (get?_push_of_some _ e);have hget:((h.push {cls:=.type "tuple",data:=.seq rest.toArray}).push {cls:=.ref C,data:=.fields #[.ref h.objs.size,.none,.none,.none,.bool false,.none]}).get? (h.objs.size+1)=some ({cls:=.ref C,data:=.fields #[.ref h.objs.size,.none,.none,.none,.bool false,.none]}:Obj):=by heap_get
 have hcC:(Value.ref C::bm).contains (.ref C)=true:=by simp
 have au:=kp _ _ hC;unfold isInstance
 repeat (first|with_reducible refine wpAny_loadPart_at hget ?_|(with_reducible refine wpAny_isSubtype_exc au ?_;rw[hcC])|wp_step)
 show wpAny _ _ (typeLookup (.ref C) _) _ _ _;refine wpAny_typeLookup_tail au (hn.keeps kp) (T.keeps kp) F.mroIs F.init.lookup ?_;rw[hi];refine wpAny_holding (wpAny_bind ?_);unfold bindSpecial;refine wpAny_bind (wpAny_typeOf (T:="function") ⟨_,kp _ _ hfI,hfc⟩ ?_);rw[if_pos (by decide)];refine wpAny_pure (wpAny_bind (wpAny_mono (hq _ (h.objs.size+1) ⟨kp,Heap.get?_none_of_le (le_succ _),h.objs.size,hget,Heap.get?_none_of_le (Nat.le_refl _),?_⟩) (λr s' hr=>?_) λ_ _ x=>x))
 ·exact get?_push_of_some _ (Heap.get?_push_at rfl rfl)
 ·obtain ⟨rfl,hQ⟩:=hr
  wp_walk
  exact hQ
theorem CJ (F:ExcBaseFacts B newId initId bmB) (T:OwnTail h bmB bm) {mN:Str->Option Value} {rest:List Value} {fI:Addr} {oI:Obj} {Q:Value->Shared->Prop}
  (hC:h.get? C=some (excClassObj nm q C N bs bm hdct sn sub ab col dd k0 k1 k2 k3 k5 newId)) (hn:h.Ns N mN) (hi:mN "__init__"=some (.ref fI)) (hfI:h.get? fI=some oI) (hfc:oI.cls=.type "function")
  (hq:∀h' e,Heap.MadeExcOf h h' e (.ref C) rest->
   wpAny (model prog w) (A.under (.builtin "type.__call__" ⟨.ref C::rest,[]⟩)) (PySem.call (.ref fI) (.ref e::rest)) (λr s'=>r=.none/\Q (.ref e) s') E ⟨h',g,d,t,os⟩) (hrest:rest.length<=sizeLine):
  wpAny (model prog w) A (PySem.call (.ref C) rest) Q E ⟨h,g,d,t,os⟩:=by
 have f1:=tc_lookup;have f2:=tc_bind (.ref C);have hT:(⟨h,g,d,t,os⟩:Shared).TypeIs (.ref C) "type":=⟨_,hC,rfl⟩;refine wpAny_call (codeAny_of_tree ?_);show wpAny _ _ (callAny (.ref C) _) _ _ _
 repeat (any_goals (first|assumption|with_reducible refine wpAny_loadPart_at hC ?_|wp_step))
 refine ⟨rfl,?_⟩;refine codeAny_call_builtin_at (Code.quiet_builtin _ (by decide+kernel)) entry_typeCall (wpAny_check_type_call_sub hC (nI (hrest:=hrest) F T hC hn hi hfI hfc λh' e hm=>?_));exact hq h' e hm
end
section
variable {prog:Program} {w:World} {A:Around} {E:Value->Shared->Prop} {s:Shared} {env:Env}
variable {nm q:Str} {C N:Addr} {bs bm bmB:List Value} {hdct:Bool} {sn:List Str} {sub:List Value} {ab:Bool} {col:Option Bool} {dd:Option Addr} {k0 k1 k2 k3 k5:Option Value} {B newId initId:String}
theorem eK {M:Model} {A:Around} {E:Value->Shared->Prop} {x:Sem Value} {Q:Flow->Shared->Prop} (hbase:bm.contains (.type "BaseException")=true) (hh:A.handled=none)
  (h:wpAny M A x (λv aa=>∃e oe,v=.ref e/\aa.heap.get? C=some (excClassObj nm q C N bs bm hdct sn sub ab col dd k0 k1 k2 k3 k5 newId)/\aa.heap.get? e=some oe/\oe.cls=.ref C/\(∃vs,oe.data=.fields vs/\vs[1]?=some .none)/\E (.ref e) aa) E s):
  wpAny M A (raiseStmt env (some x) none) Q E s:=by
 have hcB:(Value.ref C::bm).contains (.type "BaseException")=true:=by rw[List.contains_cons,hbase,Bool.or_true]
 unfold raiseStmt;refine wpAny_bind (wpAny_mono h (λv aa ae=>?_) λ_ _ x=>x);obtain ⟨e,⟨oc,od,odt,osl⟩,rfl,hC,he,hc,⟨vs,hv,v1⟩,hE⟩:=ae;dsimp only at hc hv;subst hc hv;obtain ⟨hp,g,d,tk,os⟩:=aa
 repeat (first|with_reducible refine wpAny_loadPart_at he ?_|with_reducible refine wpAny_loadPart_at hC ?_|(with_reducible refine wpAny_isSubtype_exc hC ?_;rw[hcB])|wp_step)
 rw[v1];refine wpAny_pure ?_;rw[if_neg (show ¬((Value.none != Value.none)=true) by decide)];exact wpAny_pure (wpAny_raiseNew_none hh hE)
theorem yA (F:ExcBaseFacts B newId initId bmB) {mN:Str->Option Value} {x:Str} {np cpos pos:Pos} {args:List Expr} {Q:Flow->Shared->Prop} {fI:Addr}
  (hbase:bm.contains (.type "BaseException")=true) (hh:A.handled=none) (hplain:(backTo cpos (starEach args env)).any (·.1)=false) (hi:mN "__init__"=some (.ref fI))
  (h:wpAny (model prog w) A (eval (.Name x np) env) (λf aa=>f=.ref C/\wpAny (model prog w) A (evalArgs (.ref C) true (backTo cpos (starEach args env)) [])
   (λa ah=>a.kw=[]/\a.pos.length<=sizeLine/\ah.heap.get? C=some (excClassObj nm q C N bs bm hdct sn sub ab col dd k0 k1 k2 k3 k5 newId)/\ah.heap.Ns N mN/\OwnTail ah.heap bmB bm/\(∃oI,ah.heap.get? fI=some oI/\oI.cls=.type "function")/\
    ∀h' e,Heap.MadeExcOf ah.heap h' e (.ref C) a.pos->wpAny (model prog w) (A.under (.builtin "type.__call__" ⟨.ref C::a.pos,[]⟩)) (PySem.call (.ref fI) (.ref e::a.pos)) (λr s'=>r=.none/\s'.heap.get? C=some (excClassObj nm q C N bs bm hdct sn sub ab col dd k0 k1 k2 k3 k5 newId)/\
     (∃oe vs,s'.heap.get? e=some oe/\oe.cls=.ref C/\oe.data=.fields vs/\vs[1]?=some .none)/\E (.ref e) s') E {ah with heap:=h'}) E aa) E s):
  wpAny (model prog w) A (exec (.Raise (some (.Call (.Name x np) args [] cpos)) none pos) env) Q E s:=by
 rw[arm_exec_Raise]
 first
  |refine wpAny_bind (wpAny_standAt (eK (C:=C) (nm:=nm) (q:=q) (N:=N) (bs:=bs) (bm:=bm) (hdct:=hdct) (sn:=sn) (sub:=sub) (ab:=ab) (col:=col) (dd:=dd) (k0:=k0) (k1:=k1) (k2:=k2) (k3:=k3) (k5:=k5) (newId:=newId) hbase hh (wpAny_bind (wpAny_mono (wpAny_Call_ofName (wpAny_mono h (λf aa ae=>?_) λ_ _ x=>x)) (λv bh ai=>wpAny_bind (wpAny_standAt (wpAny_pure ai))) λ_ _ x=>x))))
  | (simp only [evalOpt,Option.map];refine wpAny_bind (wpAny_standAt (eK (C:=C) (nm:=nm) (q:=q) (N:=N) (bs:=bs) (bm:=bm) (hdct:=hdct) (sn:=sn) (sub:=sub) (ab:=ab) (col:=col) (dd:=dd) (k0:=k0) (k1:=k1) (k2:=k2) (k3:=k3) (k5:=k5) (newId:=newId) hbase hh (wpAny_bind (wpAny_mono (wpAny_Call_ofName (wpAny_mono h (λf aa ae=>?_) λ_ _ x=>x)) (λv bh ai=>wpAny_bind (wpAny_standAt (wpAny_pure ai))) λ_ _ x=>x)))))
  | (refine wpAny_bind (wpAny_standAt (eK (C:=C) (nm:=nm) (q:=q) (N:=N) (bs:=bs) (bm:=bm) (hdct:=hdct) (sn:=sn) (sub:=sub) (ab:=ab) (col:=col) (dd:=dd) (k0:=k0) (k1:=k1) (k2:=k2) (k3:=k3) (k5:=k5) (newId:=newId) hbase hh ?_));refine wpAny_bind (wpAny_mono (wpAny_Call_ofName (wpAny_mono h (λf aa ae=>?_) λ_ _ x=>x)) (λv bh ai=>wpAny_bind (wpAny_standAt (wpAny_pure ai))) λ_ _ x=>x))
 obtain ⟨rfl,ae⟩:=ae;unfold callWith;refine wpAny_bind (wpAny_holding (wpAny_mono ae (λa ah ak=>wpAny_bind (wpAny_standAt ?_)) λ_ _ x=>x));obtain ⟨apos,akw⟩:=a;obtain ⟨hkw,hlen,hC,hn,T,⟨oI,hfI,hfc⟩,ak⟩:=ak;obtain rfl:akw=[]:=hkw;obtain ⟨hp,g,d,tk,os⟩:=ah;simp only [hplain];refine wpAny_bind (wpAny_keeperOf_exc hC ?_);refine wpAny_bind (CJ (hrest:=hlen) F T hC hn hi hfI hfc λh' e hm=>wpAny_mono (ak h' e hm) (λr s' z=>⟨z.1,wpAny_bind (wpAny_holding (wpAny_point (wpAny_pure ?_)))⟩) λ_ _ z=>z);obtain ⟨_,z1,⟨oe,vs,z2,z3,z4,z6⟩,z5⟩:=z;exact ⟨e,oe,rfl,z1,z2,z3,⟨vs,z4,z6⟩,z5⟩
end
open Builtin Builtin.ObjectAttr
section
variable {prog:Program} {w:World} {A:Around} {E:Value->Shared->Prop} {h:Heap} {g:Array GenState} {d:Drawn} {t:Nat} {os:OsState} {K:Fg}
variable {nm q:Str} {C N e:Addr} {bs bm:List Value} {sn:List Str} {sub:List Value} {ab:Bool} {col:Option Bool} {dd:Option Addr} {k0 k1 k2 k3 k5:Option Value} {newId:String} {fld:Str} {v:Value} {oe:Obj}
theorem xX (self:Value) {tl:List Value} (T:OwnTail h kR tl):refuseLoop self "__setattr__" tl=pure ():=by
 induction T with
 |base=>exact F.store_ValueError.passes self
 |own _ _ _ _ ih=>rw[refuseLoop_ref];exact ih
theorem DO {M:Model} {c:Value} {n:Str} {r:Option Value} {Q:Option Value->Shared->Prop} (X:K.In h) (e:PySem.W.findIn K c n=some r) (hq:Q r ⟨h,g,d,t,os⟩):wpAny M A (typeLookup c n) Q E ⟨h,g,d,t,os⟩:=
 PySem.W.looks_findIn X e _ _ _ _ (λ_ _ z=>z) hq
theorem HW {M:Model} {nameV:Value} {Q:Unit->Shared->Prop} (hC:h.get? C=some (excClassObj nm q C N bs bm true sn sub ab col dd k0 k1 k2 k3 k5 newId)) (T:OwnTail h kR bm)
  (he:h.get? e=some oe) (hc:oe.cls=.ref C) (hq:Q () ⟨h,g,d,t,os⟩):wpAny M A (checkBuiltinCall "object.__setattr__" ⟨[.ref e,nameV,v],[]⟩) Q E ⟨h,g,d,t,os⟩:=by
 have SF:=F.store_ValueError;have hcB:(Value.ref C::bm).contains (.type "object")=true:=by rw[List.contains_cons,T.hasType SF.hasOwner,Bool.or_true]
 have ha:=SF.args (.ref e) nameV v;simp only [checkBuiltinCall,SF.kind,SF.split];refine wpAny_bind ?_;unfold isInstance
 repeat (first|(with_reducible refine wpAny_loadPart_at he ?_;rw[hc])|(with_reducible refine wpAny_isSubtype_exc hC ?_;rw[hcB])|wp_step)
 first
  |exact hq
  |cases hsig:Manifest.signature? "object.__setattr__" with
   |none=>exact wpAny_pure hq
   |some sig=>
    simp only [argsOk,hsig] at ha;have h2:Bind.checkArgs "object.__setattr__" sig ⟨[.ref e,nameV,v],[]⟩=pure ():=ha;show wpAny M A (Bind.checkArgs "object.__setattr__" sig ⟨[.ref e,nameV,v],[]⟩) Q E _;rw[h2];exact wpAny_pure hq
theorem HK {tk:Tok} {Q:PySem.Fin->Shared->Prop} (X:K.In h) (hC:h.get? C=some (excClassObj nm q C N bs bm true sn sub ab col dd k0 k1 k2 k3 k5 newId)) (T:OwnTail h kR bm)
  (hfl:PySem.W.findIn K (.ref C) fld=some none) (he:h.get? e=some oe) (hc:oe.cls=.ref C) (hdn:oe.dict=none) (hnc:∀c,oe.data≠.cls c)
  (hq:∀h' tk' dx,(∀b o,b≠e->h.get? b=some o->h'.get? b=some o)->h.get? dx=none->dx≠e->h'.get? e=some {cls:=oe.cls,dict:=some dx,data:=oe.data,slots:=oe.slots}->
   h'.Ns1 dx (λy=>if y=fld then some v else none)->Q (.done (.ret .none)) ⟨h',g,d,tk',os⟩):
  wpAny (model prog w) A (Builtin.«object.__setattr__» ⟨[.ref e,.str fld tk,v],[]⟩) Q E ⟨h,g,d,t,os⟩:=by
 have hpass:=xX (.ref e) T;unfold Builtin.«object.__setattr__»
 repeat (first|rw[refuse_eq]|(rw[refuseLoop_ref,hpass])|(with_reducible refine wpAny_loadPart_at he ?_;rw[hc])|with_reducible refine wpAny_mroOf_exc hC ?_|(with_reducible refine DO X hfl ?_)|wp_step)
 rw[hdn,if_neg (by simp [typeHasDict])];split
 ·rename_i hcd;cases hcd
 split
 ·rename_i c hcd;exact absurd hcd (hnc c)
 ·have ay:(h.push {cls:=.type "dict",data:=.dict #[]}).get? e=some oe:=get?_push_of_some _ he;have hxs:e≠h.objs.size:=ne_of_lt (lt_size he);refine wpAny_bind (wpAny_alloc' ?_);refine wpAny_bind (wpAny_update' ay ?_);refine wpAny_pure ?_;have hgd:((h.push {cls:=.type "dict",data:=.dict #[]}).update e λo=>{cls:=o.cls,dict:=some h.objs.size,data:=o.data,slots:=o.slots}).get? h.objs.size
    =some ({cls:=.type "dict",data:=.dict #[]}:Obj):=(Heap.get?_update_ne _ _ _ _ hxs.symm).trans (Heap.get?_push_at rfl rfl)
  have hnd:((h.push {cls:=.type "dict",data:=.dict #[]}).update e λo=>{cls:=o.cls,dict:=some h.objs.size,data:=o.data,slots:=o.slots}).Ns h.objs.size (λ_=>none):=
   ⟨_,#[],_,hgd,rfl,λe he=>absurd he (by simp),λ_=>rfl⟩
  show wpAny _ _ (storeInDict h.objs.size (.str fld tk) fld v) _ _ _;unfold storeInDict newKeyGuard;refine wpAny_bind (wpAny_pure (wpAny_bind (wpAny_nsSet1 (Heap.Ns1.of_empty hnd) λh' hn' hs=>?_)));obtain ⟨oD,esD,epD,hoD,hdD,hcD⟩:=hn'.count (Within.cons fld v Within.nil);refine wpAny_bind (wpAny_lookBehind hoD (by rw[hdD];exact pastItsLine_dict (le_trans hcD (by rw[length_cons,length_nil,sizeLine_eq];lia))) ?_)
  wp_walk
  refine hq h' _ h.objs.size (λb ob hbx hb=>?_) (Heap.get?_none_of_le (Nat.le_refl _)) hxs.symm ?_ hn'
  ·exact (hs.2 b (ne_of_lt (lt_size hb))).trans ((Heap.get?_update_ne _ _ _ _ hbx).trans (get?_push_of_some _ hb))
  ·refine (hs.2 e hxs).trans (get?_update_self _ ay ?_);have hfr:=(Heap.get?_some_iff.mp he).2;obtain ⟨oc,od,odt,osl⟩:=oe;cases odt<;>first|rfl|exact hfr
theorem FP {Q:Unit->Shared->Prop} (X:K.In h) (hC:h.get? C=some (excClassObj nm q C N bs bm true sn sub ab col dd k0 k1 k2 k3 k5 newId)) (T:OwnTail h kR bm)
  (hsa:PySem.W.findIn K (.ref C) "__setattr__"=some (some (.builtin "object.__setattr__"))) (hfl:PySem.W.findIn K (.ref C) fld=some none)
  (he:h.get? e=some oe) (hc:oe.cls=.ref C) (hdn:oe.dict=none) (hnc:∀c,oe.data≠.cls c)
  (hq:∀h' tk' dx,(∀b o,b≠e->h.get? b=some o->h'.get? b=some o)->h.get? dx=none->dx≠e->h'.get? e=some {cls:=oe.cls,dict:=some dx,data:=oe.data,slots:=oe.slots}->
   h'.Ns1 dx (λy=>if y=fld then some v else none)->Q () ⟨h',g,d,tk',os⟩):
  wpAny (model prog w) A (setAttr (.ref e) fld v) Q E ⟨h,g,d,t,os⟩:=by
 have SF:=F.store_ValueError;have f3:=SF.slot.bind (.ref e);unfold setAttr callSpecial? specialOf
 repeat (any_goals (first|assumption|(with_reducible refine wpAny_loadPart_at he ?_;rw[hc])|(with_reducible refine DO X hsa ?_)|wp_step))
 refine codeAny_call_builtin SF.slot.plain SF.entry (HW hC T he hc (HK X hC T hfl he hc hdn hnc λh' tk' dx q1 q2 q3 q4 q5=>?_))
 repeat (any_goals (first|assumption|wp_step))
 exact hq h' tk' dx q1 q2 q3 q4 q5
end
noncomputable def PD (K:Fg) (f:Addr) (slf prm fld:Str):Prop:=
 ∃(name qual:Str) (params:Arguments) (scope:Scope) (dV kV doc pm cdv ct:Value) (an od:Option Addr) (osl:Array (Option Value)) (p1 p2 p3 p4:Pos),
  K.lookup f=some ⟨.type "function",od,.func (PySem.W.fnOf name qual params [.Assign [.Attribute (.Name slf p1) fld p2] (.Name prm p3) p4] scope dV kV doc pm an cdv ct),osl⟩/\PySem.W.codeIn K cdv qual=true/\
  (scope.kind=.function/\scope.isCoroutine=false/\scope.isGenerator=false)/\(scope.names.lookup slf=some .local/\scope.names.lookup prm=some .local)/\((slf==("__debug__":Str))=false/\(prm==("__debug__":Str))=false/\slf≠prm)/\
  ∀(s:Shared) (u v:Value),K.In s.heap->PySem.BindsTo s (PySem.W.fnOf name qual params [.Assign [.Attribute (.Name slf p1) fld p2] (.Name prm p3) p4] scope dV kV doc pm an cdv ct) ⟨[u,v],[]⟩ [(slf,u),(prm,v)]
section
variable {prog:Program} {w:World} {A:Around} {E:Value->Shared->Prop} {s:Shared} {K:Fg}
variable {nm q:Str} {C N e f:Addr} {bs bm:List Value} {sn:List Str} {sub:List Value} {ab:Bool} {col:Option Bool} {dd:Option Addr} {k0 k1 k2 k3 k5:Option Value} {newId:String} {slf prm fld:Str} {v:Value} {oe:Obj}
theorem MG {Q:Value->Shared->Prop} (X:K.In s.heap) (I:PD K f slf prm fld) (hlim:s.heap.NoLimit) (hroom:A.depth<recursionLimit)
  (hC:s.heap.get? C=some (excClassObj nm q C N bs bm true sn sub ab col dd k0 k1 k2 k3 k5 newId)) (T:OwnTail s.heap kR bm)
  (hsa:PySem.W.findIn K (.ref C) "__setattr__"=some (some (.builtin "object.__setattr__"))) (hfl:PySem.W.findIn K (.ref C) fld=some none)
  (he:s.heap.get? e=some oe) (hc:oe.cls=.ref C) (hdn:oe.dict=none) (hnc:∀c,oe.data≠.cls c)
  (hq:∀h' tk' dx,(∀b o,b≠e->s.heap.get? b=some o->h'.get? b=some o)->s.heap.get? dx=none->dx≠e->h'.get? e=some {cls:=oe.cls,dict:=some dx,data:=oe.data,slots:=oe.slots}->
   h'.Ns1 dx (λy=>if y=fld then some v else none)->Q .none {s with heap:=h',toks:=tk'}):
  wpAny (model prog w) A (PySem.call (.ref f) [.ref e,v]) Q E s:=by
 obtain ⟨name,qual,params,scope,dV,kV,doc,pm,cdv,ct,an,od,osl,p1,p2,p3,p4,ho,hcd,⟨hk,hco,hgen⟩,⟨l1,l2⟩,⟨d1,d2,ne⟩,hb⟩:=I;refine wpAny_call (Att.UQ X hlim ho hcd hroom (hb s (.ref e) v X) ?_ (λaa x=>?_) hco hgen hk)
 ·simp [l1,l2]
 have k1:(envOfC qual scope s.heap.objs.size f cdv).kindOf slf=some .local:=l1;have k2:(envOfC qual scope s.heap.objs.size f cdv).kindOf prm=some .local:=l2;have m1:bindL (envOfC qual scope s.heap.objs.size f cdv).kindOf [(slf,.ref e),(prm,v)] (λ_=>none) slf=some (.ref e):=by simp [bindL,k1,k2,ne]
 have m2:bindL (envOfC qual scope s.heap.objs.size f cdv).kindOf [(slf,.ref e),(prm,v)] (λ_=>none) prm=some v:=by simp [bindL,k1,k2]
 refine wpAny_execs_cons (plainObj_wpAny_Assign_Attribute (NameLC (s₀:=s) (env:=envOfC qual scope s.heap.objs.size f cdv) x hk k2 m2 (NameLC (s₀:=s) (env:=envOfC qual scope s.heap.objs.size f cdv) x hk k1 m1 ?_ d1) d2) rfl);obtain ⟨ae,tk,rfl,kp⟩:=x.done;have kp':∀b o,s.heap.get? b=some o->ae.get? b=some o:=kp;obtain ⟨h0,g,dr,t0,os⟩:=s;refine FP (X.keeps kp') (kp' _ _ hC) (T.keeps kp') hsa hfl (kp' _ _ he) hc hdn hnc λh' tk' dx q1 q2 q3 q4 q5=>wpAny_execs_nil ?_;exact hq h' tk' dx (λb o hb eo=>q1 b o hb (kp' b o eo)) (by
  cases z:h0.get? dx with
  |none=>rfl
  |some o=>rw[kp' _ _ z] at q2;cases q2) q3 q4 q5
end
noncomputable def Bh (K:Fg) (C f:Addr):Bool:=match K.lookup C with
 |some ⟨.type "type",_,.cls cd,sl⟩=>(match cd.mro,sl.toList with
  | .ref C'::bm,[_,_,_,_,some (.builtin n),_]=>C'==C&&n=="ValueError.__new__"&&!cd.hasDel&&PySem.W.tailIn K kR bm&&PySem.W.nsOkIn K cd.ns&&(PySem.W.nsIn K cd.ns "__init__"==some (some (.ref f))&&cd.hasDict)
  |_,_=>false)
 |_=>false
noncomputable def yR (K:Fg) (x:Str):Addr:=match PySem.W.findIn K (.ref (clsAt K x)) "__init__" with
 |some (some (.ref f))=>f
 |_=>0
structure Ci (K:Fg) (x slf prm fld:Str):Prop where
 at_:PySem.W.nsIn K mainGlobals x=some (some (.ref (clsAt K x)))
 exc:Bh K (clsAt K x) (yR K x)=true
 sa:PySem.W.findIn K (.ref (clsAt K x)) "__setattr__"=some (some (.builtin "object.__setattr__"))
 fl:PySem.W.findIn K (.ref (clsAt K x)) fld=some none
 fn:PD K (yR K x) slf prm fld
theorem BE {h:Heap} {N:Addr} {mg:Str->Option Value} {n:Str} {v:Value} (X:K.In h) (G:h.Ns N mg) (e:PySem.W.nsIn K N n=some (some v)):mg n=some v:=by
 obtain ⟨o,es,ep,ho,hd,_,hf⟩:=G;unfold PySem.W.nsIn at e;split at e
 ·rename_i c d es' n' sl q;have z:=X _ _ q;rw[ho] at z;cases z;cases hd;split at e
  ·rename_i en he;cases e;rw[<-hf];unfold nsFind findBy;rw[<-Array.find?_toList,he];rfl
  ·split at e<;>cases e
 ·cases e
theorem TF {C f:Addr} {h:Heap} (q:Bh K C f=true) (X:K.In h):∃bm N nm q bs sn sub ab col dd k0 k1 k2 k3 k5 mN,h.get? C=some (excClassObj nm q C N bs bm true sn sub ab col dd k0 k1 k2 k3 k5 "ValueError.__new__")/\h.Ns N mN/\mN "__init__"=some (.ref f)/\OwnTail h kR bm:=by
 unfold Bh at q;split at q
 ·rename_i dd cd sl ho;split at q
  ·rename_i C' bm k0 k1 k2 k3 n k5 hm hs;simp only [and_eq_true,beq_iff_eq,Bool.not_eq_true'] at q;obtain ⟨⟨⟨⟨⟨rfl,rfl⟩,hdel⟩,ht⟩,hok⟩,hni,hhd⟩:=q;obtain ⟨nm,bs,mro,ns,qn,hd,sn,sub,ab,col,del⟩:=cd;obtain ⟨l⟩:=sl;dsimp only at hm hs hdel hok hni hhd;subst hm hdel hs hhd;exact ⟨bm,ns,nm,qn,bs,sn,sub,ab,col,dd,k0,k1,k2,k3,k5,_,X _ _ ho,.of_isNs (PySem.W.isNs_of_in X hok),BE X (.of_isNs (PySem.W.isNs_of_in X hok)) hni,PySem.W.tail_of_in X ht⟩
  ·cases q
 ·cases q
theorem Un.laid' {fs ex:List Addr} {H:Hp} {h h':Heap} {a:Addr} {o:HO} (k:∀b u,h.get? b=some u->h'.get? b=some u) (hp:h.get? a=none) (hn:H a=none):Un fs ex H (upd H a o) h h' where
 keep:=λb u q _ _ _=>k b u q
 slot:=λb u q _ _ _=>⟨u.slots,k b u q⟩
 free:=λb u q n _=>by rw[aF (λz=>by rw[z,hp] at q;cases q)];exact n
 there:=λb u q _=>⟨u,k b u q⟩
 tups:=λb xs q=>by rw[aF (aB q hn)];exact q
 frzs:=λb u xs q=>by rw[aF (aB q hn)];exact q
 tbls:=λb ps q=>⟨#[],by rw[aF (aB q hn),q];simp⟩
theorem eE.none_of {P:Program} {w:World} {H:Hp} {h:Heap} {a:Addr} (x:eE P w H h) (e:h.get? a=none):H a=none:=by
 cases q:H a with
 |none=>rfl
 |some o=>
  obtain ⟨u,hu⟩:=oP (x a o q);rw[e] at hu;cases hu
theorem eE.laid' {P:Program} {w:World} {H:Hp} {h h':Heap} {a:Addr} {o:HO} (x:eE P w H h) (k:∀b u,h.get? b=some u->h'.get? b=some u) (hn:H a=none) (new:aZ P w (upd H a o) h' a o):eE P w (upd H a o) h':=λb u e=>by
 by_cases hb:b=a
 ·subst hb;rw[aA] at e;cases e;exact new
 ·rw[aF hb] at e;exact (x b u e).stay (λc v _ q=>k c v q) (λc q=>by rw[aF (aB q hn)];exact q) λc xs q=>by rw[aF (aB q hn)];exact q
noncomputable def one (P:V->Hp->Prop):List V->Hp->Prop
 |[v],H=>P v H
 |_,_=>False
theorem ZK {P:V->Hp->Prop} {vs:List V} {H:Hp} (h:one P vs H):∃v,vs=[v]/\P v H:=by
 cases vs with
 |nil=>exact h.elim
 |cons x xs=>
  cases xs with
  |nil=>exact ⟨x,rfl,h⟩
  |cons _ _=>exact h.elim
noncomputable def AY (x slf prm fld:Str) (a:EX K):SX K where
 t:=λE _ σ H=>a.t E σ H λv H1=>∀dx,H1 dx=none->E σ (.ref (clsAt K x)) (some dx) (upd H1 dx (.xd [(fld,v)]))
 m:=λC s=>match s with
  | .Raise (some (.Call (.Name y _) es [] _)) none _=>(C.cm&&rH C x y)&&jT [a] C es
  |_=>false
 q:=λR=>(R.mg x=some (.ref (clsAt K x))/\Ci K x slf prm fld/\∃k,cI k R.A)/\a.q R
 ok:=λX C E s hK G hE hq hm=>by
  subst hK;split at hm
  ·rename_i y py es p pos;simp only [and_eq_true] at hm;obtain ⟨⟨hcm,h1⟩,h2⟩:=hm;have e:=cE h1;subst e;obtain ⟨g,d⟩:=cD G h1;obtain ⟨⟨hg,ek,kk,rm⟩,hqa⟩:=hq;cases es with
   |nil=>cases h2
   |cons e es=>
    intro pins s σ H D I h;have st:=aX (env:=X.env) (es:=es) (a.sok C e (aH h2).1);have pl:=bJ (env:=X.env) (pos:=p) [] es (aH h2).2;obtain ⟨bm,N,nm,q,bs,sn,sub,ab,col,dd,k0,k1,k2,k3,k5,mN,hC,hN,hi,T⟩:=TF ek.exc I.ok.mod.kin;refine yA (C:=clsAt X.K y) (nm:=nm) (q:=q) (N:=N) (bs:=bs) (bm:=bm) (hdct:=true) (sn:=sn) (sub:=sub) (ab:=ab) (col:=col) (dd:=dd) (k0:=k0) (k1:=k1) (k2:=k2) (k3:=k3) (k5:=k5)
     PySem.F.excBase_ValueError (mN:=mN) (T.hasType PySem.F.excBase_ValueError.hasBase) (I.ok.hd (G.calm hcm)) (by rw[st];exact pl) hi (iW I g hg ⟨rfl,?_⟩ d)
    have ev:=dU G hE [a] (e::es) (show sQ [a] (dX X) from ⟨hqa,trivial⟩) h2 p pins s σ H (one λv H1=>∀dx,H1 dx=none->E σ (.ref (clsAt X.K y)) (some dx) (upd H1 dx (.xd [(fld,v)]))) I h;rw[st] at ev ⊢;refine Calls.evalArgs_plain (wpAny_mono ev (λus s1 z=>?_) λ_ _ z=>z);obtain ⟨vs,H1,I1,r1,w1⟩:=z;obtain ⟨v,rfl,w1⟩:=ZK w1;obtain ⟨u,rfl,r2⟩:=r1.one;obtain ⟨name,qual,params,scope,dV,kV,doc,pm,cdv,ct,an,od,osl,p1,p2,p3,p4,ho,_⟩:=ek.fn;refine ⟨rfl,by simp [sizeLine_eq],I1.bk _ _ hC,hN.keeps I1.bk,T.keeps I1.bk,⟨_,I1.kIn _ _ ho,rfl⟩,λh' e' mk=>?_⟩;obtain ⟨t,eo,_,_⟩:=mk.there;have kp:∀b o,s1.heap.get? b=some o->h'.get? b=some o:=mk.keeps;refine MG (s:={s1 with heap:=h'}) (I1.kIn.keeps kp) ek.fn (I1.nolimit.keeps kp) ?_ (kp _ _ (I1.bk _ _ hC)) ((T.keeps I1.bk).keeps kp) ek.sa ek.fl eo rfl rfl (λc z=>by cases z) λh2 tk dx q1 q2 q3 q4 q5=>?_
    ·rw[pP];have z:X.A.depth+3 * kk+5<recursionLimit:=rm.dp;lia
    have q1':∀b o,s1.heap.get? b=some o->h2.get? b=some o:=λb o z=>q1 b o (λy=>by rw[y,mk.new] at z;cases z) (kp b o z);have n1:s1.heap.get? dx=none:=by
     cases z:s1.heap.get? dx with
     |none=>rfl
     |some o=>rw[kp _ _ z] at q2;cases q2
    have n2:=eE.none_of I1.hok n1;refine ⟨rfl,q1' _ _ (I1.bk _ _ hC),⟨_,_,q4,rfl,rfl,rfl⟩,?_⟩;refine hE.made pins σ H1 _ s1 {s1 with heap:=h2,toks:=tk} e' _ _ I1 rfl I1.bare (Un.laid' q1' n1 n2) (eE.laid' I1.hok q1' n2 ?_) mk.new ?_ q4 rfl rfl (w1 dx n2)
    ·refine ⟨_,q5,λf=>?_⟩;by_cases hf:f=fld
     ·subst hf;simp [iQ];exact r2
     ·have hb:(f==fld)=false:=beq_eq_false_iff_ne.mpr hf;simp [hb,hf,iQ,List.lookup]
    ·rw[aF q3.symm];exact eE.none_of I1.hok mk.new
  ·cases hm
section
variable {K:Fg} {X:Cx} {pins:List (Addr × Obj)} {σ:St} {H:Hp} {s:Shared}
theorem Aa {x slf prm fld name qual:Str} {C f:Addr} {params:Arguments} {scope:Scope} {dV kV doc pm cdv ct:Value} {an od:Option Addr} {osl:Array (Option Value)} {p1 p2 p3 p4:Pos}
  (h1:PySem.W.nsIn K mainGlobals x=some (some (.ref C))) (h2:PySem.W.findIn K (.ref C) "__init__"=some (some (.ref f)))
  (l:K.lookup f=some ⟨.type "function",od,.func (PySem.W.fnOf name qual params [.Assign [.Attribute (.Name slf p1) fld p2] (.Name prm p3) p4] scope dV kV doc pm an cdv ct),osl⟩) (c:PySem.W.codeIn K cdv qual=true)
  (s:scope.kind=.function/\scope.isCoroutine=false/\scope.isGenerator=false) (n:scope.names.lookup slf=some .local/\scope.names.lookup prm=some .local) (d:(slf==("__debug__":Str))=false/\(prm==("__debug__":Str))=false/\slf≠prm)
  (b:∀(s:Shared) (u v:Value),K.In s.heap->PySem.BindsTo s (PySem.W.fnOf name qual params [.Assign [.Attribute (.Name slf p1) fld p2] (.Name prm p3) p4] scope dV kV doc pm an cdv ct) ⟨[u,v],[]⟩ [(slf,u),(prm,v)]):PD K (yR K x) slf prm fld:=by
 have e1:clsAt K x=C:=by unfold clsAt;rw[h1]
 have e2:yR K x=f:=by unfold yR;rw[e1,h2]
 rw[e2];exact ⟨name,qual,params,scope,dV,kV,doc,pm,cdv,ct,an,od,osl,p1,p2,p3,p4,l,c,s,n,d,b⟩
end
section
variable {E:XS} {σ:St} {H:Hp} {Q:VK} {a b:EX K} {D:Ends}
theorem yV {x slf prm fld:Str} (h:a.t E σ H λv H1=>∀dx,H1 dx=none->E σ (.ref (clsAt K x)) (some dx) (upd H1 dx (.xd [(fld,v)]))):(AY x slf prm fld a).t E D σ H:=h
theorem MO {x:Str} {as:List (EX K)} (h:fL (a::as) E σ H λvs H1=>vs.length<=sizeLine/\E σ (.ref (clsAt K x)) none H1):(raiseO x a as).t E D σ H:=h
end
open PySem.Builtin PySem.Builtin.Str
noncomputable def iB:Str->List V->Hp->VK->Prop
 |z,[.str y],H,Q=>Q (.bl (Txt.startswith z y)) H
 |_,_,_,_=>False
theorem GQ {X:Cx}:Cf X "str.startswith" (rS iB):=by
 intro pins s σ H x xs v us Q I rx rs q;cases x with
 |str z=>
  have q':iB z xs H Q:=q;unfold iB at q';split at q'
  ·obtain ⟨t,rfl⟩:=rx;obtain ⟨u,rfl,ru⟩:=rs.one;obtain ⟨t2,rfl⟩:=ru;exact SC.startswith ⟨.bl _,H,I,rfl,q'⟩
  ·exact q'.elim
 |_=>exact q.elim
noncomputable def m_startswith (o a:EX K) (ho:o.s≠.zc:=by intro z;cases z):EX K:=sS "startswith" "str.startswith" iB PySem.F.slot_str_startswith PySem.F.type_str_startswith (λ_ _ _ _=>GQ) o ho [a]
noncomputable def RD (r:V->List V->Hp->VK->Prop) (t:TA):V->St->Hp->VK->Prop
 | .ref p,σ,H,Q=>(∃kvs,H p=some (.dK kvs))/\t σ H λys H2=>r (.ref p) ys H2 Q
 |_,_,_,_=>False
noncomputable def sP:V->List V->Hp->VK->Prop
 | .ref a,[y,d],H,Q=>∃o,eY H a y o/\Q (o.getD d) H
 |_,_,_,_=>False
theorem SI {X:Cx} (hu:X.A.units+1<cLine):Cf X "dict.get" sP:=by
 intro pins s σ H x xs v us Q I rx rs q;unfold sP at q;split at q
 ·obtain ⟨o,g,q⟩:=q;obtain ⟨u,w',rfl,r1,r2⟩:=rs.two;cases rx;exact Bn hu I g r1 r2 λw' s' I' rw'=>⟨_,H,I',rw',q⟩
 ·exact q.elim
noncomputable def VU (o a b:EX K) (ho:o.s≠.zc:=by intro z;cases z):EX K:=LP "get" "dict" "dict.get" sP (RD sP) PySem.F.plainAttrs_dict PySem.F.slot_dict_get PySem.F.type_dict_get (λX _ _ hu=>SI (by lia)) (λt x σ H Q h=>by
  cases x with
  |ref p=>exact ⟨.inr (.inr (.inl ⟨rfl,.inl h.1⟩)),h.2⟩
  |_=>exact h.elim) o ho [a,b]
noncomputable def VT (o:EX K) (ho:o.s≠.zc:=by intro z;cases z):EX K:=VS "pop" "list.pop" RB PySem.F.slot_list_pop PySem.F.type_list_pop (λX hK _ _=>ZL) o ho []
noncomputable def rev (z:Str):Str:=aG (ls z).reverse
theorem rev_eq (z:Str) (u:Tok):Txt.sliceBy z none none (-1,u)=rev z:=by
 refine cP ?_;show (Txt.sliceBy z none none (-1,u)).cps.toList=_;rw[step_rev_list,rev,aQ];have hl:=aO z;refine ext_getElem? λi=>?_;rw[getElem?_map];by_cases hi:i<z.length
 ·have h2:z.length - 1 - i<(ls z).length:=by lia
  rw[getElem?_range hi,List.getElem?_reverse (by lia),hl,List.getElem?_eq_getElem h2];show some (z.cps.getD (z.length - 1 - i) 0)=_
  congr 1
  have h3:z.length - 1 - i<z.cps.size:=by rw[hl] at h2;exact h2
  rw[getD_eq_getD_getElem?,Array.getElem?_eq_getElem h3];simp [ls]
 ·rw[List.getElem?_eq_none_iff.mpr (by rw[length_range];lia),List.getElem?_eq_none_iff.mpr (by rw[length_reverse];lia)];rfl
noncomputable def KC (K:Fg):V->Hp->VK->Prop
 | .str z,H,Q=>z.length<=sizeLine/\Q (.str (rev z)) H
 | .ref a,H,Q=>∃xs,aP K H a xs/\∀p,H p=none->Q (.ref p) (upd H p (.lst xs.reverse))
 |_,_,_=>False
noncomputable def Eh (a:EX K):EX K:=lX (λE σ H Q=>a.t E σ H λx H1=>KC K x H1 Q)
 (λC e=>match e with
  | .Subscript l (.Slice none none (some st) _) _=>a.m C l&&(neg (cst (.int 1)):EX K).m C st
  |_=>false) (λR=>a.q R) .pl
 (λX C E e hK G hE hq hm=>by
  subst hK
  cases e with
  |Subscript l r p=>
   cases r with
   |Slice x y z p2=>
    match x,y,z,hm with
    |none,none,some st,hm=>
     simp only [and_eq_true] at hm
     intro pins s σ H Q I h
     refine Subscript_ (bU (a.ok X C E l rfl G hE hq hm.1 pins s σ H _ I h) λv s1 ⟨x,H1,I1,r1,q1⟩=>?_)
     refine wpAny_Slice ?_
     rw[evalPart_none,evalPart_some]
     refine wpAny_pure (wpAny_pure ?_)
     refine bU ((neg (cst (.int 1)):EX X.K).ok X C E st rfl G hE trivial hm.2 pins s1 σ H1 (λy H2=>y=.int (-1)/\H2=H1) I1 ⟨rfl,rfl⟩) λvs s2 ⟨y,H2,I2,r2,e1,e2⟩=>?_
     subst e1 e2
     obtain ⟨t,rfl⟩:=r2
     have I4:Inv X pins σ H2 {s2 with heap:=s2.heap.push {cls:=.type "slice",data:=.fields #[.none,.none,.int (-1) t]}}:=I2.kept (t':=s2.toks) λb ob q=>get?_push_of_some _ q
     replace q1:KC X.K x H2 Q:=q1
     unfold KC at q1
     split at q1
     ·rename_i z0
      obtain ⟨hz,q⟩:=q1
      obtain ⟨t0,rfl⟩:=r1
      show wpAny (model X.prog X.w) X.A (subscriptTail l (.Slice none none (some st) p2) _ (.ref s2.heap.objs.size)) (EP X pins σ Q) X.xe {s2 with heap:=s2.heap.push {cls:=.type "slice",data:=.fields #[.none,.none,.int (-1) t]}}
      refine tail_any (ops:=[.ref s2.heap.objs.size,.str z0 t0]) (typeIs_str _ _ _) PySem.F.slot_str_getitem.lookup ?_ (by with_unfolding_all rfl)
      exact wpAny_getItem_str_slice (l:=none) (u:=none) (st:=some (-1,t)) ⟨_,get?_push_size _ rfl,rfl,rfl⟩ rfl
       (post_val_or_str ⟨le_trans (Txt.sliceBy_le _ _ _ (-1,t) (show (-1:Int)≠0 by decide)) hz,λt' c=>⟨.str _,H2,I4.tok c,⟨t',rfl⟩,by show Q (.str (Txt.sliceBy z0 none none (-1,t))) H2;rw[rev_eq];exact q⟩⟩)
     ·rename_i a0
      obtain ⟨xs,hx,q⟩:=q1
      cases r1
      obtain ⟨its,r,ht,hz⟩:=I4.list hx
      show wpAny (model X.prog X.w) X.A (subscriptTail l (.Slice none none (some st) p2) _ (.ref s2.heap.objs.size)) (EP X pins σ Q) X.xe {s2 with heap:=s2.heap.push {cls:=.type "slice",data:=.fields #[.none,.none,.int (-1) t]}}
      refine tail_any (ops:=[.ref a0,.ref s2.heap.objs.size]) ht.isList.typeIs slot_list_getitem.lookup ?_ (by with_unfolding_all rfl)
      refine wpAny_getItem_list_slice ht.isList (Heap.IsSliceOf.new ..) .none .none (.int (-1) t) (by decide) ?_ (by rw[size_toArray,<-r.length];exact hz)
      rw[PySem.W.krv_pick]
      exact ⟨.ref _,_,I4.laid (t':=s2.toks) (o:=.lst xs.reverse) (λb ob q=>get?_push_of_some _ q) (Nat.le_refl _) ⟨by rw[length_reverse];exact hz,_,0,r.reverse,get?_push_size _ rfl⟩,rfl,q _ (I4.hok.fresh (Nat.le_refl _))⟩
     ·exact q1.elim
   |_=>exact ff hm
  |_=>exact ff hm)
 (λC e hm=>by cases e with|Subscript l r p=>exact ⟨rfl,rfl⟩|_=>exact ff hm)
section
variable {E:XS} {σ:St} {H:Hp} {Q:VK} {D:Ends} {QB:Bool->Hp->Prop} {v:V} {i j:Int} {n:Nat} {a b c:EX K}
theorem ML {ho:a.s≠.zc} (h:a.t E σ H λx H1=>RS iB (fL [b] E) x σ H1 Q):(m_startswith a b ho).t E σ H Q:=h
theorem Hq {ho:a.s≠.zc} (h:a.t E σ H λx H1=>RD sP (fL [b,c] E) x σ H1 Q):(VU a b c ho).t E σ H Q:=h
theorem Lz {r:V->List V->Hp->VK->Prop} {t:TA} {p:Addr} {kvs:List (Key × V)} (c:H p=some (.dK kvs)) (h:t σ H λys H2=>r (.ref p) ys H2 Q):RD r t (.ref p) σ H Q:=⟨⟨kvs,c⟩,h⟩
theorem MV {p:Addr} {y d:V} {o:Option V} (g:eY H p y o) (h:Q (o.getD d) H):sP (.ref p) [y,d] H Q:=⟨o,g,h⟩
theorem Ac (h:a.t E σ H λx H1=>KC K x H1 Q):(Eh a).t E σ H Q:=h
theorem Af {p:Addr} {xs:List V} (c:aP K H p xs) (h:∀q,H q=none->Q (.ref q) (upd H q (.lst xs.reverse))):KC K (.ref p) H Q:=⟨xs,c,h⟩
theorem Hc {ho:a.s≠.zc} (h:a.t E σ H λx H1=>RL K RB (fL ([]:List (EX K)) E) x σ H1 Q):(VT a ho).t E σ H Q:=h
theorem Ai {p:Addr} {xs:List V} {y:V} (e:H p=some (.lst xs)) (hy:xs[xs.length - 1]?=some y) (h:Q y (upd H p (.lst xs.dropLast))):RB (.ref p) [] H Q:=⟨p,xs,y,rfl,rfl,e,hy,h⟩
theorem DU {p:Addr} {x:V} {xs:List V} (c:aP K H p xs) (f1:iI x=true) (f2:xs.all iI=true) (h:QB (!Ct x xs) H):rB (eL K .NotIn) x (.ref p) H QB:=by
 cases x<;>first|exact ⟨p,xs,rfl,.inl c,f1,f2,h⟩|cases f1
theorem Gm {p q:Addr} {n:Nat} (hn:n<=40) (e:Ck n H p q) (h:QB true H):rB (eL K .Eq) (.ref p) (.ref q) H QB:=.inr (.inl ⟨p,q,n,rfl,rfl,hn,e,h⟩)
theorem Gk {p q:Addr} {xs ys:List V} (h1:H p=some (.lst xs)) (h2:H q=some (.lst ys)) (hl:xs.length≠ys.length) (h:QB false H):rB (eL K .Eq) (.ref p) (.ref q) H QB:=.inr (.inr ⟨p,q,xs,ys,rfl,rfl,h1,h2,hl,h⟩)
theorem BS {p q:Addr} {xs ys:List V} (h1:H p=some (.lst xs)) (h2:H q=some (.lst ys)) (hz:xs.length+ys.length<=sizeLine) (h:∀r,H r=none->Q (.ref r) (upd H r (.lst (xs++ys)))):kQ K .Add (.ref p) (.ref q) H Q:=
 .inl ⟨p,q,xs,ys,rfl,rfl,h1,h2,hz,h⟩
theorem NT {xs:List V} {k:Nat} (h:k<=xs.length):lC xs none (some (k:Int))=xs.take k:=by
 unfold lC;rw[HT.pG,HT.QX,drop_zero,Nat.min_eq_left h,Nat.sub_zero]
theorem DT {p:Addr} {xs:List V} {k:Int} (h1:H p=some (.lst xs)) (h2:-(2 ^ 63)<=k/\k<2 ^ 63) (hz:xs.length * k.toNat<=sizeLine) (h:∀r,H r=none->Q (.ref r) (upd H r (.lst (replicate k.toNat xs).flatten))):kQ K .Mult (.ref p) (.int k) H Q:=
 ⟨p,k,xs,rfl,rfl,h1,h2.1,h2.2,hz,h⟩
theorem qR {p r:Addr} {xs ys:List V} {te:TE} {is:List Nat} {D:Addr} (f:V->V->V) (hp:aP K H p xs) (hr:aP K H r ys) (hD:H D=none) (hz:xs.length<=sizeLine)
  (step:∀(i:Nat) (x y:V) (H1:Hp) (Q':VK),xs[i]?=some x->ys[i]?=some y->aC H H1->(∀H3,aC H1 H3->Q' (f x y) H3)->te (some x::some y::eU is σ) H1 Q')
  (fin:∀H1,aC H H1->H1 D=some (.lst (zipWith f xs ys))->Q (.ref D) H1):aU (Jo K p r) (JB [0,1]:TX K).g (cT (none:Option (EX K))) te 2 is σ D H Q:=by
 refine ⟨λi m σ' H1=>m=min xs.length ys.length - i/\i<=min xs.length ys.length/\(∃a b,σ'=a::b::eU is σ)/\aC H H1/\H1 D=some (.lst ((zipWith f xs ys).take i)),⟨_,rfl,zero_le _,⟨none,none,rfl⟩,λb o e=>by rw[aF (aB e hD)];exact e,by rw[aA,take_zero]⟩,?_⟩;rintro i m σ' H1 ⟨rfl,hi,⟨a,b,rfl⟩,hS,hO⟩;have hp1:=hS.seq hp;have hr1:=hS.seq hr;by_cases hlt:i<min xs.length ys.length
 ·have l1:i<xs.length:=by lia
  have l2:i<ys.length:=by lia
  refine .inr ⟨⟨xs,ys,xs[i],ys[i],hp1,hr1,List.getElem?_eq_getElem l1,List.getElem?_eq_getElem l2⟩,?_⟩;rintro v H' ⟨t,x,y,ht,rfl,rfl,hx,hy⟩;have hx1:=hx _ hp1;have hy1:=hy _ hr1;have s1:aC H1 (upd H1 t (.tup [x,y])):=λc o e=>by rw[aF (aB e ht)];exact e
  refine qG (cZ.of aA) ?_;refine ⟨λ_=>?_,λz=>nomatch z⟩;refine step i x y _ _ hx1 hy1 (hS.trans s1) λH3 s3=>?_;refine ⟨_,s3 _ _ (s1 _ _ hO),?_,min xs.length ys.length - (i+1),by lia,rfl,hlt,⟨_,_,rfl⟩,λc o q=>?_,?_⟩
  ·rw[length_take];lia
  ·rw[aF (aB q hD)];exact s3 _ _ (s1 _ _ (hS c o q))
  ·rw[aA,take_add_one,getElem?_zipWith,hx1,hy1];rfl
 ·have e:i=min xs.length ys.length:=by lia
  subst e;refine .inl ⟨⟨xs,ys,hp1,hr1,by lia⟩,fin H1 hS ?_⟩;rw[hO,take_of_length_le (by rw[length_zipWith];exact Nat.le_refl _)]
end
section
variable {K:Fg} {σ:St} {H:Hp} {Q:VK}
theorem qS {J:It} {P:Hp->Prop} {items:List V} (Y:Yl J P items) {te:TE} {is:List Nat} {D:Addr} (R:Nat->V->Hp->Prop) (hD:H D=none) (hP:∀H1,aC H H1->P H1) (hz:items.length<=sizeLine)
  (mono:∀i y H1 H2,(∀b o,b≠D->H1 b=some o->H2 b=some o)->R i y H1->R i y H2)
  (step:∀(i:Nat) (x:V) (H1:Hp) (Q':VK),items[i]?=some x->aC H H1->(∃o,H1 D=some o)->(∀y H3,aC H1 H3->R i y H3->Q' y H3)->te (some x::eU is σ) H1 Q')
  (fin:∀H1 ys,aC H H1->H1 D=some (.lst ys)->ys.length=items.length->(∀i y,ys[i]?=some y->R i y H1)->Q (.ref D) H1):aU J (gR 0:TX K).g (cT (none:Option (EX K))) te 1 is σ D H Q:=by
 refine ⟨λi m σ' H1=>m=items.length - i/\i<=items.length/\(∃a,σ'=a::eU is σ)/\aC H H1/\∃ys:List V,H1 D=some (.lst ys)/\ys.length=i/\∀j y,ys[j]?=some y->R j y H1,⟨items.length,by simp,zero_le _,⟨none,rfl⟩,λb o e=>by rw[aF (aB e hD)];exact e,[],aA,rfl,λj y z=>by simp at z⟩,?_⟩;rintro i m σ' H1 ⟨rfl,hi,⟨a,rfl⟩,hS,ys,hO,hl,hr⟩;have p:=hP H1 hS;by_cases hlt:i<items.length
 ·refine .inr ⟨Y.go i H1 p hlt,λx H' hy=>?_⟩;obtain ⟨e,hx⟩:=Y.yld i H1 x H' p hlt hy;subst e;refine ⟨λ_=>?_,λz=>nomatch z⟩;refine step i x H' _ hx hS ⟨_,hO⟩ λy H3 s3 hy3=>?_;refine ⟨ys,s3 _ _ hO,by rw[hl];lia,items.length - (i+1),by lia,rfl,hlt,⟨_,rfl⟩,λb o q=>?_,ys++[y],aA,by rw[length_append,hl];rfl,λj y' hj=>?_⟩
  ·rw[aF (aB q hD)];exact s3 _ _ (hS b o q)
  ·by_cases hj2:j<ys.length
   ·rw[getElem?_append_left hj2] at hj;exact mono j y' H' _ (λb o hb q=>by rw[aF hb];exact s3 _ _ q) (hr j y' hj)
   ·rw[getElem?_append_right (by lia)] at hj;have e0:j - ys.length=0:=by
     have:=(List.getElem?_eq_some_iff.mp hj).1;simp at this;lia
    rw[e0] at hj;have e1:y=y':=by simpa using hj
    subst e1;have e2:j=i:=by lia
    subst e2;exact mono j y H3 _ (λb o hb q=>by rw[aF hb];exact q) hy3
 ·have e:i=items.length:=by lia
  subst e;exact .inl ⟨Y.stop H1 p,fin H1 ys hS hO hl hr⟩
theorem HP {p:Addr} {xs:List V} {te:TE} {is:List Nat} {D:Addr} (R:Nat->V->Hp->Prop) (hp:cZ K H p xs) (hD:H D=none) (hz:xs.length<=sizeLine)
  (mono:∀i y H1 H2,(∀b o,b≠D->H1 b=some o->H2 b=some o)->R i y H1->R i y H2)
  (step:∀(i:Nat) (x:V) (H1:Hp) (Q':VK),xs[i]?=some x->aC H H1->(∃o,H1 D=some o)->(∀y H3,aC H1 H3->R i y H3->Q' y H3)->te (some x::eU is σ) H1 Q')
  (fin:∀H1 ys,aC H H1->H1 D=some (.lst ys)->ys.length=xs.length->(∀i y,ys[i]?=some y->R i y H1)->Q (.ref D) H1):aU (Jq K p) (gR 0:TX K).g (cT (none:Option (EX K))) te 1 is σ D H Q:=qS (WR (xs:=xs)) R hD (xO hp) hz mono step fin
theorem iY {p:Addr} {xs:List V} {te:TE} {is:List Nat} {D:Addr} (f:Nat->V) (hp:aP K H p xs) (hD:H D=none) (hz:xs.length<=sizeLine)
  (step:∀(i:Nat) (x:V) (H1:Hp) (Q':VK),xs[i]?=some x->aC H H1->(∀H3,aC H1 H3->Q' (f i) H3)->te (some x::eU is σ) H1 Q')
  (fin:∀H1,aC H H1->H1 D=some (.lst ((range xs.length).map f))->Q (.ref D) H1):aU (VA K p) (gR 0:TX K).g (cT (none:Option (EX K))) te 1 is σ D H Q:=lD (dW (xs:=xs)) f hD (λH1 hS=>hS.seq hp) hz step fin
end
noncomputable def Jp (K:Fg) (a:Addr) (n:Nat):It:=
 ⟨λi H=>i<n/\∃xs x,aP K H a xs/\xs[n - 1 - i]?=some x,λi H x H'=>H'=H/\∀xs,aP K H a xs->xs[n - 1 - i]?=some x,λi _=>i=n⟩
theorem JG {P:Program} {w:World} {K:Fg} {tg:Expr} (a it:Addr) (n:Nat):Turn P w K tg (Jp K a n) [it] it (λi h=>h.IsRevIter it a ((n:Int) - 1 - (i:Int))) where
 mem:=by simp
 obj:=λi h st b hb=>by
  have e:b=it:=by simpa using hb
  subst e;obtain ⟨o,e,c,d⟩:=st;exact ⟨o,e,λv z=>by rw[d] at z;cases z⟩
 keep:=λi h h' st k=>st.at λo e=>k it (by simp) o e
 item:=by
  intro X hP hw hK hc i pins s σ H E I hf st hg;subst hP hw hK;obtain ⟨hi,xs,x,hq,hx⟩:=hg;obtain ⟨its,rv,p,hz⟩:=I.list hq;obtain ⟨u,hu,ru⟩:=rv.get hx;obtain ⟨f0,f1,f2,f3,f4,f5⟩:=hf it (by simp);have e:(n:Int) - 1 - (i:Int)=((n - 1 - i:Nat):Int):=by lia
  rw[e] at st;refine wpAny_pyNext_rev_item st p.isList (x:=u) (by simpa using hu) λh' st' sb=>?_;have I1:Inv X pins σ H {s with heap:=h'}:=I.turned (t':=s.toks) (λb o hb e=>(sb.2 b hb).trans e) f0 f1 f3 f4 f5;have e2:((n - 1 - i:Nat):Int) - 1=(n:Int) - 1 - ((i+1:Nat):Int):=by lia
  rw[e2] at st';obtain ⟨o,e,c,d⟩:=id st';exact ⟨u,rfl,qJ (s:={s with heap:=h'}) e c d (by decide) ⟨x,H,I1,ru,⟨rfl,λys hy=>by rw[I.list_inj hy hq];exact hx⟩,st',λb hb=>(hf b hb).1⟩⟩
 done:=by
  intro X hP hw hK hc i pins s σ H E I hf st hg;subst hP hw hK;have hg:i=n:=hg;subst hg;obtain ⟨f0,f1,f2,f3,f4,f5⟩:=hf it (by simp);have e:(i:Int) - 1 - (i:Int)=-1:=by lia
  rw[e] at st;exact wpAny_pyNext_rev_end (I.ok.hd hc) st λh' eb=>⟨rfl,I.turned (t':=s.toks) (λb o hb e=>eb b o hb e) f0 f1 f3 f4 f5⟩
 self:=λ_ _ _ _ _ st h=>wpAny_pyIter_revIter st h
theorem WT {K:Fg} {a:Addr} {xs:List V}:Yl (Jp K a xs.length) (λH=>aP K H a xs) xs.reverse where
 go:=λi H p h=>by
  rw[length_reverse] at h;exact ⟨h,xs,xs[xs.length - 1 - i],p,List.getElem?_eq_getElem (by lia)⟩
 yld:=λi H x H' p hi h=>⟨h.1,by
  rw[length_reverse] at hi
  rw[List.getElem?_reverse hi]
  exact h.2 xs p⟩
 stop:=λH p=>by
  show xs.reverse.length=xs.length;exact length_reverse
noncomputable def yB (K:Fg):List V->Hp->(It->Hp->Prop)->Prop
 |[.ref p],H,R=>∃xs,aP K H p xs/\R (Jp K p xs.length) H
 |_,_,_=>False
noncomputable def Hz (a:EX K):IX K where
 t:=λE σ H R=>fL [a] E σ H λvs H1=>yB K vs H1 R
 tm:=λ_=>true
 m:=λC e=>match e with
  | .Call (.Name y _) es [] _=>rH C "reversed" y&&jT [a] C es
  |_=>false
 q:=λR=>sQ [a] R
 ok:=λX C E tg e hK G hE hq _ hm=>by
  subst hK;cases e with
  |Call f es ks p=>
   cases f with
   |Name y py=>
    cases ks with
    |nil=>
     simp only [and_eq_true] at hm;obtain ⟨h1,h2⟩:=hm;have e:=cE h1;subst e;obtain ⟨g,d⟩:=cD G h1;cases es with
     |nil=>cases h2
     |cons e es=>
      intro pins s σ H R I h;refine Call_ (fQ I g (G.bl _ (by decide+kernel)) PyProof.Rows.Boot.reversed (PyProof.Rows.callWith_type1 (bU (dU G hE [a] (e::es) hq h2 p pins s σ H _ I h) λus s1 ⟨vs,H1,I1,r1,q1⟩=>?_) (aX (a.sok C e (aH h2).1)) (bJ [] es (aH h2).2)));replace q1:yB X.K vs H1 R:=q1;unfold yB at q1;split at q1
      ·rename_i p1;obtain ⟨u,rfl,ru⟩:=r1.one;cases ru;obtain ⟨xs,hx,q⟩:=q1;obtain ⟨ia,ra,pa,_⟩:=I1.list hx;refine call_reversed_list pa.isList ?_;have hl:((ia.toArray.size:Nat):Int) - 1=(xs.length:Int) - 1 - ((0:Nat):Int):=by rw[size_toArray,<-ra.length];lia
       have st:({s1 with heap:=s1.heap.push (revObj p1 ((ia.toArray.size:Int) - 1))}:Shared).heap.IsRevIter s1.heap.objs.size p1 ((xs.length:Int) - 1 - ((0:Nat):Int)):=⟨_,get?_push_size _ rfl,rfl,by rw[<-hl];rfl⟩;refine wpAny_pyIter_revIter st ?_;refine ⟨s1.heap.objs.size,[s1.heap.objs.size],_,_,H1,rfl,I1.kept (t':=s1.toks) λb o e=>get?_push_of_some _ e,JG p1 _ xs.length,st,λb hb=>?_,q⟩;have e:b=s1.heap.objs.size:=by simpa using hb
       subst e;exact I1.fpOk (Nat.le_refl _) (I1.hok.fresh (Nat.le_refl _))
      ·exact q1.elim
    |cons _ _=>cases hm
   |_=>exact ff hm
  |_=>exact ff hm
 fs:=λC e env x hm=>by cases e with|Call f es ks p=>rfl|_=>exact ff hm
section
variable {E:XS} {σ:St} {H:Hp} {Q:VK} {D:Ends} {a c:EX K} {bd:List (SX K)}
theorem Ah {R:It->Hp->Prop} (h:a.t E σ H λx H1=>yB K [x] H1 R):(Hz a).t E σ H R:=h
theorem Ag {R:It->Hp->Prop} {p:Addr} {xs:List V} (c:aP K H p xs) (h:R (Jp K p xs.length) H):yB K [.ref p] H R:=⟨xs,c,h⟩
theorem LW {p:Addr} {xs:List V} {g:TG} {tb:TS} (Pv:Nat->St->Hp->Prop) (h0:Pv 0 σ H) (hl:∀i σ H,Pv i σ H->aP K H p xs)
  (hs:∀i x σ H,xs.reverse[i]?=some x->Pv i σ H->g x σ H λσ2 H2=>tb {D with nx:=Pv (i+1),ct:=Pv (i+1),bk:=D.nx} σ2 H2) (hd:∀σ H,Pv xs.length σ H->D.nx σ H):nH (Jp K p xs.length) g tb D σ H:=
 oE WT Pv h0 (λi σ H _ q=>hl i σ H q) hs (λσ H q=>hd σ H (by rw[length_reverse] at q;exact q))
theorem iU (W:Nat->St->Hp->Prop) {m:Nat} (h0:W m σ H)
  (hs:∀m σ H,W m σ H->c.tt E σ H λb H1=>br b (∃N:St->Hp->Prop,(∀σ' H',N σ' H'->∃m',m'<m/\W m' σ' H')/\gY bd E {D with nx:=N,ct:=N,bk:=D.nx} σ H1) (D.nx σ H1)):(WV c bd).t E D σ H:=⟨W,⟨m,h0⟩,hs⟩
theorem sD {W:Nat->St->Hp->Prop} {m:Nat} {tb:TS} (h:tb {D with nx:=λσ' H'=>∃m',m'<m/\W m' σ' H',ct:=λσ' H'=>∃m',m'<m/\W m' σ' H',bk:=D.nx} σ H):
  ∃N:St->Hp->Prop,(∀σ' H',N σ' H'->∃m',m'<m/\W m' σ' H')/\tb {D with nx:=N,ct:=N,bk:=D.nx} σ H:=⟨_,λ_ _ z=>z,h⟩
end
noncomputable def TT {K:Fg} (sp:Sp) (b:List (SX K)) (N:List Str):Prop:=∀(vs:List V) (H:Hp) (Q:VK) (E:XK),sp vs H Q E->gY b (λ_=>E) {nx:=λ_ H'=>Q .non H',rt:=Q} (start N vs) H
end L2.Na
set_option compiler.extract_closed false
set_option hygiene false in
local macro_rules | `(tactic| walk_at "t") => `(tactic| (with_reducible first | refine L2.Na.mX ?_ | refine L2.Na.Hf ?_ | refine L2.Na.sX ?_ | refine L2.Na.Gz ?_ | refine L2.Na.Lv ?_ | refine L2.Na.Lr ?_ | refine L2.Na.yX ?_ | refine L2.Na.Ho ?_ | refine L2.Na.WD ?_ | refine L2.Na.MZ ?_ | refine L2.Na.oG ?_ | refine L2.Na.wD ?_ | refine L2.Na.DX ?_ | refine L2.Na.VY ?_ | refine L2.Na.Hv ?_ | refine L2.Na.Gn ?_ | refine L2.Na.Lp ?_ | refine L2.Na.Ls ?_ | refine L2.Na.Lu ?_ | refine L2.Na.Lw ?_ | refine L2.Na.Hs ?_ | refine L2.Na.Hm ?_ | refine L2.Na.Lh ?_ | refine L2.Na.Li ?_ | refine L2.Na.Lj ?_ | refine L2.Na.Lk ?_ | refine L2.Na.Ll ?_ | refine L2.Na.Lg ?_ | refine L2.Na.Gj ?_ | refine L2.Na.He ?_ | refine L2.Na.MK ?_ | refine L2.Na.Hw ?_ | refine L2.Na.Gq ?_ | refine L2.Na.Lf ?_ | refine L2.Na.Aw ?_ | refine L2.Na.ZW ?_ | refine L2.Na.Av ?_ | refine L2.Na.WA ?_ | refine L2.Na.Gw ?_ | refine L2.Na.Hy ?_ | refine L2.Na.Hh ?_ | refine L2.Na.Hi ?_ | refine L2.Na.Ak ?_ | refine L2.Na.Al ?_ | refine L2.Na.Hl ?_ | refine L2.Na.TL ?_ | refine L2.Na.MH ?_ | refine L2.Na.HD ?_ | refine L2.Na.MX ?_ | refine L2.Na.TQ ?_ | refine L2.Na.MI ?_ | refine L2.Na.Lq ?_ | refine L2.Na.Gx ?_ | refine L2.Na.Lo ?_ | refine L2.Na.Ln ?_ | refine L2.Na.Ha ?_ | refine L2.Na.MS ?_ | refine L2.Na.MJ ?_ | refine L2.Na.Am ?_ | refine L2.Na.UB ?_ | refine L2.Na.TU ?_ | refine L2.Na.NA ?_ | refine L2.Na.Ly ?_ | refine L2.Na.ME ?_ | refine L2.Na.BM ?_ | refine L2.Na.MY ?_ | refine L2.Na.Hr ?_ | refine L2.Na.Gy ?_ | refine L2.Na.An ?_ | refine L2.Na.Hk ?_ | refine L2.Na.Au ?_ | refine L2.Na.UC ?_ | refine L2.Na.Ad ?_ | refine L2.Na.DW ?_ | refine L2.Na.ML ?_ | refine L2.Na.Hq ?_ | refine L2.Na.Ac ?_ | refine L2.Na.Gv ?_ | refine L2.Na.Hc ?_))
local macro_rules | `(tactic| walk_at "s") => `(tactic| first
 | ((with_reducible refine L2.Na.yU (v := ?v) ?h1 ?_); (case h1 => exact rfl))
 | walk_at "t"
 | ((with_reducible refine L2.Na.Hg ?h1 ?_); (case h1 => first | exact Or.inl ⟨by omega, by omega⟩ | exact Or.inr ⟨by omega, by omega⟩))
 | ((with_reducible refine L2.Na.Ht ?h1 ?_); (case h1 => exact ⟨by omega, by omega⟩))
 | ((with_reducible refine L2.Na.VZ ?h1 ?_); (case h1 => omega))
 | ((with_reducible refine L2.Na.Ae ?h1 ?_); (case h1 => exact ⟨by omega, by omega⟩))
 | ((with_reducible refine L2.Na.wB (xs := ?xs) ?h1 ?_); (case h1 => assumption))
 | ((with_reducible refine L2.Na.MU (xs := ?xs) ?h1 ?_); (case h1 => assumption))
 | ((with_reducible refine L2.Na.VX ?h1 ?_); (case h1 => rfl)))
local macro_rules | `(tactic| walk_at "") => `(tactic| repeat (walk_at "s"))
namespace L2.Na
open PySem PySem.Spec PyProof.Rows L2 L2.L3
section
variable {K:Fg} {σ:St} {H:Hp} {Q:VK}
theorem NW {p:Addr} {xs:List V} {te:TE} {is:List Nat} {D:Addr} (f U W:Nat->V) (hp:aP K H p xs) (hx:∀(i:Nat) (x:V),xs[i]?=some x->∃t,x=.ref t/\cZ K H t [U i,W i]) (hD:H D=none) (hz:xs.length<=sizeLine)
  (step:∀(i:Nat) (H1:Hp) (Q':VK),i<xs.length->aC H H1->(∀H3,aC H1 H3->Q' (f i) H3)->te (some (U i)::some (W i)::eU is σ) H1 Q')
  (fin:∀H1,aC H H1->H1 D=some (.lst ((range xs.length).map f))->Q (.ref D) H1):aU (VA K p) (JB [0,1]:TX K).g (cT (none:Option (EX K))) te 2 is σ D H Q:=by
 refine ⟨λi m σ' H1=>m=xs.length - i/\i<=xs.length/\(∃a b,σ'=a::b::eU is σ)/\aC H H1/\H1 D=some (.lst ((range i).map f)),⟨xs.length,by simp,zero_le _,⟨none,none,rfl⟩,λb o e=>by rw[aF (aB e hD)];exact e,aA⟩,?_⟩;rintro i m σ' H1 ⟨rfl,hi,⟨a,b,rfl⟩,hS,hO⟩;have hp1:=hS.seq hp;by_cases hlt:i<xs.length
 ·refine .inr ⟨(dW (xs:=xs)).go i H1 hp1 hlt,λx H' hy=>?_⟩;obtain ⟨e,hx1⟩:=(dW (xs:=xs)).yld i H1 x H' hp1 hlt hy;subst e;obtain ⟨t,rfl,ht⟩:=hx i x hx1;refine qG (xO ht _ hS) ?_;refine ⟨λ_=>?_,λz=>nomatch z⟩;refine step i H' _ hlt hS λH3 s3=>?_;refine ⟨_,s3 _ _ hO,by rw[length_map,length_range];lia,xs.length - (i+1),by lia,rfl,hlt,⟨_,_,rfl⟩,λb o q=>?_,?_⟩
  ·rw[aF (aB q hD)];exact s3 _ _ (hS b o q)
  ·rw[aA,range_succ,map_append];rfl
 ·have e:i=xs.length:=by lia
  subst e;exact .inl ⟨(dW (xs:=xs)).stop H1 hp1,fin H1 hS hO⟩
theorem HQ {lo:Int} {m:Nat} {te:TE} {is:List Nat} {D:Addr} (Iv:Nat->Hp->Prop) (R:Nat->V->Prop) (hz:m<=sizeLine) (h0:Iv 0 (upd H D (.lst [])))
  (step:∀(i:Nat) (H1:Hp) (ys:List V) (Q':VK),i<m->Iv i H1->H1 D=some (.lst ys)->(∀y H3,R i y->H3 D=some (.lst ys)->(∀o,Iv (i+1) (upd H3 D o))->Q' y H3)->te (some (.int (lo+(i:Nat)))::eU is σ) H1 Q')
  (fin:∀H1 ys,Iv m H1->H1 D=some (.lst ys)->ys.length=m->(∀i y,ys[i]?=some y->R i y)->Q (.ref D) H1):aU (II lo m) (gR 0:TX K).g (cT (none:Option (EX K))) te 1 is σ D H Q:=by
 refine ⟨λi j σ' H1=>j=m - i/\i<=m/\(∃a,σ'=a::eU is σ)/\Iv i H1/\∃ys:List V,H1 D=some (.lst ys)/\ys.length=i/\∀l y,ys[l]?=some y->R l y,⟨m,by simp,zero_le _,⟨none,rfl⟩,h0,[],aA,rfl,λl y z=>by simp at z⟩,?_⟩;rintro i j σ' H1 ⟨rfl,hi,⟨a,rfl⟩,hI,ys,hO,hl,hr⟩;by_cases hlt:i<m
 ·refine .inr ⟨hlt,λx H' hy=>?_⟩;obtain ⟨rfl,rfl⟩:=hy;refine ⟨λ_=>?_,λz=>nomatch z⟩;refine step i H' ys _ hlt hI hO λy H3 hy3 hO3 hI3=>?_;refine ⟨ys,hO3,by rw[hl];lia,m - (i+1),by lia,rfl,hlt,⟨_,rfl⟩,hI3 _,ys++[y],aA,by rw[length_append,hl];rfl,λl y' hl'=>?_⟩;by_cases hj2:l<ys.length
  ·rw[getElem?_append_left hj2] at hl';exact hr l y' hl'
  ·rw[getElem?_append_right (by lia)] at hl';have e0:l - ys.length=0:=by
    have:=(List.getElem?_eq_some_iff.mp hl').1;simp at this;lia
   rw[e0] at hl';have e1:y=y':=by simpa using hl'
   subst e1;have e2:l=i:=by lia
   subst e2;exact hy3
 ·have e:i=m:=by lia
  subst e;exact .inl ⟨Nat.le_refl _,fin H1 ys hI hO hl hr⟩
end
end L2.Na
namespace PySem
namespace F
end F
section
variable {prog:Program} {w:World} {A:Around} {E:Value->Shared->Prop} {s:Shared}
end
end PySem
namespace L2.Na
open PySem PySem.Spec PyProof.Rows L2 L2.L3
variable {K:Fg}
section
variable {E:XS} {σ:St} {H:Hp} {a:EX K}
end
noncomputable def Kd (d:Addr) (o:Obj) (kvs:List (Key × V)):It:=⟨λi H=>H d=some (.frz o (.dK kvs))/\i<kvs.length,λi H x H'=>H'=H/\∃kv,kvs[i]?=some kv/\x=kV kv.1,λi H=>H d=some (.frz o (.dK kvs))/\i=kvs.length⟩
theorem MD {k:Key} {u:Value} (h:kT k u=true):RelV (kV k) u:=by
 rcases bD h with ⟨i,t,rfl,rfl⟩|⟨x,t,rfl,rfl⟩
 ·exact ⟨t,rfl⟩
 ·exact ⟨t,rfl⟩
theorem NG {P:Program} {w:World} {H:Hp} {h:Heap} {d:Addr} {o:Obj} {kvs:List (Key × V)} {es:Array DictEntry} {ep:Nat} (hok:eE P w H h) (hH:H d=some (.frz o (.dK kvs))) (ho:o.data=.dict es ep):
  ∃vs,KV kvs vs/\h.DictAt (aW P w) d vs ep:=by
 obtain ⟨hg,hk⟩:=(show aZ P w H h d (.frz o (.dK kvs)) from hok d _ hH);obtain ⟨z,hsm,vs,rel,o',es',ep',ho',r1,r2,r3⟩:=(show aZ P w H h d (.dK kvs) from hk);rw[hg] at ho';cases ho';rw[ho] at r2;cases r2;exact ⟨vs,rel,o,es,hg,r1,ho,r3⟩
theorem JH {P:Program} {w:World} {K:Fg} {tg:Expr} (d it:Addr) (o:Obj) (kvs:List (Key × V)) (es:Array DictEntry) (ep:Nat) (ho:o.data=.dict es ep):Turn P w K tg (Kd d o kvs) [it] it (λi h=>h.IsKeyIter it d i kvs.length ep) where
 mem:=by simp
 obj:=λi h st b hb=>by
  have e:b=it:=by simpa using hb
  subst e;obtain ⟨o,e,c,d⟩:=st;exact ⟨o,e,λv z=>by rw[d] at z;cases z⟩
 keep:=λi h h' st k=>st.at λo e=>k it (by simp) o e
 item:=by
  intro X hP hw hK hc i pins s σ H E I hf st hg;subst hP hw hK;obtain ⟨f0,f1,f2,f3,f4,f5⟩:=hf it (by simp);obtain ⟨hH,hi⟩:=hg;obtain ⟨vs,rel,dd⟩:=NG I.hok hH ho;have hl:vs.length=kvs.length:=(KV.length rel).symm;have hk:=KV.keys rel;have hx:vs[i]?=some (vs[i]'(by lia)):=List.getElem?_eq_getElem (by lia);rw[<-hl] at st;refine wpAny_pyNext_dict_item (k:=(vs[i]'(by lia)).1) (v:=(vs[i]'(by lia)).2) st dd hx λkey h' hkey hit' hs'=>?_;have I1:Inv X pins σ H {s with heap:=h',toks:=s.toks}:=I.turned (λb o hb e=>(hs'.2 b hb).trans e) f0 f1 f3 f4 f5;have ek:(kvs[i]'hi).1=(vs[i]'(by lia)).1:=by
   have e1:(kvs.map (·.1))[i]?=(vs.map (·.1))[i]?:=by rw[hk]
   rw[getElem?_map,getElem?_map,hx,List.getElem?_eq_getElem hi] at e1;exact Option.some.inj e1
  rw[hl] at hit';obtain ⟨o2,e2,c2,d2⟩:=id hit';exact ⟨_,rfl,qJ (s:={s with heap:=h',toks:=s.toks}) e2 c2 d2 (by decide) ⟨kV (kvs[i]'hi).1,H,I1,by rw[ek];exact MD hkey,⟨rfl,_,List.getElem?_eq_getElem hi,rfl⟩,hit',λb hb=>(hf b hb).1⟩⟩
 done:=by
  intro X hP hw hK hc i pins s σ H E I hf st hg;subst hP hw hK;obtain ⟨f0,f1,f2,f3,f4,f5⟩:=hf it (by simp);obtain ⟨hH,hi⟩:=hg;obtain ⟨vs,rel,dd⟩:=NG I.hok hH ho;have hl:vs.length=kvs.length:=(KV.length rel).symm;rw[<-hl] at st;exact wpAny_pyNext_dict_end (I.ok.hd hc) st dd (List.getElem?_eq_none_iff.mpr (by lia)) λh' eb=>⟨rfl,I.turned (t':=s.toks) (λb o hb e=>eb b o hb e) f0 f1 f3 f4 f5⟩
 self:=λ_ _ _ _ _ st h=>wpAny_pyIter_keyiter st h
theorem WU {d:Addr} {o:Obj} {kvs:List (Key × V)}:Yl (Kd d o kvs) (λH=>H d=some (.frz o (.dK kvs))) (kvs.map λkv=>kV kv.1) where
 go:=λi H p h=>⟨p,by rw[length_map] at h;exact h⟩
 yld:=λi H x H' p hi h=>by
  obtain ⟨e,kv,h1,h2⟩:=h;refine ⟨e,?_⟩;rw[getElem?_map,h1,h2];rfl
 stop:=λH p=>⟨p,length_map _⟩
noncomputable def KG:V->Hp->(It->Hp->Prop)->Prop
 | .ref d,H,R=>∃kvs,H d=some (.dK kvs)/\∀o,R (Kd d o kvs) (upd H d (.frz o (.dK kvs)))
 |_,_,_=>False
theorem UK {X:Cx} {tg:Expr} {pins:List (Addr × Obj)} {s1:Shared} {σ:St} {H1:Hp} {x:V} {v:Value} {R:It->Hp->Prop} (I1:Inv X pins σ H1 s1) (r1:RelV x v) (q1:KG x H1 R):
  wpAny (model X.prog X.w) X.A (pyIter v) (Jj X pins σ tg R) X.xe s1:=by
 unfold KG at q1;split at q1
 ·rename_i d;cases (show v=Value.ref d from r1);obtain ⟨kvs,hH,q⟩:=q1;obtain ⟨z,hsm,vs,rel,dd⟩:=EC I1.hok hH;obtain ⟨o,es,ep,ho,hd1,hd2,hd3⟩:=id dd;have I2:Inv X pins σ (upd H1 d (.frz o (.dK kvs))) {s1 with heap:=s1.heap,toks:=s1.toks}:=oH I1 (by rw[hH];trivial) ⟨rfl,λb _=>rfl⟩ ⟨o,ho⟩ ⟨ho,z,hsm,vs,rel,dd⟩;refine wpAny_pyIter_dict hsm ⟨o,es,ho,hd1,hd2,hd3⟩ ?_;have hl:vs.length=kvs.length:=(KV.length rel).symm;rw[hl];refine ⟨s1.heap.objs.size,[s1.heap.objs.size],_,_,upd H1 d (.frz o (.dK kvs)),rfl,I2.kept (t':=s1.toks) λb o e=>get?_push_of_some _ e,JH d _ o kvs es ep hd2,⟨_,get?_push_size _ rfl,rfl,rfl⟩,λb hb=>?_,q o⟩;have e:b=s1.heap.objs.size:=by simpa using hb
  subst e;exact I2.fpOk (Nat.le_refl _) (I2.hok.fresh (Nat.le_refl _))
 ·exact q1.elim
noncomputable def Ia (a:EX K):IX K where
 t:=λE σ H R=>a.t E σ H λx H1=>KG x H1 R
 tm:=λ_=>true
 m:=a.m
 q:=a.q
 ok:=λX C E tg e hK G hE hq _ hm=>by
  subst hK;intro pins s σ H R I h;exact bU (a.ok X C E e rfl G hE hq hm pins s σ H _ I h) λv s1 ⟨x,H1,I1,r1,q1⟩=>UK I1 r1 q1
 fs:=λC e env x hm=>xT (a.sok C e hm) x
theorem Ar {E:XS} {σ:St} {H:Hp} {a:EX K} {R:It->Hp->Prop} (h:a.t E σ H λx H1=>KG x H1 R):(Ia a).t E σ H R:=h
theorem Hu {H:Hp} {d:Addr} {kvs:List (Key × V)} {R:It->Hp->Prop} (h:H d=some (.dK kvs)) (q:∀o,R (Kd d o kvs) (upd H d (.frz o (.dK kvs)))):KG (.ref d) H R:=⟨kvs,h,q⟩
noncomputable def Mf (op:CmpOp) (r:R2) (hr:∀X:Cx,X.K=K->X.A.units+64<cLine->gD X (compareOp op) r) (a b:EX K):EX K where
 t:=λE=>XC r (a.t E) (b.t E)
 tt:=λE σ H Q=>a.t E σ H λx H1=>b.t E σ H1 λy H2=>r x y H2 λv H3=>∃c,v=.bl c/\Q c H3
 m:=λC e=>match e with
  | .Compare l [o] [r] _=>decide (o=op)&&(a.m C l&&b.m C r)
  |_=>false
 q:=λR=>a.q R/\b.q R
 s:=.pl
 ok:=λX C E e hK G hE hq hm=>by
  subst hK;cases e with
  |Compare l os rs p=>
   match os,rs,hm with
   |[o],[r'],hm=>
    simp only [and_eq_true] at hm;obtain ⟨h1,h2,h3⟩:=hm;have e:=of_decide_eq_true h1;subst e;exact DH (hr X rfl G.hu) (a.ok X C E l rfl G hE hq.1 h2) (b.ok X C E r' rfl G hE hq.2 h3) (kK (b.sok C r' h3))
  |_=>exact ff hm
 okT:=λX C E e hK G hE hq hm=>by
  subst hK;cases e with
  |Compare l os rs p=>
   match os,rs,hm with
   |[o],[r'],hm=>
    simp only [and_eq_true] at hm;obtain ⟨h1,h2,h3⟩:=hm;have e:=of_decide_eq_true h1;subst e;intro pins s σ H Q I hw;refine wpAny_isTrue_Compare1 (bU (a.ok X C E l rfl G hE hq.1 h2 pins s σ H _ I hw) λv s1 ⟨x,H1,I1,r1,q1⟩=>bU (b.ok X C E r' rfl G hE hq.2 h3 pins s1 σ H1 _ I1 q1) λu s2 ⟨y,H2,I2,r2,q2⟩=>
     bU (hr X rfl G.hu pins s2 σ H2 x y v u _ I2 r1 r2 q2) λc s3 ⟨z,H3,I3,r3,q3⟩=>?_) (kK (b.sok C r' h3))
    obtain ⟨d,rfl,q⟩:=q3;cases r3;exact wpAny_truthy_bool ⟨H3,I3,q⟩
  |_=>exact ff hm
 sok:=λC e hm=>by cases e with|Compare l o r p=>rfl|_=>exact ff hm
section
variable {E:XS} {σ:St} {H:Hp} {a b:EX K}
end
open PySem.SeqAt
section
variable {X:Cx} {pins:List (Addr × Obj)} {σ:St} {H:Hp} {s:Shared}
end
section
variable {E:XS} {σ:St} {H:Hp} {a b:EX K}
end
noncomputable def Ih (K:Fg) (n:Nat) (t:UY):TG:=λv σ H Q=>∃a xs,v=.ref a/\aP K H a xs/\xs.length=n/\t xs σ H Q
theorem YK {X:Cx} {pos:Pos} {es:List Expr} {k:Nat} {t:UY} {n:Nat} (hc:X.calm=true) (h:Cw X es t)
  (hn:(assignEach es X.env).length=n) (hst:(assignEach es X.env).findIdx? (·.1)=none):PG X (.Tuple es k pos) (Ih X.K n t):=by
 intro pins s σ H v u Q I r hw;obtain ⟨a,xs,e1,hq,hl,hw⟩:=hw;subst e1;cases r;obtain ⟨its,rv,⟨o,m,g1,g2,g3,g4⟩,hz⟩:=I.list hq;have ht:s.heap.IsList a its.toArray:=⟨o,g1,g2,m,g4⟩;have hsz:(assignEach es X.env).length=its.toArray.size:=by simp [hn,<-hl,rv.length]
 rw[assign_Tuple];refine wpAny_bind (wpAny_standAt ?_);unfold unpack;rw[hsz,hst];refine wpAny_bind (wpAny_holding (PySem.W.kun_itemsOf (I.ok.hd hc) ht λh' hx=>?_));have I1:Inv X pins σ H {s with heap:=h'}:=I.kept (t':=s.toks) λb o e=>hx b o (ne_of_lt (lt_size e)) e;exact h pins _ σ H xs _ Q I1 (by simpa using rv) hw
noncomputable def Dh (is:List Nat):TX K where
 g:=Ih K is.length (Jy is)
 m:=λC e=>match e with
  | .Tuple es _ _=>C.cm&&Gf is C es
  |_=>false
 ok:=λX C e hK G hm=>by
  subst hK;cases e with
  |Tuple es k p=>
   simp only [and_eq_true] at hm;obtain ⟨h1,h2,h3⟩:=LF G is es hm.2;exact YK (G.calm hm.1) h1 h2 h3
  |_=>exact ff hm
theorem TK {σ:St} {H:Hp} {QS:St->Hp->Prop} {k l:Nat} {p:Addr} {x y:V} (c:aP K H p [x,y]) (h:QS ((σ.set k (some x)).set l (some y)) H):(Dh [k,l]:TX K).g (.ref p) σ H QS:=
 ⟨p,[x,y],rfl,c,rfl,x,[y],rfl,y,[],rfl,rfl,h⟩
section
variable {X:Cx}
noncomputable def Ey:V->List V->Hp->VK->Prop:=λx vs H Q=>∃(z y:Str),x=.str z/\vs=[.str y]/\Q (.int (Txt.find z y)) H
theorem SJ:UZ X "str.find" Ey:=by
 intro pins s σ H x vs v us Q I rx rv h;obtain ⟨z,y,rfl,rfl,q⟩:=h;obtain ⟨t,rfl⟩:=rx;obtain ⟨u,rfl,ru⟩:=rv.one;obtain ⟨t2,rfl⟩:=ru;exact SC.find ⟨.int _,H,I.tok _,⟨_,rfl⟩,q⟩
noncomputable def XW:V->List V->Hp->VK->Prop:=λx vs H Q=>∃(z y:Str) (i:Int),x=.str z/\vs=[.str y,.int i]/\Q (.int (Txt.find3 z y i)) H
theorem LN:UZ X "str.find" XW:=by
 intro pins s σ H x vs v us Q I rx rv h;obtain ⟨z,y,i,rfl,rfl,q⟩:=h;obtain ⟨t,rfl⟩:=rx
 match us,rv with
 |[u1,u2],.cons ra (.cons rb .nil)=>
  obtain ⟨t1,rfl⟩:=ra;obtain ⟨t2,rfl⟩:=rb;exact SC.find3 ⟨.int _,H,I.tok _,⟨_,rfl⟩,q⟩
end
noncomputable def vD:Str->List V->Hp->VK->Prop
 |z,[.str y],H,Q=>Q (.int (Txt.find z y)) H
 |_,_,_,_=>False
noncomputable def m_find (o a:EX K) (ho:o.s≠.zc:=by intro z;cases z):EX K:=sS "find" "str.find" vD PySem.F.slot_str_find PySem.F.type_str_find (λX hK _ _=>DK SJ (λz ys H Q h=>by
 unfold vD at h
 split at h
 ·exact ⟨_,_,rfl,rfl,h⟩
 ·exact h.elim)) o ho [a]
noncomputable def nZ:Str->List V->Hp->VK->Prop
 |z,[.str y,.int i],H,Q=>Q (.int (Txt.find3 z y i)) H
 |_,_,_,_=>False
noncomputable def DL (o a b:EX K) (ho:o.s≠.zc:=by intro z;cases z):EX K:=sS "find" "str.find" nZ PySem.F.slot_str_find PySem.F.type_str_find (λX hK _ _=>DK LN (λz ys H Q h=>by
 unfold nZ at h
 split at h
 ·exact ⟨_,_,_,rfl,rfl,h⟩
 ·exact h.elim)) o ho [a,b]
theorem Ao {K:Fg} {E:XS} {σ:St} {H:Hp} {Q:VK} {a b:EX K} {ho:a.s≠.zc} (h:a.t E σ H λx H1=>RS vD (fL [b] E) x σ H1 Q):(m_find a b ho).t E σ H Q:=h
noncomputable def Ir (a b:EX K):EX K:=lX (λE=>VI [(a.t E,b.t E)])
 (λC e=>match e with
  | .Dict [some k] [v] _=>a.m C k&&b.m C v
  |_=>false) (λR=>a.q R/\b.q R) .pl
 (λX C E e hK G hE hq hm=>by
  subst hK
  cases e with
  |Dict ks vs p=>
   match ks,vs,hm with
   |[some k],[v],hm=>
    simp only [and_eq_true] at hm
    exact RN (KP (a.ok X C E k rfl G hE hq.1 hm.1) (b.ok X C E v rfl G hE hq.2 hm.2) RH) rfl rfl (by simp) (by show 1<=15;decide)
  |_=>exact ff hm)
 (λC e hm=>by cases e with|Dict es k p=>exact ⟨rfl,rfl⟩|_=>exact ff hm)
noncomputable def KD:R2:=λy x H Q=>∃a o,x=.ref a/\eY H a y o/\Q (.bl (!o.isSome)) H
theorem RV {X:Cx} (hu:X.A.units+64<cLine):gD X (compareOp .NotIn) KD:=by
 intro pins s σ H y x v u Q I ry rx h;obtain ⟨a,o,rfl,g,q⟩:=h;cases (show u=Value.ref a from rx);exact UL (by lia) I g ry λs' I'=>⟨.bl (!o.isSome),H,I',rfl,q⟩
noncomputable def Ga (a b:EX K):EX K:=Mf .NotIn KD (λ_ _ hu=>RV hu) a b
noncomputable def XY (K:Fg):List V->Hp->VK->Prop:=λxs H Q=>∃(p:Addr) (bs:List Bool),xs=[.ref p]/\H p=some (.lst (bs.map V.bl))/\Q (.bl (bs.any id)) H
theorem OH {X:Cx} (hc:X.calm=true):bS X (.builtin "any") (XY X.K):=by
 intro pins s σ H xs us Q I rv h;obtain ⟨p,bs,rfl,hp,q⟩:=h;obtain ⟨u,rfl,ru⟩:=rv.one;cases (show u=Value.ref p from ru);obtain ⟨z,its,n,r,hl,e⟩:=I.lstM hp;have hlt:p<s.heap.objs.size:=lt_size e;have isl:s.heap.IsList p its.toArray:=⟨_,e,rfl,n,rfl⟩;refine call_any_walk ?_;refine wpAny_pyIter_list isl ?_;have hitm:∀(i:Nat) (v:Value),its.toArray[i]?=some v->v=Value.bool (bs.getD i true):=λi v hv=>by
  have hv':its[i]?=some v:=by simpa using hv
  have hi:i<its.length:=(List.getElem?_eq_some_iff.mp hv').1;have hib:i<bs.length:=by rw[length_map] at hl;lia
  have hb:(bs.map V.bl)[i]?=some (V.bl bs[i]):=by rw[getElem?_map,List.getElem?_eq_getElem hib];rfl
  obtain ⟨u',h1,h2⟩:=r.get hb;rw[hv'] at h1;cases h1;rw[getD_eq_getElem?_getD,List.getElem?_eq_getElem hib];exact h2
 refine ⟨s.heap.objs.size,_,_,_,_,_,λi=>bs.getD i true,rfl,Walks.list (A:=X.A.in1) (I.ok.hd hc) _ p (ne_of_lt hlt) its.toArray,⟨⟨_,get?_push_size _ rfl,rfl,rfl⟩,isl.at λo e=>get?_push_of_some _ e⟩,oO hitm,λh' tk hk=>?_⟩;have I1:Inv X pins σ H {s with heap:=h',toks:=tk}:=by
  have I0:Inv X pins σ H {s with heap:=s.heap.push {cls:=.type "list_iterator",data:=.fields #[.ref p,.int 0 0]}}:=I.kept (t':=s.toks) λb o e=>get?_push_of_some _ e;obtain ⟨f0,f1,f2,f3,f4,f5⟩:=I.fpOk (H':=H) (Nat.le_refl _) (I.hok.fresh (Nat.le_refl _));exact I0.turned (t':=tk) (λb o hb e=>hk b o (by simpa using hb) e) f0 f1 f3 f4 f5
 refine ⟨.bl _,H,I1,rfl,?_⟩;have ea:(range its.toArray.size).any (λi=>bs.getD i true)=bs.any id:=by
  rw[size_toArray,<-hl,length_map];rw[Bool.eq_iff_iff,any_eq_true,any_eq_true];constructor
  ·rintro ⟨i,hi,q⟩;have hi':=mem_range.mp hi;rw[getD_eq_getElem?_getD,List.getElem?_eq_getElem hi'] at q;exact ⟨bs[i],getElem_mem hi',q⟩
  ·rintro ⟨b,hb,q⟩;obtain ⟨i,hi,rfl⟩:=List.mem_iff_getElem.mp hb;exact ⟨i,mem_range.mpr hi,by rw[getD_eq_getElem?_getD,List.getElem?_eq_getElem hi];exact q⟩
 rw[ea];exact q
noncomputable def Jc (a:EX K):EX K:=Bv "any" "any" (XY K) (λX hK hc _=>by subst hK;exact OH hc) PyProof.Rows.Boot.any (by decide+kernel) (by decide+kernel) a []
section
variable {E:XS} {σ:St} {H:Hp} {Q:VK} {QB:Bool->Hp->Prop} {a b:EX K}
noncomputable def VP (p:Addr) (x y:V) (H2:Hp) (Q:VK):Prop:=H2 p=some (.dK [])/\∃kvs:List (Key × V),[(x,y)]=kvs.map (λkv=>(kV kv.1,kv.2))/\kvs.length<=15/\Q (.ref p) (upd H2 p (.dK (eN [] kvs)))
theorem As (h:∀p,H p=none->a.t E σ (upd H p (.dK [])) λx H1=>b.t E σ H1 λy H2=>VP p x y H2 Q):(Ir a b).t E σ H Q:=h
theorem UA {p:Addr} {k:Key} {y:V} (h1:H p=some (.dK [])) (h:Q (.ref p) (upd H p (.dK [(k,y)]))):VP p (kV k) y H Q:=⟨h1,[(k,y)],rfl,(by show 1<=15;decide),h⟩
theorem ZV (h:a.t E σ H λx H1=>b.t E σ H1 λy H2=>KD x y H2 λv H3=>∃c,v=.bl c/\QB c H3):(Ga a b).tt E σ H QB:=h
theorem Ax (h:a.t E σ H λx H1=>XY K [x] H1 Q):(Jc a).t E σ H Q:=h
end
end L2.Na
namespace LD
open PySem
section
variable {prog:Program} {w:World} {K:Type} [DecidableEq K] {knd:KeyKind prog w K} {A:Around} {E:Value->Shared->Prop} {s:Shared}
theorem NL {R:Result->Shared->Prop} (hh:A.handled=none) {d:Addr} {kvs:List (K × Value)} {ep:Nat} (hsm:(d==sysModules)=false) (hm:s.heap.DictAt knd d kvs ep) (S:Addr) (hSd:S≠d) (res:Value) (ao:Nat) (hS:s.heap.get? S=some {cls:=.type "list",data:=.seq #[] ao})
  (hR:∀h' tk acc' c',(∀b o,b≠S->s.heap.get? b=some o->h'.get? b=some o)->h'.get? S=some {cls:=.type "list",dict:=none,data:=.seq acc' c',slots:=#[]}->
   ItemsOf (λi v=>∃k x,kvs[i]?=some (k,x)/\knd.is k v=true) acc' kvs.length->R (.ok (.ret res)) {s with heap:=h',toks:=tk}) (hn:kvs.length<=sizeLine):
  wpAny (model prog w) A.in1 (Builtin.List.listExtendWith (.ref S) (.ref d) res)
   (λfin s'=>match fin with| .done f=>R (.ok f) s'| .again c'=>c'.quiet=true/\codeAny (model prog w) A c' R s') (λe s'=>R (.error e) s') s:=by
 have hT:s.TypeIs (.ref d) "dict":=hm.dictOf.typeIs;have hSI:S≠s.heap.objs.size:=ne_of_lt (lt_size hS);have hdI:d≠s.heap.objs.size:=by
  obtain ⟨o,es,ho,_⟩:=hm;exact ne_of_lt (lt_size ho)
 have hSf:S∉[s.heap.objs.size,d]:=λhm'=>by
  rcases mem_cons.mp hm' with h|h
  ·exact hSI h
  ·exact hSd (by simpa using h)
 unfold Builtin.List.listExtendWith;refine wpAny_bind (wpAny_typeOf hT ?_);have h1:Builtin.List.listSameRef (.ref S) (.ref d)=false:=by simp [Builtin.List.listSameRef,hSd]
 have h2:(Value.type "dict"==Value.type "list")=false:=by decide
 have h3:(Value.type "dict"==Value.type "tuple")=false:=by decide
 simp only [h1,h2,h3,Bool.or_false,false_eq_true,if_false];refine wpAny_bind (wpAny_pyIter_dict hsm hm ?_);refine wpAny_bind (wpAny_holding ?_);have hm1:(s.heap.push {cls:=.type "dict_keyiterator",data:=.fields #[.ref d,.int 0 0,.int kvs.length 0,.int ep 0]}).DictAt knd d kvs ep:=hm.at' λo e=>get?_push_of_some _ e;have hT1:({s with heap:=s.heap.push {cls:=.type "dict_keyiterator",data:=.fields #[.ref d,.int 0 0,.int kvs.length 0,.int ep 0]}}:Shared).TypeIs (.ref d) "dict":=DictOf.typeIs (s:={s with heap:=s.heap.push {cls:=.type "dict_keyiterator",data:=.fields #[.ref d,.int 0 0,.int kvs.length 0,.int ep 0]}}) hm1.dictOf;unfold Builtin.List.listLengthHint;refine wpAny_bind (wpAny_specialOf hT1 F.slot_dict_len.lookup ?_)
 wp_delta
 refine wpAny_bind (wpAny_isInstance (T:="dict") (b:=true) hT1 (by rw[isSubtype_type];kernel_rfl) ?_);show wpAny _ _ (typeOf (Value.ref d) >>=_) _ _ _;refine wpAny_bind (wpAny_typeOf hT1 ?_);refine wpAny_pure ?_;rw[if_pos (by decide)];refine wpAny_bind (wpAny_rule ?_);refine wpAny_bind ?_;show wpAny _ A.in1 (updateSeq S (·.push .none) >>=λ_=>updateSeq S (·.pop)) _ _ _;have hS1:(s.heap.push {cls:=.type "dict_keyiterator",data:=.fields #[.ref d,.int 0 0,.int kvs.length 0,.int ep 0]}).get? S=some {cls:=.type "list",data:=.seq #[] ao}:=get?_push_of_some _ hS;refine wpAny_bind (wpAny_updateSeq hS1 rfl ?_);have aj:=get?_update_self (Obj.mapSeq (·.push Value.none)) hS1 rfl;refine wpAny_updateSeq (hz:=by seq_fits) aj rfl ?_;have bj:=get?_update_self (Obj.mapSeq (·.pop)) aj rfl;have oth:∀b o,b≠S->(s.heap.push {cls:=.type "dict_keyiterator",data:=.fields #[.ref d,.int 0 0,.int kvs.length 0,.int ep 0]}).get? b=some o->(((s.heap.push {cls:=.type "dict_keyiterator",data:=.fields #[.ref d,.int 0 0,.int kvs.length 0,.int ep 0]}).update S (Obj.mapSeq (·.push Value.none))).update S (Obj.mapSeq (·.pop))).get? b=some o:=
  λb o hb e=>(get?_update_other _ _ (Ne.symm hb)).trans ((get?_update_other _ _ (Ne.symm hb)).trans e)
 have hit:(s.heap.push {cls:=.type "dict_keyiterator",data:=.fields #[.ref d,.int 0 0,.int kvs.length 0,.int ep 0]}).IsKeyIter s.heap.objs.size d 0 kvs.length ep:=⟨_,get?_push_size _ rfl,rfl,rfl⟩;refine wpAny_pure ⟨plainId_quiet F.plain_extend_loop _,codeAny_extend_loopS (Walks.dictKeys (A:=A.in1) (knd:=knd) hh s.heap.objs.size d hdI kvs ep).toS hn _ hSf _ kvs.length 0 _ _ _ rfl (zero_le _)
  ⟨hit.at λo e=>oth _ o (Ne.symm hSI) e,hm1.at' λo e=>oth _ o (Ne.symm hSd) e⟩ bj (ItemsOf.nil _) λs' acc' c' hm' hS' hacc=>?_⟩
 rw[Moved.eq_with hm'];refine hR s'.heap s'.toks acc' c' (λb ob hb e=>hm'.heap b ob (λhmem=>?_) (oth b ob hb (get?_push_of_some _ e))) hS' hacc;rcases mem_cons.mp hmem with e'|hmem
 ·exact hb e'
 ·exact absurd (lt_size e) (by rw[mem_singleton.mp hmem];exact lt_irrefl _)
theorem HC {R:Result->Shared->Prop} (hh:A.handled=none) {d:Addr} {kvs:List (K × Value)} {ep:Nat} (hsm:(d==sysModules)=false) (hm:s.heap.DictAt knd d kvs ep) (S:Addr) (hSd:S≠d) (hS:s.heap.get? S=some {cls:=.type "list",data:=.seq #[]})
  (hR:∀h' tk acc' c',(∀b o,b≠S->s.heap.get? b=some o->h'.get? b=some o)->h'.get? S=some {cls:=.type "list",dict:=none,data:=.seq acc' c',slots:=#[]}->
   ItemsOf (λi v=>∃k x,kvs[i]?=some (k,x)/\knd.is k v=true) acc' kvs.length->R (.ok (.ret .none)) {s with heap:=h',toks:=tk}) (hn:kvs.length<=sizeLine):
  wpAny (model prog w) A.in1 (Builtin.«list.__init__» ⟨[.ref S,.ref d],[]⟩)
   (λfin s'=>match fin with| .done f=>R (.ok f) s'| .again c'=>c'.quiet=true/\codeAny (model prog w) A c' R s') (λe s'=>R (.error e) s') s:=by
 show wpAny _ _ (do let old <-Builtin.List.listItems (.ref S);Builtin.List.listUpdate (.ref S) (λ_=>#[]);letGo old.toList.reverse;Builtin.List.listExtendWith (.ref S) (.ref d) .none) _ _ s;refine wpAny_bind ?_;unfold Builtin.List.listItems;refine wpAny_bind (wpAny_seqItems hS rfl (wpAny_pure ?_));show wpAny _ _ (updateSeq S (λ_=>#[]) >>=λ_=>letGo (#[]:Array Value).toList.reverse >>=λ_=>Builtin.List.listExtendWith (.ref S) (.ref d) .none) _ _ s;refine wpAny_bind (wpAny_updateSeq hS rfl ?_);have aj:=get?_update_self (Obj.mapSeq (λ_=>(#[]:Array Value))) hS rfl;have oth:∀b o,b≠S->s.heap.get? b=some o->(s.heap.update S (Obj.mapSeq (λ_=>(#[]:Array Value)))).get? b=some o:=
  λb o hb e=>(get?_update_other _ _ (Ne.symm hb)).trans e
 refine wpAny_bind (wpAny_letGo ?_);refine NL (s:={s with heap:=s.heap.update S (Obj.mapSeq (λ_=>(#[]:Array Value)))}) hh hsm (hm.at' λo e=>oth _ o (Ne.symm hSd) e) S hSd .none _ aj (λh' tk acc' c' hk hS' hacc=>?_) hn;exact hR h' tk acc' c' (λb o hb e=>hk b o hb (oth b o hb e)) hS' hacc
theorem qV {Q:Value->Shared->Prop} (hh:A.handled=none) {d:Addr} {kvs:List (K × Value)} {ep:Nat} (hsm:(d==sysModules)=false) (hm:s.heap.DictAt knd d kvs ep)
  (hQ:∀h' tk acc' c',(∀b o,s.heap.get? b=some o->h'.get? b=some o)->
   h'.get? s.heap.objs.size=some {cls:=.type "list",dict:=none,data:=.seq acc' c',slots:=#[]}->ItemsOf (λi v=>∃k x,kvs[i]?=some (k,x)/\knd.is k v=true) acc' kvs.length->Q (.ref s.heap.objs.size) {s with heap:=h',toks:=tk}) (hn:kvs.length<=sizeLine):
  wpAny (model prog w) A (call (.type "list") [.ref d]) Q E s:=by
 refine callType_codes (Q₁:=λobj aa=>obj=.ref s.heap.objs.size/\aa={s with heap:=s.heap.push {cls:=.type "list",data:=.seq #[]}}) F.called_list (F.typeCall_list_1 _) F.entry_list_init
  (code_list_new _ ⟨rfl,rfl⟩) λobj aa ae=>?_
 obtain ⟨rfl,rfl⟩:=ae;have hS:(s.heap.push {cls:=.type "list",data:=.seq #[]}).get? s.heap.objs.size=some {cls:=.type "list",data:=.seq #[]}:=get?_push_size _ rfl;have hdI:s.heap.objs.size≠d:=by
  obtain ⟨o,es,ho,_⟩:=hm;exact (ne_of_lt (lt_size ho)).symm
 refine ⟨⟨_,hS,rfl⟩,F.args_list_init_2 _ _,HC (s:={s with heap:=s.heap.push {cls:=.type "list",data:=.seq #[]}}) (A:=A.in1) hh hsm (hm.at' λo e=>get?_push_of_some _ e) _ hdI hS (λh' tk acc' c' hk hS' hacc=>?_) hn⟩;exact ⟨rfl,hQ h' tk acc' c' (λb o e=>hk b o (ne_of_lt (lt_size e)) (get?_push_of_some _ e)) hS' hacc⟩
end
end LD
namespace L2.Na
open PySem PySem.Spec PyProof.Rows L2 L2.L3
variable {K:Fg}
noncomputable def pK:List V->Hp->VK->Prop
 |[.ref d],H,Q=>∃kvs,H d=some (.dK kvs)/\∀l,H l=none->Q (.ref l) (upd H l (.lst (kvs.map λkv=>kV kv.1)))
 |_,_,_=>False
theorem mM:∀{xs:List V} {us:List Value},xs.length=us.length->(∀(i:Nat) (x:V) (u:Value),xs[i]?=some x->us[i]?=some u->RelV x u)->Vals xs us
 |[],[],_,_=>.nil
 |[],_::_,h,_=>by simp at h
 |_::_,[],h,_=>by simp at h
 |x::xs,u::us,h,g=>.cons (g 0 x u rfl rfl) (mM (by simpa using h) λi y v a b=>g (i+1) y v (by simpa using a) (by simpa using b))
theorem LZ (X:Cx) (hc:X.calm=true):bS X (.type "list") pK:=by
 intro pins s σ H xs us Q I r h;unfold pK at h;split at h
 ·rename_i d;obtain ⟨kvs,hd,q⟩:=h;obtain ⟨u,rfl,r1⟩:=r.one;cases r1;obtain ⟨z,hsm,vs,rel,dd⟩:=EC I.hok hd;obtain ⟨o,es,ep,ho,hd1,hd2,hd3⟩:=id dd;have hl:vs.length=kvs.length:=(KV.length rel).symm;have hk:=KV.keys rel;refine LD.qV (knd:=aW X.prog X.w) (I.ok.hd hc) hsm (kvs:=vs) (ep:=ep) ⟨o,es,ho,hd1,hd2,hd3⟩ (λh' tk acc' c' kp hS hI=>?_) (by rw[hl];exact z);have hv:Vals (kvs.map λkv=>kV kv.1) acc'.toList:=mM (by
   have h1:acc'.size=vs.length:=hI.1
   have h2:acc'.toList.length=acc'.size:=length_toList
   rw[h2,h1,hl,length_map]) λi x u hx hu=>by
   have hu':acc'[i]?=some u:=by rw[<-getElem?_toList];exact hu
   obtain ⟨k,v,h1,h2⟩:=hI.2 i u hu';have e1:(kvs.map (·.1))[i]?=(vs.map (·.1))[i]?:=by rw[hk]
   rw[getElem?_map,getElem?_map,h1] at e1;rw[getElem?_map] at hx;cases e:kvs[i]? with
   |none=>rw[e] at hx;cases hx
   |some kv=>
    rw[e] at hx e1;cases hx;have:kv.1=k:=Option.some.inj e1;show RelV (kV kv.1) u;rw[this];exact MD h2
  refine ⟨.ref s.heap.objs.size,_,I.laid (a:=s.heap.objs.size) (o:=.lst (kvs.map λkv=>kV kv.1)) (t':=tk) kp (Nat.le_refl _) ⟨by rw[length_map];exact z,acc'.toList,c',hv,hS⟩,rfl,q _ (I.hok.fresh (Nat.le_refl _))⟩
 ·exact h.elim
noncomputable def VW (a:EX K):EX K:=Ja "list" "list" pK (λX _ hc _=>LZ X hc) PyProof.Rows.Boot.list (by decide+kernel) (by decide+kernel) a []
theorem TR {E:XS} {σ:St} {H:Hp} {Q:VK} {a:EX K} (h:a.t E σ H λx H1=>pK [x] H1 Q):(VW a).t E σ H Q:=h
theorem MT {H:Hp} {Q:VK} {d:Addr} {kvs:List (Key × V)} (h:H d=some (.dK kvs)) (q:∀l,H l=none->Q (.ref l) (upd H l (.lst (kvs.map λkv=>kV kv.1)))):pK [.ref d] H Q:=⟨kvs,h,q⟩
end L2.Na
namespace LD
open PySem PySem.Spec PyProof.Rows
theorem vN:typeLookup (.type "list") "keys"=pure none:=by rw[typeLookup_type,builtinLookup_eq_fast];kernel_rfl
section
variable {prog:Program} {w:World} {A:Around} {K:Type} [DecidableEq K] {knd:KeyKind prog w K} {E:Value->Shared->Prop}
noncomputable def jA (knd:KeyKind prog w K) (h:Heap) (l:Addr) (items:Array Value) (ps:List (K × Value)):Prop:=
 h.IsList l items/\items.size=ps.length/\∀(i:Nat) (v:Value) (p:K × Value),items[i]?=some v->ps[i]?=some p->∃T key,v=.ref T/\h.IsTuple T #[key,p.2]/\knd.is p.1 key=true
theorem jA.at {h h':Heap} {l:Addr} {items:Array Value} {ps:List (K × Value)} (z:jA knd h l items ps) {N:List Addr} (kp:∀b o,b∉N->h.get? b=some o->h'.get? b=some o) (hl:l∉N) (hT:∀(i:Nat) (T:Addr),items[i]?=some (.ref T)->T∉N):jA knd h' l items ps:=by
 obtain ⟨a,b,c⟩:=z;refine ⟨a.at λo e=>kp _ o hl e,b,λi v p h1 h2=>?_⟩;obtain ⟨T,key,rfl,⟨o,e,r⟩,k⟩:=c i v p h1 h2;exact ⟨T,key,rfl,⟨o,kp _ _ (hT i T h1) e,r⟩,k⟩
theorem JA {R:Result->Shared->Prop} {d it l:Addr} {items:Array Value} {ps:List (K × Value)} (hh:A.handled=none) (d1:d≠it) (d2:d≠l) (d3:it≠l) (hd4:∀(i:Nat) (T:Addr),items[i]?=some (.ref T)->T≠d/\T≠it) (hle:ps.length<=1000):
  ∀(n k:Nat) (j:Int) (s:Shared),k+n=ps.length->jA knd s.heap l items ps->s.heap.IsListIter it l k->s.heap.DictOf knd d (merged [] (ps.take k))->
   (∀h' tk',h'.DictOf knd d (merged [] ps)->(∀b o,b≠it->b≠d->s.heap.get? b=some o->h'.get? b=some o)->R (.ok (.ret .none)) {s with heap:=h',toks:=tk'})->
   codeAny (model prog w) A (.builtin "dict.update.loop" ⟨[.ref d,.ref it,rawInt j,.none],[]⟩) R s:=by
 intro n;induction n with
 |zero=>
  intro k j s hkn S hit hd hR;refine codeAny_builtin ZD.gL ?_;rw[Around.under_plainId ZD.cA _];show wpAny _ A.in1 (pyNext (.ref it) >>=_) _ _ s;have hsz:=S.2.1;refine wpAny_bind (wpAny_pyNext_list_end hh hit S.1 (by simp;lia) λh' hk'=>?_);show wpAny _ _ (Builtin.Dict.addKeywords d [] >>=_) _ _ _;refine wpAny_bind (wpAny_pure (wpAny_pure ?_));rw[take_of_length_le (by lia)] at hd;exact hR h' s.toks (hd.extBut hk' d1) λb o b1 _ e=>hk' b o b1 e
 |succ n ih=>
  intro k j s hkn S hit hd hR;have hsz:=S.2.1;have hki:k<items.size:=by lia
  have hx:items[k]?=some items[k]:=by simp [hki]
  have hp:ps[k]?=some (ps[k]'(by lia)):=List.getElem?_eq_getElem (by lia);obtain ⟨T,key,ev,hT,hkey⟩:=S.2.2 k _ _ hx hp;have hxT:items[k]?=some (.ref T):=by rw[hx,ev]
  refine codeAny_builtin ZD.gL ?_;rw[Around.under_plainId ZD.cA _];show wpAny _ A.in1 (pyNext (.ref it) >>=_) _ _ s;refine wpAny_bind (wpAny_pyNext_list_item hit S.1 hxT λh' hit' sb'=>?_);refine wpAny_bind (wpAny_holding ?_);obtain ⟨o,e,hc,nn,hdt⟩:=hT;have e':h'.get? T=some o:=sb'.extBut _ _ (hd4 k T hxT).2 e;have hTy:({s with heap:=h'}:Shared).TypeIs (.ref T) "tuple":=⟨_,e',hc⟩;refine wpAny_bind (wpAny_tryCatch ?_);unfold Builtin.Dict.pairItems;refine wpAny_bind (wpAny_typeOf hTy ?_);rw[if_pos (by decide)];refine wpAny_bind (wpAny_seqItems (s:={s with heap:=h'}) e' hdt (wpAny_pure ?_));show wpAny _ _ (holding [key,(ps[k]'(by lia)).2] (dictSet d key (ps[k]'(by lia)).2)) _ _ _;have hd':h'.DictOf knd d (merged [] (ps.take k)):=hd.sameBut sb' d1;have ml:=merged_length_le ([]:List (K × Value)) (ps.take k);rw[length_nil,length_take] at ml;refine wpAny_holding (wpAny_dictSet_pairs (s:={s with heap:=h'}) hkey hd' (λh2 hd2 sb=>?_) (le_of_lt (Nat.lt_of_le_of_lt (show _<=1000 by lia) (by decide))));refine wpAny_pure ⟨plainId_quiet ZD.cA _,?_⟩;replace sb:SameBut d h' h2:=sb;rw[<-merged_take_succ [] ps k _ hp] at hd2;have kp:∀b o,b∉[it,d]->s.heap.get? b=some o->h2.get? b=some o:=λb o hb e=>by
   simp only [mem_cons,not_mem_nil,or_false,not_or] at hb;exact sb.extBut b o hb.2 (sb'.extBut b o hb.1 e)
  refine ih (k+1) (j+1) _ (by lia) (S.at kp (by simp [d2.symm,d3.symm]) λi T' hT'=>by
   have:=hd4 i T' hT'
   simp [this.1,this.2]) (hit'.at λo e=>sb.extBut _ _ d1.symm e) hd2 λh3 tk3 hd3 hk3=>?_
  exact hR h3 tk3 hd3 λb o b1 b2 e=>hk3 b o b1 b2 (kp b o (by simp [b1,b2]) e)
theorem LJ {s:Shared} {l:Addr} {items:Array Value} {n:Nat} {Q:Option Value->Shared->Prop} (hx:s.heap.get? l=some {cls:=.type "list",dict:=none,data:=.seq items n,slots:=#[]}) (hA:A.handled=none)
  (h:∀h' tk,(∀b o,s.heap.get? b=some o->h'.get? b=some o)->Q none {s with heap:=h',toks:=tk}):wpAny (model prog w) A (getAttr? (.ref l) "keys") Q E s:=by
 obtain ⟨hp,g,d,tk,os⟩:=s;have hT:∀tk',(⟨hp,g,d,tk',os⟩:Shared).TypeIs (.ref l) "list":=λ_=>⟨_,hx,rfl⟩;have f1:=sub_AttributeError;have f3:=F.slot_list_getattribute.lookup;have f4:=F.slot_list_getattribute.bind (.ref l);have f5:=am_list_getattr_none;unfold getAttr? getAttrBy? getAttrBy
 repeat (any_goals (first|assumption|exact hT _|((with_reducible show wpAny _ _ (call (Value.builtin "list.__getattribute__") _ _) _ _ _);refine call_meets F.slot_list_getattribute (hT _) am_entry_list_getattribute (F.args_list_getattribute_2 _ _) (meets_getattribute_miss_list l items n #[] "keys" _ vN (by decide+kernel) (by decide+kernel)) ⟨hx,hA,λh' tk' e hx'=>?_⟩)|wp_step))
 obtain ⟨t',u',he⟩:=hx'.there;show wpAny _ _ (getattributeRaised _ _ _ _ _ _ _) _ _ _;unfold getattributeRaised
 repeat (any_goals (first|assumption|wp_step))
 exact h _ _ hx'.keeps
theorem wK {s:Shared} {l:Addr} {items:Array Value} {nn:Nat} {ps:List (K × Value)} {Q:Value->Shared->Prop} (hh:A.handled=none) (hle:ps.length<=1000) (hx:s.heap.get? l=some {cls:=.type "list",dict:=none,data:=.seq items nn,slots:=#[]}) (S:jA knd s.heap l items ps)
  (h:∀h' tk',h'.DictOf knd s.heap.objs.size (merged [] ps)->(∀b o,s.heap.get? b=some o->h'.get? b=some o)->Q (.ref s.heap.objs.size) {s with heap:=h',toks:=tk'}):
  wpAny (model prog w) A (call (.type "dict") [.ref l]) Q E s:=by
 refine callType_codes (Q₁:=λobj aa=>obj=.ref s.heap.objs.size/\aa={s with heap:=s.heap.push {cls:=.type "dict",data:=.dict #[]}}) F.kt_called_dict (F.kt_typeCall_dict_1 _) F.entry_dict_init (kt_code_dict_new _ ⟨rfl,rfl⟩) ?_;rintro obj aa ⟨rfl,rfl⟩;have hnew:(s.heap.push {cls:=.type "dict",data:=.dict #[]}).DictOf knd s.heap.objs.size []:=DictOf.new s.heap;have hx1:(s.heap.push {cls:=.type "dict",data:=.dict #[]}).get? l=some {cls:=.type "list",dict:=none,data:=.seq items nn,slots:=#[]}:=get?_push_of_some _ hx;refine ⟨hnew.typeIs,F.args_dict_init_2 _ _,?_⟩;unfold Builtin.«dict.__init__»;refine wpAny_bind ?_;unfold Builtin.Dict.selfAndRest;refine wpAny_bind (wpAny_notOrdered_dict hnew.typeIs ?_);show wpAny _ _ (pure (s.heap.objs.size,[Value.ref l])) _ _ _;refine wpAny_pure ?_;show wpAny _ _ (Builtin.Dict.updateFrom "dict.__init__" s.heap.objs.size (.ref l) [] .none) _ _ _;unfold Builtin.Dict.updateFrom;have hTz:(⟨s.heap.push {cls:=.type "dict",data:=.dict #[]},s.gens,s.drawn,s.toks,s.os⟩:Shared).TypeIs (.ref l) "list":=⟨_,hx1,rfl⟩;refine wpAny_bind (wpAny_typeOf hTz ?_);rw[if_pos (by decide)];refine wpAny_bind (LJ hx1 hh λh1 tk1 k1=>?_);simp only [Option.isNone_none,if_true];refine wpAny_bind (wpAny_rule ?_);have k01:∀b o,s.heap.get? b=some o->h1.get? b=some o:=λb o e=>k1 b o (get?_push_of_some _ e);have hx2:h1.get? l=some {cls:=.type "list",dict:=none,data:=.seq items nn,slots:=#[]}:=k01 _ _ hx;have isl:h1.IsList l items:=⟨_,hx2,rfl,nn,rfl⟩;have hd1:h1.DictOf knd s.heap.objs.size []:=let ⟨o,es,ep,ho,r⟩:=hnew;⟨o,es,ep,k1 _ o ho,r⟩;have S1:jA knd h1 l items ps:=S.at (N:=[]) (λb o _ e=>k01 b o e) (by simp) (λ_ _ _=>by simp);have n1:s.heap.objs.size<h1.objs.size:=by
  obtain ⟨o,es,ep,ho,r⟩:=hd1;exact lt_size ho
 have ltl:l<s.heap.objs.size:=lt_size hx;have ltT:∀(i:Nat) (T:Addr),items[i]?=some (.ref T)->T<s.heap.objs.size:=λi T hT=>by
  have hi:i<ps.length:=by rw[<-S.2.1];exact (Array.getElem?_eq_some_iff.mp hT).1
  obtain ⟨T',key,e,⟨o,eo,_⟩,_⟩:=S.2.2 i _ _ hT (List.getElem?_eq_getElem hi);cases e;exact lt_size eo
 refine wpAny_bind (wpAny_pyIter_list (s:=⟨h1,s.gens,s.drawn,tk1,s.os⟩) isl ?_);refine wpAny_pure ⟨plainId_quiet ZD.cA _,?_⟩;have k12:∀b o,h1.get? b=some o->(h1.push {cls:=.type "list_iterator",data:=.fields #[.ref l,.int 0 0]}).get? b=some o:=λb o e=>get?_push_of_some _ e;refine JA (A:=A.in1) (knd:=knd) (it:=h1.objs.size) (d:=s.heap.objs.size) hh (ne_of_lt n1) (ne_of_gt ltl) (ne_of_gt (lt_trans ltl n1)) (λi T hT=>⟨ne_of_lt (ltT i T hT),ne_of_lt (lt_trans (ltT i T hT) n1)⟩) hle ps.length 0 0 _ (by lia)
  (S1.at (N:=[]) (λb o _ e=>k12 b o e) (by simp) (λ_ _ _=>by simp)) ⟨_,get?_push_size _ rfl,rfl,rfl⟩ (by rw[take_zero];exact hd1.push _) λh2 tk2 hd2 hk2=>?_
 refine ⟨rfl,?_⟩;exact h h2 tk2 hd2 λb o e=>hk2 b o (ne_of_lt (lt_trans (lt_size e) n1)) (ne_of_lt (lt_size e)) (k12 b o (k01 b o e))
end
end LD
namespace L2.Na
open PySem PySem.Spec PyProof.Rows L2 L2.L3
variable {K:Fg}
structure Mz (H:Hp) (l:Addr) (qs:List Addr) (kvs:List (Key × V)):Prop where
 l:H l=some (.lst (qs.map V.ref))
 n:qs.length=kvs.length
 p:∀(i:Nat) (q:Addr) (kv:Key × V),qs[i]?=some q->kvs[i]?=some kv->H q=some (.tup [kV kv.1,kv.2])
noncomputable def vE:List V->Hp->VK->Prop
 |[.ref l],H,Q=>∃qs kvs,Mz H l qs kvs/\kvs.length<=1000/\∀d,H d=none->Q (.ref d) (upd H d (.dK (eN [] kvs)))
 |_,_,_=>False
theorem DP {H:Hp} {h:Heap} {P:Program} {w:World} (hok:eE P w H h) {l:Addr}:∀{qs:List Addr} {kvs:List (Key × V)},qs.length=kvs.length->(∀(i:Nat) (q:Addr) (kv:Key × V),qs[i]?=some q->kvs[i]?=some kv->H q=some (.tup [kV kv.1,kv.2]))->
  ∃rs:List (Key × Value),KV kvs rs/\∀(i:Nat) (q:Addr) (p:Key × Value),qs[i]?=some q->rs[i]?=some p->∃key,h.IsTuple q #[key,p.2]/\kT p.1 key=true
 |[],[],_,_=>⟨[],.nil,λi q p h=>by simp at h⟩
 |[],_::_,h,_=>by simp at h
 |_::_,[],h,_=>by simp at h
 |q::qs,kv::kvs,hl,hp=>by
  obtain ⟨rs,r1,r2⟩:=DP hok (l:=l) (qs:=qs) (kvs:=kvs) (by simpa using hl) λi q' kv' a b=>hp (i+1) q' kv' (by simpa using a) (by simpa using b);obtain ⟨z,its,rel,ht⟩:=(show aZ P w H h q (.tup [kV kv.1,kv.2]) from hok q _ (hp 0 q kv rfl rfl));obtain ⟨u1,u2,rfl,ru1,ru2⟩:=rel.two;refine ⟨(kv.1,u2)::rs,.cons ⟨rfl,ru2⟩ r1,λi q' p' a b=>?_⟩;cases i with
  |zero=>
   cases a;cases b;exact ⟨u1,ht,pX (P:=P) (w:=w) ru1⟩
  |succ i=>exact r2 i q' p' (by simpa using a) (by simpa using b)
theorem NR (X:Cx) (hc:X.calm=true):bS X (.type "dict") vE:=by
 intro pins s σ H xs us Q I r h;unfold vE at h;split at h
 ·rename_i l;obtain ⟨qs,kvs,hP,hle,q⟩:=h;obtain ⟨u,rfl,r1⟩:=r.one;cases r1;obtain ⟨z,its,n,rv,hl,eo⟩:=I.lstM hP.l;obtain ⟨rs,rk,hT⟩:=DP I.hok (l:=l) hP.n hP.p;have rl:rs.length=kvs.length:=(KV.length rk).symm;have il:its.length=qs.length:=by rw[<-hl,length_map]
  refine LD.wK (knd:=aW X.prog X.w) (ps:=rs) (I.ok.hd hc) (by lia) eo ⟨⟨_,eo,rfl,n,rfl⟩,by rw[size_toArray,il,hP.n,rl],λi v p h1 h2=>?_⟩ λh' tk' dd kp=>?_
  ·have h1':its[i]?=some v:=by simpa using h1
   have hi:i<qs.length:=by rw[<-il];exact (List.getElem?_eq_some_iff.mp h1').1
   have hq:(qs.map V.ref)[i]?=some (V.ref qs[i]):=by rw[getElem?_map,List.getElem?_eq_getElem hi];rfl
   obtain ⟨u',g1,g2⟩:=rv.get hq;rw[h1'] at g1;cases g1;obtain ⟨key,t1,t2⟩:=hT i qs[i] p (List.getElem?_eq_getElem hi) h2;exact ⟨qs[i],key,g2,t1,t2⟩
  ·have hm:=fP kvs [];rw[length_nil] at hm;exact ⟨.ref s.heap.objs.size,_,I.laid (a:=s.heap.objs.size) (o:=.dK (eN [] kvs)) (t':=tk') kp (Nat.le_refl _) ⟨by rw[sizeLine_eq];lia,beq_eq_false_iff_ne.mpr (ne_of_gt I.big),_,rk.merge .nil,dd⟩,rfl,q _ (I.hok.fresh (Nat.le_refl _))⟩
 ·exact h.elim
noncomputable def ED (a:EX K):EX K:=Ja "dict" "dict" vE (λX _ hc _=>NR X hc) PyProof.Rows.Boot.dict (by decide+kernel) (by decide+kernel) a []
theorem wC {E:XS} {σ:St} {H:Hp} {Q:VK} {a:EX K} (h:a.t E σ H λx H1=>vE [x] H1 Q):(ED a).t E σ H Q:=h
noncomputable def Jl (R:Rt) (x:Str) (sp:Sp):Prop:=∃(k:Nat) (f:Addr) (fd:FuncData) (ps:List Str),cI (k+1) R.A/\sA R.P R.w R.K R.mg R.base (uD R.P R.w) k f fd ps sp/\Binds R.K fd ps []/\Mk R.K (clsAt R.K x) f/\R.mg x=some (.ref (clsAt R.K x))
theorem QY {X:Cx} {C f:Addr} {k:Nat} {fd:FuncData} {ps:List Str} {sp:Sp} {pins:List (Addr × Obj)} {σ:St} {H:Hp} {s:Shared} {Q:VK} {us:List Value} {vs:List V} (M:Mk X.K C f) (F:sA X.prog X.w X.K X.mg X.base (uD X.prog X.w) k f fd ps sp) (hr:cI (k+1) X.A) (hb:Binds X.K fd ps [])
  (I:Inv X pins σ H s) (r:Vals vs us) (h:∀x dx,H x=none->H dx=none->dx≠x->sp (.ref x::vs) (upd (upd H dx (.own x)) x (.ins C dx [])) (λv H2=>v=.non/\Q (.ref x) H2) λ_ _ _=>False):
  wpAny (model X.prog X.w) X.A (PySem.call (.ref C) us) (EP X pins σ Q) X.xe s:=by
 have hq:=h (s.heap.objs.size+1) s.heap.objs.size (I.hok.fresh (le_succ _)) (I.hok.fresh (Nat.le_refl _)) (ne_of_lt (lt_succ_self _));have I2:=Inv.made (C:=C) I;have r2:Vals (V.ref (s.heap.objs.size+1)::vs) (Value.ref (s.heap.objs.size+1)::us):=.cons rfl r;have hl:(Value.ref (s.heap.objs.size+1)::us++[]).length=ps.length:=by
  have e:=r2.length;rw[F.len _ _ _ _ hq] at e;rw[append_nil];exact e.symm
 have b:=hb _ (Value.ref (s.heap.objs.size+1)::us) I2.kIn hl;rw[append_nil] at b;refine wpAny_call (LR (f:=f) I.kIn M.makes M.init (beq_iff_eq.mp M.fn) (codeAny_mono (F.run _ X.stack _ _ ⟨Value.ref (s.heap.objs.size+1)::us,[]⟩ (Value.ref (s.heap.objs.size+1)::us) _ _ _ (hr.make C us [])
  (I2.env0.make C us []) b r2 hq) λr s' hq'=>?_))
 cases r with
 |error e=>exact (uD.no hq').elim
 |ok fl=>
  cases fl with
  |ret u=>
   obtain ⟨v,H',I3,rv,ev,q3⟩:=I2.after hq';subst ev;exact ⟨rv,⟨V.ref (s.heap.objs.size+1),H',I3,rfl,q3⟩⟩
  |next=>exact False.elim hq'
  |brk=>exact False.elim hq'
  |cont=>exact False.elim hq'
noncomputable def Kp (C:Addr) (sp:Sp) (t:TA):TE:=λσ H Q=>t σ H λvs H1=>∀x dx,H1 x=none->H1 dx=none->dx≠x->sp (.ref x::vs) (upd (upd H1 dx (.own x)) x (.ins C dx [])) (λv H2=>v=.non/\Q (.ref x) H2) λ_ _ _=>False
noncomputable def Jv (x:Str) (sp:Sp) (a:EX K) (as:List (EX K)):EX K:=SK (λE=>Kp (clsAt K x) sp (fL (a::as) E))
 (λC e=>match e with
  | .Call (.Name y _) es [] _=>rH C x y&&jT (a::as) C es
  |_=>false) (λR=>Jl R x sp/\sQ (a::as) R) (Kq (a::as))
 (λX C E e hK G hE hq hm=>by
  subst hK
  cases e with
  |Call f es ks p=>
   cases f with
   |Name y py=>
    cases ks with
    |nil=>
     simp only [and_eq_true] at hm
     obtain ⟨h1,h2⟩:=hm
     have e:=cE h1
     subst e
     obtain ⟨g,d⟩:=cD G h1
     obtain ⟨⟨k,f,fd,ps,hr,F,hb,M,hg⟩,hqa⟩:=hq
     cases es with
     |nil=>cases h2
     |cons e es=>
      intro pins s σ H Q I h
      exact wpAny_Call_Name_kw (iW I g hg (PySem.W.callWith_K (h₀:=X.base) I.ok.mod.kin M.kp (bU (dU G hE (a::as) (e::es) hqa h2 p pins s σ H _ I h) λus s1 ⟨vs,H1,I1,r,q⟩=>⟨I1.kIn,QY M F hr hb I1 r q⟩) (aX (a.sok C e (aH h2).1)) (bJ as es (aH h2).2)) d)
    |cons _ _=>cases hm
   |_=>exact ff hm
  |_=>exact ff hm)
 (λC e hm=>by
  cases e with
  |Call f es ks p=>
   cases f with
   |Name y py=>
    cases ks with
    |nil=>
     simp only [and_eq_true] at hm
     exact uV (a::as) es hm.2
    |cons _ _=>cases hm
   |_=>exact ff hm
  |_=>exact ff hm)
 (λC e hm=>by cases e with|Call f es ks p=>rfl|_=>exact ff hm)
noncomputable def fld (a:EX K) (f:Str) (ha:a.s≠.zc:=by intro z;cases z):EX K:=lX (λE=>Ea K (a.t E) f)
 (λC e=>match e with
  | .Attribute o g _=>decide (g=f)&&a.m C o
  |_=>false) a.q .pl
 (λX C E e hK G hE hq hm=>by
  subst hK
  cases e with
  |Attribute o g p=>
   simp only [and_eq_true] at hm
   have e:=of_decide_eq_true hm.1
   subst e
   exact YT (a.ok X C E o rfl G hE hq hm.2) (xU (a.sok C o hm.2) ha)
  |_=>exact ff hm)
 (λC e hm=>by cases e with|Attribute o g p=>exact ⟨rfl,rfl⟩|_=>exact ff hm)
noncomputable def kN (o:EX K) (f:Str) (a:EX K):SX K where
 t:=λE=>El K (o.t E) (a.t E) f
 m:=λC s=>match s with
  | .Assign [.Attribute l g _] e _=>decide (a.s≠.cp)&&(decide (g=f)&&(o.m C l&&a.m C e))
  |_=>false
 q:=λR=>o.q R/\a.q R
 ok:=λX C E s hK G hE hq hm=>by
  subst hK;split at hm
  ·rename_i l g p' e p;simp only [and_eq_true] at hm;obtain ⟨h1,h2,h3,h4⟩:=hm;have e:=of_decide_eq_true h2;subst e;exact YH (o.ok X C E l rfl G hE hq.1 h3) (a.ok X C E _ rfl G hE hq.2 h4) (kJ (a.sok C _ h4) (of_decide_eq_true h1))
  ·cases hm
section
variable {E:XS} {σ:St} {H:Hp} {Q:VK} {D:Ends} {a o:EX K} {as:List (EX K)}
theorem MR {x:Str} {sp:Sp} (h:fL (a::as) E σ H λvs H1=>∀x' dx,H1 x'=none->H1 dx=none->dx≠x'->sp (.ref x'::vs) (upd (upd H1 dx (.own x')) x' (.ins (clsAt K x) dx [])) (λv H2=>v=.non/\Q (.ref x') H2) λ_ _ _=>False):(Jv x sp a as).t E σ H Q:=h
noncomputable def GD (K:Fg) (f:Str) (x:V) (H:Hp) (Q:VK):Prop:=∃a C dx fs v,x=.ref a/\H a=some (.ins C dx fs)/\IJ K C/\bX K C f/\fs.lookup f=some v/\Q v H
theorem cQ {f:Str} {ha:a.s≠.zc} (h:a.t E σ H λx H1=>GD K f x H1 Q):(fld a f ha).t E σ H Q:=h
noncomputable def sO (K:Fg) (f:Str) (y x:V) (H:Hp) (Q:Hp->Prop):Prop:=∃a C dx fs,x=.ref a/\H a=some (.ins C dx fs)/\IJ K C/\bX K C f/\fs.length<1000/\Q (upd H a (.ins C dx (L2.iC f y fs)))
theorem fR {f:Str} (h:a.t E σ H λy H1=>o.t E σ H1 λx H2=>sO K f y x H2 λH3=>D.nx σ H3):(kN o f a).t E D σ H:=h
end
noncomputable def Cg (K:Fg) (x qual:Str) (st:Stmt):Prop:=∃(f:Addr) (fd:FuncData),De K "__init__" qual st f fd/\Mk K (clsAt K x) f
theorem TH {x qual:Str} {st:Stmt} {C f:Addr} {oc:Value} {od an:Option Addr} {osl:Array (Option Value)} {kV doc pm cdv ct:Value} (h1:PySem.W.nsIn K mainGlobals x=some (some (.ref C))) (h2:PySem.W.findIn K (.ref C) "__init__"=some (some (.ref f)))
  (l:K.lookup f=some ⟨oc,od,.func (PySem.W.fnOf "__init__" qual (cL st) (bB st) (aM st) .none kV doc pm an cdv ct),osl⟩) (c:PySem.W.codeIn K cdv qual=true) (k:PySem.W.keepIn K (.ref f)=true)
  (m:PySem.W.makesIn K C=true) (n:PySem.W.isFn K (.ref f)=true) (kp:PySem.W.keepIn K (.ref C)=true):Cg K x qual st:=by
 have e1:clsAt K x=C:=by unfold clsAt;rw[h1]
 exact ⟨f,_,NF l c k,by rw[e1];exact ⟨m,h2,n,kp⟩⟩
noncomputable def Ke (P:Program) (w:World) (K:Fg) (mg:Str->Option Value) (base:Heap) (k:Nat) (x:Str) (sp:Sp):Prop:=
 ∃(f:Addr) (fd:FuncData) (ps:List Str),sA P w K mg base (uD P w) k f fd ps sp/\Binds K fd ps []/\Mk K (clsAt K x) f/\mg x=some (.ref (clsAt K x))
theorem Ke.at {P:Program} {w:World} {mg:Str->Option Value} {base:Heap} {j k:Nat} {x:Str} {sp:Sp} {A:Around} (D:Ke P w K mg base j x sp) (hr:cI k A) (h:j+1<=k):Jl ⟨P,w,K,mg,base,A⟩ x sp:=by
 obtain ⟨f,fd,ps,F,hb,M,hg⟩:=D;exact ⟨j,f,fd,ps,hr.mono h,F,hb,M,hg⟩
theorem Bm {P:Program} {w:World} {mg:Str->Option Value} {base:Heap} {k:Nat} {x qual:Str} {st:Stmt} {sp:Sp} {N ps:List Str} (F:Cg K x qual st) (hg:mg x=some (.ref (clsAt K x))) (bl:∀x∈nN,mg x=none) (b:List (SX K)) (S:dZ N ps (aM st)) (hm:DN b ⟨N,(aM st).names,true⟩ (bB st)=true)
  (hb:∀(kV doc pm:Value) (an:Option Addr) (cdv ct:Value) (us:List Value),us.length=ps.length->bindArgs (PySem.W.fnOf "__init__" qual (cL st) (bB st) (aM st) .none kV doc pm an cdv ct) ⟨us,[]⟩=pure (ps.zip us))
  (len:∀vs H Q E,sp vs H Q E->vs.length=ps.length) (t:∀vs H Q E,sp vs H Q E->gY b (λ_=>E) {nx:=λ_ H'=>Q .non H',rt:=Q} (start N vs) H) (hq:∀A,cI k A->IG b ⟨P,w,K,mg,base,A⟩):Ke P w K mg base (k+1) x sp:=by
 obtain ⟨f,fd,F,M⟩:=F;exact ⟨f,fd,ps,CF F b S hm bl hq len t,F.binds hb,M,hg⟩
noncomputable def VB (a:Addr):It:=
 ⟨λi H=>∃xs x,H a=some (.lst xs)/\xs[i]?=some x,
  λi H v H'=>∃p x,H p=none/\v=.ref p/\H'=upd H p (.tup [.int (i:Nat),x])/\∀xs,H a=some (.lst xs)->xs[i]?=some x,
  λi H=>∃xs,H a=some (.lst xs)/\xs.length<=i⟩
noncomputable def Oq (e it a:Addr) (i:Nat) (h:Heap):Prop:=(∃old,IsEnum h e it ((i:Nat):Int) old)/\h.IsListIter it a i
theorem FK {P:Program} {w:World} {K:Fg} {elts:List Expr} {k:Nat} {pos:Pos} (a e it:Addr) (hei:e≠it):Turn P w K (.Tuple elts k pos) (VB a) [e,it] e (Oq e it a) where
 mem:=by simp
 obj:=λi h st c hc=>by
  obtain ⟨⟨old,he⟩,⟨o1,e1,c1,d1⟩⟩:=st;simp only [mem_cons,not_mem_nil,or_false] at hc;rcases hc with rfl|rfl
  ·exact ⟨_,he,λ_ q=>by have q':Data.fields _=Data.cell _:=q;cases q'⟩
  ·exact ⟨_,e1,λ_ q=>by rw[d1] at q;cases q⟩
 keep:=λi h h' st kp=>by
  obtain ⟨⟨old,he⟩,l1⟩:=st;exact ⟨⟨old,kp e (by simp) _ he⟩,l1.at λo q=>kp it (by simp) o q⟩
 item:=by
  intro X hP hw hK hc i pins s σ H E I hf st hg;subst hP hw hK;obtain ⟨xs,x,hqa,hx⟩:=hg;obtain ⟨z,its,n,r,hl,eo⟩:=I.lstM hqa;obtain ⟨u,hu,ru⟩:=r.get hx;obtain ⟨⟨old,he⟩,l1⟩:=st;have hla:s.heap.IsList a its.toArray:=⟨_,eo,rfl,n,rfl⟩;refine wpAny_pyNext_enum_item he l1 hla (x:=u) (by simpa using hu) hei λh' a1 a2 a3 a4 hk=>?_;refine ⟨_,rfl,?_⟩;refine wpAny_letOwnedTupleGo_enum (s:={s with heap:=h',toks:=s.toks+1}) a1 λh2 z2 sb=>?_;have fr:H s.heap.objs.size=none:=I.hok.fresh (Nat.le_refl _);have zlt:e<s.heap.objs.size:=lt_size he;have k2:∀c o,c∉[e,it]->s.heap.get? c=some o->h2.get? c=some o:=λc o hc' q=>by
   simp only [mem_cons,not_mem_nil,or_false,not_or] at hc';exact sb.extBut _ _ hc'.1 (hk c o hc'.1 hc'.2 q)
  have T2:h2.get? s.heap.objs.size=some {cls:=.type "tuple",data:=.seq #[.int i s.toks,u]}:=sb.extBut _ _ (ne_of_gt zlt) a3;have ne:∀c∈[e,it],c≠s.heap.objs.size:=λc hc'=>by
   obtain ⟨o,q⟩:∃o,s.heap.get? c=some o:=by
    simp only [mem_cons,not_mem_nil,or_false] at hc';obtain ⟨o1,e1,_⟩:=l1;rcases hc' with rfl|rfl
    ·exact ⟨_,he⟩
    ·exact ⟨_,e1⟩
   exact ne_of_lt (lt_size q)
  have I0:Inv X pins σ (upd H s.heap.objs.size (.tup [.int (i:Nat),x])) {s with heap:=s.heap.push {cls:=.type "tuple",data:=.seq #[.int i s.toks,u]},toks:=s.toks+1}:=
   I.laid (t':=s.toks+1) (λc o q=>get?_push_of_some _ q) (Nat.le_refl _) (show aZ X.prog X.w _ _ _ (.tup [.int (i:Nat),x]) from ⟨by show 2<=sizeLine;decide,[.int i s.toks,u],.cons ⟨_,rfl⟩ (.cons ru .nil),IsTup.new _ _⟩)
  have hf':∀c∈[e,it],mL X pins (upd H s.heap.objs.size (.tup [.int (i:Nat),x])) c:=λc hc'=>⟨by rw[aF (ne c hc')];exact (hf c hc').1,(hf c hc').2⟩;have I1:Inv X pins σ (upd H s.heap.objs.size (.tup [.int (i:Nat),x])) {s with heap:=h2,toks:=s.toks+1}:=Inv.turnedN (s:={s with heap:=s.heap.push {cls:=.type "tuple",data:=.seq #[.int i s.toks,u]},toks:=s.toks+1}) (t':=s.toks+1) I0 (λc o hc' q=>by
   rcases Heap.get?_push_cases q with ⟨hcs,ho⟩|q
   ·subst hcs ho
    exact T2
   ·exact k2 c o hc' q) hf'
  exact ⟨.ref s.heap.objs.size,_,I1,rfl,⟨_,x,fr,rfl,rfl,λxs' h'=>by rw[hqa] at h';cases h';exact hx⟩,
   ⟨⟨_,by rw[show ((i+1:Nat):Int)=(i:Int)+1 by lia];exact z2⟩,a2.at λo q=>sb.extBut _ _ hei.symm q⟩,λc hc'=>(hf' c hc').1⟩
 done:=by
  intro X hP hw hK hc i pins s σ H E I hf st hg;subst hP hw hK;obtain ⟨xs,hqa,hx⟩:=hg;obtain ⟨z,its,n,r,hl,eo⟩:=I.lstM hqa;obtain ⟨⟨old,he⟩,l1⟩:=st;have n1:=r.length;have hla:s.heap.IsList a its.toArray:=⟨_,eo,rfl,n,rfl⟩;refine wpAny_pyNext_enum_end (I.ok.hd hc) he l1 hla (by simp;lia) λh' hk=>⟨rfl,Inv.turnedN (t':=s.toks) I (λc o hc' q=>?_) hf⟩;simp only [mem_cons,not_mem_nil,or_false,not_or] at hc';exact hk c o hc'.2 q
 self:=λ_ _ _ _ _ st h=>by
  obtain ⟨⟨old,he⟩,_⟩:=st;exact wpAny_pyIter_enum he h
noncomputable def pM:List V->Hp->(It->Hp->Prop)->Prop
 |[.ref p],H,R=>(∃xs,H p=some (.lst xs))/\R (VB p) H
 |_,_,_=>False
noncomputable def WE (a:EX K):IX K where
 t:=λE σ H R=>fL [a] E σ H λvs H1=>pM vs H1 R
 tm:=λe=>match e with
  | .Tuple _ _ _=>true
  |_=>false
 m:=λC e=>match e with
  | .Call (.Name y _) es [] _=>rH C "enumerate" y&&jT [a] C es
  |_=>false
 q:=λR=>sQ [a] R
 ok:=λX C E tg e hK G hE hq ht hm=>by
  subst hK;cases tg with
  |Tuple ts tk tp=>
   cases e with
   |Call f es ks p=>
    cases f with
    |Name y py=>
     cases ks with
     |nil=>
      simp only [and_eq_true] at hm;obtain ⟨h1,h2⟩:=hm;have e:=cE h1;subst e;obtain ⟨g,d⟩:=cD G h1;cases es with
      |nil=>cases h2
      |cons e es=>
       intro pins s σ H R I h;refine Call_ (fQ I g (G.bl _ (by decide+kernel)) boot_enumerate (PyProof.Rows.callWith_type1 (bU (dU G hE [a] (e::es) hq h2 p pins s σ H _ I h) λus s1 ⟨vs,H1,I1,r1,q1⟩=>?_) (aX (a.sok C e (aH h2).1)) (bJ [] es (aH h2).2)));replace q1:pM vs H1 R:=q1;unfold pM at q1;split at q1
       ·rename_i p1;cases r1 with
        |cons r rr=>
         cases rr;cases r;obtain ⟨⟨xs,hx⟩,q⟩:=q1;obtain ⟨z,its,n,r,hl,eo⟩:=I1.lstM hx;refine call_enumerate_1 eo λh' z1 z2 z3 kp=>?_;refine wpAny_pyIter_enum (s:={s1 with heap:=h'}) z1 ?_;have big:∀c∈[s1.heap.objs.size+1,s1.heap.objs.size],s1.heap.objs.size<=c:=by
          intro c hc;simp only [mem_cons,not_mem_nil,or_false] at hc;lia
         exact ⟨_,[s1.heap.objs.size+1,s1.heap.objs.size],_,_,H1,rfl,I1.kept (t':=s1.toks) kp,FK p1 _ _ (Nat.succ_ne_self _),⟨⟨_,z1⟩,z2⟩,λc hc=>I1.fpOk (big c hc) (I1.hok.fresh (big c hc)),q⟩
       ·exact q1.elim
     |cons _ _=>cases hm
    |_=>exact ff hm
   |_=>exact ff hm
  |_=>cases ht
 fs:=λC e env x hm=>by cases e with|Call f es ks p=>rfl|_=>exact ff hm
section
variable {E:XS} {σ:St} {H:Hp} {D:Ends} {Q:VK} {QB:Bool->Hp->Prop} {a b c:EX K}
theorem Ap {R:It->Hp->Prop} (h:fL [a] E σ H λvs H1=>pM vs H1 R):(WE a).t E σ H R:=h
theorem TZ {R:It->Hp->Prop} {p:Addr} {xs:List V} (c:H p=some (.lst xs)) (h:R (VB p) H):pM [.ref p] H R:=⟨⟨xs,c⟩,h⟩
theorem GU {p:Addr} {xs:List V} {m n:Nat} {tb:TS} (Pv:Nat->St->Hp->Prop) (h0:Pv 0 σ H) (hk:∀i σ1 H1,Pv i σ1 H1->H1 p=some (.lst xs))
  (hw:∀i σ1 H1 a o,Pv i σ1 H1->H1 a=none->Pv i σ1 (upd H1 a o))
  (hs:∀i x σ1 H1,xs[i]?=some x->Pv i σ1 H1->tb {D with nx:=Pv (i+1),ct:=Pv (i+1),bk:=D.nx} ((σ1.set m (some (.int (i:Nat)))).set n (some x)) H1) (hd:∀σ1 H1,Pv xs.length σ1 H1->D.nx σ1 H1):
  nH (VB p) (JB [m,n]:TX K).g tb D σ H:=by
 refine ⟨λi k σ1 H1=>k=xs.length - i/\i<=xs.length/\Pv i σ1 H1,⟨_,rfl,zero_le _,h0⟩,?_⟩;rintro i k σ1 H1 ⟨rfl,hi,s1⟩;have hp1:=hk _ _ _ s1;by_cases hlt:i<xs.length
 ·refine .inr ⟨⟨xs,xs[i],hp1,List.getElem?_eq_getElem hlt⟩,Pv (i+1),λσ3 H3 q=>⟨xs.length - (i+1),by lia,rfl,hlt,q⟩,?_⟩;rintro v H' ⟨a,x,ha,rfl,rfl,hx⟩;exact qG (cZ.of aA) (hs i x σ1 _ (hx _ hp1) (hw _ _ _ _ _ s1 ha))
 ·have e:i=xs.length:=by lia
  subst e;exact .inl ⟨⟨xs,hp1,Nat.le_refl _⟩,hd σ1 H1 s1⟩
end
theorem oN:∀{xs:List V} {us:List Value},xs.length=us.length->(∀(i:Nat) (x:V) (u:Value),xs[i]?=some x->us[i]?=some u->RelV x u)->Vals xs us
 |[],[],_,_=>.nil
 |[],_::_,h,_=>by simp at h
 |_::_,[],h,_=>by simp at h
 |x::xs,u::us,h,g=>.cons (g 0 x u rfl rfl) (oN (by simpa using h) λi y v a b=>g (i+1) y v (by simpa using a) (by simpa using b))
noncomputable def vB:List V->Hp->VK->Prop
 |[.str z],H,Q=>z.length<=sizeLine/\∀l,H l=none->Q (.ref l) (upd H l (.lst (jB z)))
 |_,_,_=>False
theorem LY (X:Cx) (hc:X.calm=true):bS X (.type "list") vB:=by
 intro pins s σ H xs us Q I r h;unfold vB at h;split at h
 ·rename_i z;obtain ⟨hz,q⟩:=h;obtain ⟨u,rfl,r1⟩:=r.one;obtain ⟨t,rfl⟩:=r1;refine call_list_str (I.ok.hd hc) z t (λh' tk acc' c' kp hS hI=>?_) hz;have hv:Vals (jB z) acc'.toList:=oN (by rw[eJ,length_toList];exact hI.1.symm) λi x u hx hu=>by
   have hu':acc'[i]?=some u:=by rw[<-getElem?_toList];exact hu
   obtain ⟨c,tu,hc,rfl⟩:=hI.2 i u hu';have hc':z.cps.toList[i]?=some c:=by rw[getElem?_toList];exact hc
   unfold jB at hx;rw[getElem?_map,hc'] at hx;cases hx;exact ⟨tu,rfl⟩
  refine ⟨.ref s.heap.objs.size,_,I.laid (a:=s.heap.objs.size) (o:=.lst (jB z)) (t':=tk) kp (Nat.le_refl _) ⟨by rw[eJ];exact hz,acc'.toList,c',hv,hS⟩,rfl,q _ (I.hok.fresh (Nat.le_refl _))⟩
 ·exact h.elim
noncomputable def listS (a:EX K):EX K:=Ja "list" "list" vB (λX _ hc _=>LY X hc) PyProof.Rows.Boot.list (by decide+kernel) (by decide+kernel) a []
theorem TN {E:XS} {σ:St} {H:Hp} {Q:VK} {a:EX K} (h:a.t E σ H λx H1=>vB [x] H1 Q):(listS a).t E σ H Q:=h
noncomputable abbrev AA:Str:=Str.ofString "abcd"
theorem iO:AA.length=4:=by decide+kernel
theorem zZ:AA.cps.toList=[97,98,99,100]:=by decide+kernel
theorem small {n:Nat} (h:n<=1000000):n<=sizeLine:=le_trans h (by rw[sizeLine_eq];decide)
theorem oM {r m:Int} (h0:0<=r) (hm:r<m) (h4:m<=4):rX AA.cps.toList r=some (97+r.toNat):=by
 have:r=0\/r=1\/r=2\/r=3:=by lia
 rw[zZ];rcases this with rfl|rfl|rfl|rfl<;>rfl
structure Rl (K:Fg) (H:Hp) (a:Addr) (ws:List Str) (most:Nat):Prop where
 tp:H a=some (.tup (ws.map V.str))
 pos:1<=ws.length
 four:ws.length<=4
 isw:∀w∈ws,fG ws.length w
 one:∀w∈ws,1<=w.length
 le:∀w∈ws,w.length<=most
theorem aC.seqT {H H':Hp} {a:Addr} {xs:List V} (e:aC H H') (h:cZ K H a xs):cZ K H' a xs:=by
 rcases h with (h|⟨o,h⟩)|h
 ·exact .inl (.inl (e _ _ h))
 ·exact .inl (.inr ⟨o,e _ _ h⟩)
 ·exact .inr h
theorem Rl.sq {H:Hp} {a:Addr} {ws:List Str} {m:Nat} (h:Rl K H a ws m):cZ K H a (ws.map V.str):=cZ.of h.tp
theorem Rl.same {H H':Hp} {a:Addr} {ws:List Str} {m:Nat} (h:Rl K H a ws m) (e:aC H H'):Rl K H' a ws m:=⟨e _ _ h.tp,h.pos,h.four,h.isw,h.one,h.le⟩
theorem dN {H0 H:Hp} {p:Addr} {o:HO} (e:aC H0 H) (hp:H0 p=none):aC H0 (upd H p o):=λb u q=>by rw[aF (aB q hp)];exact e b u q
theorem fG.to {m:Nat} {z:Str} {k:Int} (h:fG m z) (h0:0<=k):fG m (Txt.slice z none (some k)):=h.of_ls λc hc=>by
 rw[show ls (Txt.slice z none (some k))=(ls z).take k.toNat from cV h0] at hc;exact mem_of_mem_take hc
theorem fG.from {m:Nat} {z:Str} {k:Int} (h:fG m z) (h0:0<=k) (h1:k<=z.length):fG m (Txt.slice z (some k) none):=h.of_ls λc hc=>by
 rw[show ls (Txt.slice z (some k) none)=(ls z).drop k.toNat from gH h0 h1] at hc;exact mem_of_mem_drop hc
theorem BD {c:Nat} (h1:97<=c) (h2:c<101):∃r,Builtin.Str.occurrences AA ⟨#[c]⟩ 0 AA.length 1=(c - 97)::r:=by
 have:c=97\/c=98\/c=99\/c=100:=by lia
 rcases this with rfl|rfl|rfl|rfl
 ·exact ⟨[],by decide+kernel⟩
 ·exact ⟨[],by decide+kernel⟩
 ·exact ⟨[],by decide+kernel⟩
 ·exact ⟨[],by decide+kernel⟩
noncomputable def kG (K:Fg):Sp:=λvs H Q _=>∃(a:Addr) (ws:List Str) (z:Str),vs=[.ref a,.str z]/\Rl K H a ws 100/\fG ws.length z/\z.length<=20000/\∀H',aC H H'->Q (.str (img ws z)) H'
noncomputable def iN (K:Fg):List (SX K):=
 [set 2 (lst []),
  jP (gR 3) (iG (var 1)) [ex (cF (var 2) (ix (var 0) (vM (cst (.str "abcd")) (var 3))))],
  ret (pQ (cst (.str "")) (var 2))]
theorem xE:TT (kG K) (iN K) ["_law_rule_here","_law_word_here","_law_found","_law_sign"]:=by
 intro vs H Q E h;obtain ⟨a,ws,z,rfl,hR,hz,hzl,q⟩:=h;unfold iN;walk_at "";refine ⟨zero_le _,λp hp=>?_⟩;walk_at "";have hn:(ls z).length<=20000:=by rw[aO];exact hzl
 have hw:∀i c,(ls z)[i]?=some c->∃w,ws[c - 97]?=some w/\w∈ws/\97<=c/\c<101:=λi c hc=>by
  have h:=hz c (mem_of_getElem? hc);have h4:=hR.four;have hl:c - 97<ws.length:=by lia
  exact ⟨ws[c - 97],List.getElem?_eq_getElem hl,getElem_mem hl,h.1,by lia⟩
 refine LV (λi σ H'=>aC H H'/\i<=(ls z).length/\∃(a3:Option V),H' p=some (.lst (((ls z).take i).map λc=>V.str (aG (wd ws c))))/\σ=[some (.ref a),some (.str z),some (.ref p),a3])
  ⟨aE hp _,zero_le _,none,aA,rfl⟩ (λi c σ H' hc hP=>?_) λσ H' hP=>?_
 ·obtain ⟨hSm,hi,a3,hpl,rfl⟩:=hP;obtain ⟨w,hw1,hw2,hc1,hc2⟩:=hw i c hc;obtain ⟨r,hr⟩:=BD hc1 hc2;have hilt:=(List.getElem?_eq_some_iff.mp hc).1;walk_at "";refine BV (aP.of hpl) ?_;walk_at "";refine yW hr ?_;refine sY (v:=.str w) (aC.seqT hSm hR.sq) (gN (by rw[getElem?_map,hw1];rfl)) ?_;walk_at "";refine eC hpl (by rw[length_map,length_take];exact Nat.lt_of_lt_of_le (show min i (ls z).length<100000 by lia) (small (by decide))) ?_;refine ⟨dN hSm hp,hilt,_,?_,rfl⟩;rw[aA,take_add_one,hc,map_append];have e:aG (wd ws c)=w:=by unfold wd;rw[hw1];exact VR w
  show some (HO.lst (_++[V.str w]))=some (HO.lst (_++[V.str (aG (wd ws c))]));rw[e]
 ·obtain ⟨hSm,hi,a3,hpl,rfl⟩:=hP;walk_at "";have hb:(((ls z).map λc=>aG (wd ws c)).map (·.length)).sum<=20000 * 100:=by
   refine le_trans (uN (B:=100) λx hx=>?_) (by rw[length_map,length_map];exact Nat.mul_le_mul_right _ hn);obtain ⟨y,hy,rfl⟩:=mem_map.mp hx;obtain ⟨c,hc,rfl⟩:=mem_map.mp hy;obtain ⟨i,hi'⟩:=getElem?_of_mem hc;obtain ⟨w,hw1,hw2,_⟩:=hw i c hi';rw[eM];unfold wd;rw[hw1];show (ls w).length<=100;rw[aO];exact hR.le w hw2
  refine ⟨(ls z).map λc=>aG (wd ws c),.inl ?_,?_,?_⟩
  ·rw[hpl,take_length,map_map];rfl
  ·have e:(Str.ofString "").length=0:=by decide+kernel
   rw[e];lia
  ·have e:Txt.join (Str.ofString "") ((ls z).map λc=>aG (wd ws c))=img ws z:=cP (by
    rw[kS,jO,map_map,List.flatMap_def]
    congr 1)
   rw[e];exact q H' hSm
noncomputable def known (m:Int):Str:=Txt.slice AA none (some m)
theorem dO {m:Int} (h0:0<=m) (h4:m<=4):ls (known m)=(range m.toNat).map (97+·):=by
 unfold known;rw[show ls (Txt.slice AA none (some m))=AA.cps.toList.take m.toNat from cV h0,zZ];have:m=0\/m=1\/m=2\/m=3\/m=4:=by lia
 rcases this with rfl|rfl|rfl|rfl|rfl<;>rfl
theorem iX {m:Int} (h0:0<=m) (h4:m<=4):(known m).length=m.toNat:=by rw[<-aO,dO h0 h4,length_map,length_range]
theorem MC {m:Int} (h0:0<=m) (h4:m<=4) {k:Nat} (hk:k<m.toNat):(known m).cps.toList[k]?=some (97+k):=by
 rw[show (known m).cps.toList=ls (known m) from rfl,dO h0 h4,getElem?_map,getElem?_range hk];rfl
noncomputable def cO (K:Fg):Sp:=λvs H Q _=>∃m:Int,vs=[.int m]/\Q (.str (known m)) H
noncomputable def tX (K:Fg):List (SX K):=
 [ret (uT (Az "LETTERS" (.str "abcd")) none (some (var 0)))]
theorem FL:TT (cO K) (tX K) ["many"]:=by
 intro vs H Q E h;obtain ⟨m,rfl,q⟩:=h;unfold tX;walk_at "";exact eR (by rw[iO];decide) q
noncomputable def WB (H:Hp) (d:Addr) (ws:List Str):Prop:=∃kvs,H d=some (.dK kvs)/\(∀k w,ws[k]?=some w->dJ kvs (.inr ⟨#[97+k]⟩)=some (.str w))/\∀c,¬(97<=c/\c<97+ws.length)->dJ kvs (.inr ⟨#[c]⟩)=none
theorem WB.same {H H':Hp} {d:Addr} {ws:List Str} (h:WB H d ws) (e:aC H H'):WB H' d ws:=by
 obtain ⟨kvs,h1,h2,h3⟩:=h;exact ⟨kvs,e _ _ h1,h2,h3⟩
theorem WB.get {H:Hp} {d:Addr} {ws:List Str} (h:WB H d ws) {c:Nat} {w:Str} (hc:97<=c) (hw:ws[c - 97]?=some w):eY H d (sgn c) (some (.str w)):=by
 obtain ⟨kvs,h1,h2,_⟩:=h;have e:=h2 (c - 97) w hw;have:97+(c - 97)=c:=by lia
 rw[this] at e;rw[<-e];exact eY.k (k:=.inr ⟨#[c]⟩) h1
theorem WB.miss {H:Hp} {d:Addr} {ws:List Str} (h:WB H d ws) {c:Nat} (hc:¬(97<=c/\c<97+ws.length)):eY H d (sgn c) none:=by
 obtain ⟨kvs,h1,_,h3⟩:=h;rw[<-h3 c hc];exact eY.k (k:=.inr ⟨#[c]⟩) h1
structure uC (K:Fg) (H:Hp) (a:Addr) (ws:List Str):Prop where
 tp:cZ K H a (ws.map V.str)
 pos:1<=ws.length
 four:ws.length<=4
theorem uC.same {H H':Hp} {a:Addr} {ws:List Str} (h:uC K H a ws) (e:aC H H'):uC K H' a ws:=⟨aC.seqT e h.tp,h.pos,h.four⟩
theorem Rl.rt {H:Hp} {a:Addr} {ws:List Str} {m:Nat} (h:Rl K H a ws m):uC K H a ws:=⟨h.sq,h.pos,h.four⟩
noncomputable def bO (K:Fg):Sp:=λvs H Q _=>∃(a:Addr) (ws:List Str),vs=[.ref a]/\uC K H a ws/\∀d H',aC H H'->H d=none->WB H' d ws->Q (.ref d) H'
noncomputable def fE (K:Fg):List (SX K):=
 [ret (UJ (call "letters" (cO K) [len (var 0)]) (var 0))]
theorem cM {m:Int} (h0:0<=m) (h4:m<=4) {k:Nat} (hk:k<m.toNat):fW (known m) k=.inr ⟨#[97+k]⟩:=by
 unfold fW;rw[StrLaws.getD_of_getElem? (MC h0 h4 hk)]
theorem uX {c d:Nat} (h:(Sum.inr ⟨#[c]⟩:Key)=.inr ⟨#[d]⟩):c=d:=by
 have e2:(⟨#[c]⟩:Str)=⟨#[d]⟩:=Sum.inr.inj h;have e3:=congrArg ls e2;simp [ls] at e3;exact e3
theorem jX:TT (bO K) (fE K) ["rule"]:=by
 intro vs H Q E h;obtain ⟨a,ws,rfl,hR,q⟩:=h;have h4:=hR.four;have hq:=hR.tp;have hlen:(ws.map V.str).length=ws.length:=length_map _;unfold fE;walk_at "";refine ⟨_,rfl,?_⟩;walk_at "";have k0:(0:Int)<=((ws.map V.str).length:Nat):=by lia
 have k4:(((ws.map V.str).length:Nat):Int)<=4:=by lia
 have hkl:(known ((ws.map V.str).length:Nat)).cps.size=ws.length:=by
  show (known ((ws.map V.str).length:Nat)).length=_;rw[iX k0 k4];lia
 have hinj:∀i j,i<(known ((ws.map V.str).length:Nat)).cps.size->j<(known ((ws.map V.str).length:Nat)).cps.size->fW (known ((ws.map V.str).length:Nat)) i=fW (known ((ws.map V.str).length:Nat)) j->i=j:=λi j hi hj e=>by
  rw[hkl] at hi hj;rw[cM k0 k4 (by lia),cM k0 k4 (by lia)] at e;have:=uX e;lia
 refine ⟨_,_,ws.map V.str,rfl,.inl hq,by rw[hkl,hlen],by rw[hkl];lia,?_,hinj,λd hd=>?_⟩
 ·rw[Array.all_eq_true'];intro c hc;have hc':c∈ls (known ((ws.map V.str).length:Nat)):=by simpa [ls] using hc
  rw[dO k0 k4] at hc';obtain ⟨k,hk,rfl⟩:=mem_map.mp hc';have:=mem_range.mp hk;simp;lia
 refine q d _ (aE hd _) hd ⟨_,aA,λk w hw=>?_,λc hc=>?_⟩
 ·have hl:k<ws.length:=(List.getElem?_eq_some_iff.mp hw).1;unfold jC;rw[<-cM k0 k4 (show k<(((ws.map V.str).length:Nat):Int).toNat by lia),sF hinj (by rw[hkl];exact hl),getElem?_map,hw];rfl
 ·unfold jC dJ;rw[List.find?_map];have e:(range (known ((ws.map V.str).length:Nat)).cps.size).find? ((λkv:Key × V=>decide (kv.1=.inr ⟨#[c]⟩))∘λi=>(fW (known ((ws.map V.str).length:Nat)) i,(ws.map V.str)[i]?.getD .non))=none:=by
   refine List.find?_eq_none.mpr λi hi z=>hc ?_;have hi':=mem_range.mp hi;rw[hkl] at hi';have z1:fW (known ((ws.map V.str).length:Nat)) i=.inr ⟨#[c]⟩:=of_decide_eq_true z;rw[cM k0 k4 (by lia)] at z1;have:=uX z1;lia
  rw[e];rfl
noncomputable def lO (K:Fg):Sp:=λvs H Q _=>∃(a:Addr) (ws:List Str) (z:Str),vs=[.ref a,.str z]/\uC K H a ws/\(∀w∈ws,w.length<=100)/\fG ws.length z/\z.length<=100000/\∀H',aC H H'->Q (.str (img ws z)) H'
noncomputable def WK (K:Fg):List (SX K):=
 [set 2 (call "words_by_letter" (bO K) [var 0]),
  ret (pQ (cst (.str "")) (comp (ix (var 1) (var 0)) (gR 0) (iG (var 1)) ["sign"] ["word_for"] [2]))]
theorem Dk:TT (lO K) (WK K) ["rule","word","word_for"]:=by
 intro vs H Q E h;obtain ⟨a,ws,z,rfl,hR,hle,hz,hzl,q⟩:=h;unfold WK;walk_at "";refine ⟨a,ws,rfl,hR,λd H1 hS1 _ hd=>?_⟩;walk_at "";intro D hD;refine zM (λc=>.str (aG (wd ws c))) hD (small (by lia)) (λi c H2 Q' hc hS2 fin=>?_) λH2 hS2 hO=>?_
 ·have hcw:=hz c (mem_of_getElem? hc);have hl:c - 97<ws.length:=by lia
  walk_at "";have e:aG (wd ws c)=ws[c - 97]:=by
   unfold wd;rw[List.getElem?_eq_getElem hl];exact VR _
  have f2:=fin H2 (aC.refl _);rw[e] at f2;exact iF ((hd.same hS2).get hcw.1 (List.getElem?_eq_getElem hl)) f2
 ·walk_at "";have hb:(((ls z).map λc=>aG (wd ws c)).map (·.length)).sum<=100000 * 100:=by
   refine le_trans (uN (B:=100) λx hx=>?_) (by rw[length_map,length_map,aO];exact Nat.mul_le_mul_right _ hzl);obtain ⟨y,hy,rfl⟩:=mem_map.mp hx;obtain ⟨c,hc,rfl⟩:=mem_map.mp hy;have hcw:=hz c hc;have hl:c - 97<ws.length:=by lia
   rw[eM];unfold wd;rw[List.getElem?_eq_getElem hl];show (ls ws[c - 97]).length<=100;rw[aO];exact hle _ (getElem_mem hl)
  refine ⟨(ls z).map λc=>aG (wd ws c),.inl ?_,?_,?_⟩
  ·rw[hO,map_map];rfl
  ·have e:(Str.ofString "").length=0:=by decide+kernel
   rw[e];lia
  ·have e:Txt.join (Str.ofString "") ((ls z).map λc=>aG (wd ws c))=img ws z:=cP (by
    rw[kS,jO,map_map,List.flatMap_def]
    congr 1)
   rw[e];exact q H2 (hS1.trans hS2)
noncomputable def Gs (ws:List Str) (z:Str):Nat->Str
 |0=>z
 |k+1=>img ws (Gs ws z k)
theorem TC (hw:∀w∈ws,fG m w) (hz:fG m z):∀k,fG m (Gs ws z k)
 |0=>hz
 |_+1=>DS hw
noncomputable instance (m:Nat) (z:Str):Decidable (fG m z):=by unfold fG;infer_instance
theorem Le:PySem.W.kitOne K (.type "tuple") (.type "tuple")=some true:=by kernel_rfl
theorem Gh:PySem.W.kitOne K (.type "int") (.type "int")=some true:=by kernel_rfl
theorem Gi:PySem.W.kitOne K (.type "int") (.type "bool")=some false:=by kernel_rfl
noncomputable def gG (K:Fg):Sp:=λvs H Q _=>∃i:Int,vs=[.int i]/\Q (.bl true) H
noncomputable def nC (K:Fg):List (SX K):=
 [ret (zX (Jx (var 0) VF) [vJ (Jx (var 0) JD)])]
theorem xB:TT (gG K) (nC K) ["_law_found"]:=by
 intro vs H Q E h;obtain ⟨i,rfl,q⟩:=h;unfold nC;walk_at "";refine ⟨_,_,iP.int i,Gh,?_⟩;walk_at "";refine IH ?_;walk_at "";refine ⟨_,_,iP.int i,Gi,?_⟩;walk_at "";exact q
noncomputable def cnt (z:Str) (k:Nat):Int:=((ls z).count (97+k):Nat)
noncomputable def bE (n:Nat) (z:Str):List Int:=(range n).map (cnt z)
theorem dR (n:Nat) (z:Str):(bE n z).length=n:=by unfold bE;rw[length_map,length_range]
theorem gC (h:k<n):(bE n z)[k]?=some (cnt z k):=by unfold bE;rw[getElem?_map,getElem?_range h];rfl
noncomputable def dot (xs ys:List Int):Int:=(zipWith (· * ·) xs ys).sum
noncomputable def sg (ds:List Int) (z:Str):Int:=((ls z).map λc=>ds[c - 97]?.getD 0).sum
theorem IM (f g:Nat->Int) (ds:List Int):(zipWith (· * ·) ((range ds.length).map λk=>f k+g k) ds).sum=(zipWith (· * ·) ((range ds.length).map f) ds).sum+(zipWith (· * ·) ((range ds.length).map g) ds).sum:=by
 induction ds generalizing f g with
 |nil=>rfl
 |cons d ds ih=>
  rw[length_cons,range_succ_eq_map];simp only [map_cons,map_map,zipWith_cons_cons,sum_cons];have e:=ih (f∘Nat.succ) (g∘Nat.succ);have e1:((λk=>f k+g k)∘Nat.succ)=λk=>(f∘Nat.succ) k+(g∘Nat.succ) k:=rfl;rw[e1,e,Int.add_mul];lia
theorem sC (ds:List Int):(zipWith (· * ·) ((range ds.length).map λ_=>(0:Int)) ds).sum=0:=by
 induction ds with
 |nil=>rfl
 |cons d ds ih=>
  rw[length_cons,range_succ_eq_map];simp only [map_cons,map_map,zipWith_cons_cons,sum_cons];have e1:((λ_=>(0:Int))∘Nat.succ)=λ_=>(0:Int):=rfl;rw[e1,ih,Int.zero_mul];rfl
theorem IL (ds:List Int) (j:Nat):(zipWith (· * ·) ((range ds.length).map λk=>if k=j then (1:Int) else 0) ds).sum=ds[j]?.getD 0:=by
 induction ds generalizing j with
 |nil=>rfl
 |cons d ds ih=>
  rw[length_cons,range_succ_eq_map];simp only [map_cons,map_map,zipWith_cons_cons,sum_cons];cases j with
  |zero=>
   have e1:((λk=>if k=0 then (1:Int) else 0)∘Nat.succ)=λ_=>(0:Int):=by funext k;simp
   rw[e1,sC];simp
  |succ j=>
   have e1:((λk=>if k=j+1 then (1:Int) else 0)∘Nat.succ)=λk=>if k=j then (1:Int) else 0:=by funext k;simp
   rw[e1,ih j];simp
theorem zI (ds:List Int):∀(l:List Nat),(∀c∈l,97<=c/\c<97+ds.length)->(zipWith (· * ·) ((range ds.length).map λk=>((l.count (97+k):Nat):Int)) ds).sum=(l.map λc=>ds[c - 97]?.getD 0).sum
 |[],_=>by
  have e:((range ds.length).map λk=>(((([]:List Nat).count (97+k):Nat)):Int))=(range ds.length).map λ_=>(0:Int):=map_congr_left λk _=>by simp
  rw[e,sC];rfl
 |c::l,h=>by
  obtain ⟨h1,h2⟩:=h c mem_cons_self;have ih:=zI ds l λd hd=>h d (mem_cons_of_mem _ hd);have e:((range ds.length).map λk=>(((c::l).count (97+k):Nat):Int))=(range ds.length).map λk=>(if k=c - 97 then (1:Int) else 0)+((l.count (97+k):Nat):Int):=by
   refine map_congr_left λk _=>?_;rw[List.count_cons];by_cases hk:k=c - 97
   ·have:c=97+k:=by lia
    rw[if_pos hk,this];simp;lia
   ·have:¬(c=97+k):=by lia
    rw[if_neg hk];simp [this]
  rw[e,IM,IL,ih,map_cons,sum_cons]
theorem lA (h:fG ds.length z):dot (bE ds.length z) ds=sg ds z:=zI ds (ls z) h
theorem QT (h:fG n z):sg (replicate n 1) z=z.length:=by
 unfold sg;rw[<-aO];have:∀l:List Nat,(∀c∈l,97<=c/\c<97+n)->(l.map λc=>(replicate n (1:Int))[c - 97]?.getD 0).sum=(l.length:Int):=by
  intro l;induction l with
  |nil=>intro _;rfl
  |cons c l ih=>
   intro hl;have hc:=hl c mem_cons_self;rw[map_cons,sum_cons,ih λd hd=>hl d (mem_cons_of_mem _ hd),length_cons];have e:(replicate n (1:Int))[c - 97]?.getD 0=1:=by
    rw[List.getElem?_replicate,if_pos (by lia)];rfl
   rw[e];lia
 exact this (ls z) h
noncomputable def gZ (ws:List Str):Nat->List Int
 |0=>replicate ws.length 1
 |t+1=>ws.map (sg (gZ ws t))
theorem gE (ws:List Str):∀t,(gZ ws t).length=ws.length
 |0=>length_replicate
 |_+1=>length_map _
theorem Bp (z:Str) (k:Nat):0<=cnt z k:=by unfold cnt;lia
theorem Bq (z:Str) (k:Nat):cnt z k<=z.length:=by
 unfold cnt;have:=List.count_le_length (a:=97+k) (l:=ls z);rw[aO] at this;lia
noncomputable def aJ (ws:List Str) (c:Nat):Bool:=match ws[c - 97]? with
 |some w=>decide (97<=c)&&(decide (1<w.length)&&decide ((ls w)[0]?=some c))
 |none=>false
noncomputable def lR (K:Fg):Sp:=λvs H Q _=>∃(z:Str) (m:Int),vs=[.str z,.int m]/\0<=m/\m<=4/\∀r H',aC H H'->H r=none->H' r=some (.lst ((bE m.toNat z).map V.int))->Q (.ref r) H'
noncomputable def zV (K:Fg):List (SX K):=
 [ret (comp (DM (var 1) (var 0)) (gR 0) (iG (call "letters" (cO K) [var 1])) ["letter"] ["word"] [0])]
theorem JN:TT (lR K) (zV K) ["word","many"]:=by
 intro vs H Q E h;obtain ⟨z,m,rfl,h0,h4,q⟩:=h;unfold zV;walk_at "";refine ⟨m,rfl,?_⟩;walk_at "";intro D hD;refine zM (λc=>.int (((ls z).count c:Nat):Int)) hD (small (by rw[iX h0 h4];lia)) (λi c H1 Q' hc hS fin=>?_) λH1 hS hO=>?_
 ·walk_at "";exact fin H1 (aC.refl _)
 ·refine q D H1 hS hD ?_;rw[hO,show (known m).cps.toList=ls (known m) from rfl,dO h0 h4,map_map];unfold bE;rw[map_map];rfl
noncomputable def IE (H:Hp) (p:Addr) (rs:List Addr) (rows:List (List Int)):Prop:=H p=some (.lst (rs.map V.ref))/\rs.length=rows.length/\∀(i:Nat) (r:Addr) (row:List Int),rs[i]?=some r->rows[i]?=some row->H r=some (.lst (row.map V.int))
theorem IE.same {H H':Hp} {p:Addr} {rs:List Addr} {rows:List (List Int)} (h:IE H p rs rows) (e:aC H H'):IE H' p rs rows:=⟨e _ _ h.1,h.2.1,λi r row a b=>e _ _ (h.2.2 i r row a b)⟩
noncomputable def rowsOf (ws:List Str):List (List Int):=ws.map (bE ws.length)
theorem nW:∀(ys:List V),(∀y∈ys,∃r,y=V.ref r)->∃rs:List Addr,ys=rs.map V.ref
 |[],_=>⟨[],rfl⟩
 |y::ys,h=>by
  obtain ⟨r,rfl⟩:=h y mem_cons_self;obtain ⟨rs,rfl⟩:=nW ys λy hy=>h y (mem_cons_of_mem _ hy);exact ⟨r::rs,rfl⟩
noncomputable def kD (K:Fg):Sp:=λvs H Q _=>∃(a:Addr) (ws:List Str),vs=[.ref a]/\uC K H a ws/\∀p rs H',aC H H'->H p=none->(∀r∈rs,H r=none)->IE H' p rs (rowsOf ws)->Q (.ref p) H'
noncomputable def ES (K:Fg):List (SX K):=
 [ret (comp (call "counts" (lR K) [var 0,len (var 1)]) (gR 0) (iG (var 0)) ["word"] ["rule"] [0])]
theorem QD:TT (kD K) (ES K) ["rule"]:=by
 intro vs H Q E h;obtain ⟨a,ws,rfl,hR,q⟩:=h;have h4:=hR.four;have hlen:(ws.map V.str).length=ws.length:=length_map _;unfold ES;walk_at "";refine Hj hR.tp ?_;intro D hD;refine HP (λi y H1=>∃r w,y=.ref r/\r≠D/\H r=none/\ws[i]?=some w/\H1 r=some (.lst ((bE ws.length w).map V.int))) hR.tp hD (small (by lia)) (λi y H1 H2 hh=>?_) (λi x H1 Q' hx hS hDs fin=>?_) λH1 ys hS hO hl hr=>?_
 ·rintro ⟨r,w,e1,e2,e3,e4,e5⟩;exact ⟨r,w,e1,e2,e3,e4,hh r _ e2 e5⟩
 ·obtain ⟨w,hw,hw2⟩:∃w,ws[i]?=some w/\x=.str w:=by
   rw[getElem?_map] at hx;cases e:ws[i]? with
   |none=>rw[e] at hx;cases hx
   |some w=>rw[e] at hx;exact ⟨w,rfl,(Option.some.inj hx).symm⟩
  subst hw2;have hq1:=aC.seqT hS hR.tp;walk_at "";refine ⟨w,_,rfl,by lia,by lia,λr H2 hS2 hr hr2=>?_⟩;obtain ⟨o,ho⟩:=hDs;rw[hlen,toNat_natCast] at hr2;refine fin (.ref r) H2 hS2 ⟨r,w,rfl,(aB ho hr).symm,?_,hw,hr2⟩;cases e:H r with
  |none=>rfl
  |some o=>rw[hS _ _ e] at hr;cases hr
 ·obtain ⟨rs,rfl⟩:=nW ys λy hy=>by
   obtain ⟨i,hi⟩:=getElem?_of_mem hy;obtain ⟨r,_,e,_⟩:=hr i y hi;exact ⟨r,e⟩
  have hget:∀i r,rs[i]?=some r->H r=none/\∃w,ws[i]?=some w/\H1 r=some (.lst ((bE ws.length w).map V.int)):=λi r hi=>by
   obtain ⟨r',w,e1,_,e3,e4,e5⟩:=hr i (.ref r) (by rw[getElem?_map,hi];rfl);cases e1;exact ⟨e3,w,e4,e5⟩
  refine q D rs H1 hS hD (λr hm=>?_) ⟨hO,?_,λi r row hi hrow=>?_⟩
  ·obtain ⟨i,hi⟩:=getElem?_of_mem hm;exact (hget i r hi).1
  ·unfold rowsOf;rw[length_map,<-hlen,<-hl,length_map]
  ·obtain ⟨_,w,e1,e2⟩:=hget i r hi;unfold rowsOf at hrow;rw[getElem?_map,e1] at hrow;cases hrow;exact e2
noncomputable def SG:V->V->V
 | .int i,.int j=>.int (i * j)
 |_,_=>.non
theorem nO (f:Int->Int->Int) (g:V->V->V) (hg:∀i j,g (.int i) (.int j)=.int (f i j)):∀xs ys:List Int,zipWith g (xs.map V.int) (ys.map V.int)=(zipWith f xs ys).map V.int
 |[],ys=>rfl
 |x::xs,[]=>rfl
 |x::xs,y::ys=>by
  simp only [map_cons,zipWith_cons_cons,hg,nO f g hg xs ys]
theorem fC {xs:List Int} {i:Nat} {x:V} (h:(xs.map V.int)[i]?=some x):∃k,xs[i]?=some k/\x=.int k:=by
 rw[getElem?_map] at h;cases e:xs[i]? with
 |none=>rw[e] at h;cases h
 |some k=>rw[e] at h;exact ⟨k,rfl,(Option.some.inj h).symm⟩
noncomputable def Df (xs:List Int):Prop:=∀x∈xs,0<=x/\x<=1000000
noncomputable def bQ (K:Fg):Sp:=λvs H Q _=>∃(p r:Addr) (xs ys:List Int),vs=[.ref p,.ref r]/\H p=some (.lst (xs.map V.int))/\H r=some (.lst (ys.map V.int))/\Df xs/\xs.length<=1000/\∀H',aC H H'->Q (.int (dot xs ys)) H'
noncomputable def aY (K:Fg):List (SX K):=
 [ret (sum (comp (bin .Mult (var 0) (var 1)) (JB [0,1]) (UD (var 0) (var 1)) ["count","size"] [] []))]
theorem eG:TT (bQ K) (aY K) ["row","before"]:=by
 intro vs H Q E h;obtain ⟨p,r,xs,ys,rfl,hp,hr,hF,hl,q⟩:=h;unfold aY;walk_at "";refine vZ (aP.of hp) (aP.of hr) ?_;intro D hD;refine qR SG (aP.of hp) (aP.of hr) hD (small (by rw[length_map];lia)) (λi x y H1 Q' hx hy hS fin=>?_) λH1 hS hO=>?_
 ·obtain ⟨k,hk,rfl⟩:=fC hx;obtain ⟨j,hj,rfl⟩:=fC hy;have:=hF k (mem_of_getElem? hk);walk_at "";exact fin H1 (aC.refl _)
 ·refine ⟨D,zipWith (· * ·) xs ys,rfl,?_,q H1 hS⟩;rw[hO,nO (· * ·) SG λ_ _=>rfl]
noncomputable def fN (K:Fg):Sp:=λvs H Q _=>∃(p r:Addr) (rs:List Addr) (rows:List (List Int)) (ys:List Int),vs=[.ref p,.ref r]/\IE H p rs rows/\H r=some (.lst (ys.map V.int))/\(∀xs∈rows,Df xs/\xs.length<=1000)/\rows.length<=1000/\
 ∀t H',aC H H'->H t=none->H' t=some (.lst ((rows.map λxs=>dot xs ys).map V.int))->Q (.ref t) H'
noncomputable def lF (K:Fg):List (SX K):=
 [ret (comp (call "signs_behind" (bQ K) [var 0,var 1]) (gR 0) (iG (var 0)) ["row"] ["before"] [1])]
theorem uJ:TT (fN K) (lF K) ["rows","before"]:=by
 intro vs H Q E h;obtain ⟨p,r,rs,rows,ys,rfl,hT,hr,hF,hl,q⟩:=h;unfold lF;walk_at "";refine gT (aP.of hT.1) ?_;intro D hD;have hlen:(rs.map V.ref).length=rows.length:=by rw[length_map];exact hT.2.1
 refine iY (λi=>.int ((rows[i]?.map λxs=>dot xs ys).getD 0)) (aP.of hT.1) hD (small (by lia)) (λi x H1 Q' hx hS fin=>?_) λH1 hS hO=>?_
 ·have hi:i<rows.length:=by rw[<-hlen];exact (List.getElem?_eq_some_iff.mp hx).1
  have hi2:i<rs.length:=by rw[hT.2.1];exact hi
  have ex:x=.ref rs[i]:=by
   rw[getElem?_map,List.getElem?_eq_getElem hi2] at hx;exact (Option.some.inj hx).symm
  subst ex;have hF1:=hF _ (getElem_mem hi);rw[List.getElem?_eq_getElem hi] at fin;walk_at "";refine ⟨rs[i],r,rows[i],ys,rfl,hS _ _ (hT.2.2 i _ _ (List.getElem?_eq_getElem hi2) (List.getElem?_eq_getElem hi)),hS _ _ hr,hF1.1,hF1.2,λH2 hS2=>?_⟩;exact fin H2 hS2
 ·refine q D H1 hS hD ?_;rw[hO,hlen];have e:((range rows.length).map λi=>V.int ((rows[i]?.map λxs=>dot xs ys).getD 0))=((range rows.length).map λi=>(rows[i]?.map λxs=>dot xs ys).getD 0).map V.int:=by rw[map_map];rfl
  rw[e,iS]
theorem kY {α:Type} (x:α):∀n:Nat,(replicate n [x]).flatten=replicate n x
 |0=>rfl
 |n+1=>by rw[replicate_succ,flatten_cons,kY x n];rfl
theorem qN {n:Nat} {z:Str} (h:z.length<=100000):Df (bE n z):=λx hx=>by
 unfold bE at hx;obtain ⟨k,_,rfl⟩:=mem_map.mp hx;have h1:=Bp z k;have h2:=Bq z k;lia
theorem xH {ws:List Str} (hw:∀w∈ws,fG ws.length w) (t:Nat):((rowsOf ws).map λxs=>dot xs (gZ ws t))=gZ ws (t+1):=by
 unfold rowsOf;rw[map_map];show _=ws.map (sg (gZ ws t));refine map_congr_left λw h=>?_;have e:=lA (ds:=gZ ws t) (z:=w) (by rw[gE];exact hw w h);rw[gE] at e;exact e
noncomputable def pA (K:Fg):Sp:=λvs H Q _=>∃(a:Addr) (ws:List Str) (t:Int),vs=[.ref a,.int t]/\uC K H a ws/\(∀w∈ws,fG ws.length w/\w.length<=100000)/\0<=t/\t<=1000000/\
 ∀r H',aC H H'->H r=none->H' r=some (.lst ((gZ ws t.toNat).map V.int))->Q (.ref r) H'
noncomputable def ET (K:Fg):List (SX K):=
 [set 2 (call "table" (kD K) [var 0]),
  set 3 (bin .Mult (lst [cst (.int 1)]) (len (var 0))),
  jP (gR 4) (rT (var 1) []) [set 3 (call "sizes_once" (fN K) [var 2,var 3])],
  ret (var 3)]
theorem none_of {H H':Hp} {r:Addr} (e:aC H H') (h:H' r=none):H r=none:=by
 cases q:H r with
 |none=>rfl
 |some o=>rw[e _ _ q] at h;cases h
theorem QE:TT (pA K) (ET K) ["rule","times","rows","made","turn"]:=by
 intro vs H Q E h;obtain ⟨a,ws,t,rfl,hR,hw,h0,ht,q⟩:=h;have h4:=hR.four;have hlen:(ws.map V.str).length=ws.length:=length_map _;unfold ET;walk_at "";refine ⟨a,ws,rfl,hR,λp rs H1 hS1 _ _ hT=>?_⟩;have hq1:=aC.seqT hS1 hR.tp;walk_at "";refine ⟨by show 1<=sizeLine;decide,λl hl=>?_⟩;have s2:=aE hl (.lst [V.int 1]);have hq2:=aC.seqT s2 hq1;walk_at "";refine DT (xs:=[V.int 1]) aA ⟨by lia,by lia⟩ (small (by show 1 * _<=_;lia)) λr hr=>?_;have s3:=aE hr (.lst (replicate (((ws.map V.str).length:Nat):Int).toNat [V.int 1]).flatten);walk_at "";have hrow:∀xs∈rowsOf ws,Df xs/\xs.length<=1000:=λxs hx=>by
  unfold rowsOf at hx;obtain ⟨w,hm,rfl⟩:=mem_map.mp hx;exact ⟨qN (hw w hm).2,by rw[dR];lia⟩
 refine eP (λi σ H'=>aC H1 H'/\∃(u:Addr) (a4:Option V),H u=none/\H' u=some (.lst ((gZ ws i).map V.int))/\σ=[some (.ref a),some (.int t),some (.ref p),some (.ref u),a4])
  ⟨s2.trans s3,r,none,none_of (hS1.trans s2) hr,?_,rfl⟩ (λi σ H' hi hP=>?_) λσ H' hP=>?_
 ·rw[aA,hlen,toNat_natCast,kY];show _=some (HO.lst ((replicate ws.length (1:Int)).map V.int));rw[List.map_replicate]
 ·obtain ⟨hS,u,a4,hu,hu2,rfl⟩:=hP;walk_at "";refine ⟨p,u,rs,rowsOf ws,gZ ws i,rfl,hT.same hS,hu2,hrow,?_,λv H2 hS2 hv hv2=>?_⟩
  ·unfold rowsOf;rw[length_map];lia
  ·rw[xH λw hm=>(hw w hm).1] at hv2;exact ⟨hS.trans hS2,v,_,none_of (hS1.trans hS) hv,hv2,rfl⟩
 ·obtain ⟨hS,u,a4,hu,hu2,rfl⟩:=hP;walk_at "";exact q u H' (hS1.trans hS) hu hu2
theorem AU (w:Str) (c:Nat) (h:1<=w.length):Txt.startswith w ⟨#[c]⟩=decide ((ls w)[0]?=some c):=by
 unfold Txt.startswith;have e:=StrLaws.subAt_one w c 0;rw[Bool.eq_iff_iff,decide_eq_true_iff];show (decide ((⟨#[c]⟩:Str).length<=w.length)&&_)=true↔_;rw[and_eq_true];constructor
 ·rintro ⟨h1,h2⟩;exact e.mp ⟨by simpa using of_decide_eq_true h1,h2⟩
 ·intro z;obtain ⟨h1,h2⟩:=e.mpr z;exact ⟨decide_eq_true h,h2⟩
noncomputable def pC (K:Fg):Sp:=λvs H Q _=>∃(a:Addr) (ws:List Str) (c:Nat),vs=[.ref a,sgn c]/\uC K H a ws/\(∀w∈ws,1<=w.length/\w.length<=100)/\97<=c/\∀H',aC H H'->Q (.bl (aJ ws c)) H'
noncomputable def EV (K:Fg):List (SX K):=
 [set 2 (VU (call "words_by_letter" (bO K) [var 0]) (var 1) (cst (.str ""))),
  ret (zX (cmp .Gt (len (var 2)) (cst (.int 1))) [m_startswith (var 2) (var 1)])]
theorem QG:TT (pC K) (EV K) ["rule","start","word"]:=by
 intro vs H Q E h;obtain ⟨a,ws,c,rfl,hR,hle,hc,q⟩:=h;unfold EV;walk_at "";refine ⟨a,ws,rfl,hR,λd H1 hS1 _ hd=>?_⟩;obtain ⟨kvs,hk,_⟩:=id hd;refine Lz hk ?_;walk_at "";have f:=q H1 hS1;unfold aJ at f;by_cases hl:c - 97<ws.length
 ·have hw:=hle _ (getElem_mem hl);refine MV (hd.get hc (List.getElem?_eq_getElem hl)) ?_;rw[List.getElem?_eq_getElem hl] at f;rw[show (some (V.str ws[c - 97])).getD (V.str (Str.ofString ""))=V.str ws[c - 97] from rfl];walk_at "";refine eS (small (by lia)) ?_;walk_at "";simp only [decide_eq_true hc,Bool.true_and] at f;refine fT (λc1=>?_) λc1=>?_
  ·walk_at "";show Q (.bl (Txt.startswith ws[c - 97] ⟨#[c]⟩)) H1;rw[AU _ _ hw.1];rw[decide_eq_true (show 1<(ws[c - 97]).length by lia),Bool.true_and] at f;exact f
  ·rw[decide_eq_false (show ¬1<(ws[c - 97]).length by lia),Bool.false_and] at f;rw[decide_eq_false c1];exact f
 ·refine MV (hd.miss (by lia)) ?_;rw[List.getElem?_eq_none_iff.mpr (by lia)] at f;rw[show (none:Option V).getD (V.str (Str.ofString ""))=V.str (Str.ofString "") from rfl];walk_at "";refine eS (by decide+kernel) ?_;walk_at "";have e:(Str.ofString "").length=0:=by decide+kernel
  refine fT (λc1=>?_) λc1=>?_
  ·rw[e] at c1;lia
  ·rw[decide_eq_false c1];exact f
theorem MQ {E:XS} {σ:St} {H:Hp} {D:Ends} {o i a:EX K} (h:a.t E σ H λx H1=>o.t E σ H1 λy H2=>i.t E σ H2 λz H3=>RA y z x H3 λH4=>D.nx σ H4):(put o i a).t E D σ H:=h
theorem MP {H:Hp} {Q:Hp->Prop} {p:Addr} {xs:List V} {k:Nat} {v:V} (e:H p=some (.lst xs)) (hk:k<xs.length) (h:Q (upd H p (.lst (xs.set k v)))):RA (.ref p) (.int k) v H Q:=
 .inl ⟨p,xs,k,k,rfl,rfl,e,by unfold PN;rw[if_pos (by lia),if_pos (by lia)];simp,h⟩
theorem EH (ns:List Int) (lo hi:Option Int):∃ms:List Int,lC (ns.map V.int) lo hi=ms.map V.int/\ms.length<=ns.length:=by
 refine ⟨(ns.drop (HT.dB ns.length 0 lo)).take (HT.dB ns.length ns.length hi - HT.dB ns.length 0 lo),?_,?_⟩
 ·unfold lC;rw[length_map,List.map_take,List.map_drop]
 ·rw[length_take,length_drop];lia
noncomputable def FA (m:List Int) (x:Int) (row:List Int):List Int:=zipWith (·+·) m (row.map (x * ·))
noncomputable def accN (rows:List (List Int)) (ns:List Int):Nat->List Int
 |0=>replicate rows.length 0
 |k+1=>FA (accN rows ns k) (ns[k]?.getD 0) (rows[k]?.getD [])
noncomputable def nB (rows:List (List Int)) (ns:List Int):List Int:=accN rows ns rows.length
noncomputable def zR (rows:List (List Int)) (ns:List Int):Nat->List Int
 |0=>ns
 |t+1=>nB rows (zR rows ns t)
theorem wV {rows:List (List Int)} {ns:List Int} (h:∀r∈rows,r.length=rows.length):∀k,k<=rows.length->(accN rows ns k).length=rows.length
 |0,_=>length_replicate
 |k+1,hk=>by
  show (zipWith _ _ _).length=_;have hk':k<rows.length:=by lia
  rw[length_zipWith,wV h k (by lia),length_map,List.getElem?_eq_getElem hk'];show min _ (rows[k]).length=_;rw[h _ (getElem_mem hk')];lia
theorem EZ {rows:List (List Int)} {ns:List Int} (h:∀r∈rows,r.length=rows.length) {j:Nat} (hj:j<rows.length):∀k,k<=rows.length->(accN rows ns k)[j]?=some (((range k).map λi=>(ns[i]?.getD 0) * ((rows[i]?.getD [])[j]?.getD 0)).sum)
 |0,_=>by
  show (replicate rows.length (0:Int))[j]?=_;rw[List.getElem?_replicate,if_pos hj];rfl
 |k+1,hk=>by
  have hk':k<rows.length:=by lia
  have hr:j<(rows[k]).length:=by rw[h _ (getElem_mem hk')];exact hj
  have e1:((rows[k]?.getD []).map ((ns[k]?.getD 0) * ·))[j]?=some ((ns[k]?.getD 0) * (rows[k])[j]):=by
   rw[getElem?_map,List.getElem?_eq_getElem hk'];show Option.map _ (rows[k])[j]?=_;rw[List.getElem?_eq_getElem hr];rfl
  have e2:((rows[k]?.getD [])[j]?.getD 0)=(rows[k])[j]:=by
   rw[List.getElem?_eq_getElem hk'];show (rows[k])[j]?.getD 0=_;rw[List.getElem?_eq_getElem hr];rfl
  show (zipWith _ _ _)[j]?=_;rw[getElem?_zipWith,EZ h hj k (by lia),e1,range_succ,map_append,List.sum_append];simp only [map_cons,map_nil,sum_cons,List.sum_nil,Int.add_zero,e2]
theorem kO (ws:List Str):∀r∈rowsOf ws,r.length=(rowsOf ws).length:=λr hr=>by
 unfold rowsOf at hr ⊢;obtain ⟨w,_,rfl⟩:=mem_map.mp hr;rw[dR,length_map]
theorem bF (ws:List Str):(rowsOf ws).length=ws.length:=length_map _
theorem FY {ws:List Str} {i:Nat} (h:i<ws.length) (h2:i<(rowsOf ws).length):(rowsOf ws)[i]=bE ws.length ws[i]:=List.getElem_map ..
theorem tM (ws:List Str) (ns:List Int):(nB (rowsOf ws) ns).length=ws.length:=by
 unfold nB;rw[wV (kO ws) _ (Nat.le_refl _),bF]
theorem FG (f g:Nat->Int):∀(n:Nat),(zipWith (· * ·) ((range n).map f) ((range n).map g))=(range n).map λi=>f i * g i:=by
 intro n;rw[List.zipWith_map];induction n generalizing f g with
 |zero=>rfl
 |succ n ih=>
  rw[range_succ_eq_map];simp only [zipWith_cons_cons,map_cons,List.zipWith_map,map_map];have e:=ih (f∘Nat.succ) (g∘Nat.succ)
  congr 1
theorem CK {ws:List Str} {z:Str} (hz:fG ws.length z):nB (rowsOf ws) (bE ws.length z)=bE ws.length (img ws z):=by
 refine ext_getElem? λj=>?_;by_cases hj:j<ws.length
 ·unfold nB;rw[EZ (kO ws) (by rw[bF];exact hj) _ (Nat.le_refl _),gC hj,bF]
  congr 1
  have e:((range ws.length).map λi=>((bE ws.length z)[i]?.getD 0) * (((rowsOf ws)[i]?.getD [])[j]?.getD 0))=(range ws.length).map λi=>cnt z i * ((ws.map λw=>cnt w j)[i]?.getD 0):=by
   refine map_congr_left λi hi=>?_;have hi':=mem_range.mp hi;unfold rowsOf;rw[gC hi',getElem?_map,getElem?_map,List.getElem?_eq_getElem hi'];show cnt z i * ((bE ws.length ws[i])[j]?.getD 0)=cnt z i * cnt ws[i] j;rw[gC hj];rfl
  have hl:(ws.map λw=>cnt w j).length=ws.length:=length_map _;have d:=lA (ds:=ws.map λw=>cnt w j) (z:=z) (by rw[hl];exact hz);unfold dot bE at d;rw[hl] at d;have e2:(ws.map λw=>cnt w j)=(range ws.length).map λi=>(ws.map λw=>cnt w j)[i]?.getD 0:=by
   have e3:=iS ws (λw=>cnt w j) 0;rw[<-e3];refine map_congr_left λi hi=>?_;have hi':=mem_range.mp hi;rw[e3,getElem?_map]
  rw[e,<-FG (cnt z) λi=>(ws.map λw=>cnt w j)[i]?.getD 0,<-e2,d];unfold sg cnt;rw[jO];have:∀l:List Nat,(∀c∈l,97<=c/\c<97+ws.length)->(l.map λc=>(ws.map λw=>(((ls w).count (97+j):Nat):Int))[c - 97]?.getD 0).sum=(((l.flatMap (wd ws)).count (97+j):Nat):Int):=by
   intro l;induction l with
   |nil=>intro _;rfl
   |cons c l ih=>
    intro hc;have h1:=hc c mem_cons_self;have hlt:c - 97<ws.length:=by lia
    have e5:wd ws c=ls ws[c - 97]:=by
     unfold wd;rw[List.getElem?_eq_getElem hlt];rfl
    rw[map_cons,sum_cons,ih λd hd=>hc d (mem_cons_of_mem _ hd),List.flatMap_cons,List.count_append,e5,getElem?_map,List.getElem?_eq_getElem hlt];show (((ls ws[c - 97]).count (97+j):Nat):Int)+_=_;lia
  exact this (ls z) hz
 ·rw[List.getElem?_eq_none_iff.mpr (by rw[tM];lia),List.getElem?_eq_none_iff.mpr (by rw[dR];lia)]
theorem qW {ws:List Str} {z:Str} (hw:∀w∈ws,fG ws.length w) (hz:fG ws.length z):∀t,zR (rowsOf ws) (bE ws.length z) t=bE ws.length (Gs ws z t)
 |0=>rfl
 |t+1=>by
  show nB (rowsOf ws) (zR (rowsOf ws) (bE ws.length z) t)=_;rw[qW hw hz t,CK (TC hw hz t)];rfl
theorem wO {ws:List Str} {ns:List Int} (h:ns.length=ws.length):∀t,(zR (rowsOf ws) ns t).length=ws.length
 |0=>h
 |_+1=>tM ws _
theorem GS {σ:St} {H:Hp} {D:Ends} {p r:Addr} {xs ys:List V} {m n:Nat} {tb:TS} (hp:aP K H p xs) (hr:aP K H r ys) (Pv:Nat->St->Hp->Prop) (h0:Pv 0 σ H) (hk:∀i σ1 H1,Pv i σ1 H1->aC H H1)
  (hs:∀i x y σ1 H1 H2,xs[i]?=some x->ys[i]?=some y->Pv i σ1 H1->aC H1 H2->tb {D with nx:=Pv (i+1),ct:=Pv (i+1),bk:=D.nx} ((σ1.set m (some x)).set n (some y)) H2) (hd:∀σ1 H1,Pv (min xs.length ys.length) σ1 H1->D.nx σ1 H1):
  nH (Jo K p r) (JB [m,n]:TX K).g tb D σ H:=by
 refine ⟨λi k σ1 H1=>k=min xs.length ys.length - i/\i<=min xs.length ys.length/\Pv i σ1 H1,⟨_,rfl,zero_le _,h0⟩,?_⟩;rintro i k σ1 H1 ⟨rfl,hi,hP⟩;have hS:=hk i σ1 H1 hP;have hp1:=hS.seq hp;have hr1:=hS.seq hr;by_cases hlt:i<min xs.length ys.length
 ·have l1:i<xs.length:=by lia
  have l2:i<ys.length:=by lia
  refine .inr ⟨⟨xs,ys,xs[i],ys[i],hp1,hr1,List.getElem?_eq_getElem l1,List.getElem?_eq_getElem l2⟩,Pv (i+1),λσ3 H3 q=>⟨min xs.length ys.length - (i+1),by lia,rfl,hlt,q⟩,?_⟩;rintro v H' ⟨a,x,y,ha,rfl,rfl,hx,hy⟩;exact qG (cZ.of aA) (hs i x y σ1 H1 _ (hx _ hp1) (hy _ hr1) hP (aE ha _))
 ·have e:i=min xs.length ys.length:=by lia
  subst e;exact .inl ⟨⟨xs,ys,hp1,hr1,by lia⟩,hd σ1 H1 hP⟩
noncomputable def Jf:V->V->V
 | .int i,.int j=>.int (i+j)
 |_,_=>.non
noncomputable def pD (K:Fg):Sp:=λvs H Q _=>∃(p r:Addr) (xs ys:List Int),vs=[.ref p,.ref r]/\H p=some (.lst (xs.map V.int))/\H r=some (.lst (ys.map V.int))/\xs.length<=1000/\∀t H',aC H H'->H t=none->H' t=some (.lst ((zipWith (·+·) xs ys).map V.int))->Q (.ref t) H'
noncomputable def EW (K:Fg):List (SX K):=
 [ret (comp (bin .Add (var 0) (var 1)) (JB [0,1]) (UD (var 0) (var 1)) ["left","right"] [] [])]
theorem QI:TT (pD K) (EW K) ["one","other"]:=by
 intro vs H Q E h;obtain ⟨p,r,xs,ys,rfl,hp,hr,hl,q⟩:=h;unfold EW;walk_at "";refine vZ (aP.of hp) (aP.of hr) ?_;intro D hD;refine qR Jf (aP.of hp) (aP.of hr) hD (small (by rw[length_map];lia)) (λi x y H1 Q' hx hy hS fin=>?_) λH1 hS hO=>?_
 ·obtain ⟨k,hk,rfl⟩:=fC hx;obtain ⟨j,hj,rfl⟩:=fC hy;walk_at "";exact fin H1 (aC.refl _)
 ·refine q D H1 hS hD ?_;rw[hO,nO (·+·) Jf λ_ _=>rfl]
noncomputable def XB (x:Int):V->V
 | .int j=>.int (x * j)
 |_=>.non
noncomputable def hZ (K:Fg):Sp:=λvs H Q _=>∃(p r:Addr) (rs:List Addr) (ws:List Str) (ns:List Int),vs=[.ref p,.ref r]/\IE H p rs (rowsOf ws)/\H r=some (.lst (ns.map V.int))/\ns.length=ws.length/\ws.length<=4/\(∀w∈ws,w.length<=100000)/\
 ∀t H',aC H H'->H t=none->H' t=some (.lst ((nB (rowsOf ws) ns).map V.int))->Q (.ref t) H'
noncomputable def jK (K:Fg):List (SX K):=
 [set 2 (bin .Mult (lst [cst (.int 0)]) (len (var 0))),
  jP (JB [3,4]) (UD (var 1) (var 0)) [set 2 (call "added" (pD K) [var 2,comp (bin .Mult (var 1) (var 0)) (gR 0) (iG (var 4)) ["count"] ["number"] [3]])],
  ret (var 2)]
theorem rN:TT (hZ K) (jK K) ["rows","numbers","made","number","row"]:=by
 intro vs H Q E h;obtain ⟨p,r,rs,ws,ns,rfl,hT,hr,hl,h4,hw,q⟩:=h;have hrl:(rs.map V.ref).length=ws.length:=by rw[length_map,hT.2.1,bF]
 have hnl:(ns.map V.int).length=ws.length:=by rw[length_map,hl]
 unfold jK;walk_at "";refine ⟨by show 1<=sizeLine;decide,λl hl'=>?_⟩;have s1:=aE hl' (.lst [V.int 0]);have hqq:aP K (upd H l (.lst [V.int 0])) p (rs.map V.ref):=aP.of (s1 _ _ hT.1);walk_at "";refine DT (xs:=[V.int 0]) aA ⟨by lia,by lia⟩ (small (by show 1 * _<=_;lia)) λl2 hl2=>?_;have s2:=aE hl2 (.lst (replicate (((rs.map V.ref).length:Nat):Int).toNat [V.int 0]).flatten);have s12:=s1.trans s2;walk_at "";have gp:=s12 _ _ hT.1;have gr:=s12 _ _ hr;refine vZ (aP.of gr) (aP.of gp) ?_;refine GS (aP.of gr) (aP.of gp) (λi σ H'=>aC (upd (upd H l (.lst [V.int 0])) l2 (.lst (replicate (((rs.map V.ref).length:Nat):Int).toNat [V.int 0]).flatten)) H'/\∃(u:Addr) (a3 a4:Option V),H u=none/\H' u=some (.lst ((accN (rowsOf ws) ns i).map V.int))/\σ=[some (.ref p),some (.ref r),some (.ref u),a3,a4])
  ⟨aC.refl _,l2,none,none,none_of s1 hl2,?_,rfl⟩ (λi σ1 H1 hP=>hP.1) (λi x y σ1 H1 H2 hx hy hP hS2=>?_) λσ1 H1 hP=>?_
 ·rw[aA,hrl,toNat_natCast,kY];show _=some (HO.lst ((replicate (rowsOf ws).length (0:Int)).map V.int));rw[List.map_replicate,bF]
 ·obtain ⟨hS1,u,a3,a4,hu,hu1,rfl⟩:=hP;obtain ⟨k,hk,rfl⟩:=fC hx;have hi:i<ws.length:=by rw[<-hl];exact (List.getElem?_eq_some_iff.mp hk).1
  have hi2:i<rs.length:=by rw[hT.2.1,bF];exact hi
  have hi3:i<(rowsOf ws).length:=by rw[bF];exact hi
  have ey:y=.ref rs[i]:=by
   rw[getElem?_map,List.getElem?_eq_getElem hi2] at hy;exact (Option.some.inj hy).symm
  subst ey;have hrow:H2 rs[i]=some (.lst (((rowsOf ws)[i]).map V.int)):=hS2 _ _ (hS1 _ _ (s12 _ _ (hT.2.2 i _ _ (List.getElem?_eq_getElem hi2) (List.getElem?_eq_getElem hi3))));have hfew:Df ((rowsOf ws)[i]):=by
   rw[FY hi hi3];exact qN (hw _ (getElem_mem hi))
  have hrowl:((rowsOf ws)[i]).length=ws.length:=by rw[kO ws _ (getElem_mem hi3),bF]
  walk_at "";refine gT (aP.of hrow) ?_;intro D hD;refine NY (XB k) (aP.of hrow) hD (small (by rw[length_map];lia)) (λj x H3 Q' hx3 hS3 fin=>?_) λH3 hS3 hO=>?_
  ·obtain ⟨c,hc,rfl⟩:=fC hx3;have:=hfew c (mem_of_getElem? hc);walk_at "";exact fin H3 (aC.refl _)
  ·walk_at "";have hO2:H3 D=some (.lst ((((rowsOf ws)[i]).map (k * ·)).map V.int)):=by
    rw[hO,map_map,map_map];rfl
   refine ⟨u,D,_,_,rfl,hS3 _ _ (hS2 _ _ hu1),hO2,?_,λt H4 hS4 ht ht4=>?_⟩
   ·rw[wV (kO ws) _ (by lia),bF];lia
   ·have hSS:=(hS1.trans hS2).trans hS3;refine ⟨hSS.trans hS4,t,_,_,none_of (s12.trans hSS) ht,?_,rfl⟩;rw[ht4];show _=some (HO.lst ((FA (accN (rowsOf ws) ns i) (ns[i]?.getD 0) ((rowsOf ws)[i]?.getD [])).map V.int));rw[hk,List.getElem?_eq_getElem hi3];rfl
 ·obtain ⟨hS1,u,a3,a4,hu,hu1,rfl⟩:=hP;walk_at "";refine q u H1 (s12.trans hS1) hu ?_;rw[hu1,hnl,hrl,Nat.min_self];unfold nB;rw[bF]
noncomputable def fZ (K:Fg):Sp:=λvs H Q _=>∃(a r:Addr) (ws:List Str) (ns:List Int) (t:Int),vs=[.ref a,.ref r,.int t]/\uC K H a ws/\H r=some (.lst (ns.map V.int))/\ns.length=ws.length/\(∀w∈ws,w.length<=100000)/\0<=t/\t<=1000000/\
 ∀u H',aC H H'->H u=none->H' u=some (.lst ((zR (rowsOf ws) ns t.toNat).map V.int))->Q (.ref u) H'
noncomputable def gU (K:Fg):List (SX K):=
 [set 3 (call "table" (kD K) [var 0]),
  set 4 (listE (var 1)),
  jP (gR 5) (rT (var 2) []) [set 4 (call "counts_once" (hZ K) [var 3,var 4])],
  ret (var 4)]
theorem nJ:TT (fZ K) (gU K) ["rule","numbers","times","rows","made","turn"]:=by
 intro vs H Q E h;obtain ⟨a,r,ws,ns,t,rfl,hR,hr,hl,hw,h0,ht,q⟩:=h;unfold gU;walk_at "";refine ⟨a,ws,rfl,hR,λp rs H1 hS1 _ _ hT=>?_⟩;walk_at "";refine ⟨_,.inl (aP.of (hS1 _ _ hr)),λl hl'=>?_⟩;have s2:=aE hl' (.lst (ns.map V.int));walk_at "";refine eP (λi σ H'=>aC H1 H'/\∃(u:Addr) (a5:Option V),H u=none/\H' u=some (.lst ((zR (rowsOf ws) ns i).map V.int))/\σ=[some (.ref a),some (.ref r),some (.int t),some (.ref p),some (.ref u),a5])
  ⟨s2,l,none,none_of hS1 hl',aA,rfl⟩ (λi σ H' hi hP=>?_) λσ H' hP=>?_
 ·obtain ⟨hS,u,a5,hu,hu2,rfl⟩:=hP;walk_at "";refine ⟨p,u,rs,ws,_,rfl,hT.same hS,hu2,wO hl i,hR.four,hw,λv H2 hS2 hv hv2=>?_⟩;exact ⟨hS.trans hS2,v,_,none_of (hS1.trans hS) hv,hv2,rfl⟩
 ·obtain ⟨hS,u,a5,hu,hu2,rfl⟩:=hP;walk_at "";exact q u H' (hS1.trans hS) hu hu2
theorem CV (h:j<ws.length):∃x,(gZ ws k)[j]?=some x:=⟨(gZ ws k)[j]'(by rw[gE];exact h),List.getElem?_eq_getElem _⟩
noncomputable def sz (ws:List Str) (k c:Nat):Int:=(gZ ws k)[c - 97]?.getD 0
noncomputable def aN (ws:List Str) (k:Nat) (l:List Nat):Int:=(l.map (sz ws k)).sum
theorem nS (h2:c - 97<ws.length):sz ws 0 c=1:=by
 show (replicate ws.length (1:Int))[c - 97]?.getD 0=1;rw[List.getElem?_replicate,if_pos h2];rfl
theorem eZ (h2:c - 97<ws.length):sz ws (k+1) c=aN ws k (wd ws c):=by
 show (ws.map (sg (gZ ws k)))[c - 97]?.getD 0=_;rw[getElem?_map,List.getElem?_eq_getElem h2];unfold wd;rw[List.getElem?_eq_getElem h2];rfl
structure Ru (ws:List Str):Prop where
 pos:1<=ws.length
 four:ws.length<=4
 isw:∀w∈ws,fG ws.length w
 one:∀w∈ws,1<=w.length
 le:∀w∈ws,w.length<=100
theorem Ru.word (h:Ru ws) (h2:c - 97<ws.length):∃w,ws[c - 97]?=some w/\wd ws c=ls w/\w∈ws:=by
 refine ⟨ws[c - 97],List.getElem?_eq_getElem h2,?_,getElem_mem h2⟩;unfold wd;rw[List.getElem?_eq_getElem h2];rfl
theorem Ru.sign (h:Ru ws) (h2:c - 97<ws.length) (hd:d∈wd ws c):97<=d/\d - 97<ws.length:=by
 obtain ⟨w,_,e,hm⟩:=h.word h2;rw[e] at hd;have:=h.isw w hm d hd;lia
theorem jZ (h:∀c∈l,1<=sz ws k c):(l.length:Int)<=aN ws k l:=by
 induction l with
 |nil=>exact Int.le_refl _
 |cons c l ih=>
  have h1:=h c mem_cons_self;have h2:=ih λd hd=>h d (mem_cons_of_mem _ hd);have e:aN ws k (c::l)=sz ws k c+aN ws k l:=by unfold aN;rw[map_cons,sum_cons]
  rw[e,length_cons];lia
theorem uM (h:Ru ws):∀(k c:Nat),c - 97<ws.length->1<=sz ws k c
 |0,c,h2=>by rw[nS h2];exact Int.le_refl _
 |k+1,c,h2=>by
  rw[eZ h2];have:=jZ (ws:=ws) (k:=k) (l:=wd ws c) λd hd=>uM h k d (h.sign h2 hd).2;obtain ⟨w,_,e,hm⟩:=h.word h2;have h1:=h.one w hm;rw[e,aO] at this;rw[e];lia
noncomputable def bG (ws:List Str) (k:Nat):List Nat->Int->Nat × Int
 |[],x=>(0,x)
 |c::l,x=>if sz ws k c<=x then ((bG ws k l (x - sz ws k c)).1+1,(bG ws k l (x - sz ws k c)).2) else (0,x)
theorem wH:∀(l:List Nat) (x:Int),0<=x->x<aN ws k l->(bG ws k l x).1<l.length/\0<=(bG ws k l x).2/\(∀d,l[(bG ws k l x).1]?=some d->(bG ws k l x).2<sz ws k d)/\(bG ws k l x).2=x - aN ws k (l.take (bG ws k l x).1)
 |[],x,h0,h=>by
  have e:aN ws k []=0:=rfl;rw[e] at h;lia
 |c::l,x,h0,h=>by
  have e:aN ws k (c::l)=sz ws k c+aN ws k l:=by unfold aN;rw[map_cons,sum_cons]
  rw[e] at h;unfold bG;by_cases hc:sz ws k c<=x
  ·rw[if_pos hc];obtain ⟨h1,h2,h3,h4⟩:=wH (ws:=ws) (k:=k) l (x - sz ws k c) (by lia) (by lia);refine ⟨by rw[length_cons];show _+1<_;lia,h2,λd hd=>h3 d (by simpa using hd),?_⟩;show (bG ws k l (x - sz ws k c)).2=x - aN ws k ((c::l).take ((bG ws k l (x - sz ws k c)).1+1));rw[List.take_succ_cons];have e2:aN ws k (c::l.take (bG ws k l (x - sz ws k c)).1)=sz ws k c+aN ws k (l.take (bG ws k l (x - sz ws k c)).1):=by unfold aN;rw[map_cons,sum_cons]
   rw[e2,h4];lia
  ·rw[if_neg hc];refine ⟨by rw[length_cons];show 0<_;lia,h0,λd hd=>?_,?_⟩
   ·have hd':c=d:=by simpa using hd
    subst hd';show x<_;lia
   ·show x=x - aN ws k ((c::l).take 0);rw[take_zero];have e0:aN ws k []=0:=rfl;rw[e0];lia
theorem yY:∀(l:List Nat) (x:Int) (s:Nat) (d:Nat),s<=(bG ws k l x).1->l[s]?=some d->(s<(bG ws k l x).1↔sz ws k d<=x - aN ws k (l.take s))
 |[],x,s,d,_,hd=>by simp at hd
 |c::l,x,0,d,_,hd=>by
  have hd':c=d:=by simpa using hd
  subst hd';have e0:aN ws k ((c::l).take 0)=0:=rfl;rw[e0];unfold bG;by_cases hc:sz ws k c<=x
  ·rw[if_pos hc];constructor
   ·intro _;lia
   ·intro _;show 0<_+1;lia
  ·rw[if_neg hc];constructor
   ·intro z;exact absurd z (lt_irrefl 0)
   ·intro z;lia
 |c::l,x,s+1,d,hs,hd=>by
  unfold bG at hs ⊢;by_cases hc:sz ws k c<=x
  ·rw[if_pos hc] at hs ⊢;have ih:=yY (ws:=ws) (k:=k) l (x - sz ws k c) s d (by have:s+1<=(bG ws k l (x - sz ws k c)).1+1:=hs;lia) (by simpa using hd);have e2:aN ws k ((c::l).take (s+1))=sz ws k c+aN ws k (l.take s):=by rw[List.take_succ_cons];unfold aN;rw[map_cons,sum_cons]
   rw[e2];constructor
   ·intro z;have:=ih.mp (by have:s+1<(bG ws k l (x - sz ws k c)).1+1:=z;lia);lia
   ·intro z;have:=ih.mpr (by lia);show s+1<_+1;lia
  ·rw[if_neg hc] at hs;have:s+1<=0:=hs;lia
noncomputable def dQ (ws:List Str):Nat->Nat->Int->List (Nat × Nat)
 |0,_,_=>[]
 |k+1,c,x=>((bG ws k (wd ws c) x).1,(wd ws c)[(bG ws k (wd ws c) x).1]?.getD 0)::dQ ws k ((wd ws c)[(bG ws k (wd ws c) x).1]?.getD 0) (bG ws k (wd ws c) x).2
noncomputable def bW (ws:List Str):Nat->Nat->Int->Nat->Nat × Int
 |_,c,x,0=>(c,x)
 |0,c,x,_+1=>(c,x)
 |k+1,c,x,i+1=>bW ws k ((wd ws c)[(bG ws k (wd ws c) x).1]?.getD 0) (bG ws k (wd ws c) x).2 i
theorem cB (ws:List Str):∀k c x,(dQ ws k c x).length=k
 |0,_,_=>rfl
 |k+1,c,x=>by show (dQ ws k _ _).length+1=_;rw[cB ws k]
noncomputable def Good (ws:List Str) (k c:Nat) (x:Int):Prop:=97<=c/\c - 97<ws.length/\0<=x/\x<sz ws k c
theorem Good.step (h:Ru ws) (g:Good ws (k+1) c x):∃d,(wd ws c)[(bG ws k (wd ws c) x).1]?=some d/\Good ws k d (bG ws k (wd ws c) x).2:=by
 obtain ⟨g1,g2,g3,g4⟩:=g;rw[eZ g2] at g4;obtain ⟨h1,h2,h3,h4⟩:=wH (wd ws c) x g3 g4;refine ⟨(wd ws c)[(bG ws k (wd ws c) x).1],List.getElem?_eq_getElem h1,?_⟩;obtain ⟨s1,s2⟩:=h.sign g2 (getElem_mem h1);exact ⟨s1,s2,h2,h3 _ (List.getElem?_eq_getElem h1)⟩
theorem kZ (h:Ru ws):∀(k c:Nat) (x:Int) (i:Nat),Good ws k c x->i<=k->Good ws (k - i) (bW ws k c x i).1 (bW ws k c x i).2
 |k,c,x,0,g,_=>by unfold bW;exact g
 |0,c,x,i+1,g,hi=>by lia
 |k+1,c,x,i+1,g,hi=>by
  obtain ⟨d,hd,g'⟩:=g.step h;have e:bW ws (k+1) c x (i+1)=bW ws k d (bG ws k (wd ws c) x).2 i:=by
   show bW ws k ((wd ws c)[(bG ws k (wd ws c) x).1]?.getD 0) (bG ws k (wd ws c) x).2 i=_;rw[hd];rfl
  rw[e,show k+1 - (i+1)=k - i by lia];exact kZ h k d _ i g' (by lia)
theorem qM:∀(k c:Nat) (x:Int) (i:Nat),i<k->bW ws k c x (i+1)=((wd ws (bW ws k c x i).1)[(bG ws (k - i - 1) (wd ws (bW ws k c x i).1) (bW ws k c x i).2).1]?.getD 0,(bG ws (k - i - 1) (wd ws (bW ws k c x i).1) (bW ws k c x i).2).2)
 |0,_,_,_,h=>by lia
 |k+1,c,x,0,_=>by
  have e:bW ws (k+1) c x 0=(c,x):=by unfold bW;rfl
  rw[e];show bW ws k _ _ 0=_;unfold bW;cases k<;>rfl
 |k+1,c,x,i+1,h=>by
  have ih:=qM (ws:=ws) k ((wd ws c)[(bG ws k (wd ws c) x).1]?.getD 0) (bG ws k (wd ws c) x).2 i (by lia);show bW ws k _ _ (i+1)=_;rw[ih,show k+1 - (i+1) - 1=k - i - 1 by lia];rfl
theorem wJ:∀(k c:Nat) (x:Int) (i:Nat),i<k->(dQ ws k c x)[i]?=some ((bG ws (k - i - 1) (wd ws (bW ws k c x i).1) (bW ws k c x i).2).1,(bW ws k c x (i+1)).1)
 |0,_,_,_,h=>by lia
 |k+1,c,x,0,_=>by
  have e:bW ws (k+1) c x 0=(c,x):=by unfold bW;rfl
  rw[e];show some _=some _
  congr 2
  show _=(bW ws k _ _ 0).1;unfold bW;cases k<;>rfl
 |k+1,c,x,i+1,h=>by
  have ih:=wJ (ws:=ws) k ((wd ws c)[(bG ws k (wd ws c) x).1]?.getD 0) (bG ws k (wd ws c) x).2 i (by lia);show (dQ ws k _ _)[i]?=_;rw[ih,show k+1 - (i+1) - 1=k - i - 1 by lia];rfl
theorem cJ (h:Ru ws) (hc:97<=c) (h2:c - 97<ws.length) (hg:aJ ws c=true):∀k:Nat,(k:Int)+1<=sz ws k c
 |0=>by rw[nS h2];lia
 |k+1=>by
  obtain ⟨w,hw,e,hm⟩:=h.word h2;have hg':=hg;unfold aJ at hg;rw[hw] at hg;simp only [and_eq_true,decide_eq_true_eq] at hg;obtain ⟨_,g1,g2⟩:=hg;rw[eZ h2,e];cases hl:ls w with
  |nil=>rw[hl] at g2;simp at g2
  |cons d l=>
   rw[hl] at g2;have hd:d=c:=by simpa using g2
   subst hd;have e2:aN ws k (d::l)=sz ws k d+aN ws k l:=by unfold aN;rw[map_cons,sum_cons]
   have hlen:l.length+1=w.length:=by rw[<-aO,hl];rfl
   have h3:=jZ (ws:=ws) (k:=k) (l:=l) λx hx=>uM h k x (h.sign h2 (by rw[e,hl];exact mem_cons_of_mem _ hx)).2;have ih:=cJ h hc h2 hg' k;rw[e2];lia
theorem least [DecidablePred P]:∀{m:Nat},P m->∃k,k<=m/\P k/\∀i,i<k->¬P i
 |0,h=>⟨0,Nat.le_refl _,h,λi hi=>absurd hi (Nat.not_lt_zero _)⟩
 |m+1,h=>by
  by_cases h0:P 0
  ·exact ⟨0,zero_le _,h0,λi hi=>absurd hi (Nat.not_lt_zero _)⟩
  ·obtain ⟨k,h1,h2,h3⟩:=least (P:=λk=>P (k+1)) (m:=m) h;refine ⟨k+1,by lia,h2,λi hi=>?_⟩;cases i with
   |zero=>exact h0
   |succ i=>exact h3 i (by lia)
noncomputable def fM (ws:List Str) (k:Nat):List (List Int):=(range k).map (gZ ws)
theorem jL (ws:List Str) (k:Nat):(fM ws k).length=k:=by unfold fM;rw[length_map,length_range]
theorem jM {ws:List Str} {k i:Nat} (h:i<k):(fM ws k)[i]?=some (gZ ws i):=by unfold fM;rw[getElem?_map,getElem?_range h];rfl
theorem xI (ws:List Str) (k:Nat):fM ws (k+1)=fM ws k++[gZ ws k]:=by unfold fM;rw[range_succ,map_append];rfl
theorem IE.snoc {H H':Hp} {p r:Addr} {rs:List Addr} {rows:List (List Int)} {row:List Int} (h:IE H p rs rows) (hr:H' r=some (.lst (row.map V.int))) (hp:H' p=some (.lst ((rs++[r]).map V.ref))) (hs:∀b o,b≠p->H b=some o->H' b=some o) (hne:∀x∈rs,x≠p):IE H' p (rs++[r]) (rows++[row]):=by
 refine ⟨hp,by rw[length_append,length_append,h.2.1];rfl,λi x y hx hy=>?_⟩;by_cases hi:i<rs.length
 ·rw[getElem?_append_left hi] at hx;rw[getElem?_append_left (by rw[<-h.2.1];exact hi)] at hy;exact hs _ _ (hne x (mem_of_getElem? hx)) (h.2.2 i x y hx hy)
 ·rw[getElem?_append_right (by lia)] at hx;rw[getElem?_append_right (by rw[<-h.2.1];lia),<-h.2.1] at hy;have e0:i - rs.length=0:=by
   have:=(List.getElem?_eq_some_iff.mp hx).1;simp at this;lia
  rw[e0] at hx hy;have e1:r=x:=by simpa using hx
  have e2:row=y:=by simpa using hy
  subst e1 e2;exact hr
theorem yS {m:Int} (h0:0<=m) (h4:m<=4) {c:Nat} (h1:97<=c) (h2:c - 97<m.toNat):∃r,Builtin.Str.occurrences (known m) ⟨#[c]⟩ 0 (known m).length 1=(c - 97)::r:=by
 have hm:m=0\/m=1\/m=2\/m=3\/m=4:=by lia
 have hc:c=97\/c=98\/c=99\/c=100:=by lia
 rcases hm with rfl|rfl|rfl|rfl|rfl<;>rcases hc with rfl|rfl|rfl|rfl<;>first|exact absurd h2 (by decide)|exact ⟨[],by decide+kernel⟩
noncomputable def bZ (K:Fg):Sp:=λvs H Q _=>∃(a:Addr) (ws:List Str) (c:Nat) (n:Int) (k:Nat),vs=[.ref a,sgn c,.int n]/\uC K H a ws/\Ru ws/\97<=c/\c - 97<ws.length/\aJ ws c=true/\k<=400/\n<sz ws k c/\(∀i,i<k->sz ws i c<=n)/\
 ∀p rs H',aC H H'->H p=none->IE H' p rs (fM ws (k+1))->Q (.ref p) H'
theorem DV {E:XS} {σ:St} {H:Hp} {Q:VK} {a:EX K} (h:a.t E σ H λx H1=>GB x H1 Q):(neg a).t E σ H Q:=h
theorem wA {H:Hp} {Q:VK} {i:Int} (h:Q (.int (-i)) H):GB (.int i) H Q:=h
theorem ID {α:Type} {xs:List α} {v:α} (h:xs[xs.length - 1]?=some v):rX xs (-(1:Int))=some v:=by
 have hl:0<xs.length:=by
  by_cases h0:0<xs.length
  ·exact h0
  ·rw[List.getElem?_eq_none_iff.mpr (by lia)] at h;cases h
 have e:xs=xs.dropLast++[v]:=by
  have hne:xs≠[]:=by intro z;rw[z] at hl;exact absurd hl (lt_irrefl 0)
  have e1:=List.dropLast_concat_getLast hne;have e2:xs.getLast hne=v:=by
   rw[List.getLast_eq_getElem];rw[List.getElem?_eq_getElem (by lia)] at h;exact Option.some.inj h
  rw[e2] at e1;exact e1.symm
 rw[e];exact OT _ _
theorem Ru.lens {ws:List Str} (h:Ru ws):∀w∈ws,1<=w.length/\w.length<=100:=λw hw=>⟨h.one w hw,h.le w hw⟩
theorem Ee {ws:List Str} {k c:Nat} (h2:c - 97<ws.length):rX ((gZ ws k).map V.int) ((c - 97:Nat):Int)=some (.int (sz ws k c)):=by
 refine gN ?_;obtain ⟨x,hx⟩:=CV (ws:=ws) (k:=k) h2;rw[getElem?_map,hx];unfold sz;rw[hx];rfl
noncomputable def Nb (H:Hp) (p:Addr) (rs:List Addr) (fs:List (Nat × Nat)):Prop:=H p=some (.lst (rs.map V.ref))/\rs.length=fs.length/\∀(i:Nat) (r:Addr) (f:Nat × Nat),rs[i]?=some r->fs[i]?=some f->H r=some (.tup [.int (f.1:Nat),sgn f.2])
noncomputable def SB (H:Hp) (d:Addr) (ws:List Str) (k:Nat):Prop:=∃kvs,H d=some (.dK kvs)/\∀c,97<=c->c - 97<ws.length->dJ kvs (.inr ⟨#[c]⟩)=some (.int (sz ws k c))
theorem SB.get {H:Hp} {d:Addr} {ws:List Str} {k c:Nat} (h:SB H d ws k) (h1:97<=c) (h2:c - 97<ws.length):eY H d (sgn c) (some (.int (sz ws k c))):=by
 obtain ⟨kvs,e,f⟩:=h;rw[<-f c h1 h2];exact eY.k (k:=.inr ⟨#[c]⟩) e
noncomputable def dE (K:Fg):Sp:=λvs H Q _=>∃(a:Addr) (ws:List Str) (c:Nat) (n:Int) (k:Nat),vs=[.ref a,sgn c,.int n]/\uC K H a ws/\Ru ws/\aJ ws c=true/\k<=400/\Good ws k c n/\(∀i,i<k->sz ws i c<=n)/\
 ∀p rs H',aC H H'->H p=none->(∀r∈rs,H r=none)->Nb H' p rs (dQ ws k c n)->Q (.ref p) H'
theorem AW {E:XS} {σ:St} {H:Hp} {Q:VK} {a r:Addr} {ws:List Str} {k:Nat} (h0:σ[0]?=some (some (.ref a))) (h8:σ[8]?=some (some (.ref r))) (hR:uC K H a ws) (hr:H r=some (.lst ((gZ ws k).map V.int))) (q:∀d H',aC H H'->H d=none->SB H' d ws k->Q (.ref d) H'):
  (UJ (call "letters" (cO K) [len (var 0)]) (var 8):EX K).t E σ H Q:=by
 have h4:=hR.four;have hq:=hR.tp;have hlen:(ws.map V.str).length=ws.length:=length_map _;refine MX (MZ (oG (WA (yU h0 (MU hq (wD ⟨_,rfl,yU h8 ?_⟩))))));have k0:(0:Int)<=((ws.map V.str).length:Nat):=by lia
 have k4:(((ws.map V.str).length:Nat):Int)<=4:=by lia
 have hkl:(known ((ws.map V.str).length:Nat)).cps.size=ws.length:=by
  show (known ((ws.map V.str).length:Nat)).length=_;rw[iX k0 k4];lia
 have hinj:∀i j,i<(known ((ws.map V.str).length:Nat)).cps.size->j<(known ((ws.map V.str).length:Nat)).cps.size->fW (known ((ws.map V.str).length:Nat)) i=fW (known ((ws.map V.str).length:Nat)) j->i=j:=λi j hi hj e=>by
  rw[hkl] at hi hj;rw[cM k0 k4 (by lia),cM k0 k4 (by lia)] at e;have:=uX e;lia
 refine ⟨_,_,(gZ ws k).map V.int,rfl,.inr (aP.of hr),by rw[hkl,length_map,gE],by rw[hkl];lia,?_,hinj,λd hd=>?_⟩
 ·rw[Array.all_eq_true'];intro c hc;have hc':c∈ls (known ((ws.map V.str).length:Nat)):=by simpa [ls] using hc
  rw[dO k0 k4] at hc';obtain ⟨k,hk,rfl⟩:=mem_map.mp hc';have:=mem_range.mp hk;simp;lia
 refine q d _ (aE hd _) hd ⟨_,aA,λc h1 h2=>?_⟩;obtain ⟨x,hx⟩:=CV (ws:=ws) (k:=k) h2;unfold jC;have ek:=cM k0 k4 (show c - 97<(((ws.map V.str).length:Nat):Int).toNat by lia);have e97:97+(c - 97)=c:=by lia
 rw[e97] at ek;rw[<-ek,sF hinj (by rw[hkl];exact h2),getElem?_map,hx];unfold sz;rw[hx];rfl
noncomputable def Off (p:Addr) (H H':Hp):Prop:=∀b o,b≠p->H b=some o->H' b=some o
theorem Off.trans {p:Addr} {H H1 H2:Hp} (a:Off p H H1) (b:aC H1 H2):Off p H H2:=λc o h e=>b c o (a c o h e)
theorem Off.upd {p:Addr} {H H1:Hp} {o:HO} (a:Off p H H1):Off p H (upd H1 p o):=λc u h e=>by rw[aF h];exact a c u h e
theorem Off.same {p:Addr} {H0 H H1:Hp} (s:aC H0 H) (a:Off p H H1) (hp:H0 p=none):aC H0 H1:=λc o e=>a c o (aB e hp) (s c o e)
theorem XO (n d:Nat) (h:0<n):HT.dB n d (some (-(1:Int)))=n - 1:=by
 show (if (-(1:Int))<0 then ((-(1:Int))+(n:Int)).toNat else min (-(1:Int)).toNat n)=n - 1;rw[if_pos (by decide)];lia
theorem Bo {xs:List V} (h:0<xs.length):lC xs none (some (-(1:Int)))=xs.take (xs.length - 1):=by
 unfold lC;rw[HT.pG,XO _ _ h,drop_zero,Nat.sub_zero]
noncomputable def aI (ws:List Str) (l:List Nat):List Nat:=l.flatMap (wd ws)
theorem cX (ws:List Str) (a b:List Nat):aI ws (a++b)=aI ws a++aI ws b:=List.flatMap_append ..
theorem aL (ws:List Str) (c:Nat) (l:List Nat):aI ws (c::l)=wd ws c++aI ws l:=List.flatMap_cons ..
theorem eQ (ws:List Str) (z:Str):img ws z=aG (aI ws (ls z)):=rfl
noncomputable def wk (ws:List Str) (c:Nat):Nat->List Nat
 |0=>[c]
 |k+1=>aI ws (wk ws c k)
noncomputable def bK (ws:List Str) (l:List Nat):Prop:=∀c∈l,97<=c/\c - 97<ws.length
theorem bK.img (h:Ru ws) (hl:bK ws l):bK ws (aI ws l):=λc hc=>by
 unfold aI at hc;obtain ⟨d,hd,hcd⟩:=mem_flatMap.mp hc;exact h.sign (hl d hd).2 hcd
theorem bK.isW (h:bK ws l):fG ws.length (aG l):=λc hc=>by
 rw[aQ] at hc;have:=h c hc;lia
theorem fJ (h:Ru ws) (h1:97<=c) (h2:c - 97<ws.length):∀k,bK ws (wk ws c k)
 |0=>λd hd=>by
  have:d=c:=by simpa [wk] using hd
  subst this;exact ⟨h1,h2⟩
 |k+1=>(fJ h h1 h2 k).img h
theorem sH (ws:List Str) (k:Nat) (a b:List Nat):aN ws k (a++b)=aN ws k a+aN ws k b:=by unfold aN;rw[map_append,List.sum_append]
theorem dD (ws:List Str) (k c:Nat) (l:List Nat):aN ws k (c::l)=sz ws k c+aN ws k l:=by unfold aN;rw[map_cons,sum_cons]
theorem iR:∀{l:List Nat},bK ws l->aN ws k (aI ws l)=aN ws (k+1) l
 |[],_=>rfl
 |c::l,h=>by
  rw[aL,sH,dD,iR λd hd=>h d (mem_cons_of_mem _ hd),eZ (h c mem_cons_self).2]
theorem gF:∀{l:List Nat},bK ws l->aN ws 0 l=l.length
 |[],_=>rfl
 |c::l,h=>by
  rw[dD,nS (h c mem_cons_self).2,gF λd hd=>h d (mem_cons_of_mem _ hd),length_cons];lia
theorem cS (h:Ru ws) (h1:97<=c) (h2:c - 97<ws.length) (k:Nat):((wk ws c k).length:Int)=sz ws k c:=by
 have key:∀j i,j+i=k->aN ws j (wk ws c i)=sz ws k c:=by
  intro j i;induction i generalizing j with
  |zero=>
   intro e;show aN ws j [c]=_;rw[dD,show j=k by lia];show _+0=_;lia
  |succ i ih=>
   intro e;show aN ws j (aI ws (wk ws c i))=_;rw[iR (fJ h h1 h2 i)];exact ih (j+1) (by lia)
 rw[<-key 0 k (by lia),gF (fJ h h1 h2 k)]
theorem sZ (h:Ru ws) (h2:c - 97<ws.length) (hg:aJ ws c=true):∃t,wd ws c=c::t:=by
 obtain ⟨w,hw,e,_⟩:=h.word h2;unfold aJ at hg;rw[hw] at hg;simp only [and_eq_true,decide_eq_true_eq] at hg;rw[e];cases hl:ls w with
 |nil=>rw[hl] at hg;simp at hg
 |cons d t=>
  rw[hl] at hg;have:d=c:=by simpa using hg.2.2
  subst this;exact ⟨t,rfl⟩
theorem AH (h:Ru ws) (h2:c - 97<ws.length) (hg:aJ ws c=true):∀k,∃t,wk ws c (k+1)=wk ws c k++t
 |0=>by
  obtain ⟨t,e⟩:=sZ h h2 hg;refine ⟨t,?_⟩;show aI ws [c]=[c]++t;rw[aL,e];show c::t++[]=_;rw[append_nil];rfl
 |k+1=>by
  obtain ⟨t,e⟩:=AH h h2 hg k;refine ⟨aI ws t,?_⟩;show aI ws (wk ws c (k+1))=aI ws (wk ws c k)++_;rw[e,cX]
theorem nP (h:Ru ws) (h2:c - 97<ws.length) (hg:aJ ws c=true) (k:Nat):∀j,∃t,wk ws c (k+j)=wk ws c k++t
 |0=>⟨[],by rw[append_nil];rfl⟩
 |j+1=>by
  obtain ⟨t,e⟩:=nP h h2 hg k j;obtain ⟨u,f⟩:=AH h h2 hg (k+j);exact ⟨t++u,by rw[show k+(j+1)=(k+j)+1 by lia,f,e,List.append_assoc]⟩
noncomputable def ew (ws:List Str) (c i:Nat):Nat:=(wk ws c i)[i]?.getD 0
theorem AI (h:Ru ws) (h1:97<=c) (h2:c - 97<ws.length) (hg:aJ ws c=true) (hi:i<(wk ws c k).length):(wk ws c k)[i]?=some (ew ws c i):=by
 have li:i<(wk ws c i).length:=by
  have a:=cS h h1 h2 i;have b:=cJ h h1 h2 hg i;lia
 have key:∀j l,j<=l->i<(wk ws c j).length->(wk ws c l)[i]?=(wk ws c j)[i]?:=λj l hjl hj=>by
  obtain ⟨t,e⟩:=nP h h2 hg j (l - j);rw[show j+(l - j)=l by lia] at e;rw[e,getElem?_append_left hj]
 have e:(wk ws c i)[i]?=some (ew ws c i):=by
  unfold ew;rw[List.getElem?_eq_getElem li];rfl
 by_cases hik:i<=k
 ·rw[key i k hik li,e]
 ·rw[<-key k i (by lia) hi,e]
noncomputable def str (ws:List Str) (c n m:Nat):List Nat:=(range m).map λi=>ew ws c (n+i)
theorem str_len (ws:List Str) (c n m:Nat):(str ws c n m).length=m:=by unfold str;rw[length_map,length_range]
theorem fK (h:Ru ws) (h1:97<=c) (h2:c - 97<ws.length) (hg:aJ ws c=true) (hi:n+m<=(wk ws c k).length):((wk ws c k).drop n).take m=str ws c n m:=by
 refine ext_getElem? λi=>?_;by_cases him:i<m
 ·rw[getElem?_take,if_pos him,getElem?_drop,AI h h1 h2 hg (by lia)];unfold str;rw[getElem?_map,getElem?_range him];rfl
 ·rw[List.getElem?_eq_none_iff.mpr (by rw[length_take];lia),List.getElem?_eq_none_iff.mpr (by rw[str_len];lia)]
theorem CW (h:Ru ws) (h1:97<=c) (h2:c - 97<ws.length) (hg:aJ ws c=true) (hkl:k<=l):sz ws k c<=sz ws l c:=by
 obtain ⟨t,e⟩:=nP h h2 hg k (l - k);rw[show k+(l - k)=l by lia] at e;rw[<-cS h h1 h2 k,<-cS h h1 h2 l,e,length_append];lia
theorem tF (h:Ru ws) (hg:aJ ws c=true) (g:Good ws k c n):∀j,dQ ws (k+j) c n=replicate j (0,c)++dQ ws k c n
 |0=>rfl
 |j+1=>by
  obtain ⟨g1,g2,g3,g4⟩:=id g;obtain ⟨t,e⟩:=sZ h g2 hg;have hs:=CW h g1 g2 hg (show k<=k+j by lia);have ef:bG ws (k+j) (wd ws c) n=(0,n):=by
   rw[e];unfold bG;rw[if_neg (by lia)]
  show dQ ws ((k+j)+1) c n=_;show ((bG ws (k+j) (wd ws c) n).1,(wd ws c)[(bG ws (k+j) (wd ws c) n).1]?.getD 0)::dQ ws (k+j) ((wd ws c)[(bG ws (k+j) (wd ws c) n).1]?.getD 0) (bG ws (k+j) (wd ws c) n).2=_;rw[ef];have e0:(wd ws c)[0]?.getD 0=c:=by rw[e];rfl
  show (0,(wd ws c)[0]?.getD 0)::dQ ws (k+j) ((wd ws c)[0]?.getD 0) n=_;rw[e0,tF h hg g j];rfl
theorem Good.more (h:Ru ws) (hg:aJ ws c=true) (g:Good ws k c n) (hkl:k<=l):Good ws l c n:=by
 obtain ⟨g1,g2,g3,g4⟩:=g;exact ⟨g1,g2,g3,Int.lt_of_lt_of_le g4 (CW h g1 g2 hg hkl)⟩
noncomputable def At (ws:List Str) (c:Nat) (k:Nat) (n:Int) (i:Nat) (A B:List Nat):Prop:=wk ws c i=A++(bW ws k c n i).1::B/\aN ws (k - i) A+(bW ws k c n i).2=n
theorem US:At ws c k n 0 [] []:=by
 have e:bW ws k c n 0=(c,n):=by cases k<;>rfl
 refine ⟨?_,?_⟩
 ·rw[e];rfl
 ·rw[e];show (0:Int)+n=n;lia
theorem UT (h:Ru ws) {A B:List Nat} (g:Good ws k c n) (hi:i<k) (a:At ws c k n i A B):
  ∃st S,(dQ ws k c n)[i]?=some (st,(bW ws k c n (i+1)).1)/\st<(wd ws (bW ws k c n i).1).length/\wd ws (bW ws k c n i).1=(wd ws (bW ws k c n i).1).take st++(bW ws k c n (i+1)).1::S/\(wd ws (bW ws k c n i).1).drop st=(bW ws k c n (i+1)).1::S/\At ws c k n (i+1) (aI ws A++(wd ws (bW ws k c n i).1).take st) (S++aI ws B):=by
 have hGi:=kZ h k c n i g (by lia);obtain ⟨g1,g2,g3,g4⟩:=id hGi;have eki:k - i=(k - i - 1)+1:=by lia
 rw[eki] at hGi;obtain ⟨d,hd,hGd⟩:=hGi.step h;have hs:=qM (ws:=ws) k c n i hi;have hf:=wJ (ws:=ws) k c n i hi;rw[hd] at hs;have e1:(bW ws k c n (i+1)).1=d:=by rw[hs];rfl
 have e2:(bW ws k c n (i+1)).2=(bG ws (k - i - 1) (wd ws (bW ws k c n i).1) (bW ws k c n i).2).2:=by rw[hs]
 rw[eki,eZ g2] at g4;obtain ⟨o1,o2,o3,o4⟩:=wH (wd ws (bW ws k c n i).1) (bW ws k c n i).2 g3 g4;obtain ⟨st,hst⟩:∃st,(bG ws (k - i - 1) (wd ws (bW ws k c n i).1) (bW ws k c n i).2).1=st:=⟨_,rfl⟩;rw[hst] at o1 o4 hd hf;have hdrop:(wd ws (bW ws k c n i).1).drop st=d::(wd ws (bW ws k c n i).1).drop (st+1):=by
  rw[List.drop_eq_getElem_cons o1];rw[List.getElem?_eq_getElem o1] at hd;rw[Option.some.inj hd]
 have hw:wd ws (bW ws k c n i).1=(wd ws (bW ws k c n i).1).take st++d::(wd ws (bW ws k c n i).1).drop (st+1):=by
  rw[<-hdrop,take_append_drop]
 have hA:bK ws A:=λx hx=>fJ h g.1 g.2.1 i x (by rw[a.1];exact mem_append_left _ hx);refine ⟨st,(wd ws (bW ws k c n i).1).drop (st+1),hf,o1,by rw[e1];exact hw,by rw[e1];exact hdrop,?_,?_⟩
 ·show aI ws (wk ws c i)=_;rw[a.1,cX,aL,e1]
  conv=>lhs;rw[hw]
  simp only [List.append_assoc,List.cons_append]
 ·rw[sH,show k - (i+1)=k - i - 1 by lia,iR hA,<-eki,e2,o4];have:=a.2;lia
theorem Bx (h:Ru ws) {A B:List Nat} (g:Good ws k c n) (a:At ws c k n k A B):(A.length:Int)=n:=by
 have hGk:=kZ h k c n k g (Nat.le_refl _);rw[sub_self] at hGk;obtain ⟨g1,g2,g3,g4⟩:=hGk;rw[nS g2] at g4;have hA:bK ws A:=λx hx=>fJ h g.1 g.2.1 k x (by rw[a.1];exact mem_append_left _ hx);have:=a.2;rw[sub_self,gF hA] at this;lia
theorem qE (h:Ru ws):∀{l:List Nat},bK ws l->l.length<=(aI ws l).length
 |[],_=>Nat.le_refl _
 |c::l,hl=>by
  have ih:=qE h (l:=l) λd hd=>hl d (mem_cons_of_mem _ hd);obtain ⟨w,_,e,hm⟩:=h.word (hl c mem_cons_self).2;have h1:=h.one w hm;rw[aL,length_append,length_cons,e,aO];lia
theorem window (h:Ru ws) {c st m:Nat} (hl:bK ws (c::l)) (hst:st<(wd ws c).length) (hm:1<=m):((aI ws ((c::l).take m)).drop st).take m=((aI ws (c::l)).drop st).take m:=by
 obtain ⟨m',rfl⟩:∃m',m=m'+1:=⟨m - 1,by lia⟩;have hsplit:c::l=(c::l).take (m'+1)++(c::l).drop (m'+1):=(take_append_drop _ _).symm;by_cases hle:(c::l).length<=m'+1
 ·rw[take_of_length_le hle]
 ·have hlen:st+(m'+1)<=(aI ws ((c::l).take (m'+1))).length:=by
   rw[List.take_succ_cons,aL,length_append];have h2:=qE h (l:=l.take m') λd hd=>hl d (mem_cons_of_mem _ (mem_of_mem_take hd));rw[length_take] at h2;rw[length_cons] at hle;lia
  conv=>rhs;rw[hsplit,cX]
  rw[List.drop_append_of_le_length (by lia),List.take_append_of_le_length (by rw[length_drop];lia)]
theorem Rl.ru {H:Hp} {a:Addr} {ws:List Str} (h:Rl K H a ws 100):Ru ws:=⟨h.pos,h.four,h.isw,h.one,h.le⟩
noncomputable def eI (K:Fg):Sp:=λvs H Q _=>∃(a:Addr) (ws:List Str) (c m:Nat),vs=[.ref a,sgn c,.int m]/\Rl K H a ws 100/\97<=c/\c - 97<ws.length/\aJ ws c=true/\m<=1000/\∀H',aC H H'->Q (.str (aG (str ws c 0 m))) H'
noncomputable def jI (K:Fg):List (SX K):=
 [set 3 (var 1),
  WV (cmp .Lt (len (var 3)) (var 2)) [set 3 (call "_law_image" (kG K) [var 0,var 3])],
  ret (uT (var 3) none (some (var 2)))]
theorem rL:TT (eI K) (jI K) ["_law_rule","_law_start","_law_size","_law_word_here"]:=by
 intro vs H Q E h;obtain ⟨a,ws,c,m,rfl,hR,h1,h2,hg,hm,q⟩:=h;have hU:=hR.ru;unfold jI;walk_at "";refine mX (iU (m:=m) (λj σ H'=>j<=m/\aC H H'/\(m - j=0\/(wk ws c (m - j - 1)).length<m)/\σ=[some (.ref a),some (sgn c),some (.int m),some (.str (aG (wk ws c (m - j))))])
  ⟨Nat.le_refl _,aC.refl _,.inl (sub_self m),by rw[sub_self];rfl⟩ (λj σ H' hW=>?_))
 obtain ⟨hj,hS,hprev,rfl⟩:=hW;have hle:(wk ws c (m - j)).length<=1000000:=by
  rcases hprev with h|h
  ·rw[h];show 1<=1000000;decide
  ·by_cases h0:m - j=0
   ·rw[h0];show 1<=1000000;decide
   ·have e:m - j=(m - j - 1)+1:=by lia
    rw[e];have:=BQ (ws:=ws) (z:=aG (wk ws c (m - j - 1))) (B:=100) hU.le;rw[eQ,eM,eM,aQ] at this;show (aI ws (wk ws c (m - j - 1))).length<=_;lia
 have hgl:=cS hU h1 h2 (m - j);have hgr:=cJ hU h1 h2 hg (m - j);walk_at "";refine eS (small (by rw[eM];exact hle)) ?_;walk_at "";rw[eM];refine fT (λhc=>sD ?_) λhc=>?_
 ·have hj0:0<j:=by lia
  walk_at "";refine ⟨a,ws,_,rfl,hR.same hS,(fJ hU h1 h2 (m - j)).isW,by rw[eM];lia,λH2 hS2=>?_⟩;refine ⟨j - 1,by lia,by lia,hS.trans hS2,.inr (by rw[show m - (j - 1) - 1=m - j by lia];lia),?_⟩;rw[eQ,aQ,show m - (j - 1)=m - j+1 by lia];rfl
 ·walk_at "";refine eR (small (by rw[eM];exact hle)) ?_;have e:Txt.slice (aG (wk ws c (m - j))) none (some ((m:Nat):Int))=aG (str ws c 0 m):=by
   refine cP ?_;rw[show ls (Txt.slice (aG (wk ws c (m - j))) none (some ((m:Nat):Int)))=(ls (aG (wk ws c (m - j)))).take ((m:Nat):Int).toNat from cV (by lia),aQ,aQ,toNat_natCast,<-fK hU h1 h2 hg (k:=m - j) (n:=0) (m:=m) (by lia),drop_zero]
  rw[e];exact q _ hS
structure Pl (K:Fg) (H:Hp) (a:Addr) (ws:List Str) (c:Nat) (n:Int):Prop where
 rt:uC K H a ws
 ru:Ru ws
 c1:97<=c
 c2:c - 97<ws.length
 gr:aJ ws c=true
 n0:0<=n
 tn:∃m,m<=400/\n<sz ws m c
theorem Pl.turns {H:Hp} {a:Addr} {ws:List Str} {c:Nat} {n:Int} (h:Pl K H a ws c n):∃k,k<=400/\Good ws k c n/\∀i,i<k->sz ws i c<=n:=by
 obtain ⟨m,hm,hn⟩:=h.tn;obtain ⟨k,h1,h2,h3⟩:=least (P:=λk=>n<sz ws k c) hn;exact ⟨k,by lia,⟨h.c1,h.c2,h.n0,h2⟩,λi hi=>by have:=h3 i hi;lia⟩
theorem Pl.less {H:Hp} {a:Addr} {ws:List Str} {c:Nat} {n m:Int} (h:Pl K H a ws c n) (h0:0<=m) (hm:m<=n):Pl K H a ws c m:=⟨h.rt,h.ru,h.c1,h.c2,h.gr,h0,by
 obtain ⟨k,h1,h2⟩:=h.tn
 exact ⟨k,h1,by lia⟩⟩
noncomputable def bT (K:Fg):Sp:=λvs H Q _=>∃(a:Addr) (ws:List Str) (c n m:Nat),vs=[.ref a,sgn c,.int n,.int m]/\Pl K H a ws c ((n+m - 1:Nat):Int)/\1<=m/\m<=2000/\∀H',aC H H'->Q (.str (aG (str ws c n m))) H'
theorem vL {ws:List Str} (h:Ru ws) {c:Nat} (hg:aJ ws c=true) {k j:Nat} {n:Int} (g:Good ws k c n):replicate j (V.int 0)++(dQ ws k c n).map (λf=>V.int (f.1:Nat))=(dQ ws (k+j) c n).map λf=>V.int (f.1:Nat):=by
 rw[tF h hg g j,map_append,List.map_replicate];rfl
theorem zO (n:Nat) (a b:List Nat):bE n (aG (a++b))=zipWith (·+·) (bE n (aG a)) (bE n (aG b)):=by
 refine ext_getElem? λi=>?_;by_cases hi:i<n
 ·rw[getElem?_zipWith,gC hi,gC hi,gC hi];show some _=some _;unfold cnt;rw[aQ,aQ,aQ,List.count_append]
  congr 1
 ·rw[List.getElem?_eq_none_iff.mpr (by rw[dR];lia),List.getElem?_eq_none_iff.mpr (by rw[length_zipWith,dR];lia)]
theorem zN (n:Nat):bE n (aG [])=replicate n 0:=by
 have e2:cnt (aG [])=λ_=>0:=by
  funext k
  unfold cnt;rw[aQ];rfl
 unfold bE;rw[e2,List.map_const',length_range]
noncomputable def Dr (H:Hp) (p:Addr):Prop:=∃xs:List Int,H p=some (.lst (xs.map V.int))/\xs.length<=600/\∀x∈xs,0<=x/\x<2147483629
theorem Dr.same {H H':Hp} {p:Addr} (h:Dr H p) (e:aC H H'):Dr H' p:=by
 obtain ⟨xs,h1,h2⟩:=h;exact ⟨xs,e _ _ h1,h2⟩
theorem Off.refl (p:Addr) (H:Hp):Off p H H:=λ_ _ _ e=>e
theorem Off.trans' {p:Addr} {H H1 H2:Hp} (a:Off p H H1) (b:Off p H1 H2):Off p H H2:=λc o h e=>b c o h (a c o h e)
theorem aC.off {p:Addr} {H H':Hp} (e:aC H H'):Off p H H':=λc o _ h=>e c o h
noncomputable def kH (K:Fg):Sp:=λvs H Q _=>∃(a:Addr) (ns:List Int),vs=[.ref a]/\aP K H a (ns.map V.int)/\ns.length<=63/\∀p H',aC H H'->H p=none->Dr H' p->Q (.ref p) H'
noncomputable def nG (K:Fg):List (SX K):=
 [set 1 (uT (bin .Add (listE (uT (var 0) none (some (cst (.int 63))))) (lst [cst (.int 0)])) none (some (max2 (cst (.int 1)) (min2 (len (var 0)) (cst (.int 63)))))),
  set 2 (cmp .Eq (bin .Mod (ix (var 1) (cst (.int 0))) (cst (.int 2))) (cst (.int 1))),
  put (var 1) (cst (.int 0)) (bin .FloorDiv (ix (var 1) (cst (.int 0))) (cst (.int 2))),
  set 3 (listE (var 1)),
  set 4 (lst []),
  jP (gR 5) (rT (cst (.int 600)) []) [set 6 (bin .Mod (var 5) (len (var 1))),
   set 7 (bin .Mod (ix (var 3) (var 6)) (cst (.int 2147483629))),
   qF (zX (var 2) [cmp .NotIn (ix (var 3) (var 6)) (lst [cst (.int 0),neg (cst (.int 1))])]) [put (var 3) (var 6) (bin .FloorDiv (ix (var 3) (var 6)) (cst (.int 2147483629)))] [set 7 (bin .Mod (bin .Add (bin .Add (bin .Mult (bin .Mod (ix (var 1) (var 6)) (cst (.int 2147483629))) (cst (.int 48271))) (bin .Mult (bin .Mult (cst (.int 7919)) (var 5)) (var 5))) (cst (.int 104729))) (cst (.int 2147483647))),
    set 7 (bin .Mod (bin .Mult (var 7) (var 7)) (cst (.int 2147483629))),
    set 7 (bin .Mod (bin .Mult (bin .Mod (bin .Add (bin .Mult (var 7) (cst (.int 69621))) (bin .Mult (cst (.int 3571)) (var 5))) (cst (.int 2147483563))) (var 7)) (cst (.int 2147483629)))],
   ex (cF (var 4) (var 7))],
  ret (Eh (var 4))]
theorem nV {cs:List Int} {i:Nat} {v:Int}:(cs.map V.int).set i (.int v)=(cs.set i v).map V.int:=(List.map_set ..).symm
theorem mI {cs:List Int} {i:Nat} (h:i<cs.length):rX (cs.map V.int) ((i:Nat):Int)=some (.int cs[i]):=gN (by rw[getElem?_map,List.getElem?_eq_getElem h];rfl)
theorem xF:TT (kH K) (nG K) ["_law_script","_law_cells","_law_by_digits","_law_left","_law_found","_law_k","_law_at","_law_number"]:=by
 intro vs H Q E h;obtain ⟨a,ns,rfl,hS,h63,q⟩:=h;have hlen:(ns.map V.int).length=ns.length:=length_map _;unfold nG;walk_at "";refine MM hS λp1 hp1=>?_;obtain ⟨ms,hms,hml⟩:=EH ns none (some 63);have hms2:ms.length=ns.length:=by
  have e:=congrArg length hms;rw[length_map] at e;rw[<-e];have e2:=NT (xs:=ns.map V.int) (k:=ns.length) (by rw[hlen];exact Nat.le_refl _);unfold lC;rw[HT.pG,drop_zero,hlen,length_take,hlen];show min (min 63 ns.length - 0) ns.length=ns.length;lia
 rw[hms];have s1:=aE hp1 (.lst (ms.map V.int));walk_at "";refine ⟨_,.inl (aP.of aA),λp2 hp2=>?_⟩;have s2:=aE hp2 (.lst (ms.map V.int));walk_at "";refine ⟨by show 1<=sizeLine;decide,λp3 hp3=>?_⟩;have s3:=aE hp3 (.lst [V.int 0]);refine BS (s3 _ _ aA) aA (small (by rw[length_map];show ms.length+1<=_;lia)) λp4 hp4=>?_;have e4:ms.map V.int++[V.int 0]=(ms++[0]).map V.int:=by rw[map_append];rfl
 rw[e4];have s4:=aE hp4 (.lst ((ms++[0]).map V.int));have hq4:=s4.seq (s3.seq (s2.seq (s1.seq hS)));walk_at "";refine MM (aP.of aA) λp5 hp5=>?_;obtain ⟨cs,hcs,hcl⟩:=EH (ms++[0]) none (some (max 1 (min (((ns.map V.int).length:Nat):Int) 63)));have hcs2:1<=cs.length/\cs.length<=64:=by
  have e:=congrArg length hcs;have e3:(cs.map V.int).length=cs.length:=length_map _;rw[e3] at e;have hl:((ms++[0]).map V.int).length=ms.length+1:=by rw[length_map,length_append];rfl
  obtain ⟨k,hk⟩:∃k:Nat,max 1 (min (((ns.map V.int).length:Nat):Int) 63)=(k:Int):=⟨(max 1 (min (((ns.map V.int).length:Nat):Int) 63)).toNat,by lia⟩;rw[hk,NT (by rw[hl];lia),length_take,hl] at e;lia
 rw[hcs];have s5:=aE hp5 (.lst (cs.map V.int));have hS05:aC H (upd (upd (upd (upd (upd H p1 (.lst (ms.map V.int))) p2 (.lst (ms.map V.int))) p3 (.lst [V.int 0])) p4 (.lst ((ms++[0]).map V.int))) p5 (.lst (cs.map V.int))):=(((s1.trans s2).trans s3).trans s4).trans s5;have hn5:H p5=none:=none_of (((s1.trans s2).trans s3).trans s4) hp5;walk_at "";have h0:0<cs.length:=by lia
 refine gS (v:=.int cs[0]) (aP.of aA) (mI (i:=0) h0) ?_;walk_at "";obtain ⟨bd,hbd⟩:∃b,decide (cs[0] % 2=1)=b:=⟨_,rfl⟩;rw[hbd];refine MQ ?_;walk_at "";refine gS (v:=.int cs[0]) (aP.of aA) (mI (i:=0) h0) ?_;walk_at "";refine MP (k:=0) aA (by rw[length_map];exact h0) ?_;rw[nV,jW];have hcl2:(cs.set 0 (cs[0] / 2)).length=cs.length:=List.length_set ..;obtain ⟨ds,hds⟩:∃ds,cs.set 0 (cs[0] / 2)=ds:=⟨_,rfl⟩;rw[hds] at hcl2 ⊢;obtain ⟨H6,hH6⟩:∃H6,upd (upd (upd (upd (upd H p1 (.lst (ms.map V.int))) p2 (.lst (ms.map V.int))) p3 (.lst [V.int 0])) p4 (.lst ((ms++[0]).map V.int))) p5 (.lst (ds.map V.int))=H6:=⟨_,rfl⟩;have hp56:H6 p5=some (.lst (ds.map V.int)):=by rw[<-hH6];exact aA
 have hS06:aC H H6:=by rw[<-hH6];exact dN (((s1.trans s2).trans s3).trans s4) hn5
 rw[hH6];walk_at "";refine ⟨_,.inl (aP.of hp56),λp7 hp7=>?_⟩;have s7:=aE hp7 (.lst (ds.map V.int));walk_at "";refine ⟨zero_le _,λp8 hp8=>?_⟩;have s8:=aE hp8 (.lst []);have n78:p7≠p8:=aB (H:=upd H6 p7 (.lst (ds.map V.int))) aA hp8;have n58:p5≠p8:=aB (s7 _ _ hp56) hp8;have n57:p5≠p7:=aB hp56 hp7;walk_at "";refine eP (λi σ H'=>aC H H'/\H' p5=some (.lst (ds.map V.int))/\(∃ls:List Int,ls.length=ds.length/\H' p7=some (.lst (ls.map V.int)))/\(∃xs:List Int,xs.length=i/\H' p8=some (.lst (xs.map V.int))/\∀x∈xs,0<=x/\x<2147483629)/\
   ∃a5 a6 a7,σ=[some (.ref a),some (.ref p5),some (.bl bd),some (.ref p7),some (.ref p8),a5,a6,a7])
  ⟨(hS06.trans s7).trans s8,s8 _ _ (s7 _ _ hp56),⟨ds,rfl,s8 _ _ aA⟩,⟨[],rfl,aA,λx hx=>nomatch hx⟩,none,none,none,rfl⟩ (λi σ H' hi hP=>?_) λσ H' hP=>?_
 ·obtain ⟨hSH,h5,⟨ls,hll,h7⟩,⟨xs,hxl,h8,hxs⟩,a5,a6,a7,rfl⟩:=hP;have hi6:i<600:=hi;have fin:∀(v:Int) (x5 x6:Option V) (D:Ends) (H2:Hp),aC H H2->H2 p5=some (.lst (ds.map V.int))->(∃ls:List Int,ls.length=ds.length/\H2 p7=some (.lst (ls.map V.int)))->H2 p8=some (.lst (xs.map V.int))->0<=v->v<2147483629->
    D={nx:=λσ3 H3=>aC H H3/\H3 p5=some (.lst (ds.map V.int))/\(∃ls:List Int,ls.length=ds.length/\H3 p7=some (.lst (ls.map V.int)))/\(∃xs:List Int,xs.length=i+1/\H3 p8=some (.lst (xs.map V.int))/\∀x∈xs,0<=x/\x<2147483629)/\
     ∃a5 a6 a7,σ3=[some (.ref a),some (.ref p5),some (.bl bd),some (.ref p7),some (.ref p8),a5,a6,a7],ct:=D.ct,bk:=D.bk,rt:=D.rt}->
    gY ([ex (cF (var 4) (var 7))]:List (SX K)) (λ_=>E) D [some (.ref a),some (.ref p5),some (.bl bd),some (.ref p7),some (.ref p8),x5,x6,some (.int v)] H2:=by
   intro v x5 x6 D H2 g1 g2 g3 g4 g5 g6 hD;rw[hD];walk_at "";refine BV (aP.of g4) ?_;walk_at "";refine eC g4 (by rw[length_map,hxl];exact Nat.lt_of_lt_of_le (show i<1000 by lia) (small (by decide))) ?_;refine ⟨dN g1 (none_of (hS06.trans s7) hp8),by rw[aF n58];exact g2,?_,⟨xs++[v],by rw[length_append,hxl];rfl,by rw[aA,map_append];rfl,λx hx=>?_⟩,_,_,_,rfl⟩
   ·obtain ⟨ls,e1,e2⟩:=g3;exact ⟨ls,e1,by rw[aF n78];exact e2⟩
   ·rcases mem_append.mp hx with h|h
    ·exact hxs x h
    ·have e:x=v:=by simpa using h
     subst e;exact ⟨g5,g6⟩
  have hq5:aP K H' p5 (ds.map V.int):=aP.of h5;have hdl:(ds.map V.int).length=ds.length:=length_map _;have e0:(0:Int)+(i:Nat)=((i:Nat):Int):=by lia
  walk_at "";rw[e0];have e1:=emod_nonneg ((i:Nat):Int) (show ((((ds.map V.int).length:Nat)):Int)≠0 by lia);have e2:=emod_lt_of_pos ((i:Nat):Int) (show (0:Int)<(((ds.map V.int).length:Nat):Int) by lia);obtain ⟨at',hat⟩:∃k:Nat,((i:Nat):Int) % (((ds.map V.int).length:Nat):Int)=(k:Int):=⟨_,(Int.toNat_of_nonneg e1).symm⟩;rw[hat] at e2;have hk:at'<ds.length:=by lia
  have hk2:at'<ls.length:=by lia
  rw[hat];walk_at "";refine gS (v:=.int ls[at']) (aP.of h7) (mI hk2) ?_;walk_at "";have m1:=emod_nonneg ls[at'] (show (2147483629:Int)≠0 by decide);have m2:=emod_lt_of_pos ls[at'] (show (0:Int)<2147483629 by decide);have other:∀(H2:Hp) (D:Ends) (x7:Option V),aC H H2->H2 p5=some (.lst (ds.map V.int))->(∃ls:List Int,ls.length=ds.length/\H2 p7=some (.lst (ls.map V.int)))->H2 p8=some (.lst (xs.map V.int))->
    D={nx:=gY ([ex (cF (var 4) (var 7))]:List (SX K)) (λ_=>E) {nx:=λσ3 H3=>aC H H3/\H3 p5=some (.lst (ds.map V.int))/\(∃ls:List Int,ls.length=ds.length/\H3 p7=some (.lst (ls.map V.int)))/\(∃xs:List Int,xs.length=i+1/\H3 p8=some (.lst (xs.map V.int))/\∀x∈xs,0<=x/\x<2147483629)/\
     ∃a5 a6 a7,σ3=[some (.ref a),some (.ref p5),some (.bl bd),some (.ref p7),some (.ref p8),a5,a6,a7],ct:=D.ct,bk:=D.bk,rt:=D.rt},ct:=D.ct,bk:=D.bk,rt:=D.rt}->
    gY ([set 7 (bin .Mod (bin .Add (bin .Add (bin .Mult (bin .Mod (ix (var 1) (var 6)) (cst (.int 2147483629))) (cst (.int 48271))) (bin .Mult (bin .Mult (cst (.int 7919)) (var 5)) (var 5))) (cst (.int 104729))) (cst (.int 2147483647))),
    set 7 (bin .Mod (bin .Mult (var 7) (var 7)) (cst (.int 2147483629))),
    set 7 (bin .Mod (bin .Mult (bin .Mod (bin .Add (bin .Mult (var 7) (cst (.int 69621))) (bin .Mult (cst (.int 3571)) (var 5))) (cst (.int 2147483563))) (var 7)) (cst (.int 2147483629)))]:List (SX K)) (λ_=>E) D [some (.ref a),some (.ref p5),some (.bl bd),some (.ref p7),some (.ref p8),some (.int i),some (.int at'),x7] H2:=by
   intro H2 D x7 g1 g2 g3 g4 hD;rw[hD];walk_at "";refine gS (v:=.int ds[at']) (aP.of g2) (mI hk) ?_;walk_at "";refine fin _ _ _ _ _ g1 g2 g3 g4 (emod_nonneg _ (by decide)) (emod_lt_of_pos _ (by decide)) rfl
  cases bd with
  |false=>
   refine tN ?_;refine tN ?_;exact other _ _ _ hSH h5 ⟨ls,hll,h7⟩ h8 rfl
  |true=>
   refine IH ?_;walk_at "";refine gS (v:=.int ls[at']) (aP.of h7) (mI hk2) ?_;walk_at "";refine DV ?_;walk_at "";refine wA ?_;walk_at "";refine ⟨by show 2<=sizeLine;decide,λp9 hp9=>?_⟩;have s9:=aE hp9 (.lst [V.int 0,V.int (-1)]);refine DU (aP.of (xs:=[V.int 0,V.int (-1)]) aA) rfl rfl ?_;cases hin:Ct (V.int ls[at']) [V.int 0,V.int (-1)] with
   |false=>
    refine IH ?_;walk_at "";refine MQ ?_;walk_at "";refine gS (v:=.int ls[at']) (aP.of (s9 _ _ h7)) (mI hk2) ?_;walk_at "";refine Aq ⟨by decide,by decide⟩ ?_;walk_at "";refine MP (s9 _ _ h7) (by rw[length_map];exact hk2) ?_;rw[nV];refine fin _ _ _ _ _ (dN (hSH.trans s9) (none_of hS06 hp7)) (by rw[aF n57];exact s9 _ _ h5) ⟨_,by rw[List.length_set];exact hll,aA⟩ (by rw[aF n78.symm];exact s9 _ _ h8) m1 m2 rfl
   |true=>
    refine tN ?_;exact other _ _ _ (hSH.trans s9) (s9 _ _ h5) ⟨ls,hll,s9 _ _ h7⟩ (s9 _ _ h8) rfl
 ·obtain ⟨hSH,h5,_,⟨xs,hxl,h8,hxs⟩,a5,a6,a7,rfl⟩:=hP;walk_at "";refine Af (aP.of h8) λp10 hp10=>?_;refine q p10 _ (hSH.trans (aE hp10 _)) (none_of hSH hp10) ⟨xs.reverse,by rw[aA,List.map_reverse],by rw[length_reverse,hxl];show 600<=600;decide,λx hx=>hxs x (List.mem_reverse.mp hx)⟩
noncomputable def aS (K:Fg):Sp:=λvs H Q _=>∃p,vs=[.ref p]/\Dr H p/\∀(v:Int) (H':Hp),Off p H H'->Dr H' p->0<=v->v<2147483629->Q (.int v) H'
noncomputable def qZ (K:Fg):List (SX K):=
 [qF (cmp .Eq (var 0) (lst [])) [ret (cst (.int 0))] [],
  ret (VT (var 0))]
theorem AN:TT (aS K) (qZ K) ["_law_drawn"]:=by
 intro vs H Q E h;obtain ⟨p,rfl,⟨xs,hp,hl,hx⟩,q⟩:=h;unfold qZ;walk_at "";refine ⟨zero_le _,λp2 hp2=>?_⟩;have s2:=aE hp2 (.lst []);by_cases h0:xs=[]
 ·subst h0;refine Gm (n:=0) (by decide) ⟨_,_,.inl ⟨s2 _ _ hp,aA⟩,rfl,λi x y hx _=>by simp at hx⟩ ?_;refine IH ?_;walk_at "";exact q 0 _ (aC.off s2) ⟨[],s2 _ _ hp,by decide,λx hx=>nomatch hx⟩ (by decide) (by decide)
 ·refine Gk (s2 _ _ hp) aA (by rw[length_map];intro z;exact h0 (List.eq_nil_of_length_eq_zero z)) ?_;refine tN ?_;have hpos:0<xs.length:=List.length_pos_iff.mpr h0;walk_at "";refine BV (aP.of (s2 _ _ hp)) ?_;walk_at "";have hlast:xs.length - 1<xs.length:=by lia
  refine Ai (y:=.int xs[xs.length - 1]) (s2 _ _ hp) (by rw[length_map,getElem?_map,List.getElem?_eq_getElem hlast];rfl) ?_;have hb:=hx _ (getElem_mem hlast);refine q _ _ (Off.upd (aC.off s2)) ⟨xs.dropLast,by rw[aA,List.map_dropLast],by rw[List.length_dropLast];lia,λx hx'=>hx x (List.dropLast_subset xs hx')⟩ hb.1 hb.2
end L2.Na
namespace L2.Na.Pr
open PySem PySem.Spec PyProof.Rows L2 L2.L3
variable {K:Fg}
noncomputable def Oo (K:Fg) (H:Hp) (E:XK):Prop:=∀H',aC H H'->E (.ref (clsAt K "NoStart")) none H'
noncomputable def TG (K:Fg) (m:Int) (H:Hp) (E:XK):Prop:=∀H' dx,aC H H'->H' dx=some (.xd [("most",.int m)])->E (.ref (clsAt K "TooGreat")) (some dx) H'
noncomputable def Kh (K:Fg) (H:Hp) (a:Addr) (ws:List Str) (c:Nat) (n:Int) (E:XK):Prop:=uC K H a ws/\Ru ws/\97<=c/\
 ((aJ ws c=false/\Oo K H E)\/(aJ ws c=true/\c - 97<ws.length/\(∀i,i<=400->sz ws i c<=n)/\TG K 400 H E))
noncomputable def bZ (K:Fg):Sp:=λvs H Q E=>L2.Na.bZ K vs H Q E\/∃(a:Addr) (ws:List Str) (c:Nat) (n:Int),vs=[.ref a,sgn c,.int n]/\Kh K H a ws c n E
noncomputable def Eg (K:Fg):Sp:=λvs H Q E=>∃(a:Addr) (ws:List Str) (c:Nat) (n:Int) (k:Nat),vs=[.ref a,sgn c,.int n]/\uC K H a ws/\Ru ws/\97<=c/\c - 97<ws.length/\aJ ws c=true/\k<=400/\(∀i,i<k->sz ws i c<=n)/\
 ((n<sz ws k c/\∀p rs H',aC H H'->H p=none->IE H' p rs (fM ws (k+1))->Q (.ref p) H')\/(k=400/\sz ws k c<=n/\TG K 400 H E))
noncomputable def dH (K:Fg):List (SX K):=
 [qF (vJ (call "grows" (pC K) [var 0,var 1])) [raiseO "NoStart" (cst (.str "the rule doesn't grow from this letter")) []] [],
  set 3 (call "table" (kD K) [var 0]),
  set 4 (vM (call "letters" (cO K) [len (var 0)]) (var 1)),
  set 5 (lst [call "sizes" (pA K) [var 0,cst (.int 0)]]),
  WV (cmp .LtE (ix (ix (var 5) (neg (cst (.int 1)))) (var 4)) (var 2)) [qF (cmp .Gt (len (var 5)) (Az "MOST_TURNS" (.int 400))) [AY "TooGreat" "self" "most" "most" (Az "MOST_TURNS" (.int 400))] [],
   ex (cF (var 5) (call "sizes_once" (fN K) [var 3,ix (var 5) (neg (cst (.int 1)))]))],
  ret (var 5)]
theorem rR:∀vs H Q E,bZ K vs H Q E->vs.length=3:=by
 rintro vs H Q E (⟨_,_,_,_,_,rfl,_⟩|⟨_,_,_,_,rfl,_⟩)<;>rfl
theorem Dj:TT (Eg K) (dH K) ["rule","start","n","rows","at","made"]:=by
 intro vs H Q E h;obtain ⟨a,ws,c,n,k,rfl,hR,hU,h1,h2,hg,hk,hlt,hor⟩:=h;have h4:=hR.four;have hlen:(ws.map V.str).length=ws.length:=length_map _;have hw:∀w∈ws,fG ws.length w/\w.length<=100000:=λw hm=>⟨hU.isw w hm,by have:=hU.le w hm;lia⟩;unfold dH;walk_at "";refine ⟨a,ws,c,rfl,hR,hU.lens,h1,λH1 hS1=>?_⟩;rw[hg];walk_at "";refine tN ?_;have hR1:=hR.same hS1;walk_at "";refine ⟨a,ws,rfl,hR1,λpT rsT H2 hS2 _ _ hT=>?_⟩;have hR2:=hR1.same hS2;have hq2:=hR2.tp;walk_at "";refine ⟨_,rfl,?_⟩;walk_at "";obtain ⟨rr,hr⟩:=yS (m:=((ws.map V.str).length:Nat)) (by lia) (by lia) h1 (show c - 97<(((ws.map V.str).length:Nat):Int).toNat by lia);refine yW hr ?_;walk_at "";refine ⟨a,ws,0,rfl,hR2,hw,by lia,by lia,λr0 H3 hS3 hr0 hr03=>?_⟩;walk_at "";refine ⟨by show 1<=sizeLine;decide,λp hp=>?_⟩;walk_at "";have hS0:aC H H3:=(hS1.trans hS2).trans hS3;have hTs:=hS2.trans hS3;have hrow:∀xs∈rowsOf ws,Df xs/\xs.length<=1000:=λxs hx=>by
  unfold rowsOf at hx;obtain ⟨w,hm,rfl⟩:=mem_map.mp hx;exact ⟨qN (hw w hm).2,by rw[dR];lia⟩
 refine iU (m:=k) (λm σ H'=>m<=k/\(∃rs:List Addr,aC H3 H'/\IE H' p rs (fM ws (k - m+1))/\(∀x∈rs,x≠p))/\σ=[some (.ref a),some (sgn c),some (.int n),some (.ref pT),some (.int ((c - 97:Nat):Int)),some (.ref p)])
  ⟨Nat.le_refl _,⟨[r0],aE hp _,⟨aA,by rw[jL,sub_self];rfl,λi x y hx hy=>?_⟩,λx hx=>?_⟩,rfl⟩ (λm σ H' hW=>?_)
 ·have e0:i=0:=by
   have:=(List.getElem?_eq_some_iff.mp hx).1;simp at this;lia
  subst e0;have e1:r0=x:=by simpa using hx
  subst e1;rw[sub_self,jM (by lia)] at hy;cases hy;exact aE hp _ _ _ hr03
 ·have e1:x=r0:=by simpa using hx
  subst e1;exact aB hr03 hp
 ·obtain ⟨hm,⟨rs,hSs,hTb,hne⟩,rfl⟩:=hW;have hrl:rs.length=k - m+1:=by rw[hTb.2.1,jL]
  obtain ⟨rl,hlast⟩:∃r,rs[k - m]?=some r:=⟨_,List.getElem?_eq_getElem (show k - m<rs.length by lia)⟩;have hrow2:=hTb.2.2 (k - m) _ _ hlast (jM (by lia));have hat:rX (rs.map V.ref) (-(1:Int))=some (.ref rl):=ID (by rw[length_map,hrl,show k - m+1 - 1=k - m by lia,getElem?_map,hlast];rfl);walk_at "";refine DV ?_;walk_at "";refine wA ?_;refine gS (aP.of hTb.1) hat ?_;walk_at "";refine gS (aP.of hrow2) (Ee h2) ?_;walk_at "";refine fT (λhc=>sD ?_) λhc=>?_
  ·walk_at "";refine wB (aP.of hTb.1) ?_;walk_at "";refine fT (λhc2=>?_) λhc2=>?_
   ·rw[length_map,hrl] at hc2;have em:m=0:=by lia
    subst em;rw[Nat.sub_zero] at hc;rcases hor with ⟨hn,_⟩|⟨_,_,tg⟩
    ·lia
    walk_at "";refine yV ?_;walk_at "";exact λdx hdx=>tg _ dx ((hS0.trans hSs).trans (aE hdx _)) aA
   rw[length_map,hrl] at hc2;have hm0:0<m:=by
    by_cases h0:0<m
    ·exact h0
    ·have e:m=0:=by lia
     subst e;rw[Nat.sub_zero] at hc;rcases hor with ⟨hn,_⟩|⟨_,_,_⟩<;>lia
   walk_at "";refine BV (aP.of hTb.1) ?_;walk_at "";refine DV ?_;walk_at "";refine wA ?_;refine gS (aP.of hTb.1) hat ?_;walk_at "";refine ⟨pT,_,rsT,rowsOf ws,gZ ws (k - m),rfl,(hT.same hS3).same hSs,hrow2,hrow,?_,λr H4 hS4 hr4 hr42=>?_⟩
   ·rw[bF];lia
   walk_at "";rw[xH hU.isw] at hr42;have hpn:r≠p:=(aB hTb.1 hr4).symm;refine eC (hS4 _ _ hTb.1) (by rw[length_map,hrl];exact Nat.lt_of_lt_of_le (show k - m+1<1000 by lia) (small (by decide))) ?_;refine ⟨m - 1,by lia,by lia,⟨rs++[r],dN (hSs.trans hS4) hp,?_,λx hx=>?_⟩,rfl⟩
   ·have e:k - (m - 1)+1=(k - m+1)+1:=by lia
    rw[e,xI];refine IE.snoc hTb ?_ ?_ (λb o hb e=>?_) hne
    ·rw[aF hpn];exact hr42
    ·rw[aA,map_append];rfl
    ·rw[aF hb];exact hS4 _ _ e
   ·rcases mem_append.mp hx with h|h
    ·exact hne x h
    ·have e:x=r:=by simpa using h
     subst e;exact hpn
  ·have hm0:m=0:=by
    by_cases h0:m=0
    ·exact h0
    ·have:=hlt (k - m) (by lia);exact absurd this hc
   subst hm0;rw[Nat.sub_zero] at hTb;walk_at "";rw[Nat.sub_zero] at hc;rcases hor with ⟨_,q⟩|⟨_,h,_⟩
   ·exact q p rs H' (hS0.trans hSs) (none_of hS0 hp) hTb
   ·exact absurd h hc
theorem rK:TT (bZ K) (dH K) ["rule","start","n","rows","at","made"]:=by
 intro vs H Q E h;rcases h with ⟨a,ws,c,n,k,rfl,hR,hU,h1,h2,hg,hk,hn,hlt,q⟩|⟨a,ws,c,n,rfl,hR,hU,h1,hb⟩
 ·exact Dj _ H Q E ⟨a,ws,c,n,k,rfl,hR,hU,h1,h2,hg,hk,hlt,.inl ⟨hn,q⟩⟩
 rcases hb with ⟨hg,q⟩|⟨hg,h2,hle,tg⟩
 ·unfold dH;walk_at "";refine ⟨a,ws,c,rfl,hR,hU.lens,h1,λH1 hS1=>?_⟩;rw[hg];walk_at "";refine IH ?_;walk_at "";refine MO ?_;walk_at "";exact ⟨by show 1<=sizeLine;decide,q H1 hS1⟩
 ·exact Dj _ H Q E ⟨a,ws,c,n,400,rfl,hR,hU,h1,h2,hg,Nat.le_refl _,λi hi=>hle i (by lia),.inr ⟨rfl,hle 400 (Nat.le_refl _),tg⟩⟩
noncomputable def dE (K:Fg):Sp:=λvs H Q E=>L2.Na.dE K vs H Q E\/∃(a:Addr) (ws:List Str) (c:Nat) (n:Int),vs=[.ref a,sgn c,.int n]/\Kh K H a ws c n E
noncomputable def mH (K:Fg):List (SX K):=
 [set 3 (call "sizes_until" (bZ K) [var 0,var 1,var 2]),
  set 4 (call "words_by_letter" (bO K) [var 0]),
  set 5 (lst []),
  set 6 (var 1),
  set 7 (var 2),
  jP (gR 8) (Hz (uT (var 3) none (some (neg (cst (.int 1)))))) [set 9 (UJ (call "letters" (cO K) [len (var 0)]) (var 8)),
   set 10 (ix (var 4) (var 6)),
   set 11 (cst (.int 0)),
   WV (cmp .LtE (ix (var 9) (ix (var 10) (var 11))) (var 7)) [set 7 (bin .Sub (var 7) (ix (var 9) (ix (var 10) (var 11)))),
    set 11 (bin .Add (var 11) (cst (.int 1)))],
   set 6 (ix (var 10) (var 11)),
   ex (cF (var 5) (tup [var 11,var 6]))],
  ret (var 5)]
theorem GY:∀vs H Q E,dE K vs H Q E->vs.length=3:=by
 rintro vs H Q E (⟨_,_,_,_,_,rfl,_⟩|⟨_,_,_,_,rfl,_⟩)<;>rfl
theorem FO:TT (dE K) (mH K) ["rule","start","n","rows","word_for","pairs","letter","left","row","size_of","word","step"]:=by
 intro vs H Q E h;rcases h with h|⟨a,ws,c,n,rfl,hb⟩
 case inr=>
  unfold mH;walk_at "";exact .inr ⟨a,ws,c,n,rfl,hb⟩
 obtain ⟨a,ws,c,n,k,rfl,hR,hU,hg,hk,hG,hlt,q⟩:=h;unfold mH;walk_at "";refine .inl ⟨a,ws,c,n,k,rfl,hR,hU,hG.1,hG.2.1,hg,hk,hG.2.2.2,hlt,λp rs H1 hS1 hp1 hT=>?_⟩;have hrl:rs.length=k+1:=by rw[hT.2.1,jL]
 walk_at "";refine ⟨a,ws,rfl,hR.same hS1,λd H2 hS2 _ hd=>?_⟩;walk_at "";refine ⟨zero_le _,λpl hpl=>?_⟩;have s3:=aE hpl (.lst []);have hS02:=hS1.trans hS2;have hT3:=(hT.same hS2).same s3;walk_at "";refine Ah ?_;walk_at "";refine DV ?_;walk_at "";refine wA ?_;walk_at "";refine MM (aP.of hT3.1) λl hl=>?_;rw[Bo (by rw[length_map];lia),length_map,hrl,show k+1 - 1=k by lia];have s4:=aE hl (.lst ((rs.map V.ref).take k));have hlen:((rs.map V.ref).take k).length=k:=by rw[length_take,length_map];lia
 refine Ag (aP.of aA) ?_;have hplne:l≠pl:=(aB (H:=upd H2 pl (.lst [])) aA hl).symm;have hpl4:∀H',Off pl (upd (upd H2 pl (.lst [])) l (.lst ((rs.map V.ref).take k))) H'->aC H2 H':=λH' o=>Off.same (s3.trans s4) o hpl;refine LW (λi σ H'=>i<=k/\Off pl (upd (upd H2 pl (.lst [])) l (.lst ((rs.map V.ref).take k))) H'/\(∃us:List Addr,Nb H' pl us ((dQ ws k c n).take i)/\(∀u∈us,H u=none/\u≠pl))/\
   ∃(a8 a9 a10 a11:Option V),σ=[some (.ref a),some (sgn c),some (.int n),some (.ref p),some (.ref d),some (.ref pl),some (sgn (bW ws k c n i).1),some (.int (bW ws k c n i).2),a8,a9,a10,a11])
  ⟨zero_le _,λ_ _ _ e=>e,⟨[],⟨s4 _ _ aA,rfl,λi r f hr=>by simp at hr⟩,λu hu=>nomatch hu⟩,none,none,none,none,by cases k<;>rfl⟩
  (λi σ H' hP=>aP.of (hP.2.1 l _ hplne aA)) (λi x σ H' hx hP=>?_) λσ H' hP=>?_
 ·obtain ⟨hi,hO,⟨us,hF,hus⟩,a8,a9,a10,a11,rfl⟩:=hP;have hik:i<k:=by
   have:=(List.getElem?_eq_some_iff.mp hx).1;rw[length_reverse,hlen] at this;exact this
  have hki:k - 1 - i<rs.length:=by lia
  have ex:x=.ref rs[k - 1 - i]:=by
   rw[List.getElem?_reverse (by rw[hlen];exact hik),hlen,getElem?_take,if_pos (by lia),getElem?_map,List.getElem?_eq_getElem hki] at hx;exact (Option.some.inj hx).symm
  subst ex;have hS:=hpl4 H' hO;have hrow:H' rs[k - 1 - i]=some (.lst ((gZ ws (k - 1 - i)).map V.int)):=hS _ _ (hS2 _ _ (hT.2.2 (k - 1 - i) _ _ (List.getElem?_eq_getElem hki) (jM (by lia))));have hGi:=kZ hU k c n i hG hi;obtain ⟨g1,g2,g3,g4⟩:=id hGi;have eki:k - i=(k - 1 - i)+1:=by lia
  rw[eki] at hGi;obtain ⟨dn,hdn,hGn⟩:=hGi.step hU;obtain ⟨w,hw,hwd,hwm⟩:=hU.word g2;have hsucc:=qM (ws:=ws) k c n i hik;have hfat:=wJ (ws:=ws) k c n i hik;rw[show k - i - 1=k - 1 - i by lia] at hsucc hfat;obtain ⟨cl,hcl⟩:∃cl,(bW ws k c n i).1=cl:=⟨_,rfl⟩;obtain ⟨x0,hx0⟩:∃x0,(bW ws k c n i).2=x0:=⟨_,rfl⟩;simp only [hcl,hx0] at hsucc hfat hGn hdn g1 g2 g3 g4 hw hwd;rw[hcl,hx0];obtain ⟨st,hst⟩:∃st,(bG ws (k - 1 - i) (wd ws cl) x0).1=st:=⟨_,rfl⟩;rw[eki,eZ g2] at g4;obtain ⟨o1,o2,o3,o4⟩:=wH (wd ws cl) x0 g3 g4;rw[hst] at o1 o4 hdn hfat hsucc;rw[hdn] at hsucc;refine DW (mX (sX (AW (K:=K) (a:=a) (r:=rs[k - 1 - i]) rfl rfl (hR.same (hS02.trans hS)) hrow λdz H5 hS5 _ hdz=>?_)));walk_at "";refine iF (((hd.same hS).same hS5).get g1 hw) ?_;walk_at "";have hwl:=hU.le w hwm;have hlsw:wd ws cl=w.cps.toList:=hwd;refine mX (iU (m:=st) (λm σ H6=>m<=st/\H6=H5/\σ=[some (.ref a),some (sgn c),some (.int n),some (.ref p),some (.ref d),some (.ref pl),some (sgn cl),some (.int (x0 - aN ws (k - 1 - i) ((wd ws cl).take (st - m)))),some (.ref rs[k - 1 - i]),some (.ref dz),some (.str w),some (.int ((st - m:Nat):Int))])
   ⟨Nat.le_refl _,rfl,?_⟩ (λm σ H6 hW=>?_))
  ·rw[sub_self,take_zero];have e0:aN ws (k - 1 - i) []=0:=rfl;rw[e0,Int.sub_zero];rfl
  ·obtain ⟨hm,rfl,rfl⟩:=hW;have hs:st - m<(wd ws cl).length:=by lia
   have hch:(wd ws cl)[st - m]?=some (wd ws cl)[st - m]:=List.getElem?_eq_getElem hs;obtain ⟨QU,sg2⟩:=hU.sign g2 (getElem_mem hs);have hat:rX w.cps.toList ((st - m:Nat):Int)=some (wd ws cl)[st - m]:=gN (by rw[<-hlsw];exact hch);have hwk:=yY (ws:=ws) (k:=k - 1 - i) (wd ws cl) x0 (st - m) _ (by rw[hst];lia) hch;rw[hst] at hwk;walk_at "";refine qH (small (by lia)) hat ?_;refine iF (hdz.get QU sg2) ?_;walk_at "";refine fT (λhc=>sD ?_) λhc=>?_
   ·have hlt2:=hwk.mpr hc;have hm0:0<m:=by lia
    walk_at "";refine qH (small (by lia)) hat ?_;refine iF (hdz.get QU sg2) ?_;walk_at "";refine ⟨m - 1,by lia,by lia,rfl,?_⟩;have e1:st - (m - 1)=(st - m)+1:=by lia
    have e2:aN ws (k - 1 - i) ((wd ws cl).take (st - m+1))=aN ws (k - 1 - i) ((wd ws cl).take (st - m))+sz ws (k - 1 - i) (wd ws cl)[st - m]:=by
     rw[take_add_one,hch];unfold aN;rw[map_append,List.sum_append];simp
    rw[e1,e2];have e3:((st - m:Nat):Int)+1=((st - m+1:Nat):Int):=by lia
    have e4:x0 - aN ws (k - 1 - i) ((wd ws cl).take (st - m)) - sz ws (k - 1 - i) (wd ws cl)[st - m]=x0 - (aN ws (k - 1 - i) ((wd ws cl).take (st - m))+sz ws (k - 1 - i) (wd ws cl)[st - m]):=by lia
    rw[<-e3,<-e4];rfl
   ·have hm0:m=0:=by
     by_cases h0:m=0
     ·exact h0
     ·exact absurd (hwk.mp (by lia)) hc
    subst hm0;have hat0:rX w.cps.toList ((st:Nat):Int)=some (wd ws cl)[st]:=gN (by rw[<-hlsw];exact List.getElem?_eq_getElem o1);rw[Nat.sub_zero];walk_at "";refine qH (small (by lia)) hat0 ?_;walk_at "";refine BV (aP.of (hS5 _ _ hF.1)) ?_;walk_at "";refine ⟨by show 2<=sizeLine;decide,λt ht=>?_⟩;walk_at "";have s6:=aE ht (.tup [V.int (st:Nat),sgn (wd ws cl)[st]]);have htp:t≠pl:=(aB (hS5 _ _ hF.1) ht).symm;have hdn':(wd ws cl)[st]=dn:=by
     rw[List.getElem?_eq_getElem o1] at hdn;exact Option.some.inj hdn
    have hfl:((dQ ws k c n).take i).length=i:=by rw[length_take,cB];lia
    refine eC (s6 _ _ (hS5 _ _ hF.1)) (by rw[length_map,hF.2.1,hfl];exact Nat.lt_of_lt_of_le (show i<1000 by lia) (small (by decide))) ?_;refine ⟨hik,((hO.trans hS5).trans s6).upd,⟨us++[t],⟨by rw[aA,map_append];rfl,?_,λj r f hr hf=>?_⟩,λu hu=>?_⟩,some (.ref rs[k - 1 - i]),some (.ref dz),some (.str w),some (.int st),?_⟩
    ·rw[length_append,hF.2.1,hfl,length_take,cB];show i+1=_;lia
    ·rw[take_add_one,hfat] at hf;by_cases hj:j<us.length
     ·rw[getElem?_append_left hj] at hr;rw[getElem?_append_left (by rw[<-hF.2.1];exact hj)] at hf;have hne:=(hus r (mem_of_getElem? hr)).2;rw[aF hne];exact s6 _ _ (hS5 _ _ (hF.2.2 j r f hr hf))
     ·rw[getElem?_append_right (by lia)] at hr;rw[getElem?_append_right (by rw[<-hF.2.1];lia),<-hF.2.1] at hf;have e0:j - us.length=0:=by
       have:=(List.getElem?_eq_some_iff.mp hr).1;simp at this;lia
      rw[e0] at hr hf;have e1:t=r:=by simpa using hr
      have e2:(st,(bW ws k c n (i+1)).1)=f:=by simpa using hf
      subst e1 e2;rw[aF htp,aA,hsucc,hdn'];rfl
    ·rcases mem_append.mp hu with h|h
     ·exact hus u h
     ·have e:u=t:=by simpa using h
      subst e;exact ⟨none_of (hS02.trans (hS.trans hS5)) ht,htp⟩
    ·rw[hsucc,o4,hdn'];rfl
 ·obtain ⟨hi,hO,⟨us,hF,hus⟩,a8,a9,a10,a11,rfl⟩:=hP;walk_at "";rw[hlen] at hF;rw[take_of_length_le (by rw[cB];exact Nat.le_refl _)] at hF;exact q pl us H' (hS02.trans (hpl4 H' hO)) (none_of hS02 hpl) (λr hr=>(hus r hr).1) hF
noncomputable def bT (K:Fg):Sp:=λvs H Q E=>L2.Na.bT K vs H Q E\/∃(a:Addr) (ws:List Str) (c n m:Nat),vs=[.ref a,sgn c,.int n,.int m]/\1<=m/\Kh K H a ws c ((n+m - 1:Nat):Int) E
noncomputable def gM (K:Fg):List (SX K):=
 [set 4 (call "figures" (dE K) [var 0,var 1,bin .Sub (bin .Add (var 2) (var 3)) (cst (.int 1))]),
  setC 5 (EI none (var 0) (JB [0,1]) (iG (call "figures" (dE K) [var 0,var 1,var 2])) ["step","letter"] [] []),
  set 6 (bin .Mult (lst [cst (.int 0)]) (bin .Sub (len (var 4)) (len (var 5)))),
  set 7 (var 1),
  jP (gR 8) (iG (bin .Add (var 6) (var 5))) [set 7 (uT (uT (call "put" (lO K) [var 0,var 7]) (some (var 8)) none) none (some (var 3)))],
  ret (uT (var 7) none (some (var 3)))]
theorem vO:∀vs H Q E,bT K vs H Q E->vs.length=4:=by
 rintro vs H Q E (⟨_,_,_,_,_,rfl,_⟩|⟨_,_,_,_,_,rfl,_⟩)<;>rfl
theorem uI:TT (bT K) (gM K) ["rule","start","n","many","last","steps","ahead","window","step"]:=by
 intro vs H Q E h;rcases h with h|⟨a,ws,c,n,m,rfl,hm1,hb⟩
 case inr=>
  unfold gM;walk_at "";exact .inr ⟨a,ws,c,_,rfl,(show ((n:Nat):Int)+((m:Nat):Int) - 1=((n+m - 1:Nat):Int) by lia)▸hb⟩
 obtain ⟨a,ws,c,n,m,rfl,hP,hm1,hm2,q⟩:=h;have hU:=hP.ru;obtain ⟨kk,hkk,hGG,hltt⟩:=hP.turns;have hP2:Pl K H a ws c ((n:Nat):Int):=hP.less (by lia) (by lia);obtain ⟨k,hk,hG,hlt⟩:=hP2.turns;have hkle:k<=kk:=by
  by_cases h:k<=kk
  ·exact h
  ·have:=hlt kk (by lia);have:=hGG.2.2.2;lia
 have hGn:=hG.more hU hP.gr hkle;unfold gM;walk_at "";refine .inl ⟨a,ws,c,_,kk,rfl,hP.rt,hU,hP.gr,hkk,?_,?_,λp rs H1 hS1 _ _ hF=>?_⟩
 ·rw[show ((n:Nat):Int)+((m:Nat):Int) - 1=((n+m - 1:Nat):Int) by lia];exact hGG
 ·rw[show ((n:Nat):Int)+((m:Nat):Int) - 1=((n+m - 1:Nat):Int) by lia];exact hltt
 have hrl:rs.length=kk:=by rw[hF.2.1,cB]
 walk_at "";refine .inl ⟨a,ws,c,n,k,rfl,hP.rt.same hS1,hU,hP.gr,hk,hG,hlt,λp2 rs2 H2 hS2 _ _ hF2=>?_⟩;have hrl2:rs2.length=k:=by rw[hF2.2.1,cB]
 have hlm:(rs2.map V.ref).length=k:=by rw[length_map,hrl2]
 refine gT (aP.of hF2.1) ?_;intro D hD;have hfi:∀i,i<k->∃f,(dQ ws k c n)[i]?=some f:=λi hi=>⟨_,List.getElem?_eq_getElem (by rw[cB];exact hi)⟩;refine NW (λi=>.int ((((dQ ws k c n)[i]?.getD (0,0)).1:Nat):Int)) (λi=>.int ((((dQ ws k c n)[i]?.getD (0,0)).1:Nat):Int)) (λi=>sgn ((dQ ws k c n)[i]?.getD (0,0)).2) (aP.of hF2.1) (λi x hx=>?_) hD (small (by lia)) (λi H3 Q' hi hS3 fin=>?_) λH3 hS3 hO=>?_
 ·have hi:i<rs2.length:=by
   have:=(List.getElem?_eq_some_iff.mp hx).1;rw[length_map] at this;exact this
  rw[getElem?_map,List.getElem?_eq_getElem hi] at hx;obtain ⟨f,hf⟩:=hfi i (by lia);refine ⟨rs2[i],(Option.some.inj hx).symm,?_⟩;rw[hf];exact cZ.of (hF2.2.2 i _ f (List.getElem?_eq_getElem hi) hf)
 ·walk_at "";exact fin H3 (aC.refl _)
 have hO':H3 D=some (.lst ((dQ ws k c n).map λf=>V.int (f.1:Nat))):=by
  rw[hO,hlm]
  congr 2
  refine ext_getElem? λi=>?_;rw[getElem?_map,getElem?_map];by_cases hi:i<k
  ·obtain ⟨f,hf⟩:=hfi i hi;rw[getElem?_range hi,hf];show some (V.int ((((dQ ws k c n)[i]?.getD (0,0)).1:Nat):Int))=_;rw[hf];rfl
  ·rw[List.getElem?_eq_none_iff.mpr (by rw[length_range];lia),List.getElem?_eq_none_iff.mpr (by rw[cB];lia)];rfl
 have hl4:(rs.map V.ref).length=kk:=by rw[length_map,hrl]
 have hl5:((dQ ws k c n).map λf=>V.int (f.1:Nat)).length=k:=by rw[length_map,cB]
 have hq4:aP K H3 p (rs.map V.ref):=aP.of ((hS2.trans hS3) _ _ hF.1);have hq5:aP K H3 D ((dQ ws k c n).map λf=>V.int (f.1:Nat)):=aP.of hO';walk_at "";refine ⟨by show 1<=sizeLine;decide,λl hl=>?_⟩;have s4:=aE hl (.lst [V.int 0]);walk_at "";refine wB (s4.seq hq4) ?_;walk_at "";refine wB (s4.seq hq5) ?_;walk_at "";rw[hl4,hl5,show ((kk:Nat):Int) - ((k:Nat):Int)=((kk - k:Nat):Int) by lia];refine DT (xs:=[V.int 0]) aA ⟨by lia,by lia⟩ (small (by show 1 * _<=_;lia)) λl2 hl2=>?_;rw[kY,toNat_natCast];have s5:=aE hl2 (.lst (replicate (kk - k) (V.int 0)));walk_at "";refine BS aA (s5 _ _ (s4 _ _ hO')) (small (by rw[length_replicate,hl5];lia)) λl3 hl3=>?_;rw[vL hU hP.gr hG,show k+(kk - k)=kk by lia];have s6:=aE hl3 (.lst ((dQ ws kk c n).map λf=>V.int (f.1:Nat)));refine gT (aP.of aA) ?_;have hS06:aC H (upd (upd (upd H3 l (.lst [V.int 0])) l2 (.lst (replicate (kk - k) (V.int 0)))) l3 (.lst ((dQ ws kk c n).map λf=>V.int (f.1:Nat)))):=(((hS1.trans hS2).trans hS3).trans (s4.trans s5)).trans s6;refine LX (aP.of aA) (λi σ=>i<=kk/\∃A B a8,At ws c kk n i A B/\σ=[some (.ref a),some (sgn c),some (.int n),some (.int m),some (.ref p),some (.ref D),some (.ref l2),some (.str (aG (((bW ws kk c n i).1::B).take m))),a8])
  ⟨zero_le _,[],[],none,US,?_⟩ (λi x σ1 H7 hx hPi hS7=>?_) λσ1 H7 hPi hS7=>?_
 ·have e:bW ws kk c n 0=(c,((n:Nat):Int)):=by cases kk<;>rfl
  rw[e,take_of_length_le (by show 1<=m;lia)];rfl
 ·obtain ⟨_,A,B,a8,hA,rfl⟩:=hPi;have hi:i<kk:=by
   have:=(List.getElem?_eq_some_iff.mp hx).1;rw[length_map,cB] at this;exact this
  obtain ⟨st,S,hf,hst,hw,hdr,hA'⟩:=UT hU hGn hi hA;have ex:x=.int ((st:Nat):Int):=by
   rw[getElem?_map,hf] at hx;exact (Option.some.inj hx).symm
  subst ex;have hLw:bK ws ((bW ws kk c n i).1::B):=λd hd=>fJ hU hP.c1 hP.c2 i d (by rw[hA.1];exact mem_append_right _ hd);have hLt:bK ws (((bW ws kk c n i).1::B).take m):=λd hd=>hLw d (mem_of_mem_take hd);have hwl:(aG (((bW ws kk c n i).1::B).take m)).length<=m:=by rw[eM,length_take];lia
  walk_at "";refine ⟨a,ws,_,rfl,(hP.rt.same hS06).same hS7,hU.le,hLt.isW,by lia,λH8 hS8=>?_⟩;have hil:=BQ (ws:=ws) (z:=aG (((bW ws kk c n i).1::B).take m)) (B:=100) hU.le;have hil2:(img ws (aG (((bW ws kk c n i).1::B).take m))).length<=1000000:=by lia
  have hls:ls (img ws (aG (((bW ws kk c n i).1::B).take m)))=aI ws (((bW ws kk c n i).1::B).take m):=by rw[jO,aQ];rfl
  have hge:st<=(img ws (aG (((bW ws kk c n i).1::B).take m))).length:=by
   rw[<-aO,hls];obtain ⟨m',rfl⟩:∃m',m=m'+1:=⟨m - 1,by lia⟩;rw[List.take_succ_cons,aL,length_append];lia
  walk_at "";refine eR (small hil2) ?_;walk_at "";have hsl:=lS (img ws (aG (((bW ws kk c n i).1::B).take m))) (some ((st:Nat):Int)) none;refine eR (small (by lia)) ?_;refine ⟨⟨hi,_,_,some (.int st),hA',?_⟩,hS7.trans hS8⟩;have e:Txt.slice (Txt.slice (img ws (aG (((bW ws kk c n i).1::B).take m))) (some ((st:Nat):Int)) none) none (some ((m:Nat):Int))=aG (((bW ws kk c n (i+1)).1::(S++aI ws B)).take m):=by
   refine cP ?_;rw[show ls (Txt.slice (Txt.slice (img ws (aG (((bW ws kk c n i).1::B).take m))) (some ((st:Nat):Int)) none) none (some ((m:Nat):Int)))=(Txt.slice (img ws (aG (((bW ws kk c n i).1::B).take m))) (some ((st:Nat):Int)) none).cps.toList.take ((m:Nat):Int).toNat from cV (by lia)];rw[gH (by lia) (by lia),toNat_natCast,toNat_natCast,aQ];show ((ls (img ws (aG (((bW ws kk c n i).1::B).take m)))).drop st).take m=_;rw[hls,window hU hLw hst hm1,aL,List.drop_append_of_le_length (by lia),hdr];rfl
  rw[e];rfl
 ·obtain ⟨_,A,B,a8,hA,rfl⟩:=hPi;rw[length_map,cB] at hA ⊢;have hAl:=Bx hU hGn hA;walk_at "";refine eR (small (by rw[eM,length_take];lia)) ?_;have e:Txt.slice (aG (((bW ws kk c n kk).1::B).take m)) none (some ((m:Nat):Int))=aG (str ws c n m):=by
   refine cP ?_;rw[show ls (Txt.slice (aG (((bW ws kk c n kk).1::B).take m)) none (some ((m:Nat):Int)))=(aG (((bW ws kk c n kk).1::B).take m)).cps.toList.take ((m:Nat):Int).toNat from cV (by lia)];show (ls (aG (((bW ws kk c n kk).1::B).take m))).take _=_;rw[aQ,toNat_natCast,aQ,List.take_take,Nat.min_self];have hwl:=cS hU hP.c1 hP.c2 kk;have hgg:=hGG.2.2.2;rw[<-fK hU hP.c1 hP.c2 hP.gr (k:=kk) (by lia),hA.1,List.drop_append_of_le_length (by lia),List.drop_of_length_le (by lia)];rfl
  rw[e];exact q _ (hS06.trans hS7)
end L2.Na.Pr
namespace L2.Na
open PySem PySem.Spec PyProof.Rows L2 L2.L3
noncomputable def OZ (X:Cx) (p:Addr) (zs:List Str):Heap->Prop:=λh=>eW X.prog X.w (wX X.w) h p zs
noncomputable def VM (X:Cx):List V->Hp->VK->Prop:=λvs H Q=>∃z:Str,vs=[.str z]/\z.cps.size+1<scanBound/\∀p zs,H p=none->(∀y,y∈zs↔∃c∈ls z,y=⟨#[c]⟩)->zs.Nodup->Q (.ref p) (upd H p (.ext (OZ X p zs)))
theorem QV (X:Cx) (hc:X.calm=true):bS X (.type "set") (VM X):=by
 intro pins s σ H xs us Q I r h;obtain ⟨z,rfl,hb,q⟩:=h;obtain ⟨u,rfl,ru⟩:=r.one;obtain ⟨t,rfl⟩:=ru;refine FU (I.ok.hd hc) hb λh' tk zs hS hm kp=>?_;have hg:∃o,h'.get? s.heap.objs.size=some o:=by
  obtain ⟨o,_,_,_,ho,_⟩:=hS;exact ⟨o,ho⟩
 have nd:zs.Nodup:=by
  obtain ⟨_,_,_,_,_,_,_,_,rfl,nd,_⟩:=id hS;exact nd
 exact ⟨.ref _,_,I.laid (t':=tk) (o:=.ext (OZ X s.heap.objs.size zs)) kp (Nat.le_refl _) ⟨hS,hg,λh1 h2 x k=>eW.keep x k⟩,rfl,q _ zs I.fresh hm nd⟩
noncomputable def En (X:Cx):List V->Hp->VK->Prop:=λvs H Q=>∃(p:Addr) (zs:List Str),vs=[.ref p]/\H p=some (.ext (OZ X p zs))/\zs.length<64/\∀D ss,H D=none->Perm ss zs->ss.Nodup->sortedS ss=true->Q (.ref D) (upd H D (.lst (ss.map V.str)))
theorem jU:∀{vs:List Value} {ss:List Str},StrsAre vs ss->Vals (ss.map V.str) vs
 |_,_,.nil=>.nil
 |_,_,.cons x t h=>.cons ⟨t,rfl⟩ (jU h)
theorem QM (X:Cx) (hc:X.calm=true):bS X (.builtin "sorted") (En X):=by
 intro pins s σ H xs us Q I r h;obtain ⟨p,zs,rfl,hp,h64,q⟩:=h;obtain ⟨u,rfl,ru⟩:=r.one;obtain rfl:u=Value.ref p:=ru;have hS:eW X.prog X.w (wX X.w) s.heap p zs:=(show aZ X.prog X.w H s.heap p (.ext (OZ X p zs)) from I.hok p _ hp).1;have nd:zs.Nodup:=by
  obtain ⟨_,_,_,_,_,_,_,_,rfl,nd,_⟩:=hS;exact nd
 refine xV (I.ok.hd hc) hS h64 λs' D vs ss e kp le hD hs pm st eg eo=>?_;obtain ⟨h',g',d',tk',os'⟩:=s';have eg':g'=s.gens:=eg;have eo':os'=s.os:=eo;subst eg' eo';have fr:H D=none:=I.hok.fresh le;have hl:ss.length<64:=by rw[pm.length_eq];exact h64
 have I1:Inv X pins σ (upd H D (.lst (ss.map V.str))) {s with heap:=h',toks:=tk'}:=I.laid (t':=tk') (o:=.lst (ss.map V.str)) kp le ⟨by rw[length_map,sizeLine_eq];lia,vs,e,jU hs,hD⟩;exact ⟨.ref D,_,⟨I1.ok,I1.os,I1.bare,I1.base,I1.loc,I1.cell,I1.free,I1.freeC,I1.pin,I1.hok,I1.len⟩,rfl,q D ss fr pm (pm.nodup_iff.mpr nd) st⟩
noncomputable def lets (l:List Nat):List Nat:=[97,98,99,100].filter λc=>decide (c∈l)
theorem MA {l:List Nat} (hl:∀c∈l,97<=c/\c<101) (c:Nat):c∈lets l↔c∈l:=by
 unfold lets;rw[mem_filter];constructor
 ·intro h;exact of_decide_eq_true h.2
 ·intro h;have:=hl c h;refine ⟨?_,decide_eq_true h⟩;have:c=97\/c=98\/c=99\/c=100:=by lia
  rcases this with rfl|rfl|rfl|rfl<;>simp
theorem BP:∀{l m:List Nat},l.Pairwise (·<·)->m.Pairwise (·<·)->(∀c,c∈l↔c∈m)->l=m
 |[],[],_,_,_=>rfl
 |[],c::m,_,_,h=>absurd ((h c).mpr mem_cons_self) not_mem_nil
 |c::l,[],_,_,h=>absurd ((h c).mp mem_cons_self) not_mem_nil
 |c::l,d::m,hl,hm,h=>by
  have h1:=pairwise_cons.mp hl;have h2:=pairwise_cons.mp hm;have e:c=d:=by
   rcases mem_cons.mp ((h c).mp mem_cons_self) with e|e
   ·exact e
   ·rcases mem_cons.mp ((h d).mpr mem_cons_self) with e'|e'
    ·exact e'.symm
    ·have:=h2.1 c e;have:=h1.1 d e';lia
  subst e;rw[BP h1.2 h2.2 λx=>?_];constructor
  ·intro hx;rcases mem_cons.mp ((h x).mp (mem_cons_of_mem _ hx)) with e|e
   ·have:=h1.1 x hx;lia
   ·exact e
  ·intro hx;rcases mem_cons.mp ((h x).mpr (mem_cons_of_mem _ hx)) with e|e
   ·have:=h2.1 x hx;lia
   ·exact e
theorem yP (l:List Nat):(lets l).Pairwise (·<·):=Pairwise.filter _ (by decide)
theorem pH:∀(p:Nat) (cs:List Nat),risingS ⟨#[p]⟩ (cs.map λc=>(⟨#[c]⟩:Str))=true->(p::cs).Nodup->(p::cs).Pairwise (·<·)
 |p,[],_,_=>pairwise_cons.mpr ⟨(λ_ h=>absurd h not_mem_nil),Pairwise.nil⟩
 |p,c::cs,h,nd=>by
  have h':(!ltCps [c] [p]&&risingS ⟨#[c]⟩ (cs.map λc=>(⟨#[c]⟩:Str)))=true:=h;rw[and_eq_true] at h';have n1:=nodup_cons.mp nd;have ih:=pH c cs h'.2 n1.2;have hle:¬c<p:=λz=>by
   have lt:ltCps [c] [p]=true:=by rw[ltCps_eq];exact decide_eq_true (List.Lex.rel z)
   have h1:=h'.1;rw[lt] at h1;cases h1
  have hne:p≠c:=λe=>n1.1 (by rw[e];exact mem_cons_self);refine pairwise_cons.mpr ⟨λx hx=>?_,ih⟩;rcases mem_cons.mp hx with rfl|hx
  ·lia
  ·have:=(pairwise_cons.mp ih).1 x hx;lia
theorem xM {ss:List Str} {l:List Nat} (hl:∀c∈l,97<=c/\c<101) (hm:∀y,y∈ss↔∃c∈l,y=⟨#[c]⟩) (nd:ss.Nodup) (st:sortedS ss=true):ss=(lets l).map λc=>(⟨#[c]⟩:Str):=by
 obtain ⟨cs,rfl⟩:∃cs:List Nat,ss=cs.map λc=>(⟨#[c]⟩:Str):=by
  refine ⟨ss.map λy=>y.cps.toList.headD 0,?_⟩;rw[map_map]
  conv=>lhs;rw[<-List.map_id ss]
  refine map_congr_left λy hy=>?_;obtain ⟨c,_,rfl⟩:=(hm y).mp hy;rfl
 have inj:∀a b:Nat,(⟨#[a]⟩:Str)=⟨#[b]⟩->a=b:=λa b e=>by
  have e3:=congrArg ls e;simp [ls] at e3;exact e3
 have nd':cs.Nodup:=by
  have:=List.pairwise_map.mp (show Pairwise (·≠·) (cs.map λc=>(⟨#[c]⟩:Str)) from nd);exact this.imp λh e=>h (by rw[e])
 have inc:cs.Pairwise (·<·):=by
  cases cs with
  |nil=>exact Pairwise.nil
  |cons p cs=>exact pH p cs st nd'
 rw[BP inc (yP l) λc=>?_];rw[MA hl];constructor
 ·intro h;obtain ⟨d,hd,e⟩:=(hm ⟨#[c]⟩).mp (mem_map.mpr ⟨c,h,rfl⟩);rw[inj _ _ e];exact hd
 ·intro h;obtain ⟨d,hd,e⟩:=mem_map.mp ((hm ⟨#[c]⟩).mpr ⟨c,h,rfl⟩);rw[<-inj _ _ e];exact hd
theorem zF {zs:List Str} {l:List Nat} (hl:∀c∈l,97<=c/\c<101) (hm:∀y,y∈zs↔∃c∈l,y=⟨#[c]⟩) (nd:zs.Nodup):zs.length<64:=by
 have sub:zs ⊆ [97,98,99,100].map λc=>(⟨#[c]⟩:Str):=λy hy=>by
  obtain ⟨c,hc,rfl⟩:=(hm y).mp hy;have:=hl c hc;have:c=97\/c=98\/c=99\/c=100:=by lia
  rcases this with rfl|rfl|rfl|rfl<;>simp
 have:zs.length<=4:=Nodup.length_le_of_subset nd sub;lia
noncomputable def JY (x:V) (H:Hp) (Q:VK):Prop:=∃z:Str,x=.str z/\z.length<=4000/\(∀c∈ls z,97<=c/\c<101)/\∀D H',aC H H'->H D=none->H' D=some (.lst ((lets (ls z)).map sgn))->Q (.ref D) H'
variable {K:Fg}
noncomputable def Lc (a:EX K) (C:Sc):Expr->Bool
 | .Call (.Name y _) [.Call (.Name y2 _) es [] _] [] _=>(C.cm&&rH C "sorted" y)&&(rH C "set" y2&&jT [a] C es)
 |_=>false
theorem LU {a:EX K} {C:Sc} {e:Expr} (h:Lc a C e=true):∃y p y2 p2 es q2 q,e=.Call (.Name y p) [.Call (.Name y2 p2) es [] q2] [] q/\C.cm=true/\rH C "sorted" y=true/\rH C "set" y2=true/\jT [a] C es=true:=by
 unfold Lc at h;split at h
 ·simp only [and_eq_true] at h;exact ⟨_,_,_,_,_,_,_,rfl,h.1.1,h.1.2,h.2.1,h.2.2⟩
 ·cases h
noncomputable def JZ:List V->Hp->VK->Prop
 |[x],H,Q=>JY x H Q
 |_,_,_=>False
noncomputable def Ef (a:EX K):EX K:=lX (λE=>Ec JZ (fL [a] E)) (Lc a) (λR=>sQ [a] R/\True) .pl
 (λX C E e hK G hE hq hm=>by
  subst hK
  obtain ⟨y,p,y2,p2,es,q2,q,rfl,hcm,h1,h2,h3⟩:=LU hm
  have e1:=cE h1
  have e2:=cE h2
  subst e1 e2
  obtain ⟨g1,d1⟩:=cD G h1
  obtain ⟨g2,d2⟩:=cD G h2
  have calm:=G.calm hcm
  cases es with
  |nil=>cases h3
  |cons e0 es=>
   intro pins s σ H Q I h
   have inner:PE X (.Call (.Name "set" p2) (e0::es) [] q2) (λσ H Q2=>fL [a] E σ H (λvs H1=>JZ vs H1 Q)/\∀vs H1,JZ vs H1 Q->VM X vs H1 Q2):=by
    intro pins s σ H Q2 I ⟨k1,k2⟩
    refine wpAny_Call_Name_kw (fQ I g2 (G.bl _ (by decide+kernel)) PyProof.Rows.Boot.set ?_ (by decide+kernel) d2)
    exact PyProof.Rows.callWith_type1 (bU (dU G hE [a] (e0::es) hq.1 h3 q2 pins s σ H _ I k1) λus s1 ⟨vs,H1,I1,r1,z1⟩=>QV X calm pins s1 σ H1 vs us Q2 I1 r1 (k2 vs H1 z1)) (aX (a.sok C e0 (aH h3).1)) (bJ [] es (aH h3).2)
   refine yG (QM X calm) g1 (G.bl _ (by decide+kernel)) PyProof.Rows.Boot.sorted (DI inner KW) (by decide+kernel) d1 rfl rfl pins s σ H Q I ⟨h,λvs H1 z1=>?_⟩
   match vs,z1 with
   |[x],⟨z,ez,b4,hl,fin⟩=>
    refine ⟨z,by rw[ez],?_,λp zs fr hm nd=>?_⟩
    ·have:z.cps.size=z.length:=rfl
     show z.cps.size+1<4096
     lia
    ·refine ⟨p,zs,rfl,aA,zF hl hm nd,λD ss frD pm nds st=>?_⟩
     have es':=xM hl (λy=>by rw[pm.mem_iff];exact hm y) nds st
     have s1:=aE fr (.ext (OZ X p zs))
     refine fin D _ (s1.trans (aE frD _)) (none_of s1 frD) ?_
     rw[aA,es',map_map]
     rfl)
 (λC e hm=>by
  obtain ⟨y,p,y2,p2,es,q2,q,rfl,_⟩:=LU hm
  exact ⟨rfl,rfl⟩)
theorem Ab {E:XS} {σ:St} {H:Hp} {Q:VK} {a:EX K} (h:a.t E σ H λx H1=>JY x H1 Q):(Ef a).t E σ H Q:=h
theorem TM {H:Hp} {Q:VK} {z:Str} (h1:z.length<=4000) (h2:∀c∈ls z,97<=c/\c<101) (h:∀D H',aC H H'->H D=none->H' D=some (.lst ((lets (ls z)).map sgn))->Q (.ref D) H'):JY (.str z) H Q:=⟨z,rfl,h1,h2,h⟩
end L2.Na
namespace L2.Na.Mx
noncomputable def rJ (R:Nat->Nat->Prop):Nat->Nat->Nat->Prop
 |0,i,j=>i=j
 |k+1,i,j=>∃m,R i m/\rJ R k m j
section
variable {R:Nat->Nat->Prop}
theorem rJ.add:∀{a b i m j:Nat},rJ R a i m->rJ R b m j->rJ R (a+b) i j
 |0,b,i,m,j,h,g=>by have e:i=m:=h;subst e;rw[zero_add];exact g
 |a+1,b,i,m,j,⟨l,h1,h2⟩,g=>by rw[show a+1+b=(a+b)+1 by lia];exact ⟨l,h1,rJ.add h2 g⟩
theorem rJ.cut:∀{a b i j:Nat},rJ R (a+b) i j->∃m,rJ R a i m/\rJ R b m j
 |0,b,i,j,h=>⟨i,rfl,by rw[zero_add] at h;exact h⟩
 |a+1,b,i,j,h=>by
  rw[show a+1+b=(a+b)+1 by lia] at h;obtain ⟨l,h1,h2⟩:=h;obtain ⟨m,h3,h4⟩:=rJ.cut h2;exact ⟨m,⟨l,h1,h3⟩,h4⟩
end
section
variable {R:Nat->Nat->Prop} {n:Nat}
noncomputable def Full (R:Nat->Nat->Prop) (n k:Nat):Prop:=∀i j,i<n->j<n->rJ R k i j
end
end L2.Na.Mx
namespace L2.Na.K41
open PySem PySem.Spec PyProof.Rows L2 L2.L3
noncomputable def Rw (ws:List Str) (i j:Nat):Prop:=∃w,ws[i]?=some w/\97+j∈ls w
noncomputable def hs (ws:List Str):Nat->Nat->List Nat
 |0,i=>[97+i]
 |k+1,i=>lets ((hs ws k i).flatMap (wd ws))
theorem SQ (h:c∈lets ns):c∈ns/\97<=c/\c<101:=by
 unfold lets at h;rw[mem_filter] at h;refine ⟨of_decide_eq_true h.2,?_⟩;have:=h.1;simp at this;lia
theorem TJ (h:c∈ns) (h1:97<=c) (h4:c<101):c∈lets ns:=by
 unfold lets;rw[mem_filter];refine ⟨?_,decide_eq_true h⟩;have:c=97\/c=98\/c=99\/c=100:=by lia
 rcases this with rfl|rfl|rfl|rfl<;>simp
section
variable {ws:List Str} (hU:Ru ws)
include hU
theorem PB (h:Rw ws i j):j<ws.length:=by
 obtain ⟨w,hw,hj⟩:=h;have:=hU.isw w (mem_of_getElem? hw) _ hj;lia
theorem pJ:∀{k i j:Nat},i<ws.length->Mx.rJ (Rw ws) k i j->j<ws.length
 |0,i,j,hi,h=>by have e:i=j:=h;exact e▸hi
 |k+1,i,j,hi,⟨m,h1,h2⟩=>pJ (PB hU h1) h2
theorem qI:∀(k i c:Nat),i<ws.length->(c∈hs ws k i↔97<=c/\Mx.rJ (Rw ws) k i (c - 97))
 |0,i,c,_=>by
  show c∈[97+i]↔97<=c/\i=c - 97;rw[mem_singleton];lia
 |k+1,i,c,hi=>by
  have h4:=hU.four;show c∈lets ((hs ws k i).flatMap (wd ws))↔_;have wdm:∀d,97<=d->d - 97<ws.length->∀e,e∈wd ws d↔97<=e/\Rw ws (d - 97) (e - 97):=λd h1 h2 e=>by
   unfold wd;rw[List.getElem?_eq_getElem h2];constructor
   ·intro he;have b:=hU.isw _ (getElem_mem h2) e he;exact ⟨b.1,ws[d - 97],List.getElem?_eq_getElem h2,by rw[show 97+(e - 97)=e by lia];exact he⟩
   ·rintro ⟨he,w,hw,hm⟩;rw[List.getElem?_eq_getElem h2] at hw;cases hw;rw[show 97+(e - 97)=e by lia] at hm;exact hm
  constructor
  ·intro h;obtain ⟨d,hd,hc⟩:=mem_flatMap.mp (SQ h).1;obtain ⟨d1,d2⟩:=(qI k i d hi).mp hd;have dl:=pJ hU hi d2;obtain ⟨c1,c2⟩:=(wdm d d1 dl c).mp hc;exact ⟨c1,Mx.rJ.add d2 (b:=1) ⟨c - 97,c2,rfl⟩⟩
  ·rintro ⟨c1,h⟩;obtain ⟨m,g1,m2,g2,g3⟩:=Mx.rJ.cut (a:=k) (b:=1) h;have e3:m2=c - 97:=g3;subst e3;have ml:=pJ hU hi g1;have cl:=PB hU g2;refine TJ (mem_flatMap.mpr ⟨97+m,(qI k i (97+m) hi).mpr ⟨by lia,by rw[show 97+m - 97=m by lia];exact g1⟩,(wdm (97+m) (by lia) (by lia) c).mpr ⟨c1,?_⟩⟩) c1 (by lia);rw[show 97+m - 97=m by lia];exact g2
omit hU in
theorem Ay:∀(k i:Nat),(hs ws k i).Pairwise (·<·)
 |0,i=>List.pairwise_singleton _ _
 |k+1,i=>yP _
theorem DY:(∀i,i<ws.length->hs ws k i=(range ws.length).map (97+·))↔Mx.Full (Rw ws) ws.length k:=by
 constructor
 ·intro h i j hi hj;have z:97+j∈hs ws k i:=by rw[h i hi];exact mem_map.mpr ⟨j,mem_range.mpr hj,rfl⟩
  have:=((qI hU k i (97+j) hi).mp z).2;rwa [show 97+j - 97=j by lia] at this
 ·intro h i hi;refine BP (Ay k i) (List.pairwise_map.mpr (List.pairwise_lt_range.imp λz=>by lia)) λc=>?_;rw[qI hU k i c hi];constructor
  ·rintro ⟨c1,c2⟩;exact mem_map.mpr ⟨c - 97,mem_range.mpr (pJ hU hi c2),by lia⟩
  ·intro hc;obtain ⟨j,hj,rfl⟩:=mem_map.mp hc;exact ⟨by lia,by rw[show 97+j - 97=j by lia];exact h i j hi (mem_range.mp hj)⟩
omit hU in
end
noncomputable def PM (ws:List Str):Bool:=(range ws.length).all λi=>decide (hs ws 10 i=(range ws.length).map (97+·))
theorem yO (l:List Nat):(lets l).length<=4:=by
 unfold lets;exact le_trans (List.length_filter_le _ _) (by decide)
variable {K:Fg}
noncomputable def jD (K:Fg):Sp:=λvs H Q _=>∃z:Str,vs=[.str z]/\z.length<=4000/\(∀c∈ls z,97<=c/\c<101)/\∀H',aC H H'->Q (.str (aG (lets (ls z)))) H'
noncomputable def lG (K:Fg):List (SX K):=
 [ret (pQ (cst (.str "")) (Ef (var 0)))]
theorem uK:TT (jD K) (lG K) ["word"]:=by
 intro vs H Q E h;obtain ⟨z,rfl,h1,h2,q⟩:=h;unfold lG;walk_at "";refine Ab ?_;walk_at "";refine TM h1 h2 λD H1 hS nD hD=>?_;walk_at "";have l4:=yO (ls z);have hb:(((lets (ls z)).map λc=>(⟨#[c]⟩:Str)).map (·.length)).sum<=4 * 1:=by
  refine le_trans (uN (B:=1) λx hx=>?_) (by rw[length_map,length_map];exact Nat.mul_le_mul_right _ l4);obtain ⟨y,hy,rfl⟩:=mem_map.mp hx;obtain ⟨c,_,rfl⟩:=mem_map.mp hy;exact Nat.le_refl _
 refine ⟨(lets (ls z)).map λc=>(⟨#[c]⟩:Str),.inl ?_,?_,?_⟩
 ·rw[hD,map_map];rfl
 ·have e:(Str.ofString "").length=0:=by decide+kernel
  rw[e];lia
 ·have e:Txt.join (Str.ofString "") ((lets (ls z)).map λc=>(⟨#[c]⟩:Str))=aG (lets (ls z)):=cP (by
   rw[kS,aQ,map_map]
   have:∀l:List Nat,(l.map (ls∘λc=>(⟨#[c]⟩:Str))).flatten=l:=by
    intro l
    induction l with
    |nil=>rfl
    |cons c l ih=>rw[map_cons,flatten_cons,ih];rfl
   exact this _)
  rw[e];exact q H1 hS
noncomputable def xP (K:Fg):Sp:=λvs H Q _=>∃(a:Addr) (ws:List Str),vs=[.ref a]/\uC K H a ws/\Ru ws/\∀H',aC H H'->Q (.bl (PM ws)) H'
noncomputable def EU (K:Fg):List (SX K):=
 [set 1 (call "letters" (cO K) [len (var 0)]),
  set 2 (listS (var 1)),
  jP (gR 3) (rT (Az "ENOUGH_TURNS" (.int 10)) []) [setC 2 (EI none (call "letters_in" (jD K) [call "put" (lO K) [var 1,var 0]]) (gR 0) (iG (var 2)) ["word"] ["rule"] [0])],
  ret (Je (comp (cmp .Eq (var 0) (var 1)) (gR 0) (iG (var 2)) ["word"] ["known"] [1]))]
theorem Ib {ws:List Str} (hU:Ru ws) {k i:Nat} (hi:i<ws.length):(hs ws k i).length<=4/\∀c∈hs ws k i,97<=c/\c<97+ws.length:=by
 refine ⟨?_,λc hc=>?_⟩
 ·cases k with
  |zero=>exact (by decide:1<=4)
  |succ k=>exact yO _
 ·obtain ⟨h1,h2⟩:=(qI hU k i c hi).mp hc;have:=pJ hU hi h2;lia
theorem OV {α:Type} (f:α->Bool):∀l:List α,(l.map f).all id=l.all f
 |[]=>rfl
 |x::l=>by rw[map_cons,all_cons,all_cons,OV f l];rfl
theorem QF:TT (xP K) (EU K) ["rule","known","held","turn"]:=by
 intro vs H Q E h;obtain ⟨a,ws,rfl,hR,hU,q⟩:=h;have hq:=hR.tp;have h4:=hR.four;have hlen:(ws.map V.str).length=ws.length:=length_map _;have k0:(0:Int)<=((ws.length:Nat):Int):=by lia
 have k4:((ws.length:Nat):Int)<=4:=by lia
 unfold EU;walk_at "";rw[hlen];refine ⟨_,rfl,?_⟩;walk_at "";refine TN ?_;walk_at "";refine ⟨small (by rw[iX k0 k4];lia),λl nl=>?_⟩;have hl0:(upd H l (.lst (jB (known ((ws.length:Nat):Int))))) l=some (.lst ((range ws.length).map λi=>V.str (aG (hs ws 0 i)))):=by
  rw[aA];have e:jB (known ((ws.length:Nat):Int))=(range ws.length).map λi=>V.str (aG (hs ws 0 i)):=by
   unfold jB;rw[show (known ((ws.length:Nat):Int)).cps.toList=ls (known ((ws.length:Nat):Int)) from rfl,dO k0 k4,map_map,toNat_natCast];rfl
  rw[e]
 have s0:=aE nl (.lst (jB (known ((ws.length:Nat):Int))));revert hl0 s0;generalize upd H l (.lst (jB (known ((ws.length:Nat):Int))))=H0;intro hl0 s0;walk_at "";refine eP (λk σ H'=>aC H H'/\∃(r:Addr) (a3:Option V),H' r=some (.lst ((range ws.length).map λi=>V.str (aG (hs ws k i))))/\σ=[some (.ref a),some (.str (known ((ws.length:Nat):Int))),some (.ref r),a3])
  ⟨s0,l,none,hl0,rfl⟩ (λk σ H' hk hP=>?_) λσ H' hP=>?_
 ·obtain ⟨hS,r,a3,hr,rfl⟩:=hP;walk_at "";refine gT (aP.of hr) ?_;intro D hD;refine iY (λi=>V.str (aG (hs ws (k+1) i))) (aP.of hr) hD (small (by rw[length_map,length_range];lia)) (λi x H1 Q' hx hS1 fin=>?_) λH1 hS1 hO=>?_
  ·have hi:i<ws.length:=by
    have:=(List.getElem?_eq_some_iff.mp hx).1;rw[length_map,length_range] at this;exact this
   have ex:x=V.str (aG (hs ws k i)):=by
    rw[getElem?_map,getElem?_range hi] at hx;exact (Option.some.inj hx).symm
   subst ex;obtain ⟨g1,g2⟩:=Ib hU (k:=k) hi;have hw:fG ws.length (aG (hs ws k i)):=λc hc=>by rw[aQ] at hc;exact g2 c hc
   have hwl:(aG (hs ws k i)).length<=4:=by rw[eM];exact g1
   walk_at "";refine ⟨a,ws,_,rfl,(hR.same hS).same hS1,hU.le,hw,by lia,λH2 hS2=>?_⟩;walk_at "";have il:(img ws (aG (hs ws k i))).length<=4 * 100:=le_trans (BQ hU.le) (Nat.mul_le_mul_right _ hwl);have iw:=DS (z:=aG (hs ws k i)) hU.isw;refine ⟨_,rfl,by lia,λc hc=>by have:=iw c hc;lia,λH3 hS3=>?_⟩;have:=fin H3 (hS2.trans hS3);have e:lets (ls (img ws (aG (hs ws k i))))=hs ws (k+1) i:=by rw[jO,aQ];rfl
   rw[e];exact this
  ·refine ⟨hS.trans hS1,D,_,?_,rfl⟩;rw[hO,length_map,length_range]
 ·obtain ⟨hS,r,a3,hr,rfl⟩:=hP;walk_at "";refine gT (aP.of hr) ?_;intro D hD;refine iY (λi=>V.bl (decide (hs ws 10 i=(range ws.length).map (97+·)))) (aP.of hr) hD (small (by rw[length_map,length_range];lia)) (λi x H1 Q' hx hS1 fin=>?_) λH1 hS1 hO=>?_
  ·have hi:i<ws.length:=by
    have:=(List.getElem?_eq_some_iff.mp hx).1;rw[length_map,length_range] at this;exact this
   have ex:x=V.str (aG (hs ws 10 i)):=by
    rw[getElem?_map,getElem?_range hi] at hx;exact (Option.some.inj hx).symm
   subst ex;walk_at "";have:=fin H1 (aC.refl _);have e:decide (aG (hs ws 10 i)=known ((ws.length:Nat):Int))=decide (hs ws 10 i=(range ws.length).map (97+·)):=decide_eq_decide.mpr ⟨λe=>by
    have e2:=congrArg ls e
    rw[aQ,dO k0 k4,toNat_natCast] at e2
    exact e2,λe=>cP (by rw[aQ,dO k0 k4,toNat_natCast];exact e)⟩
   rw[e];exact this
  ·refine ⟨D,(range ws.length).map λi=>decide (hs ws 10 i=(range ws.length).map (97+·)),rfl,?_,?_⟩
   ·rw[hO,length_map,length_range,map_map];rfl
   ·have z:=q H1 (hS.trans hS1);unfold PM at z;rw[OV];exact z
end L2.Na.K41
namespace L2.Na
open PySem
noncomputable def bY (ws:List Str) (x:List Nat):List (List Nat):=(range (wd ws (x.headD 0)).length).map λj=>((aI ws x).drop j).take x.length
noncomputable abbrev cR:=List Nat × List Int
noncomputable def bI (f:List cR):List (List Nat):=f.map (·.1)
noncomputable def bH (f:List cR) (p:cR):List cR:=if p.1∈bI f then f else f++[p]
noncomputable def chl (ws:List Str) (x:cR):List cR:=(range (wd ws (x.1.headD 0)).length).map λj=>(((aI ws x.1).drop j).take x.1.length,zipWith (·+·) (zR (rowsOf ws) x.2 1) (bE ws.length (aG ((wd ws (x.1.headD 0)).take j))))
noncomputable def aK (ws:List Str) (f0:List cR):Nat->List cR
 |0=>f0
 |i+1=>match (aK ws f0 i)[i]? with
  |some x=>(chl ws x).foldl bH (aK ws f0 i)
  |none=>aK ws f0 i
theorem fB (f g:List cR):bI (f++g)=bI f++bI g:=map_append
theorem fA (f:List cR):(bI f).length=f.length:=length_map _
theorem oJ (ws:List Str) (x:cR):bI (chl ws x)=bY ws x.1:=by
 unfold bI chl bY;rw[map_map];rfl
theorem OX (f:List cR) (p:cR):∃t,bH f p=f++t:=by
 unfold bH;split
 ·exact ⟨[],(append_nil f).symm⟩
 ·exact ⟨[p],rfl⟩
theorem lJ:∀(ps f:List cR),∃t,ps.foldl bH f=f++t
 |[],f=>⟨[],(append_nil f).symm⟩
 |p::ps,f=>by
  obtain ⟨t,e⟩:=OX f p;obtain ⟨u,g⟩:=lJ ps (bH f p);exact ⟨t++u,by rw[foldl_cons,g,e,List.append_assoc]⟩
theorem JP (ws:List Str) (f0:List cR) (i:Nat):∃t,aK ws f0 (i+1)=aK ws f0 i++t:=by
 show ∃t,(match (aK ws f0 i)[i]? with|some x=>(chl ws x).foldl bH (aK ws f0 i)|none=>aK ws f0 i)=_;cases (aK ws f0 i)[i]? with
 |none=>exact ⟨[],(append_nil _).symm⟩
 |some x=>exact lJ _ _
theorem eB (ws:List Str) (f0:List cR) (i:Nat):∀k,∃t,aK ws f0 (i+k)=aK ws f0 i++t
 |0=>⟨[],(append_nil _).symm⟩
 |k+1=>by
  obtain ⟨t,e⟩:=eB ws f0 i k;obtain ⟨u,g⟩:=JP ws f0 (i+k);exact ⟨t++u,by rw[<-Nat.add_assoc,g,e,List.append_assoc]⟩
theorem CY (ws:List Str) (f0:List cR) (h:i<=k):(aK ws f0 i).length<=(aK ws f0 k).length:=by
 obtain ⟨t,e⟩:=eB ws f0 i (k - i);rw[show i+(k - i)=k by lia] at e;rw[e,length_append];lia
theorem kB (ws:List Str) (f0:List cR) (h:(aK ws f0 i).length<=i):∀k,aK ws f0 (i+k)=aK ws f0 i
 |0=>rfl
 |k+1=>by
  have ih:=kB ws f0 h k;show (match (aK ws f0 (i+k))[i+k]? with|some x=>(chl ws x).foldl bH (aK ws f0 (i+k))|none=>aK ws f0 (i+k))=_;rw[ih,List.getElem?_eq_none (by lia)]
structure rZ (ws:List Str) (L:Nat) (f:List cR):Prop where
 nd:(bI f).Nodup
 ok:∀p∈f,p.1.length=L/\bK ws p.1/\p.2.length=ws.length
theorem UX (h:rZ ws L f) (hp:p.1.length=L/\bK ws p.1/\p.2.length=ws.length):rZ ws L (bH f p):=by
 unfold bH;split
 ·exact h
 ·rename_i hn;refine ⟨?_,λq hq=>?_⟩
  ·rw[fB];exact List.nodup_append.mpr ⟨h.nd,nodup_cons.mpr ⟨by simp [bI],List.nodup_nil⟩,λa ha b hb e=>hn (by
    have:b=p.1:=by simpa [bI] using hb
    rw[<-this,<-e]
    exact ha)⟩
  ·rcases mem_append.mp hq with hq|hq
   ·exact h.ok q hq
   ·have:q=p:=by simpa using hq
    subst this;exact hp
theorem wU:∀{ps f:List cR},rZ ws L f->(∀p∈ps,p.1.length=L/\bK ws p.1/\p.2.length=ws.length)->rZ ws L (ps.foldl bH f)
 |[],f,h,_=>h
 |p::ps,f,h,hp=>by
  rw[foldl_cons];exact wU (f:=bH f p) (UX h (hp p (by simp))) λq hq=>hp q (by simp [hq])
theorem vY (hU:Ru ws):∀{l:List Nat},bK ws l->l.length<=(aI ws l).length
 |[],_=>zero_le _
 |c::l,h=>by
  obtain ⟨w,_,e,m⟩:=hU.word (h c (by simp)).2;have:=hU.one w m;rw[<-aO] at this;have ih:=vY hU (l:=l) λd hd=>h d (by simp [hd]);rw[aL,length_append,length_cons,e];lia
theorem cW (hU:Ru ws) (hx:bK ws x) (h1:1<=x.length) (hj:j<(wd ws (x.headD 0)).length):(((aI ws x).drop j).take x.length).length=x.length:=by
 cases x with
 |nil=>simp at h1
 |cons c l=>
  have ih:=vY hU (l:=l) λd hd=>hx d (by simp [hd]);rw[length_take,length_drop,aL,length_append,length_cons];have hj':j<(wd ws c).length:=hj;lia
theorem OC (hU:Ru ws) (hL:1<=L) (hx:x.1.length=L/\bK ws x.1/\x.2.length=ws.length):∀p∈chl ws x,p.1.length=L/\bK ws p.1/\p.2.length=ws.length:=λp hp=>by
 obtain ⟨j,hj,rfl⟩:=mem_map.mp hp;have hj':=mem_range.mp hj;refine ⟨?_,λc hc=>hx.2.1.img hU c (mem_of_mem_drop (mem_of_mem_take hc)),?_⟩
 ·have:=cW hU hx.2.1 (by lia) hj';rw[this];exact hx.1
 ·show (zipWith (·+·) (zR (rowsOf ws) x.2 1) _).length=_;rw[length_zipWith,wO hx.2.2,dR];lia
theorem cU (hU:Ru ws) (hL:1<=L) {f0:List cR} (h0:rZ ws L f0):∀i,rZ ws L (aK ws f0 i)
 |0=>h0
 |i+1=>by
  have ih:=cU hU hL h0 i;show rZ ws L (match (aK ws f0 i)[i]? with|some x=>(chl ws x).foldl bH (aK ws f0 i)|none=>aK ws f0 i);cases e:(aK ws f0 i)[i]? with
  |none=>exact ih
  |some x=>exact wU ih (OC hU hL (ih.ok x (mem_of_getElem? e)))
noncomputable def UW (f:List (List Nat)) (x:List Nat):List (List Nat):=if x∈f then f else f++[x]
theorem zY (f:List cR) (p:cR):bI (bH f p)=UW (bI f) p.1:=by
 unfold bH UW;split
 ·rfl
 ·rw[fB];rfl
noncomputable def mU (f:List cR) (as:List Addr):List (L2.Key × L2.V):=zipWith (λp a=>(Sum.inr (aG p.1),L2.V.ref a)) f as
theorem oC (h:aG x=aG y):x=y:=by
 have:=congrArg ls h;rwa [aQ,aQ] at this
theorem pU:∀{f:List cR} {as:List Addr} {x:List Nat},x∉bI f->L2.dJ (mU f as) (Sum.inr (aG x))=none
 |[],as,x,_=>by cases as<;>rfl
 |p::f,[],x,_=>rfl
 |p::f,a::as,x,h=>by
  have h1:¬(Sum.inr (aG p.1):L2.Key)=Sum.inr (aG x):=λe=>h (by
   have:=oC (Sum.inr.inj e)
   rw[<-this]
   exact mem_cons_self)
  show L2.dJ ((Sum.inr (aG p.1),L2.V.ref a)::mU f as) _=none;rw[L2.fX h1];exact pU λz=>h (mem_cons_of_mem _ z)
theorem oF:∀{f:List cR} {as:List Addr} {i:Nat} {p:cR} {a:Addr},(bI f).Nodup->f[i]?=some p->as[i]?=some a->L2.dJ (mU f as) (Sum.inr (aG p.1))=some (.ref a)
 |[],as,i,p,a,_,h,_=>by simp at h
 |q::f,[],i,p,a,_,_,h=>by simp at h
 |q::f,b::as,0,p,a,_,h1,h2=>by
  cases h1;cases h2;exact L2.gX rfl
 |q::f,b::as,i+1,p,a,nd,h1,h2=>by
  have nd':(q.1::bI f).Nodup:=nd;obtain ⟨n1,n2⟩:=nodup_cons.mp nd';have hm:p.1∈bI f:=mem_map.mpr ⟨p,mem_of_getElem? (by simpa using h1),rfl⟩;have ne:¬(Sum.inr (aG q.1):L2.Key)=Sum.inr (aG p.1):=λe=>n1 (by
   have:=oC (Sum.inr.inj e)
   rw[this]
   exact hm)
  show L2.dJ ((Sum.inr (aG q.1),L2.V.ref b)::mU f as) _=_;rw[L2.fX ne];exact oF n2 (by simpa using h1) (by simpa using h2)
theorem SU (h:x∉bI f):L2.putK (mU f as) (Sum.inr (aG x)) v=mU f as++[(Sum.inr (aG x),v)]:=by
 unfold L2.putK;rw[if_neg];rw[L2.jV,pU h];simp
theorem SW (h:f.length=as.length):mU f as++[(Sum.inr (aG p.1),.ref a)]=mU (f++[p]) (as++[a]):=by
 unfold mU;rw[List.zipWith_append h];rfl
theorem vQ (h:f.length=as.length):(mU f as).length=f.length:=by
 unfold mU;rw[length_zipWith];lia
open PySem.Spec PyProof.Rows L2 L2.L3
theorem pE (h:n+j<=z.length):Txt.slice z (some ((n:Nat):Int)) (some ((n:Nat)+(j:Nat):Int))=aG (((ls z).drop n).take j):=by
 rw[show ((n:Nat):Int)+((j:Nat):Int)=(((n+j:Nat)):Int) by lia];refine cP ?_;rw[aQ];have e:=beq_iff_eq.mp (slice_closes (x:=z) (i:=((n:Nat):Int)) (j:=(((n+j:Nat)):Int)) ⟨by lia,by lia,by rw[show z.cps.toList.length=z.length from aO z];lia⟩);rw[e];show ((ls z).drop ((n:Nat):Int).toNat).take ((((n+j:Nat)):Int) - ((n:Nat):Int)).toNat=_;rw[toNat_natCast,show ((((n+j:Nat)):Int) - ((n:Nat):Int)).toNat=j by lia]
variable {K:Fg}
noncomputable def cN (K:Fg):Sp:=λvs H Q _=>∃(a:Addr) (ws:List Str) (x:List Nat),vs=[.ref a,.str (aG x)]/\uC K H a ws/\Ru ws/\bK ws x/\1<=x.length/\x.length<=400/\
 ∀p H',aC H H'->H p=none->H' p=some (.lst ((bY ws x).map λy=>V.str (aG y)))->Q (.ref p) H'
noncomputable def fF (K:Fg):List (SX K):=
 [set 2 (call "put" (lO K) [var 0,var 1]),
  ret (comp (uT (var 1) (some (var 0)) (some (bin .Add (var 0) (len (var 2))))) (gR 0) (rT (len (call "put" (lO K) [var 0,uT (var 1) none (some (cst (.int 1)))])) []) ["place"] ["made","piece"] [2,1])]
theorem fD (hU:Ru ws):∀{l:List Nat},(aI ws l).length<=100 * l.length
 |[]=>zero_le _
 |c::l=>by
  have ih:=fD hU (l:=l);have:(wd ws c).length<=100:=by
   unfold wd;cases e:ws[c - 97]? with
   |none=>exact zero_le _
   |some w=>
    have:=hU.le w (mem_of_getElem? e);rw[<-aO] at this;exact this
  rw[aL,length_append,length_cons];lia
theorem aV (x:List Nat):(aG x).length=x.length:=by rw[<-aO,aQ]
theorem tD (h1:1<=x.length):img ws (Txt.slice (aG x) none (some 1))=aG (wd ws (x.headD 0)):=by
 rw[eQ]
 congr 1
 show aI ws (Txt.slice (aG x) none (some 1)).cps.toList=_;rw[cV (by decide)];show aI ws ((ls (aG x)).take 1)=_;rw[aQ];cases x with
 |nil=>simp at h1
 |cons c l=>
  show aI ws [c]=wd ws c;rw[aL];exact append_nil _
theorem jY:TT (cN K) (fF K) ["rule","piece","made"]:=by
 intro vs H Q E h;obtain ⟨a,ws,x,rfl,hR,hU,hx,h1,h4,q⟩:=h;have hW:fG ws.length (aG x):=hx.isW;have hil:=fD hU (l:=x);have hxl:=aV x;unfold fF;walk_at "";refine ⟨a,ws,aG x,rfl,hR,hU.le,hW,by lia,λH1 s1=>?_⟩;walk_at "";refine eR (small (by lia)) ?_;walk_at "";refine ⟨a,ws,_,rfl,hR.same s1,hU.le,hW.to (by decide),by have:=lS (aG x) none (some 1);lia,λH2 s2=>?_⟩;rw[tD h1];have hwl:(wd ws (x.headD 0)).length<=100:=by
  have:=fD hU (l:=[x.headD 0]);rw[aL] at this;simpa [aI] using this
 refine eS (small (by rw[aV];lia)) ?_;rw[aV];walk_at "";intro D hD;refine NX (λj=>V.str (aG (((aI ws x).drop j).take x.length))) hD (small (by lia)) (λj H3 Q' hj s3 fin=>?_) λH3 s3 hO=>?_
 ·rw[toNat_natCast] at hj;rw[show (0:Int)+((j:Nat):Int)=((j:Nat):Int) by lia];walk_at "";refine eS (small (by lia)) ?_;walk_at "";have pl:=cW hU hx h1 hj;rw[length_take,length_drop] at pl;refine eR (small (by rw[eQ,aV,aQ];lia)) ?_;rw[eQ,aQ,hxl,pE (by rw[aV];lia),aQ];exact fin H3 (aC.refl _)
 ·refine q D H3 ((s1.trans s2).trans s3) (none_of (s1.trans s2) hD) ?_;rw[hO,toNat_natCast];unfold bY;rw[map_map];rfl
end L2.Na
namespace L2.Na.Pr
open PySem PySem.Spec PyProof.Rows L2 L2.L3
variable {K:Fg}
structure WO (H:Hp) (d:Addr) (as:List Addr) (f:List cR):Prop where
 d:H d=some (.dK (mU f as))
 l:f.length=as.length
 v:∀(i:Nat) (a:Addr) (p:cR),as[i]?=some a->f[i]?=some p->H a=some (.lst (p.2.map V.int))
theorem WO.same {H H':Hp} {d:Addr} {as:List Addr} {f:List cR} (h:WO H d as f) (e:aC H H'):WO H' d as f:=⟨e _ _ h.d,h.l,λi a p x y=>e _ _ (h.v i a p x y)⟩
noncomputable def f0 (ws:List Str) (c L:Nat):List cR:=[(str ws c 0 L,replicate ws.length 0)]
noncomputable def bA (ws:List Str) (c L:Nat):List cR:=aK ws (f0 ws c L) 300
noncomputable def cK (K:Fg):Sp:=λvs H Q E=>
 (∃(a:Addr) (ws:List Str) (c L:Nat),vs=[.ref a,sgn c,.int (L:Nat)]/\1<=L/\L<=400/\Pl K H a ws c ((0+L - 1:Nat):Int)/\
  ((bA ws c L).length<=300->∀d as H',aC H H'->H d=none->(∀a∈as,H a=none)->WO H' d as (bA ws c L)->Q (.ref d) H')/\(300<(bA ws c L).length->TG K 300 H E))\/
 ∃(a:Addr) (ws:List Str) (c L:Nat),vs=[.ref a,sgn c,.int (L:Nat)]/\1<=L/\Kh K H a ws c ((0+L - 1:Nat):Int) E
noncomputable def OS (K:Fg):List (SX K):=
 [qF (Ga (var 11) (var 5)) [qF (cmp .Eq (len (var 4)) (Az "MOST_PIECES" (.int 300))) [AY "TooGreat" "self" "most" "most" (Az "MOST_PIECES" (.int 300))] [],
         ex (cF (var 4) (var 11)),
     put (var 5) (var 11) (call "added" (pD K) [var 9,call "counts" (lR K) [uT (var 8) none (some (var 10)),len (var 0)]])] []]
noncomputable def WN (K:Fg):List (SX K):=
 [set 7 (ix (var 4) (var 6)),
   set 8 (call "put" (lO K) [var 0,uT (var 7) none (some (cst (.int 1)))]),
   set 9 (call "counts_behind" (fZ K) [var 0,ix (var 5) (var 7),cst (.int 1)]),
   jP (JB [10,11]) (WE (call "pieces_of_image" (cN K) [var 0,var 7])) (OS K),
   set 6 (bin .Add (var 6) (cst (.int 1)))]
noncomputable def eV (K:Fg):List (SX K):=
 [set 3 (call "stretch_at" (bT K) [var 0,var 1,cst (.int 0),var 2]),
  set 4 (lst [var 3]),
  set 5 (Ir (var 3) (bin .Mult (lst [cst (.int 0)]) (len (var 0)))),
  set 6 (cst (.int 0)),
  WV (cmp .Lt (var 6) (len (var 4))) (WN K),
  ret (var 5)]
theorem pS:∀vs H Q E,cK K vs H Q E->vs.length=3:=by
 rintro vs H Q E (⟨_,_,_,_,rfl,_⟩|⟨_,_,_,_,rfl,_⟩)<;>rfl
theorem Bi (h:Ru ws) (h1:97<=c) (h2:c - 97<ws.length) (hg:aJ ws c=true) (i:Nat):97<=ew ws c i/\ew ws c i - 97<ws.length:=by
 have li:i<(wk ws c i).length:=by
  have a:=cS h h1 h2 i;have b:=cJ h h1 h2 hg i;lia
 exact fJ h h1 h2 i _ (mem_of_getElem? (AI h h1 h2 hg li))
theorem cC (h:Ru ws) (h1:97<=c) (h2:c - 97<ws.length) (hg:aJ ws c=true) (n m:Nat):bK ws (str ws c n m):=λd hd=>by
 unfold str at hd;obtain ⟨i,_,rfl⟩:=mem_map.mp hd;exact Bi h h1 h2 hg _
theorem jG (hU:Ru ws) (h1:97<=c) (h2:c - 97<ws.length) (hg:aJ ws c=true):rZ ws L (f0 ws c L):=by
 refine ⟨nodup_cons.mpr ⟨by simp,List.nodup_nil⟩,λp hp=>?_⟩;have:p=(str ws c 0 L,replicate ws.length 0):=by simpa [f0] using hp
 subst this;exact ⟨str_len _ _ _ _,cC hU h1 h2 hg 0 L,length_replicate⟩
structure PK (K:Fg) (H H1:Hp) (R d:Addr) (as:List Addr) (f:List cR):Prop where
 s:aC H H1
 r:H1 R=some (.lst ((bI f).map λy=>V.str (aG y)))
 dc:WO H1 d as f
 nw:∀a∈as,H a=none/\a≠R/\a≠d
 l:f.length<=300
theorem PK.upd (h:PK K H H1 R d as f) (nb:H1 b=none):PK K H (upd H1 b o) R d as f:=
 ⟨h.s.trans (aE nb _),aE nb _ _ _ h.r,h.dc.same (aE nb _),h.nw,h.l⟩
theorem sG {ps:List cR} {f:List cR} {j:Nat} {p:cR} (h:ps[j]?=some p):(ps.take (j+1)).foldl bH f=bH ((ps.take j).foldl bH f) p:=by
 rw[take_add_one,h,foldl_append];rfl
theorem wM (h:j<(wd ws (x.1.headD 0)).length):(chl ws x)[j]?=some (((aI ws x.1).drop j).take x.1.length,zipWith (·+·) (zR (rowsOf ws) x.2 1) (bE ws.length (aG ((wd ws (x.1.headD 0)).take j)))):=by
 unfold chl;rw[getElem?_map,getElem?_range h];rfl
theorem EL:(chl ws x).length=(wd ws (x.1.headD 0)).length:=by
 unfold chl;rw[length_map,length_range]
theorem BN (nd:(bI f).Nodup) (l:f.length=as.length):(dJ (mU f as) (Sum.inr (aG y))).isSome=decide (y∈bI f):=by
 by_cases h:y∈bI f
 ·obtain ⟨p,hp,rfl⟩:=mem_map.mp h;obtain ⟨i,hi⟩:=getElem?_of_mem hp;have hl:i<as.length:=by have:=(List.getElem?_eq_some_iff.mp hi).1;lia
  rw[oF nd hi (List.getElem?_eq_getElem hl),decide_eq_true h];rfl
 ·rw[pU h,decide_eq_false h];rfl
theorem Dt {D:Ends} {E:XK} {H H1 H2:Hp} {a R d p b:Addr} {ws:List Str} {L j:Nat} {x:cR} {f:List cR} {as:List Addr} {v1 v2 v3 v6 v7:Option V} (hR:uC K H a ws) (hU:Ru ws) (hx:x.1.length=L/\bK ws x.1/\x.2.length=ws.length) (h1:1<=L) (h4:L<=400) (ok:rZ ws L f) (nR:H R=none) (nd:H d=none) (Rd:R≠d)
  (I:PK K H H2 R d as f) (hj:j<(wd ws (x.1.headD 0)).length) (hb:H2 b=some (.lst ((zR (rowsOf ws) x.2 1).map V.int))) (bR:b≠R) (bd:b≠d)
  (big:300<(bH f (((aI ws x.1).drop j).take x.1.length,zipWith (·+·) (zR (rowsOf ws) x.2 1) (bE ws.length (aG ((wd ws (x.1.headD 0)).take j))))).length->TG K 300 H E)
  (q:∀as' H3,(∀c o,c≠R->c≠d->H2 c=some o->H3 c=some o)->PK K H H3 R d as' (bH f (((aI ws x.1).drop j).take x.1.length,zipWith (·+·) (zR (rowsOf ws) x.2 1) (bE ws.length (aG ((wd ws (x.1.headD 0)).take j)))))->D.nx [some (.ref a),v1,v2,v3,some (.ref R),some (.ref d),v6,v7,some (.str (aG (wd ws (x.1.headD 0)))),some (.ref b),some (.int (j:Nat)),some (.str (aG (((aI ws x.1).drop j).take x.1.length)))] H3):
  gY (OS K) (λ_=>E) D [some (.ref a),v1,v2,v3,some (.ref R),some (.ref d),v6,v7,some (.str (aG (wd ws (x.1.headD 0)))),some (.ref b),some (.int (j:Nat)),some (.str (aG (((aI ws x.1).drop j).take x.1.length)))] H2:=by
 have h4w:=hU.four;obtain ⟨y,hy⟩:∃y,y=((aI ws x.1).drop j).take x.1.length:=⟨_,rfl⟩;obtain ⟨cs,hcs⟩:∃cs,cs=zipWith (·+·) (zR (rowsOf ws) x.2 1) (bE ws.length (aG ((wd ws (x.1.headD 0)).take j))):=⟨_,rfl⟩;rw[<-hy,<-hcs] at big q;rw[<-hy];have hwl:(wd ws (x.1.headD 0)).length<=100:=by
  have:=fD hU (l:=[x.1.headD 0]);rw[aL] at this;simpa [aI] using this
 unfold OS;walk_at "";refine ZV ?_;walk_at "";refine ⟨d,_,rfl,eY.k (k:=Sum.inr (aG y)) I.dc.d,_,rfl,?_⟩;rw[BN ok.nd I.dc.l];by_cases hm:y∈bI f
 ·rw[decide_eq_true hm];refine tN ?_;walk_at "";have e:bH f (y,cs)=f:=if_pos hm;rw[e] at q;exact q as H2 (λc o _ _ e=>e) I
 ·rw[decide_eq_false hm];refine IH ?_;have e:bH f (y,cs)=f++[(y,cs)]:=if_neg hm;rw[e] at q big;have hRl:aP K H2 R ((bI f).map λy=>V.str (aG y)):=aP.of I.r;have hlen:((bI f).map λy=>V.str (aG y)).length=f.length:=by rw[length_map,fA]
  walk_at "";rw[hlen];refine fT (λc=>?_) λc=>?_
  ·walk_at "";refine yV ?_;walk_at "";intro dx ndx;exact big (by rw[length_append];simp;lia) _ dx (I.s.trans (aE ndx _)) aA
  ·have fl:f.length<300:=by have:=I.l;lia
   walk_at "";refine BV hRl ?_;walk_at "";refine eC I.r (Nat.lt_of_lt_of_le (show _<5000 by rw[hlen];lia) (small (by decide))) ?_;walk_at "";refine MQ ?_;have k3:∀c o,c≠R->H2 c=some o->(upd H2 R (.lst (((bI f).map λy=>V.str (aG y))++[V.str (aG y)]))) c=some o:=λc o hc e=>by rw[aF hc];exact e
   have S3:aC H (upd H2 R (.lst (((bI f).map λy=>V.str (aG y))++[V.str (aG y)]))):=dN I.s nR;have r3:(upd H2 R (.lst (((bI f).map λy=>V.str (aG y))++[V.str (aG y)]))) R=some (.lst ((bI (f++[(y,cs)])).map λy=>V.str (aG y))):=by
    rw[aA,fB,map_append];rfl
   revert k3 S3 r3;generalize upd H2 R (.lst (((bI f).map λy=>V.str (aG y))++[V.str (aG y)]))=H3;intro k3 S3 r3;walk_at "";have wl:(aG (wd ws (x.1.headD 0))).length=(wd ws (x.1.headD 0)).length:=aV _;refine eR (small (by lia)) ?_;have htp3:=(hR.same S3).tp;walk_at "";refine ⟨_,_,rfl,by lia,by rw[length_map];lia,λr H4 s4 nr hr=>?_⟩;rw[length_map,toNat_natCast] at hr;have esl:Txt.slice (aG (wd ws (x.1.headD 0))) none (some ((j:Nat):Int))=aG ((wd ws (x.1.headD 0)).take j):=by
    refine cP ?_;show (Txt.slice (aG (wd ws (x.1.headD 0))) none (some ((j:Nat):Int))).cps.toList=_;rw[cV (by lia),toNat_natCast,aQ];show (ls (aG (wd ws (x.1.headD 0)))).take j=_;rw[aQ]
   rw[esl] at hr;walk_at "";refine ⟨b,r,_,_,rfl,s4 _ _ (k3 _ _ bR hb),hr,by rw[wO hx.2.2];lia,λt H5 s5 nt ht=>?_⟩;rw[<-hcs] at ht;walk_at "";have s45:=s4.trans s5;have hd5:H5 d=some (.dK (mU f as)):=s45 _ _ (k3 _ _ Rd.symm I.dc.d);refine .inr ⟨d,_,rfl,PJ.k (k:=Sum.inr (aG y)) hd5 (by rw[vQ I.dc.l];exact Nat.lt_of_lt_of_le fl (small (by decide))),?_⟩;rw[SU hm,SW (p:=(y,cs)) I.dc.l];walk_at "";have tR:t≠R:=(aB (s4 _ _ r3) nt).symm;have td:t≠d:=(aB (s4 _ _ (k3 _ _ Rd.symm I.dc.d)) nt).symm;have nt0:H t=none:=none_of (S3.trans s4) nt;refine q (as++[t]) _ (λc o c1 c2 e=>by rw[aF c2];exact s45 _ _ (k3 _ _ c1 e)) ⟨dN (S3.trans s45) nd,?_,⟨aA,by rw[length_append,length_append,I.dc.l];rfl,λi a' p' g1 g2=>?_⟩,λa' ha'=>?_,by rw[length_append];simp;lia⟩
   ·rw[aF Rd];exact s45 _ _ r3
   ·by_cases hi:i<as.length
    ·rw[getElem?_append_left hi] at g1;rw[getElem?_append_left (by have:=I.dc.l;lia)] at g2;obtain ⟨_,n2,n3⟩:=I.nw a' (mem_of_getElem? g1);rw[aF n3];exact s45 _ _ (k3 _ _ n2 (I.dc.v i a' p' g1 g2))
    ·rw[getElem?_append_right (by lia)] at g1;rw[getElem?_append_right (by have:=I.dc.l;lia)] at g2;have e1:a'=t:=by
      have:=mem_of_getElem? g1;simpa using this
     have e2:p'=(y,cs):=by
      have:=mem_of_getElem? g2;simpa using this
     subst e1 e2;rw[aF td];exact ht
   ·rcases mem_append.mp ha' with h|h
    ·exact I.nw a' h
    ·have:a'=t:=by simpa using h
     subst this;exact ⟨nt0,tR,td⟩
theorem fY (h:(aK ws f i)[i]?=some x):aK ws f (i+1)=(chl ws x).foldl bH (aK ws f i):=by
 show (match (aK ws f i)[i]? with|some x=>(chl ws x).foldl bH (aK ws f i)|none=>aK ws f i)=_;rw[h]
theorem QA (ps f:List cR) (j:Nat):((ps.take j).foldl bH f).length<=(ps.foldl bH f).length:=by
 have e:ps.foldl bH f=(ps.drop j).foldl bH ((ps.take j).foldl bH f):=by rw[<-foldl_append,take_append_drop]
 obtain ⟨t,g⟩:=lJ (ps.drop j) ((ps.take j).foldl bH f);rw[e,g,length_append];lia
theorem oS:TT (cK K) (eV K) ["rule","start","length","first","found","ahead","done","piece","word","base","place","met"]:=by
 intro vs H Q E h;rcases h with ⟨a,ws,c,L,rfl,h1,hL4,hP,q,tg⟩|⟨a,ws,c,L,rfl,h1,hB⟩
 ·have hU:=hP.ru;have hR:=hP.rt;have h4:=hU.four;have p1:=hU.pos;have ok0:rZ ws L (f0 ws c L):=jG hU hP.c1 hP.c2 hP.gr;have okA:=λi=>cU hU h1 ok0 i;unfold eV;walk_at "";refine .inl ⟨a,ws,c,0,L,rfl,hP,h1,by lia,λH1 s1=>?_⟩;walk_at "";refine ⟨by show 1<=sizeLine;decide,λR nR=>?_⟩;have s2:=aE nR (.lst [V.str (aG (str ws c 0 L))]);walk_at "";refine As λd nd=>?_;have s3:=aE nd (.dK []);walk_at "";refine ⟨by show 1<=sizeLine;decide,λz nz=>?_⟩;have s4:=aE nz (.lst [V.int 0]);have hS4:=((s1.trans s2).trans s3).trans s4;have htp:=(hR.same hS4).tp;walk_at "";rw[length_map];refine DT (xs:=[V.int 0]) aA ⟨by lia,by lia⟩ (small (by show 1 * _<=_;lia)) λu nu=>?_;rw[toNat_natCast];have er:(replicate ws.length [V.int 0]).flatten=(replicate ws.length (0:Int)).map V.int:=by
   rw[List.map_replicate];induction ws.length with
   |zero=>rfl
   |succ n ih=>rw[replicate_succ,replicate_succ,flatten_cons,ih];rfl
  rw[er];have s5:=aE nu (.lst ((replicate ws.length (0:Int)).map V.int));refine UA (k:=Sum.inr (aG (str ws c 0 L))) (s5 _ _ (s4 _ _ aA)) ?_;have nR0:H R=none:=none_of s1 nR;have nd0:H d=none:=none_of (s1.trans s2) nd;have Rd:R≠d:=aB aA nd;have uR:u≠R:=(aB (s4 _ _ (s3 _ _ aA)) nu).symm;have ud:u≠d:=(aB (s4 _ _ aA) nu).symm;have nu0:H u=none:=none_of hS4 nu;have I0:PK K H (upd (upd (upd (upd (upd H1 R (.lst [V.str (aG (str ws c 0 L))])) d (.dK [])) z (.lst [V.int 0])) u (.lst ((replicate ws.length (0:Int)).map V.int))) d (.dK [(Sum.inr (aG (str ws c 0 L)),V.ref u)])) R d [u] (f0 ws c L):=by
   refine ⟨dN (hS4.trans s5) nd0,?_,⟨aA,rfl,λi a' p' g1 g2=>?_⟩,λa' ha'=>?_,by show 1<=300;decide⟩
   ·rw[aF Rd];exact s5 _ _ (s4 _ _ (s3 _ _ aA))
   ·match i,g1,g2 with
    |0,g1,g2=>
     cases g1;cases g2;rw[aF ud];exact aA
    |i+1,g1,g2=>simp at g1
   ·have:a'=u:=by simpa using ha'
    subst this;exact ⟨nu0,uR,ud⟩
  revert I0;generalize upd (upd (upd (upd (upd H1 R (.lst [V.str (aG (str ws c 0 L))])) d (.dK [])) z (.lst [V.int 0])) u (.lst ((replicate ws.length (0:Int)).map V.int))) d (.dK [(Sum.inr (aG (str ws c 0 L)),V.ref u)])=H5;intro I0;walk_at "";refine iU (λm σ H2=>∃(i:Nat) (as:List Addr) (b7 b8 b9 b10 b11:Option V),σ=[some (.ref a),some (sgn c),some (.int (L:Nat)),some (.str (aG (str ws c 0 L))),some (.ref R),some (.ref d),some (.int (i:Nat)),b7,b8,b9,b10,b11]/\m=300 - i/\i<=(aK ws (f0 ws c L) i).length/\PK K H H2 R d as (aK ws (f0 ws c L) i)) (m:=300) ⟨0,[u],none,none,none,none,none,rfl,rfl,zero_le _,I0⟩ ?_;rintro m σ H2 ⟨i,as,b7,b8,b9,b10,b11,rfl,rfl,hi,I⟩;have hRl:aP K H2 R ((bI (aK ws (f0 ws c L) i)).map λy=>V.str (aG y)):=aP.of I.r;have hlen:((bI (aK ws (f0 ws c L) i)).map λy=>V.str (aG y)).length=(aK ws (f0 ws c L) i).length:=by rw[length_map,fA]
  walk_at "";rw[hlen];have Il:=I.l;refine fT (λcc=>?_) λcc=>?_
  ·have hil:i<(aK ws (f0 ws c L) i).length:=by lia
   obtain ⟨x,hx⟩:∃x,(aK ws (f0 ws c L) i)[i]?=some x:=⟨_,List.getElem?_eq_getElem hil⟩;have okx:=(okA i).ok x (mem_of_getElem? hx);obtain ⟨ax,hax⟩:∃ax,as[i]?=some ax:=⟨_,List.getElem?_eq_getElem (by have:=I.dc.l;lia)⟩;have hxl:=aV x.1;have hwl:(wd ws (x.1.headD 0)).length<=100:=by
    have:=fD hU (l:=[x.1.headD 0]);rw[aL] at this;simpa [aI] using this
   refine sD ?_;unfold WN;walk_at "";refine gS (v:=.str (aG x.1)) hRl (gN (by unfold bI;rw[getElem?_map,getElem?_map,hx];rfl)) ?_;walk_at "";refine eR (small (by lia)) ?_;walk_at "";refine ⟨a,ws,_,rfl,hR.same I.s,hU.le,okx.2.1.isW.to (by decide),by have:=lS (aG x.1) none (some 1);lia,λH3 s3=>?_⟩;rw[tD (by lia)];have I3:PK K H H3 R d as (aK ws (f0 ws c L) i):=⟨I.s.trans s3,s3 _ _ I.r,I.dc.same s3,I.nw,I.l⟩;walk_at "";refine iF (v:=.ref ax) (by
    have:=eY.k (k:=Sum.inr (aG x.1)) I3.dc.d
    rw[oF (okA i).nd hx hax] at this
    exact this) ?_
   walk_at "";refine ⟨a,ax,ws,_,1,rfl,hR.same I3.s,I3.dc.v i ax x hax hx,okx.2.2,λw hw=>by have:=hU.le w hw;lia,by decide,by decide,λb H4 s4 nb hb=>?_⟩;have I4:PK K H H4 R d as (aK ws (f0 ws c L) i):=⟨I3.s.trans s4,s4 _ _ I3.r,I3.dc.same s4,I3.nw,I3.l⟩;have bR:b≠R:=(aB I3.r nb).symm;have bd:b≠d:=(aB I3.dc.d nb).symm;replace hb:H4 b=some (.lst ((zR (rowsOf ws) x.2 1).map V.int)):=hb;walk_at "";refine Ap ?_;walk_at "";refine ⟨a,ws,x.1,rfl,hR.same I4.s,hU,okx.2.1,by lia,by lia,λp H5 s5' np hp=>?_⟩;have I5:PK K H H5 R d as (aK ws (f0 ws c L) i):=⟨I4.s.trans s5',s5' _ _ I4.r,I4.dc.same s5',I4.nw,I4.l⟩;have pR:p≠R:=(aB I4.r np).symm;have pd:p≠d:=(aB I4.dc.d np).symm;walk_at "";refine TZ hp ?_;have hpl:((bY ws x.1).map λy=>V.str (aG y)).length=(wd ws (x.1.headD 0)).length:=by unfold bY;rw[length_map,length_map,length_range]
   have i300:i+1<=300:=by lia
   refine GU (xs:=(bY ws x.1).map λy=>V.str (aG y)) (λj σ H6=>∃(as':List Addr) (b10 b11:Option V),σ=[some (.ref a),some (sgn c),some (.int (L:Nat)),some (.str (aG (str ws c 0 L))),some (.ref R),some (.ref d),some (.int (i:Nat)),some (.str (aG x.1)),some (.str (aG (wd ws (x.1.headD 0)))),some (.ref b),b10,b11]/\(∀e o,e≠R->e≠d->H5 e=some o->H6 e=some o)/\PK K H H6 R d as' (((chl ws x).take j).foldl bH (aK ws (f0 ws c L) i)))
    ⟨as,b10,b11,rfl,λe o _ _ g=>g,I5⟩ (λj σ6 H6 ⟨_,_,_,_,kp,_⟩=>kp _ _ pR pd hp) (λj σ6 H6 e o ⟨as',c10,c11,g,kp,J⟩ ne=>⟨as',c10,c11,g,λe' o' n1 n2 g'=>by rw[aF (aB (kp e' o' n1 n2 g') ne)];exact kp e' o' n1 n2 g',J.upd ne⟩) (λj y σ6 H6 hy hP6=>?_) λσ6 H6 hP6=>?_
   ·obtain ⟨as',c10,c11,rfl,kp,J⟩:=hP6;have hj:j<(wd ws (x.1.headD 0)).length:=by have:=(List.getElem?_eq_some_iff.mp hy).1;lia
    have hyv:y=V.str (aG (((aI ws x.1).drop j).take x.1.length)):=by
     unfold bY at hy;rw[getElem?_map,getElem?_map,getElem?_range hj] at hy;exact (Option.some.inj hy).symm
    subst hyv;have ef:=sG (f:=aK ws (f0 ws c L) i) (wM hj);refine Dt (H1:=H5) (p:=p) hR hU okx h1 hL4 (wU (okA i) λp hp=>OC hU h1 okx p (mem_of_mem_take hp)) nR0 nd0 Rd J hj (kp _ _ bR bd (s5' _ _ hb)) bR bd (λhbig=>tg ?_) λas2 H7 k7 J7=>?_
    ·rw[<-ef] at hbig;have l1:=QA (chl ws x) (aK ws (f0 ws c L) i) (j+1);rw[<-fY hx] at l1;have l2:=CY ws (f0 ws c L) i300;show 300<(aK ws (f0 ws c L) 300).length;lia
    ·refine ⟨as2,_,_,rfl,λe o n1 n2 g=>k7 e o n1 n2 (kp e o n1 n2 g),?_⟩;rw[ef];exact J7
   ·obtain ⟨as',c10,c11,rfl,kp,J⟩:=hP6;rw[hpl,<-EL,take_of_length_le (Nat.le_refl _),<-fY hx] at J;walk_at "";refine ⟨300 - (i+1),by lia,i+1,as',some (.str (aG x.1)),some (.str (aG (wd ws (x.1.headD 0)))),some (.ref b),c10,c11,?_,rfl,?_,J⟩
    ·rw[show ((i:Nat):Int)+1=((i+1:Nat):Int) by lia];rfl
    ·have:=CY ws (f0 ws c L) (show i<=i+1 by lia);lia
  ·walk_at "";have hie:(aK ws (f0 ws c L) i).length<=i:=by lia
   have eA:bA ws c L=aK ws (f0 ws c L) i:=by
    have:=kB ws (f0 ws c L) hie (300 - i);rw[show i+(300 - i)=300 by lia] at this;exact this
   rw[eA] at q;exact q Il d as H2 I.s nd0 (λa' ha'=>(I.nw a' ha').1) I.dc
 ·unfold eV;walk_at "";exact .inr ⟨a,ws,c,0,L,rfl,h1,hB⟩
end L2.Na.Pr
namespace L2.Na
open PySem L2.Na.K41
noncomputable def bC (ws:List Str):Nat->List Nat->List Nat
 |0,l=>l
 |k+1,l=>bC ws k (aI ws l)
theorem cH (ws:List Str):∀(k:Nat) (a b:List Nat),bC ws k (a++b)=bC ws k a++bC ws k b
 |0,_,_=>rfl
 |k+1,a,b=>by
  show bC ws k (aI ws (a++b))=bC ws k (aI ws a)++bC ws k (aI ws b);rw[cX,cH ws k]
theorem qB (ws:List Str):∀k,bC ws k []=[]
 |0=>rfl
 |k+1=>qB ws k
theorem yT (hU:Ru ws):∀(k:Nat) {l:List Nat},bK ws l->bK ws (bC ws k l)
 |0,_,h=>h
 |k+1,_,h=>yT hU k (h.img hU)
theorem vX (hU:Ru ws):∀(k:Nat) {l:List Nat},bK ws l->l.length<=(bC ws k l).length
 |0,_,_=>Nat.le_refl _
 |k+1,l,h=>le_trans (vY hU h) (vX hU k (h.img hU))
theorem sW (ws:List Str):∀(k:Nat) (l:List Nat),bC ws (k+1) l=aI ws (bC ws k l)
 |0,_=>rfl
 |k+1,l=>sW ws k (aI ws l)
noncomputable def CQ (ws:List Str):Nat->List Nat->List Nat->Prop
 |0,x,y=>x=y
 |k+1,x,y=>∃z,z∈bY ws x/\CQ ws k z y
theorem CQ.add:∀{a b:Nat} {x y z:List Nat},CQ ws a x y->CQ ws b y z->CQ ws (a+b) x z
 |0,b,x,y,z,h,g=>by have e:x=y:=h;subst e;rw[zero_add];exact g
 |a+1,b,x,y,z,⟨u,h1,h2⟩,g=>by rw[show a+1+b=(a+b)+1 by lia];exact ⟨u,h1,CQ.add h2 g⟩
theorem uH {α:Type} {a b:List α} {n q L:Nat} (h:b=a.take n) (hl:q+L<=b.length):(b.drop q).take L=(a.drop q).take L:=by
 subst h;rw[length_take] at hl;refine ext_getElem? λi=>?_;rw[getElem?_take,getElem?_take];by_cases hi:i<L
 ·rw[if_pos hi,if_pos hi,getElem?_drop,getElem?_drop,getElem?_take,if_pos (by lia)]
 ·rw[if_neg hi,if_neg hi]
theorem vF {α:Type} {a b t:List α} {q L:Nat} (h:a=b++t) (hl:q+L<=b.length):(b.drop q).take L=(a.drop q).take L:=
 uH (n:=b.length) (by rw[h,List.take_left'];rfl) hl
theorem CI {ws:List Str} (hU:Ru ws) {L:Nat} (hL:1<=L):∀(t:Nat) (c:Nat) (l:List Nat) (q:Nat),bK ws (c::l)->(c::l).length=L->q<(bC ws t [c]).length->CQ ws t (c::l) (((bC ws t (c::l)).drop q).take L)
 |0,c,l,q,hx,hl,hq=>by
  have e:q=0:=by
   have:q<1:=hq;lia
  subst e;show c::l=((c::l).drop 0).take L;rw[drop_zero,take_of_length_le (by lia)]
 |t+1,c,l,q,hx,hl,hq=>by
  have hc:bK ws [c]:=λd hd=>hx d (by simp at hd;simp [hd]);have hw:bK ws (wd ws c):=by
   have:=hc.img hU;rw[aL] at this;simpa [aI] using this
  have e1:aI ws [c]=wd ws c:=by rw[aL];simp [aI]
  have key:∀(v:List Nat) (q:Nat),bK ws v->q<(bC ws t v).length->∃j d q',v[j]?=some d/\q'<(bC ws t [d]).length/\q=(bC ws t (v.take j)).length+q':=by
   intro v;induction v with
   |nil=>
    intro q _ h;rw[qB] at h;simp at h
   |cons d v ih=>
    intro q hv h;by_cases h1:q<(bC ws t [d]).length
    ·refine ⟨0,d,q,rfl,h1,?_⟩;simp [qB]
    ·have e:bC ws t (d::v)=bC ws t [d]++bC ws t v:=cH ws t [d] v;rw[e,length_append] at h;obtain ⟨j,d',q',g1,g2,g3⟩:=ih (q - (bC ws t [d]).length) (λz hz=>hv z (by simp [hz])) (by lia);refine ⟨j+1,d',q',by simpa using g1,g2,?_⟩;have e2:bC ws t ((d::v).take (j+1))=bC ws t [d]++bC ws t (v.take j):=cH ws t [d] (v.take j);rw[e2,length_append];lia
  have hq':q<(bC ws t (wd ws c)).length:=by rw[<-e1];exact hq
  obtain ⟨j,d,q',g1,g2,g3⟩:=key (wd ws c) q hw hq';have hj:j<(wd ws c).length:=(List.getElem?_eq_some_iff.mp g1).1;obtain ⟨x',hx'⟩:∃x',x'=((aI ws (c::l)).drop j).take (c::l).length:=⟨_,rfl⟩;have pl:=cW hU (x:=c::l) hx (by lia) (j:=j) hj;rw[<-hx'] at pl;have hxl:bK ws x':=λz hz=>by
   rw[hx'] at hz;exact hx.img hU z (mem_of_mem_drop (mem_of_mem_take hz))
  have hd0:x'[0]?=some d:=by
   rw[hx',getElem?_take,if_pos (by lia),getElem?_drop,Nat.add_zero,aL,getElem?_append_left hj];exact g1
  obtain ⟨l',rfl⟩:∃l',x'=d::l':=by
   cases x' with
   |nil=>simp at hd0
   |cons a l'=>
    have:a=d:=by simpa using hd0
    exact ⟨l',by rw[this]⟩
  have hlen:(d::l').length=L:=by rw[pl];exact hl
  have ih:=CI hU hL t d l' q' hxl hlen g2;refine ⟨d::l',mem_map.mpr ⟨j,mem_range.mpr hj,hx'.symm⟩,?_⟩;have e3:((bC ws t (d::l')).drop q').take L=((bC ws (t+1) (c::l)).drop q).take L:=by
   obtain ⟨rest,a1⟩:∃rest,(aI ws (c::l)).drop j=(d::l')++rest:=⟨((aI ws (c::l)).drop j).drop (c::l).length,by rw[hx',take_append_drop]⟩;have a2:aI ws (c::l)=(wd ws c).take j++((d::l')++rest):=by
    rw[<-a1,aL,List.drop_append_of_le_length (by lia),<-List.append_assoc,take_append_drop]
   have a3:bC ws (t+1) (c::l)=bC ws t ((wd ws c).take j)++(bC ws t (d::l')++bC ws t rest):=by
    show bC ws t (aI ws (c::l))=_;rw[a2,cH,cH]
   rw[a3,g3,<-List.drop_drop,List.drop_left];refine vF rfl ?_;have b1:bC ws t (d::l')=bC ws t [d]++bC ws t l':=cH ws t [d] l';have b2:=vX hU t (l:=l') λz hz=>hxl z (by simp [hz]);rw[b1,length_append];have:l'.length+1=L:=by simpa using hlen
   lia
  rw[<-e3];exact ih
theorem JW (hU:Ru ws):∀{k i j:Nat},i<ws.length->Mx.rJ (Rw ws) k i j->97+j∈bC ws k [97+i]
 |0,i,j,_,h=>by
  have e:i=j:=h;subst e;exact mem_cons_self
 |k+1,i,j,hi,⟨m,h1,h2⟩=>by
  have hm:=PB hU h1;have ih:=JW hU hm h2;obtain ⟨w,hw,hin⟩:=h1;show 97+j∈bC ws k (aI ws [97+i]);have e1:aI ws [97+i]=ls w:=by
   rw[aL];show wd ws (97+i)++[]=_;rw[append_nil];unfold wd;rw[show 97+i - 97=i by lia,hw];rfl
  rw[e1];obtain ⟨a,b,hab⟩:=List.append_of_mem hin;rw[hab,cH];refine mem_append_right _ ?_;have:bC ws k ((97+m)::b)=bC ws k [97+m]++bC ws k b:=cH ws k [97+m] b;rw[this];exact mem_append_left _ ih
theorem vW (ws:List Str) (c:Nat):∀k,bC ws k [c]=wk ws c k
 |0=>rfl
 |k+1=>by rw[sW,vW ws c k];rfl
theorem HV {ws:List Str} (hU:Ru ws) {c L:Nat} (hL:1<=L) (h1:97<=c) (h2:c - 97<ws.length) (hg:aJ ws c=true) {l:List Nat} (hx:bK ws (c::l)) (hl:(c::l).length=L):CQ ws L (c::l) (str ws c 0 L):=by
 have a:=cS hU h1 h2 L;have b:=cJ hU h1 h2 hg L;have hlen:L<=(wk ws c L).length:=by lia
 have h:=CI hU hL L c l 0 hx hl (by rw[vW];lia);have e:bC ws L (c::l)=wk ws c L++bC ws L l:=by rw[<-vW];exact cH ws L [c] l
 rw[e,<-vF (b:=wk ws c L) rfl (by lia),fK hU h1 h2 hg (by lia)] at h;exact h
theorem UN (hU:Ru ws) (hm:PM ws=true) (hL:1<=L) (h1:97<=c) (h2:c - 97<ws.length) (hg:aJ ws c=true) (hx:bK ws x) (hl:x.length=L):CQ ws (10+L) x (str ws c 0 L):=by
 cases x with
 |nil=>simp at hl;lia
 |cons a l=>
  have ha:=hx a (by simp);have hF:Mx.Full (Rw ws) ws.length 10:=(DY hU).mp λi hi=>by
   unfold PM at hm;exact of_decide_eq_true (all_eq_true.mp hm i (mem_range.mpr hi))
  have hin:=JW hU ha.2 (hF (a - 97) (c - 97) ha.2 h2);rw[show 97+(a - 97)=a by lia,show 97+(c - 97)=c by lia] at hin;obtain ⟨q,hq,he⟩:=List.mem_iff_getElem.mp hin;have hc:=CI hU hL 10 a l q hx hl hq;have hxk:bK ws (bC ws 10 (a::l)):=yT hU 10 hx;have e1:bC ws 10 (a::l)=bC ws 10 [a]++bC ws 10 l:=cH ws 10 [a] l;have hge:=vX hU 10 (l:=l) λz hz=>hx z (by simp [hz]);have hl1:l.length+1=L:=by simpa using hl
  obtain ⟨y,hy⟩:∃y,y=((bC ws 10 (a::l)).drop q).take L:=⟨_,rfl⟩;rw[<-hy] at hc;have yl:y.length=L:=by
   rw[hy,length_take,length_drop,e1,length_append];lia
  have y0:y[0]?=some c:=by
   rw[hy,getElem?_take,if_pos (by lia),getElem?_drop,Nat.add_zero,e1,getElem?_append_left hq,List.getElem?_eq_getElem hq,he]
  have yL:bK ws y:=λz hz=>by
   rw[hy] at hz;exact hxk z (mem_of_mem_drop (mem_of_mem_take hz))
  cases y with
  |nil=>simp at y0
  |cons b l2=>
   have:b=c:=by simpa using y0
   subst this;exact CQ.add hc (HV hU hL h1 h2 hg yL yl)
end L2.Na
namespace L2.Na.Pr
open PySem L2.Na.K41
theorem rF:∀{ps f:List cR} {p:cR},p∈ps->p.1∈bI (ps.foldl bH f)
 |[],f,p,h=>by cases h
 |q::ps,f,p,h=>by
  rw[foldl_cons];rcases mem_cons.mp h with rfl|h
  ·obtain ⟨t,e⟩:=lJ ps (bH f p);rw[e,fB];refine mem_append_left _ ?_;rw[zY];unfold UW;split
   ·assumption
   ·exact mem_append_right _ mem_cons_self
  ·exact rF h
theorem mJ:∀{ps f:List cR} {y:List Nat},y∈bI (ps.foldl bH f)->y∈bI f\/y∈bI ps
 |[],f,y,h=>.inl h
 |q::ps,f,y,h=>by
  rw[foldl_cons] at h;rcases mJ h with h|h
  ·rw[zY] at h;unfold UW at h;split at h
   ·exact .inl h
   ·rcases mem_append.mp h with h|h
    ·exact .inl h
    ·exact .inr (by rw[mem_singleton.mp h];exact mem_cons_self)
  ·exact .inr (mem_cons_of_mem _ h)
theorem kA {ws:List Str} {f0:List cR} {i k:Nat} (h:i<=k) {y:List Nat} (hy:y∈bI (aK ws f0 i)):y∈bI (aK ws f0 k):=by
 obtain ⟨t,e⟩:=eB ws f0 i (k - i);rw[show i+(k - i)=k by lia] at e;rw[e,fB];exact mem_append_left _ hy
theorem oY {ws:List Str} {f0:List cR} {P:List Nat->Prop} (h0:∀x∈bI f0,P x) (hs:∀x,P x->∀y∈bY ws x,P y):∀(i:Nat) (x:List Nat),x∈bI (aK ws f0 i)->P x
 |0,x,h=>h0 x h
 |i+1,x,h=>by
  have ih:=oY h0 hs i;change x∈bI (match (aK ws f0 i)[i]? with|some x=>(chl ws x).foldl bH (aK ws f0 i)|none=>aK ws f0 i) at h;cases e:(aK ws f0 i)[i]? with
  |none=>rw[e] at h;exact ih x h
  |some z=>
   rw[e] at h;rcases mJ h with h|h
   ·exact ih x h
   ·rw[oJ] at h;exact hs z.1 (ih z.1 (mem_map.mpr ⟨z,mem_of_getElem? e,rfl⟩)) x h
section
variable {ws:List Str} {c L:Nat}
theorem dF (h:(bA ws c L).length<=300) {x y:List Nat} (hx:x∈bI (bA ws c L)) (hy:y∈bY ws x):y∈bI (bA ws c L):=by
 obtain ⟨p,hp,rfl⟩:=mem_map.mp hx;obtain ⟨i,hi⟩:=getElem?_of_mem hp;have il:i<(bA ws c L).length:=(List.getElem?_eq_some_iff.mp hi).1;have hil:i<(aK ws (f0 ws c L) i).length:=lt_of_not_le λhn=>by
  have e:=kB ws (f0 ws c L) hn (300 - i);rw[show i+(300 - i)=300 by lia] at e;have:(bA ws c L).length<=i:=by
   show (aK ws (f0 ws c L) 300).length<=i;rw[e];exact hn
  lia
 obtain ⟨t,e⟩:=eB ws (f0 ws c L) i (300 - i);rw[show i+(300 - i)=300 by lia] at e;have hp':(aK ws (f0 ws c L) i)[i]?=some p:=by
  have:(aK ws (f0 ws c L) 300)[i]?=some p:=hi;rw[e,getElem?_append_left hil] at this;exact this
 have h1:y∈bI (aK ws (f0 ws c L) (i+1)):=by
  rw[fY hp'];rw[<-oJ] at hy;obtain ⟨q,hq,rfl⟩:=mem_map.mp hy;exact rF hq
 exact kA (by lia) h1
theorem tZ:str ws c 0 L∈bI (bA ws c L):=kA (i:=0) (zero_le _) (by simp [aK,f0,bI])
theorem part_short (hU:Ru ws) (hL:1<=L) (hx:bK ws x) (hl:x.length=L+1) (hj:j<(wd ws (x.headD 0)).length):((aI ws x).drop j).take L∈bY ws (x.take L):=by
 have hh:(x.take L).headD 0=x.headD 0:=by
  cases x with
  |nil=>simp at hl
  |cons a l=>
   cases L with
   |zero=>lia
   |succ L=>rfl
 have tl:(x.take L).length=L:=by rw[length_take];lia
 have hx2:bK ws (x.take L):=λd hd=>hx d (mem_of_mem_take hd);have pl:=cW hU hx2 (by lia) (j:=j) (by rw[hh];exact hj);rw[length_take,length_drop,tl] at pl;refine mem_map.mpr ⟨j,mem_range.mpr (by rw[hh];exact hj),?_⟩;rw[tl];refine vF (t:=aI ws (x.drop L)) ?_ (by lia);rw[<-cX,take_append_drop]
section
variable (hU:Ru ws) (hL:1<=L) (h1:97<=c) (h2:c - 97<ws.length) (hg:aJ ws c=true) (h:(bA ws c L).length<=300)
include hU hL h1 h2 hg h
theorem HI:str ws c 1 L∈bI (bA ws c L):=by
 refine dF h tZ ?_;have a:=cS hU h1 h2 L;have b:=cJ hU h1 h2 hg L;have hl:L<=(wk ws c L).length:=by lia
 have e0:str ws c 0 L=(wk ws c L).take L:=by
  have:=fK hU h1 h2 hg (k:=L) (n:=0) (m:=L) (by lia);rw[drop_zero] at this;exact this.symm
 have hS:bK ws (str ws c 0 L):=cC hU h1 h2 hg 0 L;have hd:(str ws c 0 L).headD 0=c:=by
  obtain ⟨t,e⟩:=nP hU h2 hg 0 L;rw[zero_add] at e;rw[e0,e];cases L with
  |zero=>lia
  |succ L=>rfl
 have w2:1<(wd ws c).length:=by
  obtain ⟨w,hw,e,_⟩:=hU.word h2;unfold aJ at hg;rw[hw] at hg;simp only [and_eq_true,decide_eq_true_eq] at hg;rw[e,aO];exact hg.2.1
 have pl:=cW hU hS (by rw[str_len];exact hL) (j:=1) (by rw[hd];exact w2);rw[length_take,length_drop,str_len] at pl;refine mem_map.mpr ⟨1,mem_range.mpr (by rw[hd];exact w2),?_⟩;rw[str_len];have e1:wk ws c (L+1)=aI ws (str ws c 0 L)++aI ws ((wk ws c L).drop L):=by
  show aI ws (wk ws c L)=_;rw[e0,<-cX,take_append_drop]
 rw[vF e1 (by lia)];refine fK hU h1 h2 hg ?_;have a':=cS hU h1 h2 (L+1);have b':=cJ hU h1 h2 hg (L+1);lia
theorem GW (i:Nat):∀z,z∈bI (aK ws (f0 ws c (L+1)) i)->(z.length=L+1/\bK ws z)/\z.take L∈bI (bA ws c L)/\z.drop 1∈bI (bA ws c L):=by
 refine oY (P:=λz=>(z.length=L+1/\bK ws z)/\z.take L∈bI (bA ws c L)/\z.drop 1∈bI (bA ws c L)) (λx hx=>?_) (λx ⟨⟨xl,xL⟩,hp,hs⟩ y hy=>?_) i
 ·have:x=str ws c 0 (L+1):=by simpa [f0,bI] using hx
  subst this;refine ⟨⟨str_len _ _ _ _,cC hU h1 h2 hg 0 (L+1)⟩,?_,?_⟩
  ·have:(str ws c 0 (L+1)).take L=str ws c 0 L:=by
    unfold str;rw[<-List.map_take,List.take_range,Nat.min_eq_left (by lia)]
   rw[this];exact tZ
  ·have:(str ws c 0 (L+1)).drop 1=str ws c 1 L:=by
    unfold str;rw[range_succ_eq_map,map_cons,List.drop_succ_cons,drop_zero,map_map];refine map_congr_left λk _=>?_;show ew ws c (0+(k+1))=ew ws c (1+k)
    congr 1
    lia
   rw[this];exact HI hU hL h1 h2 hg h
 ·obtain ⟨j,hj,rfl⟩:=mem_map.mp hy;have hj':=mem_range.mp hj;have pl:=cW hU xL (by lia) hj';refine ⟨⟨by rw[pl];exact xl,λd hd=>xL.img hU d (mem_of_mem_drop (mem_of_mem_take hd))⟩,?_,?_⟩
  ·rw[List.take_take,xl,Nat.min_eq_left (by lia)];exact dF h hp (part_short hU hL xL xl hj')
  ·rw[xl,List.drop_take,List.drop_drop,show L+1 - 1=L by lia];by_cases c1:j+1<(wd ws (x.headD 0)).length
   ·exact dF h hp (part_short hU hL xL xl c1)
   ·cases x with
    |nil=>simp at xl
    |cons a l=>
     have ej:j+1=(wd ws a).length:=by
      have:j<(wd ws a).length:=hj';have:¬j+1<(wd ws a).length:=c1;lia
     rw[aL,ej,List.drop_left];refine dF h hs (x:=l) ?_;have ll:l.length=L:=by simpa using xl
     refine mem_map.mpr ⟨0,mem_range.mpr ?_,by rw[drop_zero,ll]⟩;cases l with
     |nil=>simp at ll;lia
     |cons b l=>
      obtain ⟨w,_,e,m⟩:=hU.word (xL b (by simp)).2;have:=hU.one w m;show 0<(wd ws b).length;rw[e,aO];lia
end
end
noncomputable def bt (ws:List Str) (p:List Nat):Nat->List Nat->Bool
 |0,x=>decide (x=p)
 |t+1,x=>(bY ws x).any (bt ws p t)
theorem CL:∀{t:Nat} {x:List Nat},bt ws p t x=true↔CQ ws t x p
 |0,x=>by
  show decide (x=p)=true↔x=p;exact decide_eq_true_iff
 |t+1,x=>by
  show (bY ws x).any (bt ws p t)=true↔∃z,z∈bY ws x/\CQ ws t z p;rw[any_eq_true];exact ⟨λ⟨z,h1,h2⟩=>⟨z,h1,CL.mp h2⟩,λ⟨z,h1,h2⟩=>⟨z,h1,CL.mpr h2⟩⟩
theorem AE:∀{xs ys:List Int},(∀x∈xs,0<=x/\x<=a)->(∀y∈ys,0<=y/\y<=b)->∀z∈zipWith (·+·) xs ys,0<=z/\z<=a+b
 |[],ys,_,_,z,hz=>by simp at hz
 |x::xs,[],_,_,z,hz=>by simp at hz
 |x::xs,y::ys,h1,h2,z,hz=>by
  rw[zipWith_cons_cons] at hz;rcases mem_cons.mp hz with rfl|hz
  ·have p:=h1 x (by simp);have q:=h2 y (by simp);lia
  ·exact AE (λx hx=>h1 x (by simp [hx])) (λy hy=>h2 y (by simp [hy])) z hz
theorem OY (hM:0<=M) (hr:∀r∈rows,∀x∈r,0<=x/\x<=100) (hn:∀x∈ns,0<=x/\x<=M):∀k,∀v∈accN rows ns k,0<=v/\v<=(k:Int) * (100 * M)
 |0,v,hv=>by
  have:v=0:=List.eq_of_mem_replicate hv;subst this;simp
 |k+1,v,hv=>by
  have hx:0<=ns[k]?.getD 0/\ns[k]?.getD 0<=M:=by
   cases e:ns[k]? with
   |none=>exact ⟨by decide,hM⟩
   |some x=>exact hn x (mem_of_getElem? e)
  have h2:∀y∈(rows[k]?.getD []).map ((ns[k]?.getD 0) * ·),0<=y/\y<=100 * M:=λy hy=>by
   obtain ⟨c,hc,rfl⟩:=mem_map.mp hy;have hc':0<=c/\c<=100:=by
    cases e:rows[k]? with
    |none=>rw[e] at hc;simp at hc
    |some r=>rw[e] at hc;exact hr r (mem_of_getElem? e) c hc
   refine ⟨Int.mul_nonneg hx.1 hc'.1,?_⟩
   calc (ns[k]?.getD 0) * c<=M * c:=Int.mul_le_mul_of_nonneg_right hx.2 hc'.1
    _<=M * 100:=Int.mul_le_mul_of_nonneg_left hc'.2 hM
    _=100 * M:=Int.mul_comm _ _
  have:=AE (OY hM hr hn k) h2 v hv;have e:((k+1:Nat):Int) * (100 * M)=(k:Int) * (100 * M)+100 * M:=by
   rw[show ((k+1:Nat):Int)=(k:Int)+1 by lia,Int.add_mul,Int.one_mul]
  rw[e];exact this
theorem EJ {ws:List Str} {z:Str} (h:z.length<=100):∀x∈bE ws.length z,0<=x/\x<=100:=λx hx=>by
 unfold bE at hx;obtain ⟨k,_,rfl⟩:=mem_map.mp hx;have a:=List.count_le_length (a:=97+k) (l:=ls z);rw[aO] at a;show 0<=(((ls z).count (97+k):Nat):Int)/\(((ls z).count (97+k):Nat):Int)<=100;lia
theorem oZ {ws:List Str} (hU:Ru ws) {f:List cR} (h0:∀p∈f,∀x∈p.2,0<=x/\x<=1):∀(i:Nat) (p:cR),p∈aK ws f i->∀x∈p.2,0<=x/\x<=(500 ^ i:Nat)
 |0,p,hp,x,hx=>h0 p hp x hx
 |i+1,p,hp,x,hx=>by
  have ih:=oZ hU h0 i;have hm:((500 ^ i:Nat):Int)<=((500 ^ (i+1):Nat):Int):=by
   rw[pow_succ];lia
  have old:p∈aK ws f i->0<=x/\x<=((500 ^ (i+1):Nat):Int):=λh=>by
   have:=ih p h x hx;lia
  have key:∀(ps g:List cR),p∈ps.foldl bH g->p∈g\/p∈ps:=by
   intro ps;induction ps with
   |nil=>intro g h;exact .inl h
   |cons q ps ihp=>
    intro g h;rw[foldl_cons] at h;rcases ihp _ h with h|h
    ·unfold bH at h;split at h
     ·exact .inl h
     ·rcases mem_append.mp h with h|h
      ·exact .inl h
      ·exact .inr (by rw[mem_singleton.mp h];exact mem_cons_self)
    ·exact .inr (mem_cons_of_mem _ h)
  change p∈(match (aK ws f i)[i]? with|some x=>(chl ws x).foldl bH (aK ws f i)|none=>aK ws f i) at hp;cases e:(aK ws f i)[i]? with
  |none=>rw[e] at hp;exact old hp
  |some z=>
   rw[e] at hp;rcases key _ _ hp with h|h
   ·exact old h
   ·obtain ⟨j,_,rfl⟩:=mem_map.mp h;have hz:=ih z (mem_of_getElem? e);have hr:∀r∈rowsOf ws,∀x∈r,0<=x/\x<=100:=λr hr=>by
     unfold rowsOf at hr;obtain ⟨w,hw,rfl⟩:=mem_map.mp hr;exact EJ (hU.le w hw)
    have hb:∀v∈zR (rowsOf ws) z.2 1,0<=v/\v<=400 * ((500 ^ i:Nat):Int):=λv hv=>by
     have hv':v∈accN (rowsOf ws) z.2 (rowsOf ws).length:=hv;have a:=OY (M:=((500 ^ i:Nat):Int)) (by lia) hr hz (rowsOf ws).length v hv';have h4:=hU.four;have rl:(rowsOf ws).length=ws.length:=length_map _;have:(((rowsOf ws).length:Nat):Int) * (100 * ((500 ^ i:Nat):Int))<=4 * (100 * ((500 ^ i:Nat):Int)):=Int.mul_le_mul_of_nonneg_right (by lia) (by lia);lia
    have hwl:((wd ws (z.1.headD 0)).take j).length<=100:=by
     have:=fD hU (l:=[z.1.headD 0]);rw[aL] at this;have w:(wd ws (z.1.headD 0)).length<=100:=by simpa [aI] using this
     rw[length_take];lia
    have hc:=EJ (ws:=ws) (z:=aG ((wd ws (z.1.headD 0)).take j)) (by rw[aV];exact hwl);have:=AE hb hc x hx;have p5:1<=500 ^ i:=Nat.one_le_pow _ _ (by decide);have e5:((500 ^ (i+1):Nat):Int)=500 * ((500 ^ i:Nat):Int):=by rw[pow_succ];lia
    rw[e5];lia
theorem Io:∀p∈f0 ws c L,∀x∈p.2,0<=x/\x<=1:=λp hp x hx=>by
 have:p=(str ws c 0 L,replicate ws.length 0):=by simpa [f0] using hp
 subst this;have:=List.eq_of_mem_replicate hx;lia
theorem VD (hU:Ru ws) (c:Nat):∀k,(wk ws c k).length<=100 ^ k
 |0=>Nat.le_refl _
 |k+1=>by
  have a:=fD hU (l:=wk ws c k);have b:=VD hU c k;show (aI ws (wk ws c k)).length<=_;rw[pow_succ];lia
theorem xY:∀(i:Nat) (x:List Nat),x∈bI (aK ws (f0 ws c L) i)->∃t,t<=i/\CQ ws t (str ws c 0 L) x
 |0,x,h=>⟨0,Nat.le_refl _,by
  have:x=str ws c 0 L:=by simpa [aK,f0,bI] using h
  exact this.symm⟩
 |i+1,x,h=>by
  have ih:=xY (ws:=ws) (c:=c) (L:=L) i;change x∈bI (match (aK ws (f0 ws c L) i)[i]? with|some x=>(chl ws x).foldl bH (aK ws (f0 ws c L) i)|none=>aK ws (f0 ws c L) i) at h;cases e:(aK ws (f0 ws c L) i)[i]? with
  |none=>
   rw[e] at h;obtain ⟨t,h1,h2⟩:=ih x h;exact ⟨t,by lia,h2⟩
  |some z=>
   rw[e] at h;rcases mJ h with h|h
   ·obtain ⟨t,h1,h2⟩:=ih x h;exact ⟨t,by lia,h2⟩
   ·rw[oJ] at h;obtain ⟨t,h1,h2⟩:=ih z.1 (mem_map.mpr ⟨z,mem_of_getElem? e,rfl⟩);exact ⟨t+1,by lia,CQ.add h2 ⟨x,h,rfl⟩⟩
theorem Iy (hU:Ru ws) (hm:PM ws=true) (hL:1<=L) (h1:97<=c) (h2:c - 97<ws.length) (hg:aJ ws c=true) (hp:p∈bI (bA ws c L)):∃T,T<=310+L/\∀x∈bI (bA ws c L),bt ws p T x=true:=by
 obtain ⟨t,tl,ht⟩:=xY 300 p hp;refine ⟨10+L+t,by lia,λx hx=>CL.mpr (CQ.add ?_ ht)⟩;obtain ⟨q,hq,rfl⟩:=mem_map.mp hx;obtain ⟨ql,qL,_⟩:=(cU hU hL (jG hU h1 h2 hg) 300).ok q hq;exact UN hU hm hL h1 h2 hg qL ql
end L2.Na.Pr
namespace L2.Na
open PySem L2.Na.K41 L2.Na.Pr
theorem iT (h:Ru ws) (h1:97<=c) (h2:c - 97<ws.length) (hg:aJ ws c=true) (hk:n+m<=(wk ws c k).length):
  str ws c (aI ws (str ws c 0 n)).length (aI ws (str ws c n m)).length=aI ws (str ws c n m)/\(aI ws (str ws c 0 n)).length+(aI ws (str ws c n m)).length<=(wk ws c (k+1)).length:=by
 have e1:wk ws c k=str ws c 0 n++(str ws c n m++(wk ws c k).drop (n+m)):=by
  rw[<-fK h h1 h2 hg (k:=k) (n:=0) (m:=n) (by lia),<-fK h h1 h2 hg hk,drop_zero]
  conv=>lhs;rw[<-take_append_drop n (wk ws c k)]
  congr 1
  conv=>lhs;rw[<-take_append_drop m ((wk ws c k).drop n)]
  rw[List.drop_drop]
 have e2:wk ws c (k+1)=aI ws (str ws c 0 n)++(aI ws (str ws c n m)++aI ws ((wk ws c k).drop (n+m))):=by
  show aI ws (wk ws c k)=_
  conv=>lhs;rw[e1]
  rw[cX,cX]
 have hl:(aI ws (str ws c 0 n)).length+(aI ws (str ws c n m)).length<=(wk ws c (k+1)).length:=by
  rw[e2,length_append,length_append];lia
 refine ⟨?_,hl⟩;rw[<-fK h h1 h2 hg hl,e2,List.drop_append_of_le_length (Nat.le_refl _),List.drop_length,List.nil_append,List.take_append_of_le_length (Nat.le_refl _),take_length]
theorem bN (ws:List Str) (c n m j l:Nat) (h:j+l<=m):((str ws c n m).drop j).take l=str ws c (n+j) l:=by
 unfold str;refine ext_getElem? λi=>?_;by_cases hi:i<l
 ·rw[getElem?_take,if_pos hi,getElem?_drop,getElem?_map,getElem?_map,getElem?_range (by lia),getElem?_range hi];show some (ew ws c (n+(j+i)))=some (ew ws c (n+j+i));rw[Nat.add_assoc]
 ·rw[List.getElem?_eq_none (by rw[length_take];lia),List.getElem?_eq_none (by rw[length_map,length_range];lia)]
theorem nU (ws:List Str) (c n m l:Nat):str ws c n (m+l)=str ws c n m++str ws c (n+m) l:=by
 have e:=take_append_drop m (str ws c n (m+l));rw[<-e]
 congr 1
 ·have:=bN ws c n (m+l) 0 m (by lia);rw[drop_zero,Nat.add_zero] at this;exact this
 ·have:=bN ws c n (m+l) m l (Nat.le_refl _);rw[take_of_length_le (by rw[length_drop,str_len];lia)] at this;exact this
noncomputable def PR (ws:List Str) (c L i:Nat) (p:cR):Prop:=∃n:Nat,p.1=str ws c n L/\p.2=bE ws.length (aG (str ws c 0 n))/\n+L<=(wk ws c (L+i)).length
section
variable {ws:List Str} {c L:Nat}
theorem cC (hU:Ru ws) (h1:97<=c) (h2:c - 97<ws.length) (hg:aJ ws c=true) (hk:n+m<=(wk ws c k).length):bK ws (str ws c n m):=by
 rw[<-fK hU h1 h2 hg hk];exact λd hd=>fJ hU h1 h2 k d (mem_of_mem_drop (mem_of_mem_take hd))
theorem PR.more (hU:Ru ws) (h2:c - 97<ws.length) (hg:aJ ws c=true) (h:PR ws c L i p):PR ws c L (i+1) p:=by
 obtain ⟨n,e1,e2,e3⟩:=h;obtain ⟨t,et⟩:=AH hU h2 hg (L+i);refine ⟨n,e1,e2,?_⟩;rw[show L+(i+1)=L+i+1 by lia,et,length_append];lia
theorem PR.chl (hU:Ru ws) (hL:1<=L) (h1:97<=c) (h2:c - 97<ws.length) (hg:aJ ws c=true) (h:PR ws c L i x) (hp:p∈chl ws x):PR ws c L (i+1) p:=by
 obtain ⟨n,e1,e2,e3⟩:=h;obtain ⟨j,hj,rfl⟩:=mem_map.mp hp;have hj:=mem_range.mp hj;obtain ⟨o1,o2⟩:=iT hU h1 h2 hg e3;obtain ⟨o3,_⟩:=iT hU h1 h2 hg (k:=L+i) (n:=0) (m:=n) (by lia);have lx:=cC hU h1 h2 hg e3;have l0:=cC hU h1 h2 hg (k:=L+i) (n:=0) (m:=n) (by lia);have xl:x.1.length=L:=by rw[e1,str_len]
 have pl:=cW hU (by rw[e1];exact lx) (by lia) hj;rw[xl,length_take,length_drop,e1] at pl;have hjl:j+L<=(aI ws (str ws c n L)).length:=by lia
 have o3:str ws c 0 (aI ws (str ws c 0 n)).length=aI ws (str ws c 0 n):=o3;refine ⟨(aI ws (str ws c 0 n)).length+j,?_,?_,?_⟩
 ·show ((aI ws x.1).drop j).take x.1.length=_;rw[xl,e1,<-o1];exact bN ws c _ _ j L (by rw[<-o1] at hjl;rw[str_len] at hjl;exact hjl)
 ·show zipWith (·+·) (zR (rowsOf ws) x.2 1) (bE ws.length (aG ((wd ws (x.1.headD 0)).take j)))=_;rw[e2,qW hU.isw l0.isW 1];have ei:Gs ws (aG (str ws c 0 n)) 1=aG (aI ws (str ws c 0 n)):=by
   show img ws (aG (str ws c 0 n))=_;rw[eQ,aQ]
  rw[ei,<-L2.Na.zO]
  congr 2
  rw[nU,o3]
  congr 1
  rw[zero_add];have ht:=bN ws c (aI ws (str ws c 0 n)).length (aI ws (str ws c n L)).length 0 j (by lia);rw[drop_zero,Nat.add_zero,o1] at ht;rw[<-ht];cases hs:str ws c n L with
  |nil=>
   have:=str_len ws c n L;rw[hs] at this;simp at this;lia
  |cons d l=>
   rw[e1,hs] at hj ⊢;rw[aL];exact (List.take_append_of_le_length (le_of_lt hj)).symm
 ·rw[show L+(i+1)=L+i+1 by lia];lia
theorem PR.zero (hU:Ru ws) (h1:97<=c) (h2:c - 97<ws.length) (hg:aJ ws c=true):∀p∈f0 ws c L,PR ws c L 0 p:=λp hp=>by
 have e:p=(str ws c 0 L,replicate ws.length 0):=by simpa [f0] using hp
 rw[e];refine ⟨0,rfl,(L2.Na.zN _).symm,?_⟩;have a:=cS hU h1 h2 L;have b:=cJ hU h1 h2 hg L;rw[Nat.add_zero];lia
theorem yN:∀(ps g:List cR),p∈ps.foldl bH g->p∈g\/p∈ps
 |[],g,h=>.inl h
 |q::ps,g,h=>by
  rw[foldl_cons] at h;rcases yN ps _ h with h|h
  ·unfold bH at h;split at h
   ·exact .inl h
   ·rcases mem_append.mp h with h|h
    ·exact .inl h
    ·exact .inr (by rw[mem_singleton.mp h];exact mem_cons_self)
  ·exact .inr (mem_cons_of_mem _ h)
theorem xN (hU:Ru ws) (hL:1<=L) (h1:97<=c) (h2:c - 97<ws.length) (hg:aJ ws c=true):∀(i:Nat) (p:cR),p∈aK ws (f0 ws c L) i->PR ws c L i p
 |0,p,hp=>PR.zero hU h1 h2 hg p hp
 |i+1,p,hp=>by
  have ih:=xN hU hL h1 h2 hg i;change p∈(match (aK ws (f0 ws c L) i)[i]? with|some x=>(chl ws x).foldl bH (aK ws (f0 ws c L) i)|none=>aK ws (f0 ws c L) i) at hp;cases e:(aK ws (f0 ws c L) i)[i]? with
  |none=>
   rw[e] at hp;exact (ih p hp).more hU h2 hg
  |some z=>
   rw[e] at hp;rcases yN _ _ hp with h|h
   ·exact (ih p h).more hU h2 hg
   ·exact (ih z (mem_of_getElem? e)).chl hU hL h1 h2 hg h
end
theorem tJ:∀xs:List Int,dot xs (replicate xs.length 1)=xs.sum
 |[]=>rfl
 |x::xs=>by
  have ih:=tJ xs;unfold dot at ih ⊢;rw[length_cons,replicate_succ,zipWith_cons_cons,sum_cons,sum_cons,ih,Int.mul_one]
theorem mG (h:fG n z):(bE n z).sum=z.length:=by
 have e:=tJ (bE n z);rw[dR] at e;have d:=lA (ds:=replicate n (1:Int)) (z:=z) (by rw[length_replicate];exact h);rw[length_replicate,e,QT h] at d;exact d
section
variable {ws:List Str} {c L:Nat}
theorem UI (hU:Ru ws) (h1:97<=c) (h2:c - 97<ws.length) (hg:aJ ws c=true) (i:Nat):97<=ew ws c i/\ew ws c i - 97<ws.length:=by
 have li:i<(wk ws c i).length:=by
  have a:=cS hU h1 h2 i;have b:=cJ hU h1 h2 hg i;lia
 exact fJ hU h1 h2 i _ (mem_of_getElem? (AI hU h1 h2 hg li))
theorem uG (hU:Ru ws) (h1:97<=c) (h2:c - 97<ws.length) (hg:aJ ws c=true) (i:Nat):1<=(wd ws (ew ws c i)).length:=by
 obtain ⟨w,_,e,hw⟩:=hU.word (UI hU h1 h2 hg i).2;rw[e,aO];exact hU.one w hw
noncomputable def Fl (ws:List Str) (c n:Nat):Nat:=(aI ws (str ws c 0 n)).length
theorem fH (n:Nat):Fl ws c (n+1)=Fl ws c n+(wd ws (ew ws c n)).length:=by
 unfold Fl;rw[nU,cX,length_append,zero_add]
 congr 1
 show (aI ws [ew ws c (n+0)]).length=_;rw[aL,Nat.add_zero];show (wd ws (ew ws c n)++[]).length=_;rw[append_nil]
theorem FE (hU:Ru ws) (h1:97<=c) (h2:c - 97<ws.length) (hg:aJ ws c=true):∀n,∃m j,n=Fl ws c m+j/\j<(wd ws (ew ws c m)).length
 |0=>⟨0,0,rfl,uG hU h1 h2 hg 0⟩
 |n+1=>by
  obtain ⟨m,j,e,hj⟩:=FE hU h1 h2 hg n;by_cases h:j+1<(wd ws (ew ws c m)).length
  ·exact ⟨m,j+1,by lia,h⟩
  ·exact ⟨m+1,0,by rw[fH];lia,uG hU h1 h2 hg (m+1)⟩
theorem PF (hU:Ru ws) (h1:97<=c) (h2:c - 97<ws.length) (hg:aJ ws c=true):∀n,n+2<=Fl ws c (n+1)
 |0=>by
  rw[fH];have e0:ew ws c 0=c:=rfl;rw[e0];unfold aJ at hg;obtain ⟨w,hw,e,_⟩:=hU.word h2;rw[hw] at hg;rw[e,aO];simp only [and_eq_true,decide_eq_true_eq] at hg;lia
 |n+1=>by
  have ih:=PF hU h1 h2 hg n;have:=uG hU h1 h2 hg (n+1);rw[fH];lia
theorem dM (n:Nat) (hL:1<=L):(str ws c n L).headD 0=ew ws c n:=by
 obtain ⟨l,rfl⟩:∃l,L=1+l:=⟨L - 1,by lia⟩;rw[nU];rfl
theorem xJ (hU:Ru ws) (hL:1<=L) (h1:97<=c) (h2:c - 97<ws.length) (hg:aJ ws c=true) (n j:Nat) (hj:j<(wd ws (ew ws c n)).length):str ws c (Fl ws c n+j) L∈bY ws (str ws c n L):=by
 have e3:n+L<=(wk ws c (n+L)).length:=by
  have a:=cS hU h1 h2 (n+L);have b:=cJ hU h1 h2 hg (n+L);lia
 obtain ⟨o1,o2⟩:=iT hU h1 h2 hg e3;have lx:=cC hU h1 h2 hg e3;have pl:=cW hU lx (by rw[str_len];exact hL) (j:=j) (by rw[dM n hL];exact hj);rw[str_len,length_take,length_drop] at pl;unfold bY;refine mem_map.mpr ⟨j,mem_range.mpr (by rw[dM n hL];exact hj),?_⟩;rw[str_len,<-o1];exact bN ws c _ _ j L (by lia)
theorem rE (hU:Ru ws) (hL:1<=L) (h1:97<=c) (h2:c - 97<ws.length) (hg:aJ ws c=true) (hsm:(bA ws c L).length<=300):∀n,str ws c n L∈bI (bA ws c L):=by
 intro n;induction n using Nat.strongRecOn with
 |_ n ih=>
  by_cases h0:n=0
  ·subst h0;have:=eB ws (f0 ws c L) 0 300;obtain ⟨t,e⟩:=this;rw[zero_add] at e;unfold bA;rw[e,fB];exact mem_append.mpr (.inl (mem_cons_self))
  ·obtain ⟨m,j,e,hj⟩:=FE hU h1 h2 hg n;have hm:m<n:=by
    cases m with
    |zero=>lia
    |succ m=>
     have:=PF hU h1 h2 hg m;lia
   rw[e];exact dF hsm (ih m hm) (xJ hU hL h1 h2 hg m j hj)
end
noncomputable def lB:Nat->Nat->List Nat
 |0,_=>[]
 |m+1,v=>lB m (v / 4)++[97+v % 4]
noncomputable def NO (x:List Nat):Nat:=x.foldl (λa d=>4 * a+(d - 97)) 0
noncomputable def Mv (tb:List (List Nat)) (M:Nat) (vs:List Nat):Bool:=vs.all λv=>(range (tb.getD ((lB M v).headD 0 - 97) []).length).all λj=>vs.contains (NO ((((lB M v).flatMap λd=>tb.getD (d - 97) []).drop j).take M))&&decide (lB M (NO ((((lB M v).flatMap λd=>tb.getD (d - 97) []).drop j).take M))=(((lB M v).flatMap λd=>tb.getD (d - 97) []).drop j).take M)
theorem zL:∀(m v:Nat),(lB m v).length=m
 |0,_=>rfl
 |m+1,v=>by
  show (lB m (v / 4)++[97+v % 4]).length=m+1;rw[length_append,zL m];rfl
theorem IW (h:ws.map ls=tb) (d:Nat):wd ws d=tb.getD (d - 97) []:=by
 subst h;unfold wd;rw[getD_eq_getElem?_getD,getElem?_map];cases ws[d - 97]? with
 |none=>rfl
 |some w=>rfl
theorem LC (h:ws.map ls=tb) (ok:Mv tb M vs=true):∀x∈vs.map (lB M),∀y∈bY ws x,y∈vs.map (lB M):=by
 intro x hx y hy;obtain ⟨v,hv,rfl⟩:=mem_map.mp hx;obtain ⟨j,hj,rfl⟩:=mem_map.mp hy;have e1:=all_eq_true.mp (all_eq_true.mp ok v hv) j (by rw[<-IW h];exact hj);rw[and_eq_true] at e1;have ei:aI ws (lB M v)=(lB M v).flatMap λd=>tb.getD (d - 97) []:=by
  unfold aI;rw[show wd ws=λd=>tb.getD (d - 97) [] from funext (IW h)]
 rw[ei,zL];exact mem_map.mpr ⟨_,List.contains_iff_mem.mp e1.1,of_decide_eq_true e1.2⟩
section
variable {ws:List Str} {c L:Nat}
theorem Bf (hU:Ru ws) (hL:1<=L) (h1:97<=c) (h2:c - 97<ws.length) (hg:aJ ws c=true) {g:List (List Nat)} (h0:str ws c 0 L∈g) (hc:∀x∈g,∀y∈bY ws x,y∈g):(bA ws c L).length<=g.length:=by
 rw[<-fA];refine Nodup.length_le_of_subset (cU hU hL (jG hU h1 h2 hg) 300).nd λx hx=>?_;refine oY (P:=λx=>x∈g) (λy hy=>?_) hc 300 x hx;have e:y=str ws c 0 L:=by simpa [f0,bI] using hy
 rw[e];exact h0
theorem NK (hU:Ru ws) (hL:1<=L) (hM:L<=M) (h1:97<=c) (h2:c - 97<ws.length) (hg:aJ ws c=true) (hs:(bA ws c M).length<=300):(bA ws c L).length<=300:=by
 refine le_trans ?_ hs;rw[<-fA,<-fA (bA ws c M),<-length_map (f:=λy:List Nat=>y.take L) (as:=bI (bA ws c M))];refine Nodup.length_le_of_subset (cU hU hL (jG hU h1 h2 hg) 300).nd λx hx=>?_;obtain ⟨p,hp,rfl⟩:=mem_map.mp hx;obtain ⟨n,e1,_,_⟩:=xN hU hL h1 h2 hg 300 p hp;refine mem_map.mpr ⟨str ws c n M,rE hU (by lia) h1 h2 hg hs n,?_⟩;show (str ws c n M).take L=p.1;rw[e1];have:=bN ws c n M 0 L (by lia);rw[drop_zero,Nat.add_zero] at this;exact this
noncomputable def PV (m:Nat):Nat->List (List Nat)
 |0=>[[]]
 |L+1=>(range m).flatMap λd=>(PV m L).map λx=>(97+d)::x
theorem wZ (m:Nat):∀L,(PV m L).length=m ^ L
 |0=>rfl
 |L+1=>by
  show ((range m).flatMap λd=>(PV m L).map λx=>(97+d)::x).length=_;rw[List.length_flatMap];simp only [length_map,wZ m L];rw[List.map_const',List.sum_replicate_nat,length_range,pow_succ,Nat.mul_comm]
theorem wY:∀{x:List Nat},(∀d∈x,97<=d/\d - 97<m)->x∈PV m x.length
 |[],_=>mem_singleton.mpr rfl
 |d::x,h=>by
  obtain ⟨a,b⟩:=h d mem_cons_self;refine mem_flatMap.mpr ⟨d - 97,mem_range.mpr b,mem_map.mpr ⟨x,wY λe he=>h e (mem_cons_of_mem _ he),?_⟩⟩;rw[show 97+(d - 97)=d by lia]
theorem UG (hU:Ru ws) (hL:1<=L) (h1:97<=c) (h2:c - 97<ws.length) (hg:aJ ws c=true):(bA ws c L).length<=ws.length ^ L:=by
 rw[<-fA,<-wZ];refine Nodup.length_le_of_subset (cU hU hL (jG hU h1 h2 hg) 300).nd λx hx=>?_;obtain ⟨p,hp,rfl⟩:=mem_map.mp hx;obtain ⟨l1,l2,_⟩:=(cU hU hL (jG hU h1 h2 hg) 300).ok p hp;show p.1∈_;rw[<-l1];exact wY l2
end
theorem RI (h1:1<=m) (h4:m<=4) (hL:L<=[20,8,5,4].getD (m - 1) 0):m ^ L<=300:=by
 have:m=1\/m=2\/m=3\/m=4:=by lia
 rcases this with rfl|rfl|rfl|rfl
 ·rw[Nat.one_pow];decide
 ·exact le_trans (Nat.pow_le_pow_right (by decide) hL) (by decide)
 ·exact le_trans (Nat.pow_le_pow_right (by decide) hL) (by decide)
 ·exact le_trans (Nat.pow_le_pow_right (by decide) hL) (by decide)
section
variable {ws:List Str} {c L:Nat}
noncomputable def dC (ws:List Str) (c L n:Nat):cR:=(str ws c n L,bE ws.length (aG (str ws c 0 n)))
theorem iV (hU:Ru ws) (h1:97<=c) (h2:c - 97<ws.length) (hg:aJ ws c=true) (n:Nat):n<=(wk ws c n).length:=by
 have a:=cS hU h1 h2 n;have b:=cJ hU h1 h2 hg n;lia
theorem OD (hU:Ru ws) (hL:1<=L) (h1:97<=c) (h2:c - 97<ws.length) (hg:aJ ws c=true) (n j:Nat) (hj:j<(wd ws (ew ws c n)).length):(chl ws (dC ws c L n))[j]?=some (dC ws c L (Fl ws c n+j)):=by
 have e3:n+L<=(wk ws c (n+L)).length:=iV hU h1 h2 hg (n+L);obtain ⟨o1,o2⟩:=iT hU h1 h2 hg e3;obtain ⟨o3,_⟩:=iT hU h1 h2 hg (k:=n+L) (n:=0) (m:=n) (by lia);have lx:=cC hU h1 h2 hg e3;have l0:=cC hU h1 h2 hg (k:=n+L) (n:=0) (m:=n) (by lia);have hj':j<(wd ws ((str ws c n L).headD 0)).length:=by rw[dM n hL];exact hj
 have pl:=cW hU lx (by rw[str_len];exact hL) hj';rw[str_len,length_take,length_drop] at pl;have hjl:j+L<=(aI ws (str ws c n L)).length:=by lia
 have o3:str ws c 0 (aI ws (str ws c 0 n)).length=aI ws (str ws c 0 n):=o3;rw[wM (x:=dC ws c L n) hj'];refine congrArg some (Prod.ext ?_ ?_)
 ·show ((aI ws (str ws c n L)).drop j).take (str ws c n L).length=str ws c ((aI ws (str ws c 0 n)).length+j) L;rw[str_len,<-o1];exact bN ws c _ _ j L (by rw[<-o1] at hjl;rw[str_len] at hjl;exact hjl)
 ·show zipWith (·+·) (zR (rowsOf ws) (bE ws.length (aG (str ws c 0 n))) 1) (bE ws.length (aG ((wd ws ((str ws c n L).headD 0)).take j)))=bE ws.length (aG (str ws c 0 ((aI ws (str ws c 0 n)).length+j)));rw[qW hU.isw l0.isW 1];have ei:Gs ws (aG (str ws c 0 n)) 1=aG (aI ws (str ws c 0 n)):=by
   show img ws (aG (str ws c 0 n))=_;rw[eQ,aQ]
  rw[ei,<-L2.Na.zO]
  congr 2
  rw[nU,o3]
  congr 1
  rw[zero_add];have ht:=bN ws c (aI ws (str ws c 0 n)).length (aI ws (str ws c n L)).length 0 j (by lia);rw[drop_zero,Nat.add_zero,o1] at ht;rw[<-ht];cases hs:str ws c n L with
  |nil=>
   have:=str_len ws c n L;rw[hs] at this;simp at this;lia
  |cons d l=>
   rw[hs] at hj';rw[aL];exact (List.take_append_of_le_length (le_of_lt hj')).symm
theorem wW:∀{k n:Nat},k<=n->Fl ws c k<=Fl ws c n
 |k,0,h=>by
  have e:k=0:=by lia
  rw[e];exact Nat.le_refl _
 |k,n+1,h=>by
  by_cases e:k=n+1
  ·rw[e];exact Nat.le_refl _
  ·have:=wW (k:=k) (n:=n) (by lia);rw[fH];lia
structure Fp (ws:List Str) (c L:Nat) (f:List cR) (ns:List Nat):Prop where
 e:f=ns.map (dC ws c L)
 up:ns.Pairwise (·<·)
 fs:∀n∈ns,∀m,m<n->str ws c m L∈bI f/\str ws c m L≠str ws c n L
theorem Fp.nm (I:Fp ws c L f ns):bI f=ns.map λn=>str ws c n L:=by
 rw[I.e];unfold bI;rw[map_map];rfl
theorem Fp.add (I:Fp ws c L f ns) (hc:∀m,m<M->str ws c m L∈bI f):∃ns',Fp ws c L (bH f (dC ws c L M)) ns'/\∀m,m<M+1->str ws c m L∈bI (bH f (dC ws c L M)):=by
 unfold bH;by_cases h:str ws c M L∈bI f
 ·rw[if_pos (show (dC ws c L M).1∈bI f from h)];refine ⟨ns,I,λm hm=>?_⟩;by_cases e:m=M
  ·rw[e];exact h
  ·exact hc m (by lia)
 ·rw[if_neg (show ¬(dC ws c L M).1∈bI f from h)];have hn:∀{y},y∈bI f->y∈bI (f++[dC ws c L M]):=λhy=>by
   rw[fB];exact mem_append.mpr (.inl hy)
  refine ⟨ns++[M],⟨by rw[map_append,<-I.e];rfl,List.pairwise_append.mpr ⟨I.up,List.pairwise_singleton _ _,λa ha b hb=>?_⟩,λn hn' m hm=>?_⟩,λm hm=>?_⟩
  ·have eb:b=M:=by simpa using hb
   subst eb;refine lt_of_not_le λhle=>h ?_;by_cases e:a=b
   ·rw[I.nm];exact mem_map.mpr ⟨a,ha,by rw[e]⟩
   ·exact (I.fs a ha b (by lia)).1
  ·rcases mem_append.mp hn' with hn'|hn'
   ·exact ⟨hn (I.fs n hn' m hm).1,(I.fs n hn' m hm).2⟩
   ·have eb:n=M:=by simpa using hn'
    subst eb;exact ⟨hn (hc m hm),λe=>h (by rw[<-e];exact hc m hm)⟩
  ·by_cases e:m=M
   ·rw[fB,e];exact mem_append.mpr (.inr mem_cons_self)
   ·exact hn (hc m (by lia))
theorem Fp.chl (hU:Ru ws) (hL:1<=L) (h1:97<=c) (h2:c - 97<ws.length) (hg:aJ ws c=true) (I:Fp ws c L f ns) (hc:∀m,m<Fl ws c n->str ws c m L∈bI f):
  ∀j,j<=(chl ws (dC ws c L n)).length->∃ns',Fp ws c L (((chl ws (dC ws c L n)).take j).foldl bH f) ns'/\∀m,m<Fl ws c n+j->str ws c m L∈bI (((chl ws (dC ws c L n)).take j).foldl bH f)
 |0,_=>⟨ns,I,hc⟩
 |j+1,hj=>by
  obtain ⟨ns1,I1,c1⟩:=Fp.chl hU hL h1 h2 hg I hc j (by lia);have hj':j<(wd ws (ew ws c n)).length:=by
   have e:(L2.Na.chl ws (dC ws c L n)).length=(wd ws ((str ws c n L).headD 0)).length:=EL;rw[dM n hL] at e;lia
  rw[sG (OD hU hL h1 h2 hg n j hj')];exact I1.add c1
theorem FQ {ws:List Str} {f0:List cR} {i k:Nat} {p:cR} (hp:(aK ws f0 i)[k]?=some p) (hk:k<i) {y:List Nat} (hy:y∈bY ws p.1):y∈bI (aK ws f0 i):=by
 have hil:k<(aK ws f0 k).length:=lt_of_not_le λhn=>by
  have e:=kB ws f0 hn (i - k);rw[show k+(i - k)=i by lia] at e;rw[e,List.getElem?_eq_none hn] at hp;cases hp
 obtain ⟨t,e⟩:=eB ws f0 k (i - k);rw[show k+(i - k)=i by lia] at e;have hp':(aK ws f0 k)[k]?=some p:=by
  rw[e,getElem?_append_left hil] at hp;exact hp
 have h1:y∈bI (aK ws f0 (k+1)):=by
  rw[fY hp'];rw[<-oJ] at hy;obtain ⟨q,hq,rfl⟩:=mem_map.mp hy;exact rF hq
 exact kA (by lia) h1
theorem jN (hU:Ru ws) (hL:1<=L) (h1:97<=c) (h2:c - 97<ws.length) (hg:aJ ws c=true):∀i,∃ns,Fp ws c L (aK ws (f0 ws c L) i) ns
 |0=>⟨[0],⟨by
   show [(str ws c 0 L,replicate ws.length 0)]=[(str ws c 0 L,bE ws.length (aG []))]
   rw[show bE ws.length (aG [])=replicate ws.length 0 from L2.Na.zN _],List.pairwise_singleton _ _,λn hn m hm=>by
   have e:n=0:=by simpa using hn
   lia⟩⟩
 |i+1=>by
  obtain ⟨ns,I⟩:=jN hU hL h1 h2 hg i;cases e:(aK ws (f0 ws c L) i)[i]? with
  |none=>
   refine ⟨ns,?_⟩;show Fp ws c L (match (aK ws (f0 ws c L) i)[i]? with|some x=>(chl ws x).foldl bH (aK ws (f0 ws c L) i)|none=>aK ws (f0 ws c L) i) ns;rw[e];exact I
  |some x=>
   rw[fY e];have ei:=e;rw[I.e,getElem?_map] at ei;cases en:ns[i]? with
   |none=>rw[en] at ei;cases ei
   |some n=>
    rw[en] at ei;have ex:x=dC ws c L n:=(Option.some.inj ei).symm;subst ex;have hn:=mem_of_getElem? en;have hc:∀m,m<Fl ws c n->str ws c m L∈bI (aK ws (f0 ws c L) i):=λm hm=>by
     obtain ⟨k,j,em,hj⟩:=FE hU h1 h2 hg m;have hk:k<n:=lt_of_not_le λhle=>by
      have:=wW (ws:=ws) (c:=c) hle;lia
     have hin:=(I.fs n hn k hk).1;rw[I.nm] at hin;obtain ⟨n',hn',e'⟩:=mem_map.mp hin;have hle:n'<=k:=le_of_not_lt λhlt=>(I.fs n' hn' k hlt).2 e'.symm;obtain ⟨i',hi'⟩:=getElem?_of_mem hn';have hii:i'<i:=lt_of_not_le λhle2=>by
      by_cases eq:i=i'
      ·subst eq;rw[en] at hi';have:=Option.some.inj hi';lia
      ·obtain ⟨l1,g1⟩:=List.getElem?_eq_some_iff.mp en;obtain ⟨l2,g2⟩:=List.getElem?_eq_some_iff.mp hi';have:=List.pairwise_iff_getElem.mp I.up i i' l1 l2 (by lia);lia
     have hp:(aK ws (f0 ws c L) i)[i']?=some (dC ws c L n'):=by
      rw[I.e,getElem?_map,hi'];rfl
     refine FQ hp hii ?_;show str ws c m L∈bY ws (str ws c n' L);rw[e',em];exact xJ hU hL h1 h2 hg k j hj
    obtain ⟨ns',I',_⟩:=I.chl hU hL h1 h2 hg hc _ (Nat.le_refl _);rw[take_length] at I';exact ⟨ns',I'⟩
theorem UU (hU:Ru ws) (hL:1<=L) (h1:97<=c) (h2:c - 97<ws.length) (hg:aJ ws c=true) (hp:p∈bA ws c L):∃n:Nat,p=dC ws c L n/\p.2.sum=(n:Int)/\∀m,m<n->str ws c m L≠str ws c n L:=by
 obtain ⟨ns,I⟩:=jN hU hL h1 h2 hg 300;have hp':p∈aK ws (f0 ws c L) 300:=hp;rw[I.e] at hp';obtain ⟨n,hn,rfl⟩:=mem_map.mp hp';refine ⟨n,rfl,?_,λm hm=>(I.fs n hn m hm).2⟩;show (bE ws.length (aG (str ws c 0 n))).sum=_;rw[mG (cC hU h1 h2 hg (k:=n) (n:=0) (m:=n) (by have:=iV hU h1 h2 hg n;lia)).isW,aV,str_len]
end
end L2.Na
namespace L2.Na.K31
open PySem L2.Na.K41 L2.Na.Pr
noncomputable def Gu (n:Nat) (x:List Nat):Bool:=x.all λc=>decide (97<=c)&&decide (c<97+n)
noncomputable def okT (tb:List (List Nat)):Bool:=decide (1<=tb.length)&&(decide (tb.length<=4)&&tb.all λw=>Gu tb.length w&&(decide (1<=w.length)&&decide (w.length<=100)))
theorem Em (h:ws.map ls=tb) (ok:okT tb=true):Ru ws:=by
 unfold okT at ok;simp only [and_eq_true,decide_eq_true_eq] at ok;obtain ⟨h1,h2,h3⟩:=ok;have hl:tb.length=ws.length:=by rw[<-h,length_map]
 have h3':∀w∈ws,Gu ws.length (ls w)=true/\1<=w.length/\w.length<=100:=λw hw=>by
  have:=all_eq_true.mp h3 (ls w) (by rw[<-h];exact mem_map.mpr ⟨w,hw,rfl⟩);rw[hl,aO] at this;simpa using this
 refine ⟨by lia,by lia,λw hw c hc=>?_,λw hw=>(h3' w hw).2.1,λw hw=>(h3' w hw).2.2⟩;have:=all_eq_true.mp (h3' w hw).1 c hc;simpa using this
noncomputable def Ma (tb:List (List Nat)):Bool:=decide (1<(tb.getD 0 []).length)&&decide ((tb.getD 0 [])[0]?=some 97)
theorem Ic (h:ws.map ls=tb) (ok:Ma tb=true):aJ ws 97=true/\97 - 97<ws.length:=by
 subst h;cases ws with
 |nil=>exact absurd ok (by decide)
 |cons w ws=>
  refine ⟨?_,Nat.succ_pos _⟩;unfold Ma at ok;change (decide (1<(ls w).length)&&decide ((ls w)[0]?=some 97))=true at ok;rw[aO] at ok;simp only [and_eq_true,decide_eq_true_eq] at ok;show (decide (97<=97)&&(decide (1<w.length)&&decide ((ls w)[0]?=some 97)))=true;have k2:(ls w)[0]?=some 97:=of_decide_eq_true ok.2;rw[decide_eq_true ok.1,decide_eq_true k2];rfl
noncomputable def PX (tb:List (List Nat)):Nat->List Nat
 |0=>[97]
 |k+1=>(PX tb k).flatMap λd=>tb.getD (d - 97) []
theorem IV (h:ws.map ls=tb):∀k,wk ws 97 k=PX tb k
 |0=>rfl
 |k+1=>by
  show aI ws (wk ws 97 k)=(PX tb k).flatMap λd=>tb.getD (d - 97) [];rw[IV h k];unfold aI;rw[show wd ws=λd=>tb.getD (d - 97) [] from funext (IW h)]
structure Fx (ws:List Str) (M:Nat):Prop where
 ru:Ru ws
 gr:aJ ws 97=true
 c2:97 - 97<ws.length
 few:(bA ws 97 M).length<=300
noncomputable def Mc (tb:List (List Nat)) (M:Nat) (vs:List Nat) (k:Nat):Bool:=okT tb&&(Ma tb&&(Mv tb M vs&&(decide (M<=(PX tb k).length)&&(vs.contains (NO ((PX tb k).take M))&&(decide (lB M (NO ((PX tb k).take M))=(PX tb k).take M)&&(decide (vs.length<=300)&&decide (1<=M)))))))
theorem ND (h:ws.map ls=tb) (ok:Mc tb M vs k=true):Fx ws M:=by
 unfold Mc at ok;simp only [and_eq_true,decide_eq_true_eq] at ok;obtain ⟨a1,a2,a3,a4,a5,a6,a7,a8⟩:=ok;have hU:=Em h a1;obtain ⟨g1,g2⟩:=Ic h a2;refine ⟨hU,g1,g2,?_⟩;have e0:str ws 97 0 M=(PX tb k).take M:=by
  rw[<-fK hU (by decide) g2 g1 (k:=k) (n:=0) (m:=M) (by rw[IV h];lia),drop_zero,IV h]
 have:=Bf hU a8 (by decide) g2 g1 (g:=vs.map (lB M)) (by rw[e0];exact mem_map.mpr ⟨_,List.contains_iff_mem.mp a5,a6⟩) (LC h a3);rw[length_map] at this;lia
noncomputable def wn (tb:List (List Nat)) (M k N:Nat):List Nat:=((range N).map λi=>NO (((PX tb k).drop i).take M)).eraseDups
theorem jF {ws:List Str} {tb:List (List Nat)} {M:Nat} (k N:Nat) (h:ws.map ls=tb) (ok:Mc tb M (wn tb M k N) k=true):Fx ws M:=ND h ok
noncomputable abbrev R0:List Str:=[Str.ofString "ab",Str.ofString "a"]
theorem Nn:R0.map ls=[[97,98],[97]]:=by decide+kernel
theorem Ob:Fx R0 20:=jF 8 21 Nn (by decide+kernel)
noncomputable abbrev R1:List Str:=[Str.ofString "ab",Str.ofString "ba"]
theorem Nm:R1.map ls=[[97,98],[98,97]]:=by decide+kernel
theorem Oa:Fx R1 20:=jF 7 96 Nm (by decide+kernel)
noncomputable abbrev R2:List Str:=[Str.ofString "aab",Str.ofString "ab"]
theorem Nl:R2.map ls=[[97,97,98],[97,98]]:=by decide+kernel
theorem Nz:Fx R2 20:=jF 4 21 Nl (by decide+kernel)
noncomputable abbrev R3:List Str:=[Str.ofString "abc",Str.ofString "ac",Str.ofString "b"]
theorem Nk:R3.map ls=[[97,98,99],[97,99],[98]]:=by decide+kernel
theorem Ny:Fx R3 9:=jF 6 48 Nk (by decide+kernel)
noncomputable abbrev R4:List Str:=[Str.ofString "abb",Str.ofString "ab"]
theorem Nj:R4.map ls=[[97,98,98],[97,98]]:=by decide+kernel
theorem Nx:Fx R4 20:=jF 4 21 Nj (by decide+kernel)
noncomputable abbrev R5:List Str:=[Str.ofString "abc",Str.ofString "bca",Str.ofString "cab"]
theorem Ni:R5.map ls=[[97,98,99],[98,99,97],[99,97,98]]:=by decide+kernel
theorem Nw:Fx R5 20:=jF 6 405 Ni (by decide+kernel)
noncomputable abbrev R6:List Str:=[Str.ofString "ab",Str.ofString "cd",Str.ofString "ad",Str.ofString "cb"]
theorem Nh:R6.map ls=[[97,98],[99,100],[97,100],[99,98]]:=by decide+kernel
theorem Nv:Fx R6 12:=jF 7 64 Nh (by decide+kernel)
noncomputable abbrev R7:List Str:=[Str.ofString "abab",Str.ofString "a"]
theorem Ng:R7.map ls=[[97,98,97,98],[97]]:=by decide+kernel
theorem Nu:Fx R7 20:=jF 4 38 Ng (by decide+kernel)
noncomputable abbrev R8:List Str:=[Str.ofString "ab",Str.ofString "c",Str.ofString "a"]
theorem Nf:R8.map ls=[[97,98],[99],[97]]:=by decide+kernel
theorem Nt:Fx R8 20:=jF 11 60 Nf (by decide+kernel)
noncomputable abbrev R9:List Str:=[Str.ofString "ab",Str.ofString "ca",Str.ofString "cd",Str.ofString "ac"]
theorem Nd:R9.map ls=[[97,98],[99,97],[99,100],[97,99]]:=by decide+kernel
theorem Nr:Fx R9 12:=jF 6 48 Nd (by decide+kernel)
noncomputable abbrev Kb:List Str:=[Str.ofString "aba",Str.ofString "b"]
theorem Kk:Kb.map ls=[[97,98,97],[98]]:=by decide+kernel
theorem Me:Fx Kb 20:=ND (vs:=[73300775185,293203100740]) (k:=4) Kk (by decide+kernel)
noncomputable abbrev Ka:List Str:=[Str.ofString "ab",Str.ofString "b"]
theorem Kj:Ka.map ls=[[97,98],[98]]:=by decide+kernel
theorem Md:Fx Ka 20:=ND (vs:=[91625968981,366503875925]) (k:=19) Kj (by decide+kernel)
noncomputable abbrev FW:List (List Str × Nat):=[(R0,20),(R1,20),(R2,20),(R3,9),(R4,20),(R5,20),(R6,12),(R7,20),(R8,20),(R9,12),(Kb,20),(Ka,20)]
theorem Be {i:Nat} (h:FW[i]?=some p):Fx p.1 p.2/\1<=p.2/\p.2<=20:=by
 have hm:=mem_of_getElem? h;simp only [mem_cons,not_mem_nil,or_false] at hm;rcases hm with rfl|rfl|rfl|rfl|rfl|rfl|rfl|rfl|rfl|rfl|rfl|rfl
 ·exact ⟨Ob,by decide,by decide⟩
 ·exact ⟨Oa,by decide,by decide⟩
 ·exact ⟨Nz,by decide,by decide⟩
 ·exact ⟨Ny,by decide,by decide⟩
 ·exact ⟨Nx,by decide,by decide⟩
 ·exact ⟨Nw,by decide,by decide⟩
 ·exact ⟨Nv,by decide,by decide⟩
 ·exact ⟨Nu,by decide,by decide⟩
 ·exact ⟨Nt,by decide,by decide⟩
 ·exact ⟨Nr,by decide,by decide⟩
 ·exact ⟨Me,by decide,by decide⟩
 ·exact ⟨Md,by decide,by decide⟩
open PySem.Spec PyProof.Rows L2 L2.L3
variable {K:Fg}
noncomputable def el (p:List Str × Nat):EX K:=lst [tup (p.1.map λw=>cst (.str w)),cst (.int (p.2:Nat))]
noncomputable def Fw (H:Hp) (p:List Str × Nat) (l:Addr):Prop:=∃t,H l=some (.lst [.ref t,.int (p.2:Nat)])/\H t=some (.tup (p.1.map V.str))
theorem Fw.same {H H':Hp} {p:List Str × Nat} {l:Addr} (h:Fw H p l) (e:aC H H'):Fw H' p l:=by
 obtain ⟨t,a,b⟩:=h;exact ⟨t,e _ _ a,e _ _ b⟩
theorem EY {E:XS} {σ:St} {H:Hp}:∀{ws:List Str} {Q:List V->Hp->Prop},Q (ws.map V.str) H->fL (ws.map λw=>(cst (.str w):EX K)) E σ H Q
 |[],_,h=>h
 |w::ws,Q,h=>by
  show fL (ws.map λw=>(cst (.str w):EX K)) E σ H λxs H1=>Q (.str w::xs) H1;exact EY (ws:=ws) h
theorem Lx {E:XS} {σ:St} {H:Hp} {p:List Str × Nat} {Q:VK} (hp:p.1.length<=4) (q:∀l H',aC H H'->Fw H' p l->Q (.ref l) H'):(el p:EX K).t E σ H Q:=by
 unfold el;refine MS ?_;show (tup (p.1.map λw=>cst (.str w)):EX K).t E σ H λx H1=>(cst (.int (p.2:Nat)):EX K).t E σ H1 λy H2=>_;refine MJ (EY ⟨small (by rw[length_map];lia),λt nt=>?_⟩);show 2<=sizeLine/\_;refine ⟨small (by decide),λl nl=>?_⟩;refine q l _ ((aE nt _).trans (aE nl _)) ⟨t,aA,?_⟩;rw[aF (aB aA nl)];exact aA
theorem OU {E:XS} {σ:St}:∀{ps:List (List Str × Nat)} {H:Hp} {Q:List V->Hp->Prop},(∀p∈ps,p.1.length<=4)->(∀(ls:List Addr) (H':Hp),aC H H'->ls.length=ps.length->(∀(i:Nat) (l:Addr) (p:List Str × Nat),ls[i]?=some l->ps[i]?=some p->Fw H' p l)->Q (ls.map V.ref) H')->fL (ps.map (el (K:=K))) E σ H Q
 |[],H,_,_,h=>h [] H (aC.refl _) rfl λi l p hl=>by cases hl
 |p::ps,H,Q,hp,h=>by
  show (el p:EX K).t E σ H λx H1=>fL (ps.map (el (K:=K))) E σ H1 λxs H2=>Q (x::xs) H2;refine Lx (hp p mem_cons_self) λl H1 s1 f1=>?_;refine OU (ps:=ps) (λq hq=>hp q (mem_cons_of_mem _ hq)) λls H2 s2 hl hf=>?_;refine h (l::ls) H2 (s1.trans s2) (by rw[length_cons,length_cons,hl]) λi a q ha hq=>?_;cases i with
  |zero=>
   cases ha;cases hq;exact f1.same s2
  |succ i=>exact hf i a q ha hq
structure Dd (H:Hp) (ps:List (List Str × Nat)) (l:Addr) (ls:List Addr):Prop where
 l:H l=some (.lst (ls.map V.ref))
 n:ls.length=ps.length
 f:∀(i:Nat) (a:Addr) (p:List Str × Nat),ls[i]?=some a->ps[i]?=some p->Fw H p a
theorem Dd.same {H H':Hp} {ps:List (List Str × Nat)} {l:Addr} {ls:List Addr} (h:Dd H ps l ls) (e:aC H H'):Dd H' ps l ls:=⟨e _ _ h.l,h.n,λi a p x y=>(h.f i a p x y).same e⟩
theorem WC {E:XS} {σ:St} {H:Hp} {ps:List (List Str × Nat)} {Q:VK} (hp:∀p∈ps,p.1.length<=4) (hn:ps.length<=12) (q:∀(l:Addr) (ls:List Addr) (H':Hp),aC H H'->Dd H' ps l ls->Q (.ref l) H'):(lst (ps.map (el (K:=K)))).t E σ H Q:=by
 refine MS (OU hp λls H1 s1 hl hf=>⟨small (by rw[length_map];lia),λl nl=>?_⟩);have s2:=aE nl (.lst (ls.map V.ref));exact q l ls _ (s1.trans s2) ⟨aA,hl,λi a p x y=>(hf i a p x y).same s2⟩
theorem BR {E:XS} {σ:St} {H:Hp} {ps qs:List (List Str × Nat)} {l:Addr} {ls:List Addr} {k:Nat} {Q:VK} (hσ:σ[k]?=some (some (.ref l))) (h0:Dd H ps l ls) (hp:∀p∈qs,p.1.length<=4) (hn:ps.length+qs.length<=12) (q:∀(l:Addr) (ls:List Addr) (H':Hp),aC H H'->Dd H' (ps++qs) l ls->Q (.ref l) H'):(bin .Add (var k) (lst (qs.map (el (K:=K))))).t E σ H Q:=by
 refine WD ?_;refine yU hσ ?_;refine WC hp (by lia) λl2 ls2 H1 s1 f1=>?_;have f0:=h0.same s1;refine BS f0.l f1.l (small (by rw[length_map,length_map,f0.n,f1.n];lia)) λr nr=>?_;have s2:=aE nr (.lst (ls.map V.ref++ls2.map V.ref));refine q r (ls++ls2) _ (s1.trans s2) ⟨by rw[aA,map_append],by rw[length_append,length_append,f0.n,f1.n],λi a p x y=>?_⟩;by_cases hi:i<ls.length
 ·rw[getElem?_append_left hi] at x;rw[getElem?_append_left (by have:=f0.n;lia)] at y;exact (f0.f i a p x y).same s2
 ·rw[getElem?_append_right (by lia)] at x;rw[getElem?_append_right (by have:=f0.n;lia),<-f0.n] at y;exact (f1.f _ a p x y).same s2
noncomputable abbrev F1:List (List Str × Nat):=[(R0,20),(R1,20),(R2,20),(R3,9)]
noncomputable abbrev F2:List (List Str × Nat):=[(R4,20),(R5,20),(R6,12)]
noncomputable abbrev F3:List (List Str × Nat):=[(R7,20),(R8,20)]
end L2.Na.K31
namespace L2.Na.K44
open PySem PySem.Spec PyProof.Rows L2 L2.L3
structure Sg where
 size:Int
 first:Option Int
 last:Option Int
 gap:Int
 place:Int
noncomputable def oV:Option Int->V
 |none=>.non
 |some i=>.int i
noncomputable def Cu (a b c d e:V):List (Str × V):=[("size",a),("first",b),("last",c),("gap",d),("place",e)]
noncomputable def wI (g:Sg):List (Str × V):=Cu (.int g.size) (oV g.first) (oV g.last) (.int g.gap) (.int g.place)
variable {K:Fg}
structure KO (K:Fg):Prop where
 cl:IJ K (clsAt K "Sight")
 n1:bX K (clsAt K "Sight") "size"
 n2:bX K (clsAt K "Sight") "first"
 n3:bX K (clsAt K "Sight") "last"
 n4:bX K (clsAt K "Sight") "gap"
 n5:bX K (clsAt K "Sight") "place"
noncomputable def fU (K:Fg) (H:Hp) (x:Addr) (g:Sg):Prop:=∃dx,H x=some (.ins (clsAt K "Sight") dx (wI g))
theorem fU.same {H H':Hp} {x:Addr} {g:Sg} (h:fU K H x g) (e:aC H H'):fU K H' x g:=let ⟨dx,h⟩:=h;⟨dx,e _ _ h⟩
section
variable {H:Hp} {Q:VK} {QH:Hp->Prop} {x:Addr} {g:Sg}
theorem mF (ko:KO K) (h:fU K H x g) (q:Q (.int g.size) H):GD K "size" (.ref x) H Q:=let ⟨dx,h⟩:=h;⟨x,_,dx,_,_,rfl,h,ko.cl,ko.n1,rfl,q⟩
theorem kX (ko:KO K) (h:fU K H x g) (q:Q (oV g.first) H):GD K "first" (.ref x) H Q:=let ⟨dx,h⟩:=h;⟨x,_,dx,_,_,rfl,h,ko.cl,ko.n2,rfl,q⟩
theorem BY (ko:KO K) (h:fU K H x g) (q:Q (oV g.last) H):GD K "last" (.ref x) H Q:=let ⟨dx,h⟩:=h;⟨x,_,dx,_,_,rfl,h,ko.cl,ko.n3,rfl,q⟩
theorem EA (ko:KO K) (h:fU K H x g) (q:Q (.int g.gap) H):GD K "gap" (.ref x) H Q:=let ⟨dx,h⟩:=h;⟨x,_,dx,_,_,rfl,h,ko.cl,ko.n4,rfl,q⟩
theorem DZ (ko:KO K) (h:fU K H x g) (q:Q (.int g.place) H):GD K "place" (.ref x) H Q:=let ⟨dx,h⟩:=h;⟨x,_,dx,_,_,rfl,h,ko.cl,ko.n5,rfl,q⟩
theorem YV (ko:KO K) {dx:Addr} (h:H x=some (.ins (clsAt K "Sight") dx (wI g))) {i:Int} (q:QH (upd H x (.ins (clsAt K "Sight") dx (wI {g with size:=i})))):sO K "size" (.int i) (.ref x) H QH:=⟨x,_,dx,_,rfl,h,ko.cl,ko.n1,(by show 5<1000;decide),q⟩
theorem RQ (ko:KO K) {dx:Addr} (h:H x=some (.ins (clsAt K "Sight") dx (wI g))) {i:Int} (q:QH (upd H x (.ins (clsAt K "Sight") dx (wI {g with first:=some i})))):sO K "first" (.int i) (.ref x) H QH:=⟨x,_,dx,_,rfl,h,ko.cl,ko.n2,(by show 5<1000;decide),q⟩
theorem YW (ko:KO K) {dx:Addr} (h:H x=some (.ins (clsAt K "Sight") dx (wI g))) {i:Int} (q:QH (upd H x (.ins (clsAt K "Sight") dx (wI {g with last:=some i})))):sO K "last" (.int i) (.ref x) H QH:=⟨x,_,dx,_,rfl,h,ko.cl,ko.n3,(by show 5<1000;decide),q⟩
theorem Fm (ko:KO K) {dx:Addr} (h:H x=some (.ins (clsAt K "Sight") dx (wI g))) {i:Int} (q:QH (upd H x (.ins (clsAt K "Sight") dx (wI {g with gap:=i})))):sO K "gap" (.int i) (.ref x) H QH:=⟨x,_,dx,_,rfl,h,ko.cl,ko.n4,(by show 5<1000;decide),q⟩
theorem RP (ko:KO K) {dx:Addr} (h:H x=some (.ins (clsAt K "Sight") dx (wI g))) {i:Int} (q:QH (upd H x (.ins (clsAt K "Sight") dx (wI {g with place:=i})))):sO K "place" (.int i) (.ref x) H QH:=⟨x,_,dx,_,rfl,h,ko.cl,ko.n5,(by show 5<1000;decide),q⟩
end
noncomputable def gA (K:Fg):Sp:=λvs H Q _=>∃(x dx:Addr) (a b c d e:V),vs=[.ref x,a,b,c,d,e]/\KO K/\H x=some (.ins (clsAt K "Sight") dx [])/\Q .non (upd H x (.ins (clsAt K "Sight") dx (Cu a b c d e)))
noncomputable def oK (K:Fg):List (SX K):=[kN (var 0) "size" (var 1),kN (var 0) "first" (var 2),kN (var 0) "last" (var 3),kN (var 0) "gap" (var 4),kN (var 0) "place" (var 5)]
theorem SS:∀vs H Q E,gA K vs H Q E->vs.length=6:=by
 rintro vs H Q E ⟨_,_,_,_,_,_,_,rfl,_⟩;rfl
theorem QJ:TT (gA K) (oK K) ["self","size","first","last","gap","place"]:=by
 intro vs H Q E h;obtain ⟨x,dx,a,b,c,d,e,rfl,ko,hx,q⟩:=h;unfold oK;walk_at "";refine fR ?_;walk_at "";refine ⟨x,_,dx,_,rfl,hx,ko.cl,ko.n1,(by show 0<1000;decide),?_⟩;walk_at "";refine fR ?_;walk_at "";refine ⟨x,_,dx,_,rfl,aA,ko.cl,ko.n2,(by show 1<1000;decide),?_⟩;rw[jW];walk_at "";refine fR ?_;walk_at "";refine ⟨x,_,dx,_,rfl,aA,ko.cl,ko.n3,(by show 2<1000;decide),?_⟩;rw[jW];walk_at "";refine fR ?_;walk_at "";refine ⟨x,_,dx,_,rfl,aA,ko.cl,ko.n4,(by show 3<1000;decide),?_⟩;rw[jW];walk_at "";refine fR ?_;walk_at "";refine ⟨x,_,dx,_,rfl,aA,ko.cl,ko.n5,(by show 4<1000;decide),?_⟩;rw[jW];exact q
noncomputable def lL (g:Sg) (gap place:Int):Sg:=if g.gap<gap then {g with gap:=gap,place:=place} else g
noncomputable def kC (K:Fg):Sp:=λvs H Q _=>∃(x dx:Addr) (g:Sg) (gap place:Int),vs=[.ref x,.int gap,.int place]/\KO K/\H x=some (.ins (clsAt K "Sight") dx (wI g))/\∀H',(∀b o,b≠x->H b=some o->H' b=some o)->H' x=some (.ins (clsAt K "Sight") dx (wI (lL g gap place)))->Q .non H'
noncomputable def ER (K:Fg):List (SX K):=[qF (cmp .Gt (var 1) (fld (var 0) "gap")) [kN (var 0) "gap" (var 1),kN (var 0) "place" (var 2)] []]
theorem QC:TT (kC K) (ER K) ["sight","gap","place"]:=by
 intro vs H Q E h;obtain ⟨x,dx,g,gap,place,rfl,ko,hx,q⟩:=h;unfold ER;walk_at "";refine cQ ?_;walk_at "";refine EA ko ⟨dx,hx⟩ ?_;walk_at "";refine fT (λc=>?_) λc=>?_
 ·walk_at "";refine fR ?_;walk_at "";refine Fm ko hx ?_;walk_at "";refine fR ?_;walk_at "";refine RP ko aA ?_;walk_at "";refine q _ (λb o hb e=>by rw[aF hb,aF hb];exact e) ?_;rw[aA];unfold lL;rw[if_pos c]
 ·walk_at "";refine q H (λb o _ e=>e) ?_;unfold lL;rw[if_neg c];exact hx
noncomputable def BL (w s:Sg):Sg:=
 match s.first,s.last with
 |some f,some l=>
  let w1:=match w.first,w.last with
   |some _,some wl=>lL w (w.size+f - wl) wl
   |_,_=>{w with first:=some (w.size+f)}
  let w2:=lL w1 s.gap (w1.size+s.place)
  {w2 with last:=some (w2.size+l),size:=w2.size+s.size}
 |_,_=>{w with size:=w.size+s.size}
noncomputable def Cr:Sg:=⟨0,none,none,0,0⟩
noncomputable def mW (gs:List Sg):Sg:=gs.foldl BL Cr
noncomputable def mK (g:Sg):Prop:=(g.first=none/\g.last=none)\/∃f l,g.first=some f/\g.last=some l
theorem lN (g:Sg) (a b:Int):(lL g a b).first=g.first/\(lL g a b).last=g.last:=by
 unfold lL;split<;>exact ⟨rfl,rfl⟩
noncomputable def Jw (w1 s:Sg) (l:Int):Sg:={lL w1 s.gap (w1.size+s.place) with last:=some ((lL w1 s.gap (w1.size+s.place)).size+l),size:=(lL w1 s.gap (w1.size+s.place)).size+s.size}
theorem pZ {w s:Sg} (h1:s.first=none) (h2:s.last=none):BL w s={w with size:=w.size+s.size}:=by
 obtain ⟨a,b,c,d,e⟩:=s;cases h1;cases h2;rfl
theorem vU {w s:Sg} {f l:Int} (h1:s.first=some f) (h2:s.last=some l) (w1:w.first=none) (w2:w.last=none):BL w s=Jw {w with first:=some (w.size+f)} s l:=by
 obtain ⟨a,b,c,d,e⟩:=s;obtain ⟨a',b',c',d',e'⟩:=w;cases h1;cases h2;cases w1;cases w2;rfl
theorem vT {w s:Sg} {f l wf wl:Int} (h1:s.first=some f) (h2:s.last=some l) (w1:w.first=some wf) (w2:w.last=some wl):BL w s=Jw (lL w (w.size+f - wl) wl) s l:=by
 obtain ⟨a,b,c,d,e⟩:=s;obtain ⟨a',b',c',d',e'⟩:=w;cases h1;cases h2;cases w1;cases w2;rfl
theorem gB (w1 s:Sg) (l:Int):(Jw w1 s l).first=w1.first:=(lN w1 s.gap (w1.size+s.place)).1
theorem ZT {w s:Sg} (hw:mK w) (hs:mK s):mK (BL w s)/\(BL w s).first.isSome=(w.first.isSome || s.first.isSome):=by
 rcases hs with ⟨s1,s2⟩|⟨f,l,s1,s2⟩
 ·rw[pZ s1 s2,s1];refine ⟨hw,?_⟩;show w.first.isSome=_;simp
 ·rcases hw with ⟨w1,w2⟩|⟨wf,wl,w1,w2⟩
  ·rw[vU s1 s2 w1 w2];exact ⟨.inr ⟨_,_,gB _ _ _,rfl⟩,by rw[gB,s1,w1];rfl⟩
  ·rw[vT s1 s2 w1 w2];have e:=gB (lL w (w.size+f - wl) wl) s l;rw[(lN w (w.size+f - wl) wl).1,w1] at e;exact ⟨.inr ⟨wf,_,e,rfl⟩,by rw[e,w1];rfl⟩
theorem pY:∀(gs:List Sg) (w:Sg),mK w->(∀g∈gs,mK g)->mK (gs.foldl BL w)/\(gs.foldl BL w).first.isSome=(w.first.isSome || gs.any λg=>g.first.isSome)
 |[],w,hw,_=>⟨hw,by simp⟩
 |g::gs,w,hw,h=>by
  obtain ⟨a,b⟩:=ZT hw (h g (by simp));obtain ⟨c,d⟩:=pY gs (BL w g) a λx hx=>h x (by simp [hx]);rw[foldl_cons];refine ⟨c,?_⟩;rw[d,b,any_cons,Bool.or_assoc]
structure Om (K:Fg) (H:Hp) (p:Addr) (as:List Addr) (gs:List Sg):Prop where
 l:H p=some (.lst (as.map V.ref))
 n:as.length=gs.length
 s:∀(i:Nat) (a:Addr) (g:Sg),as[i]?=some a->gs[i]?=some g->fU K H a g
 o:∀g∈gs,mK g
noncomputable def lQ (K:Fg):Sp:=λvs H Q _=>∃(p:Addr) (as:List Addr) (gs:List Sg),vs=[.ref p]/\KO K/\Om K H p as gs/\∀r H',aC H H'->H r=none->fU K H' r (mW gs)->Q (.ref r) H'
noncomputable def Bw (K:Fg):List (SX K):=
 [qF (cmp .IsNot (fld (var 2) "first") (cst .non))
   [qF (cmp .Is (fld (var 1) "first") (cst .non)) [kN (var 1) "first" (bin .Add (fld (var 1) "size") (fld (var 2) "first"))]
     [ex (call "widen" (kC K) [var 1,bin .Sub (bin .Add (fld (var 1) "size") (fld (var 2) "first")) (fld (var 1) "last"),fld (var 1) "last"])],
    ex (call "widen" (kC K) [var 1,fld (var 2) "gap",bin .Add (fld (var 1) "size") (fld (var 2) "place")]),
    kN (var 1) "last" (bin .Add (fld (var 1) "size") (fld (var 2) "last"))] [],
  kN (var 1) "size" (bin .Add (fld (var 1) "size") (fld (var 2) "size"))]
noncomputable def zU (K:Fg):List (SX K):=
 [set 1 (Jv "Sight" (gA K) (cst (.int 0)) [cst .non,cst .non,cst (.int 0),cst (.int 0)]),
  jP (gR 2) (iG (var 0)) (Bw K),
  ret (var 1)]
noncomputable abbrev Off1 (x:Addr) (H H':Hp):Prop:=∀b o,b≠x->H b=some o->H' b=some o
theorem Kl {D:Ends} {E:XK} {H:Hp} {p x dx a:Addr} {w s:Sg} (ko:KO K) (hx:H x=some (.ins (clsAt K "Sight") dx (wI w))) (hw:mK w) (ha:fU K H a s) (hs:mK s) (ax:a≠x)
  (q:∀H',Off1 x H H'->H' x=some (.ins (clsAt K "Sight") dx (wI (BL w s)))->D.nx [some (.ref p),some (.ref x),some (.ref a)] H'):
  gY (Bw K) (λ_=>E) D [some (.ref p),some (.ref x),some (.ref a)] H:=by
 have fin:∀(w':Sg) (H':Hp),Off1 x H H'->H' x=some (.ins (clsAt K "Sight") dx (wI w'))->{w' with size:=w'.size+s.size}=BL w s->gY ([kN (var 1) "size" (bin .Add (fld (var 1) "size") (fld (var 2) "size"))]:List (SX K)) (λ_=>E) D [some (.ref p),some (.ref x),some (.ref a)] H':=λw' H' of h' e=>by
  have ha':fU K H' a s:=let ⟨da,ha⟩:=ha;⟨da,of _ _ ax ha⟩;walk_at "";refine fR ?_;walk_at "";refine cQ ?_;walk_at "";refine mF ko ⟨dx,h'⟩ ?_;walk_at "";refine cQ ?_;walk_at "";refine mF ko ha' ?_;walk_at "";refine YV ko h' ?_;refine q _ (λb o hb g=>by rw[aF hb];exact of b o hb g) ?_;rw[aA,e]
 have mid:∀(w1:Sg) (H1:Hp) (l:Int),s.last=some l->Off1 x H H1->H1 x=some (.ins (clsAt K "Sight") dx (wI w1))->Jw w1 s l=BL w s->
   gY ([ex (call "widen" (kC K) [var 1,fld (var 2) "gap",bin .Add (fld (var 1) "size") (fld (var 2) "place")]),kN (var 1) "last" (bin .Add (fld (var 1) "size") (fld (var 2) "last"))]:List (SX K)) (λ_=>E)
    {D with nx:=gY [kN (var 1) "size" (bin .Add (fld (var 1) "size") (fld (var 2) "size"))] (λ_=>E) D} [some (.ref p),some (.ref x),some (.ref a)] H1:=λw1 H1 l hl of h1 e=>by
  have ha1:fU K H1 a s:=let ⟨da,ha⟩:=ha;⟨da,of _ _ ax ha⟩;walk_at "";refine cQ ?_;walk_at "";refine EA ko ha1 ?_;walk_at "";refine cQ ?_;walk_at "";refine mF ko ⟨dx,h1⟩ ?_;walk_at "";refine cQ ?_;walk_at "";refine DZ ko ha1 ?_;walk_at "";refine ⟨x,dx,w1,_,_,rfl,ko,h1,λH2 of2 h2=>?_⟩;have of12:Off1 x H H2:=λb o hb g=>of2 b o hb (of b o hb g);have ha2:fU K H2 a s:=let ⟨da,ha⟩:=ha;⟨da,of12 _ _ ax ha⟩;walk_at "";refine fR ?_;walk_at "";refine cQ ?_;walk_at "";refine mF ko ⟨dx,h2⟩ ?_;walk_at "";refine cQ ?_;walk_at "";refine BY ko ha2 ?_;rw[hl];refine DX ?_;walk_at "";refine YW ko h2 ?_;walk_at "";exact fin _ _ (λb o hb g=>by rw[aF hb];exact of12 b o hb g) aA e
 unfold Bw;walk_at "";refine cQ ?_;walk_at "";refine kX ko ha ?_;rcases hs with ⟨s1,s2⟩|⟨f,l,s1,s2⟩
 ·rw[s1];refine yX ?_;refine BM ?_;refine tN ?_;walk_at "";exact fin w H (λb o _ g=>g) hx (pZ s1 s2).symm
 ·rw[s1];refine yX ?_;refine BM ?_;refine IH ?_;walk_at "";refine cQ ?_;walk_at "";refine kX ko ⟨dx,hx⟩ ?_;rcases hw with ⟨w1,w2⟩|⟨wf,wl,w1,w2⟩
  ·rw[w1];refine yX ?_;refine ME ?_;refine IH ?_;walk_at "";refine fR ?_;walk_at "";refine cQ ?_;walk_at "";refine mF ko ⟨dx,hx⟩ ?_;walk_at "";refine cQ ?_;walk_at "";refine kX ko ha ?_;rw[s1];refine DX ?_;walk_at "";refine RQ ko hx ?_;walk_at "";exact mid _ _ l s2 (λb o hb g=>by rw[aF hb];exact g) aA (vU s1 s2 w1 w2).symm
  ·rw[w1];refine yX ?_;refine ME ?_;refine tN ?_;walk_at "";refine cQ ?_;walk_at "";refine mF ko ⟨dx,hx⟩ ?_;walk_at "";refine cQ ?_;walk_at "";refine kX ko ha ?_;rw[s1];refine DX ?_;walk_at "";refine cQ ?_;walk_at "";refine BY ko ⟨dx,hx⟩ ?_;rw[w2];refine VY ?_;walk_at "";refine cQ ?_;walk_at "";refine BY ko ⟨dx,hx⟩ ?_;rw[w2];refine wD ?_;refine ⟨x,dx,w,_,_,rfl,ko,hx,λH2 of2 h2=>?_⟩;walk_at "";exact mid _ _ l s2 of2 h2 (vT s1 s2 w1 w2).symm
theorem JM:TT (lQ K) (zU K) ["sights","whole","sight"]:=by
 intro vs H Q E h;obtain ⟨p,as,gs,rfl,ko,hL,q⟩:=h;unfold zU;walk_at "";refine MR ?_;walk_at "";intro x dx nx ndx hne;refine ⟨x,dx,_,_,_,_,_,rfl,ko,aA,rfl,?_⟩;have k1:∀b o,b≠x->b≠dx->H b=some o->(upd (upd (upd H dx (.own x)) x (.ins (clsAt K "Sight") dx [])) x (.ins (clsAt K "Sight") dx (Cu (.int 0) .non .non (.int 0) (.int 0)))) b=some o:=λb o b1 b2 e=>by rw[aF b1,aF b1,aF b2];exact e
 have x1:(upd (upd (upd H dx (.own x)) x (.ins (clsAt K "Sight") dx [])) x (.ins (clsAt K "Sight") dx (Cu (.int 0) .non .non (.int 0) (.int 0)))) x=some (.ins (clsAt K "Sight") dx (wI Cr)):=aA;have S1:aC H (upd (upd (upd H dx (.own x)) x (.ins (clsAt K "Sight") dx [])) x (.ins (clsAt K "Sight") dx (Cu (.int 0) .non .non (.int 0) (.int 0)))):=λb o e=>k1 b o (aB e nx) (aB e ndx) e;revert k1 x1 S1;generalize upd (upd (upd H dx (.own x)) x (.ins (clsAt K "Sight") dx [])) x (.ins (clsAt K "Sight") dx (Cu (.int 0) .non .non (.int 0) (.int 0)))=H1;intro k1 x1 S1;walk_at "";refine gT (aP.of (S1 _ _ hL.l)) ?_;have px:p≠x:=aB hL.l nx;refine oE (dW (xs:=as.map V.ref)) (λi σ H2=>∃a2,σ=[some (.ref p),some (.ref x),a2]/\Off1 x H1 H2/\H2 x=some (.ins (clsAt K "Sight") dx (wI (mW (gs.take i))))) ⟨none,rfl,λb o _ e=>e,x1⟩ (λi σ H2 _ ⟨_,_,of,_⟩=>aP.of (of _ _ px (S1 _ _ hL.l))) (λi y σ H2 hy hP=>?_) λσ H2 hP=>?_
 ·obtain ⟨a2,rfl,of,hx2⟩:=hP;rw[getElem?_map] at hy;cases e:as[i]? with
  |none=>rw[e] at hy;cases hy
  |some a=>
   rw[e] at hy;cases hy;have hi:i<gs.length:=by have:=(List.getElem?_eq_some_iff.mp e).1;have:=hL.n;lia
   have hg:=List.getElem?_eq_getElem hi;obtain ⟨da,hA⟩:=hL.s i a _ e hg;have ax:a≠x:=aB hA nx;refine DW ?_;refine Kl (w:=mW (gs.take i)) (s:=gs[i]) ko hx2 (pY _ _ (.inl ⟨rfl,rfl⟩) λg hg=>hL.o g (mem_of_mem_take hg)).1 ⟨da,of _ _ ax (S1 _ _ hA)⟩ (hL.o _ (getElem_mem hi)) ax λH3 of3 hx3=>?_;refine ⟨_,rfl,λb o hb g=>of3 b o hb (of b o hb g),?_⟩;rw[hx3];unfold mW;rw[take_add_one,hg,foldl_append];rfl
 ·obtain ⟨a2,rfl,of,hx2⟩:=hP;rw[length_map,hL.n,take_of_length_le (Nat.le_refl _)] at hx2;walk_at "";exact q x H2 (λb o e=>of b o (aB e nx) (S1 _ _ e)) nx ⟨dx,hx2⟩
noncomputable def QU (b:Bool):Sg:=if b then ⟨1,some 0,some 0,0,0⟩ else ⟨1,none,none,0,0⟩
noncomputable def gP (K:Fg):Sp:=λvs H Q _=>∃b:Bool,vs=[.bl b]/\KO K/\∀r H',aC H H'->H r=none->fU K H' r (QU b)->Q (.ref r) H'
noncomputable def iM (K:Fg):List (SX K):=
 [qF (var 0) [ret (Jv "Sight" (gA K) (cst (.int 1)) [cst (.int 0),cst (.int 0),cst (.int 0),cst (.int 0)])] [],
  ret (Jv "Sight" (gA K) (cst (.int 1)) [cst .non,cst .non,cst (.int 0),cst (.int 0)])]
theorem DC {H:Hp} {x dx:Addr} {o1 o2 o3:HO} (nx:H x=none) (ndx:H dx=none):aC H (upd (upd (upd H dx o1) x o2) x o3):=λb o e=>by
 rw[aF (aB e nx),aF (aB e nx),aF (aB e ndx)];exact e
theorem oR:TT (gP K) (iM K) ["stands"]:=by
 intro vs H Q E h;obtain ⟨b,rfl,ko,q⟩:=h;unfold iM;walk_at "";cases b with
 |true=>
  refine IH ?_;walk_at "";refine MR ?_;walk_at "";intro x dx nx ndx hne;exact ⟨x,dx,_,_,_,_,_,rfl,ko,aA,rfl,q x _ (DC nx ndx) nx ⟨dx,aA⟩⟩
 |false=>
  refine tN ?_;walk_at "";refine MR ?_;walk_at "";intro x dx nx ndx hne;exact ⟨x,dx,_,_,_,_,_,rfl,ko,aA,rfl,q x _ (DC nx ndx) nx ⟨dx,aA⟩⟩
open L2.Na.Pr L2.Na.K41
noncomputable def mV (ns:List (List Nat)) (as:List Addr):List (Key × V):=zipWith (λx a=>(Sum.inr (aG x),V.ref a)) ns as
theorem vR:∀{ns:List (List Nat)} {as:List Addr} {i:Nat} {x:List Nat} {a:Addr},ns.Nodup->ns[i]?=some x->as[i]?=some a->dJ (mV ns as) (Sum.inr (aG x))=some (.ref a)
 |[],as,i,x,a,_,h,_=>by simp at h
 |y::ns,[],i,x,a,_,_,h=>by simp at h
 |y::ns,b::as,0,x,a,_,h1,h2=>by
  cases h1;cases h2;exact gX rfl
 |y::ns,b::as,i+1,x,a,nd,h1,h2=>by
  obtain ⟨n1,n2⟩:=nodup_cons.mp nd;have hm:x∈ns:=mem_of_getElem? (by simpa using h1);have ne:¬(Sum.inr (aG y):Key)=Sum.inr (aG x):=λe=>n1 (by rw[oC (Sum.inr.inj e)];exact hm);show dJ ((Sum.inr (aG y),V.ref b)::mV ns as) _=_;rw[fX ne];exact vR n2 (by simpa using h1) (by simpa using h2)
theorem sT:∀(more acc:List (Key × V)),((acc++more).map (·.1)).Nodup->eN acc more=acc++more
 |[],acc,_=>(append_nil acc).symm
 |kv::more,acc,h=>by
  have hn:dJ acc kv.1=none:=by
   unfold dJ;rw[List.find?_eq_none.mpr]
   ·rfl
   ·intro p hp;simp only [decide_eq_true_eq];intro e;rw[map_append] at h;exact (List.nodup_append.mp h).2.2 p.1 (mem_map.mpr ⟨p,hp,rfl⟩) kv.1 (by simp) e
  have e:putK acc kv.1 kv.2=acc++[kv]:=by
   unfold putK;rw[if_neg (by rw[jV,hn];simp)]
  show eN (putK acc kv.1 kv.2) more=_;rw[e,sT more (acc++[kv]) (by rw[List.append_assoc];exact h),List.append_assoc];rfl
theorem pV:∀{ns:List (List Nat)} {as:List Addr},ns.length=as.length->(mV ns as).map (·.1)=ns.map λx=>(Sum.inr (aG x):Key)
 |[],[],_=>rfl
 |x::ns,a::as,h=>by
  show _::(mV ns as).map (·.1)=_;rw[pV (by simpa using h)];rfl
theorem lY {ns:List (List Nat)} {as:List Addr} (h:ns.length=as.length) (nd:ns.Nodup):eN [] (mV ns as)=mV ns as:=by
 refine sT (mV ns as) [] ?_;rw[List.nil_append,pV h];exact List.pairwise_map.mpr (nd.imp λh e=>h (oC (Sum.inr.inj e)))
theorem AV {z:Str} (h:1<=z.length):Txt.slice z none (some (-1))=Txt.slice z none (some ((z.length - 1:Nat):Int)):=by
 have e:Builtin.Str.strSliceIndices none (some (-1)) 1 z.length=Builtin.Str.strSliceIndices none (some ((z.length - 1:Nat):Int)) 1 z.length:=by
  unfold Builtin.Str.strSliceIndices;have h1:((-1:Int)<0):=by decide
  have h2:¬(((z.length - 1:Nat):Int)<0):=by lia
  simp only [h1,h2,if_true,if_false];rw[show (-1:Int)+((z.length:Nat):Int)=((z.length - 1:Nat):Int) by lia]
 unfold Txt.slice;rw[e]
theorem jS {σ:St} {H:Hp} {Q:VK} {p D:Addr} {ns:List (List Nat)} {e:EX K} {is:List Nat} (Pa:List Nat->Addr->Hp->Prop) (mono:∀x a H1 H2,a≠D->(∀b o,b≠D->H1 b=some o->H2 b=some o)->Pa x a H1->Pa x a H2)
  (hp:H p=some (.lst (ns.map λy=>V.str (aG y)))) (hD:H D=none) (hz:ns.length<=1000)
  (step:∀x H1 Q',x∈ns->aC H H1->(∀a H3,aC H1 H3->H1 a=none->Pa x a H3->Q' (.ref a) H3)->e.t E0 (some (.str (aG x))::eU is σ) H1 Q')
  (fin:∀H1 qs as,aC H H1->Mz H1 D qs (mV ns as)->ns.length=as.length->(∀(i:Nat) (a:Addr) (x:List Nat),as[i]?=some a->ns[i]?=some x->Pa x a H1)->Q (.ref D) H1):
  aU (VA K p) (gR 0:TX K).g (cT (none:Option (EX K))) ((tup [var 0,e]).t E0) 1 is σ D H Q:=by
 have hl:(ns.map λy=>V.str (aG y)).length=ns.length:=length_map _;refine qS (dW (xs:=ns.map λy=>V.str (aG y))) (λi y H1=>∃q a x,y=.ref q/\q≠D/\a≠D/\ns[i]?=some x/\H1 q=some (.tup [.str (aG x),.ref a])/\Pa x a H1) hD (λH1 hS=>aP.of (hS _ _ hp)) (small (by lia)) (λi y H1 H2 hh=>?_) (λi x H1 Q' hx hS hDs fin2=>?_) λH1 ys hS hO hl2 hr=>?_
 ·rintro ⟨q,a,x,e1,e2,e3,e4,e5,e6⟩;exact ⟨q,a,x,e1,e2,e3,e4,hh q _ e2 e5,mono x a H1 H2 e3 hh e6⟩
 ·obtain ⟨o,ho⟩:=hDs;rw[getElem?_map] at hx;cases ex:ns[i]? with
  |none=>rw[ex] at hx;cases hx
  |some x'=>
   rw[ex] at hx;cases hx;refine MJ ?_;refine oG ?_;refine yU rfl ?_;refine oG ?_;refine step x' H1 _ (mem_of_getElem? ex) hS λa H3 s3 na pa=>?_;refine wD ?_;refine ⟨by show 2<=sizeLine;decide,λq nq=>?_⟩;have s4:=aE nq (.tup [.str (aG x'),.ref a]);have aD:a≠D:=(aB ho na).symm;have qD:q≠D:=(aB (s3 _ _ ho) nq).symm;exact fin2 (.ref q) _ (s3.trans s4) ⟨q,a,x',rfl,qD,aD,ex,aA,mono x' a H3 _ aD (λb o _ g=>s4 b o g) pa⟩
 ·obtain ⟨qs,rfl⟩:=nW ys λy hy=>by
   obtain ⟨i,hi⟩:=getElem?_of_mem hy;obtain ⟨q,_,_,e1,_⟩:=hr i y hi;exact ⟨q,e1⟩
  have ql:qs.length=ns.length:=by rw[length_map] at hl2;rw[hl2,hl]
  have hget:∀(i:Nat) (q:Addr),qs[i]?=some q->∃a x,ns[i]?=some x/\H1 q=some (.tup [.str (aG x),.ref a])/\Pa x a H1:=λi q hi=>by
   obtain ⟨q',a,x,e1,_,_,e4,e5,e6⟩:=hr i (.ref q) (by rw[getElem?_map,hi];rfl);cases e1;exact ⟨a,x,e4,e5,e6⟩
  have main:∀(qs:List Addr) (ns:List (List Nat)),qs.length=ns.length->(∀(i:Nat) (q:Addr),qs[i]?=some q->∃a x,ns[i]?=some x/\H1 q=some (.tup [.str (aG x),.ref a])/\Pa x a H1)->
    ∃as:List Addr,ns.length=as.length/\∀(i:Nat) (q a:Addr) (x:List Nat),qs[i]?=some q->as[i]?=some a->ns[i]?=some x->H1 q=some (.tup [.str (aG x),.ref a])/\Pa x a H1:=by
   intro qs;induction qs with
   |nil=>
    intro ns hl _;cases ns with
    |nil=>exact ⟨[],rfl,λi q a x h=>by simp at h⟩
    |cons _ _=>simp at hl
   |cons q qs ih=>
    intro ns hl hg;cases ns with
    |nil=>simp at hl
    |cons x ns=>
     obtain ⟨as,h1,h2⟩:=ih ns (by simpa using hl) λi q' hi=>by
      obtain ⟨a,x',g1,g2,g3⟩:=hg (i+1) q' (by simpa using hi);exact ⟨a,x',by simpa using g1,g2,g3⟩
     obtain ⟨a,x',g1,g2,g3⟩:=hg 0 q rfl;cases g1;refine ⟨a::as,by simp [h1],λi q' a' x' k1 k2 k3=>?_⟩;cases i with
     |zero=>
      cases k1;cases k2;cases k3;exact ⟨g2,g3⟩
     |succ i=>exact h2 i q' a' x' (by simpa using k1) (by simpa using k2) (by simpa using k3)
  obtain ⟨as,al,ha⟩:=main qs ns ql hget;refine fin H1 qs as hS ⟨hO,by unfold mV;rw[length_zipWith];lia,λi q kv k1 k2=>?_⟩ al λi a x k1 k2=>?_
  ·have hi:i<qs.length:=(List.getElem?_eq_some_iff.mp k1).1;have hn:ns[i]?=some ns[i]:=List.getElem?_eq_getElem (by lia);have hA:as[i]?=some as[i]:=List.getElem?_eq_getElem (by lia);unfold mV at k2;rw[getElem?_zipWith,hn,hA] at k2;cases k2;exact (ha i q _ _ k1 hA hn).1
  ·have hi:i<ns.length:=(List.getElem?_eq_some_iff.mp k2).1;exact (ha i qs[i] a x (List.getElem?_eq_getElem (by lia)) k1 k2).2
noncomputable def nK (ws:List Str) (p:List Nat):Nat->List Nat->Sg
 |0,x=>QU (decide (x=p))
 |t+1,x=>mW ((bY ws x).map (nK ws p t))
theorem lU (ws:List Str) (p:List Nat):∀(t:Nat) (x:List Nat),mK (nK ws p t x)/\(nK ws p t x).first.isSome=bt ws p t x
 |0,x=>by
  show mK (QU (decide (x=p)))/\(QU (decide (x=p))).first.isSome=decide (x=p);cases decide (x=p)
  ·exact ⟨.inl ⟨rfl,rfl⟩,rfl⟩
  ·exact ⟨.inr ⟨0,0,rfl,rfl⟩,rfl⟩
 |t+1,x=>by
  have h:=pY ((bY ws x).map (nK ws p t)) Cr (.inl ⟨rfl,rfl⟩) λg hg=>by
   obtain ⟨y,_,rfl⟩:=mem_map.mp hg;exact (lU ws p t y).1
  refine ⟨h.1,h.2.trans ?_⟩;show (false || _)=(bY ws x).any (bt ws p t);rw[Bool.false_or,any_map]
  congr 1
  funext y
  exact (lU ws p t y).2
structure PQ (K:Fg) (H:Hp) (d:Addr) (ns:List (List Nat)) (as:List Addr) (gf:List Nat->Sg):Prop where
 d:H d=some (.dK (mV ns as))
 l:ns.length=as.length
 nd:ns.Nodup
 s:∀(i:Nat) (a:Addr) (x:List Nat),as[i]?=some a->ns[i]?=some x->fU K H a (gf x)
theorem PQ.same {H H':Hp} {d:Addr} {ns:List (List Nat)} {as:List Addr} {gf:List Nat->Sg} (h:PQ K H d ns as gf) (e:aC H H'):PQ K H' d ns as gf:=⟨e _ _ h.d,h.l,h.nd,λi a x k1 k2=>(h.s i a x k1 k2).same e⟩
theorem PQ.get {H:Hp} {d:Addr} {ns:List (List Nat)} {as:List Addr} {gf:List Nat->Sg} (h:PQ K H d ns as gf) {x:List Nat} (hx:x∈ns):∃a,(∀H',aC H H'->eY H' d (.str (aG x)) (some (.ref a)))/\fU K H a (gf x):=by
 obtain ⟨i,hi⟩:=getElem?_of_mem hx;have il:i<ns.length:=(List.getElem?_eq_some_iff.mp hi).1;have hA:as[i]?=some (as[i]'(by have:=h.l;lia)):=List.getElem?_eq_getElem _;refine ⟨_,λH' e=>?_,h.s i _ x hA hi⟩;have:=eY.k (k:=Sum.inr (aG x)) (e _ _ h.d);rw[vR h.nd hi hA] at this;exact this
noncomputable def gO (K:Fg):Sp:=λvs H Q _=>∃(p d:Addr) (ys ns:List (List Nat)) (as:List Addr) (gf:List Nat->Sg),vs=[.ref p,.ref d]/\KO K/\H p=some (.lst (ys.map λy=>V.str (aG y)))/\ys.length<=1000/\PQ K H d ns as gf/\(∀y∈ys,y∈ns)/\(∀y,mK (gf y))/\
 ∀r H',aC H H'->H r=none->fU K H' r (mW (ys.map gf))->Q (.ref r) H'
noncomputable def iL (K:Fg):List (SX K):=
 [ret (call "joined" (lQ K) [comp (ix (var 1) (var 0)) (gR 0) (iG (var 0)) ["part"] ["sights"] [1]])]
theorem oQ:TT (gO K) (iL K) ["parts","sights"]:=by
 intro vs H Q E h;obtain ⟨p,d,ys,ns,as,gf,rfl,ko,hp,hz,hD,hin,hok,q⟩:=h;have hl:(ys.map λy=>V.str (aG y)).length=ys.length:=length_map _;unfold iL;walk_at "";refine gT (aP.of hp) ?_;intro D nD;refine qS (dW (xs:=ys.map λy=>V.str (aG y))) (λi y H1=>∃a x,y=.ref a/\a≠D/\ys[i]?=some x/\fU K H1 a (gf x)) nD (λH1 hS=>aP.of (hS _ _ hp)) (small (by lia)) (λi y H1 H2 hh=>?_) (λi x H1 Q' hx hS hDs fin=>?_) λH1 zs hS hO hl2 hr=>?_
 ·rintro ⟨a,x,e1,e2,e3,⟨dx,e4⟩⟩;exact ⟨a,x,e1,e2,e3,dx,hh a _ e2 e4⟩
 ·rw[getElem?_map] at hx;cases ex:ys[i]? with
  |none=>rw[ex] at hx;cases hx
  |some x'=>
   rw[ex] at hx;cases hx;obtain ⟨a,g1,dx,g2⟩:=hD.get (hin x' (mem_of_getElem? ex));walk_at "";refine iF (g1 H1 hS) ?_;exact fin (.ref a) H1 (aC.refl _) ⟨a,x',rfl,aB g2 nD,ex,dx,hS _ _ g2⟩
 ·obtain ⟨bs,rfl⟩:=nW zs λy hy=>by
   obtain ⟨i,hi⟩:=getElem?_of_mem hy;obtain ⟨a,_,e,_⟩:=hr i y hi;exact ⟨a,e⟩
  have bl:bs.length=ys.length:=by rw[length_map] at hl2;rw[hl2,hl]
  walk_at "";refine ⟨D,bs,ys.map gf,rfl,ko,⟨hO,by rw[length_map];exact bl,λi a g k1 k2=>?_,λg hg=>?_⟩,λr H2 s2 nr hr2=>q r H2 (hS.trans s2) (none_of hS nr) hr2⟩
  ·obtain ⟨a',x,e1,_,e3,e4⟩:=hr i (.ref a) (by rw[getElem?_map,k1];rfl);cases e1;rw[getElem?_map,e3] at k2;cases k2;exact e4
  ·obtain ⟨y,_,rfl⟩:=mem_map.mp hg;exact hok y
noncomputable def Cy (xs:List Int):Prop:=∀x∈xs,Builtin.Int.intBits x<=2 ^ 20
theorem La {E:XS} {σ:St} {H:Hp} {Q:VK} {a:EX K} (h:a.t E σ H λx H1=>GB x H1 Q):(neg a).t E σ H Q:=h
theorem Lb {H:Hp} {Q:VK} {i:Int} (h:Q (.int (-i)) H):GB (.int i) H Q:=h
theorem DR:∀(z:Str) (xs:List (List Nat)),Ct (.str z) (xs.map λy=>V.str (aG y))=decide (ls z∈xs)
 |z,[]=>rfl
 |z,x::xs=>by
  have ih:=DR z xs;unfold Ct at ih ⊢;rw[map_cons,any_cons,ih];show ((aG x==z) || _)=_;by_cases h:x=ls z
  ·subst h;have e:aG (ls z)=z:=cP (aQ _);rw[e,beq_self_eq_true,Bool.true_or,decide_eq_true mem_cons_self]
  ·have e:(aG x==z)=false:=by
    rw[beq_eq_false_iff_ne];intro e;rw[<-e,aQ] at h;exact h rfl
   rw[e,Bool.false_or]
   congr 1
   rw[mem_cons,eq_comm (a:=ls z)];simp [h]
theorem HH (xs:List (List Nat)):(xs.map λy=>V.str (aG y)).all iI=true:=by
 rw[List.all_map];exact all_eq_true.mpr λ_ _=>rfl
theorem EO {x:Int} {n k:Nat} (h0:0<=x) (h:x<=(n ^ k:Nat)) (hn:n<=512) (hk:k<=1000):Builtin.Int.intBits x<=2 ^ 20:=by
 refine le_trans (PyProof.Rows.intBits_le (k:=9 * k+1) ?_) (by lia);have a:n ^ k<=512 ^ k:=Nat.pow_le_pow_left hn k;have b:512 ^ k=2 ^ (9 * k):=by rw[Nat.pow_mul]
 have c:2 ^ (9 * k)<2 ^ (9 * k+1):=Nat.pow_lt_pow_right (by decide) (by lia);lia
theorem SV (f:List cR) (as:List Addr):mU f as=mV (bI f) as:=by
 unfold mU mV bI;rw[List.zipWith_map_left]
structure Mm (K:Fg) (H:Hp) (a:Addr) (ws:List Str) (c:Nat) (z:Str):Prop where
 rt:uC K H a ws
 ru:Ru ws
 c1:97<=c
 z1:1<=z.length
 z2:z.length<=300
 ko:KO K
theorem SO {f:List cR} {as:List Addr} (l:f.length=as.length):((mU f as).map λkv=>kV kv.1)=(bI f).map λy=>V.str (aG y):=by
 have e:=pV (ns:=bI f) (as:=as) (by rw[fA];exact l);have:((mU f as).map λkv=>kV kv.1)=((mU f as).map (·.1)).map kV:=by rw[map_map];rfl
 rw[this,SV,e,map_map];rfl
theorem Ed {ws:List Str} (hU:Ru ws) {t:Nat}:∀x∈gZ ws t,0<=x/\x<=(100 ^ t:Nat):=λx hx=>by
 obtain ⟨k,hk⟩:=getElem?_of_mem hx;have kl:k<ws.length:=by
  have:=(List.getElem?_eq_some_iff.mp hk).1;rwa [gE] at this
 have e:sz ws t (97+k)=x:=by
  unfold sz;rw[show 97+k - 97=k by lia,hk];rfl
 have a:=cS hU (c:=97+k) (by lia) (by lia) t;have b:=VD hU (97+k) t;rw[e] at a;lia
end L2.Na.K44
namespace L2.Na.K42
open PySem L2.Na.K44
noncomputable def Gp (P:Nat->Prop) (i d:Nat):Prop:=0<d/\P i/\P (i+d)/\∀j,i<j->j<i+d->¬P j
noncomputable def GI (P:Nat->Prop) (a b i d:Nat):Prop:=a<=i/\i+d<b/\Gp P i d
noncomputable def Wg (G:Nat->Nat->Prop) (g pl:Nat):Prop:=(g=0\/G pl g)/\∀i d,G i d->d<g\/(d=g/\pl<=i)
theorem Wg.iff {G G':Nat->Nat->Prop} {g pl:Nat} (h:Wg G g pl) (e:∀i d,G i d↔G' i d):Wg G' g pl:=by
 refine ⟨h.1.imp id (e _ _).mp,λi d hd=>h.2 i d ((e i d).mpr hd)⟩
theorem Wg.add {G G':Nat->Nat->Prop} {g pl g' pl':Nat} (h:Wg G g pl) (h':Wg G' g' pl') (p:∀i d,G' i d->0<d) (o:∀i d i' d',G i d->G' i' d'->i<=i'):
  Wg (λi d=>G i d\/G' i d) (if g<g' then g' else g) (if g<g' then pl' else pl):=by
 by_cases c:g<g'
 ·rw[if_pos c,if_pos c];refine ⟨.inr (.inr (h'.1.resolve_left (by lia))),λi d hd=>?_⟩;rcases hd with hd|hd
  ·have:=h.2 i d hd;lia
  ·exact h'.2 i d hd
 ·rw[if_neg c,if_neg c];refine ⟨h.1.imp id .inl,λi d hd=>?_⟩;rcases hd with hd|hd
  ·exact h.2 i d hd
  ·have a:=h'.2 i d hd;have b:=p i d hd;by_cases e:d=g
   ·have gg:=h.1.resolve_left (by lia);exact .inr ⟨e,o _ _ _ _ gg hd⟩
   ·lia
structure Sm (P:Nat->Prop) (a b:Nat) (s:Sg) (g pl:Nat):Prop where
 le:a<=b
 size:s.size=(b:Int) - (a:Int)
 gap:s.gap=(g:Int)
 place:0<g->s.place=(pl:Int) - (a:Int)
 wg:Wg (GI P a b) g pl
 sn:(s.first=none/\s.last=none/\∀q,a<=q->q<b->¬P q)\/
  ∃f l:Nat,s.first=some ((f:Int) - (a:Int))/\s.last=some ((l:Int) - (a:Int))/\a<=f/\f<=l/\l<b/\P f/\P l/\∀q,a<=q->q<b->P q->f<=q/\q<=l
theorem eF (g:Sg) (a b:Int):(lL g a b).size=g.size:=by
 unfold lL;split<;>rfl
theorem uF {s:Sg} {g g':Nat} (h:s.gap=(g:Int)) (p:Int):(lL s (g':Int) p).gap=((if g<g' then g' else g:Nat):Int):=by
 unfold lL;rw[h];by_cases c:g<g'
 ·rw[if_pos c,if_pos (by lia)]
 ·rw[if_neg c,if_neg (by lia)];exact h
theorem lM {s:Sg} {g g':Nat} (h:s.gap=(g:Int)) (p:Int):(lL s (g':Int) p).place=if g<g' then p else s.place:=by
 unfold lL;rw[h];by_cases c:g<g'
 ·rw[if_pos c,if_pos (by lia)]
 ·rw[if_neg c,if_neg (by lia)]
theorem BW {P:Nat->Prop} {a b i d:Nat} (h:GI P a b i d):0<d:=h.2.2.1
theorem Sm.join {P:Nat->Prop} {a b c:Nat} {w s:Sg} {g pl g' pl':Nat} (h:Sm P a b w g pl) (h':Sm P b c s g' pl'):∃g2 pl2,Sm P a c (BL w s) g2 pl2:=by
 have ab:=h.le;have bc:=h'.le;rcases h'.sn with ⟨s1,s2,s3⟩|⟨f',l',s1,s2,bf,fl,lc,Pf,Pl,s3⟩
 ·rw[pZ s1 s2];refine ⟨g,pl,⟨by lia,?_,h.gap,h.place,h.wg.iff λi d=>?_,?_⟩⟩
  ·show w.size+s.size=_;rw[h.size,h'.size];lia
  ·constructor
   ·exact λk=>⟨k.1,by have:=k.2.1;lia,k.2.2⟩
   ·refine λk=>⟨k.1,?_,k.2.2⟩;refine lt_of_not_le λhle=>s3 (i+d) hle k.2.1 k.2.2.2.2.1
  ·rcases h.sn with ⟨w1,w2,w3⟩|⟨f,l,w1,w2,af,fl,lb,Pf,Pl,w3⟩
   ·refine .inl ⟨w1,w2,λq h1 h2=>?_⟩;by_cases hq:q<b
    ·exact w3 q h1 hq
    ·exact s3 q (by lia) h2
   ·refine .inr ⟨f,l,w1,w2,af,fl,by lia,Pf,Pl,λq h1 h2 hP=>?_⟩;by_cases hq:q<b
    ·exact w3 q h1 hq hP
    ·exact absurd hP (s3 q (by lia) h2)
 ·rcases h.sn with ⟨w1,w2,w3⟩|⟨f,l,w1,w2,af,fl0,lb,Pf0,Pl0,w3⟩
  ·rw[vU s1 s2 w1 w2];have g0:g=0:=by
    rcases h.wg.1 with e|e
    ·exact e
    ·exact absurd e.2.2.2.1 (w3 pl e.1 (by have:=e.2.1;lia))
   subst g0;have hgap:({w with first:=some (w.size+((f':Int) - (b:Int)))}:Sg).gap=((0:Nat):Int):=h.gap;refine ⟨if 0<g' then g' else 0,if 0<g' then pl' else pl,⟨by lia,?_,?_,λhg=>?_,?_,.inr ⟨f',l',?_,?_,by lia,fl,lc,Pf,Pl,λq h1 h2 hP=>?_⟩⟩⟩
   ·show (lL _ s.gap _).size+s.size=_;rw[eF];show w.size+s.size=_;rw[h.size,h'.size];lia
   ·show (lL _ s.gap _).gap=_;rw[h'.gap];exact uF hgap _
   ·show (lL _ s.gap _).place=_;have g1:0<g':=by
     by_cases z:0<g'
     ·exact z
     ·rw[if_neg z] at hg;lia
    rw[h'.gap,lM hgap,if_pos g1,if_pos g1];show w.size+s.place=_;rw[h.size,h'.place g1];lia
   ·refine ((h.wg.add h'.wg (λi d k=>BW k) λi d i' d' k k'=>absurd k.2.2.2.1 (w3 i k.1 (by have:=k.2.1;lia))).iff λi d=>?_);constructor
    ·rintro (k|k)
     ·exact absurd k.2.2.2.1 (w3 i k.1 (by have:=k.2.1;lia))
     ·exact ⟨by have:=k.1;lia,k.2.1,k.2.2⟩
    ·refine λk=>.inr ⟨le_of_not_lt λhlt=>w3 i k.1 hlt k.2.2.2.1,k.2.1,k.2.2⟩
   ·rw[gB];show some (w.size+_)=_;rw[h.size]
    congr 1
    lia
   ·show some ((lL _ s.gap _).size+_)=_;rw[eF];show some (w.size+_)=_;rw[h.size]
    congr 1
    lia
   ·have hq:b<=q:=le_of_not_lt λhlt=>w3 q h1 hlt hP;exact s3 q hq h2 hP
  ·rw[vT s1 s2 w1 w2];have ed:w.size+((f':Int) - (b:Int)) - ((l:Int) - (a:Int))=((f' - l:Nat):Int):=by
    rw[h.size];lia
   rw[ed];have hc:Wg (λi d=>i=l/\d=f' - l) (f' - l) l:=⟨.inr ⟨rfl,rfl⟩,λi d ⟨e1,e2⟩=>.inr ⟨e2,by lia⟩⟩;have cg:Gp P l (f' - l):=⟨by lia,Pl0,by rw[show l+(f' - l)=f' by lia];exact Pf,λj h1 h2 hP=>by
    by_cases hj:j<b
    ·have:=(w3 j (by lia) hj hP).2
     lia
    ·have:=(s3 j (by lia) (by lia) hP).1
     lia⟩
   have W1:=h.wg.add hc (λi d ⟨_,e⟩=>by lia) λi d i' d' k ⟨e,_⟩=>by
    have:=(w3 i k.1 (by have:=k.2.1;lia) k.2.2.2.1).2;lia
   have W2:=W1.add h'.wg (λi d k=>BW k) λi d i' d' k k'=>by
    have:=k'.1;rcases k with k|⟨k,_⟩
    ·have:=k.2.1;lia
    ·lia
   have hg1:(lL w ((f' - l:Nat):Int) ((l:Int) - (a:Int))).gap=((if g<f' - l then f' - l else g:Nat):Int):=uF h.gap _;refine ⟨_,_,⟨by lia,?_,?_,λhg=>?_,W2.iff λi d=>?_,.inr ⟨f,l',?_,?_,af,by lia,lc,Pf0,Pl,λq h1 h2 hP=>?_⟩⟩⟩
   ·show (lL _ s.gap _).size+s.size=_;rw[eF,eF,h.size,h'.size];lia
   ·show (lL _ s.gap _).gap=_;rw[h'.gap];exact uF hg1 _
   ·show (lL _ s.gap _).place=_;rw[h'.gap,lM hg1,eF,h.size];by_cases c1:(if g<f' - l then f' - l else g)<g'
    ·rw[if_pos c1,if_pos c1,h'.place (by lia)];lia
    ·rw[if_neg c1,if_neg c1,lM h.gap];rw[if_neg c1] at hg;by_cases c2:g<f' - l
     ·rw[if_pos c2,if_pos c2]
     ·rw[if_neg c2,if_neg c2];rw[if_neg c2] at hg;exact h.place hg
   ·constructor
    ·rintro ((k|⟨k1,k2⟩)|k)
     ·exact ⟨k.1,by have:=k.2.1;lia,k.2.2⟩
     ·subst k1 k2;exact ⟨by lia,by lia,cg⟩
     ·exact ⟨by have:=k.1;lia,k.2.1,k.2.2⟩
    ·rintro ⟨k1,k2,k3⟩;by_cases c1:i+d<b
     ·exact .inl (.inl ⟨k1,c1,k3⟩)
     ·by_cases c2:b<=i
      ·exact .inr ⟨c2,k2,k3⟩
      ·have i1:=(w3 i k1 (by lia) k3.2.1).2;have i2:=(s3 (i+d) (by lia) k2 k3.2.2.1).1;have e1:i=l:=by
        by_cases z:i=l
        ·exact z
        ·exact absurd Pl0 (k3.2.2.2 l (by lia) (by lia))
       have e2:f'=i+d:=by
        by_cases z:f'=i+d
        ·exact z
        ·exact absurd Pf (k3.2.2.2 f' (by lia) (by lia))
       exact .inl (.inr ⟨e1,by lia⟩)
   ·rw[gB,(lN w _ _).1,w1]
   ·show some ((lL _ s.gap _).size+_)=_;rw[eF,eF,h.size]
    congr 1
    lia
   ·by_cases hq:q<b
    ·have:=(w3 q h1 hq hP).1;lia
    ·have:=(s3 q (by lia) h2 hP).2;lia
theorem CZ (P:Nat->Prop) (a:Nat):Sm P a a Cr 0 0:=⟨Nat.le_refl _,by show (0:Int)=_;lia,rfl,λh=>by lia,⟨.inl rfl,λi d k=>by have:=k.1;have:=k.2.1;lia⟩,.inl ⟨rfl,rfl,λq h1 h2=>by lia⟩⟩
theorem XG (h:b=true↔P a):Sm P a (a+1) (QU b) 0 0:=by
 refine ⟨by lia,?_,?_,λh=>by lia,⟨.inl rfl,λi d k=>?_⟩,?_⟩
 ·cases b<;>(show (1:Int)=_;lia)
 ·cases b<;>rfl
 ·have h1:=k.1;have h2:=k.2.1;have h3:=k.2.2.1;lia
 ·cases b with
  |false=>
   refine .inl ⟨rfl,rfl,λq h1 h2 hP=>?_⟩;have e:q=a:=by lia
   subst e;exact Bool.false_ne_true (h.mpr hP)
  |true=>
   have hP:=h.mp rfl;refine .inr ⟨a,a,?_,?_,Nat.le_refl _,Nat.le_refl _,by lia,hP,hP,λq h1 h2 _=>by lia⟩
   ·show some (0:Int)=_
    congr 1
    lia
   ·show some (0:Int)=_
    congr 1
    lia
theorem uQ {P:Nat->Prop} {at_:Nat->Nat}:∀(gs:List Sg) (k:Nat) (a:Nat) (w:Sg) (g pl:Nat),Sm P a (at_ k) w g pl->(∀i s,gs[i]?=some s->∃g pl,Sm P (at_ (k+i)) (at_ (k+i+1)) s g pl)->∃g pl,Sm P a (at_ (k+gs.length)) (gs.foldl BL w) g pl
 |[],k,a,w,g,pl,h,_=>⟨g,pl,h⟩
 |s::gs,k,a,w,g,pl,h,hs=>by
  obtain ⟨g1,p1,h1⟩:=hs 0 s rfl;obtain ⟨g2,p2,h2⟩:=h.join h1;have:=uQ gs (k+1) a (BL w s) g2 p2 h2 λi s' hi=>by
   have:=hs (i+1) s' hi;rw[show k+(i+1)=k+1+i by lia] at this;exact this
  rw[show k+1+gs.length=k+(s::gs).length by rw[length_cons];lia] at this;exact this
open L2.Na.K41 L2.Na.Pr
section
variable {ws:List Str} {c L:Nat}
theorem vG (hU:Ru ws) (hL:1<=L) (h1:97<=c) (h2:c - 97<ws.length) (hg:aJ ws c=true) (n j:Nat) (hj:j<(wd ws (ew ws c n)).length):(bY ws (str ws c n L))[j]?=some (str ws c (Fl ws c n+j) L):=by
 have hj':j<(wd ws ((str ws c n L).headD 0)).length:=by rw[dM n hL];exact hj
 have e:=OD hU hL h1 h2 hg n j hj;rw[wM (x:=dC ws c L n) hj'] at e;have e2:((aI ws (str ws c n L)).drop j).take (str ws c n L).length=str ws c (Fl ws c n+j) L:=congrArg Prod.fst (Option.some.inj e);unfold bY;rw[getElem?_map,getElem?_range hj',<-e2];rfl
theorem yF (n:Nat) (hL:1<=L):(bY ws (str ws c n L)).length=(wd ws (ew ws c n)).length:=by
 unfold bY;rw[length_map,length_range,dM n hL]
noncomputable def bM (ws:List Str) (c:Nat):Nat->Nat->Nat
 |0,n=>n
 |t+1,n=>bM ws c t (Fl ws c n)
theorem eX:∀(t:Nat) {m n:Nat},m<=n->bM ws c t m<=bM ws c t n
 |0,_,_,h=>h
 |t+1,_,_,h=>eX t (wW h)
theorem uW (hU:Ru ws) (hL:1<=L) (h1:97<=c) (h2:c - 97<ws.length) (hg:aJ ws c=true) (p:List Nat):∀(t n:Nat),∃g pl,Sm (λq=>str ws c q L=p) (bM ws c t n) (bM ws c t (n+1)) (nK ws p t (str ws c n L)) g pl
 |0,n=>⟨0,0,XG decide_eq_true_iff⟩
 |t+1,n=>by
  have e:bM ws c (t+1) (n+1)=bM ws c t (Fl ws c n+(0+((bY ws (str ws c n L)).map (nK ws p t)).length)):=by
   show bM ws c t (Fl ws c (n+1))=_;rw[fH,length_map,yF n hL,zero_add]
  rw[e];refine uQ (at_:=λk=>bM ws c t (Fl ws c n+k)) _ 0 _ Cr 0 0 (CZ _ _) λi s hi=>?_;rw[getElem?_map] at hi;have hil:i<(wd ws (ew ws c n)).length:=by
   rw[<-yF (L:=L) n hL];exact lt_of_not_le λhle=>by rw[List.getElem?_eq_none hle] at hi;cases hi
  rw[vG hU hL h1 h2 hg n i hil] at hi;cases hi;have:=uW hU hL h1 h2 hg p t (Fl ws c n+i);rw[zero_add];exact this
theorem Sm.has (h:Sm P a b s g pl) (e:s.first.isSome=true):∃q,a<=q/\q<b/\P q:=by
 rcases h.sn with ⟨e1,_⟩|⟨f,l,_,_,k1,k2,k3,k4,_⟩
 ·rw[e1] at e;cases e
 ·exact ⟨f,k1,by lia,k4⟩
theorem wG (hU:Ru ws) (hL:1<=L) (h1:97<=c) (h2:c - 97<ws.length) (hg:aJ ws c=true) (hb:bt ws p t (str ws c n L)=true):∃q,bM ws c t n<=q/\q<bM ws c t (n+1)/\str ws c q L=p:=by
 obtain ⟨g,pl,h⟩:=uW hU hL h1 h2 hg p t n;exact h.has (by rw[(lU ws p t _).2];exact hb)
theorem Bl (hU:Ru ws) (h1:97<=c) (h2:c - 97<ws.length) (hg:aJ ws c=true) (t n:Nat):dot (bE ws.length (aG (str ws c 0 n))) (gZ ws t)=((bM ws c t n:Nat):Int):=by
 have lt:∀n,bK ws (str ws c 0 n):=λn=>L2.Na.cC hU h1 h2 hg (k:=n) (n:=0) (m:=n) (by have:=iV hU h1 h2 hg n;lia);have d:=lA (ds:=gZ ws t) (z:=aG (str ws c 0 n)) (by rw[gE];exact (lt n).isW);rw[gE] at d;rw[d];have e:sg (gZ ws t) (aG (str ws c 0 n))=aN ws t (str ws c 0 n):=by
  unfold sg;rw[aQ];rfl
 rw[e];have key:∀t n,aN ws t (str ws c 0 n)=((bM ws c t n:Nat):Int):=by
  intro t;induction t with
  |zero=>
   intro n;rw[gF (lt n),str_len];rfl
  |succ t ih=>
   intro n;have o:=(iT hU h1 h2 hg (k:=n) (n:=0) (m:=n) (by have:=iV hU h1 h2 hg n;lia)).1;have o:str ws c 0 (Fl ws c n)=aI ws (str ws c 0 n):=o;rw[<-iR (lt n),<-o];exact ih (Fl ws c n)
 exact key t n
theorem Wg.add2 (h:Wg G g pl) (h':Wg G' g' pl') (p:∀i d,G' i d->0<d) (o:∀i' d',G' i' d'->G i' d'\/∀i d,G i d->i+d<=i'+d'):
  Wg (λi d=>G i d\/G' i d) (if g<g' then g' else g) (if g<g' then pl' else pl):=by
 by_cases c:g<g'
 ·rw[if_pos c,if_pos c];refine ⟨.inr (.inr (h'.1.resolve_left (by lia))),λi d hd=>?_⟩;rcases hd with hd|hd
  ·have:=h.2 i d hd;lia
  ·exact h'.2 i d hd
 ·rw[if_neg c,if_neg c];refine ⟨h.1.imp id .inl,λi d hd=>?_⟩;rcases hd with hd|hd
  ·exact h.2 i d hd
  ·have a:=h'.2 i d hd;have b:=p i d hd;by_cases e:d=g
   ·have gg:=h.1.resolve_left (by lia);rcases o i d hd with k|k
    ·exact h.2 i d k
    ·have:=k _ _ gg;exact .inr ⟨e,by lia⟩
   ·lia
noncomputable def AF (gf:List Nat->Sg) (szl:List Int) (b:Int × Int) (p:cR):Int × Int:=
 let s:=mW [gf (p.1.take (p.1.length - 1)),gf (p.1.drop 1)]
 if b.1<s.gap then (s.gap,dot p.2 szl+s.place) else b
noncomputable def AG (gf:List Nat->Sg) (szl:List Int) (f:List cR):Int × Int:=f.foldl (AF gf szl) (0,0)
noncomputable def GN (ws:List Str) (c L t:Nat) (p:List Nat) (ns:List Nat) (i d:Nat):Prop:=∃n∈ns,GI (λq=>str ws c q L=p) (bM ws c t n) (bM ws c t (n+2)) i d
theorem WX (hU:Ru ws) (hL:1<=L) (h1:97<=c) (h2:c - 97<ws.length) (hg:aJ ws c=true) (p:List Nat) (t n:Nat):∃g pl,Sm (λq=>str ws c q L=p) (bM ws c t n) (bM ws c t (n+2)) (mW [nK ws p t (str ws c n L),nK ws p t (str ws c (n+1) L)]) g pl:=by
 refine uQ (at_:=λk=>bM ws c t (n+k)) [nK ws p t (str ws c n L),nK ws p t (str ws c (n+1) L)] 0 _ Cr 0 0 (CZ _ _) λi s hi=>?_
 match i,hi with
 |0,hi=>
  cases hi;exact uW hU hL h1 h2 hg p t n
 |1,hi=>
  cases hi;exact uW hU hL h1 h2 hg p t (n+1)
 |i+2,hi=>cases hi
theorem IT (hU:Ru ws) (hL:1<=L) (h1:97<=c) (h2:c - 97<ws.length) (hg:aJ ws c=true) (p:List Nat) (t:Nat):∀(ms ns:List Nat) (g pl:Nat),(ns++ms).Pairwise (·<·)->Wg (GN ws c L t p ns) g pl->
  ∃g2 pl2:Nat,(ms.map (dC ws c (L+1))).foldl (AF (nK ws p t) (gZ ws t)) ((g:Int),(pl:Int))=((g2:Int),(pl2:Int))/\Wg (GN ws c L t p (ns++ms)) g2 pl2
 |[],ns,g,pl,_,h=>⟨g,pl,rfl,by rw[append_nil];exact h⟩
 |n::ms,ns,g,pl,hp,h=>by
  obtain ⟨g',pl',S⟩:=WX hU hL h1 h2 hg p t n;have e1:(dC ws c (L+1) n).1.take ((dC ws c (L+1) n).1.length - 1)=str ws c n L:=by
   show (str ws c n (L+1)).take ((str ws c n (L+1)).length - 1)=_;rw[str_len,Nat.add_sub_cancel];have:=bN ws c n (L+1) 0 L (by lia);rw[drop_zero,Nat.add_zero] at this;exact this
  have e2:(dC ws c (L+1) n).1.drop 1=str ws c (n+1) L:=by
   show (str ws c n (L+1)).drop 1=_;have:=bN ws c n (L+1) 1 L (by lia);rw[take_of_length_le (by rw[length_drop,str_len];lia)] at this;exact this
  have es:AF (nK ws p t) (gZ ws t) ((g:Int),(pl:Int)) (dC ws c (L+1) n)=(((if g<g' then g' else g:Nat):Int),((if g<g' then pl' else pl:Nat):Int)):=by
   unfold AF;dsimp only;rw[e1,e2,S.gap];by_cases k:g<g'
   ·rw[if_pos (show ((g:Nat):Int)<(g':Int) by lia),if_pos k,if_pos k,S.place (by lia)];show (_,dot (bE ws.length (aG (str ws c 0 n))) (gZ ws t)+_)=_;rw[Bl hU h1 h2 hg]
    congr 1
    lia
   ·rw[if_neg (show ¬((g:Nat):Int)<(g':Int) by lia),if_neg k,if_neg k]
  rw[map_cons,foldl_cons,es];have lt:∀m∈ns,m<n:=λm hm=>(List.pairwise_append.mp hp).2.2 m hm n mem_cons_self;have W:=(h.add2 S.wg (λi d k=>BW k) λi' d' k=>by
   by_cases z:∃m∈ns,i'+d'<bM ws c t (m+2)
   ·obtain ⟨m,hm,z⟩:=z
    refine .inl ⟨m,hm,?_,z,k.2.2⟩
    have:=eX (ws:=ws) (c:=c) t (le_of_lt (lt m hm))
    have:=k.1
    lia
   ·refine .inr λi d ⟨m,hm,q⟩=>?_
    have a:=q.2.1
    have b:¬i'+d'<bM ws c t (m+2):=λy=>z ⟨m,hm,y⟩
    lia).iff (G':=GN ws c L t p (ns++[n])) λi d=>by
     unfold GN;constructor
     ·rintro (⟨m,hm,q⟩|q)
      ·exact ⟨m,mem_append.mpr (.inl hm),q⟩
      ·exact ⟨n,mem_append.mpr (.inr mem_cons_self),q⟩
     ·rintro ⟨m,hm,q⟩;rcases mem_append.mp hm with hm|hm
      ·exact .inl ⟨m,hm,q⟩
      ·have:m=n:=by simpa using hm
       subst this;exact .inr q
  have r:=IT hU hL h1 h2 hg p t ms (ns++[n]) _ _ (by rw[List.append_assoc];exact hp) W;rw[List.append_assoc] at r;exact r
theorem CB:∀(k q1:Nat),P q1->P (q1+k+1)->∃d,Gp P q1 d/\d<=k+1
 |0,q1,h1,h2=>⟨1,⟨by lia,h1,h2,λj a b=>by lia⟩,by lia⟩
 |k+1,q1,h1,h2=>by
  by_cases e:∃j,j<=k/\P (q1+j+1)
  ·obtain ⟨j,hj,hP⟩:=e;obtain ⟨d,hd,hle⟩:=CB j q1 h1 hP;exact ⟨d,hd,by lia⟩
  ·refine ⟨k+1+1,⟨by lia,h1,h2,λj a b hP=>e ⟨j - q1 - 1,by lia,?_⟩⟩,by lia⟩;rw[show q1+(j - q1 - 1)+1=j by lia];exact hP
theorem IU (hU:Ru ws) (hL:1<=L) (h1:97<=c) (h2:c - 97<ws.length) (hg:aJ ws c=true) (hb:∀n,bt ws p t (str ws c n L)=true):
  ∃(ns:List Nat) (x y:Nat),AG (nK ws p t) (gZ ws t) (bA ws c (L+1))=((x:Int),(y:Int))/\bA ws c (L+1)=ns.map (dC ws c (L+1))/\0<x/\Gp (λq=>str ws c q L=p) y x/\Wg (GN ws c L t p ns) x y:=by
 obtain ⟨ns,I⟩:=jN hU (L:=L+1) (by lia) h1 h2 hg 300;have ea:bA ws c (L+1)=ns.map (dC ws c (L+1)):=I.e;obtain ⟨x,y,e,W⟩:=IT hU hL h1 h2 hg p t ns [] 0 0 I.up ⟨.inl rfl,λi d ⟨n,hn,_⟩=>nomatch hn⟩;have W:Wg (GN ws c L t p ns) x y:=W;have hx:0<x:=by
  cases hns:ns with
  |nil=>
   have hm:=kA (ws:=ws) (f0:=f0 ws c (L+1)) (i:=0) (k:=300) (zero_le _) (y:=str ws c 0 (L+1)) (by simp [aK,f0,bI]);have hm:str ws c 0 (L+1)∈bI (bA ws c (L+1)):=hm;rw[ea,hns] at hm;cases hm
  |cons n ms=>
   obtain ⟨q1,a1,a2,a3⟩:=wG hU hL h1 h2 hg (hb n);obtain ⟨q2,b1,b2,b3⟩:=wG hU hL h1 h2 hg (hb (n+1));obtain ⟨d,hd,hle⟩:=CB (P:=λq=>str ws c q L=p) (q2 - q1 - 1) q1 a3 (by
    show str ws c (q1+(q2 - q1 - 1)+1) L=p
    rw[show q1+(q2 - q1 - 1)+1=q2 by lia]
    exact b3)
   have hq:bM ws c t (n+1+1)=bM ws c t (n+2):=rfl;have:=W.2 q1 d ⟨n,by rw[hns];exact mem_cons_self,a1,by lia,hd⟩;have:=hd.1;lia
 refine ⟨ns,x,y,by unfold AG;rw[ea];exact e,ea,hx,?_,W⟩;obtain ⟨n,_,k⟩:=W.1.resolve_left (by lia);exact k.2.2
end
structure AD (ws:List Str) (s:Nat):Prop where
 cyc:∀(k:Nat) (w:Str),ws[k]?=some w->97+(k+1) % ws.length∈ls w
 st:∀w:Str,ws[s]?=some w->∃y,ls w=(97+s)::y/\97+(s+1) % ws.length∈y
 lt:s<ws.length
section
variable {ws:List Str} {s:Nat}
theorem AD.go (h:AD ws s):∀(d k:Nat),k<ws.length->Mx.rJ (Rw ws) d k ((k+d) % ws.length)
 |0,k,hk=>(Nat.mod_eq_of_lt hk).symm
 |d+1,k,hk=>by
  have r:=h.go d ((k+1) % ws.length) (mod_lt _ (by lia));rw[Nat.mod_add_mod,show k+1+d=k+(d+1) by lia] at r;exact ⟨(k+1) % ws.length,⟨ws[k],List.getElem?_eq_getElem hk,h.cyc k _ (List.getElem?_eq_getElem hk)⟩,r⟩
theorem AD.stay (h:AD ws s):∀d,Mx.rJ (Rw ws) d s s
 |0=>rfl
 |d+1=>by
  have hs:=h.lt;obtain ⟨y,e,_⟩:=h.st ws[s] (List.getElem?_eq_getElem hs);exact ⟨s,⟨ws[s],List.getElem?_eq_getElem hs,by rw[e];exact mem_cons_self⟩,h.stay d⟩
theorem AD.to (h:AD ws s) (h4:ws.length<=4) (hi:i<ws.length) (hj:j<ws.length):∃d,d<=3/\Mx.rJ (Rw ws) d i j:=by
 by_cases c:i<=j
 ·refine ⟨j - i,by lia,?_⟩;have r:=h.go (j - i) i hi;rw[show i+(j - i)=j by lia,Nat.mod_eq_of_lt hj] at r;exact r
 ·refine ⟨j+ws.length - i,by lia,?_⟩;have r:=h.go (j+ws.length - i) i hi;rw[show i+(j+ws.length - i)=j+ws.length by lia,Nat.add_mod_right,Nat.mod_eq_of_lt hj] at r;exact r
theorem AD.mx (h:AD ws s) (hU:Ru ws):PM ws=true:=by
 have f:Mx.Full (Rw ws) ws.length 10:=λi j hi hj=>by
  obtain ⟨d1,k1,r1⟩:=h.to hU.four hi h.lt;obtain ⟨d2,k2,r2⟩:=h.to hU.four h.lt hj;have r:=r1.add ((h.stay (10 - d1 - d2)).add r2);rw[show d1+(10 - d1 - d2+d2)=10 by lia] at r;exact r
 have f10:=(DY hU (k:=10)).mpr f;unfold PM;rw[all_eq_true];exact λi hi=>decide_eq_true (f10 i (mem_range.mp hi))
theorem AD.gr (h:AD ws s):aJ ws (97+s)=true:=by
 have hs:=h.lt;obtain ⟨y,e,hy⟩:=h.st ws[s] (List.getElem?_eq_getElem hs);have g1:1<(ws[s]).length:=by
  rw[<-aO,e,length_cons];have:=List.length_pos_of_mem hy;lia
 have g2:(ls ws[s])[0]?=some (97+s):=by
  rw[e];rfl
 unfold aJ;rw[Nat.add_sub_cancel_left,List.getElem?_eq_getElem hs];show (decide (97<=97+s)&&(decide (1<(ws[s]).length)&&decide ((ls ws[s])[0]?=some (97+s))))=true;rw[decide_eq_true (show 97<=97+s by lia),decide_eq_true g1,decide_eq_true g2];rfl
theorem lZ:∀{l:List Nat} {d:Nat},(∀c∈l,0<=sz ws k c)->d∈l->sz ws k d<=aN ws k l
 |c::l,d,h,hd=>by
  have hl:∀{l:List Nat},(∀c∈l,0<=sz ws k c)->0<=aN ws k l:=by
   intro l;induction l with
   |nil=>exact λ_=>Int.le_refl _
   |cons a l ih=>
    intro h;have:=ih λc hc=>h c (mem_cons_of_mem _ hc);have:=h a mem_cons_self;rw[dD];lia
  have h0:=h c mem_cons_self;have h1:=hl λc hc=>h c (mem_cons_of_mem _ hc);rw[dD];rcases mem_cons.mp hd with rfl|hd
  ·lia
  ·have:=lZ (k:=k) (λc hc=>h c (mem_cons_of_mem _ hc)) hd;lia
theorem VE (hU:Ru ws) (hi:i<ws.length):∀c∈wd ws (97+i),0<=sz ws k c:=λc hc=>by
 have:=uM hU k c (hU.sign (c:=97+i) (by lia) hc).2;lia
theorem uZ (hU:Ru ws):∀{d i j:Nat},i<ws.length->Mx.rJ (Rw ws) d i j->∀k,sz ws k (97+j)<=sz ws (k+d) (97+i)
 |0,i,j,_,h,k=>by
  have h:i=j:=h;rw[h];exact Int.le_refl _
 |d+1,i,j,hi,⟨m,⟨w,hw,hm⟩,r⟩,k=>by
  have e:wd ws (97+i)=ls w:=by
   unfold wd;rw[Nat.add_sub_cancel_left,hw];rfl
  have hml:m<ws.length:=by
   have:=(hU.sign (c:=97+i) (d:=97+m) (by lia) (by rw[e];exact hm)).2;lia
  have a:=uZ hU hml r k;have b:=lZ (k:=k+d) (VE hU hi) (d:=97+m) (by rw[e];exact hm);rw[<-eZ (by lia)] at b;rw[show k+(d+1)=k+d+1 by lia];lia
theorem AD.two (h:AD ws s) (hU:Ru ws) (t:Nat):2 * sz ws t (97+s)<=sz ws (t+4) (97+s):=by
 have h4:=hU.four;have hs:=h.lt;obtain ⟨y,e,hy⟩:=h.st ws[s] (List.getElem?_eq_getElem hs);have ew:wd ws (97+s)=(97+s)::y:=by
  rw[<-e];unfold wd;rw[Nat.add_sub_cancel_left,List.getElem?_eq_getElem hs];rfl
 have e1:sz ws (t+4) (97+s)=sz ws (t+3) (97+s)+aN ws (t+3) y:=by
  rw[eZ (k:=t+3) (by lia),ew,dD]
 have nn:=VE hU (k:=t+3) hs;rw[ew] at nn;have b:=lZ (k:=t+3) (λc hc=>nn c (mem_cons_of_mem _ hc)) hy;have a1:=uZ hU hs (h.stay 3) t;have r:Mx.rJ (Rw ws) (ws.length - 1) ((s+1) % ws.length) s:=by
  have r:=h.go (ws.length - 1) ((s+1) % ws.length) (mod_lt _ (by lia));rw[Nat.mod_add_mod,show s+1+(ws.length - 1)=s+ws.length by lia,Nat.add_mod_right,Nat.mod_eq_of_lt hs] at r;exact r
 have a2:=uZ hU (mod_lt _ (by lia)) r (t+4 - ws.length);rw[show t+4 - ws.length+(ws.length - 1)=t+3 by lia] at a2;have a3:=uZ hU hs (h.stay (4 - ws.length)) t;rw[show t+(4 - ws.length)=t+4 - ws.length by lia] at a3;lia
theorem AD.big (h:AD ws s) (hU:Ru ws):∀k,((2 ^ k:Nat):Int)<=sz ws (4 * k) (97+s)
 |0=>by
  have:=uM hU 0 (97+s) (by have:=h.lt;lia);exact this
 |k+1=>by
  have a:=h.big hU k;have b:=h.two hU (4 * k);rw[pow_succ,show 4 * (k+1)=4 * k+4 by lia];lia
end
section
variable {ws:List Str} {c L:Nat}
theorem Js (hU:Ru ws) (h1:97<=c) (h2:c - 97<ws.length) (hg:aJ ws c=true):∀n,n<=Fl ws c n
 |0=>zero_le _
 |n+1=>by
  have:=PF hU h1 h2 hg n;lia
theorem PH (hU:Ru ws) (h1:97<=c) (h2:c - 97<ws.length) (hg:aJ ws c=true):∀t n,n<=bM ws c t n
 |0,n=>Nat.le_refl _
 |t+1,n=>le_trans (Js hU h1 h2 hg n) (PH hU h1 h2 hg t _)
theorem CO (hU:Ru ws) (h1:97<=c) (h2:c - 97<ws.length) (hg:aJ ws c=true):∀t q,∃n,bM ws c t n<=q/\q<bM ws c t (n+1)
 |0,q=>⟨q,Nat.le_refl _,lt_succ_self _⟩
 |t+1,q=>by
  obtain ⟨m,a,b⟩:=CO hU h1 h2 hg t q;obtain ⟨n,j,e,hj⟩:=FE hU h1 h2 hg m;have k1:=eX (ws:=ws) (c:=c) t (show Fl ws c n<=m by lia);have k2:=eX (ws:=ws) (c:=c) t (show m+1<=Fl ws c (n+1) by rw[fH];lia);refine ⟨n,?_,?_⟩
  ·show bM ws c t (Fl ws c n)<=q;lia
  ·show q<bM ws c t (Fl ws c (n+1));lia
theorem shift (hU:Ru ws) (hL:1<=L) (h1:97<=c) (h2:c - 97<ws.length) (hg:aJ ws c=true):∀(t m m':Nat),str ws c m L=str ws c m' L->
  bM ws c t (m+1)+bM ws c t m'=bM ws c t (m'+1)+bM ws c t m/\∀q,bM ws c t m<=q->q<bM ws c t (m+1)->str ws c q L=str ws c (q - bM ws c t m+bM ws c t m') L
 |0,m,m',e=>⟨by show m+1+m'=m'+1+m;lia,λq a b=>by
   have a:m<=q:=a
   have b:q<m+1:=b
   show str ws c q L=str ws c (q - m+m') L
   rw[show q=m by lia,show m - m+m'=m' by lia]
   exact e⟩
 |t+1,m,m',e=>by
  have eew:ew ws c m=ew ws c m':=by
   rw[<-dM (L:=L) m hL,<-dM (L:=L) m' hL,e]
  have pk:∀k,k<(wd ws (ew ws c m)).length->str ws c (Fl ws c m+k) L=str ws c (Fl ws c m'+k) L:=λk hk=>by
   have a:=vG hU hL h1 h2 hg m k hk;have b:=vG hU hL h1 h2 hg m' k (by rw[<-eew];exact hk);rw[e,b] at a;exact (Option.some.inj a).symm
  have ek:∀k,k<=(wd ws (ew ws c m)).length->bM ws c t (Fl ws c m+k)+bM ws c t (Fl ws c m')=bM ws c t (Fl ws c m'+k)+bM ws c t (Fl ws c m):=by
   intro k;induction k with
   |zero=>
    intro _;rw[Nat.add_zero,Nat.add_zero];lia
   |succ k ih=>
    intro hk;have a:=ih (by lia);have b:=(shift hU hL h1 h2 hg t _ _ (pk k (by lia))).1;rw[<-Nat.add_assoc,<-Nat.add_assoc];lia
  have s1:bM ws c (t+1) (m+1)=bM ws c t (Fl ws c m+(wd ws (ew ws c m)).length):=by
   show bM ws c t (Fl ws c (m+1))=_;rw[fH]
  have s2:bM ws c (t+1) (m'+1)=bM ws c t (Fl ws c m'+(wd ws (ew ws c m)).length):=by
   show bM ws c t (Fl ws c (m'+1))=_;rw[fH,eew]
  rw[s1,s2];refine ⟨ek _ (Nat.le_refl _),λq a b=>?_⟩;show str ws c q L=str ws c (q - bM ws c t (Fl ws c m)+bM ws c t (Fl ws c m')) L;have a:bM ws c t (Fl ws c m)<=q:=a;obtain ⟨n,a1,a2⟩:=CO hU h1 h2 hg t q;have n1:Fl ws c m<=n:=le_of_not_lt λhlt=>by
   have:=eX (ws:=ws) (c:=c) t (show n+1<=Fl ws c m by lia);lia
  have n2:n<Fl ws c m+(wd ws (ew ws c m)).length:=lt_of_not_le λhle=>by
   have:=eX (ws:=ws) (c:=c) t hle;lia
  obtain ⟨k,rfl⟩:∃k,n=Fl ws c m+k:=⟨n - Fl ws c m,by lia⟩;have:=(shift hU hL h1 h2 hg t _ _ (pk k (by lia))).2 q a1 a2;have e3:=ek k (by lia);rw[this,show q - bM ws c t (Fl ws c m+k)+bM ws c t (Fl ws c m'+k)=q - bM ws c t (Fl ws c m)+bM ws c t (Fl ws c m') by lia]
theorem OW (hU:Ru ws) (hL:1<=L) (h1:97<=c) (h2:c - 97<ws.length) (hg:aJ ws c=true) (hb:∀n,bt ws p t (str ws c n L)=true) (few:(bA ws c (L+1)).length<=300)
  (ea:bA ws c (L+1)=ns.map (dC ws c (L+1))) (W:Wg (GN ws c L t p ns) x y) (G:Gp (λq=>str ws c q L=p) i d):d<x\/(d=x/\y<=i):=by
 obtain ⟨n,a,b⟩:=CO hU h1 h2 hg t i;obtain ⟨q,q1,q2,q3⟩:=wG hU hL h1 h2 hg (hb (n+1));have hq2:q<bM ws c t (n+2):=q2;have hd:i+d<bM ws c t (n+2):=lt_of_not_le λhle=>G.2.2.2 q (by lia) (by lia) q3;have hm:=rE hU (L:=L+1) (by lia) h1 h2 hg few n;have hm':∃n',n'∈ns/\n'<=n/\str ws c n' (L+1)=str ws c n (L+1):=by
  obtain ⟨p0,hp0,e0⟩:=mem_map.mp hm;obtain ⟨m,e1,_,e3⟩:=UU hU (L:=L+1) (by lia) h1 h2 hg hp0;have e4:str ws c m (L+1)=str ws c n (L+1):=by rw[<-e0,e1];rfl
  refine ⟨m,?_,le_of_not_lt λhlt=>e3 n hlt e4.symm,e4⟩;rw[ea,e1] at hp0;obtain ⟨m2,hm2,e5⟩:=mem_map.mp hp0;have s1:(dC ws c (L+1) m2).2.sum=((m2:Nat):Int):=by
   show (bE ws.length (aG (str ws c 0 m2))).sum=_;rw[mG (L2.Na.cC hU h1 h2 hg (k:=m2) (n:=0) (m:=m2) (by have:=iV hU h1 h2 hg m2;lia)).isW,aV,str_len]
  have s2:(dC ws c (L+1) m).2.sum=((m:Nat):Int):=by
   show (bE ws.length (aG (str ws c 0 m))).sum=_;rw[mG (L2.Na.cC hU h1 h2 hg (k:=m) (n:=0) (m:=m) (by have:=iV hU h1 h2 hg m;lia)).isW,aV,str_len]
  rw[e5,s2] at s1;have:m=m2:=by lia
  rw[this];exact hm2
 obtain ⟨n',hn',hle,e⟩:=hm';have e1:str ws c n L=str ws c n' L:=by
  have a:((str ws c n' (L+1)).drop 0).take L=((str ws c n (L+1)).drop 0).take L:=by rw[e]
  rw[bN ws c n' (L+1) 0 L (by lia),bN ws c n (L+1) 0 L (by lia)] at a;exact a.symm
 have e2:str ws c (n+1) L=str ws c (n'+1) L:=by
  have a:((str ws c n' (L+1)).drop 1).take L=((str ws c n (L+1)).drop 1).take L:=by rw[e]
  rw[bN ws c n' (L+1) 1 L (by lia),bN ws c n (L+1) 1 L (by lia)] at a;exact a.symm
 obtain ⟨l1,m1⟩:=shift hU hL h1 h2 hg t n n' e1;obtain ⟨l2,m2⟩:=shift hU hL h1 h2 hg t (n+1) (n'+1) e2;have sh:∀q,bM ws c t n<=q->q<bM ws c t (n+2)->str ws c q L=str ws c (q - bM ws c t n+bM ws c t n') L:=λq k1 k2=>by
  by_cases hq:q<bM ws c t (n+1)
  ·exact m1 q k1 hq
  ·rw[m2 q (by lia) k2,show q - bM ws c t (n+1)+bM ws c t (n'+1)=q - bM ws c t n+bM ws c t n' by lia]
 have l2:bM ws c t (n+2)+bM ws c t (n'+1)=bM ws c t (n'+2)+bM ws c t (n+1):=l2;have mn:=eX (ws:=ws) (c:=c) t hle;have r:=W.2 (i - bM ws c t n+bM ws c t n') d ⟨n',hn',by lia,by lia,G.1,?_,?_,λj k1 k2=>?_⟩
 ·lia
 ·show str ws c (i - bM ws c t n+bM ws c t n') L=p;rw[<-sh i a (by lia)];exact G.2.1
 ·show str ws c (i - bM ws c t n+bM ws c t n'+d) L=p;rw[show i - bM ws c t n+bM ws c t n'+d=i+d - bM ws c t n+bM ws c t n' by lia,<-sh (i+d) (by lia) hd];exact G.2.2.1
 ·have:¬str ws c (j - bM ws c t n'+bM ws c t n) L=p:=G.2.2.2 (j - bM ws c t n'+bM ws c t n) (by lia) (by lia);rw[sh (j - bM ws c t n'+bM ws c t n) (by lia) (by lia),show j - bM ws c t n'+bM ws c t n - bM ws c t n+bM ws c t n'=j by lia] at this;exact this
theorem again (hU:Ru ws) (hL:1<=L) (h1:97<=c) (h2:c - 97<ws.length) (hg:aJ ws c=true) (hb:∀n,bt ws p t (str ws c n L)=true) (hh:str ws c h L=p):∃d,Gp (λq=>str ws c q L=p) h d:=by
 obtain ⟨q,q1,q2,q3⟩:=wG hU hL h1 h2 hg (hb (h+1));have:=PH hU h1 h2 hg t (h+1);obtain ⟨d,hd,_⟩:=CB (P:=λq=>str ws c q L=p) (q - h - 1) h hh (by
  show str ws c (h+(q - h - 1)+1) L=p
  rw[show h+(q - h - 1)+1=q by lia]
  exact q3)
 exact ⟨d,hd⟩
theorem about (ag:∀h,P h->∃d,Gp P h d):∀(k n g:Nat),P g->g<n->n - g<=k->∃i d,i<n/\n<=i+d/\Gp P i d
 |0,n,g,_,h,hk=>by lia
 |k+1,n,g,hg,h,hk=>by
  obtain ⟨d,hd⟩:=ag g hg;by_cases c:n<=g+d
  ·exact ⟨g,d,h,c,hd⟩
  ·have:=hd.1;exact about ag k n (g+d) hd.2.2.1 (by lia) (by lia)
end
end L2.Na.K42
namespace L2.Na.K25
open PySem PySem.Spec PyProof.Rows L2 L2.L3
variable {K:Fg}
theorem Dr.off {H:Hp} {p D:Addr} {o:HO} (h:Dr H p) (hn:p≠D):Dr (upd H D o) p:=by
 obtain ⟨xs,h1,h2⟩:=h;exact ⟨xs,by rw[aF hn];exact h1,h2⟩
theorem Off.other {p D:Addr} {H H1:Hp} {o:HO} (h:Off p H H1) (hD:H D=none):Off p H (upd H1 D o):=λb u hb e=>by
 rw[aF (aB e hD)];exact h b u hb e
theorem Dr.some {H:Hp} {p:Addr} (h:Dr H p):∃o,H p=Option.some o:=let ⟨_,e,_⟩:=h;⟨_,e⟩
noncomputable def mP (K:Fg):Sp:=λvs H Q _=>∃(p:Addr) (m s:Int),vs=[.ref p,.int m,.int s]/\Dr H p/\1<=m/\m<=4/\0<=s/\s<=1000/\∀(z:Str) (H':Hp),Off p H H'->Dr H' p->fG m.toNat z->z.length=s.toNat->Q (.str z) H'
noncomputable def qY (K:Fg):List (SX K):=
 [ret (pQ (cst (.str "")) (comp (ix (cst (.str "abcd")) (bin .Mod (call "_law_next" (aS K) [var 2]) (var 1))) (gR 0) (rT (var 2) []) ["_law_k"] ["_law_many","_law_drawn"] [1,0]))]
theorem xQ {m:Nat}:∀(ys:List V),(∀y∈ys,∃c,y=sgn c/\97<=c/\c<97+m)->∃cs:List Nat,ys=(cs.map λc=>(⟨#[c]⟩:Str)).map V.str/\cs.length=ys.length/\∀c∈cs,97<=c/\c<97+m
 |[],_=>⟨[],rfl,rfl,λc hc=>nomatch hc⟩
 |y::ys,h=>by
  obtain ⟨c,rfl,hc⟩:=h y mem_cons_self;obtain ⟨cs,e,hl,hcs⟩:=xQ ys λy hy=>h y (mem_cons_of_mem _ hy);refine ⟨c::cs,by rw[map_cons,map_cons,<-e];rfl,by rw[length_cons,length_cons,hl],λd hd=>?_⟩;rcases mem_cons.mp hd with rfl|hd
  ·exact hc
  ·exact hcs d hd
theorem yZ {α β:Type} (f:α->β):∀l:List α,(l.map λv=>[f v]).flatten=l.map f
 |[]=>rfl
 |a::l=>by rw[map_cons,flatten_cons,yZ f l];rfl
theorem AM:TT (mP K) (qY K) ["_law_drawn","_law_many","_law_size"]:=by
 intro vs H Q E h;obtain ⟨p,m,s,rfl,hp,h1,h4,hs0,hs,q⟩:=h;unfold qY;walk_at "";intro D hD;have hpD:p≠D:=let ⟨o,e⟩:=Dr.some hp;aB e hD;refine HQ (λi H1=>Off p H H1/\Dr H1 p) (λi y=>∃c,y=sgn c/\97<=c/\c<97+m.toNat) (small (by lia)) ⟨Off.other (Off.refl p H) hD,Dr.off hp hpD⟩ (λi H1 ys Q' hi hI hO fin=>?_) λH1 ys hI hO hl hr=>?_
 ·walk_at "";refine ⟨p,rfl,hI.2,λv H2 hOff hDr v0 v1=>?_⟩;walk_at "";have e1:=emod_nonneg v (show m≠0 by lia);have e2:=emod_lt_of_pos v (show 0<m by lia);refine qH (by rw[iO];decide) (oM (m:=m) e1 e2 h4) ?_;exact fin _ H2 ⟨_,rfl,by lia,by lia⟩ (hOff D _ hpD.symm hO) λo=>⟨Off.other (Off.trans' hI.1 hOff) hD,Dr.off hDr hpD⟩
 ·walk_at "";obtain ⟨cs,e,hcl,hcs⟩:=xQ (m:=m.toNat) ys λy hy=>by
   obtain ⟨i,hi⟩:=getElem?_of_mem hy;exact hr i y hi
  have e0:(Str.ofString "").length=0:=by decide+kernel
  have hsum:((cs.map λc=>(⟨#[c]⟩:Str)).map (·.length)).sum=cs.length:=by
   rw[map_map,show ((λz:Str=>z.length)∘λc=>(⟨#[c]⟩:Str))=λ_=>1 from rfl,List.map_const'];simp
  refine ⟨cs.map λc=>(⟨#[c]⟩:Str),.inl (by rw[hO,e]),by rw[hsum,e0];lia,?_⟩;have hj:ls (Txt.join (Str.ofString "") (cs.map λc=>(⟨#[c]⟩:Str)))=cs:=by
   rw[kS,map_map];show (cs.map λc=>[c]).flatten=_;rw[yZ λc=>c,List.map_id']
  refine q _ H1 hI.1 hI.2 (λc hc=>?_) (by rw[<-aO,hj,hcl,hl]);rw[hj] at hc;exact hcs c hc
noncomputable def kE (K:Fg):Sp:=λvs H Q _=>∃(d:Addr) (w:Int),vs=[.ref d,.int w]/\Dr H d/\0<w/\∀(n:Nat) (H':Hp),Off d H H'->Dr H' d->(n:Int)<w->Q (.int n) H'
noncomputable def nE (K:Fg):List (SX K):=
 [set 2 (cst (.int 0)),
  jP (gR 3) (rT (cst (.int 4)) []) [set 2 (bin .Add (bin .Mult (var 2) (cst (.int 2147483629))) (call "_law_next" (aS K) [var 0]))],
  ret (bin .Mod (var 2) (var 1))]
theorem xC:TT (kE K) (nE K) ["_law_drawn","_law_wide","_law_number","_law_k"]:=by
 intro vs H Q E h;obtain ⟨d,w,rfl,hd,hw,q⟩:=h;unfold nE;walk_at "";refine eP (λi σ H'=>Off d H H'/\Dr H' d/\∃(x:Int) (a3:Option V),σ=[some (.ref d),some (.int w),some (.int x),a3]) ⟨Off.refl d H,hd,0,none,rfl⟩ (λi σ H' hi hP=>?_) λσ H' hP=>?_
 ·obtain ⟨hO,hD,x,a3,rfl⟩:=hP;walk_at "";refine ⟨d,rfl,hD,λv H2 hO2 hD2 _ _=>?_⟩;walk_at "";exact ⟨Off.trans' hO hO2,hD2,_,_,rfl⟩
 ·obtain ⟨hO,hD,x,a3,rfl⟩:=hP;have e1:=emod_nonneg x (show w≠0 by lia);have e2:=emod_lt_of_pos x hw;obtain ⟨n,hn⟩:∃n:Nat,x % w=(n:Int):=⟨_,(Int.toNat_of_nonneg e1).symm⟩;walk_at "";rw[hn];exact q n H' hO hD (by lia)
end L2.Na.K25
namespace L2.Na.K42
open PySem PySem.Spec PyProof.Rows L2 L2.L3 L2.Na.Pr L2.Na.K41 L2.Na.K44
variable {K:Fg}
noncomputable def bQ (K:Fg):Sp:=λvs H Q _=>∃(p r:Addr) (xs ys:List Int),vs=[.ref p,.ref r]/\(H p=some (.lst (xs.map V.int)))/\H r=some (.lst (ys.map V.int))/\Cy xs/\Cy ys/\xs.length<=1000/\∀H':Hp,aC H H'->Q (.int (dot xs ys)) H'
noncomputable def aY (K:Fg):List (SX K):=L2.Na.aY K
theorem eG:TT (bQ K) (aY K) ["row","before"]:=by
 intro vs H Q E h;obtain ⟨p,r,xs,ys,rfl,hp,hr,hx,hy,hl,q⟩:=h;unfold aY L2.Na.aY;walk_at "";refine vZ (aP.of hp) (aP.of hr) ?_;intro D nD;refine qR SG (aP.of hp) (aP.of hr) nD (small (by rw[length_map];lia)) (λi x y H1 Q' h1 h2 hS fin=>?_) λH1 hS hO=>?_
 ·obtain ⟨k,hk,rfl⟩:=fC h1;obtain ⟨k',hk',rfl⟩:=fC h2;walk_at "";refine Aj (.of_bits (hx k (mem_of_getElem? hk)) (hy k' (mem_of_getElem? hk'))) ?_;exact fin H1 (aC.refl _)
 ·rw[nO (· * ·) SG (λ_ _=>rfl)] at hO;exact ⟨D,_,rfl,hO,q H1 hS⟩
noncomputable def sL (K:Fg):Sp:=λvs H Q _=>∃(dA z dS:Addr) (f:List cR) (asA:List Addr) (szl:List Int) (ns:List (List Nat)) (as:List Addr) (gf:List Nat->Sg),vs=[.ref dA,.ref z,.ref dS]/\KO K/\WO H dA asA f/\(bI f).Nodup/\
 (∀p∈f,2<=p.1.length/\p.1.length<=1000/\p.1.take (p.1.length - 1)∈ns/\p.1.drop 1∈ns/\Cy p.2/\p.2.length<=1000)/\H z=some (.lst (szl.map V.int))/\Cy szl/\PQ K H dS ns as gf/\(∀y,mK (gf y))/\dS≠dA/\
 ∀(r:Addr) (H':Hp),(∀b o,b≠dA->H b=some o->H' b=some o)->H' r=some (.tup [.int (AG gf szl f).1,.int (AG gf szl f).2])->Q (.ref r) H'
noncomputable def Jb (K:Fg):List (SX K):=
 [set 5 (call "joined" (lQ K) [lst [ix (var 2) (uT (var 4) none (some (neg (cst (.int 1))))),ix (var 2) (uT (var 4) (some (cst (.int 1))) none)]]),
   qF (cmp .Gt (fld (var 5) "gap") (ix (var 3) (cst (.int 0)))) [set 3 (tup [fld (var 5) "gap",bin .Add (call "signs_behind" (bQ K) [ix (var 0) (var 4),var 1]) (fld (var 5) "place")])] []]
noncomputable def zS (K:Fg):List (SX K):=
 [set 3 (tup [cst (.int 0),cst (.int 0)]),
  jP (gR 4) (Ia (var 0)) (Jb K),
  ret (var 3)]
theorem JL:TT (sL K) (zS K) ["ahead","size_of","sights","best","longer","both"]:=by
 intro vs H Q E h;obtain ⟨dA,z,dS,f,asA,szl,ns,as,gf,rfl,ko,hA,nd,hf,hz,hzl,hD,hok,nAS,q⟩:=h;unfold zS;walk_at "";refine ⟨by show 2<=sizeLine;decide,λb0 nb0=>?_⟩;have s1:=aE nb0 (.tup [.int 0,.int 0]);have b1:(upd H b0 (.tup [.int 0,.int 0])) b0=some (.tup [.int 0,.int 0]):=aA;revert s1 b1;generalize upd H b0 (.tup [.int 0,.int 0])=H1;intro s1 b1;walk_at "";refine Ar ?_;walk_at "";refine Hu (s1 _ _ hA.d) λo=>?_;have nz:z≠dA:=λe=>by
  rw[e,hA.d] at hz;cases hz
 have nb:b0≠dA:=(aB hA.d nb0).symm;have k2:∀b oo,b≠dA->H1 b=some oo->(upd H1 dA (.frz o (.dK (mU f asA)))) b=some oo:=λb oo hb e=>by rw[aF hb];exact e
 have f2:(upd H1 dA (.frz o (.dK (mU f asA)))) dA=some (.frz o (.dK (mU f asA))):=aA;revert k2 f2;generalize upd H1 dA (.frz o (.dK (mU f asA)))=H2;intro k2 f2;have k02:∀b oo,b≠dA->H b=some oo->H2 b=some oo:=λb oo hb e=>k2 b oo hb (s1 _ _ e);have hD2:PQ K H2 dS ns as gf:=⟨k02 _ _ nAS hD.d,hD.l,hD.nd,λi a x g1 g2=>by
  obtain ⟨dx,g⟩:=hD.s i a x g1 g2
  exact ⟨dx,k02 _ _ (λe=>by rw[e,hA.d] at g;cases g) g⟩⟩
 refine oE (WU (d:=dA) (o:=o) (kvs:=mU f asA)) (λi σ H3=>∃(b:Addr) (a4 a5:Option V),σ=[some (.ref dA),some (.ref z),some (.ref dS),some (.ref b),a4,a5]/\aC H2 H3/\H3 b=some (.tup [.int (AG gf szl (f.take i)).1,.int (AG gf szl (f.take i)).2])) ⟨b0,none,none,rfl,aC.refl _,k2 _ _ nb b1⟩ (λi σ H3 _ ⟨_,_,_,_,hS,_⟩=>hS _ _ f2) (λi v σ H3 hv hP=>?_) λσ H3 hP=>?_
 ·obtain ⟨b,a4,a5,rfl,hS,hb⟩:=hP;have hl:=hA.l;have hi:i<f.length:=by
   have:=(List.getElem?_eq_some_iff.mp hv).1;rw[length_map,vQ hl] at this;exact this
  have hfi:f[i]?=some f[i]:=List.getElem?_eq_getElem hi;have hai:asA[i]?=some (asA[i]'(by lia)):=List.getElem?_eq_getElem _;have ev:v=.str (aG f[i].1):=by
   rw[getElem?_map] at hv;unfold mU at hv;rw[getElem?_zipWith,hfi,hai] at hv;exact (Option.some.inj hv).symm
  subst ev;have hw:AG gf szl (f.take (i+1))=AF gf szl (AG gf szl (f.take i)) f[i]:=by
   unfold AG;rw[take_add_one,hfi,foldl_append];rfl
  rw[hw];revert hb;generalize AG gf szl (f.take i)=bb;intro hb;obtain ⟨l2,l3,t1,t2,lg,ll⟩:=hf f[i] (getElem_mem hi);have ml:=aV f[i].1;refine DW ?_;obtain ⟨a1,g1,d1,e1⟩:=hD2.get t1;obtain ⟨a2,g2,d2,e2⟩:=hD2.get t2;unfold Jb;walk_at "";refine La ?_;walk_at "";refine Lb ?_;refine Ha ?_;refine eR (small (by lia)) ?_;have es1:Txt.slice (aG f[i].1) none (some (-1))=aG (f[i].1.take (f[i].1.length - 1)):=by
   rw[AV (by lia),ml];refine cP ?_;show (Txt.slice (aG f[i].1) none (some ((f[i].1.length - 1:Nat):Int))).cps.toList=_;rw[cV (by lia),toNat_natCast,aQ];show (ls (aG f[i].1)).take _=_;rw[aQ]
  have es2:Txt.slice (aG f[i].1) (some 1) none=aG (f[i].1.drop 1):=by
   refine cP ?_;show (Txt.slice (aG f[i].1) (some 1) none).cps.toList=_;rw[gH (by lia) (by lia),aQ];show (ls (aG f[i].1)).drop 1=_;rw[aQ]
  rw[es1];refine iF (g1 H3 hS) ?_;walk_at "";refine eR (small (by lia)) ?_;rw[es2];refine iF (g2 H3 hS) ?_;walk_at "";refine ⟨by show 2<=sizeLine;decide,λl nl=>?_⟩;have s4:=aE nl (.lst [.ref a1,.ref a2]);walk_at "";refine ⟨l,[a1,a2],[gf (f[i].1.take (f[i].1.length - 1)),gf (f[i].1.drop 1)],rfl,ko,⟨aA,rfl,λj a g k1 k3=>?_,λg hg=>?_⟩,λr H5 s5 nr hr=>?_⟩
  ·match j,k1,k3 with
   |0,k1,k3=>cases k1;cases k3;exact ⟨d1,s4 _ _ (hS _ _ e1)⟩
   |1,k1,k3=>cases k1;cases k3;exact ⟨d2,s4 _ _ (hS _ _ e2)⟩
   |j+2,k1,k3=>cases k1
  ·simp only [mem_cons,not_mem_nil,or_false] at hg;rcases hg with rfl|rfl<;>exact hok _
  ·have s45:=s4.trans s5;have hb5:=s45 _ _ hb;have hS5:=hS.trans s45;walk_at "";refine cQ ?_;walk_at "";refine EA ko hr ?_;walk_at "";refine sY (v:=.int bb.1) (cZ.of hb5) rfl ?_;walk_at "";refine fT (λc=>?_) λc=>?_
   ·walk_at "";refine cQ ?_;walk_at "";refine EA ko hr ?_;walk_at "";refine iF (v:=.ref asA[i]) (.inl ⟨mU f asA,Sum.inr (aG f[i].1),.inr ⟨o,hS5 _ _ f2⟩,rfl,(oF nd hfi hai).symm⟩) ?_;walk_at "";have hc:H5 asA[i]=some (.lst (f[i].2.map V.int)):=hS5 _ _ (k02 _ _ (λe=>by have:=hA.v i asA[i] f[i] hai hfi;rw[e,hA.d] at this;cases this) (hA.v i asA[i] f[i] hai hfi));refine ⟨asA[i],z,_,_,rfl,hc,hS5 _ _ (k02 _ _ nz hz),lg,hzl,ll,λH6 s6=>?_⟩;walk_at "";refine cQ ?_;walk_at "";refine DZ ko (hr.same s6) ?_;walk_at "";refine ⟨by show 2<=sizeLine;decide,λb2 nb2=>?_⟩;walk_at "";refine ⟨b2,_,_,rfl,(hS5.trans s6).trans (aE nb2 _),?_⟩;unfold AF;dsimp only;rw[aA,if_pos c]
   ·walk_at "";refine ⟨b,_,_,rfl,hS5,?_⟩;unfold AF;dsimp only;rw[hb5,if_neg c]
 ·obtain ⟨b,a4,a5,rfl,hS,hb⟩:=hP;rw[length_map,vQ hA.l,take_length] at hb;walk_at "";exact q b H3 (λc oo hc e=>hS _ _ (k02 c oo hc e)) hb
noncomputable def Jm (ws:List Str) (p:List Nat) (ns:List (List Nat)) (t:Nat):Prop:=(∀x∈ns,bt ws p t x=true)/\∀t',t'<t->∃x∈ns,bt ws p t' x=false
noncomputable def dst (ws:List Str) (c:Nat) (p:List Nat) (t:Nat):Int × Int:=AG (nK ws p t) (gZ ws t) (bA ws c (p.length+1))
noncomputable def hX (K:Fg):Sp:=λvs H Q _=>∃(a:Addr) (ws:List Str) (c:Nat) (z:Str),vs=[.ref a,sgn c,.str z]/\Mm K H a ws c z/\aJ ws c=true/\c - 97<ws.length/\PM ws=true/\(bA ws c z.length).length<=300/\ls z∈bI (bA ws c z.length)/\(bA ws c (z.length+1)).length<=300/\
 ∀(t:Nat) (r:Addr) (H':Hp),Jm ws (ls z) (bI (bA ws c z.length)) t->aC H H'->H' r=some (.tup [.int (dst ws c (ls z) t).1,.int (dst ws c (ls z) t).2])->Q (.ref r) H'
noncomputable def OQ (K:Fg):List (SX K):=
 [WV (Jc (comp (cmp .Is (fld (ix (var 1) (var 0)) "first") (cst .non)) (gR 0) (iG (var 3)) ["other"] ["sights"] [6])) [set 6 (ED (comp (tup [var 0,call "sight_turned" (gO K) [ix (var 2) (var 0),var 1]]) (gR 0) (iG (var 3)) ["other"] ["sights","parts"] [6,5])),
   set 7 (bin .Add (var 7) (cst (.int 1)))],
  ret (call "widest" (sL K) [var 4,call "sizes" (pA K) [var 0,var 7],var 6])]
noncomputable def OR (K:Fg):List (SX K):=
 set 5 (ED (comp (tup [var 0,call "pieces_of_image" (cN K) [var 1,var 0]]) (gR 0) (iG (var 3)) ["other"] ["rule"] [0]))::
  set 6 (ED (comp (tup [var 0,call "sight_of_one" (gP K) [cmp .Eq (var 0) (var 1)]]) (gR 0) (iG (var 3)) ["other"] ["piece"] [2]))::
  set 7 (cst (.int 0))::OQ K
noncomputable def rC (K:Fg):List (SX K):=
 qF (vJ (call "grows" (pC K) [var 0,var 1])) [Kz] []::
  qF (vJ (call "mixes" (xP K) [var 0])) [Kz] []::
  set 3 (VW (call "counts_ahead" (cK K) [var 0,var 1,len (var 2)]))::
  qF (cmp .NotIn (var 2) (var 3)) [Kz] []::
  set 4 (call "counts_ahead" (cK K) [var 0,var 1,bin .Add (len (var 2)) (cst (.int 1))])::OR K
theorem Dq {H H5:Hp} {Q:VK} {E:XK} {a l dA dP:Addr} {asA asP:List Addr} {ws:List Str} {c:Nat} {z:Str} {ns:List (List Nat)} {f:List cR} {T:Nat} (D:Mm K H a ws c z) (nd:ns.Nodup) (nl:ns.length<=300) (cl:∀x∈ns,∀y∈bY ws x,y∈ns) (hT:T<=700) (hall:∀x∈ns,bt ws (ls z) T x=true)
  (s05:aC H H5) (hl:H5 l=some (.lst (ns.map λy=>V.str (aG y)))) (hA:WO H5 dA asA f) (nA:H dA=none) (ndf:(bI f).Nodup)
  (hf:∀p∈f,2<=p.1.length/\p.1.length<=1000/\p.1.take (p.1.length - 1)∈ns/\p.1.drop 1∈ns/\Cy p.2/\p.2.length<=1000)
  (hP:H5 dP=some (.dK (mV ns asP))) (lP:ns.length=asP.length) (vP:∀(i:Nat) (b:Addr) (x:List Nat),asP[i]?=some b->ns[i]?=some x->H5 b=some (.lst ((bY ws x).map λy=>V.str (aG y))))
  {dS:Addr} {asS:List Addr} (hS:PQ K H5 dS ns asS (nK ws (ls z) 0)) (nSA:dS≠dA)
  (q:∀(t:Nat) (r:Addr) (H':Hp),Jm ws (ls z) ns t->aC H H'->H' r=some (.tup [.int (AG (nK ws (ls z) t) (gZ ws t) f).1,.int (AG (nK ws (ls z) t) (gZ ws t) f).2])->Q (.ref r) H'):
  gY (OQ K) (λ_=>E) {nx:=λ_ H'=>Q .non H',rt:=Q} [some (.ref a),some (sgn c),some (.str z),some (.ref l),some (.ref dA),some (.ref dP),some (.ref dS),some (.int 0)] H5:=by
 have hU:=D.ru;unfold OQ;walk_at "";refine iU (λm σ H6=>∃(t:Nat) (dS:Addr) (asS:List Addr),σ=[some (.ref a),some (sgn c),some (.str z),some (.ref l),some (.ref dA),some (.ref dP),some (.ref dS),some (.int (t:Nat))]/\m=T - t/\t<=T/\aC H5 H6/\PQ K H6 dS ns asS (nK ws (ls z) t)/\dS≠dA/\∀t',t'<t->∃x∈ns,bt ws (ls z) t' x=false) (m:=T) ⟨0,dS,asS,rfl,rfl,zero_le _,aC.refl _,hS,nSA,λt' h=>absurd h (Nat.not_lt_zero _)⟩ ?_;rintro m σ H6 ⟨t,dS,asS,rfl,rfl,htT,s56,hS6,nSA,hlt⟩;have hl6:=s56 _ _ hl;refine VX rfl ?_;refine Ax ?_;walk_at "";refine gT (aP.of hl6) ?_;intro D1 nD1;refine iY (λi=>.bl (!bt ws (ls z) t (ns[i]?.getD []))) (aP.of hl6) nD1 (small (by rw[length_map];lia)) (λi x H7 Q' hx s7 fin=>?_) λH7 s7 hO=>?_
 ·rw[getElem?_map] at hx;cases ex:ns[i]? with
  |none=>rw[ex] at hx;cases hx
  |some x'=>
   rw[ex] at hx fin;cases hx;obtain ⟨b,g1,g2⟩:=hS6.get (mem_of_getElem? ex);walk_at "";refine cQ ?_;walk_at "";refine iF (g1 H7 s7) ?_;refine kX D.ko (g2.same s7) ?_;walk_at "";have e:decide (oV (nK ws (ls z) t x').first=.non)=!bt ws (ls z) t x':=by
    rw[<-(lU ws (ls z) t x').2];cases (nK ws (ls z) t x').first<;>rfl
   rw[e];exact fin H7 (aC.refl _)
 ·have eO:((range (ns.map λy=>V.str (aG y)).length).map λi=>V.bl (!bt ws (ls z) t (ns[i]?.getD [])))=((range ns.length).map λi=>!bt ws (ls z) t (ns[i]?.getD [])).map V.bl:=by
   rw[length_map,map_map];rfl
  rw[eO] at hO;refine ⟨D1,_,rfl,hO,?_⟩;refine MK ?_;have s57:=s56.trans s7;have s07:=s05.trans s57;have hS7:=hS6.same s7;cases eb:((range ns.length).map λi=>!bt ws (ls z) t (ns[i]?.getD [])).any id with
  |true=>
   obtain ⟨x0,hx0,z0⟩:∃x∈ns,bt ws (ls z) t x=false:=by
    rw[any_map,any_eq_true] at eb;obtain ⟨i,hi,hb⟩:=eb;have hi':=mem_range.mp hi;have hb':(!bt ws (ls z) t (ns[i]?.getD []))=true:=hb;rw[List.getElem?_eq_getElem hi',show ((some ns[i]).getD [])=ns[i] from rfl] at hb';exact ⟨ns[i],getElem_mem hi',by simpa using hb'⟩
   have tT:t<T:=by
    rcases Nat.lt_or_ge t T with h|h
    ·exact h
    ·have e:t=T:=by lia
     rw[e,hall x0 hx0] at z0;cases z0
   refine IH ?_;refine sD ?_;walk_at "";refine wC ?_;walk_at "";refine gT (aP.of (s7 _ _ hl6)) ?_;intro D2 nD2;refine jS (λx b H8=>fU K H8 b (nK ws (ls z) (t+1) x)) (λx b H8 H9 hb hh ⟨dx,g⟩=>⟨dx,hh b _ hb g⟩) (s7 _ _ hl6) nD2 (by lia) (λx H8 Q' hx s8 fin=>?_) λH8 qs as s8 hL al hv=>?_
   ·obtain ⟨i,hi⟩:=getElem?_of_mem hx;obtain ⟨bP,hA2⟩:∃bP,asP[i]?=some bP:=⟨_,List.getElem?_eq_getElem (by have:=(List.getElem?_eq_some_iff.mp hi).1;lia)⟩;have s58:=s57.trans s8;walk_at "";refine iF (v:=.ref bP) (by
     have:=eY.k (k:=Sum.inr (aG x)) (s58 _ _ hP)
     rw[vR nd hi hA2] at this
     exact this) ?_
    walk_at "";have pl:(bY ws x).length<=100:=by
     unfold bY;rw[length_map,length_range];have:=fD hU (l:=[x.headD 0]);rw[aL] at this;simpa [aI] using this
    refine ⟨bP,dS,bY ws x,ns,asS,nK ws (ls z) t,rfl,D.ko,s58 _ _ (vP i _ x hA2 hi),by lia,hS7.same s8,λy hy=>cl x hx y hy,λy=>(lU ws (ls z) t y).1,λr H9 s9 nr hr=>fin r H9 s9 nr hr⟩
   ·refine ⟨qs,mV ns as,hL,by unfold mV;rw[length_zipWith];lia,λd2 nd2=>?_⟩;rw[lY al nd];have s9:=aE nd2 (.dK (mV ns as));walk_at "";refine ⟨T - (t+1),by lia,t+1,d2,as,?_,rfl,tT,(s57.trans s8).trans s9,⟨aA,al,nd,λi b x k1 k2=>(hv i b x k1 k2).same s9⟩,?_,λt' h=>?_⟩
    ·rw[show ((t:Nat):Int)+1=((t+1:Nat):Int) by lia];rfl
    ·exact (aB ((s57.trans s8) _ _ hA.d) nd2).symm
    ·by_cases e:t'=t
     ·exact ⟨x0,hx0,by rw[e];exact z0⟩
     ·exact hlt t' (by lia)
  |false=>
   have hls:Jm ws (ls z) ns t:=⟨λx hx=>by
    obtain ⟨i,hi⟩:=getElem?_of_mem hx
    have hil:=(List.getElem?_eq_some_iff.mp hi).1
    rw[any_map,List.any_eq_false] at eb
    have:=eb i (mem_range.mpr hil)
    have:¬(!bt ws (ls z) t (ns[i]?.getD []))=true:=this
    rw[hi,show ((some x).getD [])=x from rfl] at this
    simpa using this,hlt⟩
   refine tN ?_;walk_at "";refine ⟨a,ws,t,rfl,D.rt.same s07,λw hw=>⟨hU.isw w hw,by have:=hU.le w hw;lia⟩,by lia,by lia,λzz H8 s8 nzz hzz=>?_⟩;rw[toNat_natCast] at hzz;walk_at "";have s58:=s57.trans s8;refine ⟨dA,zz,dS,f,asA,gZ ws t,ns,asS,nK ws (ls z) t,rfl,D.ko,hA.same s58,ndf,hf,hzz,λx hx=>?_,hS7.same s8,λy=>(lU ws (ls z) t y).1,nSA,λr H9 k9 hr=>?_⟩
   ·obtain ⟨b1,b2⟩:=Ed hU x hx;exact EO (n:=100) (k:=t) b1 b2 (by decide) (by lia)
   ·refine q t r H9 hls (λb o e=>?_) hr;exact k9 b o (aB e nA) (s8 _ _ (s07 _ _ e))
theorem Ds {H H5:Hp} {Q:VK} {E:XK} {a l dA:Addr} {asA:List Addr} {ws:List Str} {c:Nat} {z:Str} {ns:List (List Nat)} {f:List cR} {T:Nat} (D:Mm K H a ws c z) (nd:ns.Nodup) (nl:ns.length<=300) (hn:∀x∈ns,bK ws x/\1<=x.length/\x.length<=400) (cl:∀x∈ns,∀y∈bY ws x,y∈ns) (hT:T<=700) (hall:∀x∈ns,bt ws (ls z) T x=true)
  (s05:aC H H5) (hl:H5 l=some (.lst (ns.map λy=>V.str (aG y)))) (hA:WO H5 dA asA f) (nA:H dA=none) (ndf:(bI f).Nodup)
  (hf:∀p∈f,2<=p.1.length/\p.1.length<=1000/\p.1.take (p.1.length - 1)∈ns/\p.1.drop 1∈ns/\Cy p.2/\p.2.length<=1000)
  (q:∀(t:Nat) (r:Addr) (H':Hp),Jm ws (ls z) ns t->aC H H'->H' r=some (.tup [.int (AG (nK ws (ls z) t) (gZ ws t) f).1,.int (AG (nK ws (ls z) t) (gZ ws t) f).2])->Q (.ref r) H'):
  gY (OR K) (λ_=>E) {nx:=λ_ H'=>Q .non H',rt:=Q} [some (.ref a),some (sgn c),some (.str z),some (.ref l),some (.ref dA),none,none,none] H5:=by
 have hU:=D.ru;unfold OR;walk_at "";refine wC ?_;walk_at "";refine gT (aP.of hl) ?_;intro D1 nD1;refine jS (λx b H6=>H6 b=some (.lst ((bY ws x).map λy=>V.str (aG y)))) (λx b H6 H7 hb hh g=>hh b _ hb g) hl nD1 (by lia) (λx H6 Q' hx s6 fin=>?_) λH6 qs asP s6 hL alP vP=>?_
 ·obtain ⟨x1,x2,x3⟩:=hn x hx;walk_at "";exact ⟨a,ws,x,rfl,D.rt.same (s05.trans s6),hU,x1,x2,x3,λp H7 s7 np hp=>fin p H7 s7 np hp⟩
 ·refine ⟨qs,mV ns asP,hL,by unfold mV;rw[length_zipWith];lia,λdP ndP=>?_⟩;rw[lY alP nd];have s7:=aE ndP (.dK (mV ns asP));have hP7:(upd H6 dP (.dK (mV ns asP))) dP=some (.dK (mV ns asP)):=aA;revert s7 hP7;generalize upd H6 dP (.dK (mV ns asP))=H7;intro s7 hP7;have s57:=s6.trans s7;walk_at "";refine wC ?_;walk_at "";refine gT (aP.of (s57 _ _ hl)) ?_;intro D2 nD2;refine jS (λx b H8=>fU K H8 b (QU (decide (x=ls z)))) (λx b H8 H9 hb hh ⟨dx,g⟩=>⟨dx,hh b _ hb g⟩) (s57 _ _ hl) nD2 (by lia) (λx H8 Q' hx s8 fin=>?_) λH8 qs2 asS s8 hL2 alS vS=>?_
  ·walk_at "";have e:decide (aG x=z)=decide (x=ls z):=by
    by_cases h:x=ls z
    ·rw[decide_eq_true h,h];exact decide_eq_true (cP (aQ _))
    ·rw[decide_eq_false h];exact decide_eq_false λe=>h (by rw[<-e,aQ])
   rw[e];exact ⟨_,rfl,D.ko,λr H9 s9 nr hr=>fin r H9 s9 nr hr⟩
  ·refine ⟨qs2,mV ns asS,hL2,by unfold mV;rw[length_zipWith];lia,λdS ndS=>?_⟩;rw[lY alS nd];have s9:=aE ndS (.dK (mV ns asS));have s78:=s57.trans s8;have nSA:dS≠dA:=(aB (s78 _ _ hA.d) ndS).symm;walk_at "";exact Dq D nd nl cl hT hall (s05.trans (s78.trans s9)) (s9 _ _ (s78 _ _ hl)) (hA.same (s78.trans s9)) nA ndf hf (s9 _ _ (s8 _ _ hP7)) alP (λi b x k1 k2=>s9 _ _ (s8 _ _ (s7 _ _ (vP i b x k1 k2)))) ⟨aA,alS,nd,λi b x k1 k2=>(vS i b x k1 k2).same s9⟩ nSA q
theorem AQ:TT (hX K) (rC K) ["rule","start","piece","alike","ahead","parts","sights","turns"]:=by
 intro vs H Q E h;obtain ⟨a,ws,c,z,rfl,D,hg,hc,hm,hsm,hin,hsm2,q⟩:=h;have hU:=D.ru;have z1:=D.z1;have z2:=D.z2;unfold rC;walk_at "";refine ⟨a,ws,c,rfl,D.rt,λw hw=>⟨hU.one w hw,hU.le w hw⟩,D.c1,λH1 s1=>?_⟩;walk_at "";rw[hg];refine tN ?_;walk_at "";refine ⟨a,ws,rfl,D.rt.same s1,hU,λH2 s2=>?_⟩;have s12:=s1.trans s2;walk_at "";rw[hm];refine tN ?_;walk_at "";refine TR ?_;walk_at "";refine eS (small (by lia)) ?_;walk_at "";have pl:∀(L:Nat) (Hx:Hp),1<=L->L<=400->aC H Hx->Pl K Hx a ws c ((0+L - 1:Nat):Int):=λL Hx l1 l4 e=>⟨D.rt.same e,hU,D.c1,hc,hg,by lia,L,l4,by
  have:=cJ hU D.c1 hc hg L
  lia⟩
 refine .inl ⟨a,ws,c,z.length,rfl,z1,by lia,pl _ H2 z1 (by lia) s12,λ_ d as H3 s3 nd nas hD=>?_,λhgt=>by lia⟩;refine MT hD.d λl nl=>?_;rw[SO hD.l];have s4:=aE nl (.lst ((bI (bA ws c z.length)).map λy=>V.str (aG y)));have hl4:(upd H3 l (.lst ((bI (bA ws c z.length)).map λy=>V.str (aG y)))) l=some (.lst ((bI (bA ws c z.length)).map λy=>V.str (aG y))):=aA;have s24:=(s12.trans s3).trans s4;revert hl4 s24;generalize upd H3 l (.lst ((bI (bA ws c z.length)).map λy=>V.str (aG y)))=H4;intro hl4 s24;walk_at "";refine DU (aP.of hl4) rfl (HH _) ?_;rw[DR];rw[decide_eq_true hin];refine tN ?_;walk_at "";refine eS (small (by lia)) ?_;walk_at "";rw[show ((z.length:Nat):Int)+1=((z.length+1:Nat):Int) by lia];refine .inl ⟨a,ws,c,z.length+1,rfl,by lia,by lia,pl _ H4 (by lia) (by lia) s24,λ_ dA asA H5 s5 ndA nasA hA=>?_,λhgt=>by lia⟩;walk_at "";obtain ⟨T,hT,hall⟩:=Iy hU hm z1 D.c1 hc hg hin;refine Ds (ns:=bI (bA ws c z.length)) (f:=bA ws c (z.length+1)) D (cU hU z1 (jG hU D.c1 hc hg) 300).nd (by rw[fA];exact hsm) (λx hx=>?_) (λx hx y hy=>dF hsm hx hy) (by lia) hall (s24.trans s5) (s5 _ _ hl4) hA (none_of s24 ndA) (cU hU (by lia) (jG hU D.c1 hc hg) 300).nd (λp hp=>?_) (λt r H' k1 k2 k3=>q t r H' k1 k2 (by unfold dst;rw[aO];exact k3))
 ·obtain ⟨p,hp,rfl⟩:=mem_map.mp hx;obtain ⟨p1,p2,_⟩:=(cU hU z1 (jG hU D.c1 hc hg) 300).ok p hp;exact ⟨p2,by lia,by lia⟩
 ·obtain ⟨⟨p1,p2⟩,p3,p4⟩:=GW hU z1 D.c1 hc hg hsm 300 p.1 (mem_map.mpr ⟨p,hp,rfl⟩);obtain ⟨_,_,p5⟩:=(cU hU (by lia) (jG (L:=z.length+1) hU D.c1 hc hg) 300).ok p hp;refine ⟨by lia,by lia,by rw[p1];exact p3,p4,λx hx=>?_,by rw[p5];have:=hU.four;lia⟩;obtain ⟨b1,b2⟩:=oZ hU Io 300 p hp x hx;exact EO (n:=500) (k:=300) b1 b2 (by decide) (by decide)
open L2.Na.K31
noncomputable def Wk (m s k:Nat) (w:Str):Prop:=fG m w/\1<=w.length/\w.length<=100/\97+(k+1) % m∈ls w/\(k=s->∃y,ls w=(97+s)::y/\97+(s+1) % m∈y)
theorem QP {z:Str} {k:Nat} (h:k<=z.length):ls (Txt.slice z (some ((k:Nat):Int)) none)=(ls z).drop k:=by
 show (Txt.slice z (some ((k:Nat):Int)) none).cps.toList=_;rw[gH (by lia) (by lia),toNat_natCast]
theorem Ei {z:Str} {k:Nat}:ls (Txt.slice z none (some ((k:Nat):Int)))=(ls z).take k:=by
 show (Txt.slice z none (some ((k:Nat):Int))).cps.toList=_;rw[cV (by lia),toNat_natCast]
theorem cut_str {ws:List Str} {c N g L:Nat} (h:g+L<=N):Txt.slice (aG (str ws c 0 N)) (some ((g:Nat):Int)) (some ((g:Nat)+(L:Nat):Int))=aG (str ws c g L):=by
 rw[pE (by rw[aV,str_len];exact h),aQ,bN ws c 0 N g L h,zero_add]
noncomputable def hV (K:Fg):Sp:=λvs H Q _=>∃(r:Addr) (x y:Int),vs=[.ref r]/\H r=some (.tup [.int x,.int y])/\0<x/\0<=y/\∀H',aC H H'->Q (.bl true) H'
noncomputable def jJ (K:Fg):List (SX K):=
 [qF (Ky (vJ (Jx (var 0) CT)) [cmp .NotEq (len (var 0)) (cst (.int 2))]) [ret (cst (.bl false))] [],
  ret (zX (call "_law_whole" (gG K) [ix (var 0) (cst (.int 0))]) [call "_law_whole" (gG K) [ix (var 0) (cst (.int 1))],cmp .Gt (ix (var 0) (cst (.int 0))) (cst (.int 0)),cmp .GtE (ix (var 0) (cst (.int 1))) (cst (.int 0))])]
theorem rM:TT (hV K) (jJ K) ["_law_found"]:=by
 intro vs H Q E h;obtain ⟨r,x,y,rfl,hr,x0,y0,q⟩:=h;have hsq:cZ K H r [.int x,.int y]:=cZ.of hr;unfold jJ;walk_at "";refine ⟨_,_,iP.tup hr,Le,?_⟩;walk_at "";refine tN ?_;walk_at "";refine tN ?_;walk_at "";refine sY (v:=.int x) hsq rfl ?_;walk_at "";refine ⟨_,rfl,?_⟩;walk_at "";refine IH ?_;walk_at "";refine sY (v:=.int y) hsq rfl ?_;walk_at "";refine ⟨_,rfl,?_⟩;walk_at "";refine IH ?_;walk_at "";refine sY (v:=.int x) hsq rfl ?_;walk_at "";refine fT (λ_=>?_) λz=>absurd x0 z;walk_at "";refine sY (v:=.int y) hsq rfl ?_;walk_at "";rw[decide_eq_true (show y>=0 from y0)];exact q H (aC.refl _)
theorem rD {ws:List Str} {c L n N y i:Nat}:StrLaws.At (aG (str ws c y N)) (aG (str ws c n L)) (aG (str ws c y N)).length i↔i+L<=N/\str ws c (y+i) L=str ws c n L:=by
 unfold StrLaws.At;rw[aV,aV,str_len,str_len,StrLaws.subAt_eq,aV,str_len];show i+L<=N/\((ls (aG (str ws c y N))).drop i).take L==ls (aG (str ws c n L))↔_;rw[aQ,aQ,beq_iff_eq];refine and_congr_right λh=>?_;rw[bN ws c y N i L h]
theorem TY {E:XS} {σ:St} {H:Hp} {Q:VK} {o a b:EX K} {ho:o.s≠.zc} (h:o.t E σ H λx H1=>RS nZ (fL [a,b] E) x σ H1 Q):(DL o a b ho).t E σ H Q:=h
theorem MW {H:Hp} {Q:VK} {z y:Str} {i:Int} (h:Q (.int (Txt.find3 z y i)) H):nZ z [.str y,.int i] H Q:=h
structure Dw (K:Fg) (H:Hp) (a:Addr) (ws:List Str) (c L:Nat):Prop where
 rl:Rl K H a ws 100
 c1:97<=c
 c2:c - 97<ws.length
 gr:aJ ws c=true
 mx:PM ws=true
 l1:1<=L
 l20:L<=20
 few:(bA ws c L).length<=300
 few2:(bA ws c (L+1)).length<=300
 big:((2 ^ 100:Nat):Int)<=sz ws 400 c
theorem Dw.same {H H':Hp} {a:Addr} {ws:List Str} {c L:Nat} (h:Dw K H a ws c L) (e:aC H H'):Dw K H' a ws c L:=⟨h.rl.same e,h.c1,h.c2,h.gr,h.mx,h.l1,h.l20,h.few,h.few2,h.big⟩
noncomputable abbrev Tn (ws:List Str) (c g L t:Nat):Prop:=Jm ws (str ws c g L) (bI (bA ws c L)) t
theorem Dw.ask {H:Hp} {a:Addr} {ws:List Str} {c g L:Nat} {Q:VK} {E:XK} (ko:KO K) (h:Dw K H a ws c L) (q:∀(t:Nat) (r:Addr) (H':Hp),Tn ws c g L t->aC H H'->H' r=some (.tup [.int (dst ws c (str ws c g L) t).1,.int (dst ws c (str ws c g L) t).2])->Q (.ref r) H'):hX K [.ref a,sgn c,.str (aG (str ws c g L))] H Q E:=by
 have e1:(aG (str ws c g L)).length=L:=by rw[aV,str_len]
 have e2:ls (aG (str ws c g L))=str ws c g L:=aQ _;have l1:=h.l1;have l20:=h.l20;refine ⟨a,ws,c,_,rfl,⟨h.rl.rt,h.rl.ru,h.c1,by lia,by lia,ko⟩,h.gr,h.c2,h.mx,?_,?_,?_,λt r H' k1 k2 k3=>?_⟩
 ·rw[e1];exact h.few
 ·rw[e1,e2];exact rE h.rl.ru h.l1 h.c1 h.c2 h.gr h.few g
 ·rw[e1];exact h.few2
 ·rw[e1,e2] at k1;rw[e2] at k3;exact q t r H' k1 k2 k3
theorem Dw.told {H:Hp} {a:Addr} {ws:List Str} {c g L t:Nat} (h:Dw K H a ws c L) (ht:Tn ws c g L t):∃(ns:List Nat) (x y:Nat),dst ws c (str ws c g L) t=((x:Int),(y:Int))/\bA ws c (L+1)=ns.map (dC ws c (L+1))/\0<x/\Gp (λq=>str ws c q L=str ws c g L) y x/\Wg (GN ws c L t (str ws c g L) ns) x y:=by
 have r:=IU h.rl.ru h.l1 h.c1 h.c2 h.gr (p:=str ws c g L) (t:=t) λn=>ht.1 _ (rE h.rl.ru h.l1 h.c1 h.c2 h.gr h.few n);unfold dst;rw[str_len];exact r
theorem Dw.pl {H:Hp} {a:Addr} {ws:List Str} {c L:Nat} (h:Dw K H a ws c L) {n:Nat} (hn:n<2 ^ 100):Pl K H a ws c (n:Nat):=⟨h.rl.rt,h.rl.ru,h.c1,h.c2,h.gr,by lia,400,by lia,by have:=h.big;lia⟩
noncomputable abbrev FX:List (List Str × Nat):=[(R0,20),(R1,20),(K31.R2,20),(R3,9),(R4,20),(R5,20),(R6,12),(R7,20),(R8,20),(R9,12)]
theorem Ii:∀p∈FX,PM p.1=true:=by decide+kernel
theorem Bd:∀p∈FX,((2 ^ 100:Nat):Int)<=sz p.1 400 97:=by decide+kernel
theorem Ij {i:Nat} {p:List Str × Nat} (h:FX[i]?=some p):FW[i]?=some p:=by
 have hi:i<10:=(List.getElem?_eq_some_iff.mp h).1;have e:(FX++[(Kb,20),(Ka,20)])[i]?=some p:=by rw[getElem?_append_left hi];exact h
 exact e
theorem Bc:∀p∈FX,2<=p.2:=by decide
theorem Kr:V.str (Str.ofString "a")=sgn 97:=congrArg V.str (by decide+kernel)
structure KF (K:Fg):Prop where
 n_NoStart:PySem.W.nsIn K mainGlobals "NoStart"=some (some (.ref (clsAt K "NoStart")))
 n_TooGreat:PySem.W.nsIn K mainGlobals "TooGreat"=some (some (.ref (clsAt K "TooGreat")))
 ini:Ci K "TooGreat" "self" "most" "most"
 e_NoStart:Cj K "NoStart"
 n_Sight:PySem.W.nsIn K mainGlobals "Sight"=some (some (.ref (clsAt K "Sight")))
 cl:IJ K (clsAt K "Sight")
 n1:bX K (clsAt K "Sight") "size"
 n2:bX K (clsAt K "Sight") "first"
 n3:bX K (clsAt K "Sight") "last"
 n4:bX K (clsAt K "Sight") "gap"
 n5:bX K (clsAt K "Sight") "place"
theorem KF.ko (kf:KF K):KO K:=⟨kf.cl,kf.n1,kf.n2,kf.n3,kf.n4,kf.n5⟩
noncomputable def pB (K:Fg):Sp:=λvs H Q _=>∃n:Int,vs=[.int n]/\0<=n/\∀(l:Addr) (i:Nat) (p:List Str × Nat) (H':Hp),aC H H'->FX[i]?=some p->Fw H' p l->Q (.ref l) H'
noncomputable def tY (K:Fg):List (SX K):=
 [set 1 (lst [lst [tup [cst (.str "ab"),cst (.str "a")],cst (.int 20)],lst [tup [cst (.str "ab"),cst (.str "ba")],cst (.int 20)],lst [tup [cst (.str "aab"),cst (.str "ab")],cst (.int 20)],lst [tup [cst (.str "abc"),cst (.str "ac"),cst (.str "b")],cst (.int 9)]]),
  set 1 (bin .Add (var 1) (lst [lst [tup [cst (.str "abb"),cst (.str "ab")],cst (.int 20)],lst [tup [cst (.str "abc"),cst (.str "bca"),cst (.str "cab")],cst (.int 20)],lst [tup [cst (.str "ab"),cst (.str "cd"),cst (.str "ad"),cst (.str "cb")],cst (.int 12)]])),
  set 1 (bin .Add (var 1) (lst [lst [tup [cst (.str "abab"),cst (.str "a")],cst (.int 20)],lst [tup [cst (.str "ab"),cst (.str "c"),cst (.str "a")],cst (.int 20)]])),
  set 1 (bin .Add (var 1) (lst [lst [tup [cst (.str "ab"),cst (.str "ca"),cst (.str "cd"),cst (.str "ac")],cst (.int 12)]])),
  ret (ix (var 1) (bin .Mod (var 0) (cst (.int 10))))]
noncomputable abbrev F5:List (List Str × Nat):=[(R9,12)]
noncomputable def WM (K:Fg):List (SX K):=[set 1 (lst (F1.map el)),set 1 (bin .Add (var 1) (lst (F2.map el))),set 1 (bin .Add (var 1) (lst (F3.map el))),set 1 (bin .Add (var 1) (lst (F5.map el))),ret (ix (var 1) (bin .Mod (var 0) (cst (.int 10))))]
theorem Bg:tY K=WM K:=rfl
theorem FN:TT (pB K) (tY K) ["_law_number","_law_some"]:=by
 intro vs H Q E h;obtain ⟨n,rfl,n0,q⟩:=h;rw[Bg];unfold WM
 (with_reducible refine mX ?_)
 refine sX ?_;refine WC (ps:=F1) (by decide) (by decide) λl1 ls1 H1 s1 f1=>?_
 (with_reducible refine mX ?_)
 refine sX ?_;refine BR (ps:=F1) (qs:=F2) rfl f1 (by decide) (by decide) λl2 ls2 H2 s2 f2=>?_
 (with_reducible refine mX ?_)
 refine sX ?_;refine BR (ps:=F1++F2) (qs:=F3) rfl f2 (by decide) (by decide) λl3 ls3 H3 s3 f3=>?_
 (with_reducible refine mX ?_)
 refine sX ?_;refine BR (ps:=F1++F2++F3) (qs:=F5) rfl f3 (by decide) (by decide) λl4 ls4 H4 s4 f4=>?_;have fl:(F1++F2++F3++F5)=FX:=rfl;rw[fl] at f4;walk_at "";have m0:=emod_nonneg n (show (10:Int)≠0 by decide);have m1:=emod_lt_of_pos n (show (0:Int)<10 by decide);obtain ⟨i,hi⟩:∃i:Nat,n % 10=(i:Int):=⟨(n % 10).toNat,by lia⟩;have hl:ls4.length=10:=f4.n;have hx:ls4[i]?=some (ls4[i]'(by lia)):=List.getElem?_eq_getElem _;have hy:FX[i]?=some (FX[i]'(by show i<10;lia)):=List.getElem?_eq_getElem _;refine gS (aP.of f4.l) (v:=.ref (ls4[i]'(by lia))) (by rw[hi];exact gN (by rw[getElem?_map,hx];rfl)) ?_;exact q _ i _ H4 (((s1.trans s2).trans s3).trans s4) hy (f4.f i _ _ hx hy)
section
variable {Q:VK} {E:XK} {a:Addr} {ws:List Str} {c g L t:Nat} {v0 v1 v2 v6 v7 v9 v10 v11:Option V}
end
end L2.Na.K42
namespace L2.Na.K43
open PySem PySem.Spec PyProof.Rows L2 L2.L3 L2.Na.Pr L2.Na.K41 L2.Na.K31 L2.Na.K25 L2.Na.K42
variable {K:Fg}
noncomputable def jE (K:Fg):Sp:=λvs H Q _=>∃(d:Addr) (m:Int) (st:Nat) (mo:Int),vs=[.ref d,.int m,.int (st:Nat),.int mo]/\Dr H d/\1<=m/\m<=4/\(st:Int)<m/\1<=mo/\mo<=10/\
 ∀(p:Addr) (ws:List Str) (H':Hp),Off d H H'->Dr H' d->Rl K H' p ws 100->ws.length=m.toNat->AD ws st->Q (.ref p) H'
noncomputable def OM (K:Fg):List (SX K):=
 qF (cmp .Eq (var 5) (var 2)) [set 6 (bin .Add (ix (cst (.str "abcd")) (var 2)) (var 6))] []::
   [ex (cF (var 4) (var 6))]
noncomputable def lH (K:Fg):List (SX K):=
 [set 4 (lst []),
  jP (gR 5) (rT (var 1) []) (set 6 (call "_law_word" (K25.mP K) [var 0,var 1,bin .Mod (call "_law_next" (aS K) [var 0]) (var 3)])::
   set 7 (bin .Mod (call "_law_next" (aS K) [var 0]) (bin .Add (len (var 6)) (cst (.int 1))))::
   set 6 (bin .Add (bin .Add (uT (var 6) none (some (var 7))) (ix (cst (.str "abcd")) (bin .Mod (bin .Add (var 5) (cst (.int 1))) (var 1)))) (uT (var 6) (some (var 7)) none))::OM K),
  ret (JJ (var 4))]
noncomputable def Cv (m s i:Nat) (ws:List Str):Prop:=ws.length=i/\∀(k:Nat) (w:Str),ws[k]?=some w->Wk m s k w
theorem Cv.snoc {m s i:Nat} {ws:List Str} {x:Str} (h:Cv m s i ws) (hx:Wk m s i x):Cv m s (i+1) (ws++[x]):=by
 have hl:=h.1;refine ⟨by rw[length_append,hl];rfl,λk w hw=>?_⟩;by_cases hk:k<ws.length
 ·rw[getElem?_append_left hk] at hw;exact h.2 k w hw
 ·rw[getElem?_append_right (by lia)] at hw;have hk2:k=i:=by
   have:=(List.getElem?_eq_some_iff.mp hw).1;simp at this;lia
  subst hk2;rw[hl,sub_self] at hw;cases hw;exact hx
theorem Dl {D:Ends} {E:XK} {H H':Hp} {d p:Addr} {m:Int} {st i:Nat} {ws:List Str} {y:Str} {v3 v7:Option V} (m1:1<=m) (m4:m<=4) (hst:(st:Int)<m) (hi:(i:Int)<m) (hp0:H p=none) (hdp:d≠p) (ho:Off d H H') (hd:Dr H' d) (hW:Cv m.toNat st i ws) (hpl:H' p=some (.lst (ws.map V.str)))
  (wx:fG m.toNat y) (y1:1<=y.length) (y2:y.length<=50) (mx:97+(i+1) % m.toNat∈ls y)
  (q:∀(us:List Str) (b6:Option V) (H2:Hp),Off d H H2->Dr H2 d->Cv m.toNat st (i+1) us->H2 p=some (.lst (us.map V.str))->D.nx [some (.ref d),some (.int m),some (.int (st:Nat)),v3,some (.ref p),some (.int (i:Nat)),b6,v7] H2):
  gY (OM K) (λ_=>E) D [some (.ref d),some (.int m),some (.int (st:Nat)),v3,some (.ref p),some (.int (i:Nat)),some (.str y),v7] H':=by
 have fin:∀(x:Str),Wk m.toNat st i x->gY ([ex (cF (var 4) (var 6))]:List (SX K)) (λ_=>E) D [some (.ref d),some (.int m),some (.int (st:Nat)),v3,some (.ref p),some (.int (i:Nat)),some (.str x),v7] H':=λx hx=>by
  walk_at "";refine BV (aP.of hpl) ?_;walk_at "";refine eC hpl (by rw[length_map,hW.1];exact Nat.lt_of_lt_of_le (show i<100 by lia) (small (by decide))) ?_;exact q (ws++[x]) _ _ (Off.other ho hp0) (Dr.off hd hdp) (hW.snoc hx) (by rw[aA,map_append];rfl)
 unfold OM;walk_at "";refine fT (λc=>?_) λc=>?_
 ·walk_at "";refine qH (by rw[iO];decide) (oM (m:=m) (by lia) hst m4) ?_;rw[toNat_natCast];walk_at "";refine BU (y:=⟨#[97+st]⟩) (small (by show 1+y.length<=1000000;lia)) ?_;have es:i=st:=by lia
  subst es;have lz:((⟨#[97+i]⟩:Str)++y).length=1+y.length:=by rw[len_app];rfl
  exact fin _ ⟨(fG.sgn (by lia) (by lia)).app wx,by lia,by lia,by rw[mB];exact mem_append.mpr (.inr mx),λ_=>⟨ls y,by rw[mB];rfl,mx⟩⟩
 ·exact fin _ ⟨wx,by lia,by lia,mx,λe=>absurd (show ((i:Nat):Int)=((st:Nat):Int) by lia) c⟩
theorem uL:TT (jE K) (lH K) ["_law_drawn","_law_many","_law_start","_law_most","_law_words","_law_k","_law_word_here","_law_at"]:=by
 intro vs H Q E h;obtain ⟨d,m,st,mo,rfl,hd,h1,h4,hst,mo1,mo2,q⟩:=h;unfold lH;walk_at "";refine ⟨zero_le _,λp hp=>?_⟩;have hdp:d≠p:=let ⟨o,e⟩:=Dr.some hd;aB e hp;walk_at "";refine eP (λi σ H'=>Off d H H'/\Dr H' d/\∃(ws:List Str) (a5 a6 a7:Option V),Cv m.toNat st i ws/\H' p=some (.lst (ws.map V.str))/\σ=[some (.ref d),some (.int m),some (.int (st:Nat)),some (.int mo),some (.ref p),a5,a6,a7])
  ⟨Off.other (Off.refl d H) hp,Dr.off hd hdp,[],none,none,none,⟨rfl,λk w hw=>by cases hw⟩,aA,rfl⟩ (λi σ H' hi hP=>?_) λσ H' hP=>?_
 ·obtain ⟨hOf,hDr,ws,a5,a6,a7,hW,hpl,rfl⟩:=hP;have e0:(0:Int)+((i:Nat):Int)=((i:Nat):Int):=by lia
  rw[e0];walk_at "";refine ⟨d,rfl,hDr,λv H2 hO2 hD2 v0 v1=>?_⟩;have w1:=emod_nonneg v (show mo≠0 by lia);have w2:=emod_lt_of_pos v (show 0<mo by lia);walk_at "";refine ⟨d,m,_,rfl,hD2,h1,h4,by lia,by lia,λz H3 hO3 hD3 hz hzl=>?_⟩;walk_at "";refine ⟨d,rfl,hD3,λn H4 hO4 hD4 n0 n1=>?_⟩;walk_at "";refine eS (small (by lia)) ?_;walk_at "";obtain ⟨g,hg,hgl⟩:∃g:Nat,n % (((z.length:Nat):Int)+1)=((g:Nat):Int)/\g<=z.length:=by
   have e1:=emod_nonneg n (show (((z.length:Nat):Int)+1)≠0 by lia);have e2:=emod_lt_of_pos n (show (0:Int)<((z.length:Nat):Int)+1 by lia);exact ⟨(n % (((z.length:Nat):Int)+1)).toNat,by lia,by lia⟩
  rw[hg];have l1:(Txt.slice z none (some ((g:Nat):Int))).length=g:=by
   rw[<-aO,Ei,length_take,aO];lia
  have l2:(Txt.slice z (some ((g:Nat):Int)) none).length=z.length - g:=by
   rw[<-aO,QP hgl,length_drop,aO]
  refine eR (small (by lia)) ?_;walk_at "";have d1:=emod_nonneg (((i:Nat):Int)+1) (show m≠0 by lia);have d2:=emod_lt_of_pos (((i:Nat):Int)+1) (show 0<m by lia);refine qH (by rw[iO];decide) (oM d1 d2 h4) ?_;refine BU (z:=⟨#[97+((((i:Nat):Int)+1) % m).toNat]⟩) (small (by rw[l1];show g+1<=1000000;lia)) ?_;walk_at "";refine eR (small (by lia)) ?_;have l3:(Txt.slice z none (some ((g:Nat):Int))++(⟨#[97+((((i:Nat):Int)+1) % m).toNat]⟩:Str)).length=g+1:=by
   rw[len_app,l1];rfl
  refine BU (small (by lia)) ?_;have wx:fG m.toNat (Txt.slice z none (some ((g:Nat):Int))++(⟨#[97+((((i:Nat):Int)+1) % m).toNat]⟩:Str)++Txt.slice z (some ((g:Nat):Int)) none):=((hz.to (by lia)).app (fG.sgn (by lia) (by lia))).app (hz.from (by lia) (by lia));have lx:(Txt.slice z none (some ((g:Nat):Int))++(⟨#[97+((((i:Nat):Int)+1) % m).toNat]⟩:Str)++Txt.slice z (some ((g:Nat):Int)) none).length=z.length+1:=by
   rw[len_app,l3,l2];lia
  have ex:((((i:Nat):Int)+1) % m).toNat=(i+1) % m.toNat:=by
   have:((((i+1) % m.toNat:Nat)):Int)=(((i:Nat):Int)+1) % m:=by
    rw[Int.natCast_emod]
    congr 1<;>lia
   lia
  have mx:97+(i+1) % m.toNat∈ls (Txt.slice z none (some ((g:Nat):Int))++(⟨#[97+((((i:Nat):Int)+1) % m).toNat]⟩:Str)++Txt.slice z (some ((g:Nat):Int)) none):=by
   rw[mB,mB,ex];exact mem_append.mpr (.inl (mem_append.mpr (.inr mem_cons_self)))
  revert wx lx mx;generalize Txt.slice z none (some ((g:Nat):Int))++(⟨#[97+((((i:Nat):Int)+1) % m).toNat]⟩:Str)++Txt.slice z (some ((g:Nat):Int)) none=y;intro wx lx mx;have hOH:=Off.trans' hOf (Off.trans' hO2 (Off.trans' hO3 hO4));have hpl4:=hO4 _ _ hdp.symm (hO3 _ _ hdp.symm (hO2 _ _ hdp.symm hpl));walk_at "";exact Dl h1 h4 hst (by lia) hp hdp hOH hD4 hW hpl4 wx (by lia) (by lia) mx λus b6 H5 k1 k2 k3 k4=>⟨k1,k2,us,_,_,_,k3,k4,rfl⟩
 ·obtain ⟨hOf,hDr,ws,a5,a6,a7,hW,hpl,rfl⟩:=hP;walk_at "";refine .inl ⟨_,aP.of hpl,λt ht=>?_⟩;have hml:ws.length=m.toNat:=hW.1;have hw2:∀w∈ws,∃k,ws[k]?=some w/\Wk m.toNat st k w:=λw hm=>by
   obtain ⟨k,hk⟩:=getElem?_of_mem hm;exact ⟨k,hk,hW.2 k w hk⟩
  have hdt:d≠t:=let ⟨o,e⟩:=Dr.some hDr;aB e ht;refine q t ws _ (λb u hb e=>aE ht _ _ _ (hOf b u hb e)) (Dr.off hDr hdt) ⟨aA,by lia,by lia,λw hm=>?_,λw hm=>?_,λw hm=>?_⟩ hml ⟨λk w hk=>?_,λw hk=>?_,by lia⟩
  ·obtain ⟨k,_,x⟩:=hw2 w hm;rw[hml];exact x.1
  ·obtain ⟨k,_,x⟩:=hw2 w hm;exact x.2.1
  ·obtain ⟨k,_,x⟩:=hw2 w hm;exact x.2.2.1
  ·rw[hml];exact (hW.2 k w hk).2.2.2.1
  ·rw[hml];exact (hW.2 st w hk).2.2.2.2 rfl
noncomputable def kF (K:Fg):Sp:=λvs H Q _=>∃(ws:List Str) (c m:Nat) (d:Addr),vs=[.str (aG (str ws c 0 400)),.ref d,.int (m:Nat)]/\Dr H d/\1<=m/\m<=4/\∀(g L:Nat) (H':Hp),Off d H H'->Dr H' d->g<60->1<=L->L+1<=[20,8,5,4].getD (m - 1) 0->Q (.str (aG (str ws c g L))) H'
noncomputable def nF (K:Fg):List (SX K):=
 [set 3 (bin .Add (cst (.int 1)) (bin .Mod (call "_law_next" (aS K) [var 1]) (ix (lst [cst (.int 12),cst (.int 5),cst (.int 3),cst (.int 2)]) (bin .Sub (var 2) (cst (.int 1)))))),
  set 4 (bin .Mod (call "_law_next" (aS K) [var 1]) (cst (.int 60))),
  ret (uT (var 0) (some (var 4)) (some (bin .Add (var 4) (var 3))))]
theorem xD:TT (kF K) (nF K) ["_law_word_here","_law_drawn","_law_many","_law_size","_law_at"]:=by
 intro vs H Q E h;obtain ⟨ws,c,m,d,rfl,hd,m1,m4,q⟩:=h;unfold nF;walk_at "";refine ⟨d,rfl,hd,λn H1 o1 d1 n0 _=>?_⟩;walk_at "";refine ⟨by show 4<=sizeLine;decide,λl nl=>?_⟩;have s2:=aE nl (.lst [V.int 12,.int 5,.int 3,.int 2]);walk_at "";obtain ⟨e,he,e1,e2,e3⟩:∃e:Nat,rX [V.int 12,.int 5,.int 3,.int 2] (((m:Nat):Int) - 1)=some (.int (e:Nat))/\1<=e/\e<=12/\e+1<=[20,8,5,4].getD (m - 1) 0:=by
  have:m=1\/m=2\/m=3\/m=4:=by lia
  rcases this with rfl|rfl|rfl|rfl
  ·exact ⟨12,rfl,by decide,by decide,by decide⟩
  ·exact ⟨5,rfl,by decide,by decide,by decide⟩
  ·exact ⟨3,rfl,by decide,by decide,by decide⟩
  ·exact ⟨2,rfl,by decide,by decide,by decide⟩
 refine gS (aP.of aA) he ?_;refine VZ (by lia) ?_;walk_at "";have a1:=emod_nonneg n (show ((e:Nat):Int)≠0 by lia);have a2:=emod_lt_of_pos n (show 0<((e:Nat):Int) by lia);obtain ⟨L,hL⟩:∃L:Nat,1+n % ((e:Nat):Int)=(L:Int):=⟨(1+n % ((e:Nat):Int)).toNat,by lia⟩;rw[hL];refine ⟨d,rfl,d1.same s2,λw H3 o3 d3 w0 _=>?_⟩;walk_at "";obtain ⟨g,hg⟩:∃g:Nat,w % 60=(g:Int):=⟨(w % 60).toNat,by lia⟩;rw[hg];refine eR (small (by rw[aV,str_len];decide)) ?_;rw[cut_str (by lia)];exact q g L _ (Off.trans' o1 (Off.trans' (aC.off s2) o3)) d3 (by lia) (by lia) (by lia)
noncomputable def Mp (P:Nat->Prop) (x y:Nat):Prop:=(∀i d,Gp P i d->d<x\/(d=x/\y<=i))/\∀h,P h->∃d,Gp P h d
theorem CA {ws:List Str} {c L g N h:Nat} (hh:str ws c h L=str ws c g L) (hN:h+L<=N):
  (Txt.find3 (aG (str ws c 0 N)) (aG (str ws c g L)) ((h:Int)+1)=-1/\∀d,Gp (λq=>str ws c q L=str ws c g L) h d->N<h+d+L)\/
  ∃d,Txt.find3 (aG (str ws c 0 N)) (aG (str ws c g L)) ((h:Int)+1)=((h+d:Nat):Int)/\Gp (λq=>str ws c q L=str ws c g L) h d/\h+d+L<=N:=by
 unfold Txt.find3;rw[show fromIndex (aG (str ws c 0 N)).length ((h:Int)+1)=h+1 by unfold fromIndex;rw[if_neg (by lia)];lia];rcases StrLaws.occ_head_from (aG (str ws c 0 N)) (aG (str ws c g L)) (h+1) 1 (Nat.le_refl _) with ⟨e,k⟩|⟨i,r,e,i1,k,k2⟩
 ·refine .inl ⟨by rw[e],λd G=>lt_of_not_le λhle=>k (h+d) (by have:=G.1;lia) (rD.mpr ⟨hle,?_⟩)⟩;rw[zero_add];exact G.2.2.1
 ·obtain ⟨a1,a2⟩:=rD.mp k;rw[zero_add] at a2;refine .inr ⟨i - h,by rw[e,show h+(i - h)=i by lia],⟨by lia,hh,by show str ws c (h+(i - h)) L=_;rw[show h+(i - h)=i by lia];exact a2,λj j1 j2 hP=>k2 j (by lia) (by lia) (rD.mpr ⟨by lia,by rw[zero_add];exact hP⟩)⟩,by lia⟩
theorem HJ {ws:List Str} {c L g N:Nat}:Txt.find (aG (str ws c 0 N)) (aG (str ws c g L))=-1\/∃h:Nat,Txt.find (aG (str ws c 0 N)) (aG (str ws c g L))=(h:Int)/\str ws c h L=str ws c g L/\h+L<=N:=by
 rcases find_whole (aG (str ws c 0 N)) (aG (str ws c g L)) with ⟨e,_⟩|⟨i,e,k,_⟩
 ·exact .inl e
 ·obtain ⟨a1,a2⟩:=rD.mp k;rw[zero_add] at a2;exact .inr ⟨i,e,a2,a1⟩
theorem SD {ws:List Str} {c L g n m q:Nat} (h1:n<=q) (h2:q+L<=n+m) (hq:str ws c q L=str ws c g L):(!(Builtin.Str.occurrences (aG (str ws c n m)) (aG (str ws c g L)) 0 (aG (str ws c n m)).length 1).isEmpty)=true:=by
 refine (StrLaws.found_iff _ _).mpr ⟨q - n,?_⟩;exact rD.mpr ⟨by lia,by rw[show n+(q - n)=q by lia];exact hq⟩
theorem TV {H:Hp} {Q:VK} {z y:Str} (h:Q (.int (Txt.find z y)) H):vD z [.str y] H Q:=h
noncomputable def mQ (K:Fg):Sp:=λvs H Q _=>∃(ws:List Str) (c g L N x y:Nat),vs=[.str (aG (str ws c 0 N)),.str (aG (str ws c g L)),.int (x:Nat),.int (y:Nat)]/\N<=1000/\L<=1000/\Mp (λq=>str ws c q L=str ws c g L) x y/\∀H',aC H H'->Q (.bl true) H'
noncomputable def rA (K:Fg):List (SX K):=
 [set 4 (m_find (var 0) (var 1)),
  WV (cmp .GtE (var 4) (cst (.int 0))) [set 5 (DL (var 0) (var 1) (bin .Add (var 4) (cst (.int 1)))),
   qF (cmp .Lt (var 5) (cst (.int 0))) [ret (cmp .Lt (bin .Sub (bin .Sub (len (var 0)) (len (var 1))) (var 4)) (var 2))] [],
   qF (Ky (cmp .Gt (bin .Sub (var 5) (var 4)) (var 2)) [zX (cmp .Eq (bin .Sub (var 5) (var 4)) (var 2)) [cmp .Lt (var 4) (var 3)]]) [ret (cst (.bl false))] [],
   set 4 (var 5)],
  ret (cst (.bl true))]
theorem AO:TT (mQ K) (rA K) ["_law_word_here","_law_piece_here","_law_far","_law_place_here","_law_here","_law_after"]:=by
 intro vs H Q E h;obtain ⟨ws,c,g,L,N,x,y,rfl,hN,hL,B,q⟩:=h;have l1:(aG (str ws c 0 N)).length=N:=by rw[aV,str_len]
 have l2:(aG (str ws c g L)).length=L:=by rw[aV,str_len]
 unfold rA;walk_at "";refine Ao ?_;walk_at "";refine TV ?_;obtain ⟨f,hf⟩:∃f,Txt.find (aG (str ws c 0 N)) (aG (str ws c g L))=f:=⟨_,rfl⟩;have k0:=HJ (ws:=ws) (c:=c) (L:=L) (g:=g) (N:=N);rw[hf] at k0 ⊢;walk_at "";refine iU (λm σ H'=>H'=H/\∃(f:Int) (b5:Option V),σ=[some (.str (aG (str ws c 0 N))),some (.str (aG (str ws c g L))),some (.int (x:Nat)),some (.int (y:Nat)),some (.int f),b5]/\(f=-1\/∃h:Nat,f=(h:Int)/\m=N - h/\str ws c h L=str ws c g L/\h+L<=N)) (m:=N - f.toNat) ⟨rfl,f,none,rfl,k0.imp id λ⟨h,a,b,d⟩=>⟨h,a,by rw[a,toNat_natCast],b,d⟩⟩ ?_;rintro m σ H' ⟨rfl,f,b5,rfl,hf⟩;walk_at "";rcases hf with rfl|⟨h,rfl,rfl,hh,hhN⟩
 ·refine fT (λz=>absurd z (by decide)) λ_=>?_;walk_at "";exact q _ (aC.refl _)
 ·refine fT (λ_=>?_) λz=>absurd (show (0:Int)<=(h:Nat) by lia) (by lia);refine sD ?_;walk_at "";refine TY ?_;walk_at "";refine MW ?_;rcases CA (N:=N) hh hhN with ⟨e,k⟩|⟨d,e,G,k⟩
  ·rw[e];walk_at "";refine fT (λ_=>?_) λz=>absurd (show (-1:Int)<0 by decide) z;walk_at "";refine eS (small (by lia)) ?_;walk_at "";refine eS (small (by lia)) ?_;walk_at "";rw[l1,l2];obtain ⟨d,G⟩:=B.2 h hh;have a:=B.1 h d G;have b:=k d G;rw[decide_eq_true (show ((N:Nat):Int) - ((L:Nat):Int) - ((h:Nat):Int)<((x:Nat):Int) by lia)];exact q _ (aC.refl _)
  ·rw[e];have a:=B.1 h d G;walk_at "";refine fT (λz=>absurd z (by lia)) λ_=>?_;walk_at "";refine fT (λz=>absurd z (by lia)) λ_=>?_;walk_at "";have fin:∃m',m'<N - h/\H'=H'/\∃(f:Int) (b5':Option V),[some (V.str (aG (str ws c 0 N))),some (.str (aG (str ws c g L))),some (.int (x:Nat)),some (.int (y:Nat)),some (.int ((h+d:Nat):Int)),some (.int ((h+d:Nat):Int))]=[some (.str (aG (str ws c 0 N))),some (.str (aG (str ws c g L))),some (.int (x:Nat)),some (.int (y:Nat)),some (.int f),b5']/\(f=-1\/∃h':Nat,f=(h':Int)/\m'=N - h'/\str ws c h' L=str ws c g L/\h'+L<=N):=by
    have d0:=G.1;refine ⟨N - (h+d),by lia,rfl,_,_,rfl,.inr ⟨h+d,rfl,rfl,G.2.2.1,k⟩⟩
   refine fT (λz=>?_) λ_=>?_
   ·walk_at "";refine fT (λz2=>absurd z2 (by lia)) λ_=>?_;walk_at "";exact fin
   ·refine tN ?_;walk_at "";exact fin
open L2.Na.K44
theorem FF {H:Hp} {d a:Addr} {xs:List V} (h:Dr H d) (ha:H a=some (.tup xs)):a≠d:=by
 rintro rfl;obtain ⟨ys,e,_⟩:=h;rw[ha] at e;cases e
theorem rG {H H':Hp} {d a:Addr} {ws:List Str} {m:Nat} (h:Rl K H a ws m) (e:Off d H H') (n:a≠d):Rl K H' a ws m:=⟨e _ _ n h.tp,h.pos,h.four,h.isw,h.one,h.le⟩
theorem Cm {H H':Hp} {d a:Addr} {ws:List Str} {c L:Nat} (h:Dw K H a ws c L) (e:Off d H H') (n:a≠d):Dw K H' a ws c L:=⟨rG h.rl e n,h.c1,h.c2,h.gr,h.mx,h.l1,h.l20,h.few,h.few2,h.big⟩
theorem Cn {H:Hp} {a:Addr} {ws:List Str} {c g L t:Nat} (h:Dw K H a ws c L) (ht:Tn ws c g L t):∃x y:Nat,dst ws c (str ws c g L) t=((x:Int),(y:Int))/\0<x/\Mp (λq=>str ws c q L=str ws c g L) x y:=by
 obtain ⟨ns,x,y,ed,ea,x0,_,W⟩:=h.told ht;have hb:∀n,bt ws (str ws c g L) t (str ws c n L)=true:=λn=>ht.1 _ (rE h.rl.ru h.l1 h.c1 h.c2 h.gr h.few n);exact ⟨x,y,ed,x0,λi d G=>OW h.rl.ru h.l1 h.c1 h.c2 h.gr hb h.few2 ea W G,λk hk=>again h.rl.ru h.l1 h.c1 h.c2 h.gr hb hk⟩
theorem ZU {z y:Str} {H:Hp} {QB:Bool->Hp->Prop} (h:QB (!(!(Builtin.Str.occurrences y z 0 y.length 1).isEmpty)) H):rB (eL K .NotIn) (.str z) (.str y) H QB:=h
noncomputable def uP (K:Fg):Sp:=λvs H Q _=>∃(a:Addr) (ns:List Int),vs=[.ref a]/\K42.KF K/\aP K H a (ns.map V.int)/\ns.length<=63/\∀H',Q (.bl true) H'
noncomputable def ON (K:Fg):List (SX K):=
 jP (gR 13) (rT (cst (.int 7)) []) [set 14 (bin .Add (cst (.int 400)) (call "_law_place" (kE K) [var 1,bin .Pow (cst (.int 10)) (cst (.int 15))])),
   qF (zX (cmp .LtE (var 10) (cst (.int 600))) [cmp .NotIn (var 6) (call "stretch_at" (Pr.bT K) [var 4,var 3,var 14,var 12])]) [ret (cst (.bl false))] []]::
  [ret (cst (.bl true))]
noncomputable def WL (K:Fg):List (SX K):=
 qF (vJ (call "_law_near" (mQ K) [var 5,var 6,var 10,var 11])) [ret (cst (.bl false))] []::
  set 12 (bin .Sub (bin .Add (var 10) (len (var 6))) (cst (.int 1)))::ON K
noncomputable def OO (K:Fg):List (SX K):=
 set 9 (call "distance" (K42.hX K) [var 4,var 3,var 6])::
  qF (vJ (call "_law_is_told" (hV K) [var 9])) [ret (cst (.bl false))] []::
  XM (JB [10,11]) (var 9)::WL K
noncomputable def OP (K:Fg):List (SX K):=
 qF (cmp .Eq (bin .Mod (call "_law_next" (aS K) [var 1]) (cst (.int 4))) (cst (.int 0))) [XM (Dh [4,7]) (call "_law_few" (K42.pB K) [call "_law_next" (aS K) [var 1]]),
   set 3 (cst (.str "a")),
   set 5 (call "_law_written" (eI K) [var 4,var 3,cst (.int 400)]),
   set 8 (bin .Mod (call "_law_next" (aS K) [var 1]) (cst (.int 60))),
   set 6 (uT (var 5) (some (var 8)) (some (bin .Add (bin .Add (var 8) (cst (.int 1))) (bin .Mod (call "_law_next" (aS K) [var 1]) (min2 (cst (.int 12)) (bin .Sub (var 7) (cst (.int 1))))))))] []::OO K
noncomputable def zT (K:Fg):List (SX K):=
 set 1 (call "_law_draws" (kH K) [var 0])::
  set 2 (bin .Add (cst (.int 1)) (bin .Mod (call "_law_next" (aS K) [var 1]) (cst (.int 4))))::
  set 3 (bin .Mod (call "_law_next" (aS K) [var 1]) (var 2))::
  set 4 (call "_law_mixing" (jE K) [var 1,var 2,var 3,cst (.int 4)])::
  set 3 (ix (cst (.str "abcd")) (var 3))::
  set 5 (call "_law_written" (eI K) [var 4,var 3,cst (.int 400)])::
  set 6 (call "_law_piece" (kF K) [var 5,var 1,var 2])::OP K
theorem Gg:∀vs H Q E,uP K vs H Q E->vs.length=1:=by
 rintro vs H Q E ⟨_,_,rfl,_⟩;rfl
section
variable {Q:VK} {E:XK} {a d:Addr} {ws:List Str} {c g L t:Nat} {v0 v2 v5 v7 v8 v9:Option V}
theorem Dm {H:Hp} {x y:Nat} {v11:Option V} (h:Dw K H a ws c L) (hd:Dr H d) (g400:g<400) (x0:0<x) (B:Mp (λq=>str ws c q L=str ws c g L) x y) (q:∀H',Q (.bl true) H'):
  gY (ON K) (λ_=>E) {nx:=λ_ H'=>Q .non H',rt:=Q} [v0,some (.ref d),v2,some (sgn c),some (.ref a),v5,some (.str (aG (str ws c g L))),v7,v8,v9,some (.int (x:Nat)),v11,some (.int ((x+L - 1:Nat):Int)),none,none] H:=by
 have had:a≠d:=FF hd h.rl.tp;have l1:=h.l1;have l20:=h.l20;unfold ON;walk_at "";refine eP (λ_ σ H'=>Off d H H'/\Dr H' d/\∃b13 b14,σ=[v0,some (.ref d),v2,some (sgn c),some (.ref a),v5,some (.str (aG (str ws c g L))),v7,v8,v9,some (.int (x:Nat)),v11,some (.int ((x+L - 1:Nat):Int)),b13,b14]) ⟨Off.refl _ _,hd,none,none,rfl⟩ (λi σ H1 hi hP=>?_) λσ H1 hP=>?_
 ·obtain ⟨o1,d1,b13,b14,rfl⟩:=hP;walk_at "";refine Hb ⟨by decide,by decide,by decide⟩ ?_;walk_at "";refine ⟨d,_,rfl,d1,by decide,λn H2 o2 d2 hn=>?_⟩;have o02:=Off.trans' o1 o2;have h2:=Cm h o02 had;walk_at "";rw[show (400:Int)+((n:Nat):Int)=((400+n:Nat):Int) by lia];have fin:∀H3,aC H2 H3->Off d H H3/\Dr H3 d/\∃b13' b14',[v0,some (.ref d),v2,some (sgn c),some (.ref a),v5,some (.str (aG (str ws c g L))),v7,v8,v9,some (.int (x:Nat)),v11,some (.int ((x+L - 1:Nat):Int)),some (.int (0+(i:Nat))),some (.int ((400+n:Nat):Int))]=[v0,some (.ref d),v2,some (sgn c),some (.ref a),v5,some (.str (aG (str ws c g L))),v7,v8,v9,some (.int (x:Nat)),v11,some (.int ((x+L - 1:Nat):Int)),b13',b14']:=λH3 s3=>⟨Off.trans' o02 (aC.off s3),d2.same s3,_,_,rfl⟩;refine fT (λhc=>?_) λhc=>?_
  ·walk_at "";refine .inl ⟨a,ws,c,400+n,x+L - 1,rfl,h2.pl (by
    have e100:(2:Nat) ^ 100=1267650600228229401496703205376:=by decide
    have e15:(10:Int) ^ (15:Int).toNat=1000000000000000:=by decide
    lia),by lia,by lia,λH3 s3=>?_⟩
   walk_at "";obtain ⟨i',d',i1,i2,G⟩:=about B.2 (400+n) (400+n) g rfl (by lia) (by lia);have bb:=B.1 i' d' G;have oc:=SD (ws:=ws) (c:=c) (L:=L) (g:=g) (n:=400+n) (m:=x+L - 1) (q:=i'+d') i2 (by lia) G.2.2.1;refine ZU ?_;rw[oc];refine tN ?_;walk_at "";exact fin H3 s3
  ·refine tN ?_;walk_at "";exact fin H2 (aC.refl _)
 ·obtain ⟨o1,d1,b13,b14,rfl⟩:=hP;walk_at "";exact q H1
theorem VG {H:Hp} (ko:KO K) (h:Dw K H a ws c L) (hd:Dr H d) (g400:g<400) (q:∀H',Q (.bl true) H'):
  gY (OO K) (λ_=>E) {nx:=λ_ H'=>Q .non H',rt:=Q} [v0,some (.ref d),v2,some (sgn c),some (.ref a),some (.str (aG (str ws c 0 400))),some (.str (aG (str ws c g L))),v7,v8,none,none,none,none,none,none] H:=by
 have l20:=h.l20;have l1:=h.l1;have hzl:(aG (str ws c g L)).length=L:=by rw[aV,str_len]
 unfold OO;walk_at "";refine Dw.ask ko h λt r H1 ht s1 hr=>?_;have h1:=h.same s1;have d1:=hd.same s1;obtain ⟨x,y,ed,x0,B⟩:=Cn h ht;rw[ed] at hr;walk_at "";refine ⟨r,_,_,rfl,hr,by lia,by lia,λH2 s2=>?_⟩;have h2:=h1.same s2;have d2:=d1.same s2;have hr2:=s2 _ _ hr;walk_at "";refine tN ?_;walk_at "";refine MN ?_;walk_at "";refine qG (cZ.of hr2) ?_;unfold WL;walk_at "";refine ⟨ws,c,g,L,400,x,y,rfl,by decide,by lia,B,λH3 s3=>?_⟩;walk_at "";refine tN ?_;walk_at "";refine eS (small (by lia)) ?_;rw[hzl];walk_at "";rw[show ((x:Nat):Int)+((L:Nat):Int) - 1=((x+L - 1:Nat):Int) by lia];exact Dm (h2.same s3) (d2.same s3) g400 x0 B q
theorem Dn {H:Hp} {s m:Nat} (ko:KO K) (m1:1<=m) (m4:m<=4) (hR:Rl K H a ws 100) (hl:ws.length=m) (M:AD ws s) (hd:Dr H d) (g60:g<60) (L1:1<=L) (Lm:L+1<=[20,8,5,4].getD (m - 1) 0) (q:∀H',Q (.bl true) H'):
  gY (OP K) (λ_=>E) {nx:=λ_ H'=>Q .non H',rt:=Q} [v0,some (.ref d),v2,some (sgn (97+s)),some (.ref a),some (.str (aG (str ws (97+s) 0 400))),some (.str (aG (str ws (97+s) g L))),none,none,none,none,none,none,none,none] H:=by
 have had:a≠d:=FF hd hR.tp;have hU:=hR.ru;have sl:s<ws.length:=M.lt;unfold OP;walk_at "";refine ⟨d,rfl,hd,λv1 H1 o1 d1 v1a v1b=>?_⟩;have hR1:=rG hR o1 had;walk_at "";refine fT (λhc=>?_) λhc=>?_
 ·walk_at "";refine MN ?_;walk_at "";refine ⟨d,rfl,d1,λv2 H2 o2 d2 v2a v2b=>?_⟩;walk_at "";refine ⟨_,rfl,v2a,λl i pr H3 s3 hi fw=>?_⟩;obtain ⟨fx,M1,M20⟩:=Be (Ij hi);have hpm:=mem_of_getElem? hi;have M2:=Bc pr hpm;obtain ⟨t,hl3,ht3⟩:=fw;have d3:=d2.same s3;have hRt:Rl K H3 t pr.1 100:=⟨ht3,fx.ru.pos,fx.ru.four,fx.ru.isw,fx.ru.one,fx.ru.le⟩;refine TK (aP.of hl3) ?_;walk_at "";rw[Kr];refine ⟨t,pr.1,97,400,rfl,hRt,by decide,fx.c2,fx.gr,by decide,λH4 s4=>?_⟩;have d4:=d3.same s4;have hR4:=hRt.same s4;walk_at "";refine ⟨d,rfl,d4,λv5 H5 o5 d5 v5a v5b=>?_⟩;have htd:t≠d:=FF d4 hR4.tp;have hR5:=rG hR4 o5 htd;walk_at "";refine ⟨d,rfl,d5,λv6 H6 o6 d6 v6a v6b=>?_⟩;have hR6:=rG hR5 o6 htd;walk_at "";obtain ⟨mn,hmn,n1,n2,n3⟩:∃mn:Nat,min 12 (((pr.2:Nat):Int) - 1)=(mn:Int)/\1<=mn/\mn<=12/\mn+1<=pr.2:=⟨(min 12 (((pr.2:Nat):Int) - 1)).toNat,by lia,by lia,by lia,by lia⟩;rw[hmn];have k0:=emod_nonneg v6 (show ((mn:Nat):Int)≠0 by lia);have k1:=emod_lt_of_pos v6 (show (0:Int)<((mn:Nat):Int) by lia);obtain ⟨g',hg'⟩:∃g':Nat,v5 % 60=(g':Int):=⟨(v5 % 60).toNat,by lia⟩;obtain ⟨L',hL'⟩:∃L':Nat,1+v6 % ((mn:Nat):Int)=(L':Int):=⟨(1+v6 % ((mn:Nat):Int)).toNat,by lia⟩;rw[hg',show ((g':Nat):Int)+1+v6 % ((mn:Nat):Int)=((g':Nat):Int)+((L':Nat):Int) by lia];refine eR (small (by rw[aV,str_len];decide)) ?_;rw[cut_str (by lia)];walk_at "";have few:∀{L},1<=L->L<=pr.2->(bA pr.1 97 L).length<=300:=λh1 h2=>NK fx.ru h1 h2 (by decide) fx.c2 fx.gr fx.few;exact VG ko ⟨hR6,by decide,fx.c2,fx.gr,Ii pr hpm,by lia,by lia,few (by lia) (by lia),few (by lia) (by lia),Bd pr hpm⟩ d6 (by lia) q
 ·walk_at "";have few:∀{L},1<=L->L<=[20,8,5,4].getD (m - 1) 0->(bA ws (97+s) L).length<=300:=λh1 h2=>le_trans (UG hU h1 (by lia) (by lia) M.gr) (by rw[hl];exact RI m1 m4 h2);have L20:L<=20:=by
   have:m=1\/m=2\/m=3\/m=4:=by lia
   rcases this with rfl|rfl|rfl|rfl
   ·have:L+1<=20:=Lm;lia
   ·have:L+1<=8:=Lm;lia
   ·have:L+1<=5:=Lm;lia
   ·have:L+1<=4:=Lm;lia
  exact VG ko ⟨hR1,by lia,by lia,M.gr,M.mx hU,L1,L20,few L1 (by lia),few (by lia) Lm,M.big hU 100⟩ d1 (by lia) q
end
theorem Dp (kf:K42.KF K) (vs:List V) (H:Hp) (Q:VK) (E:XK) (h:uP K vs H Q E):gY (zT K) (λ_=>E) {nx:=λ_ H'=>Q .non H',rt:=Q} (start ["_law_script","_law_drawn","_law_many","_law_start","_law_rule","_law_word_here","_law_piece_here","_law_most","_law_begin","_law_found","_law_far","_law_place_here","_law_size","_law_k","_law_n"] vs) H:=by
 obtain ⟨a,ns,rfl,_,hS,h63,q⟩:=h;have ko:=kf.ko;unfold zT;walk_at "";refine ⟨a,ns,rfl,hS,h63,λd H1 s1 nd d1=>?_⟩;walk_at "";refine ⟨d,rfl,d1,λv2 H2 o2 d2 v2a v2b=>?_⟩;walk_at "";obtain ⟨m,hm,m1,m4⟩:∃m:Nat,1+v2 % 4=(m:Int)/\1<=m/\m<=4:=⟨(1+v2 % 4).toNat,by lia,by lia,by lia⟩;rw[hm];refine ⟨d,rfl,d2,λv3 H3 o3 d3 v3a v3b=>?_⟩;walk_at "";have s0:=emod_nonneg v3 (show ((m:Nat):Int)≠0 by lia);have s4:=emod_lt_of_pos v3 (show (0:Int)<((m:Nat):Int) by lia);obtain ⟨s,hs⟩:∃s:Nat,v3 % ((m:Nat):Int)=(s:Int):=⟨_,(Int.toNat_of_nonneg s0).symm⟩;rw[hs] at s0 s4 ⊢;refine ⟨d,_,s,4,rfl,d3,by lia,by lia,s4,by decide,by decide,λp ws H4 o4 d4 hR hl M=>?_⟩;rw[toNat_natCast] at hl;have sl:s<ws.length:=M.lt;walk_at "";refine qH (by rw[iO];decide) (oM (m:=4) (by lia) (by lia) (by lia)) ?_;rw[toNat_natCast];walk_at "";refine ⟨p,ws,97+s,400,rfl,hR,by lia,by lia,M.gr,by decide,λH5 s5=>?_⟩;have hR5:=hR.same s5;have d5:=d4.same s5;walk_at "";refine ⟨ws,97+s,m,d,rfl,d5,m1,m4,λg L H6 o6 d6 g60 L1 Lm=>?_⟩;walk_at "";exact Dn ko m1 m4 (rG hR5 o6 (FF d5 hR5.tp)) hl M d6 g60 L1 Lm q
theorem Ek (K:Fg) (H:Hp) (a:Addr) (ns:List Int) (kf:K42.KF K) (h:ns.length<=63) (hS:aP K H a (ns.map V.int)):uP K [.ref a] H (λv _=>v=.bl true) λ_ _ _=>False:=⟨a,ns,rfl,kf,hS,h,λ_=>rfl⟩
end L2.Na.K43
namespace L2.Na
open PySem PySem.Spec PyProof.Rows L2 L2.L3
noncomputable def Ml (st:Stmt) (n:Nat) (N:List Str) (b:∀K:Fg,List (SX K)):Prop:=dZ N (N.take n) (aM st)/\(∀K,DN (b K) ⟨N,(aM st).names,true⟩ (bB st)=true)/\
 ∀(x y:Str) (kV doc pm:Value) (an:Option Addr) (cdv ct:Value) (us:List Value),us.length=(N.take n).length->bindArgs (PySem.W.fnOf x y (cL st) (bB st) (aM st) .none kV doc pm an cdv ct) ⟨us,[]⟩=pure ((N.take n).zip us)
theorem Og {f:FuncData} {ps:List Str} (h:∀a:Value,bindArgs f ⟨[a],[]⟩=pure (ps.zip [a])) (us:List Value) (hl:us.length=1):bindArgs f ⟨us,[]⟩=pure (ps.zip us):=Ol (Z:=λus=>bindArgs f ⟨us,[]⟩=pure (ps.zip us)) h us hl
theorem Of {f:FuncData} {ps:List Str} (h:∀a b:Value,bindArgs f ⟨[a,b],[]⟩=pure (ps.zip [a,b])) (us:List Value) (hl:us.length=2):bindArgs f ⟨us,[]⟩=pure (ps.zip us):=Oj (Z:=λus=>bindArgs f ⟨us,[]⟩=pure (ps.zip us)) h us hl
theorem Oe {f:FuncData} {ps:List Str} (h:∀a b c:Value,bindArgs f ⟨[a,b,c],[]⟩=pure (ps.zip [a,b,c])) (us:List Value) (hl:us.length=3):bindArgs f ⟨us,[]⟩=pure (ps.zip us):=Oi (Z:=λus=>bindArgs f ⟨us,[]⟩=pure (ps.zip us)) h us hl
theorem Od {f:FuncData} {ps:List Str} (h:∀a b c d:Value,bindArgs f ⟨[a,b,c,d],[]⟩=pure (ps.zip [a,b,c,d])) (us:List Value) (hl:us.length=4):bindArgs f ⟨us,[]⟩=pure (ps.zip us):=by4 (Z:=λus=>bindArgs f ⟨us,[]⟩=pure (ps.zip us)) h us hl
section
variable {K:Fg} {P:Program} {w:World} {h base:Heap} {mg:Str->Option Value}
theorem dn (X:K.In h) (G:h.Ns mainGlobals mg) (bl:∀x∈nN,mg x=none) (k:Nat) {x:Str} {st:Stmt} {sp:Sp} {n:Nat} {N:List Str} {b:∀K:Fg,List (SX K)} (F:FD K x st) (o:Ml st n N b) (len:∀vs H Q E,sp vs H Q E->vs.length=(N.take n).length)
  (t:∀vs H Q E,sp vs H Q E->gY (b K) (λ_=>E) {nx:=λ_ H'=>Q .non H',rt:=Q} (start N vs) H) (hq:∀A,cI k A->IG (b K) ⟨P,w,K,mg,base,A⟩):Co P w K mg base (k+1) x sp:=
 Iq F X G bl (b K) o.1 (o.2.1 K) (o.2.2 x x) len t hq
theorem Co.a {j k:Nat} {x:Str} {sp:Sp} {A:Around} (D:Co P w K mg base j x sp) (hr:cI k A) (h:j<=k:=by decide):FnAt ⟨P,w,K,mg,base,A⟩ x sp:=D.at hr h
end
end L2.Na
local macro_rules | `(tactic| walk_at "l") => `(tactic| (intro vs H Q E h; first | (obtain ⟨_, e, _⟩ := h; subst e; rfl) | (obtain ⟨_, _, e, _⟩ := h; subst e; rfl) | (obtain ⟨_, _, _, e, _⟩ := h; subst e; rfl) | (obtain ⟨_, _, _, _, e, _⟩ := h; subst e; rfl) | (obtain ⟨_, _, _, _, _, e, _⟩ := h; subst e; rfl) | (obtain ⟨_, _, _, _, _, _, e, _⟩ := h; subst e; rfl) | (obtain ⟨_, _, _, _, _, _, _, e, _⟩ := h; subst e; rfl) | (obtain ⟨_, _, _, _, _, _, _, _, e, _⟩ := h; subst e; rfl) | (obtain ⟨_, _, _, _, _, _, _, _, _, e, _⟩ := h; subst e; rfl) | (obtain ⟨_, _, _, _, _, _, _, _, _, _, e, _⟩ := h; subst e; rfl) | (obtain ⟨_, _, _, _, _, _, _, _, _, _, _, e, _⟩ := h; subst e; rfl)))
local macro_rules | `(tactic| walk_at "o") => `(tactic| (refine ⟨⟨rfl, rfl, rfl, by decide +kernel, rfl, by decide +kernel, by decide +kernel⟩, fun K => by kernel_rfl, ?_⟩; intro x y kV doc pm an cdv ct us hl; first | exact L2.Na.Og (fun _ => by exact rfl) us hl | exact L2.Na.Of (fun _ _ => by exact rfl) us hl | exact L2.Na.Oe (fun _ _ _ => by exact rfl) us hl | exact L2.Na.Od (fun _ _ _ _ => by exact rfl) us hl | exact L2.Na.bz5 (fun _ _ _ _ _ => by exact rfl) us hl | exact L2.Na.bz6 (fun _ _ _ _ _ _ => by exact rfl) us hl))
local macro_rules | `(tactic| walk_at "f") => `(tactic| first
 | (refine' L2.Na.Im ?a1 ?a2 ?a3 ?a4; (case a1 => k_is); (case a2 => k_is); (case a3 => k_is); (case a4 => k_is))
 | (refine' L2.Na.Ba ?a1; (case a1 => k_is))
 | (refine' L2.Na.Bb ?a1; (case a1 => k_is))
 | (refine' L2.Na.TH ?a1 ?a2 ?a3 ?a4 ?a5 ?a6 ?a7 ?a8; (case a1 => k_is); (case a2 => k_is); (case a3 => k_is); (case a4 => k_is); (case a5 => k_is); (case a6 => k_is); (case a7 => k_is); (case a8 => k_is)))
local macro_rules | `(tactic| walk_at "e") => `(tactic| first | kernel_rfl | k_is)
local macro_rules | `(tactic| walk_at "k") => `(tactic| first
 | kernel_rfl
 | k_is
 | (show PySem.W.findIn _ _ _ = _; walk_at "e")
 | exact ⟨by walk_at "e", by walk_at "e"⟩
 | (refine' L2.Na.Ci.mk ?i1 ?i2 ?i3 ?i4 ?i5; (case i1 => walk_at "e"); (case i2 => walk_at "e"); (case i3 => walk_at "e"); (case i4 => walk_at "e"); (case i5 => (refine' L2.Na.Aa ?z1 ?z2 ?z3 ?z4 ?z5 ?z6 ?z7 ?z8; (case z1 => k_is); (case z2 => k_is); (case z3 => k_is); (case z4 => k_is); (case z5 => exact ⟨rfl, rfl, rfl⟩); (case z6 => exact ⟨rfl, rfl⟩); (case z7 => exact ⟨rfl, rfl, by decide⟩); (case z8 => exact fun s u v X => PySem.W.kp_binds X (fun S => by kernel_rfl)))))
 | (refine' L2.Na.XF.mk ?x1 ?x2 ?x3 ?x4 ?x5 ?x6; (case x1 => walk_at "e"); (case x2 => walk_at "e"); (case x3 => walk_at "e"); (case x4 => walk_at "e"); (case x5 => intro od; walk_at "e"); (case x6 => walk_at "e"))
 | (refine' L2.IJ.mk ?x1 ?x2 ?x3 ?x4; (case x1 => walk_at "e"); (case x2 => walk_at "e"); (case x3 => walk_at "e"); (case x4 => walk_at "e")))
local macro_rules | `(tactic| walk_at "q") => `(tactic| (intro A hr; repeat' first | exact trivial | exact L2.Na.Co.a (by assumption) hr | refine ⟨?_, ?_⟩))
namespace L2.Na.K43
open PySem PySem.Spec PyProof.Rows L2 L2.L3 L2.Na
open L2.Na.K42 (KF)
noncomputable def top (i:Nat):Stmt:=pw_neveragain_k43_whole_distance_kept.main.body.getD i (.Pass ⟨0,0,0,0⟩)
theorem yH:Ml (top 48) 2 ["_law_rule","_law_word_here","_law_found","_law_sign"] iN:=by walk_at "o"
theorem nL:Ml (top 10) 2 ["row","before"] L2.Na.aY:=by walk_at "o"
theorem XN:dZ ["_law_script","_law_drawn","_law_many","_law_start","_law_rule","_law_word_here","_law_piece_here","_law_most","_law_begin","_law_found","_law_far","_law_place_here","_law_size","_law_k","_law_n"] ["_law_script"] (aM (top 55)):=⟨rfl,rfl,rfl,by decide+kernel,rfl,by decide+kernel,by decide+kernel⟩
theorem Ge (K:Fg):DN (zT K) ⟨["_law_script","_law_drawn","_law_many","_law_start","_law_rule","_law_word_here","_law_piece_here","_law_most","_law_begin","_law_found","_law_far","_law_place_here","_law_size","_law_k","_law_n"],(aM (top 55)).names,true⟩ (bB (top 55))=true:=by kernel_rfl
noncomputable def kU:Stmt:=match top 33 with| .ClassDef _ _ _ b _ _ _ _ _ _ _=>b.getD 0 (.Pass ⟨0,0,0,0⟩)|s=>s
theorem JU:dZ ["self","size","first","last","gap","place"] ["self","size","first","last","gap","place"] (aM kU):=⟨rfl,rfl,rfl,by decide+kernel,rfl,by decide+kernel,by decide+kernel⟩
theorem SM (K:Fg):DN (L2.Na.K44.oK K) ⟨["self","size","first","last","gap","place"],(aM kU).names,true⟩ (bB kU)=true:=by kernel_rfl
theorem Jd {K:Fg} {P:Program} {w:World} {h base:Heap} {mg:Str->Option Value} (X:K.In h) (G:h.Ns mainGlobals mg) (bl:∀x∈nN,mg x=none) (F33:FD K "_law_draws" (top 43)) (F46:FD K "_law_next" (top 44)) (F42:FD K "_law_word" (top 45)) (F22:FD K "_law_mixing" (top 46)) (F30:FD K "_law_image" (top 48)) (F20:FD K "_law_written" (top 49)) (F31:FD K "_law_piece" (top 51)) (F53:FD K "letters" (top 2)) (F54:FD K "counts" (top 4)) (F60:FD K "table" (top 5)) (F3:FD K "words_by_letter" (top 20)) (F71:FD K "grows" (top 23)) (F12:FD K "signs_behind" (top 10)) (F26:FD K "sizes_once" (top 9)) (F68:FD K "sizes" (top 7)) (F16:FD K "sizes_until" (top 26)) (F48:FD K "figures" (top 24)) (F73:FD K "put" (top 19)) (F25:FD K "stretch_at" (top 25)) (F64:FD K "added" (top 11)) (F14:FD K "counts_once" (top 8)) (F5:FD K "counts_behind" (top 6)) (F2:FD K "pieces_of_image" (top 30)) (F13:FD K "counts_ahead" (top 29)) (F67:FD K "widen" (top 40)) (F58:FD K "joined" (top 39)) (F56:FD K "widest" (top 36)) (F24:FD K "letters_in" (top 41)) (F63:FD K "mixes" (top 34)) (F10:FD K "sight_of_one" (top 37)) (F7:FD K "sight_turned" (top 38)) (F44:FD K "distance" (top 35)) (F50:FD K "_law_few" (top 54)) (F37:FD K "_law_whole" (top 50)) (F21:FD K "_law_is_told" (top 52)) (F41:FD K "_law_near" (top 53)) (F36:FD K "_law_place" (top 47)) (I_Sight:Cg K "Sight" "Sight.__init__" kU) (k_ENOUGH_TURNS:GC K "ENOUGH_TURNS" (.int 10)) (k_LETTERS:GC K "LETTERS" (.str "abcd")) (k_MOST_PIECES:GC K "MOST_PIECES" (.int 300)) (k_MOST_TURNS:GC K "MOST_TURNS" (.int 400)) (kf:KF K) (A:Around) (hr:cI 9 A):IG (zT K) ⟨P,w,K,mg,base,A⟩:=by
 have d:=@dn K P w h base mg X G bl;have r_NoStart:=PySem.W.mg_of X G kf.n_NoStart;have r_Sight:=PySem.W.mg_of X G kf.n_Sight;have r_TooGreat:=PySem.W.mg_of X G kf.n_TooGreat;have D61:Ke P w K mg base 1 "Sight" (L2.Na.K44.gA K):=Bm I_Sight r_Sight bl (L2.Na.K44.oK K) JU (SM K) (λ_ _ _ _ _ _ us hl=>Oh (Z:=λus=>bindArgs _ ⟨us,[]⟩=pure (List.zip _ us)) (λ_ _ _ _ _ _=>by exact rfl) us hl) L2.Na.K44.SS L2.Na.K44.QJ (λA hr=>⟨⟨tI,tI⟩,⟨⟨tI,tI⟩,⟨⟨tI,tI⟩,⟨⟨tI,tI⟩,⟨⟨tI,tI⟩,tI⟩⟩⟩⟩⟩);have D39:=d 0 (n:=1) F33 (by walk_at "o") (by walk_at "l") xF (by walk_at "q");have D45:=d 0 (n:=1) F46 (by walk_at "o") (by walk_at "l") AN (by walk_at "q");have D43:=d 1 (n:=3) F42 (by walk_at "o") (by walk_at "l") L2.Na.K25.AM (by walk_at "q");have D23:=d 2 (n:=4) F22 (by walk_at "o") (by walk_at "l") uL (by walk_at "q");have D34:=d 0 F30 yH (by walk_at "l") xE (by walk_at "q");have D15:=d 1 (n:=3) F20 (by walk_at "o") (by walk_at "l") rL (by walk_at "q");have D38:=d 1 (n:=3) F31 (by walk_at "o") (by walk_at "l") xD (by walk_at "q");have D49:=d 0 (n:=1) F53 (by walk_at "o") (by walk_at "l") FL λA hr=>⟨⟨(tB X G k_LETTERS),tI,tI⟩,tI⟩;have D57:=d 1 (n:=2) F54 (by walk_at "o") (by walk_at "l") JN (by walk_at "q");have D70:=d 2 (n:=1) F60 (by walk_at "o") (by walk_at "l") QD (by walk_at "q");have D0:=d 1 (n:=1) F3 (by walk_at "o") (by walk_at "l") jX (by walk_at "q");have D62:=d 2 (n:=2) F71 (by walk_at "o") (by walk_at "l") QG (by walk_at "q");have T_signs_behind:=d 0 F12 nL (by walk_at "l") L2.Na.eG (by walk_at "q");have D11:=d 0 (n:=2) F12 (by walk_at "o") (by walk_at "l") L2.Na.K42.eG (by walk_at "q");have D28:=d 1 (n:=2) F26 (by walk_at "o") (by walk_at "l") uJ λA hr=>⟨⟨tI,⟨T_signs_behind.a hr,⟨tI,⟨tI,tI⟩⟩⟩,tI⟩,tI⟩;have D66:=d 3 (n:=2) F68 (by walk_at "o") (by walk_at "l") QE (by walk_at "q");have D19:=d 4 (n:=3) F16 (by walk_at "o") L2.Na.Pr.rR L2.Na.Pr.rK λA hr=>⟨⟨⟨D62.a hr,⟨tI,⟨tI,tI⟩⟩⟩,⟨⟨⟨r_NoStart,kf.e_NoStart⟩,⟨tI,tI⟩⟩,tI⟩,tI⟩,⟨⟨D70.a hr,⟨tI,tI⟩⟩,⟨⟨⟨D49.a hr,⟨⟨tI,tI⟩,tI⟩⟩,⟨tI,tI⟩⟩,⟨⟨⟨D66.a hr,⟨tI,⟨tI,tI⟩⟩⟩,tI⟩,⟨⟨⟨⟨⟨tI,tI⟩,tI⟩,tI⟩,⟨⟨⟨⟨tI,tI⟩,(tB X G k_MOST_TURNS)⟩,⟨⟨⟨r_TooGreat,kf.ini,_,hr⟩,(tB X G k_MOST_TURNS)⟩,tI⟩,tI⟩,⟨⟨tI,⟨⟨D28.a hr,⟨tI,⟨⟨tI,tI⟩,tI⟩⟩⟩,tI⟩⟩,tI⟩⟩⟩,⟨tI,tI⟩⟩⟩⟩⟩⟩;have D51:=d 5 (n:=3) F48 (by walk_at "o") L2.Na.Pr.GY L2.Na.Pr.FO (by walk_at "q");have D74:=d 2 (n:=2) F73 (by walk_at "o") (by walk_at "l") Dk (by walk_at "q");have D27:=d 6 (n:=4) F25 (by walk_at "o") L2.Na.Pr.vO L2.Na.Pr.uI (by walk_at "q");have D72:=d 0 (n:=2) F64 (by walk_at "o") (by walk_at "l") QI (by walk_at "q");have D17:=d 1 (n:=2) F14 (by walk_at "o") (by walk_at "l") rN (by walk_at "q");have D4:=d 3 (n:=3) F5 (by walk_at "o") (by walk_at "l") nJ (by walk_at "q");have D1:=d 3 (n:=2) F2 (by walk_at "o") (by walk_at "l") jY (by walk_at "q");have D6:=d 7 (n:=3) F13 (by walk_at "o") L2.Na.Pr.pS L2.Na.Pr.oS λA hr=>⟨⟨D27.a hr,⟨tI,⟨tI,⟨tI,⟨tI,tI⟩⟩⟩⟩⟩,⟨⟨tI,tI⟩,⟨⟨tI,⟨⟨tI,tI⟩,⟨tI,tI⟩⟩⟩,⟨tI,⟨⟨⟨tI,⟨tI,tI⟩⟩,⟨⟨tI,tI⟩,⟨⟨D74.a hr,⟨tI,⟨⟨tI,tI,tI⟩,tI⟩⟩⟩,⟨⟨D4.a hr,⟨tI,⟨⟨tI,tI⟩,⟨tI,tI⟩⟩⟩⟩,⟨⟨⟨⟨D1.a hr,⟨tI,⟨tI,tI⟩⟩⟩,tI⟩,⟨⟨⟨tI,tI⟩,⟨⟨⟨⟨tI,tI⟩,(tB X G k_MOST_PIECES)⟩,⟨⟨⟨r_TooGreat,kf.ini,_,hr⟩,(tB X G k_MOST_PIECES)⟩,tI⟩,tI⟩,⟨⟨tI,⟨tI,tI⟩⟩,⟨⟨tI,tI,⟨D72.a hr,⟨tI,⟨⟨D57.a hr,⟨⟨tI,tI,tI⟩,⟨⟨tI,tI⟩,tI⟩⟩⟩,tI⟩⟩⟩⟩,tI⟩⟩⟩,tI⟩,tI⟩⟩,⟨⟨tI,tI⟩,tI⟩⟩⟩⟩⟩⟩,⟨tI,tI⟩⟩⟩⟩⟩⟩;have D65:=d 0 (n:=3) F67 (by walk_at "o") (by walk_at "l") L2.Na.K44.QC (by walk_at "q");have D55:=d 2 (n:=1) F58 (by walk_at "o") (by walk_at "l") L2.Na.K44.JM λA hr=>⟨⟨D61.at hr (by decide),⟨tI,⟨tI,⟨tI,⟨tI,⟨tI,tI⟩⟩⟩⟩⟩⟩,⟨⟨tI,⟨⟨⟨tI,tI⟩,⟨⟨⟨tI,tI⟩,⟨⟨tI,⟨tI,tI⟩⟩,tI⟩,⟨⟨D65.a hr,⟨tI,⟨⟨⟨tI,tI⟩,tI⟩,⟨tI,tI⟩⟩⟩⟩,tI⟩⟩,⟨⟨D65.a hr,⟨tI,⟨tI,⟨⟨tI,tI⟩,tI⟩⟩⟩⟩,⟨⟨tI,⟨tI,tI⟩⟩,tI⟩⟩⟩,tI⟩,⟨⟨tI,⟨tI,tI⟩⟩,tI⟩⟩⟩,⟨tI,tI⟩⟩⟩;have D59:=d 3 (n:=3) F56 (by walk_at "o") (by walk_at "l") L2.Na.K42.JL λA hr=>⟨⟨tI,⟨tI,tI⟩⟩,⟨⟨tI,⟨⟨D55.a hr,⟨⟨⟨tI,⟨tI,tI,tI⟩⟩,⟨⟨tI,⟨tI,tI,tI⟩⟩,tI⟩⟩,tI⟩⟩,⟨⟨⟨tI,⟨tI,tI⟩⟩,⟨⟨tI,⟨⟨⟨D11.a hr,⟨⟨tI,tI⟩,⟨tI,tI⟩⟩⟩,tI⟩,tI⟩⟩,tI⟩,tI⟩,tI⟩⟩⟩,⟨tI,tI⟩⟩⟩;have D29:=d 0 (n:=1) F24 (by walk_at "o") (by walk_at "l") L2.Na.K41.uK (by walk_at "q");have D69:=d 3 (n:=1) F63 (by walk_at "o") (by walk_at "l") L2.Na.K41.QF λA hr=>⟨⟨D49.a hr,⟨⟨tI,tI⟩,tI⟩⟩,⟨⟨tI,tI⟩,⟨⟨⟨(tB X G k_ENOUGH_TURNS),tI⟩,⟨⟨tI,⟨D29.a hr,⟨⟨D74.a hr,⟨tI,⟨tI,tI⟩⟩⟩,tI⟩⟩,tI⟩,tI⟩⟩,⟨⟨⟨tI,⟨tI,tI⟩,tI⟩,tI⟩,tI⟩⟩⟩⟩;have D9:=d 2 (n:=1) F10 (by walk_at "o") (by walk_at "l") L2.Na.K44.oR λA hr=>⟨⟨tI,⟨⟨D61.at hr (by decide),⟨tI,⟨tI,⟨tI,⟨tI,⟨tI,tI⟩⟩⟩⟩⟩⟩,tI⟩,tI⟩,⟨⟨D61.at hr (by decide),⟨tI,⟨tI,⟨tI,⟨tI,⟨tI,tI⟩⟩⟩⟩⟩⟩,tI⟩⟩;have D8:=d 3 (n:=2) F7 (by walk_at "o") (by walk_at "l") L2.Na.K44.oQ (by walk_at "q");have D40:=d 8 (n:=3) F44 (by walk_at "o") (by walk_at "l") L2.Na.K42.AQ (by walk_at "q");have D52:=d 0 (n:=1) F50 (by walk_at "o") (by walk_at "l") L2.Na.K42.FN (by walk_at "q");have D35:=d 0 (n:=1) F37 (by walk_at "o") (by walk_at "l") xB (by walk_at "q");have D18:=d 1 (n:=1) F21 (by walk_at "o") (by walk_at "l") L2.Na.K42.rM (by walk_at "q");have D47:=d 0 (n:=4) F41 (by walk_at "o") (by walk_at "l") AO (by walk_at "q");have D32:=d 1 (n:=2) F36 (by walk_at "o") (by walk_at "l") L2.Na.K25.xC (by walk_at "q");exact ⟨⟨D39.a hr,⟨tI,tI⟩⟩,⟨⟨tI,⟨⟨D45.a hr,⟨tI,tI⟩⟩,tI⟩⟩,⟨⟨⟨D45.a hr,⟨tI,tI⟩⟩,tI⟩,⟨⟨D23.a hr,⟨tI,⟨tI,⟨tI,⟨tI,tI⟩⟩⟩⟩⟩,⟨⟨tI,tI⟩,⟨⟨D15.a hr,⟨tI,⟨tI,⟨tI,tI⟩⟩⟩⟩,⟨⟨D38.a hr,⟨tI,⟨tI,⟨tI,tI⟩⟩⟩⟩,⟨⟨⟨⟨⟨D45.a hr,⟨tI,tI⟩⟩,tI⟩,tI⟩,⟨⟨D52.a hr,⟨⟨D45.a hr,⟨tI,tI⟩⟩,tI⟩⟩,⟨tI,⟨⟨D15.a hr,⟨tI,⟨tI,⟨tI,tI⟩⟩⟩⟩,⟨⟨⟨D45.a hr,⟨tI,tI⟩⟩,tI⟩,⟨⟨tI,tI,⟨⟨tI,tI⟩,⟨⟨D45.a hr,⟨tI,tI⟩⟩,⟨tI,⟨⟨tI,tI⟩,tI⟩⟩⟩⟩⟩,tI⟩⟩⟩⟩⟩,tI⟩,⟨⟨D40.a hr,⟨tI,⟨tI,⟨tI,tI⟩⟩⟩⟩,⟨⟨⟨D18.a hr,⟨tI,tI⟩⟩,⟨tI,tI⟩,tI⟩,⟨tI,⟨⟨⟨D47.a hr,⟨tI,⟨tI,⟨tI,⟨tI,tI⟩⟩⟩⟩⟩,⟨tI,tI⟩,tI⟩,⟨⟨⟨tI,⟨tI,tI⟩⟩,tI⟩,⟨⟨⟨tI,tI⟩,⟨⟨tI,⟨D32.a hr,⟨tI,⟨⟨tI,tI⟩,tI⟩⟩⟩⟩,⟨⟨⟨⟨tI,tI⟩,⟨⟨tI,⟨D27.a hr,⟨tI,⟨tI,⟨tI,⟨tI,tI⟩⟩⟩⟩⟩⟩,tI⟩⟩,⟨tI,tI⟩,tI⟩,tI⟩⟩⟩,⟨tI,tI⟩⟩⟩⟩⟩⟩⟩⟩⟩⟩⟩⟩⟩⟩⟩
end L2.Na.K43
namespace L2.Hd
open PySem PySem.Calls PyProof.Rows PySem.W
open L2 (cL bB aM)
open L2.Na.K43 (top)
theorem q0:(pw_neveragain_k43_whole_distance_kept.main.body.length==56)=true:=by k_qdec
noncomputable def env (p:Program):Env:={scope:=p.main.scope,locals:=mainNs,globals:=mainNs,cells:=[],code:=.ref 13,frame:=some 14}
noncomputable def cd (p:Program):Code:=.body (behindTheImports p) (env p)
noncomputable abbrev p0:Pos:=⟨0,0,0,0⟩
noncomputable abbrev p1:Pos:=⟨252,0,277,15⟩
noncomputable abbrev B:List Frame:=[topFrame p0]
noncomputable def toT (s:Shared):SharedT:=⟨(s.heap.objs.toList.foldl (λ(a:BT × Nat) o=>(a.1.ins a.2 o,a.2+1)) (BT.nil,0)).1,s.heap.objs.size,s.heap.life,s.gens,s.drawn,s.toks,s.os⟩
noncomputable def prA (x:Option (Shared × Thread)):SharedT:=match x with
 |some (s,_)=>toT s
 |none=>⟨BT.nil,0,{},#[],boot_drawn,0,{}⟩
noncomputable def prS (x:Option (Flow × SharedT × Code × Pos)):SharedT:=match x with
 |some (_,s,_)=>s
 |none=>⟨BT.nil,0,{},#[],boot_drawn,0,{}⟩
noncomputable abbrev ann:Option Value:=some (.ref 6)
noncomputable def goA (tb:String->Option Builtin) (p:Program) (w:World) (os:OsState):Option (Shared × Thread):=topGo tb p w 11 ann 12 ⟨boot_heap w.params,#[],boot_drawn,boot_toks,os⟩ (topStub p)
noncomputable def goB (tb:String->Option Builtin) (p:Program) (w:World) (os:OsState):Option (Flow × SharedT × Code × Pos):=segRunT tb p w 11 ann 1 2567 (prA (goA tb p w os)) (piecesOf (behindTheImports p) (env p) (cd p) p0 B)
theorem l1:(λ(w:World) (os:OsState)=>goA treeTable pw_neveragain_k43_whole_distance_kept w os)=λw os=>some ((prA (goA treeTable pw_neveragain_k43_whole_distance_kept w os)).abs,Thread.mk (denote treeTable (cd pw_neveragain_k43_whole_distance_kept)) (cd pw_neveragain_k43_whole_distance_kept) p0 B):=by
 unfold goA;rw[PySem.W.Fast.te15667345088766844465,PySem.W.Fast.te14364793385576792824,PySem.W.Fast.te11892475500146522536,PySem.W.Fast.te12758098601732308103];kernel_rfl
theorem l2:(λ(w:World) (os:OsState)=>segRun treeTable pw_neveragain_k43_whole_distance_kept w 11 ann 1 1 (prA (goA treeTable pw_neveragain_k43_whole_distance_kept w os)).abs (blockOf (behindTheImports pw_neveragain_k43_whole_distance_kept) (env pw_neveragain_k43_whole_distance_kept) (cd pw_neveragain_k43_whole_distance_kept) p0 B))=λw os=>some (.next,(prA (goA treeTable pw_neveragain_k43_whole_distance_kept w os)).abs,cd pw_neveragain_k43_whole_distance_kept,p0):=by
 unfold goA;rw[PySem.W.Fast.te15667345088766844465,PySem.W.Fast.te14364793385576792824,PySem.W.Fast.te14374325043358763698,PySem.W.Fast.te12758098601732308103];kernel_rfl
theorem l3:(λ(w:World) (os:OsState)=>goB treeTable pw_neveragain_k43_whole_distance_kept w os)=λw os=>some (.next,prS (goB treeTable pw_neveragain_k43_whole_distance_kept w os),cd pw_neveragain_k43_whole_distance_kept,p1):=by
 unfold goB goA;rw[PySem.W.Fast.te10110043849684766642,PySem.W.Fast.te15667345088766844465,PySem.W.Fast.te14364793385576792824,PySem.W.Fast.te12758098601732308103];kernel_rfl
theorem l4:(λ(w:World) (os:OsState)=>topRun treeTable pw_neveragain_k43_whole_distance_kept w 11 ann 2 (prS (goB treeTable pw_neveragain_k43_whole_distance_kept w os)).abs ⟨doneF .next,cd pw_neveragain_k43_whole_distance_kept,p1,B⟩)=λw os=>some (prS (goB treeTable pw_neveragain_k43_whole_distance_kept w os)).abs:=by
 unfold goB goA;rw[PySem.W.Fast.te14082659384304107361,PySem.W.Fast.te10110043849684766642,PySem.W.Fast.te15667345088766844465,PySem.W.Fast.te14364793385576792824,PySem.W.Fast.te12758098601732308103];kernel_rfl
noncomputable def dk (P:Params) (x:Str) (n:Nat) (v:Value):DictEntry:={hash:=PyData.keyHash P x,key:=.str x n,val:=v}
noncomputable def tp (a:Array Value):Obj:={cls:=.type "tuple",data:=.seq a}
noncomputable def fo (x:Str) (i:Nat) (m:Value) (c:Nat):Obj:={cls:=.type "function",data:=.func {name:=x,qualname:=x,params:=cL (top i),body:=.stmts (bB (top i)),scope:=aM (top i),globals:=3,closure:=[],defaults:=.none,kwdefaults:=.none,pyModule:=m,code:=.ref c}}
noncomputable def cx (x y:Str) (n:Nat) (L a:Int) (r:Nat) (u v:Value) (z t:Nat):Obj:={cls:=.type "code",data:=.fields #[.str x n,.str y (n+1),.str "/claim/cut.py" (n+2),.int L 0,.int a 0,.int 0 0,.int 0 0,.int 3 0,.ref r,.bool true,.int 181 0,.ref (r+1),.none,u,v,.ref z,.int t 0,.int L 0,.str "/claim/cut.py" (t+1)]}
noncomputable def cb (x y:Str) (n:Nat) (L a:Int) (r t:Nat):Obj:=cx x y n L a r .none .none (r+2) t
noncomputable def co (x y:Str) (n:Nat) (L a:Int) (r t:Nat):Obj:=cx x y n L a r (.ref (r+2)) (.ref (r+3)) (r+4) t
noncomputable def sv:Nat->List Str->List Value
 |_,[]=>[]
 |n,x::l=>.str x n::sv (n+1) l
noncomputable def tq (n:Nat) (l:List Str):Obj:=tp (sv n l).toArray
noncomputable def dr (P:Params) (x:Str) (n r:Nat):DictEntry:=dk P x n (.ref r)
noncomputable def c1 (x:Str) (n:Nat) (L a:Int) (r t:Nat):Obj:=cb x x n L a r t
noncomputable def c2 (x:Str) (n:Nat) (L a:Int) (r t:Nat):Obj:=co x x n L a r t
noncomputable def m0:Value:=.str "neveragain.words" 187
noncomputable def m1:Value:=.str "neveragain.counts" 198
noncomputable def m2:Value:=.str "neveragain.rules" 352
noncomputable def m3:Value:=.str "neveragain.places" 367
noncomputable def m4:Value:=.str "neveragain.pieces" 416
noncomputable def m5:Value:=.str "neveragain.again" 444
noncomputable def m6:Value:=.str "law_neveragain_k43_whole_distance_kept" 547
noncomputable def K:Params->Frag:=λP=>
 (nat_lit 2,{cls:=.none,data:=Data.dict #[]})::
 (nat_lit 3,{cls:=.type "dict",data:=Data.dict #[dk P "__name__" 165 (.str "law_neveragain_k43_whole_distance_kept" 547),dk P "__doc__" 166 .none,dk P "__package__" 167 .none,dk P "__loader__" 168 (.builtin "__main__.__loader__#opaque"),dk P "__spec__" 169 .none,dr P "__annotations__" 170 6,dr P "__builtins__" 171 4,dk P "__file__" 173 (.str "/claim/cut.py" 172),dk P "__cached__" 174 .none,dk P "LETTERS" 190 (.str "abcd" 189),dr P "letters" 197 21,dr P "counts" 205 26,dr P "table" 211 31,dr P "counts_behind" 223 38,dr P "sizes" 234 45,dr P "counts_once" 240 50,dr P "sizes_once" 246 55,dr P "signs_behind" 252 60,dr P "added" 258 65,dr P "WordError" 278 75,dr P "NoStart" 294 88,dr P "NoPiece" 310 100,dr P "NotMixed" 326 112,dr P "TooGreat" 351 132,dr P "put" 359 139,dr P "words_by_letter" 366 146,dk P "MOST_TURNS" 370 (.int 400 369),dr P "grows" 379 153,dr P "figures" 397 160,dr P "stretch_at" 403 165,dr P "sizes_until" 415 172,dk P "MOST_PIECES" 419 (.int 300 418),dr P "counts_ahead" 437 179,dr P "pieces_of_image" 443 184,dk P "ENOUGH_TURNS" 447 (.int 10 446),dr P "Sight" 484 201,dr P "mixes" 490 210,dr P "distance" 496 215,dr P "widest" 508 222,dr P "sight_of_one" 515 229,dr P "sight_turned" 521 234,dr P "joined" 530 241,dr P "widen" 539 248,dr P "letters_in" 546 255,dr P "_law_draws" 562 262,dr P "_law_next" 569 269,dr P "_law_word" 575 274,dr P "_law_mixing" 589 281,dr P "_law_place" 599 288,dr P "_law_image" 609 295,dr P "_law_written" 619 302,dr P "_law_whole" 626 309,dr P "_law_piece" 637 316,dr P "_law_is_told" 644 323,dr P "_law_near" 656 330,dr P "_law_few" 664 337,dr P "law" 685 344] 57})::
 (nat_lit 15,tp #[])::
 (nat_lit 17,tp #[.str "many" 194])::
 (nat_lit 18,tp #[])::
 (nat_lit 20,c2 "letters" 191 3 1 15 195)::
 (nat_lit 21,fo "letters" 2 m0 20)::
 (nat_lit 22,tp #[])::
 (nat_lit 25,c1 "counts" 200 6 2 22 203)::
 (nat_lit 26,fo "counts" 4 m1 25)::
 (nat_lit 27,tp #[])::
 (nat_lit 30,c1 "table" 206 8 1 27 209)::
 (nat_lit 31,fo "table" 5 m1 30)::
 (nat_lit 32,tp #[])::
 (nat_lit 34,tq 215 ["rule","numbers","times","rows","made","turn"])::
 (nat_lit 35,tp #[])::
 (nat_lit 37,c2 "counts_behind" 212 10 3 32 221)::
 (nat_lit 38,fo "counts_behind" 6 m1 37)::
 (nat_lit 39,tp #[])::
 (nat_lit 41,tq 227 ["rule","times","rows","made","turn"])::
 (nat_lit 42,tp #[])::
 (nat_lit 44,c2 "sizes" 224 16 2 39 232)::
 (nat_lit 45,fo "sizes" 7 m1 44)::
 (nat_lit 46,tp #[])::
 (nat_lit 49,c1 "counts_once" 235 22 2 46 238)::
 (nat_lit 50,fo "counts_once" 8 m1 49)::
 (nat_lit 51,tp #[])::
 (nat_lit 54,c1 "sizes_once" 241 27 2 51 244)::
 (nat_lit 55,fo "sizes_once" 9 m1 54)::
 (nat_lit 56,tp #[])::
 (nat_lit 59,c1 "signs_behind" 247 29 2 56 250)::
 (nat_lit 60,fo "signs_behind" 10 m1 59)::
 (nat_lit 61,tp #[])::
 (nat_lit 64,c1 "added" 253 31 2 61 256)::
 (nat_lit 65,fo "added" 11 m1 64)::
 (nat_lit 66,tp #[.type "ValueError"])::
 (nat_lit 73,tp #[])::
 (nat_lit 74,{cls:=.type "dict",data:=Data.dict #[dk P "__module__" 268 (.str "neveragain.errors" 259),dk P "__firstlineno__" 272 (.int 34 271),dr P "__static_attributes__" 273 73,dr P "__weakref__" 275 76,dk P "__doc__" 276 .none] 3})::
 (nat_lit 75,{cls:=.type "type",data:=Data.cls {name:="WordError",bases:=[.type "ValueError"],mro:=[.ref 75,.type "ValueError",.type "Exception",.type "BaseException",.type "object"],ns:=74,qualname:="WordError",subclasses:=[.ref 88,.ref 100,.ref 112,.ref 132]},slots:=#[some (.ref 66),none,some (.str "WordError" 261),some (.str "WordError" 269),some (.builtin "ValueError.__new__"),some (.bool true)]})::
 (nat_lit 76,{cls:=.type "getset_descriptor",data:=Data.fields #[.str "__weakref__" 274,.ref 75,.builtin "ExceptionGroup.__weakref__",.none]})::
 (nat_lit 79,tp #[.ref 75])::
 (nat_lit 86,tp #[])::
 (nat_lit 87,{cls:=.type "dict",data:=Data.dict #[dk P "__module__" 286 (.str "neveragain.errors" 259),dk P "__firstlineno__" 290 (.int 36 289),dr P "__static_attributes__" 291 86,dk P "__doc__" 292 .none] 2})::
 (nat_lit 88,{cls:=.type "type",data:=Data.cls {name:="NoStart",bases:=[.ref 75],mro:=[.ref 88,.ref 75,.type "ValueError",.type "Exception",.type "BaseException",.type "object"],ns:=87,qualname:="NoStart"},slots:=#[some (.ref 79),none,some (.str "NoStart" 279),some (.str "NoStart" 287),some (.builtin "ValueError.__new__"),some (.bool true)]})::
 (nat_lit 91,tp #[.ref 75])::
 (nat_lit 98,tp #[])::
 (nat_lit 99,{cls:=.type "dict",data:=Data.dict #[dk P "__module__" 302 (.str "neveragain.errors" 259),dk P "__firstlineno__" 306 (.int 38 305),dr P "__static_attributes__" 307 98,dk P "__doc__" 308 .none] 2})::
 (nat_lit 100,{cls:=.type "type",data:=Data.cls {name:="NoPiece",bases:=[.ref 75],mro:=[.ref 100,.ref 75,.type "ValueError",.type "Exception",.type "BaseException",.type "object"],ns:=99,qualname:="NoPiece"},slots:=#[some (.ref 91),none,some (.str "NoPiece" 295),some (.str "NoPiece" 303),some (.builtin "ValueError.__new__"),some (.bool true)]})::
 (nat_lit 103,tp #[.ref 75])::
 (nat_lit 110,tp #[])::
 (nat_lit 111,{cls:=.type "dict",data:=Data.dict #[dk P "__module__" 318 (.str "neveragain.errors" 259),dk P "__firstlineno__" 322 (.int 40 321),dr P "__static_attributes__" 323 110,dk P "__doc__" 324 .none] 2})::
 (nat_lit 112,{cls:=.type "type",data:=Data.cls {name:="NotMixed",bases:=[.ref 75],mro:=[.ref 112,.ref 75,.type "ValueError",.type "Exception",.type "BaseException",.type "object"],ns:=111,qualname:="NotMixed"},slots:=#[some (.ref 103),none,some (.str "NotMixed" 311),some (.str "NotMixed" 319),some (.builtin "ValueError.__new__"),some (.bool true)]})::
 (nat_lit 115,tp #[.ref 75])::
 (nat_lit 122,tp #[.none])::
 (nat_lit 123,tp #[])::
 (nat_lit 125,tq 342 ["self","most"])::
 (nat_lit 126,tp #[])::
 (nat_lit 128,co "__init__" "TooGreat.__init__" 339 44 2 123 344)::
 (nat_lit 129,{cls:=.type "function",data:=Data.func {name:="__init__",qualname:="TooGreat.__init__",params:={posonlyargs:=[],args:=[{arg:="self",annotation:=none,pos:={line:=44,col:=17,endLine:=44,endCol:=21}},{arg:="most",annotation:=none,pos:={line:=44,col:=23,endLine:=44,endCol:=27}}],vararg:=none,kwonlyargs:=[],kw_defaults:=[],kwarg:=none,defaults:=[Expr.Constant Const.none 0 {line:=44,col:=28,endLine:=44,endCol:=32}]},body:=FuncBody.stmts [Stmt.Assign [(Expr.Name "self" {line:=45,col:=8,endLine:=45,endCol:=12}).Attribute "most" {line:=45,col:=8,endLine:=45,endCol:=17}] (Expr.Name "most" {line:=45,col:=20,endLine:=45,endCol:=24}) {line:=45,col:=8,endLine:=45,endCol:=24}],scope:={kind:=ScopeKind.function,names:=[("self",NameKind.local),("most",NameKind.local)],isGenerator:=false,isCoroutine:=false},globals:=3,closure:=[],defaults:=.ref 122,kwdefaults:=.none,pyModule:=.str "neveragain.errors" 259,code:=.ref 128}})::
 (nat_lit 130,tp #[.str "most" 347])::
 (nat_lit 131,{cls:=.type "dict",data:=Data.dict #[dk P "__module__" 334 (.str "neveragain.errors" 259),dk P "__firstlineno__" 338 (.int 42 337),dr P "__init__" 346 129,dr P "__static_attributes__" 348 130,dk P "__doc__" 349 .none] 2})::
 (nat_lit 132,{cls:=.type "type",data:=Data.cls {name:="TooGreat",bases:=[.ref 75],mro:=[.ref 132,.ref 75,.type "ValueError",.type "Exception",.type "BaseException",.type "object"],ns:=131,qualname:="TooGreat"},slots:=#[some (.ref 115),none,some (.str "TooGreat" 327),some (.str "TooGreat" 335),some (.builtin "ValueError.__new__"),some (.bool true)]})::
 (nat_lit 135,tp #[])::
 (nat_lit 138,c1 "put" 354 47 2 135 357)::
 (nat_lit 139,fo "put" 19 m2 138)::
 (nat_lit 140,tp #[])::
 (nat_lit 142,tp #[.str "rule" 363])::
 (nat_lit 143,tp #[])::
 (nat_lit 145,c2 "words_by_letter" 360 50 1 140 364)::
 (nat_lit 146,fo "words_by_letter" 20 m2 145)::
 (nat_lit 147,tp #[])::
 (nat_lit 149,tq 374 ["rule","start","word"])::
 (nat_lit 150,tp #[])::
 (nat_lit 152,c2 "grows" 371 54 2 147 377)::
 (nat_lit 153,fo "grows" 23 m3 152)::
 (nat_lit 154,tp #[])::
 (nat_lit 156,tq 383 ["rule","start","n","rows","word_for","pairs","letter","left","row","size_of","word","step"])::
 (nat_lit 157,tp #[])::
 (nat_lit 159,c2 "figures" 380 57 3 154 395)::
 (nat_lit 160,fo "figures" 24 m3 159)::
 (nat_lit 161,tp #[])::
 (nat_lit 164,c1 "stretch_at" 398 73 4 161 401)::
 (nat_lit 165,fo "stretch_at" 25 m3 164)::
 (nat_lit 166,tp #[])::
 (nat_lit 168,tq 407 ["rule","start","n","rows","at","made"])::
 (nat_lit 169,tp #[])::
 (nat_lit 171,c2 "sizes_until" 404 81 3 166 413)::
 (nat_lit 172,fo "sizes_until" 26 m3 171)::
 (nat_lit 173,tp #[])::
 (nat_lit 175,tq 423 ["rule","start","length","first","found","ahead","done","piece","word","base","place","met"])::
 (nat_lit 176,tp #[])::
 (nat_lit 178,c2 "counts_ahead" 420 94 3 173 435)::
 (nat_lit 179,fo "counts_ahead" 29 m4 178)::
 (nat_lit 180,tp #[])::
 (nat_lit 183,c1 "pieces_of_image" 438 111 2 180 441)::
 (nat_lit 184,fo "pieces_of_image" 30 m4 183)::
 (nat_lit 192,tp #[])::
 (nat_lit 194,tq 463 ["self","size","first","last","gap","place"])::
 (nat_lit 195,tp #[])::
 (nat_lit 197,co "__init__" "Sight.__init__" 460 118 6 192 469)::
 (nat_lit 198,{cls:=.type "function",data:=Data.func {name:="__init__",qualname:="Sight.__init__",params:={posonlyargs:=[],args:=[{arg:="self",annotation:=none,pos:={line:=118,col:=17,endLine:=118,endCol:=21}},{arg:="size",annotation:=none,pos:={line:=118,col:=23,endLine:=118,endCol:=27}},{arg:="first",annotation:=none,pos:={line:=118,col:=29,endLine:=118,endCol:=34}},{arg:="last",annotation:=none,pos:={line:=118,col:=36,endLine:=118,endCol:=40}},{arg:="gap",annotation:=none,pos:={line:=118,col:=42,endLine:=118,endCol:=45}},{arg:="place",annotation:=none,pos:={line:=118,col:=47,endLine:=118,endCol:=52}}],vararg:=none,kwonlyargs:=[],kw_defaults:=[],kwarg:=none,defaults:=[]},body:=FuncBody.stmts [Stmt.Assign [(Expr.Name "self" {line:=119,col:=8,endLine:=119,endCol:=12}).Attribute "size" {line:=119,col:=8,endLine:=119,endCol:=17}] (Expr.Name "size" {line:=119,col:=20,endLine:=119,endCol:=24}) {line:=119,col:=8,endLine:=119,endCol:=24},Stmt.Assign [(Expr.Name "self" {line:=120,col:=8,endLine:=120,endCol:=12}).Attribute "first" {line:=120,col:=8,endLine:=120,endCol:=18}] (Expr.Name "first" {line:=120,col:=21,endLine:=120,endCol:=26}) {line:=120,col:=8,endLine:=120,endCol:=26},Stmt.Assign [(Expr.Name "self" {line:=121,col:=8,endLine:=121,endCol:=12}).Attribute "last" {line:=121,col:=8,endLine:=121,endCol:=17}] (Expr.Name "last" {line:=121,col:=20,endLine:=121,endCol:=24}) {line:=121,col:=8,endLine:=121,endCol:=24},Stmt.Assign [(Expr.Name "self" {line:=122,col:=8,endLine:=122,endCol:=12}).Attribute "gap" {line:=122,col:=8,endLine:=122,endCol:=16}] (Expr.Name "gap" {line:=122,col:=19,endLine:=122,endCol:=22}) {line:=122,col:=8,endLine:=122,endCol:=22},Stmt.Assign [(Expr.Name "self" {line:=123,col:=8,endLine:=123,endCol:=12}).Attribute "place" {line:=123,col:=8,endLine:=123,endCol:=18}] (Expr.Name "place" {line:=123,col:=21,endLine:=123,endCol:=26}) {line:=123,col:=8,endLine:=123,endCol:=26}],scope:={kind:=ScopeKind.function,names:=[("self",NameKind.local),("size",NameKind.local),("first",NameKind.local),("last",NameKind.local),("gap",NameKind.local),("place",NameKind.local)],isGenerator:=false,isCoroutine:=false},globals:=3,closure:=[],defaults:=.none,kwdefaults:=.none,pyModule:=.str "neveragain.again" 444,code:=.ref 197}})::
 (nat_lit 199,tq 472 ["first","gap","last","place","size"])::
 (nat_lit 200,{cls:=.type "dict",data:=Data.dict #[dk P "__module__" 455 (.str "neveragain.again" 444),dk P "__firstlineno__" 459 (.int 116 458),dr P "__init__" 471 198,dr P "__static_attributes__" 477 199,dr P "__dict__" 479 202,dr P "__weakref__" 481 203,dk P "__doc__" 482 .none] 4})::
 (nat_lit 201,{cls:=.type "type",data:=Data.cls {name:="Sight",bases:=[.type "object"],mro:=[.ref 201,.type "object"],ns:=200,qualname:="Sight"},slots:=#[none,none,some (.str "Sight" 448),some (.str "Sight" 456),some (.builtin "object.__new__"),some (.bool true)]})::
 (nat_lit 202,{cls:=.type "getset_descriptor",data:=Data.fields #[.str "__dict__" 478,.ref 201,.builtin "function.__dict__",.builtin "function.__dict__#set"]})::
 (nat_lit 203,{cls:=.type "getset_descriptor",data:=Data.fields #[.str "__weakref__" 480,.ref 201,.builtin "ExceptionGroup.__weakref__",.none]})::
 (nat_lit 206,tp #[])::
 (nat_lit 209,c1 "mixes" 485 124 1 206 488)::
 (nat_lit 210,fo "mixes" 34 m5 209)::
 (nat_lit 211,tp #[])::
 (nat_lit 214,c1 "distance" 491 130 3 211 494)::
 (nat_lit 215,fo "distance" 35 m5 214)::
 (nat_lit 216,tp #[])::
 (nat_lit 218,tq 500 ["ahead","size_of","sights","best","longer","both"])::
 (nat_lit 219,tp #[])::
 (nat_lit 221,c2 "widest" 497 146 3 216 506)::
 (nat_lit 222,fo "widest" 36 m5 221)::
 (nat_lit 223,tp #[])::
 (nat_lit 225,tp #[.str "stands" 512])::
 (nat_lit 226,tp #[])::
 (nat_lit 228,c2 "sight_of_one" 509 153 1 223 513)::
 (nat_lit 229,fo "sight_of_one" 37 m5 228)::
 (nat_lit 230,tp #[])::
 (nat_lit 233,c1 "sight_turned" 516 157 2 230 519)::
 (nat_lit 234,fo "sight_turned" 38 m5 233)::
 (nat_lit 235,tp #[])::
 (nat_lit 237,tq 525 ["sights","whole","sight"])::
 (nat_lit 238,tp #[])::
 (nat_lit 240,c2 "joined" 522 159 1 235 528)::
 (nat_lit 241,fo "joined" 39 m5 240)::
 (nat_lit 242,tp #[])::
 (nat_lit 244,tq 534 ["sight","gap","place"])::
 (nat_lit 245,tp #[])::
 (nat_lit 247,c2 "widen" 531 171 3 242 537)::
 (nat_lit 248,fo "widen" 40 m5 247)::
 (nat_lit 249,tp #[])::
 (nat_lit 251,tp #[.str "word" 543])::
 (nat_lit 252,tp #[])::
 (nat_lit 254,c2 "letters_in" 540 175 1 249 544)::
 (nat_lit 255,fo "letters_in" 41 m5 254)::
 (nat_lit 256,tp #[])::
 (nat_lit 258,tq 552 ["_law_script","_law_cells","_law_by_digits","_law_left","_law_found","_law_k","_law_at","_law_number"])::
 (nat_lit 259,tp #[])::
 (nat_lit 261,c2 "_law_draws" 549 178 1 256 560)::
 (nat_lit 262,fo "_law_draws" 43 m6 261)::
 (nat_lit 263,tp #[])::
 (nat_lit 265,tp #[.str "_law_drawn" 566])::
 (nat_lit 266,tp #[])::
 (nat_lit 268,c2 "_law_next" 563 195 1 263 567)::
 (nat_lit 269,fo "_law_next" 44 m6 268)::
 (nat_lit 270,tp #[])::
 (nat_lit 273,c1 "_law_word" 570 199 3 270 573)::
 (nat_lit 274,fo "_law_word" 45 m6 273)::
 (nat_lit 275,tp #[])::
 (nat_lit 277,tq 579 ["_law_drawn","_law_many","_law_start","_law_most","_law_words","_law_k","_law_word_here","_law_at"])::
 (nat_lit 278,tp #[])::
 (nat_lit 280,c2 "_law_mixing" 576 201 4 275 587)::
 (nat_lit 281,fo "_law_mixing" 46 m6 280)::
 (nat_lit 282,tp #[])::
 (nat_lit 284,tq 593 ["_law_drawn","_law_wide","_law_number","_law_k"])::
 (nat_lit 285,tp #[])::
 (nat_lit 287,c2 "_law_place" 590 211 2 282 597)::
 (nat_lit 288,fo "_law_place" 47 m6 287)::
 (nat_lit 289,tp #[])::
 (nat_lit 291,tq 603 ["_law_rule","_law_word_here","_law_found","_law_sign"])::
 (nat_lit 292,tp #[])::
 (nat_lit 294,c2 "_law_image" 600 216 2 289 607)::
 (nat_lit 295,fo "_law_image" 48 m6 294)::
 (nat_lit 296,tp #[])::
 (nat_lit 298,tq 613 ["_law_rule","_law_start","_law_size","_law_word_here"])::
 (nat_lit 299,tp #[])::
 (nat_lit 301,c2 "_law_written" 610 221 3 296 617)::
 (nat_lit 302,fo "_law_written" 49 m6 301)::
 (nat_lit 303,tp #[])::
 (nat_lit 305,tp #[.str "_law_found" 623])::
 (nat_lit 306,tp #[])::
 (nat_lit 308,c2 "_law_whole" 620 226 1 303 624)::
 (nat_lit 309,fo "_law_whole" 50 m6 308)::
 (nat_lit 310,tp #[])::
 (nat_lit 312,tq 630 ["_law_word_here","_law_drawn","_law_many","_law_size","_law_at"])::
 (nat_lit 313,tp #[])::
 (nat_lit 315,c2 "_law_piece" 627 228 3 310 635)::
 (nat_lit 316,fo "_law_piece" 51 m6 315)::
 (nat_lit 317,tp #[])::
 (nat_lit 319,tp #[.str "_law_found" 641])::
 (nat_lit 320,tp #[])::
 (nat_lit 322,c2 "_law_is_told" 638 232 1 317 642)::
 (nat_lit 323,fo "_law_is_told" 52 m6 322)::
 (nat_lit 324,tp #[])::
 (nat_lit 326,tq 648 ["_law_word_here","_law_piece_here","_law_far","_law_place_here","_law_here","_law_after"])::
 (nat_lit 327,tp #[])::
 (nat_lit 329,c2 "_law_near" 645 236 4 324 654)::
 (nat_lit 330,fo "_law_near" 53 m6 329)::
 (nat_lit 331,tp #[])::
 (nat_lit 333,tq 660 ["_law_number","_law_some"])::
 (nat_lit 334,tp #[])::
 (nat_lit 336,c2 "_law_few" 657 246 1 331 662)::
 (nat_lit 337,fo "_law_few" 54 m6 336)::
 (nat_lit 338,tp #[])::
 (nat_lit 340,tq 668 ["_law_script","_law_drawn","_law_many","_law_start","_law_rule","_law_word_here","_law_piece_here","_law_most","_law_begin","_law_found","_law_far","_law_place_here","_law_size","_law_k","_law_n"])::
 (nat_lit 341,tp #[])::
 (nat_lit 343,c2 "law" 665 252 1 338 683)::
 (nat_lit 344,fo "law" 55 m6 343)::[]
noncomputable def ads:List Addr:=[2,3,15,17,18,20,21,22,25,26,27,30,31,32,34,35,37,38,39,41,42,44,45,46,49,50,51,54,55,56,59,60,61,64,65,66,73,74,75,76,79,86,87,88,91,98,99,100,103,110,111,112,115,122,123,125,126,128,129,130,131,132,135,138,139,140,142,143,145,146,147,149,150,152,153,154,156,157,159,160,161,164,165,166,168,169,171,172,173,175,176,178,179,180,183,184,192,194,195,197,198,199,200,201,202,203,206,209,210,211,214,215,216,218,219,221,222,223,225,226,228,229,230,233,234,235,237,238,240,241,242,244,245,247,248,249,251,252,254,255,256,258,259,261,262,263,265,266,268,269,270,273,274,275,277,278,280,281,282,284,285,287,288,289,291,292,294,295,296,298,299,301,302,303,305,306,308,309,310,312,313,315,316,317,319,320,322,323,324,326,327,329,330,331,333,334,336,337,338,340,341,343,344]
noncomputable def q (p:Program):Program:=view p [1,2,4,5,6,7,8,9,10,11,13,14,15,16,17,19,20,22,23,24,25,26,28,29,30,32,33,34,35,36,37,38,39,40,41,43,44,45,46,47,48,49,50,51,52,53,54,55]
noncomputable abbrev fin (w:World) (os:OsState):Shared:=(prS (goB treeTable pw_neveragain_k43_whole_distance_kept w os)).abs
theorem run (w:World) (os:OsState):topRun treeTable pw_neveragain_k43_whole_distance_kept w 11 ann (12+(1+(2567+2))) ⟨boot_heap w.params,#[],boot_drawn,boot_toks,os⟩ (topStub pw_neveragain_k43_whole_distance_kept)=some (fin w os):=by
 refine go_top (congrFun (congrFun l1 w) os) (piece_block (congrFun (congrFun l2 w) os) ?_);have h:=piece_app (rest:=[]) (segRun_of (congrFun (congrFun l3 w) os)) (piece_nil (congrFun (congrFun l4 w) os));rw[append_nil] at h;exact h
theorem k1:(λ(w:World) (os:OsState)=>ads.map (fin w os).heap.get?)=λw _=>(K w.params).map λp=>some p.2:=by
 unfold fin goB goA;rw[PySem.W.Fast.te10110043849684766642,PySem.W.Fast.te15667345088766844465,PySem.W.Fast.te14364793385576792824,PySem.W.Fast.te12758098601732308103];kernel_rfl
theorem k2:(λ(w:World) (os:OsState)=>staticsOk (importedModules pw_neveragain_k43_whole_distance_kept.main.body) (boot_heap w.params) (fin w os).heap&&namesBound pw_neveragain_k43_whole_distance_kept (fin w os).heap&&gensDone (fin w os)&&laidKept (boot_heap w.params) (fin w os).heap)=λ_ _=>true:=by
 unfold fin goB goA;rw[PySem.W.Fast.te10110043849684766642,PySem.W.Fast.te15667345088766844465,PySem.W.Fast.te14364793385576792824,PySem.W.Fast.te12758098601732308103];kernel_rfl
theorem left_run {p v:Program} {lo:List Str} {X:Shared->Bool} {α:Type} {f:Shared->α} {g:World->α} {N:Nat} {H:Params->Heap} {gs:Array GenState} {d:Drawn} {k m M:Nat} {an:Option Value} {z:World->OsState->Shared}
  (ho:∀w:World,(fencedOpening treeTable p w N).map (λs=>(s.heap,s.gens,s.drawn,s.toks))=some (H w.params,gs,d,k))
  (hs:∀w:World,((H w.params).isNs mainGlobals&&gs.size==0,(H w.params).objs.size,(H w.params).nsMap mainGlobals "__annotations__")=(true,m,an))
  (hr:∀w os,topRun treeTable p w m an M ⟨H w.params,gs,d,k,os⟩ (topStub p)=some (z w os)) (hM:M<=N)
  (h1:∀w os,(staticsOk (importedModules p.main.body) (H w.params) (z w os).heap&&namesBound p (z w os).heap&&gensDone (z w os)&&laidKept (H w.params) (z w os).heap)=true)
  (h2:∀w os,openSeen v lo (importedModules p.main.body) X true (z w os)=openGood v lo) (h3:∀w os,f (z w os)=g w):LeftO p v lo X f g N:=by
 intro w;have a:=ho w;cases e:fencedOpening treeTable p w N with
 |none=>rw[e] at a;cases a
 |some s=>
  rw[e] at a;obtain ⟨hh,hg,hd,hk,os⟩:=s;have b:=Option.some.inj a;have b1:hh=H w.params:=congrArg (·.1) b;have b2:hg=gs:=congrArg (·.2.1) b;have b3:hd=d:=congrArg (·.2.2.1) b;have b4:hk=k:=congrArg (·.2.2.2) b;subst b1 b2 b3 b4;have s1:=congrArg (·.1) (hs w);have s2:=congrArg (·.2.1) (hs w);have s3:=congrArg (·.2.2) (hs w);have r:=topRun_mono (N - M) _ _ _ _ (hr w os);rw[Nat.add_sub_cancel' hM] at r;have t:topFrom treeTable p w N ⟨H w.params,hg,hd,hk,os⟩=some (z w os):=by
   simp only [topFrom];dsimp only at s1 s2 s3;rw[s1,s2,s3,r];simp only [Option.bind,h1 w os]
  simp only [openEnds,e,Option.bind];show (topFrom treeTable p w N _).map _=_;rw[t];exact congrArg some (Prod.ext (h2 w os) (h3 w os))
theorem k3:(λ(w:World) (os:OsState)=>openSeen (q pw_neveragain_k43_whole_distance_kept) ["TooGreat"] (importedModules pw_neveragain_k43_whole_distance_kept.main.body) (λs=>xlAt (q pw_neveragain_k43_whole_distance_kept) [] s&&recOk (RowW.records (OpenRow.toRowW PySem.Challenge.rw_neveragain_k43_whole_distance_kept.row)) s) true (fin w os))=λ_ _=>openGood (q pw_neveragain_k43_whole_distance_kept) ["TooGreat"]:=by
 unfold fin goB goA;rw[PySem.W.Fast.te4187177175401517315,PySem.W.Fast.te10110043849684766642,PySem.W.Fast.te15667345088766844465,PySem.W.Fast.te14364793385576792824,PySem.W.Fast.te12758098601732308103];kernel_rfl
theorem k4:(λ(w:World)=>((boot_heap w.params).isNs mainGlobals&&(#[]:Array GenState).size==0,(boot_heap w.params).objs.size,(boot_heap w.params).nsMap mainGlobals "__annotations__"))=λ_=>(true,11,ann):=by kernel_rfl
theorem k5:opening pw_neveragain_k43_whole_distance_kept=plainProg pw_neveragain_k43_whole_distance_kept.main.scope.names:=by kernel_rfl
theorem k6:(λs=>fenceModules? pw_neveragain_k43_whole_distance_kept s)=λs=>some s:=by kernel_rfl
theorem left:LeftO pw_neveragain_k43_whole_distance_kept (q pw_neveragain_k43_whole_distance_kept) ["TooGreat"] (λs=>xlAt (q pw_neveragain_k43_whole_distance_kept) [] s&&recOk (RowW.records (OpenRow.toRowW PySem.Challenge.rw_neveragain_k43_whole_distance_kept.row)) s) (λs=>ads.map s.heap.get?) (λw=>(K w.params).map λp=>some p.2) 2600:=
 left_run (boot_open k5 (by decide) (λs=>congrFun k6 s)) (λw=>congrFun k4 w) run (by decide) (λw os=>congrFun (congrFun k2 w) os) (λw os=>congrFun (congrFun k3 w) os) (λw os=>congrFun (congrFun k1 w) os)
theorem he (P:Params):ads=(K P).map (·.1):=by kernel_rfl
end L2.Hd
open PySem PySem.W PyProof.Rows
set_option maxRecDepth 100000 in
set_option maxHeartbeats 0 in
theorem PySem.Challenge.cw_neveragain_k43_whole_distance_kept_holds : PySem.Challenge.rw_neveragain_k43_whole_distance_kept.Holds := by
 w_on;o_law
 refine holds_open (q:=L2.Hd.q PySem.Challenge.pw_neveragain_k43_whole_distance_kept) (loose:=["TooGreat"]) (XP:=XL (L2.Hd.q PySem.Challenge.pw_neveragain_k43_whole_distance_kept) [])
  (Yf:=Hook.obs (kHook L2.Hd.K L2.Hd.ads L2.Hd.he)) (Ya:=Hook.val (kHook L2.Hd.K L2.Hd.ads L2.Hd.he))
  (YP:=Hook.says (kHook L2.Hd.K L2.Hd.ads L2.Hd.he)) (N:=2600) L2.Hd.left (Hook.of (kHook L2.Hd.K L2.Hd.ads L2.Hd.he))
  (Hook.keeps (kHook L2.Hd.K L2.Hd.ads L2.Hd.he)) (λs e=>xl_of s (Bool.and_eq_true_iff.mp e).1) XL.keeps (by rfl) (by rfl) (by rfl)
  (λs e=>recFacts_of (Bool.and_eq_true_iff.mp e).2) (by rfl) (by assumption) (by decide+kernel)
  ⟨rfl,rfl,rfl,rfl,rfl,by decide+kernel⟩ ?hw ?hc
 case hw=>w_witness2
 k_fill
 refine L2.Na.SR (KF:=L2.Na.K42.KF) (l:=PySem.Challenge.rw_neveragain_k43_whole_distance_kept) (k:=9) (x:="_law_script") (sp:=L2.Na.K43.uP) rfl rfl ⟨rfl,by decide,by decide⟩ (λw h Y=>PySem.W.kIn_of Y) ?KF rfl L2.Na.K43.zT L2.Na.K43.XN L2.Na.K43.Ge (λ_ _ _ _ _ _ _=>rfl) (λ_=>L2.Na.K43.Gg) (λ_ kf=>L2.Na.K43.Dp kf) ?F ?Q L2.Na.K43.Ek
 case KF=>
  intro w;constructor<;>walk_at "k"
 case F=>
  intro w h KX;refine ⟨?a,?b⟩
  case a=>walk_at "f"
  case b=>
   unfold L2.Na.nN;refine ⟨?_,?_,?_,?_,?_,?_,?_,?_,?_,?_,?_,?_,?_,?_,?_,?_,?_,?_,?_,?_,?_,?_,L2.tI⟩<;>k_is
 case Q=>
  intro w mg h base kf KX G bl A hr;refine' L2.Na.K43.Jd KX G bl ?_ ?_ ?_ ?_ ?_ ?_ ?_ ?_ ?_ ?_ ?_ ?_ ?_ ?_ ?_ ?_ ?_ ?_ ?_ ?_ ?_ ?_ ?_ ?_ ?_ ?_ ?_ ?_ ?_ ?_ ?_ ?_ ?_ ?_ ?_ ?_ ?_ ?_ ?_ ?_ ?_ ?_ kf A hr<;>walk_at "f"
#print axioms PySem.Challenge.cw_neveragain_k43_whole_distance_kept_holds
