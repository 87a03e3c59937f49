import PyProof.Rows.All
import Wide.All
import OpenK.AllK
import Wide.FinOn
import Lean
import PyProof.EqAt
import PyProof.EqKinds
import PyProof.TupleCall
import PyProof.AttrMissSeq
import KE.KDictOf
import KE.KSortTup
import PySem.Challenge.RW_neveragain_k33_first_places
set_option genSizeOf false
set_option bootstrap.genMatcherCode false
set_option compiler.extract_closed false
open List (Nodup Pairwise all_eq_true any_cons append_nil drop_drop drop_eq_nil_of_le drop_zero ext_getElem? extract_eq_take_drop filter_cons find?_cons flatten_cons foldl foldl_cons forIn_cons forIn_nil getD_eq_getElem?_getD getElem?_append_left getElem?_append_right getElem?_drop getElem?_eq_getElem getElem?_map getElem?_of_mem getElem?_range getElem?_take getElem?_zipWith getElem_mem length_append length_cons length_drop length_map length_nil length_range length_replicate length_reverse length_take length_zipWith lookup_cons lookup_cons_self map_append map_congr_left map_cons map_map map_nil map_replicate mem_append mem_append_left mem_append_right mem_cons mem_cons_of_mem mem_cons_self mem_filter mem_filterMap mem_map mem_of_getElem? mem_of_mem_drop mem_of_mem_take mem_range mem_singleton nil_append nodup_cons not_lt not_mem_nil pairwise_append pairwise_cons pairwise_map pairwise_singleton perm_append_comm range range' range_succ replicate replicate_succ size_toArray sum_append sum_cons sum_nil take_add take_add_one take_append_drop take_length take_of_length_le take_succ_cons take_take take_zero zipWith zipWith_cons_cons)
open Nat (le_of_eq le_of_lt le_of_not_lt le_succ lt_of_not_le lt_succ_of_lt min_eq_left ne_of_gt ne_of_lt sub_self zero_add zero_le)
open Bool (and_eq_true false_eq_true not_eq_true' or_eq_true)
open Int (emod_lt_of_pos emod_nonneg toNat toNat_natCast)
open Array (ext' getElem?_toList length_toList size_eq_one_iff size_extract size_map toList_append toList_extract toList_map toList_push toList_reverse)
open PySem.Heap (DictOf ExtBut SameBut get?_push_ne get?_push_of_some get?_push_size get?_update_other get?_update_self lt_size size_update)
noncomputable abbrev L2.Fg:=PySem.W.Frag
theorem L2.tI:True:=True.intro
set_option Elab.async false
set_option linter.all false
set_option maxRecDepth 100000
set_option maxHeartbeats 4000000
namespace L2
open PySem PySem.Spec PyProof.Rows
noncomputable abbrev Key:=Sum Int Str
noncomputable def mD:Key->Value->Bool
 | .inl k,v=>Value.isInt k v
 | .inr x,v=>Value.isStrOf x v
noncomputable def Fz (w:World):Key->Int
 | .inl k=>hashInt k
 | .inr x=>hashStr w x
theorem bC:∀{k:Key} {v:Value},mD k v=true->(∃i t,k=Sum.inl i/\v=Value.int i t)\/(∃x t,k=Sum.inr x/\v=Value.str x t)
 | .inl i,v,h=>by
  obtain ⟨t,e⟩:=Value.isInt_shape (k:=i) (v:=v) h;exact .inl ⟨i,t,rfl,e⟩
 | .inr x,v,h=>by
  obtain ⟨t,e⟩:=Value.isStrOf_shape (x:=x) (v:=v) h;exact .inr ⟨x,t,rfl,e⟩
theorem EF (i:Int) (t:Tok):mD (.inl i) (.int i t)=true:=by simp [mD,Value.isInt]
theorem rH (x:Str) (t:Tok):mD (.inr x) (.str x t)=true:=by simp [mD,Value.isStrOf]
theorem VQ (a b:Int):decide ((Sum.inl a:Key)=Sum.inl b)=(a==b):=by
 by_cases e:a=b
 ·subst e;simp
 ·have h:¬(Sum.inl a:Key)=Sum.inl b:=λq=>e (Sum.inl.inj q);rw[decide_eq_false h];exact (beq_eq_false_iff_ne.mpr e).symm
theorem VN (a b:Str):decide ((Sum.inr a:Key)=Sum.inr b)=decide (a=b):=by
 by_cases e:a=b
 ·subst e;simp
 ·have h:¬(Sum.inr a:Key)=Sum.inr b:=λq=>e (Sum.inr.inj q);rw[decide_eq_false h,decide_eq_false e]
theorem VP (a:Int) (b:Str):decide ((Sum.inl a:Key)=Sum.inr b)=false:=decide_eq_false (λq=>nomatch q)
theorem VO (a:Str) (b:Int):decide ((Sum.inr a:Key)=Sum.inl b)=false:=decide_eq_false (λq=>nomatch q)
noncomputable def aY (prog:Program) (w:World):PySem.KeyKind prog w Key where
 is:=mD
 hash:=Fz w
 inj:=λv a b ha hb=>by
  rcases bC ha with ⟨i,t,rfl,rfl⟩|⟨x,t,rfl,rfl⟩
  ·rcases bC hb with ⟨j,u,rfl,e⟩|⟨y,u,rfl,e⟩
   ·injection e with e1 _;rw[e1]
   ·exact nomatch e
  ·rcases bC hb with ⟨j,u,rfl,e⟩|⟨y,u,rfl,e⟩
   ·exact nomatch e
   ·injection e with e1 _;rw[e1]
 byValue:=λk v h=>by
  rcases bC h with ⟨i,t,rfl,rfl⟩|⟨x,t,rfl,rfl⟩<;>rfl
 pyHash:=λhv h=>by
  rcases bC hv with ⟨i,t,rfl,rfl⟩|⟨x,t,rfl,rfl⟩
  ·exact wpAny_pyHash_int h
  ·exact wpAny_pyHash_str h
 eqBool:=λhu hv h=>by
  rcases bC hu with ⟨i,t,rfl,rfl⟩|⟨x,t,rfl,rfl⟩
  ·rcases bC hv with ⟨j,u,rfl,rfl⟩|⟨y,u,rfl,rfl⟩
   ·rw[VQ] at h;exact wpAny_eqBool_int h
   ·rw[VP] at h;exact SeqAt.EqAt.int_str i t y u _ _ _ _ h
  ·rcases bC hv with ⟨j,u,rfl,rfl⟩|⟨y,u,rfl,rfl⟩
   ·rw[VO] at h;exact SeqAt.EqAt.str_int x t j u _ _ _ _ h
   ·rw[VN] at h;exact wpAny_eqBool_str h
 «strs»:=λk x t v h=>by
  rcases bC h with ⟨i,u,rfl,e⟩|⟨y,u,rfl,e⟩
  ·exact nomatch e
  ·injection e with e1 _
   subst e1;cases v<;>rfl
theorem wM (prog:Program) (w:World) (i:Int) (t:Tok):(aY prog w).is (.inl i) (.int i t)=true:=EF i t
theorem wL (prog:Program) (w:World) (x:Str) (t:Tok):(aY prog w).is (.inr x) (.str x t)=true:=rH x t
inductive V where
 |non|bl (b:Bool)|int (i:Int)|str (x:Str)|byt (b:Array UInt8)|flt (b:UInt64)|ref (a:Addr)|ty (n:String)
 deriving DecidableEq
noncomputable def RelV:V->Value->Prop
 | .non,u=>u=Value.none
 | .bl b,u=>u=Value.bool b
 | .int i,u=>∃t,u=Value.int i t
 | .str x,u=>∃t,u=Value.str x t
 | .byt b,u=>∃t,u=Value.bytes b t
 | .flt b,u=>∃t,u=Value.float b t
 | .ref a,u=>u=Value.ref a
 | .ty n,u=>u=Value.type n
noncomputable abbrev Vals:List V->List Value->Prop:=Paired RelV
theorem Vals.length {xs:List V} {us:List Value} (r:Vals xs us):xs.length=us.length:=Paired.length r
theorem Vals.get:∀{xs:List V} {us:List Value} {i:Nat} {x:V},Vals xs us->xs[i]?=some x->∃u,us[i]?=some u/\RelV x u
 |_,_,_,_,.nil,e=>by simp at e
 |_,_,0,_,.cons r _,e=>by simp at e;subst e;exact ⟨_,rfl,r⟩
 |_,_,i+1,x,.cons _ t,e=>by
  obtain ⟨u,h1,h2⟩:=Vals.get (i:=i) (x:=x) t (by simpa using e);exact ⟨u,by simpa using h1,h2⟩
theorem Vals.set {x:V} {u:Value} (r:RelV x u):∀{xs:List V} {us:List Value} (i:Nat),Vals xs us->Vals (xs.set i x) (us.set i u)
 |_,_,_,.nil=>.nil
 |_,_,0,.cons _ t=>.cons r t
 |_,_,i+1,.cons q t=>.cons q (Vals.set r i t)
theorem Vals.append:∀{xs ys:List V} {us ws:List Value},Vals xs us->Vals ys ws->Vals (xs++ys) (us++ws)
 |_,_,_,_,.nil,s=>s
 |_,_,_,_,.cons r t,s=>.cons r (Vals.append t s)
theorem Vals.take:∀{xs:List V} {us:List Value} (n:Nat),Vals xs us->Vals (xs.take n) (us.take n)
 |_,_,0,_=>.nil
 |_,_,_+1,.nil=>.nil
 |_,_,n+1,.cons r t=>.cons r (Vals.take n t)
theorem Vals.drop:∀{xs:List V} {us:List Value} (n:Nat),Vals xs us->Vals (xs.drop n) (us.drop n)
 |_,_,0,r=>r
 |_,_,_+1,.nil=>.nil
 |_,_,n+1,.cons _ t=>Vals.drop n t
noncomputable def jJ:Option V->Option Value->Prop
 |some v,some u=>RelV v u
 |none,none=>True
 |_,_=>False
noncomputable def KV {κ:Type}:List (κ × V)->List (κ × Value)->Prop:=Paired λ(p:κ × V) (q:κ × Value)=>p.1=q.1/\RelV p.2 q.2
noncomputable def kV:Key->V
 | .inl i=>.int i
 | .inr x=>.str x
inductive HO where
  
 |lst (xs:List V)
  
 |tup (xs:List V)
  
 |dK (kvs:List (Key × V))|dT (kvs:List (List Key × V))
  
 |set (S:Int->Bool) (n:Nat)
  
 |ins (C dx:Addr) (fs:List (Str × V))
  
 |own (x:Addr)
  
 |xd (fs:List (Str × V))
  
 |met (f x:Addr)
  
 |rng (lo hi:Int)
  
 |frz (o:Obj) (u:HO)
  
 |tbl (ps:Array Value)
  
 |ext (φ:Heap->Prop)
noncomputable abbrev Hp:=Addr->Option HO
noncomputable def upd (H:Hp) (a:Addr) (o:HO):Hp:=λb=>if b=a then some o else H b
theorem aA:upd H a o a=some o:=by unfold upd;rw[if_pos rfl]
theorem aF (h:b≠a):upd H a o b=H b:=by unfold upd;rw[if_neg h]
theorem Bg {H:Hp} {a b:Addr} {o u:HO} (h:H a=some o) (h':H b=some u) (d:o≠u):a≠b:=by
 intro e;subst e;rw[h] at h';exact d (Option.some.inj h')
theorem aD {H:Hp} {a b:Addr} {o:HO} (h:H a=some o) (h':H b=none):a≠b:=by
 intro e;subst e;rw[h] at h';cases h'
section
variable (P:Program) (w:World)
noncomputable def aZ (H:Hp) (h:Heap) (a:Addr):HO->Prop
 | .lst xs=>xs.length<=sizeLine/\∃(its:List Value) (n:Nat),Vals xs its/\h.get? a=some {cls:=.type "list",data:=.seq its.toArray n}
 | .tup xs=>xs.length<=sizeLine/\∃its:List Value,Vals xs its/\IsTup h a its.toArray
 | .dK kvs=>kvs.length<=sizeLine/\(a==sysModules)=false/\∃vs,KV kvs vs/\h.DictOf (aY P w) a vs
 | .dT kvs=>kvs.length<=sizeLine/\(a==sysModules)=false/\∃xs:List (List Key × Addr × Value),
   Paired (λ(p:List Key × V) (q:List Key × Addr × Value)=>p.1=q.1/\H q.2.1=some (.tup (p.1.map kV))/\RelV p.2 q.2.2) kvs xs/\
   ∃o es ep,h.get? a=some o/\o.ExactDict/\o.data=.dict es ep/\es.toList=xs.map (entryOfKey (tupleKind (aY P w)))/\(xs.map (·.1)).Nodup
 | .set S n=>h.SetOf (intKind P w) a S n
 | .ins C dx fs=>H dx=some (.own a)/\fs.length<=1000/\dx≠a/\h.get? a=some (PySem.W.instObj C dx)/\
   ∃mA,h.Ns1 dx mA/\(∀f,jJ (fs.lookup f) (mA f))/\PySem.Within mA (fs.map (·.1))
 | .own _=>∃o,h.get? a=some o
 | .xd fs=>∃mA,h.Ns1 a mA/\∀f,jJ (fs.lookup f) (mA f)
 | .rng lo hi=>∃t u v,h.get? a=some {cls:=.type "range",data:=.fields #[.int lo t,.int hi u,.int 1 v]}
 | .frz o u=>h.get? a=some o/\aZ H h a u
 | .tbl ps=>h.get? a=some {cls:=.none,data:=.fields ps}
 | .met f x=>h.get? a=some (PySem.W.methodObj (.ref f) (.ref x))
 | .ext φ=>φ h/\(∃o,h.get? a=some o)/\∀h1 h2:Heap,φ h1->(∀o,h1.get? a=some o->h2.get? a=some o)->φ h2
noncomputable def eJ (H:Hp) (h:Heap):Prop:=∀a o,H a=some o->aZ P w H h a o
end
section
variable {P:Program} {w:World} {H H':Hp} {h h':Heap} {a:Addr} {o:HO}
theorem aZ.lt (x:aZ P w H h a o):a<h.objs.size:=by
 cases o with
 |lst xs=>obtain ⟨_,_,_,_,e⟩:=x;exact lt_size e
 |tup xs=>obtain ⟨_,_,_,p⟩:=x;exact p.lt
 |dK kvs=>obtain ⟨_,_,_,_,o,_,_,e,_⟩:=x;exact lt_size e
 |dT kvs=>obtain ⟨_,_,_,_,o,_,_,e,_⟩:=x;exact lt_size e
 |set S n=>obtain ⟨o,_,_,_,e,_⟩:=x;exact lt_size e
 |ins C dx fs=>obtain ⟨_,_,_,e,_⟩:=x;exact lt_size e
 |own y=>obtain ⟨_,e⟩:=x;exact lt_size e
 |xd fs=>obtain ⟨_,⟨_,_,_,e,_⟩,_⟩:=x;exact lt_size e
 |rng lo hi=>obtain ⟨_,_,_,e⟩:=x;exact lt_size e
 |frz ob u=>obtain ⟨e,_⟩:=x;exact lt_size e
 |tbl ps=>exact lt_size (show h.get? a=some _ from x)
 |met f y=>exact lt_size (show h.get? a=some _ from x)
 |ext φ=>obtain ⟨_,⟨_,e⟩,_⟩:=x;exact lt_size e
theorem Paired.mapP:∀{l₁:List α} {l₂:List β},Paired F l₁ l₂->(∀a b,F a b->G a b)->Paired G l₁ l₂
 |_,_,.nil,_=>.nil
 |_,_,.cons r t,f=>.cons (f _ _ r) (Paired.mapP t f)
theorem aZ.stay (x:aZ P w H h a o) (k:∀b u,(b=a\/H b=some (.own a))->h.get? b=some u->h'.get? b=some u)
  (ho:∀b,H b=some (.own a)->H' b=some (.own a)) (ht:∀b xs,H b=some (.tup xs)->H' b=some (.tup xs)):aZ P w H' h' a o:=by
 induction o with
 |lst xs=>obtain ⟨z,its,n,r,e⟩:=x;exact ⟨z,its,n,r,k _ _ (.inl rfl) e⟩
 |tup xs=>obtain ⟨z,its,r,ob,e,c⟩:=x;exact ⟨z,its,r,ob,k _ _ (.inl rfl) e,c⟩
 |dK kvs=>obtain ⟨z,y,vs,r,ob,es,ep,e,c⟩:=x;exact ⟨z,y,vs,r,ob,es,ep,k _ _ (.inl rfl) e,c⟩
 |dT kvs=>
  obtain ⟨z,y,xs,r,ob,es,ep,e,c⟩:=x;exact ⟨z,y,xs,Paired.mapP r λp q z=>⟨z.1,ht _ _ z.2.1,z.2.2⟩,ob,es,ep,k _ _ (.inl rfl) e,c⟩
 |set S n=>obtain ⟨ob,es,ep,t,e,c⟩:=x;exact ⟨ob,es,ep,t,k _ _ (.inl rfl) e,c⟩
 |ins C dx fs=>
  obtain ⟨d,z,ne,e,mA,⟨od,es,ep,e2,c⟩,r⟩:=x;exact ⟨ho _ d,z,ne,k _ _ (.inl rfl) e,mA,⟨od,es,ep,k _ _ (.inr d) e2,c⟩,r⟩
 |own y=>obtain ⟨ob,e⟩:=x;exact ⟨ob,k _ _ (.inl rfl) e⟩
 |xd fs=>obtain ⟨mA,⟨od,es,ep,e,c⟩,r⟩:=x;exact ⟨mA,⟨od,es,ep,k _ _ (.inl rfl) e,c⟩,r⟩
 |rng lo hi=>obtain ⟨t,u,v,e⟩:=x;exact ⟨t,u,v,k _ _ (.inl rfl) e⟩
 |frz ob u ih=>obtain ⟨e,q⟩:=x;exact ⟨k _ _ (.inl rfl) e,ih q⟩
 |tbl ps=>
  have e:h.get? a=some {cls:=.none,data:=.fields ps}:=x;show h'.get? a=some {cls:=.none,data:=.fields ps};exact k a _ (.inl rfl) e
 |met f y=>
  have e:h.get? a=some (PySem.W.methodObj (.ref f) (.ref y)):=x;show h'.get? a=some (PySem.W.methodObj (.ref f) (.ref y));exact k a _ (.inl rfl) e
 |ext φ=>obtain ⟨p,⟨o,e⟩,st⟩:=x;exact ⟨st _ _ p λo q=>k _ _ (.inl rfl) q,⟨o,k _ _ (.inl rfl) e⟩,st⟩
theorem eJ.lt (x:eJ P w H h) (e:H a=some o):a<h.objs.size:=(x a o e).lt
theorem eJ.fresh (x:eJ P w H h) (e:h.objs.size<=a):H a=none:=by
 cases q:H a with
 |none=>rfl
 |some u=>exact absurd (Nat.lt_of_lt_of_le (x.lt q) e) (Nat.lt_irrefl _)
theorem eJ.kept (x:eJ P w H h) (k:∀b u,h.get? b=some u->h'.get? b=some u):eJ P w H h':=λa o e=>
 (x a o e).stay (λb u _ q=>k b u q) (λ_ q=>q) λ_ _ q=>q
theorem eJ.laid (x:eJ P w H h) (k:∀b u,h.get? b=some u->h'.get? b=some u) (hp:h.objs.size<=a) (new:aZ P w (upd H a o) h' a o):eJ P w (upd H a o) h':=λb u e=>by
 have hn:=x.fresh hp;by_cases hb:b=a
 ·subst hb;rw[aA] at e;cases e;exact new
 ·rw[aF hb] at e;exact (x b u e).stay (λc v _ q=>k c v q) (λc q=>by rw[aF (aD q hn)];exact q) λc xs q=>by rw[aF (aD q hn)];exact q
end
noncomputable def Rd (H:Hp) (a:Addr) (u:HO):Prop:=H a=some u\/∃o,H a=some (.frz o u)
theorem Rd.ok {P:Program} {w:World} {H:Hp} {h:Heap} {a:Addr} {u:HO} (r:Rd H a u) (x:eJ P w H h):aZ P w H h a u:=by
 rcases r with r|⟨o,r⟩
 ·exact x a u r
 ·obtain ⟨_,q⟩:=x a _ r;exact q
noncomputable def Ee:Option HO->Prop
 |some (.lst _)=>True
 |some (.dK _)=>True
 |some (.dT _)=>True
 |some (.set _ _)=>True
 |some (.ins _ _ _)=>True
 |some (.ext _)=>True
 |_=>False
section
variable {P:Program} {w:World} {H:Hp} {h h':Heap} {x e:Addr} {o':HO}
theorem eJ.write (ok:eJ P w H h) (mu:Ee (H x)) (he:e=x\/H e=some (.own x)) (k:∀b u,b≠e->h.get? b=some u->h'.get? b=some u) (heo:∃u,h'.get? e=some u)
  (new:aZ P w (upd H x o') h' x o'):eJ P w (upd H x o') h':=λb u q=>by
 have nown:∀c y,H c=some (.own y)->c≠x:=λc y r z=>by subst z;rw[r] at mu;exact mu
 have ntup:∀c xs,H c=some (.tup xs)->c≠x:=λc xs r z=>by subst z;rw[r] at mu;exact mu
 by_cases hb:b=x
 ·subst hb;rw[aA] at q;cases q;exact new
 ·rw[aF hb] at q;by_cases hbe:b=e
  ·have q':H b=some (.own x):=by
    rcases he with z|z
    ·exact absurd (hbe.trans z) hb
    ·rw[hbe];exact z
   rw[q] at q';cases q';obtain ⟨v,hv⟩:=heo;exact ⟨v,by rw[hbe];exact hv⟩
  ·refine (ok b u q).stay (λc v hc r=>k c v ?_ r) (λc r=>by rw[aF (nown c b r)];exact r) λc xs r=>by rw[aF (ntup c xs r)];exact r
   rcases hc with rfl|hc
   ·exact hbe
   ·rintro rfl;rcases he with z|z
    ·exact nown c b hc z
    ·rw[hc] at z;cases z;exact hb rfl
end
structure Un (fs ex:List Addr) (H H':Hp) (h h':Heap):Prop where
 keep:∀b o,h.get? b=some o->H b=none->b∉fs->b∉ex->h'.get? b=some o
 slot:∀b o,h.get? b=some o->H b=none->b∈fs->b∉ex->∃sl,h'.get? b=some {o with slots:=sl}
 free:∀b o,h.get? b=some o->H b=none->b∉ex->H' b=none
 there:∀b o,h.get? b=some o->b∉ex->∃o',h'.get? b=some o'
 tups:∀b xs,H b=some (.tup xs)->H' b=some (.tup xs)
 frzs:∀b o u,H b=some (.frz o u)->H' b=some (.frz o u)
 tbls:∀b ps,H b=some (.tbl ps)->∃more,H' b=some (.tbl (ps++more))
section
variable {fs fs' ex ex':List Addr} {H H1 H2:Hp} {h h1 h2 h':Heap} {a x e:Addr} {o:HO}
theorem Un.any (u:Un fs ex H H1 h h1) {b:Addr} {ob:Obj} (q:h.get? b=some ob) (n:H b=none) (hx:b∉ex):∃sl,h1.get? b=some {ob with slots:=sl}:=by
 by_cases hb:b∈fs
 ·exact u.slot b ob q n hb hx
 ·exact ⟨ob.slots,u.keep b ob q n hb hx⟩
theorem Un.kept (k:∀b u,h.get? b=some u->h'.get? b=some u):Un fs ex H H h h':=
 ⟨λb ob q _ _ _=>k b ob q,λb ob q _ _ _=>⟨ob.slots,k b ob q⟩,λ_ _ _ n _=>n,λb ob q _=>⟨ob,k b ob q⟩,λ_ _ q=>q,λ_ _ _ q=>q,λ_ ps q=>⟨#[],by rw[q];simp⟩⟩
theorem Un.refl:Un fs ex H H h h:=Un.kept λ_ _ q=>q
theorem Un.laid (k:∀b u,h.get? b=some u->h'.get? b=some u) (hp:h.objs.size<=a) (hn:H a=none):Un fs ex H (upd H a o) h h' where
 keep:=λb u q _ _ _=>k b u q
 slot:=λb u q _ _ _=>⟨u.slots,k b u q⟩
 free:=λb u q n _=>by rw[aF (ne_of_lt (Nat.lt_of_lt_of_le (lt_size q) hp))];exact n
 there:=λb u q _=>⟨u,k b u q⟩
 tups:=λb xs q=>by rw[aF (aD q hn)];exact q
 frzs:=λb u xs q=>by rw[aF (aD q hn)];exact q
 tbls:=λb ps q=>⟨#[],by rw[aF (aD q hn),q];simp⟩
theorem Un.write (mu:Ee (H x)) (he:e=x\/H e=some (.own x)) (k:∀b u,b≠e->h.get? b=some u->h'.get? b=some u) (heo:∃u,h'.get? e=some u):Un fs ex H (upd H x o) h h':=by
 have hx:∀b,H b=none->b≠x:=λb n z=>by subst z;rw[n] at mu;exact mu
 have hb:∀b,H b=none->b≠e:=λb n z=>by
  subst z;rcases he with r|r
  ·exact hx b n r
  ·rw[n] at r;cases r
 have hm:∀b u,H b=some u->¬Ee (some u)->b≠x:=λb u q nm z=>by subst z;rw[q] at mu;exact nm mu
 refine ⟨λb u q n _ _=>k b u (hb b n) q,λb u q n _ _=>⟨u.slots,k b u (hb b n) q⟩,λb u q n _=>by rw[aF (hx b n)];exact n,λb u q _=>?_,
  λb xs q=>by rw[aF (hm b _ q λz=>z)];exact q,λb u xs q=>by rw[aF (hm b _ q λz=>z)];exact q,λb ps q=>⟨#[],by rw[aF (hm b _ q λz=>z),q];simp⟩⟩
 by_cases hbe:b=e
 ·subst hbe;exact heo
 ·exact ⟨u,k b u hbe q⟩
end
noncomputable def En (h:Heap) (H:Hp):List Addr:=(range h.objs.size).filter λa=>(H a).isSome
noncomputable def uA (h:Heap) (H:Hp):Heap:=PySem.W.hideAll h (En h H)
theorem EJ (h:Heap) (H:Hp):(uA h H).objs.size=h.objs.size:=PySem.W.hideAll_size _ _
theorem KG (e:h.get? b=some o) (n:H b=none):(uA h H).get? b=some o:=
 PySem.W.hideAll_get _ e λhm=>by
  have q:(H b).isSome=true:=(mem_filter.mp hm).2;rw[n] at q;simp at q
theorem OB (e:(uA h H).get? b=some o):h.get? b=some o/\H b=none:=by
 have e':h.get? b=some o:=PySem.W.of_hideAll (En h H) e;refine ⟨e',?_⟩;cases q:H b with
 |none=>rfl
 |some x=>
  have hm:b∈En h H:=mem_filter.mpr ⟨mem_range.mpr (lt_size e'),by simp [q]⟩;have z:(uA h H).get? b=none:=PySem.W.hideAll_none (En h H) hm;rw[z] at e;cases e
structure Mod (K:Fg) (mg:Str->Option Value) (base:Heap):Prop where
 kin:K.In base
 glob:base.Ns mainGlobals mg
 blt:∃mb,base.Ns builtinsNs mb/\∀x:Str,x≠"__name__"->mb x=bootBuiltins x
 nolimit:base.NoLimit
structure Cx where
 prog:Program
 w:World
 K:Fg
 mg:Str->Option Value
 base:Heap
 A:Around
 N:List Str
 s₀:Shared
 H₀:Hp
 env:Env
 outer:List Env
 stack:List Env
 ex:List Addr
 fn:Str->Bool
 calm:Bool
 pn:List (Addr × Obj)
 xe:Value->Shared->Prop
noncomputable def fB (l:List Env):List Addr:=l.filterMap (·.frame)
noncomputable abbrev Cx.fs (X:Cx):List Addr:=fB X.outer
noncomputable def Er (sc:Scope) (x:Str):Prop:=sc.names.lookup x=some .local\/sc.names.lookup x=some .cell\/sc.names.lookup x=some .free
noncomputable def Loc (sc:Scope) (x:Str):Prop:=sc.names.lookup x=some .local\/sc.names.lookup x=some .cell
noncomputable def Look (env:Env) (h:Heap) (m:Str->Option Value) (x:Str) (u:Value):Prop:=
 (env.kindOf x=some .local/\m x=some u)\/((env.kindOf x=some .cell\/env.kindOf x=some .free)/\∃c,env.cells.lookup x=some c/\h.IsCell c (some u))
structure Cx.Ok (X:Cx):Prop where
 mod:Mod X.K X.mg X.base
 kind:X.env.scope.kind=.function
 glob:X.env.globals=mainGlobals
 blt:X.env.builtins=builtinsNs
 above:X.s₀.heap.objs.size<=X.env.locals
 inj:∀x y c,X.env.cells.lookup x=some c->X.env.cells.lookup y=some c->x=y
 has:∀x,(X.env.kindOf x=some .cell\/X.env.kindOf x=some .free)->∃c,X.env.cells.lookup x=some c
 cab:∀x c,X.fn x=true->X.env.cells.lookup x=some c->X.s₀.heap.objs.size<=c
 hd:X.calm=true->X.A.handled=none
 frames:X.A.frames=some X.stack
 stk:X.stack=X.outer\/(X.stack=X.env::X.outer/\X.env.frame=some X.env.locals)
 exf:∀b∈X.ex,b≠X.env.locals/\∀x c,X.env.cells.lookup x=some c->c≠b
 bs:∀b o,X.base.get? b=some o->X.s₀.heap.get? b=some o/\X.H₀ b=none
 bsz:X.base.objs.size<=X.s₀.heap.objs.size
 noex:∀b o,X.base.get? b=some o->b∉X.ex
 exfs:∀b∈X.ex,b∉X.fs
 funs:X.s₀.heap.FunFrames X.base X.outer
 frf:∀b∈X.fs,X.H₀ b=none
structure Inv (X:Cx) (pins:List (Addr × Obj)) (σ:List (Option V)) (H:Hp) (s:Shared):Prop where
 ok:X.Ok
 os:s.os=X.s₀.os
 bare:AllBare s.gens
 base:Un X.fs X.ex X.H₀ H X.s₀.heap s.heap
 loc:∃m,s.heap.Ns X.env.locals m/\∀(i:Nat) (x:Str) (v:V),X.N[i]?=some x->σ[i]?=some (some v)->Er X.env.scope x->∃u,RelV v u/\Look X.env s.heap m x u
 cell:∀x c,X.env.cells.lookup x=some c->∃v,s.heap.IsCell c v
 free:H X.env.locals=none
 freeC:∀x c,X.env.cells.lookup x=some c->H c=none
 pin:∀p∈X.pn++pins,s.heap.get? p.1=some p.2/\H p.1=none/\p.1≠X.env.locals/\p.1∉X.fs/\∀v,p.2.data≠.cell v
 hok:eJ X.prog X.w H s.heap
 len:σ.length=X.N.length
section
variable {X:Cx} {pins:List (Addr × Obj)} {σ:List (Option V)} {H H':Hp} {s:Shared} {h':Heap}
theorem Cx.Ok.nofr (ok:X.Ok) (e:X.base.get? b=some o):b∉X.fs:=λhb=>by
 have:=(ok.funs.mem hb).1;rw[e] at this;cases this
theorem Inv.bs (I:Inv X pins σ H s):∀b o,X.base.get? b=some o->s.heap.get? b=some o/\H b=none:=λb o e=>
 ⟨I.base.keep b o (I.ok.bs b o e).1 (I.ok.bs b o e).2 (I.ok.nofr e) (I.ok.noex b o e),I.base.free b o (I.ok.bs b o e).1 (I.ok.bs b o e).2 (I.ok.noex b o e)⟩
theorem Inv.bk (I:Inv X pins σ H s):∀b o,X.base.get? b=some o->s.heap.get? b=some o:=λb o e=>(I.bs b o e).1
theorem Inv.mod (I:Inv X pins σ H s):Mod X.K X.mg X.base:=I.ok.mod
theorem Inv.kIn (I:Inv X pins σ H s):X.K.In s.heap:=I.ok.mod.kin.keeps I.bk
theorem Inv.nolimit (I:Inv X pins σ H s):s.heap.NoLimit:=I.ok.mod.nolimit.keeps I.bk
theorem Inv.lt (I:Inv X pins σ H s):X.env.locals<s.heap.objs.size:=let ⟨_,hn,_⟩:=I.loc;hn.lt
theorem Inv.sz (I:Inv X pins σ H s):X.s₀.heap.objs.size<=s.heap.objs.size:=Nat.le_trans I.ok.above (le_of_lt I.lt)
theorem Inv.nofs (I:Inv X pins σ H s) (h:s.heap.objs.size<=a):a∉X.fs:=λhb=>by
 obtain ⟨_,o,ho,_⟩:=I.ok.funs.mem hb;exact absurd (Nat.lt_of_lt_of_le (lt_size ho) (Nat.le_trans I.sz h)) (Nat.lt_irrefl _)
theorem Inv.cne (I:Inv X pins σ H s):∀x c,X.env.cells.lookup x=some c->c≠X.env.locals:=λx c e z=>by
 obtain ⟨v,o,ho,hd⟩:=I.cell x c e;obtain ⟨m,⟨o',es,ep,ho',hd',_⟩,_⟩:=I.loc;rw[z,ho'] at ho;cases ho;rw[hd'] at hd;cases hd
theorem Inv.funs (I:Inv X pins σ H s):s.heap.FunFrames X.base X.outer:=by
 have all:∀(l:List Env),(∀b∈fB l,b∈X.fs)->X.s₀.heap.FunFrames X.base l->s.heap.FunFrames X.base l:=by
  intro l;induction l with
  |nil=>intro _ _;trivial
  |cons env r ih=>
   intro hs hl;obtain ⟨hk,⟨L,o,hf,hn,ho,hd⟩,hr⟩:=hl;have hL:L∈X.fs:=hs L (by unfold fB;rw[List.filterMap_cons,hf];exact mem_cons_self);obtain ⟨sl,e⟩:=I.base.slot L o ho (I.ok.frf L hL) hL λz=>I.ok.exfs L z hL;exact ⟨hk,⟨L,_,hf,hn,e,hd⟩,ih (λb hb=>hs b (by unfold fB;rw[List.filterMap_cons,hf];exact mem_cons_of_mem _ hb)) hr⟩
 exact all X.outer (λ_ hb=>hb) I.ok.funs
theorem Inv.stack (I:Inv X pins σ H s):s.heap.FunFrames X.base X.stack:=by
 rcases I.ok.stk with e|⟨e,hf⟩
 ·rw[e];exact I.funs
 ·rw[e];obtain ⟨m,hn,_⟩:=I.loc;refine .cons (by rw[I.ok.kind];decide) hf hn ?_ I.funs;exact Heap.get?_none_of_le (Nat.le_trans I.ok.bsz I.ok.above)
theorem Inv.stkSub (I:Inv X pins σ H s):∀b∈fB X.stack,b∈X.env.locals::X.fs:=λb hb=>by
 rcases I.ok.stk with e|⟨e,hf⟩
 ·rw[e] at hb;exact mem_cons_of_mem _ hb
 ·rw[e] at hb;unfold fB at hb;rw[List.filterMap_cons,hf] at hb;exact hb
theorem Inv.stkFree (I:Inv X pins σ H s):∀b∈fB X.stack,H b=none:=λb hb=>by
 rcases mem_cons.mp (I.stkSub b hb) with e|hb
 ·rw[e];exact I.free
 ·obtain ⟨_,o,ho,_⟩:=I.ok.funs.mem hb;exact I.base.free b o ho (I.ok.frf b hb) λz=>I.ok.exfs b z hb
theorem Inv.step {g':Array GenState} {t':Nat} {d':Drawn} {ch:List Addr} (I:Inv X pins σ H s)
  (hch:∀b∈ch,(b∈X.ex\/X.s₀.heap.objs.size<=b)/\b≠X.env.locals/\(∀x c,X.env.cells.lookup x=some c->c≠b)/\∀p∈X.pn++pins,p.1≠b)
  (keep:∀b o,b≠X.env.locals->b∉X.fs->b∉ch->s.heap.get? b=some o->H b=none->h'.get? b=some o)
  (slot:∀b o,b≠X.env.locals->b∈X.fs->b∉ch->s.heap.get? b=some o->H b=none->∃sl,h'.get? b=some {o with slots:=sl}) (free:∀b o,b∉ch->s.heap.get? b=some o->H b=none->H' b=none)
  (there:∀b o,b∉ch->s.heap.get? b=some o->∃o',h'.get? b=some o')
  (tups:∀b xs,H b=some (.tup xs)->H' b=some (.tup xs)) (frzs:∀b o u,H b=some (.frz o u)->H' b=some (.frz o u)) (tbls:∀b ps,H b=some (.tbl ps)->∃more,H' b=some (.tbl (ps++more)))
  (ns:∀m,s.heap.Ns X.env.locals m->h'.Ns X.env.locals m) (hok:eJ X.prog X.w H' h') (hg:AllBare g'):
  Inv X pins σ H' {s with heap:=h',gens:=g',drawn:=d',toks:=t'}:=by
 have neL:∀b o,X.s₀.heap.get? b=some o->b≠X.env.locals:=λb o e=>ne_of_lt (Nat.lt_of_lt_of_le (lt_size e) I.ok.above);have neC:∀b o,X.s₀.heap.get? b=some o->b∉X.ex->b∉ch:=λb o e hx hb=>by
  rcases (hch b hb).1 with z|z
  ·exact hx z
  ·exact absurd (Nat.lt_of_lt_of_le (lt_size e) z) (Nat.lt_irrefl _)
 have cellK:∀x c,X.env.cells.lookup x=some c->∀v,s.heap.IsCell c v->h'.IsCell c v:=λx c e v ⟨o,ho,hd⟩=>by
  have nch:c∉ch:=λz=>(hch c z).2.2.1 x c e rfl;by_cases hc:c∈X.fs
  ·obtain ⟨sl,q⟩:=slot c o (I.cne x c e) hc nch ho (I.freeC x c e);exact ⟨_,q,hd⟩
  ·exact ⟨o,keep c o (I.cne x c e) hc nch ho (I.freeC x c e),hd⟩
 refine ⟨I.ok,I.os,hg,⟨λb o e n hb hx=>?_,λb o e n hb hx=>?_,λb o e n hx=>?_,λb o e hx=>?_,λb xs e=>tups b xs (I.base.tups b xs e),λb o xs e=>frzs b o xs (I.base.frzs b o xs e),λb ps e=>?_⟩,?_,λx c e=>?_,?_,λx c e=>?_,λp hp=>?_,hok,I.len⟩
 ·exact keep b o (neL b o e) hb (neC b o e hx) (I.base.keep b o e n hb hx) (I.base.free b o e n hx)
 ·obtain ⟨sl,e1⟩:=I.base.slot b o e n hb hx;obtain ⟨sl',e2⟩:=slot b _ (neL b o e) hb (neC b o e hx) e1 (I.base.free b o e n hx);exact ⟨sl',e2⟩
 ·obtain ⟨o',e1⟩:=I.base.there b o e hx;exact free b o' (neC b o e hx) e1 (I.base.free b o e n hx)
 ·obtain ⟨o',e1⟩:=I.base.there b o e hx;exact there b o' (neC b o e hx) e1
 ·obtain ⟨m1,e1⟩:=I.base.tbls b ps e;obtain ⟨m2,e2⟩:=tbls b _ e1;exact ⟨m1++m2,by rw[e2,Array.append_assoc]⟩
 ·obtain ⟨m,hn,hl⟩:=I.loc;refine ⟨m,ns m hn,λi x v e1 e2 e3=>?_⟩;obtain ⟨u,r,l⟩:=hl i x v e1 e2 e3;refine ⟨u,r,?_⟩;rcases l with l|⟨k,c,e,z⟩
  ·exact .inl l
  ·exact .inr ⟨k,c,e,cellK x c e _ z⟩
 ·obtain ⟨v,z⟩:=I.cell x c e;exact ⟨v,cellK x c e v z⟩
 ·obtain ⟨m,⟨o,_,_,ho,_⟩,_⟩:=I.loc;exact free _ o (λz=>(hch _ z).2.1 rfl) ho I.free
 ·obtain ⟨v,o,ho,hd⟩:=I.cell x c e;exact free c o (λz=>(hch c z).2.2.1 x c e rfl) ho (I.freeC x c e)
 ·obtain ⟨e,n,ne,nf,d⟩:=I.pin p hp;have nch:p.1∉ch:=λz=>(hch p.1 z).2.2.2 p hp rfl;exact ⟨keep p.1 p.2 ne nf nch e n,free p.1 p.2 nch e n,ne,nf,d⟩
theorem Inv.un {t':Nat} (I:Inv X pins σ H s) (u:Un X.fs [] H H' s.heap h') (hok:eJ X.prog X.w H' h'):Inv X pins σ H' {s with heap:=h',toks:=t'}:=by
 obtain ⟨m,⟨o,es,ep,ho,r⟩,_⟩:=id I.loc;obtain ⟨sl,hL⟩:=u.any ho I.free (by simp);exact I.step (g':=s.gens) (d':=s.drawn) (ch:=[]) (λ_ z=>nomatch z) (λb o _ hb _ e n=>u.keep b o e n hb (by simp)) (λb o _ hb _ e n=>u.slot b o e n hb (by simp)) (λb o _ e n=>u.free b o e n (by simp)) (λb o _ e=>u.there b o e (by simp)) u.tups u.frzs u.tbls (λm' hm=>by
  obtain ⟨o',es',ep',ho',r'⟩:=hm
  rw[ho] at ho';cases ho'
  exact ⟨_,es',ep',hL,r'⟩) hok I.bare
theorem Inv.call {g':Array GenState} {t':Nat} {d':Drawn} {ch:List Addr} (I:Inv X pins σ H s) (u:Un (fB X.stack) ch H H' s.heap h') (hok:eJ X.prog X.w H' h') (hg:AllBare g')
  (hch:∀b∈ch,(b∈X.ex\/X.s₀.heap.objs.size<=b)/\b≠X.env.locals/\(∀x c,X.env.cells.lookup x=some c->c≠b)/\∀p∈X.pn++pins,p.1≠b):
  Inv X pins σ H' {s with heap:=h',gens:=g',drawn:=d',toks:=t'}:=by
 obtain ⟨m,⟨o,es,ep,ho,r⟩,_⟩:=id I.loc;obtain ⟨sl,hL⟩:=u.any ho I.free λz=>(hch _ z).2.1 rfl;exact I.step (ch:=ch) hch (λb o hL hb hc e n=>u.keep b o e n (λz=>(mem_cons.mp (I.stkSub b z)).elim hL hb) hc) (λb o _ _ hc e n=>u.any e n hc) (λb o hc e n=>u.free b o e n hc) (λb o hc e=>u.there b o e hc) u.tups u.frzs u.tbls (λm' hm=>by
  obtain ⟨o',es',ep',ho',r'⟩:=hm
  rw[ho] at ho';cases ho'
  exact ⟨_,es',ep',hL,r'⟩) hok hg
theorem Inv.turned {t':Nat} {it:Addr} (I:Inv X pins σ H s) (k:∀b o,b≠it->s.heap.get? b=some o->h'.get? b=some o) (hn:H it=none) (hL:it≠X.env.locals)
  (h1:it∈X.ex\/X.s₀.heap.objs.size<=it) (h2:∀x c,X.env.cells.lookup x=some c->c≠it) (h3:∀p∈X.pn++pins,p.1≠it):Inv X pins σ H {s with heap:=h',toks:=t'}:=by
 have nit:∀b u,H b=some u->b≠it:=λb u e z=>by rw[z,hn] at e;cases e
 refine I.step (g':=s.gens) (d':=s.drawn) (ch:=[it]) (λb hb=>?_) (λb o _ _ hc e _=>k b o (λz=>hc (by simp [z])) e) (λb o _ _ hc e _=>⟨o.slots,k b o (λz=>hc (by simp [z])) e⟩) (λ_ _ _ _ n=>n)
  (λb o hc e=>⟨o,k b o (λz=>hc (by simp [z])) e⟩) (λ_ _ e=>e) (λ_ _ _ e=>e) (λb ps e=>⟨#[],by rw[e];simp⟩) (λm hm=>?_) (λb u e=>?_) I.bare
 ·have e:b=it:=by simpa using hb
  subst e;exact ⟨h1,hL,h2,h3⟩
 ·obtain ⟨o,es,ep,ho,r⟩:=hm;exact ⟨o,es,ep,k _ o (Ne.symm hL) ho,r⟩
 ·refine (I.hok b u e).stay (λc v hc q=>k c v ?_ q) (λ_ q=>q) λ_ _ q=>q;rcases hc with z|z
  ·rw[z];exact nit b u e
  ·exact nit c _ z
theorem Inv.tok (I:Inv X pins σ H s) (t:Nat):Inv X pins σ H {s with toks:=t}:=I.un (h':=s.heap) (t':=t) Un.refl I.hok
theorem Inv.kept {t':Nat} (I:Inv X pins σ H s) (k:∀b u,s.heap.get? b=some u->h'.get? b=some u):Inv X pins σ H {s with heap:=h',toks:=t'}:=I.un (Un.kept k) (I.hok.kept k)
theorem Inv.laid {a:Addr} {o:HO} {t':Nat} (I:Inv X pins σ H s) (k:∀b u,s.heap.get? b=some u->h'.get? b=some u) (hp:s.heap.objs.size<=a) (new:aZ X.prog X.w (upd H a o) h' a o):
  Inv X pins σ (upd H a o) {s with heap:=h',toks:=t'}:=I.un (Un.laid k hp (I.hok.fresh hp)) (I.hok.laid k hp new)
theorem Inv.write (I:Inv X pins σ H s) (mu:Ee (H x)) (he:e=x\/H e=some (.own x)) (k:∀b u,b≠e->s.heap.get? b=some u->h'.get? b=some u) (heo:∃u,h'.get? e=some u)
  (new:aZ X.prog X.w (upd H x o) h' x o):Inv X pins σ (upd H x o) {s with heap:=h',toks:=t'}:=I.un (Un.write mu he k heo) (I.hok.write mu he k heo new)
theorem Inv.pins_of (I:Inv X pins σ H s) (h:∀p∈pins',s.heap.get? p.1=some p.2/\H p.1=none/\p.1≠X.env.locals/\p.1∉X.fs/\∀v,p.2.data≠.cell v):Inv X pins' σ H s:=
 ⟨I.ok,I.os,I.bare,I.base,I.loc,I.cell,I.free,I.freeC,λp hp=>(mem_append.mp hp).elim (λz=>I.pin p (mem_append_left _ z)) (h p),I.hok,I.len⟩
theorem wJ {N:List Str} (hN:N.Nodup) {i j:Nat} {x:Str} (a:N[i]?=some x) (b:N[j]?=some x):i=j:=by
 obtain ⟨h1,e1⟩:=List.getElem?_eq_some_iff.mp a;obtain ⟨h2,e2⟩:=List.getElem?_eq_some_iff.mp b;exact (List.getElem_inj hN).mp (e1.trans e2.symm)
theorem qY (I:Inv X pins σ H s) (hN:X.N.Nodup) (hi:X.N[i]?=some x) (hx:Loc X.env.scope x) (r:RelV v u)
  (h:∀s',Inv X pins (σ.set i (some v)) H s'->(∃a,SameBut a s.heap s'.heap/\(a=X.env.locals\/X.env.cells.lookup x=some a))->Q () s') (hf:X.fn x=true\/X.env.scope.names.lookup x=some .local:=by first|exact .inl rfl|exact .inr rfl|assumption):wpAny M A (storeName X.env x u) Q E s:=by
 obtain ⟨m,hn,hl⟩:=id I.loc;have hcls:(X.env.scope.kind==.class || (X.env.scope.kind==.module&&X.env.locals != X.env.globals))=false:=by rw[I.ok.kind];rfl
 have hiσ:i<σ.length:=by rw[I.len];exact (List.getElem?_eq_some_iff.mp hi).1
 have cne:=I.cne;have tracked:∀{a:Addr} {h':Heap},(∃o,s.heap.get? a=some o/\H a=none)->SameBut a s.heap h'->eJ X.prog X.w H h':=λ{a h'} ha hs b ob e=>by
  obtain ⟨_,_,hfree⟩:=ha;refine (I.hok b ob e).stay (λc w' hc q=>(hs.2 c ?_).trans q) (λ_ q=>q) λ_ _ q=>q;rintro rfl;rcases hc with rfl|hc
  ·rw[hfree] at e;cases e
  ·rw[hfree] at hc;cases hc
 rcases hx with hk|hk
 ·refine wpAny_storeName_local hk hn (λh' hn' hs=>?_) hcls;obtain ⟨oL,_,_,hoL,_⟩:=id hn;refine h _ ⟨I.ok,I.os,I.bare,⟨λb o e n hb hx=>?_,λb o e n hb hx=>?_,I.base.free,λb o e hx=>?_,I.base.tups,I.base.frzs,I.base.tbls⟩,⟨_,hn',λj y v' e1 e2 e3=>?_⟩,λy c e=>?_,I.free,I.freeC,λp hp=>?_,tracked ⟨oL,hoL,I.free⟩ hs,by simpa using I.len⟩ ⟨_,hs,.inl rfl⟩
  ·exact (hs.2 b (ne_of_lt (Nat.lt_of_lt_of_le (lt_size e) I.ok.above))).trans (I.base.keep b o e n hb hx)
  ·obtain ⟨sl,e1⟩:=I.base.slot b o e n hb hx;exact ⟨sl,(hs.2 b (ne_of_lt (Nat.lt_of_lt_of_le (lt_size e) I.ok.above))).trans e1⟩
  ·obtain ⟨o',e1⟩:=I.base.there b o e hx;exact ⟨o',(hs.2 b (ne_of_lt (Nat.lt_of_lt_of_le (lt_size e) I.ok.above))).trans e1⟩
  ·by_cases hj:j=i
   ·subst hj;rw[hi] at e1;cases e1;rw[List.getElem?_set_self hiσ] at e2;cases e2;exact ⟨u,r,.inl ⟨hk,by simp⟩⟩
   ·rw[List.getElem?_set_ne (Ne.symm hj)] at e2;obtain ⟨u',r',q⟩:=hl j y v' e1 e2 e3;refine ⟨u',r',?_⟩;rcases q with ⟨k,e⟩|⟨k,c,e,z⟩
    ·refine .inl ⟨k,?_⟩;have:y≠x:=λe=>hj (wJ hN e1 (e▸hi));simp [this,e]
    ·exact .inr ⟨k,c,e,z.sameBut hs (cne y c e)⟩
  ·obtain ⟨w',z⟩:=I.cell y c e;exact ⟨w',z.sameBut hs (cne y c e)⟩
  ·obtain ⟨e,n,ne,nf,d⟩:=I.pin p hp;exact ⟨(hs.2 p.1 ne).trans e,n,ne,nf,d⟩
 ·have hfn:X.fn x=true:=by
   rcases hf with z|z
   ·exact z
   ·rw[z] at hk;cases hk
  obtain ⟨c,hc⟩:=I.ok.has x (.inl hk);obtain ⟨w',z⟩:=I.cell x c hc;refine wpAny_storeName_cell I.ok.kind hk hc z (λh' hc' hs=>?_);obtain ⟨oc,hoc,hocd⟩:=id z;refine h {s with heap:=h'} ⟨I.ok,I.os,I.bare,⟨λb o e n hb hx=>?_,λb o e n hb hx=>?_,I.base.free,λb o e hx=>?_,I.base.tups,I.base.frzs,I.base.tbls⟩,⟨m,hn.sameBut hs (Ne.symm (cne x c hc)),λj y v' e1 e2 e3=>?_⟩,λy c' e=>?_,I.free,I.freeC,λp hp=>?_,tracked ⟨oc,hoc,I.freeC x c hc⟩ hs,by simpa using I.len⟩ ⟨c,hs,.inr hc⟩
  ·exact (hs.2 b (ne_of_lt (Nat.lt_of_lt_of_le (lt_size e) (I.ok.cab x c hfn hc)))).trans (I.base.keep b o e n hb hx)
  ·obtain ⟨sl,e1⟩:=I.base.slot b o e n hb hx;exact ⟨sl,(hs.2 b (ne_of_lt (Nat.lt_of_lt_of_le (lt_size e) (I.ok.cab x c hfn hc)))).trans e1⟩
  ·obtain ⟨o',e1⟩:=I.base.there b o e hx;exact ⟨o',(hs.2 b (ne_of_lt (Nat.lt_of_lt_of_le (lt_size e) (I.ok.cab x c hfn hc)))).trans e1⟩
  ·by_cases hj:j=i
   ·subst hj;rw[hi] at e1;cases e1;rw[List.getElem?_set_self hiσ] at e2;cases e2;exact ⟨u,r,.inr ⟨.inl hk,c,hc,hc'⟩⟩
   ·rw[List.getElem?_set_ne (Ne.symm hj)] at e2;obtain ⟨u',r',q⟩:=hl j y v' e1 e2 e3;refine ⟨u',r',?_⟩;rcases q with q|⟨k,c',e,z'⟩
    ·exact .inl q
    ·refine .inr ⟨k,c',e,z'.sameBut hs ?_⟩;rintro rfl;exact hj (wJ hN e1 (I.ok.inj _ _ _ e hc▸hi))
  ·by_cases hcc:c'=c
   ·subst hcc;exact ⟨_,hc'⟩
   ·obtain ⟨w2,z2⟩:=I.cell y c' e;exact ⟨w2,z2.sameBut hs hcc⟩
  ·obtain ⟨e,n,ne,nf,d⟩:=I.pin p hp;refine ⟨(hs.2 p.1 ?_).trans e,n,ne,nf,d⟩;intro q;rw[q,hoc] at e;have q':oc=p.2:=Option.some.inj e;exact d w' (by rw[<-q'];exact hocd)
theorem vI {M:Model} {A:Around} {E:Value->Shared->Prop} {i:Nat} {x:Str} {v:V} {u:Value} {Q:Unit->Shared->Prop} (I:Inv X pins σ H s) (hN:X.N.Nodup) (hi:X.N[i]?=some x) (hx:Loc X.env.scope x) (r:RelV v u)
  (h:∀s',Inv X pins (σ.set i (some v)) H s'->Q () s') (hf:X.fn x=true\/X.env.scope.names.lookup x=some .local:=by first|exact .inl rfl|exact .inr rfl|assumption):wpAny M A (storeName X.env x u) Q E s:=
 qY I hN hi hx r (λs' I' _=>h s' I') hf
theorem Inv.call' (I:Inv X pins σ H s) (ho:s'.os=s.os) (u:Un (fB X.stack) ch H H' s.heap s'.heap) (hok:eJ X.prog X.w H' s'.heap) (hg:AllBare s'.gens)
  (hch:∀b∈ch,(b∈X.ex\/X.s₀.heap.objs.size<=b)/\b≠X.env.locals/\(∀x c,X.env.cells.lookup x=some c->c≠b)/\∀p∈X.pn++pins,p.1≠b):Inv X pins σ H' s':=by
 obtain ⟨h',g',d',t',o'⟩:=s';have e:o'=s.os:=ho;subst e;exact I.call (g':=g') (t':=t') (d':=d') u hok hg hch
end
noncomputable abbrev XK:=Value->Option Addr->Hp->Prop
noncomputable abbrev St:=List (Option V)
noncomputable abbrev VK:=V->Hp->Prop
noncomputable abbrev TE:=St->Hp->VK->Prop
noncomputable abbrev TT:=St->Hp->(Bool->Hp->Prop)->Prop
noncomputable abbrev TA:=St->Hp->(List V->Hp->Prop)->Prop
structure Ends where
 nx:St->Hp->Prop
 rt:VK
 bk:St->Hp->Prop:=λ_ _=>False
 ct:St->Hp->Prop:=λ_ _=>False
noncomputable abbrev TS:=Ends->St->Hp->Prop
noncomputable def EP (X:Cx) (pins:List (Addr × Obj)) (σ:St) (Q:VK) (u:Value) (s':Shared):Prop:=∃v H',Inv X pins σ H' s'/\RelV v u/\Q v H'
noncomputable def TP (X:Cx) (pins:List (Addr × Obj)) (σ:St) (Q:Bool->Hp->Prop) (b:Bool) (s':Shared):Prop:=∃H',Inv X pins σ H' s'/\Q b H'
noncomputable def AP (X:Cx) (pins:List (Addr × Obj)) (σ:St) (Q:List V->Hp->Prop) (us:List Value) (s':Shared):Prop:=∃vs H',Inv X pins σ H' s'/\Vals vs us/\Q vs H'
noncomputable def SP (X:Cx) (pins:List (Addr × Obj)) (D:Ends) (f:Flow) (s':Shared):Prop:=
 match f with
 | .next=>∃σ' H',Inv X pins σ' H' s'/\D.nx σ' H'
 | .brk=>∃σ' H',Inv X pins σ' H' s'/\D.bk σ' H'
 | .cont=>∃σ' H',Inv X pins σ' H' s'/\D.ct σ' H'
 | .ret u=>∃v σ' H',Inv X pins σ' H' s'/\RelV v u/\D.rt v H'
noncomputable def PE (X:Cx) (e:Expr) (t:TE):Prop:=
 ∀(pins:List (Addr × Obj)) (s:Shared) (σ:St) (H:Hp) (Q:VK),Inv X pins σ H s->t σ H Q->wpAny (model X.prog X.w) X.A (eval e X.env) (EP X pins σ Q) X.xe s
noncomputable def PT (X:Cx) (e:Expr) (t:TT):Prop:=
 ∀(pins:List (Addr × Obj)) (s:Shared) (σ:St) (H:Hp) (Q:Bool->Hp->Prop),Inv X pins σ H s->t σ H Q->wpAny (model X.prog X.w) X.A (isTrue e X.env (eval e X.env)) (TP X pins σ Q) X.xe s
noncomputable def PW (X:Cx) (e:Expr) (t:TT):Prop:=
 ∀(whole:Sem Value) (pins:List (Addr × Obj)) (s:Shared) (σ:St) (H:Hp) (Q:Bool->Hp->Prop),Inv X pins σ H s->t σ H Q->wpAny (model X.prog X.w) X.A (isTrue e X.env whole) (TP X pins σ Q) X.xe s
theorem PW.pt {X:Cx} {e:Expr} {t:TT} (h:PW X e t):PT X e t:=h _
noncomputable def PA (X:Cx) (es:List Expr) (t:TA):Prop:=
 ∀(pos:Pos) (pins:List (Addr × Obj)) (s:Shared) (σ:St) (H:Hp) (Q:List V->Hp->Prop),Inv X pins σ H s->t σ H Q->wpAny (model X.prog X.w) X.A (spliced (backTo pos (starEach es X.env))) (AP X pins σ Q) X.xe s
noncomputable def PS (X:Cx) (st:Stmt) (t:TS):Prop:=
 ∀(pins:List (Addr × Obj)) (s:Shared) (σ:St) (H:Hp) (D:Ends),Inv X pins σ H s->t D σ H->wpAny (model X.prog X.w) X.A (exec st X.env) (SP X pins D) X.xe s
noncomputable def XZ (X:Cx) (st:List Stmt) (t:TS):Prop:=
 ∀(pins:List (Addr × Obj)) (s:Shared) (σ:St) (H:Hp) (D:Ends),Inv X pins σ H s->t D σ H->wpAny (model X.prog X.w) X.A (execs st X.env) (SP X pins D) X.xe s
theorem bS {α:Type} {t:Sem α} {Q Q':α->Shared->Prop} {M:Model} {A:Around} {E:Value->Shared->Prop} {s:Shared} (h:wpAny M A t Q E s) (hQ:∀a s,Q a s->Q' a s):wpAny M A t Q' E s:=wpAny_mono h hQ λ_ _ x=>x
section
variable {X:Cx}
noncomputable def Fh (i:Nat):TE:=λσ H Q=>∃v,σ[i]?=some (some v)/\Q v H
noncomputable def tC (v:V):TE:=λ_ H Q=>Q v H
theorem UL (hN:X.N[i]?=some x) (hv:Er X.env.scope x) (hd:(x==("__debug__":Str))=false:=by decide) (hcd:(x==("__classdict__":Str))=false:=by decide):PE X (.Name x pos) (Fh i):=by
 intro pins s σ H Q I h;obtain ⟨v,e,h⟩:=h;obtain ⟨m,hn,hl⟩:=I.loc;obtain ⟨u,r,l⟩:=hl i x v hN e hv;have fin:EP X pins σ Q u s:=⟨v,H,I,r,h⟩;rcases l with ⟨hk,hm⟩|⟨hk,c,hc,hcell⟩
 ·exact wpAny_Name (wpAny_loadName_local I.ok.kind hk hn hm fin) hd
 ·rcases hk with hk|hk
  ·exact wpAny_Name (wpAny_loadName_cell I.ok.kind hk hc hcell fin) hd
  ·exact wpAny_Name (wpAny_loadName_free I.ok.kind hk hc hcell fin hcd) hd
theorem UR {i j pos}:PE X (.Constant (.int i) j pos) (tC (.int i)):=λ_ _ _ H _ I h=>wpAny_Constant_int ⟨.int i,H,I.tok _,⟨_,rfl⟩,h⟩
theorem As {b j pos}:PE X (.Constant (.bool b) j pos) (tC (.bl b)):=λ_ _ _ H _ I h=>Constant_bool ⟨.bl b,H,I,rfl,h⟩
theorem UP {j pos}:PE X (.Constant .none j pos) (tC .non):=λ_ _ _ H _ I h=>Constant_none ⟨.non,H,I,rfl,h⟩
theorem UN {x j pos}:PE X (.Constant (.str x) j pos) (tC (.str x)):=λ_ _ _ H _ I h=>Calls.Constant_str ⟨.str x,H,I.tok _,⟨_,rfl⟩,h⟩
noncomputable def Gl (X:Cx) (x:Str):Prop:=X.env.kindOf x=some .globalImplicit
theorem kN {E:Value->Shared->Prop} {pins:List (Addr × Obj)} {s:Shared} {σ:St} {H:Hp} {x:Str} {u:Value} {pos:Pos} {Q:Value->Shared->Prop} (I:Inv X pins σ H s) (hg:Gl X x) (hm:X.mg x=some u) (h:Q u s)
  (hd:(x==("__debug__":Str))=false:=by decide):wpAny (model X.prog X.w) X.A (eval (.Name x pos) X.env) Q E s:=
 Calls.Name_function_global I.ok.kind hg (Calls.loadGlobal_global (by rw[I.ok.glob];exact I.mod.glob.keeps I.bk) hm h) hd
theorem eS {E:Value->Shared->Prop} {pins:List (Addr × Obj)} {s:Shared} {σ:St} {H:Hp} {x:Str} {u:Value} {pos:Pos} {Q:Value->Shared->Prop} (I:Inv X pins σ H s) (hg:Gl X x) (hm:X.mg x=none) (hv:bootBuiltins x=some u) (h:Q u s)
  (hn:x≠"__name__":=by decide) (hd:(x==("__debug__":Str))=false:=by decide):wpAny (model X.prog X.w) X.A (eval (.Name x pos) X.env) Q E s:=by
 obtain ⟨mb,h1,h2⟩:=I.mod.blt;exact Calls.Name_function_global I.ok.kind hg (Calls.loadGlobal_builtin (by rw[I.ok.glob];exact I.mod.glob.keeps I.bk) hm (by rw[I.ok.blt];exact h1.keeps I.bk) ((h2 x hn).trans hv) h) hd
theorem NP (hg:Gl X x) (hm:X.mg x=some u) (r:RelV v u) (hd:(x==("__debug__":Str))=false:=by decide):PE X (.Name x pos) (tC v):=
 λ_ _ _ H _ I h=>kN I hg hm ⟨v,H,I,r,h⟩ hd
theorem NS (hg:Gl X x) (hm:X.mg x=none) (hv:bootBuiltins x=some u) (r:RelV v u) (hn:x≠"__name__":=by decide) (hd:(x==("__debug__":Str))=false:=by decide):PE X (.Name x pos) (tC v):=
 λ_ _ _ H _ I h=>eS I hg hm hv ⟨v,H,I,r,h⟩ hn hd
variable {a b:Expr} {ta tb:TE} {pos:Pos}
variable {tA tB':TT} {rest:List Expr}
noncomputable def Fj (t:TT):TT:=λσ H Q=>t σ H λc H1=>Q (!c) H1
theorem NG (ha:PT X a tA):PW X (.BoolOp .And [a] pos) tA:=by
 intro wh pins s σ H Q I h;refine isTrue_and (bS (ha pins s σ H Q I h) λc s1 e=>?_);cases c with
 |true=>exact isTrue_and_nil e
 |false=>exact e
theorem UB (ha:PT X a tA):PW X (.BoolOp .Or [a] pos) tA:=by
 intro wh pins s σ H Q I h;refine isTrue_or (bS (ha pins s σ H Q I h) λc s1 e=>?_);cases c with
 |false=>exact isTrue_or_nil e
 |true=>exact e
theorem UE (ha:PT X a tA):PT X (.UnaryOp .Not a pos) (Fj tA):=by
 intro pins s σ H Q I h;exact isTrue_not (ha pins s σ H (λc H1=>Q (!c) H1) I h)
theorem UO {op} (h:PE X a t):PE X (.BoolOp op [a] pos) t:=λpins s σ H Q I hw=>BoolOp_one (h pins s σ H Q I hw)
end
noncomputable def aR (K:Fg) (H:Hp) (a:Addr) (xs:List V):Prop:=
 Rd H a (.lst xs)\/
  ∃(o:Obj) (its:Array Value) (n:Nat),K.lookup a=some o/\o.cls=.type "list"/\o.dict=none/\o.data=.seq its n/\its.size<=sizeLine/\Vals xs its.toList
noncomputable def cC (K:Fg) (H:Hp) (a:Addr) (xs:List V):Prop:=
 Rd H a (.tup xs)\/
  ∃(o:Obj) (its:Array Value) (n:Nat),K.lookup a=some o/\o.cls=.type "tuple"/\o.data=.seq its n/\its.size<=sizeLine/\Vals xs its.toList
noncomputable def Hf:Value->Option V
 | .none=>some .non
 | .bool b=>some (.bl b)
 | .int i _=>some (.int i)
 | .str x _=>some (.str x)
 | .bytes b _=>some (.byt b)
 | .float b _=>some (.flt b)
 | .ref a=>some (.ref a)
 | .type n=>some (.ty n)
 |_=>none
theorem RelV.abs (r:RelV x u):Hf u=some x:=by
 cases x with
 |non=>cases r;rfl
 |bl _=>cases r;rfl
 |int _=>obtain ⟨t,rfl⟩:=r;rfl
 |str _=>obtain ⟨t,rfl⟩:=r;rfl
 |byt _=>obtain ⟨t,rfl⟩:=r;rfl
 |flt _=>obtain ⟨t,rfl⟩:=r;rfl
 |ref _=>cases r;rfl
 |ty _=>cases r;rfl
theorem RelV.inj {x y:V} {u:Value} (r:RelV x u) (q:RelV y u):x=y:=Option.some.inj (r.abs.symm.trans q.abs)
theorem Vals.inj:∀{xs ys:List V} {us:List Value},Vals xs us->Vals ys us->xs=ys
 |_,_,_,.nil,.nil=>rfl
 |_,_,_,.cons r t,.cons r' t'=>by rw[r.inj r',Vals.inj t t']
section
variable {X:Cx} {pins:List (Addr × Obj)} {σ:St} {H:Hp} {s:Shared} {a:Addr} {xs ys:List V}
theorem aR.of {K:Fg} (h:H a=some (.lst xs)):aR K H a xs:=.inl (.inl h)
theorem cC.of {K:Fg} (h:H a=some (.tup xs)):cC K H a xs:=.inl (.inl h)
theorem Inv.list (I:Inv X pins σ H s) (h:aR X.K H a xs):∃its:List Value,Vals xs its/\PlainL s.heap a its.toArray/\xs.length<=sizeLine:=by
 rcases h with h|⟨o,its,n,hk,hc,hd,hs,hz,r⟩
 ·obtain ⟨z,its,n,r,e⟩:=h.ok I.hok;exact ⟨its,r,⟨_,n,e,rfl,rfl,rfl⟩,z⟩
 ·refine ⟨its.toList,r,⟨o,n,I.kIn a o hk,hc,hd,by simpa using hs⟩,?_⟩;have e:=r.length;simp only [length_toList] at e;lia
theorem Inv.tuple (I:Inv X pins σ H s) (h:cC X.K H a xs):∃its:List Value,Vals xs its/\IsTup s.heap a its.toArray/\xs.length<=sizeLine:=by
 rcases h with h|⟨o,its,n,hk,hc,hs,hz,r⟩
 ·obtain ⟨z,its,r,p⟩:=h.ok I.hok;exact ⟨its,r,p,z⟩
 ·refine ⟨its.toList,r,⟨o,I.kIn a o hk,hc,n,by simpa using hs⟩,?_⟩;have e:=r.length;simp only [length_toList] at e;lia
theorem Inv.list_inj (I:Inv X pins σ H s) (h:aR X.K H a xs) (h':aR X.K H a ys):xs=ys:=by
 obtain ⟨its,r,⟨o,n,e,_,_,d⟩,_⟩:=I.list h;obtain ⟨its',r',⟨o',n',e',_,_,d'⟩,_⟩:=I.list h';rw[e] at e';cases e';rw[d] at d';injection d' with d1 _
 have:its=its':=by simpa using congrArg Array.toList d1
 subst this;exact r.inj r'
theorem Inv.tuple_inj (I:Inv X pins σ H s) (h:cC X.K H a xs) (h':cC X.K H a ys):xs=ys:=by
 obtain ⟨its,r,⟨o,e,_,n,d⟩,_⟩:=I.tuple h;obtain ⟨its',r',⟨o',e',_,n',d'⟩,_⟩:=I.tuple h';rw[e] at e';cases e';rw[d] at d';injection d' with d1 _
 have:its=its':=by simpa using congrArg Array.toList d1
 subst this;exact r.inj r'
end
section
variable {X:Cx} {pins:List (Addr × Obj)} {σ:St} {H:Hp} {s:Shared} {E:Value->Shared->Prop}
end
section
variable {X:Cx} {st:Stmt} {rest:List Stmt} {t u:TS} {e:Expr} {te:TE} {pos:Pos}
noncomputable def QX:TS:=λD σ H=>D.nx σ H
noncomputable def ZM (t u:TS):TS:=λD σ H=>t {D with nx:=u D} σ H
theorem NI:XZ X [] QX:=λ_ _ σ H _ I h=>wpAny_execs_nil ⟨σ,H,I,h⟩
theorem HP (h1:PS X st t) (h2:XZ X rest u):XZ X (st::rest) (ZM t u):=by
 intro pins s σ H D I h;refine wpAny_execs_cons (bS (h1 pins s σ H {D with nx:=u D} I h) λf s1 q=>?_);cases f with
 |next=>
  obtain ⟨σ',H',I',q⟩:=q;exact h2 pins s1 σ' H' D I' q
 |ret v=>exact q
 |brk=>exact q
 |cont=>exact q
theorem Inv.quiet {pins:List (Addr × Obj)} {σ:St} {H:Hp} {s:Shared} (I:Inv X pins σ H s):interactive X.env=false:=by simp [interactive,I.ok.kind]
noncomputable def ZQ (te:TE):TS:=λD σ H=>te σ H λ_ H1=>D.nx σ H1
theorem NJ (he:PE X e te) (hs:swapsWith e none pos.line X.env=pure false:=by rfl):PS X (.Expr e pos) (ZQ te):=by
 intro pins s σ H D I h;exact wpAny_Expr_any (bS (he pins s σ H _ I h) λv s1 ⟨x,H1,I1,r1,q1⟩=>⟨σ,H1,I1,q1⟩) I.quiet hs
noncomputable def Fi (te:TE):TS:=λD σ H=>te σ H D.rt
theorem UG (he:PE X e te):PS X (.Return (some e) pos) (Fi te):=by
 intro pins s σ H D I h;exact wpAny_Return_some (bS (he pins s σ H _ I h) λv s1 ⟨x,H1,I1,r1,q1⟩=>⟨x,σ,H1,I1,r1,q1⟩)
end
noncomputable abbrev TG:=V->St->Hp->(St->Hp->Prop)->Prop
noncomputable abbrev QM:=List V->St->Hp->(St->Hp->Prop)->Prop
noncomputable def PG (X:Cx) (target:Expr) (t:TG):Prop:=
 ∀(pins:List (Addr × Obj)) (s:Shared) (σ:St) (H:Hp) (v:V) (u:Value) (Q:St->Hp->Prop),Inv X pins σ H s->RelV v u->t v σ H Q->
  wpAny (model X.prog X.w) X.A (assign target X.env u) (λ_ s'=>∃σ' H',Inv X pins σ' H' s'/\Q σ' H') X.xe s
noncomputable def YO (X:Cx) (ts:List Expr) (t:QM):Prop:=
 ∀(pins:List (Addr × Obj)) (s:Shared) (σ:St) (H:Hp) (vs:List V) (us:List Value) (Q:St->Hp->Prop),Inv X pins σ H s->Vals vs us->t vs σ H Q->
  wpAny (model X.prog X.w) X.A (assignInOrder ((assignEach ts X.env).map (·.2)) us) (λ_ s'=>∃σ' H',Inv X pins σ' H' s'/\Q σ' H') X.xe s
noncomputable abbrev XX:=V->V->V->Hp->(Hp->Prop)->Prop
noncomputable def YA (X:Cx) (t:XX):Prop:=
 ∀(pins:List (Addr × Obj)) (s:Shared) (σ:St) (H:Hp) (o i v:V) (ov iv u:Value) (Q:Hp->Prop),Inv X pins σ H s->RelV o ov->RelV i iv->RelV v u->t o i v H Q->
  wpAny (model X.prog X.w) X.A (setItem ov iv u) (λ_ s'=>∃H',Inv X pins σ H' s'/\Q H') X.xe s
section
variable {X:Cx} {pos:Pos}
noncomputable def BS (i:Nat):TG:=λv σ H Q=>Q (σ.set i (some v)) H
theorem BF (hN:X.N.Nodup) (hi:X.N[i]?=some x) (hx:Loc X.env.scope x) (hf:X.fn x=true\/X.env.scope.names.lookup x=some .local:=by first|exact .inl rfl|exact .inr rfl|assumption):PG X (.Name x pos) (BS i):=by
 intro pins s σ H v u Q I r h;exact wpAny_assign_Name (vI I hN hi hx r (λs' I'=>⟨_,H,I',h⟩) hf)
noncomputable def Dk:QM:=λvs σ H Q=>vs=[]/\Q σ H
noncomputable def RV (t:TG) (u:QM):QM:=λvs σ H Q=>∃v r,vs=v::r/\t v σ H λσ' H'=>u r σ' H' Q
theorem NO:YO X [] Dk:=by
 intro pins s σ H vs us Q I r h;obtain ⟨e,h⟩:=h;subst e;cases r;exact assignInOrder_nil ⟨σ,H,I,h⟩
theorem HV {e:Expr} {es:List Expr} {t:TG} {u:QM} (h1:PG X e t) (h2:YO X es u)
  (hs:(assignEach (e::es) X.env).map (·.2)=assign e X.env::(assignEach es X.env).map (·.2):=by rfl):YO X (e::es) (RV t u):=by
 intro pins s σ H vs us Q I r h;obtain ⟨v,vr,e1,h⟩:=h;subst e1;cases r with
 |cons r rr=>
  rw[hs];refine assignInOrder_cons (bS (h1 pins s σ H _ _ _ I r h) λ_ s1 ⟨σ1,H1,I1,q1⟩=>?_);exact h2 pins s1 σ1 H1 _ _ Q I1 rr q1
noncomputable def Dj (K:Fg) (n:Nat) (t:QM):TG:=λv σ H Q=>∃a xs,v=.ref a/\cC K H a xs/\xs.length=n/\t xs σ H Q
theorem UI (hc:X.calm=true) (h:YO X es t)
  (hn:(assignEach es X.env).length=n:=by rfl) (hst:(assignEach es X.env).findIdx? (·.1)=none:=by rfl):PG X (.Tuple es k pos) (Dj X.K n t):=by
 intro pins s σ H v u Q I r hw;obtain ⟨a,xs,e1,hq,hl,hw⟩:=hw;subst e1;cases r;obtain ⟨its,rv,ht,hz⟩:=I.tuple hq;refine assign_Tuple_tuple (I.ok.hd hc) ht (by simp [hn,<-hl,rv.length]) hst λh' hx=>?_;have I1:Inv X pins σ H {s with heap:=h'}:=I.kept (t':=s.toks) λb o e=>hx b o (ne_of_lt (lt_size e)) e;exact h pins _ σ H xs _ Q I1 (by simpa using rv) hw
noncomputable def Gz (to ti:TE) (t:XX):TG:=λv σ H Q=>to σ H λo H1=>ti σ H1 λi H2=>t o i v H2 λH3=>Q σ H3
theorem UJ {o i:Expr} {to ti:TE} {t:XX} (ho:PE X o to) (hi:PE X i ti) (hs:YA X t)
  (ha:∀v,assign (.Subscript o i pos) X.env v=(do
   let ov <-holding [v] (eval o X.env)
   let iv <-holding [v,ov] (eval i X.env)
   standAt pos
   holding [v,ov,iv] (setItem ov iv v)
   release [v,ov,iv] []):=by intro _;rfl):PG X (.Subscript o i pos) (Gz to ti t):=by
 intro pins s σ H v u Q I r h;rw[ha];refine wpAny_bind (wpAny_holding (bS (ho pins s σ H _ I h) λov s1 ⟨x,H1,I1,r1,q1⟩=>?_));refine wpAny_bind (wpAny_holding (bS (hi pins s1 σ H1 _ I1 q1) λiv s2 ⟨y,H2,I2,r2,q2⟩=>?_));refine wpAny_bind (wpAny_standAt (wpAny_bind (wpAny_holding (bS (hs pins s2 σ H2 x y v ov iv u _ I2 r1 r2 r q2) λ_ s3 ⟨H3,I3,q3⟩=>?_))));exact wpAny_release ⟨σ,H3,I3,q3⟩
noncomputable def TB (te:TE) (g:TG):TS:=λD σ H=>te σ H λx H1=>g x σ H1 D.nx
theorem HR {tg e:Expr} {te:TE} {g:TG} (he:PE X e te) (hg:PG X tg g) (hs:swapsWithSole [tg] e pos.line X.env=pure false:=by rfl) (hw:swappedStores [tg] e X.env=pure none:=by rfl)
  (h1:(assignEach [tg] X.env).map (·.2)=[assign tg X.env]:=by rfl):PS X (.Assign [tg] e pos) (TB te g):=by
 intro pins s σ H D I h;refine wpAny_Assign_stores (bS (he pins s σ H _ I h) λv s1 ⟨x,H1,I1,r1,q1⟩=>?_) hs hw;rw[h1];exact bS (hg pins s1 σ H1 x v _ I1 r1 q1) λ_ s2 q=>q
theorem HQ {i:Nat} {x:Str} {e:Expr} {te:TE} {pos':Pos} (hN:X.N.Nodup) (hi:X.N[i]?=some x) (hx:Loc X.env.scope x) (he:PE X e te) (hs:swapsWith e (some (.Name x pos')) pos.line X.env=pure false:=by rfl) (hf:X.fn x=true\/X.env.scope.names.lookup x=some .local:=by first|exact .inl rfl|exact .inr rfl|assumption):
  PS X (.Assign [.Name x pos'] e pos) (TB te (BS i)):=by
 intro pins s σ H D I h;refine wpAny_Assign_Name (bS (he pins s σ H _ I h) λv s1 ⟨y,H1,I1,r1,q1⟩=>?_) hs;exact vI I1 hN hi hx r1 (λs2 I2=>⟨_,H1,I2,q1⟩) hf
end
section
variable {X:Cx} {pos:Pos}
end
structure It where
 go:Nat->Hp->Prop
 yld:Nat->Hp->V->Hp->Prop
 stop:Nat->Hp->Prop
noncomputable def lV (X:Cx) (pins:List (Addr × Obj)) (H:Hp) (b:Addr):Prop:=
 H b=none/\b≠X.env.locals/\b∉X.fs/\(b∈X.ex\/X.s₀.heap.objs.size<=b)/\(∀x c,X.env.cells.lookup x=some c->c≠b)/\∀p∈X.pn++pins,p.1≠b
theorem Inv.fpOk {X:Cx} {pins:List (Addr × Obj)} {σ:St} {H H':Hp} {s:Shared} {b:Addr} (I:Inv X pins σ H s) (hb:s.heap.objs.size<=b) (hn:H' b=none):lV X pins H' b:=by
 refine ⟨hn,ne_of_gt (Nat.lt_of_lt_of_le I.lt hb),I.nofs hb,.inr (Nat.le_trans I.sz hb),λx c e z=>?_,λp hp z=>?_⟩
 ·obtain ⟨v,q⟩:=I.cell x c e;exact absurd (Nat.lt_of_lt_of_le q.lt (by rw[z];exact hb)) (Nat.lt_irrefl _)
 ·exact absurd (Nat.lt_of_lt_of_le (lt_size (I.pin p hp).1) (by rw[z];exact hb)) (Nat.lt_irrefl _)
structure Turn (P:Program) (w:World) (K:Fg) (tg:Expr) (J:It) (fp:List Addr) (it:Addr) (tn:Nat->Heap->Prop):Prop where
 mem:it∈fp
 obj:∀i h,tn i h->∀b∈fp,∃o,h.get? b=some o/\∀v,o.data≠.cell v
 keep:∀i h h',tn i h->(∀b∈fp,∀o,h.get? b=some o->h'.get? b=some o)->tn i h'
 item:∀(X:Cx),X.prog=P->X.w=w->X.K=K->X.calm=true->∀(i:Nat) (pins:List (Addr × Obj)) (s:Shared) (σ:St) (H:Hp) (E:Value->Shared->Prop),Inv X pins σ H s->(∀b∈fp,lV X pins H b)->tn i s.heap->J.go i H->
  wpAny (model P w) X.A (pyNext (.ref it)) (λr s1=>∃u,r=some u/\
   wpAny (model P w) X.A (letOwnedTupleGo tg (.ref it) u) (λ_ s2=>∃x H',Inv X pins σ H' s2/\RelV x u/\J.yld i H x H'/\tn (i+1) s2.heap/\∀b∈fp,H' b=none) E s1) E s
 done:∀(X:Cx),X.prog=P->X.w=w->X.K=K->X.calm=true->∀(i:Nat) (pins:List (Addr × Obj)) (s:Shared) (σ:St) (H:Hp) (E:Value->Shared->Prop),Inv X pins σ H s->(∀b∈fp,lV X pins H b)->tn i s.heap->J.stop i H->
  wpAny (model P w) X.A (pyNext (.ref it)) (λr s1=>r=none/\Inv X pins σ H s1) E s
 self:∀(A:Around) (i:Nat) (s:Shared) (Q:Value->Shared->Prop) (E:Value->Shared->Prop),tn i s.heap->Q (.ref it) s->wpAny (model P w) A (pyIter (.ref it)) Q E s
noncomputable abbrev TI:=St->Hp->(It->Hp->Prop)->Prop
noncomputable def Ed (X:Cx) (pins:List (Addr × Obj)) (σ:St) (tg:Expr) (R:It->Hp->Prop) (itv:Value) (s2:Shared):Prop:=
 ∃(it:Addr) (fp:List Addr) (tn:Nat->Heap->Prop) (J:It) (H':Hp),itv=.ref it/\Inv X pins σ H' s2/\Turn X.prog X.w X.K tg J fp it tn/\tn 0 s2.heap/\(∀b∈fp,lV X pins H' b)/\R J H'
noncomputable def PI (X:Cx) (tg iter:Expr) (wi:TI):Prop:=
 ∀(pins:List (Addr × Obj)) (s:Shared) (σ:St) (H:Hp) (R:It->Hp->Prop),Inv X pins σ H s->wi σ H R->
  wpAny (model X.prog X.w) X.A (eval iter X.env) (λv s1=>wpAny (model X.prog X.w) X.A (pyIter v) (Ed X pins σ tg R) X.xe s1) X.xe s
theorem oY (ho:s.heap.get? it=some o) (hc:o.cls=.type n) (hd:o.data=.fields vs)
  (hn:["enumerate","zip","dict_itemiterator","dict_reverseitemiterator","odict_iterator","itertools.zip_longest","itertools.pairwise"].contains n=false) (hQ:Q () s):wpAny M A (letOwnedTupleGo tg (.ref it) u) Q E s:=by
 unfold letOwnedTupleGo;cases tg<;>first
  |exact wpAny_pure hQ
  | (cases u<;>first
    |exact wpAny_pure hQ
    | (refine wpAny_bind (wpAny_load ho ?_)
       rw[hc,hd]
       show wpAny M A (if (["enumerate","zip","dict_itemiterator","dict_reverseitemiterator","odict_iterator","itertools.zip_longest","itertools.pairwise"].contains n&&vs[0]?==some (rawInt _))=true then _ else _) Q E s
       rw[if_neg (by intro h;rw[hn,Bool.false_and] at h;cases h)]
       exact wpAny_pure hQ))
noncomputable def SG (K:Fg) (a:Addr):It:=
 ⟨λi H=>∃xs x,aR K H a xs/\xs[i]?=some x,λi H x H'=>H'=H/\∀xs,aR K H a xs->xs[i]?=some x,λi H=>∃xs,aR K H a xs/\xs.length<=i⟩
noncomputable def Ei (K:Fg) (a:Addr):It:=
 ⟨λi H=>∃xs x,cC K H a xs/\xs[i]?=some x,λi H x H'=>H'=H/\∀xs,cC K H a xs->xs[i]?=some x,λi H=>∃xs,cC K H a xs/\xs.length<=i⟩
noncomputable def FP (lo:Int) (n:Nat):It:=⟨λi _=>i<n,λi H x H'=>H'=H/\x=.int (lo+i),λi _=>n<=i⟩
theorem CU {P:Program} {w:World} {K:Fg} {tg:Expr} (a it:Addr):Turn P w K tg (SG K a) [it] it (λi h=>h.IsListIter it a i) where
 mem:=by simp
 obj:=λi h st b hb=>by
  have e:b=it:=by simpa using hb
  subst e;obtain ⟨o,e,c,d⟩:=st;exact ⟨o,e,λv z=>by rw[d] at z;cases z⟩
 keep:=λi h h' st k=>st.at λo e=>k it (by simp) o e
 item:=by
  intro X hP hw hK hc i pins s σ H E I hf st hg;subst hP hw hK;obtain ⟨xs,x,hq,hx⟩:=hg;obtain ⟨its,rv,p,hz⟩:=I.list hq;obtain ⟨u,hu,ru⟩:=rv.get hx;obtain ⟨f0,f1,f2,f3,f4,f5⟩:=hf it (by simp);refine wpAny_pyNext_list_item st p.isList (x:=u) (by simpa using hu) λh' st' sb=>?_;have I1:Inv X pins σ H {s with heap:=h'}:=I.turned (t':=s.toks) (λb o hb e=>(sb.2 b hb).trans e) f0 f1 f3 f4 f5;obtain ⟨o,e,c,d⟩:=id st';exact ⟨u,rfl,oY (s:={s with heap:=h'}) e c d (by decide) ⟨x,H,I1,ru,⟨rfl,λys hy=>by rw[I.list_inj hy hq];exact hx⟩,st',λb hb=>(hf b hb).1⟩⟩
 done:=by
  intro X hP hw hK hc i pins s σ H E I hf st hg;subst hP hw hK;obtain ⟨xs,hq,hx⟩:=hg;obtain ⟨its,rv,p,hz⟩:=I.list hq;obtain ⟨f0,f1,f2,f3,f4,f5⟩:=hf it (by simp);have hl:=rv.length;exact wpAny_pyNext_list_end (I.ok.hd hc) st p.isList (by simp;lia) λh' eb=>⟨rfl,I.turned (t':=s.toks) (λb o hb e=>eb b o hb e) f0 f1 f3 f4 f5⟩
 self:=λ_ _ _ _ _ st h=>wpAny_pyIter_listiter st h
theorem yE {P:Program} {w:World} {K:Fg} {tg:Expr} (a it:Addr):Turn P w K tg (Ei K a) [it] it (λi h=>h.IsTupleIter it a i) where
 mem:=by simp
 obj:=λi h st b hb=>by
  have e:b=it:=by simpa using hb
  subst e;obtain ⟨o,e,c,d⟩:=st;exact ⟨o,e,λv z=>by rw[d] at z;cases z⟩
 keep:=λi h h' st k=>st.at λo e=>k it (by simp) o e
 item:=by
  intro X hP hw hK hc i pins s σ H E I hf st hg;subst hP hw hK;obtain ⟨xs,x,hq,hx⟩:=hg;obtain ⟨its,rv,p,hz⟩:=I.tuple hq;obtain ⟨u,hu,ru⟩:=rv.get hx;obtain ⟨f0,f1,f2,f3,f4,f5⟩:=hf it (by simp);refine wpAny_pyNext_tuple_item st (show s.heap.IsTuple a its.toArray from p) (x:=u) (by simpa using hu) λh' st' sb=>?_;have I1:Inv X pins σ H {s with heap:=h'}:=I.turned (t':=s.toks) (λb o hb e=>(sb.2 b hb).trans e) f0 f1 f3 f4 f5;obtain ⟨o,e,c,d⟩:=id st';exact ⟨u,rfl,oY (s:={s with heap:=h'}) e c d (by decide) ⟨x,H,I1,ru,⟨rfl,λys hy=>by rw[I.tuple_inj hy hq];exact hx⟩,st',λb hb=>(hf b hb).1⟩⟩
 done:=by
  intro X hP hw hK hc i pins s σ H E I hf st hg;subst hP hw hK;obtain ⟨xs,hq,hx⟩:=hg;obtain ⟨its,rv,p,hz⟩:=I.tuple hq;obtain ⟨f0,f1,f2,f3,f4,f5⟩:=hf it (by simp);have hl:=rv.length;exact wpAny_pyNext_tuple_end (I.ok.hd hc) st (show s.heap.IsTuple a its.toArray from p) (by simp;lia) λh' eb=>⟨rfl,I.turned (t':=s.toks) (λb o hb e=>eb b o hb e) f0 f1 f3 f4 f5⟩
 self:=λ_ _ _ _ _ st h=>wpAny_pyIter_tupleiter st h
theorem yF {P:Program} {w:World} {K:Fg} {tg:Expr} (it:Addr) (lo:Int) (n:Nat):Turn P w K tg (FP lo n) [it] it (λi h=>IsRangeIter h it (lo+(i:Nat) * 1) ((n:Int) - (i:Nat)) 1) where
 mem:=by simp
 obj:=λi h st b hb=>by
  have e:b=it:=by simpa using hb
  subst e;exact ⟨_,st,λv z=>by
   have z':Data.fields _=Data.cell v:=z
   cases z'⟩
 keep:=λi h h' st k=>k it (by simp) _ st
 item:=by
  intro X hP hw hK hc i pins s σ H E I hf st hg;subst hP hw hK;obtain ⟨f0,f1,f2,f3,f4,f5⟩:=hf it (by simp);have W:=Walks.range (prog:=X.prog) (w:=X.w) (I.ok.hd hc) it lo 1 n;refine W.item i s _ _ hg st λv h' tk hv st' kk=>?_;obtain ⟨t,rfl⟩:=hv;have I1:Inv X pins σ H {s with heap:=h',toks:=tk}:=I.turned (λb o hb e=>kk b o (by simpa using hb) e) f0 f1 f3 f4 f5;refine ⟨_,rfl,oY (s:={s with heap:=h',toks:=tk}) (n:="range_iterator") st' rfl rfl (by decide) ⟨.int (lo+i),H,I1,⟨t,?_⟩,⟨rfl,rfl⟩,st',λb hb=>(hf b hb).1⟩⟩;rw[Int.mul_one]
 done:=by
  intro X hP hw hK hc i pins s σ H E I hf st hg;subst hP hw hK;obtain ⟨f0,f1,f2,f3,f4,f5⟩:=hf it (by simp);exact wpAny_pyNext_range_end (I.ok.hd hc) st (by have:n<=i:=hg;lia) λh' eb=>⟨rfl,I.turned (t':=s.toks) (λb o hb e=>eb b o hb e) f0 f1 f3 f4 f5⟩
 self:=λ_ _ _ _ _ st h=>wpAny_pyIter_rangeiter st h
section
variable {X:Cx} {tg:Expr}
theorem vV {pins:List (Addr × Obj)} {σ:St} {H:Hp} {s:Shared} {R:It->Hp->Prop} {E:Value->Shared->Prop} {lo hi:Int} {t u v:Tok} {tk:Nat} (I:Inv X pins σ H s) (h1:-(2 ^ 62)<=lo) (h2:lo<2 ^ 62) (h3:-(2 ^ 62)<=hi) (h4:hi<2 ^ 62)
  (q:R (FP lo (hi - lo).toNat) H):wpAny (model X.prog X.w) X.A (pyIter (.ref s.heap.objs.size)) (Ed X pins σ tg R) E {s with heap:=s.heap.push {cls:=.type "range",data:=.fields #[.int lo t,.int hi u,.int 1 v]},toks:=tk}:=by
 refine wpAny_pyIter_range (IsRange.new ..) (small_one h1 h2 h3 h4) ?_;have I1:Inv X pins σ H {s with heap:=s.heap.push {cls:=.type "range",data:=.fields #[.int lo t,.int hi u,.int 1 v]},toks:=tk}:=I.kept λb o e=>get?_push_of_some _ e;refine ⟨(s.heap.push {cls:=.type "range",data:=.fields #[.int lo t,.int hi u,.int 1 v]}).objs.size,[(s.heap.push {cls:=.type "range",data:=.fields #[.int lo t,.int hi u,.int 1 v]}).objs.size],_,_,H,rfl,
  I1.kept (t':=tk) λb o e=>get?_push_of_some _ e,yF _ lo (hi - lo).toNat,?_,λb hb=>?_,q⟩
 ·have e1:lo+((0:Nat):Int) * 1=lo:=by simp
  have e2:(((hi - lo).toNat:Nat):Int) - ((0:Nat):Int)=Builtin.Range.rangeSize lo hi 1:=by rw[rangeSize_one];split<;>lia
  show IsRangeIter _ _ (lo+((0:Nat):Int) * 1) ((((hi - lo).toNat:Nat):Int) - ((0:Nat):Int)) 1;rw[e1,e2];exact get?_push_size _ rfl
 ·have e:b=(s.heap.push {cls:=.type "range",data:=.fields #[.int lo t,.int hi u,.int 1 v]}).objs.size:=by simpa using hb
  subst e;exact I1.fpOk (Nat.le_refl _) (I1.hok.fresh (Nat.le_refl _))
noncomputable def ZP (wi:TI) (g:TG) (tb:TS):TS:=λD σ H=>wi σ H λJ H1=>∃W:Nat->Nat->St->Hp->Prop,(∃m,W 0 m σ H1)/\∀i m σ H,W i m σ H->
 (J.stop i H/\D.nx σ H)\/(J.go i H/\∃N:St->Hp->Prop,(∀σ' H',N σ' H'->∃m',m'<m/\W (i+1) m' σ' H')/\∀x H',J.yld i H x H'->g x σ H' λσ2 H2=>tb {D with nx:=N,ct:=N,bk:=D.nx} σ2 H2)
noncomputable def oF (fp:List Addr) (h:Heap):List (Addr × Obj):=fp.filterMap λb=>(h.get? b).map λo=>(b,o)
theorem fY {fp:List Addr} {h:Heap} {b:Addr} {o:Obj} (hb:b∈fp) (e:h.get? b=some o):(b,o)∈oF fp h:=mem_filterMap.mpr ⟨b,hb,by rw[e];rfl⟩
theorem DR (hp:p∈oF fp h):p.1∈fp/\h.get? p.1=some p.2:=by
 obtain ⟨b,hb,e⟩:=mem_filterMap.mp hp;cases q:h.get? b with
 |none=>rw[q] at e;cases e
 |some o=>
  rw[q] at e;have e':(b,o)=p:=Option.some.inj e;subst e';exact ⟨hb,q⟩
theorem Inv.pinned {pins:List (Addr × Obj)} {σ:St} {H:Hp} {s:Shared} {fp:List Addr} (I:Inv X pins σ H s) (hf:∀b∈fp,lV X pins H b) (ho:∀b∈fp,∃o,s.heap.get? b=some o/\∀v,o.data≠.cell v):Inv X (pins++oF fp s.heap) σ H s:=
 I.pins_of λp hp=>(mem_append.mp hp).elim (λz=>I.pin p (mem_append_right _ z)) λz=>by
  obtain ⟨hb,e⟩:=DR z;obtain ⟨f0,f1,f2,_⟩:=hf p.1 hb;obtain ⟨o,e',d⟩:=ho p.1 hb;rw[e] at e';cases e';exact ⟨e,f0,f1,f2,d⟩
theorem Inv.unpinned {pins pl:List (Addr × Obj)} {σ:St} {H:Hp} {s:Shared} (I:Inv X (pins++pl) σ H s):Inv X pins σ H s:=I.pins_of λp hp=>I.pin p (mem_append_right _ (mem_append_left _ hp))
theorem UH {iter:Expr} {body:List Stmt} {wi:TI} {g:TG} {tb:TS} {pos:Pos} (hp:PassesOwn (model X.prog X.w) X.A X.env X.xe) (hc:X.calm=true) (hi:PI X tg iter wi) (hg:PG X tg g) (hb:XZ X body tb)
  (hs:∀x,foldedSetIterable iter X.env x=pure x:=by intro _;rfl):PS X (.For tg iter body [] pos) (ZP wi g tb):=by
 intro pins s σ H D I h;refine wpAny_For (bS (hi pins s σ H _ I h) λv s1 h1=>bS h1 λitv s2 h2=>?_) hs;obtain ⟨it,fp,tn,J,H2,e,I2,T,st2,f2,W,⟨m0,w0⟩,turn⟩:=h2;subst e;have stat:∀{H':Hp},(∀b∈fp,H' b=none)->∀b∈fp,lV X pins H' b:=λhn b hb=>⟨hn b hb,(f2 b hb).2⟩;refine codeAny_forLoop_any (λn s'=>∃i σ' H',Inv X pins σ' H' s'/\tn i s'.heap/\(∀b∈fp,H' b=none)/\W i n σ' H') ?_ m0 ⟨0,σ,H2,I2,st2,λb hb=>(f2 b hb).1,w0⟩;rintro n s3 ⟨i,σ3,H3,I3,st3,fr3,w3⟩;rcases turn i n σ3 H3 w3 with ⟨stop,qn⟩|⟨go,N,hN,step⟩
 ·refine wpAny_passesOwn hp (bS (T.done X rfl rfl rfl hc i pins s3 σ3 H3 X.xe I3 (stat fr3) st3 stop) λr s4 ⟨hr,I4⟩=>?_);subst hr;exact wpAny_execs_nil ⟨σ3,H3,I4,qn⟩
 ·refine wpAny_passesOwn hp (bS (T.item X rfl rfl rfl hc i pins s3 σ3 H3 X.xe I3 (stat fr3) st3 go) λr s4 ⟨u,hr,h4⟩=>?_);subst hr;refine wpAny_passesOwn hp (bS h4 λ_ s5 ⟨x,H5,I5,r5,y5,st5,fr5⟩=>?_);have I5':=I5.pinned (stat fr5) (T.obj _ _ st5);refine wpAny_passesOwn hp (bS (hg _ s5 σ3 H5 x u _ I5' r5 (step x H5 y5)) λ_ s6 ⟨σ6,H6,I6,q6⟩=>?_);refine wpAny_passesOwn hp (bS (hb _ s6 σ6 H6 _ I6 q6) λf s7 q7=>?_);have again:∀{σ7:St} {H7:Hp},Inv X (pins++oF fp s5.heap) σ7 H7 s7->N σ7 H7->∃m,m<n/\∃i σ' H',Inv X pins σ' H' s7/\tn i s7.heap/\(∀b∈fp,H' b=none)/\W i m σ' H':=λ{σ7 H7} I7 n7=>by
   obtain ⟨m',hm,w7⟩:=hN σ7 H7 n7;refine ⟨m',hm,i+1,σ7,H7,I7.unpinned,T.keep _ _ _ st5 λb hb o e=>(I7.pin (b,o) (mem_append_right _ (mem_append_right _ (fY hb e)))).1,λb hb=>?_,w7⟩;obtain ⟨o,e,d⟩:=T.obj _ _ st5 b hb;exact (I7.pin (b,o) (mem_append_right _ (mem_append_right _ (fY hb e)))).2.1
  cases f with
  |next=>obtain ⟨σ7,H7,I7,n7⟩:=q7;exact again I7 n7
  |cont=>obtain ⟨σ7,H7,I7,n7⟩:=q7;exact again I7 n7
  |brk=>obtain ⟨σ7,H7,I7,q7⟩:=q7;exact ⟨σ7,H7,I7.unpinned,q7⟩
  |ret v=>obtain ⟨x7,σ7,H7,I7,r7,q7⟩:=q7;exact ⟨x7,σ7,H7,I7.unpinned,r7,q7⟩
end
theorem EK {lo:Int} {n:Nat} {g:TG} {tb:TS} {D:Ends} {σ:St} {H:Hp} (Pv:Nat->St->Hp->Prop) (h0:Pv 0 σ H)
  (hs:∀i σ H,i<n->Pv i σ H->g (.int (lo+i)) σ H λσ2 H2=>tb {D with nx:=Pv (i+1),ct:=Pv (i+1),bk:=D.nx} σ2 H2) (hd:∀σ H,Pv n σ H->D.nx σ H):
  ∃W:Nat->Nat->St->Hp->Prop,(∃m,W 0 m σ H)/\∀i m σ H,W i m σ H->
   ((FP lo n).stop i H/\D.nx σ H)\/((FP lo n).go i H/\∃N:St->Hp->Prop,(∀σ' H',N σ' H'->∃m',m'<m/\W (i+1) m' σ' H')/\∀x H',(FP lo n).yld i H x H'->g x σ H' λσ2 H2=>tb {D with nx:=N,ct:=N,bk:=D.nx} σ2 H2):=by
 refine ⟨λi m σ H=>m=n - i/\i<=n/\Pv i σ H,⟨n,by simp,zero_le _,h0⟩,?_⟩;rintro i m σ H ⟨rfl,hi,p⟩;by_cases hlt:i<n
 ·refine .inr ⟨hlt,Pv (i+1),λσ' H' p'=>⟨n - (i+1),by lia,rfl,hlt,p'⟩,λx H' y=>?_⟩;obtain ⟨e,y⟩:=y;subst e y;exact hs i σ _ hlt p
 ·have e:i=n:=by lia
  subst e;exact .inl ⟨Nat.le_refl _,hd σ H p⟩
noncomputable abbrev R2:=V->V->Hp->VK->Prop
noncomputable def fP (X:Cx) (f:Value->Value->Sem Value) (r:R2):Prop:=
 ∀(pins:List (Addr × Obj)) (s:Shared) (σ:St) (H:Hp) (x y:V) (v u:Value) (Q:VK),Inv X pins σ H s->RelV x v->RelV y u->r x y H Q->
  wpAny (model X.prog X.w) X.A (f v u) (EP X pins σ Q) X.xe s
noncomputable def Hi (X:Cx) (f:Value->Sem Value) (r:V->Hp->VK->Prop):Prop:=
 ∀(pins:List (Addr × Obj)) (s:Shared) (σ:St) (H:Hp) (x:V) (v:Value) (Q:VK),Inv X pins σ H s->RelV x v->r x H Q->
  wpAny (model X.prog X.w) X.A (f v) (EP X pins σ Q) X.xe s
noncomputable def cD (X:Cx) (f:Value) (r:List V->Hp->VK->Prop):Prop:=
 ∀(pins:List (Addr × Obj)) (s:Shared) (σ:St) (H:Hp) (xs:List V) (us:List Value) (Q:VK),Inv X pins σ H s->Vals xs us->r xs H Q->
  wpAny (model X.prog X.w) X.A (call f us) (EP X pins σ Q) X.xe s
noncomputable def Ea (X:Cx) (r:V->Hp->(Bool->Hp->Prop)->Prop):Prop:=
 ∀(pins:List (Addr × Obj)) (s:Shared) (σ:St) (H:Hp) (x:V) (v:Value) (Q:Bool->Hp->Prop),Inv X pins σ H s->RelV x v->r x H Q->
  wpAny (model X.prog X.w) X.A (truthy v) (TP X pins σ Q) X.xe s
noncomputable def SW (r:R2) (ta tb:TE):TE:=λσ H Q=>ta σ H λx H1=>tb σ H1 λy H2=>r x y H2 Q
noncomputable def Ho (r:V->Hp->VK->Prop) (ta:TE):TE:=λσ H Q=>ta σ H λx H1=>r x H1 Q
noncomputable def rI (C:Int->Int->Prop) (g:Int->Int->V):R2:=λx y H Q=>∃i j,x=.int i/\y=.int j/\C i j/\Q (g i j) H
noncomputable def RF (g:Int->Int->V):R2:=λx y H Q=>∃i j,x=.int i/\y=.int j/\Q (g i j) H
noncomputable def rU (g:Int->V):V->Hp->VK->Prop:=λx H Q=>∃i,x=.int i/\Q (g i) H
section
variable {X:Cx} {a b c:Expr} {ta tb tc:TE} {pos:Pos}
theorem XR (ha:PE X a ta) (hb:PE X b tb) {pins:List (Addr × Obj)} {s:Shared} {σ:St} {H:Hp} {R:V->V->Hp->Prop} (I:Inv X pins σ H s)
  (h:ta σ H λx H1=>tb σ H1 λy H2=>R x y H2) {Q:Value->Shared->Prop} {f:Value->Value->Sem Value}
  (hf:∀v u s2 x y H2,Inv X pins σ H2 s2->RelV x v->RelV y u->R x y H2->wpAny (model X.prog X.w) X.A (f v u) Q X.xe s2):
  wpAny (model X.prog X.w) X.A (eval a X.env) (λv s₁=>wpAny (model X.prog X.w) X.A (eval b X.env) (λu s₂=>wpAny (model X.prog X.w) X.A (f v u) Q X.xe s₂) X.xe s₁) X.xe s:=by
 refine bS (ha pins s σ H _ I h) λv s1 ⟨x,H1,I1,r1,q1⟩=>?_;refine bS (hb pins s1 σ H1 _ I1 q1) λu s2 ⟨y,H2,I2,r2,q2⟩=>?_;exact hf v u s2 x y H2 I2 r1 r2 q2
theorem Aq (ho:fP X (binaryOp op) r) (ha:PE X a ta) (hb:PE X b tb):PE X (.BinOp a op b pos) (SW r ta tb):=by
 intro pins s σ H Q I h;exact wpAny_BinOp (XR ha hb I h λv u s2 x y H2 I2 rx ry q=>ho pins s2 σ H2 x y v u Q I2 rx ry q)
theorem Ap {op:UnaryOp} {r:V->Hp->VK->Prop} (ho:Hi X (unaryOp op) r) (ha:PE X a ta):PE X (.UnaryOp op a pos) (Ho r ta):=by
 intro pins s σ H Q I h;exact UnaryOp_ (bS (ha pins s σ H _ I h) λv s1 ⟨x,H1,I1,r1,q1⟩=>ho pins s1 σ H1 x v Q I1 r1 q1)
theorem Eo {f:Value->Value->Sem Value} {C:Int->Int->Prop} {g:Int->Int->Int}
  (rule:∀(i j:Int) (t u:Tok) (s:Shared) (Q:Value->Shared->Prop) (E:Value->Shared->Prop),C i j->Q (.int (g i j) s.toks) {s with toks:=s.toks+1}->wpAny (model X.prog X.w) X.A (f (.int i t) (.int j u)) Q E s):
  fP X f (rI C λi j=>.int (g i j)):=by
 intro pins s σ H x y v u Q I rx ry h;obtain ⟨i,j,rfl,rfl,hc,q⟩:=h;obtain ⟨t,rfl⟩:=rx;obtain ⟨t',rfl⟩:=ry;exact rule i j t t' s _ _ hc ⟨.int (g i j),H,I.tok _,⟨_,rfl⟩,q⟩
theorem Bc {f:Value->Value->Sem Value} {g:Int->Int->Int}
  (rule:∀(i j:Int) (t u:Tok) (s:Shared) (Q:Value->Shared->Prop) (E:Value->Shared->Prop),Q (.int (g i j) s.toks) {s with toks:=s.toks+1}->wpAny (model X.prog X.w) X.A (f (.int i t) (.int j u)) Q E s):
  fP X f (RF λi j=>.int (g i j)):=by
 intro pins s σ H x y v u Q I rx ry h;obtain ⟨i,j,rfl,rfl,q⟩:=h;obtain ⟨t,rfl⟩:=rx;obtain ⟨t',rfl⟩:=ry;exact rule i j t t' s _ _ ⟨.int (g i j),H,I.tok _,⟨_,rfl⟩,q⟩
theorem OA {f:Value->Value->Sem Value} {g:Int->Int->Bool}
  (rule:∀(i j:Int) (t u:Tok) (s:Shared) (Q:Value->Shared->Prop) (E:Value->Shared->Prop),Q (.bool (g i j)) s->wpAny (model X.prog X.w) X.A (f (.int i t) (.int j u)) Q E s):
  fP X f (RF λi j=>.bl (g i j)):=by
 intro pins s σ H x y v u Q I rx ry h;obtain ⟨i,j,rfl,rfl,q⟩:=h;obtain ⟨t,rfl⟩:=rx;obtain ⟨t',rfl⟩:=ry;exact rule i j t t' s _ _ ⟨.bl (g i j),H,I,rfl,q⟩
noncomputable def Hl (i j:Int):Prop:=0<j/\j<1073741824
noncomputable def QR (i j:Int):Prop:=0<=j/\j<=1000000/\i.natAbs<2 ^ 64
noncomputable def YI (i j:Int):Prop:=(-(2 ^ 64)<i/\i<2 ^ 64)\/(-(2 ^ 64)<j/\j<2 ^ 64)
theorem YI.ok {i j:Int} (h:YI i j):IntMulOk i j:=by
 rcases h with ⟨h1,h2⟩|⟨h1,h2⟩
 ·exact .of_left (intBits_le_64 h1 h2)
 ·exact .of_right (intBits_le_64 h1 h2)
theorem VF:fP X (binaryOp .Add) (RF λi j=>.int (i+j)):=Bc λ_ _ _ _ _ _ _ q=>add_int q
theorem UT:fP X (binaryOp .Sub) (RF λi j=>.int (i - j)):=Bc λ_ _ _ _ _ _ _ q=>sub_int q
theorem UY:fP X (binaryOp .Mod) (rI (λ_ j=>0<j) λi j=>.int (i % j)):=Eo λi j _ _ _ _ _ hc q=>by
 have h1:(0:Int)<j:=hc;exact mod_int' (by lia) (by rw[Int.fmod_eq_emod_of_nonneg i (by lia)];exact q)
theorem Ie {f:Value->Sem Value} {g:Int->Int}
  (rule:∀(i:Int) (t:Tok) (s:Shared) (Q:Value->Shared->Prop) (E:Value->Shared->Prop),Q (.int (g i) s.toks) {s with toks:=s.toks+1}->wpAny (model X.prog X.w) X.A (f (.int i t)) Q E s):
  Hi X f (rU λi=>.int (g i)):=by
 intro pins s σ H x v Q I rx h;obtain ⟨i,rfl,q⟩:=h;obtain ⟨t,rfl⟩:=rx;exact rule i t s _ _ ⟨.int (g i),H,I.tok _,⟨_,rfl⟩,q⟩
theorem SO:Hi X (unaryOp .USub) (rU λi=>.int (-i)):=Ie λ_ _ _ _ _ q=>neg_int q
theorem DQ:fP X (binaryOp .Add) (λx y H Q=>∃i k,x=.int i/\y=.bl k/\Q (.int (i+b2i k)) H):=by
 intro pins s σ H x y v u Q I rx ry h;obtain ⟨i,k,rfl,rfl,q⟩:=h;obtain ⟨t,rfl⟩:=rx;cases ry;exact add_int_bool ⟨.int (i+b2i k),H,I.tok _,⟨_,rfl⟩,q⟩
end
noncomputable def NB:V->V->Bool
 | .non,.non=>true| .non,.int _=>true| .int _,.non=>true| .non,.bl _=>true| .bl _,.non=>true| .non,.str _=>true| .str _,.non=>true
 | .int _,.int _=>true| .bl _,.bl _=>true| .str _,.str _=>true| .byt _,.byt _=>true
 | .int _,.str _=>true| .str _,.int _=>true| .bl _,.str _=>true| .str _,.bl _=>true
 |_,_=>false
noncomputable def Iw:R2:=λx y H Q=>NB x y=true/\Q (.bl (decide (x=y))) H
noncomputable def Iu:R2:=λx y H Q=>NB x y=true/\Q (.bl (!decide (x=y))) H
theorem BX:decide (V.int i=V.int j)=(i==j):=by
 rw[Bool.eq_iff_iff];simp
theorem KY:decide (V.bl i=V.bl j)=(i==j):=by
 rw[Bool.eq_iff_iff];simp
theorem BW:decide (V.str i=V.str j)=(i==j):=by
 rw[Bool.eq_iff_iff];simp
theorem BY:decide (V.byt i=V.byt j)=(i.toList==j.toList):=by
 rw[Bool.eq_iff_iff];cases i;cases j;simp
section
variable {X:Cx} {a b c:Expr} {ta tb tc:TE} {pos:Pos}
theorem aP (I:Inv X pins σ H s) (q:Q (.bl k) H) (e:k=k'):EP X pins σ Q (.bool k') s:=by
 subst e;exact ⟨.bl k,H,I,rfl,q⟩
theorem Bb:fP X (compareOp .Eq) Iw:=by
 intro pins s σ H x y v u Q I rx ry h;obtain ⟨hs,q⟩:=h;cases x with
 |non=>
  cases rx;cases y with
  |non=>cases ry;exact PySem.EqNone.eq_none_none (aP I q (by simp))
  |bl j=>cases ry;exact PySem.EqNone.eq_none_bool (aP I q (by simp))
  |int j=>obtain ⟨t',rfl⟩:=ry;exact PySem.EqNone.eq_none_int (aP I q (by simp))
  |str j=>obtain ⟨t',rfl⟩:=ry;exact PySem.EqNone.eq_none_str (aP I q (by simp))
  |_=>exact absurd (show false=true from hs) Bool.false_ne_true
 |bl i=>
  cases rx;cases y with
  |non=>cases ry;exact PySem.EqNone.eq_bool_none (aP I q (by simp))
  |bl j=>cases ry;exact eq_bool (aP I q KY)
  |str j=>obtain ⟨t',rfl⟩:=ry;exact PySem.EqMixed.eq_bool_str (aP I q (by simp))
  |_=>exact absurd (show false=true from hs) Bool.false_ne_true
 |int i=>
  obtain ⟨t,rfl⟩:=rx;cases y with
  |non=>cases ry;exact PySem.EqNone.eq_int_none (aP I q (by simp))
  |int j=>obtain ⟨t',rfl⟩:=ry;exact eq_int (aP I q BX)
  |str j=>obtain ⟨t',rfl⟩:=ry;exact PySem.EqMixed.eq_int_str (aP I q (by simp))
  |_=>exact absurd (show false=true from hs) Bool.false_ne_true
 |str i=>
  obtain ⟨t,rfl⟩:=rx;cases y with
  |non=>cases ry;exact PySem.EqNone.eq_str_none (aP I q (by simp))
  |bl j=>cases ry;exact PySem.EqMixed.eq_str_bool (aP I q (by simp))
  |int j=>obtain ⟨t',rfl⟩:=ry;exact PySem.EqMixed.eq_str_int (aP I q (by simp))
  |str j=>obtain ⟨t',rfl⟩:=ry;exact eq_str (aP I q BW)
  |_=>exact absurd (show false=true from hs) Bool.false_ne_true
 |byt i=>
  obtain ⟨t,rfl⟩:=rx;cases y with
  |byt j=>obtain ⟨t',rfl⟩:=ry;exact PySem.W.eq_bytes (aP I q BY)
  |_=>exact absurd (show false=true from hs) Bool.false_ne_true
 |_=>cases y<;>exact absurd (show false=true from hs) Bool.false_ne_true
theorem Av:fP X (compareOp .NotEq) Iu:=by
 intro pins s σ H x y v u Q I rx ry h;obtain ⟨hs,q⟩:=h;cases x with
 |non=>
  cases rx;cases y with
  |non=>cases ry;exact PySem.EqNone.ne_none_none (aP I q (by simp))
  |bl j=>cases ry;exact PySem.EqNone.ne_none_bool (aP I q (by simp))
  |int j=>obtain ⟨t',rfl⟩:=ry;exact PySem.EqNone.ne_none_int (aP I q (by simp))
  |str j=>obtain ⟨t',rfl⟩:=ry;exact PySem.EqNone.ne_none_str (aP I q (by simp))
  |_=>exact absurd (show false=true from hs) Bool.false_ne_true
 |bl i=>
  cases rx;cases y with
  |non=>cases ry;exact PySem.EqNone.ne_bool_none (aP I q (by simp))
  |bl j=>cases ry;exact ne_bool (aP I q (congrArg not KY))
  |str j=>obtain ⟨t',rfl⟩:=ry;exact PySem.EqMixed.ne_bool_str (aP I q (by simp))
  |_=>exact absurd (show false=true from hs) Bool.false_ne_true
 |int i=>
  obtain ⟨t,rfl⟩:=rx;cases y with
  |non=>cases ry;exact PySem.EqNone.ne_int_none (aP I q (by simp))
  |int j=>obtain ⟨t',rfl⟩:=ry;exact ne_int (aP I q (congrArg not BX))
  |str j=>obtain ⟨t',rfl⟩:=ry;exact PySem.EqMixed.ne_int_str (aP I q (by simp))
  |_=>exact absurd (show false=true from hs) Bool.false_ne_true
 |str i=>
  obtain ⟨t,rfl⟩:=rx;cases y with
  |non=>cases ry;exact PySem.EqNone.ne_str_none (aP I q (by simp))
  |bl j=>cases ry;exact PySem.EqMixed.ne_str_bool (aP I q (by simp))
  |int j=>obtain ⟨t',rfl⟩:=ry;exact PySem.EqMixed.ne_str_int (aP I q (by simp))
  |str j=>obtain ⟨t',rfl⟩:=ry;exact ne_str (aP I q (congrArg not BW))
  |_=>exact absurd (show false=true from hs) Bool.false_ne_true
 |byt i=>
  obtain ⟨t,rfl⟩:=rx;cases y with
  |byt j=>obtain ⟨t',rfl⟩:=ry;exact PySem.W.ne_bytes (aP I q (congrArg not BY))
  |_=>exact absurd (show false=true from hs) Bool.false_ne_true
 |_=>cases y<;>exact absurd (show false=true from hs) Bool.false_ne_true
theorem Aw:fP X (compareOp .Lt) (RF λi j=>.bl (decide (i<j))):=OA λ_ _ _ _ _ _ _ q=>lt_int q
theorem Ax:fP X (compareOp .LtE) (RF λi j=>.bl (decide (i<=j))):=OA λ_ _ _ _ _ _ _ q=>le_int q
theorem Ay:fP X (compareOp .Gt) (RF λi j=>.bl (decide (j<i))):=OA λ_ _ _ _ _ _ _ q=>gt_int q
theorem Az:fP X (compareOp .GtE) (RF λi j=>.bl (decide (j<=i))):=OA λ_ _ _ _ _ _ _ q=>ge_int q
theorem DO:fP X (compareOp .In) (λx y H Q=>∃i j,x=.str i/\y=.str j/\Q (.bl (!(Builtin.Str.occurrences j i 0 j.length 1).isEmpty)) H):=by
 intro pins s σ H x y v u Q I rx ry h;obtain ⟨i,j,rfl,rfl,q⟩:=h;obtain ⟨t,rfl⟩:=rx;obtain ⟨t',rfl⟩:=ry;exact in_str (aP I q rfl)
theorem UZ:fP X (compareOp .Is) (λx y H Q=>y=.non/\Q (.bl (decide (x=.non))) H):=by
 intro pins s σ H x y v u Q I rx ry h;obtain ⟨rfl,q⟩:=h;cases ry;refine is_none_gen (aP I q ?_);cases x<;>first
  | (cases rx;rfl)
  | (obtain ⟨t,rfl⟩:=rx;rfl)
theorem NV:fP X (compareOp .IsNot) (λx y H Q=>y=.non/\Q (.bl (!decide (x=.non))) H):=by
 intro pins s σ H x y v u Q I rx ry h;obtain ⟨rfl,q⟩:=h;cases ry;refine isnot_none_gen (aP I q ?_);cases x<;>first
  | (cases rx;rfl)
  | (obtain ⟨t,rfl⟩:=rx;rfl)
theorem BG (ho:fP X (compareOp op) r) (ha:PE X a ta) (hb:PE X b tb) (hm:behindInMarks op b=false):PE X (.Compare a [op] [b] pos) (SW r ta tb):=by
 intro pins s σ H Q I h;exact wpAny_Compare1 (XR ha hb I h λv u s2 x y H2 I2 rx ry q=>ho pins s2 σ H2 x y v u Q I2 rx ry q) hm
noncomputable def XW (K:Fg) (x:V) (H:Hp) (k:Bool):Prop:=
 match x with
 | .non=>k=false
 | .bl b=>k=b
 | .int i=>k=(i != 0)
 | .str y=>y.length<=sizeLine/\k=((y.length:Int) != 0)
 | .byt y=>y.size<=sizeLine/\k=((y.size:Int) != 0)
 | .ref p=>(∃xs,aR K H p xs/\k=!xs.isEmpty)\/(∃xs,cC K H p xs/\k=!xs.isEmpty)\/∃kvs,H p=some (.dK kvs)/\k=!kvs.isEmpty
 |_=>False
theorem zW {κ:Type} {kvs:List (κ × V)} {vs:List (κ × Value)} (r:KV kvs vs):(!vs.isEmpty)=!kvs.isEmpty:=by
 cases r<;>rfl
theorem oU {xs:List V} {its:List Value} (r:Vals xs its):(!its.toArray.isEmpty)=!xs.isEmpty:=by
 cases r<;>simp
theorem lN:(sizeLine:Nat)<2 ^ 63:=by rw[sizeLine_eq];decide
theorem SR:Ea X (λx H Q=>∃k,XW X.K x H k/\Q k H):=by
 intro pins s σ H x v Q I rx h;obtain ⟨k,e,q⟩:=h;have hl:=lN;have hs:sizeLine=16777216:=sizeLine_eq;cases x with
 |non=>
  cases rx;have e':k=false:=e;subst e';exact truthy_none ⟨H,I,q⟩
 |bl b=>
  cases rx;have e':k=b:=e;subst e';exact wpAny_truthy_bool ⟨H,I,q⟩
 |int i=>
  obtain ⟨t,rfl⟩:=rx;have e':k=(i != 0):=e;subst e';exact PySem.P.truthy_int ⟨H,I,q⟩
 |str y=>
  obtain ⟨t,rfl⟩:=rx;obtain ⟨hy,e'⟩:y.length<=sizeLine/\k=((y.length:Int) != 0):=e;subst e';exact PySem.P.truthy_str (by lia) ⟨H,I.tok _,q⟩
 |byt y=>
  obtain ⟨t,rfl⟩:=rx;obtain ⟨hy,e'⟩:y.size<=sizeLine/\k=((y.size:Int) != 0):=e;subst e';exact PySem.W.truthy_bytes (by lia) ⟨H,I.tok _,q⟩
 |ref p=>
  cases rx;have e':(∃xs,aR X.K H p xs/\k=!xs.isEmpty)\/(∃xs,cC X.K H p xs/\k=!xs.isEmpty)\/∃kvs,H p=some (.dK kvs)/\k=!kvs.isEmpty:=e;rcases e' with ⟨xs,hx,e'⟩|⟨xs,hx,e'⟩|⟨kvs,hx,e'⟩
  ·subst e';obtain ⟨its,r,pl,hz⟩:=I.list hx;have hlen:=r.length;exact wpAny_truthy_list pl.isList (by simp only [size_toArray];lia) ⟨H,I.tok _,by rw[oU r];exact q⟩
  ·subst e';obtain ⟨its,r,pl,hz⟩:=I.tuple hx;have hlen:=r.length;exact truthy_tuple pl (by simp only [size_toArray];lia) ⟨H,I.tok _,by rw[oU r];exact q⟩
  ·subst e';obtain ⟨hz,hS,vs,r,m⟩:kvs.length<=sizeLine/\(p==sysModules)=false/\∃vs,KV kvs vs/\s.heap.DictOf (aY X.prog X.w) p vs:=I.hok p _ hx;have hlen:kvs.length=vs.length:=Paired.length r;exact wpAny_truthy_dict hS m (by lia) ⟨H,I.tok _,by rw[zW r];exact q⟩
 |_=>exact (show False from e).elim
theorem zI:fP X (binaryOp .Add) (λx y H Q=>∃i j,x=.str i/\y=.str j/\i.length+j.length<=sizeLine/\Q (.str (i++j)) H):=by
 intro pins s σ H x y v u Q I rx ry h;obtain ⟨i,j,rfl,rfl,hz,q⟩:=h;obtain ⟨t,rfl⟩:=rx;obtain ⟨t',rfl⟩:=ry;exact add_str (λt' tk=>⟨.str (i++j),H,I.tok _,⟨_,rfl⟩,q⟩) hz
theorem vals1 (r:Vals [x] us):∃u,us=[u]/\RelV x u:=by
 cases r with
 |cons r1 r2=>cases r2;exact ⟨_,rfl,r1⟩
theorem vals2 (r:Vals [x,y] us):∃u w',us=[u,w']/\RelV x u/\RelV y w':=by
 cases r with
 |cons r1 r2=>
  cases r2 with
  |cons r3 r4=>cases r4;exact ⟨_,_,rfl,r1,r3⟩
theorem FF (hc:X.calm=true):cD X (.builtin "max") (λxs H Q=>∃i j,xs=[.int i,.int j]/\Q (.int (if j>i then j else i)) H):=by
 intro pins s σ H xs us Q I r h;obtain ⟨i,j,rfl,q⟩:=h;obtain ⟨u,w',rfl,⟨t,rfl⟩,⟨t',rfl⟩⟩:=vals2 r;refine max_two_ints (I.ok.hd hc) λh' tk k=>⟨_,H,I.kept k,?_,q⟩;by_cases hj:j>i
 ·rw[if_pos hj,if_pos hj];exact ⟨_,rfl⟩
 ·rw[if_neg hj,if_neg hj];exact ⟨_,rfl⟩
theorem FE (hc:X.calm=true):cD X (.builtin "min") (λxs H Q=>∃i j,xs=[.int i,.int j]/\Q (.int (if j<i then j else i)) H):=by
 intro pins s σ H xs us Q I r h;obtain ⟨i,j,rfl,q⟩:=h;obtain ⟨u,w',rfl,⟨t,rfl⟩,⟨t',rfl⟩⟩:=vals2 r;refine min_two_ints (I.ok.hd hc) λh' tk k=>⟨_,H,I.kept k,?_,q⟩;by_cases hj:j<i
 ·rw[if_pos hj,if_pos hj];exact ⟨_,rfl⟩
 ·rw[if_neg hj,if_neg hj];exact ⟨_,rfl⟩
noncomputable def Ef (K:Fg) (x:V) (H:Hp) (n:Nat):Prop:=
 match x with
 | .str y=>y.length<=sizeLine/\n=y.length
 | .byt y=>y.size<=sizeLine/\n=y.size
 | .ref p=>(∃xs,aR K H p xs/\n=xs.length)\/∃xs,cC K H p xs/\n=xs.length
 |_=>False
theorem xO:cD X (.builtin "len") (λxs H Q=>∃x n,xs=[x]/\Ef X.K x H n/\Q (.int n) H):=by
 intro pins s σ H xs us Q I r h;obtain ⟨x,n,rfl,e,q⟩:=h;obtain ⟨u,rfl,rx⟩:=vals1 r;have hl:=lN;have hs:sizeLine=16777216:=sizeLine_eq;cases x with
 |str y=>
  obtain ⟨t,rfl⟩:=rx;obtain ⟨hy,e'⟩:y.length<=sizeLine/\n=y.length:=e;subst e';exact len_str (by lia) ⟨.int _,H,I.tok _,⟨_,rfl⟩,q⟩
 |byt y=>
  obtain ⟨t,rfl⟩:=rx;obtain ⟨hy,e'⟩:y.size<=sizeLine/\n=y.size:=e;subst e';exact PySem.W.len_bytes (by lia) ⟨.int _,H,I.tok _,⟨_,rfl⟩,q⟩
 |ref p=>
  cases rx;have e':(∃xs,aR X.K H p xs/\n=xs.length)\/∃xs,cC X.K H p xs/\n=xs.length:=e;rcases e' with ⟨xs,hx,e'⟩|⟨xs,hx,e'⟩
  ·subst e';obtain ⟨its,r',pl,hz⟩:=I.list hx;have hlen:=r'.length;exact Calls.call_len_list pl.isList (by simp only [size_toArray];lia) ⟨.int xs.length,H,I.tok _,⟨_,by simp only [size_toArray];rw[hlen]⟩,q⟩
  ·subst e';obtain ⟨its,r',pl,hz⟩:=I.tuple hx;have hlen:=r'.length;exact len_tuple pl (by simp only [size_toArray];lia) ⟨.int xs.length,H,I.tok _,⟨_,by simp only [size_toArray];rw[hlen]⟩,q⟩
 |_=>exact (show False from e).elim
end
structure YC (h:Heap) (x dx C:Addr) (mA:Str->Option Value):Prop where
 obj:h.get? x=some (PySem.W.instObj C dx)
 ns:h.Ns1 dx mA
 ne:dx≠x
theorem EC {h:Heap} {dx:Addr} {mA:Str->Option Value} (n:h.Ns1 dx mA):∃od,h.get? dx=some od/\∀name,PySem.W.lookIn name od=some (mA name):=by
 obtain ⟨o,es,ep,ho,hd,hk,_,hm⟩:=n;refine ⟨o,ho,λname=>?_⟩;have e:=hm name;unfold nsFind findBy at e;rw[<-Array.find?_toList] at e;unfold PySem.W.lookIn;rw[hd];dsimp only;split
 ·rename_i y q;rw[q] at e;exact congrArg some e
 ·rename_i q;rw[q] at e;have a:es.toList.any (·.refKey)=false:=by
   rw[List.any_eq_false];intro y hy;obtain ⟨z,t,hkey⟩:=hk y (Array.mem_toList_iff.mp hy);simp [DictEntry.refKey,hkey]
  have a':¬es.toList.any (·.refKey)=true:=by rw[a];exact Bool.false_ne_true
  rw[if_neg a'];exact congrArg some e
theorem YC.look (I:YC h x dx C mA):∃od,PySem.W.InstAt h x (PySem.W.instObj C dx) C (some od)/\∀name,PySem.W.lookIn name od=some (mA name):=
 let ⟨od,ho,hl⟩:=EC I.ns
 ⟨od,⟨I.obj,rfl,rfl,ho⟩,hl⟩
section
variable {prog:Program} {w:World} {A:Around} {E:Value->Shared->Prop} {s:Shared} {K:Fg} {x dx C f:Addr} {mA:Str->Option Value} {name:Str} {v:Value}
end
theorem jJ.some_of (r:jJ (some v) o):∃u,o=some u/\RelV v u:=by
 cases o with
 |none=>exact (show False from r).elim
 |some u=>exact ⟨u,rfl,r⟩
section
variable {P:Program} {w:World} {H H':Hp} {h h':Heap} {a C dx:Addr} {fs fs':List (Str × V)}
theorem OV (hok:eJ P w H h) (e:H a=some (.ins C dx fs)):∃mA,YC h a dx C mA/\(∀f,jJ (fs.lookup f) (mA f))/\PySem.Within mA (fs.map (·.1))/\fs.length<=1000/\H dx=some (.own a):=by
 obtain ⟨d,z,ne,ob,mA,n,r,q⟩:=(show aZ P w H h a (.ins C dx fs) from hok a _ e);exact ⟨mA,⟨ob,n,ne⟩,r,q,z,d⟩
end
structure Ex (K:Fg) (C:Addr):Prop where
 pg:PySem.W.plainGet K C Str.empty=true
 hd:PySem.W.hasDictIn K C=true
 po:PySem.W.plainOver K C=true
 sa:PySem.W.findIn K (.ref C) "__setattr__"=some (some (.builtin "object.__setattr__"))
theorem Ex.get {K:Fg} {C:Addr} (c:Ex K C) (f:Str):PySem.W.plainGet K C f=true:=c.pg
section
variable {X:Cx} {pins:List (Addr × Obj)} {σ:St} {H:Hp} {s:Shared} {a C dx:Addr} {fs:List (Str × V)} {f:Str} {v:V} {A:Around} {E:Value->Shared->Prop}
end
section
variable {X:Cx} {o e value:Expr} {f:Str} {pos pos' tpos:Pos} {ta tv:TE}
end
section
variable {X:Cx} {pins:List (Addr × Obj)} {σ:St} {H:Hp} {s:Shared} {A:Around} {E:Value->Shared->Prop} {Q:Value->Shared->Prop} {c:Value} {b:Bool}
inductive gC (K:Fg) (H:Hp):V->Value->Prop where
 |non:gC K H .non (.type "NoneType")
 |bl (x:Bool):gC K H (.bl x) (.type "bool")
 |int (i:Int):gC K H (.int i) (.type "int")
 |str (x:Str):gC K H (.str x) (.type "str")
 |flt (x:UInt64):gC K H (.flt x) (.type "float")
 |lst {a:Addr} {xs:List V} (e:H a=some (.lst xs)):gC K H (.ref a) (.type "list")
 |frz {a:Addr} {o:Obj} {xs:List V} (e:H a=some (.frz o (.lst xs))):gC K H (.ref a) (.type "list")
 |tup {a:Addr} {xs:List V} (e:H a=some (.tup xs)):gC K H (.ref a) (.type "tuple")
 |dK {a:Addr} {kvs:List (Key × V)} (e:H a=some (.dK kvs)):gC K H (.ref a) (.type "dict")
 |dT {a:Addr} {kvs:List (List Key × V)} (e:H a=some (.dT kvs)):gC K H (.ref a) (.type "dict")
 |ins {a C dx:Addr} {fs:List (Str × V)} (e:H a=some (.ins C dx fs)) (cl:Ex K C) (ha:PySem.W.findIn K (.ref C) "__class__"=some (some (.builtin "object.__class__")))
   (hn:PySem.W.specialIn K (.builtin "object.__class__") "__get__"=some (some (.builtin "getset_descriptor.__get__"))) (htk:PySem.W.takesIn K (.builtin "object.__class__")=some true)
   (hm:PySem.W.mroIn K C (.type "object")=some true):gC K H (.ref a) (.ref C)
theorem EG (I:Inv X pins σ H s) (rx:RelV x u) (ty:gC X.K H x t) (e:PySem.W.kitOne X.K t c=some b) (h:∀tk,Q (.bool b) {s with toks:=tk}):
  wpAny (model X.prog X.w) A (call (.builtin "isinstance") [u,c]) Q E s:=by
 cases ty with
 |non=>cases (show u=Value.none from rx);exact PySem.W.kia_one PySem.W.kitx_none I.kIn tI e (λz=>nomatch z) h
 |bl y=>cases (show u=Value.bool y from rx);exact PySem.W.kia_one PySem.W.kitx_bool I.kIn tI e (λz=>nomatch z) h
 |int i=>obtain ⟨t,q⟩:=(show ∃t,u=Value.int i t from rx);cases q;exact PySem.W.kia_one PySem.W.kitx_int I.kIn tI e (λz=>nomatch z) h
 |str y=>obtain ⟨t,q⟩:=(show ∃t,u=Value.str y t from rx);cases q;exact PySem.W.kia_one PySem.W.kitx_str I.kIn tI e (λz=>nomatch z) h
 |flt y=>obtain ⟨t,q⟩:=(show ∃t,u=Value.float y t from rx);cases q;exact PySem.W.kia_one PySem.W.kitx_float I.kIn tI e (λz=>nomatch z) h
 |@lst a xs ea=>
  cases (show u=Value.ref a from rx);obtain ⟨_,_,n,_,h1⟩:=(show aZ X.prog X.w H s.heap a (.lst xs) from I.hok a _ ea);exact PySem.W.kia_one PySem.W.kitx_list I.kIn ⟨_,h1,rfl⟩ e (λz=>nomatch z) h
 |@frz a ob xs ea=>
  cases (show u=Value.ref a from rx);obtain ⟨_,_,_,n,_,h1⟩:=(show aZ X.prog X.w H s.heap a (.frz ob (.lst xs)) from I.hok a _ ea);exact PySem.W.kia_one PySem.W.kitx_list I.kIn ⟨_,h1,rfl⟩ e (λz=>nomatch z) h
 |@tup a xs ea=>
  cases (show u=Value.ref a from rx);obtain ⟨_,_,_,p⟩:=(show aZ X.prog X.w H s.heap a (.tup xs) from I.hok a _ ea);obtain ⟨o,h1,h2,_⟩:=p;exact PySem.W.kia_one PySem.W.kitx_tuple I.kIn ⟨o,h1,h2⟩ e (λz=>nomatch z) h
 |@dK a kvs ea=>
  cases (show u=Value.ref a from rx);obtain ⟨_,_,vs,_,p⟩:=(show aZ X.prog X.w H s.heap a (.dK kvs) from I.hok a _ ea);obtain ⟨o,es,ep,h1,h2,_⟩:=p;exact PySem.W.kia_one PySem.W.kitx_dict I.kIn ⟨o,h1,h2.1⟩ e (λz=>nomatch z) h
 |@dT a kvs ea=>
  cases (show u=Value.ref a from rx);obtain ⟨_,_,xs,_,o,es,ep,h1,h2,_⟩:=(show aZ X.prog X.w H s.heap a (.dT kvs) from I.hok a _ ea);exact PySem.W.kia_one PySem.W.kitx_dict I.kIn ⟨o,h1,h2.1⟩ e (λz=>nomatch z) h
 |@ins a C dx fs ea cl ha hn htk hm=>
  cases (show u=Value.ref a from rx);obtain ⟨mA,O,_⟩:=OV I.hok ea;obtain ⟨od,J,_⟩:=O.look;exact PySem.W.kia_one (PySem.W.kitx_own (cl.get _) cl.hd ha hn htk hm) I.kIn J e (λz=>nomatch z) h
end
structure dF (k:Nat) (A:Around):Prop where
 hd:A.handled=none
 dp:A.depth+3 * k+5<recursionLimit
 un:A.units+16 * k+200<cLine
theorem dF.mono (r:dF k A) (h:j<=k):dF j A:=⟨r.hd,by have:=r.dp;lia,by have:=r.un;lia⟩
theorem dF.deeper (r:dF (k+1) A) (env:Env):dF k (A.deeper env):=
 ⟨r.hd,by have:=r.dp;show A.depth+1+3 * k+5<_;lia,by have:=r.un;show A.units+3+16 * k+200<_;lia⟩
theorem zR {A:Around} {C:Addr} {us:List Value} {kw:List (Str × Value)}:(A.under (.builtin "type.__call__" ⟨.ref C::us,kw⟩)).depth=A.depth+1:=by
 first|rfl|simp [Around.under,Code.weight,Code.isCreation,Code.isGuard,Code.isCaller,Code.frames,Code.isFrame,guardIds]
theorem dF.depth (r:dF k A):A.depth<recursionLimit:=by have:=r.dp;lia
theorem dF.units (r:dF k A):A.units+64<cLine:=by have:=r.un;lia
noncomputable def ZN:TA:=λ_ H Q=>Q [] H
noncomputable def RA (ta:TE) (tr:TA):TA:=λσ H Q=>ta σ H λx H1=>tr σ H1 λxs H2=>Q (x::xs) H2
section
variable {X:Cx} {e:Expr} {es:List Expr} {te:TE} {t:TA} {pos:Pos}
theorem HZ:PA X [] ZN:=λ_ _ _ _ H Q I h=>Calls.spliced_nil ⟨[],H,I,.nil,h⟩
theorem BH (ha:PE X e te) (hr:PA X es t) (hs:starEach (e::es) X.env=(false,eval e X.env)::starEach es X.env:=by rfl):PA X (e::es) (RA te t):=by
 intro pos pins s σ H Q I h;rw[hs];show wpAny _ _ (spliced ((false,eval e X.env)::backTo pos (starEach es X.env))) _ _ s;refine Calls.spliced_cons (bS (ha pins s σ H _ I h) λu s1 ⟨x,H1,I1,r1,q1⟩=>?_);exact bS (hr pos pins s1 σ H1 _ I1 q1) λus s2 ⟨xs,H2,I2,r2,q2⟩=>⟨x::xs,H2,I2,.cons r1 r2,q2⟩
noncomputable def ZL (t:TA):TE:=λσ H Q=>t σ H λxs H1=>xs.length<=sizeLine/\∀p,H1 p=none->Q (.ref p) (upd H1 p (.tup xs))
noncomputable def ZO (t:TA):TE:=λσ H Q=>t σ H λxs H1=>xs.length<=sizeLine/\∀p,H1 p=none->Q (.ref p) (upd H1 p (.lst xs))
theorem UM {x1} (h:PA X es t):PE X (.Tuple es x1 pos) (ZL t):=by
 intro pins s σ H Q I hq;refine wpAny_Tuple_spliced (bS (h pos pins s σ H _ I hq) λus s1 ⟨xs,H1,I1,r,z,q⟩=>⟨by rw[<-r.length];exact z,?_⟩);have hf:H1 s1.heap.objs.size=none:=I1.hok.fresh (Nat.le_refl _);refine ⟨.ref s1.heap.objs.size,upd H1 s1.heap.objs.size (.tup xs),I1.laid (t':=s1.toks) (λb u e=>get?_push_of_some _ e) (Nat.le_refl _) ?_,rfl,q _ hf⟩;exact ⟨z,us,r,⟨_,get?_push_size _ rfl,rfl,_,rfl⟩⟩
theorem UQ (h:PA X es t):PE X (.List es pos) (ZO t):=by
 intro pins s σ H Q I hq;refine wpAny_List_spliced (bS (h pos pins s σ H _ I hq) λus s1 ⟨xs,H1,I1,r,z,q⟩=>⟨by rw[<-r.length];exact z,?_⟩);have hf:H1 s1.heap.objs.size=none:=I1.hok.fresh (Nat.le_refl _);refine ⟨.ref s1.heap.objs.size,upd H1 s1.heap.objs.size (.lst xs),I1.laid (t':=s1.toks) (λb u e=>get?_push_of_some _ e) (Nat.le_refl _) ?_,rfl,q _ hf⟩;exact ⟨z,us,0,r,get?_push_size _ rfl⟩
end
noncomputable abbrev Sp:=List V->Hp->VK->XK->Prop
noncomputable abbrev MI:=List Env->Hp->Shared->XK->Value->Shared->Prop
structure QP (P:Program) (w:World) (K:Fg) (mg:Str->Option Value) (base:Heap) (A:Around) (outer:List Env) (s:Shared) (H:Hp):Prop where
 frames:A.frames=some outer
 mod:Mod K mg base
 bs:∀b o,base.get? b=some o->s.heap.get? b=some o/\H b=none
 bsz:base.objs.size<=s.heap.objs.size
 funs:s.heap.FunFrames base outer
 frf:∀b∈fB outer,H b=none
 hok:eJ P w H s.heap
 bare:AllBare s.gens
noncomputable def CE (outer:List Env) (P:Program) (w:World) (H:Hp) (s:Shared) (Q:VK) (u:Value) (s':Shared):Prop:=
 ∃v H',s'.os=s.os/\AllBare s'.gens/\Un (fB outer) [] H H' s.heap s'.heap/\eJ P w H' s'.heap/\RelV v u/\Q v H'
noncomputable def CR (CX:MI) (outer:List Env) (P:Program) (w:World) (H:Hp) (s:Shared) (Q:VK) (E:XK) (r:Result) (s':Shared):Prop:=
 match r with
 | .ok (.ret u)=>CE outer P w H s Q u s'
 | .ok _=>False
 | .error e=>CX outer H s E e s'
structure AN (P:Program) (w:World) (K:Fg) (mg:Str->Option Value) (base:Heap) (CX:MI) (k:Nat) (f:Addr) (fd:FuncData) (ps:List Str) (sp:Sp):Prop where
 len:∀vs H Q E,sp vs H Q E->vs.length=ps.length
 run:∀(A:Around) (outer:List Env) (s:Shared) (H:Hp) (args:Args) (us:List Value) (vs:List V) (Q:VK) (E:XK),dF k A->QP P w K mg base A outer s H->BindsTo s fd args (ps.zip us)->Vals vs us->sp vs H Q E->
  codeAny (model P w) A (.call (.ref f) args) (CR CX outer P w H s Q E) s
section
variable {X:Cx} {pins:List (Addr × Obj)} {σ:St} {H:Hp} {s s':Shared}
theorem Inv.env0 (I:Inv X pins σ H s):QP X.prog X.w X.K X.mg X.base X.A X.stack s H:=
 ⟨I.ok.frames,I.ok.mod,I.bs,Nat.le_trans I.ok.bsz I.sz,I.stack,I.stkFree,I.hok,I.bare⟩
theorem Inv.after (I:Inv X pins σ H s) (h:CE X.stack X.prog X.w H s Q u s'):EP X pins σ Q u s':=by
 obtain ⟨v,H',os,bare,un,hok,r,q⟩:=h;obtain ⟨hh,g,d,t,os'⟩:=s';obtain rfl:os'=s.os:=os;exact ⟨v,H',I.call (h':=hh) (g':=g) (d':=d) (t':=t) (ch:=[]) un hok bare (λb z=>absurd z (by simp)),r,q⟩
end
noncomputable def Binds (K:Fg) (fd:FuncData) (ps:List Str) (ds:List Value):Prop:=
 ∀(s:Shared) (us:List Value),K.In s.heap->(us++ds).length=ps.length->BindsTo s fd ⟨us,[]⟩ (ps.zip (us++ds))
theorem Binds.all {K:Fg} {fd:FuncData} {ps:List Str} (h:∀us:List Value,us.length=ps.length->bindArgs fd ⟨us,[]⟩=pure (ps.zip us)):Binds K fd ps []:=λs us _ hl=>by
 rw[append_nil] at hl ⊢;exact .of_eq (h us hl)
noncomputable def Passes (CX:MI) (X:Cx) (E:XK):Prop:=∀(pins:List (Addr × Obj)) (σ:St) (H:Hp) (s:Shared) (e:Value) (s':Shared),Inv X pins σ H s->CX X.stack H s E e s'->X.xe e s'
section
variable {X:Cx} {CX:MI} {k:Nat} {f C:Addr} {fd:FuncData} {ps:List Str} {sp:Sp} {dvs:List V} {ds:List Value} {E:XK} {x m:Str} {p pos apos:Pos} {e o:Expr} {es:List Expr} {ta:TE} {t:TA}
end
section
variable {X:Cx} {CX:MI} {k:Nat} {f C:Addr} {fd:FuncData} {ps ks:List Str} {sp:Sp} {E:XK} {x m:Str} {p pos apos kpos:Pos} {e o:Expr} {es:List Expr} {kws:List Keyword} {te ta:TE} {t tk:TA} {nm:Option Str}
variable {g:List Value->List Value->List Value} {gV:List V->List V->List V}
end
structure gD (N P:List Str) (sc:Scope):Prop where
 kind:sc.kind=.function
 co:sc.isCoroutine=false
 gen:sc.isGenerator=false
 nd:N.Nodup
 pre:N.take P.length=P
 par:∀x∈P,sc.names.lookup x=some .local\/sc.names.lookup x=some .cell
 nofree:∀y∈sc.names,y.2≠.free
theorem sC {kindOf:Str->Option NameKind} {x:Str}:∀{binds:List (Str × Value)} {m:Str->Option Value},(∀v,(x,v)∉binds)->bindL kindOf binds m x=m x
 |[],_,_=>rfl
 | (n,v)::r,m,h=>by
  unfold bindL;rw[sC λw hw=>h w (mem_cons_of_mem _ hw)];split
  ·have:x≠n:=by rintro rfl;exact h v mem_cons_self
   simp [this]
  ·rfl
theorem sE {kindOf:Str->Option NameKind} {x:Str}:∀{binds:List (Str × Value)} {m:Str->Option Value},(∀v,(x,v)∉binds)->bindC kindOf binds m x=m x
 |[],_,_=>rfl
 | (n,v)::r,m,h=>by
  unfold bindC;rw[sE λw hw=>h w (mem_cons_of_mem _ hw)];split
  ·rfl
  ·have:x≠n:=by rintro rfl;exact h v mem_cons_self
   simp [this]
theorem sD {kindOf:Str->Option NameKind} {x:Str} {v:Value}:∀{P:List Str} {vs:List Value} {i:Nat} {m:Str->Option Value},P.Nodup->P[i]?=some x->vs[i]?=some v->kindOf x=some .local->
  bindL kindOf (P.zip vs) m x=some v
 |[],_,_,_,_,h,_,_=>by simp at h
 |_::_,[],_,_,_,_,h,_=>by simp at h
 |p::P,w::vs,0,m,nd,h1,h2,hk=>by
  simp at h1 h2;subst h1;subst h2;show bindL kindOf ((p,w)::P.zip vs) m p=_;unfold bindL;rw[sC λv hv=>(nodup_cons.mp nd).1 (List.of_mem_zip hv).1,if_pos hk];simp
 |p::P,w::vs,i+1,m,nd,h1,h2,hk=>by
  show bindL kindOf ((p,w)::P.zip vs) m x=_;unfold bindL;exact sD (i:=i) (nodup_cons.mp nd).2 (by simpa using h1) (by simpa using h2) hk
theorem sF {kindOf:Str->Option NameKind} {x:Str} {v:Value}:∀{P:List Str} {vs:List Value} {i:Nat} {m:Str->Option Value},P.Nodup->P[i]?=some x->vs[i]?=some v->kindOf x≠some .local->
  bindC kindOf (P.zip vs) m x=some v
 |[],_,_,_,_,h,_,_=>by simp at h
 |_::_,[],_,_,_,_,h,_=>by simp at h
 |p::P,w::vs,0,m,nd,h1,h2,hk=>by
  simp at h1 h2;subst h1;subst h2;show bindC kindOf ((p,w)::P.zip vs) m p=_;unfold bindC;rw[sE λv hv=>(nodup_cons.mp nd).1 (List.of_mem_zip hv).1,if_neg hk];simp
 |p::P,w::vs,i+1,m,nd,h1,h2,hk=>by
  show bindC kindOf ((p,w)::P.zip vs) m x=_;unfold bindC;exact sF (i:=i) (nodup_cons.mp nd).2 (by simpa using h1) (by simpa using h2) hk
noncomputable def start (N:List Str) (vs:List V):St:=vs.map some++replicate (N.length - vs.length) none
noncomputable def qN (CX:MI) (P:Program) (w:World) (K:Fg) (mg:Str->Option Value) (base:Heap) (N:List Str) (qual:Str) (scope:Scope) (f:Addr) (cd:Value) (A:Around) (outer:List Env) (s:Shared) (H:Hp) (E:XK):Cx where
 prog:=P
 w:=w
 K:=K
 mg:=mg
 base:=base
 A:=A.deeper (envOfC qual scope s.heap.objs.size f cd)
 N:=N
 s₀:=s
 H₀:=H
 env:=envOfC qual scope s.heap.objs.size f cd
 outer:=outer
 stack:=envOfC qual scope s.heap.objs.size f cd::outer
 ex:=[]
 calm:=true
 fn:=λ_=>true
 pn:=[]
 xe:=λe s'=>wpAny (model P w) (A.deeper (envOfC qual scope s.heap.objs.size f cd)) (leaving (envOfC qual scope s.heap.objs.size f cd) e) (λ_ s''=>CX outer H s E e s'') (λe' s''=>CX outer H s E e' s'') s'
theorem pI {sc:Scope} {n:Nat} {x:Str} (h:sc.names.lookup x=some .cell):∃c,(cellsFrom n sc.names []).lookup x=some c:=by
 have q:=PySem.W.cellsFrom_some sc.names n [] (.inl h);exact Option.isSome_iff_exists.mp q
theorem EH {CX:MI} {P:Program} {w:World} {K:Fg} {mg:Str->Option Value} {base:Heap} {N ps:List Str} {qual:Str} {scope:Scope} {f:Addr} {cd:Value} {A:Around} {outer:List Env} {s s1:Shared} {H:Hp} {E:XK} {us:List Value} {vs:List V}
  (S:gD N ps scope) (hd:A.handled=none) (e0:QP P w K mg base A outer s H) (hl:vs.length=ps.length) (r:Vals vs us)
  (x:InCallC s s.heap.objs.size (bindL (envOfC qual scope s.heap.objs.size f cd).kindOf (ps.zip us) λ_=>none) (cellsFrom (s.heap.objs.size+1) scope.names []) (bindC (envOfC qual scope s.heap.objs.size f cd).kindOf (ps.zip us) λ_=>none) s1):
  Inv (qN CX P w K mg base N qual scope f cd A outer s H E) [] (start N vs) H s1:=by
 have hpl:ps.length<=N.length:=by have:=congrArg List.length S.pre;rw[length_take] at this;lia
 obtain ⟨h1,tk,rfl,hk⟩:=x.done;have noA:∀b:Addr,b∉(qN CX P w K mg base N qual scope f cd A outer s H E).ex:=λb z=>absurd (show b∈([]:List Addr) from z) (by simp);refine ⟨⟨e0.mod,S.kind,rfl,rfl,Nat.le_refl _,λy z c h1 h2=>?_,λy hy=>?_,λy c _ h=>?_,λ_=>hd,Around.frames_deeper e0.frames,.inr ⟨rfl,rfl⟩,λb z=>absurd z (noA b),e0.bs,e0.bsz,λb _ _=>noA b,λb z=>absurd z (noA b),e0.funs,e0.frf⟩,
  rfl,e0.bare,Un.kept hk,⟨_,x.toInCall.ns,λi y v h1 h2 h3=>?_⟩,λy c h=>⟨_,x.cell y c h⟩,e0.hok.fresh (Nat.le_refl _),λy c h=>?_,λp hp=>absurd (show p∈([]:List (Addr × Obj)) from hp) (by simp),e0.hok.kept hk,?_⟩
 ·exact name_of_addr x.apart (PySem.mem_of_lookup h1) (PySem.mem_of_lookup h2)
 ·have hy:scope.names.lookup y=some .cell\/scope.names.lookup y=some .free:=hy;rcases hy with hy|hy
  ·exact pI hy
  ·exact absurd rfl (S.nofree _ (PySem.mem_of_lookup hy))
 ·exact le_of_lt (x.above y c (PySem.mem_of_lookup h))
 ·have hi:i<vs.length:=by
   unfold start at h2;by_cases hi:i<vs.length
   ·exact hi
   ·rw[getElem?_append_right (by simpa using hi)] at h2;rw[List.getElem?_replicate] at h2;split at h2<;>cases h2
  have ha:vs[i]?=some v:=by
   unfold start at h2;rw[getElem?_append_left (by simpa using hi),getElem?_map] at h2;cases e:vs[i]? with
   |none=>rw[e] at h2;cases h2
   |some a=>rw[e] at h2;cases h2;rfl
  obtain ⟨u,hu,rv⟩:=r.get ha;have hp:ps[i]?=some y:=by
   rw[<-S.pre,List.getElem?_take_of_lt (by lia)];exact h1
  have ndP:ps.Nodup:=by rw[<-S.pre];exact S.nd.sublist (List.take_sublist _ _)
  refine ⟨u,rv,?_⟩;rcases S.par y (mem_of_getElem? hp) with k|k
  ·exact .inl ⟨k,sD ndP hp hu k⟩
  ·obtain ⟨c,e⟩:=pI (n:=s.heap.objs.size+1) k;refine .inr ⟨.inl k,c,e,?_⟩;have q:=x.cell y c e;rw[sF ndP hp hu (by show scope.names.lookup y≠_;rw[k];decide)] at q;exact q
 ·exact e0.hok.fresh (le_of_lt (x.above y c (PySem.mem_of_lookup h)))
 ·unfold start;show _=N.length;rw[length_append,length_map,length_replicate];lia
theorem Dm {CX:MI} {P:Program} {w:World} {K:Fg} {mg:Str->Option Value} {base:Heap} {k:Nat} {f:Addr} {name qual:Str} {params:Arguments} {body:List Stmt} {scope:Scope} {dV kV doc pm cdv ct oc:Value} {an od:Option Addr}
  {osl:Array (Option Value)} {N ps:List Str} {sp:Sp} (lk:K.lookup f=some ⟨oc,od,.func (PySem.W.fnOf name qual params body scope dV kV doc pm an cdv ct),osl⟩) (hcd:PySem.W.codeIn K cdv qual=true) (S:gD N ps scope)
  (len:∀vs H Q E,sp vs H Q E->vs.length=ps.length)
  (hbody:∀(A:Around) (outer:List Env) (s:Shared) (H:Hp) (vs:List V) (Q:VK) (E:XK),dF k (A.deeper (envOfC qual scope s.heap.objs.size f cdv))->sp vs H Q E->
   ∃t,XZ (qN CX P w K mg base N qual scope f cdv A outer s H E) body t/\t {nx:=λ_ H'=>Q .non H',rt:=Q} (start N vs) H):
  AN P w K mg base CX (k+1) f (PySem.W.fnOf name qual params body scope dV kV doc pm an cdv ct) ps sp:=by
 refine ⟨len,λA outer s H args us vs Q E hr e0 hb r hsp=>?_⟩;have hl:=len _ _ _ _ hsp;have KX:K.In s.heap:=e0.mod.kin.keeps λb o e=>(e0.bs b o e).1;have lim:s.heap.NoLimit:=e0.mod.nolimit.keeps λb o e=>(e0.bs b o e).1;have hkind:∀y∈ps.zip us,scope.names.lookup y.1=some .local\/(scope.names.lookup y.1=some .cell/\((cellsFrom (s.heap.objs.size+1) scope.names []).lookup y.1).isSome=true):=λ⟨n,v⟩ hy=>by
  rcases S.par n (List.of_mem_zip hy).1 with q|q
  ·exact .inl q
  ·exact .inr ⟨q,PySem.W.cellsFrom_some _ _ _ (.inl q)⟩
 refine codeAny_call_function hr.depth (KX _ _ lk) rfl S.co S.gen rfl (PySem.W.codeRec_of KX hcd) (hb _ _ _ _ ?_);refine wpAny_newFunctionEnv_cells S.kind hkind λenv he s1 x=>?_;subst he;refine ⟨lim.keeps x.toInCall.keep,codeAny_func ?_⟩;obtain ⟨t,ht,hq⟩:=hbody A outer s H vs Q E (hr.deeper _) hsp;have I:Inv (qN CX P w K mg base N qual scope f cdv A outer s H E) [] (start N vs) H s1:=EH S hr.hd e0 hl r x;refine wpAny_mono (ht [] s1 (start N vs) H _ I hq) (λfl s' hs=>?_) λe s' hs=>hs;have fin:∀{σ':St} {H':Hp} {v:V} {u:Value},Inv (qN CX P w K mg base N qual scope f cdv A outer s H E) [] σ' H' s'->RelV v u->Q v H'->CE outer P w H s Q u s':=
  λ{σ' H' v u} J rv q=>⟨v,H',J.os,J.bare,J.base,J.hok,rv,q⟩
 cases fl with
 |ret u=>
  obtain ⟨v,σ',H',J,rv,q⟩:=hs;exact fin J rv q
 |next=>
  obtain ⟨σ',H',J,q⟩:=hs;exact fin (v:=V.non) (u:=Value.none) J rfl q
 |brk=>
  obtain ⟨_,_,_,q⟩:=hs;exact False.elim q
 |cont=>
  obtain ⟨_,_,_,q⟩:=hs;exact False.elim q
section
variable {X:Cx} {x:Str} {p pos:Pos} {e:Expr} {es:List Expr} {t:TA} {id T:String} {r:List V->Hp->VK->Prop}
noncomputable def ZR (r:List V->Hp->VK->Prop) (t:TA):TE:=λσ H Q=>t σ H λvs H1=>r vs H1 Q
theorem wC (hc:cD X (.builtin id) r) (hg:Gl X x) (hm:X.mg x=none) (hv:bootBuiltins x=some (.builtin id)) (ha:PA X (e::es) t) (hn:x≠"__name__":=by decide) (hdb:(x==("__debug__":Str))=false:=by decide)
  (he:starEach (e::es) X.env=(false,eval e X.env)::starEach es X.env:=by rfl) (hpl:(backTo pos (starEach es X.env)).any (·.1)=false:=by rfl):PE X (.Call (.Name x p) (e::es) [] pos) (ZR r t):=by
 intro pins s σ H Q I h;refine wpAny_Call_Name_kw (eS I hg hm hv ?_ hn hdb);exact PyProof.Rows.callWith_builtin1 (bS (ha pos pins s σ H _ I h) λus s1 ⟨vs,H1,I1,r1,q1⟩=>hc pins s1 σ H1 vs us Q I1 r1 q1) he hpl
theorem DM (hc:cD X (.type T) r) (hg:Gl X x) (hm:X.mg x=none) (hv:bootBuiltins x=some (.type T)) (ha:PA X (e::es) t) (hn:x≠"__name__":=by decide) (hdb:(x==("__debug__":Str))=false:=by decide)
  (he:starEach (e::es) X.env=(false,eval e X.env)::starEach es X.env:=by rfl) (hpl:(backTo pos (starEach es X.env)).any (·.1)=false:=by rfl):PE X (.Call (.Name x p) (e::es) [] pos) (ZR r t):=by
 intro pins s σ H Q I h;refine wpAny_Call_Name_kw (eS I hg hm hv ?_ hn hdb);exact PyProof.Rows.callWith_type1 (bS (ha pos pins s σ H _ I h) λus s1 ⟨vs,H1,I1,r1,q1⟩=>hc pins s1 σ H1 vs us Q I1 r1 q1) he hpl
end
end L2
namespace HT
open PySem PyProof.Rows
section
open PySem.SeqAt
open PySem.AutoSeq1 (wpAny_loadPart')
open PySem.MeetsSeq PySem.MeetsSeq2 PySem.MeetsSeq3
end
section
variable {prog:Program} {w:World} {A:Around} {E:Value->Shared->Prop} {s:Shared}
theorem QD (ht:IsTup s.heap t vs.toArray) (hb:IsTup s.heap b ws.toArray) (hv:vs≠[])
  (h1:ws=[]->Q (.ref t) s) (h2:ws≠[]->Q (.ref s.heap.objs.size) {s with heap:=s.heap.push {cls:=.type "tuple",data:=.seq (vs++ws).toArray}})
  (hsz:vs.length+ws.length<=sizeLine):wpAny (model prog w) A (binaryOp .Add (.ref t) (.ref b)) Q E s:=by
 obtain ⟨⟨cls,dd,data,sl⟩,ho,hc,n,hd⟩:=id ht;obtain ⟨⟨cls2,dd2,data2,sl2⟩,ho2,hc2,n2,hd2⟩:=id hb;simp only at hc hd hc2 hd2;subst hc hd hc2 hd2;have e:vs.toArray++ws.toArray=(vs++ws).toArray:=by simp
 by_cases hw:ws=[]
 ·exact concat_meets ⟨_,ho,rfl⟩ ⟨_,ho2,rfl⟩ noFill_tuple_add seq_tuple_add PySem.F.slot_tuple_add PySem.F.entry_tuple_add (PySem.F.args_tuple_add_2 _ _)
   (tuple_addW1 t b vs.toArray ws.toArray n n2 dd dd2 sl sl2 (by simpa using hv) (by simp [hw])) ⟨ho,ho2,h1 hw⟩
 ·refine concat_meets ⟨_,ho,rfl⟩ ⟨_,ho2,rfl⟩ noFill_tuple_add seq_tuple_add PySem.F.slot_tuple_add PySem.F.entry_tuple_add (PySem.F.args_tuple_add_2 _ _)
   (tuple_addW2 t b vs.toArray ws.toArray n n2 dd dd2 sl sl2 (by simpa using hv) (by simpa using hw) (by rw[size_toArray,size_toArray];exact hsz)) ⟨ho,ho2,?_⟩
  rw[e];exact h2 hw
noncomputable def dA (n d:Nat):Option Int->Nat
 |none=>d
 |some v=>if v<0 then (v+(n:Int)).toNat else min v.toNat n
theorem HE (n d:Nat):dA n d none=d:=rfl
theorem TL (n d:Nat) (hd:d<=n) (o:Option Int):dA n d o<=n:=by
 cases o with
 |none=>exact hd
 |some v=>
  show (if v<0 then (v+(n:Int)).toNat else min v.toNat n)<=n;by_cases hv:v<0
  ·rw[if_pos hv];lia
  ·rw[if_neg hv];exact Nat.min_le_right _ _
theorem CA (v:Int) (n d:Nat):(if v<0 then max (v+(n:Int)) 0 else min v (n:Int))=((dA n d (some v):Nat):Int):=by
 show (if v<0 then max (v+(n:Int)) 0 else min v (n:Int))=(((if v<0 then (v+(n:Int)).toNat else min v.toNat n):Nat):Int);by_cases hv:v<0
 ·simp only [if_pos hv];lia
 ·simp only [if_neg hv];lia
theorem AK (lo hi:Option Int) (n:Nat):Builtin.Slice.sliceAdjust lo hi 1 (n:Int)=(((dA n 0 lo:Nat):Int),((dA n n hi:Nat):Int)):=by
 have h1:¬((1:Int)<0):=by lia
 unfold Builtin.Slice.sliceAdjust;simp only [h1,if_false];refine Prod.ext ?_ ?_
 ·cases lo with
  |none=>rfl
  |some v=>exact CA v n 0
 ·cases hi with
  |none=>rfl
  |some v=>exact CA v n n
theorem zG (i j:Nat):Builtin.Slice.slicePlaces (i:Int) (j:Int) 1=j - i:=by
 unfold Builtin.Slice.slicePlaces;have h1:(1:Int)>0:=by lia
 simp only [h1,if_true,Int.ediv_one];split<;>lia
theorem nY (p:IsPart v o) (h:Q o s):wpAny (model prog w) A (Builtin.Slice.slicePartIndex v) Q E s:=by
 cases p with
 |none=>exact slicePart_none h
 |int i t=>exact slicePart_int h
theorem lH {sl:Addr} {vl vu:Value} {lo hi:Option Int} {n:Nat} {Q:Int × Int × Nat->Shared->Prop} (hs:s.heap.IsSliceOf sl vl vu .none) (pl:IsPart vl lo) (pu:IsPart vu hi)
  (h:Q (((dA n 0 lo:Nat):Int),1,dA n n hi - dA n 0 lo) s):wpAny (model prog w) A (Builtin.Slice.sliceApplied (.ref sl) (pure (n:Int))) Q E s:=by
 obtain ⟨os,hos,hcs,hds⟩:=id hs;unfold Builtin.Slice.sliceApplied Builtin.Slice.sliceFields;refine wpAny_bind (wpAny_bind (wpAny_field hos hds (x:=vl) rfl (wpAny_bind (wpAny_field hos hds (x:=vu) rfl (wpAny_bind (wpAny_field hos hds (x:=.none) rfl (wpAny_pure ?_)))))));refine wpAny_bind (slicePart_none ?_);show wpAny _ _ (if ((1:Int)==0)=true then _ else _) _ _ s;rw[if_neg (by decide)];refine wpAny_bind (nY pl (wpAny_bind (nY pu (wpAny_bind (wpAny_pure ?_)))));show wpAny _ _ (match Builtin.Slice.sliceAdjust lo hi 1 (n:Int) with|(lo,hi)=>pure (lo,(1:Int),Builtin.Slice.slicePlaces lo hi 1)) _ _ s;rw[AK lo hi n];show wpAny _ _ (pure (((dA n 0 lo:Nat):Int),(1:Int),Builtin.Slice.slicePlaces ((dA n 0 lo:Nat):Int) ((dA n n hi:Nat):Int) 1)) _ _ s;rw[zG];exact wpAny_pure h
theorem HU (xs:Array Value) (i k:Nat):((range k).filterMap λ(m:Nat)=>xs[((i:Int)+(m:Int) * 1).toNat]?).toArray=((xs.toList.drop i).take k).toArray:=by
 have e:(λ(m:Nat)=>xs[((i:Int)+(m:Int) * 1).toNat]?)=λm=>xs[i+m]?:=by
  funext m
  have:((i:Int)+(m:Int) * 1).toNat=i+m:=by lia
  rw[this]
 rw[e];have:=pick_run xs i k;rw[List.filterMap_map] at this;have e2:((λx=>xs[x]?)∘λx=>i+x)=λm=>xs[i+m]?:=rfl;rw[e2] at this;rw[this]
theorem kR {t sl:Addr} {items:Array Value} {vl vu:Value} {lo hi:Option Int} {Q:Value->Shared->Prop} (ht:IsTup s.heap t items) (hs:s.heap.IsSliceOf sl vl vu .none) (pl:IsPart vl lo) (pu:IsPart vu hi)
  (hw:¬(dA items.size 0 lo=0/\dA items.size items.size hi=items.size))
  (h:Q (.ref s.heap.objs.size) {s with heap:=s.heap.push {cls:=.type "tuple",data:=.seq ((items.toList.drop (dA items.size 0 lo)).take (dA items.size items.size hi - dA items.size 0 lo)).toArray}})
  (hsz:items.size<=sizeLine):wpAny (model prog w) A (getItem (.ref t) (.ref sl)) Q E s:=by
 have htake:sizeOk (.seq ((items.toList.drop (dA items.size 0 lo)).take (dA items.size items.size hi - dA items.size 0 lo)).toArray):=by
  show ((items.toList.drop (dA items.size 0 lo)).take (dA items.size items.size hi - dA items.size 0 lo)).toArray.size<=sizeLine;rw[size_toArray,length_take,length_drop,length_toList];lia
 have hj:dA items.size items.size hi<=items.size:=TL _ _ (Nat.le_refl _) hi;obtain ⟨os,hos,hcs,hds⟩:=id hs;have hTs:s.TypeIs (.ref sl) "slice":=⟨os,hos,hcs⟩;unfold getItem
 try with_reducible refine wpAny_holding ?_
 first|refine wpAny_bind (wpAny_pure ?_)|skip
 refine wpAny_bind (wpAny_sequenceKey ht.typeIs (by decide) ?_);refine wpAny_bind (wpAny_callSpecial?_slot (name:=Str.ofString "__getitem__") ht.typeIs PyProof.Rows.slot_tuple_getitem
  (wpAny_call_entry PyProof.Rows.slot_tuple_getitem ht.typeIs entry_tuple_getitem ?_ (args_tuple_getitem _ _)))
 show wpAny _ _ (Builtin.Tuple.tupleItemsOf (.ref t) >>=_) _ _ s;refine wpAny_bind (tupleItemsOf_ ht ?_);refine wpAny_bind (wpAny_typeOf hTs ?_);rw[if_pos (by decide)];refine wpAny_bind (lH hs pl pu ?_);have hno:¬((((dA items.size 0 lo:Nat):Int)==0&&(1:Int)==1&&(dA items.size items.size hi - dA items.size 0 lo)==items.size)=true):=by
  intro q;rw[and_eq_true,and_eq_true] at q;have q1:((dA items.size 0 lo:Nat):Int)=0:=eq_of_beq q.1.1;have q2:dA items.size items.size hi - dA items.size 0 lo=items.size:=eq_of_beq q.2;exact hw ⟨by lia,by lia⟩
 show wpAny _ _ (if (((dA items.size 0 lo:Nat):Int)==0&&(1:Int)==1&&(dA items.size items.size hi - dA items.size 0 lo)==items.size)=true then _ else _) _ _ s;rw[if_neg hno,HU]
 first
  |exact wpAny_bind (m:=Builtin.Tuple.tupleExact _) (wpAny_newObj_type (wpAny_pure ⟨_,rfl,wpAny_pure h⟩) htake)
  |exact wpAny_bind (m:=Builtin.Tuple.tupleExact _) (wpAny_newObj_type (wpAny_bind (wpAny_pure (wpAny_pure ⟨_,rfl,wpAny_pure h⟩))) htake)
  |exact wpAny_bind (wpAny_bind (m:=Builtin.Tuple.tupleExact _) (wpAny_newObj_type (wpAny_pure (wpAny_pure ⟨_,rfl,wpAny_pure h⟩)) htake))
  |exact wpAny_bind (wpAny_bind (m:=Builtin.Tuple.tupleExact _) (wpAny_newObj_type (wpAny_pure ⟨_,rfl,wpAny_pure h⟩) htake))
end
end HT
namespace L2
open PySem PySem.Spec PyProof.Rows
noncomputable abbrev TO:=St->Hp->(Option Int->Hp->Prop)->Prop
noncomputable def PO (X:Cx) (e:Option Expr) (t:TO):Prop:=
 ∀(pins:List (Addr × Obj)) (s:Shared) (σ:St) (H:Hp) (Q:Option Int->Hp->Prop),Inv X pins σ H s->t σ H Q->
  wpAny (model X.prog X.w) X.A (evalPart e X.env) (λu s'=>∃o H',Inv X pins σ H' s'/\IsPart u o/\Q o H') X.xe s
noncomputable def AS:TO:=λ_ H Q=>Q none H
theorem intsAre_of:∀{us:List Value},Vals (ns.map V.int) us->IntsAre us ns:=by
 induction ns with
 |nil=>intro us r;rw[map_nil] at r;cases r;exact .nil
 |cons n ns ih=>
  intro us r;rw[map_cons] at r;cases r with
  |cons r1 r2=>
   obtain ⟨t,e⟩:=r1;subst e;exact .cons n t (ih r2)
section
variable {X:Cx} {e:Expr} {te:TE} {lo hi:Option Expr} {tl th:TO} {pos p2:Pos}
theorem NM:PO X none AS:=by
 intro pins s σ H Q I h;rw[evalPart_none];exact wpAny_pure ⟨none,H,I,.none,h⟩
noncomputable def Eb (X:Cx) (r:V->Option Int->Option Int->Hp->VK->Prop):Prop:=
 ∀(pins:List (Addr × Obj)) (s:Shared) (σ:St) (H:Hp) (x:V) (v vl vu:Value) (lo hi:Option Int) (sl:Addr) (Q:VK),Inv X pins σ H s->RelV x v->s.heap.IsSliceOf sl vl vu .none->IsPart vl lo->IsPart vu hi->r x lo hi H Q->
  ∃T id,typeLookup (.type T) "__getitem__"=pure (some (.builtin id))/\s.TypeIs v T/\wpAny (model X.prog X.w) X.A (getItem v (.ref sl)) (EP X pins σ Q) X.xe s
noncomputable def Hq (r:V->Option Int->Option Int->Hp->VK->Prop) (te:TE) (tl th:TO):TE:=λσ H Q=>te σ H λx H1=>tl σ H1 λl H2=>th σ H2 λu H3=>r x l u H3 Q
theorem HX (hr:Eb X r) (he:PE X e te) (hl:PO X lo tl) (hu:PO X hi th):PE X (.Subscript e (.Slice lo hi none p2) pos) (Hq r te tl th):=by
 intro pins s σ H Q I h;refine Subscript_ (bS (he pins s σ H _ I h) λv s1 ⟨x,H1,I1,r1,q1⟩=>?_);refine wpAny_Slice (bS (hl pins s1 σ H1 _ I1 q1) λvl s2 ⟨l,H2,I2,pl,q2⟩=>bS (hu pins s2 σ H2 _ I2 q2) λvu s3 ⟨u,H3,I3,pu,q3⟩=>?_);rw[evalPart_none];refine wpAny_pure ?_;have I4:Inv X pins σ H3 {s3 with heap:=s3.heap.push {cls:=.type "slice",data:=.fields #[vl,vu,.none]}}:=I3.kept (t':=s3.toks) λb ob q=>get?_push_of_some _ q;obtain ⟨T,id,hT,ht,hg⟩:=hr pins {s3 with heap:=s3.heap.push {cls:=.type "slice",data:=.fields #[vl,vu,.none]}} σ H3 x v vl vu l u s3.heap.objs.size Q I4 r1 (Heap.IsSliceOf.new ..) pl pu q3;show wpAny (model X.prog X.w) X.A (subscriptTail e (.Slice lo hi none p2) v (.ref s3.heap.objs.size)) (EP X pins σ Q) X.xe {s3 with heap:=s3.heap.push {cls:=.type "slice",data:=.fields #[vl,vu,.none]}};exact tail_any (ops:=[.ref s3.heap.objs.size,v]) ht hT hg (by with_unfolding_all rfl)
noncomputable def uD (xs:List V) (lo hi:Option Int):List V:=(xs.drop (HT.dA xs.length 0 lo)).take (HT.dA xs.length xs.length hi - HT.dA xs.length 0 lo)
theorem mG (xs:List V) (lo hi:Option Int):(uD xs lo hi).length<=xs.length:=by
 unfold uD;rw[length_take,length_drop];lia
noncomputable def Aa (K:Fg):V->Option Int->Option Int->Hp->VK->Prop:=λx lo hi H Q=>∃a xs,x=.ref a/\cC K H a xs/\
 ¬(HT.dA xs.length 0 lo=0/\HT.dA xs.length xs.length hi=xs.length)/\∀p,H p=none->Q (.ref p) (upd H p (.tup (uD xs lo hi)))
theorem TC:Eb X (Aa X.K):=by
 intro pins s σ H x v vl vu lo hi sl Q I rx hs pl pu h;obtain ⟨a,xs,rfl,hx,hw,q⟩:=h;cases rx;obtain ⟨its,r,ht,hz⟩:=I.tuple hx;have hlen:its.toArray.size=xs.length:=by rw[size_toArray];exact r.length.symm
 refine ⟨"tuple",_,PyProof.Rows.slot_tuple_getitem.lookup,ht.typeIs,?_⟩;refine HT.kR ht hs pl pu (by rw[hlen];exact hw) ?_ (by rw[hlen];exact hz);rw[hlen];refine ⟨.ref s.heap.objs.size,_,I.laid (t':=s.toks) (o:=.tup (uD xs lo hi)) (λb ob q=>get?_push_of_some _ q) (Nat.le_refl _) ?_,rfl,q _ (I.hok.fresh (Nat.le_refl _))⟩;exact ⟨Nat.le_trans (mG xs lo hi) hz,_,(r.drop (HT.dA xs.length 0 lo)).take (HT.dA xs.length xs.length hi - HT.dA xs.length 0 lo),IsTup.new _ _⟩
noncomputable def RH (K:Fg):R2:=λx y H Q=>∃a b xs ys,x=.ref a/\y=.ref b/\cC K H a xs/\cC K H b ys/\xs≠[]/\xs.length+ys.length<=sizeLine/\
 (ys=[]->Q (.ref a) H)/\(ys≠[]->∀p,H p=none->Q (.ref p) (upd H p (.tup (xs++ys))))
theorem Vals.nil_iff (r:Vals xs us):us=[]↔xs=[]:=by
 cases r with
 |nil=>simp
 |cons _ _=>simp
theorem NZ:fP X (binaryOp .Add) (RH X.K):=by
 intro pins s σ H x y v u Q I rx ry h;obtain ⟨a,b,xs,ys,rfl,rfl,ha,hb,hx,hz,q1,q2⟩:=h;cases rx;cases ry;obtain ⟨its,r1,p1,_⟩:=I.tuple ha;obtain ⟨its2,r2,p2,_⟩:=I.tuple hb;refine HT.QD p1 p2 (λz=>hx (r1.nil_iff.mp z)) (λz=>⟨.ref a,H,I,rfl,q1 (r2.nil_iff.mp z)⟩) (λz=>?_) (by rw[<-r1.length,<-r2.length];exact hz);refine ⟨.ref s.heap.objs.size,_,I.laid (t':=s.toks) (o:=.tup (xs++ys)) (λb ob q=>get?_push_of_some _ q) (Nat.le_refl _) ?_,rfl,q2 (λw=>z (r2.nil_iff.mpr w)) _ (I.hok.fresh (Nat.le_refl _))⟩;exact ⟨by rw[length_append];exact hz,_,r1.append r2,IsTup.new _ _⟩
end
noncomputable def OT (n:Nat) (i:Int):Option Nat:=if 0<=i then (if i<n then some i.toNat else none) else if -(n:Int)<=i then some (i+n).toNat else none
noncomputable def pQ {α:Type} (xs:List α) (i:Int):Option α:=(OT xs.length i).bind λj=>xs[j]?
theorem BN (h:OT n i=some j):seqIndex? i n=some j/\j<n/\-(n:Int)<=i/\i<n:=by
 unfold OT at h;by_cases h0:0<=i
 ·rw[if_pos h0] at h;by_cases h1:i<n
  ·rw[if_pos h1] at h;have e:i.toNat=j:=Option.some.inj h;exact ⟨by rw[seqIndex_of h0 h1,e],by lia,by lia,h1⟩
  ·rw[if_neg h1] at h;cases h
 ·rw[if_neg h0] at h;by_cases h1:-(n:Int)<=i
  ·rw[if_pos h1] at h;have e:(i+n).toNat=j:=Option.some.inj h;exact ⟨by rw[seqIndex_neg (by lia) h1,e],by lia,h1,by lia⟩
  ·rw[if_neg h1] at h;cases h
theorem uO {α:Type} {xs:List α} {i:Int} {v:α} (h:pQ xs i=some v):∃j,seqIndex? i xs.length=some j/\xs[j]?=some v/\j<xs.length/\-(xs.length:Int)<=i/\i<xs.length:=by
 unfold pQ at h;cases e:OT xs.length i with
 |none=>rw[e] at h;cases h
 |some j=>
  rw[e] at h;obtain ⟨h1,h2,h3,h4⟩:=BN e;exact ⟨j,h1,h,h2,h3,h4⟩
theorem cF {α:Type} {xs:List α} {j:Nat} {v:α} (h:xs[j]?=some v):pQ xs (j:Int)=some v:=by
 have hj:j<xs.length:=(List.getElem?_eq_some_iff.mp h).1;have e:OT xs.length (j:Int)=some j:=by
  unfold OT;rw[if_pos (by lia),if_pos (by lia)];simp
 unfold pQ;rw[e];exact h
theorem LX (xs:List α) (v:α):pQ (xs++[v]) (-1)=some v:=by
 have hl:(xs++[v]).length=xs.length+1:=by simp
 have e:OT (xs++[v]).length (-1)=some xs.length:=by
  unfold OT;rw[hl,if_neg (by decide),if_pos (by lia)]
  congr 1
  lia
 unfold pQ;rw[e];show (xs++[v])[xs.length]?=some v;simp
noncomputable def CM (b:Expr):Prop:=∀o i,subscripted b false o i=operate [o,i] (getItem o i)
noncomputable def YS (X:Cx) (r:R2):Prop:=
 ∀(value slice:Expr) (pins:List (Addr × Obj)) (s:Shared) (σ:St) (H:Hp) (x y:V) (v u:Value) (Q:VK),Inv X pins σ H s->RelV x v->RelV y u->r x y H Q->
  subscripted slice false v u=operate [v,u] (getItem v u)->wpAny (model X.prog X.w) X.A (subscriptTail value slice v u) (EP X pins σ Q) X.xe s
noncomputable def YD (X:Cx) (id:String) (r:V->List V->Hp->VK->Prop):Prop:=
 ∀(pins:List (Addr × Obj)) (s:Shared) (σ:St) (H:Hp) (x:V) (xs:List V) (v:Value) (us:List Value) (Q:VK),Inv X pins σ H s->RelV x v->Vals xs us->r x xs H Q->
  wpAny (model X.prog X.w) X.A (call (.builtin id) (v::us)) (EP X pins σ Q) X.xe s
section
variable {X:Cx} {a b:Expr} {ta tb:TE} {pos:Pos}
theorem Ar (hr:YS X r) (ha:PE X a ta) (hb:PE X b tb) (hs:CM b):PE X (.Subscript a b pos) (SW r ta tb):=by
 intro pins s σ H Q I h;exact Subscript_ (XR ha hb I h λv u s2 x y H2 I2 rx ry q=>hr a b pins s2 σ H2 x y v u Q I2 rx ry q (hs _ _))
noncomputable def Ag (K:Fg):R2:=λx y H Q=>∃p xs i v,x=.ref p/\y=.int i/\aR K H p xs/\pQ xs i=some v/\Q v H
noncomputable def Af (K:Fg):R2:=λx y H Q=>∃p xs i v,x=.ref p/\y=.int i/\cC K H p xs/\pQ xs i=some v/\Q v H
noncomputable def Fs:R2:=λx y H Q=>∃z i c,x=.str z/\y=.int i/\z.length<=sizeLine/\pQ z.cps.toList i=some c/\Q (.str ⟨#[c]⟩) H
theorem OR:YS X (Ag X.K):=by
 intro value slice pins s σ H x y v u Q I rx ry h hs;obtain ⟨p,xs,i,z,rfl,rfl,hq,he,q⟩:=h;cases rx;obtain ⟨t,rfl⟩:=ry;obtain ⟨its,r,pl,hz⟩:=I.list hq;obtain ⟨j,h1,h2,h3,h4,h5⟩:=uO he;obtain ⟨w,ew,rw'⟩:=r.get h2;have hl:=r.length;have hn:=lN;have fin:EP X pins σ Q w s:=⟨z,H,I,rw',q⟩;by_cases h0:0<=i
 ·have hj:i.toNat=j:=by
   rw[seqIndex_of h0 h5] at h1;exact Option.some.inj h1
  exact item_listR pl.isList h0 (by lia) (by rw[hj];simpa using ew) fin hs
 ·have hj:(i+(its.toArray.size:Int)).toNat=j:=by
   rw[seqIndex_neg (by lia) h4] at h1;rw[size_toArray,<-hl];exact Option.some.inj h1
  exact subscriptTail_builtinR (x:=w) pl.isList.typeIs slot_list_getitem.lookup
   (wpAny_getItem_list_neg (Q:=λr s'=>r=w/\EP X pins σ Q r s') pl.isList (by lia) (by rw[size_toArray]<;>lia) (by lia) (by rw[hj];simpa using ew) ⟨rfl,fin⟩) hs
theorem VU:YS X (Af X.K):=by
 intro value slice pins s σ H x y v u Q I rx ry h hs;obtain ⟨p,xs,i,z,rfl,rfl,hq,he,q⟩:=h;cases rx;obtain ⟨t,rfl⟩:=ry;obtain ⟨its,r,pl,hz⟩:=I.tuple hq;obtain ⟨j,h1,h2,h3,h4,h5⟩:=uO he;obtain ⟨w,ew,rw'⟩:=r.get h2;have hl:=r.length;have hn:=lN;have fin:EP X pins σ Q w s:=⟨z,H,I,rw',q⟩;exact subscriptTail_builtinR (x:=w) pl.typeIs slot_tuple_getitem.lookup
  (getItem_tuple (j:=j) (Q:=λr s'=>r=w/\EP X pins σ Q r s') pl (by lia) (by lia) (by rw[size_toArray,<-hl];exact h1) (by simpa using ew) ⟨rfl,fin⟩) hs
theorem VW:YS X Fs:=by
 intro value slice pins s σ H x y v u Q I rx ry h hs;obtain ⟨z,i,c,rfl,rfl,hz,he,q⟩:=h;obtain ⟨t,rfl⟩:=rx;obtain ⟨t',rfl⟩:=ry;obtain ⟨j,h1,h2,h3,h4,h5⟩:=uO he;have hl:z.cps.toList.length=z.length:=by simp [Str.length]
 rw[hl] at h1 h4 h5;have hn:=lN;exact tail_any (typeIs_str s z t) slot_str_getitem.lookup (getItem_str (c:=c) (by
  have e1:decide (i< -(2 ^ 63:Int))=false:=decide_eq_false (by lia)
  have e2:decide (i>=2 ^ 63)=false:=decide_eq_false (by lia)
  rw[e1,e2,Bool.or_false]) (by rw[h1];simpa using h2) ⟨.str ⟨#[c]⟩,H,I.tok _,⟨_,rfl⟩,q⟩) hs
theorem zQ (its:List Value) (n j:Nat) (u:Value):Obj.mapSeq (·.setIfInBounds j u) {cls:=.type "list",data:=.seq its.toArray n}={cls:=.type "list",data:=.seq (its.set j u).toArray n}:=by
 simp [Obj.mapSeq]
theorem Inv.lst {pins:List (Addr × Obj)} {σ:St} {H:Hp} {s:Shared} {p:Addr} {xs:List V} (I:Inv X pins σ H s) (h:H p=some (.lst xs)):
  ∃(its:List Value) (n:Nat),Vals xs its/\s.heap.get? p=some {cls:=.type "list",data:=.seq its.toArray n}/\xs.length<=sizeLine:=by
 obtain ⟨z,its,n,r,e⟩:=I.hok p _ h;exact ⟨its,n,r,e,z⟩
theorem Inv.lstUpd {pins:List (Addr × Obj)} {σ:St} {H:Hp} {s:Shared} {p:Addr} {xs ys:List V} {its its':List Value} {n n':Nat} {f:Obj->Obj} (I:Inv X pins σ H s) (h:H p=some (.lst xs))
  (ho:s.heap.get? p=some {cls:=.type "list",data:=.seq its.toArray n}) (hf:f {cls:=.type "list",data:=.seq its.toArray n}={cls:=.type "list",data:=.seq its'.toArray n'}) (r:Vals ys its') (hz:ys.length<=sizeLine) (t:Nat):
  Inv X pins σ (upd H p (.lst ys)) {s with heap:=s.heap.update p f,toks:=t}:=by
 have e:(s.heap.update p f).get? p=some {cls:=.type "list",data:=.seq its'.toArray n'}:=by
  rw[get?_update_self f ho (by rw[hf]<;>rfl),hf]
 refine I.write (x:=p) (e:=p) (by rw[h];trivial) (.inl rfl) (λb u hb q=>(get?_update_other _ _ (Ne.symm hb)).trans q) ⟨_,e⟩ ?_;exact ⟨hz,its',n',r,e⟩
noncomputable def RE:V->V->V->Hp->(Hp->Prop)->Prop:=λo i v H Q=>∃p xs k j,o=.ref p/\i=.int k/\H p=some (.lst xs)/\OT xs.length k=some j/\Q (upd H p (.lst (xs.set j v)))
theorem set_list:YA X RE:=by
 intro pins s σ H o i v ov iv u Q I ro ri rv h;obtain ⟨p,xs,k,j,rfl,rfl,hp,hj,q⟩:=h;cases ro;obtain ⟨t,rfl⟩:=ri;obtain ⟨its,n,r,ho,hz⟩:=I.lst hp;obtain ⟨h1,h2,h3,h4⟩:=BN hj;have hl:=r.length;have hn:=lN;have I':Inv X pins σ (upd H p (.lst (xs.set j v))) {s with heap:=s.heap.update p (Obj.mapSeq (·.setIfInBounds j u))}:=
  I.lstUpd hp ho (zQ its n j u) (r.set rv j) (by rw[List.length_set];exact hz) s.toks
 by_cases h0:0<=k
 ·have hk:k.toNat=j:=by
   rw[seqIndex_of h0 h4] at h1;exact Option.some.inj h1
  exact PySem.W.ki_setAt ho h0 (by lia) (by rw[size_toArray,<-hl];exact h4) (by rw[hk];exact ⟨_,I',q⟩)
 ·have hk:(k+(its.toArray.size:Int)).toNat=j:=by
   rw[seqIndex_neg (by lia) h3] at h1;rw[size_toArray,<-hl];exact Option.some.inj h1
  exact PySem.W.ki_setBack ho (by lia) (by rw[size_toArray,<-hl];exact h3) (by lia) (by rw[hk];exact ⟨_,I',q⟩)
theorem sY (lo hi:Option Int) (n:Nat):(sliceBounds lo hi none n).1=((HT.dA n 0 lo:Nat):Int)/\(sliceBounds lo hi none n).2.1=((HT.dA n n hi:Nat):Int)/\(sliceBounds lo hi none n).2.2=1:=by
 refine ⟨?_,?_,rfl⟩
 ·cases lo with
  |none=>simp [sliceBounds,HT.dA]
  |some i=>
   simp only [sliceBounds,HT.dA,Option.getD_none,show (1:Int)>0 by decide,if_true];by_cases h:i<0
   ·simp only [h,if_true]<;>lia
   ·simp only [h,if_false]<;>lia
 ·cases hi with
  |none=>simp [sliceBounds,HT.dA]
  |some i=>
   simp only [sliceBounds,HT.dA,Option.getD_none,show (1:Int)>0 by decide,if_true];by_cases h:i<0
   ·simp only [h,if_true]<;>lia
   ·simp only [h,if_false]<;>lia
theorem qD (its:List Value) (lo hi:Option Int):slicePick its.toArray lo hi none=((its.drop (HT.dA its.length 0 lo)).take (HT.dA its.length its.length hi - HT.dA its.length 0 lo)).toArray:=by
 obtain ⟨h1,h2,h3⟩:=sY lo hi its.toArray.size;unfold slicePick;rw[h1,h2,h3];simp only [sliceRange_one,pick_run,size_toArray]<;>rfl
noncomputable def Ab (K:Fg):V->Option Int->Option Int->Hp->VK->Prop:=λx lo hi H Q=>∃a xs,x=.ref a/\aR K H a xs/\∀p,H p=none->Q (.ref p) (upd H p (.lst (uD xs lo hi)))
theorem MX:Eb X (Ab X.K):=by
 intro pins s σ H x v vl vu lo hi sl Q I rx hs pl pu h;obtain ⟨a,xs,rfl,hx,q⟩:=h;cases rx;obtain ⟨its,r,ht,hz⟩:=I.list hx;have hlen:=r.length;refine ⟨"list",_,slot_list_getitem.lookup,ht.isList.typeIs,?_⟩;refine wpAny_getItem_list_slice ht.isList hs pl pu .none (by simp) ?_ (by rw[size_toArray]<;>lia);rw[qD,<-hlen];refine ⟨.ref s.heap.objs.size,_,I.laid (t':=s.toks) (o:=.lst (uD xs lo hi)) (λb ob q=>get?_push_of_some _ q) (Nat.le_refl _) ?_,rfl,q _ (I.hok.fresh (Nat.le_refl _))⟩;exact ⟨Nat.le_trans (mG xs lo hi) hz,_,0,(r.drop (HT.dA xs.length 0 lo)).take (HT.dA xs.length xs.length hi - HT.dA xs.length 0 lo),get?_push_size _ rfl⟩
noncomputable def mF:V->Bool
 | .non=>true
 | .bl _=>true
 | .int _=>true
 | .str _=>true
 |_=>false
noncomputable def RW:V->V->Bool
 | .non,.non=>true
 | .bl a,.bl b=>a==b
 | .bl a,.int b=>(if a then 1 else 0)==b
 | .int a,.bl b=>a==(if b then 1 else 0)
 | .int a,.int b=>a==b
 | .str a,.str b=>a==b
 |_,_=>false
theorem XE (ry:RelV y u) (rx:RelV x v) (fy:mF y=true) (fx:mF x=true):SeqAt.EqAt A s u v (RW y x):=by
 cases y with
 |non=>
  cases ry;cases x with
  |non=>cases rx;exact SeqAt.EqAt.same _
  |bl b=>cases rx;exact SeqAt.EqAt.none_bool b
  |int b=>obtain ⟨t,rfl⟩:=rx;exact SeqAt.EqAt.none_int b t
  |str b=>obtain ⟨t,rfl⟩:=rx;exact SeqAt.EqAt.none_str b t
  |_=>exact absurd (show false=true from fx) Bool.false_ne_true
 |bl a=>
  cases ry;cases x with
  |non=>cases rx;exact SeqAt.EqAt.bool_none a
  |bl b=>cases rx;exact SeqAt.EqAt.bool_bool a b
  |int b=>obtain ⟨t,rfl⟩:=rx;exact SeqAt.EqAt.bool_int a b t
  |str b=>obtain ⟨t,rfl⟩:=rx;exact SeqAt.EqAt.bool_str a b t
  |_=>exact absurd (show false=true from fx) Bool.false_ne_true
 |int a=>
  obtain ⟨t',rfl⟩:=ry;cases x with
  |non=>cases rx;exact SeqAt.EqAt.int_none a t'
  |bl b=>cases rx;exact SeqAt.EqAt.int_bool a t' b
  |int b=>obtain ⟨t,rfl⟩:=rx;exact SeqAt.EqAt.int_int a t' b t
  |str b=>obtain ⟨t,rfl⟩:=rx;exact SeqAt.EqAt.int_str a t' b t
  |_=>exact absurd (show false=true from fx) Bool.false_ne_true
 |str a=>
  obtain ⟨t',rfl⟩:=ry;cases x with
  |non=>cases rx;exact SeqAt.EqAt.str_none a t'
  |bl b=>cases rx;exact SeqAt.EqAt.str_bool a t' b
  |int b=>obtain ⟨t,rfl⟩:=rx;exact SeqAt.EqAt.str_int a t' b t
  |str b=>obtain ⟨t,rfl⟩:=rx;exact SeqAt.EqAt.str_str a t' b t
  |_=>exact absurd (show false=true from fx) Bool.false_ne_true
 |_=>exact absurd (show false=true from fy) Bool.false_ne_true
noncomputable def AE (x:V) (u:Value):Bool:=match u with
 | .none=>RW .non x
 | .bool b=>RW (.bl b) x
 | .int i _=>RW (.int i) x
 | .str z _=>RW (.str z) x
 |_=>false
theorem KP (r:RelV y u) (f:mF y=true):AE x u=RW y x:=by
 cases y with
 |non=>cases r;rfl
 |bl b=>cases r;rfl
 |int i=>obtain ⟨t,rfl⟩:=r;rfl
 |str z=>obtain ⟨t,rfl⟩:=r;rfl
 |_=>exact absurd (show false=true from f) Bool.false_ne_true
theorem kY:∀{xs:List V} {us:List Value},Vals xs us->xs.all mF=true->us.any (AE x)=xs.any λy=>RW y x
 |_,_,.nil,_=>rfl
 |y::xs,u::us,.cons r t,f=>by
  rw[List.all_cons,and_eq_true] at f;rw[any_cons,any_cons,KP r f.1,kY t f.2]
theorem gX (rx:RelV x v) (fx:mF x=true):∀{xs:List V} {us:List Value},Vals xs us->xs.all mF=true->∀u∈us,SeqAt.EqAt A s u v (AE x u)
 |_,_,.nil,_=>λu hu=>by cases hu
 |y::xs,u::us,.cons r t,f=>λu' hu=>by
  rw[List.all_cons,and_eq_true] at f;rcases mem_cons.mp hu with rfl|hu
  ·rw[KP r f.1];exact XE r rx f.1 fx
  ·exact gX rx fx t f.2 u' hu
noncomputable def Hv (x:V) (xs:List V):Bool:=xs.any λy=>RW y x
noncomputable def Fu (K:Fg) (neg:Bool):R2:=λx y H Q=>∃p xs,y=.ref p/\(aR K H p xs\/cC K H p xs)/\mF x=true/\xs.all mF=true/\Q (.bl (if neg then !Hv x xs else Hv x xs)) H
theorem DP:fP X (compareOp .In) (Fu X.K false):=by
 intro pins s σ H x y v u Q I rx ry h;obtain ⟨p,xs,rfl,hq,fx,fs,q⟩:=h;cases ry;rcases hq with hq|hq
 ·obtain ⟨its,r,pl,hz⟩:=I.list hq;refine SeqAt.in_listAt (AE x) pl.isList (λw hw=>gX rx fx r fs w (by simpa using hw)) ⟨.bl _,H,I,rfl,?_⟩;rw[show its.toArray.any (AE x)=its.any (AE x) by simp,kY r fs];exact q
 ·obtain ⟨its,r,pl,hz⟩:=I.tuple hq;refine SeqAt.in_tupleAt (AE x) pl (λw hw=>gX rx fx r fs w (by simpa using hw)) ⟨.bl _,H,I,rfl,?_⟩;rw[show its.toArray.any (AE x)=its.any (AE x) by simp,kY r fs];exact q
theorem tQ:fP X (compareOp .NotIn) (Fu X.K true):=by
 intro pins s σ H x y v u Q I rx ry h;obtain ⟨p,xs,rfl,hq,fx,fs,q⟩:=h;cases ry;rcases hq with hq|hq
 ·obtain ⟨its,r,pl,hz⟩:=I.list hq;refine SeqAt.notIn_listAt (AE x) pl.isList (λw hw=>gX rx fx r fs w (by simpa using hw)) ⟨.bl _,H,I,rfl,?_⟩;rw[show its.toArray.any (AE x)=its.any (AE x) by simp,kY r fs];exact q
 ·obtain ⟨its,r,pl,hz⟩:=I.tuple hq;refine SeqAt.notIn_tupleAt (AE x) pl (λw hw=>gX rx fx r fs w (by simpa using hw)) ⟨.bl _,H,I,rfl,?_⟩;rw[show its.toArray.any (AE x)=its.any (AE x) by simp,kY r fs];exact q
theorem tP:fP X (compareOp .NotIn) (λx y H Q=>∃i j,x=.str i/\y=.str j/\Q (.bl (!(!(Builtin.Str.occurrences j i 0 j.length 1).isEmpty))) H):=by
 intro pins s σ H x y v u Q I rx ry h;obtain ⟨i,j,rfl,rfl,q⟩:=h;obtain ⟨t,rfl⟩:=rx;obtain ⟨t',rfl⟩:=ry;exact notIn_str ⟨.bl _,H,I,rfl,q⟩
theorem uH:cD X (.type "list") (λxs H Q=>∃p ys,xs=[.ref p]/\(aR X.K H p ys\/cC X.K H p ys)/\∀l,H l=none->Q (.ref l) (upd H l (.lst ys))):=by
 intro pins s σ H xs us Q I r h;obtain ⟨p,ys,rfl,hq,q⟩:=h;obtain ⟨u,rfl,rx⟩:=vals1 r;cases rx;have fin:∀(its:List Value),Vals ys its->ys.length<=sizeLine->∀(h':Heap) (c':Nat),(∀b o',s.heap.get? b=some o'->h'.get? b=some o')->
   h'.get? s.heap.objs.size=some {cls:=.type "list",dict:=none,data:=.seq its.toArray c',slots:=#[]}->EP X pins σ Q (.ref s.heap.objs.size) {s with heap:=h'}:=λits r' hz h' c' kp e=>
  ⟨.ref s.heap.objs.size,_,I.laid (t':=s.toks) kp (Nat.le_refl _) (show aZ X.prog X.w _ h' _ (.lst ys) from ⟨hz,its,c',r',e⟩),rfl,q _ (I.hok.fresh (Nat.le_refl _))⟩
 rcases hq with hq|hq
 ·obtain ⟨its,r',pl,hz⟩:=I.list hq;have hlen:=r'.length;obtain ⟨o,ho,hc,n,hd⟩:=pl.isList;exact call_list_seq p (.inl rfl) ho hc hd (λh' c' kp e=>fin its r' hz h' c' kp e) (by simp only [size_toArray]<;>lia)
 ·obtain ⟨its,r',pl,hz⟩:=I.tuple hq;have hlen:=r'.length;obtain ⟨o,ho,hc,n,hd⟩:=pl;exact call_list_seq p (.inr rfl) ho hc hd (λh' c' kp e=>fin its r' hz h' c' kp e) (by simp only [size_toArray]<;>lia)
theorem iX:cD X (.type "tuple") (λxs H Q=>∃p ys,xs=[.ref p]/\((aR X.K H p ys/\∀l,H l=none->Q (.ref l) (upd H l (.tup ys)))\/(cC X.K H p ys/\Q (.ref p) H))):=by
 intro pins s σ H xs us Q I r h;obtain ⟨p,ys,rfl,h⟩:=h;obtain ⟨u,rfl,rx⟩:=vals1 r;cases rx;rcases h with ⟨hq,q⟩|⟨hq,q⟩
 ·obtain ⟨its,r',pl,hz⟩:=I.list hq;have hlen:=r'.length;refine call_tuple_list pl.isList (λh' kp=>?_) (by simp only [size_toArray]<;>lia);have I1:Inv X pins σ H {s with heap:=h'}:=I.kept (t':=s.toks) kp;have I2:Inv X pins σ (upd H h'.objs.size (.tup ys)) {s with heap:=h'.push {cls:=.type "tuple",data:=.seq its.toArray}}:=
   I1.laid (t':=s.toks) (λb o e=>get?_push_of_some _ e) (Nat.le_refl _) (show aZ X.prog X.w _ _ _ (.tup ys) from ⟨hz,its,r',IsTup.new _ _⟩)
  exact ⟨.ref h'.objs.size,_,I2,rfl,q _ (I1.hok.fresh (Nat.le_refl _))⟩
 ·obtain ⟨its,r',pl,hz⟩:=I.tuple hq;exact call_tuple_same pl ⟨.ref p,H,I,rfl,q⟩
noncomputable def Fc (K:Fg) (T:String) (x:V) (H:Hp):Prop:=match x with
 | .str _=>T="str"
 | .int _=>T="int"
 | .ref p=>(T="list"/\∃xs,aR K H p xs)\/(T="tuple"/\∃o,K.lookup p=some o/\o.cls=.type "tuple"/\o.dict=none)\/
   (T="dict"/\((∃kvs,H p=some (.dK kvs))\/∃kvs,H p=some (.dT kvs)))\/(T="set"/\∃S n,H p=some (.set S n))
 |_=>False
theorem GF (I:Inv X pins σ H s) (r:RelV x v) (ty:Fc X.K T x H):
  s.TypeIs v T/\∀a,v=.ref a->∃ob,s.heap.get? a=some ob/\ob.dict=none:=by
 cases x with
 |str z=>
  obtain ⟨t,rfl⟩:=r;cases (show T="str" from ty);exact ⟨typeIs_str s z t,λ_ e=>nomatch e⟩
 |int i=>
  obtain ⟨t,rfl⟩:=r;cases (show T="int" from ty);exact ⟨typeIs_int s i t,λ_ e=>nomatch e⟩
 |ref p=>
  cases r;rcases ty with ⟨rfl,xs,hq⟩|⟨rfl,o,hk,hc,hd⟩|⟨rfl,hk⟩|⟨rfl,S,n,hk⟩
  ·obtain ⟨its,_,pl,_⟩:=I.list hq;refine ⟨pl.isList.typeIs,λa e=>?_⟩;cases e;obtain ⟨o,n,e,c,hd,_⟩:=pl;exact ⟨o,e,hd⟩
  ·refine ⟨⟨o,I.kIn p o hk,hc⟩,λa e=>?_⟩;cases e;exact ⟨o,I.kIn _ o hk,hd⟩
  ·have z:∃o,s.heap.get? p=some o/\o.ExactDict:=by
    rcases hk with ⟨kvs,hk⟩|⟨kvs,hk⟩
    ·obtain ⟨_,_,_,_,o,_,_,e,ex,_⟩:=I.hok p _ hk;exact ⟨o,e,ex⟩
    ·obtain ⟨_,_,_,_,o,_,_,e,ex,_⟩:=I.hok p _ hk;exact ⟨o,e,ex⟩
   obtain ⟨o,e,ex⟩:=z;refine ⟨⟨o,e,ex.1⟩,λa e2=>?_⟩;cases e2;exact ⟨o,e,ex.2.1⟩
  ·obtain ⟨o,_,_,_,e,ex,_⟩:=I.hok p _ hk;refine ⟨⟨o,e,ex.1⟩,λa e2=>?_⟩;cases e2;exact ⟨o,e,ex.2.1⟩
 |_=>exact False.elim ty
variable {o e:Expr} {es:List Expr} {to:TE} {t:TA} {name:Str} {apos cpos:Pos} {T id:String} {r:V->List V->Hp->VK->Prop}
end
noncomputable def SE (X:Cx) (id:String) (r:V->List V->Hp->VK->Prop):Prop:=
 ∀(pins:List (Addr × Obj)) (s:Shared) (σ:St) (H:Hp) (x:V) (xs:List V) (v:Value) (us:List Value) (Q:VK),Inv X pins σ H s->RelV x v->Vals xs us->r x xs H Q->
  wpAny (model X.prog X.w) X.A (call (.builtin id) (v::us)) (EP X pins σ Q) X.xe s
theorem Vals.one:∀{x:V} {us:List Value},Vals [x] us->∃u,us=[u]/\RelV x u
 |_,_,.cons r .nil=>⟨_,rfl,r⟩
theorem Vals.two:∀{x y:V} {us:List Value},Vals [x,y] us->∃u v,us=[u,v]/\RelV x u/\RelV y v
 |_,_,_,.cons r (.cons q .nil)=>⟨_,_,rfl,r,q⟩
theorem Vals.rep (h:Vals xs us):∀k:Nat,Vals (replicate k xs).flatten (replicate k us).flatten
 |0=>.nil
 |k+1=>by
  rw[replicate_succ,replicate_succ,flatten_cons,flatten_cons];exact Vals.append h (Vals.rep h k)
theorem foldl_rep (its:List Value):∀(k:Nat) (acc:List Value),
  foldl (λx1 x2=>x1++x2) acc.toArray (replicate k its.toArray)=(acc++(replicate k its).flatten).toArray
 |0,acc=>by simp
 |k+1,acc=>by
  have e:acc.toArray++its.toArray=(acc++its).toArray:=by simp
  have e2:(acc++its)++(replicate k its).flatten=acc++(replicate (k+1) its).flatten:=by
   rw[replicate_succ,flatten_cons,List.append_assoc]
  rw[<-e2,<-foldl_rep its k (acc++its),<-e,replicate_succ,foldl_cons]
section
variable {X:Cx} {pins:List (Addr × Obj)} {σ:St} {H:Hp} {s:Shared} {l b:Addr} {xs ys zs:List V}
theorem Inv.lset {its its':List Value} {n:Nat} {f:Array Value->Array Value} {t':Nat} (I:Inv X pins σ H s) (hH:H l=some (.lst xs))
  (e:s.heap.get? l=some {cls:=.type "list",data:=.seq its.toArray n}) (hf:f its.toArray=its'.toArray) (hv:Vals ys its') (hz:ys.length<=sizeLine):
  Inv X pins σ (upd H l (.lst ys)) {s with heap:=s.heap.update l (Obj.mapSeq f),toks:=t'}:=by
 have q:=PySem.IsL.update e f;rw[hf] at q;refine I.write (x:=l) (e:=l) (by rw[hH];exact trivial) (.inl rfl) (λb' u hb hu=>(get?_update_other s.heap (Obj.mapSeq f) (Ne.symm hb)).trans hu) ⟨_,q⟩ ?_;exact ⟨hz,its',_,hv,q⟩
theorem Inv.lnew (I:Inv X pins σ H s) (hv:Vals ys its) (hz:ys.length<=sizeLine):
  Inv X pins σ (upd H s.heap.objs.size (.lst ys)) {s with heap:=s.heap.push {cls:=.type "list",data:=.seq its.toArray},toks:=t'}:=
 I.laid (λ_ _ q=>get?_push_of_some _ q) (Nat.le_refl _) ⟨hz,its,0,hv,get?_push_size _ rfl⟩
theorem Inv.fresh (I:Inv X pins σ H s):H s.heap.objs.size=none:=I.hok.fresh (Nat.le_refl _)
theorem Inv.lstM (I:Inv X pins σ H s) (hH:H l=some (.lst xs)):xs.length<=sizeLine/\∃(its:List Value) (n:Nat),Vals xs its/\xs.length=its.length/\s.heap.get? l=some {cls:=.type "list",data:=.seq its.toArray n}:=by
 obtain ⟨z,its,n,r,e⟩:=I.hok l _ hH;exact ⟨z,its,n,r,r.length,e⟩
theorem IL (h:n<=sizeLine):Builtin.List.listTooLong n=false:=by
 unfold Builtin.List.listTooLong;exact decide_eq_false (by lia)
end
section
variable {X:Cx}
noncomputable def mW:V->List V->Hp->VK->Prop:=λx vs H Q=>∃l xs y,x=.ref l/\vs=[y]/\H l=some (.lst xs)/\xs.length<sizeLine/\Q .non (upd H l (.lst (xs++[y])))
theorem rF:SE X "list.append" mW:=by
 intro pins s σ H x vs v us Q I rx rv h;obtain ⟨l,xs,y,rfl,rfl,hH,hz,q⟩:=h;cases rx;obtain ⟨u,rfl,ru⟩:=rv.one;obtain ⟨z,its,n,r,hl,e⟩:=I.lstM hH;refine call_meets F.slot_list_append ⟨_,e,rfl⟩ F.entry_list_append (F.args_list_append_2 _ _) (PySem.list_append l its.toArray n u (by rw[size_toArray];lia)) ⟨e,?_⟩;refine ⟨.non,_,I.lset (its':=its++[u]) hH e (by simp) (r.append (.cons ru .nil)) ?_,rfl,q⟩;rw[length_append,List.length_singleton];lia
noncomputable def Al:R2:=λx y H Q=>∃l b xs zs,x=.ref l/\y=.ref b/\H l=some (.lst xs)/\H b=some (.lst zs)/\xs.length+zs.length<=sizeLine/\∀p,H p=none->Q (.ref p) (upd H p (.lst (xs++zs)))
theorem VE:fP X (binaryOp .Add) Al:=by
 intro pins s σ H x y v u Q I rx ry h;obtain ⟨l,b,xs,zs,rfl,rfl,hH,hB,hz,q⟩:=h;cases rx;cases ry;obtain ⟨z,its,n,r,hl,e⟩:=I.lstM hH;obtain ⟨z2,its2,n2,r2,hl2,e2⟩:=I.lstM hB;refine PySem.P.add_list e e2 ?_ (by rw[size_toArray,size_toArray];lia);have ea:its.toArray++its2.toArray=(its++its2).toArray:=by simp
 rw[ea];exact ⟨.ref _,_,I.lnew (t':=s.toks) (r.append r2) (by rw[length_append];lia),rfl,q _ I.fresh⟩
noncomputable def Ac:R2:=λx y H Q=>∃l k xs,x=.ref l/\y=.int k/\H l=some (.lst xs)/\-(2 ^ 63)<=k/\k<2 ^ 63/\xs.length * k.toNat<=sizeLine/\
 ∀p,H p=none->Q (.ref p) (upd H p (.lst (replicate k.toNat xs).flatten))
theorem len_rep (xs:List α) (k:Nat):(replicate k xs).flatten.length=k * xs.length:=by
 induction k with
 |zero=>simp
 |succ k ih=>rw[replicate_succ,flatten_cons,length_append,ih,Nat.succ_mul,Nat.add_comm]
theorem UU:fP X (binaryOp .Mult) Ac:=by
 intro pins s σ H x y v u Q I rx ry h;obtain ⟨l,k,xs,rfl,rfl,hH,h1,h2,hz,q⟩:=h;cases rx;obtain ⟨t,rfl⟩:=ry;obtain ⟨z,its,n,r,hl,e⟩:=I.lstM hH;have hlen:its.toArray.size * k.toNat<=sizeLine:=by rw[size_toArray,<-hl];exact hz
 have hcap:¬its.toArray.size * k.toNat>(2 ^ 63 - 1) / 8:=by
  have:(sizeLine:Nat)<=(2 ^ 63 - 1) / 8:=by decide
  lia
 have hfit:¬(!Builtin.List.listFitsIndex k)=true:=by
  rw[fitsIndex_both h1 h2];exact Bool.false_ne_true
 have hlong:¬Builtin.List.listTooLong (its.toArray.size * k.toNat)=true:=by
  rw[IL hlen];exact Bool.false_ne_true
 have hnew:foldl (λx1 x2=>x1++x2) #[] (replicate (if its.toArray.isEmpty=true then 0 else k.toNat) its.toArray)=(replicate k.toNat its).flatten.toArray:=by
  have f0:∀m:Nat,foldl (λx1 x2=>x1++x2) #[] (replicate m its.toArray)=(replicate m its).flatten.toArray:=λm=>by
   have:=foldl_rep its m [];rw[nil_append] at this;exact this
  rw[f0];cases its with
  |nil=>simp
  |cons a r'=>rw[if_neg (by simp)]
 refine wpAny_binaryOp_repeat_ref (T:="list") (U:="int") (by decide) ⟨_,e,rfl⟩ (λs'=>typeIs_int s' k t) noFill_list_mul F.fills_int_mul F.slot_int_rmul repeat_list F.slot_int_index.lookup
  (call_meets F.slot_int_rmul (typeIs_int s k t) F.entry_int_rmul (F.args_int_rmul_2 _ _) (int___rmul___int_list k t l its.toArray n)
   ⟨e,rfl,⟨_,e,rfl⟩,call_meets F.slot_list_mul ⟨_,e,rfl⟩ F.entry_list_mul (F.args_list_mul_2 _ _) (AutoListH.list___mul___list_int_3 l its.toArray n k t hfit hcap hlong) ⟨e,?_⟩⟩)
 rw[hnew];exact ⟨.ref _,_,I.lnew (t':=s.toks) (r.rep k.toNat) (by rw[len_rep,Nat.mul_comm];exact hz),rfl,q _ I.fresh⟩
end
section
variable {prog:Program} {w:World} {A:Around} {E:Value->Shared->Prop} {s:Shared}
end
section
variable {X:Cx}
end
end L2
namespace Att
open PySem PySem.W PySem.Calls PyProof.Rows
theorem mP:∀(ns:List Int) (vs:List Value),WellAll P h vs (ns.map WData.int)->IntsAre vs ns:=by
 intro ns;induction ns with
 |nil=>
  intro vs w;rw[map_nil] at w;cases w;exact .nil
 |cons n ns ih=>
  intro vs w;rw[map_cons] at w;cases w with
  |cons a b=>
   cases a;exact .cons _ _ (ih _ b)
theorem DG {l:OpenLaw} {n:Nat} (hn:l.most=some n) {P:Params} {h:Heap} {args:List WData} {vals:List Value}
  (hpre:l.row.toRowW.claim.pre args=true) (hwl:WellAll P h vals args):
  ∃a vs ns,vals=[Value.ref a]/\args=[WData.list (ns.map WData.int)]/\h.get? a=some {cls:=.type "list",data:=.seq vs.toArray}/\IntsAre vs ns/\ns.length<=n:=by
 have hsh:WShape.hasAll [] args [.list .int]=true:=(pre_splitW hpre).1;have hc:l.pre.holds [] {args:=args}=true:=(pre_splitW hpre).2;obtain ⟨d,r,rfl,h1,h2⟩:=hasAllW_cons hsh;obtain rfl:=hasAllW_nil h2;obtain ⟨xs,rfl,h3⟩:=hasW_list h1;obtain ⟨ns,rfl⟩:=items_int h3;have hlen:ns.length<=n:=by
  unfold OpenLaw.pre at hc;have h4:(WTm.not (.lt (.lit (.int (n:Int))) (.len (.arg 0)))).holds [] {args:=[.list (ns.map .int)]}=true:=by
   have h4:=(holds_andW hc).1;rw[hn] at h4;exact h4
  have h5:=condW_of h4 (w_not (w_lt w_lit (w_len_list (w_arg rfl))));rw[length_map] at h5;refine le_of_not_lt λq=>?_;have q':(n:Int)<((ns.length:Nat):Int):=by lia
  first
   | (rw[decide_eq_true q'] at h5;exact absurd h5 (by decide))
   | (simp at h5;lia)
 cases hwl with
 |cons w1 w2=>
  cases w2;cases w1 with
  |list ho hall=>exact ⟨_,_,ns,rfl,rfl,ho,mP ns _ hall,hlen⟩
theorem DK (l:OpenLaw) (args:List WData):l.row.toRowW.claim.post args (.bool true) args=true:=
 postW_of (r:=l.row.toRowW) (X:=(true==true))
  (show WShape.has [] (.bool true) .bool=true by first|rfl|decide|simp [WShape.has,WShape.arms,WShape.armsAll])
  (show (WTm.eq .res (.lit (.bool true))).value [] {args:=args,res:=some (.bool true),after:=args}=some (.bool (true==true)) from w_eq_bool (w_res rfl) w_lit) rfl
theorem xR {l:OpenLaw} {n:Nat} {q:Program} {loose:List Str} {XP:(Str->Option Value)->Heap->Prop} {YP:World->Heap->Prop} {d:DefRec}
  (hn:l.most=some n) (hdf:d.params.defaults=[])
  (call:∀(w:World) (s₀ s₁:Shared) (mg mb:Str->Option Value) (fa:Addr) (o:Obj) (pm cd doc:Value) (a:Addr) (vs:List Value) (ns:List Int),
   Ground q loose [] XP w s₀ mg mb s₁.heap->YP w s₁.heap->
   s₁.heap.get? fa=some o->o.data=.func (docDef d.name d.params d.body d.scope pm cd doc)->s₁.heap.CodeRec cd d.name->mg d.name=some (.ref fa)->
   s₁.heap.get? a=some {cls:=.type "list",data:=.seq vs.toArray}->IntsAre vs ns->ns.length<=n->s₁.gens=#[]->
   codeAny (model l.prog w) callerA (.call (.ref fa) ⟨[.ref a],[]⟩) (λr s'=>r=.ok (.ret (.bool true))/\OldK s₁.heap s'.heap/\s'.os=s₁.os/\AllBare s'.gens) s₁):
  WalkO q loose XP YP l.row.toRowW d [] (λf vs=>PySem.call f vs):=by
 intro w s₀ s₁ mg mb G Y fa o pm cd doc dV kV ho hd hcd hD hmg hg args vals as hpre hlay hrd hwl hlo;obtain rfl:dV=.none:=Dflts.none hD hdf;obtain rfl:kV=.none:=Dflts.noKw hD;obtain ⟨a,vs,ns,rfl,rfl,hobj,hints,hlen⟩:=DG hn hpre hwl;refine enter_call (codeAny_mono (call w s₀ s₁ mg mb fa o pm cd doc a vs ns G Y ho (fd_plain hd) hcd hmg hobj hints hlen hg) λr s' hq=>?_);obtain ⟨rfl,h2,h3,h4⟩:=hq;exact ⟨.inl ⟨.bool true,.bool true,[],rfl,λ_=>rfl,.bool true,DK l _,λ_=>⟨Pairwise.nil,λ_ hm=>(nomatch hm)⟩⟩,h2,h3,h4⟩
section
variable {prog:Program} {w:World} {A:Around} {E:Value->Shared->Prop} {s:Shared} {K:Frag}
theorem QF
  (X:K.In s.heap) (hlim:s.heap.NoLimit) (ho:K.lookup f=some ⟨oc,od,.func (fnOf name qual params body scope dV kV doc pm an cdv ct),osl⟩) (hcd:codeIn K cdv qual=true) (hroom:A.depth<recursionLimit)
  (hbind:BindsTo s (fnOf name qual params body scope dV kV doc pm an cdv ct) args binds)
  (hkind:(binds.all λy=>scope.names.lookup y.1==some .local || scope.names.lookup y.1==some .cell)=true)
  (h:∀s₁,InCallC s s.heap.objs.size (bindL (envOfC qual scope s.heap.objs.size f cdv).kindOf binds λ_=>none) (cellsFrom (s.heap.objs.size+1) scope.names [])
    (bindC (envOfC qual scope s.heap.objs.size f cdv).kindOf binds λ_=>none) s₁->
   wpAny (model prog w) (A.deeper (envOfC qual scope s.heap.objs.size f cdv)) (execs body (envOfC qual scope s.heap.objs.size f cdv))
    (λfl s'=>R (.ok (.ret (match fl with| .ret v=>v|_=>.none))) s')
    (λe s'=>wpAny (model prog w) (A.deeper (envOfC qual scope s.heap.objs.size f cdv)) (leaving (envOfC qual scope s.heap.objs.size f cdv) e) (λ_ s''=>R (.error e) s'') (λe' s''=>R (.error e') s'') s') s₁)
  (hco:scope.isCoroutine=false) (hgen:scope.isGenerator=false) (hk:scope.kind=.function):codeAny (model prog w) A (.call (.ref f) args) R s:=by
 refine codeAny_call_function hroom (X _ _ ho) rfl hco hgen rfl (codeRec_of X hcd) (hbind _ _ _ _ ?_);refine wpAny_newFunctionEnv_cells hk (kindsX hkind _) λenv he s₁ x=>?_;subst he;exact ⟨hlim.keeps x.toInCall.keep,codeAny_func (h s₁ x)⟩
end
end Att
namespace L2
open PySem PySem.Spec PyProof.Rows
theorem qU:∀{vs:List Value} {ns:List Int},IntsAre vs ns->Vals (ns.map V.int) vs
 |_,_,.nil=>.nil
 |_,_,.cons n t h=>.cons ⟨t,rfl⟩ (qU h)
noncomputable def YB (H:Hp):Prop:=∀b,H b=none\/∃o xs,H b=some (.frz o (.lst xs))
theorem JF {P:Program} {w:World} {K:Fg} {mg mb:Str->Option Value} {CX:MI} {k:Nat} {fa a:Addr} {fd:FuncData} {x:Str} {sp:Sp} {s₁:Shared} {vs:List Value} {ns:List Int}
  (KX:K.In s₁.heap) (hns:s₁.heap.Ns mainGlobals mg) (hb:s₁.heap.Ns builtinsNs mb) (hbb:∀x:Str,x≠"__name__"->mb x=bootBuiltins x) (hlim:s₁.heap.NoLimit) (hg:s₁.gens=#[])
  (ha:s₁.heap.get? a=some {cls:=.type "list",data:=.seq vs.toArray}) (hi:IntsAre vs ns) (hl:ns.length<=sizeLine) (hr:dF k callerA)
  (F:∀base:Heap,K.In base->base.Ns mainGlobals mg->AN P w K mg base CX k fa fd [x] sp) (hbind:∀(s:Shared) (u:Value),BindsTo s fd ⟨[u],[]⟩ [(x,u)])
  (hsp:∀H:Hp,YB H->aR K H a (ns.map V.int)->sp [.ref a] H (λv _=>v=.bl true) λ_ _ _=>False)
  (hCX:∀H e s',CX [] H s₁ (λ_ _ _=>False) e s'->False):
  codeAny (model P w) callerA (.call (.ref fa) ⟨[.ref a],[]⟩) (λr s'=>r=.ok (.ret (.bool true))/\OldK s₁.heap s'.heap/\s'.os=s₁.os/\AllBare s'.gens) s₁:=by
 have rv:=qU hi;have lenV:=hi.length;have core:∀H:Hp,YB H->aR K H a (ns.map V.int)->eJ P w H s₁.heap->(∀b,H b≠none->b=a)->(H a≠none->K.lookup a=none)->
   codeAny (model P w) callerA (.call (.ref fa) ⟨[.ref a],[]⟩) (λr s'=>r=.ok (.ret (.bool true))/\OldK s₁.heap s'.heap/\s'.os=s₁.os/\AllBare s'.gens) s₁:=by
  intro H hO hS hok hA hK;have base_of:∀{b:Addr} {o:Obj},s₁.heap.get? b=some o->H b=none->(uA s₁.heap H).get? b=some o:=λe n=>KG e n;have noA:∀{b:Addr} {o:Obj} {es:Array DictEntry} {ep:Nat},s₁.heap.get? b=some o->o.data=.dict es ep->H b=none:=λ{b o es ep} e d=>by
   cases q:H b with
   |none=>rfl
   |some u=>
    have e':b=a:=hA b (by rw[q];simp);subst e';rw[ha] at e;cases e;have d':Data.seq vs.toArray _=Data.dict es ep:=d;cases d'
  have nsK:∀{b:Addr} {m:Str->Option Value},s₁.heap.Ns b m->(uA s₁.heap H).Ns b m:=λ{b m} ⟨o,es,ep,e,d,r⟩=>⟨o,es,ep,base_of e (noA e d),d,r⟩;have hKb:K.In (uA s₁.heap H):=λb o e=>base_of (KX b o e) (by
   cases q:H b with
   |none=>rfl
   |some u=>
    have e':b=a:=hA b (by rw[q];simp)
    subst e'
    rw[hK (by rw[q];simp)] at e;cases e)
  have hM:Mod K mg (uA s₁.heap H):=⟨hKb,nsK hns,⟨mb,nsK hb,hbb⟩,let ⟨mc,h1,h2⟩:=hlim;⟨mc,nsK h1,h2⟩⟩;have e0:QP P w K mg (uA s₁.heap H) callerA [] s₁ H:=⟨rfl,hM,λb o e=>OB e,le_of_eq (EJ _ _),trivial,λb hb=>absurd (show b∈([]:List Addr) from hb) (by simp),hok,.of_eq hg⟩;refine codeAny_mono ((F _ hKb (nsK hns)).run callerA [] s₁ H ⟨[.ref a],[]⟩ [.ref a] [.ref a] _ _ hr e0 (hbind s₁ (.ref a)) (.cons rfl .nil) (hsp H hO hS)) λr s' h=>?_;cases r with
  |error e=>exact (hCX H e s' h).elim
  |ok fl=>
   cases fl with
   |next=>exact False.elim h
   |brk=>exact False.elim h
   |cont=>exact False.elim h
   |ret u=>
    obtain ⟨v,H',os,bare,un,hok',r',q⟩:=h;have q':v=.bl true:=q;subst q';obtain rfl:u=Value.bool true:=r';refine ⟨rfl,OldK.of_keep λb o e=>?_,os,bare⟩;cases q:H b with
    |none=>exact un.keep b o e q (by intro z;exact absurd (show b∈([]:List Addr) from z) (by simp)) (by simp)
    |some u=>
     rcases hO b with z|⟨ob,xs,z⟩
     ·rw[q] at z;cases z
     ·have z2:=un.frzs b ob _ z;obtain ⟨e1,_⟩:=hok b _ z;obtain ⟨e2,_⟩:=hok' b _ z2;rw[e] at e1;cases e1;exact e2
 cases hk:K.lookup a with
 |some o=>
  have e:=KX a o hk;rw[ha] at e;cases e;refine core (λ_=>none) (λ_=>.inl rfl) (.inr ⟨_,vs.toArray,_,hk,rfl,rfl,rfl,by rw[size_toArray,lenV];exact hl,by simpa using rv⟩) (λb u z=>by have z':(none:Option HO)=some u:=z;cases z') (λb z=>absurd rfl z) λz=>absurd rfl z
 |none=>
  refine core (λb=>if b=a then some (.frz {cls:=.type "list",data:=.seq vs.toArray} (.lst (ns.map V.int))) else none) (λb=>?_) (.inl (.inr ⟨{cls:=.type "list",data:=.seq vs.toArray},if_pos rfl⟩)) (λb u z=>?_) (λb z=>?_) λ_=>hk
  ·by_cases hb:b=a
   ·exact .inr ⟨_,_,if_pos hb⟩
   ·exact .inl (if_neg hb)
  ·by_cases hb:b=a
   ·have z':=(if_pos hb).symm.trans z;cases z';subst hb;exact ⟨ha,by rw[length_map];exact hl,vs,_,rv,ha⟩
   ·have z':=(if_neg hb).symm.trans z;cases z'
  ·by_cases hb:b=a
   ·exact hb
   ·exact absurd (if_neg hb) z
theorem MN {l:PySem.W.OpenLaw} {n k:Nat} {q:Program} {loose:List Str} {XP:(Str->Option Value)->Heap->Prop} {YP:World->Heap->Prop} {d:DefRec} {K:Params->Fg} {CX:World->MI} {sp:World->Sp} {x:Str}
  (hn:l.most=some n) (hn2:n<=sizeLine) (hdf:d.params.defaults=[]) (hr:dF k callerA)
  (hY:∀(w:World) (h:Heap),YP w h->(K w.params).In h)
  (F:∀(w:World) (mg:Str->Option Value) (fa:Addr) (h:Heap),(K w.params).In h->h.Ns mainGlobals mg->mg d.name=some (.ref fa)->
   ∃fd:FuncData,(∀(s:Shared) (u:Value),BindsTo s fd ⟨[u],[]⟩ [(x,u)])/\
    ∀base:Heap,(K w.params).In base->base.Ns mainGlobals mg->AN l.prog w (K w.params) mg base (CX w) k fa fd [x] (sp w))
  (hsp:∀(w:World) (H:Hp) (a:Addr) (ns:List Int),ns.length<=n->YB H->aR (K w.params) H a (ns.map V.int)->sp w [.ref a] H (λv _=>v=.bl true) λ_ _ _=>False)
  (hCX:∀(w:World) (H:Hp) (s:Shared) (e:Value) (s':Shared),CX w [] H s (λ_ _ _=>False) e s'->False):
  PySem.W.WalkO q loose XP YP l.row.toRowW d [] (λf vs=>PySem.call f vs):=by
 refine Att.xR hn hdf λw s₀ s₁ mg mb fa o pm cd doc a vs ns G Y ho hd hcd hmg hobj hints hlen hg=>?_;have KX:=hY w _ Y;obtain ⟨fd,hb,hF⟩:=F w mg fa _ KX G.T.g hmg;exact JF KX G.T.g G.T.b G.T.builtins G.T.nolimit hg hobj hints (Nat.le_trans hlen hn2) hr hF hb (λH hO hS=>hsp w H a ns hlen hO hS) λH e s'=>hCX w H s₁ e s'
noncomputable def cY (s:Stmt):Arguments:=match s with
 | .FunctionDef _ a _ _ _ _ _ _ _ _=>a
 |_=>{posonlyargs:=[],args:=[],vararg:=none,kwonlyargs:=[],kw_defaults:=[],kwarg:=none,defaults:=[]}
noncomputable def bJ (s:Stmt):List Stmt:=match s with
 | .FunctionDef _ _ b _ _ _ _ _ _ _=>b
 |_=>[]
noncomputable def aN (s:Stmt):Scope:=match s with
 | .FunctionDef _ _ _ _ _ _ sc _ _ _=>sc
 |_=>{kind:=.function,names:=[],isGenerator:=false,isCoroutine:=false}
noncomputable abbrev E0:XK:=λ_ _ _=>False
structure Ek (K:Fg) (x qual:Str) (st:Stmt) (f:Addr) (fd:FuncData):Prop where
 ex:∃(oc:Value) (od:Option Addr) (kV doc pm:Value) (an:Option Addr) (cdv ct:Value) (osl:Array (Option Value)),
  fd=PySem.W.fnOf x qual (cY st) (bJ st) (aN st) .none kV doc pm an cdv ct/\K.lookup f=some ⟨oc,od,.func fd,osl⟩/\PySem.W.codeIn K cdv qual=true
 kp:PySem.W.keepIn K (.ref f)=true
section
variable {P:Program} {w:World} {K:Fg} {mg:Str->Option Value} {base:Heap}
theorem Ek.binds {x qual:Str} {st:Stmt} {f:Addr} {fd:FuncData} {ps:List Str} (F:Ek K x qual st f fd)
  (h:∀(kV doc pm:Value) (an:Option Addr) (cdv ct:Value) (us:List Value),us.length=ps.length->bindArgs (PySem.W.fnOf x qual (cY st) (bJ st) (aN st) .none kV doc pm an cdv ct) ⟨us,[]⟩=pure (ps.zip us)):Binds K fd ps []:=by
 obtain ⟨oc,od,kV,doc,pm,an,cdv,ct,osl,rfl,lk,hcd⟩:=F.ex;exact .all (h kV doc pm an cdv ct)
theorem WZ {x qual:Str} {st:Stmt} {f:Addr} {oc:Value} {od an:Option Addr} {osl:Array (Option Value)} {kV doc pm cdv ct:Value} (l:K.lookup f=some ⟨oc,od,.func (PySem.W.fnOf x qual (cY st) (bJ st) (aN st) .none kV doc pm an cdv ct),osl⟩)
  (c:PySem.W.codeIn K cdv qual=true) (k:PySem.W.keepIn K (.ref f)=true):Ek K x qual st f (PySem.W.fnOf x qual (cY st) (bJ st) (aN st) .none kV doc pm an cdv ct):=⟨⟨oc,od,kV,doc,pm,an,cdv,ct,osl,rfl,l,c⟩,k⟩
end
theorem DE (h:n<=1000):n<sizeLine:=Nat.lt_of_le_of_lt h (by decide)
section
variable {X:Cx}
end
noncomputable def aB (H H':Hp):Prop:=∀b o,H b=some o->H' b=some o
theorem aB.refl (H:Hp):aB H H:=λ_ _ h=>h
theorem aB.trans (a:aB H H1) (b:aB H1 H2):aB H H2:=λc o h=>b c o (a c o h)
theorem aB.seq {K:Fg} {H H':Hp} {a:Addr} {xs:List V} (e:aB H H') (h:aR K H a xs):aR K H' a xs:=by
 rcases h with (h|⟨o,h⟩)|h
 ·exact .inl (.inl (e _ _ h))
 ·exact .inl (.inr ⟨o,e _ _ h⟩)
 ·exact .inr h
section
variable {κ:Type} [DecidableEq κ]
noncomputable def cZ (kvs:List (κ × V)) (k:κ):Option V:=(kvs.find? λkv=>decide (kv.1=k)).map (·.2)
noncomputable def putK (kvs:List (κ × V)) (k:κ) (v:V):List (κ × V):=
 if (kvs.any λkv=>decide (kv.1=k))=true then kvs.map (λkv=>if kv.1=k then (kv.1,v) else kv) else kvs++[(k,v)]
theorem gL {p:κ × V} {r:List (κ × V)} {k:κ} (e:p.1=k):cZ (p::r) k=some p.2:=by simp [cZ,find?_cons,e]
theorem dX {p:κ × V} {r:List (κ × V)} {k:κ} (e:¬p.1=k):cZ (p::r) k=cZ r k:=by simp [cZ,find?_cons,e]
theorem jM (k:κ):∀kvs:List (κ × V),(kvs.any λkv=>decide (kv.1=k))=(cZ kvs k).isSome
 |[]=>rfl
 |p::r=>by
  rw[any_cons];by_cases e:p.1=k
  ·simp only [gL e,decide_eq_true e,Bool.true_or,Option.isSome_some]
  ·rw[dX e,decide_eq_false e,Bool.false_or];exact jM k r
theorem hJ (kvs:List (κ × V)) (k:κ) (v:V):(putK kvs k v).length<=kvs.length+1:=by
 unfold putK;split
 ·rw[length_map];lia
 ·rw[length_append,length_cons,length_nil];lia
theorem jJ.isSome_eq (r:jJ o u):o.isSome=u.isSome:=by
 cases o with
 |none=>cases u with
  |none=>rfl
  |some _=>exact (show False from r).elim
 |some _=>cases u with
  |none=>exact (show False from r).elim
  |some _=>rfl
theorem jJ.getD (r:jJ o u) (rd:RelV d d'):RelV (o.getD d) (u.getD d'):=by
 cases o with
 |none=>cases u with
  |none=>exact rd
  |some _=>exact (show False from r).elim
 |some _=>cases u with
  |none=>exact (show False from r).elim
  |some _=>exact r
theorem KV.val (r:KV kvs vs) (k:κ):jJ (cZ kvs k) (valueAt vs k):=by
 unfold KV at r;induction r with
 |nil=>exact tI
 |@cons p q ps qs h t ih=>
  obtain ⟨h1,h2⟩:=h;by_cases e:p.1=k
  ·have e':q.1=k:=h1.symm.trans e;have b:valueAt (q::qs) k=some q.2:=by simp [valueAt,find?_cons,e']
   rw[gL e,b];exact h2
  ·have e':¬q.1=k:=λz=>e (h1.trans z);have b:valueAt (q::qs) k=valueAt qs k:=by simp [valueAt,find?_cons,e']
   rw[dX e,b];exact ih
theorem KV.any {kvs:List (κ × V)} {vs:List (κ × Value)} (r:KV kvs vs) (k:κ):(kvs.any λkv=>decide (kv.1=k))=vs.any λkv=>decide (kv.1=k):=by
 unfold KV at r;induction r with
 |nil=>rfl
 |cons h t ih=>rw[any_cons,any_cons,ih,h.1]
theorem KV.repl (r:KV kvs vs) (k:κ) (ry:RelV y u):
  KV (kvs.map λkv=>if kv.1=k then (kv.1,y) else kv) (vs.map λkv=>if kv.1=k then (kv.1,u) else kv):=by
 unfold KV at r ⊢;induction r with
 |nil=>exact .nil
 |@cons p q ps qs h t ih=>
  rw[map_cons,map_cons];refine .cons ?_ ih;obtain ⟨h1,h2⟩:=h;by_cases e:p.1=k
  ·rw[if_pos e,if_pos (h1.symm.trans e)];exact ⟨h1,ry⟩
  ·rw[if_neg e,if_neg (λz=>e (h1.trans z))];exact ⟨h1,h2⟩
theorem KV.put (r:KV kvs vs) (k:κ) (ry:RelV y u):KV (putK kvs k y) (stored vs k u):=by
 unfold putK stored;rw[r.any k];by_cases e:(vs.any λkv=>decide (kv.1=k))=true
 ·rw[if_pos e,if_pos e];exact r.repl k ry
 ·rw[if_neg e,if_neg e];exact Paired.snoc r ⟨rfl,ry⟩
theorem KV.keys {kvs:List (κ × V)} {vs:List (κ × Value)} (r:KV kvs vs):kvs.map (·.1)=vs.map (·.1):=by
 unfold KV at r;induction r with
 |nil=>rfl
 |cons h t ih=>rw[map_cons,map_cons,ih,h.1]
theorem KV.length {kvs:List (κ × V)} {vs:List (κ × Value)} (r:KV kvs vs):kvs.length=vs.length:=Paired.length r
end
theorem rJ (r:RelV (kV k) u):(aY P w).is k u=true:=by
 cases k with
 |inl i=>obtain ⟨t,e⟩:=(show ∃t,u=Value.int i t from r);subst e;exact wM P w i t
 |inr x=>obtain ⟨t,e⟩:=(show ∃t,u=Value.str x t from r);subst e;exact wL P w x t
theorem rK:∀{ks:List Key} {us:List Value},Vals (ks.map kV) us->ItemsAre (aY P w) ks us
 |[],_,r=>by rw[map_nil] at r;cases r;exact .nil
 |k::ks,_,r=>by
  rw[map_cons] at r;cases r with
  |cons h t=>exact .cons (rJ h) (rK t)
noncomputable abbrev KT (H:Hp):List (List Key × V)->List (List Key × Addr × Value)->Prop:=Paired λp q=>p.1=q.1/\H q.2.1=some (.tup (p.1.map kV))/\RelV p.2 q.2.2
theorem KT.val (r:KT H kvs xs) (k:List Key):jJ (cZ kvs k) ((atKey xs k).map (·.2)):=by
 induction r with
 |nil=>exact tI
 |@cons p q ps qs h t ih=>
  obtain ⟨h1,_,h2⟩:=h;by_cases e:p.1=k
  ·have e':q.1=k:=h1.symm.trans e;have b:atKey (q::qs) k=some q.2:=by simp [atKey,find?_cons,e']
   rw[gL e,b];exact h2
  ·have e':¬q.1=k:=λz=>e (h1.trans z);have b:atKey (q::qs) k=atKey qs k:=by simp [atKey,find?_cons,e']
   rw[dX e,b];exact ih
theorem KT.repl (r:KT H kvs xs) (k:List Key) (ry:RelV y u):
  KT H (kvs.map λkv=>if kv.1=k then (kv.1,y) else kv) (xs.map (putAt k u)):=by
 induction r with
 |nil=>exact .nil
 |@cons p q ps qs h t ih=>
  rw[map_cons,map_cons];refine .cons ?_ ih;obtain ⟨h1,h2,h3⟩:=h;unfold putAt;by_cases e:p.1=k
  ·rw[if_pos e,if_pos (h1.symm.trans e)];exact ⟨h1,h2,ry⟩
  ·rw[if_neg e,if_neg (λz=>e (h1.trans z))];exact ⟨h1,h2,h3⟩
theorem KT.put (r:KT H kvs xs) (k:List Key) (hb:H b=some (.tup (k.map kV))) (ry:RelV y u):
  KT H (putK kvs k y) (storedH xs k b u):=by
 have e:(kvs.any λkv=>decide (kv.1=k))=(atKey xs k).isSome:=by
  rw[jM,(r.val k).isSome_eq,Option.isSome_map]
 unfold putK storedH;rw[e];by_cases q:(atKey xs k).isSome=true
 ·rw[if_pos q,if_pos q];exact r.repl k ry
 ·rw[if_neg q,if_neg q];exact Paired.snoc r ⟨rfl,hb,ry⟩
theorem KT.keeps (r:KT H kvs xs) (ht:∀b ys,H b=some (.tup ys)->H' b=some (.tup ys)):KT H' kvs xs:=
 Paired.mapP r λ_ _ z=>⟨z.1,ht _ _ z.2.1,z.2.2⟩
section
variable {P:Program} {w:World} {H:Hp} {h:Heap} {a:Addr}
theorem RB (ok:eJ P w H h) (e:Rd H a u):aZ P w H h a u:=e.ok ok
theorem rX (ok:eJ P w H h) (e:Rd H a (.dK kvs)):kvs.length<=sizeLine/\(a==sysModules)=false/\∃vs,KV kvs vs/\h.DictOf (aY P w) a vs:=
 show aZ P w H h a (.dK kvs) from RB ok e
theorem KR (ok:eJ P w H h) (e:H a=some (.dK kvs)):kvs.length<=sizeLine/\(a==sysModules)=false/\∃vs,KV kvs vs/\h.DictOf (aY P w) a vs:=rX ok (.inl e)
theorem oS (ok:eJ P w H h) (e:H a=some (.tup (ks.map kV))):(tupleKind (aY P w)).is h ks a:=by
 obtain ⟨_,its,r,o,h1,h2,n,h3⟩:=(show aZ P w H h a (.tup (ks.map kV)) from ok a _ e);exact ⟨o,its.toArray,n,h1,h2,h3,by simpa using rK r⟩
theorem xD (ok:eJ P w H h) (e:Rd H a (.dT kvs)):kvs.length<=sizeLine/\(a==sysModules)=false/\
  ∃xs,KT H kvs xs/\h.DictOfH (tupleKind (aY P w)) a xs:=by
 obtain ⟨z,y,xs,r,o,es,ep,h1,h2,h3,h4,h5⟩:=(show aZ P w H h a (.dT kvs) from RB ok e);refine ⟨z,y,xs,r,o,es,ep,h1,h2,h3,h4,λx hx=>?_,h5⟩;have all:∀{l:List (List Key × V)} {m:List (List Key × Addr × Value)},KT H l m->∀x∈m,(tupleKind (aY P w)).is h x.1 x.2.1:=by
  intro l m q;induction q with
  |nil=>intro x hx;exact nomatch hx
  |@cons p q ps qs hq t ih=>
   intro x hx;rcases mem_cons.mp hx with e|hx
   ·subst e;exact oS ok (by rw[<-hq.1];exact hq.2.1)
   ·exact ih x hx
 exact all r x hx
theorem Dp (ok:eJ P w H h) (e:H a=some (.dT kvs)):kvs.length<=sizeLine/\(a==sysModules)=false/\
  ∃xs,KT H kvs xs/\h.DictOfH (tupleKind (aY P w)) a xs:=xD ok (.inl e)
end
noncomputable def dR (H:Hp) (a:Addr) (y:V) (r:Option V):Prop:=
 (∃kvs k,Rd H a (.dK kvs)/\y=kV k/\r=cZ kvs k)\/∃kvs k b,Rd H a (.dT kvs)/\y=.ref b/\H b=some (.tup (k.map kV))/\r=cZ kvs k
noncomputable def FL (H:Hp) (a:Addr) (y v:V) (H':Hp):Prop:=
 (∃kvs k,H a=some (.dK kvs)/\y=kV k/\kvs.length<sizeLine/\H'=upd H a (.dK (putK kvs k v)))\/
 ∃kvs k b,H a=some (.dT kvs)/\y=.ref b/\H b=some (.tup (k.map kV))/\kvs.length<sizeLine/\H'=upd H a (.dT (putK kvs k v))
theorem dR.k {H:Hp} {a:Addr} {kvs:List (Key × V)} {k:Key} (e:H a=some (.dK kvs)):dR H a (kV k) (cZ kvs k):=.inl ⟨kvs,k,.inl e,rfl,rfl⟩
theorem FL.k {H:Hp} {a:Addr} {kvs:List (Key × V)} {k:Key} {v:V} (e:H a=some (.dK kvs)) (hl:kvs.length<sizeLine):FL H a (kV k) v (upd H a (.dK (putK kvs k v))):=.inl ⟨kvs,k,e,rfl,hl,rfl⟩
section
variable {X:Cx} {pins:List (Addr × Obj)} {σ:St} {H:Hp} {s:Shared} {a:Addr} {y v:V} {u r:Value} {o:Option V} {A:Around} {E:Value->Shared->Prop}
theorem Inv.big (I:Inv X pins σ H s):sysModules<s.heap.objs.size:=by
 have h:mainGlobals<s.heap.objs.size:=(I.mod.glob.keeps I.bk).lt;exact Nat.lt_trans (by decide) h
theorem ER (hu:A.units+1<cLine) (I:Inv X pins σ H s) (g:dR H a y (some v)) (ry:RelV y u) (h:∀w' s',Inv X pins σ H s'->RelV v w'->Q w' s'):
  wpAny (model X.prog X.w) A (getItem (.ref a) u) Q E s:=by
 rcases g with ⟨kvs,k,e,ey,l⟩|⟨kvs,k,b,e,ey,eb,l⟩
 ·subst ey;obtain ⟨z,hd,vs,rel,dd⟩:=rX I.hok e;obtain ⟨w',hw,rw'⟩:=jJ.some_of (v:=v) (o:=valueAt vs k) (by rw[l];exact rel.val k);exact wpAny_getItem_of (rJ ry) dd.mapOf hw (h w' _ (I.tok _) rw')
 ·subst ey;cases (show u=Value.ref b from ry);obtain ⟨z,hd,xs,rel,dd⟩:=xD I.hok e;obtain ⟨w',hw,rw'⟩:=jJ.some_of (v:=v) (o:=(atKey xs k).map (·.2)) (by rw[l];exact rel.val k);obtain ⟨p,hp,hp2⟩:=Option.map_eq_some_iff.mp hw;refine wpAny_getItem_heap (tupleKind_room_in1 hu) (oS I.hok eb) dd hp ?_;rw[hp2];exact h w' _ (I.tok _) rw'
theorem PZ (hu:A.units+1<cLine) (I:Inv X pins σ H s) (g:dR H a y o) (ry:RelV y u) (h:∀s',Inv X pins σ H s'->Q (.bool (!o.isSome)) s'):
  wpAny (model X.prog X.w) A (compareOp .NotIn u (.ref a)) Q E s:=by
 rcases g with ⟨kvs,k,e,ey,l⟩|⟨kvs,k,b,e,ey,eb,l⟩
 ·subst ey;obtain ⟨z,hd,vs,rel,dd⟩:=rX I.hok e;refine wpAny_notIn_of (rJ ry) hd dd.mapOf ?_;rw[<-(rel.val k).isSome_eq,<-l];exact h _ (I.tok _)
 ·subst ey;cases (show u=Value.ref b from ry);obtain ⟨z,hd,xs,rel,dd⟩:=xD I.hok e;refine wpAny_notIn_heap (tupleKind_room_in1 hu) (oS I.hok eb) hd dd ?_;have q:=(rel.val k).isSome_eq;rw[Option.isSome_map] at q;rw[<-q,<-l];exact h _ (I.tok _)
theorem nG (I:Inv X pins σ H s) (mu:Ee (H a)) (hs:SameBut a s.heap h') (he:∃q,h'.get? a=some q) (new:aZ X.prog X.w (upd H a ob) h' a ob):
  Inv X pins σ (upd H a ob) {s with heap:=h',toks:=t'}:=
 I.write (x:=a) (e:=a) mu (.inl rfl) (λb q hb z=>(hs.2 b hb).trans z) he new
theorem KS (z:kvs.length<=sizeLine) (hd:(a==sysModules)=false) (rel:KV kvs vs) (dd:h'.DictOf (aY P w) a vs):
  aZ P w H' h' a (.dK kvs):=⟨z,hd,vs,rel,dd⟩
theorem EO (hu:A.units+1<cLine) (I:Inv X pins σ H s) (g:FL H a y v H') (ry:RelV y u) (rv:RelV v r) (h:∀s',Inv X pins σ H' s'->Q () s'):
  wpAny (model X.prog X.w) A (setItem (.ref a) u r) Q E s:=by
 rcases g with ⟨kvs,k,e,ey,l,eH⟩|⟨kvs,k,b,e,ey,eb,l,eH⟩
 ·subst ey eH;obtain ⟨z,hd,vs,rel,dd⟩:=KR I.hok e;have hz:vs.length<=sizeLine:=by rw[<-rel.length];exact z
  have hl:(putK kvs k v).length<=sizeLine:=by have:=hJ kvs k v;lia
  refine wpAny_setItem_pairs (hsz:=hz) (rJ ry) dd λh' dd' hs=>h _ ?_;have he:∃q,h'.get? a=some q:=let ⟨q,_,_,hq,_⟩:=dd';⟨q,hq⟩;exact nG I (by rw[e];exact tI) hs he (KS hl hd (rel.put k rv) dd')
 ·subst ey eH;cases (show u=Value.ref b from ry);obtain ⟨z,hd,xs,rel,dd⟩:=Dp I.hok e;have hz:xs.length<=sizeLine:=by rw[<-Paired.length rel];exact z
  have hl:(putK kvs k v).length<=sizeLine:=by have:=hJ kvs k v;lia
  refine wpAny_setItem_heap (hsz:=hz) (tupleKind_room_in1 hu) (oS I.hok eb) dd λh' dd' hs=>h _ ?_;obtain ⟨q,es,ep,hq,h2,h3,h4,_,h5⟩:=dd';refine nG I (by rw[e];exact tI) hs ⟨q,hq⟩ ⟨hl,hd,_,(rel.put k eb rv).keeps λc ys ec=>?_,q,es,ep,hq,h2,h3,h4,h5⟩;rw[aF (Bg ec e (λz=>nomatch z))];exact ec
end
section
variable {X:Cx} {pins:List (Addr × Obj)} {σ:St} {H:Hp} {s:Shared} {a:Addr} {kvs:List (Key × V)} {k:Key} {u:Value} {A:Around} {E:Value->Shared->Prop}
theorem Ds (I:Inv X pins σ H s) (e:Rd H a (.dK kvs)) (h:∀t s',Inv X pins σ H s'->Q (.int kvs.length t) s'):wpAny (model X.prog X.w) A (call (.builtin "len") [.ref a]) Q E s:=by
 obtain ⟨z,hd,vs,rel,dd⟩:=rX I.hok e;refine call_len_dict hd dd (by rw[<-rel.length];rw[sizeLine_eq] at z;lia) ?_;rw[<-rel.length];exact h _ _ (I.tok _)
end
theorem xF (I:Inv X pins σ H s) (g:dR H a y o):s.TypeIs (.ref a) "dict":=by
 rcases g with ⟨kvs,k,e,_,_⟩|⟨kvs,k,b,e,_,_,_⟩
 ·obtain ⟨_,_,vs,_,dd⟩:=rX I.hok e;exact dd.typeIs
 ·obtain ⟨_,_,xs,_,dd⟩:=xD I.hok e;exact dd.typeIs
section
variable {X:Cx} {o i e value:Expr} {pos pos' tpos:Pos} {td ty tv:TE}
end
theorem KU (h:Heap) (hb:sysModules<h.objs.size):aZ P w H (h.push {cls:=.type "dict",data:=.dict #[]}) h.objs.size (.dK []):=
 ⟨zero_le _,beq_eq_false_iff_ne.mpr (Ne.symm (ne_of_lt hb)),[],.nil,DictOf.new h⟩
section
variable {X:Cx} {pos:Pos}
end
noncomputable def yK:List (TE × TE)->St->Hp->(List (V × V)->Hp->Prop)->Prop
 |[],_,H,Q=>Q [] H
 | (tk,tv)::r,σ,H,Q=>tk σ H λx H1=>tv σ H1 λy H2=>yK r σ H2 λps H3=>Q ((x,y)::ps) H3
noncomputable abbrev VV:List (V × V)->List (Value × Value)->Prop:=Paired λp q=>RelV p.1 q.1/\RelV p.2 q.2
noncomputable def Eu (X:Cx) (pos:Pos) (keys:List (Option Expr)) (values:List Expr) (trs:List (TE × TE)):Prop:=
 ∀(pins:List (Addr × Obj)) (s:Shared) (σ:St) (H:Hp) (Q:List (V × V)->Hp->Prop),Inv X pins σ H s->yK trs σ H Q->
  wpAny (model X.prog X.w) X.A (evalPairs (pairTrees keys values X.env pos)) (λvs s'=>∃ps H',Inv X pins σ H' s'/\VV ps vs/\Q ps H') X.xe s
theorem NK:Eu X pos [] [] []:=λpins s σ H Q I h=>pairTrees_nil_walk ⟨[],H,I,.nil,h⟩
theorem HS (hk:PE X k tk) (hv:PE X v tv) (hr:Eu X pos ks vs trs):
  Eu X pos (some k::ks) (v::vs) ((tk,tv)::trs):=λpins s σ H Q I h=>
 pairTrees_cons_walk (bS (hk pins s σ H _ I h) λu s1 ⟨x,H1,I1,rx,q1⟩=>bS (hv pins s1 σ H1 _ I1 q1) λw2 s2 ⟨y,H2,I2,ry,q2⟩=>
  bS (hr pins s2 σ H2 _ I2 q2) λws s3 ⟨ps,H3,I3,rel,q3⟩=>⟨(x,y)::ps,H3,I3,.cons ⟨rx,ry⟩ rel,q3⟩)
noncomputable def lL (kvs more:List (Key × V)):List (Key × V):=more.foldl (λacc kv=>putK acc kv.1 kv.2) kvs
theorem KV.merge:∀{more:List (Key × V)} {rs:List (Key × Value)} {kvs:List (Key × V)} {vs:List (Key × Value)},KV more rs->KV kvs vs->KV (lL kvs more) (merged vs rs):=by
 intro more rs kvs vs r;unfold KV at r;induction r generalizing kvs vs with
 |nil=>intro q;exact q
 |@cons p q ps qs h t ih=>
  intro r0;have e:KV (putK kvs p.1 p.2) (stored vs q.1 q.2):=by
   have:=r0.put p.1 h.2;rw[<-h.1];exact this
  exact ih e
theorem iU:∀(more kvs:List (Key × V)),(lL kvs more).length<=kvs.length+more.length
 |[],kvs=>by show kvs.length<=kvs.length+0;lia
 |p::r,kvs=>by
  have h1:=iU r (putK kvs p.1 p.2);have h2:=hJ kvs p.1 p.2;show (lL (putK kvs p.1 p.2) r).length<=_;rw[length_cons];lia
theorem pJ:∀{kvs:List (Key × V)} {ws:List (Value × Value)},VV (kvs.map λkv=>(kV kv.1,kv.2)) ws->∃rs,Carries (aY P w) ws rs/\KV kvs rs
 |[],_,r=>by rw[map_nil] at r;cases r;exact ⟨[],tI,.nil⟩
 |p::kvs,_,r=>by
  rw[map_cons] at r;cases r with
  |@cons a b as bs h t=>
   obtain ⟨rs,c,q⟩:=pJ (P:=P) (w:=w) t;obtain ⟨b1,b2⟩:=b;exact ⟨(p.1,b2)::rs,⟨rJ h.1,rfl,c⟩,.cons ⟨rfl,h.2⟩ q⟩
noncomputable def QY (trs:List (TE × TE)):TE:=λσ H Q=>∀p,H p=none->yK trs σ (upd H p (.dK [])) λps H2=>H2 p=some (.dK [])/\∃kvs:List (Key × V),ps=kvs.map (λkv=>(kV kv.1,kv.2))/\kvs.length<=15/\Q (.ref p) (upd H2 p (.dK (lL [] kvs)))
theorem NR (h:Eu X pos keys values trs) (hall:keys.all (·.isSome)=true) (hl:keys.length=values.length) (h0:keys≠[])
  (h15:keys.length<=15):PE X (.Dict keys values pos) (QY trs):=by
 intro pins s σ H Q I q;have hn:=I.hok.fresh (Nat.le_refl s.heap.objs.size);have I1:=I.laid (a:=s.heap.objs.size) (o:=.dK []) (h':=s.heap.push {cls:=.type "dict",data:=.dict #[]}) (t':=s.toks) (λ_ _ q=>get?_push_of_some _ q) (Nat.le_refl _) (KU s.heap I.big);refine wpAny_Dict_walk (knd:=aY X.prog X.w) hall hl h0 h15 (bS (h pins _ σ _ _ I1 (q _ hn)) λws s2 ⟨ps,H2,I2,rel,e,kvs,ep,lk,q2⟩=>?_);subst ep;obtain ⟨rs,c,rk⟩:=pJ (P:=X.prog) (w:=X.w) rel;obtain ⟨z,hd,vs0,r0,dd⟩:=KR I2.hok e;cases r0;refine ⟨rs,c,dd,λh' dd' hs=>⟨.ref s.heap.objs.size,_,?_,rfl,q2⟩⟩;have hz:(lL [] kvs).length<=sizeLine:=by
  have h1:=iU kvs [];rw[length_nil] at h1;rw[sizeLine_eq];lia
 have he:∃q,h'.get? s.heap.objs.size=some q:=let ⟨q,_,_,hq,_⟩:=dd';⟨q,hq⟩;exact nG I2 (by rw[e];exact tI) hs he (KS hz hd (rk.merge .nil) dd')
section
variable {X:Cx} {pins:List (Addr × Obj)} {σ:St} {H:Hp} {s:Shared} {a:Addr} {y d:V} {u r:Value} {o:Option V} {A:Around} {E:Value->Shared->Prop}
theorem XH (hu:A.units+1<cLine) (I:Inv X pins σ H s) (g:dR H a y o) (ry:RelV y u) (rd:RelV d r) (h:∀w' s',Inv X pins σ H s'->RelV (o.getD d) w'->Q w' s'):
  wpAny (model X.prog X.w) A (call (.builtin "dict.get") [.ref a,u,r]) Q E s:=by
 rcases g with ⟨kvs,k,e,ey,l⟩|⟨kvs,k,b,e,ey,eb,l⟩
 ·subst ey;obtain ⟨z,hd,vs,rel,dd⟩:=rX I.hok e;refine call_meetsIn PySem.F.slot_dict_get dd.typeIs PySem.F.entry_dict_get (PySem.F.args_dict_get_3 _ _ _) (meets_dict_get_default (aY X.prog X.w) a (rJ ry) hd r) ⟨_,dd.mapOf,h _ _ (I.tok _) ?_⟩;rw[l];exact (rel.val k).getD rd
 ·subst ey;cases (show u=Value.ref b from ry);obtain ⟨z,hd,xs,rel,dd⟩:=xD I.hok e;refine call_meetsIn PySem.F.slot_dict_get dd.typeIs PySem.F.entry_dict_get (PySem.F.args_dict_get_3 _ _ _) (meetsH_dict_get_default (tupleKind (aY X.prog X.w)) a b hd r) ⟨tupleKind_room_in1 hu,k,xs,oS I.hok eb,dd,h _ _ (I.tok _) ?_⟩;rw[l];exact (rel.val k).getD rd
end
section
variable {X:Cx} {o e f:Expr} {apos cpos:Pos} {td ty tx:TE}
end
section
variable {X:Cx} {pins:List (Addr × Obj)} {σ:St} {H:Hp} {s:Shared} {a:Addr} {kvs:List (Key × V)} {A:Around} {E:Value->Shared->Prop}
end
section
variable {X:Cx} {pins:List (Addr × Obj)} {σ:St} {H:Hp} {s:Shared} {a:Addr} {y:V} {u:Value} {A:Around} {E:Value->Shared->Prop}
end
end L2
namespace So
open PySem PySem.Spec PyProof.Rows
section
variable {M:Model} {A:Around} {E:Value->Shared->Prop} {s:Shared}
noncomputable def CO (M:Model) (A:Around) (E:Value->Shared->Prop) (s:Shared) (κ:SortKind) (c:Keyed->Keyed->Bool) (P:Keyed->Prop):Prop:=
 ∀(p q:Keyed) (st:SortSt) (Q:Option Bool->SortSt->Prop),P p->P q->kindOf st=κ->Q (some (c p q)) st->wpS M A E s (lt' p q) Q st
variable {κ:SortKind} {c:Keyed->Keyed->Bool} {P:Keyed->Prop}
noncomputable def BR:Bool->Keyed->Array Keyed->Nat->Nat->Nat->StateT SortSt Sem (Option Nat):=sortPriv% PySem.Builtin.gallop
theorem aI {arr:Array Keyed} {i:Nat} {p:Keyed} {st:SortSt} {Q:Keyed->SortSt->Prop} (h:arr[i]?=some p) (q:Q p st):wpS M A E s (elem' arr i) Q st:=by
 rw[elem'_eq,h];exact wpS_pure q
theorem bU {arr:Array Keyed} {i:Nat} (h:i<arr.size) (hP:∀p∈arr.toList,P p):∃p,arr[i]?=some p/\P p:=
 ⟨arr[i],getElem?_pos arr i h,hP _ (by simp)⟩
theorem aC {σ α:Type} {p:Prop} [Decidable p] {x y:StateT σ Sem α} {Q:α->σ->Prop} {st:σ} (h1:p->wpS M A E s x Q st) (h2:¬p->wpS M A E s y Q st):wpS M A E s (if p then x else y) Q st:=by
 by_cases h:p
 ·rw[if_pos h];exact h1 h
 ·rw[if_neg h];exact h2 h
noncomputable def IV:Array Keyed->Array Keyed->StateT SortSt Sem (Array Keyed):=sortPriv% PySem.Builtin.mergeLo
noncomputable def IW:Array Keyed->Array Keyed->StateT SortSt Sem (Array Keyed):=sortPriv% PySem.Builtin.mergeHi
noncomputable def AM (st st':SortSt):Prop:=kindOf st'=kindOf st/\arrOf st'=arrOf st/\pendingOf st'=pendingOf st/\failedOf st'=failedOf st
theorem AM.refl (st:SortSt):AM st st:=⟨rfl,rfl,rfl,rfl⟩
theorem AM.gal {st st':SortSt} (h:AM st st') (g:Nat):AM st (SortSt.mk' (kindOf st') (arrOf st') (pendingOf st') g (failedOf st')):=h
structure Pm (a b out:Array Keyed) (ia ib:Nat):Prop where
 la:ia<=a.size
 lb:ib<=b.size
 pm:out.toList.Perm (a.toList.take ia++b.toList.take ib)
section
variable {a b out:Array Keyed} {ia ib:Nat}
theorem iO (a:Array Keyed) (i:Nat):(a.extract i).toList=a.toList.drop i:=by
 simp only [toList_extract,extract_eq_take_drop];exact take_of_length_le (by rw[length_drop,length_toList];exact Nat.le_refl _)
theorem HW {α:Type} {x u v p q:List α} (h:x.Perm (u++v)):(x++(p++q)).Perm ((u++p)++(v++q)):=by
 refine (h.append_right _).trans ?_;rw[List.append_assoc,List.append_assoc];refine List.Perm.append_left u ?_;rw[<-List.append_assoc,<-List.append_assoc];exact (perm_append_comm).append_right q
theorem Pm.done (h:Pm a b out ia ib):(out++a.extract ia++b.extract ib).toList.Perm (a.toList++b.toList):=by
 rw[toList_append,toList_append,iO,iO,List.append_assoc];have:=HW (p:=a.toList.drop ia) (q:=b.toList.drop ib) h.pm;rwa [take_append_drop,take_append_drop] at this
theorem Pm.last (h:Pm a b out ia ib):(out++b.extract ib++a.extract ia).toList.Perm (a.toList++b.toList):=by
 refine List.Perm.trans ?_ h.done;rw[toList_append,toList_append,toList_append,toList_append,List.append_assoc,List.append_assoc];exact List.Perm.append_left _ perm_append_comm
theorem Pm.ea (h:Pm a b out ia ib) {k:Nat} (hk:ia+k<=a.size):Pm a b (out++a.extract ia (ia+k)) (ia+k) ib:=by
 refine ⟨hk,h.lb,?_⟩;rw[toList_append,toList_extract];have e:a.toList.take (ia+k)=a.toList.take ia++(a.toList.drop ia).take k:=by rw[take_add]
 have e2:List.extract a.toList ia (ia+k)=(a.toList.drop ia).take k:=by
  rw[extract_eq_take_drop]
  congr 1
  lia
 rw[e,e2];have:=HW (p:=(a.toList.drop ia).take k) (q:=[]) h.pm;rwa [append_nil,append_nil] at this
theorem Pm.eb (h:Pm a b out ia ib) {k:Nat} (hk:ib+k<=b.size):Pm a b (out++b.extract ib (ib+k)) ia (ib+k):=by
 refine ⟨h.la,hk,?_⟩;rw[toList_append,toList_extract];have e:b.toList.take (ib+k)=b.toList.take ib++(b.toList.drop ib).take k:=by rw[take_add]
 have e2:List.extract b.toList ib (ib+k)=(b.toList.drop ib).take k:=by
  rw[extract_eq_take_drop]
  congr 1
  lia
 rw[e,e2];have:=HW (p:=[]) (q:=(b.toList.drop ib).take k) h.pm;rwa [nil_append,append_nil] at this
theorem take_one (hx:a[i]?=some x):a.toList.take (i+1)=a.toList.take i++[x]:=by
 have:a.toList[i]?=some x:=by rw[getElem?_toList];exact hx
 rw[take_add_one,this];rfl
theorem BL (hx:a[i]?=some x):i<a.size:=by
 obtain ⟨h,_⟩:=Array.getElem?_eq_some_iff.mp hx;exact h
end
structure Ph (a b out:Array Keyed) (na nb:Nat):Prop where
 la:na<=a.size
 lb:nb<=b.size
 pm:out.toList.Perm (a.toList.drop na++b.toList.drop nb)
section
variable {a b out:Array Keyed} {na nb:Nat}
theorem EM (a:Array Keyed) (i:Nat):(a.extract 0 i).toList=a.toList.take i:=by
 simp only [toList_extract,extract_eq_take_drop,drop_zero,Nat.sub_zero]
theorem Ao {α:Type} {x u v p q:List α} (h:x.Perm (u++v)):((p++q)++x).Perm ((p++u)++(q++v)):=by
 refine (h.append_left _).trans ?_;rw[List.append_assoc,List.append_assoc];refine List.Perm.append_left p ?_;rw[<-List.append_assoc,<-List.append_assoc];exact (perm_append_comm).append_right v
theorem oA (out:Array Keyed):out.reverse.toList.Perm out.toList:=by
 rw[toList_reverse];exact List.reverse_perm _
theorem Ph.done (h:Ph a b out na nb):(a.extract 0 na++b.extract 0 nb++out.reverse).toList.Perm (a.toList++b.toList):=by
 rw[toList_append,toList_append,EM,EM];have:=Ao (p:=a.toList.take na) (q:=b.toList.take nb) ((oA out).trans h.pm);rwa [take_append_drop,take_append_drop] at this
theorem Ph.first (h:Ph a b out na nb):(b.extract 0 nb++a.extract 0 na++out.reverse).toList.Perm (a.toList++b.toList):=by
 refine List.Perm.trans ?_ h.done;rw[toList_append,toList_append,toList_append,toList_append];exact List.Perm.append_right _ perm_append_comm
theorem fN (l:List α) (h:i<=n):l.drop i=(l.take n).drop i++l.drop n:=by
 have e:l.drop i=(l.take n++l.drop n).drop i:=by rw[take_append_drop]
 rw[e,List.drop_append];by_cases hl:i<=(l.take n).length
 ·rw[show i - (l.take n).length=0 by lia,drop_zero]
 ·rw[length_take] at hl;have:l.length<=n:=by lia
  rw[drop_eq_nil_of_le this,List.drop_nil]
theorem cE (a:Array Keyed) (i n:Nat):(a.extract i n).toList=(a.toList.take n).drop i:=by
 rw[toList_extract,extract_eq_take_drop,List.take_drop];by_cases h:i<=n
 ·rw[show i+(n - i)=n by lia]
 ·rw[drop_eq_nil_of_le (by rw[length_take];lia),drop_eq_nil_of_le (by rw[length_take];lia)]
theorem Ph.ea (h:Ph a b out na nb) (hk:k<=na):Ph a b (out++(a.extract k na).reverse) k nb:=by
 refine ⟨by have:=h.la;lia,h.lb,?_⟩;rw[toList_append,fN a.toList hk,<-cE];refine ((oA _).append_left _).trans ?_;refine (h.pm.append_right _).trans ?_;rw[List.append_assoc];refine (List.Perm.append_left _ perm_append_comm).trans ?_;rw[<-List.append_assoc];exact List.Perm.append_right _ perm_append_comm
theorem Ph.eb (h:Ph a b out na nb) (hk:k<=nb):Ph a b (out++(b.extract k nb).reverse) na k:=by
 refine ⟨h.la,by have:=h.lb;lia,?_⟩;rw[toList_append,fN b.toList hk,<-cE];refine ((oA _).append_left _).trans ?_;refine (h.pm.append_right _).trans ?_;rw[List.append_assoc];exact List.Perm.append_left _ perm_append_comm
theorem drop_one (hx:a[i]?=some x):a.toList.drop i=x::a.toList.drop (i+1):=by
 have h:=BL hx;have:a.toList[i]?=some x:=by rw[getElem?_toList];exact hx
 rw[List.drop_eq_getElem_cons (by rw[length_toList];exact h)];have e:=List.getElem?_eq_some_iff.mp this;obtain ⟨h1,h2⟩:=e;rw[h2]
end
end
end So
namespace So
open PySem PySem.Spec PyProof.Rows
section
variable {M:Model} {A:Around} {E:Value->Shared->Prop} {s:Shared} {κ:SortKind} {c:Keyed->Keyed->Bool} {P:Keyed->Prop} {a₀:Array Keyed}
structure Ba (κ:SortKind) (a₀:Array Keyed) (pend:Array (Nat × Nat × Nat)) (st:SortSt):Prop where
 perm:(arrOf st).Perm a₀
 failed:failedOf st=none
 kind:kindOf st=κ
 pend:pendingOf st=pend
theorem Ba.size {pend:Array (Nat × Nat × Nat)} {st:SortSt} (h:Ba κ a₀ pend st):(arrOf st).size=a₀.size:=h.perm.size_eq
theorem Ba.all {pend:Array (Nat × Nat × Nat)} {st:SortSt} (h:Ba κ a₀ pend st) (hP:∀p∈a₀.toList,P p):∀p∈(arrOf st).toList,P p:=λp hp=>hP p (h.perm.toList.mem_iff.mp hp)
theorem Ba.set {pend:Array (Nat × Nat × Nat)} {st:SortSt} (h:Ba κ a₀ pend st) {xs:Array Keyed} (hp:xs.Perm (arrOf st)):Ba κ a₀ pend (setArr st xs):=⟨hp.trans h.perm,h.failed,h.kind,h.pend⟩
end
end So
namespace So
open PySem PySem.Spec PyProof.Rows
theorem kF (sa:Nat):∀(m:List Keyed) (j:Nat) (arr:Array Keyed),sa+j+m.length<=arr.size->
  ((m.zipIdx j).foldl (λ(a:Array Keyed) (x:Keyed × Nat)=>a.setIfInBounds (sa+x.2) x.1) arr).toList=arr.toList.take (sa+j)++m++arr.toList.drop (sa+j+m.length)
 |[],j,arr,h=>by
  rw[List.zipIdx_nil,List.foldl_nil,append_nil,length_nil,Nat.add_zero,take_append_drop]
 |p::m,j,arr,h=>by
  rw[List.zipIdx_cons,foldl_cons];rw[length_cons] at h;have hs:(arr.setIfInBounds (sa+j) p).size=arr.size:=Array.size_setIfInBounds;have ih:=kF sa m (j+1) (arr.setIfInBounds (sa+j) p) (by rw[hs];lia);rw[ih,Array.toList_setIfInBounds];have hl:sa+j<arr.toList.length:=by rw[length_toList];lia
  have e1:(arr.toList.set (sa+j) p).take (sa+(j+1))=arr.toList.take (sa+j)++[p]:=by
   rw[show sa+(j+1)=sa+j+1 by lia,take_add_one,List.take_set,List.getElem?_set_self hl];rw[List.set_eq_of_length_le (by rw[length_take];lia)];rfl
  have e2:(arr.toList.set (sa+j) p).drop (sa+(j+1)+m.length)=arr.toList.drop (sa+j+(p::m).length):=by
   rw[List.drop_set,if_pos (by lia),length_cons]
   congr 1
   lia
  rw[e1,e2,List.append_assoc,List.append_assoc,List.append_assoc];rfl
noncomputable def Runs:Nat->List (Nat × Nat × Nat)->Nat->Prop
 |x,[],y=>x=y
 |x,(s,n,_)::l,y=>s=x/\1<=n/\Runs (x+n) l y
theorem Runs.le:∀{l:List (Nat × Nat × Nat)} {x y:Nat},Runs x l y->x<=y
 |[],x,y,h=>le_of_eq h
 | (s,n,p)::l,x,y,⟨_,_,h⟩=>Nat.le_trans (Nat.le_add_right _ _) h.le
theorem Runs.push:∀{l:List (Nat × Nat × Nat)} {x y n p:Nat},Runs x l y->1<=n->Runs x (l++[(y,n,p)]) (y+n)
 |[],x,y,n,p,h,hn=>by
  have e:x=y:=h;subst e;exact ⟨rfl,hn,rfl⟩
 | (s,k,r)::l,x,y,n,p,⟨h1,h2,h3⟩,hn=>⟨h1,h2,h3.push hn⟩
theorem Runs.two:∀{l:List (Nat × Nat × Nat)} {i x y sa na p sb nb p2:Nat},Runs x l y->l[i]?=some (sa,na,p)->l[i+1]?=some (sb,nb,p2)->sb=sa+na/\1<=na/\1<=nb/\sb+nb<=y/\Runs x ((l.set i (sa,na+nb,p)).eraseIdx (i+1)) y
 |[],_,_,_,_,_,_,_,_,_,_,h,_=>by cases h
 |t::[],0,_,_,_,_,_,_,_,_,_,_,h=>by cases h
 |t::u::l,0,x,y,sa,na,p,sb,nb,p2,h,e1,e2=>by
  cases e1;cases e2;obtain ⟨h1,h2,h3,h4,h5⟩:=h;subst h1;refine ⟨h3,h2,h4,by have:=h5.le;lia,rfl,by lia,?_⟩;rw[show sa+(na+nb)=sa+na+nb by lia];exact h5
 | (s,n,r)::l,i+1,x,y,sa,na,p,sb,nb,p2,⟨h1,h2,h3⟩,e1,e2=>by
  obtain ⟨g1,g2,g3,g4,g5⟩:=Runs.two (i:=i) h3 e1 e2;exact ⟨g1,g2,g3,g4,h1,h2,g5⟩
theorem Runs.mod:∀{l:List (Nat × Nat × Nat)} {x y i:Nat} {f:Nat × Nat × Nat->Nat × Nat × Nat},(∀t,(f t).1=t.1/\(f t).2.1=t.2.1)->Runs x l y->Runs x (l.modify i f) y
 |[],_,_,_,_,_,h=>by cases ‹Nat›<;>exact h
 | (s,n,p)::l,x,y,0,f,hf,⟨h1,h2,h3⟩=>by
  rw[List.modify_zero_cons];obtain ⟨e1,e2⟩:=hf (s,n,p);show (f (s,n,p)).1=x/\1<=(f (s,n,p)).2.1/\Runs (x+(f (s,n,p)).2.1) l y;rw[e1,e2];exact ⟨h1,h2,h3⟩
 | (s,n,p)::l,x,y,i+1,f,hf,⟨h1,h2,h3⟩=>by
  rw[List.modify_succ_cons];exact ⟨h1,h2,Runs.mod hf h3⟩
section
variable {M:Model} {A:Around} {E:Value->Shared->Prop} {s:Shared} {κ:SortKind} {c:Keyed->Keyed->Bool} {P:Keyed->Prop} {a₀:Array Keyed}
theorem MM {σ:Type} {st st0:σ} {Q:PUnit->σ->Prop} (h:Q ⟨⟩ st0):wpS M A E s (set st0:StateT σ Sem PUnit) Q st:=by
 unfold wpS;rw[StateT.run_set];exact wpAny_pure ⟨rfl,h⟩
theorem vS {arr out:Array Keyed} {sa sb e:Nat} (h1:sa<=sb) (h2:sb<=e) (h3:e<=arr.size) (hp:out.toList.Perm ((arr.extract sa sb).toList++(arr.extract sb e).toList)):
  (out.toList.zipIdx.foldl (λ(a:Array Keyed) (x:Keyed × Nat)=>a.setIfInBounds (sa+x.2) x.1) arr).Perm arr:=by
 have l1:((arr.extract sa sb).toList++(arr.extract sb e).toList).length=e - sa:=by
  rw[length_append,length_toList,length_toList,size_extract,size_extract];lia
 have lo:out.toList.length=e - sa:=by rw[hp.length_eq,l1]
 rw[Array.perm_iff_toList_perm,kF sa out.toList 0 arr (by lia),Nat.add_zero,lo,show sa+(e - sa)=e by lia];have ex:arr.toList=arr.toList.take sa++((arr.extract sa sb).toList++(arr.extract sb e).toList)++arr.toList.drop e:=by
  rw[cE,cE];have c1:=fN arr.toList (i:=sb) (n:=e) h2;have c2:(arr.toList.take e).drop sa=(arr.toList.take sb).drop sa++(arr.toList.take e).drop sb:=by
   have:=fN (arr.toList.take e) (i:=sa) (n:=sb) h1;rw[take_take,min_eq_left h2] at this;exact this
  rw[<-c2];have c3:=fN arr.toList (i:=sa) (n:=e) (by lia);rw[List.append_assoc,<-c3,take_append_drop]
 refine List.Perm.trans ?_ (List.Perm.of_eq ex.symm);exact (hp.append_left _).append_right _
theorem VX [Decidable p] (h:¬N<=1):(if p then N - 2 - 1 else N - 2)+1<N:=by split<;>lia
end
end So
namespace So
open PySem PySem.Spec PyProof.Rows PySem.W PySem.SeqAt
noncomputable def xV (h:Heap) (v:Value) (x:Str) (i:Int):Prop:=∃a o n t u,v=.ref a/\h.get? a=some o/\o.cls=.type "tuple"/\o.data=.seq #[.str x t,.int i u] n
noncomputable def kv (h:Heap):Value->Str × Int
 | .ref a=>match h.get? a with
  |some o=>match o.data with
   | .seq xs _=>match xs[0]? with
    |some (Value.str x _)=>match xs[1]? with
     |some (Value.int i _)=>(x,i)
     |_=>(⟨#[]⟩,0)
    |_=>(⟨#[]⟩,0)
   |_=>(⟨#[]⟩,0)
  |none=>(⟨#[]⟩,0)
 |_=>(⟨#[]⟩,0)
theorem mB (e:xV h v x i):kv h v=(x,i):=by
 obtain ⟨a,o,n,t,u,rfl,ho,_,hd⟩:=e;unfold kv;dsimp only;rw[ho];dsimp only;rw[hd];rfl
noncomputable def MJ (p q:Str × Int):Bool:=if p.1=q.1 then decide (p.2<q.2) else decide (p.1.cps.toList<q.1.cps.toList)
section
variable {prog:Program} {w:World} {A:Around} {E:Value->Shared->Prop} {s:Shared}
theorem JE (h:Q (MJ (x,i) (y,j)) s):KatLex prog w A true false Q [(.str x t,.str y u),(.int i t2,.int j u2)] 0 s:=by
 refine kat_cons (EqAt.str_str x t y u prog w _ _ ?_);by_cases e:x=y
 ·subst e;rw[beq_self_eq_true];refine kat_yes (kat_cons (EqAt.int_int i t2 j u2 prog w _ _ ?_));have hq:MJ (x,i) (x,j)=decide (i<j):=if_pos rfl;rw[hq] at h;by_cases e2:i=j
  ·subst e2;rw[beq_self_eq_true];refine kat_yes (kat_nil ?_);rwa [show decide (i<i)=false from decide_eq_false (by lia)] at h
  ·rw[show (i==j)=false from beq_eq_false_iff_ne.mpr e2];refine kat_no ?_;exact kat_one _ _ (lt_int h)
 ·rw[show (x==y)=false from beq_eq_false_iff_ne.mpr e];refine kat_no ?_;have hq:MJ (x,i) (y,j)=decide (x.cps.toList<y.cps.toList):=if_neg e;rw[hq] at h;exact oneLt_str h
theorem LD:CO (model prog w) A E s (tuples' true) (λp q=>MJ (kv s.heap p.1) (kv s.heap q.1)) (λp=>∃x i,xV s.heap p.1 x i):=by
 rintro ⟨p,p2⟩ ⟨q,q2⟩ st Q ⟨x,i,hp⟩ ⟨y,j,hq⟩ hk hQ;dsimp only at hp hq hQ;rw[mB hp,mB hq] at hQ;obtain ⟨a,o,n,t,u,rfl,ho,_,hd⟩:=hp;obtain ⟨a',o',n',t',u',rfl,ho',_,hd'⟩:=hq;rw[lt'_eq];refine wpS_bind (wpS_get ?_);rw[hk];refine wpS_bind (wpS_lift (wpAny_attempt (kat_lt ho hd ho' hd' (JE ⟨rfl,?_⟩))));exact wpS_pure hQ
theorem AR:∀{vs:List Value},(∀v∈vs,∃x i,xV h v x i)->∃fs,fs.length=vs.length/\KatTups h vs fs/\∀f∈fs,∃x t,f=Value.str x t
 |[],_=>⟨[],rfl,.nil,λf hf=>nomatch hf⟩
 |v::vs,hv=>by
  obtain ⟨x,i,a,o,n,t,u,rfl,ho,hc,hd⟩:=hv v mem_cons_self;obtain ⟨fs,h1,h2,h3⟩:=AR (vs:=vs) λv hm=>hv v (mem_cons_of_mem _ hm);refine ⟨.str x t::fs,by rw[length_cons,h1,length_cons],.cons ho hc hd rfl h2,λf hf=>?_⟩;rcases mem_cons.mp hf with rfl|hf
  ·exact ⟨x,t,rfl⟩
  ·exact h3 f hf
theorem EB:Looks M h (typeOf (.str x t)) (.type "str"):=Looks.of_pure rfl
theorem xV.keep (e:xV h v x i) (k:∀b o,h.get? b=some o->o.cls=.type "tuple"->h'.get? b=some o):xV h' v x i:=by
 obtain ⟨a,o,n,t,u,rfl,ho,hc,hd⟩:=e;exact ⟨a,o,n,t,u,rfl,k a o ho hc,hc,hd⟩
end
end So
namespace So
open PySem PySem.Spec PyProof.Rows
structure Od (c:Keyed->Keyed->Bool):Prop where
 as:∀x y,c x y=true->c y x=false
 neg:∀x y z,c x z=true->c x y=true\/c y z=true
theorem Od.le_trans (o:Od c) (h1:c y x=false) (h2:c z y=false):c z x=false:=by
 cases h:c z x
 ·rfl
 ·rcases o.neg z y x h with h|h
  ·rw[h2] at h;cases h
  ·rw[h1] at h;cases h
noncomputable def sd (c:Keyed->Keyed->Bool) (left:Bool) (key x:Keyed):Bool:=if left then c x key else !(c key x)
theorem NA (o:Od c) (h:c y x=false) (hy:sd c left key y=true):sd c left key x=true:=by
 unfold sd at hy ⊢;cases left
 ·simp only [false_eq_true,if_false,not_eq_true'] at hy ⊢;exact o.le_trans h hy
 ·simp only [if_true] at hy ⊢;rcases o.neg y x key hy with g|g
  ·rw[h] at g;cases g
  ·exact g
section
variable {M:Model} {A:Around} {E:Value->Shared->Prop} {s:Shared} {κ:SortKind} {c:Keyed->Keyed->Bool} {P:Keyed->Prop}
theorem jY (C:CO M A E s κ c P) {left:Bool} {x key:Keyed} {st:SortSt} {Q:Option Bool->SortSt->Prop} (hk:kindOf st=κ) (hx:P x) (hy:P key) (q:Q (some (sd c left key x)) st):
  wpS M A E s (if left=true then lt' x key else lt' key x >>=λr=>pure (Option.map (λx=>!x) r)) Q st:=by
 cases left
 ·rw[if_neg (by decide)];exact wpS_bind (C key x st _ hy hx hk (wpS_pure q))
 ·rw[if_pos rfl];exact C x key st _ hx hy hk q
noncomputable def Cut (B:Nat->Bool) (n k:Nat):Prop:=k<=n/\(∀i,i<k->B i=true)/\∀i,k<=i->i<n->B i=false
theorem uY (C:CO M A E s κ c P) {left:Bool} {key:Keyed} {arr:Array Keyed} {base n hint:Nat} {st:SortSt} {Q:Option Nat->SortSt->Prop} {B:Nat->Bool} (hk:kindOf st=κ) (hP:∀p∈arr.toList,P p) (hkey:P key) (hb:base+n<=arr.size) (hh:hint<n)
  (hB:∀i x,i<n->arr[base+i]?=some x->B i=sd c left key x) (mono:∀i j,i<=j->j<n->B j=true->B i=true)
  (q:∀k,Cut B n k->Q (some k) st):wpS M A E s (BR left key arr base n hint) Q st:=by
 have mono':∀i j,i<=j->j<n->B i=false->B j=false:=λi j h1 h2 h3=>by
  cases h:B j
  ·rfl
  ·rw[mono i j h1 h2 h] at h3;cases h3
 refine wpS_bind ?_;obtain ⟨x,hx,px⟩:=bU (P:=P) (i:=base+hint) (by lia) hP;refine wpS_bind (aI hx (jY C hk px hkey ?_));rw[<-hB hint x hh hx];cases eb:B hint
 ·dsimp only;rw[if_neg (by decide)];refine wpS_bind (wpS_mono (wpS_forRange (I:=λi c st'=>c.1=none/\st'=st/\c.2.1<=hint/\i+1<=c.2.2/\B (hint - c.2.1)=false) (Q:=λc st'=>c.1=none/\st'=st/\c.2.1<=hint/\B (hint - c.2.1)=false/\(hint+1<=c.2.2\/(c.2.2<=hint/\B (hint - c.2.2)=true))) ?_ (λc st' h=>?_) ⟨rfl,rfl,by dsimp only;lia,by dsimp only;lia,by exact eb⟩) ?_)
  ·rintro i ⟨c1,lf,of⟩ st' _ hi ⟨rfl,rfl,h1,h2,h3⟩;dsimp only at h1 h2 h3 ⊢;refine aC (λg=>?_) λg=>?_
   ·exact wpS_pure ⟨rfl,rfl,h1,h3,.inl g⟩
   ·refine wpS_bind ?_;obtain ⟨x,hx,px⟩:=bU (P:=P) (i:=base+(hint - of)) (by lia) hP;refine wpS_bind (aI hx (jY C hk px hkey ?_));rw[<-hB _ x (by lia) hx];cases e2:B (hint - of)
    ·exact wpS_pure ⟨rfl,rfl,by dsimp only;lia,by dsimp only;lia,e2⟩
    ·exact wpS_pure ⟨rfl,rfl,h1,h3,.inr ⟨by dsimp only;lia,e2⟩⟩
  ·obtain ⟨e1,e2,e3,e4,e5⟩:=h;exact ⟨e1,e2,e3,e5,.inl (by lia)⟩
  ·rintro ⟨c1,lf,of⟩ st' ⟨rfl,rfl,h1,h2,h3⟩;dsimp only at h1 h2 h3 ⊢;have lo1:∀i,i<hint+1 - min of (hint+1)->B i=true:=λi hi=>by
    rcases h3 with h3|⟨h3,h4⟩
    ·lia
    ·exact mono i (hint - of) (by lia) (by lia) h4
   have hi1:∀i,hint - lf<=i->i<n->B i=false:=λi h4 h5=>mono' (hint - lf) i h4 h5 h2;have hle:hint - lf<=n:=by lia
   refine wpS_bind (wpS_mono (wpS_forRange (I:=λi c st''=>c.1=none/\st''=st'/\c.2.2<=n/\c.2.2 - c.2.1<=n - i/\(∀i,i<c.2.1->B i=true)/\∀i,c.2.2<=i->i<n->B i=false) (Q:=λc st''=>c.1=none/\st''=st'/\Cut B n c.2.2) ?_ (λc st' h=>?_) ⟨rfl,rfl,hle,by dsimp only;lia,lo1,hi1⟩) ?_)
   ·rintro i ⟨c1,lo,hi⟩ st'' _ hi0 ⟨rfl,rfl,k1,k2,k3,k4⟩;dsimp only at k1 k2 k3 k4 ⊢;refine aC (λg=>?_) λg=>?_
    ·exact wpS_pure ⟨rfl,rfl,k1,λi h=>k3 i (by dsimp only at h;lia),k4⟩
    ·refine wpS_bind ?_;obtain ⟨x,hx,px⟩:=bU (P:=P) (i:=base+(lo+(hi - lo) / 2)) (by lia) hP;refine wpS_bind (aI hx (jY C hk px hkey ?_));rw[<-hB _ x (by lia) hx];cases e2:B (lo+(hi - lo) / 2)
     ·exact wpS_pure ⟨rfl,rfl,by dsimp only;lia,by dsimp only;lia,k3,λi h5 h6=>mono' _ i h5 h6 e2⟩
     ·exact wpS_pure ⟨rfl,rfl,k1,by dsimp only;lia,λi h5=>mono i _ (by dsimp only at h5;lia) (by lia) e2,k4⟩
   ·obtain ⟨e1,e2,k1,k2,k3,k4⟩:=h;exact ⟨e1,e2,k1,λi h=>k3 i (by lia),k4⟩
   ·rintro ⟨c1,lo,hi⟩ st'' ⟨rfl,rfl,hn⟩;exact wpS_pure (q _ hn)
 ·dsimp only;rw[if_pos rfl];refine wpS_bind (wpS_mono (wpS_forRange (I:=λi c st'=>c.1=none/\st'=st/\hint+c.2.1<n/\i+1<=c.2.2/\B (hint+c.2.1)=true) (Q:=λc st'=>c.1=none/\st'=st/\hint+c.2.1<n/\B (hint+c.2.1)=true/\(n - hint<=c.2.2\/(hint+c.2.2<n/\B (hint+c.2.2)=false))) ?_ (λc st' h=>?_) ⟨rfl,rfl,by dsimp only;lia,by dsimp only;lia,by exact eb⟩) ?_)
  ·rintro i ⟨c1,lf,of⟩ st' _ hi ⟨rfl,rfl,h1,h2,h3⟩;dsimp only at h1 h2 h3 ⊢;refine aC (λg=>?_) λg=>?_
   ·exact wpS_pure ⟨rfl,rfl,h1,h3,.inl g⟩
   ·refine wpS_bind ?_;obtain ⟨x,hx,px⟩:=bU (P:=P) (i:=base+(hint+of)) (by lia) hP;refine wpS_bind (aI hx (jY C hk px hkey ?_));rw[<-hB _ x (by lia) hx];cases e2:B (hint+of)
    ·exact wpS_pure ⟨rfl,rfl,h1,h3,.inr ⟨by dsimp only;lia,e2⟩⟩
    ·exact wpS_pure ⟨rfl,rfl,by dsimp only;lia,by dsimp only;lia,e2⟩
  ·obtain ⟨e1,e2,e3,e4,e5⟩:=h;exact ⟨e1,e2,e3,e5,.inl (by lia)⟩
  ·rintro ⟨c1,lf,of⟩ st' ⟨rfl,rfl,h1,h2,h3⟩;dsimp only at h1 h2 h3 ⊢;have lo1:∀i,i<hint+lf+1->B i=true:=λi hi=>mono i (hint+lf) (by lia) h1 h2;have hi1:∀i,hint+min of (n - hint)<=i->i<n->B i=false:=λi h4 h5=>by
    rcases h3 with h3|⟨h3,h6⟩
    ·lia
    ·exact mono' (hint+of) i (by lia) h5 h6
   have hle:hint+min of (n - hint)<=n:=by lia
   refine wpS_bind (wpS_mono (wpS_forRange (I:=λi c st''=>c.1=none/\st''=st'/\c.2.2<=n/\c.2.2 - c.2.1<=n - i/\(∀i,i<c.2.1->B i=true)/\∀i,c.2.2<=i->i<n->B i=false) (Q:=λc st''=>c.1=none/\st''=st'/\Cut B n c.2.2) ?_ (λc st' h=>?_) ⟨rfl,rfl,hle,by dsimp only;lia,lo1,hi1⟩) ?_)
   ·rintro i ⟨c1,lo,hi⟩ st'' _ hi0 ⟨rfl,rfl,k1,k2,k3,k4⟩;dsimp only at k1 k2 k3 k4 ⊢;refine aC (λg=>?_) λg=>?_
    ·exact wpS_pure ⟨rfl,rfl,k1,λi h=>k3 i (by dsimp only at h;lia),k4⟩
    ·refine wpS_bind ?_;obtain ⟨x,hx,px⟩:=bU (P:=P) (i:=base+(lo+(hi - lo) / 2)) (by lia) hP;refine wpS_bind (aI hx (jY C hk px hkey ?_));rw[<-hB _ x (by lia) hx];cases e2:B (lo+(hi - lo) / 2)
     ·exact wpS_pure ⟨rfl,rfl,by dsimp only;lia,by dsimp only;lia,k3,λi h5 h6=>mono' _ i h5 h6 e2⟩
     ·exact wpS_pure ⟨rfl,rfl,k1,by dsimp only;lia,λi h5=>mono i _ (by dsimp only at h5;lia) (by lia) e2,k4⟩
   ·obtain ⟨e1,e2,k1,k2,k3,k4⟩:=h;exact ⟨e1,e2,k1,λi h=>k3 i (by lia),k4⟩
   ·rintro ⟨c1,lo,hi⟩ st'' ⟨rfl,rfl,hn⟩;exact wpS_pure (q _ hn)
end
end So
namespace So
open PySem PySem.Spec PyProof.Rows
noncomputable abbrev Pw (c:Keyed->Keyed->Bool) (l:List Keyed):Prop:=l.Pairwise λx y=>c y x=false
noncomputable def Bf (c:Keyed->Keyed->Bool) (left:Bool) (key:Keyed) (l:List Keyed) (i:Nat):Bool:=match l[i]? with
 |some x=>sd c left key x
 |none=>false
section
variable {M:Model} {A:Around} {E:Value->Shared->Prop} {s:Shared} {κ:SortKind} {c:Keyed->Keyed->Bool} {P:Keyed->Prop}
theorem zF (h:Pw c l) {i j:Nat} (hij:i<j) (hx:l[i]?=some x) (hy:l[j]?=some y):c y x=false:=by
 obtain ⟨h1,e1⟩:=List.getElem?_eq_some_iff.mp hx;obtain ⟨h2,e2⟩:=List.getElem?_eq_some_iff.mp hy;have:=List.pairwise_iff_getElem.mp h i j h1 h2 hij;rwa [e1,e2] at this
theorem bL (o:Od c) (C:CO M A E s κ c P) {left:Bool} {key:Keyed} {arr:Array Keyed} {base n hint:Nat} {st:SortSt} {Q:Option Nat->SortSt->Prop} {l:List Keyed} (hk:kindOf st=κ) (hP:∀p∈arr.toList,P p) (hkey:P key) (hb:base+n<=arr.size) (hh:hint<n)
  (hl:l=(arr.toList.drop base).take n) (hw:Pw c l) (q:∀k,k<=n->(∀x∈l.take k,sd c left key x=true)->(∀x∈l.drop k,sd c left key x=false)->Q (some k) st):wpS M A E s (BR left key arr base n hint) Q st:=by
 have ll:l.length=n:=by rw[hl,length_take,length_drop,length_toList];lia
 have lg:∀i,i<n->l[i]?=arr[base+i]?:=λi hi=>by rw[hl,getElem?_take,if_pos hi,getElem?_drop,getElem?_toList]
 refine uY C (B:=Bf c left key l) hk hP hkey hb hh (λi x hi hx=>?_) (λi j hij hj e=>?_) λk ⟨k1,k2,k3⟩=>q k k1 (λx hx=>?_) λx hx=>?_
 ·unfold Bf;rw[lg i hi,hx]
 ·unfold Bf at e ⊢;have hjx:l[j]?=some l[j]:=getElem?_eq_getElem (by lia);have hix:l[i]?=some l[i]:=getElem?_eq_getElem (by lia);rw[hjx] at e;rw[hix];by_cases h:i=j
  ·subst h;exact e
  ·exact NA o (zF hw (by lia) hix hjx) e
 ·obtain ⟨i,hi⟩:=getElem?_of_mem hx;have hik:i<k:=by
   have:=(List.getElem?_eq_some_iff.mp hi).1;rw[length_take] at this;lia
  rw[getElem?_take,if_pos hik] at hi;have:=k2 i hik;unfold Bf at this;rwa [hi] at this
 ·obtain ⟨i,hi⟩:=getElem?_of_mem hx;rw[getElem?_drop] at hi;have hik:k+i<n:=by
   have:=(List.getElem?_eq_some_iff.mp hi).1;lia
  have:=k3 (k+i) (by lia) hik;unfold Bf at this;rwa [hi] at this
structure Pn (c:Keyed->Keyed->Bool) (a b out:Array Keyed) (ia ib:Nat):Prop where
 pm:Pm a b out ia ib
 so:Pw c out.toList
 oa:∀x∈out.toList,∀y∈a.toList.drop ia,c y x=false
 ob:∀x∈out.toList,∀y∈b.toList.drop ib,c y x=false
section
variable {a b out:Array Keyed} {ia ib:Nat}
theorem gY {l:List Keyed} {i j:Nat} {x:Keyed} (h:i<=j) (hx:x∈l.drop j):x∈l.drop i:=by
 obtain ⟨d,rfl⟩:=Nat.exists_eq_add_of_le h;rw[<-drop_drop] at hx;exact mem_of_mem_drop hx
theorem Pn.done (h:Pn c a b out ia ib) (ha:Pw c a.toList) (hb:Pw c b.toList) (he:a.size<=ia\/b.size<=ib):Pw c (out++a.extract ia++b.extract ib).toList:=by
 rw[toList_append,toList_append,iO,iO,List.append_assoc];rcases he with he|he
 ·rw[drop_eq_nil_of_le (by rw[length_toList];exact he),nil_append];exact pairwise_append.mpr ⟨h.so,hb.drop,h.ob⟩
 ·rw[drop_eq_nil_of_le (as:=b.toList) (by rw[length_toList];exact he),append_nil];exact pairwise_append.mpr ⟨h.so,ha.drop,h.oa⟩
theorem Pn.last (h:Pn c a b out ia ib) (ha:Pw c a.toList) (hb:Pw c b.toList) (hl:∀x∈b.toList.drop ib,∀y∈a.toList.drop ia,c y x=false):Pw c (out++b.extract ib++a.extract ia).toList:=by
 rw[toList_append,toList_append,iO,iO,List.append_assoc];refine pairwise_append.mpr ⟨h.so,pairwise_append.mpr ⟨hb.drop,ha.drop,hl⟩,λx hx y hy=>?_⟩;rcases mem_append.mp hy with hy|hy
 ·exact h.ob x hx y hy
 ·exact h.oa x hx y hy
theorem Pn.ea (h:Pn c a b out ia ib) (ha:Pw c a.toList) {k:Nat} (hk:ia+k<=a.size) (hx:∀x∈(a.toList.drop ia).take k,∀y∈b.toList.drop ib,c y x=false):Pn c a b (out++a.extract ia (ia+k)) (ia+k) ib:=by
 have e2:(a.extract ia (ia+k)).toList=(a.toList.drop ia).take k:=by
  rw[toList_extract,extract_eq_take_drop]
  congr 1
  lia
 have e3:(a.toList.drop ia).drop k=a.toList.drop (ia+k):=drop_drop;have had:Pw c (a.toList.drop ia):=ha.drop;refine ⟨h.pm.ea hk,?_,λx hx' y hy=>?_,λx hx' y hy=>?_⟩
 ·rw[toList_append,e2];exact pairwise_append.mpr ⟨h.so,had.take,λx hx' y hy=>h.oa x hx' y (mem_of_mem_take hy)⟩
 ·rw[toList_append,e2] at hx';rcases mem_append.mp hx' with hx'|hx'
  ·exact h.oa x hx' y (gY (by lia) hy)
  ·have hs:=had;rw[<-take_append_drop k (a.toList.drop ia)] at hs;exact (pairwise_append.mp hs).2.2 x hx' y (by rw[e3];exact hy)
 ·rw[toList_append,e2] at hx';rcases mem_append.mp hx' with hx'|hx'
  ·exact h.ob x hx' y hy
  ·exact hx x hx' y hy
theorem Pn.eb (h:Pn c a b out ia ib) (hb:Pw c b.toList) {k:Nat} (hk:ib+k<=b.size) (hx:∀x∈(b.toList.drop ib).take k,∀y∈a.toList.drop ia,c y x=false):Pn c a b (out++b.extract ib (ib+k)) ia (ib+k):=by
 have e2:(b.extract ib (ib+k)).toList=(b.toList.drop ib).take k:=by
  rw[toList_extract,extract_eq_take_drop]
  congr 1
  lia
 have e3:(b.toList.drop ib).drop k=b.toList.drop (ib+k):=drop_drop;have had:Pw c (b.toList.drop ib):=hb.drop;refine ⟨h.pm.eb hk,?_,λx hx' y hy=>?_,λx hx' y hy=>?_⟩
 ·rw[toList_append,e2];exact pairwise_append.mpr ⟨h.so,had.take,λx hx' y hy=>h.ob x hx' y (mem_of_mem_take hy)⟩
 ·rw[toList_append,e2] at hx';rcases mem_append.mp hx' with hx'|hx'
  ·exact h.oa x hx' y hy
  ·exact hx x hx' y hy
 ·rw[toList_append,e2] at hx';rcases mem_append.mp hx' with hx'|hx'
  ·exact h.ob x hx' y (gY (by lia) hy)
  ·have hs:=had;rw[<-take_append_drop k (b.toList.drop ib)] at hs;exact (pairwise_append.mp hs).2.2 x hx' y (by rw[e3];exact hy)
theorem nF (hx:a[i]?=some x):a.extract i (i+1)=#[x]:=by
 have h:=BL hx;apply ext';rw[cE,take_one hx,List.drop_append,drop_eq_nil_of_le (by rw[length_take,length_toList];lia),nil_append,length_take,length_toList,show i - min i a.size=0 by lia];rfl
theorem Pn.pa (h:Pn c a b out ia ib) (ha:Pw c a.toList) (hx:a[ia]?=some x) (hl:∀y∈b.toList.drop ib,c y x=false):Pn c a b (out.push x) (ia+1) ib:=by
 have:=h.ea ha (k:=1) (BL hx) λz hz y hy=>by
  rw[drop_one hx] at hz;have e:z=x:=by simpa using hz
  rw[e];exact hl y hy
 rw[nF hx] at this;rwa [<-Array.push_eq_append] at this
theorem Pn.pb (h:Pn c a b out ia ib) (hb:Pw c b.toList) (hx:b[ib]?=some x) (hl:∀y∈a.toList.drop ia,c y x=false):Pn c a b (out.push x) ia (ib+1):=by
 have:=h.eb hb (k:=1) (BL hx) λz hz y hy=>by
  rw[drop_one hx] at hz;have e:z=x:=by simpa using hz
  rw[e];exact hl y hy
 rw[nF hx] at this;rwa [<-Array.push_eq_append] at this
end
end
end So
namespace So
open PySem PySem.Spec PyProof.Rows
section
variable {M:Model} {A:Around} {E:Value->Shared->Prop} {s:Shared} {κ:SortKind} {c:Keyed->Keyed->Bool} {P:Keyed->Prop}
theorem Od.irr (o:Od c) (x:Keyed):c x x=false:=by
 cases h:c x x
 ·rfl
 ·have:=o.as x x h;rw[h] at this;cases this
theorem low (o:Od c) {b:Array Keyed} (hb:Pw c b.toList) {i:Nat} {x:Keyed} (hx:b[i]?=some x):∀y∈b.toList.drop i,c y x=false:=λy hy=>by
 have hd:Pw c (b.toList.drop i):=hb.drop;rw[drop_one hx] at hd hy;rcases mem_cons.mp hy with e|hy
 ·rw[e];exact o.irr x
 ·exact (pairwise_cons.mp hd).1 y hy
theorem yG (a:Array Keyed) (i:Nat):a.toList.drop i=(a.toList.drop i).take (a.size - i):=by
 rw[take_of_length_le (by rw[length_drop,length_toList];exact Nat.le_refl _)]
noncomputable def YR (c:Keyed->Keyed->Bool) (a b:Array Keyed) (st:SortSt) (n:Nat) (r:Option (Array Keyed)) (out:Array Keyed) (ia ib:Nat) (st':SortSt):Prop:=
 AM st st'/\((∃z,r=some z/\z.toList.Perm (a.toList++b.toList)/\Pw c z.toList)\/(r=none/\Pn c a b out ia ib/\ia+1<a.size/\ib<b.size/\n<=ia+ib))
theorem sN (o:Od c) (C:CO M A E s κ c P) {a b:Array Keyed} {st:SortSt} {Q:Array Keyed->SortSt->Prop} (hk:kindOf st=κ) (hA:∀p∈a.toList,P p) (hB:∀p∈b.toList,P p) (ha1:1<=a.size) (hb1:1<=b.size) (ha:Pw c a.toList) (hb:Pw c b.toList)
  (h0:∀x y,b[0]?=some x->y∈a.toList->c y x=false) (h9:∀x∈b.toList,∀y∈a.toList.drop (a.size - 1),c y x=false)
  (q:∀out st',AM st st'->out.toList.Perm (a.toList++b.toList)->Pw c out.toList->Q out st'):wpS M A E s (IV a b) Q st:=by
 refine wpS_bind (wpS_lift (wpAny_rule ⟨rfl,?_⟩));obtain ⟨b0,hb0,pb0⟩:=bU (P:=P) (i:=0) (by lia) hB;refine wpS_bind (aI hb0 ?_);have hLast:∀{ia ib:Nat} (_:Nat) (_:ia+1=a.size),∀x∈b.toList.drop ib,∀y∈a.toList.drop ia,c y x=false:=λ{ia ib} _ e x hx y hy=>h9 x (mem_of_mem_drop hx) y (by rw[show a.size - 1=ia by lia];exact hy);have lb0:=low o hb hb0;have p0:Pn c a b #[b0] 0 1:=⟨⟨by lia,by lia,by rw[take_one (i:=0) hb0];exact List.Perm.refl _⟩,pairwise_singleton _ _,λx hx y hy=>by
  have e:x=b0:=by simpa using hx
  rw[e]
  exact h0 b0 y hb0 (mem_of_mem_drop hy),λx hx y hy=>by
  have e:x=b0:=by simpa using hx
  rw[e]
  exact lb0 y (gY (by lia) hy)⟩
 dsimp only;refine aC (λg1=>?_) λg1=>?_
 ·rw[beq_iff_eq] at g1;exact wpS_pure (q _ _ (AM.refl _) p0.pm.done (p0.done ha hb (.inr (by lia))))
 refine aC (λg2=>?_) λg2=>?_
 ·rw[beq_iff_eq] at g2;exact wpS_pure (q _ _ (AM.refl _) p0.pm.last (p0.last ha hb (hLast 0 (by lia))))
 rw[beq_iff_eq] at g1 g2;refine wpS_bind (wpS_get ?_);refine wpS_bind (wpS_mono (wpS_forRange (I:=λx c' st'=>c'.1=none/\YR c a b st (1+x) c'.1 c'.2.1 c'.2.2.1 c'.2.2.2.1 st') (Q:=λc' st'=>YR c a b st (a.size+b.size) c'.1 c'.2.1 c'.2.2.1 c'.2.2.2.1 st') ?_ (λc' st' h=>?_) ⟨rfl,AM.refl _,.inr ⟨rfl,p0,by dsimp only;lia,by dsimp only;lia,by dsimp only;lia⟩⟩) ?_)
 ·rintro x ⟨c1,out,ia,ib,mg⟩ st1 _ hx ⟨rfl,k1,h⟩;dsimp only at h ⊢;obtain ⟨z,e,_⟩|⟨_,pn,ha2,hb2,hn⟩:=h
  ·cases e
  refine wpS_bind (wpS_mono (wpS_forRange (I:=λy c' st'=>c'.1=none/\YR c a b st (1+x+min y 1) c'.1 c'.2.1 c'.2.2.1 c'.2.2.2.1 st') (Q:=λc' st'=>YR c a b st (2+x) c'.1 c'.2.1 c'.2.2.1 c'.2.2.2.1 st') ?_ (λc' st' h=>?_) ⟨rfl,k1,.inr ⟨rfl,pn,ha2,hb2,by dsimp only;lia⟩⟩) ?_)
  ·rintro y ⟨c1,out,ia,ib,ac,bc⟩ st2 _ hy ⟨rfl,k2,h⟩;dsimp only at h ⊢;obtain ⟨z,e,_⟩|⟨_,pn,ha2,hb2,hn⟩:=h
   ·cases e
   obtain ⟨xb,hxb,pxb⟩:=bU (P:=P) (i:=ib) (by lia) hB;obtain ⟨xa,hxa,pxa⟩:=bU (P:=P) (i:=ia) (by lia) hA;refine wpS_bind (aI hxb (wpS_bind (aI hxa (wpS_bind (C xb xa st2 _ pxb pxa (k2.1.trans hk) ?_)))));dsimp only;have lowA:=low o ha hxa;have lowX:=low o hb hxb;cases ec:c xb xa
   ·rw[if_neg (by decide)];have pn2:=pn.pa ha hxa λy hy=>o.le_trans ec (lowX y hy);refine wpS_bind (aI hxa ?_);refine aC (λg3=>?_) λg3=>?_
    ·rw[beq_iff_eq] at g3;exact wpS_pure ⟨k2,.inl ⟨_,rfl,pn2.pm.last,pn2.last ha hb (hLast 0 (by lia))⟩⟩
    rw[beq_iff_eq] at g3;refine aC (λ_=>?_) λ_=>?_
    ·exact wpS_pure ⟨k2,.inr ⟨rfl,pn2,by dsimp only;lia,hb2,by dsimp only;lia⟩⟩
    ·exact wpS_pure ⟨rfl,k2,.inr ⟨rfl,pn2,by dsimp only;lia,hb2,by dsimp only;lia⟩⟩
   ·rw[if_pos rfl];have pn2:=pn.pb hb hxb λy hy=>o.le_trans (o.as _ _ ec) (lowA y hy);refine wpS_bind (aI hxb ?_);refine aC (λg3=>?_) λg3=>?_
    ·rw[beq_iff_eq] at g3;exact wpS_pure ⟨k2,.inl ⟨_,rfl,pn2.pm.done,pn2.done ha hb (.inr (by lia))⟩⟩
    rw[beq_iff_eq] at g3;refine aC (λ_=>?_) λ_=>?_
    ·exact wpS_pure ⟨k2,.inr ⟨rfl,pn2,ha2,by dsimp only;lia,by dsimp only;lia⟩⟩
    ·exact wpS_pure ⟨rfl,k2,.inr ⟨rfl,pn2,ha2,by dsimp only;lia,by dsimp only;lia⟩⟩
  ·obtain ⟨_,k2,h⟩:=h;refine ⟨k2,h.imp id λ⟨e,pn,ha2,hb2,hn⟩=>⟨e,pn,ha2,hb2,by lia⟩⟩
  ·rintro ⟨c1,out,ia,ib,ac,bc⟩ st2 ⟨k2,h⟩;dsimp only at h ⊢;obtain ⟨z,rfl,hz⟩|⟨rfl,pn,ha2,hb2,hn⟩:=h
   ·exact wpS_pure ⟨k2,.inl ⟨z,rfl,hz⟩⟩
   refine wpS_bind (wpS_lift (wpAny_rule ⟨rfl,?_⟩));refine wpS_bind (wpS_mono (wpS_forRange (I:=λy c' st'=>c'.1=none/\YR c a b st (2+x) c'.1 c'.2.1 c'.2.2.1 c'.2.2.2.1 st') (Q:=λc' st'=>YR c a b st (2+x) c'.1 c'.2.1 c'.2.2.1 c'.2.2.2.1 st') ?_ (λc' st' h=>h.2) ⟨rfl,k2,.inr ⟨rfl,pn,ha2,hb2,hn⟩⟩) ?_)
   ·rintro y ⟨c1,out,ia,ib,mg,ac,bc⟩ st3 _ hy ⟨rfl,k3,h⟩;dsimp only at h ⊢;obtain ⟨z,e,_⟩|⟨_,pn,ha2,hb2,hn⟩:=h
    ·cases e
    obtain ⟨xb,hxb,pxb⟩:=bU (P:=P) (i:=ib) (by lia) hB;refine aC (λ_=>?_) λ_=>?_
    all_goals
     refine wpS_bind (wpS_modify ?_);refine wpS_bind (aI hxb ?_);refine wpS_bind (bL o C (l:=a.toList.drop ia) (k3.1.trans hk) hA pxb (by lia) (by lia) (yG a _) ha.drop λk1' hk1 t1 t2=>?_);dsimp only;have lowX:=low o hb hxb;have pe:∀x∈(a.toList.drop ia).take k1',∀y∈b.toList.drop ib,c y x=false:=λx hx y hy=>by
      have:=t1 x hx;unfold sd at this;rw[if_neg (by decide),not_eq_true'] at this;exact o.le_trans this (lowX y hy)
     have upA':∀y∈a.toList.drop (ia+k1'),c y xb=false:=λy hy=>by
      have:=t2 y (by rw[drop_drop];exact hy);unfold sd at this;rw[if_neg (by decide),Bool.not_eq_false'] at this;exact o.as _ _ this
     refine aC (λ_=>?_) λgz1=>?_
     ·have pnE:=pn.ea ha (k:=k1') (by lia) pe;refine aC (λg1'=>?_) λg1'=>?_
      ·rw[beq_iff_eq] at g1';exact wpS_pure ⟨k3.gal _,.inl ⟨_,rfl,(pnE).pm.last,(pnE).last ha hb (hLast 0 (by lia))⟩⟩
      rw[beq_iff_eq] at g1';refine aC (λg2'=>?_) λg2'=>?_
      ·rw[beq_iff_eq] at g2';exact wpS_pure ⟨k3.gal _,.inl ⟨_,rfl,(pnE).pm.done,(pnE).done ha hb (.inl (by lia))⟩⟩
      rw[beq_iff_eq] at g2';have upA:=upA';have pn1:=pnE;refine wpS_bind (aI hxb ?_);have pn2:=pn1.pb hb hxb upA;refine aC (λg3=>?_) λg3=>?_
      ·rw[beq_iff_eq] at g3;exact wpS_pure ⟨k3.gal _,.inl ⟨_,rfl,(pn2).pm.done,(pn2).done ha hb (.inr (by lia))⟩⟩
      rw[beq_iff_eq] at g3;obtain ⟨xa,hxa,pxa⟩:=bU (P:=P) (i:=ia+k1') (by lia) hA;refine wpS_bind (aI hxa ?_);have lowA:=low o ha hxa;refine wpS_bind (bL o C (l:=b.toList.drop (ib+1)) (k3.1.trans hk) hB pxa (by lia) (by lia) (yG b _) hb.drop λk2 hk2 t1 t2=>?_);dsimp only;refine aC (λ_=>?_) λgz=>?_
      ·have pn2':=pn2.eb hb (k:=k2) (by lia) λx hx y hy=>by
        have:=t1 x hx;unfold sd at this;rw[if_pos rfl] at this;exact o.le_trans (o.as _ _ this) (lowA y hy)
       refine aC (λg5=>?_) λg5=>?_
       ·rw[beq_iff_eq] at g5;exact wpS_pure ⟨k3.gal _,.inl ⟨_,rfl,(pn2').pm.done,(pn2').done ha hb (.inr (by lia))⟩⟩
       rw[beq_iff_eq] at g5;have lowB:∀y∈b.toList.drop (ib+1+k2),c y xa=false:=λy hy=>by
        have:=t2 y (by rw[drop_drop];exact hy);unfold sd at this;rwa [if_pos rfl] at this
       have pn3:=pn2'.pa ha hxa lowB;refine wpS_bind (aI hxa ?_);refine aC (λg6=>?_) λg6=>?_
       ·rw[beq_iff_eq] at g6;exact wpS_pure ⟨k3.gal _,.inl ⟨_,rfl,(pn3).pm.last,(pn3).last ha hb (hLast 0 (by lia))⟩⟩
       rw[beq_iff_eq] at g6;refine aC (λ_=>?_) λ_=>?_
       ·exact wpS_pure ⟨k3.gal _,.inr ⟨rfl,pn3,by dsimp only;lia,by dsimp only;lia,by dsimp only;lia⟩⟩
       ·exact wpS_pure ⟨rfl,k3.gal _,.inr ⟨rfl,pn3,by dsimp only;lia,by dsimp only;lia,by dsimp only;lia⟩⟩
      ·have k0:k2=0:=by lia
       subst k0;have lowB:∀y∈b.toList.drop (ib+1),c y xa=false:=λy hy=>by
        have:=t2 y hy;unfold sd at this;rwa [if_pos rfl] at this
       have pn3:=pn2.pa ha hxa lowB;refine wpS_bind (aI hxa ?_);refine aC (λg6=>?_) λg6=>?_
       ·rw[beq_iff_eq] at g6;exact wpS_pure ⟨k3.gal _,.inl ⟨_,rfl,(pn3).pm.last,(pn3).last ha hb (hLast 0 (by lia))⟩⟩
       rw[beq_iff_eq] at g6;refine aC (λ_=>?_) λ_=>?_
       ·exact wpS_pure ⟨k3.gal _,.inr ⟨rfl,pn3,by dsimp only;lia,by dsimp only;lia,by dsimp only;lia⟩⟩
       ·exact wpS_pure ⟨rfl,k3.gal _,.inr ⟨rfl,pn3,by dsimp only;lia,by dsimp only;lia,by dsimp only;lia⟩⟩
     ·have k0:k1'=0:=by lia
      subst k0;have upA:∀y∈a.toList.drop ia,c y xb=false:=upA';have pn1:=pn;refine wpS_bind (aI hxb ?_);have pn2:=pn1.pb hb hxb upA;refine aC (λg3=>?_) λg3=>?_
      ·rw[beq_iff_eq] at g3;exact wpS_pure ⟨k3.gal _,.inl ⟨_,rfl,(pn2).pm.done,(pn2).done ha hb (.inr (by lia))⟩⟩
      rw[beq_iff_eq] at g3;obtain ⟨xa,hxa,pxa⟩:=bU (P:=P) (i:=ia) (by lia) hA;refine wpS_bind (aI hxa ?_);have lowA:=low o ha hxa;refine wpS_bind (bL o C (l:=b.toList.drop (ib+1)) (k3.1.trans hk) hB pxa (by lia) (by lia) (yG b _) hb.drop λk2 hk2 t1 t2=>?_);dsimp only;refine aC (λ_=>?_) λgz=>?_
      ·have pn2':=pn2.eb hb (k:=k2) (by lia) λx hx y hy=>by
        have:=t1 x hx;unfold sd at this;rw[if_pos rfl] at this;exact o.le_trans (o.as _ _ this) (lowA y hy)
       refine aC (λg5=>?_) λg5=>?_
       ·rw[beq_iff_eq] at g5;exact wpS_pure ⟨k3.gal _,.inl ⟨_,rfl,(pn2').pm.done,(pn2').done ha hb (.inr (by lia))⟩⟩
       rw[beq_iff_eq] at g5;have lowB:∀y∈b.toList.drop (ib+1+k2),c y xa=false:=λy hy=>by
        have:=t2 y (by rw[drop_drop];exact hy);unfold sd at this;rwa [if_pos rfl] at this
       have pn3:=pn2'.pa ha hxa lowB;refine wpS_bind (aI hxa ?_);refine aC (λg6=>?_) λg6=>?_
       ·rw[beq_iff_eq] at g6;exact wpS_pure ⟨k3.gal _,.inl ⟨_,rfl,(pn3).pm.last,(pn3).last ha hb (hLast 0 (by lia))⟩⟩
       rw[beq_iff_eq] at g6;refine aC (λ_=>?_) λ_=>?_
       ·exact wpS_pure ⟨k3.gal _,.inr ⟨rfl,pn3,by dsimp only;lia,by dsimp only;lia,by dsimp only;lia⟩⟩
       ·exact wpS_pure ⟨rfl,k3.gal _,.inr ⟨rfl,pn3,by dsimp only;lia,by dsimp only;lia,by dsimp only;lia⟩⟩
      ·have k0:k2=0:=by lia
       subst k0;have lowB:∀y∈b.toList.drop (ib+1),c y xa=false:=λy hy=>by
        have:=t2 y hy;unfold sd at this;rwa [if_pos rfl] at this
       have pn3:=pn2.pa ha hxa lowB;refine wpS_bind (aI hxa ?_);refine aC (λg6=>?_) λg6=>?_
       ·rw[beq_iff_eq] at g6;exact wpS_pure ⟨k3.gal _,.inl ⟨_,rfl,(pn3).pm.last,(pn3).last ha hb (hLast 0 (by lia))⟩⟩
       rw[beq_iff_eq] at g6;refine aC (λ_=>?_) λ_=>?_
       ·exact wpS_pure ⟨k3.gal _,.inr ⟨rfl,pn3,by dsimp only;lia,by dsimp only;lia,by dsimp only;lia⟩⟩
       ·exact wpS_pure ⟨rfl,k3.gal _,.inr ⟨rfl,pn3,by dsimp only;lia,by dsimp only;lia,by dsimp only;lia⟩⟩
   ·rintro ⟨c1,out,ia,ib,mg,ac,bc⟩ st3 ⟨k3,h⟩;dsimp only at h ⊢;obtain ⟨z,rfl,hz⟩|⟨rfl,pn,ha2,hb2,hn⟩:=h
    ·exact wpS_pure ⟨k3,.inl ⟨z,rfl,hz⟩⟩
    ·refine wpS_bind (wpS_modify ?_);exact wpS_pure ⟨rfl,k3.gal _,.inr ⟨rfl,pn,ha2,hb2,by dsimp only;lia⟩⟩
 ·obtain ⟨e,k1,h⟩:=h;exact ⟨k1,h.imp id λ⟨e,pn,ha2,hb2,hn⟩=>⟨e,pn,ha2,hb2,by lia⟩⟩
 ·rintro ⟨c1,out,ia,ib,mg⟩ st1 ⟨k1,h⟩;dsimp only at h ⊢;obtain ⟨z,rfl,hz1,hz2⟩|⟨rfl,pn,ha2,hb2,hn⟩:=h
  ·exact wpS_pure (q _ _ k1 hz1 hz2)
  ·lia
end
end So
namespace So
open PySem PySem.Spec PyProof.Rows
section
variable {M:Model} {A:Around} {E:Value->Shared->Prop} {s:Shared} {κ:SortKind} {c:Keyed->Keyed->Bool} {P:Keyed->Prop}
theorem high (o:Od c) {b:Array Keyed} (hb:Pw c b.toList) {i:Nat} {x:Keyed} (h1:1<=i) (hx:b[i - 1]?=some x):∀y∈b.toList.take i,c x y=false:=λy hy=>by
 have hd:Pw c (b.toList.take i):=hb.take;have e:=take_one hx;rw[show i - 1+1=i by lia] at e;rw[e] at hd hy;rcases mem_append.mp hy with hy|hy
 ·exact (pairwise_append.mp hd).2.2 y hy x (mem_singleton.mpr rfl)
 ·have e2:y=x:=by simpa using hy
  rw[e2];exact o.irr x
structure Pu (c:Keyed->Keyed->Bool) (a b out:Array Keyed) (na nb:Nat):Prop where
 ph:Ph a b out na nb
 so:Pw c out.reverse.toList
 oa:∀x∈out.toList,∀y∈a.toList.take na,c x y=false
 ob:∀x∈out.toList,∀y∈b.toList.take nb,c x y=false
section
variable {a b out:Array Keyed} {na nb:Nat}
theorem eL (h:x∈out.reverse.toList):x∈out.toList:=by
 rw[toList_reverse] at h;exact List.mem_reverse.mp h
theorem Pu.done (h:Pu c a b out na nb) (ha:Pw c a.toList) (hb:Pw c b.toList) (he:na=0\/nb=0):Pw c (a.extract 0 na++b.extract 0 nb++out.reverse).toList:=by
 rw[toList_append,toList_append,EM,EM];rcases he with he|he
 ·rw[he,take_zero,nil_append];exact pairwise_append.mpr ⟨hb.take,h.so,λy hy x hx=>h.ob x (eL hx) y hy⟩
 ·rw[he,take_zero,append_nil];exact pairwise_append.mpr ⟨ha.take,h.so,λy hy x hx=>h.oa x (eL hx) y hy⟩
theorem Pu.first (h:Pu c a b out na nb) (ha:Pw c a.toList) (hb:Pw c b.toList) (hl:∀x∈b.toList.take nb,∀y∈a.toList.take na,c y x=false):Pw c (b.extract 0 nb++a.extract 0 na++out.reverse).toList:=by
 rw[toList_append,toList_append,EM,EM];refine pairwise_append.mpr ⟨pairwise_append.mpr ⟨hb.take,ha.take,hl⟩,h.so,λy hy x hx=>?_⟩;rcases mem_append.mp hy with hy|hy
 ·exact h.ob x (eL hx) y hy
 ·exact h.oa x (eL hx) y hy
theorem BB (out:Array Keyed) (l:Array Keyed):(out++l.reverse).reverse.toList=l.toList++out.reverse.toList:=by
 rw[toList_reverse,toList_append,List.reverse_append,toList_reverse,List.reverse_reverse,toList_reverse]
theorem gW {l:List Keyed} {i j:Nat} {x:Keyed} (h:i<=j) (hx:x∈l.take i):x∈l.take j:=by
 have:(l.take j).take i=l.take i:=by rw[take_take,min_eq_left h]
 rw[<-this] at hx;exact mem_of_mem_take hx
theorem Pu.ea (h:Pu c a b out na nb) (ha:Pw c a.toList) (hk:k<=na) (hx:∀x∈(a.toList.take na).drop k,∀y∈b.toList.take nb,c x y=false):Pu c a b (out++(a.extract k na).reverse) k nb:=by
 have e2:=cE a k na;have had:Pw c (a.toList.take na):=ha.take;have e3:(a.toList.take na).take k=a.toList.take k:=by rw[take_take,min_eq_left hk]
 have mm:∀x,x∈(out++(a.extract k na).reverse).toList->x∈out.toList\/x∈(a.toList.take na).drop k:=λx hx'=>by
  rw[toList_append] at hx';rcases mem_append.mp hx' with hx'|hx'
  ·exact .inl hx'
  ·exact .inr (by rw[<-e2];exact eL hx')
 refine ⟨h.ph.ea hk,?_,λx hx' y hy=>?_,λx hx' y hy=>?_⟩
 ·rw[BB,e2];exact pairwise_append.mpr ⟨had.drop,h.so,λy hy x hx'=>h.oa x (eL hx') y (mem_of_mem_drop hy)⟩
 ·rcases mm x hx' with hx'|hx'
  ·exact h.oa x hx' y (gW hk hy)
  ·have hs:=had;rw[<-take_append_drop k (a.toList.take na)] at hs;exact (pairwise_append.mp hs).2.2 y (by rw[e3];exact hy) x hx'
 ·rcases mm x hx' with hx'|hx'
  ·exact h.ob x hx' y hy
  ·exact hx x hx' y hy
theorem Pu.eb (h:Pu c a b out na nb) (hb:Pw c b.toList) (hk:k<=nb) (hx:∀x∈(b.toList.take nb).drop k,∀y∈a.toList.take na,c x y=false):Pu c a b (out++(b.extract k nb).reverse) na k:=by
 have e2:=cE b k nb;have had:Pw c (b.toList.take nb):=hb.take;have e3:(b.toList.take nb).take k=b.toList.take k:=by rw[take_take,min_eq_left hk]
 have mm:∀x,x∈(out++(b.extract k nb).reverse).toList->x∈out.toList\/x∈(b.toList.take nb).drop k:=λx hx'=>by
  rw[toList_append] at hx';rcases mem_append.mp hx' with hx'|hx'
  ·exact .inl hx'
  ·exact .inr (by rw[<-e2];exact eL hx')
 refine ⟨h.ph.eb hk,?_,λx hx' y hy=>?_,λx hx' y hy=>?_⟩
 ·rw[BB,e2];exact pairwise_append.mpr ⟨had.drop,h.so,λy hy x hx'=>h.ob x (eL hx') y (mem_of_mem_drop hy)⟩
 ·rcases mm x hx' with hx'|hx'
  ·exact h.oa x hx' y hy
  ·exact hx x hx' y hy
 ·rcases mm x hx' with hx'|hx'
  ·exact h.ob x hx' y (gW hk hy)
  ·have hs:=had;rw[<-take_append_drop k (b.toList.take nb)] at hs;exact (pairwise_append.mp hs).2.2 y (by rw[e3];exact hy) x hx'
theorem wB (h1:1<=i) (hx:a[i - 1]?=some x) (out:Array Keyed):out++(a.extract (i - 1) i).reverse=out.push x:=by
 have:=nF hx;rw[show i - 1+1=i by lia] at this;rw[this];rfl
theorem wD (h1:1<=i) (hx:a[i - 1]?=some x) (hz:z∈(a.toList.take i).drop (i - 1)):z=x:=by
 have:=nF hx;rw[show i - 1+1=i by lia] at this;rw[<-cE,this] at hz;simpa using hz
theorem Pu.pa (h:Pu c a b out na nb) (ha:Pw c a.toList) (h1:1<=na) (hx:a[na - 1]?=some x) (hl:∀y∈b.toList.take nb,c x y=false):Pu c a b (out.push x) (na - 1) nb:=by
 have:=h.ea ha (k:=na - 1) (by lia) λz hz y hy=>by
  rw[wD h1 hx hz];exact hl y hy
 rwa [wB h1 hx] at this
theorem Pu.pb (h:Pu c a b out na nb) (hb:Pw c b.toList) (h1:1<=nb) (hx:b[nb - 1]?=some x) (hl:∀y∈a.toList.take na,c x y=false):Pu c a b (out.push x) na (nb - 1):=by
 have:=h.eb hb (k:=nb - 1) (by lia) λz hz y hy=>by
  rw[wD h1 hx hz];exact hl y hy
 rwa [wB h1 hx] at this
end
noncomputable def YQ (c:Keyed->Keyed->Bool) (a b:Array Keyed) (st:SortSt) (n:Nat) (r:Option (Array Keyed)) (out:Array Keyed) (na nb:Nat) (st':SortSt):Prop:=
 AM st st'/\((∃z,r=some z/\z.toList.Perm (a.toList++b.toList)/\Pw c z.toList)\/(r=none/\Pu c a b out na nb/\1<=na/\2<=nb/\na+nb+n<=a.size+b.size))
theorem sO (o:Od c) (C:CO M A E s κ c P) {a b:Array Keyed} {st:SortSt} {Q:Array Keyed->SortSt->Prop} (hk:kindOf st=κ) (hA:∀p∈a.toList,P p) (hB:∀p∈b.toList,P p) (ha1:1<=a.size) (hb1:1<=b.size) (ha:Pw c a.toList) (hb:Pw c b.toList)
  (h0:∀x y,b[0]?=some x->y∈a.toList->c y x=false) (h9:∀x∈b.toList,∀y∈a.toList.drop (a.size - 1),c y x=false)
  (q:∀out st',AM st st'->out.toList.Perm (a.toList++b.toList)->Pw c out.toList->Q out st'):wpS M A E s (IW a b) Q st:=by
 refine wpS_bind (wpS_lift (wpAny_rule ⟨rfl,?_⟩));obtain ⟨a0,ha0,pa0⟩:=bU (P:=P) (i:=a.size - 1) (by lia) hA;refine wpS_bind (aI ha0 ?_);have hFirst:∀{na nb:Nat} (_:Nat) (_:nb=1),∀x∈b.toList.take nb,∀y∈a.toList.take na,c y x=false:=λ{na nb} _ e x hx y hy=>by
  obtain ⟨b0,hb0,_⟩:=bU (P:=P) (i:=0) (by lia) hB;have e2:=take_one hb0;rw[e,e2,take_zero,nil_append] at hx;have e3:x=b0:=by simpa using hx
  rw[e3];exact h0 b0 y hb0 (mem_of_mem_take hy)
 have hi0:=high o ha ha1 ha0;have p0:Pu c a b #[a0] (a.size - 1) b.size:=⟨⟨by lia,by lia,by
  rw[drop_one ha0,drop_eq_nil_of_le (by rw[length_toList];lia),drop_eq_nil_of_le (by rw[length_toList];lia)]
  exact List.Perm.refl _⟩,pairwise_singleton _ _,λx hx y hy=>by
  have e:x=a0:=by simpa using hx
  rw[e]
  exact hi0 y (gW (by lia) hy),λx hx y hy=>by
  have e:x=a0:=by simpa using hx
  rw[e]
  exact h9 y (mem_of_mem_take hy) a0 (by rw[drop_one ha0];exact mem_cons_self)⟩
 dsimp only;refine aC (λg1=>?_) λg1=>?_
 ·rw[beq_iff_eq] at g1;exact wpS_pure (q _ _ (AM.refl _) p0.ph.done (p0.done ha hb (.inl g1)))
 refine aC (λg2=>?_) λg2=>?_
 ·rw[beq_iff_eq] at g2;exact wpS_pure (q _ _ (AM.refl _) p0.ph.first (p0.first ha hb (hFirst 0 g2)))
 rw[beq_iff_eq] at g1 g2;refine wpS_bind (wpS_get ?_);refine wpS_bind (wpS_mono (wpS_forRange (I:=λx c' st'=>c'.1=none/\YQ c a b st (1+x) c'.1 c'.2.2.2.1 c'.2.1 c'.2.2.1 st') (Q:=λc' st'=>YQ c a b st (a.size+b.size) c'.1 c'.2.2.2.1 c'.2.1 c'.2.2.1 st') ?_ (λc' st' h=>?_) ⟨rfl,AM.refl _,.inr ⟨rfl,p0,by dsimp only;lia,by dsimp only;lia,by dsimp only;lia⟩⟩) ?_)
 ·rintro x ⟨c1,na,nb,out,mg⟩ st1 _ hx ⟨rfl,k1,h⟩;dsimp only at h ⊢;obtain ⟨z,e,_⟩|⟨_,pn,ha2,hb2,hn⟩:=h
  ·cases e
  have la:=pn.ph.la;have lb:=pn.ph.lb;refine wpS_bind (wpS_mono (wpS_forRange (I:=λy c' st'=>c'.1=none/\YQ c a b st (1+x+min y 1) c'.1 c'.2.2.2.1 c'.2.1 c'.2.2.1 st') (Q:=λc' st'=>YQ c a b st (2+x) c'.1 c'.2.2.2.1 c'.2.1 c'.2.2.1 st') ?_ (λc' st' h=>?_) ⟨rfl,k1,.inr ⟨rfl,pn,ha2,hb2,by dsimp only;lia⟩⟩) ?_)
  ·rintro y ⟨c1,na,nb,out,ac,bc⟩ st2 _ hy ⟨rfl,k2,h⟩;dsimp only at h ⊢;obtain ⟨z,e,_⟩|⟨_,pn,ha2,hb2,hn⟩:=h
   ·cases e
   have la:=pn.ph.la;have lb:=pn.ph.lb;obtain ⟨xb,hxb,pxb⟩:=bU (P:=P) (i:=nb - 1) (by lia) hB;obtain ⟨xa,hxa,pxa⟩:=bU (P:=P) (i:=na - 1) (by lia) hA;refine wpS_bind (aI hxb (wpS_bind (aI hxa (wpS_bind (C xb xa st2 _ pxb pxa (k2.1.trans hk) ?_)))));dsimp only;have hiA:=high o ha ha2 hxa;have hiX:=high o hb (by lia) hxb;cases ec:c xb xa
   ·rw[if_neg (by decide)];have pn2:=pn.pb hb (by lia) hxb λy hy=>o.le_trans (hiA y hy) ec;refine wpS_bind (aI hxb ?_);refine aC (λg3=>?_) λg3=>?_
    ·rw[beq_iff_eq] at g3;exact wpS_pure ⟨k2,.inl ⟨_,rfl,pn2.ph.first,pn2.first ha hb (hFirst 0 (by lia))⟩⟩
    rw[beq_iff_eq] at g3;refine aC (λ_=>?_) λ_=>?_
    ·exact wpS_pure ⟨k2,.inr ⟨rfl,pn2,by dsimp only;lia,by dsimp only;lia,by dsimp only;lia⟩⟩
    ·exact wpS_pure ⟨rfl,k2,.inr ⟨rfl,pn2,by dsimp only;lia,by dsimp only;lia,by dsimp only;lia⟩⟩
   ·rw[if_pos rfl];have pn2:=pn.pa ha ha2 hxa λy hy=>o.le_trans (hiX y hy) (o.as _ _ ec);refine wpS_bind (aI hxa ?_);refine aC (λg3=>?_) λg3=>?_
    ·rw[beq_iff_eq] at g3;exact wpS_pure ⟨k2,.inl ⟨_,rfl,pn2.ph.done,pn2.done ha hb (.inl (by lia))⟩⟩
    rw[beq_iff_eq] at g3;refine aC (λ_=>?_) λ_=>?_
    ·exact wpS_pure ⟨k2,.inr ⟨rfl,pn2,by dsimp only;lia,by dsimp only;lia,by dsimp only;lia⟩⟩
    ·exact wpS_pure ⟨rfl,k2,.inr ⟨rfl,pn2,by dsimp only;lia,by dsimp only;lia,by dsimp only;lia⟩⟩
  ·obtain ⟨_,k2,h⟩:=h;refine ⟨k2,h.imp id λ⟨e,pn,ha2,hb2,hn⟩=>⟨e,pn,ha2,hb2,by lia⟩⟩
  ·rintro ⟨c1,na,nb,out,ac,bc⟩ st2 ⟨k2,h⟩;dsimp only at h ⊢;obtain ⟨z,rfl,hz⟩|⟨rfl,pn,ha2,hb2,hn⟩:=h
   ·exact wpS_pure ⟨k2,.inl ⟨z,rfl,hz⟩⟩
   refine wpS_bind (wpS_lift (wpAny_rule ⟨rfl,?_⟩));refine wpS_bind (wpS_mono (wpS_forRange (I:=λy c' st'=>c'.1=none/\YQ c a b st (2+x) c'.1 c'.2.2.2.1 c'.2.1 c'.2.2.1 st') (Q:=λc' st'=>YQ c a b st (2+x) c'.1 c'.2.2.2.1 c'.2.1 c'.2.2.1 st') ?_ (λc' st' h=>h.2) ⟨rfl,k2,.inr ⟨rfl,pn,ha2,hb2,hn⟩⟩) ?_)
   ·rintro y ⟨c1,na,nb,out,mg,ac,bc⟩ st3 _ hy ⟨rfl,k3,h⟩;dsimp only at h ⊢;obtain ⟨z,e,_⟩|⟨_,pn,ha2,hb2,hn⟩:=h
    ·cases e
    have la:=pn.ph.la;have lb:=pn.ph.lb;obtain ⟨xb,hxb,pxb⟩:=bU (P:=P) (i:=nb - 1) (by lia) hB;refine aC (λ_=>?_) λ_=>?_
    all_goals
     refine wpS_bind (wpS_modify ?_);refine wpS_bind (aI hxb ?_);refine wpS_bind (bL o C (l:=a.toList.take na) (k3.1.trans hk) hA pxb (by lia) (by lia) (by rw[drop_zero]) ha.take λk1' hk1 t1 t2=>?_);dsimp only;have hiX:=high o hb (by lia) hxb;have pe:∀x∈(a.toList.take na).drop k1',∀y∈b.toList.take nb,c x y=false:=λx hx y hy=>by
      have:=t2 x hx;unfold sd at this;rw[if_neg (by decide),Bool.not_eq_false'] at this;exact o.le_trans (hiX y hy) (o.as _ _ this)
     have upA':∀y∈a.toList.take k1',c xb y=false:=λy hy=>by
      have:=t1 y (by rw[take_take,min_eq_left hk1];exact hy);unfold sd at this;rwa [if_neg (by decide),not_eq_true'] at this
     refine aC (λ_=>?_) λgz1=>?_
     ·have pnE:=pn.ea ha (k:=k1') (by lia) pe;refine aC (λg2'=>?_) λg2'=>?_
      ·rw[beq_iff_eq] at g2';exact wpS_pure ⟨k3.gal _,.inl ⟨_,rfl,pnE.ph.done,pnE.done ha hb (.inl (by lia))⟩⟩
      rw[beq_iff_eq] at g2';have upA:=upA';have pn1:=pnE;refine wpS_bind (aI hxb ?_);have pn2:=pn1.pb hb (by lia) hxb upA;refine aC (λg3=>?_) λg3=>?_
      ·rw[beq_iff_eq] at g3;exact wpS_pure ⟨k3.gal _,.inl ⟨_,rfl,pn2.ph.first,pn2.first ha hb (hFirst 0 (by lia))⟩⟩
      rw[beq_iff_eq] at g3;obtain ⟨xa,hxa,pxa⟩:=bU (P:=P) (i:=k1' - 1) (by lia) hA;refine wpS_bind (aI hxa ?_);have hiA:=high o ha (by lia) hxa;refine wpS_bind (bL o C (l:=b.toList.take (nb - 1)) (k3.1.trans hk) hB pxa (by lia) (by lia) (by rw[drop_zero]) hb.take λk2 hk2 t1 t2=>?_);dsimp only;refine aC (λ_=>?_) λgz=>?_
      ·have pn2':=pn2.eb hb (k:=k2) (by lia) λx hx y hy=>by
        have:=t2 x hx;unfold sd at this;rw[if_pos rfl] at this;exact o.le_trans (hiA y hy) this
       refine aC (λg4=>?_) λg4=>?_
       ·rw[beq_iff_eq] at g4;exact wpS_pure ⟨k3.gal _,.inl ⟨_,rfl,pn2'.ph.first,pn2'.first ha hb (hFirst 0 (by lia))⟩⟩
       rw[beq_iff_eq] at g4;refine aC (λg5=>?_) λg5=>?_
       ·rw[beq_iff_eq] at g5;exact wpS_pure ⟨k3.gal _,.inl ⟨_,rfl,pn2'.ph.done,pn2'.done ha hb (.inr (by lia))⟩⟩
       rw[beq_iff_eq] at g5;have upB:∀y∈b.toList.take k2,c xa y=false:=λy hy=>by
        have:=t1 y (by rw[take_take,min_eq_left (by lia)];exact hy);unfold sd at this;rw[if_pos rfl] at this;exact o.as _ _ this
       have pn3:=pn2'.pa ha (by lia) hxa upB;refine wpS_bind (aI hxa ?_);refine aC (λg6=>?_) λg6=>?_
       ·rw[beq_iff_eq] at g6;exact wpS_pure ⟨k3.gal _,.inl ⟨_,rfl,pn3.ph.done,pn3.done ha hb (.inl (by lia))⟩⟩
       rw[beq_iff_eq] at g6;refine aC (λ_=>?_) λ_=>?_
       ·exact wpS_pure ⟨k3.gal _,.inr ⟨rfl,pn3,by dsimp only;lia,by dsimp only;lia,by dsimp only;lia⟩⟩
       ·exact wpS_pure ⟨rfl,k3.gal _,.inr ⟨rfl,pn3,by dsimp only;lia,by dsimp only;lia,by dsimp only;lia⟩⟩
      ·have k0:k2=nb - 1:=by lia
       subst k0;have upB:∀y∈b.toList.take (nb - 1),c xa y=false:=λy hy=>by
        have:=t1 y (by rw[take_take,min_eq_left (by lia)];exact hy);unfold sd at this;rw[if_pos rfl] at this;exact o.as _ _ this
       have pn3:=pn2.pa ha (by lia) hxa upB;refine wpS_bind (aI hxa ?_);refine aC (λg6=>?_) λg6=>?_
       ·rw[beq_iff_eq] at g6;exact wpS_pure ⟨k3.gal _,.inl ⟨_,rfl,pn3.ph.done,pn3.done ha hb (.inl (by lia))⟩⟩
       rw[beq_iff_eq] at g6;refine aC (λ_=>?_) λ_=>?_
       ·exact wpS_pure ⟨k3.gal _,.inr ⟨rfl,pn3,by dsimp only;lia,by dsimp only;lia,by dsimp only;lia⟩⟩
       ·exact wpS_pure ⟨rfl,k3.gal _,.inr ⟨rfl,pn3,by dsimp only;lia,by dsimp only;lia,by dsimp only;lia⟩⟩
     ·have k0:k1'=na:=by lia
      subst k0;have upA:=upA';have pn1:=pn;refine wpS_bind (aI hxb ?_);have pn2:=pn1.pb hb (by lia) hxb upA;refine aC (λg3=>?_) λg3=>?_
      ·rw[beq_iff_eq] at g3;exact wpS_pure ⟨k3.gal _,.inl ⟨_,rfl,pn2.ph.first,pn2.first ha hb (hFirst 0 (by lia))⟩⟩
      rw[beq_iff_eq] at g3;obtain ⟨xa,hxa,pxa⟩:=bU (P:=P) (i:=k1' - 1) (by lia) hA;refine wpS_bind (aI hxa ?_);have hiA:=high o ha (by lia) hxa;refine wpS_bind (bL o C (l:=b.toList.take (nb - 1)) (k3.1.trans hk) hB pxa (by lia) (by lia) (by rw[drop_zero]) hb.take λk2 hk2 t1 t2=>?_);dsimp only;refine aC (λ_=>?_) λgz=>?_
      ·have pn2':=pn2.eb hb (k:=k2) (by lia) λx hx y hy=>by
        have:=t2 x hx;unfold sd at this;rw[if_pos rfl] at this;exact o.le_trans (hiA y hy) this
       refine aC (λg4=>?_) λg4=>?_
       ·rw[beq_iff_eq] at g4;exact wpS_pure ⟨k3.gal _,.inl ⟨_,rfl,pn2'.ph.first,pn2'.first ha hb (hFirst 0 (by lia))⟩⟩
       rw[beq_iff_eq] at g4;refine aC (λg5=>?_) λg5=>?_
       ·rw[beq_iff_eq] at g5;exact wpS_pure ⟨k3.gal _,.inl ⟨_,rfl,pn2'.ph.done,pn2'.done ha hb (.inr (by lia))⟩⟩
       rw[beq_iff_eq] at g5;have upB:∀y∈b.toList.take k2,c xa y=false:=λy hy=>by
        have:=t1 y (by rw[take_take,min_eq_left (by lia)];exact hy);unfold sd at this;rw[if_pos rfl] at this;exact o.as _ _ this
       have pn3:=pn2'.pa ha (by lia) hxa upB;refine wpS_bind (aI hxa ?_);refine aC (λg6=>?_) λg6=>?_
       ·rw[beq_iff_eq] at g6;exact wpS_pure ⟨k3.gal _,.inl ⟨_,rfl,pn3.ph.done,pn3.done ha hb (.inl (by lia))⟩⟩
       rw[beq_iff_eq] at g6;refine aC (λ_=>?_) λ_=>?_
       ·exact wpS_pure ⟨k3.gal _,.inr ⟨rfl,pn3,by dsimp only;lia,by dsimp only;lia,by dsimp only;lia⟩⟩
       ·exact wpS_pure ⟨rfl,k3.gal _,.inr ⟨rfl,pn3,by dsimp only;lia,by dsimp only;lia,by dsimp only;lia⟩⟩
      ·have k0:k2=nb - 1:=by lia
       subst k0;have upB:∀y∈b.toList.take (nb - 1),c xa y=false:=λy hy=>by
        have:=t1 y (by rw[take_take,min_eq_left (by lia)];exact hy);unfold sd at this;rw[if_pos rfl] at this;exact o.as _ _ this
       have pn3:=pn2.pa ha (by lia) hxa upB;refine wpS_bind (aI hxa ?_);refine aC (λg6=>?_) λg6=>?_
       ·rw[beq_iff_eq] at g6;exact wpS_pure ⟨k3.gal _,.inl ⟨_,rfl,pn3.ph.done,pn3.done ha hb (.inl (by lia))⟩⟩
       rw[beq_iff_eq] at g6;refine aC (λ_=>?_) λ_=>?_
       ·exact wpS_pure ⟨k3.gal _,.inr ⟨rfl,pn3,by dsimp only;lia,by dsimp only;lia,by dsimp only;lia⟩⟩
       ·exact wpS_pure ⟨rfl,k3.gal _,.inr ⟨rfl,pn3,by dsimp only;lia,by dsimp only;lia,by dsimp only;lia⟩⟩
   ·rintro ⟨c1,na,nb,out,mg,ac,bc⟩ st3 ⟨k3,h⟩;dsimp only at h ⊢;obtain ⟨z,rfl,hz⟩|⟨rfl,pn,ha2,hb2,hn⟩:=h
    ·exact wpS_pure ⟨k3,.inl ⟨z,rfl,hz⟩⟩
    ·refine wpS_bind (wpS_modify ?_);exact wpS_pure ⟨rfl,k3.gal _,.inr ⟨rfl,pn,ha2,hb2,by dsimp only;lia⟩⟩
 ·obtain ⟨e,k1,h⟩:=h;exact ⟨k1,h.imp id λ⟨e,pn,ha2,hb2,hn⟩=>⟨e,pn,ha2,hb2,by lia⟩⟩
 ·rintro ⟨c1,na,nb,out,mg⟩ st1 ⟨k1,h⟩;dsimp only at h ⊢;obtain ⟨z,rfl,hz1,hz2⟩|⟨rfl,pn,ha2,hb2,hn⟩:=h
  ·exact wpS_pure (q _ _ k1 hz1 hz2)
  ·lia
end
end So
namespace So
open PySem PySem.Spec PyProof.Rows
noncomputable def cK (o:KeyKind) (p q:Keyed):Bool:=o.blt ((o.keyOf p.1).getD o.dflt) ((o.keyOf q.1).getD o.dflt)
theorem IF (o:KeyKind):Od (cK o):=⟨λx y h=>KeyOrd.klt_asymm h,λx y z h=>o.negTrans _ _ _ h⟩
noncomputable def fC (o:KeyKind) (arr:Array Keyed) (lo n:Nat):Prop:=∀i j,lo<=i->i<=j->j<lo+n->o.kle (KK o arr i) (KK o arr j)
noncomputable def nH (o:KeyKind) (arr:Array Keyed) (lo n:Nat):Prop:=∀i j,lo<=i->i<=j->j<lo+n->o.kle (KK o arr j) (KK o arr i)
noncomputable def MG (o:KeyKind) (arr:Array Keyed) (i j:Nat):Prop:=∀k,i<=k->k<j->KK o arr k=KK o arr (j - 1)
section
variable {o:KeyKind} {arr:Array Keyed} {lo n:Nat}
theorem fC.ext (h:fC o arr lo n) (h1:1<=n) (he:o.kle (KK o arr (lo+n - 1)) (KK o arr (lo+n))):fC o arr lo (n+1):=λi j a b c=>by
 by_cases hj:j<lo+n
 ·exact h i j a b hj
 ·have ej:j=lo+n:=by lia
  subst ej;by_cases hi:i=lo+n
  ·rw[hi];exact KeyOrd.kle_refl _
  ·exact KeyOrd.kle_trans (h i (lo+n - 1) a (by lia) (by lia)) he
theorem nH.ext (h:nH o arr lo n) (h1:1<=n) (he:o.kle (KK o arr (lo+n)) (KK o arr (lo+n - 1))):nH o arr lo (n+1):=λi j a b c=>by
 by_cases hj:j<lo+n
 ·exact h i j a b hj
 ·have ej:j=lo+n:=by lia
  subst ej;by_cases hi:i=lo+n
  ·rw[hi];exact KeyOrd.kle_refl _
  ·exact KeyOrd.kle_trans he (h i (lo+n - 1) a (by lia) (by lia))
theorem nH.congr (hk:∀k,KK o arr' k=KK o arr k) (h:nH o arr lo n):nH o arr' lo n:=λi j a b c=>by
 rw[hk,hk];exact h i j a b c
theorem MG.ext (h:MG o arr i j) (hij:i<j) (e:KK o arr j=KK o arr (j - 1)):MG o arr i (j+1):=λk a b=>by
 rw[Nat.add_sub_cancel];by_cases hk:k=j
 ·rw[hk]
 ·rw[h k a (by lia),e]
theorem lR:MG o arr (j - (0+1)) j:=λk a b=>by rw[show k=j - 1 by lia]
theorem MG.mir (h:MG o arr i j) (hj:j<=arr.size):∀k,KK o (mirror arr i j ((j - i) / 2)) k=KK o arr k:=λk=>KK_mirror_equal hj h k
theorem dO (hj:j<=arr.size) (hk:k<i):(mirror arr i j ((j - i) / 2))[k]?=arr[k]?:=by
 rw[getElem?_mirror_all hj,if_neg (by lia)]
theorem nH.mir (h:nH o arr lo n) (hj:lo+n<=arr.size):fC o (mirror arr lo (lo+n) ((lo+n - lo) / 2)) lo n:=λi j a b c=>by
 rw[KK_mirror hj,KK_mirror hj,if_pos (by lia),if_pos (by lia)];exact h _ _ (by lia) (by lia) (by lia)
end
section
variable {M:Model} {A:Around} {E:Value->Shared->Prop} {s:Shared} {kd:SortKind} {o:KeyKind} {P:Keyed->Prop} {a₀ a1:Array Keyed} {lo:Nat}
structure Cs (kd:SortKind) (a₀:Array Keyed) (pend:Array (Nat × Nat × Nat)) (a1:Array Keyed) (lo:Nat) (st:SortSt):Prop where
 ba:Ba kd a₀ pend st
 pre:∀i,i<lo->(arrOf st)[i]?=a1[i]?
theorem Cs.set {pend:Array (Nat × Nat × Nat)} {st:SortSt} (h:Cs kd a₀ pend a1 lo st) {xs:Array Keyed} (hp:xs.Perm (arrOf st)) (he:∀i,i<lo->xs[i]?=(arrOf st)[i]?):Cs kd a₀ pend a1 lo (setArr st xs):=⟨h.ba.set hp,λi hi=>(he i hi).trans (h.pre i hi)⟩
theorem cL (C:CO M A E s kd (cK o) P) {pend:Array (Nat × Nat × Nat)} {st:SortSt} {i j:Nat} {Q:Option Bool->SortSt->Prop} (h:Ba kd a₀ pend st) (hP:∀p∈a₀.toList,P p) (hi:i<a₀.size) (hj:j<a₀.size) (q:Q (some (o.blt (KK o (arrOf st) i) (KK o (arrOf st) j))) st):wpS M A E s (ltAt' i j) Q st:=by
 obtain ⟨x,hx,px⟩:=bU (P:=P) (i:=i) (by rw[h.size];exact hi) (h.all hP);obtain ⟨y,hy,py⟩:=bU (P:=P) (i:=j) (by rw[h.size];exact hj) (h.all hP);rw[ltAt'_eq];refine wpS_bind (wpS_get ?_);refine wpS_bind (aI hx (wpS_bind (aI hy (C x y st _ px py h.kind ?_))));have e1:KK o (arrOf st) i=(o.keyOf x.1).getD o.dflt:=by unfold KK;rw[hx]
 have e2:KK o (arrOf st) j=(o.keyOf y.1).getD o.dflt:=by unfold KK;rw[hy]
 rw[e1,e2] at q;exact q
theorem xZ (C:CO M A E s kd (cK o) P) {pend:Array (Nat × Nat × Nat)} {st:SortSt} {nrem:Nat} {Q:Option Nat->SortSt->Prop} (h:Cs kd a₀ pend a1 lo st) (hP:∀p∈a₀.toList,P p) (hl:lo+nrem<=a₀.size) (hr:1<=nrem) (q:∀n st',1<=n->n<=nrem->Cs kd a₀ pend a1 lo st'->fC o (arrOf st') lo n->Q (some n) st'):wpS M A E s (countRun' lo nrem) Q st:=by
 have s0:fC o (arrOf st) lo 1:=λi j a b c=>by
  rw[show i=j by lia];exact KeyOrd.kle_refl _
 refine wpS_bind (wpS_mono (wpS_forRange (I:=λi c st'=>c.1=none/\c.2=i/\Cs kd a₀ pend a1 lo st'/\fC o (arrOf st') lo i) (Q:=λc st'=>c.1=none/\1<=c.2/\c.2<=nrem/\Cs kd a₀ pend a1 lo st'/\fC o (arrOf st') lo c.2/\(c.2<nrem->o.klt (KK o (arrOf st') (lo+c.2)) (KK o (arrOf st') (lo+c.2 - 1)))) ?_ (λc st' ⟨e,e2,h',hs⟩=>⟨e,by lia,by lia,h',by rw[e2];exact hs,λg=>by lia⟩) ⟨rfl,rfl,h,s0⟩) ?_)
 ·rintro i ⟨c1,n⟩ st1 hi1 hi2 ⟨rfl,e,h1,hs⟩;dsimp only at e ⊢;subst e;refine wpS_bind (cL C h1.ba hP (by lia) (by lia) ?_);cases eb:o.blt (KK o (arrOf st1) (lo+n)) (KK o (arrOf st1) (lo+n - 1))
  ·exact wpS_pure ⟨rfl,rfl,h1,hs.ext hi1 eb⟩
  ·exact wpS_pure ⟨rfl,hi1,by dsimp only;lia,h1,hs,λ_=>eb⟩
 ·rintro ⟨c1,n⟩ st1 ⟨rfl,n1,n2,h1,hs,hlt⟩;dsimp only at n1 n2 hs hlt ⊢;refine aC (λ_=>?_) λg=>?_
  ·exact wpS_pure (q _ _ n1 n2 h1 hs)
  rw[beq_iff_eq] at g;have hlt:=hlt (by lia);refine aC (λ_=>?_) λ_=>?_
  ·refine wpS_bind (cL C h1.ba hP (by lia) (by lia) ?_);cases eb:o.blt (KK o (arrOf st1) lo) (KK o (arrOf st1) (lo+n - 1))
   ·dsimp only;rw[if_neg (by decide)];have he:MG o (arrOf st1) lo (lo+n):=λk a b=>KeyOrd.kle_antisymm (hs k (lo+n - 1) a (by lia) (by lia)) (KeyOrd.kle_trans eb (hs lo k (by lia) a b));have hk:=he.mir (by rw[h1.ba.size];lia);refine wpS_bind (wpS_modify ?_);have h2:Cs kd a₀ pend a1 lo (setArr st1 (mirror (arrOf st1) lo (lo+n) ((lo+n - lo) / 2))):=h1.set (mirror_perm _ _ _ _) λi hi=>dO (by rw[h1.ba.size];lia) hi;have ni2:nH o (mirror (arrOf st1) lo (lo+n) ((lo+n - lo) / 2)) lo (n+1):=nH.ext (λi j a b c=>by
     rw[hk,hk,he i a (by lia),he j (by lia) c]
     exact KeyOrd.kle_refl _) n1 (by
     rw[hk,hk]
     exact KeyOrd.kle_of_klt hlt)
    refine wpS_bind (wpS_lift (wpAny_rule ⟨rfl,?_⟩));refine wpS_bind (wpS_mono (wpS_forRange (I:=λi c st'=>c.1=none/\c.2.1=i/\Cs kd a₀ pend a1 lo st'/\nH o (arrOf st') lo i/\c.2.2+1<=i/\MG o (arrOf st') (lo+i - (c.2.2+1)) (lo+i)) (Q:=λc st'=>c.1=none/\1<=c.2.1/\c.2.1<=nrem/\Cs kd a₀ pend a1 lo st'/\nH o (arrOf st') lo c.2.1/\c.2.2+1<=c.2.1/\MG o (arrOf st') (lo+c.2.1 - (c.2.2+1)) (lo+c.2.1)) ?_ (λc st' ⟨e,e2,h',hn',hq,he⟩=>⟨e,by lia,by lia,h',by rw[e2];exact hn',by lia,by rw[e2];exact he⟩) ⟨rfl,rfl,h2,ni2,by dsimp only;lia,by dsimp only;exact lR⟩) ?_)
    ·rintro i ⟨c1,m,neq⟩ st3 hi1 hi2 ⟨rfl,e,h3,ni3,hq3,he3⟩;dsimp only at e hq3 he3 ⊢;subst e;refine wpS_bind (cL C h3.ba hP (by lia) (by lia) ?_);cases eb:o.blt (KK o (arrOf st3) (lo+m)) (KK o (arrOf st3) (lo+m - 1))
     ·dsimp only;rw[if_neg (by decide)];refine wpS_bind (cL C h3.ba hP (by lia) (by lia) ?_);cases eb2:o.blt (KK o (arrOf st3) (lo+m - 1)) (KK o (arrOf st3) (lo+m))
      ·have ee:KK o (arrOf st3) (lo+m)=KK o (arrOf st3) (lo+m - 1):=o.total _ _ eb eb2;refine wpS_pure ⟨rfl,rfl,h3,ni3.ext (by lia) eb2,by dsimp only;lia,?_⟩;dsimp only;rw[show lo+(m+1) - (neq+1+1)=lo+m - (neq+1) by lia];exact he3.ext (by lia) ee
      ·exact wpS_pure ⟨rfl,by dsimp only;lia,by dsimp only;lia,h3,ni3,hq3,he3⟩
     ·dsimp only;rw[if_pos rfl];have ke:o.kle (KK o (arrOf st3) (lo+m)) (KK o (arrOf st3) (lo+m - 1)):=KeyOrd.kle_of_klt eb;refine aC (λ_=>?_) λ_=>?_
      ·refine wpS_bind (wpS_modify ?_);have hk:=he3.mir (by rw[h3.ba.size];lia);refine wpS_pure ⟨rfl,rfl,h3.set (mirror_perm _ _ _ _) λi hi=>dO (by rw[h3.ba.size];lia) (by lia),?_,by dsimp only;lia,by dsimp only;exact lR⟩;exact nH.ext (nH.congr hk ni3) (by lia) (by
        show o.kle (KK o (mirror _ _ _ _) _) (KK o (mirror _ _ _ _) _)
        rw[hk,hk]
        exact ke)
      ·exact wpS_pure ⟨rfl,rfl,h3,ni3.ext (by lia) ke,by dsimp only;lia,by dsimp only;exact lR⟩
    ·rintro ⟨c1,m,neq⟩ st3 ⟨rfl,m1,m2,h3,ni3,hq3,he3⟩;dsimp only at m1 m2 ni3 hq3 he3 ⊢;refine aC (λ_=>?_) λ_=>?_
     ·refine wpS_bind (wpS_modify ?_);have hk:=he3.mir (by rw[h3.ba.size];lia);have h4:Cs kd a₀ pend a1 lo (setArr st3 (mirror (arrOf st3) (lo+m - (neq+1)) (lo+m) ((lo+m - (lo+m - (neq+1))) / 2))):=h3.set (mirror_perm _ _ _ _) λi hi=>dO (by rw[h3.ba.size];lia) (by lia);have ni4:nH o (mirror (arrOf st3) (lo+m - (neq+1)) (lo+m) ((lo+m - (lo+m - (neq+1))) / 2)) lo m:=nH.congr hk ni3;refine wpS_bind (wpS_modify ?_);have h5:Cs kd a₀ pend a1 lo (setArr (setArr st3 (mirror (arrOf st3) (lo+m - (neq+1)) (lo+m) ((lo+m - (lo+m - (neq+1))) / 2))) (mirror (mirror (arrOf st3) (lo+m - (neq+1)) (lo+m) ((lo+m - (lo+m - (neq+1))) / 2)) lo (lo+m) ((lo+m - lo) / 2))):=h4.set (mirror_perm _ _ _ _) λi hi=>dO (by rw[mirror_size,h3.ba.size];lia) (by lia);have sr5:fC o (mirror (mirror (arrOf st3) (lo+m - (neq+1)) (lo+m) ((lo+m - (lo+m - (neq+1))) / 2)) lo (lo+m) ((lo+m - lo) / 2)) lo m:=ni4.mir (by rw[mirror_size,h3.ba.size];lia);refine wpS_bind (wpS_mono (wpS_forRange (I:=λi c st'=>c.1=none/\c.2=i/\Cs kd a₀ pend a1 lo st'/\fC o (arrOf st') lo i) (Q:=λc st'=>c.1=none/\1<=c.2/\c.2<=nrem/\Cs kd a₀ pend a1 lo st'/\fC o (arrOf st') lo c.2) ?_ (λc st' ⟨e,e2,h',hs⟩=>⟨e,by lia,by lia,h',by rw[e2];exact (Nat.max_eq_right m2).symm▸hs⟩) ⟨rfl,rfl,h5,sr5⟩) ?_)
      ·rintro i ⟨c1,n⟩ st6 hi1 hi2 ⟨rfl,e,h6,hs6⟩;dsimp only at e ⊢;subst e;refine wpS_bind (cL C h6.ba hP (by lia) (by lia) ?_);cases eb:o.blt (KK o (arrOf st6) (lo+n)) (KK o (arrOf st6) (lo+n - 1))
       ·exact wpS_pure ⟨rfl,rfl,h6,hs6.ext (by lia) eb⟩
       ·exact wpS_pure ⟨rfl,by dsimp only;lia,by dsimp only;lia,h6,hs6⟩
      ·rintro ⟨c1,n⟩ st6 ⟨rfl,n1,n2,h6,hs6⟩;exact wpS_pure (q _ _ n1 n2 h6 hs6)
     ·refine wpS_bind (wpS_modify ?_);have h5:Cs kd a₀ pend a1 lo (setArr st3 (mirror (arrOf st3) lo (lo+m) ((lo+m - lo) / 2))):=h3.set (mirror_perm _ _ _ _) λi hi=>dO (by rw[h3.ba.size];lia) (by lia);have sr5:fC o (mirror (arrOf st3) lo (lo+m) ((lo+m - lo) / 2)) lo m:=ni3.mir (by rw[h3.ba.size];lia);refine wpS_bind (wpS_mono (wpS_forRange (I:=λi c st'=>c.1=none/\c.2=i/\Cs kd a₀ pend a1 lo st'/\fC o (arrOf st') lo i) (Q:=λc st'=>c.1=none/\1<=c.2/\c.2<=nrem/\Cs kd a₀ pend a1 lo st'/\fC o (arrOf st') lo c.2) ?_ (λc st' ⟨e,e2,h',hs⟩=>⟨e,by lia,by lia,h',by rw[e2];exact (Nat.max_eq_right m2).symm▸hs⟩) ⟨rfl,rfl,h5,sr5⟩) ?_)
      ·rintro i ⟨c1,n⟩ st6 hi1 hi2 ⟨rfl,e,h6,hs6⟩;dsimp only at e ⊢;subst e;refine wpS_bind (cL C h6.ba hP (by lia) (by lia) ?_);cases eb:o.blt (KK o (arrOf st6) (lo+n)) (KK o (arrOf st6) (lo+n - 1))
       ·exact wpS_pure ⟨rfl,rfl,h6,hs6.ext (by lia) eb⟩
       ·exact wpS_pure ⟨rfl,by dsimp only;lia,by dsimp only;lia,h6,hs6⟩
      ·rintro ⟨c1,n⟩ st6 ⟨rfl,n1,n2,h6,hs6⟩;exact wpS_pure (q _ _ n1 n2 h6 hs6)
   ·exact wpS_pure (q _ _ n1 n2 h1 hs)
  ·have h2:=h1;have e1:n=1:=by lia
   have ni2:nH o (arrOf st1) lo (n+1):=nH.ext (λi j a b c=>by
    rw[show i=j by lia]
    exact KeyOrd.kle_refl _) n1 (KeyOrd.kle_of_klt hlt)
   refine wpS_bind (wpS_lift (wpAny_rule ⟨rfl,?_⟩));refine wpS_bind (wpS_mono (wpS_forRange (I:=λi c st'=>c.1=none/\c.2.1=i/\Cs kd a₀ pend a1 lo st'/\nH o (arrOf st') lo i/\c.2.2+1<=i/\MG o (arrOf st') (lo+i - (c.2.2+1)) (lo+i)) (Q:=λc st'=>c.1=none/\1<=c.2.1/\c.2.1<=nrem/\Cs kd a₀ pend a1 lo st'/\nH o (arrOf st') lo c.2.1/\c.2.2+1<=c.2.1/\MG o (arrOf st') (lo+c.2.1 - (c.2.2+1)) (lo+c.2.1)) ?_ (λc st' ⟨e,e2,h',hn',hq,he⟩=>⟨e,by lia,by lia,h',by rw[e2];exact hn',by lia,by rw[e2];exact he⟩) ⟨rfl,rfl,h2,ni2,by dsimp only;lia,by dsimp only;exact lR⟩) ?_)
   ·rintro i ⟨c1,m,neq⟩ st3 hi1 hi2 ⟨rfl,e,h3,ni3,hq3,he3⟩;dsimp only at e hq3 he3 ⊢;subst e;refine wpS_bind (cL C h3.ba hP (by lia) (by lia) ?_);cases eb:o.blt (KK o (arrOf st3) (lo+m)) (KK o (arrOf st3) (lo+m - 1))
    ·dsimp only;rw[if_neg (by decide)];refine wpS_bind (cL C h3.ba hP (by lia) (by lia) ?_);cases eb2:o.blt (KK o (arrOf st3) (lo+m - 1)) (KK o (arrOf st3) (lo+m))
     ·have ee:KK o (arrOf st3) (lo+m)=KK o (arrOf st3) (lo+m - 1):=o.total _ _ eb eb2;refine wpS_pure ⟨rfl,rfl,h3,ni3.ext (by lia) eb2,by dsimp only;lia,?_⟩;dsimp only;rw[show lo+(m+1) - (neq+1+1)=lo+m - (neq+1) by lia];exact he3.ext (by lia) ee
     ·exact wpS_pure ⟨rfl,by dsimp only;lia,by dsimp only;lia,h3,ni3,hq3,he3⟩
    ·dsimp only;rw[if_pos rfl];have ke:o.kle (KK o (arrOf st3) (lo+m)) (KK o (arrOf st3) (lo+m - 1)):=KeyOrd.kle_of_klt eb;refine aC (λ_=>?_) λ_=>?_
     ·refine wpS_bind (wpS_modify ?_);have hk:=he3.mir (by rw[h3.ba.size];lia);refine wpS_pure ⟨rfl,rfl,h3.set (mirror_perm _ _ _ _) λi hi=>dO (by rw[h3.ba.size];lia) (by lia),?_,by dsimp only;lia,by dsimp only;exact lR⟩;exact nH.ext (nH.congr hk ni3) (by lia) (by
       show o.kle (KK o (mirror _ _ _ _) _) (KK o (mirror _ _ _ _) _)
       rw[hk,hk]
       exact ke)
     ·exact wpS_pure ⟨rfl,rfl,h3,ni3.ext (by lia) ke,by dsimp only;lia,by dsimp only;exact lR⟩
   ·rintro ⟨c1,m,neq⟩ st3 ⟨rfl,m1,m2,h3,ni3,hq3,he3⟩;dsimp only at m1 m2 ni3 hq3 he3 ⊢;refine aC (λ_=>?_) λ_=>?_
    ·refine wpS_bind (wpS_modify ?_);have hk:=he3.mir (by rw[h3.ba.size];lia);have h4:Cs kd a₀ pend a1 lo (setArr st3 (mirror (arrOf st3) (lo+m - (neq+1)) (lo+m) ((lo+m - (lo+m - (neq+1))) / 2))):=h3.set (mirror_perm _ _ _ _) λi hi=>dO (by rw[h3.ba.size];lia) (by lia);have ni4:nH o (mirror (arrOf st3) (lo+m - (neq+1)) (lo+m) ((lo+m - (lo+m - (neq+1))) / 2)) lo m:=nH.congr hk ni3;refine wpS_bind (wpS_modify ?_);have h5:Cs kd a₀ pend a1 lo (setArr (setArr st3 (mirror (arrOf st3) (lo+m - (neq+1)) (lo+m) ((lo+m - (lo+m - (neq+1))) / 2))) (mirror (mirror (arrOf st3) (lo+m - (neq+1)) (lo+m) ((lo+m - (lo+m - (neq+1))) / 2)) lo (lo+m) ((lo+m - lo) / 2))):=h4.set (mirror_perm _ _ _ _) λi hi=>dO (by rw[mirror_size,h3.ba.size];lia) (by lia);have sr5:fC o (mirror (mirror (arrOf st3) (lo+m - (neq+1)) (lo+m) ((lo+m - (lo+m - (neq+1))) / 2)) lo (lo+m) ((lo+m - lo) / 2)) lo m:=ni4.mir (by rw[mirror_size,h3.ba.size];lia);refine wpS_bind (wpS_mono (wpS_forRange (I:=λi c st'=>c.1=none/\c.2=i/\Cs kd a₀ pend a1 lo st'/\fC o (arrOf st') lo i) (Q:=λc st'=>c.1=none/\1<=c.2/\c.2<=nrem/\Cs kd a₀ pend a1 lo st'/\fC o (arrOf st') lo c.2) ?_ (λc st' ⟨e,e2,h',hs⟩=>⟨e,by lia,by lia,h',by rw[e2];exact (Nat.max_eq_right m2).symm▸hs⟩) ⟨rfl,rfl,h5,sr5⟩) ?_)
     ·rintro i ⟨c1,n⟩ st6 hi1 hi2 ⟨rfl,e,h6,hs6⟩;dsimp only at e ⊢;subst e;refine wpS_bind (cL C h6.ba hP (by lia) (by lia) ?_);cases eb:o.blt (KK o (arrOf st6) (lo+n)) (KK o (arrOf st6) (lo+n - 1))
      ·exact wpS_pure ⟨rfl,rfl,h6,hs6.ext (by lia) eb⟩
      ·exact wpS_pure ⟨rfl,by dsimp only;lia,by dsimp only;lia,h6,hs6⟩
     ·rintro ⟨c1,n⟩ st6 ⟨rfl,n1,n2,h6,hs6⟩;exact wpS_pure (q _ _ n1 n2 h6 hs6)
    ·refine wpS_bind (wpS_modify ?_);have h5:Cs kd a₀ pend a1 lo (setArr st3 (mirror (arrOf st3) lo (lo+m) ((lo+m - lo) / 2))):=h3.set (mirror_perm _ _ _ _) λi hi=>dO (by rw[h3.ba.size];lia) (by lia);have sr5:fC o (mirror (arrOf st3) lo (lo+m) ((lo+m - lo) / 2)) lo m:=ni3.mir (by rw[h3.ba.size];lia);refine wpS_bind (wpS_mono (wpS_forRange (I:=λi c st'=>c.1=none/\c.2=i/\Cs kd a₀ pend a1 lo st'/\fC o (arrOf st') lo i) (Q:=λc st'=>c.1=none/\1<=c.2/\c.2<=nrem/\Cs kd a₀ pend a1 lo st'/\fC o (arrOf st') lo c.2) ?_ (λc st' ⟨e,e2,h',hs⟩=>⟨e,by lia,by lia,h',by rw[e2];exact (Nat.max_eq_right m2).symm▸hs⟩) ⟨rfl,rfl,h5,sr5⟩) ?_)
     ·rintro i ⟨c1,n⟩ st6 hi1 hi2 ⟨rfl,e,h6,hs6⟩;dsimp only at e ⊢;subst e;refine wpS_bind (cL C h6.ba hP (by lia) (by lia) ?_);cases eb:o.blt (KK o (arrOf st6) (lo+n)) (KK o (arrOf st6) (lo+n - 1))
      ·exact wpS_pure ⟨rfl,rfl,h6,hs6.ext (by lia) eb⟩
      ·exact wpS_pure ⟨rfl,by dsimp only;lia,by dsimp only;lia,h6,hs6⟩
     ·rintro ⟨c1,n⟩ st6 ⟨rfl,n1,n2,h6,hs6⟩;exact wpS_pure (q _ _ n1 n2 h6 hs6)
end
end So
namespace So
open PySem PySem.Spec PyProof.Rows
section
variable {M:Model} {A:Around} {E:Value->Shared->Prop} {s:Shared} {kd:SortKind} {o:KeyKind} {P:Keyed->Prop} {a₀ a1:Array Keyed} {lo:Nat}
theorem VZ (h:fC o arr lo k) (hs:lo+k<arr.size) (hl:l<=k) (h1:∀i,i<l->o.kle (KK o arr (lo+i)) (KK o arr (lo+k))) (h2:∀i,l<=i->i<k->o.kle (KK o arr (lo+k)) (KK o arr (lo+i))):
  fC o (bubble arr (lo+k) (lo+k - (lo+l))) lo (k+1):=λi j a b c=>by
 have e:=λx=>KK_bubble (κ:=o) hs (d:=lo+k - (lo+l)) (by lia) x;rw[show lo+k - (lo+k - (lo+l))=lo+l by lia] at e;rw[e i,e j];by_cases i1:i=lo+l
 ·rw[if_pos i1];by_cases j1:j=lo+l
  ·rw[if_pos j1];exact KeyOrd.kle_refl _
  ·rw[if_neg j1,if_pos (by lia)];have:=h2 (j - 1 - lo) (by lia) (by lia);rwa [show lo+(j - 1 - lo)=j - 1 by lia] at this
 ·rw[if_neg i1];by_cases i2:lo+l<i/\i<=lo+k
  ·rw[if_pos i2,if_neg (by lia),if_pos (by lia)];exact h _ _ (by lia) (by lia) (by lia)
  ·rw[if_neg i2];by_cases j1:j=lo+l
   ·rw[if_pos j1];have:=h1 (i - lo) (by lia);rwa [show lo+(i - lo)=i by lia] at this
   ·rw[if_neg j1];by_cases j2:lo+l<j/\j<=lo+k
    ·rw[if_pos j2];exact h _ _ a (by lia) (by lia)
    ·rw[if_neg j2];exact h _ _ a b (by lia)
theorem QG (hs:src<arr.size) (hd:d<=src) (hk:k<src - d):(bubble arr src d)[k]?=arr[k]?:=by
 rw[getElem?_bubble hs d hd,if_neg (by lia),if_neg (by lia)]
theorem uZ (C:CO M A E s kd (cK o) P) {pend:Array (Nat × Nat × Nat)} {st:SortSt} {n ok:Nat} {Q:Bool->SortSt->Prop} (h:Cs kd a₀ pend a1 lo st) (hP:∀p∈a₀.toList,P p) (hl:lo+n<=a₀.size) (ok1:1<=ok) (hok:ok<=n) (hs:fC o (arrOf st) lo ok) (q:∀st',Cs kd a₀ pend a1 lo st'->fC o (arrOf st') lo n->Q true st'):wpS M A E s (binarySort' lo n ok) Q st:=by
 refine wpS_bind (wpS_mono (wpS_forRange (I:=λk c st'=>c.1=none/\Cs kd a₀ pend a1 lo st'/\fC o (arrOf st') lo k) (Q:=λc st'=>c.1=none/\Cs kd a₀ pend a1 lo st'/\fC o (arrOf st') lo n) ?_ (λc st' ⟨e,h1,h2⟩=>⟨e,h1,by rw[show max (max ok 1) n=n by lia] at h2;exact h2⟩) ⟨rfl,h,by rw[show max ok 1=ok by lia];exact hs⟩) ?_)
 ·rintro k ⟨c1,c2⟩ st1 hk1 hk2 ⟨rfl,h1,s1⟩;dsimp only;have sz:=h1.ba.size;refine wpS_bind (wpS_mono (wpS_forRange (I:=λi c st'=>c.1=none/\st'=st1/\c.2.1<=k/\c.2.2<=k/\c.2.2 - c.2.1<=k - i/\(∀i,i<c.2.1->o.kle (KK o (arrOf st1) (lo+i)) (KK o (arrOf st1) (lo+k)))/\∀i,c.2.2<=i->i<k->o.kle (KK o (arrOf st1) (lo+k)) (KK o (arrOf st1) (lo+i)))
   (Q:=λc st'=>c.1=none/\st'=st1/\c.2.1<=k/\(∀i,i<c.2.1->o.kle (KK o (arrOf st1) (lo+i)) (KK o (arrOf st1) (lo+k)))/\∀i,c.2.1<=i->i<k->o.kle (KK o (arrOf st1) (lo+k)) (KK o (arrOf st1) (lo+i))) ?_ (λc st' ⟨e1,e2,e3,e4,e5,e6,e7⟩=>⟨e1,e2,e3,e6,λi hi=>e7 i (by lia)⟩)
   ⟨rfl,rfl,by dsimp only;lia,by dsimp only;lia,by dsimp only;lia,λi hi=>by dsimp only at hi;lia,λi h5 h6=>by dsimp only at h5;lia⟩) ?_)
  ·rintro i ⟨c1,l,r⟩ st2 _ _ ⟨rfl,rfl,a1',a2,a3,a4,a5⟩;dsimp only at a1' a2 a3 a4 a5 ⊢;refine aC (λg=>?_) λg=>?_
   ·exact wpS_pure ⟨rfl,rfl,a1',a4,λi hi=>a5 i (by dsimp only at hi;lia)⟩
   ·refine wpS_bind (cL C h1.ba hP (by lia) (by lia) ?_);cases eb:o.blt (KK o (arrOf st2) (lo+k)) (KK o (arrOf st2) (lo+(l+r) / 2))
    ·refine wpS_pure ⟨rfl,rfl,by dsimp only;lia,a2,by dsimp only;lia,λi hi=>?_,a5⟩;dsimp only at hi;exact KeyOrd.kle_trans (s1 (lo+i) (lo+(l+r) / 2) (by lia) (by lia) (by lia)) eb
    ·refine wpS_pure ⟨rfl,rfl,a1',by dsimp only;lia,by dsimp only;lia,a4,λi h5 h6=>?_⟩;dsimp only at h5;exact KeyOrd.kle_trans (KeyOrd.kle_of_klt eb) (s1 (lo+(l+r) / 2) (lo+i) (by lia) (by lia) (by lia))
  ·rintro ⟨c1,l,r⟩ st2 ⟨rfl,rfl,b1,b2,b3⟩;dsimp only at b1 b2 b3 ⊢;refine wpS_bind (wpS_modify ?_);exact wpS_pure ⟨rfl,h1.set (bubble_perm _ _ _) λi hi=>QG (by rw[sz];lia) (by lia) (by lia),VZ s1 (by rw[sz];lia) b1 b2 b3⟩
 ·rintro ⟨c1,c2⟩ st1 ⟨rfl,h1,s1⟩;exact wpS_pure (q _ h1 s1)
end
end So
namespace So
open PySem PySem.Spec PyProof.Rows
section
variable {o:KeyKind} {arr:Array Keyed}
theorem fV {lo n i:Nat} (h:i<n):((arr.toList.drop lo).take n)[i]?=arr[lo+i]?:=by
 rw[getElem?_take,if_pos h,getElem?_drop,getElem?_toList]
theorem fC.pw {lo n:Nat} (h:fC o arr lo n):Pw (cK o) ((arr.toList.drop lo).take n):=by
 refine List.pairwise_iff_getElem.mpr λi j hi hj hij=>?_;have hjn:j<n:=by rw[length_take] at hj;lia
 have e1:((arr.toList.drop lo).take n)[i]?=some ((arr.toList.drop lo).take n)[i]:=getElem?_eq_getElem hi;have e2:((arr.toList.drop lo).take n)[j]?=some ((arr.toList.drop lo).take n)[j]:=getElem?_eq_getElem hj;rw[fV (by lia)] at e1;rw[fV hjn] at e2;have:=h (lo+i) (lo+j) (by lia) (by lia) (by lia);unfold KK at this;rw[e1,e2] at this;exact this
theorem Am {lo n:Nat} (hs:lo+n<=arr.size) (h:Pw (cK o) ((arr.toList.drop lo).take n)):fC o arr lo n:=λi j a b c=>by
 by_cases e:i=j
 ·rw[e];exact KeyOrd.kle_refl _
 have h1:i<arr.size:=by lia
 have h2:j<arr.size:=by lia
 have e1:arr[i]?=some arr[i]:=getElem?_pos arr i h1;have e2:arr[j]?=some arr[j]:=getElem?_pos arr j h2;have g1:((arr.toList.drop lo).take n)[i - lo]?=some arr[i]:=by rw[fV (by lia),show lo+(i - lo)=i by lia,e1]
 have g2:((arr.toList.drop lo).take n)[j - lo]?=some arr[j]:=by rw[fV (by lia),show lo+(j - lo)=j by lia,e2]
 have:=zF h (show i - lo<j - lo by lia) g1 g2;unfold KK;rw[e1,e2];exact this
theorem fC.same {lo n:Nat} (h:fC o arr lo n) (e:∀i,lo<=i->i<lo+n->arr'[i]?=arr[i]?):fC o arr' lo n:=λi j a b c=>by
 rw[KK_congr (e i a (by lia)),KK_congr (e j (by lia) c)];exact h i j a b c
end
theorem Runs.after:∀{l:List (Nat × Nat × Nat)} {x y:Nat} {t:Nat × Nat × Nat},Runs x l y->t∈l->x<=t.1/\t.1+t.2.1<=y
 |[],_,_,_,_,h=>nomatch h
 | (s,n,p)::l,x,y,t,⟨h1,h2,h3⟩,ht=>by
  rcases mem_cons.mp ht with e|ht
  ·subst e;have:=h3.le;dsimp only;lia
  ·have:=h3.after ht;lia
theorem Runs.rest:∀{l:List (Nat × Nat × Nat)} {i x y sa na p sb nb p2:Nat},Runs x l y->l[i]?=some (sa,na,p)->l[i+1]?=some (sb,nb,p2)->∀t∈(l.set i (sa,na+nb,p)).eraseIdx (i+1),t=(sa,na+nb,p)\/(t∈l/\(t.1+t.2.1<=sa\/sb+nb<=t.1))
 |[],_,_,_,_,_,_,_,_,_,_,h,_=>by cases h
 |t::[],0,_,_,_,_,_,_,_,_,_,_,h=>by cases h
 |t::u::l,0,x,y,sa,na,p,sb,nb,p2,h,e1,e2=>by
  cases e1;cases e2;obtain ⟨h1,h2,h3,h4,h5⟩:=h;intro t ht;have ht:t∈(sa,na+nb,p)::l:=ht;rcases mem_cons.mp ht with e|ht
  ·exact .inl e
  ·exact .inr ⟨mem_cons_of_mem _ (mem_cons_of_mem _ ht),.inr (by have:=(h5.after ht).1;lia)⟩
 | (s,n,r)::l,i+1,x,y,sa,na,p,sb,nb,p2,⟨h1,h2,h3⟩,e1,e2=>by
  intro t ht;have ht:t∈(s,n,r)::(l.set i (sa,na+nb,p)).eraseIdx (i+1):=ht;rcases mem_cons.mp ht with e|ht
  ·subst e;refine .inr ⟨mem_cons_self,.inl ?_⟩;have:=h3.after (mem_of_getElem? (show l[i]?=some (sa,na,p) from e1));dsimp only at this ⊢;lia
  ·rcases Runs.rest (i:=i) h3 e1 e2 t ht with g|⟨g1,g2⟩
   ·exact .inl g
   ·exact .inr ⟨mem_cons_of_mem _ g1,g2⟩
section
variable {M:Model} {A:Around} {E:Value->Shared->Prop} {s:Shared} {kd:SortKind} {o:KeyKind} {P:Keyed->Prop} {a₀:Array Keyed}
structure Bz (o:KeyKind) (kd:SortKind) (a₀:Array Keyed) (y:Nat) (st:SortSt):Prop where
 perm:(arrOf st).Perm a₀
 failed:failedOf st=none
 kind:kindOf st=kd
 runs:Runs 0 (pendingOf st).toList y
 srt:∀t∈(pendingOf st).toList,fC o (arrOf st) t.1 t.2.1
theorem Bz.size {y:Nat} {st:SortSt} (h:Bz o kd a₀ y st):(arrOf st).size=a₀.size:=h.perm.size_eq
theorem AZ {l:List Keyed} {sa na nb:Nat}:(l.drop sa).take (na+nb)=(l.drop sa).take na++(l.drop (sa+na)).take nb:=by rw[take_add,drop_drop]
theorem NH {arr out:Array Keyed} {sa na nb k m:Nat} (hs:sa+na+nb<=arr.size) (hk:k<=na) (hm:m<=nb) (ho:out.toList.length=na - k+m):
  ((out.toList.zipIdx.foldl (λ(a:Array Keyed) (x:Keyed × Nat)=>a.setIfInBounds (sa+k+x.2) x.1) arr).toList.drop sa).take (na+nb)=((arr.toList.drop sa).take na).take k++(out.toList++((arr.toList.drop (sa+na)).take nb).drop m):=by
 have ll:arr.toList.length=arr.size:=length_toList;rw[kF (sa+k) out.toList 0 arr (by lia),Nat.add_zero,ho,show sa+k+(na - k+m)=sa+na+m by lia];have c1:arr.toList.take (sa+k)=arr.toList.take sa++((arr.toList.drop sa).take na).take k:=by
  rw[take_add,take_take,min_eq_left hk]
 have c2:arr.toList.drop (sa+na+m)=((arr.toList.drop (sa+na)).take nb).drop m++arr.toList.drop (sa+na+nb):=by
  have:=fN (arr.toList.drop (sa+na)) hm;rw[drop_drop,drop_drop] at this;exact this
 rw[c1,c2,List.append_assoc,List.append_assoc,List.drop_left' (by rw[length_take];lia)];have len:(((arr.toList.drop sa).take na).take k++(out.toList++((arr.toList.drop (sa+na)).take nb).drop m)).length=na+nb:=by
  rw[length_append,length_append,ho,length_take,length_take,length_drop,length_drop,length_take,length_drop,ll];lia
 rw[<-List.append_assoc,<-List.append_assoc,List.append_assoc (bs:=out.toList)];exact List.take_left' len
theorem BD {arr out:Array Keyed} {b len j:Nat} (ho:out.toList.length=len) (hs:b+len<=arr.size) (hj:j<b\/b+len<=j):(out.toList.zipIdx.foldl (λ(a:Array Keyed) (x:Keyed × Nat)=>a.setIfInBounds (b+x.2) x.1) arr)[j]?=arr[j]?:=by
 have ll:arr.toList.length=arr.size:=length_toList;rw[<-getElem?_toList,kF b out.toList 0 arr (by lia),Nat.add_zero,ho,<-getElem?_toList];rcases hj with hj|hj
 ·rw[List.append_assoc,getElem?_append_left (by rw[length_take];lia),getElem?_take,if_pos hj]
 ·rw[getElem?_append_right (by rw[length_append,length_take,ho];lia),getElem?_drop,length_append,length_take,ho,ll]
  congr 1
  lia
theorem fR (C:CO M A E s kd (cK o) P) {y i:Nat} {st:SortSt} {Q:Bool->SortSt->Prop} (h:Bz o kd a₀ y st) (hP:∀p∈a₀.toList,P p) (hy:y<=a₀.size) (hi:i+1<(pendingOf st).size) (q:∀st',Bz o kd a₀ y st'->(pendingOf st').size+1=(pendingOf st).size->(∀j,y<=j->(arrOf st')[j]?=(arrOf st)[j]?)->Q true st'):wpS M A E s (mergeAt' i) Q st:=by
 obtain ⟨⟨sa,na,pw⟩,e1⟩:∃t,(pendingOf st)[i]?=some t:=⟨_,getElem?_pos _ i (by lia)⟩;obtain ⟨⟨sb,nb,p2⟩,e2⟩:∃t,(pendingOf st)[i+1]?=some t:=⟨_,getElem?_pos _ (i+1) hi⟩;have l1:(pendingOf st).toList[i]?=some (sa,na,pw):=by rw[getElem?_toList];exact e1
 have l2:(pendingOf st).toList[i+1]?=some (sb,nb,p2):=by rw[getElem?_toList];exact e2
 obtain ⟨g1,g2,g3,g4,g5⟩:=h.runs.two (i:=i) l1 l2;have g6:=h.runs.rest (i:=i) l1 l2;have sz:=h.size;have al:∀p∈(arrOf st).toList,P p:=λp hp=>hP p (h.perm.toList.mem_iff.mp hp);have sA:=h.srt _ (mem_of_getElem? l1);have sB:=h.srt _ (mem_of_getElem? l2);dsimp only at sA sB;have pA:=sA.pw;have pB:=sB.pw;have od:=IF o;have tl:(((pendingOf st).setIfInBounds i (sa,na+nb,pw)).eraseIdxIfInBounds (i+1)).toList=((pendingOf st).toList.set i (sa,na+nb,pw)).eraseIdx (i+1):=by
  rw[Array.toList_eraseIdxIfInBounds,Array.toList_setIfInBounds]
 have hsz1:(((pendingOf st).setIfInBounds i (sa,na+nb,pw)).eraseIdxIfInBounds (i+1)).size+1=(pendingOf st).size:=by
  rw[<-length_toList,tl,List.length_eraseIdx_of_lt (by rw[List.length_set,length_toList];exact hi),List.length_set,length_toList];lia
 have lA:((arrOf st).toList.drop sa).length=(arrOf st).size - sa:=by rw[length_drop,length_toList]
 have fin:∀(st':SortSt) (xs:Array Keyed),arrOf st'=xs->pendingOf st'=((pendingOf st).setIfInBounds i (sa,na+nb,pw)).eraseIdxIfInBounds (i+1)->failedOf st'=none->kindOf st'=kd->xs.Perm (arrOf st)->(∀j,j<sa\/sb+nb<=j->xs[j]?=(arrOf st)[j]?)->Pw (cK o) ((xs.toList.drop sa).take (na+nb))->Q true st':=λst' xs x1 x2 x3 x4 x5 x6 x7=>by
  subst x1;refine q st' ⟨x5.trans h.perm,x3,x4,by rw[x2,tl];exact g5,λt ht=>?_⟩ (by rw[x2];exact hsz1) λj hj=>x6 j (by lia);rw[x2,tl] at ht;rcases g6 t ht with e|⟨m1,m2⟩
  ·rw[e];exact Am (by rw[x5.size_eq];dsimp only;lia) x7
  ·exact (h.srt t m1).same λj j1 j2=>x6 j (by lia)
 have same0:∀j,j<sa\/sb+nb<=j->(arrOf st)[j]?=(arrOf st)[j]?:=λ_ _=>rfl;refine wpS_bind (wpS_get ?_);dsimp only;rw[e1,e2];dsimp only;refine wpS_bind (MM ?_);obtain ⟨b0,hb0,pb0⟩:=bU (P:=P) (i:=sb) (by lia) al;refine wpS_bind (aI hb0 ?_);refine wpS_bind (bL od C (l:=((arrOf st).toList.drop sa).take na) h.kind al pb0 (show sa+na<=(arrOf st).size by lia) (by lia) rfl pA λk hk t1 t2=>?_);dsimp only;have lowB:∀y∈((arrOf st).toList.drop sb).take nb,cK o y b0=false:=λy hy=>by
  have hd:((arrOf st).toList.drop sb).take nb=b0::((arrOf st).toList.drop (sb+1)).take (nb - 1):=by
   rw[drop_one hb0,show nb=nb - 1+1 by lia,take_succ_cons,Nat.add_sub_cancel]
  have pB':=pB;rw[hd] at hy pB';rcases mem_cons.mp hy with e|hy
  ·rw[e];exact od.irr b0
  ·exact (pairwise_cons.mp pB').1 y hy
 have lowA:∀x∈(((arrOf st).toList.drop sa).take na).take k,cK o b0 x=false:=λx hx=>by
  have:=t1 x hx;unfold sd at this;rwa [if_neg (by decide),not_eq_true'] at this
 have upA:∀x∈(((arrOf st).toList.drop sa).take na).drop k,cK o b0 x=true:=λx hx=>by
  have:=t2 x hx;unfold sd at this;rwa [if_neg (by decide),Bool.not_eq_false'] at this
 have lTA:(((arrOf st).toList.drop sa).take na).length=na:=by rw[length_take,lA];lia
 refine aC (λg=>?_) λg=>?_
 ·rw[beq_iff_eq] at g;refine wpS_pure (fin _ (arrOf st) rfl rfl h.failed h.kind (Array.Perm.refl _) same0 ?_);rw[AZ,<-g1];refine pairwise_append.mpr ⟨pA,pB,λx hx y hy=>?_⟩;exact od.le_trans (lowA x (by rw[take_of_length_le (by lia)];exact hx)) (lowB y hy)
 rw[beq_iff_eq] at g;obtain ⟨aL,haL,paL⟩:=bU (P:=P) (i:=sa+k+(na - k) - 1) (by lia) al;refine wpS_bind (aI haL ?_);refine wpS_bind (bL od C (l:=((arrOf st).toList.drop sb).take nb) h.kind al paL (show sb+nb<=(arrOf st).size by lia) (by lia) rfl pB λnb' hnb u1 u2=>?_);dsimp only;have upAL:∀x∈((arrOf st).toList.drop sa).take na,cK o aL x=false:=λx hx=>by
  obtain ⟨j,hj⟩:=getElem?_of_mem hx;have hjn:j<na:=by
   have:=(List.getElem?_eq_some_iff.mp hj).1;lia
  have hl:(((arrOf st).toList.drop sa).take na)[na - 1]?=some aL:=by
   rw[fV (by lia),show sa+(na - 1)=sa+k+(na - k) - 1 by lia];exact haL
  by_cases e:j=na - 1
  ·rw[e,hl] at hj;cases hj;exact od.irr aL
  ·exact zF pA (by lia) hj hl
 have lowU:∀y∈(((arrOf st).toList.drop sb).take nb).take nb',cK o y aL=true:=λy hy=>by
  have:=u1 y hy;unfold sd at this;rwa [if_pos rfl] at this
 have upU:∀y∈(((arrOf st).toList.drop sb).take nb).drop nb',cK o y aL=false:=λy hy=>by
  have:=u2 y hy;unfold sd at this;rwa [if_pos rfl] at this
 refine aC (λg'=>?_) λg'=>?_
 ·rw[beq_iff_eq] at g';subst g';refine wpS_pure (fin _ (arrOf st) rfl rfl h.failed h.kind (Array.Perm.refl _) same0 ?_);rw[AZ,<-g1];refine pairwise_append.mpr ⟨pA,pB,λx hx y hy=>?_⟩;exact od.le_trans (upAL x hx) (upU y hy)
 rw[beq_iff_eq] at g';have eX:((arrOf st).extract (sa+k) sb).toList=(((arrOf st).toList.drop sa).take na).drop k:=by
  rw[cE,g1,<-drop_drop,List.drop_take,Nat.add_sub_cancel_left]
 have eY:((arrOf st).extract sb (sb+nb')).toList=(((arrOf st).toList.drop sb).take nb).take nb':=by
  rw[cE,take_take,min_eq_left hnb,List.drop_take,Nat.add_sub_cancel_left]
 have hX:∀p∈((arrOf st).extract (sa+k) sb).toList,P p:=λp hp=>al p (by
  rw[cE] at hp
  exact mem_of_mem_take (mem_of_mem_drop hp))
 have hY:∀p∈((arrOf st).extract sb (sb+nb')).toList,P p:=λp hp=>al p (by
  rw[cE] at hp
  exact mem_of_mem_take (mem_of_mem_drop hp))
 have pX:Pw (cK o) ((arrOf st).extract (sa+k) sb).toList:=by rw[eX];exact pA.drop
 have pY:Pw (cK o) ((arrOf st).extract sb (sb+nb')).toList:=by rw[eY];exact pB.take
 have c0:∀x y,((arrOf st).extract sb (sb+nb'))[0]?=some x->y∈((arrOf st).extract (sa+k) sb).toList->cK o y x=false:=λx y hx hy=>by
  rw[eX] at hy;have e:x=b0:=by
   rw[<-getElem?_toList,eY,getElem?_take,if_pos (by lia),fV (by lia),Nat.add_zero,hb0] at hx;exact (Option.some.inj hx).symm
  rw[e];exact od.as _ _ (upA y hy)
 have c9:∀x∈((arrOf st).extract sb (sb+nb')).toList,∀y∈((arrOf st).extract (sa+k) sb).toList.drop (((arrOf st).extract (sa+k) sb).size - 1),cK o y x=false:=λx hx y hy=>by
  rw[eY] at hx;have hsx:((arrOf st).extract (sa+k) sb).size=na - k:=by rw[size_extract];lia
  rw[hsx,eX,drop_drop] at hy;have e:y=aL:=by
   obtain ⟨j,hj⟩:=getElem?_of_mem hy;rw[getElem?_drop] at hj;have hjl:=(List.getElem?_eq_some_iff.mp hj).1;rw[fV (by lia),show sa+(k+(na - k - 1)+j)=sa+k+(na - k) - 1 by lia,haL] at hj;exact (Option.some.inj hj).symm
  rw[e];exact od.as _ _ (lowU x hx)
 have lenO:∀{out:Array Keyed},out.toList.Perm (((arrOf st).extract (sa+k) sb).toList++((arrOf st).extract sb (sb+nb')).toList)->out.toList.length=na - k+nb':=λ{out} hp=>by
  rw[hp.length_eq,length_append,length_toList,length_toList,size_extract,size_extract];lia
 have fin2:∀out:Array Keyed,out.toList.Perm (((arrOf st).extract (sa+k) sb).toList++((arrOf st).extract sb (sb+nb')).toList)->Pw (cK o) out.toList->Pw (cK o) (((foldl (λ(a:Array Keyed) (x:Keyed × Nat)=>a.setIfInBounds (sa+k+x.2) x.1) (arrOf st) out.toList.zipIdx).toList.drop sa).take (na+nb)):=λout hp hpw=>by
  have hm:∀z∈out.toList,z∈(((arrOf st).toList.drop sa).take na).drop k\/z∈(((arrOf st).toList.drop sb).take nb).take nb':=λz hz=>by
   have:=hp.mem_iff.mp hz;rw[eX,eY] at this;exact mem_append.mp this
  rw[NH (by lia) hk hnb (lenO hp),<-g1];have pA2:=pA;rw[<-take_append_drop k (((arrOf st).toList.drop sa).take na)] at pA2;have pB2:=pB;rw[<-take_append_drop nb' (((arrOf st).toList.drop sb).take nb)] at pB2;refine pairwise_append.mpr ⟨pA.take,pairwise_append.mpr ⟨hpw,pB.drop,λx hx y hy=>?_⟩,λx hx y hy=>?_⟩
  ·rcases hm x hx with g|g
   ·exact od.le_trans (upAL x (mem_of_mem_drop g)) (upU y hy)
   ·exact (pairwise_append.mp pB2).2.2 x g y hy
  ·rcases mem_append.mp hy with hy|hy
   ·rcases hm y hy with g|g
    ·exact (pairwise_append.mp pA2).2.2 x hx y g
    ·exact od.le_trans (lowA x hx) (lowB y (mem_of_mem_take g))
   ·exact od.le_trans (lowA x hx) (lowB y (mem_of_mem_drop hy))
 refine aC (λ_=>?_) λ_=>?_
 ·refine wpS_bind (sN (IF o) C h.kind hX hY (show 1<=((arrOf st).extract (sa+k) sb).size by rw[size_extract];lia) (show 1<=((arrOf st).extract sb (sb+nb')).size by rw[size_extract];lia) pX pY c0 c9 λout st2 k2 hp hpw=>?_);refine wpS_bind (wpS_modify ?_);refine wpS_bind (wpS_get ?_);obtain ⟨q1,q2,q3,q4⟩:=k2;have hf:failedOf st2=none:=q4.trans h.failed;show wpS M A E s (pure (failedOf st2).isNone) Q _;rw[hf];refine wpS_pure (fin _ (foldl (λ(a:Array Keyed) (x:Keyed × Nat)=>a.setIfInBounds (sa+k+x.2) x.1) (arrOf st2) out.toList.zipIdx) rfl q3 hf (q1.trans h.kind) ?_ ?_ ?_)
  ·rw[q2];exact vS (arr:=arrOf st) (by lia) (by lia) (by lia) hp
  ·intro j hj;rw[q2];exact BD (arr:=arrOf st) (lenO hp) (by lia) (by lia)
  ·rw[q2];exact fin2 out hp hpw
 ·refine wpS_bind (sO (IF o) C h.kind hX hY (show 1<=((arrOf st).extract (sa+k) sb).size by rw[size_extract];lia) (show 1<=((arrOf st).extract sb (sb+nb')).size by rw[size_extract];lia) pX pY c0 c9 λout st2 k2 hp hpw=>?_);refine wpS_bind (wpS_modify ?_);refine wpS_bind (wpS_get ?_);obtain ⟨q1,q2,q3,q4⟩:=k2;have hf:failedOf st2=none:=q4.trans h.failed;show wpS M A E s (pure (failedOf st2).isNone) Q _;rw[hf];refine wpS_pure (fin _ (foldl (λ(a:Array Keyed) (x:Keyed × Nat)=>a.setIfInBounds (sa+k+x.2) x.1) (arrOf st2) out.toList.zipIdx) rfl q3 hf (q1.trans h.kind) ?_ ?_ ?_)
  ·rw[q2];exact vS (arr:=arrOf st) (by lia) (by lia) (by lia) hp
  ·intro j hj;rw[q2];exact BD (arr:=arrOf st) (lenO hp) (by lia) (by lia)
  ·rw[q2];exact fin2 out hp hpw
theorem sP (C:CO M A E s kd (cK o) P) {y i:Nat} {st:SortSt} {Q:Bool->SortSt->Prop} (h:Bz o kd a₀ y st) (hP:∀p∈a₀.toList,P p) (hy:y<=a₀.size) (hi:i+1<(pendingOf st).size) (q:∀st',Bz o kd a₀ y st'->(pendingOf st').size+1=(pendingOf st).size->Q true st'):wpS M A E s (mergeAt' i) Q st:=fR C h hP hy hi λst' h1 h2 _=>q st' h1 h2
end
end So
namespace So
open PySem PySem.Spec PyProof.Rows
theorem Runs.len:∀{l:List (Nat × Nat × Nat)} {x y:Nat},Runs x l y->x+l.length<=y
 |[],x,y,h=>le_of_eq h
 | (s,n,p)::l,x,y,⟨_,h2,h3⟩=>by
  have:=h3.len;rw[length_cons];lia
section
variable {M:Model} {A:Around} {E:Value->Shared->Prop} {s:Shared} {kd:SortKind} {o:KeyKind} {P:Keyed->Prop} {a₀:Array Keyed}
theorem Bz.cs {y:Nat} {st:SortSt} (h:Bz o kd a₀ y st):Cs kd a₀ (pendingOf st) (arrOf st) y st:=⟨⟨h.perm,h.failed,h.kind,rfl⟩,λ_ _=>rfl⟩
theorem Cs.bz {lo:Nat} {st st':SortSt} (h1:Bz o kd a₀ lo st) (h:Cs kd a₀ (pendingOf st) (arrOf st) lo st'):Bz o kd a₀ lo st':=⟨h.ba.perm,h.ba.failed,h.ba.kind,by rw[h.ba.pend];exact h1.runs,λt ht=>by
 rw[h.ba.pend] at ht
 have:=(h1.runs.after ht).2
 exact (h1.srt t ht).same λi _ i2=>h.pre i (by lia)⟩
theorem Bz.push {y n:Nat} {st:SortSt} (h:Bz o kd a₀ y st) (hn:1<=n) (hs:fC o (arrOf st) y n):Bz o kd a₀ (y+n) (setPending st ((pendingOf st).push (y,n,0))):=⟨h.perm,h.failed,h.kind,by
 show Runs 0 ((pendingOf st).push (y,n,0)).toList (y+n)
 rw[toList_push]
 exact h.runs.push hn,λt ht=>by
 have ht:t∈((pendingOf st).push (y,n,0)).toList:=ht
 rw[toList_push] at ht
 rcases mem_append.mp ht with ht|ht
 ·exact h.srt t ht
 ·have e:t=(y,n,0):=by simpa using ht
  rw[e]
  exact hs⟩
theorem mem_modify {l:List (Nat × Nat × Nat)} {i:Nat} {f:Nat × Nat × Nat->Nat × Nat × Nat} {t:Nat × Nat × Nat} (h:t∈l.modify i f):t∈l\/∃u∈l,t=f u:=by
 obtain ⟨j,hj⟩:=getElem?_of_mem h;rw[List.getElem?_modify] at hj;cases e:l[j]? with
 |none=>rw[e] at hj;cases hj
 |some u=>
  rw[e] at hj;have hu:=mem_of_getElem? e;by_cases hij:i=j
  ·exact .inr ⟨u,hu,by simpa [hij] using hj.symm⟩
  ·refine .inl ?_;have:u=t:=by simpa [hij] using hj
   rw[<-this];exact hu
theorem Bz.lastp {y:Nat} {st:SortSt} (h:Bz o kd a₀ y st) (i pw:Nat):Bz o kd a₀ y (setPending st ((pendingOf st).modify i λt=>(t.1,t.2.1,pw))):=⟨h.perm,h.failed,h.kind,by
 show Runs 0 ((pendingOf st).modify i λt=>(t.1,t.2.1,pw)).toList y
 rw[Array.toList_modify]
 exact h.runs.mod λ_=>⟨rfl,rfl⟩,λt ht=>by
 have ht:t∈((pendingOf st).modify i λt=>(t.1,t.2.1,pw)).toList:=ht
 rw[Array.toList_modify] at ht
 rcases mem_modify ht with ht|⟨u,hu,e⟩
 ·exact h.srt t ht
 ·rw[e]
  exact h.srt u hu⟩
theorem qS (C:CO M A E s kd (cK o) P) {st:SortSt} {Q:Unit->SortSt->Prop} (h:Bz o kd a₀ 0 st) (hP:∀p∈a₀.toList,P p) (h2:1<=a₀.size) (q:∀st',(arrOf st').Perm a₀->failedOf st'=none->fC o (arrOf st') 0 a₀.size->Q () st'):wpS M A E s sortRuns' Q st:=by
 refine wpS_bind (wpS_get ?_);have sz:=h.size
 try dsimp only
 rw[show (arrOf st).size=a₀.size from sz];refine wpS_bind (wpS_mono (wpS_forRange (I:=λx c st'=>c.1=none/\c.2<=a₀.size/\min x a₀.size<=c.2/\Bz o kd a₀ c.2 st') (Q:=λc st'=>c.1=none/\c.2=a₀.size/\Bz o kd a₀ c.2 st') ?_ (λc st' ⟨e1,e2,e3,e4⟩=>⟨e1,by lia,e4⟩) ⟨rfl,zero_le _,by dsimp only;lia,h⟩) ?_)
 ·rintro x ⟨c1,lo⟩ st1 _ hx ⟨rfl,hlo,hmn,h1⟩;dsimp only at hlo hmn h1 ⊢;refine aC (λg=>?_) λg=>?_
  ·exact wpS_pure ⟨rfl,by dsimp only;lia,h1⟩
  refine wpS_bind (xZ C h1.cs hP (by lia) (by lia) λn st2 n1 n2 hc2 sr2=>?_)
  try dsimp only
  refine aC (λgm=>?_) λgm=>?_
  ·refine wpS_bind (wpS_lift (wpAny_rule ⟨rfl,?_⟩));refine wpS_bind (uZ C hc2 hP (by lia) n1 (by lia) sr2 λstx hcx srx=>?_);have hx2:=Cs.bz h1 hcx
   try dsimp only
   rw[if_neg (by decide)];revert srx;generalize hnn:min (a₀.size - lo) _=nn;intro srx;have hn1:1<=nn:=by lia
   have hn2:lo+nn<=a₀.size:=by lia
   refine wpS_bind (wpS_get ?_);cases eb:(pendingOf stx).back? with
   |none=>
    try dsimp only
    refine wpS_bind (wpS_modify ?_);refine wpS_pure ⟨rfl,by dsimp only;lia,by dsimp only;lia,hx2.push hn1 srx⟩
   |some t=>
    obtain ⟨s1,m1,p1⟩:=t
    try dsimp only
    refine wpS_bind (wpS_mono (wpS_forRange (I:=λ_ c st'=>c.1=none/\Bz o kd a₀ lo st'/\fC o (arrOf st') lo nn) (Q:=λc st'=>c.1=none/\Bz o kd a₀ lo st'/\fC o (arrOf st') lo nn) ?_ (λ_ _ h=>h) ⟨rfl,hx2,srx⟩) ?_)
    ·rintro i ⟨c1,c2⟩ st3 _ _ ⟨rfl,h3,sr3⟩;refine wpS_bind (wpS_get ?_)
     try dsimp only
     by_cases g:(pendingOf st3).size>1
     ·rw[if_pos g];obtain ⟨⟨u1,u2,u3⟩,eu⟩:∃t,(pendingOf st3)[(pendingOf st3).size - 2]?=some t:=⟨_,getElem?_pos _ _ (by lia)⟩;rw[eu]
      try dsimp only
      refine aC (λ_=>?_) λ_=>?_
      ·exact wpS_pure ⟨rfl,h3,sr3⟩
      ·refine wpS_bind (fR C h3 hP (by lia) (show (pendingOf st3).size - 2+1<(pendingOf st3).size by lia) λst4 h4 _ k4=>?_);exact wpS_pure ⟨rfl,h4,sr3.same λj j1 j2=>k4 j j1⟩
     ·rw[if_neg g];exact wpS_pure ⟨rfl,h3,sr3⟩
    ·rintro ⟨c1,c2⟩ st3 ⟨rfl,h3,sr3⟩
     try dsimp only
     refine wpS_bind (wpS_modify ?_);refine wpS_bind (wpS_modify ?_);exact wpS_pure ⟨rfl,by dsimp only;lia,by dsimp only;lia,(h3.lastp _ _).push hn1 sr3⟩
  ·have hn1:=n1;have hn2:lo+n<=a₀.size:=by lia
   have h2:=Cs.bz h1 hc2;generalize st2=stx at h2 sr2;refine wpS_bind (wpS_get ?_);cases eb:(pendingOf stx).back? with
   |none=>
    try dsimp only
    refine wpS_bind (wpS_modify ?_);refine wpS_pure ⟨rfl,by dsimp only;lia,by dsimp only;lia,h2.push hn1 sr2⟩
   |some t=>
    obtain ⟨s1,m1,p1⟩:=t
    try dsimp only
    refine wpS_bind (wpS_mono (wpS_forRange (I:=λ_ c st'=>c.1=none/\Bz o kd a₀ lo st'/\fC o (arrOf st') lo n) (Q:=λc st'=>c.1=none/\Bz o kd a₀ lo st'/\fC o (arrOf st') lo n) ?_ (λ_ _ h=>h) ⟨rfl,h2,sr2⟩) ?_)
    ·rintro i ⟨c1,c2⟩ st3 _ _ ⟨rfl,h3,sr3⟩;refine wpS_bind (wpS_get ?_)
     try dsimp only
     by_cases g:(pendingOf st3).size>1
     ·rw[if_pos g];obtain ⟨⟨u1,u2,u3⟩,eu⟩:∃t,(pendingOf st3)[(pendingOf st3).size - 2]?=some t:=⟨_,getElem?_pos _ _ (by lia)⟩;rw[eu]
      try dsimp only
      refine aC (λ_=>?_) λ_=>?_
      ·exact wpS_pure ⟨rfl,h3,sr3⟩
      ·refine wpS_bind (fR C h3 hP (by lia) (show (pendingOf st3).size - 2+1<(pendingOf st3).size by lia) λst4 h4 _ k4=>?_);exact wpS_pure ⟨rfl,h4,sr3.same λj j1 j2=>k4 j j1⟩
     ·rw[if_neg g];exact wpS_pure ⟨rfl,h3,sr3⟩
    ·rintro ⟨c1,c2⟩ st3 ⟨rfl,h3,sr3⟩
     try dsimp only
     refine wpS_bind (wpS_modify ?_);refine wpS_bind (wpS_modify ?_);exact wpS_pure ⟨rfl,by dsimp only;lia,by dsimp only;lia,(h3.lastp _ _).push hn1 sr3⟩
 ·rintro ⟨c1,lo⟩ st1 ⟨rfl,hlo,h1⟩;dsimp only at hlo h1 ⊢;subst hlo;have l0:=h1.runs.len;rw[length_toList] at l0;refine wpS_bind (wpS_mono (wpS_forRange (I:=λi c st'=>c.1=none/\Bz o kd a₀ a₀.size st'/\(pendingOf st').size<=max 1 (a₀.size - i)) (Q:=λc st'=>c.1=none/\Bz o kd a₀ a₀.size st'/\(pendingOf st').size<=1) ?_ (λc st' ⟨e1,e2,e3⟩=>⟨e1,e2,by lia⟩) ⟨rfl,h1,by lia⟩) ?_)
  ·rintro i ⟨c1,c2⟩ st3 _ hi3 ⟨rfl,h3,z3⟩;refine wpS_bind (wpS_get ?_)
   try dsimp only
   refine aC (λg=>?_) λg=>?_
   ·exact wpS_pure ⟨rfl,h3,g⟩
   ·have g':¬(pendingOf st3).size<=1:=g;refine wpS_bind (sP C h3 hP (Nat.le_refl _) (VX g') λst4 h4 z4=>?_);exact wpS_pure ⟨rfl,h4,by lia⟩
  ·rintro ⟨c1,c2⟩ st3 ⟨rfl,h3,z3⟩;refine wpS_pure (q _ h3.perm h3.failed ?_);have r3:=h3.runs;have s3:=h3.srt;rw[<-length_toList] at z3;revert r3 s3 z3;generalize (pendingOf st3).toList=l;intro z3 r3 s3
   match l,r3 with
   |[],r3=>
    have:0=a₀.size:=r3;lia
   |[(a,n,p)],⟨e1,_,e3⟩=>
    have e3:0+n=a₀.size:=e3;have:=s3 (a,n,p) mem_cons_self;dsimp only at this;rw[e1] at this;rw[<-e3,zero_add];exact this
   |_::_::_,_=>
    simp only [length_cons] at z3;lia
end
end So
namespace So
open PySem PySem.Spec PyProof.Rows PySem.W PySem.SeqAt
@[reducible] noncomputable def eC (h:Heap):KeyKind where
 α:=List Nat × Int
 blt a b:=if a.1=b.1 then decide (a.2<b.2) else decide (a.1<b.1)
 irrefl a:=by simp
 trans a b c h1 h2:=by
  split at h1<;>split at h2<;>rename_i e1 e2<;>simp only [decide_eq_true_eq] at h1 h2
  ·rw[if_pos (e1.trans e2)];exact decide_eq_true (by lia)
  ·rw[if_neg (by rw[e1];exact e2),e1];exact decide_eq_true h2
  ·rw[if_neg (by rw[<-e2];exact e1),<-e2];exact decide_eq_true h1
  ·have:=List.lt_trans h1 h2;rw[if_neg (λe=>by rw[e] at this;exact List.lt_irrefl _ this)];exact decide_eq_true this
 negTrans a b c h:=by
  by_cases e1:a.1=b.1
  ·by_cases e2:b.1=c.1
   ·rw[if_pos (e1.trans e2)] at h;rw[if_pos e1,if_pos e2];simp only [decide_eq_true_eq] at h ⊢;lia
   ·rw[if_neg (by rw[e1];exact e2),e1] at h;exact .inr (by rw[if_neg e2];exact h)
  ·by_cases e2:b.1=c.1
   ·rw[if_neg (by rw[<-e2];exact e1),<-e2] at h;exact .inl (by rw[if_neg e1];exact h)
   ·rw[if_neg e1,if_neg e2];simp only [decide_eq_true_eq];by_cases hab:a.1<b.1
    ·exact .inl hab
    ·refine .inr ?_;by_cases e3:a.1=c.1
     ·rw[<-e3];by_cases hb:b.1<a.1
      ·exact hb
      ·exact absurd (List.le_antisymm (not_lt.mp hb) (not_lt.mp hab)) e1
     ·rw[if_neg e3] at h;exact List.lt_of_le_of_lt (not_lt.mp hab) (of_decide_eq_true h)
 total a b h1 h2:=by
  by_cases e:a.1=b.1
  ·rw[if_pos e] at h1;rw[if_pos e.symm] at h2;simp only [decide_eq_false_iff_not] at h1 h2;exact Prod.ext e (by lia)
  ·rw[if_neg e] at h1;rw[if_neg (Ne.symm e)] at h2;simp only [decide_eq_false_iff_not] at h1 h2;exact absurd (List.le_antisymm (not_lt.mp h2) (not_lt.mp h1)) e
 keyOf v:=some ((kv h v).1.cps.toList,(kv h v).2)
 dflt:=([],0)
theorem MV {x y:Str} (h:x.cps.toList=y.cps.toList):x=y:=by
 cases x;cases y
 congr
 exact ext' h
theorem CF (h:Heap) (x y:Str) (i j:Int):(eC h).blt (x.cps.toList,i) (y.cps.toList,j)=MJ (x,i) (y,j):=by
 show (if x.cps.toList=y.cps.toList then decide (i<j) else decide (x.cps.toList<y.cps.toList))=if x=y then decide (i<j) else decide (x.cps.toList<y.cps.toList)
 by_cases e:x=y
 ·rw[if_pos e,if_pos (by rw[e])]
 ·rw[if_neg e,if_neg λg=>e (MV g)]
noncomputable def Up (h:Heap) (l:List Value):Prop:=l.Pairwise λu v=>∀x i y j,xV h u x i->xV h v y j->MJ (y,j) (x,i)=false
theorem GD (hl:l.length<2):Up h l:=by
 match l,hl with
 |[],_=>exact Pairwise.nil
 |[a],_=>exact pairwise_singleton _ _
 |_::_::_,hl=>
  simp only [length_cons] at hl;lia
section
variable {prog:Program} {w:World} {A:Around} {E:Value->Shared->Prop} {s:Shared}
theorem EZ:CO (model prog w) A E s (tuples' true) (cK (eC s.heap)) (λp=>∃x i,xV s.heap p.1 x i):=by
 have e:(λp q:Keyed=>MJ (kv s.heap p.1) (kv s.heap q.1))=cK (eC s.heap):=funext λp=>funext λq=>(CF s.heap _ _ _ _).symm;rw[<-e];exact LD
theorem YZ {h h':Heap} {arr:Array Keyed} {vs:List Value} {n:Nat} (hm:∀p∈arr.toList,p.1=p.2/\p.1∈vs) (hn:arr.size=n) (hs:fC (eC h') arr 0 n) (hk:∀v∈vs,∃x i,xV h v x i/\xV h' v x i):Up h (arr.toList.map (·.2)):=by
 refine List.pairwise_iff_getElem.mpr λi j hi hj hij x a y b p1 p2=>?_;rw[length_map,length_toList] at hi hj;rw[List.getElem_map] at p1 p2;have m1:=hm arr.toList[i] (getElem_mem _);have m2:=hm arr.toList[j] (getElem_mem _);obtain ⟨x1,a1,k1,k1'⟩:=hk _ m1.2;obtain ⟨y1,b1,k2,k2'⟩:=hk _ m2.2;rw[<-m1.1] at p1;rw[<-m2.1] at p2;have e1:(x,a)=(x1,a1):=(mB p1).symm.trans (mB k1);have e2:(y,b)=(y1,b1):=(mB p2).symm.trans (mB k2);cases e1;cases e2;have:=hs i j (zero_le _) (by lia) (by lia);have g1:KK (eC h') arr i=(x.cps.toList,a):=by
  unfold KK;rw[getElem?_pos arr i hi];show ((kv h' arr[i].1).1.cps.toList,(kv h' arr[i].1).2)=_;rw[show arr[i]=arr.toList[i] from (Array.getElem_toList ..).symm,mB k1']
 have g2:KK (eC h') arr j=(y.cps.toList,b):=by
  unfold KK;rw[getElem?_pos arr j hj];show ((kv h' arr[j].1).1.cps.toList,(kv h' arr[j].1).2)=_;rw[show arr[j]=arr.toList[j] from (Array.getElem_toList ..).symm,mB k2']
 rw[g1,g2] at this;rw[<-CF h'];exact this
theorem qI {a:Addr} {vs:List Value} {n:Nat} {P:Fin->Shared->Prop} (ho:s.heap.get? a=some (seqObj "list" vs.toArray n)) (hp:∀v∈vs,∃x i,xV s.heap v x i) (hz:vs.length<=sizeLine)
  (h:∀out:Array Value,out.toList.Perm vs->Up s.heap out.toList->P (.done (.ret .none)) {s with heap:=sortedHeap s.heap a vs out}):wpAny (model prog w) A (Builtin.«list.sort» ⟨[.ref a],[]⟩) P E s:=by
 rw[list_sort_plain];have ha:a<s.heap.objs.size:=lt_size ho;refine wpAny_bind (listItems_at ho rfl ?_);refine wpAny_bind (listUpdate_at ho rfl ?_);obtain ⟨e1,ho1⟩:∃e1,(s.heap.update a (Obj.mapSeq λ_=>#[])).get? a=some (seqObj "list" #[] e1):=⟨_,get?_update_seq ho (λ_=>#[])⟩;refine wpAny_bind (seqEpoch_at ho1 rfl ?_);refine wpAny_bind (wpAny_newTuple ?_);refine wpAny_bind (wpAny_newList ?_);refine wpAny_holding ?_;have ho6:(((s.heap.update a (Obj.mapSeq λ_=>#[])).push (seqObj "tuple" vs.toArray 0)).push (seqObj "list" #[] 0)).get? a=some (seqObj "list" #[] e1):=by
  rw[get?_push_ne _ _ _ (by rw[size_push',size_update];exact ne_of_lt (lt_succ_of_lt ha)),get?_push_ne _ _ _ (by rw[size_update];exact ne_of_lt ha)];exact ho1
 have kp:∀b o,s.heap.get? b=some o->o.cls=.type "tuple"->(((s.heap.update a (Obj.mapSeq λ_=>#[])).push (seqObj "tuple" vs.toArray 0)).push (seqObj "list" #[] 0)).get? b=some o:=λb o hb hc=>by
  have hba:b≠a:=by
   rintro rfl;rw[ho] at hb;cases hb;exact absurd (show Value.type "list"=Value.type "tuple" from hc) (by simp)
  have hbl:b<s.heap.objs.size:=lt_size hb;rw[get?_push_ne _ _ _ (by rw[size_push',size_update];exact ne_of_lt (lt_succ_of_lt hbl)),get?_push_ne _ _ _ (by rw[size_update];exact ne_of_lt hbl),Heap.get?_update_ne _ _ _ _ hba];exact hb
 have hp6:∀v∈vs,∃x i,xV (((s.heap.update a (Obj.mapSeq λ_=>#[])).push (seqObj "tuple" vs.toArray 0)).push (seqObj "list" #[] 0)) v x i:=λv hv=>by
  obtain ⟨x,i,e⟩:=hp v hv;exact ⟨x,i,e.keep kp⟩
 show wpAny (model prog w) A _ P E {s with heap:=((s.heap.update a (Obj.mapSeq λ_=>#[])).push (seqObj "tuple" vs.toArray 0)).push (seqObj "list" #[] 0)};dsimp only;have hsz:vs.toArray.size=vs.length:=by simp
 by_cases h2:vs.toArray.size<2
 ·rw[if_pos h2,if_pos h2];refine wpAny_bind (wpAny_pure ?_);rw[StateT.run_pure];refine wpAny_bind (wpAny_pure ?_);dsimp only;refine wpAny_bind (seqEpoch_at ho6 rfl ?_);have pe:((pairsOf vs).map (·.2)).toList=vs:=by
   rw[toList_map,pairsOf_toList];exact List.map_snd_zip (Nat.le_refl _)
  refine wpAny_bind (listUpdate_at ho6 rfl ?_ (hsz2:=by rw[size_map];show (pairsOf vs).size<=_;rw[pairsOf_size];exact Nat.le_succ_of_le hz));simp only [bne_self_eq_false,false_eq_true,if_false];exact wpAny_pure (h _ (List.Perm.of_eq pe) (by rw[show (Array.map (λx=>x.2) (vs.toArray.zip vs.toArray)).toList=vs from pe];exact GD (by lia)))
 ·rw[if_neg h2,if_neg h2];obtain ⟨fs,f1,f2,f3⟩:=AR hp6;refine wpAny_bind (kat_kind f2 (by lia) (λv hv=>by obtain ⟨x,t,rfl⟩:=f3 v hv;exact EB) (by decide) ?_);rw[show (Value.type "str" != Value.type "tuple")=true by decide];refine wpAny_bind (wpAny_mono (qS EZ (a₀:=pairsOf vs) (st:=SortSt.mk' (tuples' true) (vs.toArray.zip vs.toArray) #[] 7 none)
   (Q:=λ_ st'=>(arrOf st').Perm (pairsOf vs)/\failedOf st'=none/\fC (eC (((s.heap.update a (Obj.mapSeq λ_=>#[])).push (seqObj "tuple" vs.toArray 0)).push (seqObj "list" #[] 0))) (arrOf st') 0 (pairsOf vs).size) ⟨Array.Perm.refl _,rfl,rfl,rfl,λt ht=>nomatch ht⟩ (λp hm=>?_) (by rw[pairsOf_size];lia) λst' a1 a2 a3=>⟨a1,a2,a3⟩) ?_ λ_ _ e=>e)
  ·rw[pairsOf_toList] at hm;exact hp6 _ (mem_zip_self hm).2
  ·rintro ⟨⟨⟩,st'⟩ s' ⟨rfl,hpm,hf,hsr⟩;dsimp only;refine wpAny_bind (seqEpoch_at ho6 rfl ?_);have sz:((arrOf st').map (·.2)).size=vs.length:=(size_map ..).trans (hpm.size_eq.trans (pairsOf_size _));refine wpAny_bind (listUpdate_at ho6 rfl ?_ (hsz2:=Nat.le_trans (le_of_eq sz) (Nat.le_succ_of_le hz)));rw[hf];simp only [bne_self_eq_false,false_eq_true,if_false];refine wpAny_pure (h _ ?_ ?_)
   ·rw[toList_map];refine ((Array.perm_iff_toList_perm.mp hpm).map _).trans ?_;rw[pairsOf_toList];exact List.Perm.of_eq (List.map_snd_zip (Nat.le_refl _))
   ·rw[toList_map];refine YZ (vs:=vs) (λp hm=>?_) hpm.size_eq hsr λv hv=>?_
    ·have:=(Array.perm_iff_toList_perm.mp hpm).mem_iff.mp hm;rw[pairsOf_toList] at this;exact mem_zip_self this
    ·obtain ⟨x,i,e⟩:=hp v hv;exact ⟨x,i,e,e.keep kp⟩
theorem yO (hl:s.heap.IsList l vs.toArray) (hp:∀v∈vs,∃x i,xV s.heap v x i) (hz:vs.length<=sizeLine)
  (h:∀out:Array Value,out.toList.Perm vs->Up s.heap out.toList->Q (.ref (s.heap.objs.size+1)) {s with heap:=sortedAll s.heap vs out}):wpAny (model prog w) A (call (.builtin "sorted") [.ref l]) Q E s:=by
 refine Calls.call_function_entry kind_sorted plain_sorted entry_sorted (args_sorted1 _) ?_;unfold Builtin.«sorted»;refine wpAny_bind (m:=checkCount "sorted" 1 1 _) (wpAny_pure ?_);refine wpAny_bind (collect_list hl ?_);refine wpAny_bind (wpAny_newList ?_);have hsz:((s.heap.push (seqObj "list" #[] 0)).update s.heap.objs.size (Obj.mapSeq (·++vs.toArray))).objs.size=s.heap.objs.size+1:=by
  rw[size_update,size_push']
 have hoL:(((s.heap.push (seqObj "list" #[] 0)).update s.heap.objs.size (Obj.mapSeq (·++vs.toArray))).push (seqObj "list" vs.toArray 0)).get? (s.heap.objs.size+1)=some (seqObj "list" vs.toArray 0):=by
  rw[<-hsz];exact get?_push_size _ rfl
 have kp:∀b o,s.heap.get? b=some o->o.cls=.type "tuple"->(((s.heap.push (seqObj "list" #[] 0)).update s.heap.objs.size (Obj.mapSeq (·++vs.toArray))).push (seqObj "list" vs.toArray 0)).get? b=some o:=λb o hb hc=>by
  have hbl:b<s.heap.objs.size:=lt_size hb;rw[get?_push_ne _ _ _ (by rw[hsz];exact ne_of_lt (lt_succ_of_lt hbl)),Heap.get?_update_ne _ _ _ _ (ne_of_lt hbl),get?_push_ne _ _ _ (ne_of_lt hbl)];exact hb
 have hp2:∀v∈vs,∃x i,xV (((s.heap.push (seqObj "list" #[] 0)).update s.heap.objs.size (Obj.mapSeq (·++vs.toArray))).push (seqObj "list" vs.toArray 0)) v x i:=λv hv=>by
  obtain ⟨x,i,e⟩:=hp v hv;exact ⟨x,i,e.keep kp⟩
 show wpAny _ _ _ _ _ {s with heap:=((s.heap.push (seqObj "list" #[] 0)).update s.heap.objs.size (Obj.mapSeq (·++vs.toArray))).push (seqObj "list" vs.toArray 0)};rw[hsz];refine wpAny_bind (wpAny_holding (wpAny_call_entry slot_list_sort ⟨_,hoL,rfl⟩ entry_list_sort (qI hoL hp2 hz λout a1 a2=>⟨_,rfl,?_⟩) (args_list_sort _)));exact wpAny_pure ⟨_,rfl,h out a1 (a2.imp λ{u v} g x i y j p1 p2=>g x i y j (p1.keep kp) (p2.keep kp))⟩
end
end So
namespace L2.Na
open PySem PySem.Spec PyProof.Rows
theorem zU (t:SetTable) (es:Array (Int × Value)) (h:Int) (x:Value):(layNew t es h x).2.1.led=t.led:=by
 unfold layNew;split
 ·show (SetTable.orStandIn _ _).led=_;unfold SetTable.orStandIn;split<;>rfl
 ·rfl
theorem oB (t:SetTable) (es:Array (Int × Value)) (m:Nat):(relayAll t es m).2.1.led=t.led/\(t.plain=false->(relayAll t es m).2.1.plain=false):=by
 unfold relayAll;split
 ·rename_i t' order he;have ht:t'.led=t.led/\t'.plain=t.plain:=by
   unfold SetTable.relaid SetTable.laid at he;cases hl:SetTable.layClean (SetTable.sizeAbove m - 1) (es.map (·.1)) with
   |none=>rw[hl] at he;cases he
   |some owner=>
    rw[hl] at he;cases he;exact ⟨rfl,rfl⟩
  dsimp only;split
  ·exact ⟨ht.1,λz=>ht.2.trans z⟩
  ·exact ⟨rfl,λ_=>rfl⟩
 ·exact ⟨rfl,λ_=>rfl⟩
noncomputable def bY (es:Array (Int × Value)):List Str:=es.toList.map λe=>PyProof.Rows.strOf e.2
noncomputable def eI (prog:Program) (w:World) (bt:Bool) (h:Heap) (a:Addr) (zs:List Str):Prop:=
 ∃(o:Obj) (es:Array (Int × Value)) (ep:Nat) (t:SetTable),h.get? a=some o/\o.ExactSet/\o.data=.set es ep t/\ElemsOf (PySem.strKind prog w) es.toList/\bY es=zs/\zs.Nodup/\es.size<scanBound/\t.fits es.size=true/\t.led=(!bt)/\(es.size≠0->t.plain=false)
section
variable {prog:Program} {w:World} {A:Around} {E:Value->Shared->Prop} {s:Shared} {bt:Bool} {a:Addr}
theorem eI.keep (hS:eI prog w bt h a zs) (k:∀o,h.get? a=some o->h'.get? a=some o):eI prog w bt h' a zs:=by
 obtain ⟨o,es,ep,t,ho,r⟩:=hS;exact ⟨o,es,ep,t,k o ho,r⟩
theorem AY {h:Heap} {o:Obj} {es es':Array (Int × Value)} {ep:Nat} {t t':SetTable} (ho:h.get? a=some o) (hd:o.data=.set es ep t):(h.update a (Obj.putSet es' t')).get? a=some {o with data:=.set es' (ep+1) t'}:=by
 have z:=get?_update_self (Obj.putSet es' t') ho (by rw[putSet_of es' t' hd];rfl);rwa [putSet_of es' t' hd] at z
theorem xC {es:Array (Int × Value)} (hel:ElemsOf (PySem.strKind prog w) es.toList) {e:Int × Value} (he:e∈es.toList) (x:Str):(PySem.strKind prog w).is x e.2=true↔PyProof.Rows.strOf e.2=x:=by
 obtain ⟨⟨k,hk,_⟩,_⟩:=hel e he;obtain ⟨u,hu⟩:=Value.isStrOf_shape hk;constructor
 ·intro h;obtain ⟨u',hu'⟩:=Value.isStrOf_shape (show Value.isStrOf x e.2=true from h);rw[hu'];rfl
 ·intro h;rw[hu] at h;have e1:k=x:=h;rw[<-e1];exact hk
theorem rA {g:Bool->Sem Unit} (hg:∀(b:Bool) (s₁:Shared) (Q':Unit->Shared->Prop),Q' () s₁->wpAny (model prog w) A (g b) Q' E s₁)
  {o:Obj} {es es1:Array (Int × Value)} {ep:Nat} {t t2:SetTable} (ho:s.heap.get? a=some o) (hex:o.ExactSet) (hd:o.data=.set es ep t) (hel:ElemsOf (PySem.strKind prog w) es1.toList) (nd:(bY es1).Nodup)
  (hb:es1.size<scanBound) (hf:t2.fits es1.size=true) (hl:t2.led=!bt) (hp:t2.plain=false) {wd:Bool} {R:Option Bool->Shared->Prop}
  (h:∀h' zs,SameBut a s.heap h'->eI prog w bt h' a zs->List.Perm zs (bY es1)->R (some true) {s with heap:=h'}):
  wpAny (model prog w) A (do
    storeSet a es1 t2
    if (!wd&&t2.tooFull)=true then do
      g (relayAll t2 es1 (SetTable.grown es1.size)).2.2
      storeSet a (relayAll t2 es1 (SetTable.grown es1.size)).1 (relayAll t2 es1 (SetTable.grown es1.size)).2.1
      pure (some true)
     else pure (some true)) R E s:=by
 refine wpAny_bind (wpAny_storeSet_of ho hd ?_ (fits_of_scanBound hb));have g1:=AY (es':=es1) (t':=t2) ho hd;have sb1:=SameBut.update s.heap a (Obj.putSet es1 t2);split
 ·obtain ⟨l3,p3⟩:=oB t2 es1 (SetTable.grown es1.size);have pm:=relayAll_perm t2 es1 (SetTable.grown es1.size);have f3:=relayAll_fits t2 es1 (SetTable.grown es1.size);revert l3 p3 pm f3;generalize relayAll t2 es1 (SetTable.grown es1.size)=r;obtain ⟨es2,t3,gv⟩:=r;intro l3 p3 pm f3;have sz:es2.size=es1.size:=by rw[<-length_toList,<-length_toList];exact pm.length_eq
  have pk:List.Perm (bY es2) (bY es1):=pm.map _;refine wpAny_bind (hg _ _ _ ?_);refine wpAny_bind (wpAny_storeSet_of g1 rfl ?_ (fits_of_scanBound (by show es2.size<scanBound;rw[sz];exact hb)));refine wpAny_pure (h _ (bY es2) (sb1.trans (SameBut.update _ a _)) ?_ pk);exact ⟨_,es2,_,t3,AY g1 rfl,hex,rfl,hel.perm pm,rfl,pk.nodup_iff.mpr nd,by rw[sz];exact hb,f3,l3.trans hl,λ_=>p3 hp⟩
 ·exact wpAny_pure (h _ (bY es1) sb1 ⟨_,es1,_,t2,g1,hex,rfl,hel,rfl,nd,hb,hf,hl,λ_=>hp⟩ (List.Perm.refl _))
theorem HD {zs:List Str} {x:Str} {tk:Tok} {Q:Bool->Shared->Prop} (hS:eI prog w bt s.heap a zs) (hroom:zs.length+1<scanBound)
  (h:∀h' zs' b,SameBut a s.heap h'->eI prog w bt h' a zs'->(∀y,y∈zs'↔y∈zs\/y=x)->zs'.length<=zs.length+1->Q b {s with heap:=h',toks:=s.toks+1}):
  wpAny (model prog w) A (setAdd a (.str x tk)) Q E s:=by
 obtain ⟨o,es,ep,t,ho,hex,hd,hel,rfl,nd,hb,hf,hl,hp⟩:=hS;have hlen:(bY es).length=es.size:=by unfold bY;rw[length_map,length_toList]
 have hkey:(PySem.strKind prog w).is x (.str x tk)=true:=by show Value.isStrOf x (.str x tk)=true;simp [Value.isStrOf]
 have hsc:(Value.str x tk).scannable=true:=rfl;unfold setAdd;refine wpAny_holding (wpAny_bind ((PySem.strKind prog w).pyHash hkey ?_));unfold setAddHashed setAddHashedIn;refine wpAny_holding (wpAny_bind (wpAny_setState_of (s:={s with toks:=s.toks+1}) ho hd hf ?_));dsimp only;rw[byScan_of hsc hb hel];simp only [↓reduceIte];unfold setAddByScan;refine wpAny_bind (wpAny_bind (wpAny_rule (wpAny_bind (wpAny_setScan_of (s:={s with toks:=s.toks+1}) hkey ho hd hf hel ?_))));cases hr:List.findIdx? (λe=>(PySem.strKind prog w).is x e.2) es.toList with
 |some j=>
  dsimp only;obtain ⟨hj,hpj,_⟩:=List.findIdx?_eq_some_iff_getElem.mp hr;have hm:x∈bY es:=mem_map.mpr ⟨_,getElem_mem hj,(xC hel (getElem_mem hj) x).mp hpj⟩;refine wpAny_pure (wpAny_pure ?_);exact h s.heap (bY es) _ (SameBut.refl a s.heap) ⟨o,es,ep,t,ho,hex,hd,hel,rfl,nd,hb,hf,hl,hp⟩ (λy=>⟨.inl,λz=>z.elim id λe=>e▸hm⟩) (le_succ _)
 |none=>
  dsimp only;have hn:x∉bY es:=λz=>by
   obtain ⟨e,he,hx⟩:=mem_map.mp z;have:=List.findIdx?_eq_none_iff.mp hr e he;rw[(xC hel he x).mpr hx] at this;cases this
  have pm:=layNew_perm t es ((PySem.strKind prog w).hash x) (.str x tk);have ft:=layNew_fits t es ((PySem.strKind prog w).hash x) (.str x tk);have ld:=zU t es ((PySem.strKind prog w).hash x) (.str x tk);revert pm ft ld;generalize layNew t es ((PySem.strKind prog w).hash x) (.str x tk)=L;obtain ⟨es1,t1,wd,gv⟩:=L;intro pm ft ld;dsimp only at pm ft ld ⊢;rw[toList_push] at pm;have el1:=(hel.push hkey hsc).perm pm;have pk:List.Perm (bY es1) (bY es++[x]):=by
   have:=pm.map λe:Int × Value=>PyProof.Rows.strOf e.2;rw[map_append] at this;exact this
  have nd1:(bY es1).Nodup:=pk.nodup_iff.mpr (List.nodup_append.mpr ⟨nd,by simp,λu hu v hv e=>by
   have:v=x:=by simpa using hv
   rw[this] at e
   exact hn (e▸hu)⟩)
  have sz1:es1.size=es.size+1:=by rw[<-length_toList,pm.length_eq,length_append,length_toList];rfl
  have hb1:es1.size<scanBound:=by rw[sz1,<-hlen];exact hroom
  have fin:∀h' zs',SameBut a s.heap h'->eI prog w bt h' a zs'->List.Perm zs' (bY es1)->Q true {s with heap:=h',toks:=s.toks+1}:=λh' zs' sb hS' pz=>by
   refine h h' zs' true sb hS' (λy=>?_) ?_
   ·rw[(pz.trans pk).mem_iff,mem_append];simp
   ·rw[(pz.trans pk).length_eq,length_append];exact Nat.le_refl _
  have hgw:∀(b:Bool) (s₁:Shared) (Q':Unit->Shared->Prop),Q' () s₁->wpAny (model prog w) A (match b with|true=>rule "set.scan.the-table-gave-way"|false=>pure ()) Q' E s₁:=
   λb s₁ Q' hq=>by cases b<;>first|exact wpAny_pure hq|exact wpAny_rule hq
  refine wpAny_bind (hgw _ _ _ ?_);split
  ·refine wpAny_bind ?_;rw[hashByValue_scannable 8 hsc];refine wpAny_pure ?_;refine rA (s:={s with toks:=s.toks+1}) (t2:={t1 with plain:=false}) hgw ho hex hd el1 nd1 hb1 (SetTable.fits_plain_off ft) (ld.trans hl) rfl λh' zs' sb hS' pz=>?_;exact wpAny_pure (fin h' zs' sb hS' pz)
  ·rename_i hpl;refine wpAny_bind (wpAny_pure ?_);simp only [↓reduceIte];refine rA (s:={s with toks:=s.toks+1}) (t2:=t1) hgw ho hex hd el1 nd1 hb1 ft (ld.trans hl) (by simpa using hpl) λh' zs' sb hS' pz=>?_;exact wpAny_pure (fin h' zs' sb hS' pz)
end
noncomputable abbrev uU (w:World):Bool:=w.params.followText "set-order"
noncomputable def cW (w:World):Obj:={cls:=.type "set",dict:=none,data:=.set #[] 0 (.fresh 0 0 (!uU w))}
section
variable {prog:Program} {w:World} {A:Around} {E:Value->Shared->Prop} {s:Shared}
theorem HC (e:h.get? a=some (cW w)):eI prog w (uU w) h a []:=
 ⟨_,#[],0,_,e,⟨rfl,rfl,rfl⟩,rfl,λx hx=>by simp at hx,rfl,List.nodup_nil,by decide,by rfl,rfl,λz=>absurd rfl z⟩
theorem EY (x:Value) (h:Q (.ref s.heap.objs.size) {s with heap:=s.heap.push (cW w)}):
  codeAny (model prog w) A (.call (.builtin "set.__new__") ⟨[.type "set",x],[]⟩) (wants Q E) s:=by
 refine codeAny_of_tree ?_;show wpAny _ A.in1 (do checkBuiltinCall "set.__new__" ⟨[.type "set",x],[]⟩;again (.builtin "set.__new__" ⟨[.type "set",x],[]⟩)) _ _ s;refine wpAny_bind (wpAny_of_eq (PySem.F.newCall_set_1 x) (wpAny_pure ⟨plainId_quiet PySem.F.plain_set_new _,codeAny_builtin PySem.F.entry_set_new ?_⟩));rw[Around.under_plainId PySem.F.plain_set_new _];unfold Builtin.«set.__new__» Builtin.Frozenset.newClass;have sub:=sub_set_self;obtain ⟨hp,g,d,tk,os⟩:=s;dsimp only
 wp_walk
 refine wpAny_askSetting (wpAny_pure ?_);dsimp only;simp only [newObj];refine wpAny_bind (wpAny_alloc (wpAny_pure (wpAny_pure ?_)));exact h
variable {R:Result->Shared->Prop} {I:Addr} {fp wr:List Addr} {G:Array GenState->Array GenState->Prop} {n:Nat} {P:Nat->Value->Prop} {St:Nat->Shared->Prop} {bt:Bool}
theorem CS (W:WalksS prog w A.in1 I fp wr G n P St) (S:Addr) (hSf:S∉fp) (val:Nat->Str) (hval:∀i v,P i v->∃t,v=.str (val i) t) (hb:n+1<scanBound):
  ∀(k i:Nat) (s:Shared) (zs:List Str),n - i=k->i<=n->St i s->eI prog w bt s.heap S zs->(∀y,y∈zs↔∃j,j<i/\val j=y)->zs.length<=i->
   (∀s' zs',Moved (S::wr) G s s'->eI prog w bt s'.heap S zs'->(∀y,y∈zs'↔∃j,j<n/\val j=y)->R (.ok (.ret .none)) s')->
   codeAny (model prog w) A (.builtin "set.update.loop" ⟨[.ref S,.ref I],[]⟩) R s:=by
 have hSw:S∉wr:=λh=>hSf (W.sub _ h);have up:∀b∈wr,b∈S::wr:=λb hb=>mem_cons_of_mem _ hb;intro k;induction k with
 |zero=>
  intro i s zs hk hi st hS hm _ fin;have e:i=n:=by lia
  subst e;refine codeAny_builtin PyProof.Rows.F.entry_set_update_loop ?_;rw[Around.under_plainId PyProof.Rows.F.plain_set_update_loop _];show wpAny _ A.in1 (pyNext (.ref I) >>=_) _ _ s;refine wpAny_bind (W.done s _ _ st λs' mv=>?_);show wpAny _ A.in1 (ret Value.none) _ _ s';exact wpAny_pure (fin s' zs (mv.mono up) (hS.keep λo ho=>mv.heap S o hSw ho) hm)
 |succ k ih=>
  intro i s zs hk hi st hS hm hl fin;have lt:i<n:=by lia
  refine codeAny_builtin PyProof.Rows.F.entry_set_update_loop ?_;rw[Around.under_plainId PyProof.Rows.F.plain_set_update_loop _];show wpAny _ A.in1 (pyNext (.ref I) >>=_) _ _ s;refine wpAny_bind (W.item i s _ _ lt st λv s1 hP st1 mv=>?_);obtain ⟨t,rfl⟩:=hval i v hP;have hS1:eI prog w bt s1.heap S zs:=hS.keep λo ho=>mv.heap S o hSw ho;show wpAny _ A.in1 (holding [Value.str (val i) t] (setAdd S (.str (val i) t)) >>=_) _ _ s1;refine wpAny_bind (wpAny_holding (HD hS1 (by lia) λh2 zs2 b sb hS2 hm2 hl2=>?_));refine wpAny_pure ⟨plainId_quiet PyProof.Rows.F.plain_set_update_loop _,ih (i+1) _ zs2 (by lia) lt (W.frame _ s1 _ _ st1 (le_succ _) λb hb o e=>?_) hS2 (λy=>?_) (by lia) λs3 zs3 mv3 hS3 hm3=>?_⟩
  ·rw[sb.2 b (λh:b=S=>hSf (by rw[<-h];exact hb))];exact e
  ·rw[hm2 y,hm y];constructor
   ·rintro (⟨j,hj,rfl⟩|rfl)
    ·exact ⟨j,by lia,rfl⟩
    ·exact ⟨i,by lia,rfl⟩
   ·rintro ⟨j,hj,rfl⟩;by_cases e:j=i
    ·rw[e];exact .inr rfl
    ·exact .inl ⟨j,by lia,rfl⟩
  ·refine fin s3 zs3 (Moved.trans W.gtrans ((mv.mono up).then_heap (le_succ _) λb o hb e=>?_) mv3) hS3 hm3;rw[sb.2 b (λh:b=S=>hb (by rw[h];exact mem_cons_self))];exact e
end
section
variable {prog:Program} {w:World} {A:Around} {E:Value->Shared->Prop} {s:Shared}
end
theorem aU:Slot "set_iterator" "__next__" "set_iterator.__next__":=
 .of (owner:="set_iterator") (n:="__next__") (by rw[typeLookup_type,builtinLookup_eq_fast];kernel_rfl) (by decide+kernel) (by decide+kernel) (by decide+kernel)
  (by first|exact .inl (by decide+kernel)|exact .inr (by decide+kernel)) (by rw[isSubtype_type];kernel_rfl)
theorem cX:entryFor table "set_iterator.__next__"=some Builtin.«set_iterator.__next__»:=entryFor_of_fast (by kernel_rfl)
theorem dQ (a:Value):argsOk "set_iterator.__next__" ⟨[a],[]⟩:=by unfold argsOk;kernel_rfl
theorem jX:Slot "set_iterator" "__iter__" "set_iterator.__iter__":=
 .of (owner:="set_iterator") (n:="__iter__") (by rw[typeLookup_type,builtinLookup_eq_fast];kernel_rfl) (by decide+kernel) (by decide+kernel) (by decide+kernel)
  (by first|exact .inl (by decide+kernel)|exact .inr (by decide+kernel)) (by rw[isSubtype_type];kernel_rfl)
theorem qM:entryFor table "set_iterator.__iter__"=some Builtin.«dict_keyiterator.__iter__»:=
 entryFor_alias (id':="dict_keyiterator.__iter__") (by kernel_rfl) rfl (by decide+kernel) (by kernel_rfl)
theorem uP (a:Value):argsOk "set_iterator.__iter__" ⟨[a],[]⟩:=by unfold argsOk;kernel_rfl
theorem pE:entryFor table "set.__iter__"=some Builtin.«frozenset.__iter__»:=
 entryFor_alias (id':="frozenset.__iter__") (by kernel_rfl) rfl (by decide+kernel) (by kernel_rfl)
noncomputable def cP (h:Heap) (it:Addr) (first:Value) (i:Nat) (a:Addr) (n ep:Nat):Prop:=∃o,h.get? it=some o/\o.cls=.type "set_iterator"/\o.data=.fields #[first,.int i 0,.ref a,.int n 0,.int ep 0]
section
variable {prog:Program} {w:World} {A:Around} {E:Value->Shared->Prop} {s:Shared} {it a:Addr} {i n ep:Nat} {o:Obj} {es:Array (Int × Value)} {t:SetTable}
theorem cP.type (h:cP s.heap it first i a n ep):s.TypeIs (.ref it) "set_iterator":=by
 obtain ⟨o,ho,hc,_⟩:=h;exact ⟨o,ho,hc⟩
theorem sZ (hit:cP s.heap it first i a n ep) (h:Q (.ref it) s):wpAny (model prog w) A (pyIter (.ref it)) Q E s:=by
 refine wpAny_pyIter_slot hit.type jX (wpAny_call_entry jX hit.type qM ?_ (uP _));show wpAny _ _ (ret (.ref it)) _ _ s;exact wpAny_pure ⟨_,rfl,"set_iterator",_,hit.type,aU.lookup,h⟩
theorem vO {slot nx:Nat} (hit:cP s.heap it (.int slot 0) i a n ep) (ho:s.heap.get? a=some o) (hd:o.data=.set es ep t) (hf:t.fits es.size=true) (hn:es.size=n)
  (hx:∀(A:Around) (E:Value->Shared->Prop) (Q':Option (Value × Nat)->Shared->Prop),Q' (some (x,nx)) s->wpAny (model prog w) A (setNext a slot i ep) Q' E s)
  (h:∀h',cP h' it (.int nx 0) (i+1) a n ep->SameBut it s.heap h'->Q (some x) {s with heap:=h'}):wpAny (model prog w) A (pyNext (.ref it)) Q E s:=by
 obtain ⟨oi,hoi,hci,hdi⟩:=id hit;unfold pyNext;refine wpAny_bind (wpAny_attempt (wpAny_callSpecial?_slot (name:=Str.ofString "__next__") hit.type aU (wpAny_call_entry aU hit.type cX ?_ (dQ _))));show wpAny _ _ (fieldsOf (.ref it) >>=_) _ _ s;refine wpAny_bind (wpAny_fieldsOf hoi hdi ?_);show wpAny _ _ (setEntries a >>=_) _ _ s;refine wpAny_bind (wpAny_setEntries_of ho hd hf ?_);rw[if_neg (by simp [hn])];show wpAny _ _ (setNext a (toNat (slot:Nat)) (toNat (i:Nat)) (toNat (ep:Nat)) >>=_) _ _ s;rw[toNat_natCast,toNat_natCast,toNat_natCast];refine wpAny_bind (hx _ _ _ ?_);dsimp only;refine wpAny_bind (wpAny_setField hoi hdi (by simp) ?_);have g1:=get?_update_self (Obj.mapFields (·.setIfInBounds 0 (rawInt nx))) hoi (Obj.isFreed_of_fields (Obj.data_mapFields hdi _));have d1:=Obj.data_mapFields hdi (·.setIfInBounds 0 (rawInt nx));refine wpAny_bind (wpAny_setField g1 d1 (by simp) ?_);have g2:=get?_update_self (Obj.mapFields (·.setIfInBounds 1 (rawInt ((i:Int)+1)))) g1 (Obj.isFreed_of_fields (Obj.data_mapFields d1 _));have d2:=Obj.data_mapFields d1 (·.setIfInBounds 1 (rawInt ((i:Int)+1)));refine wpAny_pure ⟨x,rfl,wpAny_pure (h _ ⟨_,g2,(Obj.cls_mapFields ..).trans ((Obj.cls_mapFields ..).trans hci),?_⟩ ((SameBut.update ..).trans (SameBut.update ..)))⟩;rw[d2];simp [rawInt]
theorem GY {m p:Nat} {hx:Int} (hit:cP s.heap it (.ref tp) i a n ep) (ho:s.heap.get? a=some o) (hd:o.data=.set es ep t) (hf:t.fits es.size=true) (hn:es.size=n)
  (hot:s.heap.get? tp=some ot) (hdt:ot.data=.seq ps m) (hp:ps[i]?=some (.int p u)) (he:es[p]?=some (hx,x))
  (h:∀h',cP h' it (.ref tp) (i+1) a n ep->SameBut it s.heap h'->Q (some x) {s with heap:=h'}):wpAny (model prog w) A (pyNext (.ref it)) Q E s:=by
 obtain ⟨oi,hoi,hci,hdi⟩:=id hit;unfold pyNext;refine wpAny_bind (wpAny_attempt (wpAny_callSpecial?_slot (name:=Str.ofString "__next__") hit.type aU (wpAny_call_entry aU hit.type cX ?_ (dQ _))));show wpAny _ _ (fieldsOf (.ref it) >>=_) _ _ s;refine wpAny_bind (wpAny_fieldsOf hoi hdi ?_);show wpAny _ _ (setEntries a >>=_) _ _ s;refine wpAny_bind (wpAny_setEntries_of ho hd hf ?_);rw[if_neg (by simp [hn])];show wpAny _ _ (seqItems? (.ref tp) >>=_) _ _ s;refine wpAny_bind (wpAny_seqItems hot hdt ?_);dsimp only;rw[toNat_natCast,hp];dsimp only;rw[toNat_natCast,toNat_natCast];unfold setNextDrawn;refine wpAny_bind (wpAny_bind (wpAny_setState_of ho hd hf ?_));dsimp only;rw[if_neg (by simp)];rw[he];refine wpAny_pure ?_;refine wpAny_bind (wpAny_setField hoi hdi (by simp) ?_);have g2:=get?_update_self (Obj.mapFields (·.setIfInBounds 1 (rawInt ((i:Int)+1)))) hoi (Obj.isFreed_of_fields (Obj.data_mapFields hdi _));have d2:=Obj.data_mapFields hdi (·.setIfInBounds 1 (rawInt ((i:Int)+1)));refine wpAny_pure ⟨x,rfl,wpAny_pure (h _ ⟨_,g2,(Obj.cls_mapFields ..).trans hci,?_⟩ (SameBut.update ..))⟩;rw[d2];simp [rawInt]
theorem AX {slot:Nat} (hh:A.handled=none) (hit:cP s.heap it (.int slot 0) i a n ep) (ho:s.heap.get? a=some o) (hd:o.data=.set es ep t) (hf:t.fits es.size=true) (hn:es.size=n)
  (hx:∀(A:Around) (E:Value->Shared->Prop) (Q':Option (Value × Nat)->Shared->Prop),Q' none s->wpAny (model prog w) A (setNext a slot i ep) Q' E s)
  (h:∀h',ExtBut it s.heap h'->Q none {s with heap:=h'}):wpAny (model prog w) A (pyNext (.ref it)) Q E s:=by
 obtain ⟨oi,hoi,hci,hdi⟩:=id hit;unfold pyNext;refine wpAny_bind (wpAny_attempt (wpAny_callSpecial?_slot (name:=Str.ofString "__next__") hit.type aU (wpAny_call_entry aU hit.type cX ?_ (dQ _))));show wpAny _ _ (fieldsOf (.ref it) >>=_) _ _ s;refine wpAny_bind (wpAny_fieldsOf hoi hdi ?_);show wpAny _ _ (setEntries a >>=_) _ _ s;refine wpAny_bind (wpAny_setEntries_of ho hd hf ?_);rw[if_neg (by simp [hn])];show wpAny _ _ (setNext a (toNat (slot:Nat)) (toNat (i:Nat)) (toNat (ep:Nat)) >>=_) _ _ s;rw[toNat_natCast,toNat_natCast,toNat_natCast];refine wpAny_bind (hx _ _ _ ?_);dsimp only;refine wpAny_bind (wpAny_setField hoi hdi (by simp) ?_);show wpAny _ _ (newExc (.type "StopIteration") [] >>=_) _ _ _;refine wpAny_bind ?_;simp only [newExc,newTuple];refine wpAny_bind (wpAny_newObj_type ?_ (by size_fits));refine wpAny_bind (m:=firstArgMember _ _) (wpAny_of_eq (a:=Value.none) (by first|rfl|(simp only [firstArgMember];rfl)) ?_);refine wpAny_newObj_type ?_ (by size_fits);simp only [raiseNew];refine wpAny_bind (wpAny_handled ?_)
 first|rw[show A.in1.handled=none from hh]|rw[hh]
 refine wpAny_bind (wpAny_pure (wpAny_throw ?_));refine wpAny_bind (wpAny_isInstance (T:="StopIteration") (b:=true) ⟨_,get?_push_size _ rfl,rfl⟩ isSubtype_stop ?_);exact wpAny_pure (h _ (((SameBut.update ..).extBut.push _).push _))
theorem MY (hh:A.handled=none) (hit:cP s.heap it (.ref tp) i a n ep) (ho:s.heap.get? a=some o) (hd:o.data=.set es ep t) (hf:t.fits es.size=true) (hn:es.size=n)
  (hot:s.heap.get? tp=some ot) (hdt:ot.data=.seq ps m) (hp:ps[i]?=none)
  (h:∀h',ExtBut it s.heap h'->Q none {s with heap:=h'}):wpAny (model prog w) A (pyNext (.ref it)) Q E s:=by
 obtain ⟨oi,hoi,hci,hdi⟩:=id hit;unfold pyNext;refine wpAny_bind (wpAny_attempt (wpAny_callSpecial?_slot (name:=Str.ofString "__next__") hit.type aU (wpAny_call_entry aU hit.type cX ?_ (dQ _))));show wpAny _ _ (fieldsOf (.ref it) >>=_) _ _ s;refine wpAny_bind (wpAny_fieldsOf hoi hdi ?_);show wpAny _ _ (setEntries a >>=_) _ _ s;refine wpAny_bind (wpAny_setEntries_of ho hd hf ?_);rw[if_neg (by simp [hn])];show wpAny _ _ (seqItems? (.ref tp) >>=_) _ _ s;refine wpAny_bind (wpAny_seqItems hot hdt ?_);dsimp only;rw[toNat_natCast,hp];dsimp only;refine wpAny_bind (wpAny_setField hoi hdi (by simp) ?_);have g1:=get?_update_self (Obj.mapFields (·.setIfInBounds 0 (rawInt 0))) hoi (Obj.isFreed_of_fields (Obj.data_mapFields hdi _));have d1:=Obj.data_mapFields hdi (·.setIfInBounds 0 (rawInt 0));refine wpAny_bind (wpAny_setField g1 d1 (by simp) ?_);show wpAny _ _ (newExc (.type "StopIteration") [] >>=_) _ _ _;refine wpAny_bind ?_;simp only [newExc,newTuple];refine wpAny_bind (wpAny_newObj_type ?_ (by size_fits));refine wpAny_bind (m:=firstArgMember _ _) (wpAny_of_eq (a:=Value.none) (by first|rfl|(simp only [firstArgMember];rfl)) ?_);refine wpAny_newObj_type ?_ (by size_fits);simp only [raiseNew];refine wpAny_bind (wpAny_handled ?_)
 first|rw[show A.in1.handled=none from hh]|rw[hh]
 refine wpAny_bind (wpAny_pure (wpAny_throw ?_));refine wpAny_bind (wpAny_isInstance (T:="StopIteration") (b:=true) ⟨_,get?_push_size _ rfl,rfl⟩ isSubtype_stop ?_);exact wpAny_pure (h _ ((((SameBut.update ..).trans (SameBut.update ..)).extBut.push _).push _))
end
section
variable {prog:Program} {w:World} {A:Around} {E:Value->Shared->Prop} {s:Shared}
theorem AG (hn:n≠0) (h:∀i d,i<n->Q i {s with drawn:=d}):wpAny (model prog w) A (choose src n) Q E s:=λΓ p hΓ=>by
 unfold choose;rw[Sem.wp_choose];exact ⟨hn,h _ _ (Nat.mod_lt _ (Nat.pos_of_ne_zero hn))⟩
theorem jE:∀{l:List α} {i:Nat} (h:i<l.length),List.Perm (l[i]::l.eraseIdx i) l
 |_::_,0,_=>List.Perm.refl _
 |x::l,i+1,h=>(List.Perm.swap ..).trans ((jE (l:=l) (i:=i) (by simpa using h)).cons x)
theorem rV:∀(n:Nat) (xs:List α) (s:Shared) (Q:List α->Shared->Prop),xs.length=n->(∀ys d,List.Perm ys xs->Q ys {s with drawn:=d})->wpAny (model prog w) A (drawOrder n xs) Q E s
 |0,xs,s,Q,hl,h=>by
  have e:xs=[]:=List.eq_nil_of_length_eq_zero hl;subst e;exact wpAny_pure (h [] s.drawn (List.Perm.refl _))
 |n+1,[],s,Q,hl,h=>nomatch hl
 |n+1,x::xs,s,Q,hl,h=>by
  unfold drawOrder;refine wpAny_bind (AG (by simp) λi d hi=>?_);rw[getElem?_eq_getElem hi];dsimp only;refine wpAny_bind (rV n _ _ _ (by rw[List.length_eraseIdx_of_lt hi];simpa using hl) λys d' hp=>?_);exact wpAny_pure (h _ d' ((List.Perm.cons _ hp).trans (jE hi)))
theorem BE (next:Nat->Nat):∀(f k:Nat) (left:List α) (out:Array α),left.length=f->List.Perm (pickOrder.go next f k left out).toList (out.toList++left)
 |0,k,left,out,hl=>by
  have e:left=[]:=List.eq_nil_of_length_eq_zero hl;subst e;unfold pickOrder.go;rw[append_nil]
 |f+1,k,left,out,hl=>by
  unfold pickOrder.go;have hi:next k % left.length<left.length:=Nat.mod_lt _ (by lia);rw[getElem?_eq_getElem hi];dsimp only;refine (BE next f (k+1) _ _ (by rw[List.length_eraseIdx_of_lt hi];lia)).trans ?_;rw[toList_push,List.append_assoc];exact (List.Perm.refl _).append (jE hi)
theorem lI (next:Nat->Nat) (xs:Array α):List.Perm (pickOrder next xs).toList xs.toList:=by
 unfold pickOrder;exact BE next _ _ _ _ (by simp)
variable {a:Addr} {o:Obj} {es:Array (Int × Value)} {ep:Nat} {t:SetTable}
theorem iP (h:Q (uU w) s):wpAny (model prog w) A setsByText Q E s:=by
 unfold setsByText;exact wpAny_bind (wpAny_askSetting (wpAny_pure h))
theorem vR (ho:s.heap.get? a=some o) (hd:o.data=.set es ep t) (hf:t.fits es.size=true) (h:Q (!uU w&&(!t.plain&&decide (es.size>1))) s):wpAny (model prog w) A (setDrawn a) Q E s:=by
 unfold setDrawn;refine wpAny_bind (wpAny_setState_of ho hd hf ?_);dsimp only;refine wpAny_bind (iP ?_);exact wpAny_pure h
theorem kA (bt:uU w=true) (ho:s.heap.get? a=some o) (hd:o.data=.set es ep t) (hf:t.fits es.size=true)
  (h:Q (((pickOrder (w.params.setOrder a ep) es)[i]?).map λe=>(e.2,slot)) s):wpAny (model prog w) A (setNext a slot i ep) Q E s:=by
 unfold setNext;refine wpAny_bind (wpAny_setState_of ho hd hf ?_);dsimp only;refine wpAny_bind (iP ?_);rw[bt];simp only [↓reduceIte,bne_self_eq_false,false_eq_true];refine wpAny_bind ?_;unfold setWalk;refine wpAny_bind (wpAny_setState_of ho hd hf ?_);dsimp only;refine wpAny_bind (iP ?_);rw[bt];simp only [↓reduceIte];exact wpAny_bind (wpAny_askSetting (wpAny_pure (wpAny_pure h)))
theorem kB (bt:uU w=false) (h1:es.size<=1) (hl:t.led=true) (ho:s.heap.get? a=some o) (hd:o.data=.set es ep t) (hf:t.fits es.size=true)
  (h:Q (match es[SetTable.below t.place slot]?,t.place[SetTable.below t.place slot]? with
   |some (_,x),some j=>some (x,j+1)
   |_,_=>none) s):wpAny (model prog w) A (setNext a slot i ep) Q E s:=by
 obtain ⟨mk,pl,dm,fg,ld,mv,pn⟩:=t;cases hl;have hz:decide (es.size>1)=false:=decide_eq_false (by lia);unfold setNext;refine wpAny_bind (wpAny_setState_of ho hd hf ?_);dsimp only;refine wpAny_bind (iP ?_);rw[bt];simp only [false_eq_true,↓reduceIte];split
 ·rename_i hc;have hc':(!pn&&decide (es.size>1))=true:=hc;rw[hz,Bool.and_false] at hc';cases hc'
 ·exact wpAny_bind (wpAny_of_eq (a:=()) rfl (wpAny_pure h))
end
section
variable {prog:Program} {w:World} {A:Around} {I a:Addr} {o:Obj} {es:Array (Int × Value)} {ep:Nat} {t:SetTable}
theorem cP.keep (hI:cP h it first i a n ep) (k:∀o,h.get? it=some o->h'.get? it=some o):cP h' it first i a n ep:=by
 obtain ⟨o,ho,r⟩:=hI;exact ⟨o,k o ho,r⟩
theorem CQ (bt:uU w=true) (hh:A.handled=none) (hne:a≠I) (hd:o.data=.set es ep t) (hf:t.fits es.size=true):
  Walks prog w A I [I,a] [I] es.size (λi v=>((pickOrder (w.params.setOrder a ep) es).toList.map (·.2))[i]?=some v) (λi h=>cP h I (.int (0:Nat) 0) i a es.size ep/\h.get? a=some o) where
 sub:=λb hb=>by simp at hb;simp [hb]
 frame:=λ_ _ _ st hk=>⟨st.1.keep λo e=>hk I (by simp) o e,hk a (by simp) o st.2⟩
 item:=λi s Q E hi st hQ=>by
  have hl:(pickOrder (w.params.setOrder a ep) es).size=es.size:=by
   rw[<-length_toList,(lI _ es).length_eq,length_toList]
  have hi':i<(pickOrder (w.params.setOrder a ep) es).size:=by lia
  refine vO (x:=(pickOrder (w.params.setOrder a ep) es)[i].2) (nx:=0) st.1 st.2 hd hf rfl (λA' E' Q' q=>kA bt st.2 hd hf (by simpa [hi'] using q)) λh' hit' hs'=>?_;exact hQ _ h' s.toks (by simp [hi']) ⟨hit',by rw[hs'.2 a hne];exact st.2⟩ λb o hb e=>hs'.extBut b o (λh=>hb (by simp [h])) e
 done:=λs Q E st hQ=>by
  have hl:(pickOrder (w.params.setOrder a ep) es).size=es.size:=by
   rw[<-length_toList,(lI _ es).length_eq,length_toList]
  exact AX hh st.1 st.2 hd hf rfl (λA' E' Q' q=>kA bt st.2 hd hf (by rw[Array.getElem?_eq_none (by lia)];exact q)) λh' he'=>hQ h' s.toks λb o hb e=>he' b o (λh=>hb (by simp [h])) e
 self:=λi s Q E st hQ=>sZ st.1 hQ
noncomputable def slotAt (t:SetTable):Nat->Nat
 |0=>0
 |_+1=>t.place.getD 0 0+1
theorem sG (j:Nat):SetTable.below #[j] 0=0/\SetTable.below #[j] (j+1)=1:=by
 constructor<;>simp [SetTable.below,SetTable.below.go]
theorem GA (bt:uU w=false) (h1:es.size<=1) (hl:t.led=true) (hh:A.handled=none) (hne:a≠I) (hd:o.data=.set es ep t) (hf:t.fits es.size=true):
  Walks prog w A I [I,a] [I] es.size (λi v=>(es.toList.map (·.2))[i]?=some v) (λi h=>cP h I (.int (slotAt t i:Nat) 0) i a es.size ep/\h.get? a=some o) where
 sub:=λb hb=>by simp at hb;simp [hb]
 frame:=λ_ _ _ st hk=>⟨st.1.keep λo e=>hk I (by simp) o e,hk a (by simp) o st.2⟩
 item:=λi s Q E hi st hQ=>by
  have i0:i=0:=by lia
  subst i0;have hpl:t.place.size=es.size:=by
   simp only [SetTable.fits,and_eq_true,beq_iff_eq] at hf;exact hf.1
  obtain ⟨j,hj⟩:∃j,t.place=#[j]:=size_eq_one_iff.mp (by lia);obtain ⟨e,he⟩:∃e,es=#[e]:=size_eq_one_iff.mp (by lia);refine vO (x:=e.2) (nx:=j+1) st.1 st.2 hd hf rfl (λA' E' Q' q=>kB bt h1 hl st.2 hd hf (by
   show Q' (match es[SetTable.below t.place 0]?,t.place[SetTable.below t.place 0]? with
    |some (_,x),some j=>some (x,j+1)
    |_,_=>none) s
   rw[hj,(sG j).1,he]
   exact q)) λh' hit' hs'=>?_
  refine hQ _ h' s.toks (by simp [he]) ⟨?_,by rw[hs'.2 a hne];exact st.2⟩ λb o hb e=>hs'.extBut b o (λh=>hb (by simp [h])) e;have:slotAt t (0+1)=j+1:=by unfold slotAt;rw[hj];rfl
  rw[this];exact hit'
 done:=λs Q E st hQ=>by
  have hpl:t.place.size=es.size:=by
   simp only [SetTable.fits,and_eq_true,beq_iff_eq] at hf;exact hf.1
  refine AX hh st.1 st.2 hd hf rfl (λA' E' Q' q=>kB bt h1 hl st.2 hd hf ?_) λh' he'=>hQ h' s.toks λb o hb e=>he' b o (λh=>hb (by simp [h])) e;by_cases h0:es.size=0
  ·rw[Array.getElem?_eq_none (show es.size<=_ by lia)];exact q
  ·obtain ⟨j,hj⟩:∃j,t.place=#[j]:=size_eq_one_iff.mp (by lia);obtain ⟨e,he⟩:∃e,es=#[e]:=size_eq_one_iff.mp (by lia);have:slotAt t es.size=j+1:=by rw[he];unfold slotAt;rw[hj];rfl
   rw[this,hj,(sG j).2,he];exact q
 self:=λi s Q E st hQ=>sZ st.1 hQ
theorem KL {α β:Type} {f:α->Option β} {d:β}:∀(l:List α),(∀x∈l,(f x).isSome=true)->l.filterMap f=l.map λx=>(f x).getD d
 |[],_=>rfl
 |x::l,h=>by
  obtain ⟨y,hy⟩:=Option.isSome_iff_exists.mp (h x mem_cons_self);rw[List.filterMap_cons_some hy,map_cons,KL l λz hz=>h z (mem_cons_of_mem _ hz),hy];rfl
theorem yC (hh:A.handled=none) (hne:a≠I) (hnt:tp≠I) (hd:o.data=.set es ep t) (hf:t.fits es.size=true) (hdt:ot.data=.seq (ord.map λ(i:Nat)=>rawInt i).toArray m) (hp:List.Perm ord (range es.size)):
  Walks prog w A I [I,a,tp] [I] es.size (λi v=>(ord.filterMap λp=>es[p]?.map (·.2))[i]?=some v) (λi h=>cP h I (.ref tp) i a es.size ep/\h.get? a=some o/\h.get? tp=some ot) where
 sub:=λb hb=>by simp at hb;simp [hb]
 frame:=λ_ _ _ st hk=>⟨st.1.keep λo e=>hk I (by simp) o e,hk a (by simp) o st.2.1,hk tp (by simp) ot st.2.2⟩
 item:=λi s Q E hi st hQ=>by
  have hl:ord.length=es.size:=by rw[hp.length_eq,length_range]
  have hlt:∀p∈ord,p<es.size:=λp hp'=>mem_range.mp (hp.mem_iff.mp hp');have hi':i<ord.length:=by lia
  have hpi:=hlt _ (getElem_mem hi');have hfm:ord.filterMap (λp=>es[p]?.map (·.2))=ord.map λp=>(es[p]?.map (·.2)).getD .none:=KL _ λp hp'=>by simp [hlt p hp']
  refine GY (x:=es[ord[i]].2) (hx:=es[ord[i]].1) (p:=ord[i]) (u:=0) st.1 st.2.1 hd hf rfl st.2.2 hdt (by simp [hi',rawInt]) (by simp [hpi]) λh' hit' hs'=>?_;exact hQ _ h' s.toks (by rw[hfm];simp [hi',hpi]) ⟨hit',by rw[hs'.2 a hne];exact st.2.1,by rw[hs'.2 tp hnt];exact st.2.2⟩ λb o hb e=>hs'.extBut b o (λh=>hb (by simp [h])) e
 done:=λs Q E st hQ=>by
  have hl:ord.length=es.size:=by rw[hp.length_eq,length_range]
  exact MY hh st.1 st.2.1 hd hf rfl st.2.2 hdt (by simp [hl]) λh' he'=>hQ h' s.toks λb o hb e=>he' b o (λh=>hb (by simp [h])) e
 self:=λi s Q E st hQ=>sZ st.1 hQ
end
section
variable {prog:Program} {w:World} {A:Around} {E:Value->Shared->Prop} {s:Shared}
theorem gK (hel:ElemsOf (PySem.strKind prog w) es.toList) (hp:List.Perm ys (es.toList.map (·.2))):ys.length=(bY es).length/\StrsAre ys (ys.map PyProof.Rows.strOf)/\List.Perm (ys.map PyProof.Rows.strOf) (bY es):=by
 refine ⟨by rw[hp.length_eq];unfold bY;rw[length_map,length_map],strsAre_map ys λv hv=>?_,?_⟩
 ·obtain ⟨e,he,rfl⟩:=mem_map.mp (hp.mem_iff.mp hv);obtain ⟨⟨k,hk,_⟩,_⟩:=hel e he;obtain ⟨u,hu⟩:=Value.isStrOf_shape hk;exact ⟨k,u,hu⟩
 ·have:=hp.map PyProof.Rows.strOf;rw[map_map] at this;exact this
theorem DF (hS:eI prog w (uU w) s.heap a zs)
  (h:∀(I:Addr) (s':Shared) (fp:List Addr) (ys:List Value) (St:Nat->Heap->Prop),(∀A':Around,A'.handled=none->Walks prog w A' I fp [I] zs.length (λi v=>ys[i]?=some v) St)->St 0 s'.heap->
   (∀b o,s.heap.get? b=some o->s'.heap.get? b=some o)->s.heap.objs.size<=I->(∀b∈fp,b=a\/s.heap.objs.size<=b)->ys.length=zs.length->StrsAre ys (ys.map PyProof.Rows.strOf)->List.Perm (ys.map PyProof.Rows.strOf) zs->
   s'.gens=s.gens->s'.os=s.os->s'.toks=s.toks->Q (.ref I) s'):
  wpAny (model prog w) A (pyIter (.ref a)) Q E s:=by
 obtain ⟨o,es,ep,t,ho,hex,hd,hel,rfl,nd,hb,hf,hl,hp⟩:=hS;have hT:s.TypeIs (.ref a) "set":=⟨o,ho,hex.1⟩;have hlen:(bY es).length=es.size:=by unfold bY;rw[length_map,length_toList]
 have alt:a<s.heap.objs.size:=lt_size ho;refine wpAny_pyIter_slot hT PySem.F.slot_set_iter (wpAny_call_entry PySem.F.slot_set_iter hT pE ?_ (PySem.F.args_set_iter_1 _));unfold Builtin.«frozenset.__iter__» Builtin.Frozenset.slot0 slotArgs;simp only [List.isEmpty_nil,Bool.not_true,false_eq_true,↓reduceIte,bind_assoc,length_nil,bne_self_eq_false];unfold Builtin.Frozenset.addrOf Builtin.Frozenset.sizeOf;refine wpAny_bind (wpAny_pure ?_)
 try dsimp only
 refine wpAny_bind (wpAny_pure ?_);refine wpAny_bind (wpAny_bind (wpAny_setEntries_of ho hd hf (wpAny_pure ?_)));refine wpAny_bind (vR ho hd hf ?_);split
 ·refine wpAny_bind (rV es.size (range es.size) s _ length_range λord d hpo=>?_);have hol:ord.length=es.size:=by rw[hpo.length_eq,length_range]
  refine wpAny_bind (wpAny_newTuple ?_ (by rw[length_map,hol];exact fits_of_scanBound hb));refine wpAny_bind (wpAny_setEpoch_of (get?_push_of_some _ ho) hd hf ?_);refine wpAny_bind (wpAny_newObj_type ?_);refine wpAny_pure ⟨_,rfl,"set_iterator",_,⟨_,get?_push_size _ rfl,rfl⟩,aU.lookup,?_⟩;have pm:List.Perm (ord.filterMap λp=>es[p]?.map (·.2)) (es.toList.map (·.2)):=by
   have z:=hpo.filterMap λp=>es[p]?.map (·.2);rw[<-List.map_filterMap,<-List.map_filterMap,filterMap_getElem?_range] at z;rwa [<-List.map_filterMap]
  obtain ⟨q1,q2,q3⟩:=gK hel pm;refine h (s.heap.push ({cls:=.type "tuple",data:=.seq (ord.map λ(i:Nat)=>rawInt i).toArray}:Obj)).objs.size _ [(s.heap.push ({cls:=.type "tuple",data:=.seq (ord.map λ(i:Nat)=>rawInt i).toArray}:Obj)).objs.size,a,s.heap.objs.size] _ (λi h=>cP h (s.heap.push ({cls:=.type "tuple",data:=.seq (ord.map λ(i:Nat)=>rawInt i).toArray}:Obj)).objs.size (.ref s.heap.objs.size) i a es.size ep/\h.get? a=some o/\h.get? s.heap.objs.size=some ({cls:=.type "tuple",data:=.seq (ord.map λ(i:Nat)=>rawInt i).toArray}:Obj)) (λA' hh'=>?_) ⟨⟨_,get?_push_size _ rfl,rfl,rfl⟩,get?_push_of_some _ (get?_push_of_some _ ho),get?_push_of_some _ (get?_push_size _ rfl)⟩ (λb o e=>get?_push_of_some _ (get?_push_of_some _ e)) ?_ (λb hb'=>?_) q1 q2 q3 rfl rfl rfl
  ·rw[hlen];exact yC hh' (by rw[Heap.size_push];exact ne_of_lt (lt_succ_of_lt alt)) (by rw[Heap.size_push];exact ne_of_lt (Nat.lt_succ_self _)) hd hf rfl hpo
  ·rw[Heap.size_push];exact le_succ _
  ·rcases mem_cons.mp hb' with rfl|hb'
   ·exact .inr (by rw[Heap.size_push];exact le_succ _)
   ·rcases mem_cons.mp hb' with rfl|hb'
    ·exact .inl rfl
    ·rw[mem_singleton.mp hb'];exact .inr (Nat.le_refl _)
 ·rename_i hc;refine wpAny_bind (wpAny_pure ?_);refine wpAny_bind (wpAny_setEpoch_of ho hd hf ?_);refine wpAny_bind (wpAny_newObj_type ?_);refine wpAny_pure ⟨_,rfl,"set_iterator",_,⟨_,get?_push_size _ rfl,rfl⟩,aU.lookup,?_⟩;have fps:∀b∈[s.heap.objs.size,a],b=a\/s.heap.objs.size<=b:=λb hb'=>by
   rcases mem_cons.mp hb' with rfl|hb'
   ·exact .inr (Nat.le_refl _)
   ·exact .inl (mem_singleton.mp hb')
  cases bt:uU w with
  |true=>
   obtain ⟨q1,q2,q3⟩:=gK hel ((lI (w.params.setOrder a ep) es).map (·.2));refine h s.heap.objs.size _ [s.heap.objs.size,a] _ (λi h=>cP h s.heap.objs.size (.int (0:Nat) 0) i a es.size ep/\h.get? a=some o) (λA' hh'=>?_) ⟨⟨_,get?_push_size _ rfl,rfl,rfl⟩,get?_push_of_some _ ho⟩ (λb o e=>get?_push_of_some _ e) (Nat.le_refl _) fps q1 q2 q3 rfl rfl rfl;rw[hlen];exact CQ bt hh' (ne_of_lt alt) hd hf
  |false=>
   have h1:es.size<=1:=by
    rw[bt] at hc;by_cases z:es.size<=1
    ·exact z
    ·rw[hp (by lia),decide_eq_true (show es.size>1 by lia)] at hc;exact absurd rfl hc
   obtain ⟨q1,q2,q3⟩:=gK hel (List.Perm.refl _);refine h s.heap.objs.size _ [s.heap.objs.size,a] _ (λi h=>cP h s.heap.objs.size (.int (slotAt t i:Nat) 0) i a es.size ep/\h.get? a=some o) (λA' hh'=>?_) ⟨⟨_,get?_push_size _ rfl,rfl,rfl⟩,get?_push_of_some _ ho⟩ (λb o e=>get?_push_of_some _ e) (Nat.le_refl _) fps q1 q2 q3 rfl rfl rfl;rw[hlen];exact GA bt h1 (by rw[hl,bt];rfl) hh' (ne_of_lt alt) hd hf
end
section
variable {prog:Program} {w:World} {A:Around} {E:Value->Shared->Prop} {s:Shared}
theorem HA (hT:s.TypeIs (.ref a) "set") (h:Q false s):wpAny (model prog w) A (Builtin.List.listLengthHint (.ref a)) Q E s:=by
 unfold Builtin.List.listLengthHint;refine wpAny_bind (wpAny_specialOf hT PySem.F.slot_set_len.lookup ?_);generalize hid:("set.__len__":String)=id0
 wp_delta
 rw[show splitId id0=some ("set","__len__") from by subst hid;decide+kernel];subst hid;refine wpAny_bind (wpAny_isInstance (b:=true) hT (by rw[isSubtype_type];kernel_rfl) ?_);refine wpAny_ite_split (λz=>absurd z (by decide)) (λ_=>?_);refine wpAny_ite_split (λ_=>?_) (λz=>absurd (by decide+kernel) z);exact wpAny_bind (wpAny_typeOf hT (wpAny_pure h))
theorem eI.type (hS:eI prog w bt s.heap a zs):s.TypeIs (.ref a) "set":=by
 obtain ⟨o,_,_,_,ho,hex,_⟩:=hS;exact ⟨o,ho,hex.1⟩
theorem tE (hh:A.handled=none) (hS:eI prog w (uU w) s.heap a zs) (hn:zs.length<=sizeLine)
  (h:∀(s':Shared) (ys:List Value),(∀b o,s.heap.get? b=some o->s'.heap.get? b=some o)->s.heap.objs.size<=s'.heap.objs.size->StrsAre ys (ys.map PyProof.Rows.strOf)->List.Perm (ys.map PyProof.Rows.strOf) zs->s'.gens=s.gens->s'.os=s.os->Q ys s'):
  wpAny (model prog w) A (collect (.ref a)) Q E s:=by
 have alt:a<s.heap.objs.size:=by
  obtain ⟨o,_,_,_,ho,_⟩:=hS;exact lt_size ho
 unfold collect;refine wpAny_bind (wpAny_runValue (codeAny_builtin entry_proto_collect' ?_));rw[Around.under_plainId PySem.F.plain_proto_collect _];show wpAny _ A.in1 (newList [] >>=λl=>again (.builtin "list.__iadd__" ⟨[l,.ref a],[]⟩)) _ _ s;refine wpAny_bind (wpAny_newObj_type ?_);refine wpAny_pure ⟨plainId_quiet PySem.F.plain_list_iadd _,codeAny_builtin entry_list_iadd' ?_⟩;rw[Around.under_plainId PySem.F.plain_list_iadd _];have g1:(s.heap.push {cls:=.type "list",data:=.seq ([]:List Value).toArray}).get? s.heap.objs.size=some {cls:=.type "list",data:=.seq #[]}:=get?_push_size _ rfl;have hS1:eI prog w (uU w) (s.heap.push {cls:=.type "list",data:=.seq ([]:List Value).toArray}) a zs:=hS.keep λo e=>get?_push_of_some _ e;show wpAny _ A.in1 (Builtin.List.listExtendWith (.ref s.heap.objs.size) (.ref a) (.ref s.heap.objs.size)) _ _ _;unfold Builtin.List.listExtendWith;refine wpAny_bind (wpAny_typeOf (T:="set") hS1.type ?_);have n1:Builtin.List.listSameRef (.ref s.heap.objs.size) (.ref a)=false:=by simp [Builtin.List.listSameRef,ne_of_gt alt]
 have n2:(Value.type "set"==Value.type "list")=false:=by decide
 have n3:(Value.type "set"==Value.type "tuple")=false:=by decide
 simp only [n1,n2,n3,Bool.or_false,false_eq_true,if_false];refine wpAny_bind (DF (s:={s with heap:=s.heap.push {cls:=.type "list",data:=.seq ([]:List Value).toArray}}) hS1 λI s2 fp ys St W st kp hI hfp q1 q2 q3 eg eo et=>?_);have g2:=kp _ _ g1;have hI1:s.heap.objs.size<I:=by
  have:(s.heap.push {cls:=.type "list",data:=.seq ([]:List Value).toArray}).objs.size<=I:=hI;rw[Heap.size_push] at this;exact this
 have hSf:s.heap.objs.size∉fp:=λz=>by
  rcases hfp _ z with e|e
  ·exact absurd e (ne_of_gt alt)
  ·have e':(s.heap.push {cls:=.type "list",data:=.seq ([]:List Value).toArray}).objs.size<=s.heap.objs.size:=e;rw[Heap.size_push] at e';exact absurd e' (Nat.not_le.mpr (Nat.lt_succ_self _))
 have hh2:A.in1.handled=none:=by simp [hh]
 have key:∀(h:Heap) (c:Nat),St 0 h->(∀b o,b≠s.heap.objs.size->s2.heap.get? b=some o->h.get? b=some o)->h.get? s.heap.objs.size=some {cls:=.type "list",data:=.seq #[] c}->
   codeAny (model prog w) A (.builtin "list.extend.loop" ⟨[.ref s.heap.objs.size,.ref I,.ref s.heap.objs.size],[]⟩) (λr s'=>match r with
    | .ok (.ret v)=>wpAny (model prog w) A (match v with
     | .ref a=>do
      let o <-load a
      match o.data with
      | .seq xs _=>pure xs.toList
      |_=>unsupported "internal:collect"
     |_=>unsupported "internal:collect") Q E s'
    | .ok _=>False
    | .error e=>E e s') {s2 with heap:=h}:=λh3 c st3 k3 g3=>by
  refine codeAny_extend_loopS ((W _ hh2).toS) hn s.heap.objs.size hSf (.ref s.heap.objs.size) zs.length 0 _ #[] c rfl (zero_le _) st3 g3 (ItemsOf.nil _) λs4 acc c4 mv g4 ac=>?_;dsimp only;refine wpAny_bind (wpAny_load g4 ?_);dsimp only;have ea:acc.toList=ys:=by
   refine ext_getElem? λj=>?_;by_cases hj:j<acc.size
   ·have z:=ac.2 j acc[j] (by simp [hj]);rw[z];simp [hj]
   ·have e1:acc.size=zs.length:=ac.1;rw[List.getElem?_eq_none (by simpa using hj),List.getElem?_eq_none (by lia)]
  rw[ea];refine wpAny_pure (h s4 ys (λb o e=>?_) (le_of_lt (lt_size g4)) q2 q3 (mv.gens.trans eg) (mv.os.trans eo));have b1:=lt_size e;refine mv.heap b o (by simp only [mem_cons,not_mem_nil,or_false,not_or];exact ⟨ne_of_lt b1,ne_of_lt (Nat.lt_trans b1 hI1)⟩) (k3 b o (ne_of_lt b1) (kp b o (get?_push_of_some _ e)))
 refine wpAny_bind (wpAny_holding (HA (eI.type (hS1.keep λo e=>kp _ _ e)) ?_));refine wpAny_ite_split (λ_=>?_) (λ_=>wpAny_pure ⟨plainId_quiet PySem.F.plain_extend_loop _,key _ _ st (λb o _ e=>e) g2⟩);refine wpAny_bind (wpAny_rule ?_);refine wpAny_bind ?_;show wpAny _ _ (updateSeq s.heap.objs.size (·.push .none) >>=λ_=>updateSeq s.heap.objs.size (·.pop)) _ _ _;refine wpAny_bind (wpAny_updateSeq g2 rfl ?_);have g5:=get?_update_self (Obj.mapSeq (·.push Value.none)) g2 rfl;refine wpAny_updateSeq (hz:=by seq_fits) g5 rfl ?_;have g6:=get?_update_self (Obj.mapSeq (·.pop)) g5 rfl;have oth:∀b o,b≠s.heap.objs.size->s2.heap.get? b=some o->((s2.heap.update s.heap.objs.size (Obj.mapSeq (·.push Value.none))).update s.heap.objs.size (Obj.mapSeq (·.pop))).get? b=some o:=λb o hb e=>
  (get?_update_other _ _ (Ne.symm hb)).trans ((get?_update_other _ _ (Ne.symm hb)).trans e)
 exact wpAny_pure ⟨plainId_quiet PySem.F.plain_extend_loop _,key _ _ ((W _ hh2).frame 0 _ _ st λb hb o e=>oth b o (λz=>hSf (z▸hb)) e) oth g6⟩
end
section
variable {prog:Program} {w:World} {A:Around} {E:Value->Shared->Prop} {s:Shared}
end
end L2.Na
namespace So
open PySem PySem.Spec PyProof.Rows
section
variable {prog:Program} {w:World} {A:Around} {E:Value->Shared->Prop} {s:Shared}
theorem QA (hO:o.OneLt):CO (model prog w) A E s oneType' (cK o) (λp=>∃a,o.keyOf p.1=some a):=by
 rintro ⟨p,p2⟩ ⟨q,q2⟩ st Q ⟨a,ha⟩ ⟨b,hb⟩ hk hQ;dsimp only at ha hb;have e:cK o (p,p2) (q,q2)=o.blt a b:=by
  unfold cK;dsimp only;rw[ha,hb];rfl
 rw[e] at hQ;rw[lt'_eq];refine wpS_bind (wpS_get ?_);rw[hk,keyLt'_oneType];refine wpS_bind (wpS_lift (wpAny_attempt (hO prog w A _ s p q a b ha hb ⟨rfl,?_⟩)));exact wpS_pure hQ
theorem qJ (hO:o.OneLt) (ho:s.heap.get? a=some (seqObj "list" vs.toArray n))
  (h0:KeysOf o (pairsOf vs)) (hkk:∀v₁ v₂ rest,vs=v₁::v₂::rest->keyKind' (v₁::v₂::rest).toArray=pure oneType') (hz:vs.length<=sizeLine)
  (h:∀st':SortSt,(arrOf st').Perm (pairsOf vs)->SortedToK o (arrOf st') (pairsOf vs).size->P (.done (.ret .none)) {s with heap:=sortedHeap s.heap a vs ((arrOf st').map (·.2))}):
  wpAny (model prog w) A (Builtin.«list.sort» ⟨[.ref a],[]⟩) P E s:=by
 by_cases h64:vs.length<64
 ·exact list_sort_treeK hO ho h0 hkk h64 h
 rw[list_sort_plain];have ha:a<s.heap.objs.size:=lt_size ho;refine wpAny_bind (listItems_at ho rfl ?_);refine wpAny_bind (listUpdate_at ho rfl ?_);obtain ⟨e1,ho1⟩:∃e1,(s.heap.update a (Obj.mapSeq λ_=>#[])).get? a=some (seqObj "list" #[] e1):=⟨_,get?_update_seq ho (λ_=>#[])⟩;refine wpAny_bind (seqEpoch_at ho1 rfl ?_);refine wpAny_bind (wpAny_newTuple ?_);refine wpAny_bind (wpAny_newList ?_);refine wpAny_holding ?_;have ho6:(((s.heap.update a (Obj.mapSeq λ_=>#[])).push (seqObj "tuple" vs.toArray 0)).push (seqObj "list" #[] 0)).get? a=some (seqObj "list" #[] e1):=by
  rw[get?_push_ne _ _ _ (by rw[size_push',size_update];exact ne_of_lt (lt_succ_of_lt ha)),get?_push_ne _ _ _ (by rw[size_update];exact ne_of_lt ha)];exact ho1
 show wpAny (model prog w) A _ P E {s with heap:=((s.heap.update a (Obj.mapSeq λ_=>#[])).push (seqObj "tuple" vs.toArray 0)).push (seqObj "list" #[] 0)};dsimp only;have hsz:vs.toArray.size=vs.length:=by simp
 have h2:¬vs.toArray.size<2:=by lia
 rw[if_neg h2,if_neg h2];obtain ⟨v₁,v₂,rest,rfl⟩:∃v₁ v₂ rest,vs=v₁::v₂::rest:=by
  match vs,hsz,h2 with
  |[],_,h2=>simp at h2
  |[_],_,h2=>simp at h2
  |v₁::v₂::rest,_,_=>exact ⟨v₁,v₂,rest,rfl⟩
 rw[hkk _ _ _ rfl];refine wpAny_bind (wpAny_pure ?_);refine wpAny_bind (wpAny_mono (qS (QA hO) (a₀:=pairsOf (v₁::v₂::rest)) (st:=SortSt.mk' oneType' ((v₁::v₂::rest).toArray.zip (v₁::v₂::rest).toArray) #[] 7 none)
  (Q:=λ_ st'=>(arrOf st').Perm (pairsOf (v₁::v₂::rest))/\failedOf st'=none/\fC o (arrOf st') 0 (pairsOf (v₁::v₂::rest)).size)
  ⟨Array.Perm.refl _,rfl,rfl,rfl,λt ht=>nomatch ht⟩ h0 (by rw[pairsOf_size];simp) λst' a1 a2 a3=>⟨a1,a2,a3⟩) ?_ λ_ _ e=>e)
 rintro ⟨⟨⟩,st'⟩ s' ⟨rfl,hp,hf,hs⟩;dsimp only;refine wpAny_bind (seqEpoch_at ho6 rfl ?_);refine wpAny_bind (listUpdate_at ho6 rfl ?_ (hsz2:=Nat.le_trans (le_of_eq ((size_map ..).trans (hp.size_eq.trans (pairsOf_size _)))) (Nat.le_succ_of_le hz)));rw[hf];simp only [bne_self_eq_false,false_eq_true,if_false];exact wpAny_pure (h st' hp λi j hij hj=>hs i j (zero_le _) hij (by lia))
end
end So
namespace L2.Na
open PySem PySem.Spec PyProof.Rows
section
variable {prog:Program} {w:World} {A:Around} {E:Value->Shared->Prop} {s:Shared}
theorem tD (hh:A.handled=none) (hS:eI prog w (uU w) s.heap a zs) (hn:zs.length<=sizeLine)
  (h:∀(s':Shared) (D:Addr) (vs:List Value) (ss:List Str) (e:Nat),(∀b o,s.heap.get? b=some o->s'.heap.get? b=some o)->s.heap.objs.size<=D->s'.heap.get? D=some (seqObj "list" vs.toArray e)->StrsAre vs ss->List.Perm ss zs->sortedS ss=true->
   s'.gens=s.gens->s'.os=s.os->Q (.ref D) s'):wpAny (model prog w) A (call (.builtin "sorted") [.ref a]) Q E s:=by
 refine Calls.call_function_entry kind_sorted plain_sorted entry_sorted (args_sorted1 _) ?_;unfold Builtin.«sorted»;refine wpAny_bind (m:=checkCount "sorted" 1 1 _) (wpAny_pure ?_);refine wpAny_bind (tE (A:=A.in1) (by simp [hh]) hS hn λs1 ys k1 le q2 q3 eg eo=>?_);have hl:ys.length=zs.length:=by rw[<-q3.length_eq,length_map]
 refine wpAny_bind (wpAny_newList ?_ (by rw[hl];exact hn));have hoL:(s1.heap.push (seqObj "list" ys.toArray 0)).get? s1.heap.objs.size=some (seqObj "list" ys.toArray 0):=get?_push_size _ rfl;show wpAny _ _ _ _ _ {s1 with heap:=s1.heap.push (seqObj "list" ys.toArray 0)};refine wpAny_bind (wpAny_holding (wpAny_call_entry slot_list_sort ⟨_,hoL,rfl⟩ entry_list_sort (So.qJ strKind_oneLt hoL q2.keysOf (λv₁ v₂ rest e=>keyKind_strs (by rw[<-e];exact q2)) (by lia) λst' a1 a2=>⟨_,rfl,?_⟩) (args_list_sort _)));obtain ⟨ss,b1,b2,b3⟩:=sorted_out_str q2 a1 a2;obtain ⟨e,he⟩:=sortedHeap_at (out:=(arrOf st').map (·.2)) hoL;refine wpAny_pure ⟨_,rfl,h _ s1.heap.objs.size ((arrOf st').map (·.2)).toList ss e (λb o z=>?_) le ?_ b1 (b2.trans q3) b3 eg eo⟩
 ·have lt:=lt_size (k1 b o z);show (sortedHeap _ _ _ _).get? b=some o;rw[sortedHeap_old (ne_of_lt lt) (by rw[Heap.size_push];exact lt_succ_of_lt lt)];exact get?_push_of_some _ (k1 b o z)
 ·rw[Array.toArray_toList];exact he
end
section
variable {prog:Program} {w:World} {A:Around} {E:Value->Shared->Prop} {s:Shared}
set_option maxHeartbeats 3200000 in
theorem yV {p:Addr} {its:Array Value} {ns:List Str} {Q:Value->Shared->Prop} (hh:A.handled=none) (hl:s.heap.IsList p its) (hlen:its.size=ns.length) (hat:∀(i:Nat) (v:Value) (hi:i<ns.length),its[i]?=some v->∃t,v=.str ns[i] t) (hb:its.size+1<scanBound)
  (h:∀(h':Heap) (tk:Nat) (l:List Str),eI prog w (uU w) h' s.heap.objs.size l->(∀c,c∈l↔c∈ns)->
   (∀b o,s.heap.get? b=some o->h'.get? b=some o)->Q (.ref s.heap.objs.size) {s with heap:=h',toks:=tk}):
  wpAny (model prog w) A (call (.type "set") [.ref p]) Q E s:=by
 obtain ⟨c,tl,hmro⟩:=PySem.F.called_set.mro;have hmade:=PySem.F.called_set.made;have hsub:=PySem.F.called_set.sub;refine wpAny_call (codeAny_of_tree ?_);show wpAny _ _ (callAny (.type "set") _) _ _ _;refine wpAny_pure ⟨Code.quiet_builtin _ (by decide+kernel),codeAny_builtin PySem.F.entry_type_call ?_⟩;rw[Around.under_plain (weight_type_call_type "set" [.ref p] []) rfl];have h1:=PySem.F.called_set.notType;have h2:=PySem.F.called_set.canCreate;have hct:=PySem.F.typeCall_set_1 (.ref p)
 repeat (any_goals (first|assumption|wp_step))
 refine codeAny_mono (EY (.ref p) (E:=E) (Q:=λob s1=>ob=.ref s.heap.objs.size/\s1={s with heap:=s.heap.push (cW w)}) ⟨rfl,rfl⟩) λr s1 hr=>?_;cases r with
 |error e=>exact hr
 |ok fl=>
  cases fl with
  |ret ob=>
   obtain ⟨rfl,rfl⟩:=hr;have hS:(s.heap.push (cW w)).get? s.heap.objs.size=some (cW w):=get?_push_size _ rfl;have hT:Shared.TypeIs {s with heap:=s.heap.push (cW w)} (.ref s.heap.objs.size) "set":=⟨_,hS,rfl⟩;have hli:=PySem.F.called_set.init.lookup;have hbi:=PySem.F.called_set.init.bind (.ref s.heap.objs.size)
   repeat (any_goals (first|assumption|wp_step))
   refine codeAny_mono (codeAny_call_builtin (R:=wants (λr s2=>r=.none/\∃h' tk l,s2={s with heap:=h',toks:=tk}/\eI prog w (uU w) h' s.heap.objs.size l/\(∀c,c∈l↔c∈ns)/\
     (∀b o,s.heap.get? b=some o->h'.get? b=some o)) E) PySem.F.called_set.init.plain PySem.F.entry_set_init (check_set_init_1 hT ?_)) λr2 s2 hr2=>?_
   ·obtain ⟨ol,hol,hcl,nl,hdl⟩:=hl;obtain ⟨ocls,odict,odata,oslots⟩:=ol;simp only at hcl hdl;subst hcl;subst hdl;have hol':(s.heap.push (cW w)).get? p=some {cls:=.type "list",dict:=odict,data:=.seq its nl,slots:=oslots}:=get?_push_of_some _ hol;have a1:=PySem.F.sub_list_set;have a2:=PySem.F.sub_list_frozenset;have a3:(Value.type "list"==Value.type "dict")=false:=by decide
    have hl1:(s.heap.push (cW w)).IsList p its:=⟨_,hol',rfl,nl,rfl⟩;have plt:p<s.heap.objs.size:=lt_size hol;unfold Builtin.«set.__init__» noKeywords Builtin.Frozenset.updateFrom;generalize hPI:pyIter=PI
    wp_walk
    subst hPI;refine wpAny_pyIter_list hl1 ?_;refine wpAny_bind (wpAny_runValue ?_);have hh3:A.in1.in1.in1.handled=none:=by simp [hh]
    have hneI:p≠(s.heap.push (cW w)).objs.size:=by rw[Heap.size_push];exact ne_of_lt (lt_succ_of_lt plt)
    have hSf:s.heap.objs.size∉[(s.heap.push (cW w)).objs.size,p]:=by
     rw[Heap.size_push];simp only [mem_cons,not_mem_nil,or_false,not_or];exact ⟨ne_of_lt (Nat.lt_succ_self _),ne_of_gt plt⟩
    have hval:∀(i:Nat) (v:Value),its[i]?=some v->∃t,v=.str ((λi=>ns.getD i ⟨#[]⟩) i) t:=λi v hv=>by
     have hi:i<its.size:=(Array.getElem?_eq_some_iff.mp hv).1;obtain ⟨t,e⟩:=hat i v (by lia) hv;have eg:ns.getD i ⟨#[]⟩=ns[i]:=by simp [getD_eq_getElem?_getD,show i<ns.length by lia]
     dsimp only;rw[eg];exact ⟨t,e⟩
    refine CS (bt:=uU w) ((Walks.list hh3 _ p hneI its).toS) s.heap.objs.size hSf (λi=>ns.getD i ⟨#[]⟩) hval hb (its.size - 0) 0 _ [] (by lia) (zero_le _)
     ⟨⟨_,get?_push_size _ rfl,rfl,rfl⟩,(hl1.push _)⟩ (HC (get?_push_of_some _ hS)) (λc=>by simp) (Nat.le_refl _) λs' l mv hS' hm=>?_
    obtain ⟨h',g',d',tk',os'⟩:=s';have eg:g'=s.gens:=mv.gens;have ed:d'=s.drawn:=mv.drawn;have eo:os'=s.os:=mv.os;subst eg ed eo;show wpAny _ _ _ _ _ _;refine wpAny_pure ?_;show wpAny _ _ (ret Value.none) _ _ _;refine wpAny_pure ⟨rfl,h',tk',l,rfl,hS',λc=>?_,λb o e=>?_⟩
    ·rw[hm c];constructor
     ·rintro ⟨j,hj,rfl⟩;have:j<ns.length:=by lia
      simp [getD_eq_getElem?_getD,this]
     ·intro hc';obtain ⟨j,hj,e⟩:=List.getElem_of_mem hc';exact ⟨j,by lia,by simp [getD_eq_getElem?_getD,hj,e]⟩
    ·have b1:=lt_size e;refine mv.heap b o (by rw[Heap.size_push];simp only [mem_cons,not_mem_nil,or_false,not_or];exact ⟨ne_of_lt b1,ne_of_lt (lt_succ_of_lt b1)⟩) (get?_push_of_some _ (get?_push_of_some _ e))
   ·cases r2 with
    |error e=>exact hr2
    |ok fl2=>
     cases fl2 with
     |ret r=>
      obtain ⟨rfl,h',tk,l,rfl,q1,q2,q3⟩:=hr2
      repeat (any_goals (first|assumption|wp_step))
      exact h _ _ l q1 q2 q3
     |_=>exact hr2.elim
  |_=>exact hr.elim
end
end L2.Na
namespace L2.L3
open PySem PySem.Spec PyProof.Rows
noncomputable def sgn (c:Nat):V:=.str ⟨#[c]⟩
noncomputable def YT (z:Str):It:=⟨λi _=>i<z.cps.size,λi H x H'=>H'=H/\∃c,z.cps[i]?=some c/\x=sgn c,λi _=>z.cps.size<=i⟩
theorem GJ {P:Program} {w:World} {K:Fg} {tg:Expr} (z:Str) (t:Tok) (it:Addr) (T:String) (hT:T="str_ascii_iterator"\/T="str_iterator"):
  Turn P w K tg (YT z) [it] it (λi h=>h.IsStrIter it T z t i) where
 mem:=by simp
 obj:=λi h st b hb=>by
  have e:b=it:=by simpa using hb
  subst e;obtain ⟨o,e,c,d⟩:=st;exact ⟨o,e,λv z=>by rw[d] at z;cases z⟩
 keep:=λi h h' st k=>by
  obtain ⟨o,e,c,d⟩:=st;exact ⟨o,k it (by simp) o e,c,d⟩
 item:=by
  intro X hP hw hK hc i pins s σ H E I hf st hg;subst hP hw hK;obtain ⟨f0,f1,f2,f3,f4,f5⟩:=hf it (by simp);have hi:i<z.cps.size:=hg;rcases hT with rfl|rfl
  ·refine wpAny_pyNext_ascii_item st (c:=z.cps[i]) (by simp [hi]) λh' st' sb=>?_;have I1:Inv X pins σ H {s with heap:=h',toks:=s.toks+1}:=I.turned (λb o hb e=>(sb.2 b hb).trans e) f0 f1 f3 f4 f5;obtain ⟨o,e,c,d⟩:=id st';exact ⟨_,rfl,oY (s:={s with heap:=h',toks:=s.toks+1}) e c d (by decide) ⟨sgn z.cps[i],H,I1,⟨_,rfl⟩,⟨rfl,_,by simp [hi],rfl⟩,st',λb hb=>(hf b hb).1⟩⟩
  ·refine wpAny_pyNext_wide_item st (c:=z.cps[i]) (by simp [hi]) λh' st' sb=>?_;have I1:Inv X pins σ H {s with heap:=h',toks:=s.toks+1}:=I.turned (λb o hb e=>(sb.2 b hb).trans e) f0 f1 f3 f4 f5;obtain ⟨o,e,c,d⟩:=id st';exact ⟨_,rfl,oY (s:={s with heap:=h',toks:=s.toks+1}) e c d (by decide) ⟨sgn z.cps[i],H,I1,⟨_,rfl⟩,⟨rfl,_,by simp [hi],rfl⟩,st',λb hb=>(hf b hb).1⟩⟩
 done:=by
  intro X hP hw hK hc i pins s σ H E I hf st hg;subst hP hw hK;obtain ⟨f0,f1,f2,f3,f4,f5⟩:=hf it (by simp);have hi:z.cps.size<=i:=hg;rcases hT with rfl|rfl
  ·exact wpAny_pyNext_ascii_end (I.ok.hd hc) st (by simp [hi]) λh' eb=>⟨rfl,I.turned (t':=s.toks) (λb o hb e=>eb b o hb e) f0 f1 f3 f4 f5⟩
  ·exact wpAny_pyNext_wide_end (I.ok.hd hc) st (by simp [hi]) λh' eb=>⟨rfl,I.turned (t':=s.toks) (λb o hb e=>eb b o hb e) f0 f1 f3 f4 f5⟩
 self:=λ_ _ _ _ _ st h=>by
  rcases hT with rfl|rfl
  ·exact wpAny_pyIter_striter_ascii st h
  ·exact wpAny_pyIter_striter_wide st h
structure Yl (J:It) (P:Hp->Prop) (items:List V):Prop where
 go:∀i H,P H->i<items.length->J.go i H
 yld:∀i H x H',P H->i<items.length->J.yld i H x H'->H'=H/\items[i]?=some x
 stop:∀H,P H->J.stop items.length H
theorem dG {K:Fg} {a:Addr} {xs:List V}:Yl (SG K a) (λH=>aR K H a xs) xs where
 go:=λi H p h=>⟨xs,xs[i],p,by simp [h]⟩
 yld:=λi H x H' p _ h=>⟨h.1,h.2 xs p⟩
 stop:=λH p=>⟨xs,p,Nat.le_refl _⟩
theorem SJ {K:Fg} {a:Addr} {xs:List V}:Yl (Ei K a) (λH=>cC K H a xs) xs where
 go:=λi H p h=>⟨xs,xs[i],p,by simp [h]⟩
 yld:=λi H x H' p _ h=>⟨h.1,h.2 xs p⟩
 stop:=λH p=>⟨xs,p,Nat.le_refl _⟩
noncomputable def DI (lo:Int) (n:Nat):List V:=(range n).map λi=>.int (lo+(i:Nat))
theorem gS (lo:Int) (n:Nat):(DI lo n).length=n:=by unfold DI;rw[length_map,length_range]
theorem HF {lo:Int} {n i:Nat} (h:(DI lo n)[i]?=some x):i<n/\x=.int (lo+(i:Nat)):=by
 unfold DI at h;rw[getElem?_map] at h;by_cases hi:i<n
 ·rw[getElem?_range hi] at h;exact ⟨hi,(Option.some.inj h).symm⟩
 ·rw[List.getElem?_eq_none_iff.mpr (by rw[length_range];lia)] at h;cases h
theorem SK {lo:Int} {n:Nat}:Yl (FP lo n) (λ_=>True) (DI lo n) where
 go:=λi H _ h=>by rw[gS] at h;exact h
 yld:=λi H x H' _ hi h=>⟨h.1,by
  have e:x=.int (lo+(i:Nat)):=h.2
  rw[gS] at hi
  rw[e]
  unfold DI
  rw[getElem?_map,getElem?_range hi]
  rfl⟩
 stop:=λH _=>by rw[gS];exact Nat.le_refl _
noncomputable def yU (z:Str):List V:=z.cps.toList.map sgn
theorem gR (z:Str):(yU z).length=z.cps.size:=by unfold yU;rw[length_map,length_toList]
theorem FX:Yl (YT z) (λ_=>True) (yU z) where
 go:=λi H _ h=>by rw[gR] at h;exact h
 yld:=λi H x H' _ hi h=>by
  obtain ⟨e,c,h1,h2⟩:=h;refine ⟨e,?_⟩;unfold yU;rw[getElem?_map,h2];have q:z.cps.toList[i]?=some c:=by simpa using h1
  rw[q];rfl
 stop:=λH _=>by rw[gR];exact Nat.le_refl _
theorem KI {J:It} {P:Hp->Prop} {xs:List V} {g:TG} {tb:TS} {D:Ends} {σ:St} {H:Hp} (Y:Yl J P xs) (Pv:Nat->St->Hp->Prop) (h0:Pv 0 σ H) (hl:∀i σ H,i<=xs.length->Pv i σ H->P H)
  (hs:∀i x σ H,xs[i]?=some x->Pv i σ H->g x σ H λσ2 H2=>tb {D with nx:=Pv (i+1),ct:=Pv (i+1),bk:=D.nx} σ2 H2) (hd:∀σ H,Pv xs.length σ H->D.nx σ H):
  ∃W:Nat->Nat->St->Hp->Prop,(∃m,W 0 m σ H)/\∀i m σ H,W i m σ H->
   (J.stop i H/\D.nx σ H)\/(J.go i H/\∃N:St->Hp->Prop,(∀σ' H',N σ' H'->∃m',m'<m/\W (i+1) m' σ' H')/\∀x H',J.yld i H x H'->g x σ H' λσ2 H2=>tb {D with nx:=N,ct:=N,bk:=D.nx} σ2 H2):=by
 refine ⟨λi m σ H=>m=xs.length - i/\i<=xs.length/\Pv i σ H,⟨xs.length,by simp,zero_le _,h0⟩,?_⟩;rintro i m σ H ⟨rfl,hi,p⟩;have q:=hl i σ H hi p;by_cases hlt:i<xs.length
 ·refine .inr ⟨Y.go i H q hlt,Pv (i+1),λσ' H' p'=>⟨xs.length - (i+1),by lia,rfl,hlt,p'⟩,λx H' y=>?_⟩;obtain ⟨e,hx⟩:=Y.yld i H x H' q hlt y;subst e;exact hs i x σ H' hx p
 ·have e:i=xs.length:=by lia
  subst e;exact .inl ⟨Y.stop H q,hd σ H p⟩
theorem KJ {J:It} {P:Hp->Prop} {xs:List V} {g:TG} {tb:TS} {D:Ends} {σ:St} {H:Hp} (Y:Yl J P xs) (hP:∀H',aB H H'->P H') (S:Nat->St->Prop) (h0:S 0 σ)
  (hs:∀i x σ1 H1,xs[i]?=some x->S i σ1->aB H H1->g x σ1 H1 λσ2 H2=>tb {D with nx:=λσ3 H3=>S (i+1) σ3/\aB H H3,ct:=λσ3 H3=>S (i+1) σ3/\aB H H3,bk:=D.nx} σ2 H2) (hd:∀σ1 H1,S xs.length σ1->aB H H1->D.nx σ1 H1):
  ∃W:Nat->Nat->St->Hp->Prop,(∃m,W 0 m σ H)/\∀i m σ H,W i m σ H->
   (J.stop i H/\D.nx σ H)\/(J.go i H/\∃N:St->Hp->Prop,(∀σ' H',N σ' H'->∃m',m'<m/\W (i+1) m' σ' H')/\∀x H',J.yld i H x H'->g x σ H' λσ2 H2=>tb {D with nx:=N,ct:=N,bk:=D.nx} σ2 H2):=
 KI Y (λi σ1 H1=>S i σ1/\aB H H1) ⟨h0,aB.refl _⟩ (λ_ _ H1 _ p=>hP H1 p.2) (λi x σ1 H1 hx p=>hs i x σ1 H1 hx p.1 p.2) λσ1 H1 p=>hd σ1 H1 p.1 p.2
noncomputable def xN (names:List (Str × NameKind)) (env:Env):List (Str × Addr):=((names.filter λx=>x.2==.free).filterMap λx=>(env.cells.lookup x.1).map λc=>(x.1,c)).reverse
theorem LG (h:(x,c)∈xN names env):env.cells.lookup x=some c:=by
 obtain ⟨y,hy,e⟩:=mem_filterMap.mp (List.mem_reverse.mp h);cases q:env.cells.lookup y.1 with
 |none=>rw[q] at e;cases e
 |some d=>
  rw[q] at e;have e':(y.1,d)=(x,c):=Option.some.inj e;cases e';exact q
theorem mH (h:(xN names env).lookup x=some c):env.cells.lookup x=some c:=LG (PySem.mem_of_lookup h)
theorem LH (h:names.lookup x=some .free) (e:env.cells.lookup x=some c):(xN names env).lookup x=some c:=by
 have hm:(x,c)∈xN names env:=List.mem_reverse.mpr (mem_filterMap.mpr ⟨(x,.free),mem_filter.mpr ⟨PySem.mem_of_lookup h,rfl⟩,by rw[e];rfl⟩);cases q:(xN names env).lookup x with
 |none=>
  have z:=List.lookup_eq_none_iff.mp q _ hm;simp at z
 |some d=>
  have z:=mH q;rw[e] at z;exact z.symm
theorem kD {env:Env}:∀{names:List (Str × NameKind)} {x:Str},env.scope.kind=.function->names.lookup x=some .free->env.kindOf x=some .cell->
  (names.map λ(n,k)=>if (k==NameKind.free&&env.scope.kind==.function&&env.kindOf n==some .cell) then (n,NameKind.cell) else (n,k)).lookup x=some .cell
 |[],_,_,h,_=>by simp at h
 | (n,k)::r,x,hk,h,hc=>by
  by_cases hx:x=n
  ·subst hx;rw[lookup_cons_self] at h;cases h;rw[map_cons];dsimp only;rw[if_pos (by rw[hk,hc];rfl)];exact lookup_cons_self
  ·have hb:(x==n)=false:=beq_eq_false_iff_ne.mpr hx;rw[lookup_cons,hb] at h;have ih:=kD (names:=r) hk h hc;rw[map_cons];dsimp only;by_cases c:(k==NameKind.free&&env.scope.kind==.function&&env.kindOf n==some .cell)=true
   ·rw[if_pos c,lookup_cons,hb];exact ih
   ·rw[if_neg c,lookup_cons,hb];exact ih
theorem fW {env:Env}:∀{names:List (Str × NameKind)} {x:Str} {k:NameKind},(names.map λ(n,k)=>if (k==NameKind.free&&env.scope.kind==.function&&env.kindOf n==some .cell) then (n,NameKind.cell) else (n,k)).lookup x=some k->
  names.lookup x=some k\/(k=.cell/\names.lookup x=some .free)
 |[],_,_,h=>by simp at h
 | (n,k')::r,x,k,h=>by
  rw[map_cons] at h;dsimp only at h;by_cases hx:x=n
  ·subst hx;rw[lookup_cons_self];by_cases c:(k'==NameKind.free&&env.scope.kind==.function&&env.kindOf x==some .cell)=true
   ·rw[if_pos c,lookup_cons_self] at h;cases h;have z:k'=.free:=by
     rw[and_eq_true,and_eq_true] at c;exact beq_iff_eq.mp c.1.1
    exact .inr ⟨rfl,by rw[z]⟩
   ·rw[if_neg c,lookup_cons_self] at h;exact .inl h
  ·have hb:(x==n)=false:=beq_eq_false_iff_ne.mpr hx;have h':(r.map λ(n,k)=>if (k==NameKind.free&&env.scope.kind==.function&&env.kindOf n==some .cell) then (n,NameKind.cell) else (n,k)).lookup x=some k:=by
    by_cases c:(k'==NameKind.free&&env.scope.kind==.function&&env.kindOf n==some .cell)=true
    ·rw[if_pos c,lookup_cons,hb] at h;exact h
    ·rw[if_neg c,lookup_cons,hb] at h;exact h
   rw[lookup_cons,hb];exact fW h'
theorem bG:∀(names:List (Str × NameKind)) (n:Nat) (acc:List (Str × Addr)),cellsFrom n names acc=cellsFrom n names []++acc
 |[],_,_=>rfl
 | (name,kind)::r,n,acc=>by
  unfold cellsFrom;split
  ·rw[bG r (n+1) ((name,n)::acc),bG r (n+1) [(name,n)],List.append_assoc];rfl
  ·exact bG r n acc
theorem eV:∀(names:List (Str × NameKind)) (n:Nat) {x:Str} {c:Addr},(x,c)∈cellsFrom n names []->(x,NameKind.cell)∈names
 |[],_,_,_,h=>nomatch h
 | (name,kind)::r,n,x,c,h=>by
  unfold cellsFrom at h;split at h
  ·rename_i hk;rw[bG] at h;rcases mem_append.mp h with h|h
   ·exact mem_cons_of_mem _ (eV r _ h)
   ·have e:=mem_singleton.mp h;have e1:x=name:=congrArg Prod.fst e;have e2:kind=NameKind.cell:=eq_of_beq hk;rw[e1,e2];exact mem_cons_self
  ·exact mem_cons_of_mem _ (eV r _ h)
noncomputable def kX (sc:Scope) (C:Addr) (env:Env):List (Str × Addr):=cellsFrom (C+1) sc.names (xN sc.names env)
theorem iC (h:(kX sc C env).lookup x=some c):(x,c)∈cellsFrom (C+1) sc.names []\/env.cells.lookup x=some c:=by
 unfold kX at h;rw[bG,List.lookup_append] at h;cases q:(cellsFrom (C+1) sc.names []).lookup x with
 |some d=>
  rw[q] at h;have e:d=c:=Option.some.inj h;subst e;exact .inl (PySem.mem_of_lookup q)
 |none=>
  rw[q] at h;exact .inr (mH h)
theorem FH (hx:sc.names.lookup x=some .cell) (h:(kX sc C env).lookup x=some c):(x,c)∈cellsFrom (C+1) sc.names []:=by
 obtain ⟨d,q⟩:=pI (n:=C+1) hx;unfold kX at h;rw[bG,List.lookup_append,q] at h;have e:d=c:=Option.some.inj h;subst e;exact PySem.mem_of_lookup q
theorem pN (hown:∀y∈sc.names,y.2=.cell->sc.names.lookup y.1=some .cell) (hx:sc.names.lookup x=some .free) (e:env.cells.lookup x=some c):(kX sc C env).lookup x=some c:=by
 unfold kX;rw[bG,List.lookup_append];cases q:(cellsFrom (C+1) sc.names []).lookup x with
 |some d=>
  have z:=hown _ (eV _ _ (PySem.mem_of_lookup q)) rfl;have z':sc.names.lookup x=some .cell:=z;rw[hx] at z';cases z'
 |none=>exact LH hx e
theorem IA (h:Heap) (ob:Obj) (sc:Scope):CellsOk (pushCells (h.push ob) sc.names) (h.objs.size+1) (cellsFrom (h.objs.size+1) sc.names []):=by
 have ok:=cellsFrom_ok sc.names (h.push ob) (h.objs.size+1) [] ⟨λ_ _ hm=>(nomatch hm),Pairwise.nil⟩ (by rw[Heap.size_push];exact Nat.le_refl _);rwa [Heap.size_push] at ok
theorem sQ {M:Model} {A:Around} {E:Value->Shared->Prop} {s:Shared} {scope:Scope} {globals:Addr} {closure:List (Str × Addr)} {qual:Str} {func:Option Addr} {code:Value} {outer:Env} {builtins:Addr} {Q:Env->Shared->Prop}
  (hQ:Q (newEnv scope s.heap.objs.size globals (cellsFrom (s.heap.objs.size+1) scope.names closure) qual func code (some outer) builtins) {s with heap:=pushCells (s.heap.push {cls:=.type "dict",data:=.dict #[]}) scope.names}):
  wpAny M A (newFunctionEnv scope globals closure [] qual func code (some outer) builtins) Q E s:=by
 simp only [newFunctionEnv,Option.isSome_some,if_true];refine wpAny_bind (wpAny_alloc ?_);refine wpAny_bind (wpAny_layCells _ (λname kind cells=>by cases hkc:kind==NameKind.cell<;>simp [hkc]) _ _ _ _ ?_);rw[show ({s with heap:=s.heap.push {cls:=.type "dict",data:=.dict #[]}}:Shared).heap.objs.size=s.heap.objs.size+1 from Heap.size_push ..];refine wpAny_bind ?_;rw[forIn_nil];exact wpAny_pure (wpAny_pure hQ)
noncomputable def FI (X:Cx) (N:List Str) (sc:Scope) (C:Addr) (s₀:Shared) (H₀:Hp) (ex:List Addr):Cx:=
 {X with N:=N,s₀:=s₀,H₀:=H₀,env:=compEnvC sc (kX sc C X.env) C X.env,outer:=X.stack,ex:=ex,fn:=λx=>sc.names.lookup x==some .cell,pn:=[],xe:=λ_ _=>False}
inductive FQ (X:Cx) (sc:Scope):List Str->List Nat->Prop
 |nil:FQ X sc [] []
 |cons {x:Str} {i:Nat} {xs:List Str} {is:List Nat} (hN:X.N[i]?=some x) (hk:X.env.kindOf x=some .cell) (hf:sc.names.lookup x=some .free) (t:FQ X sc xs is):FQ X sc (x::xs) (i::is)
theorem FQ.length:∀{xs:List Str} {is:List Nat},FQ X sc xs is->xs.length=is.length
 |_,_,.nil=>rfl
 |_,_,.cons _ _ _ t=>by rw[length_cons,length_cons,FQ.length t]
theorem FQ.get {X:Cx} {sc:Scope}:∀{xs:List Str} {is:List Nat} {j:Nat} {x:Str},FQ X sc xs is->xs[j]?=some x->∃i,is[j]?=some i/\X.N[i]?=some x/\X.env.kindOf x=some .cell/\sc.names.lookup x=some .free
 |_,_,_,_,.nil,e=>by simp at e
 |_,_,0,_,.cons hN hk hf _,e=>by
  have e':=Option.some.inj e;subst e';exact ⟨_,rfl,hN,hk,hf⟩
 |_,_,j+1,x,.cons _ _ _ t,e=>by
  obtain ⟨i,h1,h2⟩:=FQ.get (j:=j) (x:=x) t (by simpa using e);exact ⟨i,by simpa using h1,h2⟩
noncomputable def fO (is:List Nat) (σ:St):St:=is.map λi=>(σ[i]?).join
noncomputable def FC (n:Nat) (is:List Nat) (σ:St):St:=replicate n none++fO is σ
theorem Un.but (u:Un fs ex H H1 h h1) (hs:SameBut C h1 h2) (hC:h.objs.size<=C):Un fs ex H H1 h h2:=by
 have ne:∀b o,h.get? b=some o->b≠C:=λb o e=>ne_of_lt (Nat.lt_of_lt_of_le (lt_size e) hC);refine ⟨λb o q n hb hx=>(hs.2 b (ne b o q)).trans (u.keep b o q n hb hx),λb o q n hb hx=>?_,u.free,λb o q hx=>?_,u.tups,u.frzs,u.tbls⟩
 ·obtain ⟨sl,e⟩:=u.slot b o q n hb hx;exact ⟨sl,(hs.2 b (ne b o q)).trans e⟩
 ·obtain ⟨o',e⟩:=u.there b o q hx;exact ⟨o',(hs.2 b (ne b o q)).trans e⟩
theorem eJ.but (k:eJ P w H h) (hs:SameBut C h h') (hn:H C=none):eJ P w H h':=λb ob e=>by
 refine (k b ob e).stay (λc w' hc q=>(hs.2 c ?_).trans q) (λ_ q=>q) λ_ _ q=>q;rintro rfl;rcases hc with rfl|hc
 ·rw[hn] at e;cases e
 ·rw[hn] at hc;cases hc
section
variable {X:Cx} {pins:List (Addr × Obj)} {σ:St} {H:Hp} {s:Shared}
theorem XN (I:Inv X pins σ H s) {N:List Str} {sc:Scope} {ex:List Addr} (hkind:sc.kind=.function) (hown:∀y∈sc.names,y.2=.cell->sc.names.lookup y.1=some .cell) (hfr:(sc.names.all λy=>y.2 != .free || X.env.kindOf y.1==some .cell)=true)
  (hex:∀b∈ex,lV X pins H b) (hob:∀b∈ex,∃o,s.heap.get? b=some o):(FI X N sc s.heap.objs.size s H ex).Ok:=by
 have oc:=IA s.heap {cls:=.type "dict",data:=.dict #[]} sc;have lo:∀{x c},(x,c)∈cellsFrom (s.heap.objs.size+1) sc.names []->s.heap.objs.size<c:=λhm=>(oc.empty _ _ hm).2;have hi:∀{x c},X.env.cells.lookup x=some c->c<s.heap.objs.size:=λe=>by
  obtain ⟨v,o,e',_⟩:=I.cell _ _ e;exact lt_size e'
 refine ⟨I.ok.mod,hkind,I.ok.glob,I.ok.blt,Nat.le_refl _,λx y c h1 h2=>?_,λx h=>?_,λx c hf h=>?_,I.ok.hd,I.ok.frames,.inl rfl,λb hb=>⟨?_,λx c h=>?_⟩,I.bs,Nat.le_trans I.ok.bsz I.sz,λb o e hb=>?_,λb hb hf=>?_,I.stack,I.stkFree⟩
 ·rcases iC h1 with h1|h1<;>rcases iC h2 with h2|h2
  ·exact PySem.name_of_addr oc.apart h1 h2
  ·exact absurd (hi h2) (Nat.lt_asymm (lo h1))
  ·exact absurd (hi h1) (Nat.lt_asymm (lo h2))
  ·exact I.ok.inj x y c h1 h2
 ·have fr:sc.names.lookup x=some .free->∃c,(kX sc s.heap.objs.size X.env).lookup x=some c:=λq=>by
   have z:=all_eq_true.mp hfr _ (PySem.mem_of_lookup q);have z':(X.env.kindOf x==some .cell)=true:=z;obtain ⟨c,e⟩:=I.ok.has x (.inl (beq_iff_eq.mp z'));exact ⟨c,pN hown q e⟩
  rcases h with h|h
  ·rcases fW (show (sc.names.map λ(n,k)=>if (k==NameKind.free&&X.env.scope.kind==.function&&X.env.kindOf n==some .cell) then (n,NameKind.cell) else (n,k)).lookup x=some .cell from h) with q|⟨_,q⟩
   ·exact Option.isSome_iff_exists.mp (PySem.W.cellsFrom_some sc.names _ _ (.inl q))
   ·exact fr q
  ·rcases fW (show (sc.names.map λ(n,k)=>if (k==NameKind.free&&X.env.scope.kind==.function&&X.env.kindOf n==some .cell) then (n,NameKind.cell) else (n,k)).lookup x=some .free from h) with q|⟨q,_⟩
   ·exact fr q
   ·cases q
 ·have hx:sc.names.lookup x=some .cell:=eq_of_beq hf;exact le_of_lt (lo (FH hx h))
 ·obtain ⟨o,e⟩:=hob b hb;exact ne_of_lt (lt_size e)
 ·rcases iC h with h|h
  ·obtain ⟨o,e⟩:=hob b hb;exact ne_of_gt (Nat.lt_trans (lt_size e) (lo h))
  ·exact (hex b hb).2.2.2.2.1 x c h
 ·obtain ⟨_,_,_,q,_⟩:=hex b hb;rcases q with q|q
  ·exact I.ok.noex b o e q
  ·exact absurd (Nat.lt_of_lt_of_le (lt_size (I.ok.bs b o e).1) q) (Nat.lt_irrefl _)
 ·obtain ⟨_,n1,n2,_⟩:=hex b hb;rcases mem_cons.mp (I.stkSub b hf) with z|z
  ·exact n1 z
  ·exact n2 z
theorem FG (I:Inv X pins σ H s) (hkind:sc.kind=.function) (hown:∀y∈sc.names,y.2=.cell->sc.names.lookup y.1=some .cell) (hfr:(sc.names.all λy=>y.2 != .free || X.env.kindOf y.1==some .cell)=true)
  (hcap:FQ X sc caps is) (hex:∀b∈ex,lV X pins H b) (hob:∀b∈ex,∃o,s.heap.get? b=some o) (hn:h1.Ns s.heap.objs.size m0) (hk:∀b o,s.heap.get? b=some o->h1.get? b=some o) (oc:CellsOk h1 (s.heap.objs.size+1) (cellsFrom (s.heap.objs.size+1) sc.names [])):
  Inv (FI X (own++caps) sc s.heap.objs.size s H ex) [] (FC own.length is σ) H {s with heap:=h1,toks:=tk}:=by
 refine ⟨XN I hkind hown hfr hex hob,rfl,I.bare,Un.kept hk,⟨m0,hn,λi x v e1 e2 _=>?_⟩,λx c h=>?_,I.hok.fresh (Nat.le_refl _),λx c h=>(iC h).elim (λh=>I.hok.fresh (le_of_lt (oc.empty _ _ h).2)) λh=>I.freeC x c h,λp hp=>absurd (show p∈([]:List (Addr × Obj)) from hp) (by simp),I.hok.kept hk,?_⟩
 ·have e1':(own++caps)[i]?=some x:=e1;by_cases hi:i<own.length
  ·unfold FC at e2;rw[getElem?_append_left (by rw[length_replicate];exact hi),List.getElem?_replicate,if_pos hi] at e2;cases e2
  ·rw[getElem?_append_right (by lia)] at e1';unfold FC at e2;rw[getElem?_append_right (by rw[length_replicate];lia),length_replicate] at e2;obtain ⟨i',q1,q2,q3,q4⟩:=hcap.get e1';unfold fO at e2;rw[getElem?_map,q1] at e2;have e2':(σ[i']?).join=some v:=Option.some.inj e2;have e3:σ[i']?=some (some v):=by
    cases z:σ[i']? with
    |none=>rw[z] at e2';cases e2'
    |some w=>
     rw[z] at e2';have e4:w=some v:=e2';rw[e4]
   obtain ⟨m,_,hl⟩:=I.loc;obtain ⟨u,r,l⟩:=hl i' x v q2 e3 (.inr (.inl q3));refine ⟨u,r,?_⟩;rcases l with ⟨z,_⟩|⟨_,c,z1,o,z2,z3⟩
   ·rw[q3] at z;cases z
   ·refine .inr ⟨.inl ?_,c,pN hown q4 z1,o,hk _ _ z2,z3⟩;exact kD I.ok.kind q4 q3
 ·rcases iC h with h|h
  ·exact ⟨none,(oc.empty _ _ h).1⟩
  ·obtain ⟨v,o,e,d⟩:=I.cell x c h;exact ⟨v,o,hk _ _ e,d⟩
 ·show (FC own.length is σ).length=(own++caps).length;unfold FC fO;rw[length_append,length_append,length_replicate,length_map,hcap.length]
end
section
variable {X:Cx}
noncomputable def Fo:V->Option Int->Option Int->Hp->VK->Prop:=λx lo hi H Q=>∃z,x=.str z/\z.length<=sizeLine/\Q (.str (Txt.slice z lo hi)) H
theorem TF:Eb X Fo:=by
 intro pins s σ H x v vl vu lo hi sl Q I rx hs pl pu h;obtain ⟨z,rfl,hz,q⟩:=h;obtain ⟨t,rfl⟩:=rx;have fin:∀lo hi:Option Int,Q (.str (Txt.slice z lo hi)) H->(Txt.slice z lo hi).length<=sizeLine/\∀t' k,EP X pins σ Q (.str (Txt.slice z lo hi) t') {s with toks:=k}:=λlo hi q=>
  ⟨Nat.le_trans (Txt.slice_le z _ _) hz,λt' k=>⟨.str _,H,I.tok k,⟨t',rfl⟩,q⟩⟩
 refine ⟨"str",_,F.slot_str_getitem.lookup,typeIs_str _ _ _,?_⟩;cases pl with
 |none=>
  cases pu with
  |none=>exact wpAny_getItem_str_slice (l:=none) (u:=none) (st:=none) hs rfl (post_val_or_str (fin none none q))
  |int j t2=>exact wpAny_getItem_str_slice (l:=none) (u:=some (j,t2)) (st:=none) hs rfl (post_val_or_str (fin none (some j) q))
 |int i t1=>
  cases pu with
  |none=>exact wpAny_getItem_str_slice (l:=some (i,t1)) (u:=none) (st:=none) hs rfl (post_val_or_str (fin (some i) none q))
  |int j t2=>exact wpAny_getItem_str_slice (l:=some (i,t1)) (u:=some (j,t2)) (st:=none) hs rfl (post_val_or_str (fin (some i) (some j) q))
theorem bX (h0:0<=j):(Txt.slice z none (some j)).cps.toList=z.cps.toList.take j.toNat:=by
 have hl:z.cps.toList.length=z.length:=by simp [Str.length]
 by_cases h:j<=z.length
 ·have e:=beq_iff_eq.mp (slice_closes_to (x:=z) (j:=j) ⟨h0,by rw[hl];exact h⟩);rw[e];simp
 ·have e:=beq_iff_eq.mp (slice_closes_to (x:=z) (j:=(z.length:Int)) ⟨by lia,by rw[hl];exact Int.le_refl _⟩);rw[slice_to_beyond (by lia),e];show List.take ((z.length:Int) - 0).toNat (z.cps.toList.drop 0)=_;rw[drop_zero,take_of_length_le (by lia),take_of_length_le (by lia)]
theorem yQ (h0:0<=i) (h1:i<=z.length):(Txt.slice z (some i) none).cps.toList=z.cps.toList.drop i.toNat:=by
 have hl:z.cps.toList.length=z.length:=by simp [Str.length]
 rw[slice_from_eq (b:=(z.length:Int)) h0 h1 rfl];show (z.cps.toList.drop i.toNat).take ((z.length:Int) - i).toNat=_;rw[take_of_length_le (by rw[length_drop];lia)]
theorem lG (z:Str) (lo hi:Option Int):(Txt.slice z lo hi).length<=z.length:=Txt.slice_le z lo hi
noncomputable def Ft (K:Fg):List V->Hp->VK->Prop:=λxs H Q=>∃x n t b,xs=[x,.ty n]/\gC K H x t/\PySem.W.kitOne K t (.type n)=some b/\Q (.bl b) H
theorem LM:cD X (.builtin "isinstance") (Ft X.K):=by
 intro pins s σ H xs us Q I rv h;obtain ⟨x,n,t,b,rfl,ty,k,q⟩:=h;obtain ⟨u,w',rfl,rx,ry⟩:=rv.two;cases (show w'=Value.type n from ry);exact EG I rx ty k λtk=>⟨.bl b,H,I.tok tk,rfl,q⟩
end
noncomputable def LA:Const->Option V
 | .none=>some .non
 | .bool b=>some (.bl b)
 | .int i=>some (.int i)
 | .str x=>some (.str x)
 |_=>none
theorem DL (h:LA c=some v):PE X (.Constant c j pos) (tC v):=by
 cases c with
 |none=>cases h;exact UP
 |bool b=>cases h;exact As
 |int i=>cases h;exact UR
 |str x=>cases h;exact UN
 |_=>cases h
theorem aE (h:H p=none) (o:HO):aB H (upd H p o):=λb u q=>by rw[aF (aD q h)];exact q
theorem xP (I:Inv X pins σ H s):sysModules<s.heap.objs.size:=by
 have h:mainGlobals<s.heap.objs.size:=(I.mod.glob.keeps I.bk).lt;exact Nat.lt_trans (by decide) h
noncomputable def QZ:TE:=λ_ H Q=>∀p,H p=none->Q (.ref p) (upd H p (.dK []))
theorem NQ:PE X (.Dict [] [] pos) QZ:=λpins s σ H Q I h=>
 wpAny_Dict_empty ⟨.ref s.heap.objs.size,_,I.laid (a:=s.heap.objs.size) (o:=.dK []) (t':=s.toks) (λ_ _ q=>get?_push_of_some _ q) (Nat.le_refl _)
  ⟨zero_le _,beq_eq_false_iff_ne.mpr (Ne.symm (ne_of_lt (xP I))),[],.nil,DictOf.new _⟩,rfl,h _ (I.hok.fresh (Nat.le_refl _))⟩
end L2.L3
namespace ZD
open PySem PySem.Spec PyProof.Rows
section
variable {prog:Program} {w:World} {A:Around} {E:Value->Shared->Prop} {s:Shared}
theorem alive {α:Type} {M:Model} {a:Addr} {o:Obj} {k:Option Obj->Sem α} {Q:α->Shared->Prop} (ho:s.heap.get? a=some o) (h:wpAny M A (k (some o)) Q E s):wpAny M A (.loadIfAlive a k) Q E s:=λΓ p hi=>by
 rw[Sem.wp_loadIfAlive,ho];exact h Γ p hi
theorem IM (hit:s.heap.IsTupleIter it t i) (ht:s.heap.IsTuple t items) (hx:items[i]?=some x)
  (hQ:∀h',h'.IsTupleIter it t (i+1)->SameBut it s.heap h'->Q x {s with heap:=h'}):wpAny (model prog w) A (Builtin.SmallTypes.nextOf (.ref it)) Q E s:=by
 obtain ⟨oi,hoi,hci,hdi⟩:=id hit;obtain ⟨ot,hot,_,nt,hdt⟩:=ht;unfold Builtin.SmallTypes.nextOf;refine wpAny_bind (wpAny_callSpecial?_slot (name:=Str.ofString "__next__") hit.typeIs F.slot_tuple_iterator_next
  (wpAny_call_entry F.slot_tuple_iterator_next hit.typeIs F.entry_tuple_iterator_next ?_ (F.args_tuple_iterator_next_1 _)))
 show wpAny _ _ (field (.ref it) 0 >>=_) _ _ s;refine wpAny_bind (wpAny_field hoi hdi (x:=.ref t) rfl ?_);show wpAny _ _ (if (Value.ref t==Value.none)=true then _ else _) _ _ s;rw[if_neg (show ¬((Value.ref t==Value.none)=true) from Bool.false_ne_true)];show wpAny _ _ (field (.ref it) 1 >>=_) _ _ s;refine wpAny_bind (wpAny_field hoi hdi (x:=.int i 0) rfl ?_);show wpAny _ _ (seqItems? (.ref t) >>=_) _ _ s;refine wpAny_bind (wpAny_seqItems hot hdt ?_);simp only [toNat_natCast,hx];refine wpAny_bind (wpAny_setField hoi hdi (by simp) (wpAny_pure ⟨x,rfl,wpAny_pure (hQ _ ?_ (SameBut.update ..))⟩));exact ⟨_,get?_update_self _ hoi (Obj.isFreed_of_fields (Obj.data_mapFields hdi _)),(Obj.cls_mapFields ..).trans hci,by
  rw[Obj.data_mapFields hdi];simp [rawInt]⟩
structure cP (h:Heap) (it:Addr) (x:Str) (t:Tok) (i:Nat):Prop where
 ex:∃T:String,(T="str_ascii_iterator"\/T="str_iterator")/\h.IsStrIter it T x t i
theorem cP.at' {h h':Heap} {it:Addr} {x:Str} {t:Tok} {i:Nat} (z:cP h it x t i) (k:∀o,h.get? it=some o->h'.get? it=some o):cP h' it x t i:=by
 obtain ⟨T,hT,o,e,r⟩:=z.ex;exact ⟨T,hT,o,k o e,r⟩
theorem cP.lt {h:Heap} {it:Addr} {x:Str} {t:Tok} {i:Nat} (z:cP h it x t i):it<h.objs.size:=by
 obtain ⟨T,hT,o,e,r⟩:=z.ex;exact lt_size e
theorem BI {it:Addr} {x:Str} {t:Tok} {i c:Nat} {Q:Value->Shared->Prop} (hit:cP s.heap it x t i) (hx:x.cps[i]?=some c)
  (hQ:∀h' u tk,cP h' it x t (i+1)->SameBut it s.heap h'->Q (.str ⟨#[c]⟩ u) {s with heap:=h',toks:=tk}):wpAny (model prog w) A (Builtin.SmallTypes.nextOf (.ref it)) Q E s:=by
 obtain ⟨T,hT,z⟩:=hit.ex;rcases hT with rfl|rfl
 ·exact wpAny_nextOf_ascii_item z hx λh' z' sb=>hQ h' _ _ ⟨_,.inl rfl,z'⟩ sb
 ·exact wpAny_nextOf_wide_item z hx λh' z' sb=>hQ h' _ _ ⟨_,.inr rfl,z'⟩ sb
theorem lZ {it:Addr} {x:Str} {t:Tok} {i:Nat} {Q:Value->Shared->Prop} (hh:A.handled=none) (hit:cP s.heap it x t i) (hx:x.cps[i]?=none)
  (hE:∀h' e,ExtBut it s.heap h'->(∃o,h'.get? e=some o/\o.cls=.type "StopIteration")->E (.ref e) {s with heap:=h'}):wpAny (model prog w) A (Builtin.SmallTypes.nextOf (.ref it)) Q E s:=by
 obtain ⟨T,hT,z⟩:=hit.ex;rcases hT with rfl|rfl
 ·exact wpAny_nextOf_ascii_end hh z hx hE
 ·exact wpAny_nextOf_wide_end hh z hx hE
noncomputable def MD (h:Heap) (i2 t:Addr) (items:Array Value) (k:Nat):Prop:=(h.IsTupleIter i2 t k/\h.IsTuple t items)\/(h.IsListIter i2 t k/\h.IsList t items)
theorem MD.at {h h':Heap} {i2 t:Addr} {items:Array Value} {k:Nat} (z:MD h i2 t items k) (k1:∀o,h.get? i2=some o->h'.get? i2=some o) (k2:∀o,h.get? t=some o->h'.get? t=some o):MD h' i2 t items k:=by
 rcases z with ⟨a,o,e,r⟩|⟨a,o,e,r⟩
 ·exact .inl ⟨a.at k1,o,k2 _ e,r⟩
 ·exact .inr ⟨a.at k1,o,k2 _ e,r⟩
theorem MD.lt {h:Heap} {i2 t:Addr} {items:Array Value} {k:Nat} (z:MD h i2 t items k):i2<h.objs.size:=by
 rcases z with ⟨⟨o,e,_⟩,_⟩|⟨⟨o,e,_⟩,_⟩
 ·exact lt_size e
 ·exact lt_size e
theorem MD.ltT (z:MD h i2 t items k):t<h.objs.size:=by
 rcases z with ⟨_,o,e,_⟩|⟨_,o,e,_⟩
 ·exact lt_size e
 ·exact lt_size e
theorem wK {i2 t:Addr} {k:Nat} {items:Array Value} {x:Value} {Q:Value->Shared->Prop} (z:MD s.heap i2 t items k) (ht:t≠i2) (hx:items[k]?=some x)
  (hQ:∀h',MD h' i2 t items (k+1)->SameBut i2 s.heap h'->Q x {s with heap:=h'}):wpAny (model prog w) A (Builtin.SmallTypes.nextOf (.ref i2)) Q E s:=by
 rcases z with ⟨a,b⟩|⟨a,b⟩
 ·exact IM a b hx λh' j sb=>hQ h' (.inl ⟨j,let ⟨o,e,r⟩:=b;⟨o,sb.extBut _ _ ht e,r⟩⟩) sb
 ·exact wpAny_nextOf_list_item a b hx λh' j sb=>hQ h' (.inr ⟨j,let ⟨o,e,r⟩:=b;⟨o,sb.extBut _ _ ht e,r⟩⟩) sb
noncomputable def qP (f0 f1:Value) (TI TO:Addr):Obj:={cls:=.type "zip",dict:=none,data:=.fields #[f0,f1,.bool false,.ref TI,.ref TO],slots:=#[]}
structure Apart (z TI TO i1 i2 t:Addr):Prop where
 TIz:TI≠z
 TOz:TO≠z
 i1z:i1≠z
 i2z:i2≠z
 TITO:TI≠TO
 TIi1:TI≠i1
 TIi2:TI≠i2
 TOi1:TO≠i1
 TOi2:TO≠i2
 i12:i1≠i2
 tz:t≠z
 tTO:t≠TO
 ti1:t≠i1
 ti2:t≠i2
structure xX (h:Heap) (z TI TO i1 i2 t:Addr) (x:Str) (tk:Tok) (items:Array Value) (k:Nat):Prop where
 zip:∃f0 f1,h.get? z=some (qP f0 f1 TI TO)/\(f0=.none\/∃a o,f0=rawInt (a:Nat)/\h.get? a=some o/\a≠z/\a≠TO/\a≠i1/\a≠i2)
 pTI:IsPair h TI (.ref i1) (.ref i2)
 pTO:∃a b,IsPair h TO a b
 s1:cP h i1 x tk k
 s2:MD h i2 t items k
theorem xX.keep (y:xX h z TI TO i1 i2 t x tk items k) (kp:∀b o,h.get? b=some o->h'.get? b=some o):xX h' z TI TO i1 i2 t x tk items k:=by
 obtain ⟨⟨f0,f1,e,r⟩,p1,⟨a,b,p2⟩,s1,s2⟩:=y;refine ⟨⟨f0,f1,kp _ _ e,?_⟩,kp _ _ p1,⟨a,b,kp _ _ p2⟩,s1.at' λo=>kp _ o,s2.at (λo=>kp _ o) λo=>kp _ o⟩;rcases r with r|⟨a,o,r1,r2,r3⟩
 ·exact .inl r
 ·exact .inr ⟨a,o,r1,kp _ _ r2,r3⟩
theorem FV {z TI TO i1 i2 t:Addr} {x:Str} {tk:Tok} {items:Array Value} {k c:Nat} {y:Value} {Q:Value->Shared->Prop} (D:Apart z TI TO i1 i2 t) (S:xX s.heap z TI TO i1 i2 t x tk items k) (hx:x.cps[k]?=some c) (hy:items[k]?=some y)
  (hQ:∀h' T u tk',xX h' z TI TO i1 i2 t x tk items (k+1)->IsPair h' T (.str ⟨#[c]⟩ u) y->s.heap.objs.size<=T->(∀b o,b≠z->b≠TO->b≠i1->b≠i2->s.heap.get? b=some o->h'.get? b=some o)->Q (.ref T) {s with heap:=h',toks:=tk'}):
  wpAny (model prog w) A (Builtin.«zip.__next__» ⟨[.ref z],[]⟩) (λfin s'=>∃v,fin=.done (.ret v)/\Q v s') E s:=by
 obtain ⟨⟨f0,f1,hz,hf⟩,hTI,⟨a,b,hTO⟩,h1,h2⟩:=S;show wpAny _ _ (field (.ref z) 2 >>=_) _ _ _;refine wpAny_bind (wpAny_field hz rfl (x:=.bool false) rfl ?_);show wpAny _ _ (field (.ref z) 3 >>=_) _ _ _;refine wpAny_bind (wpAny_field hz rfl (x:=.ref TI) rfl ?_);refine wpAny_bind (wpAny_seqItems hTI rfl ?_);show wpAny _ _ (Builtin.SmallTypes.ownedTupleIsFree (.ref z) >>=_) _ _ _;refine wpAny_bind ?_;unfold Builtin.SmallTypes.ownedTupleIsFree;rcases hf with rfl|⟨q,oq,rfl,hq,q1,q2,q3,q4⟩
 ·refine wpAny_bind (wpAny_field hz rfl (x:=.none) rfl (wpAny_pure ?_));simp only [if_true];refine wpAny_bind (wpAny_rule ?_);refine wpAny_bind (wpAny_field hz rfl (x:=.ref TO) rfl ?_);refine wpAny_bind (wpAny_setField_rec hz (by simp) λg1 z1 b1=>?_);replace z1:g1.get? z=some (qP .ellipsis f1 TI TO):=z1;refine wpAny_bind ?_;simp only [List.zipIdx_cons,List.zipIdx_nil,forIn_cons,forIn_nil];refine wpAny_bind (wpAny_bind (wpAny_onRaise ?_));show wpAny _ _ (Builtin.SmallTypes.nextOf (.ref i1) >>=_) _ _ _;refine wpAny_bind (BI (h1.at' λo e=>b1.extBut _ _ D.i1z e) hx λg2 u tk2 i2' b2=>wpAny_pure ?_);have o2:IsPair g2 TO a b:=b2.extBut _ _ D.TOi1 (b1.extBut _ _ D.TOz hTO);refine wpAny_bind (wpAny_seqItems o2 rfl ?_);refine wpAny_bind (wpAny_updateSeq_pair o2 λg3 o3 b3=>?_);replace o3:IsPair g3 TO (.str ⟨#[c]⟩ u) b:=o3;refine wpAny_bind (wpAny_letGo (wpAny_pure ?_));refine wpAny_bind (wpAny_bind (wpAny_onRaise ?_));show wpAny _ _ (Builtin.SmallTypes.nextOf (.ref i2) >>=_) _ _ _;have up3:∀c o,c≠z->c≠TO->c≠i1->s.heap.get? c=some o->g3.get? c=some o:=λc o c1 c2 c3 e=>b3.extBut _ _ c2 (b2.extBut _ _ c3 (b1.extBut _ _ c1 e));refine wpAny_bind (wK (h2.at (λo e=>up3 _ _ D.i2z D.TOi2.symm D.i12.symm e) λo e=>up3 _ _ D.tz D.tTO D.ti1 e) D.ti2 hy λg4 j4 b4=>wpAny_pure ?_);have o4:IsPair g4 TO (.str ⟨#[c]⟩ u) b:=b4.extBut _ _ D.TOi2 o3;refine wpAny_bind (wpAny_seqItems o4 rfl ?_);refine wpAny_bind (wpAny_updateSeq_pair o4 λg5 o5 b5=>?_);replace o5:IsPair g5 TO (.str ⟨#[c]⟩ u) y:=o5;refine wpAny_bind (wpAny_letGo (wpAny_pure (wpAny_pure ?_)));refine wpAny_bind (wpAny_seqItems o5 rfl ?_);refine wpAny_bind (wpAny_newTuple ?_);have sz:g5.objs.size=s.heap.objs.size:=by rw[b5.1,b4.1,b3.1,b2.1,b1.1]
  have z5:g5.get? z=some (qP .ellipsis f1 TI TO):=b5.extBut _ _ D.TOz.symm (b4.extBut _ _ D.i2z.symm (b3.extBut _ _ D.TOz.symm (b2.extBut _ _ D.i1z.symm z1)));have up5:∀c o,c≠z->c≠TO->c≠i1->c≠i2->s.heap.get? c=some o->g5.get? c=some o:=λc o c1 c2 c3 c4 e=>b5.extBut _ _ c2 (b4.extBut _ _ c4 (up3 c o c1 c2 c3 e));have s5:cP g5 i1 x tk (k+1):=i2'.at' λo e=>b5.extBut _ _ D.TOi1.symm (b4.extBut _ _ D.i12 (b3.extBut _ _ D.TOi1.symm e));have j5:MD g5 i2 t items (k+1):=j4.at (λo e=>b5.extBut _ _ D.TOi2.symm e) λo e=>b5.extBut _ _ D.tTO e;show wpAny _ _ (Builtin.SmallTypes.ownedTupleHandOut (.ref z) (.ref g5.objs.size) >>=_) _ _ _;refine wpAny_bind ?_;unfold Builtin.SmallTypes.ownedTupleHandOut;have z6:(g5.push {cls:=.type "tuple",data:=.seq #[.str ⟨#[c]⟩ u,y]}).get? z=some (qP .ellipsis f1 TI TO):=get?_push_of_some _ z5;refine wpAny_bind (wpAny_setField_rec z6 (by simp) λg7 z7 b7=>?_);replace z7:g7.get? z=some (qP (rawInt g5.objs.size) f1 TI TO):=z7;refine wpAny_setField_rec z7 (by simp) λg8 z8 b8=>?_;replace z8:g8.get? z=some (qP (rawInt g5.objs.size) (.bool false) TI TO):=z8;have up:∀c o,c≠z->g5.get? c=some o->g8.get? c=some o:=λc o c1 e=>b8.extBut _ _ c1 (b7.extBut _ _ c1 (get?_push_of_some _ e));have zlt:z<g5.objs.size:=lt_size z5;have T8:IsPair g8 g5.objs.size (.str ⟨#[c]⟩ u) y:=b8.extBut _ _ (ne_of_gt zlt) (b7.extBut _ _ (ne_of_gt zlt) (get?_push_size _ rfl));refine wpAny_pure ⟨_,rfl,?_⟩;refine hQ g8 g5.objs.size u tk2 ⟨⟨_,_,z8,.inr ⟨g5.objs.size,_,rfl,T8,ne_of_gt zlt,ne_of_gt (lt_size o5),ne_of_gt s5.lt,?_⟩⟩,up _ _ D.TIz (up5 _ _ D.TIz D.TITO D.TIi1 D.TIi2 hTI),⟨_,_,up _ _ D.TOz o5⟩,s5.at' λo e=>up _ _ D.i1z e,j5.at (λo e=>up _ _ D.i2z e) λo e=>up _ _ D.tz e⟩ T8 (le_of_eq sz.symm) λc o c1 c2 c3 c4 e=>up c o c1 (up5 c o c1 c2 c3 c4 e);exact ne_of_gt j5.lt
 ·refine wpAny_bind (wpAny_field hz rfl (x:=rawInt (q:Nat)) rfl ?_);show wpAny _ _ (loadIfAlive ((q:Int)).toNat >>=_) _ _ _;refine wpAny_bind ?_;unfold loadIfAlive;refine alive (o:=oq) (by simpa using hq) (wpAny_pure ?_);simp only [Option.isNone_some,false_eq_true,if_false];refine wpAny_bind (wpAny_field hz rfl (x:=f1) rfl ?_);refine wpAny_mono (Q:=λr s'=>r=false/\∃g1 f1',s'={s with heap:=g1}/\g1.get? z=some (qP (rawInt (q:Nat)) f1' TI TO)/\SameBut z s.heap g1) ?_ (λr s' hr=>?_) (λ_ _ e=>e)
  ·by_cases hb:(f1 != Value.bool true)=true
   ·rw[if_pos hb];exact wpAny_bind (wpAny_setField_rec hz (by simp) λg1 z1 b1=>wpAny_pure ⟨rfl,g1,.bool true,rfl,z1,b1⟩)
   ·rw[if_neg hb];exact wpAny_pure ⟨rfl,s.heap,f1,rfl,hz,.refl ..⟩
  obtain ⟨rfl,g1,f1',rfl,z1,b1⟩:=hr;simp only [false_eq_true,if_false];refine wpAny_bind ?_;simp only [List.forIn_toArray,forIn_cons,forIn_nil];refine wpAny_bind (wpAny_bind (wpAny_holding ?_));show wpAny _ _ (Builtin.SmallTypes.nextOf (.ref i1) >>=_) _ _ _;refine wpAny_bind (BI (h1.at' λo e=>b1.extBut _ _ D.i1z e) hx λg2 u tk2 i2' b2=>wpAny_pure ?_);refine wpAny_pure ?_;refine wpAny_bind (wpAny_bind (wpAny_holding ?_));show wpAny _ _ (Builtin.SmallTypes.nextOf (.ref i2) >>=_) _ _ _;have up2:∀c o,c≠z->c≠i1->s.heap.get? c=some o->g2.get? c=some o:=λc o c1 c3 e=>b2.extBut _ _ c3 (b1.extBut _ _ c1 e);refine wpAny_bind (wK (h2.at (λo e=>up2 _ _ D.i2z D.i12.symm e) λo e=>up2 _ _ D.tz D.ti1 e) D.ti2 hy λg4 j4 b4=>wpAny_pure ?_);refine wpAny_pure (wpAny_pure ?_);refine wpAny_bind (wpAny_newTuple (hsz:=by show 2<=sizeLine;decide) ?_);have up4:∀c o,c≠z->c≠i1->c≠i2->s.heap.get? c=some o->g4.get? c=some o:=λc o c1 c3 c4 e=>b4.extBut _ _ c4 (up2 c o c1 c3 e);have sz:g4.objs.size=s.heap.objs.size:=by rw[b4.1,b2.1,b1.1]
  have z4:g4.get? z=some (qP (rawInt (q:Nat)) f1' TI TO):=b4.extBut _ _ D.i2z.symm (b2.extBut _ _ D.i1z.symm z1);refine wpAny_pure ⟨_,rfl,?_⟩;refine hQ _ g4.objs.size u tk2 ⟨⟨_,_,get?_push_of_some _ z4,.inr ⟨q,oq,rfl,get?_push_of_some _ (up4 _ _ q1 q3 q4 hq),q1,q2,q3,q4⟩⟩,get?_push_of_some _ (up4 _ _ D.TIz D.TIi1 D.TIi2 hTI),⟨_,_,get?_push_of_some _ (up4 _ _ D.TOz D.TOi1 D.TOi2 hTO)⟩,
   i2'.at' λo e=>get?_push_of_some _ (b4.extBut _ _ D.i12 e),j4.at (λo e=>get?_push_of_some _ e) λo e=>get?_push_of_some _ e⟩ (get?_push_size _ rfl) (le_of_eq sz.symm) λc o c1 c2 c3 c4 e=>get?_push_of_some _ (up4 c o c1 c3 c4 e)
theorem MK {z TI TO i1 i2 t:Addr} {x:Str} {tk:Tok} {items:Array Value} {k:Nat} {Q:Fin->Shared->Prop} (hh:A.handled=none) (D:Apart z TI TO i1 i2 t) (S:xX s.heap z TI TO i1 i2 t x tk items k) (hx:x.cps[k]?=none)
  (hE:∀h' e,(∀b o,b≠z->b≠TO->b≠i1->b≠i2->s.heap.get? b=some o->h'.get? b=some o)->(∃o,h'.get? e=some o/\o.cls=.type "StopIteration")->E (.ref e) {s with heap:=h'}):
  wpAny (model prog w) A (Builtin.«zip.__next__» ⟨[.ref z],[]⟩) Q E s:=by
 obtain ⟨⟨f0,f1,hz,hf⟩,hTI,⟨a,b,hTO⟩,h1,h2⟩:=S;show wpAny _ _ (field (.ref z) 2 >>=_) _ _ _;refine wpAny_bind (wpAny_field hz rfl (x:=.bool false) rfl ?_);show wpAny _ _ (field (.ref z) 3 >>=_) _ _ _;refine wpAny_bind (wpAny_field hz rfl (x:=.ref TI) rfl ?_);refine wpAny_bind (wpAny_seqItems hTI rfl ?_);show wpAny _ _ (Builtin.SmallTypes.ownedTupleIsFree (.ref z) >>=_) _ _ _;refine wpAny_bind ?_;unfold Builtin.SmallTypes.ownedTupleIsFree;rcases hf with rfl|⟨q,oq,rfl,hq,q1,q2,q3,q4⟩
 ·refine wpAny_bind (wpAny_field hz rfl (x:=.none) rfl (wpAny_pure ?_));simp only [if_true];refine wpAny_bind (wpAny_rule ?_);refine wpAny_bind (wpAny_field hz rfl (x:=.ref TO) rfl ?_);refine wpAny_bind (wpAny_setField_rec hz (by simp) λg1 z1 b1=>?_);replace z1:g1.get? z=some (qP .ellipsis f1 TI TO):=z1;refine wpAny_bind ?_;simp only [List.zipIdx_cons,List.zipIdx_nil,forIn_cons,forIn_nil];refine wpAny_bind (wpAny_bind (wpAny_onRaise ?_));show wpAny _ _ (Builtin.SmallTypes.nextOf (.ref i1) >>=_) _ _ _;refine wpAny_bind (lZ hh (h1.at' λo e=>b1.extBut _ _ D.i1z e) hx λg2 e b2 he=>?_);obtain ⟨oe,hoe,hce⟩:=he;have z2:g2.get? z=some (qP .ellipsis f1 TI TO):=b2 _ _ D.i1z.symm z1;have ne:e≠z:=λy=>by
   subst y;rw[z2] at hoe;cases hoe;have c':(Value.type "zip")=.type "StopIteration":=hce;simp at c'
  exact wpAny_setField_rec z2 (by simp) λg3 _ b3=>hE g3 e (λc o c1 _ c3 _ y=>b3.extBut _ _ c1 (b2 _ _ c3 (b1.extBut _ _ c1 y))) ⟨oe,b3.extBut _ _ ne hoe,hce⟩
 ·refine wpAny_bind (wpAny_field hz rfl (x:=rawInt (q:Nat)) rfl ?_);show wpAny _ _ (loadIfAlive ((q:Int)).toNat >>=_) _ _ _;refine wpAny_bind ?_;unfold loadIfAlive;refine alive (o:=oq) (by simpa using hq) (wpAny_pure ?_);simp only [Option.isNone_some,false_eq_true,if_false];refine wpAny_bind (wpAny_field hz rfl (x:=f1) rfl ?_);refine wpAny_mono (Q:=λr s'=>r=false/\∃g1,s'={s with heap:=g1}/\SameBut z s.heap g1) ?_ (λr s' hr=>?_) (λ_ _ e=>e)
  ·by_cases hb:(f1 != Value.bool true)=true
   ·rw[if_pos hb];exact wpAny_bind (wpAny_setField_rec hz (by simp) λg1 z1 b1=>wpAny_pure ⟨rfl,g1,rfl,b1⟩)
   ·rw[if_neg hb];exact wpAny_pure ⟨rfl,s.heap,rfl,.refl ..⟩
  obtain ⟨rfl,g1,rfl,b1⟩:=hr;simp only [false_eq_true,if_false];refine wpAny_bind ?_;simp only [List.forIn_toArray,forIn_cons,forIn_nil];refine wpAny_bind (wpAny_bind (wpAny_holding ?_));show wpAny _ _ (Builtin.SmallTypes.nextOf (.ref i1) >>=_) _ _ _;exact wpAny_bind (lZ hh (h1.at' λo e=>b1.extBut _ _ D.i1z e) hx λg2 e b2 he=>hE g2 e (λc o c1 _ c3 _ y=>b2 _ _ c3 (b1.extBut _ _ c1 y)) he)
theorem NF (D:Apart z TI TO i1 i2 t) (S:xX s.heap z TI TO i1 i2 t x tk items k) (hx:x.cps[k]?=some c) (hy:items[k]?=some y)
  (hQ:∀h' T u tk',xX h' z TI TO i1 i2 t x tk items (k+1)->IsPair h' T (.str ⟨#[c]⟩ u) y->s.heap.objs.size<=T->(∀b o,b≠z->b≠TO->b≠i1->b≠i2->s.heap.get? b=some o->h'.get? b=some o)->Q (some (.ref T)) {s with heap:=h',toks:=tk'}):
  wpAny (model prog w) A (pyNext (.ref z)) Q E s:=by
 have hT:s.TypeIs (.ref z) "zip":=let ⟨_,_,e,_⟩:=S.zip;⟨_,e,rfl⟩;unfold pyNext;exact wpAny_bind (wpAny_attempt (wpAny_callSpecial?_slot (name:=Str.ofString "__next__") hT F.slot_zip_next
  (wpAny_call_entry F.slot_zip_next hT F.entry_zip_next (FV D S hx hy λh' T u tk' a1 a2 a3 a4=>wpAny_pure (hQ h' T u tk' a1 a2 a3 a4)) (F.args_zip_next_1 _))))
theorem UA (hh:A.handled=none) (D:Apart z TI TO i1 i2 t) (S:xX s.heap z TI TO i1 i2 t x tk items k) (hx:x.cps[k]?=none)
  (hQ:∀h',(∀b o,b≠z->b≠TO->b≠i1->b≠i2->s.heap.get? b=some o->h'.get? b=some o)->Q none {s with heap:=h'}):wpAny (model prog w) A (pyNext (.ref z)) Q E s:=by
 have hT:s.TypeIs (.ref z) "zip":=let ⟨_,_,e,_⟩:=S.zip;⟨_,e,rfl⟩;unfold pyNext;refine wpAny_bind (wpAny_attempt (wpAny_callSpecial?_slot (name:=Str.ofString "__next__") hT F.slot_zip_next
  (wpAny_call_entry F.slot_zip_next hT F.entry_zip_next (MK hh D S hx λh' e hk he=>?_) (F.args_zip_next_1 _))))
 obtain ⟨o,ho,hc⟩:=he;refine wpAny_bind (wpAny_isInstance (T:="StopIteration") (b:=true) ⟨o,ho,hc⟩ isSubtype_stop ?_);exact wpAny_pure (hQ _ hk)
end
theorem KQ:entryFor table "zip.__getattribute__"=some Builtin.«object.__getattribute__»:=
 entryFor_alias (id':="object.__getattribute__") (by kernel_rfl) (by decide+kernel) (by decide+kernel) (by kernel_rfl)
theorem OG:typeLookup (.type "zip") "keys"=pure none:=by rw[typeLookup_type,builtinLookup_eq_fast];kernel_rfl
theorem zN:typeLookup (.type "zip") "__getattr__"=pure none:=by rw[typeLookup_type,builtinLookup_eq_fast];kernel_rfl
theorem zP (a:Addr) (vs:Array Value) (name:Str) (u:Tok) (hmiss:typeLookup (.type "zip") name=pure none) (hname:(["__module__","__name__","__qualname__","__doc__","__annotations__"]:List Str).contains name=false) (hsz:name.length+100<=sizeLine):
  Meets (Builtin.«object.__getattribute__» ⟨[.ref a,.str name u],[]⟩) (λA R s=>s.heap.get? a=some {cls:=.type "zip",dict:=none,data:=.fields vs,slots:=#[]}/\raisesAttr (.ref a) name A R s):=
 Meets.of_wp λprog w A R s hs=>by
  obtain ⟨hp,g,d,tk,os⟩:=s;obtain ⟨hx,hs⟩:=hs;have hT:(⟨hp,g,d,tk,os⟩:Shared).TypeIs (.ref a) "zip":=⟨_,hx,rfl⟩;unfold Builtin.«object.__getattribute__»
  repeat (any_goals (first|assumption|wp_step))
  simp only [hname,false_eq_true,if_false]
  repeat (any_goals (first|assumption|wp_step))
  exact wpAny_raiseAttrError hs.1 hs.2 (attrMsg_fits (by decide+kernel) hsz)
section
variable {prog:Program} {w:World} {A:Around} {E:Value->Shared->Prop} {s:Shared}
theorem tW (hx:s.heap.get? a=some {cls:=.type "zip",dict:=none,data:=.fields vs,slots:=#[]}) (hA:A.handled=none)
  (h:∀h' tk,(∀b o,s.heap.get? b=some o->h'.get? b=some o)->Q none {s with heap:=h',toks:=tk}):wpAny (model prog w) A (getAttr? (.ref a) "keys") Q E s:=by
 obtain ⟨hp,g,d,tk,os⟩:=s;have hT:∀tk',(⟨hp,g,d,tk',os⟩:Shared).TypeIs (.ref a) "zip":=λ_=>⟨_,hx,rfl⟩;have f1:=sub_AttributeError;have f3:=F.slot_zip_getattribute.lookup;have f4:=F.slot_zip_getattribute.bind (.ref a);have f5:=zN;unfold getAttr? getAttrBy? getAttrBy
 repeat (any_goals (first|assumption|exact hT _|((with_reducible show wpAny _ _ (call (Value.builtin "zip.__getattribute__") _ _) _ _ _);refine call_meets F.slot_zip_getattribute (hT _) KQ (F.args_zip_getattribute_2 _ _) (zP a vs "keys" _ OG (by decide+kernel) (by decide+kernel)) ⟨hx,hA,λh' tk' e hx'=>?_⟩)|wp_step))
 obtain ⟨t',u',he⟩:=hx'.there;show wpAny _ _ (getattributeRaised _ _ _ _ _ _ _) _ _ _;unfold getattributeRaised
 repeat (any_goals (first|assumption|wp_step))
 exact h _ _ hx'.keeps
end
end ZD
namespace ZD
open PySem PySem.Spec PyProof.Rows
theorem pF:entryFor table "dict.update.loop"=some Builtin.«dict.update.loop»:=entryFor_of_tree (by kernel_rfl)
theorem fX:plainId "dict.update.loop"=true:=by decide+kernel
noncomputable def storeAll {K:Type} [DecidableEq K] (kk:Nat->K) (items:Array Value):Nat->Nat->List (K × Value)->List (K × Value)
 |0,_,kvs=>kvs
 |n+1,k,kvs=>storeAll kk items n (k+1) (stored kvs (kk k) (items[k]?.getD .none))
theorem yM {K:Type} [DecidableEq K] (kvs:List (K × Value)) (k:K) (v:Value):(stored kvs k v).length<=kvs.length+1:=by
 unfold stored;split
 ·simp
 ·simp
theorem xX.but (y:xX h z TI TO i1 i2 t x tk items k) (sb:SameBut d h h') (d1:d≠z) (d2:d≠TO) (d3:d≠i1) (d4:d≠i2) (d5:d≠TI) (d6:d≠t) (ob:∃o,h'.get? d=some o):
  xX h' z TI TO i1 i2 t x tk items k:=by
 obtain ⟨⟨f0,f1,e,r⟩,p1,⟨a,b,p2⟩,s1,s2⟩:=y;refine ⟨⟨f0,f1,sb.extBut _ _ d1.symm e,?_⟩,sb.extBut _ _ d5.symm p1,⟨a,b,sb.extBut _ _ d2.symm p2⟩,s1.at' λo e=>sb.extBut _ _ d3.symm e,s2.at (λo e=>sb.extBut _ _ d4.symm e) λo e=>sb.extBut _ _ d6.symm e⟩;rcases r with r|⟨a,o,r1,r2,r3⟩
 ·exact .inl r
 ·by_cases ha:a=d
  ·obtain ⟨o',e'⟩:=ob;exact .inr ⟨a,o',r1,by rw[ha];exact e',r3⟩
  ·exact .inr ⟨a,o,r1,sb.extBut _ _ ha r2,r3⟩
section
variable {prog:Program} {w:World} {A:Around} {K:Type} [DecidableEq K] {knd:KeyKind prog w K} {R:Result->Shared->Prop} {d z TI TO i1 i2 t:Addr} {x:Str} {tk:Tok} {items:Array Value}
theorem GB (hk:∀i c u,x.cps[i]?=some c->knd.is (kk i) (.str ⟨#[c]⟩ u)=true) (D:Apart z TI TO i1 i2 t) (hh:A.handled=none) (d1:d≠z) (d2:d≠TO) (d3:d≠i1) (d4:d≠i2) (d5:d≠TI) (d6:d≠t) (hsz:x.cps.size=items.size) (hle:x.cps.size<=1000):
  ∀(n k:Nat) (j:Int) (s:Shared) (kvs:List (K × Value)),k+n=x.cps.size->xX s.heap z TI TO i1 i2 t x tk items k->s.heap.DictOf knd d kvs->kvs.length<=k->
   (∀h' tk',h'.DictOf knd d (storeAll kk items n k kvs)->(∀b o,b≠z->b≠TO->b≠i1->b≠i2->b≠d->s.heap.get? b=some o->h'.get? b=some o)->R (.ok (.ret .none)) {s with heap:=h',toks:=tk'})->
   codeAny (model prog w) A (.builtin "dict.update.loop" ⟨[.ref d,.ref z,rawInt j,.none],[]⟩) R s:=by
 intro n;induction n with
 |zero=>
  intro k j s kvs hkn S hd hl hR;refine codeAny_builtin pF ?_;rw[Around.under_plainId fX _];show wpAny _ A.in1 (pyNext (.ref z) >>=_) _ _ s;refine wpAny_bind (UA hh D S (by simp;lia) λh' hk'=>?_);show wpAny _ _ (Builtin.Dict.addKeywords d [] >>=_) _ _ _;refine wpAny_bind (wpAny_pure (wpAny_pure ?_));exact hR h' s.toks (let ⟨o,es,ep,ho,r⟩:=hd;⟨o,es,ep,hk' d o d1 d2 d3 d4 ho,r⟩) λb o b1 b2 b3 b4 _ e=>hk' b o b1 b2 b3 b4 e
 |succ n ih=>
  intro k j s kvs hkn S hd hl hR;have hkx:k<x.cps.size:=by lia
  have hx:x.cps[k]?=some x.cps[k]:=by simp [hkx]
  have hy:items[k]?=some items[k]:=by simp
  refine codeAny_builtin pF ?_;rw[Around.under_plainId fX _];show wpAny _ A.in1 (pyNext (.ref z) >>=_) _ _ s;refine wpAny_bind (NF D S hx hy λh' T u tk' S' pT hT hk'=>?_);refine wpAny_bind (wpAny_holding ?_);have hTy:(⟨h',s.gens,s.drawn,tk',s.os⟩:Shared).TypeIs (.ref T) "tuple":=⟨_,pT,rfl⟩;refine wpAny_bind (wpAny_tryCatch ?_);unfold Builtin.Dict.pairItems;refine wpAny_bind (wpAny_typeOf hTy ?_);rw[if_pos (by decide)];refine wpAny_bind (wpAny_seqItems (s:=⟨h',s.gens,s.drawn,tk',s.os⟩) pT rfl (wpAny_pure ?_));show wpAny _ _ (holding [.str ⟨#[x.cps[k]]⟩ u,items[k]] (dictSet d (.str ⟨#[x.cps[k]]⟩ u) items[k])) _ _ _;have hd':h'.DictOf knd d kvs:=let ⟨o,es,ep,ho,r⟩:=hd;⟨o,es,ep,hk' d o d1 d2 d3 d4 ho,r⟩;refine wpAny_holding (wpAny_dictSet_pairs (s:=⟨h',s.gens,s.drawn,tk',s.os⟩) (hk k _ u hx) hd' (λh2 hd2 sb=>?_) (le_of_lt (Nat.lt_of_le_of_lt (show kvs.length<=1000 by lia) (by decide))));refine wpAny_pure ⟨plainId_quiet fX _,?_⟩;have ob:∃o,h2.get? d=some o:=let ⟨o,_,_,ho,_⟩:=hd2;⟨o,ho⟩;refine ih (k+1) (j+1) _ _ (by lia) (S'.but sb d1 d2 d3 d4 d5 d6 ob) hd2 ?_ (λh3 tk3 hd3 hk3=>?_)
  ·have:=yM kvs (kk k) items[k];lia
  ·have e:storeAll kk items (n+1) k kvs=storeAll kk items n (k+1) (stored kvs (kk k) items[k]):=by
    show storeAll kk items n (k+1) (stored kvs (kk k) (items[k]?.getD .none))=_;rw[hy];rfl
   refine hR h3 tk3 (by rw[e];exact hd3) λb o b1 b2 b3 b4 b5 eb=>hk3 b o b1 b2 b3 b4 b5 (sb.extBut b o b5 (hk' b o b1 b2 b3 b4 eb))
end
end ZD
namespace ZD
open PySem PySem.Spec PyProof.Rows
noncomputable abbrev zA (h:Heap) (x:Str) (tk:Tok):Heap:=h.push {cls:=.type "str_ascii_iterator",data:=.fields #[.str x tk,.int 0 0]}
noncomputable abbrev zB (T:String) (h:Heap) (x:Str) (tk:Tok) (t:Addr):Heap:=(zA h x tk).push {cls:=.type T,data:=.fields #[.ref t,.int 0 0]}
noncomputable abbrev zC (T:String) (h:Heap) (x:Str) (tk:Tok) (t:Addr):Heap:=(zB T h x tk t).push {cls:=.type "tuple",data:=.seq #[.ref h.objs.size,.ref (zA h x tk).objs.size]}
noncomputable abbrev zD (T:String) (h:Heap) (x:Str) (tk:Tok) (t:Addr):Heap:=(zC T h x tk t).push {cls:=.type "tuple",data:=.seq #[.none,.none]}
noncomputable abbrev zE (T:String) (h:Heap) (x:Str) (tk:Tok) (t:Addr):Heap:=(zD T h x tk t).push {cls:=.type "zip",data:=.fields #[.none,.bool false,.bool false,.ref (zB T h x tk t).objs.size,.ref (zC T h x tk t).objs.size]}
theorem DX (x:Str) (tk:Tok) (t:Addr) (items:Array Value) (ha:x.cps.all (·<128)=true):
  Meets (Builtin.«zip.__new__» ⟨[.type "zip",.str x tk,.ref t],[]⟩) (λ_ R s=>s.heap.IsTuple t items/\R (.ok (.ret (.ref (zD "tuple_iterator" s.heap x tk t).objs.size))) {s with heap:=zE "tuple_iterator" s.heap x tk t}):=
 .of_wp λprog w A R s h=>by
  obtain ⟨hp,g,d,tks,os⟩:=s;obtain ⟨ht,h⟩:=h;have hsub:=sub_zip;have hT:Heap.IsTuple (Shared.heap ⟨hp.push {cls:=.type "str_ascii_iterator",data:=.fields #[.str x tk,.int 0 0]},g,d,tks,os⟩) t items:=let ⟨o,e,r⟩:=ht;⟨o,get?_push_of_some _ e,r⟩
  wp_walk using wpAny_pyIter_ascii (t:=tk) ha,wpAny_pyIter_tuple hT
  exact ⟨_,rfl,h⟩
theorem zO (x:Str) (tk:Tok) (t:Addr) (items:Array Value) (ha:x.cps.all (·<128)=true):
  Meets (Builtin.«zip.__new__» ⟨[.type "zip",.str x tk,.ref t],[]⟩) (λ_ R s=>s.heap.IsList t items/\R (.ok (.ret (.ref (zD "list_iterator" s.heap x tk t).objs.size))) {s with heap:=zE "list_iterator" s.heap x tk t}):=
 .of_wp λprog w A R s h=>by
  obtain ⟨hp,g,d,tks,os⟩:=s;obtain ⟨ht,h⟩:=h;have hsub:=sub_zip;have hT:Heap.IsList (Shared.heap ⟨hp.push {cls:=.type "str_ascii_iterator",data:=.fields #[.str x tk,.int 0 0]},g,d,tks,os⟩) t items:=let ⟨o,e,r⟩:=ht;⟨o,get?_push_of_some _ e,r⟩
  wp_walk using wpAny_pyIter_ascii (t:=tk) ha,wpAny_pyIter_list hT
  exact ⟨_,rfl,h⟩
section
variable {prog:Program} {w:World} {A:Around} {E:Value->Shared->Prop} {s:Shared}
theorem FU (T:String) (hT:T="tuple_iterator"\/T="list_iterator") {x:Str} {tk:Tok} {t:Addr} {items:Array Value} {Q:Value->Shared->Prop} (ht:(T="tuple_iterator"/\s.heap.IsTuple t items)\/(T="list_iterator"/\s.heap.IsList t items))
  (h:∀h',xX h' (s.heap.objs.size+4) (s.heap.objs.size+2) (s.heap.objs.size+3) s.heap.objs.size (s.heap.objs.size+1) t x tk items 0->h'.objs.size=s.heap.objs.size+5->(∀c o,s.heap.get? c=some o->h'.get? c=some o)->Q (.ref (s.heap.objs.size+4)) {s with heap:=h'}):
  ({s with heap:=zE T s.heap x tk t}:Shared).TypeIs (.ref (zD T s.heap x tk t).objs.size) "zip"/\Q (.ref (zD T s.heap x tk t).objs.size) {s with heap:=zE T s.heap x tk t}:=by
 have z1:(zA s.heap x tk).objs.size=s.heap.objs.size+1:=Heap.size_push ..;have z2:(zB T s.heap x tk t).objs.size=s.heap.objs.size+2:=by rw[Heap.size_push,z1]
 have z3:(zC T s.heap x tk t).objs.size=s.heap.objs.size+3:=by rw[Heap.size_push,z2]
 have z4:(zD T s.heap x tk t).objs.size=s.heap.objs.size+4:=by rw[Heap.size_push,z3]
 have z5:(zE T s.heap x tk t).objs.size=s.heap.objs.size+5:=by rw[Heap.size_push,z4]
 have g5:(zE T s.heap x tk t).get? (zD T s.heap x tk t).objs.size=some _:=get?_push_size _ rfl;have g4:(zE T s.heap x tk t).get? (zC T s.heap x tk t).objs.size=some _:=get?_push_of_some _ (get?_push_size _ rfl);have g3:(zE T s.heap x tk t).get? (zB T s.heap x tk t).objs.size=some _:=get?_push_of_some _ (get?_push_of_some _ (get?_push_size _ rfl));have g2:(zE T s.heap x tk t).get? (zA s.heap x tk).objs.size=some _:=get?_push_of_some _ (get?_push_of_some _ (get?_push_of_some _ (get?_push_size _ rfl)));have g1:(zE T s.heap x tk t).get? s.heap.objs.size=some _:=get?_push_of_some _ (get?_push_of_some _ (get?_push_of_some _ (get?_push_of_some _ (get?_push_size _ rfl))));have up:∀c o,s.heap.get? c=some o->(zE T s.heap x tk t).get? c=some o:=λc o y=>get?_push_of_some _ (get?_push_of_some _ (get?_push_of_some _ (get?_push_of_some _ (get?_push_of_some _ y))));rw[z2,z3,z4] at g5;rw[z1,z2] at g3;rw[z3] at g4;rw[z1] at g2;rw[z4];refine ⟨⟨_,g5,rfl⟩,h _ ⟨⟨_,_,g5,.inl rfl⟩,g3,⟨_,_,g4⟩,⟨_,.inl rfl,_,g1,rfl,rfl⟩,?_⟩ z5 up⟩;rcases ht with ⟨rfl,o,e,r⟩|⟨rfl,o,e,r⟩
 ·exact .inl ⟨⟨_,g2,rfl,rfl⟩,o,up _ _ e,r⟩
 ·exact .inr ⟨⟨_,g2,rfl,rfl⟩,o,up _ _ e,r⟩
theorem LK (ha:x.cps.all (·<128)=true) (ht:s.heap.IsTuple t items\/s.heap.IsList t items)
  (h:∀h',xX h' (s.heap.objs.size+4) (s.heap.objs.size+2) (s.heap.objs.size+3) s.heap.objs.size (s.heap.objs.size+1) t x tk items 0->h'.objs.size=s.heap.objs.size+5->(∀c o,s.heap.get? c=some o->h'.get? c=some o)->Q (.ref (s.heap.objs.size+4)) {s with heap:=h'}):
  wpAny (model prog w) A (call (.type "zip") [.str x tk,.ref t]) Q E s:=by
 rcases ht with ht|ht
 ·exact callType_new F.called_zip (by decide) (F.typeCall_zip_2 _ _) (F.newCall_zip_2 _ _) (λobj=>F.args_object_init_3 obj _ _) F.entry_zip_new (DX x tk t items ha) ⟨ht,FU "tuple_iterator" (.inl rfl) (.inl ⟨rfl,ht⟩) h⟩
 ·exact callType_new F.called_zip (by decide) (F.typeCall_zip_2 _ _) (F.newCall_zip_2 _ _) (λobj=>F.args_object_init_3 obj _ _) F.entry_zip_new (zO x tk t items ha) ⟨ht,FU "list_iterator" (.inr rfl) (.inr ⟨rfl,ht⟩) h⟩
theorem apart_new {n t:Nat} (h:t<n):Apart (n+4) (n+2) (n+3) n (n+1) t:=by
 constructor<;>(intro (e:(_:Nat)=_);lia)
end
end ZD
namespace ZD
open PySem PySem.Spec PyProof.Rows
section
variable {prog:Program} {w:World} {A:Around} {E:Value->Shared->Prop} {s:Shared}
theorem xG {K:Type} [DecidableEq K] {knd:KeyKind prog w K} {z TI TO i1 i2 t:Addr} {x:Str} {tk:Tok} {items:Array Value} {kk:Nat->K} {Q:Value->Shared->Prop} (hk:∀i c u,x.cps[i]?=some c->knd.is (kk i) (.str ⟨#[c]⟩ u)=true) (D:Apart z TI TO i1 i2 t) (hh:A.handled=none)
  (hsz:x.cps.size=items.size) (hle:x.cps.size<=1000) (S:xX s.heap z TI TO i1 i2 t x tk items 0)
  (h:∀h' d tk',s.heap.objs.size<=d->h'.DictOf knd d (storeAll kk items x.cps.size 0 [])->(∀b o,b≠z->b≠TO->b≠i1->b≠i2->s.heap.get? b=some o->h'.get? b=some o)->Q (.ref d) {s with heap:=h',toks:=tk'}):
  wpAny (model prog w) A (call (.type "dict") [.ref z]) Q E s:=by
 refine callType_codes (Q₁:=λobj s₁=>obj=.ref s.heap.objs.size/\s₁={s with heap:=s.heap.push {cls:=.type "dict",data:=.dict #[]}}) F.kt_called_dict (F.kt_typeCall_dict_1 _) F.entry_dict_init (kt_code_dict_new _ ⟨rfl,rfl⟩) ?_;rintro obj s₁ ⟨rfl,rfl⟩;have hnew:(s.heap.push {cls:=.type "dict",data:=.dict #[]}).DictOf knd s.heap.objs.size []:=DictOf.new s.heap;have S1:=S.keep (h':=s.heap.push {cls:=.type "dict",data:=.dict #[]}) λb o e=>get?_push_of_some _ e;refine ⟨hnew.typeIs,F.args_dict_init_2 _ _,?_⟩;unfold Builtin.«dict.__init__»;refine wpAny_bind ?_;unfold Builtin.Dict.selfAndRest;refine wpAny_bind (wpAny_notOrdered_dict hnew.typeIs ?_);show wpAny _ _ (pure (s.heap.objs.size,[Value.ref z])) _ _ _;refine wpAny_pure ?_;show wpAny _ _ (Builtin.Dict.updateFrom "dict.__init__" s.heap.objs.size (.ref z) [] .none) _ _ _;unfold Builtin.Dict.updateFrom;obtain ⟨f0,f1,ez,_⟩:=S1.zip;have hTz:(⟨s.heap.push {cls:=.type "dict",data:=.dict #[]},s.gens,s.drawn,s.toks,s.os⟩:Shared).TypeIs (.ref z) "zip":=⟨_,ez,rfl⟩;refine wpAny_bind (wpAny_typeOf hTz ?_);rw[if_pos (by decide)];refine wpAny_bind (tW ez hh λh1 tk1 k1=>?_);simp only [Option.isNone_none,if_true];refine wpAny_bind (wpAny_rule ?_);have S2:=S1.keep k1;obtain ⟨f0',f1',ez2,_⟩:=id S2.zip;have hT2:(⟨h1,s.gens,s.drawn,tk1,s.os⟩:Shared).TypeIs (.ref z) "zip":=⟨_,ez2,rfl⟩;have lt:∀{b:Addr} {o:Obj},s.heap.get? b=some o->s.heap.objs.size≠b:=λe=>ne_of_gt (lt_size e);obtain ⟨⟨g0,g1,e0,_⟩,e1,⟨pa,pb,e2⟩,s1,s2⟩:=id S;refine wpAny_bind ?_;refine wpAny_pyIter_slot hT2 F.slot_zip_iter (wpAny_call_entry F.slot_zip_iter hT2 F.entry_zip_iter ?_ (F.args_zip_iter_1 _));show wpAny _ _ (ret (.ref z)) _ _ _;refine wpAny_pure ⟨_,rfl,"zip",_,hT2,F.slot_zip_next.lookup,?_⟩;refine wpAny_pure ⟨plainId_quiet fX _,?_⟩;have hd1:h1.DictOf knd s.heap.objs.size []:=let ⟨o,es,ep,ho,r⟩:=hnew;⟨o,es,ep,k1 _ o ho,r⟩;refine GB (A:=A.in1) hk D hh (lt e0) (lt e2) (ne_of_gt s1.lt) (ne_of_gt s2.lt) (lt e1) (ne_of_gt s2.ltT) hsz hle x.cps.size 0 0 ⟨h1,s.gens,s.drawn,tk1,s.os⟩ [] (by lia) S2 hd1 (zero_le _) λh2 tk2 hd2 hk2=>?_;refine ⟨rfl,?_⟩;exact h h2 _ tk2 (Nat.le_refl _) hd2 λb o b1 b2 b3 b4 e=>hk2 b o b1 b2 b3 b4 (lt e).symm (k1 b o (get?_push_of_some _ e))
end
end ZD
namespace L2.L3
open PySem PySem.Spec PyProof.Rows
section
variable {X:Cx}
theorem nP:∀{us:List Value},Vals (ys.map V.str) us->StrsAre us ys:=by
 induction ys with
 |nil=>intro us r;rw[map_nil] at r;cases r;exact .nil
 |cons y ys ih=>
  intro us r;rw[map_cons] at r;cases r with
  |cons r1 r2=>
   obtain ⟨t,e⟩:=r1;subst e;exact .cons y t (ih r2)
noncomputable def rJoin:V->List V->Hp->VK->Prop:=λx vs H Q=>∃(z:Str) (p:Addr) (ys:List Str),x=.str z/\vs=[.ref p]/\H p=some (.lst (ys.map V.str))/\(ys.map (·.length)).sum+ys.length * z.length<=16777216/\Q (.str (Txt.join z ys)) H
theorem OI:SE X "str.join" rJoin:=by
 intro pins s σ H x vs v us Q I rx rv h;obtain ⟨z,p,ys,rfl,rfl,hp,hok,q⟩:=h;obtain ⟨t,rfl⟩:=rx;obtain ⟨u,rfl,ru⟩:=rv.one;cases (show u=Value.ref p from ru);obtain ⟨hz,its,n,r,hl,e⟩:=I.lstM hp;have isl:s.heap.IsList p its.toArray:=⟨_,e,rfl,n,rfl⟩;exact join_list isl (nP r) hok λt' k=>⟨.str _,H,I.tok k,⟨t',rfl⟩,q⟩
noncomputable def TU (K:Fg):V->List V->Hp->VK->Prop:=λx vs H Q=>∃(z:Str) (p:Addr) (ys:List Str),x=.str z/\vs=[.ref p]/\cC K H p (ys.map V.str)/\(ys.map (·.length)).sum+ys.length * z.length<=16777216/\Q (.str (Txt.join z ys)) H
theorem IQ:SE X "str.join" (TU X.K):=by
 intro pins s σ H x vs v us Q I rx rv h;obtain ⟨z,p,ys,rfl,rfl,hp,hok,q⟩:=h;obtain ⟨t,rfl⟩:=rx;obtain ⟨u,rfl,ru⟩:=rv.one;cases (show u=Value.ref p from ru);obtain ⟨its,r,ht,hz⟩:=I.tuple hp;exact join_tuple ht (nP r) hok λt' k=>⟨.str _,H,I.tok k,⟨t',rfl⟩,q⟩
noncomputable def TZ:V->List V->Hp->VK->Prop:=λx vs H Q=>∃(z y:Str),x=.str z/\vs=[.str y]/\Q (.int (Txt.count z y)) H
theorem IT:SE X "str.count" TZ:=by
 intro pins s σ H x vs v us Q I rx rv h;obtain ⟨z,y,rfl,rfl,q⟩:=h;obtain ⟨t,rfl⟩:=rx;obtain ⟨u,rfl,ru⟩:=rv.one;obtain ⟨t2,rfl⟩:=ru;exact SC.count ⟨.int _,H,I.tok _,⟨_,rfl⟩,q⟩
noncomputable def TV:V->List V->Hp->VK->Prop:=λx vs H Q=>∃(z y:Str) (i:Nat) (rest:List Nat),x=.str z/\vs=[.str y]/\Builtin.Str.occurrences z y 0 z.length 1=i::rest/\Q (.int i) H
theorem IS:SE X "str.index" TV:=by
 intro pins s σ H x vs v us Q I rx rv h;obtain ⟨z,y,i,rest,rfl,rfl,ho,q⟩:=h;obtain ⟨t,rfl⟩:=rx;obtain ⟨u,rfl,ru⟩:=rv.one;obtain ⟨t2,rfl⟩:=ru;exact SC.index ho ⟨.int _,H,I.tok _,⟨_,rfl⟩,q⟩
noncomputable def TM:List V->Hp->VK->Prop:=λxs H Q=>∃(p:Addr) (ns:List Int),xs=[.ref p]/\H p=some (.lst (ns.map V.int))/\Q (.int ns.sum) H
theorem LL (hc:X.calm=true):cD X (.builtin "sum") TM:=by
 intro pins s σ H xs us Q I rv h;obtain ⟨p,ns,rfl,hp,q⟩:=h;obtain ⟨u,rfl,ru⟩:=rv.one;cases (show u=Value.ref p from ru);obtain ⟨hz,its,n,r,hl,e⟩:=I.lstM hp;have isl:s.heap.IsList p its.toArray:=⟨_,e,rfl,n,rfl⟩;have hi:=intsAre_of r;have hn:numsOf its=ns:=hi.numsOf;obtain ⟨ys,ey⟩:=hi.allInts.items;have en:numsOf its=numsOf (intItems ys).toList:=by rw[<-ey]
 rw[ey] at isl;refine sum_intListG (I.ok.hd hc) isl λh' tk t' hk=>⟨.int ns.sum,H,I.kept (t':=tk) hk,⟨t',?_⟩,q⟩;rw[preSum_eq,take_of_length_le (by simp),<-hn,en,nums_intItems]
theorem stored_new {K:Type} [DecidableEq K] {kvs:List (K × Value)} {k:K} {v:Value} (h:∀p∈kvs,p.1≠k):stored kvs k v=kvs++[(k,v)]:=by
 unfold stored;rw[if_neg];intro z;obtain ⟨p,hp,e⟩:=List.any_eq_true.mp z;exact h p hp (of_decide_eq_true e)
theorem gM {K:Type} [DecidableEq K] {kk:Nat->K} {items:Array Value}:∀(n k:Nat),(∀i j,i<k+n->j<k+n->kk i=kk j->i=j)->
  ZD.storeAll kk items n k ((range k).map λi=>(kk i,items[i]?.getD .none))=(range (k+n)).map λi=>(kk i,items[i]?.getD .none)
 |0,k,_=>rfl
 |n+1,k,hi=>by
  show ZD.storeAll kk items n (k+1) (stored _ (kk k) (items[k]?.getD .none))=_;rw[stored_new]
  ·have ih:=gM (kk:=kk) (items:=items) n (k+1) (λi j a b=>hi i j (by lia) (by lia));rw[range_succ,map_append] at ih;rw[show k+(n+1)=k+1+n by lia];exact ih
  ·intro p hp;obtain ⟨i,hm,rfl⟩:=mem_map.mp hp;have hlt:=mem_range.mp hm;intro e;have:=hi i k (by lia) (by lia) e;lia
theorem oG {α β γ:Type} {R:β->γ->Prop} {f:α->β} {g:α->γ}:∀(l:List α),(∀a∈l,R (f a) (g a))->Paired R (l.map f) (l.map g)
 |[],_=>.nil
 |a::l,h=>.cons (h a mem_cons_self) (oG l λb hb=>h b (mem_cons_of_mem _ hb))
noncomputable def fD (x:Str) (i:Nat):Key:=.inr ⟨#[x.cps.getD i 0]⟩
noncomputable def iS (x:Str) (ws:List V):List (Key × V):=(range x.cps.size).map λi=>(fD x i,ws[i]?.getD .non)
noncomputable def Hr (K:Fg) (ta:TA):TE:=λσ H Q=>ta σ H λvs H1=>∃(x:Str) (t:Addr) (ws:List V),vs=[.str x,.ref t]/\(cC K H1 t ws\/aR K H1 t ws)/\x.cps.size=ws.length/\x.cps.size<=1000/\x.cps.all (·<128)=true/\(∀i j,i<x.cps.size->j<x.cps.size->fD x i=fD x j->i=j)/\
 ∀d,H1 d=none->Q (.ref d) (upd H1 d (.dK (iS x ws)))
theorem XG {pins:List (Addr × Obj)} {σ:St} {H:Hp} {s:Shared} {Q:VK} {x:Str} {tk:Tok} {t:Addr} {ws:List V} (hc:X.calm=true) (I:Inv X pins σ H s) (ht:cC X.K H t ws\/aR X.K H t ws) (hl:x.cps.size=ws.length) (hle:x.cps.size<=1000) (ha:x.cps.all (·<128)=true)
  (hinj:∀i j,i<x.cps.size->j<x.cps.size->fD x i=fD x j->i=j) (q:∀d,H d=none->Q (.ref d) (upd H d (.dK (iS x ws)))):
  wpAny (model X.prog X.w) X.A (call (.type "zip") [.str x tk,.ref t]) (λz s1=>wpAny (model X.prog X.w) X.A (call (.type "dict") [z]) (EP X pins σ Q) X.xe s1) X.xe s:=by
 obtain ⟨its,r,it,hlt⟩:∃its:List Value,Vals ws its/\(s.heap.IsTuple t its.toArray\/s.heap.IsList t its.toArray)/\t<s.heap.objs.size:=by
  rcases ht with ht|ht
  ·obtain ⟨its,r,it,hz⟩:=I.tuple ht;exact ⟨its,r,.inl it,let ⟨o,e,_⟩:=it;lt_size e⟩
  ·obtain ⟨its,r,it,hz⟩:=I.list ht;exact ⟨its,r,.inr it.isList,let ⟨o,n,e,_⟩:=it;lt_size e⟩
 have hlen:ws.length=its.length:=r.length;refine ZD.LK ha it λh1 S1 sz1 k1=>?_;refine ZD.xG (s:={s with heap:=h1}) (knd:=aY X.prog X.w) (kk:=fD x) (λi c u hx=>?_) (ZD.apart_new hlt) (I.ok.hd hc) (by rw[hl,hlen,size_toArray]) hle S1 λh2 d tk2 hd hdict k2=>?_
 ·show mD (.inr ⟨#[x.cps.getD i 0]⟩) (.str ⟨#[c]⟩ u)=true;have e:x.cps.getD i 0=c:=by
   rw[Array.getD_eq_getD_getElem?,hx];rfl
  rw[e];exact rH _ _
 ·have hd':s.heap.objs.size<=d:=by
   have:h1.objs.size<=d:=hd;lia
  have kept:∀b o,s.heap.get? b=some o->h2.get? b=some o:=λb o e=>by
   have lb:b<s.heap.objs.size:=lt_size e;exact k2 b o (ne_of_lt (Nat.lt_add_right _ lb)) (ne_of_lt (Nat.lt_add_right _ lb)) (ne_of_lt lb) (ne_of_lt (Nat.lt_add_right _ lb)) (k1 b o e)
  have e0:=gM (kk:=fD x) (items:=its.toArray) x.cps.size 0 (λi j a b=>hinj i j (by lia) (by lia));have e1:ZD.storeAll (fD x) its.toArray x.cps.size 0 []=(range x.cps.size).map λi=>(fD x i,its.toArray[i]?.getD .none):=by
   rw[show 0+x.cps.size=x.cps.size by lia] at e0;exact e0
  rw[e1] at hdict;have hrel:KV (iS x ws) ((range x.cps.size).map λi=>(fD x i,its.toArray[i]?.getD .none)):=by
   refine oG _ λi hi=>⟨rfl,?_⟩;have hi':=mem_range.mp hi;have hw:ws[i]?=some (ws[i]'(by lia)):=getElem?_eq_getElem (by lia);obtain ⟨u,hu,ru⟩:=r.get hw;have hu':its.toArray[i]?=some u:=by simpa using hu
   show RelV (ws[i]?.getD .non) (its.toArray[i]?.getD .none);rw[hw,hu'];exact ru
  refine ⟨.ref d,upd H d (.dK (iS x ws)),?_,rfl,q d (I.hok.fresh hd')⟩;refine I.laid (t':=tk2) kept hd' ⟨?_,beq_eq_false_iff_ne.mpr (Ne.symm (ne_of_lt (Nat.lt_of_lt_of_le (xP I) hd'))),_,hrel,hdict⟩;show (iS x ws).length<=sizeLine;unfold iS;rw[length_map,length_range];exact le_of_lt (DE hle)
theorem zH (hc:X.calm=true) (hgd:Gl X "dict") (hmd:X.mg "dict"=none) (hgz:Gl X "zip") (hmz:X.mg "zip"=none) (ha:PA X [a,b] ta)
  (hs:starEach [a,b] X.env=(false,eval a X.env)::starEach [b] X.env:=by rfl) (hpl:(backTo pos2 (starEach [b] X.env)).any (·.1)=false:=by rfl)
  (hs1:starEach [.Call (.Name "zip" p2) [a,b] [] pos2] X.env=(false,eval (.Call (.Name "zip" p2) [a,b] [] pos2) X.env)::starEach [] X.env:=by rfl) (hpl1:(backTo pos1 (starEach [] X.env)).any (·.1)=false:=by rfl):
  PE X (.Call (.Name "dict" p1) [.Call (.Name "zip" p2) [a,b] [] pos2] [] pos1) (Hr X.K ta):=by
 intro pins s σ H Q I h;refine wpAny_Call_Name_kw (eS I hgd hmd PyProof.Rows.Boot.dict ?_ (by decide) (by decide));refine PyProof.Rows.callWith_type1 ?_ hs1 hpl1;rw[hs1];show wpAny _ _ (spliced ((false,eval (.Call (.Name "zip" p2) [a,b] [] pos2) X.env)::backTo pos1 (starEach [] X.env))) _ _ s;refine Calls.spliced_cons ?_;refine bS (Q:=λz s1=>wpAny (model X.prog X.w) X.A (call (.type "dict") [z]) (EP X pins σ Q) X.xe s1) ?_ λz s1 hz=>Calls.spliced_nil hz;refine wpAny_Call_Name_kw (eS I hgz hmz PyProof.Rows.Boot.zip ?_ (by decide) (by decide));refine PyProof.Rows.callWith_type1 (bS (ha pos2 pins s σ H _ I h) λus s1 ⟨vs,H1,I1,r1,q1⟩=>?_) hs hpl;obtain ⟨x,t,ws,rfl,ht,hl,hle,hasc,hinj,q⟩:=q1;obtain ⟨u,v,rfl,ru,rv⟩:=r1.two;obtain ⟨tk,rfl⟩:=ru;cases (show v=Value.ref t from rv);exact XG hc I1 ht hl hle hasc hinj q
theorem qV {n:Nat} {key:Nat->Key} {f:Nat->V} {j:Nat} (hinj:∀i j,i<n->j<n->key i=key j->i=j) (hj:j<n):cZ ((range n).map λi=>(key i,f i)) (key j)=some (f j):=by
 unfold cZ;rw[List.find?_map];have e:(range n).find? ((λkv:Key × V=>decide (kv.1=key j))∘λi=>(key i,f i))=some j:=by
  cases q:(range n).find? ((λkv:Key × V=>decide (kv.1=key j))∘λi=>(key i,f i)) with
  |none=>
   have z:=List.find?_eq_none.mp q j (mem_range.mpr hj);simp at z
  |some i=>
   have z1:=mem_range.mp (List.mem_of_find?_eq_some q);have z2:=List.find?_some q;have z3:key i=key j:=of_decide_eq_true z2;rw[hinj i j z1 hj z3]
 rw[e];rfl
end
section
variable {X:Cx} {pins:List (Addr × Obj)} {σ:St} {H:Hp} {s:Shared}
theorem Inv.but (I:Inv X pins σ H s) (hs:SameBut C s.heap h') (hC:X.s₀.heap.objs.size<=C) (hL:X.env.locals≠C) (hcl:∀x c,X.env.cells.lookup x=some c->c≠C) (hp:∀p∈X.pn++pins,p.1≠C) (hn:H C=none):
  Inv X pins σ H {s with heap:=h'}:=by
 have kp:∀b o,b≠C->s.heap.get? b=some o->h'.get? b=some o:=λb o hb e=>(hs.2 b hb).trans e;obtain ⟨m,hm,hl⟩:=I.loc;have cells:∀c v,c≠C->s.heap.IsCell c v->h'.IsCell c v:=λc v hc ⟨o,e,d⟩=>⟨o,kp _ _ hc e,d⟩;refine ⟨I.ok,I.os,I.bare,Un.but I.base hs hC,⟨m,hm.sameBut hs hL,λi x v e1 e2 e3=>?_⟩,λx c e=>?_,I.free,I.freeC,λp hpp=>⟨kp _ _ (hp p hpp) (I.pin p hpp).1,(I.pin p hpp).2⟩,eJ.but I.hok hs hn,I.len⟩
 ·obtain ⟨u,r,l⟩:=hl i x v e1 e2 e3;refine ⟨u,r,?_⟩;rcases l with l|⟨hk,c,hc,hcell⟩
  ·exact .inl l
  ·exact .inr ⟨hk,c,hc,cells c _ (hcl x c hc) hcell⟩
 ·obtain ⟨v,hv⟩:=I.cell x c e;exact ⟨v,cells c v (hcl x c e) hv⟩
theorem uE (Iv:Nat->Shared->Prop)
  (turn:∀n s,Iv n s->wpAny (model prog w) A (pyNext it) (λr s1=>match r with
   |none=>R (.ok .next) s1
   |some v=>wpAny (model prog w) A (letOwnedTupleGo target it v) (λ_ s1'=>wpAny (model prog w) A (assign target env v) (λ_ s2=>
     wpAny (model prog w) A (forIn ifs true λc r=>if r=true then do let ok <-isTrue c env (eval c env);pure (ForInStep.yield ok) else pure (ForInStep.yield r)) (λok s3=>
      if ok=true then wpAny (model prog w) A (eval elt env) (λx s4=>wpAny (model prog w) A (call (.builtin "list.append") [acc,x]) (λ_ s5=>∃m,m<n/\Iv m s5) (notedBy (model prog w) A env λe s'=>R (.error e) s') s4) (notedBy (model prog w) A env λe s'=>R (.error e) s') s3
      else ∃m,m<n/\Iv m s3) (notedBy (model prog w) A env λe s'=>R (.error e) s') s2)
     (notedBy (model prog w) A env λe s'=>R (.error e) s') s1') (notedBy (model prog w) A env λe s'=>R (.error e) s') s1) (notedBy (model prog w) A env λe s'=>R (.error e) s') s)
  (n:Nat) (h:Iv n s):codeAny (model prog w) A (.compLoop (.ListComp elt [⟨target,iter,ifs,0⟩] scope pos) 0 it acc env) R s:=by
 refine codeAny_loop rfl Iv (λn s hI=>?_) n h;show wpAny _ _ ((compTurn (.ListComp elt [⟨target,iter,ifs,0⟩] scope pos) 0 it acc env).onRaise (λx=>do noteFrame x env;theTreesLotGoes x)) _ _ s;refine wpAny_noted ?_;rw[compTurn_list];refine wpAny_bind (wpAny_standAt (wpAny_bind (wpAny_mono (turn n s hI) (λr s1 h1=>?_) λ_ _ h'=>h')));cases r with
 |none=>exact wpAny_pure h1
 |some v=>
  refine wpAny_bind (wpAny_mono h1 (λ_ s1' h1'=>wpAny_bind (wpAny_mono h1' (λ_ s2 h2=>wpAny_bind (wpAny_mono h2 (λok s3 h3=>?_) λ_ _ h'=>h')) λ_ _ h'=>h')) λ_ _ h'=>h');cases ok with
  |true=>
   rw[if_pos rfl] at h3 ⊢;exact wpAny_bind (wpAny_bind (wpAny_mono h3 (λx s4 h4=>wpAny_bind (wpAny_mono h4 (λ_ s5 h5=>wpAny_pure (wpAny_pure ⟨rfl,h5⟩)) λ_ _ h'=>h')) λ_ _ h'=>h'))
  |false=>
   rw[if_neg Bool.false_ne_true] at h3 ⊢
   first
    |exact wpAny_pure ⟨rfl,h3⟩
    |exact wpAny_bind (wpAny_pure (wpAny_pure ⟨rfl,h3⟩))
inductive sL (X:Cx):List Expr->TT->Prop
 |nil:sL X [] (λ_ H Q=>Q true H)
 |one {c:Expr} {t:TT} (h:PT X c t):sL X [c] t
theorem sL.run (T:sL X ifs t) (I:Inv X pins σ H s) (h:t σ H QB):
  wpAny (model X.prog X.w) X.A (forIn ifs true λc r=>if r=true then do let ok <-isTrue c X.env (eval c X.env);pure (ForInStep.yield ok) else pure (ForInStep.yield r)) (TP X pins σ QB) X.xe s:=by
 cases T with
 |nil=>exact wpAny_tests_nil ⟨H,I,h⟩
 |one hc=>exact wpAny_tests_one (hc pins s σ H QB I h)
noncomputable def bA (J:It) (g:TG) (tc:TT) (te:TE) (n:Nat) (is:List Nat) (σ:St) (D:Addr) (H1:Hp) (Q:VK):Prop:=∃W:Nat->Nat->St->Hp->Prop,(∃m,W 0 m (FC n is σ) (upd H1 D (.lst [])))/\
 ∀i m σ' H,W i m σ' H->(J.stop i H/\Q (.ref D) H)\/(J.go i H/\∀x H',J.yld i H x H'->g x σ' H' λσ2 H2=>tc σ2 H2 λb H3=>
  (b=true->te σ2 H3 λy H4=>∃xs,H4 D=some (.lst xs)/\xs.length<sizeLine/\∃m',m'<m/\W (i+1) m' σ2 (upd H4 D (.lst (xs++[y]))))/\(b=false->∃m',m'<m/\W (i+1) m' σ2 H3))
noncomputable def nN (wi:TI) (g:TG) (tc:TT) (te:TE) (n:Nat) (is:List Nat):TE:=λσ H Q=>wi σ H λJ H1=>∀D,H1 D=none->bA J g tc te n is σ D H1 Q
theorem EV (use:Option (Value->Sem Unit)) (hc:X.calm=true) (hi:PI X target iter wi)
  (hg:∀C s₀ H₀ ex,PG (FI X (own++caps) sc C s₀ H₀ ex) target g) (ht:∀C s₀ H₀ ex,sL (FI X (own++caps) sc C s₀ H₀ ex) ifs tc) (he:∀C s₀ H₀ ex,PE (FI X (own++caps) sc C s₀ H₀ ex) elt te) (hcap:FQ X sc caps is)
  (hkind:sc.kind=.function) (hown:∀y∈sc.names,y.2=.cell->sc.names.lookup y.1=some .cell) (hfr:(sc.names.all λy=>y.2 != .free || X.env.kindOf y.1==some .cell)=true)
  (hclos:closureFor sc X.env=pure (xN sc.names X.env)) (hnames:∀y∈sc.names,y.2=.local->sc.names.lookup y.1=some .local)
  (hs:∀x,foldedSetIterable iter X.env x=pure x) (I:Inv X pins σ H s) (h:nN wi g tc te own.length is σ H Q)
  (fin:∀(D C:Addr) (H':Hp) (s':Shared) (m:Str->Option Value),Inv X pins σ H' s'->s'.heap.Ns C m->H' C=none->X.s₀.heap.objs.size<=C->X.env.locals≠C->(∀x c,X.env.cells.lookup x=some c->c≠C)->(∀p∈X.pn++pins,p.1≠C)->Q (.ref D) H'->
   compPost (model X.prog X.w) X.A X.xe use QQ (.ref D) C (.ok .next) s'):
  wpAny (model X.prog X.w) X.A (comprehension (.ListComp elt [⟨target,iter,ifs,0⟩] sc pos) sc X.env pos2 (newList []) false (eval iter X.env) use) QQ X.xe s:=by
 refine wpAny_comprehension_free (use:=use) rfl hs hclos hkind hnames ?_;refine bS (hi pins s σ H _ I h) λv s1 h1=>bS h1 λitv s2 h2=>?_;obtain ⟨it,fp,tn,J,H2,e,I2,T,st2,f2,q2⟩:=h2;subst e;have ob2:∀b∈fp,∃o,s2.heap.get? b=some o:=λb hb=>let ⟨o,e,_⟩:=T.obj _ _ st2 b hb;⟨o,e⟩;refine wpAny_newObj_type (sQ ?_);have hns₁:(pushCells ((s2.heap.push {cls:=.type "list",data:=.seq ([]:List Value).toArray}).push {cls:=.type "dict",data:=.dict #[]}) sc.names).Ns (s2.heap.push {cls:=.type "list",data:=.seq ([]:List Value).toArray}).objs.size (λ_=>none):=(Heap.Ns.new _ (.type "dict")).keeps (pushCells_keeps _ _);have oc₁:=IA (s2.heap.push {cls:=.type "list",data:=.seq ([]:List Value).toArray}) {cls:=.type "dict",data:=.dict #[]} sc;have hk₁:∀b o,(s2.heap.push {cls:=.type "list",data:=.seq ([]:List Value).toArray}).get? b=some o->(pushCells ((s2.heap.push {cls:=.type "list",data:=.seq ([]:List Value).toArray}).push {cls:=.type "dict",data:=.dict #[]}) sc.names).get? b=some o:=λb o e=>pushCells_keeps _ _ b o (get?_push_of_some _ e);generalize hh₁:pushCells ((s2.heap.push {cls:=.type "list",data:=.seq ([]:List Value).toArray}).push {cls:=.type "dict",data:=.dict #[]}) sc.names=h₁ at hns₁ oc₁ hk₁;have I3:=I2.lnew (its:=[]) (ys:=[]) (t':=s2.toks) .nil (zero_le _);have hD:H2 s2.heap.objs.size=none:=I2.hok.fresh (Nat.le_refl _);obtain ⟨W,⟨m0,w0⟩,turn⟩:=q2 s2.heap.objs.size hD;have f3:∀b∈fp,lV X pins (upd H2 s2.heap.objs.size (.lst [])) b:=λb hb=>by
  obtain ⟨o,e⟩:=ob2 b hb;exact ⟨by rw[aF (ne_of_lt (lt_size e))];exact (f2 b hb).1,(f2 b hb).2⟩
 have hk3:=hk₁;have ob3:∀b∈fp,∃o,(s2.heap.push {cls:=.type "list",data:=.seq ([]:List Value).toArray}).get? b=some o:=λb hb=>by
  obtain ⟨o,e⟩:=ob2 b hb;exact ⟨o,get?_push_of_some _ e⟩
 have I4:=FG (own:=own) I3 hkind hown hfr hcap f3 ob3 (tk:=s2.toks) hns₁ hk3 oc₁;have st4:tn 0 h₁:=T.keep 0 s2.heap h₁ st2 λb hb o e=>hk3 b o (get?_push_of_some _ e);have stat:∀{H':Hp},(∀b∈fp,H' b=none)->∀b∈fp,lV (FI X (own++caps) sc (s2.heap.push {cls:=.type "list",data:=.seq ([]:List Value).toArray}).objs.size {s2 with heap:=s2.heap.push {cls:=.type "list",data:=.seq ([]:List Value).toArray}} (upd H2 s2.heap.objs.size (.lst [])) fp) [] H' b:=λ{H'} hn b hb=>by
  obtain ⟨o,e⟩:=ob3 b hb;refine ⟨hn b hb,ne_of_lt (lt_size e),I4.ok.exfs b hb,.inl hb,(I4.ok.exf b hb).2,λp hp=>absurd (show p∈([]:List (Addr × Obj)) from hp) (by simp)⟩
 have loop:∀s4:Shared,s4={s2 with heap:=h₁}->
   codeAny (model X.prog X.w) X.A (.compLoop (.ListComp elt [⟨target,iter,ifs,0⟩] sc pos) 0 (.ref it) (.ref s2.heap.objs.size) (compEnvC sc (kX sc (s2.heap.push {cls:=.type "list",data:=.seq ([]:List Value).toArray}).objs.size X.env) (s2.heap.push {cls:=.type "list",data:=.seq ([]:List Value).toArray}).objs.size X.env))
    (compPost (model X.prog X.w) X.A X.xe use QQ (.ref s2.heap.objs.size) (s2.heap.push {cls:=.type "list",data:=.seq ([]:List Value).toArray}).objs.size) s4:=by
  rintro s4 rfl;refine uE (λn s'=>∃i σ' H',Inv (FI X (own++caps) sc (s2.heap.push {cls:=.type "list",data:=.seq ([]:List Value).toArray}).objs.size {s2 with heap:=s2.heap.push {cls:=.type "list",data:=.seq ([]:List Value).toArray}} (upd H2 s2.heap.objs.size (.lst [])) fp) [] σ' H' s'/\tn i s'.heap/\(∀b∈fp,H' b=none)/\W i n σ' H') ?_ m0
   ⟨0,_,_,I4,st4,λb hb=>(f3 b hb).1,w0⟩
  rintro n s5 ⟨i,σ5,H5,I5,st5,fr5,w5⟩;rcases turn i n σ5 H5 w5 with ⟨stop,qn⟩|⟨go,step⟩
  ·refine wpAny_mono (T.done (FI X (own++caps) sc _ _ _ fp) rfl rfl rfl hc i [] s5 σ5 H5 (λ_ _=>False) I5 (stat fr5) st5 stop) (λr s6 ⟨hr,I6⟩=>?_) λ_ _ z=>z.elim;subst hr;obtain ⟨m,hn,_⟩:=I6.loc;have IX:Inv X pins σ H5 s6:=I3.call' (s':=s6) I6.os I6.base I6.hok I6.bare (ch:=fp) λb hb=>by
    obtain ⟨_,n1,_,n3,n4,n5⟩:=f3 b hb;exact ⟨n3,n1,n4,n5⟩
   have lt3:∀{b:Addr} {o:Obj},(s2.heap.push {cls:=.type "list",data:=.seq ([]:List Value).toArray}).get? b=some o->b≠(s2.heap.push {cls:=.type "list",data:=.seq ([]:List Value).toArray}).objs.size:=λe=>ne_of_lt (lt_size e);refine fin _ _ H5 s6 m IX hn I6.free I3.sz (ne_of_lt I3.lt) (λx c e=>?_) (λp hp=>lt3 (I3.pin p hp).1) qn;obtain ⟨v,o,e',_⟩:=I3.cell x c e;exact lt3 e'
  ·refine wpAny_mono (T.item (FI X (own++caps) sc _ _ _ fp) rfl rfl rfl hc i [] s5 σ5 H5 (λ_ _=>False) I5 (stat fr5) st5 go) (λr s6 ⟨u,hr,h6⟩=>?_) λ_ _ z=>z.elim;subst hr;refine wpAny_mono h6 (λ_ s7 ⟨x,H7,I7,r7,y7,st7,fr7⟩=>?_) λ_ _ z=>z.elim;have I7':=I7.pinned (stat fr7) (T.obj _ _ st7);refine wpAny_mono (hg _ _ _ _ _ s7 σ5 H7 x u _ I7' r7 (step x H7 y7)) (λ_ s8 ⟨σ8,H8,I8,q8⟩=>?_) λ_ _ z=>z.elim;refine wpAny_mono ((ht _ _ _ _).run I8 q8) (λb s8' ⟨H8',I8',q8'⟩=>?_) λ_ _ z=>z.elim;have back:∀{σ9:St} {H9:Hp} {s9:Shared},Inv (FI X (own++caps) sc (s2.heap.push {cls:=.type "list",data:=.seq ([]:List Value).toArray}).objs.size {s2 with heap:=s2.heap.push {cls:=.type "list",data:=.seq ([]:List Value).toArray}} (upd H2 s2.heap.objs.size (.lst [])) fp) ([]++oF fp s7.heap) σ9 H9 s9->tn (i+1) s9.heap/\∀b∈fp,H9 b=none:=λ{σ9 H9 s9} I9=>
    ⟨T.keep _ _ _ st7 λb hb o e=>(I9.pin (b,o) (mem_append_right _ (mem_append_right _ (fY hb e)))).1,λb hb=>by
     obtain ⟨o,e,d⟩:=T.obj _ _ st7 b hb
     exact (I9.pin (b,o) (mem_append_right _ (mem_append_right _ (fY hb e)))).2.1⟩
   cases b with
   |false=>
    rw[if_neg Bool.false_ne_true];obtain ⟨m',hm,w9⟩:=q8'.2 rfl;exact ⟨m',hm,i+1,σ8,_,I8'.unpinned,(back I8').1,(back I8').2,w9⟩
   |true=>
    rw[if_pos rfl];refine wpAny_mono (he _ _ _ _ _ s8' σ8 H8' _ I8' (q8'.1 rfl)) (λyv s9 ⟨y,H9,I9,r9,xs,hx,hz,m',hm,w9⟩=>?_) λ_ _ z=>z.elim;refine wpAny_mono (rF (X:=FI X (own++caps) sc _ _ _ fp) _ s9 σ8 H9 (.ref s2.heap.objs.size) [y] (.ref s2.heap.objs.size) [yv] (λv Hn=>v=.non/\Hn=upd H9 s2.heap.objs.size (.lst (xs++[y]))) I9 rfl (.cons r9 .nil) ⟨_,xs,y,rfl,rfl,hx,hz,rfl,rfl⟩)
     (λv s10 ⟨v10,H10,I10,r10,q10⟩=>?_) λ_ _ z=>z.elim
    obtain ⟨_,rfl⟩:=q10;exact ⟨m',hm,i+1,σ8,_,I10.unpinned,(back I10).1,(back I10).2,w9⟩
 exact codeAny_compStart_list (loop _ rfl) (T.self _ 0 _ _ _ st4 (loop _ rfl))
end
end L2.L3
namespace L2.Na
open PySem PySem.Spec PyProof.Rows L2 L2.L3
theorem Inv.turnedN {X:Cx} {pins:List (Addr × Obj)} {σ:St} {H:Hp} {s:Shared} {h':Heap} {t':Nat} {fp:List Addr} (I:Inv X pins σ H s) (k:∀b o,b∉fp->s.heap.get? b=some o->h'.get? b=some o) (hf:∀b∈fp,lV X pins H b):Inv X pins σ H {s with heap:=h',toks:=t'}:=by
 have nit:∀b u,H b=some u->b∉fp:=λb u e z=>by rw[(hf b z).1] at e;cases e
 refine I.step (g':=s.gens) (d':=s.drawn) (ch:=fp) (λb hb=>?_) (λb o _ _ hc e _=>k b o hc e) (λb o _ _ hc e _=>⟨o.slots,k b o hc e⟩) (λ_ _ _ _ n=>n)
  (λb o hc e=>⟨o,k b o hc e⟩) (λ_ _ e=>e) (λ_ _ _ e=>e) (λb ps e=>⟨#[],by rw[e];simp⟩) (λm hm=>?_) (λb u e=>?_) I.bare
 ·obtain ⟨_,hL,_,h1,h2,h3⟩:=hf b hb;exact ⟨h1,hL,h2,h3⟩
 ·obtain ⟨o,es,ep,ho,r⟩:=hm;exact ⟨o,es,ep,k _ o (λz=>(hf _ z).2.1 rfl) ho,r⟩
 ·refine (I.hok b u e).stay (λc v hc q=>k c v ?_ q) (λ_ q=>q) λ_ _ q=>q;rcases hc with z|z
  ·rw[z];exact nit b u e
  ·exact nit c _ z
noncomputable def Eg (K:Fg) (a b:Addr):It:=
 ⟨λi H=>∃xs ys x y,aR K H a xs/\aR K H b ys/\xs[i]?=some x/\ys[i]?=some y,
  λi H v H'=>∃p x y,H p=none/\v=.ref p/\H'=upd H p (.tup [x,y])/\(∀xs,aR K H a xs->xs[i]?=some x)/\∀ys,aR K H b ys->ys[i]?=some y,
  λi H=>∃xs ys,aR K H a xs/\aR K H b ys/\(xs.length<=i\/ys.length<=i)⟩
structure AL (z TI TO i1 i2:Addr):Prop where
 TIz:TI≠z
 TOz:TO≠z
 i1z:i1≠z
 i2z:i2≠z
 TITO:TI≠TO
 TIi1:TI≠i1
 TIi2:TI≠i2
 TOi1:TO≠i1
 TOi2:TO≠i2
 i12:i1≠i2
theorem iB {h:Heap} {a b:Addr} {o u:Obj} {m n:String} (e1:h.get? a=some o) (e2:h.get? b=some u) (c1:o.cls=.type m) (c2:u.cls=.type n) (hn:m≠n):a≠b:=λz=>by
 subst z;rw[e1] at e2;cases e2;rw[c1] at c2;exact hn (by simpa using c2)
noncomputable def Dz (z TI TO i1 i2 a b:Addr) (i:Nat) (h:Heap):Prop:=IsZip h z TI TO .none/\IsPair h TI (.ref i1) (.ref i2)/\(∃u v,IsPair h TO u v)/\h.IsListIter i1 a i/\h.IsListIter i2 b i
theorem Dz.apart {z TI TO i1 i2 a b:Addr} {i:Nat} {h:Heap} {xs ys:Array Value} (Z:AL z TI TO i1 i2) (t:Dz z TI TO i1 i2 a b i h) (h1:h.IsList a xs) (h2:h.IsList b ys):ZipApart z TI TO i1 i2 a b:=by
 obtain ⟨hz,_,⟨u,v,hTO⟩,⟨o1,e1,c1,_⟩,⟨o2,e2,c2,_⟩⟩:=t;obtain ⟨oa,ea,ca,_⟩:=h1;obtain ⟨ob,eb,cb,_⟩:=h2;exact ⟨Z.TIz,Z.TOz,Z.i1z,Z.i2z,Z.TITO,Z.TIi1,Z.TIi2,Z.TOi1,Z.TOi2,Z.i12,
  iB ea hz ca rfl (by decide),iB ea hTO ca rfl (by decide),iB ea e1 ca c1 (by decide),iB ea e2 ca c2 (by decide),
  iB eb hz cb rfl (by decide),iB eb hTO cb rfl (by decide),iB eb e1 cb c1 (by decide),iB eb e2 cb c2 (by decide)⟩
theorem GI {P:Program} {w:World} {K:Fg} {elts:List Expr} {k:Nat} {pos:Pos} (a b z TI TO i1 i2:Addr) (Z:AL z TI TO i1 i2):Turn P w K (.Tuple elts k pos) (Eg K a b) [z,TI,TO,i1,i2] z (Dz z TI TO i1 i2 a b) where
 mem:=by simp
 obj:=λi h st c hc=>by
  obtain ⟨hz,hTI,⟨u,v,hTO⟩,⟨o1,e1,c1,d1⟩,⟨o2,e2,c2,d2⟩⟩:=st;simp only [mem_cons,not_mem_nil,or_false] at hc;rcases hc with rfl|rfl|rfl|rfl|rfl
  ·exact ⟨_,hz,λ_ q=>by have q':Data.fields _=Data.cell _:=q;cases q'⟩
  ·exact ⟨_,hTI,λ_ q=>by have q':Data.seq _=Data.cell _:=q;cases q'⟩
  ·exact ⟨_,hTO,λ_ q=>by have q':Data.seq _=Data.cell _:=q;cases q'⟩
  ·exact ⟨_,e1,λ_ q=>by rw[d1] at q;cases q⟩
  ·exact ⟨_,e2,λ_ q=>by rw[d2] at q;cases q⟩
 keep:=λi h h' st kp=>by
  obtain ⟨hz,hTI,⟨u,v,hTO⟩,l1,l2⟩:=st;exact ⟨kp z (by simp) _ hz,kp TI (by simp) _ hTI,⟨u,v,kp TO (by simp) _ hTO⟩,l1.at λo e=>kp i1 (by simp) o e,l2.at λo e=>kp i2 (by simp) o e⟩
 item:=by
  intro X hP hw hK hc i pins s σ H E I hf st hg;subst hP hw hK;obtain ⟨xs,ys,x,y,hqa,hqb,hx,hy⟩:=hg;obtain ⟨ia,ra,pa,_⟩:=I.list hqa;obtain ⟨ib,rb,pb,_⟩:=I.list hqb;obtain ⟨u,hu,ru⟩:=ra.get hx;obtain ⟨v,hv,rv⟩:=rb.get hy;have D:=Dz.apart Z st pa.isList pb.isList;obtain ⟨hz,hTI,⟨u0,v0,hTO⟩,l1,l2⟩:=st;refine wpAny_pyNext_zip_item D hz hTI hTO l1 l2 pa.isList pb.isList (x:=u) (y:=v) (by simpa using hu) (by simpa using hv) λh' a1 a2 a3 a4 a5 a6 hk=>?_;refine ⟨_,rfl,?_⟩;refine wpAny_letOwnedTupleGo_zip (s:={s with heap:=h'}) a1 λh2 z2 sb=>?_;have fr:H s.heap.objs.size=none:=I.hok.fresh (Nat.le_refl _);have zlt:z<s.heap.objs.size:=lt_size hz;have k2:∀c o,c∉[z,TI,TO,i1,i2]->s.heap.get? c=some o->h2.get? c=some o:=λc o hc' e=>by
   simp only [mem_cons,not_mem_nil,or_false,not_or] at hc';exact sb.extBut _ _ hc'.1 (hk c o hc'.1 hc'.2.2.1 hc'.2.2.2.1 hc'.2.2.2.2 e)
  have T2:IsPair h2 s.heap.objs.size u v:=sb.extBut _ _ (ne_of_gt zlt) a5;have ne:∀c∈[z,TI,TO,i1,i2],c≠s.heap.objs.size:=λc hc'=>by
   obtain ⟨o,e⟩:∃o,s.heap.get? c=some o:=by
    simp only [mem_cons,not_mem_nil,or_false] at hc';obtain ⟨o1,e1,_⟩:=l1;obtain ⟨o2,e2,_⟩:=l2;rcases hc' with rfl|rfl|rfl|rfl|rfl
    ·exact ⟨_,hz⟩
    ·exact ⟨_,hTI⟩
    ·exact ⟨_,hTO⟩
    ·exact ⟨_,e1⟩
    ·exact ⟨_,e2⟩
   exact ne_of_lt (lt_size e)
  have I0:Inv X pins σ (upd H s.heap.objs.size (.tup [x,y])) {s with heap:=s.heap.push {cls:=.type "tuple",data:=.seq #[u,v]}}:=
   I.laid (t':=s.toks) (λc o e=>get?_push_of_some _ e) (Nat.le_refl _) (show aZ X.prog X.w _ _ _ (.tup [x,y]) from ⟨by show 2<=sizeLine;decide,[u,v],.cons ru (.cons rv .nil),IsTup.new _ _⟩)
  have hf':∀c∈[z,TI,TO,i1,i2],lV X pins (upd H s.heap.objs.size (.tup [x,y])) c:=λc hc'=>⟨by rw[aF (ne c hc')];exact (hf c hc').1,(hf c hc').2⟩;have I1:Inv X pins σ (upd H s.heap.objs.size (.tup [x,y])) {s with heap:=h2}:=Inv.turnedN (s:={s with heap:=s.heap.push {cls:=.type "tuple",data:=.seq #[u,v]}}) (t':=s.toks) I0 (λc o hc' e=>by
   rcases Heap.get?_push_cases e with ⟨hcs,ho⟩|e
   ·subst hcs ho
    exact T2
   ·exact k2 c o hc' e) hf'
  exact ⟨.ref s.heap.objs.size,_,I1,rfl,⟨_,x,y,fr,rfl,rfl,λxs' h'=>by rw[I.list_inj h' hqa];exact hx,λys' h'=>by rw[I.list_inj h' hqb];exact hy⟩,
   ⟨z2,sb.extBut _ _ Z.TIz (hk _ _ Z.TIz Z.TITO Z.TIi1 Z.TIi2 hTI),⟨_,_,sb.extBut _ _ Z.TOz a2⟩,a3.at λo e=>sb.extBut _ _ Z.i1z e,a4.at λo e=>sb.extBut _ _ Z.i2z e⟩,λc hc'=>(hf' c hc').1⟩
 done:=by
  intro X hP hw hK hc i pins s σ H E I hf st hg;subst hP hw hK;obtain ⟨xs,ys,hqa,hqb,hx⟩:=hg;obtain ⟨ia,ra,pa,_⟩:=I.list hqa;obtain ⟨ib,rb,pb,_⟩:=I.list hqb;have D:=Dz.apart Z st pa.isList pb.isList;obtain ⟨hz,hTI,⟨u0,v0,hTO⟩,l1,l2⟩:=st;have n1:=ra.length;have n2:=rb.length;refine wpAny_pyNext_zip_end (I.ok.hd hc) D hz hTI hTO l1 l2 pa.isList pb.isList (by rcases hx with hx|hx;exact .inl (by simp;lia);exact .inr (by simp;lia)) λh' hk=>⟨rfl,Inv.turnedN (t':=s.toks) I (λc o hc' e=>?_) hf⟩;simp only [mem_cons,not_mem_nil,or_false,not_or] at hc';exact hk c o hc'.1 hc'.2.2.1 hc'.2.2.2.1 hc'.2.2.2.2 e
 self:=λ_ _ _ _ _ st h=>wpAny_pyIter_zip st.1 h
end L2.Na
namespace L2.L3
open PySem PySem.Spec PyProof.Rows L2 PySem.SeqAt
noncomputable def Eqv:Nat->Hp->V->V->Prop
 |0,_,x,y=>(∃i,x=.int i/\y=.int i)\/(∃z,x=.str z/\y=.str z)\/(x=.non/\y=.non)
 |n+1,H,x,y=>Eqv n H x y\/∃p q xs ys,x=.ref p/\y=.ref q/\((H p=some (.lst xs)/\H q=some (.lst ys))\/(H p=some (.tup xs)/\H q=some (.tup ys)))/\xs.length=ys.length/\∀(i:Nat) (x y:V),xs[i]?=some x->ys[i]?=some y->Eqv n H x y
section
variable {X:Cx} {pins:List (Addr × Obj)} {σ:St} {H:Hp} {s:Shared}
theorem all_true (n:Nat):(range n).all (λ_=>true)=true:=all_eq_true.mpr λ_ _=>rfl
theorem jL (r:Vals xs us) (h:j<us.toArray.size):∃x,xs[j]?=some x/\RelV x us.toArray[j]:=by
 have hj:j<us.length:=by simpa using h
 have hx:j<xs.length:=by rw[r.length];exact hj
 obtain ⟨u,h1,h2⟩:=r.get (getElem?_eq_getElem hx);have e:us.toArray[j]=u:=by
  rw[getElem?_eq_getElem hj] at h1;simpa using Option.some.inj h1
 exact ⟨xs[j],getElem?_eq_getElem hx,by rw[e];exact h2⟩
theorem dU (r1:Vals xs us) (r2:Vals ys vs) (hi:∀(i:Nat) (x y:V),xs[i]?=some x->ys[i]?=some y->Eqv n H x y)
  (ih:∀(x y:V) (u v:Value),Eqv n H x y->RelV x u->RelV y v->EqAt A s u v true):∀j (h1:j<us.toArray.size) (h2:j<vs.toArray.size),EqAt A s us.toArray[j] vs.toArray[j] ((λ_=>true) j):=λj h1 h2=>by
 obtain ⟨x,e1,q1⟩:=jL r1 h1;obtain ⟨y,e2,q2⟩:=jL r2 h2;exact ih x y _ _ (hi j x y e1 e2) q1 q2
theorem jF (I:Inv X pins σ H s):∀(n:Nat) (A:Around) (x y:V) (u v:Value),A.units+n<cLine->Eqv n H x y->RelV x u->RelV y v->EqAt A s u v true
 |0,A,x,y,u,v,hu,h,r1,r2=>by
  rcases h with ⟨i,rfl,rfl⟩|⟨z,rfl,rfl⟩|⟨rfl,rfl⟩
  ·obtain ⟨t,rfl⟩:=r1;obtain ⟨t2,rfl⟩:=r2;have e:=EqAt.int_int (A:=A) (s:=s) i t i t2;rwa [beq_self_eq_true] at e
  ·obtain ⟨t,rfl⟩:=r1;obtain ⟨t2,rfl⟩:=r2;have e:=EqAt.str_str (A:=A) (s:=s) z t z t2;rwa [beq_self_eq_true] at e
  ·cases r1;cases r2;exact EqAt.same _
 |n+1,A,x,y,u,v,hu,.inl h,r1,r2=>jF I n A x y u v (by lia) h r1 r2
 |n+1,A,x,y,u,v,hu,.inr ⟨p,q,xs,ys,e1,e2,hh,hl,hi⟩,r1,r2=>by
  subst e1 e2;cases r1;cases r2;by_cases e:p=q
  ·subst e;exact EqAt.same _
  refine EqAt.of_refs e ?_;have hu1:A.in1.units+n<cLine:=by show A.units+1+n<cLine;lia
  rcases hh with ⟨h1,h2⟩|⟨h1,h2⟩
  ·obtain ⟨_,its,n1,k1,l1,g1⟩:=I.lstM h1;obtain ⟨_,its2,n2,k2,l2,g2⟩:=I.lstM h2;have z:=RcAt.lists (A:=A) (e:=λ_=>true) (⟨_,g1,rfl,n1,rfl⟩:s.heap.IsList p its.toArray) (⟨_,g2,rfl,n2,rfl⟩:s.heap.IsList q its2.toArray) (by rw[size_toArray,size_toArray];lia) (by lia)
    (dU k1 k2 hi λx y u v=>jF I n A.in1 x y u v hu1)
   rwa [all_true] at z
  ·obtain ⟨its,k1,p1,_⟩:=I.tuple (cC.of h1);obtain ⟨its2,k2,p2,_⟩:=I.tuple (cC.of h2);have z:=RcAt.tuples (A:=A) (e:=λ_=>true) (show s.heap.IsTuple p its.toArray from p1) (show s.heap.IsTuple q its2.toArray from p2) (by lia)
    (dU k1 k2 hi λx y u v=>jF I n A.in1 x y u v hu1)
   have e3:its.toArray.size=its2.toArray.size:=by rw[size_toArray,size_toArray,<-k1.length,<-k2.length];exact hl
   rwa [all_true,e3,beq_self_eq_true,Bool.true_and] at z
noncomputable def El (n:Nat) (H:Hp) (p q:Addr):Prop:=∃xs ys,((H p=some (.lst xs)/\H q=some (.lst ys))\/(H p=some (.tup xs)/\H q=some (.tup ys)))/\xs.length=ys.length/\∀(i:Nat) (x y:V),xs[i]?=some x->ys[i]?=some y->Eqv n H x y
noncomputable def Ak:R2:=λx y H Q=>∃p q n,x=.ref p/\y=.ref q/\n<=40/\El n H p q/\Q (.bl true) H
noncomputable def Ae:R2:=λx y H Q=>∃p q n,x=.ref p/\y=.ref q/\n<=40/\El n H p q/\Q (.bl false) H
theorem VD (hu:X.A.units+64<cLine):fP X (compareOp .Eq) Ak:=by
 intro pins s σ H x y v u Q I rx ry h;obtain ⟨p,q,n,rfl,rfl,hn,⟨xs,ys,hh,hl,hi⟩,qq⟩:=h;cases rx;cases ry;have hu1:X.A.in1.units+n<cLine:=by show X.A.units+1+n<cLine;lia
 rcases hh with ⟨h1,h2⟩|⟨h1,h2⟩
 ·obtain ⟨_,its,n1,k1,l1,g1⟩:=I.lstM h1;obtain ⟨_,its2,n2,k2,l2,g2⟩:=I.lstM h2;have z:=RcAt.lists (A:=X.A) (e:=λ_=>true) (⟨_,g1,rfl,n1,rfl⟩:s.heap.IsList p its.toArray) (⟨_,g2,rfl,n2,rfl⟩:s.heap.IsList q its2.toArray) (by rw[size_toArray,size_toArray];lia) (by lia)
   (dU k1 k2 hi λx y u v=>jF I n X.A.in1 x y u v hu1)
  rw[all_true] at z;exact z X.prog X.w X.xe _ ⟨.bl true,H,I,rfl,qq⟩
 ·obtain ⟨its,k1,p1,_⟩:=I.tuple (cC.of h1);obtain ⟨its2,k2,p2,_⟩:=I.tuple (cC.of h2);have z:=RcAt.tuples (A:=X.A) (e:=λ_=>true) (show s.heap.IsTuple p its.toArray from p1) (show s.heap.IsTuple q its2.toArray from p2) (by lia)
   (dU k1 k2 hi λx y u v=>jF I n X.A.in1 x y u v hu1)
  have e3:its.toArray.size=its2.toArray.size:=by rw[size_toArray,size_toArray,<-k1.length,<-k2.length];exact hl
  rw[all_true,e3,beq_self_eq_true,Bool.true_and] at z;exact z X.prog X.w X.xe _ ⟨.bl true,H,I,rfl,qq⟩
noncomputable def Aj:R2:=λx y H Q=>∃p q xs ys,x=.ref p/\y=.ref q/\H p=some (.lst xs)/\H q=some (.lst ys)/\xs.length≠ys.length/\Q (.bl false) H
theorem VB (hu:X.A.units+64<cLine):fP X (compareOp .Eq) Aj:=by
 intro pins s σ H x y v u Q I rx ry h;obtain ⟨p,q,xs,ys,rfl,rfl,h1,h2,hl,qq⟩:=h;cases rx;cases ry;obtain ⟨_,its,n1,k1,l1,g1⟩:=I.lstM h1;obtain ⟨_,its2,n2,k2,l2,g2⟩:=I.lstM h2;have hne:(its.toArray.size != its2.toArray.size)=true:=by
  rw[size_toArray,size_toArray,<-l1,<-l2];exact bne_iff_ne.mpr hl
 exact RcAt.lists_lengths (A:=X.A) (⟨_,g1,rfl,n1,rfl⟩:s.heap.IsList p its.toArray) (⟨_,g2,rfl,n2,rfl⟩:s.heap.IsList q its2.toArray) hne (by lia) X.prog X.w X.xe _ ⟨.bl false,H,I,rfl,qq⟩
theorem UX (hu:X.A.units+64<cLine):fP X (compareOp .NotEq) Ae:=by
 intro pins s σ H x y v u Q I rx ry h;obtain ⟨p,q,n,rfl,rfl,hn,⟨xs,ys,hh,hl,hi⟩,qq⟩:=h;cases rx;cases ry;have hu1:X.A.in1.units+n<cLine:=by show X.A.units+1+n<cLine;lia
 rcases hh with ⟨h1,h2⟩|⟨h1,h2⟩
 ·obtain ⟨_,its,n1,k1,l1,g1⟩:=I.lstM h1;obtain ⟨_,its2,n2,k2,l2,g2⟩:=I.lstM h2;have z:=RcNeAt.lists (A:=X.A) (e:=λ_=>true) (⟨_,g1,rfl,n1,rfl⟩:s.heap.IsList p its.toArray) (⟨_,g2,rfl,n2,rfl⟩:s.heap.IsList q its2.toArray) (by rw[size_toArray,size_toArray];lia) (by lia)
   (dU k1 k2 hi λx y u v=>jF I n X.A.in1 x y u v hu1)
  rw[all_true] at z;exact z X.prog X.w X.xe _ ⟨.bl false,H,I,rfl,qq⟩
 ·obtain ⟨its,k1,p1,_⟩:=I.tuple (cC.of h1);obtain ⟨its2,k2,p2,_⟩:=I.tuple (cC.of h2);have z:=RcNeAt.tuples (A:=X.A) (e:=λ_=>true) (show s.heap.IsTuple p its.toArray from p1) (show s.heap.IsTuple q its2.toArray from p2) (by lia)
   (dU k1 k2 hi λx y u v=>jF I n X.A.in1 x y u v hu1)
  have e3:its.toArray.size=its2.toArray.size:=by rw[size_toArray,size_toArray,<-k1.length,<-k2.length];exact hl
  rw[all_true,e3,beq_self_eq_true,Bool.true_and] at z;exact z X.prog X.w X.xe _ ⟨.bl false,H,I,rfl,qq⟩
noncomputable def Ad:R2:=λx y H Q=>∃p q xs ys,x=.ref p/\y=.ref q/\H p=some (.lst xs)/\H q=some (.lst ys)/\xs.length≠ys.length/\Q (.bl true) H
theorem UW (hu:X.A.units+64<cLine):fP X (compareOp .NotEq) Ad:=by
 intro pins s σ H x y v u Q I rx ry h;obtain ⟨p,q,xs,ys,rfl,rfl,h1,h2,hl,qq⟩:=h;cases rx;cases ry;obtain ⟨_,its,n1,k1,l1,g1⟩:=I.lstM h1;obtain ⟨_,its2,n2,k2,l2,g2⟩:=I.lstM h2;have hne:(its.toArray.size != its2.toArray.size)=true:=by
  rw[size_toArray,size_toArray,<-l1,<-l2];exact bne_iff_ne.mpr hl
 exact RcNeAt.lists_lengths (A:=X.A) (⟨_,g1,rfl,n1,rfl⟩:s.heap.IsList p its.toArray) (⟨_,g2,rfl,n2,rfl⟩:s.heap.IsList q its2.toArray) hne (by lia) X.prog X.w X.xe _ ⟨.bl true,H,I,rfl,qq⟩
noncomputable def HM (K:Fg):R2:=λx y H Q=>∃a b ys,x=.ref a/\y=.ref b/\cC K H a []/\cC K H b ys/\Q (.ref b) H
theorem ID:fP X (binaryOp .Add) (HM X.K):=by
 intro pins s σ H x y v u Q I rx ry h;obtain ⟨a,b,ys,rfl,rfl,ha,hb,q⟩:=h;cases rx;cases ry;obtain ⟨its,r1,p1,_⟩:=I.tuple ha;obtain ⟨its2,r2,p2,_⟩:=I.tuple hb;have e:its=[]:=r1.nil_iff.mpr rfl;subst e;obtain ⟨⟨cls,dd,data,sl⟩,ho,hc,n,hd⟩:=id p1;obtain ⟨⟨cls2,dd2,data2,sl2⟩,ho2,hc2,n2,hd2⟩:=id p2;simp only at hc hd hc2 hd2;subst hc hd hc2 hd2;exact concat_meets ⟨_,ho,rfl⟩ ⟨_,ho2,rfl⟩ noFill_tuple_add seq_tuple_add PySem.F.slot_tuple_add PySem.F.entry_tuple_add (PySem.F.args_tuple_add_2 _ _)
  (tuple_addW0 a b [].toArray its2.toArray n n2 dd dd2 sl sl2 rfl) ⟨ho,ho2,⟨.ref b,H,I,rfl,q⟩⟩
noncomputable def SI (z:Str) (k:Int):Prop:=0<=k/\k<2 ^ 31/\z.length * k.toNat<=sizeLine
theorem NX:fP X (binaryOp .Mult) (λx y H Q=>∃i k,x=.str i/\y=.int k/\SI i k/\Q (.str (Txt.mul i k)) H):=by
 intro pins s σ H x y v u Q I rx ry h;obtain ⟨i,k,rfl,rfl,⟨h1,h2,h3⟩,q⟩:=h;obtain ⟨t,rfl⟩:=rx;obtain ⟨t',rfl⟩:=ry;have e1:(decide (k< -(2 ^ 63:Int)) || decide (k>=2 ^ 63))=false:=by
  rw[decide_eq_false (by lia),decide_eq_false (by lia)];rfl
 have hs:(sizeLine:Nat)<=2 ^ 40:=by rw[sizeLine_eq];decide
 refine SB.mul ⟨e1,λg1 _ c=>?_,λg1 _=>?_⟩ (λt' tk=>⟨.str (Txt.mul i k),H,I.tok _,⟨_,rfl⟩,q⟩)
 ·have c1:(2 ^ 63 - 1) / k<(i.length:Int):=c;have c2:¬(i.length:Int)<=(2 ^ 63 - 1) / k:=by lia
  refine c2 ((Int.le_ediv_iff_mul_le (by lia)).mpr ?_);have e:((i.length * k.toNat:Nat):Int)=(i.length:Int) * k:=by rw[Int.natCast_mul,Int.toNat_of_nonneg (by lia)]
  lia
 ·show decide _=false;exact decide_eq_false (by lia)
noncomputable def Ey (i j:Int):Prop:=0<=j/\(Builtin.Int.intBits i:Int) * j<=2 ^ 27
theorem QR.pw (h:QR i j):Ey i j:=by
 obtain ⟨h0,h1,h2⟩:=h;refine ⟨h0,?_⟩;have hb:Builtin.Int.intBits i<=64:=PyProof.Rows.intBits_le h2;have:(Builtin.Int.intBits i:Int) * j<=64 * j:=Int.mul_le_mul_of_nonneg_right (by lia) h0;lia
noncomputable def Hk (_ j:Int):Prop:=0<j/\j<2 ^ 64
theorem IC:fP X (binaryOp .FloorDiv) (rI Hk λi j=>.int (i / j)):=Eo λi j _ _ _ _ _ hc q=>by
 have h1:(0:Int)<j:=hc.1;have h2:j<2 ^ 64:=hc.2;refine floordiv_int (by lia) (by rw[Int.fdiv_eq_ediv_of_nonneg i (by lia)];exact q) (.inl (PyProof.noPylong_of_log2 ?_));have h3:j.natAbs.log2<64:=(Nat.log2_lt (by lia)).mpr (by lia);lia
theorem NY:fP X (binaryOp .Mult) (rI IntMulOk λi j=>.int (i * j)):=Eo λ_ _ _ _ _ _ _ hc q=>mul_int q hc
theorem NU:fP X (binaryOp .Pow) (rI Ey λi j=>.int (i ^ j.toNat)):=Eo λ_ _ _ _ _ _ _ hc q=>pow_int hc.1 hc.2 q
end
end L2.L3
namespace L2.Na
open PySem PySem.Spec PyProof.Rows L2 L2.L3
theorem pH (o:Obj) (f:Array Value->Array Value):(o.mapFields f).dict=o.dict:=by
 unfold Obj.mapFields;split<;>rfl
noncomputable def Ia (h B:Heap) (e:Addr) (c:Value) (dx:Option Addr) (fl:Value):Prop:=
 ∃oe vs T oT ts,h.get? e=some oe/\oe.cls=c/\oe.dict=dx/\oe.data=.fields vs/\vs[1]?=some (.ref T)/\B.get? T=none/\T≠e/\h.get? T=some oT/\oT.data=.fields ts/\ts[3]?=some fl
structure Hg (B:Heap) (l:List Env) (e:Addr) (c:Value) (dx:Option Addr) (fl:Value) (h h':Heap):Prop where
 stay:B.StaysIn h'
 frames:h'.FunFrames B l
 tr:Ia h' B e c dx fl
 slots:h.UpToSlots h'
structure lD (B:Heap) (l:List Env) (e:Addr) (c:Value) (dx:Option Addr) (fl:Value) (h:Heap):Prop where
 stay:B.StaysIn h
 new:B.get? e=none
 frames:h.FunFrames B l
 tr:Ia h B e c dx fl
section
variable {M:Model} {A:Around} {E:Value->Shared->Prop} {s:Shared} {B:Heap} {env:Env} {outer:List Env} {L e:Addr} {Q:Unit->Shared->Prop}
theorem AD (fr:A.frames=some (env::outer)) (ff:s.heap.FunFrames B (env::outer)) (ef:env.frame=some L) (ef2:env2.frame=some L)
  (h:∀h',Heap.SlotsOnly ((env::outer).filterMap (·.frame)) s.heap h'->R (.ref L) {s with heap:=h'}):wpAny M A (PySem.frameOf env2) R E s:=by
 unfold PySem.frameOf;refine wpAny_bind (wpAny_frameEnvs fr ?_);have hdw:((env::outer).dropWhile λx=>x.frame != env2.frame)=env::outer:=by simp [List.dropWhile,ef,ef2]
 rw[hdw];unfold frameObject;refine wpAny_bind (wpAny_bind (wpAny_readyFrames_fun ff λh₁ hs₁=>wpAny_pure ?_));rw[ef];exact wpAny_pure (h h₁ hs₁)
theorem rT (fr:A.frames=some (env::outer)) (ff:s.heap.FunFrames B (env::outer)) (ef:env.frame=some L) (ef2:env2.frame=some L) (eo:s.heap.get? e=some oe) (st:B.StaysIn s.heap)
  (en:B.get? e=none) (dt:oe.data=.fields vs) (sz:1<vs.size) (k:∀g,Hg B (env::outer) e oe.cls oe.dict (rawInt L) s.heap g->Q () {s with heap:=g}):
  wpAny M A (do let a <-frameOf env2;let pl <-entryPlaceOf L nx;let b <-EntryCells.newEntry hd0 a .none (rawInt L) .none pl;setField (.ref e) 1 b) Q E s:=by
 have nf:e∉(env::outer).filterMap (·.frame):=λm=>by
  obtain ⟨_,o,ho,n⟩:=ff.mem m;rw[eo] at ho;cases ho;exact n vs dt
 refine wpAny_bind (AD fr ff ef ef2 λg1 s1=>wpAny_bind (wpAny_entryPlaceOf λpl ip=>?_));unfold EntryCells.newEntry newFields;refine wpAny_bind (wpAny_newObj_type ?_ (ip.sizeOk5 _ _ _ _ _));have e1:g1.get? e=some oe:=by rw[s1.2.1 e nf];exact eo
 have b1:B.StaysIn g1:=λb o q=>by
  rw[s1.2.1 b λm=>by rw[(ff.mem m).1] at q;cases q];exact st b o q
 generalize ho:({cls:=.type "traceback",dict:=none,data:=.fields ([hd0,.ref L,.none,rawInt L,.none]++(if pl.isEmpty then replicate 6 Value.none else pl)).toArray}:Obj)=ot;have od:ot.data=.fields ([hd0,.ref L,.none,rawInt L,.none]++(if pl.isEmpty then replicate 6 Value.none else pl)).toArray:=by rw[<-ho]
 have of3:([hd0,.ref L,.none,rawInt L,.none]++(if pl.isEmpty then replicate 6 Value.none else pl)).toArray[3]?=some (rawInt L):=by simp
 have onf:ot.isFreed=false:=Obj.isFreed_of_fields od;have e2:(g1.push ot).get? e=some oe:=get?_push_of_some _ e1;have ne:g1.objs.size≠e:=ne_of_gt (lt_size e1);refine wpAny_setField e2 dt sz (k _ ?_);have d3:(oe.mapFields (·.setIfInBounds 1 (Value.ref g1.objs.size))).data=.fields (vs.setIfInBounds 1 (Value.ref g1.objs.size)):=Obj.data_mapFields dt _;have e3:((g1.push ot).update e (Obj.mapFields (·.setIfInBounds 1 (Value.ref g1.objs.size)))).get? e=some (oe.mapFields (·.setIfInBounds 1 (Value.ref g1.objs.size))):=get?_update_self _ e2 (Obj.isFreed_of_fields d3);have kp:∀b o,b≠e->g1.get? b=some o->((g1.push ot).update e (Obj.mapFields (·.setIfInBounds 1 (Value.ref g1.objs.size)))).get? b=some o:=λb o hb q=>by
  rw[get?_update_other _ _ hb.symm];exact get?_push_of_some _ q
 have nr:∀b o,s.heap.get? b=some o->(∀ws,o.data≠.fields ws)->b≠e:=λb o q n z=>by
  subst z;rw[eo] at q;cases q;exact n vs dt
 refine ⟨λb o q=>kp b o (λz=>by rw[z,en] at q;cases q) (b1 b o q),ff.of_keeps λb o q n=>?_,⟨_,_,g1.objs.size,ot,_,e3,Obj.cls_mapFields _ _,pH _ _,d3,by simp [sz],b1.fresh,ne,?_,od,of3⟩,λb o q n=>?_⟩
 ·obtain ⟨sl,z⟩:=s1.2.2 b o q;exact ⟨_,kp b _ (nr b o q n) z,rfl⟩
 ·rw[get?_update_other _ _ ne.symm];exact get?_push_size g1 onf
 ·obtain ⟨sl,z⟩:=s1.2.2 b o q;exact ⟨sl,kp b _ (nr b o q n) z⟩
theorem IJ (fr:A.frames=some (env::outer)) (ff:s.heap.FunFrames B (env::outer)) (ef:env.frame=some L) (ef2:env2.frame=some L) (eo:s.heap.get? e=some oe) (st:B.StaysIn s.heap)
  (en:B.get? e=none) (dt:oe.data=.fields vs) (v1:vs[1]?=some .none) (k:∀g,lD B (env::outer) e oe.cls oe.dict (rawInt L) g->s.heap.UpToSlots g->Q () {s with heap:=g}):wpAny M A (noteFrame (.ref e) env2) Q E s:=by
 unfold noteFrame;simp only [ef2];refine wpAny_bind (wpAny_field eo dt v1 ?_);rw[if_neg (show ¬((Value.none != Value.none)=true) by decide)];exact rT fr ff ef ef2 eo st en dt (Array.getElem?_eq_some_iff.mp v1).1 λg w=>k g ⟨w.stay,en,w.frames,w.tr⟩ w.slots
theorem IK (fr:A.frames=some (env::outer)) (ef:env.frame=some L) (ef2:env2.frame=some L) (F:lD B (env::outer) e c dx fl s.heap)
  (k:∀g fl',lD B (env::outer) e c dx fl' g->s.heap.UpToSlots g->Q () {s with heap:=g}):wpAny M A (noteFrame (.ref e) env2) Q E s:=by
 have F0:=F;obtain ⟨st,en,ff,oe,vs,T,oT,ts,eo,rfl,rfl,dt,v1,nT,ne,eT,dT,t3⟩:=F;unfold noteFrame;simp only [ef2];refine wpAny_bind (wpAny_field eo dt v1 ?_);rw[if_pos (show (Value.ref T != Value.none)=true by simp)];refine wpAny_bind (wpAny_field eT dT t3 ?_);by_cases hfl:(fl==rawInt L)=true
 ·rw[if_pos hfl];exact wpAny_pure (k s.heap fl F0 (Heap.UpToSlots.refl _))
 rw[if_neg hfl];refine wpAny_bind (wpAny_setField eT dT (Array.getElem?_eq_some_iff.mp t3).1 ?_);have ot:∀b,b≠T->(s.heap.update T (Obj.mapFields (·.setIfInBounds 3 Value.none))).get? b=s.heap.get? b:=λb hb=>get?_update_other _ _ hb.symm;have nr:∀b o,s.heap.get? b=some o->(∀ws,o.data≠.fields ws)->b≠T:=λb o q n z=>by
  subst z;rw[eT] at q;cases q;exact n ts dT
 refine rT (s:={s with heap:=s.heap.update T (Obj.mapFields (·.setIfInBounds 3 Value.none))}) fr (ff.of_keeps λb o q n=>⟨o,by rw[ot b (nr b o q n)];exact q,rfl⟩) ef ef2 (by show (s.heap.update T _).get? e=_;rw[ot e ne.symm];exact eo)
  (λb o q=>by show (s.heap.update T _).get? b=_;rw[ot b λz=>by rw[z,nT] at q;cases q];exact st b o q) en dt (Array.getElem?_eq_some_iff.mp v1).1 λg w=>k g _ ⟨w.stay,en,w.frames,w.tr⟩ λb o q n=>w.slots b o (by rw[ot b (nr b o q n)];exact q) n
theorem IY (fo:Option Addr) (F:lD B l e c dx fl s.heap) (k:∀g,lD B l e c dx (fo.elim Value.none λf=>rawInt f) g->s.heap.UpToSlots g->Q () {s with heap:=g}):wpAny M A (setFlight (.ref e) fo) Q E s:=by
 obtain ⟨st,en,ff,oe,vs,T,oT,ts,eo,hc,hx,dt,v1,nT,ne,eT,dT,t3⟩:=F;have ot:∀b,b≠T->(s.heap.update T (Obj.mapFields (·.setIfInBounds 3 (fo.elim Value.none λf=>rawInt f)))).get? b=s.heap.get? b:=λb hb=>get?_update_other _ _ hb.symm;have nr:∀b o,s.heap.get? b=some o->(∀ws,o.data≠.fields ws)->b≠T:=λb o q n z=>by
  subst z;rw[eT] at q;cases q;exact n ts dT
 have s3:=(Array.getElem?_eq_some_iff.mp t3).1;unfold setFlight;refine wpAny_bind (wpAny_field eo dt v1 ?_);rw[if_pos (show (Value.ref T != Value.none)=true by simp)];refine wpAny_setField eT dT s3 (k _ ⟨λb o q=>?_,en,ff.of_keeps λb o q n=>⟨o,by rw[ot b (nr b o q n)];exact q,rfl⟩,oe,vs,T,_,_,by rw[ot e ne.symm];exact eo,hc,hx,dt,v1,nT,ne,get?_update_self _ eT (Obj.isFreed_of_fields (Obj.data_mapFields dT _)),Obj.data_mapFields dT _,by simp [s3]⟩
  λb o q n=>⟨o.slots,by rw[ot b (nr b o q n)];exact q⟩)
 rw[ot b λz=>by rw[z,nT] at q;cases q];exact st b o q
theorem wQ (F:lD B l e c dx fl s.heap) (k:∀g,lD B l e c dx .none g->s.heap.UpToSlots g->Q () {s with heap:=g}):wpAny M A (setFlight (.ref e) none) Q E s:=IY none F k
theorem lD.tail (F:lD B (env::outer) e c dx fl h):lD B outer e c dx fl h:=⟨F.stay,F.new,F.frames.2.2,F.tr⟩
theorem leave_new (fr:A.frames=some (env::outer)) (ff:s.heap.FunFrames B (env::outer)) (ef:env.frame=some L) (eo:s.heap.get? e=some oe) (st:B.StaysIn s.heap)
  (en:B.get? e=none) (dt:oe.data=.fields vs) (v1:vs[1]?=some .none) (k:∀g,lD B outer e oe.cls oe.dict .none g->s.heap.UpToSlots g->Q () {s with heap:=g}):wpAny M A (leaving env (.ref e)) Q E s:=by
 unfold leaving;exact wpAny_bind (IJ fr ff ef ef eo st en dt v1 λg F u=>wQ F λg2 F2 u2=>k g2 F2.tail (u.trans u2))
theorem ED (fr:A.frames=some (env::outer)) (ef:env.frame=some L) (F:lD B (env::outer) e c dx fl s.heap)
  (k:∀g,lD B outer e c dx .none g->s.heap.UpToSlots g->Q () {s with heap:=g}):wpAny M A (leaving env (.ref e)) Q E s:=by
 unfold leaving;exact wpAny_bind (IK fr ef ef F λg _ F1 u=>wQ F1 λg2 F2 u2=>k g2 F2.tail (u.trans u2))
end
noncomputable def xY (P:Program) (w:World):MI:=λouter H s E ev s'=>∃(e:Addr) (c:Value) (dx:Option Addr) (H':Hp) (B:Heap),ev=.ref e/\s'.os=s.os/\AllBare s'.gens/\Un (fB outer) [] H H' s.heap s'.heap/\eJ P w H' s'.heap/\
 (∃fl,lD B outer e c dx fl s'.heap)/\(∀b o,s.heap.get? b=some o->b∉fB outer->∃u,B.get? b=some u)/\(∀b o,H' b=some o->∃u,B.get? b=some u)/\E c dx H'
theorem xY.no (h:xY P w outer H s E0 ev s'):False:=by
 obtain ⟨_,_,_,_,_,_,_,_,_,_,_,_,_,z⟩:=h;exact z
theorem nJ (x:aZ P w H h a o):∃u,h.get? a=some u:=by
 induction o with
 |lst xs=>obtain ⟨_,_,_,_,e⟩:=x;exact ⟨_,e⟩
 |tup xs=>obtain ⟨_,_,_,u,e,_⟩:=x;exact ⟨_,e⟩
 |dK kvs=>obtain ⟨_,_,_,_,o,_,_,e,_⟩:=x;exact ⟨_,e⟩
 |dT kvs=>obtain ⟨_,_,_,_,o,_,_,e,_⟩:=x;exact ⟨_,e⟩
 |set S n=>obtain ⟨o,_,_,_,e,_⟩:=x;exact ⟨_,e⟩
 |ins C dx fs=>obtain ⟨_,_,_,e,_⟩:=x;exact ⟨_,e⟩
 |own y=>exact x
 |xd fs=>obtain ⟨_,⟨_,_,_,e,_⟩,_⟩:=x;exact ⟨_,e⟩
 |rng lo hi=>obtain ⟨_,_,_,e⟩:=x;exact ⟨_,e⟩
 |frz ob u _=>exact ⟨_,x.1⟩
 |tbl ps=>exact ⟨_,x⟩
 |met f y=>exact ⟨_,x⟩
 |ext φ=>exact x.2.1
section
variable {P:Program} {w:World} {K:Fg} {mg:Str->Option Value} {base:Heap} {N:List Str} {qual:Str} {scope:Scope} {f:Addr} {cd:Value} {A:Around} {outer:List Env} {s:Shared} {H:Hp} {E:XK}
theorem KD {H':Hp} {h g B:Heap} (x:eJ P w H' h) (c2:∀b o,H' b=some o->∃u,B.get? b=some u) (s1:B.StaysIn h) (s2:B.StaysIn g):eJ P w H' g:=λb o q=>
 (x b o q).stay (λb' u' hb' q'=>by
  obtain ⟨u,hu⟩:∃u,B.get? b'=some u:=by
   rcases hb' with rfl|hb'
   ·exact c2 _ _ q
   ·exact c2 _ _ hb'
  have z:=s1 _ _ hu
  rw[q'] at z
  cases z
  exact s2 _ _ hu) (λ_ z=>z) λ_ _ z=>z
theorem HY:Passes (xY P w) (qN (xY P w) P w K mg base N qual scope f cd A outer s H E) E:=by
 intro pins σ H1 s1 ev s' I hc;obtain ⟨e,c,dx,H',B,rfl,os,bare,un,hok,⟨fl,F⟩,c1,c2,hE⟩:=hc;have un':Un (fB (envOfC qual scope s.heap.objs.size f cd::outer)) [] H1 H' s1.heap s'.heap:=un;have I0:Un (fB outer) [] H H1 s.heap s1.heap:=I.base;have nl:∀b o,s.heap.get? b=some o->b∉fB outer->b∉fB (envOfC qual scope s.heap.objs.size f cd::outer):=λb o q hb z=>by
  have z':b=s.heap.objs.size\/b∈fB outer:=by simpa [fB,envOfC] using z
  rcases z' with z'|z'
  ·exact absurd (lt_size q) (by rw[z'];exact Nat.lt_irrefl _)
  ·exact hb z'
 have fs:∀b,b∈fB outer->b∈fB (envOfC qual scope s.heap.objs.size f cd::outer):=λb z=>by
  have:b=s.heap.objs.size\/b∈fB outer:=.inr z;simpa [fB,envOfC] using this
 show wpAny _ _ (leaving _ (.ref e)) _ _ s';refine ED (L:=s.heap.objs.size) I.ok.frames rfl F λg F2 u=>?_;have bg:∀b o,s'.heap.get? b=some o->(∃u,B.get? b=some u)->g.get? b=some o:=λb o q ⟨v,hv⟩=>by
  have z:=F.stay _ _ hv;rw[q] at z;cases z;exact F2.stay _ _ hv
 have c1':∀b o,s.heap.get? b=some o->b∉fB outer->∃u,B.get? b=some u:=λb o q hb=>by
  obtain ⟨o1,q1⟩:=I0.there b o q (by simp);exact c1 b o1 q1 (nl b o q hb)
 have slot:∀b o,s.heap.get? b=some o->H b=none->b∈fB outer->∃sl,g.get? b=some {o with slots:=sl}:=λb o q n hb=>by
  obtain ⟨sl,q1⟩:=I0.slot b o q n hb (by simp);obtain ⟨sl2,q2⟩:=un'.slot b _ q1 (I0.free b o q n (by simp)) (fs b hb) (by simp);have nf:∀ws,o.data≠.fields ws:=by
   obtain ⟨_,o',q',n'⟩:=(show s.heap.FunFrames base outer from I.ok.funs).mem hb;rw[q] at q';cases q';exact n'
  obtain ⟨sl3,q3⟩:=u b _ q2 nf;exact ⟨sl3,q3⟩
 refine ⟨e,c,dx,H',B,rfl,os.trans I.os,bare,⟨λb o q n hb _=>?_,λb o q n hb _=>slot b o q n hb,λb o q n _=>?_,λb o q _=>?_,λb xs q=>un.tups b xs (I0.tups b xs q),λb o xs q=>un.frzs b o xs (I0.frzs b o xs q),λb ps q=>?_⟩,KD hok c2 F.stay F2.stay,⟨_,F2⟩,c1',c2,hE⟩
 ·exact bg b o (un'.keep b o (I0.keep b o q n hb (by simp)) (I0.free b o q n (by simp)) (nl b o q hb) (by simp)) (c1' b o q hb)
 ·obtain ⟨o1,q1⟩:=I0.there b o q (by simp);exact un'.free b o1 q1 (I0.free b o q n (by simp)) (by simp)
 ·by_cases hb:b∈fB outer
  ·obtain ⟨sl,z⟩:=slot b o q (I.ok.frf b hb) hb;exact ⟨_,z⟩
  ·obtain ⟨v,hv⟩:=c1' b o q hb;exact ⟨v,F2.stay _ _ hv⟩
 ·obtain ⟨m1,e1⟩:=I0.tbls b ps q;obtain ⟨m2,e2⟩:=un.tbls b _ e1;exact ⟨m1++m2,by rw[e2,Array.append_assoc]⟩
theorem IZ (I:Inv (qN (xY P w) P w K mg base N qual scope f cd A outer s H E) pins σ H1 s1)
  (eo:s1.heap.get? e=some oe) (dt:oe.data=.fields vs) (v1:vs[1]?=some .none) (en:H1 e=none) (e0:∀b o,s.heap.get? b=some o->b≠e) (hE:E oe.cls oe.dict H1):
  (qN (xY P w) P w K mg base N qual scope f cd A outer s H E).xe (.ref e) s1:=by
 have I0:Un (fB outer) [] H H1 s.heap s1.heap:=I.base;have ff:s1.heap.FunFrames base (envOfC qual scope s.heap.objs.size f cd::outer):=I.stack;have nl:∀b o,s.heap.get? b=some o->b∉fB outer->b∉fB (envOfC qual scope s.heap.objs.size f cd::outer):=λb o q hb z=>by
  have z':b=s.heap.objs.size\/b∈fB outer:=by simpa [fB,envOfC] using z
  rcases z' with z'|z'
  ·exact absurd (lt_size q) (by rw[z'];exact Nat.lt_irrefl _)
  ·exact hb z'
 have ne:e∉fB (envOfC qual scope s.heap.objs.size f cd::outer):=λz=>by
  obtain ⟨_,o,q,n⟩:=ff.mem z;rw[eo] at q;cases q;exact n vs dt
 have hid:∀{b o},(PySem.W.hideAll s1.heap (e::fB (envOfC qual scope s.heap.objs.size f cd::outer))).get? b=some o->s1.heap.get? b=some o:=λq=>PySem.W.of_hideAll _ q;have has:∀{b o},s1.heap.get? b=some o->b≠e->b∉fB (envOfC qual scope s.heap.objs.size f cd::outer)->(PySem.W.hideAll s1.heap (e::fB (envOfC qual scope s.heap.objs.size f cd::outer))).get? b=some o:=
  λq h1 h2=>PySem.W.hideAll_get _ q (by simp only [mem_cons,not_or];exact ⟨h1,h2⟩)
 have ff2:s1.heap.FunFrames (PySem.W.hideAll s1.heap (e::fB (envOfC qual scope s.heap.objs.size f cd::outer))) (envOfC qual scope s.heap.objs.size f cd::outer):=
  PySem.W.funFrames_hide ff λenv' he' a ha=>mem_cons_of_mem _ (mem_filterMap.mpr ⟨env',he',ha⟩)
 show wpAny _ _ (leaving _ (.ref e)) _ _ s1;refine leave_new (L:=s.heap.objs.size) I.ok.frames ff2 rfl eo (λb o q=>hid q) (PySem.W.hideAll_none _ (by simp)) dt v1 λg F2 u=>?_;have c1':∀b o,s.heap.get? b=some o->b∉fB outer->∃u,(PySem.W.hideAll s1.heap (e::fB (envOfC qual scope s.heap.objs.size f cd::outer))).get? b=some u:=λb o q hb=>by
  obtain ⟨o1,q1⟩:=I0.there b o q (by simp);exact ⟨o1,has q1 (e0 b o q) (nl b o q hb)⟩
 have c2:∀b o,H1 b=some o->∃u,(PySem.W.hideAll s1.heap (e::fB (envOfC qual scope s.heap.objs.size f cd::outer))).get? b=some u:=λb o q=>by
  obtain ⟨o1,q1⟩:∃o1,s1.heap.get? b=some o1:=nJ (I.hok b o q);refine ⟨o1,has q1 (λz=>by rw[z,en] at q;cases q) λz=>?_⟩;have:=I.stkFree b z;rw[q] at this;cases this
 have slot:∀b o,s.heap.get? b=some o->H b=none->b∈fB outer->∃sl,g.get? b=some {o with slots:=sl}:=λb o q n hb=>by
  obtain ⟨sl,q1⟩:=I0.slot b o q n hb (by simp);have nf:∀ws,o.data≠.fields ws:=by
   obtain ⟨_,o',q',n'⟩:=(show s.heap.FunFrames base outer from I.ok.funs).mem hb;rw[q] at q';cases q';exact n'
  obtain ⟨sl3,q3⟩:=u b _ q1 nf;exact ⟨sl3,q3⟩
 refine ⟨e,oe.cls,oe.dict,H1,_,rfl,I.os,I.bare,⟨λb o q n hb _=>?_,λb o q n hb _=>slot b o q n hb,λb o q n _=>I0.free b o q n (by simp),λb o q _=>?_,I0.tups,I0.frzs,I0.tbls⟩,KD I.hok c2 (λb o q=>hid q) F2.stay,⟨_,F2⟩,c1',c2,hE⟩
 ·exact F2.stay _ _ (has (I0.keep b o q n hb (by simp)) (e0 b o q) (nl b o q hb))
 ·by_cases hb:b∈fB outer
  ·obtain ⟨sl,z⟩:=slot b o q (I.ok.frf b hb) hb;exact ⟨_,z⟩
  ·obtain ⟨v,hv⟩:=c1' b o q hb;exact ⟨v,F2.stay _ _ hv⟩
end
theorem ff {P:Prop} (h:false=true):P:=nomatch h
noncomputable abbrev XS:=St->XK
noncomputable abbrev E0:XS:=λ_ _ _ _=>False
noncomputable def pM:List Str:=["len","range","sum","all","any","min","max","sorted","isinstance","list","tuple","int","str","bool","dict","zip","set","abs","enumerate","reversed","divmod","ValueError"]
structure Rt where
 P:Program
 w:World
 K:Fg
 mg:Str->Option Value
 base:Heap
 A:Around
noncomputable def dM (X:Cx):Rt:=⟨X.prog,X.w,X.K,X.mg,X.base,X.A⟩
noncomputable def FnAt (R:Rt) (x:Str) (sp:Sp):Prop:=∃(k:Nat) (f:Addr) (fd:FuncData) (ps:List Str),dF k R.A/\AN R.P R.w R.K R.mg R.base (xY R.P R.w) k f fd ps sp/\Binds R.K fd ps []/\PySem.W.keepIn R.K (.ref f)=true/\R.mg x=some (.ref f)
noncomputable def Ej (R:Rt) (x:Str) (v:V):Prop:=∃u,R.mg x=some u/\RelV v u
inductive Fb where
 |all
 |own (l:List Str)
 |hot
noncomputable def Fb.of:Bool->Fb
 |true=>.all
 |false=>.own []
noncomputable instance:Coe Bool Fb:=⟨Fb.of⟩
structure Sc where
 N:List Str
 nm:List (Str × NameKind)
 fo:Fb
noncomputable def Sc.fb (C:Sc):Bool:=match C.fo with
 | .all=>true
 | .own _=>false
 | .hot=>true
noncomputable def Sc.cm (C:Sc):Bool:=match C.fo with
 | .hot=>false
 |_=>true
noncomputable def Sc.ow (C:Sc):List Str:=match C.fo with
 | .all=>[]
 | .own l=>l
 | .hot=>[]
structure Gd (X:Cx) (C:Sc):Prop where
 N:X.N=C.N
 nm:X.env.scope.names=C.nm
 nd:C.N.Nodup
 calm:C.cm=true->X.calm=true
 bl:∀x∈pM,X.mg x=none
 hu:X.A.units+64<cLine
 fb:C.fb=true->∀x,X.fn x=true
 top:C.fb=true->X.stack=X.env::X.outer/\X.env.frame=some X.env.locals
 ow:∀x∈C.ow,X.fn x=true
structure sJ (X:Cx) (E:XS):Prop where
 pass:∀(pins:List (Addr × Obj)) (σ:St) (H:Hp) (s:Shared) (ev:Value) (s':Shared),Inv X pins σ H s->xY X.prog X.w X.stack H s (E σ) ev s'->X.xe ev s'
 made:∀(pins:List (Addr × Obj)) (σ:St) (H H':Hp) (s s':Shared) (e:Addr) (oe:Obj) (vs:Array Value),Inv X pins σ H s->s'.os=s.os->AllBare s'.gens->Un (fB X.stack) [] H H' s.heap s'.heap->eJ X.prog X.w H' s'.heap->s.heap.get? e=none->H' e=none->
  s'.heap.get? e=some oe->oe.data=.fields vs->vs[1]?=some .none->E σ oe.cls oe.dict H'->X.xe (.ref e) s'
 own:PassesOwn (model X.prog X.w) X.A X.env X.xe
inductive XY where
 |pl|cp|zc
 deriving DecidableEq
noncomputable def gG:Expr->Option XY
 | .Starred ..=>none
 | .Slice ..=>none
 | .Set ..=>none
 | .SetComp ..=>none
 | .DictComp ..=>none
 | .GeneratorExp ..=>none
 | .ListComp ..=>some .cp
 | .Call (.Name _ _) [] [] _=>some .zc
 |_=>some .pl
noncomputable def vB:Expr->Bool
 | .UnaryOp .Not _ _=>false
 | .BoolOp ..=>false
 | .IfExp ..=>false
 | .Compare ..=>false
 |_=>true
section
variable {e b o:Expr} {es:List Expr} {env:Env} {s:XY}
theorem bB (h:gG e=some s):starEach (e::es) env=(false,eval e env)::starEach es env:=by
 cases e<;>first|rfl|cases h
theorem nZ {tgt:Option Expr} {line:Nat} (h:gG e=some s) (hs:s≠.cp):swapsWith e tgt line env=pure false:=by
 cases e with
 |ListComp a b c d=>exact absurd (Option.some.inj h).symm hs
 |SetComp a b c d=>cases h
 |DictComp a b c d=>cases h
 |_=>rfl
theorem TH (h:gG b=some s):CM b:=by
 cases b with
 |Slice a b c d=>cases h
 |_=>exact λ_ _=>rfl
theorem jZ {op:CmpOp} (h:gG b=some s):behindInMarks op b=false:=by
 cases b with
 |Set a b c=>cases h
 |_=>rfl
theorem vQ (h:gG e=some s) (x:Value):foldedSetIterable e env x=pure x:=by
 cases e with
 |Set a b c=>cases h
 |_=>rfl
theorem GZ {attr:Str} {w:Sem Value} (h:gG o=some s) (hs:s≠.zc):attributeBase o attr env w=w:=by
 cases o with
 |Call f a k p=>
  cases f with
  |Name x q=>
   cases a with
   |nil=>
    cases k with
    |nil=>exact absurd (Option.some.inj h).symm hs
    |cons _ _=>rfl
   |cons _ _=>rfl
  |_=>rfl
 |_=>rfl
theorem SQ (h:vB e=true) (whole:Sem Value):isTrue e env whole=(do let v <-whole;standAt e.pos;holding [v] (truthy v)):=by
 cases e with
 |UnaryOp op x p=>
  cases op with
  |Not=>cases h
  |_=>rfl
 |BoolOp a b c=>cases h
 |IfExp a b c d=>cases h
 |Compare a b c d=>cases h
 |_=>rfl
end
noncomputable def br (b:Bool) (A B:Prop):Prop:=(b=true->A)/\(b=false->B)
theorem He {A B:Prop} (h:A):br true A B:=⟨λ_=>h,λz=>nomatch z⟩
theorem uJ {A B:Prop} (h:B):br false A B:=⟨λz=>(nomatch z),λ_=>h⟩
theorem gI {c A B:Prop} [Decidable c] (h1:c->A) (h2:¬c->B):br (decide c) A B:=⟨λz=>h1 (of_decide_eq_true z),λz=>h2 (of_decide_eq_false z)⟩
noncomputable def tH (K:Fg) (x:V) (H:Hp) (Q:Bool->Hp->Prop):Prop:=match x with
 | .bl b=>Q b H
 | .non=>Q false H
 | .int i=>Q (i != 0) H
 | .str y=>y.length<=sizeLine/\Q ((y.length:Int) != 0) H
 | .ref p=>∃k,XW K (.ref p) H k/\Q k H
 |_=>False
theorem NC {K:Fg} {x:V} {H:Hp} {Q:Bool->Hp->Prop} (h:tH K x H Q):∃k,XW K x H k/\Q k H:=by
 cases x with
 |bl b=>exact ⟨b,rfl,h⟩
 |non=>exact ⟨false,rfl,h⟩
 |int i=>exact ⟨_,rfl,h⟩
 |str y=>exact ⟨_,⟨h.1,rfl⟩,h.2⟩
 |ref p=>exact h
 |byt _=>exact h.elim
 |flt _=>exact h.elim
 |ty _=>exact h.elim
theorem mQ {X:Cx}:Ea X (tH X.K):=λpins s σ H x v Q I rx h=>SR pins s σ H x v Q I rx (NC h)
noncomputable def SS (K:Fg) (t:TE):TT:=λσ H Q=>t σ H λx H'=>tH K x H' Q
theorem UD {X:Cx} {a:Expr} {ta:TE} (ha:PE X a ta) (he:vB a=true):PT X a (SS X.K ta):=by
 intro pins s σ H Q I h;exact isTrue_plain (bS (ha pins s σ H _ I h) λv s1 ⟨x,H1,I1,r1,q1⟩=>mQ pins s1 σ H1 x v Q I1 r1 q1) (SQ he _)
theorem PE.imp {X:Cx} {e:Expr} {t t':TE} (h:PE X e t) (f:∀σ H Q,t' σ H Q->t σ H Q):PE X e t':=λpins s σ H Q I q=>h pins s σ H Q I (f σ H Q q)
structure EX (K:Fg) where
 t:XS->TE
 tt:XS->TT
 m:Sc->Expr->Bool
 q:Rt->Prop
 s:XY
 ok:∀(X:Cx) (C:Sc) (E:XS) (e:Expr),X.K=K->Gd X C->sJ X E->q (dM X)->m C e=true->PE X e (t E)
 okT:∀(X:Cx) (C:Sc) (E:XS) (e:Expr),X.K=K->Gd X C->sJ X E->q (dM X)->m C e=true->PT X e (tt E)
 sok:∀(C:Sc) (e:Expr),m C e=true->gG e=some s
noncomputable def RJ {K:Fg} (t:XS->TE) (m:Sc->Expr->Bool) (q:Rt->Prop) (s:XY)
  (ok:∀(X:Cx) (C:Sc) (E:XS) (e:Expr),X.K=K->Gd X C->sJ X E->q (dM X)->m C e=true->PE X e (t E))
  (sok:∀(C:Sc) (e:Expr),m C e=true->gG e=some s) (hT:∀(C:Sc) (e:Expr),m C e=true->vB e=true):EX K:=
 ⟨t,λE=>SS K (t E),m,q,s,ok,λX C E e hK G hE hq hm=>by subst hK;exact UD (ok X C E e rfl G hE hq hm) (hT C e hm),sok⟩
noncomputable def mM {K:Fg} (t:XS->TE) (m:Sc->Expr->Bool) (q:Rt->Prop) (s:XY)
  (ok:∀(X:Cx) (C:Sc) (E:XS) (e:Expr),X.K=K->Gd X C->sJ X E->q (dM X)->m C e=true->PE X e (t E))
  (both:∀(C:Sc) (e:Expr),m C e=true->gG e=some s/\vB e=true):EX K:=RJ t m q s ok (λC e h=>(both C e h).1) λC e h=>(both C e h).2
section
variable {K:Fg}
noncomputable def tV (i:Nat):TE:=λσ H Q=>match σ[i]? with
 |some (some v)=>Q v H
 |_=>False
noncomputable def YY:Option NameKind->Bool
 |some .local=>true
 |some .cell=>true
 |some .free=>true
 |_=>false
theorem MO {sc:Scope} {x:Str} (h:YY (sc.names.lookup x)=true):Er sc x:=by
 unfold Er;cases e:sc.names.lookup x with
 |none=>rw[e] at h;cases h
 |some k=>
  cases k with
  |«local»=>exact .inl rfl
  |cell=>exact .inr (.inl rfl)
  |free=>exact .inr (.inr rfl)
  |globalExplicit=>rw[e] at h;cases h
  |globalImplicit=>rw[e] at h;cases h
theorem lK {x y:Str} (h:(x != y)=true):(x==y)=false:=by
 cases e:x==y with
 |false=>rfl
 |true=>rw[bne,e] at h;cases h
noncomputable def var (i:Nat):EX K:=mM (λ_=>tV i)
 (λC e=>match e with
  | .Name x _=>C.N[i]?==some x&&(YY (C.nm.lookup x)&&(x != "__debug__"&&x != "__classdict__"))
  |_=>false) (λ_=>True) .pl
 (λX C E e hK G hE hq hm=>by
  cases e with
  |Name x p=>
   simp only [and_eq_true] at hm
   obtain ⟨h1,h2,h3,h4⟩:=hm
   refine PE.imp (UL (i:=i) (by rw[G.N];exact eq_of_beq h1) (MO (by rw[G.nm];exact h2)) (lK h3) (lK h4)) λσ H Q h=>?_
   unfold tV at h
   split at h
   ·exact ⟨_,by assumption,h⟩
   ·exact h.elim
  |_=>exact ff hm)
 (λC e hm=>by cases e with|Name x p=>exact ⟨rfl,rfl⟩|_=>exact ff hm)
noncomputable def cst (v:V):EX K:=mM (λ_=>tC v)
 (λ_ e=>match e with
  | .Constant c _ _=>decide (LA c=some v)
  |_=>false) (λ_=>True) .pl
 (λX C E e hK G hE hq hm=>by
  cases e with
  |Constant c k p=>exact DL (of_decide_eq_true hm)
  |_=>exact ff hm)
 (λC e hm=>by cases e with|Constant c k p=>exact ⟨rfl,rfl⟩|_=>exact ff hm)
noncomputable def qL (C:Sc) (x y:Str):Bool:=y==x&&(C.nm.lookup x==some .globalImplicit&&x != "__debug__")
theorem cJ {C:Sc} {x y:Str} (h:qL C x y=true):y=x:=by
 unfold qL at h;simp only [and_eq_true] at h;exact eq_of_beq h.1
theorem cI {X:Cx} {C:Sc} {x y:Str} (G:Gd X C) (h:qL C x y=true):Gl X x/\(x==("__debug__":Str))=false:=by
 unfold qL at h;simp only [and_eq_true] at h;obtain ⟨_,h2,h3⟩:=h;exact ⟨by show X.env.scope.names.lookup x=_;rw[G.nm];exact eq_of_beq h2,lK h3⟩
noncomputable def YM (x:Str) (v:V):EX K:=mM (λ_=>tC v)
 (λC e=>match e with
  | .Name y _=>qL C x y
  |_=>false) (λR=>Ej R x v) .pl
 (λX C E e hK G hE hq hm=>by
  cases e with
  |Name y p=>
   obtain ⟨u,h1,h2⟩:=hq
   have e:=cJ hm
   subst e
   obtain ⟨g,d⟩:=cI G hm
   exact NP g h1 h2 d
  |_=>exact ff hm)
 (λC e hm=>by cases e with|Name x p=>exact ⟨rfl,rfl⟩|_=>exact ff hm)
noncomputable def Dv (x:Str) (T:String) (hb:bootBuiltins x=some (.type T)) (hi:x∈pM) (hn:x≠"__name__"):EX K:=mM (λ_=>tC (.ty T))
 (λC e=>match e with
  | .Name y _=>qL C x y
  |_=>false) (λ_=>True) .pl
 (λX C E e hK G hE hq hm=>by
  cases e with
  |Name y p=>
   have e:=cJ hm
   subst e
   obtain ⟨g,d⟩:=cI G hm
   exact NS g (G.bl _ hi) hb rfl hn d
  |_=>exact ff hm)
 (λC e hm=>by cases e with|Name x p=>exact ⟨rfl,rfl⟩|_=>exact ff hm)
noncomputable def PQ (f:Int->Int->Hp->(V->Hp->Prop)->Prop):R2:=λx y H Q=>match x with
 | .int i=>(match y with
  | .int j=>f i j H Q
  |_=>False)
 |_=>False
theorem hV {f:Int->Int->Hp->(V->Hp->Prop)->Prop} {x y:V} {H:Hp} {Q:V->Hp->Prop} (h:PQ f x y H Q):∃i j,x=.int i/\y=.int j/\f i j H Q:=by
 cases x with
 |int i=>cases y with
  |int j=>exact ⟨i,j,rfl,rfl,h⟩
  |_=>exact False.elim h
 |_=>exact False.elim h
noncomputable def Fv (K:Fg):R2:=λx y H Q=>match x with
 | .int i=>(match y with
  | .int j=>Q (.int (i+j)) H
  | .bl k=>Q (.int (i+b2i k)) H
  |_=>False)
 | .str a=>(match y with
  | .str b=>a.length+b.length<=sizeLine/\Q (.str (a++b)) H
  |_=>False)
 | .ref a=>(match y with
  | .ref b=>Al (.ref a) (.ref b) H Q\/RH K (.ref a) (.ref b) H Q\/HM K (.ref a) (.ref b) H Q
  |_=>False)
 |_=>False
noncomputable def Fq:R2:=λx y H Q=>match y with
 | .int j=>(match x with
  | .int i=>IntMulOk i j/\Q (.int (i * j)) H
  | .ref a=>Ac (.ref a) (.int j) H Q
  | .str a=>SI a j/\Q (.str (Txt.mul a j)) H
  |_=>False)
 |_=>False
noncomputable def mK (K:Fg):Operator->R2
 | .Add=>Fv K
 | .Sub=>PQ λi j H Q=>Q (.int (i - j)) H
 | .Mult=>Fq
 | .FloorDiv=>PQ λi j H Q=>Hk i j/\Q (.int (i / j)) H
 | .Mod=>PQ λi j H Q=>0<j/\Q (.int (i % j)) H
 | .Pow=>PQ λi j H Q=>Ey i j/\Q (.int (i ^ j.toNat)) H
 |_=>λ_ _ _ _=>False
theorem XQ {X:Cx} (op:Operator):fP X (binaryOp op) (mK X.K op):=by
 intro pins s σ H x y v u Q I rx ry h;cases op with
 |Add=>
  cases x with
  |int i=>cases y with
   |int j=>exact VF pins s σ H _ _ v u Q I rx ry ⟨_,_,rfl,rfl,h⟩
   |bl k=>exact DQ pins s σ H _ _ v u Q I rx ry ⟨_,_,rfl,rfl,h⟩
   |_=>exact False.elim h
  |str a=>cases y with
   |str b=>exact zI pins s σ H _ _ v u Q I rx ry ⟨_,_,rfl,rfl,h.1,h.2⟩
   |_=>exact False.elim h
  |ref a=>cases y with
   |ref b=>
    rcases h with h|h|h
    ·exact VE pins s σ H _ _ v u Q I rx ry h
    ·exact NZ pins s σ H _ _ v u Q I rx ry h
    ·exact ID pins s σ H _ _ v u Q I rx ry h
   |_=>exact False.elim h
  |_=>exact False.elim h
 |Sub=>exact UT pins s σ H _ _ v u Q I rx ry (hV (f:=λi j H Q=>Q (.int (i - j)) H) h)
 |Mult=>
  cases y with
  |int j=>cases x with
   |int i=>exact NY pins s σ H _ _ v u Q I rx ry ⟨_,_,rfl,rfl,h.1,h.2⟩
   |ref a=>exact UU pins s σ H _ _ v u Q I rx ry h
   |str a=>exact NX pins s σ H _ _ v u Q I rx ry ⟨_,_,rfl,rfl,h.1,h.2⟩
   |_=>exact False.elim h
  |_=>exact False.elim h
 |FloorDiv=>exact IC pins s σ H _ _ v u Q I rx ry (hV (f:=λi j H Q=>Hk i j/\Q (.int (i / j)) H) h)
 |Mod=>exact UY pins s σ H _ _ v u Q I rx ry (hV (f:=λi j H Q=>0<j/\Q (.int (i % j)) H) h)
 |Pow=>exact NU pins s σ H _ _ v u Q I rx ry (hV (f:=λi j H Q=>Ey i j/\Q (.int (i ^ j.toNat)) H) h)
 |_=>exact False.elim h
noncomputable def bin (op:Operator) (a b:EX K):EX K:=mM (λE=>SW (mK K op) (a.t E) (b.t E))
 (λC e=>match e with
  | .BinOp l o r _=>decide (o=op)&&(a.m C l&&b.m C r)
  |_=>false) (λR=>a.q R/\b.q R) .pl
 (λX C E e hK G hE hq hm=>by
  subst hK
  cases e with
  |BinOp l o r p=>
   simp only [and_eq_true] at hm
   obtain ⟨h1,h2,h3⟩:=hm
   have e:=of_decide_eq_true h1
   subst e
   exact Aq (XQ _) (a.ok X C E l rfl G hE hq.1 h2) (b.ok X C E r rfl G hE hq.2 h3)
  |_=>exact ff hm)
 (λC e hm=>by cases e with|BinOp l o r p=>exact ⟨rfl,rfl⟩|_=>exact ff hm)
noncomputable def ND:V->Hp->VK->Prop
 | .int i,H,Q=>Q (.int (-i)) H
 |_,_,_=>False
noncomputable def neg (a:EX K):EX K:=RJ (λE=>Ho ND (a.t E))
 (λC e=>match e with
  | .UnaryOp .USub l _=>a.m C l
  |_=>false) a.q .pl
 (λX C E e hK G hE hq hm=>by
  cases e with
  |UnaryOp o l p=>
   cases o with
   |USub=>
    refine Ap (λpins s σ H x v Q I rx h=>?_) (a.ok X C E l hK G hE hq hm)
    unfold ND at h
    split at h
    ·exact SO pins s σ H _ v Q I rx ⟨_,rfl,h⟩
    ·exact h.elim
   |_=>exact ff hm
  |_=>exact ff hm)
 (λC e hm=>by cases e with|UnaryOp o l p=>rfl|_=>exact ff hm)
 (λC e hm=>by cases e with|UnaryOp o l p=>(cases o with|USub=>rfl|_=>exact ff hm)|_=>exact ff hm)
theorem VA {X:Cx}:fP X (compareOp .Is) (λx y H Q=>∃c d,x=.bl c/\y=.bl d/\Q (.bl (c==d)) H):=by
 intro pins s σ H x y v u Q I rx ry h;obtain ⟨c,d,rfl,rfl,q⟩:=h;cases (show v=Value.bool c from rx);cases (show u=Value.bool d from ry);exact is_bool ⟨.bl _,H,I,rfl,q⟩
theorem DN {X:Cx}:fP X (compareOp .IsNot) (λx y H Q=>∃c d,x=.bl c/\y=.bl d/\Q (.bl (c != d)) H):=by
 intro pins s σ H x y v u Q I rx ry h;obtain ⟨c,d,rfl,rfl,q⟩:=h;cases (show v=Value.bool c from rx);cases (show u=Value.bool d from ry);exact isnot_bool ⟨.bl _,H,I,rfl,q⟩
noncomputable def Ht (f:Bool->Bool):R2:=λx y H Q=>match y with
 | .non=>Q (.bl (f (decide (x=.non)))) H
 | .bl d=>(match x with
  | .bl c=>Q (.bl (f (c==d))) H
  |_=>False)
 |_=>False
noncomputable def Ah (K:Fg) (n:Bool) (f:Bool->Bool):R2:=λx y H Q=>match y with
 | .ref b=>Fu K n x (.ref b) H Q
 | .str j=>(match x with
  | .str i=>Q (.bl (f (!(Builtin.Str.occurrences j i 0 j.length 1).isEmpty))) H
  |_=>False)
 |_=>False
noncomputable def kE (K:Fg):CmpOp->R2
 | .Eq=>λx y H Q=>(NB x y=true/\Q (.bl (decide (x=y))) H)\/Ak x y H Q\/Aj x y H Q
 | .NotEq=>λx y H Q=>(NB x y=true/\Q (.bl (!decide (x=y))) H)\/Ae x y H Q\/Ad x y H Q
 | .Lt=>PQ λi j H Q=>Q (.bl (decide (i<j))) H
 | .LtE=>PQ λi j H Q=>Q (.bl (decide (i<=j))) H
 | .Gt=>PQ λi j H Q=>Q (.bl (decide (j<i))) H
 | .GtE=>PQ λi j H Q=>Q (.bl (decide (j<=i))) H
 | .Is=>Ht λb=>b
 | .IsNot=>Ht λb=>!b
 | .In=>Ah K false λb=>b
 | .NotIn=>Ah K true λb=>!b
theorem LF {X:Cx} (hu:X.A.units+64<cLine) (op:CmpOp):fP X (compareOp op) (kE X.K op):=by
 intro pins s σ H x y v u Q I rx ry h;cases op with
 |Eq=>
  rcases h with h|h|h
  ·exact Bb pins s σ H _ _ v u Q I rx ry h
  ·exact VD hu pins s σ H _ _ v u Q I rx ry h
  ·exact VB hu pins s σ H _ _ v u Q I rx ry h
 |NotEq=>
  rcases h with h|h|h
  ·exact Av pins s σ H _ _ v u Q I rx ry h
  ·exact UX hu pins s σ H _ _ v u Q I rx ry h
  ·exact UW hu pins s σ H _ _ v u Q I rx ry h
 |Lt=>exact Aw pins s σ H _ _ v u Q I rx ry (hV (f:=λi j H Q=>Q (.bl (decide (i<j))) H) h)
 |LtE=>exact Ax pins s σ H _ _ v u Q I rx ry (hV (f:=λi j H Q=>Q (.bl (decide (i<=j))) H) h)
 |Gt=>exact Ay pins s σ H _ _ v u Q I rx ry (hV (f:=λi j H Q=>Q (.bl (decide (j<i))) H) h)
 |GtE=>exact Az pins s σ H _ _ v u Q I rx ry (hV (f:=λi j H Q=>Q (.bl (decide (j<=i))) H) h)
 |Is=>
  cases y with
  |non=>exact UZ pins s σ H _ _ v u Q I rx ry ⟨rfl,h⟩
  |bl d=>cases x with
   |bl c=>exact VA pins s σ H _ _ v u Q I rx ry ⟨_,_,rfl,rfl,h⟩
   |_=>exact False.elim h
  |_=>exact False.elim h
 |IsNot=>
  cases y with
  |non=>exact NV pins s σ H _ _ v u Q I rx ry ⟨rfl,h⟩
  |bl d=>cases x with
   |bl c=>exact DN pins s σ H _ _ v u Q I rx ry ⟨_,_,rfl,rfl,h⟩
   |_=>exact False.elim h
  |_=>exact False.elim h
 |In=>
  cases y with
  |ref b=>exact DP pins s σ H _ _ v u Q I rx ry h
  |str j=>cases x with
   |str i=>exact DO pins s σ H _ _ v u Q I rx ry ⟨_,_,rfl,rfl,h⟩
   |_=>exact False.elim h
  |_=>exact False.elim h
 |NotIn=>
  cases y with
  |ref b=>exact tQ pins s σ H _ _ v u Q I rx ry h
  |str j=>cases x with
   |str i=>exact tP pins s σ H _ _ v u Q I rx ry ⟨_,_,rfl,rfl,h⟩
   |_=>exact False.elim h
  |_=>exact False.elim h
noncomputable def bV (Q:Bool->Hp->Prop):V->Hp->Prop
 | .bl b,H=>Q b H
 |_,_=>False
noncomputable def rB (r:R2):V->V->Hp->(Bool->Hp->Prop)->Prop:=λx y H Q=>r x y H (bV Q)
theorem Dw {z:V} {H:Hp} {Q:Bool->Hp->Prop} (h:bV Q z H):∃b,z=.bl b/\Q b H:=by
 cases z with
 |bl b=>exact ⟨b,rfl,h⟩
 |_=>exact h.elim
noncomputable def cmp (op:CmpOp) (a b:EX K):EX K where
 t:=λE=>SW (kE K op) (a.t E) (b.t E)
 tt:=λE σ H Q=>a.t E σ H λx H1=>b.t E σ H1 λy H2=>rB (kE K op) x y H2 Q
 m:=λC e=>match e with
  | .Compare l [o] [r] _=>decide (o=op)&&(a.m C l&&b.m C r)
  |_=>false
 q:=λR=>a.q R/\b.q R
 s:=.pl
 ok:=λX C E e hK G hE hq hm=>by
  subst hK;cases e with
  |Compare l os rs p=>
   match os,rs,hm with
   |[o],[r],hm=>
    simp only [and_eq_true] at hm;obtain ⟨h1,h2,h3⟩:=hm;have e:=of_decide_eq_true h1;subst e;exact BG (LF G.hu _) (a.ok X C E l rfl G hE hq.1 h2) (b.ok X C E r rfl G hE hq.2 h3) (jZ (b.sok C r h3))
  |_=>exact ff hm
 okT:=λX C E e hK G hE hq hm=>by
  subst hK;cases e with
  |Compare l os rs p=>
   match os,rs,hm with
   |[o],[r],hm=>
    simp only [and_eq_true] at hm;obtain ⟨h1,h2,h3⟩:=hm;have e:=of_decide_eq_true h1;subst e;intro pins s σ H Q I hw;refine wpAny_isTrue_Compare1 (bS (a.ok X C E l rfl G hE hq.1 h2 pins s σ H _ I hw) λv s1 ⟨x,H1,I1,r1,q1⟩=>bS (b.ok X C E r rfl G hE hq.2 h3 pins s1 σ H1 _ I1 q1) λu s2 ⟨y,H2,I2,r2,q2⟩=>
     bS (LF G.hu _ pins s2 σ H2 x y v u _ I2 r1 r2 q2) λc s3 ⟨z,H3,I3,r3,q3⟩=>?_) (jZ (b.sok C r h3))
    obtain ⟨d,rfl,q⟩:=Dw q3;cases r3;exact wpAny_truthy_bool ⟨H3,I3,q⟩
  |_=>exact ff hm
 sok:=λC e hm=>by cases e with|Compare l o r p=>rfl|_=>exact ff hm
noncomputable def oN (a:EX K):EX K where
 t:=λE σ H Q=>a.t E σ H λx H1=>tH K x H1 λb H2=>Q (.bl (!b)) H2
 tt:=λE σ H Q=>a.tt E σ H λb H1=>Q (!b) H1
 m:=λC e=>match e with
  | .UnaryOp .Not l _=>a.m C l
  |_=>false
 q:=a.q
 s:=.pl
 ok:=λX C E e hK G hE hq hm=>by
  subst hK;cases e with
  |UnaryOp o l p=>
   cases o with
   |Not=>
    intro pins s σ H Q I h;refine UnaryOp_ (bS (a.ok X C E l rfl G hE hq hm pins s σ H _ I h) λv s1 ⟨x,H1,I1,r1,q1⟩=>?_);exact not_of (bS (mQ pins s1 σ H1 x v _ I1 r1 q1) λb s2 ⟨H2,I2,q2⟩=>⟨.bl (!b),H2,I2,rfl,q2⟩)
   |_=>exact ff hm
  |_=>exact ff hm
 okT:=λX C E e hK G hE hq hm=>by
  cases e with
  |UnaryOp o l p=>
   cases o with
   |Not=>exact UE (a.okT X C E l hK G hE hq hm)
   |_=>exact ff hm
  |_=>exact ff hm
 sok:=λC e hm=>by cases e with|UnaryOp o l p=>rfl|_=>exact ff hm
noncomputable def DA (K:Fg) (op:BoolOp) (E:XS):TE->List (EX K)->TE
 |t,[]=>t
 |t,y::ys=>λσ H Q=>t σ H λx H1=>tH K x H1 λb H2=>match op with
  | .And=>br b (DA K op E (y.t E) ys σ H2 Q) (Q x H2)
  | .Or=>br b (Q x H2) (DA K op E (y.t E) ys σ H2 Q)
noncomputable def jP (K:Fg) (op:BoolOp) (E:XS):TT->List (EX K)->TT
 |t,[]=>t
 |t,y::ys=>λσ H Q=>t σ H λb H1=>match op with
  | .And=>br b (jP K op E (y.tt E) ys σ H1 Q) (Q false H1)
  | .Or=>br b (Q true H1) (jP K op E (y.tt E) ys σ H1 Q)
noncomputable def kL:List (EX K)->Sc->List Expr->Bool
 |[],_,[]=>true
 |x::xs,C,e::es=>x.m C e&&kL xs C es
 |_,_,_=>false
noncomputable def tM:List (EX K)->Rt->Prop
 |[],_=>True
 |x::xs,R=>x.q R/\tM xs R
theorem LO {X:Cx} {C:Sc} {E:XS} {pos:Pos} (op:BoolOp) (G:Gd X C) (hE:sJ X E):∀(xs:List (EX X.K)) (e:Expr) (es:List Expr) (t:TE),PE X e t->tM xs (dM X)->kL xs C es=true->PE X (.BoolOp op (e::es) pos) (DA X.K op E t xs)
 |[],e,[],t,he,_,_=>UO he
 |[],e,_::_,t,he,_,hm=>nomatch hm
 |x::xs,e,[],t,he,_,hm=>nomatch hm
 |x::xs,e,e2::es,t,he,hq,hm=>by
  have hm':(x.m C e2&&kL xs C es)=true:=hm;simp only [and_eq_true] at hm';have h2:=LO (pos:=pos) op G hE xs e2 es (x.t E) (x.ok X C E e2 rfl G hE hq.1 hm'.1) hq.2 hm'.2;cases op with
  |And=>
   intro pins s σ H Q I h;refine BoolOp_and (bS (he pins s σ H _ I h) λv s1 ⟨y,H1,I1,r1,q1⟩=>?_);refine bS (mQ pins s1 σ H1 y v _ I1 r1 q1) λb s2 ⟨H2,I2,q2⟩=>?_;cases b with
   |true=>exact h2 pins s2 σ H2 Q I2 (q2.1 rfl)
   |false=>exact ⟨y,H2,I2,r1,q2.2 rfl⟩
  |Or=>
   intro pins s σ H Q I h;refine BoolOp_or (bS (he pins s σ H _ I h) λv s1 ⟨y,H1,I1,r1,q1⟩=>?_);refine bS (mQ pins s1 σ H1 y v _ I1 r1 q1) λb s2 ⟨H2,I2,q2⟩=>?_;cases b with
   |true=>exact ⟨y,H2,I2,r1,q2.1 rfl⟩
   |false=>exact h2 pins s2 σ H2 Q I2 (q2.2 rfl)
theorem CD {X:Cx} {C:Sc} {E:XS} {pos:Pos} (op:BoolOp) (G:Gd X C) (hE:sJ X E):∀(xs:List (EX X.K)) (e:Expr) (es:List Expr) (t:TT),PT X e t->tM xs (dM X)->kL xs C es=true->PW X (.BoolOp op (e::es) pos) (jP X.K op E t xs)
 |[],e,[],t,he,_,_=>by
  cases op with
  |And=>exact NG he
  |Or=>exact UB he
 |[],e,_::_,t,he,_,hm=>nomatch hm
 |x::xs,e,[],t,he,_,hm=>nomatch hm
 |x::xs,e,e2::es,t,he,hq,hm=>by
  have hm':(x.m C e2&&kL xs C es)=true:=hm;simp only [and_eq_true] at hm';have h2:=CD (pos:=pos) op G hE xs e2 es (x.tt E) (x.okT X C E e2 rfl G hE hq.1 hm'.1) hq.2 hm'.2;cases op with
  |And=>
   intro wh pins s σ H Q I h;refine isTrue_and (bS (he pins s σ H _ I h) λb s1 ⟨H1,I1,q1⟩=>?_);cases b with
   |true=>exact h2 wh pins s1 σ H1 Q I1 (q1.1 rfl)
   |false=>exact ⟨H1,I1,q1.2 rfl⟩
  |Or=>
   intro wh pins s σ H Q I h;refine isTrue_or (bS (he pins s σ H _ I h) λb s1 ⟨H1,I1,q1⟩=>?_);cases b with
   |true=>exact ⟨H1,I1,q1.1 rfl⟩
   |false=>exact h2 wh pins s1 σ H1 Q I1 (q1.2 rfl)
noncomputable def Hy (op:BoolOp) (x:EX K) (xs:List (EX K)):EX K where
 t:=λE=>DA K op E (x.t E) xs
 tt:=λE=>jP K op E (x.tt E) xs
 m:=λC e=>match e with
  | .BoolOp o (l::ls) _=>decide (o=op)&&(x.m C l&&kL xs C ls)
  |_=>false
 q:=λR=>x.q R/\tM xs R
 s:=.pl
 ok:=λX C E e hK G hE hq hm=>by
  subst hK;cases e with
  |BoolOp o ls p=>
   cases ls with
   |nil=>cases hm
   |cons l ls=>
    simp only [and_eq_true] at hm;obtain ⟨h1,h2,h3⟩:=hm;have e:=of_decide_eq_true h1;subst e;exact LO _ G hE xs l ls _ (x.ok X C E l rfl G hE hq.1 h2) hq.2 h3
  |_=>exact ff hm
 okT:=λX C E e hK G hE hq hm=>by
  subst hK;cases e with
  |BoolOp o ls p=>
   cases ls with
   |nil=>cases hm
   |cons l ls=>
    simp only [and_eq_true] at hm;obtain ⟨h1,h2,h3⟩:=hm;have e:=of_decide_eq_true h1;subst e;exact (CD _ G hE xs l ls _ (x.okT X C E l rfl G hE hq.1 h2) hq.2 h3).pt
  |_=>exact ff hm
 sok:=λC e hm=>by cases e with|BoolOp o l p=>rfl|_=>exact ff hm
noncomputable def AJ (x:EX K) (xs:List (EX K)):EX K:=Hy .And x xs
noncomputable def Au (x:EX K) (xs:List (EX K)):EX K:=Hy .Or x xs
end
section
variable {K:Fg}
noncomputable def fQ:List (EX K)->XS->TA
 |[],_=>ZN
 |x::xs,E=>RA (x.t E) (fQ xs E)
theorem aH {x:EX K} {xs:List (EX K)} {C:Sc} {e:Expr} {es:List Expr} (h:kL (x::xs) C (e::es)=true):x.m C e=true/\kL xs C es=true:=by
 have h':(x.m C e&&kL xs C es)=true:=h;simpa only [and_eq_true] using h'
theorem eG {X:Cx} {C:Sc} {E:XS} (G:Gd X C) (hE:sJ X E):∀(xs:List (EX X.K)) (es:List Expr),tM xs (dM X)->kL xs C es=true->PA X es (fQ xs E)
 |[],[],_,_=>HZ
 |[],_::_,_,hm=>nomatch hm
 |_::_,[],_,hm=>nomatch hm
 |x::xs,e::es,hq,hm=>BH (x.ok X C E e rfl G hE hq.1 (aH hm).1) (eG G hE xs es hq.2 (aH hm).2) (bB (x.sok C e (aH hm).1))
theorem bK {C:Sc} {env:Env} {pos:Pos}:∀(xs:List (EX K)) (es:List Expr),kL xs C es=true->(backTo pos (starEach es env)).any (·.1)=false
 |[],[],_=>rfl
 |[],_::_,hm=>nomatch hm
 |_::_,[],hm=>nomatch hm
 |x::xs,e::es,hm=>by
  rw[bB (x.sok C e (aH hm).1)];show (false || (backTo pos (starEach es env)).any (·.1))=false;rw[bK xs es (aH hm).2];rfl
theorem as_none {C:Sc} {env:Env} {pos:Pos}:∀(xs:List (EX K)) (es:List Expr),kL xs C es=true->(backTo pos (starEach es env)).all (λx=>!x.1)=true
 |[],[],_=>rfl
 |[],_::_,hm=>nomatch hm
 |_::_,[],hm=>nomatch hm
 |x::xs,e::es,hm=>by
  rw[bB (x.sok C e (aH hm).1)];show (true&&(backTo pos (starEach es env)).all (λx=>!x.1))=true;rw[as_none xs es (aH hm).2];rfl
noncomputable def Hs:List (EX K)->XY
 |[]=>.zc
 |_=>.pl
theorem yT {C:Sc} {y:Str} {p q:Pos}:∀(xs:List (EX K)) (es:List Expr),kL xs C es=true->gG (.Call (.Name y p) es [] q)=some (Hs xs)
 |[],[],_=>rfl
 |[],_::_,hm=>nomatch hm
 |_::_,[],hm=>nomatch hm
 |_::_,_::_,_=>rfl
noncomputable def SY (sp:Sp) (E:XS) (t:TA):TE:=λσ H Q=>t σ H λvs H1=>sp vs H1 Q (E σ)
theorem BA {X:Cx} {E:XS} {k:Nat} {f:Addr} {fd:FuncData} {ps:List Str} {sp:Sp} {pins:List (Addr × Obj)} {σ:St} {H1:Hp} {s1:Shared} {Q1:VK} {us:List Value} {vs:List V} (hE:sJ X E) (F:AN X.prog X.w X.K X.mg X.base (xY X.prog X.w) k f fd ps sp)
  (room:dF k X.A) (bd:Binds X.K fd ps []) (I1:Inv X pins σ H1 s1) (rl:Vals vs us) (pr:sp vs H1 Q1 (E σ)):wpAny (model X.prog X.w) X.A (PySem.call (.ref f) us) (EP X pins σ Q1) X.xe s1:=by
 have ln:(us++[]).length=ps.length:=by rw[append_nil,<-rl.length];exact F.len _ _ _ _ pr
 have b:=bd s1 us I1.kIn ln;rw[append_nil] at b;refine wpAny_call (codeAny_mono (F.run X.A X.stack s1 H1 ⟨us,[]⟩ us vs Q1 (E σ) room I1.env0 b rl pr) λres s2 fin=>?_);cases res with
 |error ev=>exact hE.pass pins σ H1 s1 ev s2 I1 fin
 |ok fl=>
  cases fl with
  |ret v=>exact I1.after fin
  |next=>exact fin.elim
  |brk=>exact fin.elim
  |cont=>exact fin.elim
noncomputable def call (x:Str) (sp:Sp) (as:List (EX K)):EX K:=RJ (λE=>SY sp E (fQ as E))
 (λC e=>match e with
  | .Call (.Name y _) es [] _=>qL C x y&&kL as C es
  |_=>false) (λR=>FnAt R x sp/\tM as R) (Hs as)
 (λX C E e hK G hE hq hm=>by
  subst hK
  cases e with
  |Call f es ks p=>
   cases f with
   |Name y py=>
    cases ks with
    |nil=>
     simp only [and_eq_true] at hm
     obtain ⟨h1,h2⟩:=hm
     have e:=cJ h1
     subst e
     obtain ⟨g,d⟩:=cI G h1
     obtain ⟨⟨k,f,fd,ps,hr,F,hb,kp,hg⟩,hqa⟩:=hq
     cases as with
     |nil=>
      cases es with
      |nil=>
       intro pins s σ H Q I h
       exact wpAny_Call_Name_kw (kN I g hg (PySem.W.callWith_K0 I.kIn kp (BA (us:=[]) hE F hr hb I .nil h)) d)
      |cons _ _=>cases h2
     |cons a as=>
      cases es with
      |nil=>cases h2
      |cons e es=>
       intro pins s σ H Q I h
       exact wpAny_Call_Name_kw (kN I g hg (PySem.W.callWith_K (h₀:=X.base) I.ok.mod.kin kp (bS (eG G hE (a::as) (e::es) hqa h2 p pins s σ H _ I h) λus s1 ⟨vs,H1,I1,r,q⟩=>⟨I1.kIn,BA hE F hr hb I1 r q⟩) (bB (a.sok C e (aH h2).1)) (bK as es (aH h2).2)) d)
    |cons _ _=>cases hm
   |_=>exact ff hm
  |_=>exact ff hm)
 (λC e hm=>by
  cases e with
  |Call f es ks p=>
   cases f with
   |Name y py=>
    cases ks with
    |nil=>
     simp only [and_eq_true] at hm
     exact yT as es hm.2
    |cons _ _=>cases hm
   |_=>exact ff hm
  |_=>exact ff hm)
 (λC e hm=>by cases e with|Call f es ks p=>rfl|_=>exact ff hm)
noncomputable def YN (x:Str) (id:String) (r:List V->Hp->VK->Prop) (ok:∀X:Cx,X.K=K->X.calm=true->X.A.units+64<cLine->cD X (.builtin id) r) (hb:bootBuiltins x=some (.builtin id)) (hi:x∈pM) (hn:x≠"__name__") (a:EX K) (as:List (EX K)):EX K:=
 RJ (λE=>ZR r (fQ (a::as) E))
 (λC e=>match e with
  | .Call (.Name y _) es [] _=>(C.cm&&qL C x y)&&kL (a::as) C es
  |_=>false) (λR=>tM (a::as) R) .pl
 (λX C E e hK G hE hq hm=>by
  subst hK
  cases e with
  |Call f es ks p=>
   cases f with
   |Name y py=>
    cases ks with
    |nil=>
     simp only [and_eq_true] at hm
     obtain ⟨⟨hcm,h1⟩,h2⟩:=hm
     have e:=cJ h1
     subst e
     obtain ⟨g,d⟩:=cI G h1
     cases es with
     |nil=>cases h2
     |cons e es=>exact wC (ok X rfl (G.calm hcm) G.hu) g (G.bl _ hi) hb (eG G hE (a::as) (e::es) hq h2) hn d (bB (a.sok C e (aH h2).1)) (bK as es (aH h2).2)
    |cons _ _=>cases hm
   |_=>exact ff hm
  |_=>exact ff hm)
 (λC e hm=>by
  cases e with
  |Call f es ks p=>
   cases f with
   |Name y py=>
    cases ks with
    |nil=>
     simp only [and_eq_true] at hm
     exact yT (a::as) es hm.2
    |cons _ _=>cases hm
   |_=>exact ff hm
  |_=>exact ff hm)
 (λC e hm=>by cases e with|Call f es ks p=>rfl|_=>exact ff hm)
noncomputable def Hz (x:Str) (T:String) (r:List V->Hp->VK->Prop) (ok:∀X:Cx,X.K=K->X.calm=true->X.A.units+64<cLine->cD X (.type T) r) (hb:bootBuiltins x=some (.type T)) (hi:x∈pM) (hn:x≠"__name__") (a:EX K) (as:List (EX K)):EX K:=
 RJ (λE=>ZR r (fQ (a::as) E))
 (λC e=>match e with
  | .Call (.Name y _) es [] _=>(C.cm&&qL C x y)&&kL (a::as) C es
  |_=>false) (λR=>tM (a::as) R) .pl
 (λX C E e hK G hE hq hm=>by
  subst hK
  cases e with
  |Call f es ks p=>
   cases f with
   |Name y py=>
    cases ks with
    |nil=>
     simp only [and_eq_true] at hm
     obtain ⟨⟨hcm,h1⟩,h2⟩:=hm
     have e:=cJ h1
     subst e
     obtain ⟨g,d⟩:=cI G h1
     cases es with
     |nil=>cases h2
     |cons e es=>exact DM (ok X rfl (G.calm hcm) G.hu) g (G.bl _ hi) hb (eG G hE (a::as) (e::es) hq h2) hn d (bB (a.sok C e (aH h2).1)) (bK as es (aH h2).2)
    |cons _ _=>cases hm
   |_=>exact ff hm
  |_=>exact ff hm)
 (λC e hm=>by
  cases e with
  |Call f es ks p=>
   cases f with
   |Name y py=>
    cases ks with
    |nil=>
     simp only [and_eq_true] at hm
     exact yT (a::as) es hm.2
    |cons _ _=>cases hm
   |_=>exact ff hm
  |_=>exact ff hm)
 (λC e hm=>by cases e with|Call f es ks p=>rfl|_=>exact ff hm)
noncomputable def yZ (K:Fg):List V->Hp->VK->Prop
 |[.str z],H,Q=>z.length<=sizeLine/\Q (.int z.length) H
 |[.ref a],H,Q=>(∃n,Ef K (.ref a) H n/\Q (.int n) H)\/∃kvs,H a=some (.dK kvs)/\Q (.int kvs.length) H
 |_,_,_=>False
theorem LN {X:Cx}:cD X (.builtin "len") (λxs H Q=>∃a kvs,xs=[V.ref a]/\H a=some (.dK kvs)/\Q (.int kvs.length) H):=by
 intro pins s σ H xs us Q I r h;obtain ⟨a,kvs,rfl,ha,q⟩:=h;obtain ⟨u,rfl,ru⟩:=vals1 r;cases ru;exact Ds I (.inl ha) λt s' I'=>⟨.int kvs.length,H,I',⟨t,rfl⟩,q⟩
theorem VM (X:Cx):cD X (.builtin "len") (yZ X.K):=by
 intro pins s σ H xs us Q I r h;unfold yZ at h;split at h
 ·exact xO pins s σ H _ us Q I r ⟨_,_,rfl,⟨h.1,rfl⟩,h.2⟩
 ·rcases h with ⟨n,h1,h2⟩|⟨kvs,h1,h2⟩
  ·exact xO pins s σ H _ us Q I r ⟨_,n,rfl,h1,h2⟩
  ·exact LN pins s σ H _ us Q I r ⟨_,kvs,rfl,h1,h2⟩
 ·exact h.elim
noncomputable def len (a:EX K):EX K:=YN "len" "len" (yZ K) (λX hK _ _=>by subst hK;exact VM X) PySem.boot_len (by decide+kernel) (by decide+kernel) a []
noncomputable def sum (a:EX K):EX K:=YN "sum" "sum" TM (λX hK hc _=>LL hc) PyProof.Rows.Boot.sum (by decide+kernel) (by decide+kernel) a []
noncomputable def vY:List V->Hp->VK->Prop
 |[.int i,.int j],H,Q=>Q (.int (min i j)) H
 |_,_,_=>False
noncomputable def vZ:List V->Hp->VK->Prop
 |[.int i,.int j],H,Q=>Q (.int (max i j)) H
 |_,_,_=>False
theorem VJ {X:Cx} (hc:X.calm=true):cD X (.builtin "min") vY:=by
 intro pins s σ H xs us Q I r h;unfold vY at h;split at h
 ·rename_i i j;refine FE hc pins s σ H _ us Q I r ⟨i,j,rfl,?_⟩;have e:(if j<i then j else i)=min i j:=by split<;>lia
  rw[e];exact h
 ·exact h.elim
theorem VL {X:Cx} (hc:X.calm=true):cD X (.builtin "max") vZ:=by
 intro pins s σ H xs us Q I r h;unfold vZ at h;split at h
 ·rename_i i j;refine FF hc pins s σ H _ us Q I r ⟨i,j,rfl,?_⟩;have e:(if j>i then j else i)=max i j:=by split<;>lia
  rw[e];exact h
 ·exact h.elim
noncomputable def min2 (a b:EX K):EX K:=YN "min" "min" vY (λX hK hc _=>VJ hc) PyProof.Rows.Boot.min (by decide+kernel) (by decide+kernel) a [b]
noncomputable def max2 (a b:EX K):EX K:=YN "max" "max" vZ (λX hK hc _=>VL hc) PyProof.Rows.Boot.max (by decide+kernel) (by decide+kernel) a [b]
noncomputable def BC (K:Fg):List V->Hp->VK->Prop
 |[x,.ty n],H,Q=>∃t b,gC K H x t/\PySem.W.kitOne K t (.type n)=some b/\Q (.bl b) H
 |_,_,_=>False
theorem VY (X:Cx):cD X (.builtin "isinstance") (BC X.K):=by
 intro pins s σ H xs us Q I r h;unfold BC at h;split at h
 ·obtain ⟨t,b,h1,h2,h3⟩:=h;exact LM pins s σ H _ us Q I r ⟨_,_,t,b,rfl,h1,h2,h3⟩
 ·exact h.elim
noncomputable def YL (a b:EX K):EX K:=YN "isinstance" "isinstance" (BC K) (λX hK _ _=>by subst hK;exact VY X) PyProof.Rows.Boot.isinstance (by decide+kernel) (by decide+kernel) a [b]
noncomputable def QV:EX K:=Dv "int" "int" PyProof.Rows.Boot.int (by decide+kernel) (by decide+kernel)
noncomputable def QU:EX K:=Dv "str" "str" PyProof.Rows.Boot.str (by decide+kernel) (by decide+kernel)
noncomputable def GH:EX K:=Dv "bool" "bool" PyProof.Rows.Boot.bool (by decide+kernel) (by decide+kernel)
noncomputable def GG:EX K:=Dv "list" "list" PyProof.Rows.Boot.list (by decide+kernel) (by decide+kernel)
noncomputable def AQ:EX K:=Dv "tuple" "tuple" PyProof.Rows.Boot.tuple (by decide+kernel) (by decide+kernel)
noncomputable def mT (K:Fg):List V->Hp->VK->Prop
 |[.ref p],H,Q=>∃ys,(aR K H p ys\/cC K H p ys)/\∀l,H l=none->Q (.ref l) (upd H l (.lst ys))
 |_,_,_=>False
theorem OL (X:Cx):cD X (.type "list") (mT X.K):=by
 intro pins s σ H xs us Q I r h;unfold mT at h;split at h
 ·obtain ⟨ys,h1,h2⟩:=h;exact uH pins s σ H _ us Q I r ⟨_,ys,rfl,h1,h2⟩
 ·exact h.elim
noncomputable def listE (a:EX K):EX K:=Hz "list" "list" (mT K) (λX hK _ _=>by subst hK;exact OL X) PyProof.Rows.Boot.list (by decide+kernel) (by decide+kernel) a []
noncomputable def tG (K:Fg):List V->Hp->VK->Prop
 |[.ref p],H,Q=>(∃ys,aR K H p ys/\∀l,H l=none->Q (.ref l) (upd H l (.tup ys)))\/∃ys,cC K H p ys/\Q (.ref p) H
 |_,_,_=>False
theorem GN (X:Cx):cD X (.type "tuple") (tG X.K):=by
 intro pins s σ H xs us Q I r h;unfold tG at h;split at h
 ·rcases h with ⟨ys,h1,h2⟩|⟨ys,h1,h2⟩
  ·exact iX pins s σ H _ us Q I r ⟨_,ys,rfl,.inl ⟨h1,h2⟩⟩
  ·exact iX pins s σ H _ us Q I r ⟨_,ys,rfl,.inr ⟨h1,h2⟩⟩
 ·exact h.elim
noncomputable def GO (a:EX K):EX K:=Hz "tuple" "tuple" (tG K) (λX hK _ _=>by subst hK;exact GN X) PyProof.Rows.Boot.tuple (by decide+kernel) (by decide+kernel) a []
theorem US {X:Cx} {o:Expr} {es:List Expr} {to:TE} {name:Str} {apos cpos:Pos} {T id:String} {r:V->List V->Hp->VK->Prop} {RR:V->St->Hp->VK->Prop} {C:Sc} {E:XS} {xs:List (EX X.K)}
  (pa:PlainAttrs T) (slot:Slot T name id) (hty:typeOf (.builtin id)=pure (.type "method_descriptor")) (hm:YD X id r) (ho:PE X o to) (ha:PA X es (fQ xs E))
  (hR:∀x σ H Q,RR x σ H Q->Fc X.K T x H/\fQ xs E σ H λys H2=>r x ys H2 Q)
  (hbase:attributeBase o name X.env (eval o X.env)=eval o X.env) (hx:kL xs C es=true) (h30:es.length<30) (hline:(apos.endLine==cpos.line)=true):
  PE X (.Call (.Attribute o name apos) es [] cpos) (λσ H Q=>to σ H λx H1=>RR x σ H1 Q):=by
 intro pins s σ H Q I h;cases es with
 |nil=>
  refine wpAny_Call_method0_late hbase hline (bS (ho pins s σ H _ I h) λv s1 ⟨x,H1,I1,r1,q0⟩=>?_);obtain ⟨ty,q1⟩:=hR x σ H1 Q q0;obtain ⟨h1,h2⟩:=GF I1 r1 ty;cases xs with
  |nil=>exact ⟨T,id,pa,slot,hty,h1,h2,Calls.callWith_builtin rfl (PySem.evalArgs_none (hm pins s1 σ H1 x [] v [] Q I1 r1 .nil q1))⟩
  |cons _ _=>cases hx
 |cons e es=>
  cases xs with
  |nil=>cases hx
  |cons a as=>
   have hs:=bB (env:=X.env) (es:=es) (a.sok C e (aH hx).1);have hplain:=bK (env:=X.env) (pos:=cpos) as es (aH hx).2;have hfew:((backTo cpos (starEach (e::es) X.env)).all (λx=>!x.1)&&(backToKw cpos (keywordEach [] X.env)).all (λx=>x.1.isSome)
     &&decide ((e::es).length+([]:List Keyword).length+(if ([]:List Keyword).isEmpty then 0 else 1)<30))=true:=by
    rw[as_none (env:=X.env) (pos:=cpos) (a::as) (e::es) hx];have h30':(e::es).length+([]:List Keyword).length+(if ([]:List Keyword).isEmpty then 0 else 1)<30:=h30;rw[decide_eq_true h30'];rfl
   refine wpAny_Call_method_late hbase hfew hline rfl (bS (ho pins s σ H _ I h) λv s1 ⟨x,H1,I1,r1,q0⟩=>?_);obtain ⟨ty,q1⟩:=hR x σ H1 Q q0;obtain ⟨h1,h2⟩:=GF I1 r1 ty;refine ⟨T,id,pa,slot,hty,h1,h2,?_⟩;have hA:=ha cpos pins s1 σ H1 _ I1 q1;rw[hs] at hA ⊢;refine Calls.callWith_builtin (by show (false || (backTo cpos (starEach es X.env)).any (·.1))=false;rw[hplain]<;>rfl) (Calls.evalArgs_plain ?_);exact bS hA λus s2 ⟨vs,H2,I2,r2,q2⟩=>hm pins s2 σ H2 x vs v us Q I2 r1 r2 q2
noncomputable def IU (name:Str) (T id:String) (r:V->List V->Hp->VK->Prop) (RR:TA->V->St->Hp->VK->Prop) (pa:PlainAttrs T) (slot:Slot T name id) (hty:typeOf (.builtin id)=pure (.type "method_descriptor")) (ok:∀X:Cx,X.K=K->X.calm=true->X.A.units+64<cLine->YD X id r)
  (hR:∀t x σ H Q,RR t x σ H Q->Fc K T x H/\t σ H λys H2=>r x ys H2 Q) (o:EX K) (ho:o.s≠.zc) (as:List (EX K)):EX K:=RJ (λE σ H Q=>o.t E σ H λx H1=>RR (fQ as E) x σ H1 Q)
 (λC e=>match e with
  | .Call (.Attribute l y p) es [] p2=>(y==name&&(C.cm&&(p.endLine==p2.line&&decide (es.length<30))))&&(o.m C l&&kL as C es)
  |_=>false) (λR=>o.q R/\tM as R) .pl
 (λX C E e hK G hE hq hm=>by
  subst hK
  cases e with
  |Call f es ks p=>
   cases f with
   |Attribute l y py=>
    cases ks with
    |nil=>
     simp only [and_eq_true] at hm
     obtain ⟨⟨h1,hcm,h2,h3⟩,h4,h5⟩:=hm
     have e:=eq_of_beq h1
     subst e
     exact US pa slot hty (ok X rfl (G.calm hcm) G.hu) (o.ok X C E l rfl G hE hq.1 h4) (eG G hE as es hq.2 h5) (hR _) (GZ (o.sok C l h4) ho) h5 (of_decide_eq_true h3) h2
    |cons _ _=>cases hm
   |_=>exact ff hm
  |_=>exact ff hm)
 (λC e hm=>by
  cases e with
  |Call f es ks p=>
   cases f with
   |Attribute l y py=>rfl
   |_=>exact ff hm
  |_=>exact ff hm)
 (λC e hm=>by cases e with|Call f es ks p=>rfl|_=>exact ff hm)
noncomputable def RS (r:Str->List V->Hp->VK->Prop) (t:TA):V->St->Hp->VK->Prop
 | .str z,σ,H,Q=>t σ H λys H2=>r z ys H2 Q
 |_,_,_,_=>False
noncomputable def rS (r:Str->List V->Hp->VK->Prop):V->List V->Hp->VK->Prop
 | .str z,ys,H,Q=>r z ys H Q
 |_,_,_,_=>False
noncomputable def rG (name:Str) (id:String) (r:Str->List V->Hp->VK->Prop) (slot:Slot "str" name id) (hty:typeOf (.builtin id)=pure (.type "method_descriptor")) (ok:∀X:Cx,X.K=K->X.calm=true->X.A.units+64<cLine->YD X id (rS r)) (o:EX K) (ho:o.s≠.zc) (as:List (EX K)):EX K:=
 IU name "str" id (rS r) (RS r) PySem.F.plainAttrs_str slot hty ok (λt x σ H Q h=>by
  cases x with
  |str z=>exact ⟨rfl,h⟩
  |_=>exact h.elim) o ho as
noncomputable def RL (K:Fg) (r:V->List V->Hp->VK->Prop) (t:TA):V->St->Hp->VK->Prop
 | .ref p,σ,H,Q=>(∃xs,aR K H p xs)/\t σ H λys H2=>r (.ref p) ys H2 Q
 |_,_,_,_=>False
noncomputable def Bi (name:Str) (id:String) (r:V->List V->Hp->VK->Prop) (slot:Slot "list" name id) (hty:typeOf (.builtin id)=pure (.type "method_descriptor")) (ok:∀X:Cx,X.K=K->X.calm=true->X.A.units+64<cLine->YD X id r) (o:EX K) (ho:o.s≠.zc) (as:List (EX K)):EX K:=
 IU name "list" id r (RL K r) PySem.F.plainAttrs_list slot hty ok (λt x σ H Q h=>by
  cases x with
  |ref p=>exact ⟨.inl ⟨rfl,h.1⟩,h.2⟩
  |_=>exact h.elim) o ho as
theorem OS {X:Cx} (hu:X.A.units+1<cLine):YS X (λx y H Q=>∃a v,x=.ref a/\dR H a y (some v)/\Q v H):=by
 intro value slice pins s σ H x y v u Q I rx ry h hs;obtain ⟨a,z,rfl,g,q⟩:=h;obtain rfl:v=Value.ref a:=rx;exact tail_any (xF I g) PySem.F.slot_dict_getitem.lookup (ER hu I g ry λw' s3 I3 rw'=>⟨z,H,I3,rw',q⟩) hs
noncomputable def wA (K:Fg):R2
 | .str z,.int i,H,Q=>z.length<=sizeLine/\∃c,pQ z.cps.toList i=some c/\Q (sgn c) H
 | .ref a,y,H,Q=>Ag K (.ref a) y H Q\/Af K (.ref a) y H Q\/∃v,dR H a y (some v)/\Q v H
 |_,_,_,_=>False
theorem Bv {X:Cx} (hu:X.A.units+1<cLine):YS X (wA X.K):=by
 intro value slice pins s σ H x y v u Q I rx ry h hs;unfold wA at h;split at h
 ·obtain ⟨h1,c,h2,h3⟩:=h;exact VW value slice pins s σ H _ _ v u Q I rx ry ⟨_,_,c,rfl,rfl,h1,h2,h3⟩ hs
 ·rcases h with h|h|⟨z,h,q⟩
  ·exact OR value slice pins s σ H _ _ v u Q I rx ry h hs
  ·exact VU value slice pins s σ H _ _ v u Q I rx ry h hs
  ·exact OS hu value slice pins s σ H _ _ v u Q I rx ry ⟨_,z,rfl,h,q⟩ hs
 ·exact h.elim
noncomputable def ix (a b:EX K):EX K:=mM (λE=>SW (wA K) (a.t E) (b.t E))
 (λC e=>match e with
  | .Subscript l r _=>a.m C l&&b.m C r
  |_=>false) (λR=>a.q R/\b.q R) .pl
 (λX C E e hK G hE hq hm=>by
  subst hK
  cases e with
  |Subscript l r p=>
   simp only [and_eq_true] at hm
   exact Ar (Bv (by have:=G.hu;lia)) (a.ok X C E l rfl G hE hq.1 hm.1) (b.ok X C E r rfl G hE hq.2 hm.2) (TH (b.sok C r hm.2))
  |_=>exact ff hm)
 (λC e hm=>by cases e with|Subscript l r p=>exact ⟨rfl,rfl⟩|_=>exact ff hm)
noncomputable def rO (QO:Option Int->Hp->Prop):V->Hp->Prop
 | .int i,H=>QO (some i) H
 |_,_=>False
noncomputable def tO (E:XS):Option (EX K)->TO
 |none=>AS
 |some x=>λσ H Q=>x.t E σ H (rO Q)
noncomputable def mO:Option (EX K)->Sc->Option Expr->Bool
 |none,_,none=>true
 |some x,C,some e=>x.m C e
 |_,_,_=>false
noncomputable def qO:Option (EX K)->Rt->Prop
 |none,_=>True
 |some x,R=>x.q R
theorem Be {X:Cx} {C:Sc} {E:XS} (G:Gd X C) (hE:sJ X E):∀(o:Option (EX X.K)) (e:Option Expr),qO o (dM X)->mO o C e=true->PO X e (tO E o)
 |none,none,_,_=>NM
 |none,some _,_,hm=>nomatch hm
 |some _,none,_,hm=>nomatch hm
 |some x,some e,hq,hm=>by
  intro pins s σ H Q I hw;rw[evalPart_some];refine bS (x.ok X C E e rfl G hE hq hm pins s σ H _ I hw) λu s1 ⟨y,H1,I1,r1,q1⟩=>?_;cases y with
  |int i=>
   obtain ⟨t,rfl⟩:=r1;exact ⟨some i,H1,I1,.int i t,q1⟩
  |_=>exact q1.elim
noncomputable def DJ (K:Fg):V->Option Int->Option Int->Hp->VK->Prop
 | .str z,lo,hi,H,Q=>z.length<=sizeLine/\Q (.str (Txt.slice z lo hi)) H
 | .ref a,lo,hi,H,Q=>Ab K (.ref a) lo hi H Q\/Aa K (.ref a) lo hi H Q
 |_,_,_,_,_=>False
theorem ZW {X:Cx}:Eb X (DJ X.K):=by
 intro pins s σ H x v vl vu lo hi sl Q I rx hs pl pu h;unfold DJ at h;split at h
 ·exact TF pins s σ H _ v vl vu _ _ sl Q I rx hs pl pu ⟨_,rfl,h.1,h.2⟩
 ·rcases h with h|h
  ·exact MX pins s σ H _ v vl vu _ _ sl Q I rx hs pl pu h
  ·exact TC pins s σ H _ v vl vu _ _ sl Q I rx hs pl pu h
 ·exact h.elim
noncomputable def yR (a:EX K) (lo hi:Option (EX K)):EX K:=mM (λE=>Hq (DJ K) (a.t E) (tO E lo) (tO E hi))
 (λC e=>match e with
  | .Subscript l (.Slice x y none _) _=>a.m C l&&(mO lo C x&&mO hi C y)
  |_=>false) (λR=>a.q R/\qO lo R/\qO hi R) .pl
 (λX C E e hK G hE hq hm=>by
  subst hK
  cases e with
  |Subscript l r p=>
   cases r with
   |Slice x y z p2=>
    cases z with
    |none=>
     simp only [and_eq_true] at hm
     exact HX ZW (a.ok X C E l rfl G hE hq.1 hm.1) (Be G hE lo x hq.2.1 hm.2.1) (Be G hE hi y hq.2.2 hm.2.2)
    |some _=>cases hm
   |_=>exact ff hm
  |_=>exact ff hm)
 (λC e hm=>by cases e with|Subscript l r p=>exact ⟨rfl,rfl⟩|_=>exact ff hm)
noncomputable def lst (as:List (EX K)):EX K:=mM (λE=>ZO (fQ as E))
 (λC e=>match e with
  | .List es _=>kL as C es
  |_=>false) (λR=>tM as R) .pl
 (λX C E e hK G hE hq hm=>by
  subst hK
  cases e with
  |List es p=>exact UQ (eG G hE as es hq hm)
  |_=>exact ff hm)
 (λC e hm=>by cases e with|List es p=>exact ⟨rfl,rfl⟩|_=>exact ff hm)
noncomputable def tup (as:List (EX K)):EX K:=mM (λE=>ZL (fQ as E))
 (λC e=>match e with
  | .Tuple es _ _=>kL as C es
  |_=>false) (λR=>tM as R) .pl
 (λX C E e hK G hE hq hm=>by
  subst hK
  cases e with
  |Tuple es k p=>exact UM (eG G hE as es hq hm)
  |_=>exact ff hm)
 (λC e hm=>by cases e with|Tuple es k p=>exact ⟨rfl,rfl⟩|_=>exact ff hm)
noncomputable def Hc:EX K:=mM (λ_=>QZ)
 (λ_ e=>match e with
  | .Dict [] [] _=>true
  |_=>false) (λ_=>True) .pl
 (λX C E e hK G hE hq hm=>by
  cases e with
  |Dict ks vs p=>
   cases ks with
   |nil=>
    cases vs with
    |nil=>exact NQ
    |cons _ _=>cases hm
   |cons _ _=>cases hm
  |_=>exact ff hm)
 (λC e hm=>by cases e with|Dict es k p=>exact ⟨rfl,rfl⟩|_=>exact ff hm)
end
section
variable {K:Fg}
theorem vP {e t:Expr} {line:Nat} {env:Env} {s:XY} (h:gG e=some s) (hs:s≠.cp):swapsWithSole [t] e line env=pure false:=nZ (tgt:=some t) h hs
structure IX (K:Fg) where
 t:XS->TI
 tm:Expr->Bool
 m:Sc->Expr->Bool
 q:Rt->Prop
 ok:∀(X:Cx) (C:Sc) (E:XS) (tg e:Expr),X.K=K->Gd X C->sJ X E->q (dM X)->tm tg=true->m C e=true->PI X tg e (t E)
 fs:∀(C:Sc) (e:Expr) (env:Env) (x:Value),m C e=true->foldedSetIterable e env x=pure x
noncomputable def oC (K:Fg):V->Hp->(It->Hp->Prop)->Prop
 | .str z,H,R=>R (YT z) H
 | .ref a,H,R=>((∃xs,aR K H a xs)/\R (SG K a) H)\/((∃xs,cC K H a xs)/\R (Ei K a) H)
 |_,_,_=>False
theorem JJ {X:Cx} {tg:Expr} {pins:List (Addr × Obj)} {s1:Shared} {σ:St} {H1:Hp} {x:V} {v:Value} {R:It->Hp->Prop} (I1:Inv X pins σ H1 s1) (r1:RelV x v) (q1:oC X.K x H1 R):
  wpAny (model X.prog X.w) X.A (pyIter v) (Ed X pins σ tg R) X.xe s1:=by
 unfold oC at q1;split at q1
 ·rename_i z;obtain ⟨t,rfl⟩:=r1;have fin:∀T:String,(T="str_ascii_iterator"\/T="str_iterator")->Ed X pins σ tg R (.ref s1.heap.objs.size) {s1 with heap:=s1.heap.push {cls:=.type T,data:=.fields #[.str z t,.int 0 0]}}:=λT hT=>by
   refine ⟨s1.heap.objs.size,[s1.heap.objs.size],_,_,H1,rfl,I1.kept (t':=s1.toks) λb o e=>get?_push_of_some _ e,GJ z t _ T hT,⟨_,get?_push_size _ rfl,rfl,rfl⟩,λb hb=>?_,q1⟩;have e:b=s1.heap.objs.size:=by simpa using hb
   subst e;exact I1.fpOk (Nat.le_refl _) (I1.hok.fresh (Nat.le_refl _))
  cases ha:z.cps.all (·<128) with
  |true=>exact wpAny_pyIter_ascii ha (fin _ (.inl rfl))
  |false=>exact wpAny_pyIter_wide ha (fin _ (.inr rfl))
 ·rename_i a;cases (show v=Value.ref a from r1);rcases q1 with ⟨⟨xs,hq⟩,q⟩|⟨⟨xs,hq⟩,q⟩
  ·obtain ⟨its,rv,p,hz⟩:=I1.list hq;refine wpAny_pyIter_list p.isList ?_;refine ⟨s1.heap.objs.size,[s1.heap.objs.size],_,_,H1,rfl,I1.kept (t':=s1.toks) λb o e=>get?_push_of_some _ e,CU a _,⟨_,get?_push_size _ rfl,rfl,rfl⟩,λb hb=>?_,q⟩;have e:b=s1.heap.objs.size:=by simpa using hb
   subst e;exact I1.fpOk (Nat.le_refl _) (I1.hok.fresh (Nat.le_refl _))
  ·obtain ⟨its,rv,p,hz⟩:=I1.tuple hq;refine wpAny_pyIter_tuple (show s1.heap.IsTuple a its.toArray from p) ?_;refine ⟨s1.heap.objs.size,[s1.heap.objs.size],_,_,H1,rfl,I1.kept (t':=s1.toks) λb o e=>get?_push_of_some _ e,yE a _,⟨_,get?_push_size _ rfl,rfl,rfl⟩,λb hb=>?_,q⟩;have e:b=s1.heap.objs.size:=by simpa using hb
   subst e;exact I1.fpOk (Nat.le_refl _) (I1.hok.fresh (Nat.le_refl _))
 ·exact q1.elim
noncomputable def kQ (a:EX K):IX K where
 t:=λE σ H R=>a.t E σ H λx H1=>oC K x H1 R
 tm:=λ_=>true
 m:=a.m
 q:=a.q
 ok:=λX C E tg e hK G hE hq _ hm=>by
  subst hK;intro pins s σ H R I h;exact bS (a.ok X C E e rfl G hE hq hm pins s σ H _ I h) λv s1 ⟨x,H1,I1,r1,q1⟩=>JJ I1 r1 q1
 fs:=λC e env x hm=>vQ (a.sok C e hm) x
noncomputable def HJ:List V->Hp->(It->Hp->Prop)->Prop
 |[.int j],H,R=>(-(2 ^ 62)<=j/\j<2 ^ 62)/\R (FP 0 j.toNat) H
 |[.int i,.int j],H,R=>(-(2 ^ 62)<=i/\i<2 ^ 62/\-(2 ^ 62)<=j/\j<2 ^ 62)/\R (FP i (j - i).toNat) H
 |_,_,_=>False
noncomputable def tZ (a:EX K) (as:List (EX K)):IX K where
 t:=λE σ H R=>fQ (a::as) E σ H λvs H1=>HJ vs H1 R
 tm:=λ_=>true
 m:=λC e=>match e with
  | .Call (.Name y _) es [] _=>qL C "range" y&&kL (a::as) C es
  |_=>false
 q:=λR=>tM (a::as) R
 ok:=λX C E tg e hK G hE hq _ hm=>by
  subst hK;cases e with
  |Call f es ks p=>
   cases f with
   |Name y py=>
    cases ks with
    |nil=>
     simp only [and_eq_true] at hm;obtain ⟨h1,h2⟩:=hm;have e:=cJ h1;subst e;obtain ⟨g,d⟩:=cI G h1;cases es with
     |nil=>cases h2
     |cons e es=>
      intro pins s σ H R I h;refine Call_ (eS I g (G.bl _ (by decide+kernel)) boot_range (PyProof.Rows.callWith_type1 (bS (eG G hE (a::as) (e::es) hq h2 p pins s σ H _ I h) λus s1 ⟨vs,H1,I1,r1,q1⟩=>?_) (bB (a.sok C e (aH h2).1)) (bK as es (aH h2).2)));replace q1:HJ vs H1 R:=q1;unfold HJ at q1;split at q1
      ·cases r1 with
       |cons r rr=>
        cases rr;obtain ⟨t,rfl⟩:=r;exact call_range_1 (vV I1 (by lia) (by lia) q1.1.1 q1.1.2 (by simpa using q1.2))
      ·cases r1 with
       |cons r rr=>
        cases rr with
        |cons r' rr=>
         cases rr;obtain ⟨t,rfl⟩:=r;obtain ⟨t',rfl⟩:=r';exact call_range_2 (vV I1 q1.1.1 q1.1.2.1 q1.1.2.2.1 q1.1.2.2.2 q1.2)
      ·exact q1.elim
    |cons _ _=>cases hm
   |_=>exact ff hm
  |_=>exact ff hm
 fs:=λC e env x hm=>by cases e with|Call f es ks p=>rfl|_=>exact ff hm
noncomputable def HH (K:Fg):List V->Hp->(It->Hp->Prop)->Prop
 |[.ref p,.ref q],H,R=>((∃xs,aR K H p xs)/\∃ys,aR K H q ys)/\R (Eg K p q) H
 |_,_,_=>False
noncomputable def PN (a b:EX K):IX K where
 t:=λE σ H R=>fQ [a,b] E σ H λvs H1=>HH K vs H1 R
 tm:=λe=>match e with
  | .Tuple _ _ _=>true
  |_=>false
 m:=λC e=>match e with
  | .Call (.Name y _) es [] _=>qL C "zip" y&&kL [a,b] C es
  |_=>false
 q:=λR=>tM [a,b] R
 ok:=λX C E tg e hK G hE hq ht hm=>by
  subst hK;cases tg with
  |Tuple ts tk tp=>
   cases e with
   |Call f es ks p=>
    cases f with
    |Name y py=>
     cases ks with
     |nil=>
      simp only [and_eq_true] at hm;obtain ⟨h1,h2⟩:=hm;have e:=cJ h1;subst e;obtain ⟨g,d⟩:=cI G h1;cases es with
      |nil=>cases h2
      |cons e es=>
       intro pins s σ H R I h;refine Call_ (eS I g (G.bl _ (by decide+kernel)) boot_zip (PyProof.Rows.callWith_type1 (bS (eG G hE [a,b] (e::es) hq h2 p pins s σ H _ I h) λus s1 ⟨vs,H1,I1,r1,q1⟩=>?_) (bB (a.sok C e (aH h2).1)) (bK [b] es (aH h2).2)));replace q1:HH X.K vs H1 R:=q1;unfold HH at q1;split at q1
       ·rename_i p1 p2;cases r1 with
        |cons r rr=>
         cases rr with
         |cons r' rr=>
          cases rr;cases r;cases r';obtain ⟨⟨⟨xs,hx⟩,ys,hy⟩,q⟩:=q1;obtain ⟨ia,ra,pa,_⟩:=I1.list hx;obtain ⟨ib,rb,pb,_⟩:=I1.list hy;refine call_zip_2 pa.isList pb.isList λh' z1 z2 z3 z4 z5 z6 kp=>?_;refine wpAny_pyIter_zip (s:={s1 with heap:=h'}) z1 ?_;have Z:AL (s1.heap.objs.size+4) (s1.heap.objs.size+2) (s1.heap.objs.size+3) s1.heap.objs.size (s1.heap.objs.size+1):=by constructor<;>simp<;>lia
          have big:∀c∈[s1.heap.objs.size+4,s1.heap.objs.size+2,s1.heap.objs.size+3,s1.heap.objs.size,s1.heap.objs.size+1],s1.heap.objs.size<=c:=by
           intro c hc;simp only [mem_cons,not_mem_nil,or_false] at hc;lia
          exact ⟨_,[s1.heap.objs.size+4,s1.heap.objs.size+2,s1.heap.objs.size+3,s1.heap.objs.size,s1.heap.objs.size+1],_,_,H1,rfl,I1.kept (t':=s1.toks) kp,GI p1 p2 _ _ _ _ _ Z,⟨z1,z2,⟨_,_,z3⟩,z4,z5⟩,λc hc=>I1.fpOk (big c hc) (I1.hok.fresh (big c hc)),q⟩
       ·exact q1.elim
     |cons _ _=>cases hm
    |_=>exact ff hm
   |_=>exact ff hm
  |_=>cases ht
 fs:=λC e env x hm=>by cases e with|Call f es ks p=>rfl|_=>exact ff hm
structure TX (K:Fg) where
 g:TG
 m:Sc->Expr->Bool
 ok:∀(X:Cx) (C:Sc) (e:Expr),X.K=K->Gd X C->m C e=true->PG X e g
noncomputable def MW (C:Sc) (i:Nat) (x:Str):Bool:=C.N[i]?==some x&&(C.nm.lookup x==some .local || (C.nm.lookup x==some .cell&&(C.fb || C.ow.contains x)))
theorem sW {X:Cx} {C:Sc} {i:Nat} {x:Str} (G:Gd X C) (h:MW C i x=true):X.N[i]?=some x/\Loc X.env.scope x/\(X.fn x=true\/X.env.scope.names.lookup x=some .local):=by
 unfold MW at h;simp only [and_eq_true,or_eq_true] at h;obtain ⟨h1,h2⟩:=h;refine ⟨by rw[G.N];exact eq_of_beq h1,?_,?_⟩
 ·rcases h2 with h2|⟨h2,_⟩
  ·exact .inl (by rw[G.nm];exact eq_of_beq h2)
  ·exact .inr (by rw[G.nm];exact eq_of_beq h2)
 ·rcases h2 with h2|⟨_,h2⟩
  ·exact .inr (by rw[G.nm];exact eq_of_beq h2)
  ·rcases h2 with h2|h2
   ·exact .inl (G.fb h2 x)
   ·exact .inl (G.ow x (List.contains_iff_mem.mp h2))
noncomputable def kJ (i:Nat):TX K where
 g:=BS i
 m:=λC e=>match e with
  | .Name x _=>MW C i x
  |_=>false
 ok:=λX C e hK G hm=>by
  cases e with
  |Name x p=>
   obtain ⟨h1,h2,h3⟩:=sW G hm;exact BF (by rw[G.N];exact G.nd) h1 h2 h3
  |_=>exact ff hm
noncomputable def Ep:List Nat->QM
 |[]=>Dk
 |i::is=>RV (BS i) (Ep is)
noncomputable def Bk:List Nat->Sc->List Expr->Bool
 |[],_,[]=>true
 |i::is,C,.Name x _::es=>MW C i x&&Bk is C es
 |_,_,_=>false
theorem II {X:Cx} {C:Sc} (G:Gd X C):∀(is:List Nat) (es:List Expr),Bk is C es=true->YO X es (Ep is)/\(assignEach es X.env).length=is.length/\(assignEach es X.env).findIdx? (·.1)=none
 |[],[],_=>⟨NO,rfl,rfl⟩
 |[],_::_,hm=>nomatch hm
 |_::_,[],hm=>nomatch hm
 |i::is,e::es,hm=>by
  cases e with
  |Name x p=>
   have hm':(MW C i x&&Bk is C es)=true:=hm;simp only [and_eq_true] at hm';obtain ⟨h1,h2,h3⟩:=II G is es hm'.2;obtain ⟨g1,g2,g3⟩:=sW G hm'.1;refine ⟨HV (BF (by rw[G.N];exact G.nd) g1 g2 g3) h1 rfl,?_,?_⟩
   ·show (assignEach es X.env).length+1=is.length+1;rw[h2]
   ·show List.findIdx? (·.1) ((false,assign (.Name x p) X.env)::assignEach es X.env)=none;rw[List.findIdx?_cons,h3];rfl
  |_=>exact nomatch hm
noncomputable def CT (is:List Nat):TX K where
 g:=Dj K is.length (Ep is)
 m:=λC e=>match e with
  | .Tuple es _ _=>C.cm&&Bk is C es
  |_=>false
 ok:=λX C e hK G hm=>by
  subst hK;cases e with
  |Tuple es k p=>
   simp only [and_eq_true] at hm;obtain ⟨h1,h2,h3⟩:=II G is es hm.2;exact UI (G.calm hm.1) h1 h2 h3
  |_=>exact ff hm
structure SX (K:Fg) where
 t:XS->TS
 m:Sc->Stmt->Bool
 q:Rt->Prop
 ok:∀(X:Cx) (C:Sc) (E:XS) (s:Stmt),X.K=K->Gd X C->sJ X E->q (dM X)->m C s=true->PS X s (t E)
noncomputable def lW:List (SX K)->XS->TS
 |[],_=>QX
 |s::ss,E=>ZM (s.t E) (lW ss E)
noncomputable def FN:List (SX K)->Sc->List Stmt->Bool
 |[],_,[]=>true
 |s::ss,C,e::es=>s.m C e&&FN ss C es
 |_,_,_=>false
noncomputable def HN:List (SX K)->Rt->Prop
 |[],_=>True
 |s::ss,R=>s.q R/\HN ss R
theorem qZ {X:Cx} {C:Sc} {E:XS} (G:Gd X C) (hE:sJ X E):∀(xs:List (SX X.K)) (es:List Stmt),HN xs (dM X)->FN xs C es=true->XZ X es (lW xs E)
 |[],[],_,_=>NI
 |[],_::_,_,hm=>nomatch hm
 |_::_,[],_,hm=>nomatch hm
 |x::xs,e::es,hq,hm=>by
  have hm':(x.m C e&&FN xs C es)=true:=hm;simp only [and_eq_true] at hm';exact HP (x.ok X C E e rfl G hE hq.1 hm'.1) (qZ G hE xs es hq.2 hm'.2)
noncomputable def set (i:Nat) (a:EX K):SX K where
 t:=λE D σ H=>a.t E σ H λx H1=>D.nx (σ.set i (some x)) H1
 m:=λC s=>match s with
  | .Assign [.Name x _] e _=>decide (a.s≠.cp)&&(MW C i x&&a.m C e)
  |_=>false
 q:=a.q
 ok:=λX C E s hK G hE hq hm=>by
  split at hm
  ·rename_i x px e p;simp only [and_eq_true] at hm;obtain ⟨h1,h2,h3⟩:=hm;obtain ⟨g1,g2,g3⟩:=sW G h2;exact HQ (by rw[G.N];exact G.nd) g1 g2 (a.ok X C E e hK G hE hq h3) (nZ (a.sok C e h3) (of_decide_eq_true h1)) g3
  ·cases hm
noncomputable def ZX (tg:TX K) (a:EX K):SX K where
 t:=λE=>TB (a.t E) tg.g
 m:=λC s=>match s with
  | .Assign [.Tuple ts k p'] e _=>(match e with| .Tuple ..=>false|_=>true)&&(decide (a.s≠.cp)&&(tg.m C (.Tuple ts k p')&&a.m C e))
  |_=>false
 q:=a.q
 ok:=λX C E s hK G hE hq hm=>by
  split at hm
  ·rename_i ts k p' e p;simp only [and_eq_true] at hm;obtain ⟨h0,h1,h2,h3⟩:=hm;refine HR (a.ok X C E e hK G hE hq h3) (tg.ok X C _ hK G h2) (vP (a.sok C e h3) (of_decide_eq_true h1)) ?_ rfl;cases e with
   |Tuple _ _ _=>cases h0
   |_=>rfl
  ·cases hm
noncomputable def TR (o i v:V) (H:Hp) (Q:Hp->Prop):Prop:=RE o i v H Q\/∃a H',o=.ref a/\FL H a i v H'/\Q H'
theorem UC {X:Cx} (hu:X.A.units+1<cLine):YA X TR:=by
 intro pins s σ H o i v ov iv u Q I ro ri rv h;rcases h with h|⟨a,H',rfl,g,q⟩
 ·exact set_list pins s σ H o i v ov iv u Q I ro ri rv h
 ·obtain rfl:ov=Value.ref a:=ro;exact EO hu I g ri rv λs4 I4=>⟨H',I4,q⟩
noncomputable def put (o i a:EX K):SX K where
 t:=λE D σ H=>a.t E σ H λx H1=>o.t E σ H1 λy H2=>i.t E σ H2 λz H3=>TR y z x H3 λH4=>D.nx σ H4
 m:=λC s=>match s with
  | .Assign [.Subscript l r _] e _=>decide (a.s≠.cp)&&((match r with| .Slice ..=>false|_=>true)&&(o.m C l&&(i.m C r&&a.m C e)))
  |_=>false
 q:=λR=>o.q R/\i.q R/\a.q R
 ok:=λX C E s hK G hE hq hm=>by
  split at hm
  ·rename_i l r p' e p;simp only [and_eq_true] at hm;obtain ⟨h1,h0,h2,h3,h4⟩:=hm;refine HR (a.ok X C E e hK G hE hq.2.2 h4) (UJ (o.ok X C E l hK G hE hq.1 h2) (i.ok X C E r hK G hE hq.2.1 h3) (UC (by have:=G.hu;lia)) ?_) (vP (a.sok C e h4) (of_decide_eq_true h1)) ?_ rfl
   ·intro v;cases r with
    |Slice _ _ _ _=>cases h0
    |_=>rfl
   ·cases e<;>rfl
  ·cases hm
noncomputable def ex (a:EX K):SX K where
 t:=λE D σ H=>a.t E σ H λ_ H1=>D.nx σ H1
 m:=λC s=>match s with
  | .Expr e _=>decide (a.s≠.cp)&&a.m C e
  |_=>false
 q:=a.q
 ok:=λX C E s hK G hE hq hm=>by
  cases s with
  |Expr e p=>
   simp only [and_eq_true] at hm;exact NJ (a.ok X C E e hK G hE hq hm.2) (nZ (a.sok C e hm.2) (of_decide_eq_true hm.1))
  |_=>exact ff hm
noncomputable def ret (a:EX K):SX K where
 t:=λE D σ H=>a.t E σ H D.rt
 m:=λC s=>match s with
  | .Return (some e) _=>a.m C e
  |_=>false
 q:=a.q
 ok:=λX C E s hK G hE hq hm=>by
  cases s with
  |Return o p=>
   cases o with
   |some e=>exact UG (a.ok X C E e hK G hE hq hm)
   |none=>cases hm
  |_=>exact ff hm
noncomputable def wX (c:EX K) (t f:List (SX K)):SX K where
 t:=λE D σ H=>c.tt E σ H λb H1=>br b (lW t E D σ H1) (lW f E D σ H1)
 m:=λC s=>match s with
  | .If e x y _=>c.m C e&&(FN t C x&&FN f C y)
  |_=>false
 q:=λR=>c.q R/\HN t R/\HN f R
 ok:=λX C E s hK G hE hq hm=>by
  subst hK;cases s with
  |If e x y p=>
   simp only [and_eq_true] at hm;obtain ⟨h1,h2,h3⟩:=hm;intro pins s σ H D I h;refine wpAny_If (bS (c.okT X C E e rfl G hE hq.1 h1 pins s σ H _ I h) λd s1 ⟨H1,I1,q1⟩=>?_);cases d with
   |true=>exact qZ G hE t x hq.2.1 h2 pins s1 σ H1 D I1 (q1.1 rfl)
   |false=>exact qZ G hE f y hq.2.2 h3 pins s1 σ H1 D I1 (q1.2 rfl)
  |_=>exact ff hm
noncomputable def iR (tg:TX K) (it:IX K) (b:List (SX K)):SX K where
 t:=λE=>ZP (it.t E) tg.g (lW b E)
 m:=λC s=>match s with
  | .For x e y [] _=>(C.cm&&it.tm x)&&(tg.m C x&&(it.m C e&&FN b C y))
  |_=>false
 q:=λR=>it.q R/\HN b R
 ok:=λX C E s hK G hE hq hm=>by
  subst hK;cases s with
  |For x e y z p=>
   cases z with
   |nil=>
    simp only [and_eq_true] at hm;obtain ⟨⟨hcm,h0⟩,h1,h2,h3⟩:=hm;exact UH hE.own (G.calm hcm) (it.ok X C E x e rfl G hE hq.1 h0 h2) (tg.ok X C x rfl G h1) (qZ G hE b y hq.2 h3) (λv=>it.fs C e X.env v h2)
   |cons _ _=>cases hm
  |_=>exact ff hm
noncomputable def Hm (c:TT) (tb:TS):TS:=λD σ H=>∃W:Nat->St->Hp->Prop,(∃m,W m σ H)/\∀m σ H,W m σ H->
 c σ H λb H1=>br b (∃N:St->Hp->Prop,(∀σ' H',N σ' H'->∃m',m'<m/\W m' σ' H')/\tb {D with nx:=N,ct:=N,bk:=D.nx} σ H1) (D.nx σ H1)
theorem An {X:Cx} {c:Expr} {body:List Stmt} {tc:TT} {tb:TS} {pos:Pos} (hp:PassesOwn (model X.prog X.w) X.A X.env X.xe) (hc:PT X c tc) (hb:XZ X body tb):PS X (.While c body [] pos) (Hm tc tb):=by
 intro pins s σ H D I h;obtain ⟨W,⟨m0,w0⟩,turn⟩:=h;refine wpAny_While (codeAny_whileLoop (λn s'=>∃σ' H',Inv X pins σ' H' s'/\W n σ' H') ?_ m0 ⟨σ,H,I,w0⟩);rintro n s1 ⟨σ1,H1,I1,w1⟩;refine wpAny_passesOwn hp (bS (hc pins s1 σ1 H1 _ I1 (turn n σ1 H1 w1)) λb s2 ⟨H2,I2,q2⟩=>?_);cases b with
 |true=>
  obtain ⟨N,hN,q2⟩:=q2.1 rfl;rw[if_pos rfl];refine wpAny_passesOwn hp (bS (hb pins s2 σ1 H2 _ I2 q2) λf s3 q3=>?_);cases f with
  |next=>
   obtain ⟨σ3,H3,I3,n3⟩:=q3;obtain ⟨m',hm,w3⟩:=hN σ3 H3 n3;exact ⟨m',hm,σ3,H3,I3,w3⟩
  |cont=>
   obtain ⟨σ3,H3,I3,n3⟩:=q3;obtain ⟨m',hm,w3⟩:=hN σ3 H3 n3;exact ⟨m',hm,σ3,H3,I3,w3⟩
  |brk=>exact q3
  |ret v=>exact q3
 |false=>
  rw[if_neg Bool.false_ne_true];exact wpAny_execs_nil ⟨σ1,H2,I2,q2.2 rfl⟩
noncomputable def YX (c:EX K) (b:List (SX K)):SX K where
 t:=λE=>Hm (c.tt E) (lW b E)
 m:=λC s=>match s with
  | .While e y [] _=>c.m C e&&FN b C y
  |_=>false
 q:=λR=>c.q R/\HN b R
 ok:=λX C E s hK G hE hq hm=>by
  subst hK;cases s with
  |While e y z p=>
   cases z with
   |nil=>
    simp only [and_eq_true] at hm;exact An hE.own (c.okT X C E e rfl G hE hq.1 hm.1) (qZ G hE b y hq.2 hm.2)
   |cons _ _=>cases hm
  |_=>exact ff hm
noncomputable def rC (nm names:List (Str × NameKind)):List (Str × NameKind):=names.map λ(n,k)=>if (k==NameKind.free&&nm.lookup n==some .cell) then (n,NameKind.cell) else (n,k)
noncomputable def QE (C:Sc) (sc:Scope):List Str->List Nat->Bool
 |[],[]=>true
 |x::xs,i::is=>(C.N[i]?==some x&&(C.nm.lookup x==some .cell&&sc.names.lookup x==some .free))&&QE C sc xs is
 |_,_=>false
theorem CC {X:Cx} {C:Sc} {sc:Scope} (G:Gd X C):∀(xs:List Str) (is:List Nat),QE C sc xs is=true->FQ X sc xs is
 |[],[],_=>.nil
 |[],_::_,h=>nomatch h
 |_::_,[],h=>nomatch h
 |x::xs,i::is,h=>by
  have h':((C.N[i]?==some x&&(C.nm.lookup x==some .cell&&sc.names.lookup x==some .free))&&QE C sc xs is)=true:=h;simp only [and_eq_true] at h';obtain ⟨⟨h1,h2,h3⟩,h4⟩:=h';exact .cons (by rw[G.N];exact eq_of_beq h1) (by show X.env.scope.names.lookup x=_;rw[G.nm];exact eq_of_beq h2) (eq_of_beq h3) (CC G xs is h4)
noncomputable def RY (C:Sc) (sc:Scope) (own caps:List Str) (is:List Nat):Bool:=
 (decide (sc.kind=.function)&&decide (own++caps).Nodup)&&((sc.names.all λy=>y.2 != .cell || sc.names.lookup y.1==some .cell)&&((sc.names.all λy=>y.2 != .free || C.nm.lookup y.1==some .cell)&&((sc.names.all λy=>y.2 != .local || sc.names.lookup y.1==some .local)&&QE C sc caps is)))
theorem rY (env:Env):∀(names:List (Str × NameKind)) (acc:List (Str × Addr)),(∀y∈names,y.2=.free->∃c,env.cells.lookup y.1=some c)->
  (forIn names acc (λ(x:Str × NameKind) (r:List (Str × Addr))=>(if (x.2==NameKind.free)=true then (do let c <-cellOf env x.1;pure (ForInStep.yield ((x.1,c)::r))) else pure (ForInStep.yield r):Sem (ForInStep (List (Str × Addr))))))=
   (pure (((names.filter λx=>x.2==.free).filterMap λx=>(env.cells.lookup x.1).map λc=>(x.1,c)).reverse++acc):Sem (List (Str × Addr)))
 |[],acc,_=>rfl
 | (n,k)::r,acc,h=>by
  have ih:=λacc'=>rY env r acc' λy hy=>h y (mem_cons_of_mem _ hy);rw[forIn_cons];cases hk:(k==NameKind.free) with
  |false=>
   rw[if_neg Bool.false_ne_true];have e:((n,k)::r).filter (λx=>x.2==NameKind.free)=r.filter (λx=>x.2==NameKind.free):=by rw[filter_cons,if_neg (by show ¬(k==NameKind.free)=true;rw[hk];exact Bool.false_ne_true)]
   rw[e];exact ih acc
  |true=>
   rw[if_pos rfl];obtain ⟨c,hc⟩:=h (n,k) mem_cons_self (eq_of_beq hk);have e:((n,k)::r).filter (λx=>x.2==NameKind.free)=(n,k)::r.filter (λx=>x.2==NameKind.free):=by rw[filter_cons,if_pos (by show (k==NameKind.free)=true;exact hk)]
   have hcell:cellOf env n=pure c:=by
    unfold cellOf;rw[hc]
   rw[e,List.filterMap_cons,hcell];have hc':(env.cells.lookup n)=some c:=hc;simp only [hc',Option.map_some,List.reverse_cons,List.append_assoc,List.singleton_append];exact ih ((n,c)::acc)
theorem QC {X:Cx} {sc:Scope} (ok:X.Ok) (hfr:(sc.names.all λy=>y.2 != .free || X.env.kindOf y.1==some .cell)=true):closureFor sc X.env=pure (xN sc.names X.env):=by
 have h:=rY X.env sc.names [] λy hy hf=>by
  have z:=all_eq_true.mp hfr y hy;simp only [or_eq_true] at z;rcases z with z|z
  ·rw[hf] at z;cases z
  ·exact ok.has y.1 (.inl (eq_of_beq z))
 rw[append_nil] at h;have h3:closureFor sc X.env=(forIn sc.names ([]:List (Str × Addr)) (λ(x:Str × NameKind) (r:List (Str × Addr))=>(if (x.2==NameKind.free)=true then (do let c <-cellOf X.env x.1;pure (ForInStep.yield ((x.1,c)::r))) else pure (ForInStep.yield r):Sem (ForInStep (List (Str × Addr))))) >>=λr=>pure r):=rfl;rw[h3,h];rfl
noncomputable def IB (names:List (Str × NameKind)):List Str:=(names.filter λy=>names.lookup y.1==some .cell).map (·.1)
theorem XO {X:Cx} {C:Sc} {own caps:List Str} {sc:Scope} {Ca:Addr} {s₀:Shared} {H₀:Hp} {ex:List Addr} (G:Gd X C) (hcm:C.cm=true) (hk:X.env.scope.kind=.function) (hnd:(own++caps).Nodup):Gd (FI X (own++caps) sc Ca s₀ H₀ ex) ⟨own++caps,rC C.nm sc.names,.own (IB sc.names)⟩ where
 N:=rfl
 nm:=by
  show (sc.names.map λ(n,k)=>if (k==NameKind.free&&X.env.scope.kind==.function&&X.env.kindOf n==some .cell) then (n,NameKind.cell) else (n,k))=rC C.nm sc.names;unfold rC;rw[hk];show (sc.names.map λ(n,k)=>if (k==NameKind.free&&true&&X.env.scope.names.lookup n==some NameKind.cell) then (n,NameKind.cell) else (n,k))=_;rw[G.nm];simp only [Bool.and_true]
 nd:=hnd
 calm:=λ_=>G.calm hcm
 bl:=G.bl
 top:=λz=>nomatch z
 hu:=G.hu
 fb:=λh=>nomatch h
 ow:=λx hx=>by
  obtain ⟨y,hy,rfl⟩:=mem_map.mp (show x∈IB sc.names from hx);exact (mem_filter.mp hy).2
theorem ZC {X:Cx} (h:X.xe=λ_ _=>False):sJ X E0:=⟨λ_ _ _ _ _ _ _ z=>(xY.no z).elim,λ_ _ _ _ _ _ _ _ _ _ _ _ _ _ _ _ _ _ _ z=>z.elim,by rw[h];exact PassesOwn.never⟩
structure Ez (K:Fg) where
 t:XS->TE
 m:Sc->Expr->Bool
 q:Rt->Prop
 sok:∀(C:Sc) (e:Expr),m C e=true->gG e=some .cp/\vB e=true
 ok:∀(X:Cx) (C:Sc) (E:XS) (e:Expr),X.K=K->Gd X C->sJ X E->q (dM X)->m C e=true->PE X e (t E)
 okS:∀(X:Cx) (C:Sc) (E:XS) (i:Nat) (x:Str) (p' pos:Pos) (e:Expr),X.K=K->Gd X C->sJ X E->q (dM X)->m C e=true->MW C i x=true->PS X (.Assign [.Name x p'] e pos) (λD σ H=>t E σ H λv H1=>D.nx (σ.set i (some v)) H1)
noncomputable def cT (c:Option (EX K)):TT:=match c with
 |none=>λ_ H Q=>Q true H
 |some c=>c.tt E0
noncomputable def mC (c:Option (EX K)) (C:Sc) (ifs:List Expr):Bool:=match c,ifs with
 |none,[]=>true
 |some c,[e]=>c.m C e
 |_,_=>false
noncomputable def qC (c:Option (EX K)) (R:Rt):Prop:=match c with
 |none=>True
 |some c=>c.q R
theorem GP {X:Cx} {C:Sc} (G:Gd X C) (hE:sJ X E0):∀(c:Option (EX X.K)) (ifs:List Expr),qC c (dM X)->mC c C ifs=true->sL X ifs (cT c)
 |none,[],_,_=>.nil
 |none,_::_,_,hm=>nomatch hm
 |some _,[],_,hm=>nomatch hm
 |some c,[e],hq,hm=>.one (c.okT X C E0 e rfl G hE hq hm)
 |some _,_::_::_,_,hm=>nomatch hm
noncomputable def YK (c:Option (EX K)) (elt:EX K) (tg:TX K) (it:IX K) (own caps:List Str) (is:List Nat) (C:Sc) (e:Expr):Bool:=match e with
 | .ListComp l [⟨x,y,ifs,asy⟩] sc _=>((C.cm&&decide (asy=0))&&it.tm x)&&(RY C sc own caps is&&(it.m C y&&(tg.m ⟨own++caps,rC C.nm sc.names,.own (IB sc.names)⟩ x&&(mC c ⟨own++caps,rC C.nm sc.names,.own (IB sc.names)⟩ ifs&&elt.m ⟨own++caps,rC C.nm sc.names,.own (IB sc.names)⟩ l))))
 |_=>false
theorem KZ {X:Cx} {C:Sc} {E:XS} {e:Expr} {c:Option (EX X.K)} {elt:EX X.K} {tg:TX X.K} {it:IX X.K} {own caps:List Str} {is:List Nat} (G:Gd X C) (hE:sJ X E) (hq:it.q (dM X)/\elt.q (dM X)/\qC c (dM X)) (hm:YK c elt tg it own caps is C e=true):
  ∃l x y ifs sc p,e=.ListComp l [⟨x,y,ifs,0⟩] sc p/\∀(use:Option (Value->Sem Unit)) (p2:Pos) (pins:List (Addr × Obj)) (s:Shared) (σ:St) (H:Hp) (Q:VK) (QQ:Value->Shared->Prop),Inv X pins σ H s->nN (it.t E) tg.g (cT c) (elt.t E0) own.length is σ H Q->
   (∀(D C:Addr) (H':Hp) (s':Shared) (m:Str->Option Value),Inv X pins σ H' s'->s'.heap.Ns C m->H' C=none->X.s₀.heap.objs.size<=C->X.env.locals≠C->(∀x c,X.env.cells.lookup x=some c->c≠C)->(∀p∈X.pn++pins,p.1≠C)->Q (.ref D) H'->
    compPost (model X.prog X.w) X.A X.xe use QQ (.ref D) C (.ok .next) s')->
   wpAny (model X.prog X.w) X.A (comprehension (.ListComp l [⟨x,y,ifs,0⟩] sc p) sc X.env p2 (newList []) false (eval y X.env) use) QQ X.xe s:=by
 unfold YK at hm;cases e with
 |ListComp l gs sc p=>
  match gs,hm with
  |[⟨x,y,ifs,asy⟩],hm=>
   simp only [and_eq_true] at hm;obtain ⟨⟨⟨hcm,h1⟩,h0⟩,h2,h3,h4,h6,h5⟩:=hm;have e1:=of_decide_eq_true h1;subst e1;unfold RY at h2;simp only [and_eq_true] at h2;obtain ⟨⟨k1,k2⟩,k3,k4,k5,k6⟩:=h2;have k4':(sc.names.all λy=>y.2 != .free || X.env.kindOf y.1==some .cell)=true:=by
    show (sc.names.all λy=>y.2 != .free || X.env.scope.names.lookup y.1==some .cell)=true;rw[G.nm];exact k4
   refine ⟨l,x,y,ifs,sc,p,rfl,λuse p2 pins s σ H Q QQ I h fin=>?_⟩;have hg:=λCa s₀ H₀ ex=>XO (own:=own) (caps:=caps) (sc:=sc) (Ca:=Ca) (s₀:=s₀) (H₀:=H₀) (ex:=ex) G hcm I.ok.kind (of_decide_eq_true k2);refine EV (own:=own) (caps:=caps) (is:=is) use (G.calm hcm) (it.ok X C E x y rfl G hE hq.1 h0 h3) (λCa s₀ H₀ ex=>tg.ok _ _ x rfl (hg Ca s₀ H₀ ex) h4)
    (λCa s₀ H₀ ex=>GP (X:=FI X (own++caps) sc Ca s₀ H₀ ex) (hg Ca s₀ H₀ ex) (ZC rfl) c ifs hq.2.2 h6) (λCa s₀ H₀ ex=>elt.ok _ _ E0 l rfl (hg Ca s₀ H₀ ex) (ZC rfl) hq.2.1 h5) (CC G caps is k6) (of_decide_eq_true k1)
    (λz hz=>?_) k4' (QC I.ok k4') (λz hz hl=>?_) (λv=>it.fs C y X.env v h3) I h fin
   ·have:=all_eq_true.mp k3 z hz;simp only [or_eq_true] at this;intro hl;rcases this with q|q
    ·rw[hl] at q;cases q
    ·exact eq_of_beq q
   ·have:=all_eq_true.mp k5 z hz;simp only [or_eq_true] at this;rcases this with q|q
    ·rw[hl] at q;cases q
    ·exact eq_of_beq q
 |_=>exact ff hm
theorem RX {X:Cx} {C:Sc} {E:XS} {e:Expr} {c:Option (EX X.K)} {elt:EX X.K} {tg:TX X.K} {it:IX X.K} {own caps:List Str} {is:List Nat} (G:Gd X C) (hE:sJ X E) (hq:it.q (dM X)/\elt.q (dM X)/\qC c (dM X)) (hm:YK c elt tg it own caps is C e=true):
  PE X e (nN (it.t E) tg.g (cT c) (elt.t E0) own.length is):=by
 obtain ⟨l,x,y,ifs,sc,p,rfl,R⟩:=KZ G hE hq hm;intro pins s σ H Q I h;rw[eval_ListComp];refine R none _ pins s σ H Q _ I h λD C H' s' m I' hn hC h1 h2 h3 h4 q=>?_;exact ⟨m,hn,λh' hs'=>⟨.ref D,H',Inv.but I' hs' h1 h2 h3 h4 hC,rfl,q⟩⟩
theorem Dt {X:Cx} {C:Sc} {E:XS} {e:Expr} {i:Nat} {nm:Str} {p' pos:Pos} {c:Option (EX X.K)} {elt:EX X.K} {tg:TX X.K} {it:IX X.K} {own caps:List Str} {is:List Nat} (G:Gd X C) (hE:sJ X E) (hq:it.q (dM X)/\elt.q (dM X)/\qC c (dM X)) (hm:YK c elt tg it own caps is C e=true) (hst:MW C i nm=true):
  PS X (.Assign [.Name nm p'] e pos) (λD σ H=>nN (it.t E) tg.g (cT c) (elt.t E0) own.length is σ H λv H1=>D.nx (σ.set i (some v)) H1):=by
 have P:=RX G hE hq hm;obtain ⟨g1,g2,g3⟩:=sW G hst;have nd:X.N.Nodup:=by rw[G.N];exact G.nd
 obtain ⟨l,x,y,ifs,sc,p,rfl,R⟩:=KZ G hE hq hm;obtain ⟨b,hb⟩:∃b:Bool,swapsWith (.ListComp l [⟨x,y,ifs,0⟩] sc p) (some (.Name nm p')) pos.line X.env=pure b:=⟨_,rfl⟩;cases b with
 |false=>exact HQ nd g1 g2 P hb g3
 |true=>
  intro pins s σ H D I h;rw[exec_Assign_Name_used _ _ _ _ hb];refine wpAny_bind (wpAny_standAt (wpAny_bind ?_));show wpAny _ _ (do let _ <-comprehension (.ListComp l [⟨x,y,ifs,0⟩] sc p) sc X.env _ (newList []) false (eval y X.env) (some (assign (.Name nm p') X.env))) _ _ s;refine wpAny_bind (wpAny_mono (R (some (assign (.Name nm p') X.env)) _ pins s σ H _ (λ_ s'=>SP X pins D .next s') I h λA C H' s' m I' hn hC h1 h2 h3 h4 q=>?_) (λ_ s' hq=>wpAny_pure (wpAny_pure hq)) λ_ _ z=>z);show wpAny _ _ (assign (.Name nm p') X.env (.ref A)) _ _ s';refine wpAny_assign_Name (qY I' nd g1 g2 (v:=.ref A) rfl (λs'' I'' ⟨a,sb,ha⟩=>?_) g3);have hne:C≠a:=by
   rcases ha with ha|ha
   ·rw[ha];exact h2.symm
   ·exact (h3 _ _ ha).symm
  exact ⟨m,hn.sameBut sb hne,λh' hs'=>⟨_,H',Inv.but I'' hs' h1 h2 h3 h4 hC,q⟩⟩
noncomputable def BZ (c:Option (EX K)) (elt:EX K) (tg:TX K) (it:IX K) (own caps:List Str) (is:List Nat):Ez K where
 t:=λE=>nN (it.t E) tg.g (cT c) (elt.t E0) own.length is
 m:=YK c elt tg it own caps is
 q:=λR=>it.q R/\elt.q R/\qC c R
 sok:=λC e hm=>by
  unfold YK at hm;cases e with
  |ListComp l gs sc p=>exact ⟨rfl,rfl⟩
  |_=>exact ff hm
 ok:=λX C E e hK G hE hq hm=>by subst hK;exact RX G hE hq hm
 okS:=λX C E i x p' pos e hK G hE hq hm hst=>by subst hK;exact Dt G hE hq hm hst
noncomputable def Ji (c:Ez K):EX K:=RJ c.t c.m c.q .cp c.ok (λC e hm=>(c.sok C e hm).1) (λC e hm=>(c.sok C e hm).2)
noncomputable def setC (i:Nat) (c:Ez K):SX K where
 t:=λE D σ H=>c.t E σ H λv H1=>D.nx (σ.set i (some v)) H1
 m:=λC s=>match s with
  | .Assign [.Name x _] e _=>MW C i x&&c.m C e
  |_=>false
 q:=c.q
 ok:=λX C E s hK G hE hq hm=>by
  split at hm
  ·rename_i x px e p;simp only [and_eq_true] at hm;exact c.okS X C E i x _ p e hK G hE hq hm.2 hm.1
  ·cases hm
noncomputable def comp (elt:EX K) (tg:TX K) (it:IX K) (own caps:List Str) (is:List Nat):EX K:=Ji (BZ none elt tg it own caps is)
noncomputable def YH (P:Program) (w:World) (K:Fg) (mg:Str->Option Value) (base:Heap) (k:Nat) (x:Str) (sp:Sp):Prop:=
 ∃(f:Addr) (fd:FuncData) (ps:List Str),AN P w K mg base (xY P w) k f fd ps sp/\Binds K fd ps []/\PySem.W.keepIn K (.ref f)=true/\mg x=some (.ref f)
theorem YH.at {P:Program} {w:World} {mg:Str->Option Value} {base:Heap} {j k:Nat} {x:Str} {sp:Sp} {A:Around} (D:YH P w K mg base j x sp) (hr:dF k A) (h:j<=k):FnAt ⟨P,w,K,mg,base,A⟩ x sp:=by
 obtain ⟨f,fd,ps,F,hb,kp,hg⟩:=D;exact ⟨j,f,fd,ps,hr.mono h,F,hb,kp,hg⟩
theorem KW {P:Program} {w:World} {mg:Str->Option Value} {base:Heap} {x qual:Str} {st:Stmt} {f:Addr} {fd:FuncData} {N ps:List Str} {k:Nat} {sp:Sp} (F:Ek K x qual st f fd) (b:List (SX K)) (S:gD N ps (aN st))
  (hm:FN b ⟨N,(aN st).names,true⟩ (bJ st)=true) (bl:∀x∈pM,mg x=none) (hq:∀A,dF k A->HN b ⟨P,w,K,mg,base,A⟩) (len:∀vs H Q E,sp vs H Q E->vs.length=ps.length)
  (h:∀vs H Q E,sp vs H Q E->lW b (λ_=>E) {nx:=λ_ H'=>Q .non H',rt:=Q} (start N vs) H):AN P w K mg base (xY P w) (k+1) f fd ps sp:=by
 obtain ⟨oc,od,kV,doc,pm,an,cdv,ct,osl,rfl,lk,hcd⟩:=F.ex;refine Dm lk hcd S len λA outer s H vs Q E hr hsp=>?_;have G:Gd (qN (xY P w) P w K mg base N qual (aN st) f cdv A outer s H E) ⟨N,(aN st).names,true⟩:=⟨rfl,rfl,S.nd,λ_=>rfl,bl,hr.units,λ_ _=>rfl,λ_=>⟨rfl,rfl⟩,λ_ h=>nomatch h⟩;have T:sJ (qN (xY P w) P w K mg base N qual (aN st) f cdv A outer s H E) (λ_=>E):=⟨λpins σ H1 s1 ev s' I z=>HY pins σ H1 s1 ev s' I z,λ_ _ _ _ _ _ e _ _ I o1 b1 u1 k1 n1 en eo dt v1 z=>IZ (I.call' o1 u1 k1 b1 λb y=>absurd y (by simp)) eo dt v1 en (λb o q y=>by obtain ⟨v,hv⟩:=I.base.there b o q (λy=>nomatch y);rw[y,n1] at hv;cases hv) z,PassesOwn.leaving⟩;exact ⟨_,qZ G T b (bJ st) (hq _ hr) hm,h vs H Q E hsp⟩
end
theorem nO:∀{l:List Nat},(∀x∈l,x=0)->l.sum=0
 |[],_=>rfl
 |a::l,h=>by rw[sum_cons,h a mem_cons_self,nO λx hx=>h x (mem_cons_of_mem _ hx)]
noncomputable abbrev ls (z:Str):List Nat:=z.cps.toList
noncomputable def aG (l:List Nat):Str:=⟨l.toArray⟩
theorem aQ (l:List Nat):ls (aG l)=l:=by simp [ls,aG]
theorem aS (z:Str):(ls z).length=z.length:=by show z.cps.toList.length=z.cps.size;simp
theorem eR (l:List Nat):(aG l).length=l.length:=by rw[<-aS,aQ]
theorem fZ {a b:Str} (h:ls a=ls b):a=b:=by
 cases a;cases b;simp only [ls] at h
 congr 1
 exact Array.toList_inj.mp h
theorem RI (z:Str):aG (ls z)=z:=fZ (aQ _)
theorem zT (a b:Str):ls (a++b)=ls a++ls b:=by
 show (a.cps++b.cps).toList=a.cps.toList++b.cps.toList;simp
theorem len_app (a b:Str):(a++b).length=a.length+b.length:=by rw[<-aS,zT,length_append,aS,aS]
theorem oZ (g:Array Nat):∀(r:List Str) (acc:Array Nat),(r.foldl (λacc p=>acc++g++p.cps) acc).toList=acc.toList++(r.map λp=>g.toList++p.cps.toList).flatten
 |[],acc=>by simp
 |p::r,acc=>by
  rw[foldl_cons,oZ g r];simp [List.append_assoc]
theorem wO (ys:List Str):ls (Txt.join (Str.ofString "") ys)=(ys.map ls).flatten:=by
 have e:(Str.ofString "").cps=#[]:=by decide+kernel
 cases ys with
 |nil=>decide+kernel
 |cons y r=>
  show ((r.foldl (λacc p=>acc++(Str.ofString "").cps++p.cps) y.cps)).toList=_;rw[e,oZ];simp
theorem eQ (x:Str) (c lim:Nat):∀(l:List Nat) (st:Array Nat × Nat),(∀i∈l,st.snd<=i)->l.Pairwise (·<·)->st.fst.size+l.length<=lim->
  (forIn l st (StrLaws.occBody x ⟨#[c]⟩ x.length lim)).run.fst.size=st.fst.size+(l.filter λi=>decide (x.cps.toList[i]?=some c)).length
 |[],st,_,_,_=>by simp
 |a::l,st,hf,hp,hl=>by
  rw[forIn_cons];have ha:st.snd<=a:=hf a mem_cons_self;rw[length_cons] at hl;have hp':=pairwise_cons.mp hp;unfold StrLaws.occBody;by_cases hc:x.cps.toList[a]?=some c
  ·have h1:=(StrLaws.subAt_one x c a).mpr hc;rw[if_pos ⟨⟨⟨by lia,ha⟩,h1.1⟩,h1.2⟩];have ih:=eQ x c lim l (st.fst.push a,a+(⟨#[c]⟩:Str).length) (λi hi=>by
    have:=hp'.1 i hi
    show a+1<=i
    lia) hp'.2 (by rw[Array.size_push];lia)
   show (forIn l (st.fst.push a,a+(⟨#[c]⟩:Str).length) (StrLaws.occBody x ⟨#[c]⟩ x.length lim)).run.fst.size=_;rw[ih,filter_cons,if_pos (decide_eq_true hc),length_cons,Array.size_push];lia
  ·rw[if_neg (λh=>hc ((StrLaws.subAt_one x c a).mp ⟨h.1.2,h.2⟩))];have ih:=eQ x c lim l (st.fst,st.snd) (λi hi=>hf i (mem_cons_of_mem _ hi)) hp'.2 (by show st.fst.size+l.length<=lim;lia);show (forIn l (st.fst,st.snd) (StrLaws.occBody x ⟨#[c]⟩ x.length lim)).run.fst.size=_;rw[ih,filter_cons,if_neg (by rw[decide_eq_false hc];exact Bool.false_ne_true)]
theorem rP (c:Nat):∀(l:List Nat) (k:Nat),((range' k (l.length+1)).filter λi=>decide (l[i - k]?=some c)).length=l.count c
 |[],k=>by simp [range']
 |a::l,k=>by
  have e:range' k ((a::l).length+1)=k::range' (k+1) (l.length+1):=by rw[length_cons,List.range'_succ]
  rw[e,filter_cons];have ih:=rP c l (k+1);have e2:((range' (k+1) (l.length+1)).filter λi=>decide ((a::l)[i - k]?=some c))=((range' (k+1) (l.length+1)).filter λi=>decide (l[i - (k+1)]?=some c)):=by
   refine List.filter_congr λi hi=>?_;have hi':=List.mem_range'_1.mp hi;have:i - k=(i - (k+1))+1:=by lia
   rw[this,List.getElem?_cons_succ]
  have e3:(a::l)[k - k]?=some a:=by rw[sub_self];rfl
  rw[e2,e3,List.count_cons];by_cases hc:a=c
  ·subst hc;rw[if_pos (decide_eq_true rfl),length_cons,ih];simp
  ·rw[if_neg (by simp [hc]),ih];simp [hc]
theorem ES (x:Str) (c:Nat):Txt.count x ⟨#[c]⟩=((ls x).count c:Int):=by
 unfold Txt.count;rw[StrLaws.occ_eq,length_toList,Nat.sub_zero];rw[eQ x c (x.length+1) _ _ (λi hi=>zero_le _) List.pairwise_lt_range' (by simp)];have h:=rP c (ls x) 0;rw[aS] at h;simp only [Nat.sub_zero] at h;simp only [size_toArray,length_nil,zero_add];rw[<-h]
noncomputable def eM (m:Nat) (z:Str):Prop:=∀c∈ls z,97<=c/\c<97+m
theorem eM.app {m:Nat} {a b:Str} (ha:eM m a) (hb:eM m b):eM m (a++b):=λc hc=>by
 rw[zT] at hc;rcases mem_append.mp hc with h|h
 ·exact ha c h
 ·exact hb c h
theorem eM.sgn {m c:Nat} (h:97<=c) (l:c<97+m):eM m ⟨#[c]⟩:=λd hd=>by
 have:d=c:=by simpa [ls] using hd
 subst this;exact ⟨h,l⟩
theorem eM.nil {m:Nat}:eM m (Str.ofString ""):=λc hc=>by
 have e:ls (Str.ofString "")=[]:=by decide+kernel
 rw[e] at hc;cases hc
theorem eM.of_ls {m:Nat} {z y:Str} (h:eM m z) (e:∀c∈ls y,c∈ls z):eM m y:=λc hc=>h c (e c hc)
noncomputable def wd (ws:List Str) (c:Nat):List Nat:=ls (ws[c - 97]?.getD ⟨#[]⟩)
noncomputable def img (ws:List Str) (z:Str):Str:=aG ((ls z).flatMap (wd ws))
theorem lM (ws:List Str) (z:Str):ls (img ws z)=(ls z).flatMap (wd ws):=aQ _
theorem OX {ws:List Str} {z:Str} {m:Nat} (hw:∀w∈ws,eM m w):eM m (img ws z):=λc hc=>by
 rw[lM] at hc;obtain ⟨d,_,h2⟩:=List.mem_flatMap.mp hc;unfold wd at h2;cases e:ws[d - 97]? with
 |none=>rw[e] at h2;simp [ls] at h2
 |some w=>rw[e] at h2;exact hw w (mem_of_getElem? e) c h2
theorem yL {l:List Nat} {B:Nat} (h:∀x∈l,x<=B):l.sum<=l.length * B:=by
 induction l with
 |nil=>simp
 |cons a l ih=>
  have h1:=h a mem_cons_self;have h2:=ih λx hx=>h x (mem_cons_of_mem _ hx);rw[sum_cons,length_cons,Nat.add_mul,Nat.one_mul];lia
theorem JL {ws:List Str} {z:Str} {B:Nat} (h:∀w∈ws,w.length<=B):(img ws z).length<=z.length * B:=by
 rw[<-aS,lM,List.length_flatMap,<-aS z];refine Nat.le_trans (yL (B:=B) λx hx=>?_) (by rw[length_map];exact Nat.le_refl _);obtain ⟨c,hc,rfl⟩:=mem_map.mp hx;unfold wd;cases e:ws[c - 97]? with
 |none=>simp [ls]
 |some w=>rw[show (some w).getD ⟨#[]⟩=w from rfl,aS];exact h w (mem_of_getElem? e)
theorem MU (n:Nat) (f:Nat->Nat) (j:Nat) (h:j<n):((range n).map λk=>(if k=j then 1 else 0) * f k).sum=f j:=by
 induction n with
 |zero=>lia
 |succ n ih=>
  rw[range_succ,map_append,sum_append];simp only [map_cons,map_nil,sum_cons,sum_nil,Nat.add_zero];by_cases e:j=n
  ·subst e;have z:((range j).map λk=>(if k=j then 1 else 0) * f k).sum=0:=by
    refine nO λx hx=>?_;obtain ⟨k,hk,rfl⟩:=mem_map.mp hx;have:=mem_range.mp hk;rw[if_neg (by lia),Nat.zero_mul]
   rw[z,if_pos rfl];lia
  ·rw[ih (by lia),if_neg (by lia)];lia
theorem sum_add (n:Nat) (f g:Nat->Nat):((range n).map λk=>f k+g k).sum=((range n).map f).sum+((range n).map g).sum:=by
 induction n with
 |zero=>rfl
 |succ n ih=>
  rw[range_succ];simp only [map_append,sum_append,map_cons,map_nil,sum_cons,sum_nil,Nat.add_zero,ih];lia
theorem wW (ws:List Str):∀(l:List Nat),(∀c∈l,97<=c/\c<97+ws.length)->((range ws.length).map λk=>l.count (97+k) * (ws[k]?.getD ⟨#[]⟩).length).sum=(l.flatMap (wd ws)).length
 |[],_=>by
  refine (nO λx hx=>?_).trans rfl;obtain ⟨k,_,rfl⟩:=mem_map.mp hx;simp
 |c::l,h=>by
  have ih:=wW ws l λd hd=>h d (mem_cons_of_mem _ hd);obtain ⟨h1,h2⟩:=h c mem_cons_self;rw[List.flatMap_cons,length_append,<-ih];have e:((range ws.length).map λk=>(c::l).count (97+k) * (ws[k]?.getD ⟨#[]⟩).length)=(range ws.length).map λk=>(if k=c - 97 then 1 else 0) * (ws[k]?.getD ⟨#[]⟩).length+l.count (97+k) * (ws[k]?.getD ⟨#[]⟩).length:=by
   refine map_congr_left λk _=>?_;rw[List.count_cons,<-Nat.add_mul]
   congr 1
   by_cases hk:k=c - 97
   ·subst hk;have:c=97+(c - 97):=by lia
    rw[if_pos rfl,<-this];simp;lia
   ·have:¬(c=97+k):=by lia
    rw[if_neg hk];simp [this]
  rw[e,sum_add,MU _ _ _ (by lia)];unfold wd;rw[aS]
section
variable {K:Fg}
theorem BJ {X:Cx} {id:String} {r:Str->List V->Hp->VK->Prop} {r':V->List V->Hp->VK->Prop} (h:SE X id r') (f:∀z ys H Q,r z ys H Q->r' (.str z) ys H Q):YD X id (rS r):=by
 intro pins s σ H x xs v us Q I rx rs q;cases x with
 |str z=>exact h pins s σ H _ xs v us Q I rx rs (f z xs H Q q)
 |_=>exact q.elim
noncomputable def tK (K:Fg):Str->List V->Hp->VK->Prop
 |z,[.ref p],H,Q=>∃ys:List Str,(H p=some (.lst (ys.map V.str))\/cC K H p (ys.map V.str))/\(ys.map (·.length)).sum+ys.length * z.length<=16777216/\Q (.str (Txt.join z ys)) H
 |_,_,_,_=>False
noncomputable def zS (o a:EX K) (ho:o.s≠.zc:=by intro z;cases z):EX K:=rG "join" "str.join" (tK K) PySem.F.slot_str_join PySem.F.type_str_join (λX hK _ _=>by
 subst hK
 intro pins s σ H x xs v us Q I rx rs q
 cases x with
 |str z=>
  have q':tK X.K z xs H Q:=q
  unfold tK at q'
  split at q'
  ·obtain ⟨ys,h1|h1,h2,h3⟩:=q'
   ·exact OI pins s σ H _ _ v us Q I rx rs ⟨_,_,ys,rfl,rfl,h1,h2,h3⟩
   ·exact IQ pins s σ H _ _ v us Q I rx rs ⟨_,_,ys,rfl,rfl,h1,h2,h3⟩
  ·exact q'.elim
 |_=>exact q.elim) o ho [a]
noncomputable def mV:Str->List V->Hp->VK->Prop
 |z,[.str y],H,Q=>Q (.int (Txt.count z y)) H
 |_,_,_,_=>False
noncomputable def BK (o a:EX K) (ho:o.s≠.zc:=by intro z;cases z):EX K:=rG "count" "str.count" mV PySem.F.slot_str_count PySem.F.type_str_count (λX hK _ _=>BJ IT (λz ys H Q h=>by
 unfold mV at h
 split at h
 ·exact ⟨_,_,rfl,rfl,h⟩
 ·exact h.elim)) o ho [a]
noncomputable def mU:Str->List V->Hp->VK->Prop
 |z,[.str y],H,Q=>∃(i:Nat) (rest:List Nat),Builtin.Str.occurrences z y 0 z.length 1=i::rest/\Q (.int i) H
 |_,_,_,_=>False
noncomputable def mY (o a:EX K) (ho:o.s≠.zc:=by intro z;cases z):EX K:=rG "index" "str.index" mU PySem.F.slot_str_index PySem.F.type_str_index (λX hK _ _=>BJ IS (λz ys H Q h=>by
 unfold mU at h
 split at h
 ·obtain ⟨i,rest,h1,h2⟩:=h
  exact ⟨_,_,i,rest,rfl,rfl,h1,h2⟩
 ·exact h.elim)) o ho [a]
noncomputable def eD (o a:EX K) (ho:o.s≠.zc:=by intro z;cases z):EX K:=Bi "append" "list.append" mW PySem.F.slot_list_append PySem.F.type_list_append (λX hK _ _=>rF) o ho [a]
noncomputable def PX (a b:EX K):EX K:=RJ (λE=>Hr K (fQ [a,b] E))
 (λC e=>match e with
  | .Call (.Name y _) [.Call (.Name z _) es [] _] [] _=>(C.cm&&qL C "dict" y)&&(qL C "zip" z&&kL [a,b] C es)
  |_=>false) (λR=>tM [a,b] R) .pl
 (λX C E e hK G hE hq hm=>by
  subst hK
  split at hm
  ·rename_i y py z pz es p2 p
   ·simp only [and_eq_true] at hm
    obtain ⟨⟨hcm,h1⟩,h2,h3⟩:=hm
    have e:=cJ h1
    have e2:=cJ h2
    subst e e2
    match es,h3 with
    |[],h3=>exact nomatch h3
    |[x],h3=>exact nomatch (aH h3).2
    |x::y::z::r,h3=>exact nomatch (aH (aH h3).2).2
    |[x,y],h3=>
     have s1:=bB (env:=X.env) (es:=[y]) (a.sok C x (aH h3).1)
     have s2:=bB (env:=X.env) (es:=[]) (b.sok C y (aH (aH h3).2).1)
     exact zH (G.calm hcm) (cI G h1).1 (G.bl _ (by decide+kernel)) (cI G h2).1 (G.bl _ (by decide+kernel)) (eG G hE [a,b] [x,y] hq h3)
      s1 (bK [b] [y] (aH h3).2)
  ·cases hm)
 (λC e hm=>by
  split at hm
  ·rfl
  ·cases hm)
 (λC e hm=>by cases e with|Call f es ks p=>rfl|_=>exact ff hm)
section
variable {E:XS} {σ:St} {H:Hp} {Q:VK} {D:Ends} {QB:Bool->Hp->Prop} {QL:List V->Hp->Prop} {v:V} {i j:Int} {n:Nat} {a b c:EX K} {as:List (EX K)} {ss:List (SX K)} {s:SX K} {op:Operator} {co:CmpOp} {x:Str} {sp:Sp}
theorem WG {tg:TX K} (h:a.t E σ H λx H1=>tg.g x σ H1 D.nx):(ZX tg a).t E D σ H:=h
theorem mE (h:s.t E {D with nx:=lW ss E D} σ H):lW (s::ss) E D σ H:=h
theorem Ck (h:D.nx σ H):lW ([]:List (SX K)) E D σ H:=h
theorem rL (h:a.t E σ H λx H1=>D.nx (σ.set n (some x)) H1):(set n a).t E D σ H:=h
theorem Cg (h:a.t E σ H D.rt):(ret a).t E D σ H:=h
theorem Gv (h:a.t E σ H λ_ H1=>D.nx σ H1):(ex a).t E D σ H:=h
theorem Gs {t f:List (SX K)} (h:c.tt E σ H λb H1=>br b (lW t E D σ H1) (lW f E D σ H1)):(wX c t f).t E D σ H:=h
theorem BP (e:σ[n]?=some (some v)) (h:Q v H):(var n:EX K).t E σ H Q:=by
 show tV n σ H Q;unfold tV;rw[e];exact h
theorem Cz (h:Q v H):(cst v:EX K).t E σ H Q:=h
theorem Cr (h:Q v H):(YM x v:EX K).t E σ H Q:=h
theorem RT (h:a.t E σ H λx H1=>b.t E σ H1 λy H2=>mK K op x y H2 Q):(bin op a b).t E σ H Q:=h
theorem De (h:Q (.int (i+j)) H):mK K .Add (.int i) (.int j) H Q:=h
theorem Cc (h:Q (.int (i - j)) H):mK K .Sub (.int i) (.int j) H Q:=h
theorem RN (c:YI i j) (h:Q (.int (i * j)) H):mK K .Mult (.int i) (.int j) H Q:=⟨c.ok,h⟩
theorem Cw (c:Hl i j) (h:Q (.int (i / j)) H):mK K .FloorDiv (.int i) (.int j) H Q:=⟨⟨c.1,by have:=c.2;lia⟩,h⟩
theorem RO (c:0<j) (h:Q (.int (i % j)) H):mK K .Mod (.int i) (.int j) H Q:=⟨c,h⟩
theorem Ci (c:QR i j) (h:Q (.int (i ^ j.toNat)) H):mK K .Pow (.int i) (.int j) H Q:=⟨L2.L3.QR.pw c,h⟩
theorem KA {y z:Str} (c:y.length+z.length<=sizeLine) (h:Q (.str (y++z)) H):mK K .Add (.str y) (.str z) H Q:=⟨c,h⟩
theorem Dc (h:a.t E σ H λx H1=>b.t E σ H1 λy H2=>kE K co x y H2 Q):(cmp co a b).t E σ H Q:=h
theorem Bt (h:a.t E σ H λx H1=>b.t E σ H1 λy H2=>rB (kE K co) x y H2 QB):(cmp co a b).tt E σ H QB:=h
theorem Gu (h:Q (.bl (decide (j<i))) H):kE K .Gt (.int i) (.int j) H Q:=h
theorem dI:decide (V.int i=V.int j)=decide (i=j):=decide_eq_decide.mpr ⟨λz=>V.int.inj z,λz=>by rw[z]⟩
theorem dS {y z:Str}:decide (V.str y=V.str z)=decide (y=z):=decide_eq_decide.mpr ⟨λe=>V.str.inj e,λe=>by rw[e]⟩
theorem Gg (h:QB (decide (i<j)) H):rB (kE K .Lt) (.int i) (.int j) H QB:=h
theorem Gh (h:QB (decide (i<=j)) H):rB (kE K .LtE) (.int i) (.int j) H QB:=h
theorem Gi (h:QB (decide (j<i)) H):rB (kE K .Gt) (.int i) (.int j) H QB:=h
theorem Gj (h:QB (decide (j<=i)) H):rB (kE K .GtE) (.int i) (.int j) H QB:=h
theorem Gk (h:QB (decide (i=j)) H):rB (kE K .Eq) (.int i) (.int j) H QB:=.inl ⟨rfl,by show QB _ H;rw[dI];exact h⟩
theorem Gf (h:QB (!decide (i=j)) H):rB (kE K .NotEq) (.int i) (.int j) H QB:=.inl ⟨rfl,by show QB _ H;rw[dI];exact h⟩
theorem Br {y z:Str} (h:QB (!decide (y=z)) H):rB (kE K .NotEq) (.str y) (.str z) H QB:=.inl ⟨rfl,by show QB _ H;rw[dS];exact h⟩
theorem Bp (e:a.tt E=SS K (a.t E)) (h:a.t E σ H λx H1=>tH K x H1 QB):a.tt E σ H QB:=by rw[e];exact h
theorem Bq (h:a.tt E σ H λb H1=>QB (!b) H1):(oN a).tt E σ H QB:=h
theorem Cj (h:a.t E σ H λx H1=>tH K x H1 λb H2=>Q (.bl (!b)) H2):(oN a).t E σ H Q:=h
theorem WC {k:Bool} (h:QB k H):tH K (.bl k) H QB:=h
theorem Dd (h:a.t E σ H λx H1=>tH K x H1 λk H2=>br k (DA K .And E (b.t E) as σ H2 Q) (Q x H2)):(AJ a (b::as)).t E σ H Q:=h
theorem Bu (h:a.tt E σ H λk H1=>br k (jP K .And E (b.tt E) as σ H1 QB) (QB false H1)):(AJ a (b::as)).tt E σ H QB:=h
theorem Ge (h:a.tt E σ H λk H1=>br k (QB true H1) (jP K .Or E (b.tt E) as σ H1 QB)):(Au a (b::as)).tt E σ H QB:=h
theorem WV {bo:BoolOp} {t:TE} (h:t σ H Q):DA K bo E t [] σ H Q:=h
theorem VT {bo:BoolOp} {t:TT} (h:t σ H QB):jP K bo E t [] σ H QB:=h
theorem VS {t:TT} (h:t σ H λk H1=>br k (QB true H1) (jP K .Or E (b.tt E) as σ H1 QB)):jP K .Or E t (b::as) σ H QB:=h
theorem BQ (h:a.t E σ H λx H1=>fQ as E σ H1 λxs H2=>QL (x::xs) H2):fQ (a::as) E σ H QL:=h
theorem JZ (h:QL [] H):fQ ([]:List (EX K)) E σ H QL:=h
theorem JX (h:fQ as E σ H λvs H1=>sp vs H1 Q (E σ)):(call x sp as).t E σ H Q:=h
theorem RP (h:a.t E σ H λx H1=>yZ K [x] H1 Q):(len a).t E σ H Q:=h
theorem eU {z:Str} (c:z.length<=sizeLine) (h:Q (.int z.length) H):yZ K [.str z] H Q:=⟨c,h⟩
theorem lP {p:Addr} {xs:List V} (c:aR K H p xs) (h:Q (.int xs.length) H):yZ K [.ref p] H Q:=.inl ⟨_,.inl ⟨xs,c,rfl⟩,h⟩
theorem AA {p:Addr} {xs:List V} (c:cC K H p xs) (h:Q (.int xs.length) H):yZ K [.ref p] H Q:=.inl ⟨_,.inr ⟨xs,c,rfl⟩,h⟩
theorem Cb (h:a.t E σ H λx H1=>TM [x] H1 Q):(sum a).t E σ H Q:=h
theorem Cm (h:a.t E σ H λx H1=>b.t E σ H1 λy H2=>vY [x,y] H2 Q):(min2 a b).t E σ H Q:=h
theorem Cn (h:a.t E σ H λx H1=>b.t E σ H1 λy H2=>vZ [x,y] H2 Q):(max2 a b).t E σ H Q:=h
theorem WL (h:Q (.int (min i j)) H):vY [.int i,.int j] H Q:=h
theorem WM (h:Q (.int (max i j)) H):vZ [.int i,.int j] H Q:=h
theorem Cq (h:a.t E σ H λx H1=>b.t E σ H1 λy H2=>BC K [x,y] H2 Q):(YL a b).t E σ H Q:=h
theorem OZ (h:Q (.ty "str") H):(QU:EX K).t E σ H Q:=h
theorem PB (h:Q (.ty "int") H):(QV:EX K).t E σ H Q:=h
theorem JN (h:Q (.ty "bool") H):(GH:EX K).t E σ H Q:=h
theorem JM (h:Q (.ty "list") H):(GG:EX K).t E σ H Q:=h
theorem EI (h:Q (.ty "tuple") H):(AQ:EX K).t E σ H Q:=h
theorem PD (h:a.t E σ H λx H1=>mT K [x] H1 Q):(listE a).t E σ H Q:=h
theorem JO (h:a.t E σ H λx H1=>tG K [x] H1 Q):(GO a).t E σ H Q:=h
theorem Gr (h:a.t E σ H λx H1=>b.t E σ H1 λy H2=>wA K x y H2 Q):(ix a b).t E σ H Q:=h
theorem oW {z:Str} {k:Nat} (c:z.length<=sizeLine) (e:pQ z.cps.toList i=some k) (h:Q (sgn k) H):wA K (.str z) (.int i) H Q:=⟨c,k,e,h⟩
theorem kO {p:Addr} {xs:List V} (c:aR K H p xs) (e:pQ xs i=some v) (h:Q v H):wA K (.ref p) (.int i) H Q:=.inl ⟨p,xs,i,v,rfl,rfl,c,e,h⟩
theorem iV {p:Addr} {xs:List V} (c:cC K H p xs) (e:pQ xs i=some v) (h:Q v H):wA K (.ref p) (.int i) H Q:=.inr (.inl ⟨p,xs,i,v,rfl,rfl,c,e,h⟩)
theorem iW {p:Addr} {y:V} (c:dR H p y (some v)) (h:Q v H):wA K (.ref p) y H Q:=.inr (.inr ⟨v,c,h⟩)
theorem Cd {lo hi:Option (EX K)} (h:a.t E σ H λx H1=>tO E lo σ H1 λl H2=>tO E hi σ H2 λu H3=>DJ K x l u H3 Q):(yR a lo hi).t E σ H Q:=h
theorem Gq {QO:Option Int->Hp->Prop} (h:QO none H):tO E (none:Option (EX K)) σ H QO:=h
theorem Gp {QO:Option Int->Hp->Prop} (h:a.t E σ H (rO QO)):tO E (some a) σ H QO:=h
theorem Gn {QO:Option Int->Hp->Prop} (h:QO (some i) H):rO QO (.int i) H:=h
theorem fK {z:Str} {lo hi:Option Int} (c:z.length<=sizeLine) (h:Q (.str (Txt.slice z lo hi)) H):DJ K (.str z) lo hi H Q:=⟨c,h⟩
theorem Ce {p:Addr} {xs:List V} {lo hi:Option Int} (c:aR K H p xs) (h:∀q,H q=none->Q (.ref q) (upd H q (.lst (uD xs lo hi)))):DJ K (.ref p) lo hi H Q:=.inl ⟨p,xs,rfl,c,h⟩
theorem JT (h:fQ as E σ H λxs H1=>xs.length<=sizeLine/\∀p,H1 p=none->Q (.ref p) (upd H1 p (.lst xs))):(lst as).t E σ H Q:=h
theorem RK (h:fQ as E σ H λxs H1=>xs.length<=sizeLine/\∀p,H1 p=none->Q (.ref p) (upd H1 p (.tup xs))):(tup as).t E σ H Q:=h
theorem WN {ho:a.s≠.zc} (h:a.t E σ H λx H1=>RS (tK K) (fQ [b] E) x σ H1 Q):(zS a b ho).t E σ H Q:=h
theorem PL {ho:a.s≠.zc} (h:a.t E σ H λx H1=>RS mV (fQ [b] E) x σ H1 Q):(BK a b ho).t E σ H Q:=h
theorem PF {ho:a.s≠.zc} (h:a.t E σ H λx H1=>RS mU (fQ [b] E) x σ H1 Q):(mY a b ho).t E σ H Q:=h
theorem JY {ho:a.s≠.zc} (h:a.t E σ H λx H1=>RL K mW (fQ [b] E) x σ H1 Q):(eD a b ho).t E σ H Q:=h
theorem Gx {r:Str->List V->Hp->VK->Prop} {t:TA} {z:Str} (h:t σ H λys H2=>r z ys H2 Q):RS r t (.str z) σ H Q:=h
theorem KC {r:V->List V->Hp->VK->Prop} {t:TA} {p:Addr} {xs:List V} (c:aR K H p xs) (h:t σ H λys H2=>r (.ref p) ys H2 Q):RL K r t (.ref p) σ H Q:=⟨⟨xs,c⟩,h⟩
theorem JV {z:Str} {k:Nat} (h:Q (.int (((ls z).count k:Nat):Int)) H):mV z [sgn k] H Q:=by
 show Q (.int (Txt.count z ⟨#[k]⟩)) H;rw[ES];exact h
theorem oX {z y:Str} {k:Nat} {r:List Nat} (e:Builtin.Str.occurrences z y 0 z.length 1=k::r) (h:Q (.int k) H):mU z [.str y] H Q:=⟨k,r,e,h⟩
theorem fL {p:Addr} {xs:List V} {y:V} (e:H p=some (.lst xs)) (c:xs.length<sizeLine) (h:Q .non (upd H p (.lst (xs++[y])))):mW (.ref p) [y] H Q:=⟨p,xs,y,rfl,rfl,e,c,h⟩
noncomputable def lC (J:It) (g:TG) (tb:TS) (D:Ends) (σ:St) (H:Hp):Prop:=∃W:Nat->Nat->St->Hp->Prop,(∃m,W 0 m σ H)/\∀i m σ H,W i m σ H->
 (J.stop i H/\D.nx σ H)\/(J.go i H/\∃N:St->Hp->Prop,(∀σ' H',N σ' H'->∃m',m'<m/\W (i+1) m' σ' H')/\∀x H',J.yld i H x H'->g x σ H' λσ2 H2=>tb {D with nx:=N,ct:=N,bk:=D.nx} σ2 H2)
theorem Cu {tg:TX K} {it:IX K} {bd:List (SX K)} (h:it.t E σ H λJ H1=>lC J tg.g (lW bd E) D σ H1):(iR tg it bd).t E D σ H:=h
theorem Cf {R:It->Hp->Prop} (h:fQ (a::as) E σ H λvs H1=>HJ vs H1 R):(tZ a as).t E σ H R:=h
theorem WI {R:It->Hp->Prop} (c:-(2 ^ 62)<=j/\j<2 ^ 62) (h:R (FP 0 j.toNat) H):HJ [.int j] H R:=⟨c,h⟩
theorem By {R:It->Hp->Prop} (h:fQ [a,b] E σ H λvs H1=>HH K vs H1 R):(PN a b).t E σ H R:=h
theorem zX {R:It->Hp->Prop} {p r:Addr} {xs ys:List V} (c:aR K H p xs) (d:aR K H r ys) (h:R (Eg K p r) H):HH K [.ref p,.ref r] H R:=⟨⟨⟨xs,c⟩,ys,d⟩,h⟩
theorem WO {R:It->Hp->Prop} (h:a.t E σ H λx H1=>oC K x H1 R):(kQ a).t E σ H R:=h
theorem Cp {R:It->Hp->Prop} {z:Str} (h:R (YT z) H):oC K (.str z) H R:=h
theorem kP {R:It->Hp->Prop} {p:Addr} {xs:List V} (c:aR K H p xs) (h:R (SG K p) H):oC K (.ref p) H R:=.inl ⟨⟨xs,c⟩,h⟩
theorem Co {R:It->Hp->Prop} {p:Addr} {xs:List V} (c:cC K H p xs) (h:R (Ei K p) H):oC K (.ref p) H R:=.inr ⟨⟨xs,c⟩,h⟩
theorem mZ {J:It} {P:Hp->Prop} {xs:List V} {g:TG} {tb:TS} (Y:Yl J P xs) (Pv:Nat->St->Hp->Prop) (h0:Pv 0 σ H) (hl:∀i σ H,i<=xs.length->Pv i σ H->P H)
  (hs:∀i x σ H,xs[i]?=some x->Pv i σ H->g x σ H λσ2 H2=>tb {D with nx:=Pv (i+1),ct:=Pv (i+1),bk:=D.nx} σ2 H2) (hd:∀σ H,Pv xs.length σ H->D.nx σ H):lC J g tb D σ H:=KI Y Pv h0 hl hs hd
theorem fH {lo:Int} {k:Nat} {g:TG} {tb:TS} (Pv:Nat->St->Hp->Prop) (h0:Pv 0 σ H)
  (hs:∀i σ H,i<k->Pv i σ H->g (.int (lo+(i:Nat))) σ H λσ2 H2=>tb {D with nx:=Pv (i+1),ct:=Pv (i+1),bk:=D.nx} σ2 H2) (hd:∀σ H,Pv k σ H->D.nx σ H):lC (FP lo k) g tb D σ H:=EK Pv h0 hs hd
theorem JC {z:Str} {g:TG} {tb:TS} (Pv:Nat->St->Hp->Prop) (h0:Pv 0 σ H)
  (hs:∀i k σ H,z.cps.toList[i]?=some k->Pv i σ H->g (sgn k) σ H λσ2 H2=>tb {D with nx:=Pv (i+1),ct:=Pv (i+1),bk:=D.nx} σ2 H2) (hd:∀σ H,Pv z.cps.toList.length σ H->D.nx σ H):lC (YT z) g tb D σ H:=by
 refine mZ FX Pv h0 (λ_ _ _ _ _=>trivial) (λi x σ1 H1 hx hp=>?_) (λσ1 H1 hp=>hd σ1 H1 ?_)
 ·unfold yU at hx;rw[getElem?_map] at hx;cases e:z.cps.toList[i]? with
  |none=>rw[e] at hx;cases hx
  |some k=>
   rw[e] at hx;have hx':sgn k=x:=Option.some.inj hx;subst hx';exact hs i k σ1 H1 e hp
 ·rw[gR] at hp;rw[length_toList];exact hp
theorem JS {QS:St->Hp->Prop} (h:QS (σ.set n (some v)) H):(kJ n:TX K).g v σ H QS:=h
theorem JU (h:a.t E σ H λx H1=>b.t E σ H1 λy H2=>∃(z:Str) (t:Addr) (ws:List V),[x,y]=[V.str z,.ref t]/\(cC K H2 t ws\/aR K H2 t ws)/\z.cps.size=ws.length/\z.cps.size<=1000/\z.cps.all (·<128)=true/\(∀i j,i<z.cps.size->j<z.cps.size->fD z i=fD z j->i=j)/\
 ∀d,H2 d=none->Q (.ref d) (upd H2 d (.dK (iS z ws)))):(PX a b).t E σ H Q:=h
theorem oO {p:Addr} {xs:List V} {g:TG} {tb:TS} (hp:aR K H p xs) (S:Nat->St->Prop) (h0:S 0 σ)
  (hs:∀i x σ1 H1,xs[i]?=some x->S i σ1->aB H H1->g x σ1 H1 λσ2 H2=>tb {D with nx:=λσ3 H3=>S (i+1) σ3/\aB H H3,ct:=λσ3 H3=>S (i+1) σ3/\aB H H3,bk:=D.nx} σ2 H2) (hd:∀σ1 H1,S xs.length σ1->aB H H1->D.nx σ1 H1):
  lC (SG K p) g tb D σ H:=KJ (dG (xs:=xs)) (λH' e=>e.seq hp) S h0 hs hd
theorem DZ {lo:Int} {k:Nat} {g:TG} {tb:TS} (S:Nat->St->Prop) (h0:S 0 σ)
  (hs:∀i σ1 H1,i<k->S i σ1->aB H H1->g (.int (lo+(i:Nat))) σ1 H1 λσ2 H2=>tb {D with nx:=λσ3 H3=>S (i+1) σ3/\aB H H3,ct:=λσ3 H3=>S (i+1) σ3/\aB H H3,bk:=D.nx} σ2 H2) (hd:∀σ1 H1,S k σ1->aB H H1->D.nx σ1 H1):
  lC (FP lo k) g tb D σ H:=fH (λi σ1 H1=>S i σ1/\aB H H1) ⟨h0,aB.refl _⟩ (λi σ1 H1 hi p=>hs i σ1 H1 hi p.1 p.2) λσ1 H1 p=>hd σ1 H1 p.1 p.2
theorem jD {QS:St->Hp->Prop} {k l:Nat} {p:Addr} {x y:V} (c:cC K H p [x,y]) (h:QS ((σ.set k (some x)).set l (some y)) H):(CT [k,l]:TX K).g (.ref p) σ H QS:=
 ⟨p,[x,y],rfl,c,rfl,x,[y],rfl,y,[],rfl,rfl,h⟩
theorem EW {J:It} {P:Hp->Prop} {items:List V} (Y:Yl J P items) {tc:TT} {te:TE} {is:List Nat} {D:Addr} (keep:Nat->Bool) (f:Nat->V) (hD:H D=none) (hP:∀H1,aB H H1->P H1) (hz:items.length<=sizeLine)
  (test:∀(i:Nat) (x:V) (H1:Hp) (QB:Bool->Hp->Prop),items[i]?=some x->aB H H1->(∀H2,aB H1 H2->QB (keep i) H2)->tc (some x::fO is σ) H1 QB)
  (step:∀(i:Nat) (x:V) (H1:Hp) (Q':VK),items[i]?=some x->keep i=true->aB H H1->(∀H3,aB H1 H3->Q' (f i) H3)->te (some x::fO is σ) H1 Q')
  (fin:∀H1,aB H H1->H1 D=some (.lst (((range items.length).filter keep).map f))->Q (.ref D) H1):bA J (kJ 0:TX K).g tc te 1 is σ D H Q:=by
 have hn:∀i,(((range i).filter keep).map f).length<=i:=λi=>by
  rw[length_map];exact Nat.le_trans (List.length_filter_le _ _) (by rw[length_range];exact Nat.le_refl _)
 refine ⟨λi m σ' H1=>m=items.length - i/\i<=items.length/\(∃a,σ'=a::fO is σ)/\aB H H1/\H1 D=some (.lst (((range i).filter keep).map f)),⟨items.length,by simp,zero_le _,⟨none,rfl⟩,λb o e=>by rw[aF (aD e hD)];exact e,aA⟩,?_⟩;rintro i m σ' H1 ⟨rfl,hi,⟨a,rfl⟩,hS,hO⟩;have p:=hP H1 hS;by_cases hlt:i<items.length
 ·refine .inr ⟨Y.go i H1 p hlt,λx H' hy=>?_⟩;obtain ⟨e,hx⟩:=Y.yld i H1 x H' p hlt hy;subst e;show tc (some x::fO is σ) H' _;refine test i x H' _ hx hS λH2 s2=>⟨λhk=>?_,λhk=>?_⟩
  ·refine step i x H2 _ hx hk (hS.trans s2) λH3 s3=>?_;refine ⟨_,s3 _ _ (s2 _ _ hO),Nat.lt_of_le_of_lt (hn i) (Nat.lt_of_lt_of_le hlt hz),items.length - (i+1),by lia,rfl,hlt,⟨_,rfl⟩,λb o q=>?_,?_⟩
   ·rw[aF (aD q hD)];exact s3 _ _ (s2 _ _ (hS b o q))
   ·rw[aA,range_succ,List.filter_append,map_append,filter_cons,if_pos hk];rfl
  ·refine ⟨items.length - (i+1),by lia,rfl,hlt,⟨_,rfl⟩,hS.trans s2,?_⟩;rw[s2 _ _ hO,range_succ,List.filter_append,filter_cons,if_neg (by rw[hk];exact Bool.false_ne_true),List.filter_nil,append_nil]
 ·have e:i=items.length:=by lia
  subst e;exact .inl ⟨Y.stop H1 p,fin H1 hS hO⟩
theorem filter_all {α:Type} (l:List α):(l.filter λ_=>true)=l:=List.filter_eq_self.mpr λ_ _=>rfl
theorem iA {J:It} {P:Hp->Prop} {items:List V} (Y:Yl J P items) {te:TE} {is:List Nat} {D:Addr} (f:Nat->V) (hD:H D=none) (hP:∀H1,aB H H1->P H1) (hz:items.length<=sizeLine)
  (step:∀(i:Nat) (x:V) (H1:Hp) (Q':VK),items[i]?=some x->aB H H1->(∀H3,aB H1 H3->Q' (f i) H3)->te (some x::fO is σ) H1 Q')
  (fin:∀H1,aB H H1->H1 D=some (.lst ((range items.length).map f))->Q (.ref D) H1):bA J (kJ 0:TX K).g (cT (none:Option (EX K))) te 1 is σ D H Q:=
 EW Y (λ_=>true) f hD hP hz (λ_ _ _ _ _ _ q=>q _ (aB.refl _)) (λi x H1 Q' hx _ hS q=>step i x H1 Q' hx hS q) λH1 hS hO=>fin H1 hS (by rw[filter_all] at hO;exact hO)
theorem xK {lo:Int} {m:Nat} {te:TE} {is:List Nat} {D:Addr} (f:Nat->V) (hD:H D=none) (hz:m<=sizeLine)
  (step:∀(i:Nat) (H1:Hp) (Q':VK),i<m->aB H H1->(∀H3,aB H1 H3->Q' (f i) H3)->te (some (.int (lo+(i:Nat)))::fO is σ) H1 Q')
  (fin:∀H1,aB H H1->H1 D=some (.lst ((range m).map f))->Q (.ref D) H1):bA (FP lo m) (kJ 0:TX K).g (cT (none:Option (EX K))) te 1 is σ D H Q:=by
 refine iA SK f hD (λ_ _=>trivial) (by rw[gS];exact hz) (λi x H1 Q' hx hS q=>?_) (λH1 hS hO=>fin H1 hS (by rw[gS] at hO;exact hO));obtain ⟨hi,rfl⟩:=HF hx;exact step i H1 Q' hi hS q
theorem iK {α β:Type} (l:List α) (f:α->β) (d:β):((range l.length).map λi=>(l[i]?.map f).getD d)=l.map f:=by
 refine ext_getElem? λi=>?_;rw[getElem?_map,getElem?_map];by_cases hi:i<l.length
 ·rw[getElem?_range hi];show some ((l[i]?.map f).getD d)=l[i]?.map f;rw[getElem?_eq_getElem hi];rfl
 ·rw[List.getElem?_eq_none_iff.mpr (by rw[length_range];lia),List.getElem?_eq_none_iff.mpr (by lia)];rfl
theorem AF {J:It} {P:Hp->Prop} {xs:List V} (Y:Yl J P xs) {te:TE} {is:List Nat} {D:Addr} (f:V->V) (hD:H D=none) (hP:∀H1,aB H H1->P H1) (hz:xs.length<=sizeLine)
  (step:∀(i:Nat) (x:V) (H1:Hp) (Q':VK),xs[i]?=some x->aB H H1->(∀H3,aB H1 H3->Q' (f x) H3)->te (some x::fO is σ) H1 Q')
  (fin:∀H1,aB H H1->H1 D=some (.lst (xs.map f))->Q (.ref D) H1):bA J (kJ 0:TX K).g (cT (none:Option (EX K))) te 1 is σ D H Q:=by
 refine iA Y (λi=>(xs[i]?.map f).getD .non) hD hP hz (λi x H1 Q' hx hS q=>?_) λH1 hS hO=>fin H1 hS (by rw[iK] at hO;exact hO);rw[hx] at q;exact step i x H1 Q' hx hS q
theorem xJ {z:Str} {te:TE} {is:List Nat} {D:Addr} (f:Nat->V) (hD:H D=none) (hz:z.length<=sizeLine)
  (step:∀(i c:Nat) (H1:Hp) (Q':VK),z.cps.toList[i]?=some c->aB H H1->(∀H3,aB H1 H3->Q' (f c) H3)->te (some (sgn c)::fO is σ) H1 Q')
  (fin:∀H1,aB H H1->H1 D=some (.lst (z.cps.toList.map f))->Q (.ref D) H1):bA (YT z) (kJ 0:TX K).g (cT (none:Option (EX K))) te 1 is σ D H Q:=by
 refine iA FX (λi=>(z.cps.toList[i]?.map f).getD .non) hD (λ_ _=>trivial) (by rw[gR];exact hz) (λi x H1 Q' hx hS q=>?_) λH1 hS hO=>fin H1 hS (by
  rw[show (yU z).length=z.cps.toList.length by rw[gR];simp,iK] at hO;exact hO)
 unfold yU at hx;rw[getElem?_map] at hx;cases e:z.cps.toList[i]? with
 |none=>rw[e] at hx;cases hx
 |some c=>
  rw[e] at hx q;have hx':sgn c=x:=Option.some.inj hx;subst hx';exact step i c H1 Q' e hS q
theorem vL {p:Addr} {xs:List V} (hp:cC K H p xs) (H1:Hp) (hS:aB H H1):cC K H1 p xs:=by
 rcases hp with (h|⟨o,h⟩)|h
 ·exact .inl (.inl (hS _ _ h))
 ·exact .inl (.inr ⟨o,hS _ _ h⟩)
 ·exact .inr h
theorem LC {p:Addr} {xs:List V} {te:TE} {is:List Nat} {D:Addr} (f:V->V) (hp:aR K H p xs) (hD:H D=none) (hz:xs.length<=sizeLine)
  (step:∀(i:Nat) (x:V) (H1:Hp) (Q':VK),xs[i]?=some x->aB H H1->(∀H3,aB H1 H3->Q' (f x) H3)->te (some x::fO is σ) H1 Q')
  (fin:∀H1,aB H H1->H1 D=some (.lst (xs.map f))->Q (.ref D) H1):bA (SG K p) (kJ 0:TX K).g (cT (none:Option (EX K))) te 1 is σ D H Q:=AF (dG (xs:=xs)) f hD (λH1 hS=>hS.seq hp) hz step fin
theorem PM {elt:EX K} {c:Option (EX K)} {tg:TX K} {it:IX K} {own caps:List Str} {is:List Nat} (h:it.t E σ H λJ H1=>∀D,H1 D=none->bA J tg.g (cT c) (elt.t E0) own.length is σ D H1 Q):(BZ c elt tg it own caps is).t E σ H Q:=h
theorem WU {elt:EX K} {tg:TX K} {it:IX K} {own caps:List Str} {is:List Nat} (h:it.t E σ H λJ H1=>∀D,H1 D=none->bA J tg.g (cT (none:Option (EX K))) (elt.t E0) own.length is σ D H1 Q):(comp elt tg it own caps is).t E σ H Q:=h
theorem WH {c:Ez K} (h:c.t E σ H λx H1=>D.nx (σ.set n (some x)) H1):(setC n c).t E D σ H:=h
end
end
noncomputable def FD (K:Fg) (x:Str) (st:Stmt):Prop:=∃(f:Addr) (fd:FuncData),Ek K x x st f fd/\PySem.W.nsIn K mainGlobals x=some (some (.ref f))
theorem Dn {K:Fg} {x:Str} {st:Stmt} {f:Addr} {oc:Value} {od an:Option Addr} {osl:Array (Option Value)} {kV doc pm cdv ct:Value} (a:PySem.W.nsIn K mainGlobals x=some (some (.ref f)))
  (l:K.lookup f=some ⟨oc,od,.func (PySem.W.fnOf x x (cY st) (bJ st) (aN st) .none kV doc pm an cdv ct),osl⟩) (c:PySem.W.codeIn K cdv x=true) (k:PySem.W.keepIn K (.ref f)=true):FD K x st:=⟨f,_,WZ l c k,a⟩
noncomputable def YJ (K:Fg):List Str->Prop
 |[]=>True
 |x::xs=>PySem.W.nsIn K mainGlobals x=some none/\YJ K xs
theorem all_none {K:Fg} {h:Heap} {mg:Str->Option Value} (X:K.In h) (G:h.Ns mainGlobals mg):∀{xs:List Str},YJ K xs->∀x∈xs,mg x=none
 |[],_,_,hx=>nomatch hx
 |y::ys,z,x,hx=>by
  rcases mem_cons.mp hx with rfl|hx
  ·exact PySem.W.mg_none_of X G z.1
  ·exact all_none X G z.2 x hx
noncomputable def GC (K:Fg) (x:Str) (v:V):Prop:=∃u,PySem.W.nsIn K mainGlobals x=some (some u)/\RelV v u
theorem xA {K:Fg} {h:Heap} {mg:Str->Option Value} {P:Program} {w:World} {base:Heap} {A:Around} {x:Str} {v:V} (X:K.In h) (G:h.Ns mainGlobals mg) (c:GC K x v):Ej ⟨P,w,K,mg,base,A⟩ x v:=by
 obtain ⟨u,h1,h2⟩:=c;exact ⟨u,PySem.W.mg_of X G h1,h2⟩
theorem WW {K:Fg} {x z:Str} {t:Tok} (h:PySem.W.nsIn K mainGlobals x=some (some (.str z t))):GC K x (.str z):=⟨_,h,t,rfl⟩
theorem WX {K:Fg} {x:Str} {i:Int} {t:Tok} (h:PySem.W.nsIn K mainGlobals x=some (some (.int i t))):GC K x (.int i):=⟨_,h,t,rfl⟩
section
variable {K:Fg} {P:Program} {w:World} {h base:Heap} {mg:Str->Option Value} {x:Str} {st:Stmt} {N ps:List Str} {k:Nat} {sp:Sp}
theorem Dq (F:FD K x st) (X:K.In h) (G:h.Ns mainGlobals mg) (bl:∀x∈pM,mg x=none) (b:List (SX K)) (S:gD N ps (aN st)) (hm:FN b ⟨N,(aN st).names,true⟩ (bJ st)=true)
  (hb:∀(kV doc pm:Value) (an:Option Addr) (cdv ct:Value) (us:List Value),us.length=ps.length->bindArgs (PySem.W.fnOf x x (cY st) (bJ st) (aN st) .none kV doc pm an cdv ct) ⟨us,[]⟩=pure (ps.zip us))
  (len:∀vs H Q E,sp vs H Q E->vs.length=ps.length) (t:∀vs H Q E,sp vs H Q E->lW b (λ_=>E) {nx:=λ_ H'=>Q .non H',rt:=Q} (start N vs) H) (hq:∀A,dF k A->HN b ⟨P,w,K,mg,base,A⟩):YH P w K mg base (k+1) x sp:=by
 obtain ⟨f,fd,F,a⟩:=F;exact ⟨f,fd,ps,KW F b S hm bl hq len t,F.binds hb,F.kp,PySem.W.mg_of X G a⟩
end
theorem Jr {Z:List Value->Prop} (h:∀a:Value,Z [a]) (us:List Value) (hl:us.length=1):Z us:=match us,hl with|[_],_=>h _
theorem Jq {Z:List Value->Prop} (h:∀a b:Value,Z [a,b]) (us:List Value) (hl:us.length=2):Z us:=match us,hl with|[_,_],_=>h _ _
theorem Jp {Z:List Value->Prop} (h:∀a b c:Value,Z [a,b,c]) (us:List Value) (hl:us.length=3):Z us:=match us,hl with|[_,_,_],_=>h _ _ _
theorem by4 {Z:List Value->Prop} (h:∀a b c d:Value,Z [a,b,c,d]) (us:List Value) (hl:us.length=4):Z us:=match us,hl with|[_,_,_,_],_=>h _ _ _ _
theorem Jo {Z:List Value->Prop} (h:∀a b c d e:Value,Z [a,b,c,d,e]) (us:List Value) (hl:us.length=5):Z us:=match us,hl with|[_,_,_,_,_],_=>h _ _ _ _ _
noncomputable def clsAt (K:Fg) (x:Str):Addr:=match PySem.W.nsIn K mainGlobals x with
 |some (some (.ref C))=>C
 |_=>0
noncomputable abbrev kK:List Value:=[.type "ValueError",.type "Exception",.type "BaseException",.type "object"]
structure YF (K:Fg) (x:Str):Prop where
 at_:PySem.W.nsIn K mainGlobals x=some (some (.ref (clsAt K x)))
 exc:PySem.W.excIn K (clsAt K x) kK "ValueError.__new__"=true
section
variable {K:Fg}
theorem PU {x:Str} {h:Heap} (k:YF K x) (X:K.In h):∃bm N nm q bs hdct sn sub ab col dd k0 k1 k2 k3 k5 mN,h.get? (clsAt K x)=some (excClassObj nm q (clsAt K x) N bs bm hdct sn sub ab col dd k0 k1 k2 k3 k5 "ValueError.__new__")/\h.Ns N mN/\mN "__init__"=none/\OwnTail h kK bm:=by
 have q:=k.exc;generalize clsAt K x=C at q;unfold PySem.W.excIn at q;split at q
 ·rename_i dd cd sl ho;split at q
  ·rename_i C' bm k0 k1 k2 k3 n k5 hm hs;simp only [and_eq_true,beq_iff_eq,not_eq_true'] at q;obtain ⟨⟨⟨⟨⟨rfl,rfl⟩,hdel⟩,ht⟩,hok⟩,hni⟩:=q;obtain ⟨nm,bs,mro,ns,qn,hd,sn,sub,ab,col,del⟩:=cd;obtain ⟨l⟩:=sl;dsimp only at hm hs hdel hok hni;subst hm hdel hs;exact ⟨bm,ns,nm,qn,bs,hd,sn,sub,ab,col,dd,k0,k1,k2,k3,k5,_,X _ _ ho,.of_isNs (PySem.W.isNs_of_in X hok),PySem.W.nsMap_none_of_in X hok hni,PySem.W.tail_of_in X ht⟩
  ·cases q
 ·cases q
noncomputable def raiseO (x:Str) (a:EX K) (as:List (EX K)):SX K where
 t:=λE _ σ H=>fQ (a::as) E σ H λvs H1=>vs.length<=sizeLine/\E σ (.ref (clsAt K x)) none H1
 m:=λC s=>match s with
  | .Raise (some (.Call (.Name y _) es [] _)) none _=>(C.cm&&qL C x y)&&kL (a::as) C es
  |_=>false
 q:=λR=>(R.mg x=some (.ref (clsAt K x))/\YF K x)/\tM (a::as) R
 ok:=λX C E s hK G hE hq hm=>by
  subst hK;split at hm
  ·rename_i y py es p pos;simp only [and_eq_true] at hm;obtain ⟨⟨hcm,h1⟩,h2⟩:=hm;have e:=cJ h1;subst e;obtain ⟨g,d⟩:=cI G h1;obtain ⟨⟨hg,ek⟩,hqa⟩:=hq;cases es with
   |nil=>cases h2
   |cons e es=>
    intro pins s σ H D I h;have st:=bB (env:=X.env) (es:=es) (a.sok C e (aH h2).1);have pl:=bK (env:=X.env) (pos:=p) as es (aH h2).2;obtain ⟨bm,N,nm,q,bs,hdct,sn,sub,ab,col,dd,k0,k1,k2,k3,k5,mN,hC,hN,hni,T⟩:=PU ek I.ok.mod.kin;refine wpAny_Raise_call_subT (C:=clsAt X.K y) (nm:=nm) (q:=q) (N:=N) (bs:=bs) (bm:=bm) (hdct:=hdct) (sn:=sn) (sub:=sub) (ab:=ab) (col:=col) (dd:=dd) (k0:=k0) (k1:=k1) (k2:=k2) (k3:=k3) (k5:=k5)
     PySem.F.excBase_ValueError (mN:=mN) (T.hasType PySem.F.excBase_ValueError.hasBase) (I.ok.hd (G.calm hcm)) (by rw[st];exact pl) hni (kN I g hg ⟨rfl,?_⟩ d)
    have ev:=eG G hE (a::as) (e::es) hqa h2 p pins s σ H _ I h;rw[st] at ev ⊢;refine Calls.evalArgs_plain (wpAny_mono ev (λus s1 z=>?_) λ_ _ z=>z);obtain ⟨vs,H1,I1,r1,ln,w1⟩:=z;refine ⟨rfl,by rw[<-r1.length];exact ln,I1.bk _ _ hC,hN.keeps I1.bk,T.keeps I1.bk,λh' e' mk=>?_⟩;obtain ⟨t,eo,_,_⟩:=mk.there;refine hE.made pins σ H1 H1 s1 {s1 with heap:=h'} e' _ _ I1 rfl I1.bare (Un.kept mk.keeps) (I1.hok.kept mk.keeps) mk.new ?_ eo rfl rfl w1;cases hh:H1 e' with
    |none=>rfl
    |some o=>
     obtain ⟨u,hu⟩:=nJ (I1.hok e' o hh);rw[mk.new] at hu;cases hu
  ·cases hm
end
section
variable {X:Cx} {pins:List (Addr × Obj)} {σ:St} {H1 H':Hp} {s1 s':Shared} {B g:Heap} {e:Addr} {c fl:Value} {dx:Option Addr}
end
section
variable {X:Cx} {pins:List (Addr × Obj)} {σ:St} {H:Hp} {s:Shared} {M:Model} {A:Around} {E:Value->Shared->Prop} {Q:Unit->Shared->Prop}
end
section
variable {X:Cx} {pins pins':List (Addr × Obj)} {σ:St} {H:Hp} {s:Shared} {W:Value->Shared->Prop}
end
section
variable {K:Fg}
end
open PySem.W
section
variable {prog:Program} {w:World} {A:Around} {E:Value->Shared->Prop} {s:Shared} {K:Frag} {x D:Addr} {ox:Obj} {od:Option Obj} {name:Str}
end
theorem OM {KF:Fg->Prop} {l:PySem.W.OpenLaw} {q:Program} {loose:List Str} {XP:(Str->Option Value)->Heap->Prop} {YP:World->Heap->Prop} {d:DefRec} {K:Params->Fg} {st:Stmt} {N:List Str} {k:Nat} {x:Str} {sp:Fg->Sp} (hn:l.most=some 63) (hdf:d.params.defaults=[]) (hr:dF (k+1) callerA)
  (hY:∀(w:World) (h:Heap),YP w h->(K w.params).In h) (hK:∀w:World,KF (K w.params)) (hd:d.name="law") (b:∀K:Fg,List (SX K)) (S:gD N [x] (aN st)) (hm:∀K,FN (b K) ⟨N,(aN st).names,true⟩ (bJ st)=true)
  (hb:∀(kV doc pm:Value) (an:Option Addr) (cdv ct:Value) (u:Value),bindArgs (PySem.W.fnOf "law" "law" (cY st) (bJ st) (aN st) .none kV doc pm an cdv ct) ⟨[u],[]⟩=pure [(x,u)])
  (len:∀K vs H Q E,sp K vs H Q E->vs.length=1) (t:∀K,KF K->∀vs H Q E,sp K vs H Q E->lW (b K) (λ_=>E) {nx:=λ_ H'=>Q .non H',rt:=Q} (start N vs) H)
  (F:∀(w:World) (h:Heap),(K w.params).In h->FD (K w.params) "law" st/\YJ (K w.params) pM)
  (hq:∀(w:World) (mg:Str->Option Value) (h base:Heap),KF (K w.params)->(K w.params).In h->h.Ns mainGlobals mg->(∀x∈pM,mg x=none)->∀A,dF k A->HN (b (K w.params)) ⟨l.prog,w,K w.params,mg,base,A⟩)
  (hsp:∀(K:Fg) (H:Hp) (a:Addr) (ns:List Int),KF K->ns.length<=63->aR K H a (ns.map V.int)->sp K [.ref a] H (λv _=>v=.bl true) λ_ _ _=>False):
  PySem.W.WalkO q loose XP YP l.row.toRowW d [] (λf vs=>PySem.call f vs):=by
 refine L2.MN (n:=63) (k:=k+1) (x:=x) (CX:=λw=>xY l.prog w) (sp:=λw=>sp (K w.params)) hn (by decide) hdf hr hY (λw mg fa h KX G hmg=>?_) (λw H a ns hl _ hS=>hsp _ H a ns (hK w) hl hS) λ_ _ _ _ _ z=>xY.no z;obtain ⟨⟨f,fd,Fn,a⟩,bl⟩:=F w h KX;rw[hd] at hmg;have e:=hmg.symm.trans (PySem.W.mg_of KX G a);cases e;refine ⟨fd,λs u=>?_,λbase _ _=>?_⟩
 ·obtain ⟨oc,od,kV,doc,pm,an,cdv,ct,osl,rfl,lk,hcd⟩:=Fn.ex;exact .of_eq (hb kV doc pm an cdv ct u)
 ·exact KW Fn (b (K w.params)) S (hm _) (all_none KX G bl) (hq w mg h base (hK w) KX G (all_none KX G bl)) (λvs H Q E z=>len _ vs H Q E z) (t _ (hK w))
section
variable {prog:Program} {w:World} {A:Around} {E:Value->Shared->Prop} {h:Heap} {g:Array GenState} {d:Drawn} {t:Nat} {os:OsState}
variable {nm q:Str} {C N:Addr} {bs bm bmB:List Value} {hdct:Bool} {sn:List Str} {sub:List Value} {ab:Bool} {col:Option Bool} {dd:Option Addr} {k0 k1 k2 k3 k5:Option Value} {B newId initId:String}
theorem mI (F:ExcBaseFacts B newId initId bmB) (T:OwnTail h bmB bm) {mN:Str->Option Value} {rest:List Value} {fI:Addr} {oI:Obj} {Q:Fin->Shared->Prop}
  (hC:h.get? C=some (excClassObj nm q C N bs bm hdct sn sub ab col dd k0 k1 k2 k3 k5 newId)) (hn:h.Ns N mN) (hi:mN "__init__"=some (.ref fI)) (hfI:h.get? fI=some oI) (hfc:oI.cls=.type "function")
  (hq:∀h' e,Heap.MadeExcOf h h' e (.ref C) rest->wpAny (model prog w) A (PySem.call (.ref fI) (.ref e::rest)) (λr s'=>r=.none/\Q (.done (.ret (.ref e))) s') E ⟨h',g,d,t,os⟩) (hrest:rest.length<=sizeLine):
  wpAny (model prog w) A (Builtin.«type.__call__» ⟨.ref C::rest,[]⟩) Q E ⟨h,g,d,t,os⟩:=by
 repeat (first|with_reducible refine wpAny_loadPart_at hC ?_|with_reducible refine wpAny_madeBy_exc hC ?_|wp_step)
 refine codeAny_call_builtin_code (Code.quiet_builtin _ F.quiet) (wpAny_check_new_subT F T hC ?_);refine codeAny_exc_new_subT F T hC ?_ hrest;show wpAny _ _ _ _ _ _;have kp:∀b o,h.get? b=some o->((h.push {cls:=.type "tuple",data:=.seq rest.toArray}).push {cls:=.ref C,data:=.fields #[.ref h.objs.size,.none,.none,.none,.bool false,.none]}).get? b=some o:=λb o e=>get?_push_of_some _ (get?_push_of_some _ e);have hget:((h.push {cls:=.type "tuple",data:=.seq rest.toArray}).push {cls:=.ref C,data:=.fields #[.ref h.objs.size,.none,.none,.none,.bool false,.none]}).get? (h.objs.size+1)=some ({cls:=.ref C,data:=.fields #[.ref h.objs.size,.none,.none,.none,.bool false,.none]}:Obj):=by heap_get
 have hcC:(Value.ref C::bm).contains (.ref C)=true:=by simp
 have hC₁:=kp _ _ hC;unfold isInstance
 repeat (first|with_reducible refine wpAny_loadPart_at hget ?_|(with_reducible refine wpAny_isSubtype_exc hC₁ ?_;rw[hcC])|wp_step)
 show wpAny _ _ (typeLookup (.ref C) _) _ _ _;refine wpAny_typeLookup_tail hC₁ (hn.keeps kp) (T.keeps kp) F.mroIs F.init.lookup ?_;rw[hi];refine wpAny_holding (wpAny_bind ?_);unfold bindSpecial;refine wpAny_bind (wpAny_typeOf (T:="function") ⟨_,kp _ _ hfI,hfc⟩ ?_);rw[if_pos (by decide)];refine wpAny_pure (wpAny_bind (wpAny_mono (hq _ (h.objs.size+1) ⟨kp,Heap.get?_none_of_le (le_succ _),h.objs.size,hget,Heap.get?_none_of_le (Nat.le_refl _),?_⟩) (λr s' hr=>?_) λ_ _ x=>x))
 ·exact get?_push_of_some _ (Heap.get?_push_at rfl rfl)
 ·obtain ⟨rfl,hQ⟩:=hr
  wp_walk
  exact hQ
theorem AH (F:ExcBaseFacts B newId initId bmB) (T:OwnTail h bmB bm) {mN:Str->Option Value} {rest:List Value} {fI:Addr} {oI:Obj} {Q:Value->Shared->Prop}
  (hC:h.get? C=some (excClassObj nm q C N bs bm hdct sn sub ab col dd k0 k1 k2 k3 k5 newId)) (hn:h.Ns N mN) (hi:mN "__init__"=some (.ref fI)) (hfI:h.get? fI=some oI) (hfc:oI.cls=.type "function")
  (hq:∀h' e,Heap.MadeExcOf h h' e (.ref C) rest->
   wpAny (model prog w) (A.under (.builtin "type.__call__" ⟨.ref C::rest,[]⟩)) (PySem.call (.ref fI) (.ref e::rest)) (λr s'=>r=.none/\Q (.ref e) s') E ⟨h',g,d,t,os⟩) (hrest:rest.length<=sizeLine):
  wpAny (model prog w) A (PySem.call (.ref C) rest) Q E ⟨h,g,d,t,os⟩:=by
 have f1:=tc_lookup;have f2:=tc_bind (.ref C);have hT:(⟨h,g,d,t,os⟩:Shared).TypeIs (.ref C) "type":=⟨_,hC,rfl⟩;refine wpAny_call (codeAny_of_tree ?_);show wpAny _ _ (callAny (.ref C) _) _ _ _
 repeat (any_goals (first|assumption|with_reducible refine wpAny_loadPart_at hC ?_|wp_step))
 refine ⟨rfl,?_⟩;refine codeAny_call_builtin_at (Code.quiet_builtin _ (by decide+kernel)) entry_typeCall (wpAny_check_type_call_sub hC (mI (hrest:=hrest) F T hC hn hi hfI hfc λh' e hm=>?_));exact hq h' e hm
end
section
variable {prog:Program} {w:World} {A:Around} {E:Value->Shared->Prop} {s:Shared} {env:Env}
variable {nm q:Str} {C N:Addr} {bs bm bmB:List Value} {hdct:Bool} {sn:List Str} {sub:List Value} {ab:Bool} {col:Option Bool} {dd:Option Addr} {k0 k1 k2 k3 k5:Option Value} {B newId initId:String}
theorem eB {M:Model} {A:Around} {E:Value->Shared->Prop} {x:Sem Value} {Q:Flow->Shared->Prop} (hbase:bm.contains (.type "BaseException")=true) (hh:A.handled=none)
  (h:wpAny M A x (λv s₁=>∃e oe,v=.ref e/\s₁.heap.get? C=some (excClassObj nm q C N bs bm hdct sn sub ab col dd k0 k1 k2 k3 k5 newId)/\s₁.heap.get? e=some oe/\oe.cls=.ref C/\(∃vs,oe.data=.fields vs/\vs[1]?=some .none)/\E (.ref e) s₁) E s):
  wpAny M A (raiseStmt env (some x) none) Q E s:=by
 have hcB:(Value.ref C::bm).contains (.type "BaseException")=true:=by rw[List.contains_cons,hbase,Bool.or_true]
 unfold raiseStmt;refine wpAny_bind (wpAny_mono h (λv s₁ h₁=>?_) λ_ _ x=>x);obtain ⟨e,⟨oc,od,odt,osl⟩,rfl,hC,he,hc,⟨vs,hv,v1⟩,hE⟩:=h₁;dsimp only at hc hv;subst hc hv;obtain ⟨hp,g,d,tk,os⟩:=s₁
 repeat (first|with_reducible refine wpAny_loadPart_at he ?_|with_reducible refine wpAny_loadPart_at hC ?_|(with_reducible refine wpAny_isSubtype_exc hC ?_;rw[hcB])|wp_step)
 rw[v1];refine wpAny_pure ?_;rw[if_neg (show ¬((Value.none != Value.none)=true) by decide)];exact wpAny_pure (wpAny_raiseNew_none hh hE)
theorem vW (F:ExcBaseFacts B newId initId bmB) {mN:Str->Option Value} {x:Str} {np cpos pos:Pos} {args:List Expr} {Q:Flow->Shared->Prop} {fI:Addr}
  (hbase:bm.contains (.type "BaseException")=true) (hh:A.handled=none) (hplain:(backTo cpos (starEach args env)).any (·.1)=false) (hi:mN "__init__"=some (.ref fI))
  (h:wpAny (model prog w) A (eval (.Name x np) env) (λf s₁=>f=.ref C/\wpAny (model prog w) A (evalArgs (.ref C) true (backTo cpos (starEach args env)) [])
   (λa s₂=>a.kw=[]/\a.pos.length<=sizeLine/\s₂.heap.get? C=some (excClassObj nm q C N bs bm hdct sn sub ab col dd k0 k1 k2 k3 k5 newId)/\s₂.heap.Ns N mN/\OwnTail s₂.heap bmB bm/\(∃oI,s₂.heap.get? fI=some oI/\oI.cls=.type "function")/\
    ∀h' e,Heap.MadeExcOf s₂.heap h' e (.ref C) a.pos->wpAny (model prog w) (A.under (.builtin "type.__call__" ⟨.ref C::a.pos,[]⟩)) (PySem.call (.ref fI) (.ref e::a.pos)) (λr s'=>r=.none/\s'.heap.get? C=some (excClassObj nm q C N bs bm hdct sn sub ab col dd k0 k1 k2 k3 k5 newId)/\
     (∃oe vs,s'.heap.get? e=some oe/\oe.cls=.ref C/\oe.data=.fields vs/\vs[1]?=some .none)/\E (.ref e) s') E {s₂ with heap:=h'}) E s₁) E s):
  wpAny (model prog w) A (exec (.Raise (some (.Call (.Name x np) args [] cpos)) none pos) env) Q E s:=by
 rw[arm_exec_Raise]
 first
  |refine wpAny_bind (wpAny_standAt (eB (C:=C) (nm:=nm) (q:=q) (N:=N) (bs:=bs) (bm:=bm) (hdct:=hdct) (sn:=sn) (sub:=sub) (ab:=ab) (col:=col) (dd:=dd) (k0:=k0) (k1:=k1) (k2:=k2) (k3:=k3) (k5:=k5) (newId:=newId) hbase hh (wpAny_bind (wpAny_mono (wpAny_Call_ofName (wpAny_mono h (λf s₁ h₁=>?_) λ_ _ x=>x)) (λv s₃ h₃=>wpAny_bind (wpAny_standAt (wpAny_pure h₃))) λ_ _ x=>x))))
  | (simp only [evalOpt,Option.map];refine wpAny_bind (wpAny_standAt (eB (C:=C) (nm:=nm) (q:=q) (N:=N) (bs:=bs) (bm:=bm) (hdct:=hdct) (sn:=sn) (sub:=sub) (ab:=ab) (col:=col) (dd:=dd) (k0:=k0) (k1:=k1) (k2:=k2) (k3:=k3) (k5:=k5) (newId:=newId) hbase hh (wpAny_bind (wpAny_mono (wpAny_Call_ofName (wpAny_mono h (λf s₁ h₁=>?_) λ_ _ x=>x)) (λv s₃ h₃=>wpAny_bind (wpAny_standAt (wpAny_pure h₃))) λ_ _ x=>x)))))
  | (refine wpAny_bind (wpAny_standAt (eB (C:=C) (nm:=nm) (q:=q) (N:=N) (bs:=bs) (bm:=bm) (hdct:=hdct) (sn:=sn) (sub:=sub) (ab:=ab) (col:=col) (dd:=dd) (k0:=k0) (k1:=k1) (k2:=k2) (k3:=k3) (k5:=k5) (newId:=newId) hbase hh ?_));refine wpAny_bind (wpAny_mono (wpAny_Call_ofName (wpAny_mono h (λf s₁ h₁=>?_) λ_ _ x=>x)) (λv s₃ h₃=>wpAny_bind (wpAny_standAt (wpAny_pure h₃))) λ_ _ x=>x))
 obtain ⟨rfl,h₁⟩:=h₁;unfold callWith;refine wpAny_bind (wpAny_holding (wpAny_mono h₁ (λa s₂ h₂=>wpAny_bind (wpAny_standAt ?_)) λ_ _ x=>x));obtain ⟨apos,akw⟩:=a;obtain ⟨hkw,hlen,hC,hn,T,⟨oI,hfI,hfc⟩,h₂⟩:=h₂;obtain rfl:akw=[]:=hkw;obtain ⟨hp,g,d,tk,os⟩:=s₂;simp only [hplain];refine wpAny_bind (wpAny_keeperOf_exc hC ?_);refine wpAny_bind (AH (hrest:=hlen) F T hC hn hi hfI hfc λh' e hm=>wpAny_mono (h₂ h' e hm) (λr s' z=>⟨z.1,wpAny_bind (wpAny_holding (wpAny_point (wpAny_pure ?_)))⟩) λ_ _ z=>z);obtain ⟨_,z1,⟨oe,vs,z2,z3,z4,z6⟩,z5⟩:=z;exact ⟨e,oe,rfl,z1,z2,z3,⟨vs,z4,z6⟩,z5⟩
end
open Builtin Builtin.ObjectAttr
section
variable {prog:Program} {w:World} {A:Around} {E:Value->Shared->Prop} {h:Heap} {g:Array GenState} {d:Drawn} {t:Nat} {os:OsState} {K:Fg}
variable {nm q:Str} {C N e:Addr} {bs bm:List Value} {sn:List Str} {sub:List Value} {ab:Bool} {col:Option Bool} {dd:Option Addr} {k0 k1 k2 k3 k5:Option Value} {newId:String} {fld:Str} {v:Value} {oe:Obj}
theorem vU (self:Value) {tl:List Value} (T:OwnTail h kK tl):refuseLoop self "__setattr__" tl=pure ():=by
 induction T with
 |base=>exact F.store_ValueError.passes self
 |own _ _ _ _ ih=>rw[refuseLoop_ref];exact ih
theorem BM {M:Model} {c:Value} {n:Str} {r:Option Value} {Q:Option Value->Shared->Prop} (X:K.In h) (e:PySem.W.findIn K c n=some r) (hq:Q r ⟨h,g,d,t,os⟩):wpAny M A (typeLookup c n) Q E ⟨h,g,d,t,os⟩:=
 PySem.W.looks_findIn X e _ _ _ _ (λ_ _ z=>z) hq
theorem FA {M:Model} {nameV:Value} {Q:Unit->Shared->Prop} (hC:h.get? C=some (excClassObj nm q C N bs bm true sn sub ab col dd k0 k1 k2 k3 k5 newId)) (T:OwnTail h kK bm)
  (he:h.get? e=some oe) (hc:oe.cls=.ref C) (hq:Q () ⟨h,g,d,t,os⟩):wpAny M A (checkBuiltinCall "object.__setattr__" ⟨[.ref e,nameV,v],[]⟩) Q E ⟨h,g,d,t,os⟩:=by
 have SF:=F.store_ValueError;have hcB:(Value.ref C::bm).contains (.type "object")=true:=by rw[List.contains_cons,T.hasType SF.hasOwner,Bool.or_true]
 have ha:=SF.args (.ref e) nameV v;simp only [checkBuiltinCall,SF.kind,SF.split];refine wpAny_bind ?_;unfold isInstance
 repeat (first|(with_reducible refine wpAny_loadPart_at he ?_;rw[hc])|(with_reducible refine wpAny_isSubtype_exc hC ?_;rw[hcB])|wp_step)
 first
  |exact hq
  |cases hsig:Manifest.signature? "object.__setattr__" with
   |none=>exact wpAny_pure hq
   |some sig=>
    simp only [argsOk,hsig] at ha;have h2:Bind.checkArgs "object.__setattr__" sig ⟨[.ref e,nameV,v],[]⟩=pure ():=ha;show wpAny M A (Bind.checkArgs "object.__setattr__" sig ⟨[.ref e,nameV,v],[]⟩) Q E _;rw[h2];exact wpAny_pure hq
theorem EN {tk:Tok} {Q:PySem.Fin->Shared->Prop} (X:K.In h) (hC:h.get? C=some (excClassObj nm q C N bs bm true sn sub ab col dd k0 k1 k2 k3 k5 newId)) (T:OwnTail h kK bm)
  (hfl:PySem.W.findIn K (.ref C) fld=some none) (he:h.get? e=some oe) (hc:oe.cls=.ref C) (hdn:oe.dict=none) (hnc:∀c,oe.data≠.cls c)
  (hq:∀h' tk' dx,(∀b o,b≠e->h.get? b=some o->h'.get? b=some o)->h.get? dx=none->dx≠e->h'.get? e=some {cls:=oe.cls,dict:=some dx,data:=oe.data,slots:=oe.slots}->
   h'.Ns1 dx (λy=>if y=fld then some v else none)->Q (.done (.ret .none)) ⟨h',g,d,tk',os⟩):
  wpAny (model prog w) A (Builtin.«object.__setattr__» ⟨[.ref e,.str fld tk,v],[]⟩) Q E ⟨h,g,d,t,os⟩:=by
 have hpass:=vU (.ref e) T;unfold Builtin.«object.__setattr__»
 repeat (first|rw[refuse_eq]|(rw[refuseLoop_ref,hpass])|(with_reducible refine wpAny_loadPart_at he ?_;rw[hc])|with_reducible refine wpAny_mroOf_exc hC ?_|(with_reducible refine BM X hfl ?_)|wp_step)
 rw[hdn,if_neg (by simp [typeHasDict])];split
 ·rename_i hcd;cases hcd
 split
 ·rename_i c hcd;exact absurd hcd (hnc c)
 ·have hx₁:(h.push {cls:=.type "dict",data:=.dict #[]}).get? e=some oe:=get?_push_of_some _ he;have hxs:e≠h.objs.size:=ne_of_lt (lt_size he);refine wpAny_bind (wpAny_alloc' ?_);refine wpAny_bind (wpAny_update' hx₁ ?_);refine wpAny_pure ?_;have hgd:((h.push {cls:=.type "dict",data:=.dict #[]}).update e λo=>{cls:=o.cls,dict:=some h.objs.size,data:=o.data,slots:=o.slots}).get? h.objs.size
    =some ({cls:=.type "dict",data:=.dict #[]}:Obj):=(Heap.get?_update_ne _ _ _ _ hxs.symm).trans (Heap.get?_push_at rfl rfl)
  have hnd:((h.push {cls:=.type "dict",data:=.dict #[]}).update e λo=>{cls:=o.cls,dict:=some h.objs.size,data:=o.data,slots:=o.slots}).Ns h.objs.size (λ_=>none):=
   ⟨_,#[],_,hgd,rfl,λe he=>absurd he (by simp),λ_=>rfl⟩
  show wpAny _ _ (storeInDict h.objs.size (.str fld tk) fld v) _ _ _;unfold storeInDict newKeyGuard;refine wpAny_bind (wpAny_pure (wpAny_bind (wpAny_nsSet1 (Heap.Ns1.of_empty hnd) λh' hn' hs=>?_)));obtain ⟨oD,esD,epD,hoD,hdD,hcD⟩:=hn'.count (Within.cons fld v Within.nil);refine wpAny_bind (wpAny_lookBehind hoD (by rw[hdD];exact pastItsLine_dict (Nat.le_trans hcD (by rw[length_cons,length_nil,sizeLine_eq];lia))) ?_)
  wp_walk
  refine hq h' _ h.objs.size (λb ob hbx hb=>?_) (Heap.get?_none_of_le (Nat.le_refl _)) hxs.symm ?_ hn'
  ·exact (hs.2 b (ne_of_lt (lt_size hb))).trans ((Heap.get?_update_ne _ _ _ _ hbx).trans (get?_push_of_some _ hb))
  ·refine (hs.2 e hxs).trans (get?_update_self _ hx₁ ?_);have hfr:=(Heap.get?_some_iff.mp he).2;obtain ⟨oc,od,odt,osl⟩:=oe;cases odt<;>first|rfl|exact hfr
theorem DC {Q:Unit->Shared->Prop} (X:K.In h) (hC:h.get? C=some (excClassObj nm q C N bs bm true sn sub ab col dd k0 k1 k2 k3 k5 newId)) (T:OwnTail h kK bm)
  (hsa:PySem.W.findIn K (.ref C) "__setattr__"=some (some (.builtin "object.__setattr__"))) (hfl:PySem.W.findIn K (.ref C) fld=some none)
  (he:h.get? e=some oe) (hc:oe.cls=.ref C) (hdn:oe.dict=none) (hnc:∀c,oe.data≠.cls c)
  (hq:∀h' tk' dx,(∀b o,b≠e->h.get? b=some o->h'.get? b=some o)->h.get? dx=none->dx≠e->h'.get? e=some {cls:=oe.cls,dict:=some dx,data:=oe.data,slots:=oe.slots}->
   h'.Ns1 dx (λy=>if y=fld then some v else none)->Q () ⟨h',g,d,tk',os⟩):
  wpAny (model prog w) A (setAttr (.ref e) fld v) Q E ⟨h,g,d,t,os⟩:=by
 have SF:=F.store_ValueError;have f3:=SF.slot.bind (.ref e);unfold setAttr callSpecial? specialOf
 repeat (any_goals (first|assumption|(with_reducible refine wpAny_loadPart_at he ?_;rw[hc])|(with_reducible refine BM X hsa ?_)|wp_step))
 refine codeAny_call_builtin SF.slot.plain SF.entry (FA hC T he hc (EN X hC T hfl he hc hdn hnc λh' tk' dx q1 q2 q3 q4 q5=>?_))
 repeat (any_goals (first|assumption|wp_step))
 exact hq h' tk' dx q1 q2 q3 q4 q5
end
noncomputable def ME (K:Fg) (f:Addr) (slf prm fld:Str):Prop:=
 ∃(name qual:Str) (params:Arguments) (scope:Scope) (dV kV doc pm cdv ct:Value) (an od:Option Addr) (osl:Array (Option Value)) (p1 p2 p3 p4:Pos),
  K.lookup f=some ⟨.type "function",od,.func (PySem.W.fnOf name qual params [.Assign [.Attribute (.Name slf p1) fld p2] (.Name prm p3) p4] scope dV kV doc pm an cdv ct),osl⟩/\PySem.W.codeIn K cdv qual=true/\
  (scope.kind=.function/\scope.isCoroutine=false/\scope.isGenerator=false)/\(scope.names.lookup slf=some .local/\scope.names.lookup prm=some .local)/\((slf==("__debug__":Str))=false/\(prm==("__debug__":Str))=false/\slf≠prm)/\
  ∀(s:Shared) (u v:Value),K.In s.heap->PySem.BindsTo s (PySem.W.fnOf name qual params [.Assign [.Attribute (.Name slf p1) fld p2] (.Name prm p3) p4] scope dV kV doc pm an cdv ct) ⟨[u,v],[]⟩ [(slf,u),(prm,v)]
section
variable {prog:Program} {w:World} {A:Around} {E:Value->Shared->Prop} {s:Shared} {K:Fg}
variable {nm q:Str} {C N e f:Addr} {bs bm:List Value} {sn:List Str} {sub:List Value} {ab:Bool} {col:Option Bool} {dd:Option Addr} {k0 k1 k2 k3 k5:Option Value} {newId:String} {slf prm fld:Str} {v:Value} {oe:Obj}
theorem JK {Q:Value->Shared->Prop} (X:K.In s.heap) (I:ME K f slf prm fld) (hlim:s.heap.NoLimit) (hroom:A.depth<recursionLimit)
  (hC:s.heap.get? C=some (excClassObj nm q C N bs bm true sn sub ab col dd k0 k1 k2 k3 k5 newId)) (T:OwnTail s.heap kK bm)
  (hsa:PySem.W.findIn K (.ref C) "__setattr__"=some (some (.builtin "object.__setattr__"))) (hfl:PySem.W.findIn K (.ref C) fld=some none)
  (he:s.heap.get? e=some oe) (hc:oe.cls=.ref C) (hdn:oe.dict=none) (hnc:∀c,oe.data≠.cls c)
  (hq:∀h' tk' dx,(∀b o,b≠e->s.heap.get? b=some o->h'.get? b=some o)->s.heap.get? dx=none->dx≠e->h'.get? e=some {cls:=oe.cls,dict:=some dx,data:=oe.data,slots:=oe.slots}->
   h'.Ns1 dx (λy=>if y=fld then some v else none)->Q .none {s with heap:=h',toks:=tk'}):
  wpAny (model prog w) A (PySem.call (.ref f) [.ref e,v]) Q E s:=by
 obtain ⟨name,qual,params,scope,dV,kV,doc,pm,cdv,ct,an,od,osl,p1,p2,p3,p4,ho,hcd,⟨hk,hco,hgen⟩,⟨l1,l2⟩,⟨d1,d2,ne⟩,hb⟩:=I;refine wpAny_call (Att.QF X hlim ho hcd hroom (hb s (.ref e) v X) ?_ (λs₁ x=>?_) hco hgen hk)
 ·simp [l1,l2]
 have k1:(envOfC qual scope s.heap.objs.size f cdv).kindOf slf=some .local:=l1;have k2:(envOfC qual scope s.heap.objs.size f cdv).kindOf prm=some .local:=l2;have m1:bindL (envOfC qual scope s.heap.objs.size f cdv).kindOf [(slf,.ref e),(prm,v)] (λ_=>none) slf=some (.ref e):=by simp [bindL,k1,k2,ne]
 have m2:bindL (envOfC qual scope s.heap.objs.size f cdv).kindOf [(slf,.ref e),(prm,v)] (λ_=>none) prm=some v:=by simp [bindL,k1,k2]
 refine wpAny_execs_cons (plainObj_wpAny_Assign_Attribute (NameLC (s₀:=s) (env:=envOfC qual scope s.heap.objs.size f cdv) x hk k2 m2 (NameLC (s₀:=s) (env:=envOfC qual scope s.heap.objs.size f cdv) x hk k1 m1 ?_ d1) d2) rfl);obtain ⟨h₁,tk,rfl,kp⟩:=x.done;have kp':∀b o,s.heap.get? b=some o->h₁.get? b=some o:=kp;obtain ⟨h0,g,dr,t0,os⟩:=s;refine DC (X.keeps kp') (kp' _ _ hC) (T.keeps kp') hsa hfl (kp' _ _ he) hc hdn hnc λh' tk' dx q1 q2 q3 q4 q5=>wpAny_execs_nil ?_;exact hq h' tk' dx (λb o hb eo=>q1 b o hb (kp' b o eo)) (by
  cases z:h0.get? dx with
  |none=>rfl
  |some o=>rw[kp' _ _ z] at q2;cases q2) q3 q4 q5
end
noncomputable def XC (K:Fg) (C f:Addr):Bool:=match K.lookup C with
 |some ⟨.type "type",_,.cls cd,sl⟩=>(match cd.mro,sl.toList with
  | .ref C'::bm,[_,_,_,_,some (.builtin n),_]=>C'==C&&n=="ValueError.__new__"&&!cd.hasDel&&PySem.W.tailIn K kK bm&&PySem.W.nsOkIn K cd.ns&&(PySem.W.nsIn K cd.ns "__init__"==some (some (.ref f))&&cd.hasDict)
  |_,_=>false)
 |_=>false
noncomputable def wU (K:Fg) (x:Str):Addr:=match PySem.W.findIn K (.ref (clsAt K x)) "__init__" with
 |some (some (.ref f))=>f
 |_=>0
structure YE (K:Fg) (x slf prm fld:Str):Prop where
 at_:PySem.W.nsIn K mainGlobals x=some (some (.ref (clsAt K x)))
 exc:XC K (clsAt K x) (wU K x)=true
 sa:PySem.W.findIn K (.ref (clsAt K x)) "__setattr__"=some (some (.builtin "object.__setattr__"))
 fl:PySem.W.findIn K (.ref (clsAt K x)) fld=some none
 fn:ME K (wU K x) slf prm fld
section
variable {K:Fg}
theorem zM {h:Heap} {N:Addr} {mg:Str->Option Value} {n:Str} {v:Value} (X:K.In h) (G:h.Ns N mg) (e:PySem.W.nsIn K N n=some (some v)):mg n=some v:=by
 obtain ⟨o,es,ep,ho,hd,_,hf⟩:=G;unfold PySem.W.nsIn at e;split at e
 ·rename_i c d es' n' sl q;have z:=X _ _ q;rw[ho] at z;cases z;cases hd;split at e
  ·rename_i en he;cases e;rw[<-hf];unfold nsFind findBy;rw[<-Array.find?_toList,he];rfl
  ·split at e<;>cases e
 ·cases e
theorem OW {C f:Addr} {h:Heap} (q:XC K C f=true) (X:K.In h):∃bm N nm q bs sn sub ab col dd k0 k1 k2 k3 k5 mN,h.get? C=some (excClassObj nm q C N bs bm true sn sub ab col dd k0 k1 k2 k3 k5 "ValueError.__new__")/\h.Ns N mN/\mN "__init__"=some (.ref f)/\OwnTail h kK bm:=by
 unfold XC at q;split at q
 ·rename_i dd cd sl ho;split at q
  ·rename_i C' bm k0 k1 k2 k3 n k5 hm hs;simp only [and_eq_true,beq_iff_eq,not_eq_true'] at q;obtain ⟨⟨⟨⟨⟨rfl,rfl⟩,hdel⟩,ht⟩,hok⟩,hni,hhd⟩:=q;obtain ⟨nm,bs,mro,ns,qn,hd,sn,sub,ab,col,del⟩:=cd;obtain ⟨l⟩:=sl;dsimp only at hm hs hdel hok hni hhd;subst hm hdel hs hhd;exact ⟨bm,ns,nm,qn,bs,sn,sub,ab,col,dd,k0,k1,k2,k3,k5,_,X _ _ ho,.of_isNs (PySem.W.isNs_of_in X hok),zM X (.of_isNs (PySem.W.isNs_of_in X hok)) hni,PySem.W.tail_of_in X ht⟩
  ·cases q
 ·cases q
theorem Un.laid' {fs ex:List Addr} {H:Hp} {h h':Heap} {a:Addr} {o:HO} (k:∀b u,h.get? b=some u->h'.get? b=some u) (hp:h.get? a=none) (hn:H a=none):Un fs ex H (upd H a o) h h' where
 keep:=λb u q _ _ _=>k b u q
 slot:=λb u q _ _ _=>⟨u.slots,k b u q⟩
 free:=λb u q n _=>by rw[aF (λz=>by rw[z,hp] at q;cases q)];exact n
 there:=λb u q _=>⟨u,k b u q⟩
 tups:=λb xs q=>by rw[aF (aD q hn)];exact q
 frzs:=λb u xs q=>by rw[aF (aD q hn)];exact q
 tbls:=λb ps q=>⟨#[],by rw[aF (aD q hn),q];simp⟩
theorem eJ.none_of {P:Program} {w:World} {H:Hp} {h:Heap} {a:Addr} (x:eJ P w H h) (e:h.get? a=none):H a=none:=by
 cases q:H a with
 |none=>rfl
 |some o=>
  obtain ⟨u,hu⟩:=nJ (x a o q);rw[e] at hu;cases hu
theorem eJ.laid' {P:Program} {w:World} {H:Hp} {h h':Heap} {a:Addr} {o:HO} (x:eJ P w H h) (k:∀b u,h.get? b=some u->h'.get? b=some u) (hn:H a=none) (new:aZ P w (upd H a o) h' a o):eJ P w (upd H a o) h':=λb u e=>by
 by_cases hb:b=a
 ·subst hb;rw[aA] at e;cases e;exact new
 ·rw[aF hb] at e;exact (x b u e).stay (λc v _ q=>k c v q) (λc q=>by rw[aF (aD q hn)];exact q) λc xs q=>by rw[aF (aD q hn)];exact q
noncomputable def one (P:V->Hp->Prop):List V->Hp->Prop
 |[v],H=>P v H
 |_,_=>False
theorem VG {P:V->Hp->Prop} {vs:List V} {H:Hp} (h:one P vs H):∃v,vs=[v]/\P v H:=by
 cases vs with
 |nil=>exact h.elim
 |cons x xs=>
  cases xs with
  |nil=>exact ⟨x,rfl,h⟩
  |cons _ _=>exact h.elim
noncomputable def yW (x slf prm fld:Str) (a:EX K):SX K where
 t:=λE _ σ H=>a.t E σ H λv H1=>∀dx,H1 dx=none->E σ (.ref (clsAt K x)) (some dx) (upd H1 dx (.xd [(fld,v)]))
 m:=λC s=>match s with
  | .Raise (some (.Call (.Name y _) es [] _)) none _=>(C.cm&&qL C x y)&&kL [a] C es
  |_=>false
 q:=λR=>(R.mg x=some (.ref (clsAt K x))/\YE K x slf prm fld/\∃k,dF k R.A)/\a.q R
 ok:=λX C E s hK G hE hq hm=>by
  subst hK;split at hm
  ·rename_i y py es p pos;simp only [and_eq_true] at hm;obtain ⟨⟨hcm,h1⟩,h2⟩:=hm;have e:=cJ h1;subst e;obtain ⟨g,d⟩:=cI G h1;obtain ⟨⟨hg,ek,kk,rm⟩,hqa⟩:=hq;cases es with
   |nil=>cases h2
   |cons e es=>
    intro pins s σ H D I h;have st:=bB (env:=X.env) (es:=es) (a.sok C e (aH h2).1);have pl:=bK (env:=X.env) (pos:=p) [] es (aH h2).2;obtain ⟨bm,N,nm,q,bs,sn,sub,ab,col,dd,k0,k1,k2,k3,k5,mN,hC,hN,hi,T⟩:=OW ek.exc I.ok.mod.kin;refine vW (C:=clsAt X.K y) (nm:=nm) (q:=q) (N:=N) (bs:=bs) (bm:=bm) (hdct:=true) (sn:=sn) (sub:=sub) (ab:=ab) (col:=col) (dd:=dd) (k0:=k0) (k1:=k1) (k2:=k2) (k3:=k3) (k5:=k5)
     PySem.F.excBase_ValueError (mN:=mN) (T.hasType PySem.F.excBase_ValueError.hasBase) (I.ok.hd (G.calm hcm)) (by rw[st];exact pl) hi (kN I g hg ⟨rfl,?_⟩ d)
    have ev:=eG G hE [a] (e::es) (show tM [a] (dM X) from ⟨hqa,trivial⟩) h2 p pins s σ H (one λv H1=>∀dx,H1 dx=none->E σ (.ref (clsAt X.K y)) (some dx) (upd H1 dx (.xd [(fld,v)]))) I h;rw[st] at ev ⊢;refine Calls.evalArgs_plain (wpAny_mono ev (λus s1 z=>?_) λ_ _ z=>z);obtain ⟨vs,H1,I1,r1,w1⟩:=z;obtain ⟨v,rfl,w1⟩:=VG w1;obtain ⟨u,rfl,r2⟩:=r1.one;obtain ⟨name,qual,params,scope,dV,kV,doc,pm,cdv,ct,an,od,osl,p1,p2,p3,p4,ho,_⟩:=ek.fn;refine ⟨rfl,by simp [sizeLine_eq],I1.bk _ _ hC,hN.keeps I1.bk,T.keeps I1.bk,⟨_,I1.kIn _ _ ho,rfl⟩,λh' e' mk=>?_⟩;obtain ⟨t,eo,_,_⟩:=mk.there;have kp:∀b o,s1.heap.get? b=some o->h'.get? b=some o:=mk.keeps;refine JK (s:={s1 with heap:=h'}) (I1.kIn.keeps kp) ek.fn (I1.nolimit.keeps kp) ?_ (kp _ _ (I1.bk _ _ hC)) ((T.keeps I1.bk).keeps kp) ek.sa ek.fl eo rfl rfl (λc z=>by cases z) λh2 tk dx q1 q2 q3 q4 q5=>?_
    ·rw[zR];have z:X.A.depth+3 * kk+5<recursionLimit:=rm.dp;lia
    have q1':∀b o,s1.heap.get? b=some o->h2.get? b=some o:=λb o z=>q1 b o (λy=>by rw[y,mk.new] at z;cases z) (kp b o z);have n1:s1.heap.get? dx=none:=by
     cases z:s1.heap.get? dx with
     |none=>rfl
     |some o=>rw[kp _ _ z] at q2;cases q2
    have n2:=eJ.none_of I1.hok n1;refine ⟨rfl,q1' _ _ (I1.bk _ _ hC),⟨_,_,q4,rfl,rfl,rfl⟩,?_⟩;refine hE.made pins σ H1 _ s1 {s1 with heap:=h2,toks:=tk} e' _ _ I1 rfl I1.bare (Un.laid' q1' n1 n2) (eJ.laid' I1.hok q1' n2 ?_) mk.new ?_ q4 rfl rfl (w1 dx n2)
    ·refine ⟨_,q5,λf=>?_⟩;by_cases hf:f=fld
     ·subst hf;simp [jJ];exact r2
     ·have hb:(f==fld)=false:=beq_eq_false_iff_ne.mpr hf;simp [hb,hf,jJ,List.lookup]
    ·rw[aF q3.symm];exact eJ.none_of I1.hok mk.new
  ·cases hm
end
section
variable {K:Fg} {X:Cx} {pins:List (Addr × Obj)} {σ:St} {H:Hp} {s:Shared}
theorem WA {x slf prm fld name qual:Str} {C f:Addr} {params:Arguments} {scope:Scope} {dV kV doc pm cdv ct:Value} {an od:Option Addr} {osl:Array (Option Value)} {p1 p2 p3 p4:Pos}
  (h1:PySem.W.nsIn K mainGlobals x=some (some (.ref C))) (h2:PySem.W.findIn K (.ref C) "__init__"=some (some (.ref f)))
  (l:K.lookup f=some ⟨.type "function",od,.func (PySem.W.fnOf name qual params [.Assign [.Attribute (.Name slf p1) fld p2] (.Name prm p3) p4] scope dV kV doc pm an cdv ct),osl⟩) (c:PySem.W.codeIn K cdv qual=true)
  (s:scope.kind=.function/\scope.isCoroutine=false/\scope.isGenerator=false) (n:scope.names.lookup slf=some .local/\scope.names.lookup prm=some .local) (d:(slf==("__debug__":Str))=false/\(prm==("__debug__":Str))=false/\slf≠prm)
  (b:∀(s:Shared) (u v:Value),K.In s.heap->PySem.BindsTo s (PySem.W.fnOf name qual params [.Assign [.Attribute (.Name slf p1) fld p2] (.Name prm p3) p4] scope dV kV doc pm an cdv ct) ⟨[u,v],[]⟩ [(slf,u),(prm,v)]):ME K (wU K x) slf prm fld:=by
 have e1:clsAt K x=C:=by unfold clsAt;rw[h1]
 have e2:wU K x=f:=by unfold wU;rw[e1,h2]
 rw[e2];exact ⟨name,qual,params,scope,dV,kV,doc,pm,cdv,ct,an,od,osl,p1,p2,p3,p4,l,c,s,n,d,b⟩
end
section
variable {K:Fg}
theorem qT:∀{cs:List Addr} {us:List Value},Vals (cs.map V.ref) us->us=cs.map Value.ref
 |[],[],_=>rfl
 |[],_::_,h=>nomatch h
 |c::cs,[],h=>nomatch h
 |c::cs,u::us,.cons r1 r2=>by
  obtain rfl:u=Value.ref c:=r1;rw[map_cons,qT r2]
section
variable {E:XS} {σ:St} {H:Hp} {Q:VK} {a b:EX K} {D:Ends}
theorem wZ {x slf prm fld:Str} (h:a.t E σ H λv H1=>∀dx,H1 dx=none->E σ (.ref (clsAt K x)) (some dx) (upd H1 dx (.xd [(fld,v)]))):(yW x slf prm fld a).t E D σ H:=h
theorem JQ {x:Str} {as:List (EX K)} (h:fQ (a::as) E σ H λvs H1=>vs.length<=sizeLine/\E σ (.ref (clsAt K x)) none H1):(raiseO x a as).t E D σ H:=h
end
end
open PySem.Builtin PySem.Builtin.Str
section
variable {K:Fg}
noncomputable def gT:Str->List V->Hp->VK->Prop
 |z,[.str y],H,Q=>Q (.bl (Txt.startswith z y)) H
 |_,_,_,_=>False
theorem DW {X:Cx}:YD X "str.startswith" (rS gT):=by
 intro pins s σ H x xs v us Q I rx rs q;cases x with
 |str z=>
  have q':gT z xs H Q:=q;unfold gT at q';split at q'
  ·obtain ⟨t,rfl⟩:=rx;obtain ⟨u,rfl,ru⟩:=rs.one;obtain ⟨t2,rfl⟩:=ru;exact SC.startswith ⟨.bl _,H,I,rfl,q'⟩
  ·exact q'.elim
 |_=>exact q.elim
noncomputable def m_startswith (o a:EX K) (ho:o.s≠.zc:=by intro z;cases z):EX K:=rG "startswith" "str.startswith" gT PySem.F.slot_str_startswith PySem.F.type_str_startswith (λ_ _ _ _=>DW) o ho [a]
noncomputable def RD (r:V->List V->Hp->VK->Prop) (t:TA):V->St->Hp->VK->Prop
 | .ref p,σ,H,Q=>(∃kvs,H p=some (.dK kvs))/\t σ H λys H2=>r (.ref p) ys H2 Q
 |_,_,_,_=>False
noncomputable def rE:V->List V->Hp->VK->Prop
 | .ref a,[y,d],H,Q=>∃o,dR H a y o/\Q (o.getD d) H
 |_,_,_,_=>False
theorem OJ {X:Cx} (hu:X.A.units+1<cLine):YD X "dict.get" rE:=by
 intro pins s σ H x xs v us Q I rx rs q;unfold rE at q;split at q
 ·obtain ⟨o,g,q⟩:=q;obtain ⟨u,w',rfl,r1,r2⟩:=rs.two;cases rx;exact XH hu I g r1 r2 λw' s' I' rw'=>⟨_,H,I',rw',q⟩
 ·exact q.elim
noncomputable def JA (o a b:EX K) (ho:o.s≠.zc:=by intro z;cases z):EX K:=IU "get" "dict" "dict.get" rE (RD rE) PySem.F.plainAttrs_dict PySem.F.slot_dict_get PySem.F.type_dict_get (λX _ _ hu=>OJ (by lia)) (λt x σ H Q h=>by
  cases x with
  |ref p=>exact ⟨.inr (.inr (.inl ⟨rfl,.inl h.1⟩)),h.2⟩
  |_=>exact h.elim) o ho [a,b]
section
variable {E:XS} {σ:St} {H:Hp} {Q:VK} {D:Ends} {QB:Bool->Hp->Prop} {v:V} {i j:Int} {n:Nat} {a b c:EX K}
theorem JP {ho:a.s≠.zc} (h:a.t E σ H λx H1=>RS gT (fQ [b] E) x σ H1 Q):(m_startswith a b ho).t E σ H Q:=h
theorem Ct {ho:a.s≠.zc} (h:a.t E σ H λx H1=>RD rE (fQ [b,c] E) x σ H1 Q):(JA a b c ho).t E σ H Q:=h
theorem Df {r:V->List V->Hp->VK->Prop} {t:TA} {p:Addr} {kvs:List (Key × V)} (c:H p=some (.dK kvs)) (h:t σ H λys H2=>r (.ref p) ys H2 Q):RD r t (.ref p) σ H Q:=⟨⟨kvs,c⟩,h⟩
theorem AB {p:Addr} {y d:V} {o:Option V} (g:dR H p y o) (h:Q (o.getD d) H):rE (.ref p) [y,d] H Q:=⟨o,g,h⟩
theorem Bs {p q:Addr} {xs ys:List V} (h1:H p=some (.lst xs)) (h2:H q=some (.lst ys)) (hl:xs.length≠ys.length) (h:QB false H):rB (kE K .Eq) (.ref p) (.ref q) H QB:=.inr (.inr ⟨p,q,xs,ys,rfl,rfl,h1,h2,hl,h⟩)
theorem JW {p q:Addr} {xs ys:List V} (h1:H p=some (.lst xs)) (h2:H q=some (.lst ys)) (hz:xs.length+ys.length<=sizeLine) (h:∀r,H r=none->Q (.ref r) (upd H r (.lst (xs++ys)))):mK K .Add (.ref p) (.ref q) H Q:=
 .inl ⟨p,q,xs,ys,rfl,rfl,h1,h2,hz,h⟩
theorem wY {p:Addr} {xs:List V} {k:Int} (h1:H p=some (.lst xs)) (h2:-(2 ^ 63)<=k/\k<2 ^ 63) (hz:xs.length * k.toNat<=sizeLine) (h:∀r,H r=none->Q (.ref r) (upd H r (.lst (replicate k.toNat xs).flatten))):mK K .Mult (.ref p) (.int k) H Q:=
 ⟨p,k,xs,rfl,rfl,h1,h2.1,h2.2,hz,h⟩
theorem xI {p r:Addr} {xs ys:List V} {te:TE} {is:List Nat} {D:Addr} (f:V->V->V) (hp:aR K H p xs) (hr:aR K H r ys) (hD:H D=none) (hz:xs.length<=sizeLine)
  (step:∀(i:Nat) (x y:V) (H1:Hp) (Q':VK),xs[i]?=some x->ys[i]?=some y->aB H H1->(∀H3,aB H1 H3->Q' (f x y) H3)->te (some x::some y::fO is σ) H1 Q')
  (fin:∀H1,aB H H1->H1 D=some (.lst (zipWith f xs ys))->Q (.ref D) H1):bA (Eg K p r) (CT [0,1]:TX K).g (cT (none:Option (EX K))) te 2 is σ D H Q:=by
 refine ⟨λi m σ' H1=>m=min xs.length ys.length - i/\i<=min xs.length ys.length/\(∃a b,σ'=a::b::fO is σ)/\aB H H1/\H1 D=some (.lst ((zipWith f xs ys).take i)),⟨_,rfl,zero_le _,⟨none,none,rfl⟩,λb o e=>by rw[aF (aD e hD)];exact e,by rw[aA,take_zero]⟩,?_⟩;rintro i m σ' H1 ⟨rfl,hi,⟨a,b,rfl⟩,hS,hO⟩;have hp1:=hS.seq hp;have hr1:=hS.seq hr;by_cases hlt:i<min xs.length ys.length
 ·have l1:i<xs.length:=by lia
  have l2:i<ys.length:=by lia
  refine .inr ⟨⟨xs,ys,xs[i],ys[i],hp1,hr1,getElem?_eq_getElem l1,getElem?_eq_getElem l2⟩,?_⟩;rintro v H' ⟨t,x,y,ht,rfl,rfl,hx,hy⟩;have hx1:=hx _ hp1;have hy1:=hy _ hr1;have s1:aB H1 (upd H1 t (.tup [x,y])):=λc o e=>by rw[aF (aD e ht)];exact e
  refine jD (cC.of aA) ?_;refine ⟨λ_=>?_,λz=>nomatch z⟩;refine step i x y _ _ hx1 hy1 (hS.trans s1) λH3 s3=>?_;refine ⟨_,s3 _ _ (s1 _ _ hO),?_,min xs.length ys.length - (i+1),by lia,rfl,hlt,⟨_,_,rfl⟩,λc o q=>?_,?_⟩
  ·rw[length_take];lia
  ·rw[aF (aD q hD)];exact s3 _ _ (s1 _ _ (hS c o q))
  ·rw[aA,take_add_one,getElem?_zipWith,hx1,hy1];rfl
 ·have e:i=min xs.length ys.length:=by lia
  subst e;refine .inl ⟨⟨xs,ys,hp1,hr1,by lia⟩,fin H1 hS ?_⟩;rw[hO,take_of_length_le (by rw[length_zipWith];exact Nat.le_refl _)]
end
end
section
variable {K:Fg} {σ:St} {H:Hp} {Q:VK}
theorem xM {J:It} {P:Hp->Prop} {items:List V} (Y:Yl J P items) {te:TE} {is:List Nat} {D:Addr} (R:Nat->V->Hp->Prop) (hD:H D=none) (hP:∀H1,aB H H1->P H1) (hz:items.length<=sizeLine)
  (mono:∀i y H1 H2,(∀b o,b≠D->H1 b=some o->H2 b=some o)->R i y H1->R i y H2)
  (step:∀(i:Nat) (x:V) (H1:Hp) (Q':VK),items[i]?=some x->aB H H1->(∃o,H1 D=some o)->(∀y H3,aB H1 H3->R i y H3->Q' y H3)->te (some x::fO is σ) H1 Q')
  (fin:∀H1 ys,aB H H1->H1 D=some (.lst ys)->ys.length=items.length->(∀i y,ys[i]?=some y->R i y H1)->Q (.ref D) H1):bA J (kJ 0:TX K).g (cT (none:Option (EX K))) te 1 is σ D H Q:=by
 refine ⟨λi m σ' H1=>m=items.length - i/\i<=items.length/\(∃a,σ'=a::fO is σ)/\aB H H1/\∃ys:List V,H1 D=some (.lst ys)/\ys.length=i/\∀j y,ys[j]?=some y->R j y H1,⟨items.length,by simp,zero_le _,⟨none,rfl⟩,λb o e=>by rw[aF (aD e hD)];exact e,[],aA,rfl,λj y z=>by simp at z⟩,?_⟩;rintro i m σ' H1 ⟨rfl,hi,⟨a,rfl⟩,hS,ys,hO,hl,hr⟩;have p:=hP H1 hS;by_cases hlt:i<items.length
 ·refine .inr ⟨Y.go i H1 p hlt,λx H' hy=>?_⟩;obtain ⟨e,hx⟩:=Y.yld i H1 x H' p hlt hy;subst e;refine ⟨λ_=>?_,λz=>nomatch z⟩;refine step i x H' _ hx hS ⟨_,hO⟩ λy H3 s3 hy3=>?_;refine ⟨ys,s3 _ _ hO,by rw[hl];lia,items.length - (i+1),by lia,rfl,hlt,⟨_,rfl⟩,λb o q=>?_,ys++[y],aA,by rw[length_append,hl];rfl,λj y' hj=>?_⟩
  ·rw[aF (aD q hD)];exact s3 _ _ (hS b o q)
  ·by_cases hj2:j<ys.length
   ·rw[getElem?_append_left hj2] at hj;exact mono j y' H' _ (λb o hb q=>by rw[aF hb];exact s3 _ _ q) (hr j y' hj)
   ·rw[getElem?_append_right (by lia)] at hj;have e0:j - ys.length=0:=by
     have:=(List.getElem?_eq_some_iff.mp hj).1;simp at this;lia
    rw[e0] at hj;have e1:y=y':=by simpa using hj
    subst e1;have e2:j=i:=by lia
    subst e2;exact mono j y H3 _ (λb o hb q=>by rw[aF hb];exact q) hy3
 ·have e:i=items.length:=by lia
  subst e;exact .inl ⟨Y.stop H1 p,fin H1 ys hS hO hl hr⟩
theorem ET {p:Addr} {xs:List V} {te:TE} {is:List Nat} {D:Addr} (R:Nat->V->Hp->Prop) (hp:cC K H p xs) (hD:H D=none) (hz:xs.length<=sizeLine)
  (mono:∀i y H1 H2,(∀b o,b≠D->H1 b=some o->H2 b=some o)->R i y H1->R i y H2)
  (step:∀(i:Nat) (x:V) (H1:Hp) (Q':VK),xs[i]?=some x->aB H H1->(∃o,H1 D=some o)->(∀y H3,aB H1 H3->R i y H3->Q' y H3)->te (some x::fO is σ) H1 Q')
  (fin:∀H1 ys,aB H H1->H1 D=some (.lst ys)->ys.length=xs.length->(∀i y,ys[i]?=some y->R i y H1)->Q (.ref D) H1):bA (Ei K p) (kJ 0:TX K).g (cT (none:Option (EX K))) te 1 is σ D H Q:=xM (SJ (xs:=xs)) R hD (vL hp) hz mono step fin
theorem EU {p:Addr} {xs:List V} {te:TE} {is:List Nat} {D:Addr} (f:Nat->V) (hp:aR K H p xs) (hD:H D=none) (hz:xs.length<=sizeLine)
  (step:∀(i:Nat) (x:V) (H1:Hp) (Q':VK),xs[i]?=some x->aB H H1->(∀H3,aB H1 H3->Q' (f i) H3)->te (some x::fO is σ) H1 Q')
  (fin:∀H1,aB H H1->H1 D=some (.lst ((range xs.length).map f))->Q (.ref D) H1):bA (SG K p) (kJ 0:TX K).g (cT (none:Option (EX K))) te 1 is σ D H Q:=iA (dG (xs:=xs)) f hD (λH1 hS=>hS.seq hp) hz step fin
end
noncomputable def Eh (K:Fg) (a:Addr) (n:Nat):It:=
 ⟨λi H=>i<n/\∃xs x,aR K H a xs/\xs[n - 1 - i]?=some x,λi H x H'=>H'=H/\∀xs,aR K H a xs->xs[n - 1 - i]?=some x,λi _=>i=n⟩
theorem GK {P:Program} {w:World} {K:Fg} {tg:Expr} (a it:Addr) (n:Nat):Turn P w K tg (Eh K a n) [it] it (λi h=>h.IsRevIter it a ((n:Int) - 1 - (i:Int))) where
 mem:=by simp
 obj:=λi h st b hb=>by
  have e:b=it:=by simpa using hb
  subst e;obtain ⟨o,e,c,d⟩:=st;exact ⟨o,e,λv z=>by rw[d] at z;cases z⟩
 keep:=λi h h' st k=>st.at λo e=>k it (by simp) o e
 item:=by
  intro X hP hw hK hc i pins s σ H E I hf st hg;subst hP hw hK;obtain ⟨hi,xs,x,hq,hx⟩:=hg;obtain ⟨its,rv,p,hz⟩:=I.list hq;obtain ⟨u,hu,ru⟩:=rv.get hx;obtain ⟨f0,f1,f2,f3,f4,f5⟩:=hf it (by simp);have e:(n:Int) - 1 - (i:Int)=((n - 1 - i:Nat):Int):=by lia
  rw[e] at st;refine wpAny_pyNext_rev_item st p.isList (x:=u) (by simpa using hu) λh' st' sb=>?_;have I1:Inv X pins σ H {s with heap:=h'}:=I.turned (t':=s.toks) (λb o hb e=>(sb.2 b hb).trans e) f0 f1 f3 f4 f5;have e2:((n - 1 - i:Nat):Int) - 1=(n:Int) - 1 - ((i+1:Nat):Int):=by lia
  rw[e2] at st';obtain ⟨o,e,c,d⟩:=id st';exact ⟨u,rfl,oY (s:={s with heap:=h'}) e c d (by decide) ⟨x,H,I1,ru,⟨rfl,λys hy=>by rw[I.list_inj hy hq];exact hx⟩,st',λb hb=>(hf b hb).1⟩⟩
 done:=by
  intro X hP hw hK hc i pins s σ H E I hf st hg;subst hP hw hK;have hg:i=n:=hg;subst hg;obtain ⟨f0,f1,f2,f3,f4,f5⟩:=hf it (by simp);have e:(i:Int) - 1 - (i:Int)=-1:=by lia
  rw[e] at st;exact wpAny_pyNext_rev_end (I.ok.hd hc) st λh' eb=>⟨rfl,I.turned (t':=s.toks) (λb o hb e=>eb b o hb e) f0 f1 f3 f4 f5⟩
 self:=λ_ _ _ _ _ st h=>wpAny_pyIter_revIter st h
theorem SM {K:Fg} {a:Addr} {xs:List V}:Yl (Eh K a xs.length) (λH=>aR K H a xs) xs.reverse where
 go:=λi H p h=>by
  rw[length_reverse] at h;exact ⟨h,xs,xs[xs.length - 1 - i],p,getElem?_eq_getElem (by lia)⟩
 yld:=λi H x H' p hi h=>⟨h.1,by
  rw[length_reverse] at hi
  rw[List.getElem?_reverse hi]
  exact h.2 xs p⟩
 stop:=λH p=>by
  show xs.reverse.length=xs.length;exact length_reverse
section
variable {K:Fg}
noncomputable def vX (K:Fg):List V->Hp->(It->Hp->Prop)->Prop
 |[.ref p],H,R=>∃xs,aR K H p xs/\R (Eh K p xs.length) H
 |_,_,_=>False
noncomputable def Dg (a:EX K):IX K where
 t:=λE σ H R=>fQ [a] E σ H λvs H1=>vX K vs H1 R
 tm:=λ_=>true
 m:=λC e=>match e with
  | .Call (.Name y _) es [] _=>qL C "reversed" y&&kL [a] C es
  |_=>false
 q:=λR=>tM [a] R
 ok:=λX C E tg e hK G hE hq _ hm=>by
  subst hK;cases e with
  |Call f es ks p=>
   cases f with
   |Name y py=>
    cases ks with
    |nil=>
     simp only [and_eq_true] at hm;obtain ⟨h1,h2⟩:=hm;have e:=cJ h1;subst e;obtain ⟨g,d⟩:=cI G h1;cases es with
     |nil=>cases h2
     |cons e es=>
      intro pins s σ H R I h;refine Call_ (eS I g (G.bl _ (by decide+kernel)) PyProof.Rows.Boot.reversed (PyProof.Rows.callWith_type1 (bS (eG G hE [a] (e::es) hq h2 p pins s σ H _ I h) λus s1 ⟨vs,H1,I1,r1,q1⟩=>?_) (bB (a.sok C e (aH h2).1)) (bK [] es (aH h2).2)));replace q1:vX X.K vs H1 R:=q1;unfold vX at q1;split at q1
      ·rename_i p1;obtain ⟨u,rfl,ru⟩:=r1.one;cases ru;obtain ⟨xs,hx,q⟩:=q1;obtain ⟨ia,ra,pa,_⟩:=I1.list hx;refine call_reversed_list pa.isList ?_;have hl:((ia.toArray.size:Nat):Int) - 1=(xs.length:Int) - 1 - ((0:Nat):Int):=by rw[size_toArray,<-ra.length];lia
       have st:({s1 with heap:=s1.heap.push (revObj p1 ((ia.toArray.size:Int) - 1))}:Shared).heap.IsRevIter s1.heap.objs.size p1 ((xs.length:Int) - 1 - ((0:Nat):Int)):=⟨_,get?_push_size _ rfl,rfl,by rw[<-hl];rfl⟩;refine wpAny_pyIter_revIter st ?_;refine ⟨s1.heap.objs.size,[s1.heap.objs.size],_,_,H1,rfl,I1.kept (t':=s1.toks) λb o e=>get?_push_of_some _ e,GK p1 _ xs.length,st,λb hb=>?_,q⟩;have e:b=s1.heap.objs.size:=by simpa using hb
       subst e;exact I1.fpOk (Nat.le_refl _) (I1.hok.fresh (Nat.le_refl _))
      ·exact q1.elim
    |cons _ _=>cases hm
   |_=>exact ff hm
  |_=>exact ff hm
 fs:=λC e env x hm=>by cases e with|Call f es ks p=>rfl|_=>exact ff hm
section
variable {E:XS} {σ:St} {H:Hp} {Q:VK} {D:Ends} {a c:EX K} {bd:List (SX K)}
theorem WK {R:It->Hp->Prop} (h:a.t E σ H λx H1=>vX K [x] H1 R):(Dg a).t E σ H R:=h
theorem WJ {R:It->Hp->Prop} {p:Addr} {xs:List V} (c:aR K H p xs) (h:R (Eh K p xs.length) H):vX K [.ref p] H R:=⟨xs,c,h⟩
theorem JD {p:Addr} {xs:List V} {g:TG} {tb:TS} (Pv:Nat->St->Hp->Prop) (h0:Pv 0 σ H) (hl:∀i σ H,Pv i σ H->aR K H p xs)
  (hs:∀i x σ H,xs.reverse[i]?=some x->Pv i σ H->g x σ H λσ2 H2=>tb {D with nx:=Pv (i+1),ct:=Pv (i+1),bk:=D.nx} σ2 H2) (hd:∀σ H,Pv xs.length σ H->D.nx σ H):lC (Eh K p xs.length) g tb D σ H:=
 mZ SM Pv h0 (λi σ H _ q=>hl i σ H q) hs (λσ H q=>hd σ H (by rw[length_reverse] at q;exact q))
theorem nA (W:Nat->St->Hp->Prop) {m:Nat} (h0:W m σ H)
  (hs:∀m σ H,W m σ H->c.tt E σ H λb H1=>br b (∃N:St->Hp->Prop,(∀σ' H',N σ' H'->∃m',m'<m/\W m' σ' H')/\lW bd E {D with nx:=N,ct:=N,bk:=D.nx} σ H1) (D.nx σ H1)):(YX c bd).t E D σ H:=⟨W,⟨m,h0⟩,hs⟩
theorem AO {W:Nat->St->Hp->Prop} {m:Nat} {tb:TS} (h:tb {D with nx:=λσ' H'=>∃m',m'<m/\W m' σ' H',ct:=λσ' H'=>∃m',m'<m/\W m' σ' H',bk:=D.nx} σ H):
  ∃N:St->Hp->Prop,(∀σ' H',N σ' H'->∃m',m'<m/\W m' σ' H')/\tb {D with nx:=N,ct:=N,bk:=D.nx} σ H:=⟨_,λ_ _ z=>z,h⟩
end
end
noncomputable def TT {K:Fg} (sp:Sp) (b:List (SX K)) (N:List Str):Prop:=∀(vs:List V) (H:Hp) (Q:VK) (E:XK),sp vs H Q E->lW b (λ_=>E) {nx:=λ_ H'=>Q .non H',rt:=Q} (start N vs) H
end L2.Na
set_option compiler.extract_closed false
set_option hygiene false in
local macro_rules | `(tactic| walk_at "t") => `(tactic| (with_reducible first | refine L2.Na.mE ?_ | refine L2.Na.Ck ?_ | refine L2.Na.rL ?_ | refine L2.Na.Cg ?_ | refine L2.Na.Gv ?_ | refine L2.Na.Gs ?_ | refine L2.Na.Cz ?_ | refine L2.Na.Cr ?_ | refine L2.Na.RT ?_ | refine L2.Na.JX ?_ | refine L2.Na.BQ ?_ | refine L2.Na.JZ ?_ | refine L2.Na.De ?_ | refine L2.Na.Cc ?_ | refine L2.Na.Dc ?_ | refine L2.Na.Bt ?_ | refine L2.Na.Gu ?_ | refine L2.Na.Gg ?_ | refine L2.Na.Gh ?_ | refine L2.Na.Gi ?_ | refine L2.Na.Gj ?_ | refine L2.Na.Gk ?_ | refine L2.Na.Gf ?_ | refine L2.Na.Br ?_ | refine L2.Na.Bq ?_ | refine L2.Na.Cj ?_ | refine L2.Na.WC ?_ | refine L2.Na.Dd ?_ | refine L2.Na.Bu ?_ | refine L2.Na.Ge ?_ | refine L2.Na.WV ?_ | refine L2.Na.VT ?_ | refine L2.Na.VS ?_ | refine L2.Na.RP ?_ | refine L2.Na.Cb ?_ | refine L2.Na.Cm ?_ | refine L2.Na.Cn ?_ | refine L2.Na.WL ?_ | refine L2.Na.WM ?_ | refine L2.Na.Cq ?_ | refine L2.Na.OZ ?_ | refine L2.Na.PB ?_ | refine L2.Na.JN ?_ | refine L2.Na.JM ?_ | refine L2.Na.EI ?_ | refine L2.Na.JU ?_ | refine L2.Na.PD ?_ | refine L2.Na.JO ?_ | refine L2.Na.Gr ?_ | refine L2.Na.Cd ?_ | refine L2.Na.Gq ?_ | refine L2.Na.Gp ?_ | refine L2.Na.Gn ?_ | refine L2.Na.JT ?_ | refine L2.Na.RK ?_ | refine L2.Na.WN ?_ | refine L2.Na.PL ?_ | refine L2.Na.PF ?_ | refine L2.Na.JY ?_ | refine L2.Na.Gx ?_ | refine L2.Na.JV ?_ | refine L2.Na.Cu ?_ | refine L2.Na.Cf ?_ | refine L2.Na.WO ?_ | refine L2.Na.Cp ?_ | refine L2.Na.WU ?_ | refine L2.Na.PM ?_ | refine L2.Na.WH ?_ | refine L2.Na.JS ?_ | refine L2.Na.JP ?_ | refine L2.Na.Ct ?_ | refine L2.Na.By ?_))
local macro_rules | `(tactic| walk_at "s") => `(tactic| first
 | ((with_reducible refine L2.Na.BP (v := ?v) ?h1 ?_); (case h1 => exact rfl))
 | walk_at "t"
 | ((with_reducible refine L2.Na.RN ?h1 ?_); (case h1 => first | exact Or.inl ⟨by omega, by omega⟩ | exact Or.inr ⟨by omega, by omega⟩))
 | ((with_reducible refine L2.Na.Cw ?h1 ?_); (case h1 => exact ⟨by omega, by omega⟩))
 | ((with_reducible refine L2.Na.RO ?h1 ?_); (case h1 => omega))
 | ((with_reducible refine L2.Na.WI ?h1 ?_); (case h1 => exact ⟨by omega, by omega⟩))
 | ((with_reducible refine L2.Na.lP (xs := ?xs) ?h1 ?_); (case h1 => assumption))
 | ((with_reducible refine L2.Na.AA (xs := ?xs) ?h1 ?_); (case h1 => assumption))
 | ((with_reducible refine L2.Na.Bp ?h1 ?_); (case h1 => rfl)))
local macro_rules | `(tactic| walk_at "") => `(tactic| repeat (walk_at "s"))
namespace L2.Na
open PySem PySem.Spec PyProof.Rows L2 L2.L3
section
variable {K:Fg} {σ:St} {H:Hp} {Q:VK}
theorem LB {p:Addr} {xs:List V} {te:TE} {is:List Nat} {D:Addr} (f U W:Nat->V) (hp:aR K H p xs) (hx:∀(i:Nat) (x:V),xs[i]?=some x->∃t,x=.ref t/\cC K H t [U i,W i]) (hD:H D=none) (hz:xs.length<=sizeLine)
  (step:∀(i:Nat) (H1:Hp) (Q':VK),i<xs.length->aB H H1->(∀H3,aB H1 H3->Q' (f i) H3)->te (some (U i)::some (W i)::fO is σ) H1 Q')
  (fin:∀H1,aB H H1->H1 D=some (.lst ((range xs.length).map f))->Q (.ref D) H1):bA (SG K p) (CT [0,1]:TX K).g (cT (none:Option (EX K))) te 2 is σ D H Q:=by
 refine ⟨λi m σ' H1=>m=xs.length - i/\i<=xs.length/\(∃a b,σ'=a::b::fO is σ)/\aB H H1/\H1 D=some (.lst ((range i).map f)),⟨xs.length,by simp,zero_le _,⟨none,none,rfl⟩,λb o e=>by rw[aF (aD e hD)];exact e,aA⟩,?_⟩;rintro i m σ' H1 ⟨rfl,hi,⟨a,b,rfl⟩,hS,hO⟩;have hp1:=hS.seq hp;by_cases hlt:i<xs.length
 ·refine .inr ⟨(dG (xs:=xs)).go i H1 hp1 hlt,λx H' hy=>?_⟩;obtain ⟨e,hx1⟩:=(dG (xs:=xs)).yld i H1 x H' hp1 hlt hy;subst e;obtain ⟨t,rfl,ht⟩:=hx i x hx1;refine jD (vL ht _ hS) ?_;refine ⟨λ_=>?_,λz=>nomatch z⟩;refine step i H' _ hlt hS λH3 s3=>?_;refine ⟨_,s3 _ _ hO,by rw[length_map,length_range];lia,xs.length - (i+1),by lia,rfl,hlt,⟨_,_,rfl⟩,λb o q=>?_,?_⟩
  ·rw[aF (aD q hD)];exact s3 _ _ (hS b o q)
  ·rw[aA,range_succ,map_append];rfl
 ·have e:i=xs.length:=by lia
  subst e;exact .inl ⟨(dG (xs:=xs)).stop H1 hp1,fin H1 hS hO⟩
end
end L2.Na
namespace PySem
namespace F
end F
section
variable {prog:Program} {w:World} {A:Around} {E:Value->Shared->Prop} {s:Shared}
end
end PySem
namespace L2.Na
open PySem PySem.Spec PyProof.Rows L2 L2.L3
section
variable {K:Fg}
section
variable {E:XS} {σ:St} {H:Hp} {a:EX K}
end
end
noncomputable def Ew (d:Addr) (o:Obj) (kvs:List (Key × V)):It:=⟨λi H=>H d=some (.frz o (.dK kvs))/\i<kvs.length,λi H x H'=>H'=H/\∃kv,kvs[i]?=some kv/\x=kV kv.1,λi H=>H d=some (.frz o (.dK kvs))/\i=kvs.length⟩
theorem VR {k:Key} {u:Value} (h:mD k u=true):RelV (kV k) u:=by
 rcases bC h with ⟨i,t,rfl,rfl⟩|⟨x,t,rfl,rfl⟩
 ·exact ⟨t,rfl⟩
 ·exact ⟨t,rfl⟩
theorem KH {P:Program} {w:World} {H:Hp} {h:Heap} {d:Addr} {o:Obj} {kvs:List (Key × V)} {es:Array DictEntry} {ep:Nat} (hok:eJ P w H h) (hH:H d=some (.frz o (.dK kvs))) (ho:o.data=.dict es ep):
  ∃vs,KV kvs vs/\h.DictAt (aY P w) d vs ep:=by
 obtain ⟨hg,hk⟩:=(show aZ P w H h d (.frz o (.dK kvs)) from hok d _ hH);obtain ⟨z,hsm,vs,rel,o',es',ep',ho',r1,r2,r3⟩:=(show aZ P w H h d (.dK kvs) from hk);rw[hg] at ho';cases ho';rw[ho] at r2;cases r2;exact ⟨vs,rel,o,es,hg,r1,ho,r3⟩
theorem GL {P:Program} {w:World} {K:Fg} {tg:Expr} (d it:Addr) (o:Obj) (kvs:List (Key × V)) (es:Array DictEntry) (ep:Nat) (ho:o.data=.dict es ep):Turn P w K tg (Ew d o kvs) [it] it (λi h=>h.IsKeyIter it d i kvs.length ep) where
 mem:=by simp
 obj:=λi h st b hb=>by
  have e:b=it:=by simpa using hb
  subst e;obtain ⟨o,e,c,d⟩:=st;exact ⟨o,e,λv z=>by rw[d] at z;cases z⟩
 keep:=λi h h' st k=>st.at λo e=>k it (by simp) o e
 item:=by
  intro X hP hw hK hc i pins s σ H E I hf st hg;subst hP hw hK;obtain ⟨f0,f1,f2,f3,f4,f5⟩:=hf it (by simp);obtain ⟨hH,hi⟩:=hg;obtain ⟨vs,rel,dd⟩:=KH I.hok hH ho;have hl:vs.length=kvs.length:=(KV.length rel).symm;have hk:=KV.keys rel;have hx:vs[i]?=some (vs[i]'(by lia)):=getElem?_eq_getElem (by lia);rw[<-hl] at st;refine wpAny_pyNext_dict_item (k:=(vs[i]'(by lia)).1) (v:=(vs[i]'(by lia)).2) st dd hx λkey h' hkey hit' hs'=>?_;have I1:Inv X pins σ H {s with heap:=h',toks:=s.toks}:=I.turned (λb o hb e=>(hs'.2 b hb).trans e) f0 f1 f3 f4 f5;have ek:(kvs[i]'hi).1=(vs[i]'(by lia)).1:=by
   have e1:(kvs.map (·.1))[i]?=(vs.map (·.1))[i]?:=by rw[hk]
   rw[getElem?_map,getElem?_map,hx,getElem?_eq_getElem hi] at e1;exact Option.some.inj e1
  rw[hl] at hit';obtain ⟨o2,e2,c2,d2⟩:=id hit';exact ⟨_,rfl,oY (s:={s with heap:=h',toks:=s.toks}) e2 c2 d2 (by decide) ⟨kV (kvs[i]'hi).1,H,I1,by rw[ek];exact VR hkey,⟨rfl,_,getElem?_eq_getElem hi,rfl⟩,hit',λb hb=>(hf b hb).1⟩⟩
 done:=by
  intro X hP hw hK hc i pins s σ H E I hf st hg;subst hP hw hK;obtain ⟨f0,f1,f2,f3,f4,f5⟩:=hf it (by simp);obtain ⟨hH,hi⟩:=hg;obtain ⟨vs,rel,dd⟩:=KH I.hok hH ho;have hl:vs.length=kvs.length:=(KV.length rel).symm;rw[<-hl] at st;exact wpAny_pyNext_dict_end (I.ok.hd hc) st dd (List.getElem?_eq_none_iff.mpr (by lia)) λh' eb=>⟨rfl,I.turned (t':=s.toks) (λb o hb e=>eb b o hb e) f0 f1 f3 f4 f5⟩
 self:=λ_ _ _ _ _ st h=>wpAny_pyIter_keyiter st h
theorem SN {d:Addr} {o:Obj} {kvs:List (Key × V)}:Yl (Ew d o kvs) (λH=>H d=some (.frz o (.dK kvs))) (kvs.map λkv=>kV kv.1) where
 go:=λi H p h=>⟨p,by rw[length_map] at h;exact h⟩
 yld:=λi H x H' p hi h=>by
  obtain ⟨e,kv,h1,h2⟩:=h;refine ⟨e,?_⟩;rw[getElem?_map,h1,h2];rfl
 stop:=λH p=>⟨p,length_map _⟩
section
variable {K:Fg}
noncomputable def HL:V->Hp->(It->Hp->Prop)->Prop
 | .ref d,H,R=>∃kvs,H d=some (.dK kvs)/\∀o,R (Ew d o kvs) (upd H d (.frz o (.dK kvs)))
 |_,_,_=>False
theorem PY {X:Cx} {tg:Expr} {pins:List (Addr × Obj)} {s1:Shared} {σ:St} {H1:Hp} {x:V} {v:Value} {R:It->Hp->Prop} (I1:Inv X pins σ H1 s1) (r1:RelV x v) (q1:HL x H1 R):
  wpAny (model X.prog X.w) X.A (pyIter v) (Ed X pins σ tg R) X.xe s1:=by
 unfold HL at q1;split at q1
 ·rename_i d;cases (show v=Value.ref d from r1);obtain ⟨kvs,hH,q⟩:=q1;obtain ⟨z,hsm,vs,rel,dd⟩:=KR I1.hok hH;obtain ⟨o,es,ep,ho,hd1,hd2,hd3⟩:=id dd;have I2:Inv X pins σ (upd H1 d (.frz o (.dK kvs))) {s1 with heap:=s1.heap,toks:=s1.toks}:=nG I1 (by rw[hH];trivial) ⟨rfl,λb _=>rfl⟩ ⟨o,ho⟩ ⟨ho,z,hsm,vs,rel,dd⟩;refine wpAny_pyIter_dict hsm ⟨o,es,ho,hd1,hd2,hd3⟩ ?_;have hl:vs.length=kvs.length:=(KV.length rel).symm;rw[hl];refine ⟨s1.heap.objs.size,[s1.heap.objs.size],_,_,upd H1 d (.frz o (.dK kvs)),rfl,I2.kept (t':=s1.toks) λb o e=>get?_push_of_some _ e,GL d _ o kvs es ep hd2,⟨_,get?_push_size _ rfl,rfl,rfl⟩,λb hb=>?_,q o⟩;have e:b=s1.heap.objs.size:=by simpa using hb
  subst e;exact I2.fpOk (Nat.le_refl _) (I2.hok.fresh (Nat.le_refl _))
 ·exact q1.elim
noncomputable def Dh (a:EX K):IX K where
 t:=λE σ H R=>a.t E σ H λx H1=>HL x H1 R
 tm:=λ_=>true
 m:=a.m
 q:=a.q
 ok:=λX C E tg e hK G hE hq _ hm=>by
  subst hK;intro pins s σ H R I h;exact bS (a.ok X C E e rfl G hE hq hm pins s σ H _ I h) λv s1 ⟨x,H1,I1,r1,q1⟩=>PY I1 r1 q1
 fs:=λC e env x hm=>vQ (a.sok C e hm) x
theorem WS {E:XS} {σ:St} {H:Hp} {a:EX K} {R:It->Hp->Prop} (h:a.t E σ H λx H1=>HL x H1 R):(Dh a).t E σ H R:=h
theorem Cy {H:Hp} {d:Addr} {kvs:List (Key × V)} {R:It->Hp->Prop} (h:H d=some (.dK kvs)) (q:∀o,R (Ew d o kvs) (upd H d (.frz o (.dK kvs)))):HL (.ref d) H R:=⟨kvs,h,q⟩
noncomputable def Du (op:CmpOp) (r:R2) (hr:∀X:Cx,X.K=K->X.A.units+64<cLine->fP X (compareOp op) r) (a b:EX K):EX K where
 t:=λE=>SW r (a.t E) (b.t E)
 tt:=λE σ H Q=>a.t E σ H λx H1=>b.t E σ H1 λy H2=>r x y H2 λv H3=>∃c,v=.bl c/\Q c H3
 m:=λC e=>match e with
  | .Compare l [o] [r] _=>decide (o=op)&&(a.m C l&&b.m C r)
  |_=>false
 q:=λR=>a.q R/\b.q R
 s:=.pl
 ok:=λX C E e hK G hE hq hm=>by
  subst hK;cases e with
  |Compare l os rs p=>
   match os,rs,hm with
   |[o],[r'],hm=>
    simp only [and_eq_true] at hm;obtain ⟨h1,h2,h3⟩:=hm;have e:=of_decide_eq_true h1;subst e;exact BG (hr X rfl G.hu) (a.ok X C E l rfl G hE hq.1 h2) (b.ok X C E r' rfl G hE hq.2 h3) (jZ (b.sok C r' h3))
  |_=>exact ff hm
 okT:=λX C E e hK G hE hq hm=>by
  subst hK;cases e with
  |Compare l os rs p=>
   match os,rs,hm with
   |[o],[r'],hm=>
    simp only [and_eq_true] at hm;obtain ⟨h1,h2,h3⟩:=hm;have e:=of_decide_eq_true h1;subst e;intro pins s σ H Q I hw;refine wpAny_isTrue_Compare1 (bS (a.ok X C E l rfl G hE hq.1 h2 pins s σ H _ I hw) λv s1 ⟨x,H1,I1,r1,q1⟩=>bS (b.ok X C E r' rfl G hE hq.2 h3 pins s1 σ H1 _ I1 q1) λu s2 ⟨y,H2,I2,r2,q2⟩=>
     bS (hr X rfl G.hu pins s2 σ H2 x y v u _ I2 r1 r2 q2) λc s3 ⟨z,H3,I3,r3,q3⟩=>?_) (jZ (b.sok C r' h3))
    obtain ⟨d,rfl,q⟩:=q3;cases r3;exact wpAny_truthy_bool ⟨H3,I3,q⟩
  |_=>exact ff hm
 sok:=λC e hm=>by cases e with|Compare l o r p=>rfl|_=>exact ff hm
section
variable {E:XS} {σ:St} {H:Hp} {a b:EX K}
end
end
open PySem.SeqAt
noncomputable def YG (x y:V) (b:Bool):Prop:=(∃i j,x=.int i/\y=.int j/\b=(i==j))\/(∃w z,x=.str w/\y=.str z/\b=(w==z))\/(∃k l,x=.bl k/\y=.bl l/\b=(k==l))\/(x=.non/\y=.non/\b=true)\/(∃i,x=.non/\y=.int i/\b=false)\/(∃i,x=.int i/\y=.non/\b=false)
noncomputable def Ic (H:Hp) (x y:V) (b:Bool):Prop:=YG x y b\/∃p q xs ys e,x=.ref p/\y=.ref q/\p≠q/\H p=some (.lst xs)/\H q=some (.lst ys)/\xs.length=ys.length/\(∀(i:Nat) (x y:V),xs[i]?=some x->ys[i]?=some y->YG x y (e i))/\b=(range xs.length).all e
section
variable {X:Cx} {pins:List (Addr × Obj)} {σ:St} {H:Hp} {s:Shared}
theorem BV {A:Around} {x y:V} {u v:Value} {b:Bool} (h:YG x y b) (r1:RelV x u) (r2:RelV y v):EqAt A s u v b:=by
 rcases h with ⟨i,j,rfl,rfl,rfl⟩|⟨w,z,rfl,rfl,rfl⟩|⟨k,l,rfl,rfl,rfl⟩|⟨rfl,rfl,rfl⟩|⟨i,rfl,rfl,rfl⟩|⟨i,rfl,rfl,rfl⟩
 ·obtain ⟨t,rfl⟩:=r1;obtain ⟨t2,rfl⟩:=r2;exact EqAt.int_int i t j t2
 ·obtain ⟨t,rfl⟩:=r1;obtain ⟨t2,rfl⟩:=r2;exact EqAt.str_str w t z t2
 ·cases r1;cases r2;exact EqAt.bool_bool k l
 ·cases r1;cases r2;exact EqAt.same _
 ·cases r1;obtain ⟨t,rfl⟩:=r2;exact EqAt.none_int i t
 ·obtain ⟨t,rfl⟩:=r1;cases r2;exact EqAt.int_none i t
theorem lQ {A:Around} {R:V->V->Bool->Prop} {e:Nat->Bool} {xs ys:List V} {us vs:List Value} (r1:Vals xs us) (r2:Vals ys vs) (hi:∀(i:Nat) (x y:V),xs[i]?=some x->ys[i]?=some y->R x y (e i))
  (ih:∀(x y:V) (u v:Value) (b:Bool),R x y b->RelV x u->RelV y v->EqAt A s u v b):∀j (h1:j<us.toArray.size) (h2:j<vs.toArray.size),EqAt A s us.toArray[j] vs.toArray[j] (e j):=λj h1 h2=>by
 obtain ⟨x,e1,q1⟩:=jL r1 h1;obtain ⟨y,e2,q2⟩:=jL r2 h2;exact ih x y _ _ _ (hi j x y e1 e2) q1 q2
theorem KO (I:Inv X pins σ H s) {A:Around} {x y:V} {u v:Value} {b:Bool} (hu:A.units+4<cLine) (h:Ic H x y b) (r1:RelV x u) (r2:RelV y v):EqAt A s u v b:=by
 rcases h with h|⟨p,q,xs,ys,e,rfl,rfl,hne,h1,h2,hl,hi,rfl⟩
 ·exact BV h r1 r2
 ·cases r1;cases r2;refine EqAt.of_refs hne ?_;obtain ⟨_,its,n1,k1,l1,g1⟩:=I.lstM h1;obtain ⟨_,its2,n2,k2,l2,g2⟩:=I.lstM h2;have z:=RcAt.lists (A:=A) (e:=e) (⟨_,g1,rfl,n1,rfl⟩:s.heap.IsList p its.toArray) (⟨_,g2,rfl,n2,rfl⟩:s.heap.IsList q its2.toArray) (by rw[size_toArray,size_toArray];lia) (by lia)
   (lQ k1 k2 hi λx y u v b=>BV)
  rw[size_toArray,<-k1.length] at z;exact z
noncomputable def TY:R2:=λx y H Q=>∃p q xs ys e,x=.ref p/\y=.ref q/\((H p=some (.lst xs)/\H q=some (.lst ys))\/(H p=some (.tup xs)/\H q=some (.tup ys)))/\xs.length=ys.length/\(∀(i:Nat) (x y:V),xs[i]?=some x->ys[i]?=some y->Ic H x y (e i))/\Q (.bl ((range xs.length).all e)) H
theorem VC (hu:X.A.units+64<cLine):fP X (compareOp .Eq) TY:=by
 intro pins s σ H x y v u Q I rx ry h;obtain ⟨p,q,xs,ys,e,rfl,rfl,hh,hl,hi,qq⟩:=h;cases rx;cases ry;have hu1:X.A.in1.units+4<cLine:=by show X.A.units+1+4<cLine;lia
 rcases hh with ⟨h1,h2⟩|⟨h1,h2⟩
 ·obtain ⟨_,its,n1,k1,l1,g1⟩:=I.lstM h1;obtain ⟨_,its2,n2,k2,l2,g2⟩:=I.lstM h2;have z:=RcAt.lists (A:=X.A) (e:=e) (⟨_,g1,rfl,n1,rfl⟩:s.heap.IsList p its.toArray) (⟨_,g2,rfl,n2,rfl⟩:s.heap.IsList q its2.toArray) (by rw[size_toArray,size_toArray];lia) (by lia)
   (lQ k1 k2 hi λx y u v b h r1 r2=>KO I hu1 h r1 r2)
  rw[size_toArray,<-k1.length] at z;exact z X.prog X.w X.xe _ ⟨.bl _,H,I,rfl,qq⟩
 ·obtain ⟨its,k1,p1,_⟩:=I.tuple (cC.of h1);obtain ⟨its2,k2,p2,_⟩:=I.tuple (cC.of h2);have z:=RcAt.tuples (A:=X.A) (e:=e) (show s.heap.IsTuple p its.toArray from p1) (show s.heap.IsTuple q its2.toArray from p2) (by lia)
   (lQ k1 k2 hi λx y u v b h r1 r2=>KO I hu1 h r1 r2)
  have e3:its.toArray.size=its2.toArray.size:=by rw[size_toArray,size_toArray,<-k1.length,<-k2.length];exact hl
  rw[e3,beq_self_eq_true,Bool.and_true] at z;have e4:its2.toArray.size=xs.length:=by rw[size_toArray,<-k2.length];exact hl.symm
  simp only [e4,Nat.min_self] at z;exact z X.prog X.w X.xe _ ⟨.bl _,H,I,rfl,qq⟩
end
section
variable {K:Fg}
noncomputable def Hx (a b:EX K):EX K:=Du .Eq TY (λ_ _ hu=>VC hu) a b
variable {E:XS} {σ:St} {H:Hp} {a b:EX K}
theorem Cv {Q:VK} (h:a.t E σ H λx H1=>b.t E σ H1 λy H2=>TY x y H2 Q):(Hx a b).t E σ H Q:=h
end
section
noncomputable def Dl (K:Fg) (n:Nat) (t:QM):TG:=λv σ H Q=>∃a xs,v=.ref a/\aR K H a xs/\xs.length=n/\t xs σ H Q
theorem UK {X:Cx} {pos:Pos} {es:List Expr} {k:Nat} {t:QM} {n:Nat} (hc:X.calm=true) (h:YO X es t)
  (hn:(assignEach es X.env).length=n) (hst:(assignEach es X.env).findIdx? (·.1)=none):PG X (.Tuple es k pos) (Dl X.K n t):=by
 intro pins s σ H v u Q I r hw;obtain ⟨a,xs,e1,hq,hl,hw⟩:=hw;subst e1;cases r;obtain ⟨its,rv,⟨o,m,g1,g2,g3,g4⟩,hz⟩:=I.list hq;have ht:s.heap.IsList a its.toArray:=⟨o,g1,g2,m,g4⟩;have hsz:(assignEach es X.env).length=its.toArray.size:=by simp [hn,<-hl,rv.length]
 rw[assign_Tuple];refine wpAny_bind (wpAny_standAt ?_);unfold unpack;rw[hsz,hst];refine wpAny_bind (wpAny_holding (PySem.W.kun_itemsOf (I.ok.hd hc) ht λh' hx=>?_));have I1:Inv X pins σ H {s with heap:=h'}:=I.kept (t':=s.toks) λb o e=>hx b o (ne_of_lt (lt_size e)) e;exact h pins _ σ H xs _ Q I1 (by simpa using rv) hw
variable {K:Fg}
noncomputable def ZA (is:List Nat):TX K where
 g:=Dl K is.length (Ep is)
 m:=λC e=>match e with
  | .Tuple es _ _=>C.cm&&Bk is C es
  |_=>false
 ok:=λX C e hK G hm=>by
  subst hK;cases e with
  |Tuple es k p=>
   simp only [and_eq_true] at hm;obtain ⟨h1,h2,h3⟩:=II G is es hm.2;exact UK (G.calm hm.1) h1 h2 h3
  |_=>exact ff hm
theorem OY {σ:St} {H:Hp} {QS:St->Hp->Prop} {k l:Nat} {p:Addr} {x y:V} (c:aR K H p [x,y]) (h:QS ((σ.set k (some x)).set l (some y)) H):(ZA [k,l]:TX K).g (.ref p) σ H QS:=
 ⟨p,[x,y],rfl,c,rfl,x,[y],rfl,y,[],rfl,rfl,h⟩
end
section
variable {X:Cx}
noncomputable def Ai:V->List V->Hp->VK->Prop:=λx vs H Q=>∃(z y:Str),x=.str z/\vs=[.str y]/\Q (.int (Txt.find z y)) H
theorem OK:SE X "str.find" Ai:=by
 intro pins s σ H x vs v us Q I rx rv h;obtain ⟨z,y,rfl,rfl,q⟩:=h;obtain ⟨t,rfl⟩:=rx;obtain ⟨u,rfl,ru⟩:=rv.one;obtain ⟨t2,rfl⟩:=ru;exact SC.find ⟨.int _,H,I.tok _,⟨_,rfl⟩,q⟩
noncomputable def TN:V->List V->Hp->VK->Prop:=λx vs H Q=>∃(z y:Str),x=.str z/\vs=[.str y]/\z.length<=sizeLine/\Q (.str (Txt.stripChars z y)) H
theorem IP:SE X "str.strip" TN:=by
 intro pins s σ H x vs v us Q I rx rv h;obtain ⟨z,y,rfl,rfl,hz,q⟩:=h;obtain ⟨t,rfl⟩:=rx;obtain ⟨u,rfl,ru⟩:=rv.one;obtain ⟨t2,rfl⟩:=ru;exact SC.stripChars (λt' k=>⟨.str _,H,I.tok _,⟨_,rfl⟩,q⟩) hz
end
section
variable {K:Fg}
noncomputable def tL:Str->List V->Hp->VK->Prop
 |z,[.str y],H,Q=>Q (.int (Txt.find z y)) H
 |_,_,_,_=>False
noncomputable def m_find (o a:EX K) (ho:o.s≠.zc:=by intro z;cases z):EX K:=rG "find" "str.find" tL PySem.F.slot_str_find PySem.F.type_str_find (λX hK _ _=>BJ OK (λz ys H Q h=>by
 unfold tL at h
 split at h
 ·exact ⟨_,_,rfl,rfl,h⟩
 ·exact h.elim)) o ho [a]
noncomputable def tJ:Str->List V->Hp->VK->Prop
 |z,[.str y],H,Q=>z.length<=sizeLine/\Q (.str (Txt.stripChars z y)) H
 |_,_,_,_=>False
noncomputable def m_strip (o a:EX K) (ho:o.s≠.zc:=by intro z;cases z):EX K:=rG "strip" "str.strip" tJ PySem.F.slot_str_strip PySem.F.type_str_strip (λX hK _ _=>BJ IP (λz ys H Q h=>by
 unfold tJ at h
 split at h
 ·exact ⟨_,_,rfl,rfl,h.1,h.2⟩
 ·exact h.elim)) o ho [a]
end
theorem take_all {p:Nat->Bool}:∀{l:List Nat},(∀c∈l,p c=true)->l.takeWhile p=l
 |[],_=>rfl
 |c::l,h=>by
  rw[List.takeWhile_cons,if_pos (h c mem_cons_self),take_all λd hd=>h d (mem_cons_of_mem _ hd)]
theorem DB {z y:Str} (h:∀c∈ls z,c∈ls y):Txt.stripChars z y=⟨#[]⟩:=by
 have hg:∀c∈z.cps.toList,y.cps.contains c=true:=λc hc=>by
  rw[Array.contains_iff_mem];exact Array.mem_def.mpr (h c hc)
 unfold Txt.stripChars Txt.stripBy;have lo:stripLo y.cps.contains true z=z.cps.size:=by
  unfold stripLo;rw[if_pos rfl,take_all hg,length_toList]
 have hi:stripHi y.cps.contains true z z.cps.size=z.cps.size:=by
  unfold stripHi;rw[if_pos rfl,drop_eq_nil_of_le (by rw[length_toList];exact Nat.le_refl _)];rfl
 split
 ·rename_i hs;unfold stripSame at hs;rw[lo,and_eq_true,beq_iff_eq] at hs;have:z.cps=#[]:=Array.eq_empty_of_size_eq_zero hs.1;cases z
  congr
 ·unfold stripped;rw[lo,hi];unfold Builtin.Str.strSub
  congr
  apply ext';simp
theorem WQ {K:Fg} {E:XS} {σ:St} {H:Hp} {Q:VK} {a b:EX K} {ho:a.s≠.zc} (h:a.t E σ H λx H1=>RS tL (fQ [b] E) x σ H1 Q):(m_find a b ho).t E σ H Q:=h
theorem PC {K:Fg} {E:XS} {σ:St} {H:Hp} {Q:VK} {a b:EX K} {ho:a.s≠.zc} (h:a.t E σ H λx H1=>RS tJ (fQ [b] E) x σ H1 Q):(m_strip a b ho).t E σ H Q:=h
noncomputable def vA:Value->Addr
 | .ref a=>a
 |_=>0
theorem yD {l:List Value} {qs:List Addr} (h:l.Perm (qs.map Value.ref)):∃rs:List Addr,l=rs.map Value.ref/\rs.Perm qs:=by
 refine ⟨l.map vA,?_,?_⟩
 ·rw[map_map];have:∀v∈l,(Value.ref∘vA) v=v:=λv hv=>by
   obtain ⟨q,_,rfl⟩:=mem_map.mp (h.mem_iff.mp hv);rfl
  rw[map_congr_left this,List.map_id']
 ·have:=h.map vA;rw[map_map] at this;have e:qs.map (vA∘Value.ref)=qs:=by
   have:(vA∘Value.ref)=id:=rfl;rw[this,List.map_id]
  rwa [e] at this
theorem rD:∀(rs:List Addr),Vals (rs.map V.ref) (rs.map Value.ref)
 |[]=>.nil
 |_::rs=>.cons rfl (rD rs)
section
variable {K:Fg}
variable {E:XS} {σ:St} {H:Hp} {Q:VK} {a:EX K}
end
noncomputable def Hh (H:Hp) (rs:List Addr):Prop:=rs.Pairwise λa b=>∀x i y j,H a=some (.tup [.str x,.int i])->H b=some (.tup [.str y,.int j])->So.MJ (y,j) (x,i)=false
noncomputable def yY:List V->Hp->VK->Prop:=λxs H Q=>∃(p:Addr) (qs:List Addr),xs=[.ref p]/\H p=some (.lst (qs.map V.ref))/\(∀q∈qs,∃x i,H q=some (.tup [.str x,.int i]))/\
 ∀(r:Addr) (rs:List Addr),rs.Perm qs->Hh H rs->H r=none->Q (.ref r) (upd H r (.lst (rs.map V.ref)))
theorem GX (X:Cx):cD X (.builtin "sorted") yY:=by
 intro pins s σ H xs us Q I r h;obtain ⟨p,qs,rfl,h1,h2,h3⟩:=h;obtain ⟨u,rfl,r1⟩:=r.one;obtain rfl:u=Value.ref p:=r1;obtain ⟨hz,its,n1,k1,l1,g1⟩:=I.lstM h1;have ei:=qT k1;subst ei;rw[length_map] at hz;have hl:s.heap.IsList p (qs.map Value.ref).toArray:=⟨_,g1,rfl,n1,rfl⟩;have hq:∀(q:Addr) (x:Str) (i:Int),H q=some (.tup [.str x,.int i])->So.xV s.heap (.ref q) x i:=λq x i e=>by
  obtain ⟨its,kk,⟨o,e1,e2,n,e3⟩,_⟩:=I.tuple (cC.of e)
  match its,kk with
  |[u1,u2],.cons ra (.cons rb .nil)=>
   obtain ⟨t,rfl⟩:=ra;obtain ⟨t2,rfl⟩:=rb;exact ⟨q,o,n,t,t2,rfl,e1,e2,e3⟩
 have hp:∀v∈qs.map Value.ref,∃x i,So.xV s.heap v x i:=λv hv=>by
  obtain ⟨q,hqm,rfl⟩:=mem_map.mp hv;obtain ⟨x,i,e⟩:=h2 q hqm;exact ⟨x,i,hq q x i e⟩
 refine So.yO hl hp (by rw[length_map];exact hz) λout q1 q2=>?_;obtain ⟨rs,rfl,hrs⟩:∃rs:List Addr,out=(rs.map Value.ref).toArray/\rs.Perm qs:=by
  obtain ⟨rs,e,hp⟩:=yD q1;exact ⟨rs,by rw[<-e],hp⟩
 have hup:Hh H rs:=by
  have q2:So.Up s.heap (rs.map Value.ref):=q2;exact (pairwise_map.mp q2).imp λ{a b} g x i y j p1 p2=>g x i y j (hq a x i p1) (hq b y j p2)
 obtain ⟨c,hc⟩:=sortedAll_at s.heap (qs.map Value.ref) (rs.map Value.ref).toArray;have fr:H (s.heap.objs.size+1)=none:=I.hok.fresh (le_succ _);refine ⟨.ref (s.heap.objs.size+1),_,I.laid (t':=s.toks) (o:=.lst (rs.map V.ref)) (λb o q=>sortedAll_old q) (le_succ _) ⟨?_,rs.map Value.ref,c,?_,?_⟩,rfl,h3 _ rs hrs hup fr⟩
 ·rw[length_map,hrs.length_eq];exact hz
 ·exact rD rs
 ·rw[hc]
section
variable {K:Fg}
noncomputable def ZT (a:EX K):EX K:=YN "sorted" "sorted" yY (λX _ _ _=>GX X) PyProof.Rows.Boot.sorted (by decide+kernel) (by decide+kernel) a []
variable {E:XS} {σ:St} {H:Hp} {Q:VK} {a:EX K}
theorem WD (h:a.t E σ H λx H1=>yY [x] H1 Q):(ZT a).t E σ H Q:=h
end
section
variable {K:Fg}
noncomputable def Dr (a b:EX K):EX K:=mM (λE=>QY [(a.t E,b.t E)])
 (λC e=>match e with
  | .Dict [some k] [v] _=>a.m C k&&b.m C v
  |_=>false) (λR=>a.q R/\b.q R) .pl
 (λX C E e hK G hE hq hm=>by
  subst hK
  cases e with
  |Dict ks vs p=>
   match ks,vs,hm with
   |[some k],[v],hm=>
    simp only [and_eq_true] at hm
    exact NR (HS (a.ok X C E k rfl G hE hq.1 hm.1) (b.ok X C E v rfl G hE hq.2 hm.2) NK) rfl rfl (by simp) (by show 1<=15;decide)
  |_=>exact ff hm)
 (λC e hm=>by cases e with|Dict es k p=>exact ⟨rfl,rfl⟩|_=>exact ff hm)
noncomputable def HK:R2:=λy x H Q=>∃a o,x=.ref a/\dR H a y o/\Q (.bl (!o.isSome)) H
theorem NW {X:Cx} (hu:X.A.units+64<cLine):fP X (compareOp .NotIn) HK:=by
 intro pins s σ H y x v u Q I ry rx h;obtain ⟨a,o,rfl,g,q⟩:=h;cases (show u=Value.ref a from rx);exact PZ (by lia) I g ry λs' I'=>⟨.bl (!o.isSome),H,I',rfl,q⟩
noncomputable def VI (a b:EX K):EX K:=Du .NotIn HK (λ_ _ hu=>NW hu) a b
section
variable {E:XS} {σ:St} {H:Hp} {Q:VK} {QB:Bool->Hp->Prop} {a b:EX K}
noncomputable def RG (p:Addr) (x y:V) (H2:Hp) (Q:VK):Prop:=H2 p=some (.dK [])/\∃kvs:List (Key × V),[(x,y)]=kvs.map (λkv=>(kV kv.1,kv.2))/\kvs.length<=15/\Q (.ref p) (upd H2 p (.dK (lL [] kvs)))
theorem WT (h:∀p,H p=none->a.t E σ (upd H p (.dK [])) λx H1=>b.t E σ H1 λy H2=>RG p x y H2 Q):(Dr a b).t E σ H Q:=h
theorem PK {p:Addr} {k:Key} {y:V} (h1:H p=some (.dK [])) (h:Q (.ref p) (upd H p (.dK [(k,y)]))):RG p (kV k) y H Q:=⟨h1,[(k,y)],rfl,(by show 1<=15;decide),h⟩
theorem JI (h:a.t E σ H λx H1=>b.t E σ H1 λy H2=>HK x y H2 λv H3=>∃c,v=.bl c/\QB c H3):(VI a b).tt E σ H QB:=h
end
end
section
variable {K:Fg}
section
variable {E:XS} {σ:St} {H:Hp} {Q:VK} {D:Ends} {a o:EX K} {as:List (EX K)}
end
end
noncomputable def QN (a:Addr):It:=
 ⟨λi H=>∃xs x,H a=some (.lst xs)/\xs[i]?=some x,
  λi H v H'=>∃p x,H p=none/\v=.ref p/\H'=upd H p (.tup [.int (i:Nat),x])/\∀xs,H a=some (.lst xs)->xs[i]?=some x,
  λi H=>∃xs,H a=some (.lst xs)/\xs.length<=i⟩
noncomputable def Jt (e it a:Addr) (i:Nat) (h:Heap):Prop:=(∃old,IsEnum h e it ((i:Nat):Int) old)/\h.IsListIter it a i
theorem CV {P:Program} {w:World} {K:Fg} {elts:List Expr} {k:Nat} {pos:Pos} (a e it:Addr) (hei:e≠it):Turn P w K (.Tuple elts k pos) (QN a) [e,it] e (Jt e it a) where
 mem:=by simp
 obj:=λi h st c hc=>by
  obtain ⟨⟨old,he⟩,⟨o1,e1,c1,d1⟩⟩:=st;simp only [mem_cons,not_mem_nil,or_false] at hc;rcases hc with rfl|rfl
  ·exact ⟨_,he,λ_ q=>by have q':Data.fields _=Data.cell _:=q;cases q'⟩
  ·exact ⟨_,e1,λ_ q=>by rw[d1] at q;cases q⟩
 keep:=λi h h' st kp=>by
  obtain ⟨⟨old,he⟩,l1⟩:=st;exact ⟨⟨old,kp e (by simp) _ he⟩,l1.at λo q=>kp it (by simp) o q⟩
 item:=by
  intro X hP hw hK hc i pins s σ H E I hf st hg;subst hP hw hK;obtain ⟨xs,x,hqa,hx⟩:=hg;obtain ⟨z,its,n,r,hl,eo⟩:=I.lstM hqa;obtain ⟨u,hu,ru⟩:=r.get hx;obtain ⟨⟨old,he⟩,l1⟩:=st;have hla:s.heap.IsList a its.toArray:=⟨_,eo,rfl,n,rfl⟩;refine wpAny_pyNext_enum_item he l1 hla (x:=u) (by simpa using hu) hei λh' a1 a2 a3 a4 hk=>?_;refine ⟨_,rfl,?_⟩;refine wpAny_letOwnedTupleGo_enum (s:={s with heap:=h',toks:=s.toks+1}) a1 λh2 z2 sb=>?_;have fr:H s.heap.objs.size=none:=I.hok.fresh (Nat.le_refl _);have zlt:e<s.heap.objs.size:=lt_size he;have k2:∀c o,c∉[e,it]->s.heap.get? c=some o->h2.get? c=some o:=λc o hc' q=>by
   simp only [mem_cons,not_mem_nil,or_false,not_or] at hc';exact sb.extBut _ _ hc'.1 (hk c o hc'.1 hc'.2 q)
  have T2:h2.get? s.heap.objs.size=some {cls:=.type "tuple",data:=.seq #[.int i s.toks,u]}:=sb.extBut _ _ (ne_of_gt zlt) a3;have ne:∀c∈[e,it],c≠s.heap.objs.size:=λc hc'=>by
   obtain ⟨o,q⟩:∃o,s.heap.get? c=some o:=by
    simp only [mem_cons,not_mem_nil,or_false] at hc';obtain ⟨o1,e1,_⟩:=l1;rcases hc' with rfl|rfl
    ·exact ⟨_,he⟩
    ·exact ⟨_,e1⟩
   exact ne_of_lt (lt_size q)
  have I0:Inv X pins σ (upd H s.heap.objs.size (.tup [.int (i:Nat),x])) {s with heap:=s.heap.push {cls:=.type "tuple",data:=.seq #[.int i s.toks,u]},toks:=s.toks+1}:=
   I.laid (t':=s.toks+1) (λc o q=>get?_push_of_some _ q) (Nat.le_refl _) (show aZ X.prog X.w _ _ _ (.tup [.int (i:Nat),x]) from ⟨by show 2<=sizeLine;decide,[.int i s.toks,u],.cons ⟨_,rfl⟩ (.cons ru .nil),IsTup.new _ _⟩)
  have hf':∀c∈[e,it],lV X pins (upd H s.heap.objs.size (.tup [.int (i:Nat),x])) c:=λc hc'=>⟨by rw[aF (ne c hc')];exact (hf c hc').1,(hf c hc').2⟩;have I1:Inv X pins σ (upd H s.heap.objs.size (.tup [.int (i:Nat),x])) {s with heap:=h2,toks:=s.toks+1}:=Inv.turnedN (s:={s with heap:=s.heap.push {cls:=.type "tuple",data:=.seq #[.int i s.toks,u]},toks:=s.toks+1}) (t':=s.toks+1) I0 (λc o hc' q=>by
   rcases Heap.get?_push_cases q with ⟨hcs,ho⟩|q
   ·subst hcs ho
    exact T2
   ·exact k2 c o hc' q) hf'
  exact ⟨.ref s.heap.objs.size,_,I1,rfl,⟨_,x,fr,rfl,rfl,λxs' h'=>by rw[hqa] at h';cases h';exact hx⟩,
   ⟨⟨_,by rw[show ((i+1:Nat):Int)=(i:Int)+1 by lia];exact z2⟩,a2.at λo q=>sb.extBut _ _ hei.symm q⟩,λc hc'=>(hf' c hc').1⟩
 done:=by
  intro X hP hw hK hc i pins s σ H E I hf st hg;subst hP hw hK;obtain ⟨xs,hqa,hx⟩:=hg;obtain ⟨z,its,n,r,hl,eo⟩:=I.lstM hqa;obtain ⟨⟨old,he⟩,l1⟩:=st;have n1:=r.length;have hla:s.heap.IsList a its.toArray:=⟨_,eo,rfl,n,rfl⟩;refine wpAny_pyNext_enum_end (I.ok.hd hc) he l1 hla (by simp;lia) λh' hk=>⟨rfl,Inv.turnedN (t':=s.toks) I (λc o hc' q=>?_) hf⟩;simp only [mem_cons,not_mem_nil,or_false,not_or] at hc';exact hk c o hc'.2 q
 self:=λ_ _ _ _ _ st h=>by
  obtain ⟨⟨old,he⟩,_⟩:=st;exact wpAny_pyIter_enum he h
section
variable {K:Fg}
noncomputable def oE:List V->Hp->(It->Hp->Prop)->Prop
 |[.ref p],H,R=>(∃xs,H p=some (.lst xs))/\R (QN p) H
 |_,_,_=>False
noncomputable def RU (a:EX K):IX K where
 t:=λE σ H R=>fQ [a] E σ H λvs H1=>oE vs H1 R
 tm:=λe=>match e with
  | .Tuple _ _ _=>true
  |_=>false
 m:=λC e=>match e with
  | .Call (.Name y _) es [] _=>qL C "enumerate" y&&kL [a] C es
  |_=>false
 q:=λR=>tM [a] R
 ok:=λX C E tg e hK G hE hq ht hm=>by
  subst hK;cases tg with
  |Tuple ts tk tp=>
   cases e with
   |Call f es ks p=>
    cases f with
    |Name y py=>
     cases ks with
     |nil=>
      simp only [and_eq_true] at hm;obtain ⟨h1,h2⟩:=hm;have e:=cJ h1;subst e;obtain ⟨g,d⟩:=cI G h1;cases es with
      |nil=>cases h2
      |cons e es=>
       intro pins s σ H R I h;refine Call_ (eS I g (G.bl _ (by decide+kernel)) boot_enumerate (PyProof.Rows.callWith_type1 (bS (eG G hE [a] (e::es) hq h2 p pins s σ H _ I h) λus s1 ⟨vs,H1,I1,r1,q1⟩=>?_) (bB (a.sok C e (aH h2).1)) (bK [] es (aH h2).2)));replace q1:oE vs H1 R:=q1;unfold oE at q1;split at q1
       ·rename_i p1;cases r1 with
        |cons r rr=>
         cases rr;cases r;obtain ⟨⟨xs,hx⟩,q⟩:=q1;obtain ⟨z,its,n,r,hl,eo⟩:=I1.lstM hx;refine call_enumerate_1 eo λh' z1 z2 z3 kp=>?_;refine wpAny_pyIter_enum (s:={s1 with heap:=h'}) z1 ?_;have big:∀c∈[s1.heap.objs.size+1,s1.heap.objs.size],s1.heap.objs.size<=c:=by
          intro c hc;simp only [mem_cons,not_mem_nil,or_false] at hc;lia
         exact ⟨_,[s1.heap.objs.size+1,s1.heap.objs.size],_,_,H1,rfl,I1.kept (t':=s1.toks) kp,CV p1 _ _ (Nat.succ_ne_self _),⟨⟨_,z1⟩,z2⟩,λc hc=>I1.fpOk (big c hc) (I1.hok.fresh (big c hc)),q⟩
       ·exact q1.elim
     |cons _ _=>cases hm
    |_=>exact ff hm
   |_=>exact ff hm
  |_=>cases ht
 fs:=λC e env x hm=>by cases e with|Call f es ks p=>rfl|_=>exact ff hm
section
variable {E:XS} {σ:St} {H:Hp} {D:Ends} {Q:VK} {QB:Bool->Hp->Prop} {a b c:EX K}
theorem WR {R:It->Hp->Prop} (h:fQ [a] E σ H λvs H1=>oE vs H1 R):(RU a).t E σ H R:=h
theorem PJ {R:It->Hp->Prop} {p:Addr} {xs:List V} (c:H p=some (.lst xs)) (h:R (QN p) H):oE [.ref p] H R:=⟨⟨xs,c⟩,h⟩
theorem EA {p:Addr} {xs:List V} {m n:Nat} {tb:TS} (Pv:Nat->St->Hp->Prop) (h0:Pv 0 σ H) (hk:∀i σ1 H1,Pv i σ1 H1->H1 p=some (.lst xs))
  (hw:∀i σ1 H1 a o,Pv i σ1 H1->H1 a=none->Pv i σ1 (upd H1 a o))
  (hs:∀i x σ1 H1,xs[i]?=some x->Pv i σ1 H1->tb {D with nx:=Pv (i+1),ct:=Pv (i+1),bk:=D.nx} ((σ1.set m (some (.int (i:Nat)))).set n (some x)) H1) (hd:∀σ1 H1,Pv xs.length σ1 H1->D.nx σ1 H1):
  lC (QN p) (CT [m,n]:TX K).g tb D σ H:=by
 refine ⟨λi k σ1 H1=>k=xs.length - i/\i<=xs.length/\Pv i σ1 H1,⟨_,rfl,zero_le _,h0⟩,?_⟩;rintro i k σ1 H1 ⟨rfl,hi,s1⟩;have hp1:=hk _ _ _ s1;by_cases hlt:i<xs.length
 ·refine .inr ⟨⟨xs,xs[i],hp1,getElem?_eq_getElem hlt⟩,Pv (i+1),λσ3 H3 q=>⟨xs.length - (i+1),by lia,rfl,hlt,q⟩,?_⟩;rintro v H' ⟨a,x,ha,rfl,rfl,hx⟩;exact jD (cC.of aA) (hs i x σ1 _ (hx _ hp1) (hw _ _ _ _ _ s1 ha))
 ·have e:i=xs.length:=by lia
  subst e;exact .inl ⟨⟨xs,hp1,Nat.le_refl _⟩,hd σ1 H1 s1⟩
end
end
section
variable {K:Fg}
noncomputable def gP (K:Fg):Sp:=λvs H Q _=>∃(a:Addr) (ns:List Int) (k:Int),vs=[.ref a,.int k]/\aR K H a (ns.map V.int)/\0<=k/\∀v:Int,Q (.int v) H
noncomputable def jI (K:Fg):List (SX K):=
 [wX (cmp .Lt (var 1) (len (var 0))) [ret (ix (var 0) (var 1))] [],
  ret (cst (.int 0))]
theorem LY {ns:List Int} {k:Int} (h0:0<=k) (h:k<ns.length):∃v:Int,pQ (ns.map V.int) k=some (.int v):=by
 have hk:k.toNat<ns.length:=by lia
 have ek:k=((k.toNat:Nat):Int):=by lia
 have z:pQ (ns.map V.int) ((k.toNat:Nat):Int)=some (.int ns[k.toNat]):=cF (by rw[getElem?_map,getElem?_eq_getElem hk]<;>rfl);rw[<-ek] at z;exact ⟨_,z⟩
theorem yJ:TT (gP K) (jI K) ["_law_script","_law_k"]:=by
 intro vs H Q E h;obtain ⟨a,ns,k,rfl,hS,h0,q⟩:=h;unfold jI;walk_at "";refine gI (λc=>?_) λc=>?_
 ·rw[length_map] at c;obtain ⟨v,hv⟩:=LY h0 c;walk_at "";exact kO hS hv (q v)
 ·walk_at "";exact q 0
noncomputable def fT (K:Fg):Sp:=λvs H Q _=>∃c k:Int,vs=[.int c,.int k]/\0<=k/\k<=1000/\∀v:Int,0<=v->v<2147483587->Q (.int v) H
noncomputable def iE (K:Fg):List (SX K):=
 [set 2 (bin .Mod (bin .Add (bin .Add (bin .Mult (bin .Mod (var 0) (cst (.int 2147483647))) (cst (.int 69621))) (bin .Mult (bin .Mult (cst (.int 104659)) (var 1)) (var 1))) (cst (.int 7877))) (cst (.int 2147483647))),
  ret (bin .Mod (bin .Mult (var 2) (var 2)) (cst (.int 2147483587)))]
theorem vD:TT (fT K) (iE K) ["_law_cell_here","_law_k","_law_number"]:=by
 intro vs H Q E h;obtain ⟨c,k,rfl,h0,h1,q⟩:=h;unfold iE;walk_at "";exact q _ (emod_nonneg _ (by decide)) (emod_lt_of_pos _ (by decide))
noncomputable abbrev xU:Str:=Str.ofString "abcd"
theorem lB:xU.length=4:=by decide+kernel
theorem xT:xU.cps.toList=[97,98,99,100]:=by decide+kernel
theorem small {n:Nat} (h:n<=1000000):n<=sizeLine:=Nat.le_trans h (by rw[sizeLine_eq];decide)
theorem uT {r m:Int} (h0:0<=r) (hm:r<m) (h4:m<=4):pQ xU.cps.toList r=some (97+r.toNat):=by
 have:r=0\/r=1\/r=2\/r=3:=by lia
 rw[xT];rcases this with rfl|rfl|rfl|rfl<;>rfl
noncomputable def lX (K:Fg):Sp:=λvs H Q _=>∃n m s:Int,vs=[.int n,.int m,.int s]/\1<=m/\m<=4/\0<=s/\s<=1000/\∀z:Str,eM m.toNat z->z.length=s.toNat->Q (.str z) H
noncomputable def jG (K:Fg):List (SX K):=
 [set 3 (cst (.str "")),
  iR (kJ 4) (tZ (var 2) []) [set 0 (bin .Mod (bin .Mult (bin .Add (bin .Add (var 0) (var 4)) (cst (.int 3))) (cst (.int 48271))) (cst (.int 2147483647))),
   set 3 (bin .Add (var 3) (ix (cst (.str "abcd")) (bin .Mod (bin .FloorDiv (var 0) (cst (.int 64))) (var 1))))],
  ret (var 3)]
theorem yH:TT (lX K) (jG K) ["_law_number","_law_many","_law_size","_law_word_here","_law_k"]:=by
 intro vs H Q E h;obtain ⟨n,m,s,rfl,h1,h4,hs0,hs,q⟩:=h;unfold jG;walk_at "";refine fH (λi σ H'=>H'=H/\∃(n':Int) (z:Str) (a4:Option V),eM m.toNat z/\z.length=i/\σ=[some (.int n'),some (.int m),some (.int s),some (.str z),a4]) ⟨rfl,n,_,none,eM.nil,by decide+kernel,rfl⟩ (λi σ H' hi hp=>?_) λσ H' hp=>?_
 ·obtain ⟨rfl,n',z,a4,hz,hl,rfl⟩:=hp;walk_at "";refine oW (by rw[lB];decide) (uT (emod_nonneg _ (by lia)) (emod_lt_of_pos _ (by lia)) h4) ?_;refine KA (small (by show z.length+1<=1000000;lia)) ?_;refine ⟨rfl,_,_,_,eM.app hz (eM.sgn (by lia) ?_),by rw[len_app,hl];rfl,rfl⟩;have:=emod_lt_of_pos ((n'+(0+(i:Nat))+3) * 48271 % 2147483647 / 64) (show (0:Int)<m by lia);have:=emod_nonneg ((n'+(0+(i:Nat))+3) * 48271 % 2147483647 / 64) (show m≠0 by lia);lia
 ·obtain ⟨rfl,n',z,a4,hz,hl,rfl⟩:=hp;walk_at "";exact q z hz hl
structure Rl (K:Fg) (H:Hp) (a:Addr) (ws:List Str) (most:Nat):Prop where
 tp:H a=some (.tup (ws.map V.str))
 pos:1<=ws.length
 four:ws.length<=4
 isw:∀w∈ws,eM ws.length w
 one:∀w∈ws,1<=w.length
 le:∀w∈ws,w.length<=most
theorem aB.seqT {H H':Hp} {a:Addr} {xs:List V} (e:aB H H') (h:cC K H a xs):cC K H' a xs:=by
 rcases h with (h|⟨o,h⟩)|h
 ·exact .inl (.inl (e _ _ h))
 ·exact .inl (.inr ⟨o,e _ _ h⟩)
 ·exact .inr h
theorem Rl.sq {H:Hp} {a:Addr} {ws:List Str} {m:Nat} (h:Rl K H a ws m):cC K H a (ws.map V.str):=cC.of h.tp
theorem Rl.same {H H':Hp} {a:Addr} {ws:List Str} {m:Nat} (h:Rl K H a ws m) (e:aB H H'):Rl K H' a ws m:=⟨e _ _ h.tp,h.pos,h.four,h.isw,h.one,h.le⟩
theorem dZ {H0 H:Hp} {p:Addr} {o:HO} (e:aB H0 H) (hp:H0 p=none):aB H0 (upd H p o):=λb u q=>by rw[aF (aD q hp)];exact e b u q
theorem eM.to {m:Nat} {z:Str} {k:Int} (h:eM m z) (h0:0<=k):eM m (Txt.slice z none (some k)):=h.of_ls λc hc=>by
 rw[show ls (Txt.slice z none (some k))=(ls z).take k.toNat from bX h0] at hc;exact mem_of_mem_take hc
theorem oH {c:Nat} (h1:97<=c) (h2:c<101):∃r,Builtin.Str.occurrences xU ⟨#[c]⟩ 0 xU.length 1=(c - 97)::r:=by
 have:c=97\/c=98\/c=99\/c=100:=by lia
 rcases this with rfl|rfl|rfl|rfl
 ·exact ⟨[],by decide+kernel⟩
 ·exact ⟨[],by decide+kernel⟩
 ·exact ⟨[],by decide+kernel⟩
 ·exact ⟨[],by decide+kernel⟩
noncomputable def fU (K:Fg):Sp:=λvs H Q _=>∃(a:Addr) (ws:List Str) (z:Str),vs=[.ref a,.str z]/\Rl K H a ws 100/\eM ws.length z/\z.length<=20000/\∀H',aB H H'->Q (.str (img ws z)) H'
noncomputable def iF (K:Fg):List (SX K):=
 [set 2 (lst []),
  iR (kJ 3) (kQ (var 1)) [ex (eD (var 2) (ix (var 0) (mY (cst (.str "abcd")) (var 3))))],
  ret (zS (cst (.str "")) (var 2))]
theorem vE:TT (fU K) (iF K) ["_law_rule_here","_law_word_here","_law_found","_law_sign"]:=by
 intro vs H Q E h;obtain ⟨a,ws,z,rfl,hR,hz,hzl,q⟩:=h;unfold iF;walk_at "";refine ⟨zero_le _,λp hp=>?_⟩;walk_at "";have hn:(ls z).length<=20000:=by rw[aS];exact hzl
 have hw:∀i c,(ls z)[i]?=some c->∃w,ws[c - 97]?=some w/\w∈ws/\97<=c/\c<101:=λi c hc=>by
  have h:=hz c (mem_of_getElem? hc);have h4:=hR.four;have hl:c - 97<ws.length:=by lia
  exact ⟨ws[c - 97],getElem?_eq_getElem hl,getElem_mem hl,h.1,by lia⟩
 refine JC (λi σ H'=>aB H H'/\i<=(ls z).length/\∃(a3:Option V),H' p=some (.lst (((ls z).take i).map λc=>V.str (aG (wd ws c))))/\σ=[some (.ref a),some (.str z),some (.ref p),a3])
  ⟨aE hp _,zero_le _,none,aA,rfl⟩ (λi c σ H' hc hP=>?_) λσ H' hP=>?_
 ·obtain ⟨hSm,hi,a3,hpl,rfl⟩:=hP;obtain ⟨w,hw1,hw2,hc1,hc2⟩:=hw i c hc;obtain ⟨r,hr⟩:=oH hc1 hc2;have hilt:=(List.getElem?_eq_some_iff.mp hc).1;walk_at "";refine KC (aR.of hpl) ?_;walk_at "";refine oX hr ?_;refine iV (v:=.str w) (aB.seqT hSm hR.sq) (cF (by rw[getElem?_map,hw1];rfl)) ?_;walk_at "";refine fL hpl (by rw[length_map,length_take];exact Nat.lt_of_lt_of_le (show min i (ls z).length<100000 by lia) (small (by decide))) ?_;refine ⟨dZ hSm hp,hilt,_,?_,rfl⟩;rw[aA,take_add_one,hc,map_append];have e:aG (wd ws c)=w:=by unfold wd;rw[hw1];exact RI w
  show some (HO.lst (_++[V.str w]))=some (HO.lst (_++[V.str (aG (wd ws c))]));rw[e]
 ·obtain ⟨hSm,hi,a3,hpl,rfl⟩:=hP;walk_at "";have hb:(((ls z).map λc=>aG (wd ws c)).map (·.length)).sum<=20000 * 100:=by
   refine Nat.le_trans (yL (B:=100) λx hx=>?_) (by rw[length_map,length_map];exact Nat.mul_le_mul_right _ hn);obtain ⟨y,hy,rfl⟩:=mem_map.mp hx;obtain ⟨c,hc,rfl⟩:=mem_map.mp hy;obtain ⟨i,hi'⟩:=getElem?_of_mem hc;obtain ⟨w,hw1,hw2,_⟩:=hw i c hi';rw[eR];unfold wd;rw[hw1];show (ls w).length<=100;rw[aS];exact hR.le w hw2
  refine ⟨(ls z).map λc=>aG (wd ws c),.inl ?_,?_,?_⟩
  ·rw[hpl,take_length,map_map];rfl
  ·have e:(Str.ofString "").length=0:=by decide+kernel
   rw[e];lia
  ·have e:Txt.join (Str.ofString "") ((ls z).map λc=>aG (wd ws c))=img ws z:=fZ (by
    rw[wO,lM,map_map,List.flatMap_def]
    congr 1)
   rw[e];exact q H' hSm
theorem Gb:PySem.W.kitOne K (.type "str") (.type "str")=some true:=by kernel_rfl
end
section
variable {K:Fg}
noncomputable def known (m:Int):Str:=Txt.slice xU none (some m)
theorem gZ {m:Int} (h0:0<=m) (h4:m<=4):ls (known m)=(range m.toNat).map (97+·):=by
 unfold known;rw[show ls (Txt.slice xU none (some m))=xU.cps.toList.take m.toNat from bX h0,xT];have:m=0\/m=1\/m=2\/m=3\/m=4:=by lia
 rcases this with rfl|rfl|rfl|rfl|rfl<;>rfl
theorem lO {m:Int} (h0:0<=m) (h4:m<=4):(known m).length=m.toNat:=by rw[<-aS,gZ h0 h4,length_map,length_range]
theorem JH {m:Int} (h0:0<=m) (h4:m<=4) {k:Nat} (hk:k<m.toNat):(known m).cps.toList[k]?=some (97+k):=by
 rw[show (known m).cps.toList=ls (known m) from rfl,gZ h0 h4,getElem?_map,getElem?_range hk];rfl
noncomputable def cS (K:Fg):Sp:=λvs H Q _=>∃m:Int,vs=[.int m]/\Q (.str (known m)) H
noncomputable def lT (K:Fg):List (SX K):=
 [ret (yR (YM "LETTERS" (.str "abcd")) none (some (var 0)))]
theorem CW:TT (cS K) (lT K) ["many"]:=by
 intro vs H Q E h;obtain ⟨m,rfl,q⟩:=h;unfold lT;walk_at "";exact fK (by rw[lB];decide) q
theorem Gm (f:Nat->Nat) (l:List Nat):(l.map λk=>((f k:Nat):Int)).sum=(((l.map f).sum:Nat):Int):=by
 induction l with
 |nil=>rfl
 |cons a l ih=>rw[map_cons,sum_cons,ih,map_cons,sum_cons];lia
noncomputable def WB (H:Hp) (d:Addr) (ws:List Str):Prop:=∃kvs,H d=some (.dK kvs)/\(∀k w,ws[k]?=some w->cZ kvs (.inr ⟨#[97+k]⟩)=some (.str w))/\∀c,¬(97<=c/\c<97+ws.length)->cZ kvs (.inr ⟨#[c]⟩)=none
theorem WB.same {H H':Hp} {d:Addr} {ws:List Str} (h:WB H d ws) (e:aB H H'):WB H' d ws:=by
 obtain ⟨kvs,h1,h2,h3⟩:=h;exact ⟨kvs,e _ _ h1,h2,h3⟩
theorem WB.get {H:Hp} {d:Addr} {ws:List Str} (h:WB H d ws) {c:Nat} {w:Str} (hc:97<=c) (hw:ws[c - 97]?=some w):dR H d (sgn c) (some (.str w)):=by
 obtain ⟨kvs,h1,h2,_⟩:=h;have e:=h2 (c - 97) w hw;have:97+(c - 97)=c:=by lia
 rw[this] at e;rw[<-e];exact dR.k (k:=.inr ⟨#[c]⟩) h1
theorem WB.miss {H:Hp} {d:Addr} {ws:List Str} (h:WB H d ws) {c:Nat} (hc:¬(97<=c/\c<97+ws.length)):dR H d (sgn c) none:=by
 obtain ⟨kvs,h1,_,h3⟩:=h;rw[<-h3 c hc];exact dR.k (k:=.inr ⟨#[c]⟩) h1
structure uV (K:Fg) (H:Hp) (a:Addr) (ws:List Str):Prop where
 tp:cC K H a (ws.map V.str)
 pos:1<=ws.length
 four:ws.length<=4
theorem uV.same {H H':Hp} {a:Addr} {ws:List Str} (h:uV K H a ws) (e:aB H H'):uV K H' a ws:=⟨aB.seqT e h.tp,h.pos,h.four⟩
theorem Rl.rt {H:Hp} {a:Addr} {ws:List Str} {m:Nat} (h:Rl K H a ws m):uV K H a ws:=⟨h.sq,h.pos,h.four⟩
noncomputable def bD (K:Fg):Sp:=λvs H Q _=>∃(a:Addr) (ws:List Str),vs=[.ref a]/\uV K H a ws/\∀d H',aB H H'->H d=none->WB H' d ws->Q (.ref d) H'
noncomputable def cM (K:Fg):List (SX K):=
 [ret (PX (call "letters" (cS K) [len (var 0)]) (var 0))]
theorem cG {m:Int} (h0:0<=m) (h4:m<=4) {k:Nat} (hk:k<m.toNat):fD (known m) k=.inr ⟨#[97+k]⟩:=by
 unfold fD;rw[StrLaws.getD_of_getElem? (JH h0 h4 hk)]
theorem tB {c d:Nat} (h:(Sum.inr ⟨#[c]⟩:Key)=.inr ⟨#[d]⟩):c=d:=by
 have e2:(⟨#[c]⟩:Str)=⟨#[d]⟩:=Sum.inr.inj h;have e3:=congrArg ls e2;simp [ls] at e3;exact e3
theorem jN:TT (bD K) (cM K) ["rule"]:=by
 intro vs H Q E h;obtain ⟨a,ws,rfl,hR,q⟩:=h;have h4:=hR.four;have hq:=hR.tp;have hlen:(ws.map V.str).length=ws.length:=length_map _;unfold cM;walk_at "";refine ⟨_,rfl,?_⟩;walk_at "";have k0:(0:Int)<=((ws.map V.str).length:Nat):=by lia
 have k4:(((ws.map V.str).length:Nat):Int)<=4:=by lia
 have hkl:(known ((ws.map V.str).length:Nat)).cps.size=ws.length:=by
  show (known ((ws.map V.str).length:Nat)).length=_;rw[lO k0 k4];lia
 have hinj:∀i j,i<(known ((ws.map V.str).length:Nat)).cps.size->j<(known ((ws.map V.str).length:Nat)).cps.size->fD (known ((ws.map V.str).length:Nat)) i=fD (known ((ws.map V.str).length:Nat)) j->i=j:=λi j hi hj e=>by
  rw[hkl] at hi hj;rw[cG k0 k4 (by lia),cG k0 k4 (by lia)] at e;have:=tB e;lia
 refine ⟨_,_,ws.map V.str,rfl,.inl hq,by rw[hkl,hlen],by rw[hkl];lia,?_,hinj,λd hd=>?_⟩
 ·rw[Array.all_eq_true'];intro c hc;have hc':c∈ls (known ((ws.map V.str).length:Nat)):=by simpa [ls] using hc
  rw[gZ k0 k4] at hc';obtain ⟨k,hk,rfl⟩:=mem_map.mp hc';have:=mem_range.mp hk;simp;lia
 refine q d _ (aE hd _) hd ⟨_,aA,λk w hw=>?_,λc hc=>?_⟩
 ·have hl:k<ws.length:=(List.getElem?_eq_some_iff.mp hw).1;unfold iS;rw[<-cG k0 k4 (show k<(((ws.map V.str).length:Nat):Int).toNat by lia),qV hinj (by rw[hkl];exact hl),getElem?_map,hw];rfl
 ·unfold iS cZ;rw[List.find?_map];have e:(range (known ((ws.map V.str).length:Nat)).cps.size).find? ((λkv:Key × V=>decide (kv.1=.inr ⟨#[c]⟩))∘λi=>(fD (known ((ws.map V.str).length:Nat)) i,(ws.map V.str)[i]?.getD .non))=none:=by
   refine List.find?_eq_none.mpr λi hi z=>hc ?_;have hi':=mem_range.mp hi;rw[hkl] at hi';have z1:fD (known ((ws.map V.str).length:Nat)) i=.inr ⟨#[c]⟩:=of_decide_eq_true z;rw[cG k0 k4 (by lia)] at z1;have:=tB z1;lia
  rw[e];rfl
noncomputable def nV (K:Fg):Sp:=λvs H Q _=>∃(a:Addr) (ws:List Str) (z:Str),vs=[.ref a,.str z]/\uV K H a ws/\(∀w∈ws,w.length<=100)/\eM ws.length z/\z.length<=100000/\∀H',aB H H'->Q (.str (img ws z)) H'
noncomputable def LP (K:Fg):List (SX K):=
 [set 2 (call "words_by_letter" (bD K) [var 0]),
  ret (zS (cst (.str "")) (comp (ix (var 1) (var 0)) (kJ 0) (kQ (var 1)) ["sign"] ["word_for"] [2]))]
theorem ZF:TT (nV K) (LP K) ["rule","word","word_for"]:=by
 intro vs H Q E h;obtain ⟨a,ws,z,rfl,hR,hle,hz,hzl,q⟩:=h;unfold LP;walk_at "";refine ⟨a,ws,rfl,hR,λd H1 hS1 _ hd=>?_⟩;walk_at "";intro D hD;refine xJ (λc=>.str (aG (wd ws c))) hD (small (by lia)) (λi c H2 Q' hc hS2 fin=>?_) λH2 hS2 hO=>?_
 ·have hcw:=hz c (mem_of_getElem? hc);have hl:c - 97<ws.length:=by lia
  walk_at "";have e:aG (wd ws c)=ws[c - 97]:=by
   unfold wd;rw[getElem?_eq_getElem hl];exact RI _
  have f2:=fin H2 (aB.refl _);rw[e] at f2;exact iW ((hd.same hS2).get hcw.1 (getElem?_eq_getElem hl)) f2
 ·walk_at "";have hb:(((ls z).map λc=>aG (wd ws c)).map (·.length)).sum<=100000 * 100:=by
   refine Nat.le_trans (yL (B:=100) λx hx=>?_) (by rw[length_map,length_map,aS];exact Nat.mul_le_mul_right _ hzl);obtain ⟨y,hy,rfl⟩:=mem_map.mp hx;obtain ⟨c,hc,rfl⟩:=mem_map.mp hy;have hcw:=hz c hc;have hl:c - 97<ws.length:=by lia
   rw[eR];unfold wd;rw[getElem?_eq_getElem hl];show (ls ws[c - 97]).length<=100;rw[aS];exact hle _ (getElem_mem hl)
  refine ⟨(ls z).map λc=>aG (wd ws c),.inl ?_,?_,?_⟩
  ·rw[hO,map_map];rfl
  ·have e:(Str.ofString "").length=0:=by decide+kernel
   rw[e];lia
  ·have e:Txt.join (Str.ofString "") ((ls z).map λc=>aG (wd ws c))=img ws z:=fZ (by
    rw[wO,lM,map_map,List.flatMap_def]
    congr 1)
   rw[e];exact q H2 (hS1.trans hS2)
end
noncomputable def Bw (ws:List Str) (z:Str):Nat->Str
 |0=>z
 |k+1=>img ws (Bw ws z k)
theorem OU {ws:List Str} {z:Str} {m:Nat} (hw:∀w∈ws,eM m w) (hz:eM m z):∀k,eM m (Bw ws z k)
 |0=>hz
 |_+1=>OX hw
section
variable {K:Fg}
end
section
variable {K:Fg}
noncomputable instance (m:Nat) (z:Str):Decidable (eM m z):=by unfold eM;infer_instance
theorem Ga:PySem.W.kitOne K (.type "tuple") (.type "tuple")=some true:=by kernel_rfl
end
section
variable {K:Fg}
theorem Bn:PySem.W.kitOne K (.type "int") (.type "int")=some true:=by kernel_rfl
theorem Bo:PySem.W.kitOne K (.type "int") (.type "bool")=some false:=by kernel_rfl
theorem Bm:PySem.W.kitOne K (.type "list") (.type "list")=some true:=by kernel_rfl
noncomputable def jU (K:Fg):Sp:=λvs H Q _=>∃i:Int,vs=[.int i]/\Q (.bl true) H
noncomputable def iD (K:Fg):List (SX K):=
 [ret (AJ (YL (var 0) QV) [oN (YL (var 0) GH)])]
theorem vC:TT (jU K) (iD K) ["_law_found"]:=by
 intro vs H Q E h;obtain ⟨i,rfl,q⟩:=h;unfold iD;walk_at "";refine ⟨_,_,gC.int i,Bn,?_⟩;walk_at "";refine He ?_;walk_at "";refine ⟨_,_,gC.int i,Bo,?_⟩;walk_at "";exact q
end
noncomputable def cnt (z:Str) (k:Nat):Int:=((ls z).count (97+k):Nat)
noncomputable def aW (n:Nat) (z:Str):List Int:=(range n).map (cnt z)
theorem bO (n:Nat) (z:Str):(aW n z).length=n:=by unfold aW;rw[length_map,length_range]
theorem cA {n:Nat} {z:Str} {k:Nat} (h:k<n):(aW n z)[k]?=some (cnt z k):=by unfold aW;rw[getElem?_map,getElem?_range h];rfl
noncomputable def dot (xs ys:List Int):Int:=(zipWith (· * ·) xs ys).sum
noncomputable def sg (ds:List Int) (z:Str):Int:=((ls z).map λc=>ds[c - 97]?.getD 0).sum
theorem FT (f g:Nat->Int) (ds:List Int):(zipWith (· * ·) ((range ds.length).map λk=>f k+g k) ds).sum=(zipWith (· * ·) ((range ds.length).map f) ds).sum+(zipWith (· * ·) ((range ds.length).map g) ds).sum:=by
 induction ds generalizing f g with
 |nil=>rfl
 |cons d ds ih=>
  rw[length_cons,List.range_succ_eq_map];simp only [map_cons,map_map,zipWith_cons_cons,sum_cons];have e:=ih (f∘Nat.succ) (g∘Nat.succ);have e1:((λk=>f k+g k)∘Nat.succ)=λk=>(f∘Nat.succ) k+(g∘Nat.succ) k:=rfl;rw[e1,e,Int.add_mul];lia
theorem qR (ds:List Int):(zipWith (· * ·) ((range ds.length).map λ_=>(0:Int)) ds).sum=0:=by
 induction ds with
 |nil=>rfl
 |cons d ds ih=>
  rw[length_cons,List.range_succ_eq_map];simp only [map_cons,map_map,zipWith_cons_cons,sum_cons];have e1:((λ_=>(0:Int))∘Nat.succ)=λ_=>(0:Int):=rfl;rw[e1,ih,Int.zero_mul];rfl
theorem FR (ds:List Int) (j:Nat):(zipWith (· * ·) ((range ds.length).map λk=>if k=j then (1:Int) else 0) ds).sum=ds[j]?.getD 0:=by
 induction ds generalizing j with
 |nil=>rfl
 |cons d ds ih=>
  rw[length_cons,List.range_succ_eq_map];simp only [map_cons,map_map,zipWith_cons_cons,sum_cons];cases j with
  |zero=>
   have e1:((λk=>if k=0 then (1:Int) else 0)∘Nat.succ)=λ_=>(0:Int):=by funext k;simp
   rw[e1,qR];simp
  |succ j=>
   have e1:((λk=>if k=j+1 then (1:Int) else 0)∘Nat.succ)=λk=>if k=j then (1:Int) else 0:=by funext k;simp
   rw[e1,ih j];simp
theorem xE (ds:List Int):∀(l:List Nat),(∀c∈l,97<=c/\c<97+ds.length)->(zipWith (· * ·) ((range ds.length).map λk=>((l.count (97+k):Nat):Int)) ds).sum=(l.map λc=>ds[c - 97]?.getD 0).sum
 |[],_=>by
  have e:((range ds.length).map λk=>(((([]:List Nat).count (97+k):Nat)):Int))=(range ds.length).map λ_=>(0:Int):=map_congr_left λk _=>by simp
  rw[e,qR];rfl
 |c::l,h=>by
  obtain ⟨h1,h2⟩:=h c mem_cons_self;have ih:=xE ds l λd hd=>h d (mem_cons_of_mem _ hd);have e:((range ds.length).map λk=>(((c::l).count (97+k):Nat):Int))=(range ds.length).map λk=>(if k=c - 97 then (1:Int) else 0)+((l.count (97+k):Nat):Int):=by
   refine map_congr_left λk _=>?_;rw[List.count_cons];by_cases hk:k=c - 97
   ·have:c=97+k:=by lia
    rw[if_pos hk,this];simp;lia
   ·have:¬(c=97+k):=by lia
    rw[if_neg hk];simp [this]
  rw[e,FT,FR,ih,map_cons,sum_cons]
theorem pG {ds:List Int} {z:Str} (h:eM ds.length z):dot (aW ds.length z) ds=sg ds z:=xE ds (ls z) h
theorem MZ {n:Nat} {z:Str} (h:eM n z):sg (replicate n 1) z=z.length:=by
 unfold sg;rw[<-aS];have:∀l:List Nat,(∀c∈l,97<=c/\c<97+n)->(l.map λc=>(replicate n (1:Int))[c - 97]?.getD 0).sum=(l.length:Int):=by
  intro l;induction l with
  |nil=>intro _;rfl
  |cons c l ih=>
   intro hl;have hc:=hl c mem_cons_self;rw[map_cons,sum_cons,ih λd hd=>hl d (mem_cons_of_mem _ hd),length_cons];have e:(replicate n (1:Int))[c - 97]?.getD 0=1:=by
    rw[List.getElem?_replicate,if_pos (by lia)];rfl
   rw[e];lia
 exact this (ls z) h
noncomputable def qB (ws:List Str):Nat->List Int
 |0=>replicate ws.length 1
 |t+1=>ws.map (sg (qB ws t))
theorem mR (ws:List Str):∀t,(qB ws t).length=ws.length
 |0=>length_replicate
 |_+1=>length_map _
theorem XJ (z:Str) (k:Nat):0<=cnt z k:=by unfold cnt;lia
theorem XM (z:Str) (k:Nat):cnt z k<=z.length:=by
 unfold cnt;have:=List.count_le_length (a:=97+k) (l:=ls z);rw[aS] at this;lia
noncomputable def aJ (ws:List Str) (c:Nat):Bool:=match ws[c - 97]? with
 |some w=>decide (97<=c)&&(decide (1<w.length)&&decide ((ls w)[0]?=some c))
 |none=>false
section
variable {K:Fg}
noncomputable def iJ (K:Fg):Sp:=λvs H Q _=>∃(z:Str) (m:Int),vs=[.str z,.int m]/\0<=m/\m<=4/\∀r H',aB H H'->H r=none->H' r=some (.lst ((aW m.toNat z).map V.int))->Q (.ref r) H'
noncomputable def pP (K:Fg):List (SX K):=
 [ret (comp (BK (var 1) (var 0)) (kJ 0) (kQ (call "letters" (cS K) [var 1])) ["letter"] ["word"] [0])]
theorem GR:TT (iJ K) (pP K) ["word","many"]:=by
 intro vs H Q E h;obtain ⟨z,m,rfl,h0,h4,q⟩:=h;unfold pP;walk_at "";refine ⟨m,rfl,?_⟩;walk_at "";intro D hD;refine xJ (λc=>.int (((ls z).count c:Nat):Int)) hD (small (by rw[lO h0 h4];lia)) (λi c H1 Q' hc hS fin=>?_) λH1 hS hO=>?_
 ·walk_at "";exact fin H1 (aB.refl _)
 ·refine q D H1 hS hD ?_;rw[hO,show (known m).cps.toList=ls (known m) from rfl,gZ h0 h4,map_map];unfold aW;rw[map_map];rfl
noncomputable def FK (H:Hp) (p:Addr) (rs:List Addr) (rows:List (List Int)):Prop:=H p=some (.lst (rs.map V.ref))/\rs.length=rows.length/\∀(i:Nat) (r:Addr) (row:List Int),rs[i]?=some r->rows[i]?=some row->H r=some (.lst (row.map V.int))
theorem FK.same {H H':Hp} {p:Addr} {rs:List Addr} {rows:List (List Int)} (h:FK H p rs rows) (e:aB H H'):FK H' p rs rows:=⟨e _ _ h.1,h.2.1,λi r row a b=>e _ _ (h.2.2 i r row a b)⟩
noncomputable def rowsOf (ws:List Str):List (List Int):=ws.map (aW ws.length)
theorem tF:∀(ys:List V),(∀y∈ys,∃r,y=V.ref r)->∃rs:List Addr,ys=rs.map V.ref
 |[],_=>⟨[],rfl⟩
 |y::ys,h=>by
  obtain ⟨r,rfl⟩:=h y mem_cons_self;obtain ⟨rs,rfl⟩:=tF ys λy hy=>h y (mem_cons_of_mem _ hy);exact ⟨r::rs,rfl⟩
noncomputable def jT (K:Fg):Sp:=λvs H Q _=>∃(a:Addr) (ws:List Str),vs=[.ref a]/\uV K H a ws/\∀p rs H',aB H H'->H p=none->(∀r∈rs,H r=none)->FK H' p rs (rowsOf ws)->Q (.ref p) H'
noncomputable def uK (K:Fg):List (SX K):=
 [ret (comp (call "counts" (iJ K) [var 0,len (var 1)]) (kJ 0) (kQ (var 0)) ["word"] ["rule"] [0])]
theorem MQ:TT (jT K) (uK K) ["rule"]:=by
 intro vs H Q E h;obtain ⟨a,ws,rfl,hR,q⟩:=h;have h4:=hR.four;have hlen:(ws.map V.str).length=ws.length:=length_map _;unfold uK;walk_at "";refine Co hR.tp ?_;intro D hD;refine ET (λi y H1=>∃r w,y=.ref r/\r≠D/\H r=none/\ws[i]?=some w/\H1 r=some (.lst ((aW ws.length w).map V.int))) hR.tp hD (small (by lia)) (λi y H1 H2 hh=>?_) (λi x H1 Q' hx hS hDs fin=>?_) λH1 ys hS hO hl hr=>?_
 ·rintro ⟨r,w,e1,e2,e3,e4,e5⟩;exact ⟨r,w,e1,e2,e3,e4,hh r _ e2 e5⟩
 ·obtain ⟨w,hw,hw2⟩:∃w,ws[i]?=some w/\x=.str w:=by
   rw[getElem?_map] at hx;cases e:ws[i]? with
   |none=>rw[e] at hx;cases hx
   |some w=>rw[e] at hx;exact ⟨w,rfl,(Option.some.inj hx).symm⟩
  subst hw2;have hq1:=aB.seqT hS hR.tp;walk_at "";refine ⟨w,_,rfl,by lia,by lia,λr H2 hS2 hr hr2=>?_⟩;obtain ⟨o,ho⟩:=hDs;rw[hlen,toNat_natCast] at hr2;refine fin (.ref r) H2 hS2 ⟨r,w,rfl,(aD ho hr).symm,?_,hw,hr2⟩;cases e:H r with
  |none=>rfl
  |some o=>rw[hS _ _ e] at hr;cases hr
 ·obtain ⟨rs,rfl⟩:=tF ys λy hy=>by
   obtain ⟨i,hi⟩:=getElem?_of_mem hy;obtain ⟨r,_,e,_⟩:=hr i y hi;exact ⟨r,e⟩
  have hget:∀i r,rs[i]?=some r->H r=none/\∃w,ws[i]?=some w/\H1 r=some (.lst ((aW ws.length w).map V.int)):=λi r hi=>by
   obtain ⟨r',w,e1,_,e3,e4,e5⟩:=hr i (.ref r) (by rw[getElem?_map,hi];rfl);cases e1;exact ⟨e3,w,e4,e5⟩
  refine q D rs H1 hS hD (λr hm=>?_) ⟨hO,?_,λi r row hi hrow=>?_⟩
  ·obtain ⟨i,hi⟩:=getElem?_of_mem hm;exact (hget i r hi).1
  ·unfold rowsOf;rw[length_map,<-hlen,<-hl,length_map]
  ·obtain ⟨_,w,e1,e2⟩:=hget i r hi;unfold rowsOf at hrow;rw[getElem?_map,e1] at hrow;cases hrow;exact e2
noncomputable def Bh:V->V->V
 | .int i,.int j=>.int (i * j)
 |_,_=>.non
theorem sM (f:Int->Int->Int) (g:V->V->V) (hg:∀i j,g (.int i) (.int j)=.int (f i j)):∀xs ys:List Int,zipWith g (xs.map V.int) (ys.map V.int)=(zipWith f xs ys).map V.int
 |[],ys=>rfl
 |x::xs,[]=>rfl
 |x::xs,y::ys=>by
  simp only [map_cons,zipWith_cons_cons,hg,sM f g hg xs ys]
theorem iM {xs:List Int} {i:Nat} {x:V} (h:(xs.map V.int)[i]?=some x):∃k,xs[i]?=some k/\x=.int k:=by
 rw[getElem?_map] at h;cases e:xs[i]? with
 |none=>rw[e] at h;cases h
 |some k=>rw[e] at h;exact ⟨k,rfl,(Option.some.inj h).symm⟩
noncomputable def YV (xs:List Int):Prop:=∀x∈xs,0<=x/\x<=1000000
noncomputable def gE (K:Fg):Sp:=λvs H Q _=>∃(p r:Addr) (xs ys:List Int),vs=[.ref p,.ref r]/\H p=some (.lst (xs.map V.int))/\H r=some (.lst (ys.map V.int))/\YV xs/\xs.length<=1000/\∀H',aB H H'->Q (.int (dot xs ys)) H'
noncomputable def eE (K:Fg):List (SX K):=
 [ret (sum (comp (bin .Mult (var 0) (var 1)) (CT [0,1]) (PN (var 0) (var 1)) ["count","size"] [] []))]
theorem nK:TT (gE K) (eE K) ["row","before"]:=by
 intro vs H Q E h;obtain ⟨p,r,xs,ys,rfl,hp,hr,hF,hl,q⟩:=h;unfold eE;walk_at "";refine zX (aR.of hp) (aR.of hr) ?_;intro D hD;refine xI Bh (aR.of hp) (aR.of hr) hD (small (by rw[length_map];lia)) (λi x y H1 Q' hx hy hS fin=>?_) λH1 hS hO=>?_
 ·obtain ⟨k,hk,rfl⟩:=iM hx;obtain ⟨j,hj,rfl⟩:=iM hy;have:=hF k (mem_of_getElem? hk);walk_at "";exact fin H1 (aB.refl _)
 ·refine ⟨D,zipWith (· * ·) xs ys,rfl,?_,q H1 hS⟩;rw[hO,sM (· * ·) Bh λ_ _=>rfl]
noncomputable def eO (K:Fg):Sp:=λvs H Q _=>∃(p r:Addr) (rs:List Addr) (rows:List (List Int)) (ys:List Int),vs=[.ref p,.ref r]/\FK H p rs rows/\H r=some (.lst (ys.map V.int))/\(∀xs∈rows,YV xs/\xs.length<=1000)/\rows.length<=1000/\
 ∀t H',aB H H'->H t=none->H' t=some (.lst ((rows.map λxs=>dot xs ys).map V.int))->Q (.ref t) H'
noncomputable def gA (K:Fg):List (SX K):=
 [ret (comp (call "signs_behind" (gE K) [var 0,var 1]) (kJ 0) (kQ (var 0)) ["row"] ["before"] [1])]
theorem sU:TT (eO K) (gA K) ["rows","before"]:=by
 intro vs H Q E h;obtain ⟨p,r,rs,rows,ys,rfl,hT,hr,hF,hl,q⟩:=h;unfold gA;walk_at "";refine kP (aR.of hT.1) ?_;intro D hD;have hlen:(rs.map V.ref).length=rows.length:=by rw[length_map];exact hT.2.1
 refine EU (λi=>.int ((rows[i]?.map λxs=>dot xs ys).getD 0)) (aR.of hT.1) hD (small (by lia)) (λi x H1 Q' hx hS fin=>?_) λH1 hS hO=>?_
 ·have hi:i<rows.length:=by rw[<-hlen];exact (List.getElem?_eq_some_iff.mp hx).1
  have hi2:i<rs.length:=by rw[hT.2.1];exact hi
  have ex:x=.ref rs[i]:=by
   rw[getElem?_map,getElem?_eq_getElem hi2] at hx;exact (Option.some.inj hx).symm
  subst ex;have hF1:=hF _ (getElem_mem hi);rw[getElem?_eq_getElem hi] at fin;walk_at "";refine ⟨rs[i],r,rows[i],ys,rfl,hS _ _ (hT.2.2 i _ _ (getElem?_eq_getElem hi2) (getElem?_eq_getElem hi)),hS _ _ hr,hF1.1,hF1.2,λH2 hS2=>?_⟩;exact fin H2 hS2
 ·refine q D H1 hS hD ?_;rw[hO,hlen];have e:((range rows.length).map λi=>V.int ((rows[i]?.map λxs=>dot xs ys).getD 0))=((range rows.length).map λi=>(rows[i]?.map λxs=>dot xs ys).getD 0).map V.int:=by rw[map_map];rfl
  rw[e,iK]
theorem hZ {α:Type} (x:α):∀n:Nat,(replicate n [x]).flatten=replicate n x
 |0=>rfl
 |n+1=>by rw[replicate_succ,flatten_cons,hZ x n];rfl
theorem pD {n:Nat} {z:Str} (h:z.length<=100000):YV (aW n z):=λx hx=>by
 unfold aW at hx;obtain ⟨k,_,rfl⟩:=mem_map.mp hx;have h1:=XJ z k;have h2:=XM z k;lia
theorem vG {ws:List Str} (hw:∀w∈ws,eM ws.length w) (t:Nat):((rowsOf ws).map λxs=>dot xs (qB ws t))=qB ws (t+1):=by
 unfold rowsOf;rw[map_map];show _=ws.map (sg (qB ws t));refine map_congr_left λw h=>?_;have e:=pG (ds:=qB ws t) (z:=w) (by rw[mR];exact hw w h);rw[mR] at e;exact e
noncomputable def vM (K:Fg):Sp:=λvs H Q _=>∃(a:Addr) (ws:List Str) (t:Int),vs=[.ref a,.int t]/\uV K H a ws/\(∀w∈ws,eM ws.length w/\w.length<=100000)/\0<=t/\t<=1000000/\
 ∀r H',aB H H'->H r=none->H' r=some (.lst ((qB ws t.toNat).map V.int))->Q (.ref r) H'
noncomputable def uL (K:Fg):List (SX K):=
 [set 2 (call "table" (jT K) [var 0]),
  set 3 (bin .Mult (lst [cst (.int 1)]) (len (var 0))),
  iR (kJ 4) (tZ (var 1) []) [set 3 (call "sizes_once" (eO K) [var 2,var 3])],
  ret (var 3)]
theorem none_of {H H':Hp} {r:Addr} (e:aB H H') (h:H' r=none):H r=none:=by
 cases q:H r with
 |none=>rfl
 |some o=>rw[e _ _ q] at h;cases h
theorem MR:TT (vM K) (uL K) ["rule","times","rows","made","turn"]:=by
 intro vs H Q E h;obtain ⟨a,ws,t,rfl,hR,hw,h0,ht,q⟩:=h;have h4:=hR.four;have hlen:(ws.map V.str).length=ws.length:=length_map _;unfold uL;walk_at "";refine ⟨a,ws,rfl,hR,λp rs H1 hS1 _ _ hT=>?_⟩;have hq1:=aB.seqT hS1 hR.tp;walk_at "";refine ⟨by show 1<=sizeLine;decide,λl hl=>?_⟩;have s2:=aE hl (.lst [V.int 1]);have hq2:=aB.seqT s2 hq1;walk_at "";refine wY (xs:=[V.int 1]) aA ⟨by lia,by lia⟩ (small (by show 1 * _<=_;lia)) λr hr=>?_;have s3:=aE hr (.lst (replicate (((ws.map V.str).length:Nat):Int).toNat [V.int 1]).flatten);walk_at "";have hrow:∀xs∈rowsOf ws,YV xs/\xs.length<=1000:=λxs hx=>by
  unfold rowsOf at hx;obtain ⟨w,hm,rfl⟩:=mem_map.mp hx;exact ⟨pD (hw w hm).2,by rw[bO];lia⟩
 refine fH (λi σ H'=>aB H1 H'/\∃(u:Addr) (a4:Option V),H u=none/\H' u=some (.lst ((qB ws i).map V.int))/\σ=[some (.ref a),some (.int t),some (.ref p),some (.ref u),a4])
  ⟨s2.trans s3,r,none,none_of (hS1.trans s2) hr,?_,rfl⟩ (λi σ H' hi hP=>?_) λσ H' hP=>?_
 ·rw[aA,hlen,toNat_natCast,hZ];show _=some (HO.lst ((replicate ws.length (1:Int)).map V.int));rw[map_replicate]
 ·obtain ⟨hS,u,a4,hu,hu2,rfl⟩:=hP;walk_at "";refine ⟨p,u,rs,rowsOf ws,qB ws i,rfl,hT.same hS,hu2,hrow,?_,λv H2 hS2 hv hv2=>?_⟩
  ·unfold rowsOf;rw[length_map];lia
  ·rw[vG λw hm=>(hw w hm).1] at hv2;exact ⟨hS.trans hS2,v,_,none_of (hS1.trans hS) hv,hv2,rfl⟩
 ·obtain ⟨hS,u,a4,hu,hu2,rfl⟩:=hP;walk_at "";exact q u H' (hS1.trans hS) hu hu2
end
section
variable {K:Fg}
theorem yN (w:Str) (c:Nat) (h:1<=w.length):Txt.startswith w ⟨#[c]⟩=decide ((ls w)[0]?=some c):=by
 unfold Txt.startswith;have e:=StrLaws.subAt_one w c 0;rw[Bool.eq_iff_iff,decide_eq_true_iff];show (decide ((⟨#[c]⟩:Str).length<=w.length)&&_)=true↔_;rw[and_eq_true];constructor
 ·rintro ⟨h1,h2⟩;exact e.mp ⟨by simpa using of_decide_eq_true h1,h2⟩
 ·intro z;obtain ⟨h1,h2⟩:=e.mpr z;exact ⟨decide_eq_true h,h2⟩
noncomputable def vN (K:Fg):Sp:=λvs H Q _=>∃(a:Addr) (ws:List Str) (c:Nat),vs=[.ref a,sgn c]/\uV K H a ws/\(∀w∈ws,1<=w.length/\w.length<=100)/\97<=c/\∀H',aB H H'->Q (.bl (aJ ws c)) H'
noncomputable def uM (K:Fg):List (SX K):=
 [set 2 (JA (call "words_by_letter" (bD K) [var 0]) (var 1) (cst (.str ""))),
  ret (AJ (cmp .Gt (len (var 2)) (cst (.int 1))) [m_startswith (var 2) (var 1)])]
theorem MS:TT (vN K) (uM K) ["rule","start","word"]:=by
 intro vs H Q E h;obtain ⟨a,ws,c,rfl,hR,hle,hc,q⟩:=h;unfold uM;walk_at "";refine ⟨a,ws,rfl,hR,λd H1 hS1 _ hd=>?_⟩;obtain ⟨kvs,hk,_⟩:=id hd;refine Df hk ?_;walk_at "";have f:=q H1 hS1;unfold aJ at f;by_cases hl:c - 97<ws.length
 ·have hw:=hle _ (getElem_mem hl);refine AB (hd.get hc (getElem?_eq_getElem hl)) ?_;rw[getElem?_eq_getElem hl] at f;rw[show (some (V.str ws[c - 97])).getD (V.str (Str.ofString ""))=V.str ws[c - 97] from rfl];walk_at "";refine eU (small (by lia)) ?_;walk_at "";simp only [decide_eq_true hc,Bool.true_and] at f;refine gI (λc1=>?_) λc1=>?_
  ·walk_at "";show Q (.bl (Txt.startswith ws[c - 97] ⟨#[c]⟩)) H1;rw[yN _ _ hw.1];rw[decide_eq_true (show 1<(ws[c - 97]).length by lia),Bool.true_and] at f;exact f
  ·rw[decide_eq_false (show ¬1<(ws[c - 97]).length by lia),Bool.false_and] at f;rw[decide_eq_false c1];exact f
 ·refine AB (hd.miss (by lia)) ?_;rw[List.getElem?_eq_none_iff.mpr (by lia)] at f;rw[show (none:Option V).getD (V.str (Str.ofString ""))=V.str (Str.ofString "") from rfl];walk_at "";refine eU (by decide+kernel) ?_;walk_at "";have e:(Str.ofString "").length=0:=by decide+kernel
  refine gI (λc1=>?_) λc1=>?_
  ·rw[e] at c1;lia
  ·rw[decide_eq_false c1];exact f
end
section
variable {K:Fg}
theorem RM {E:XS} {σ:St} {H:Hp} {D:Ends} {o i a:EX K} (h:a.t E σ H λx H1=>o.t E σ H1 λy H2=>i.t E σ H2 λz H3=>TR y z x H3 λH4=>D.nx σ H4):(put o i a).t E D σ H:=h
end
section
variable {K:Fg}
noncomputable def CL (m:List Int) (x:Int) (row:List Int):List Int:=zipWith (·+·) m (row.map (x * ·))
noncomputable def accN (rows:List (List Int)) (ns:List Int):Nat->List Int
 |0=>replicate rows.length 0
 |k+1=>CL (accN rows ns k) (ns[k]?.getD 0) (rows[k]?.getD [])
noncomputable def kW (rows:List (List Int)) (ns:List Int):List Int:=accN rows ns rows.length
noncomputable def xW (rows:List (List Int)) (ns:List Int):Nat->List Int
 |0=>ns
 |t+1=>kW rows (xW rows ns t)
theorem uS {rows:List (List Int)} {ns:List Int} (h:∀r∈rows,r.length=rows.length):∀k,k<=rows.length->(accN rows ns k).length=rows.length
 |0,_=>length_replicate
 |k+1,hk=>by
  show (zipWith _ _ _).length=_;have hk':k<rows.length:=by lia
  rw[length_zipWith,uS h k (by lia),length_map,getElem?_eq_getElem hk'];show min _ (rows[k]).length=_;rw[h _ (getElem_mem hk')];lia
theorem CK {rows:List (List Int)} {ns:List Int} (h:∀r∈rows,r.length=rows.length) {j:Nat} (hj:j<rows.length):∀k,k<=rows.length->(accN rows ns k)[j]?=some (((range k).map λi=>(ns[i]?.getD 0) * ((rows[i]?.getD [])[j]?.getD 0)).sum)
 |0,_=>by
  show (replicate rows.length (0:Int))[j]?=_;rw[List.getElem?_replicate,if_pos hj];rfl
 |k+1,hk=>by
  have hk':k<rows.length:=by lia
  have hr:j<(rows[k]).length:=by rw[h _ (getElem_mem hk')];exact hj
  have e1:((rows[k]?.getD []).map ((ns[k]?.getD 0) * ·))[j]?=some ((ns[k]?.getD 0) * (rows[k])[j]):=by
   rw[getElem?_map,getElem?_eq_getElem hk'];show Option.map _ (rows[k])[j]?=_;rw[getElem?_eq_getElem hr];rfl
  have e2:((rows[k]?.getD [])[j]?.getD 0)=(rows[k])[j]:=by
   rw[getElem?_eq_getElem hk'];show (rows[k])[j]?.getD 0=_;rw[getElem?_eq_getElem hr];rfl
  show (zipWith _ _ _)[j]?=_;rw[getElem?_zipWith,CK h hj k (by lia),e1,range_succ,map_append,sum_append];simp only [map_cons,map_nil,sum_cons,sum_nil,Int.add_zero,e2]
theorem kC (ws:List Str):∀r∈rowsOf ws,r.length=(rowsOf ws).length:=λr hr=>by
 unfold rowsOf at hr ⊢;obtain ⟨w,_,rfl⟩:=mem_map.mp hr;rw[bO,length_map]
theorem bE (ws:List Str):(rowsOf ws).length=ws.length:=length_map _
theorem DH {ws:List Str} {i:Nat} (h:i<ws.length) (h2:i<(rowsOf ws).length):(rowsOf ws)[i]=aW ws.length ws[i]:=List.getElem_map ..
theorem rZ (ws:List Str) (ns:List Int):(kW (rowsOf ws) ns).length=ws.length:=by
 unfold kW;rw[uS (kC ws) _ (Nat.le_refl _),bE]
theorem CP (f g:Nat->Int):∀(n:Nat),(zipWith (· * ·) ((range n).map f) ((range n).map g))=(range n).map λi=>f i * g i:=by
 intro n;rw[List.zipWith_map];induction n generalizing f g with
 |zero=>rfl
 |succ n ih=>
  rw[List.range_succ_eq_map];simp only [zipWith_cons_cons,map_cons,List.zipWith_map,map_map];have e:=ih (f∘Nat.succ) (g∘Nat.succ)
  congr 1
theorem pK {ws:List Str} {z:Str} (hz:eM ws.length z):kW (rowsOf ws) (aW ws.length z)=aW ws.length (img ws z):=by
 refine ext_getElem? λj=>?_;by_cases hj:j<ws.length
 ·unfold kW;rw[CK (kC ws) (by rw[bE];exact hj) _ (Nat.le_refl _),cA hj,bE]
  congr 1
  have e:((range ws.length).map λi=>((aW ws.length z)[i]?.getD 0) * (((rowsOf ws)[i]?.getD [])[j]?.getD 0))=(range ws.length).map λi=>cnt z i * ((ws.map λw=>cnt w j)[i]?.getD 0):=by
   refine map_congr_left λi hi=>?_;have hi':=mem_range.mp hi;unfold rowsOf;rw[cA hi',getElem?_map,getElem?_map,getElem?_eq_getElem hi'];show cnt z i * ((aW ws.length ws[i])[j]?.getD 0)=cnt z i * cnt ws[i] j;rw[cA hj];rfl
  have hl:(ws.map λw=>cnt w j).length=ws.length:=length_map _;have d:=pG (ds:=ws.map λw=>cnt w j) (z:=z) (by rw[hl];exact hz);unfold dot aW at d;rw[hl] at d;have e2:(ws.map λw=>cnt w j)=(range ws.length).map λi=>(ws.map λw=>cnt w j)[i]?.getD 0:=by
   have e3:=iK ws (λw=>cnt w j) 0;rw[<-e3];refine map_congr_left λi hi=>?_;have hi':=mem_range.mp hi;rw[e3,getElem?_map]
  rw[e,<-CP (cnt z) λi=>(ws.map λw=>cnt w j)[i]?.getD 0,<-e2,d];unfold sg cnt;rw[lM];have:∀l:List Nat,(∀c∈l,97<=c/\c<97+ws.length)->(l.map λc=>(ws.map λw=>(((ls w).count (97+j):Nat):Int))[c - 97]?.getD 0).sum=(((l.flatMap (wd ws)).count (97+j):Nat):Int):=by
   intro l;induction l with
   |nil=>intro _;rfl
   |cons c l ih=>
    intro hc;have h1:=hc c mem_cons_self;have hlt:c - 97<ws.length:=by lia
    have e5:wd ws c=ls ws[c - 97]:=by
     unfold wd;rw[getElem?_eq_getElem hlt];rfl
    rw[map_cons,sum_cons,ih λd hd=>hc d (mem_cons_of_mem _ hd),List.flatMap_cons,List.count_append,e5,getElem?_map,getElem?_eq_getElem hlt];show (((ls ws[c - 97]).count (97+j):Nat):Int)+_=_;lia
  exact this (ls z) hz
 ·rw[List.getElem?_eq_none_iff.mpr (by rw[rZ];lia),List.getElem?_eq_none_iff.mpr (by rw[bO];lia)]
theorem pL {ws:List Str} {z:Str} (hw:∀w∈ws,eM ws.length w) (hz:eM ws.length z):∀t,xW (rowsOf ws) (aW ws.length z) t=aW ws.length (Bw ws z t)
 |0=>rfl
 |t+1=>by
  show kW (rowsOf ws) (xW (rowsOf ws) (aW ws.length z) t)=_;rw[pL hw hz t,pK (OU hw hz t)];rfl
theorem uI {ws:List Str} {ns:List Int} (h:ns.length=ws.length):∀t,(xW (rowsOf ws) ns t).length=ws.length
 |0=>h
 |_+1=>rZ ws _
theorem DY {σ:St} {H:Hp} {D:Ends} {p r:Addr} {xs ys:List V} {m n:Nat} {tb:TS} (hp:aR K H p xs) (hr:aR K H r ys) (Pv:Nat->St->Hp->Prop) (h0:Pv 0 σ H) (hk:∀i σ1 H1,Pv i σ1 H1->aB H H1)
  (hs:∀i x y σ1 H1 H2,xs[i]?=some x->ys[i]?=some y->Pv i σ1 H1->aB H1 H2->tb {D with nx:=Pv (i+1),ct:=Pv (i+1),bk:=D.nx} ((σ1.set m (some x)).set n (some y)) H2) (hd:∀σ1 H1,Pv (min xs.length ys.length) σ1 H1->D.nx σ1 H1):
  lC (Eg K p r) (CT [m,n]:TX K).g tb D σ H:=by
 refine ⟨λi k σ1 H1=>k=min xs.length ys.length - i/\i<=min xs.length ys.length/\Pv i σ1 H1,⟨_,rfl,zero_le _,h0⟩,?_⟩;rintro i k σ1 H1 ⟨rfl,hi,hP⟩;have hS:=hk i σ1 H1 hP;have hp1:=hS.seq hp;have hr1:=hS.seq hr;by_cases hlt:i<min xs.length ys.length
 ·have l1:i<xs.length:=by lia
  have l2:i<ys.length:=by lia
  refine .inr ⟨⟨xs,ys,xs[i],ys[i],hp1,hr1,getElem?_eq_getElem l1,getElem?_eq_getElem l2⟩,Pv (i+1),λσ3 H3 q=>⟨min xs.length ys.length - (i+1),by lia,rfl,hlt,q⟩,?_⟩;rintro v H' ⟨a,x,y,ha,rfl,rfl,hx,hy⟩;exact jD (cC.of aA) (hs i x y σ1 H1 _ (hx _ hp1) (hy _ hr1) hP (aE ha _))
 ·have e:i=min xs.length ys.length:=by lia
  subst e;exact .inl ⟨⟨xs,ys,hp1,hr1,by lia⟩,hd σ1 H1 hP⟩
noncomputable def Dy:V->V->V
 | .int i,.int j=>.int (i+j)
 |_,_=>.non
noncomputable def jW (K:Fg):Sp:=λvs H Q _=>∃(p r:Addr) (xs ys:List Int),vs=[.ref p,.ref r]/\H p=some (.lst (xs.map V.int))/\H r=some (.lst (ys.map V.int))/\xs.length<=1000/\∀t H',aB H H'->H t=none->H' t=some (.lst ((zipWith (·+·) xs ys).map V.int))->Q (.ref t) H'
noncomputable def uN (K:Fg):List (SX K):=
 [ret (comp (bin .Add (var 0) (var 1)) (CT [0,1]) (PN (var 0) (var 1)) ["left","right"] [] [])]
theorem MT:TT (jW K) (uN K) ["one","other"]:=by
 intro vs H Q E h;obtain ⟨p,r,xs,ys,rfl,hp,hr,hl,q⟩:=h;unfold uN;walk_at "";refine zX (aR.of hp) (aR.of hr) ?_;intro D hD;refine xI Dy (aR.of hp) (aR.of hr) hD (small (by rw[length_map];lia)) (λi x y H1 Q' hx hy hS fin=>?_) λH1 hS hO=>?_
 ·obtain ⟨k,hk,rfl⟩:=iM hx;obtain ⟨j,hj,rfl⟩:=iM hy;walk_at "";exact fin H1 (aB.refl _)
 ·refine q D H1 hS hD ?_;rw[hO,sM (·+·) Dy λ_ _=>rfl]
noncomputable def SV (x:Int):V->V
 | .int j=>.int (x * j)
 |_=>.non
noncomputable def gQ (K:Fg):Sp:=λvs H Q _=>∃(p r:Addr) (rs:List Addr) (ws:List Str) (ns:List Int),vs=[.ref p,.ref r]/\FK H p rs (rowsOf ws)/\H r=some (.lst (ns.map V.int))/\ns.length=ws.length/\ws.length<=4/\(∀w∈ws,w.length<=100000)/\
 ∀t H',aB H H'->H t=none->H' t=some (.lst ((kW (rowsOf ws) ns).map V.int))->Q (.ref t) H'
noncomputable def fA (K:Fg):List (SX K):=
 [set 2 (bin .Mult (lst [cst (.int 0)]) (len (var 0))),
  iR (CT [3,4]) (PN (var 1) (var 0)) [set 2 (call "added" (jW K) [var 2,comp (bin .Mult (var 1) (var 0)) (kJ 0) (kQ (var 4)) ["count"] ["number"] [3]])],
  ret (var 2)]
theorem qA:TT (gQ K) (fA K) ["rows","numbers","made","number","row"]:=by
 intro vs H Q E h;obtain ⟨p,r,rs,ws,ns,rfl,hT,hr,hl,h4,hw,q⟩:=h;have hrl:(rs.map V.ref).length=ws.length:=by rw[length_map,hT.2.1,bE]
 have hnl:(ns.map V.int).length=ws.length:=by rw[length_map,hl]
 unfold fA;walk_at "";refine ⟨by show 1<=sizeLine;decide,λl hl'=>?_⟩;have s1:=aE hl' (.lst [V.int 0]);have hqq:aR K (upd H l (.lst [V.int 0])) p (rs.map V.ref):=aR.of (s1 _ _ hT.1);walk_at "";refine wY (xs:=[V.int 0]) aA ⟨by lia,by lia⟩ (small (by show 1 * _<=_;lia)) λl2 hl2=>?_;have s2:=aE hl2 (.lst (replicate (((rs.map V.ref).length:Nat):Int).toNat [V.int 0]).flatten);have s12:=s1.trans s2;walk_at "";have gp:=s12 _ _ hT.1;have gr:=s12 _ _ hr;refine zX (aR.of gr) (aR.of gp) ?_;refine DY (aR.of gr) (aR.of gp) (λi σ H'=>aB (upd (upd H l (.lst [V.int 0])) l2 (.lst (replicate (((rs.map V.ref).length:Nat):Int).toNat [V.int 0]).flatten)) H'/\∃(u:Addr) (a3 a4:Option V),H u=none/\H' u=some (.lst ((accN (rowsOf ws) ns i).map V.int))/\σ=[some (.ref p),some (.ref r),some (.ref u),a3,a4])
  ⟨aB.refl _,l2,none,none,none_of s1 hl2,?_,rfl⟩ (λi σ1 H1 hP=>hP.1) (λi x y σ1 H1 H2 hx hy hP hS2=>?_) λσ1 H1 hP=>?_
 ·rw[aA,hrl,toNat_natCast,hZ];show _=some (HO.lst ((replicate (rowsOf ws).length (0:Int)).map V.int));rw[map_replicate,bE]
 ·obtain ⟨hS1,u,a3,a4,hu,hu1,rfl⟩:=hP;obtain ⟨k,hk,rfl⟩:=iM hx;have hi:i<ws.length:=by rw[<-hl];exact (List.getElem?_eq_some_iff.mp hk).1
  have hi2:i<rs.length:=by rw[hT.2.1,bE];exact hi
  have hi3:i<(rowsOf ws).length:=by rw[bE];exact hi
  have ey:y=.ref rs[i]:=by
   rw[getElem?_map,getElem?_eq_getElem hi2] at hy;exact (Option.some.inj hy).symm
  subst ey;have hrow:H2 rs[i]=some (.lst (((rowsOf ws)[i]).map V.int)):=hS2 _ _ (hS1 _ _ (s12 _ _ (hT.2.2 i _ _ (getElem?_eq_getElem hi2) (getElem?_eq_getElem hi3))));have hfew:YV ((rowsOf ws)[i]):=by
   rw[DH hi hi3];exact pD (hw _ (getElem_mem hi))
  have hrowl:((rowsOf ws)[i]).length=ws.length:=by rw[kC ws _ (getElem_mem hi3),bE]
  walk_at "";refine kP (aR.of hrow) ?_;intro D hD;refine LC (SV k) (aR.of hrow) hD (small (by rw[length_map];lia)) (λj x H3 Q' hx3 hS3 fin=>?_) λH3 hS3 hO=>?_
  ·obtain ⟨c,hc,rfl⟩:=iM hx3;have:=hfew c (mem_of_getElem? hc);walk_at "";exact fin H3 (aB.refl _)
  ·walk_at "";have hO2:H3 D=some (.lst ((((rowsOf ws)[i]).map (k * ·)).map V.int)):=by
    rw[hO,map_map,map_map];rfl
   refine ⟨u,D,_,_,rfl,hS3 _ _ (hS2 _ _ hu1),hO2,?_,λt H4 hS4 ht ht4=>?_⟩
   ·rw[uS (kC ws) _ (by lia),bE];lia
   ·have hSS:=(hS1.trans hS2).trans hS3;refine ⟨hSS.trans hS4,t,_,_,none_of (s12.trans hSS) ht,?_,rfl⟩;rw[ht4];show _=some (HO.lst ((CL (accN (rowsOf ws) ns i) (ns[i]?.getD 0) ((rowsOf ws)[i]?.getD [])).map V.int));rw[hk,getElem?_eq_getElem hi3];rfl
 ·obtain ⟨hS1,u,a3,a4,hu,hu1,rfl⟩:=hP;walk_at "";refine q u H1 (s12.trans hS1) hu ?_;rw[hu1,hnl,hrl,Nat.min_self];unfold kW;rw[bE]
noncomputable def cU (K:Fg):Sp:=λvs H Q _=>∃(a r:Addr) (ws:List Str) (ns:List Int) (t:Int),vs=[.ref a,.ref r,.int t]/\uV K H a ws/\H r=some (.lst (ns.map V.int))/\ns.length=ws.length/\(∀w∈ws,w.length<=100000)/\0<=t/\t<=1000000/\
 ∀u H',aB H H'->H u=none->H' u=some (.lst ((xW (rowsOf ws) ns t.toNat).map V.int))->Q (.ref u) H'
noncomputable def dE (K:Fg):List (SX K):=
 [set 3 (call "table" (jT K) [var 0]),
  set 4 (listE (var 1)),
  iR (kJ 5) (tZ (var 2) []) [set 4 (call "counts_once" (gQ K) [var 3,var 4])],
  ret (var 4)]
theorem mJ:TT (cU K) (dE K) ["rule","numbers","times","rows","made","turn"]:=by
 intro vs H Q E h;obtain ⟨a,r,ws,ns,t,rfl,hR,hr,hl,hw,h0,ht,q⟩:=h;unfold dE;walk_at "";refine ⟨a,ws,rfl,hR,λp rs H1 hS1 _ _ hT=>?_⟩;walk_at "";refine ⟨_,.inl (aR.of (hS1 _ _ hr)),λl hl'=>?_⟩;have s2:=aE hl' (.lst (ns.map V.int));walk_at "";refine fH (λi σ H'=>aB H1 H'/\∃(u:Addr) (a5:Option V),H u=none/\H' u=some (.lst ((xW (rowsOf ws) ns i).map V.int))/\σ=[some (.ref a),some (.ref r),some (.int t),some (.ref p),some (.ref u),a5])
  ⟨s2,l,none,none_of hS1 hl',aA,rfl⟩ (λi σ H' hi hP=>?_) λσ H' hP=>?_
 ·obtain ⟨hS,u,a5,hu,hu2,rfl⟩:=hP;walk_at "";refine ⟨p,u,rs,ws,_,rfl,hT.same hS,hu2,uI hl i,hR.four,hw,λv H2 hS2 hv hv2=>?_⟩;exact ⟨hS.trans hS2,v,_,none_of (hS1.trans hS) hv,hv2,rfl⟩
 ·obtain ⟨hS,u,a5,hu,hu2,rfl⟩:=hP;walk_at "";exact q u H' (hS1.trans hS) hu hu2
end
theorem AU {ws:List Str} {k j:Nat} (h:j<ws.length):∃x,(qB ws k)[j]?=some x:=⟨(qB ws k)[j]'(by rw[mR];exact h),getElem?_eq_getElem _⟩
noncomputable def sz (ws:List Str) (k c:Nat):Int:=(qB ws k)[c - 97]?.getD 0
noncomputable def aO (ws:List Str) (k:Nat) (l:List Nat):Int:=(l.map (sz ws k)).sum
theorem mS {ws:List Str} {c:Nat} (h2:c - 97<ws.length):sz ws 0 c=1:=by
 show (replicate ws.length (1:Int))[c - 97]?.getD 0=1;rw[List.getElem?_replicate,if_pos h2];rfl
theorem iH {ws:List Str} {k c:Nat} (h2:c - 97<ws.length):sz ws (k+1) c=aO ws k (wd ws c):=by
 show (ws.map (sg (qB ws k)))[c - 97]?.getD 0=_;rw[getElem?_map,getElem?_eq_getElem h2];unfold wd;rw[getElem?_eq_getElem h2];rfl
structure Ru (ws:List Str):Prop where
 pos:1<=ws.length
 four:ws.length<=4
 isw:∀w∈ws,eM ws.length w
 one:∀w∈ws,1<=w.length
 le:∀w∈ws,w.length<=100
theorem Ru.word {ws:List Str} (h:Ru ws) {c:Nat} (h2:c - 97<ws.length):∃w,ws[c - 97]?=some w/\wd ws c=ls w/\w∈ws:=by
 refine ⟨ws[c - 97],getElem?_eq_getElem h2,?_,getElem_mem h2⟩;unfold wd;rw[getElem?_eq_getElem h2];rfl
theorem Ru.sign {ws:List Str} (h:Ru ws) {c d:Nat} (h2:c - 97<ws.length) (hd:d∈wd ws c):97<=d/\d - 97<ws.length:=by
 obtain ⟨w,_,e,hm⟩:=h.word h2;rw[e] at hd;have:=h.isw w hm d hd;lia
theorem jQ {ws:List Str} {k:Nat} {l:List Nat} (h:∀c∈l,1<=sz ws k c):(l.length:Int)<=aO ws k l:=by
 induction l with
 |nil=>exact Int.le_refl _
 |cons c l ih=>
  have h1:=h c mem_cons_self;have h2:=ih λd hd=>h d (mem_cons_of_mem _ hd);have e:aO ws k (c::l)=sz ws k c+aO ws k l:=by unfold aO;rw[map_cons,sum_cons]
  rw[e,length_cons];lia
theorem GS {ws:List Str} (h:Ru ws):∀(k c:Nat),c - 97<ws.length->1<=sz ws k c
 |0,c,h2=>by rw[mS h2];exact Int.le_refl _
 |k+1,c,h2=>by
  rw[iH h2];have:=jQ (ws:=ws) (k:=k) (l:=wd ws c) λd hd=>GS h k d (h.sign h2 hd).2;obtain ⟨w,_,e,hm⟩:=h.word h2;have h1:=h.one w hm;rw[e,aS] at this;rw[e];lia
noncomputable def bF (ws:List Str) (k:Nat):List Nat->Int->Nat × Int
 |[],x=>(0,x)
 |c::l,x=>if sz ws k c<=x then ((bF ws k l (x - sz ws k c)).1+1,(bF ws k l (x - sz ws k c)).2) else (0,x)
theorem uB {ws:List Str} {k:Nat}:∀(l:List Nat) (x:Int),0<=x->x<aO ws k l->(bF ws k l x).1<l.length/\0<=(bF ws k l x).2/\(∀d,l[(bF ws k l x).1]?=some d->(bF ws k l x).2<sz ws k d)/\(bF ws k l x).2=x - aO ws k (l.take (bF ws k l x).1)
 |[],x,h0,h=>by
  have e:aO ws k []=0:=rfl;rw[e] at h;lia
 |c::l,x,h0,h=>by
  have e:aO ws k (c::l)=sz ws k c+aO ws k l:=by unfold aO;rw[map_cons,sum_cons]
  rw[e] at h;unfold bF;by_cases hc:sz ws k c<=x
  ·rw[if_pos hc];obtain ⟨h1,h2,h3,h4⟩:=uB (ws:=ws) (k:=k) l (x - sz ws k c) (by lia) (by lia);refine ⟨by rw[length_cons];show _+1<_;lia,h2,λd hd=>h3 d (by simpa using hd),?_⟩;show (bF ws k l (x - sz ws k c)).2=x - aO ws k ((c::l).take ((bF ws k l (x - sz ws k c)).1+1));rw[take_succ_cons];have e2:aO ws k (c::l.take (bF ws k l (x - sz ws k c)).1)=sz ws k c+aO ws k (l.take (bF ws k l (x - sz ws k c)).1):=by unfold aO;rw[map_cons,sum_cons]
   rw[e2,h4];lia
  ·rw[if_neg hc];refine ⟨by rw[length_cons];show 0<_;lia,h0,λd hd=>?_,?_⟩
   ·have hd':c=d:=by simpa using hd
    subst hd';show x<_;lia
   ·show x=x - aO ws k ((c::l).take 0);rw[take_zero];have e0:aO ws k []=0:=rfl;rw[e0];lia
theorem xB {ws:List Str} {k:Nat}:∀(l:List Nat) (x:Int) (s:Nat) (d:Nat),s<=(bF ws k l x).1->l[s]?=some d->(s<(bF ws k l x).1↔sz ws k d<=x - aO ws k (l.take s))
 |[],x,s,d,_,hd=>by simp at hd
 |c::l,x,0,d,_,hd=>by
  have hd':c=d:=by simpa using hd
  subst hd';have e0:aO ws k ((c::l).take 0)=0:=rfl;rw[e0];unfold bF;by_cases hc:sz ws k c<=x
  ·rw[if_pos hc];constructor
   ·intro _;lia
   ·intro _;show 0<_+1;lia
  ·rw[if_neg hc];constructor
   ·intro z;exact absurd z (Nat.lt_irrefl 0)
   ·intro z;lia
 |c::l,x,s+1,d,hs,hd=>by
  unfold bF at hs ⊢;by_cases hc:sz ws k c<=x
  ·rw[if_pos hc] at hs ⊢;have ih:=xB (ws:=ws) (k:=k) l (x - sz ws k c) s d (by have:s+1<=(bF ws k l (x - sz ws k c)).1+1:=hs;lia) (by simpa using hd);have e2:aO ws k ((c::l).take (s+1))=sz ws k c+aO ws k (l.take s):=by rw[take_succ_cons];unfold aO;rw[map_cons,sum_cons]
   rw[e2];constructor
   ·intro z;have:=ih.mp (by have:s+1<(bF ws k l (x - sz ws k c)).1+1:=z;lia);lia
   ·intro z;have:=ih.mpr (by lia);show s+1<_+1;lia
  ·rw[if_neg hc] at hs;have:s+1<=0:=hs;lia
noncomputable def dB (ws:List Str):Nat->Nat->Int->List (Nat × Nat)
 |0,_,_=>[]
 |k+1,c,x=>((bF ws k (wd ws c) x).1,(wd ws c)[(bF ws k (wd ws c) x).1]?.getD 0)::dB ws k ((wd ws c)[(bF ws k (wd ws c) x).1]?.getD 0) (bF ws k (wd ws c) x).2
noncomputable def bM (ws:List Str):Nat->Nat->Int->Nat->Nat × Int
 |_,c,x,0=>(c,x)
 |0,c,x,_+1=>(c,x)
 |k+1,c,x,i+1=>bM ws k ((wd ws c)[(bF ws k (wd ws c) x).1]?.getD 0) (bF ws k (wd ws c) x).2 i
theorem bN (ws:List Str):∀k c x,(dB ws k c x).length=k
 |0,_,_=>rfl
 |k+1,c,x=>by show (dB ws k _ _).length+1=_;rw[bN ws k]
noncomputable def Good (ws:List Str) (k c:Nat) (x:Int):Prop:=97<=c/\c - 97<ws.length/\0<=x/\x<sz ws k c
theorem Good.step {ws:List Str} (h:Ru ws) {k c:Nat} {x:Int} (g:Good ws (k+1) c x):∃d,(wd ws c)[(bF ws k (wd ws c) x).1]?=some d/\Good ws k d (bF ws k (wd ws c) x).2:=by
 obtain ⟨g1,g2,g3,g4⟩:=g;rw[iH g2] at g4;obtain ⟨h1,h2,h3,h4⟩:=uB (wd ws c) x g3 g4;refine ⟨(wd ws c)[(bF ws k (wd ws c) x).1],getElem?_eq_getElem h1,?_⟩;obtain ⟨s1,s2⟩:=h.sign g2 (getElem_mem h1);exact ⟨s1,s2,h2,h3 _ (getElem?_eq_getElem h1)⟩
theorem fM {ws:List Str} (h:Ru ws):∀(k c:Nat) (x:Int) (i:Nat),Good ws k c x->i<=k->Good ws (k - i) (bM ws k c x i).1 (bM ws k c x i).2
 |k,c,x,0,g,_=>by unfold bM;exact g
 |0,c,x,i+1,g,hi=>by lia
 |k+1,c,x,i+1,g,hi=>by
  obtain ⟨d,hd,g'⟩:=g.step h;have e:bM ws (k+1) c x (i+1)=bM ws k d (bF ws k (wd ws c) x).2 i:=by
   show bM ws k ((wd ws c)[(bF ws k (wd ws c) x).1]?.getD 0) (bF ws k (wd ws c) x).2 i=_;rw[hd];rfl
  rw[e,show k+1 - (i+1)=k - i by lia];exact fM h k d _ i g' (by lia)
theorem pC {ws:List Str}:∀(k c:Nat) (x:Int) (i:Nat),i<k->bM ws k c x (i+1)=((wd ws (bM ws k c x i).1)[(bF ws (k - i - 1) (wd ws (bM ws k c x i).1) (bM ws k c x i).2).1]?.getD 0,(bF ws (k - i - 1) (wd ws (bM ws k c x i).1) (bM ws k c x i).2).2)
 |0,_,_,_,h=>by lia
 |k+1,c,x,0,_=>by
  have e:bM ws (k+1) c x 0=(c,x):=by unfold bM;rfl
  rw[e];show bM ws k _ _ 0=_;unfold bM;cases k<;>rfl
 |k+1,c,x,i+1,h=>by
  have ih:=pC (ws:=ws) k ((wd ws c)[(bF ws k (wd ws c) x).1]?.getD 0) (bF ws k (wd ws c) x).2 i (by lia);show bM ws k _ _ (i+1)=_;rw[ih,show k+1 - (i+1) - 1=k - i - 1 by lia];rfl
theorem uC {ws:List Str}:∀(k c:Nat) (x:Int) (i:Nat),i<k->(dB ws k c x)[i]?=some ((bF ws (k - i - 1) (wd ws (bM ws k c x i).1) (bM ws k c x i).2).1,(bM ws k c x (i+1)).1)
 |0,_,_,_,h=>by lia
 |k+1,c,x,0,_=>by
  have e:bM ws (k+1) c x 0=(c,x):=by unfold bM;rfl
  rw[e];show some _=some _
  congr 2
  show _=(bM ws k _ _ 0).1;unfold bM;cases k<;>rfl
 |k+1,c,x,i+1,h=>by
  have ih:=uC (ws:=ws) k ((wd ws c)[(bF ws k (wd ws c) x).1]?.getD 0) (bF ws k (wd ws c) x).2 i (by lia);show (dB ws k _ _)[i]?=_;rw[ih,show k+1 - (i+1) - 1=k - i - 1 by lia];rfl
theorem dH {ws:List Str} (h:Ru ws) {c:Nat} (hc:97<=c) (h2:c - 97<ws.length) (hg:aJ ws c=true):∀k:Nat,(k:Int)+1<=sz ws k c
 |0=>by rw[mS h2];lia
 |k+1=>by
  obtain ⟨w,hw,e,hm⟩:=h.word h2;have hg':=hg;unfold aJ at hg;rw[hw] at hg;simp only [and_eq_true,decide_eq_true_eq] at hg;obtain ⟨_,g1,g2⟩:=hg;rw[iH h2,e];cases hl:ls w with
  |nil=>rw[hl] at g2;simp at g2
  |cons d l=>
   rw[hl] at g2;have hd:d=c:=by simpa using g2
   subst hd;have e2:aO ws k (d::l)=sz ws k d+aO ws k l:=by unfold aO;rw[map_cons,sum_cons]
   have hlen:l.length+1=w.length:=by rw[<-aS,hl];rfl
   have h3:=jQ (ws:=ws) (k:=k) (l:=l) λx hx=>GS h k x (h.sign h2 (by rw[e,hl];exact mem_cons_of_mem _ hx)).2;have ih:=dH h hc h2 hg' k;rw[e2];lia
theorem least {P:Nat->Prop} [DecidablePred P]:∀{m:Nat},P m->∃k,k<=m/\P k/\∀i,i<k->¬P i
 |0,h=>⟨0,Nat.le_refl _,h,λi hi=>absurd hi (Nat.not_lt_zero _)⟩
 |m+1,h=>by
  by_cases h0:P 0
  ·exact ⟨0,zero_le _,h0,λi hi=>absurd hi (Nat.not_lt_zero _)⟩
  ·obtain ⟨k,h1,h2,h3⟩:=least (P:=λk=>P (k+1)) (m:=m) h;refine ⟨k+1,by lia,h2,λi hi=>?_⟩;cases i with
   |zero=>exact h0
   |succ i=>exact h3 i (by lia)
section
variable {K:Fg}
noncomputable def eN (ws:List Str) (k:Nat):List (List Int):=(range k).map (qB ws)
theorem iZ (ws:List Str) (k:Nat):(eN ws k).length=k:=by unfold eN;rw[length_map,length_range]
theorem jA {ws:List Str} {k i:Nat} (h:i<k):(eN ws k)[i]?=some (qB ws i):=by unfold eN;rw[getElem?_map,getElem?_range h];rfl
theorem vH (ws:List Str) (k:Nat):eN ws (k+1)=eN ws k++[qB ws k]:=by unfold eN;rw[range_succ,map_append];rfl
theorem FK.snoc {H H':Hp} {p r:Addr} {rs:List Addr} {rows:List (List Int)} {row:List Int} (h:FK H p rs rows) (hr:H' r=some (.lst (row.map V.int))) (hp:H' p=some (.lst ((rs++[r]).map V.ref))) (hs:∀b o,b≠p->H b=some o->H' b=some o) (hne:∀x∈rs,x≠p):FK H' p (rs++[r]) (rows++[row]):=by
 refine ⟨hp,by rw[length_append,length_append,h.2.1];rfl,λi x y hx hy=>?_⟩;by_cases hi:i<rs.length
 ·rw[getElem?_append_left hi] at hx;rw[getElem?_append_left (by rw[<-h.2.1];exact hi)] at hy;exact hs _ _ (hne x (mem_of_getElem? hx)) (h.2.2 i x y hx hy)
 ·rw[getElem?_append_right (by lia)] at hx;rw[getElem?_append_right (by rw[<-h.2.1];lia),<-h.2.1] at hy;have e0:i - rs.length=0:=by
   have:=(List.getElem?_eq_some_iff.mp hx).1;simp at this;lia
  rw[e0] at hx hy;have e1:r=x:=by simpa using hx
  have e2:row=y:=by simpa using hy
  subst e1 e2;exact hr
theorem wV {m:Int} (h0:0<=m) (h4:m<=4) {c:Nat} (h1:97<=c) (h2:c - 97<m.toNat):∃r,Builtin.Str.occurrences (known m) ⟨#[c]⟩ 0 (known m).length 1=(c - 97)::r:=by
 have hm:m=0\/m=1\/m=2\/m=3\/m=4:=by lia
 have hc:c=97\/c=98\/c=99\/c=100:=by lia
 rcases hm with rfl|rfl|rfl|rfl|rfl<;>rcases hc with rfl|rfl|rfl|rfl<;>first|exact absurd h2 (by decide)|exact ⟨[],by decide+kernel⟩
noncomputable def bQ (K:Fg):Sp:=λvs H Q _=>∃(a:Addr) (ws:List Str) (c:Nat) (n:Int) (k:Nat),vs=[.ref a,sgn c,.int n]/\uV K H a ws/\Ru ws/\97<=c/\c - 97<ws.length/\aJ ws c=true/\k<=400/\n<sz ws k c/\(∀i,i<k->sz ws i c<=n)/\
 ∀p rs H',aB H H'->H p=none->FK H' p rs (eN ws (k+1))->Q (.ref p) H'
theorem JR {E:XS} {σ:St} {H:Hp} {Q:VK} {a:EX K} (h:a.t E σ H λx H1=>ND x H1 Q):(neg a).t E σ H Q:=h
theorem zY {H:Hp} {Q:VK} {i:Int} (h:Q (.int (-i)) H):ND (.int i) H Q:=h
theorem FJ {α:Type} {xs:List α} {v:α} (h:xs[xs.length - 1]?=some v):pQ xs (-(1:Int))=some v:=by
 have hl:0<xs.length:=by
  by_cases h0:0<xs.length
  ·exact h0
  ·rw[List.getElem?_eq_none_iff.mpr (by lia)] at h;cases h
 have e:xs=xs.dropLast++[v]:=by
  have hne:xs≠[]:=by intro z;rw[z] at hl;exact absurd hl (Nat.lt_irrefl 0)
  have e1:=List.dropLast_concat_getLast hne;have e2:xs.getLast hne=v:=by
   rw[List.getLast_eq_getElem];rw[getElem?_eq_getElem (by lia)] at h;exact Option.some.inj h
  rw[e2] at e1;exact e1.symm
 rw[e];exact LX _ _
theorem Ru.lens {ws:List Str} (h:Ru ws):∀w∈ws,1<=w.length/\w.length<=100:=λw hw=>⟨h.one w hw,h.le w hw⟩
theorem ZS {ws:List Str} {k c:Nat} (h2:c - 97<ws.length):pQ ((qB ws k).map V.int) ((c - 97:Nat):Int)=some (.int (sz ws k c)):=by
 refine cF ?_;obtain ⟨x,hx⟩:=AU (ws:=ws) (k:=k) h2;rw[getElem?_map,hx];unfold sz;rw[hx];rfl
noncomputable def Ib (H:Hp) (p:Addr) (rs:List Addr) (fs:List (Nat × Nat)):Prop:=H p=some (.lst (rs.map V.ref))/\rs.length=fs.length/\∀(i:Nat) (r:Addr) (f:Nat × Nat),rs[i]?=some r->fs[i]?=some f->H r=some (.tup [.int (f.1:Nat),sgn f.2])
noncomputable def SB (H:Hp) (d:Addr) (ws:List Str) (k:Nat):Prop:=∃kvs,H d=some (.dK kvs)/\∀c,97<=c->c - 97<ws.length->cZ kvs (.inr ⟨#[c]⟩)=some (.int (sz ws k c))
theorem SB.get {H:Hp} {d:Addr} {ws:List Str} {k c:Nat} (h:SB H d ws k) (h1:97<=c) (h2:c - 97<ws.length):dR H d (sgn c) (some (.int (sz ws k c))):=by
 obtain ⟨kvs,e,f⟩:=h;rw[<-f c h1 h2];exact dR.k (k:=.inr ⟨#[c]⟩) e
noncomputable def cH (K:Fg):Sp:=λvs H Q _=>∃(a:Addr) (ws:List Str) (c:Nat) (n:Int) (k:Nat),vs=[.ref a,sgn c,.int n]/\uV K H a ws/\Ru ws/\aJ ws c=true/\k<=400/\Good ws k c n/\(∀i,i<k->sz ws i c<=n)/\
 ∀p rs H',aB H H'->H p=none->(∀r∈rs,H r=none)->Ib H' p rs (dB ws k c n)->Q (.ref p) H'
theorem yS {E:XS} {σ:St} {H:Hp} {Q:VK} {a r:Addr} {ws:List Str} {k:Nat} (h0:σ[0]?=some (some (.ref a))) (h8:σ[8]?=some (some (.ref r))) (hR:uV K H a ws) (hr:H r=some (.lst ((qB ws k).map V.int))) (q:∀d H',aB H H'->H d=none->SB H' d ws k->Q (.ref d) H'):
  (PX (call "letters" (cS K) [len (var 0)]) (var 8):EX K).t E σ H Q:=by
 have h4:=hR.four;have hq:=hR.tp;have hlen:(ws.map V.str).length=ws.length:=length_map _;refine JU (JX (BQ (RP (BP h0 (AA hq (JZ ⟨_,rfl,BP h8 ?_⟩))))));have k0:(0:Int)<=((ws.map V.str).length:Nat):=by lia
 have k4:(((ws.map V.str).length:Nat):Int)<=4:=by lia
 have hkl:(known ((ws.map V.str).length:Nat)).cps.size=ws.length:=by
  show (known ((ws.map V.str).length:Nat)).length=_;rw[lO k0 k4];lia
 have hinj:∀i j,i<(known ((ws.map V.str).length:Nat)).cps.size->j<(known ((ws.map V.str).length:Nat)).cps.size->fD (known ((ws.map V.str).length:Nat)) i=fD (known ((ws.map V.str).length:Nat)) j->i=j:=λi j hi hj e=>by
  rw[hkl] at hi hj;rw[cG k0 k4 (by lia),cG k0 k4 (by lia)] at e;have:=tB e;lia
 refine ⟨_,_,(qB ws k).map V.int,rfl,.inr (aR.of hr),by rw[hkl,length_map,mR],by rw[hkl];lia,?_,hinj,λd hd=>?_⟩
 ·rw[Array.all_eq_true'];intro c hc;have hc':c∈ls (known ((ws.map V.str).length:Nat)):=by simpa [ls] using hc
  rw[gZ k0 k4] at hc';obtain ⟨k,hk,rfl⟩:=mem_map.mp hc';have:=mem_range.mp hk;simp;lia
 refine q d _ (aE hd _) hd ⟨_,aA,λc h1 h2=>?_⟩;obtain ⟨x,hx⟩:=AU (ws:=ws) (k:=k) h2;unfold iS;have ek:=cG k0 k4 (show c - 97<(((ws.map V.str).length:Nat):Int).toNat by lia);have e97:97+(c - 97)=c:=by lia
 rw[e97] at ek;rw[<-ek,qV hinj (by rw[hkl];exact h2),getElem?_map,hx];unfold sz;rw[hx];rfl
noncomputable def Off (p:Addr) (H H':Hp):Prop:=∀b o,b≠p->H b=some o->H' b=some o
theorem Off.trans {p:Addr} {H H1 H2:Hp} (a:Off p H H1) (b:aB H1 H2):Off p H H2:=λc o h e=>b c o (a c o h e)
theorem Off.upd {p:Addr} {H H1:Hp} {o:HO} (a:Off p H H1):Off p H (upd H1 p o):=λc u h e=>by rw[aF h];exact a c u h e
theorem Off.same {p:Addr} {H0 H H1:Hp} (s:aB H0 H) (a:Off p H H1) (hp:H0 p=none):aB H0 H1:=λc o e=>a c o (aD e hp) (s c o e)
theorem TK (n d:Nat) (h:0<n):HT.dA n d (some (-(1:Int)))=n - 1:=by
 show (if (-(1:Int))<0 then ((-(1:Int))+(n:Int)).toNat else min (-(1:Int)).toNat n)=n - 1;rw[if_pos (by decide)];lia
theorem XI {xs:List V} (h:0<xs.length):uD xs none (some (-(1:Int)))=xs.take (xs.length - 1):=by
 unfold uD;rw[HT.HE,TK _ _ h,drop_zero,Nat.sub_zero]
end
noncomputable def aK (ws:List Str) (l:List Nat):List Nat:=l.flatMap (wd ws)
theorem fJ (ws:List Str) (a b:List Nat):aK ws (a++b)=aK ws a++aK ws b:=List.flatMap_append ..
theorem aT (ws:List Str) (c:Nat) (l:List Nat):aK ws (c::l)=wd ws c++aK ws l:=List.flatMap_cons ..
theorem bZ (ws:List Str) (z:Str):img ws z=aG (aK ws (ls z)):=rfl
noncomputable def wk (ws:List Str) (c:Nat):Nat->List Nat
 |0=>[c]
 |k+1=>aK ws (wk ws c k)
noncomputable def dC (ws:List Str) (l:List Nat):Prop:=∀c∈l,97<=c/\c - 97<ws.length
theorem dC.img {ws:List Str} (h:Ru ws) {l:List Nat} (hl:dC ws l):dC ws (aK ws l):=λc hc=>by
 unfold aK at hc;obtain ⟨d,hd,hcd⟩:=List.mem_flatMap.mp hc;exact h.sign (hl d hd).2 hcd
theorem dC.isW {ws:List Str} {l:List Nat} (h:dC ws l):eM ws.length (aG l):=λc hc=>by
 rw[aQ] at hc;have:=h c hc;lia
theorem dW {ws:List Str} (h:Ru ws) {c:Nat} (h1:97<=c) (h2:c - 97<ws.length):∀k,dC ws (wk ws c k)
 |0=>λd hd=>by
  have:d=c:=by simpa [wk] using hd
  subst this;exact ⟨h1,h2⟩
 |k+1=>(dW h h1 h2 k).img h
theorem qX (ws:List Str) (k:Nat) (a b:List Nat):aO ws k (a++b)=aO ws k a+aO ws k b:=by unfold aO;rw[map_append,sum_append]
theorem jC (ws:List Str) (k c:Nat) (l:List Nat):aO ws k (c::l)=sz ws k c+aO ws k l:=by unfold aO;rw[map_cons,sum_cons]
theorem lF {ws:List Str} {k:Nat}:∀{l:List Nat},dC ws l->aO ws k (aK ws l)=aO ws (k+1) l
 |[],_=>rfl
 |c::l,h=>by
  rw[aT,qX,jC,lF λd hd=>h d (mem_cons_of_mem _ hd),iH (h c mem_cons_self).2]
theorem jB {ws:List Str}:∀{l:List Nat},dC ws l->aO ws 0 l=l.length
 |[],_=>rfl
 |c::l,h=>by
  rw[jC,mS (h c mem_cons_self).2,jB λd hd=>h d (mem_cons_of_mem _ hd),length_cons];lia
theorem cQ {ws:List Str} (h:Ru ws) {c:Nat} (h1:97<=c) (h2:c - 97<ws.length) (k:Nat):((wk ws c k).length:Int)=sz ws k c:=by
 have key:∀j i,j+i=k->aO ws j (wk ws c i)=sz ws k c:=by
  intro j i;induction i generalizing j with
  |zero=>
   intro e;show aO ws j [c]=_;rw[jC,show j=k by lia];show _+0=_;lia
  |succ i ih=>
   intro e;show aO ws j (aK ws (wk ws c i))=_;rw[lF (dW h h1 h2 i)];exact ih (j+1) (by lia)
 rw[<-key 0 k (by lia),jB (dW h h1 h2 k)]
theorem rM {ws:List Str} (h:Ru ws) {c:Nat} (h2:c - 97<ws.length) (hg:aJ ws c=true):∃t,wd ws c=c::t:=by
 obtain ⟨w,hw,e,_⟩:=h.word h2;unfold aJ at hg;rw[hw] at hg;simp only [and_eq_true,decide_eq_true_eq] at hg;rw[e];cases hl:ls w with
 |nil=>rw[hl] at hg;simp at hg
 |cons d t=>
  rw[hl] at hg;have:d=c:=by simpa using hg.2.2
  subst this;exact ⟨t,rfl⟩
theorem yA {ws:List Str} (h:Ru ws) {c:Nat} (h2:c - 97<ws.length) (hg:aJ ws c=true):∀k,∃t,wk ws c (k+1)=wk ws c k++t
 |0=>by
  obtain ⟨t,e⟩:=rM h h2 hg;refine ⟨t,?_⟩;show aK ws [c]=[c]++t;rw[aT,e];show c::t++[]=_;rw[append_nil];rfl
 |k+1=>by
  obtain ⟨t,e⟩:=yA h h2 hg k;refine ⟨aK ws t,?_⟩;show aK ws (wk ws c (k+1))=aK ws (wk ws c k)++_;rw[e,fJ]
theorem sR {ws:List Str} (h:Ru ws) {c:Nat} (h2:c - 97<ws.length) (hg:aJ ws c=true) (k:Nat):∀j,∃t,wk ws c (k+j)=wk ws c k++t
 |0=>⟨[],by rw[append_nil];rfl⟩
 |j+1=>by
  obtain ⟨t,e⟩:=sR h h2 hg k j;obtain ⟨u,f⟩:=yA h h2 hg (k+j);exact ⟨t++u,by rw[show k+(j+1)=(k+j)+1 by lia,f,e,List.append_assoc]⟩
noncomputable def ew (ws:List Str) (c i:Nat):Nat:=(wk ws c i)[i]?.getD 0
theorem yB {ws:List Str} (h:Ru ws) {c:Nat} (h1:97<=c) (h2:c - 97<ws.length) (hg:aJ ws c=true) {k i:Nat} (hi:i<(wk ws c k).length):(wk ws c k)[i]?=some (ew ws c i):=by
 have li:i<(wk ws c i).length:=by
  have a:=cQ h h1 h2 i;have b:=dH h h1 h2 hg i;lia
 have key:∀j l,j<=l->i<(wk ws c j).length->(wk ws c l)[i]?=(wk ws c j)[i]?:=λj l hjl hj=>by
  obtain ⟨t,e⟩:=sR h h2 hg j (l - j);rw[show j+(l - j)=l by lia] at e;rw[e,getElem?_append_left hj]
 have e:(wk ws c i)[i]?=some (ew ws c i):=by
  unfold ew;rw[getElem?_eq_getElem li];rfl
 by_cases hik:i<=k
 ·rw[key i k hik li,e]
 ·rw[<-key k i (by lia) hi,e]
noncomputable def str (ws:List Str) (c n m:Nat):List Nat:=(range m).map λi=>ew ws c (n+i)
theorem str_len (ws:List Str) (c n m:Nat):(str ws c n m).length=m:=by unfold str;rw[length_map,length_range]
theorem gJ {ws:List Str} (h:Ru ws) {c:Nat} (h1:97<=c) (h2:c - 97<ws.length) (hg:aJ ws c=true) {k n m:Nat} (hi:n+m<=(wk ws c k).length):((wk ws c k).drop n).take m=str ws c n m:=by
 refine ext_getElem? λi=>?_;by_cases him:i<m
 ·rw[getElem?_take,if_pos him,getElem?_drop,yB h h1 h2 hg (by lia)];unfold str;rw[getElem?_map,getElem?_range him];rfl
 ·rw[List.getElem?_eq_none_iff.mpr (by rw[length_take];lia),List.getElem?_eq_none_iff.mpr (by rw[str_len];lia)]
theorem AV {ws:List Str} (h:Ru ws) {c:Nat} (h1:97<=c) (h2:c - 97<ws.length) (hg:aJ ws c=true) {k l:Nat} (hkl:k<=l):sz ws k c<=sz ws l c:=by
 obtain ⟨t,e⟩:=sR h h2 hg k (l - k);rw[show k+(l - k)=l by lia] at e;rw[<-cQ h h1 h2 k,<-cQ h h1 h2 l,e,length_append];lia
theorem rQ {ws:List Str} (h:Ru ws) {c:Nat} (hg:aJ ws c=true) {k:Nat} {n:Int} (g:Good ws k c n):∀j,dB ws (k+j) c n=replicate j (0,c)++dB ws k c n
 |0=>rfl
 |j+1=>by
  obtain ⟨g1,g2,g3,g4⟩:=id g;obtain ⟨t,e⟩:=rM h g2 hg;have hs:=AV h g1 g2 hg (show k<=k+j by lia);have ef:bF ws (k+j) (wd ws c) n=(0,n):=by
   rw[e];unfold bF;rw[if_neg (by lia)]
  show dB ws ((k+j)+1) c n=_;show ((bF ws (k+j) (wd ws c) n).1,(wd ws c)[(bF ws (k+j) (wd ws c) n).1]?.getD 0)::dB ws (k+j) ((wd ws c)[(bF ws (k+j) (wd ws c) n).1]?.getD 0) (bF ws (k+j) (wd ws c) n).2=_;rw[ef];have e0:(wd ws c)[0]?.getD 0=c:=by rw[e];rfl
  show (0,(wd ws c)[0]?.getD 0)::dB ws (k+j) ((wd ws c)[0]?.getD 0) n=_;rw[e0,rQ h hg g j];rfl
theorem Good.more {ws:List Str} (h:Ru ws) {c:Nat} (hg:aJ ws c=true) {k l:Nat} {n:Int} (g:Good ws k c n) (hkl:k<=l):Good ws l c n:=by
 obtain ⟨g1,g2,g3,g4⟩:=g;exact ⟨g1,g2,g3,Int.lt_of_lt_of_le g4 (AV h g1 g2 hg hkl)⟩
noncomputable def At (ws:List Str) (c:Nat) (k:Nat) (n:Int) (i:Nat) (A B:List Nat):Prop:=wk ws c i=A++(bM ws k c n i).1::B/\aO ws (k - i) A+(bM ws k c n i).2=n
theorem CG {ws:List Str} {c k:Nat} {n:Int}:At ws c k n 0 [] []:=by
 have e:bM ws k c n 0=(c,n):=by cases k<;>rfl
 refine ⟨?_,?_⟩
 ·rw[e];rfl
 ·rw[e];show (0:Int)+n=n;lia
theorem CH {ws:List Str} (h:Ru ws) {c k:Nat} {n:Int} {i:Nat} {A B:List Nat} (g:Good ws k c n) (hi:i<k) (a:At ws c k n i A B):
  ∃st S,(dB ws k c n)[i]?=some (st,(bM ws k c n (i+1)).1)/\st<(wd ws (bM ws k c n i).1).length/\wd ws (bM ws k c n i).1=(wd ws (bM ws k c n i).1).take st++(bM ws k c n (i+1)).1::S/\(wd ws (bM ws k c n i).1).drop st=(bM ws k c n (i+1)).1::S/\At ws c k n (i+1) (aK ws A++(wd ws (bM ws k c n i).1).take st) (S++aK ws B):=by
 have hGi:=fM h k c n i g (by lia);obtain ⟨g1,g2,g3,g4⟩:=id hGi;have eki:k - i=(k - i - 1)+1:=by lia
 rw[eki] at hGi;obtain ⟨d,hd,hGd⟩:=hGi.step h;have hs:=pC (ws:=ws) k c n i hi;have hf:=uC (ws:=ws) k c n i hi;rw[hd] at hs;have e1:(bM ws k c n (i+1)).1=d:=by rw[hs];rfl
 have e2:(bM ws k c n (i+1)).2=(bF ws (k - i - 1) (wd ws (bM ws k c n i).1) (bM ws k c n i).2).2:=by rw[hs]
 rw[eki,iH g2] at g4;obtain ⟨o1,o2,o3,o4⟩:=uB (wd ws (bM ws k c n i).1) (bM ws k c n i).2 g3 g4;obtain ⟨st,hst⟩:∃st,(bF ws (k - i - 1) (wd ws (bM ws k c n i).1) (bM ws k c n i).2).1=st:=⟨_,rfl⟩;rw[hst] at o1 o4 hd hf;have hdrop:(wd ws (bM ws k c n i).1).drop st=d::(wd ws (bM ws k c n i).1).drop (st+1):=by
  rw[List.drop_eq_getElem_cons o1];rw[getElem?_eq_getElem o1] at hd;rw[Option.some.inj hd]
 have hw:wd ws (bM ws k c n i).1=(wd ws (bM ws k c n i).1).take st++d::(wd ws (bM ws k c n i).1).drop (st+1):=by
  rw[<-hdrop,take_append_drop]
 have hA:dC ws A:=λx hx=>dW h g.1 g.2.1 i x (by rw[a.1];exact mem_append_left _ hx);refine ⟨st,(wd ws (bM ws k c n i).1).drop (st+1),hf,o1,by rw[e1];exact hw,by rw[e1];exact hdrop,?_,?_⟩
 ·show aK ws (wk ws c i)=_;rw[a.1,fJ,aT,e1]
  conv=>lhs;rw[hw]
  simp only [List.append_assoc,List.cons_append]
 ·rw[qX,show k - (i+1)=k - i - 1 by lia,lF hA,<-eki,e2,o4];have:=a.2;lia
theorem LW {ws:List Str} (h:Ru ws) {c k:Nat} {n:Int} {A B:List Nat} (g:Good ws k c n) (a:At ws c k n k A B):(A.length:Int)=n:=by
 have hGk:=fM h k c n k g (Nat.le_refl _);rw[sub_self] at hGk;obtain ⟨g1,g2,g3,g4⟩:=hGk;rw[mS g2] at g4;have hA:dC ws A:=λx hx=>dW h g.1 g.2.1 k x (by rw[a.1];exact mem_append_left _ hx);have:=a.2;rw[sub_self,jB hA] at this;lia
theorem oV {ws:List Str} (h:Ru ws):∀{l:List Nat},dC ws l->l.length<=(aK ws l).length
 |[],_=>Nat.le_refl _
 |c::l,hl=>by
  have ih:=oV h (l:=l) λd hd=>hl d (mem_cons_of_mem _ hd);obtain ⟨w,_,e,hm⟩:=h.word (hl c mem_cons_self).2;have h1:=h.one w hm;rw[aT,length_append,length_cons,e,aS];lia
theorem window {ws:List Str} (h:Ru ws) {c st m:Nat} {l:List Nat} (hl:dC ws (c::l)) (hst:st<(wd ws c).length) (hm:1<=m):((aK ws ((c::l).take m)).drop st).take m=((aK ws (c::l)).drop st).take m:=by
 obtain ⟨m',rfl⟩:∃m',m=m'+1:=⟨m - 1,by lia⟩;have hsplit:c::l=(c::l).take (m'+1)++(c::l).drop (m'+1):=(take_append_drop _ _).symm;by_cases hle:(c::l).length<=m'+1
 ·rw[take_of_length_le hle]
 ·have hlen:st+(m'+1)<=(aK ws ((c::l).take (m'+1))).length:=by
   rw[take_succ_cons,aT,length_append];have h2:=oV h (l:=l.take m') λd hd=>hl d (mem_cons_of_mem _ (mem_of_mem_take hd));rw[length_take] at h2;rw[length_cons] at hle;lia
  conv=>rhs;rw[hsplit,fJ]
  rw[List.drop_append_of_le_length (by lia),List.take_append_of_le_length (by rw[length_drop];lia)]
section
variable {K:Fg}
theorem Rl.ru {H:Hp} {a:Addr} {ws:List Str} (h:Rl K H a ws 100):Ru ws:=⟨h.pos,h.four,h.isw,h.one,h.le⟩
noncomputable def gO (K:Fg):Sp:=λvs H Q _=>∃(a:Addr) (ns:List Int) (m:Int) (s:Nat) (lo hi:Int),vs=[.ref a,.int m,.int s,.int lo,.int hi]/\aR K H a (ns.map V.int)/\1<=m/\m<=4/\(s:Int)<m/\1<=lo/\lo<=hi/\hi<=50/\
 ∀(p:Addr) (ws:List Str) (H':Hp),aB H H'->Rl K H' p ws 100->ws.length=m.toNat->(∀w∈ws,lo<=w.length)->aJ ws (97+s)=true->Q (.ref p) H'
noncomputable def eZ (K:Fg):List (SX K):=
 [set 5 (lst []),
  iR (kJ 6) (tZ (var 1) []) [set 7 (call "_law_mixed" (fT K) [call "_law_cell" (gP K) [var 0,bin .Add (var 6) (cst (.int 1))],var 6]),
   set 8 (bin .Add (var 3) (bin .Mod (bin .FloorDiv (var 7) (cst (.int 16))) (bin .Add (bin .Sub (var 4) (var 3)) (cst (.int 1))))),
   set 9 (call "_law_word" (lX K) [var 7,var 1,var 8]),
   wX (cmp .Eq (var 6) (var 2)) [set 9 (yR (bin .Add (ix (cst (.str "abcd")) (var 2)) (var 9)) none (some (max2 (cst (.int 2)) (var 8))))] [],
   ex (eD (var 5) (var 9))],
  ret (GO (var 5))]
noncomputable def Wo (ws:List Str) (i:Nat) (m s:Nat) (lo:Int):Prop:=ws.length=i/\(∀w∈ws,eM m w/\1<=w.length/\w.length<=100/\lo<=w.length)/\∀w,ws[s]?=some w->1<w.length/\(ls w)[0]?=some (97+s)
theorem Wo.snoc {ws:List Str} {i m s:Nat} {lo:Int} {z:Str} (h:Wo ws i m s lo) (hz:eM m z/\1<=z.length/\z.length<=100/\lo<=z.length) (hs:i=s->1<z.length/\(ls z)[0]?=some (97+s)):Wo (ws++[z]) (i+1) m s lo:=by
 obtain ⟨h1,h2,h3⟩:=h;refine ⟨by rw[length_append,h1];rfl,λw hw=>?_,λw hw=>?_⟩
 ·rcases mem_append.mp hw with h|h
  ·exact h2 w h
  ·have e:w=z:=by simpa using h
   subst e;exact hz
 ·by_cases hi:s<ws.length
  ·rw[getElem?_append_left hi] at hw;exact h3 w hw
  ·rw[getElem?_append_right (by lia)] at hw;have e0:s - ws.length=0:=by
    have:=(List.getElem?_eq_some_iff.mp hw).1;simp at this;lia
   rw[e0] at hw;have e1:z=w:=by simpa using hw
   subst e1;exact hs (by lia)
theorem pZ:TT (gO K) (eZ K) ["_law_script","_law_many","_law_start","_law_least","_law_most","_law_words","_law_k","_law_number","_law_size","_law_word_here"]:=by
 intro vs H Q E h;obtain ⟨a,ns,m,s,lo,hi,rfl,hS,h1,h4,hs,hlo,hlh,hhi,q⟩:=h;unfold eZ;walk_at "";refine ⟨zero_le _,λp hp=>?_⟩;walk_at "";refine fH (λi σ H'=>aB H H'/\∃(ws:List Str) (a6 a7 a8 a9:Option V),Wo ws i m.toNat s lo/\H' p=some (.lst (ws.map V.str))/\σ=[some (.ref a),some (.int m),some (.int s),some (.int lo),some (.int hi),some (.ref p),a6,a7,a8,a9])
  ⟨aE hp _,[],none,none,none,none,⟨rfl,(λw hw=>nomatch hw),λw hw=>by simp at hw⟩,aA,rfl⟩ (λi σ H' hi' hP=>?_) λσ H' hP=>?_
 ·obtain ⟨hSm,ws,a6,a7,a8,a9,hW,hpl,rfl⟩:=hP;have fin:∀(z:Str) (x6 x7 x8:Option V) (D:Ends),D={nx:=λσ3 H3=>aB H H3/\∃(ws:List Str) (a6 a7 a8 a9:Option V),Wo ws (i+1) m.toNat s lo/\H3 p=some (.lst (ws.map V.str))/\σ3=[some (.ref a),some (.int m),some (.int s),some (.int lo),some (.int hi),some (.ref p),a6,a7,a8,a9],ct:=D.ct,bk:=D.bk,rt:=D.rt}->
    (eM m.toNat z/\1<=z.length/\z.length<=100/\lo<=z.length)->(i=s->1<z.length/\(ls z)[0]?=some (97+s))->
    lW [ex (eD (var 5) (var 9):EX K)] (λ_=>E) D [some (.ref a),some (.int m),some (.int s),some (.int lo),some (.int hi),some (.ref p),x6,x7,x8,some (.str z)] H':=by
   intro z x6 x7 x8 D hD g1 g2;rw[hD];walk_at "";refine KC (aR.of hpl) ?_;walk_at "";refine fL hpl (by rw[length_map,hW.1];exact Nat.lt_of_lt_of_le (show i<100 by lia) (small (by decide))) ?_;exact ⟨dZ hSm hp,ws++[z],_,_,_,_,hW.snoc g1 g2,by rw[aA,map_append];rfl,rfl⟩
  walk_at "";refine ⟨a,ns,_,rfl,hSm.seq hS,by lia,λv=>?_⟩;walk_at "";refine ⟨v,_,rfl,by lia,by lia,λv2 h20 h2l=>?_⟩;have e1:=emod_nonneg (v2 / 16) (show hi - lo+1≠0 by lia);have e2:=emod_lt_of_pos (v2 / 16) (show 0<hi - lo+1 by lia);walk_at "";refine ⟨v2,m,_,rfl,h1,h4,by lia,by lia,λz hz hzl=>?_⟩;walk_at "";refine gI (λc=>?_) λc=>?_
  ·have es:i=s:=by lia
   walk_at "";refine oW (by rw[lB];decide) (uT (m:=4) (by lia) (by lia) (by lia)) ?_;walk_at "";refine KA (small (by show 1+z.length<=1000000;lia)) ?_;walk_at "";refine fK (small (by rw[len_app];show 1+z.length<=1000000;lia)) ?_;rw[toNat_natCast];obtain ⟨sz,hsz⟩:∃sz,lo+v2 / 16 % (hi - lo+1)=sz:=⟨_,rfl⟩;rw[hsz] at hzl ⊢;have hmx:0<=max 2 sz:=by lia
   have hls:ls (Txt.slice (⟨#[97+s]⟩++z) none (some (max 2 sz)))=((97+s)::ls z).take (max 2 sz).toNat:=by
    rw[show ls (Txt.slice (⟨#[97+s]⟩++z) none (some (max 2 sz)))=(ls (⟨#[97+s]⟩++z)).take (max 2 sz).toNat from bX hmx,zT];rfl
   have hlen:(Txt.slice (⟨#[97+s]⟩++z) none (some (max 2 sz))).length=min (max 2 sz).toNat (z.length+1):=by
    rw[<-aS,hls,length_take,length_cons,aS]
   refine fin _ _ _ _ _ rfl ⟨λx hx=>?_,?_,?_,?_⟩ λ_=>⟨?_,?_⟩
   ·rw[hls] at hx;rcases mem_cons.mp (mem_of_mem_take hx) with h|h
    ·lia
    ·exact hz x h
   ·rw[hlen];lia
   ·rw[hlen];lia
   ·rw[hlen];lia
   ·rw[hlen];lia
   ·rw[hls,getElem?_take,if_pos (by lia)];rfl
  ·refine fin _ _ _ _ _ rfl ⟨hz,by lia,by lia,by lia⟩ λz=>?_;exact absurd (show (0:Int)+(i:Nat)=(s:Int) by lia) c
 ·obtain ⟨hSm,ws,a6,a7,a8,a9,hW,hpl,rfl⟩:=hP;walk_at "";refine .inl ⟨_,aR.of hpl,λt ht=>?_⟩;obtain ⟨hW1,hW2,hW3⟩:=hW;have hsl:s<ws.length:=by lia
  refine q t ws _ (hSm.trans (aE ht _)) ⟨aA,by lia,by lia,λw hw=>?_,λw hw=>(hW2 w hw).2.1,λw hw=>(hW2 w hw).2.2.1⟩ hW1 (λw hw=>(hW2 w hw).2.2.2) ?_
  ·rw[hW1];exact (hW2 w hw).1
  ·obtain ⟨g1,g2⟩:=hW3 _ (getElem?_eq_getElem hsl);unfold aJ;rw[Nat.add_sub_cancel_left,getElem?_eq_getElem hsl];show (decide (97<=97+s)&&(decide (1<(ws[s]).length)&&decide ((ls ws[s])[0]?=some (97+s))))=true;rw[decide_eq_true (show 97<=97+s by lia),decide_eq_true g1,decide_eq_true g2];rfl
noncomputable def gN (K:Fg):Sp:=λvs H Q _=>∃(a:Addr) (ws:List Str) (c m:Nat),vs=[.ref a,sgn c,.int m]/\Rl K H a ws 100/\97<=c/\c - 97<ws.length/\aJ ws c=true/\m<=1000/\∀H',aB H H'->Q (.str (aG (str ws c 0 m))) H'
noncomputable def eW (K:Fg):List (SX K):=
 [set 3 (var 1),
  YX (cmp .Lt (len (var 3)) (var 2)) [set 3 (call "_law_image" (fU K) [var 0,var 3])],
  ret (yR (var 3) none (some (var 2)))]
theorem pW:TT (gN K) (eW K) ["_law_rule","_law_start","_law_size","_law_word_here"]:=by
 intro vs H Q E h;obtain ⟨a,ws,c,m,rfl,hR,h1,h2,hg,hm,q⟩:=h;have hU:=hR.ru;unfold eW;walk_at "";refine mE (nA (m:=m) (λj σ H'=>j<=m/\aB H H'/\(m - j=0\/(wk ws c (m - j - 1)).length<m)/\σ=[some (.ref a),some (sgn c),some (.int m),some (.str (aG (wk ws c (m - j))))])
  ⟨Nat.le_refl _,aB.refl _,.inl (sub_self m),by rw[sub_self];rfl⟩ (λj σ H' hW=>?_))
 obtain ⟨hj,hS,hprev,rfl⟩:=hW;have hle:(wk ws c (m - j)).length<=1000000:=by
  rcases hprev with h|h
  ·rw[h];show 1<=1000000;decide
  ·by_cases h0:m - j=0
   ·rw[h0];show 1<=1000000;decide
   ·have e:m - j=(m - j - 1)+1:=by lia
    rw[e];have:=JL (ws:=ws) (z:=aG (wk ws c (m - j - 1))) (B:=100) hU.le;rw[bZ,eR,eR,aQ] at this;show (aK ws (wk ws c (m - j - 1))).length<=_;lia
 have hgl:=cQ hU h1 h2 (m - j);have hgr:=dH hU h1 h2 hg (m - j);walk_at "";refine eU (small (by rw[eR];exact hle)) ?_;walk_at "";rw[eR];refine gI (λhc=>AO ?_) λhc=>?_
 ·have hj0:0<j:=by lia
  walk_at "";refine ⟨a,ws,_,rfl,hR.same hS,(dW hU h1 h2 (m - j)).isW,by rw[eR];lia,λH2 hS2=>?_⟩;refine ⟨j - 1,by lia,by lia,hS.trans hS2,.inr (by rw[show m - (j - 1) - 1=m - j by lia];lia),?_⟩;rw[bZ,aQ,show m - (j - 1)=m - j+1 by lia];rfl
 ·walk_at "";refine fK (small (by rw[eR];exact hle)) ?_;have e:Txt.slice (aG (wk ws c (m - j))) none (some ((m:Nat):Int))=aG (str ws c 0 m):=by
   refine fZ ?_;rw[show ls (Txt.slice (aG (wk ws c (m - j))) none (some ((m:Nat):Int)))=(ls (aG (wk ws c (m - j)))).take ((m:Nat):Int).toNat from bX (by lia),aQ,aQ,toNat_natCast,<-gJ hU h1 h2 hg (k:=m - j) (n:=0) (m:=m) (by lia),drop_zero]
  rw[e];exact q _ hS
end
section
variable {K:Fg}
structure Pl (K:Fg) (H:Hp) (a:Addr) (ws:List Str) (c:Nat) (n:Int):Prop where
 rt:uV K H a ws
 ru:Ru ws
 c1:97<=c
 c2:c - 97<ws.length
 gr:aJ ws c=true
 n0:0<=n
 tn:∃m,m<=400/\n<sz ws m c
theorem Pl.turns {H:Hp} {a:Addr} {ws:List Str} {c:Nat} {n:Int} (h:Pl K H a ws c n):∃k,k<=400/\Good ws k c n/\∀i,i<k->sz ws i c<=n:=by
 obtain ⟨m,hm,hn⟩:=h.tn;obtain ⟨k,h1,h2,h3⟩:=least (P:=λk=>n<sz ws k c) hn;exact ⟨k,by lia,⟨h.c1,h.c2,h.n0,h2⟩,λi hi=>by have:=h3 i hi;lia⟩
theorem Pl.less {H:Hp} {a:Addr} {ws:List Str} {c:Nat} {n m:Int} (h:Pl K H a ws c n) (h0:0<=m) (hm:m<=n):Pl K H a ws c m:=⟨h.rt,h.ru,h.c1,h.c2,h.gr,h0,by
 obtain ⟨k,h1,h2⟩:=h.tn
 exact ⟨k,h1,by lia⟩⟩
noncomputable def bW (K:Fg):Sp:=λvs H Q _=>∃(a:Addr) (ws:List Str) (c n m:Nat),vs=[.ref a,sgn c,.int n,.int m]/\Pl K H a ws c ((n+m - 1:Nat):Int)/\1<=m/\m<=2000/\∀H',aB H H'->Q (.str (aG (str ws c n m))) H'
theorem tX {ws:List Str} (h:Ru ws) {c:Nat} (hg:aJ ws c=true) {k j:Nat} {n:Int} (g:Good ws k c n):replicate j (V.int 0)++(dB ws k c n).map (λf=>V.int (f.1:Nat))=(dB ws (k+j) c n).map λf=>V.int (f.1:Nat):=by
 rw[rQ h hg g j,map_append,map_replicate];rfl
theorem kU (n:Nat) (a b:List Nat):aW n (aG (a++b))=zipWith (·+·) (aW n (aG a)) (aW n (aG b)):=by
 refine ext_getElem? λi=>?_;by_cases hi:i<n
 ·rw[getElem?_zipWith,cA hi,cA hi,cA hi];show some _=some _;unfold cnt;rw[aQ,aQ,aQ,List.count_append]
  congr 1
 ·rw[List.getElem?_eq_none_iff.mpr (by rw[bO];lia),List.getElem?_eq_none_iff.mpr (by rw[length_zipWith,bO];lia)]
theorem kT (n:Nat):aW n (aG [])=replicate n 0:=by
 have e2:cnt (aG [])=λ_=>0:=by
  funext k
  unfold cnt;rw[aQ];rfl
 unfold aW;rw[e2,List.map_const',length_range]
end
end L2.Na
namespace L2.Na.Pr
open PySem PySem.Spec PyProof.Rows L2 L2.L3
section
variable {K:Fg}
noncomputable def Js (K:Fg) (H:Hp) (E:XK):Prop:=∀H',aB H H'->E (.ref (clsAt K "NoStart")) none H'
noncomputable def TG (K:Fg) (m:Int) (H:Hp) (E:XK):Prop:=∀H' dx,aB H H'->H' dx=some (.xd [("most",.int m)])->E (.ref (clsAt K "TooGreat")) (some dx) H'
noncomputable def Em (K:Fg) (H:Hp) (a:Addr) (ws:List Str) (c:Nat) (n:Int) (E:XK):Prop:=uV K H a ws/\Ru ws/\97<=c/\
 ((aJ ws c=false/\Js K H E)\/(aJ ws c=true/\c - 97<ws.length/\(∀i,i<=400->sz ws i c<=n)/\TG K 400 H E))
noncomputable def bQ (K:Fg):Sp:=λvs H Q E=>L2.Na.bQ K vs H Q E\/∃(a:Addr) (ws:List Str) (c:Nat) (n:Int),vs=[.ref a,sgn c,.int n]/\Em K H a ws c n E
noncomputable def ZV (K:Fg):Sp:=λvs H Q E=>∃(a:Addr) (ws:List Str) (c:Nat) (n:Int) (k:Nat),vs=[.ref a,sgn c,.int n]/\uV K H a ws/\Ru ws/\97<=c/\c - 97<ws.length/\aJ ws c=true/\k<=400/\(∀i,i<k->sz ws i c<=n)/\
 ((n<sz ws k c/\∀p rs H',aB H H'->H p=none->FK H' p rs (eN ws (k+1))->Q (.ref p) H')\/(k=400/\sz ws k c<=n/\TG K 400 H E))
noncomputable def cB (K:Fg):List (SX K):=
 [wX (oN (call "grows" (vN K) [var 0,var 1])) [raiseO "NoStart" (cst (.str "the rule doesn't grow from this letter")) []] [],
  set 3 (call "table" (jT K) [var 0]),
  set 4 (mY (call "letters" (cS K) [len (var 0)]) (var 1)),
  set 5 (lst [call "sizes" (vM K) [var 0,cst (.int 0)]]),
  YX (cmp .LtE (ix (ix (var 5) (neg (cst (.int 1)))) (var 4)) (var 2)) [wX (cmp .Gt (len (var 5)) (YM "MOST_TURNS" (.int 400))) [yW "TooGreat" "self" "most" "most" (YM "MOST_TURNS" (.int 400))] [],
   ex (eD (var 5) (call "sizes_once" (eO K) [var 3,ix (var 5) (neg (cst (.int 1)))]))],
  ret (var 5)]
theorem qK:∀vs H Q E,bQ K vs H Q E->vs.length=3:=by
 rintro vs H Q E (⟨_,_,_,_,_,rfl,_⟩|⟨_,_,_,_,rfl,_⟩)<;>rfl
theorem ZE:TT (ZV K) (cB K) ["rule","start","n","rows","at","made"]:=by
 intro vs H Q E h;obtain ⟨a,ws,c,n,k,rfl,hR,hU,h1,h2,hg,hk,hlt,hor⟩:=h;have h4:=hR.four;have hlen:(ws.map V.str).length=ws.length:=length_map _;have hw:∀w∈ws,eM ws.length w/\w.length<=100000:=λw hm=>⟨hU.isw w hm,by have:=hU.le w hm;lia⟩;unfold cB;walk_at "";refine ⟨a,ws,c,rfl,hR,hU.lens,h1,λH1 hS1=>?_⟩;rw[hg];walk_at "";refine uJ ?_;have hR1:=hR.same hS1;walk_at "";refine ⟨a,ws,rfl,hR1,λpT rsT H2 hS2 _ _ hT=>?_⟩;have hR2:=hR1.same hS2;have hq2:=hR2.tp;walk_at "";refine ⟨_,rfl,?_⟩;walk_at "";obtain ⟨rr,hr⟩:=wV (m:=((ws.map V.str).length:Nat)) (by lia) (by lia) h1 (show c - 97<(((ws.map V.str).length:Nat):Int).toNat by lia);refine oX hr ?_;walk_at "";refine ⟨a,ws,0,rfl,hR2,hw,by lia,by lia,λr0 H3 hS3 hr0 hr03=>?_⟩;walk_at "";refine ⟨by show 1<=sizeLine;decide,λp hp=>?_⟩;walk_at "";have hS0:aB H H3:=(hS1.trans hS2).trans hS3;have hTs:=hS2.trans hS3;have hrow:∀xs∈rowsOf ws,YV xs/\xs.length<=1000:=λxs hx=>by
  unfold rowsOf at hx;obtain ⟨w,hm,rfl⟩:=mem_map.mp hx;exact ⟨pD (hw w hm).2,by rw[bO];lia⟩
 refine nA (m:=k) (λm σ H'=>m<=k/\(∃rs:List Addr,aB H3 H'/\FK H' p rs (eN ws (k - m+1))/\(∀x∈rs,x≠p))/\σ=[some (.ref a),some (sgn c),some (.int n),some (.ref pT),some (.int ((c - 97:Nat):Int)),some (.ref p)])
  ⟨Nat.le_refl _,⟨[r0],aE hp _,⟨aA,by rw[iZ,sub_self];rfl,λi x y hx hy=>?_⟩,λx hx=>?_⟩,rfl⟩ (λm σ H' hW=>?_)
 ·have e0:i=0:=by
   have:=(List.getElem?_eq_some_iff.mp hx).1;simp at this;lia
  subst e0;have e1:r0=x:=by simpa using hx
  subst e1;rw[sub_self,jA (by lia)] at hy;cases hy;exact aE hp _ _ _ hr03
 ·have e1:x=r0:=by simpa using hx
  subst e1;exact aD hr03 hp
 ·obtain ⟨hm,⟨rs,hSs,hTb,hne⟩,rfl⟩:=hW;have hrl:rs.length=k - m+1:=by rw[hTb.2.1,iZ]
  obtain ⟨rl,hlast⟩:∃r,rs[k - m]?=some r:=⟨_,getElem?_eq_getElem (show k - m<rs.length by lia)⟩;have hrow2:=hTb.2.2 (k - m) _ _ hlast (jA (by lia));have hat:pQ (rs.map V.ref) (-(1:Int))=some (.ref rl):=FJ (by rw[length_map,hrl,show k - m+1 - 1=k - m by lia,getElem?_map,hlast];rfl);walk_at "";refine JR ?_;walk_at "";refine zY ?_;refine kO (aR.of hTb.1) hat ?_;walk_at "";refine kO (aR.of hrow2) (ZS h2) ?_;walk_at "";refine gI (λhc=>AO ?_) λhc=>?_
  ·walk_at "";refine lP (aR.of hTb.1) ?_;walk_at "";refine gI (λhc2=>?_) λhc2=>?_
   ·rw[length_map,hrl] at hc2;have em:m=0:=by lia
    subst em;rw[Nat.sub_zero] at hc;rcases hor with ⟨hn,_⟩|⟨_,_,tg⟩
    ·lia
    walk_at "";refine wZ ?_;walk_at "";exact λdx hdx=>tg _ dx ((hS0.trans hSs).trans (aE hdx _)) aA
   rw[length_map,hrl] at hc2;have hm0:0<m:=by
    by_cases h0:0<m
    ·exact h0
    ·have e:m=0:=by lia
     subst e;rw[Nat.sub_zero] at hc;rcases hor with ⟨hn,_⟩|⟨_,_,_⟩<;>lia
   walk_at "";refine KC (aR.of hTb.1) ?_;walk_at "";refine JR ?_;walk_at "";refine zY ?_;refine kO (aR.of hTb.1) hat ?_;walk_at "";refine ⟨pT,_,rsT,rowsOf ws,qB ws (k - m),rfl,(hT.same hS3).same hSs,hrow2,hrow,?_,λr H4 hS4 hr4 hr42=>?_⟩
   ·rw[bE];lia
   walk_at "";rw[vG hU.isw] at hr42;have hpn:r≠p:=(aD hTb.1 hr4).symm;refine fL (hS4 _ _ hTb.1) (by rw[length_map,hrl];exact Nat.lt_of_lt_of_le (show k - m+1<1000 by lia) (small (by decide))) ?_;refine ⟨m - 1,by lia,by lia,⟨rs++[r],dZ (hSs.trans hS4) hp,?_,λx hx=>?_⟩,rfl⟩
   ·have e:k - (m - 1)+1=(k - m+1)+1:=by lia
    rw[e,vH];refine FK.snoc hTb ?_ ?_ (λb o hb e=>?_) hne
    ·rw[aF hpn];exact hr42
    ·rw[aA,map_append];rfl
    ·rw[aF hb];exact hS4 _ _ e
   ·rcases mem_append.mp hx with h|h
    ·exact hne x h
    ·have e:x=r:=by simpa using h
     subst e;exact hpn
  ·have hm0:m=0:=by
    by_cases h0:m=0
    ·exact h0
    ·have:=hlt (k - m) (by lia);exact absurd this hc
   subst hm0;rw[Nat.sub_zero] at hTb;walk_at "";rw[Nat.sub_zero] at hc;rcases hor with ⟨_,q⟩|⟨_,h,_⟩
   ·exact q p rs H' (hS0.trans hSs) (none_of hS0 hp) hTb
   ·exact absurd h hc
theorem pV:TT (bQ K) (cB K) ["rule","start","n","rows","at","made"]:=by
 intro vs H Q E h;rcases h with ⟨a,ws,c,n,k,rfl,hR,hU,h1,h2,hg,hk,hn,hlt,q⟩|⟨a,ws,c,n,rfl,hR,hU,h1,hb⟩
 ·exact ZE _ H Q E ⟨a,ws,c,n,k,rfl,hR,hU,h1,h2,hg,hk,hlt,.inl ⟨hn,q⟩⟩
 rcases hb with ⟨hg,q⟩|⟨hg,h2,hle,tg⟩
 ·unfold cB;walk_at "";refine ⟨a,ws,c,rfl,hR,hU.lens,h1,λH1 hS1=>?_⟩;rw[hg];walk_at "";refine He ?_;walk_at "";refine JQ ?_;walk_at "";exact ⟨by show 1<=sizeLine;decide,q H1 hS1⟩
 ·exact ZE _ H Q E ⟨a,ws,c,n,400,rfl,hR,hU,h1,h2,hg,Nat.le_refl _,λi hi=>hle i (by lia),.inr ⟨rfl,hle 400 (Nat.le_refl _),tg⟩⟩
noncomputable def cH (K:Fg):Sp:=λvs H Q E=>L2.Na.cH K vs H Q E\/∃(a:Addr) (ws:List Str) (c:Nat) (n:Int),vs=[.ref a,sgn c,.int n]/\Em K H a ws c n E
noncomputable def iQ (K:Fg):List (SX K):=
 [set 3 (call "sizes_until" (bQ K) [var 0,var 1,var 2]),
  set 4 (call "words_by_letter" (bD K) [var 0]),
  set 5 (lst []),
  set 6 (var 1),
  set 7 (var 2),
  iR (kJ 8) (Dg (yR (var 3) none (some (neg (cst (.int 1)))))) [set 9 (PX (call "letters" (cS K) [len (var 0)]) (var 8)),
   set 10 (ix (var 4) (var 6)),
   set 11 (cst (.int 0)),
   YX (cmp .LtE (ix (var 9) (ix (var 10) (var 11))) (var 7)) [set 7 (bin .Sub (var 7) (ix (var 9) (ix (var 10) (var 11)))),
    set 11 (bin .Add (var 11) (cst (.int 1)))],
   set 6 (ix (var 10) (var 11)),
   ex (eD (var 5) (tup [var 11,var 6]))],
  ret (var 5)]
theorem EE:∀vs H Q E,cH K vs H Q E->vs.length=3:=by
 rintro vs H Q E (⟨_,_,_,_,_,rfl,_⟩|⟨_,_,_,_,rfl,_⟩)<;>rfl
theorem CZ:TT (cH K) (iQ K) ["rule","start","n","rows","word_for","pairs","letter","left","row","size_of","word","step"]:=by
 intro vs H Q E h;rcases h with h|⟨a,ws,c,n,rfl,hb⟩
 case inr=>
  unfold iQ;walk_at "";exact .inr ⟨a,ws,c,n,rfl,hb⟩
 obtain ⟨a,ws,c,n,k,rfl,hR,hU,hg,hk,hG,hlt,q⟩:=h;unfold iQ;walk_at "";refine .inl ⟨a,ws,c,n,k,rfl,hR,hU,hG.1,hG.2.1,hg,hk,hG.2.2.2,hlt,λp rs H1 hS1 hp1 hT=>?_⟩;have hrl:rs.length=k+1:=by rw[hT.2.1,iZ]
 walk_at "";refine ⟨a,ws,rfl,hR.same hS1,λd H2 hS2 _ hd=>?_⟩;walk_at "";refine ⟨zero_le _,λpl hpl=>?_⟩;have s3:=aE hpl (.lst []);have hS02:=hS1.trans hS2;have hT3:=(hT.same hS2).same s3;walk_at "";refine WK ?_;walk_at "";refine JR ?_;walk_at "";refine zY ?_;walk_at "";refine Ce (aR.of hT3.1) λl hl=>?_;rw[XI (by rw[length_map];lia),length_map,hrl,show k+1 - 1=k by lia];have s4:=aE hl (.lst ((rs.map V.ref).take k));have hlen:((rs.map V.ref).take k).length=k:=by rw[length_take,length_map];lia
 refine WJ (aR.of aA) ?_;have hplne:l≠pl:=(aD (H:=upd H2 pl (.lst [])) aA hl).symm;have hpl4:∀H',Off pl (upd (upd H2 pl (.lst [])) l (.lst ((rs.map V.ref).take k))) H'->aB H2 H':=λH' o=>Off.same (s3.trans s4) o hpl;refine JD (λi σ H'=>i<=k/\Off pl (upd (upd H2 pl (.lst [])) l (.lst ((rs.map V.ref).take k))) H'/\(∃us:List Addr,Ib H' pl us ((dB ws k c n).take i)/\(∀u∈us,H u=none/\u≠pl))/\
   ∃(a8 a9 a10 a11:Option V),σ=[some (.ref a),some (sgn c),some (.int n),some (.ref p),some (.ref d),some (.ref pl),some (sgn (bM ws k c n i).1),some (.int (bM ws k c n i).2),a8,a9,a10,a11])
  ⟨zero_le _,λ_ _ _ e=>e,⟨[],⟨s4 _ _ aA,rfl,λi r f hr=>by simp at hr⟩,λu hu=>nomatch hu⟩,none,none,none,none,by cases k<;>rfl⟩
  (λi σ H' hP=>aR.of (hP.2.1 l _ hplne aA)) (λi x σ H' hx hP=>?_) λσ H' hP=>?_
 ·obtain ⟨hi,hO,⟨us,hF,hus⟩,a8,a9,a10,a11,rfl⟩:=hP;have hik:i<k:=by
   have:=(List.getElem?_eq_some_iff.mp hx).1;rw[length_reverse,hlen] at this;exact this
  have hki:k - 1 - i<rs.length:=by lia
  have ex:x=.ref rs[k - 1 - i]:=by
   rw[List.getElem?_reverse (by rw[hlen];exact hik),hlen,getElem?_take,if_pos (by lia),getElem?_map,getElem?_eq_getElem hki] at hx;exact (Option.some.inj hx).symm
  subst ex;have hS:=hpl4 H' hO;have hrow:H' rs[k - 1 - i]=some (.lst ((qB ws (k - 1 - i)).map V.int)):=hS _ _ (hS2 _ _ (hT.2.2 (k - 1 - i) _ _ (getElem?_eq_getElem hki) (jA (by lia))));have hGi:=fM hU k c n i hG hi;obtain ⟨g1,g2,g3,g4⟩:=id hGi;have eki:k - i=(k - 1 - i)+1:=by lia
  rw[eki] at hGi;obtain ⟨dn,hdn,hGn⟩:=hGi.step hU;obtain ⟨w,hw,hwd,hwm⟩:=hU.word g2;have hsucc:=pC (ws:=ws) k c n i hik;have hfat:=uC (ws:=ws) k c n i hik;rw[show k - i - 1=k - 1 - i by lia] at hsucc hfat;obtain ⟨cl,hcl⟩:∃cl,(bM ws k c n i).1=cl:=⟨_,rfl⟩;obtain ⟨x0,hx0⟩:∃x0,(bM ws k c n i).2=x0:=⟨_,rfl⟩;simp only [hcl,hx0] at hsucc hfat hGn hdn g1 g2 g3 g4 hw hwd;rw[hcl,hx0];obtain ⟨st,hst⟩:∃st,(bF ws (k - 1 - i) (wd ws cl) x0).1=st:=⟨_,rfl⟩;rw[eki,iH g2] at g4;obtain ⟨o1,o2,o3,o4⟩:=uB (wd ws cl) x0 g3 g4;rw[hst] at o1 o4 hdn hfat hsucc;rw[hdn] at hsucc;refine JS (mE (rL (yS (K:=K) (a:=a) (r:=rs[k - 1 - i]) rfl rfl (hR.same (hS02.trans hS)) hrow λdz H5 hS5 _ hdz=>?_)));walk_at "";refine iW (((hd.same hS).same hS5).get g1 hw) ?_;walk_at "";have hwl:=hU.le w hwm;have hlsw:wd ws cl=w.cps.toList:=hwd;refine mE (nA (m:=st) (λm σ H6=>m<=st/\H6=H5/\σ=[some (.ref a),some (sgn c),some (.int n),some (.ref p),some (.ref d),some (.ref pl),some (sgn cl),some (.int (x0 - aO ws (k - 1 - i) ((wd ws cl).take (st - m)))),some (.ref rs[k - 1 - i]),some (.ref dz),some (.str w),some (.int ((st - m:Nat):Int))])
   ⟨Nat.le_refl _,rfl,?_⟩ (λm σ H6 hW=>?_))
  ·rw[sub_self,take_zero];have e0:aO ws (k - 1 - i) []=0:=rfl;rw[e0,Int.sub_zero];rfl
  ·obtain ⟨hm,rfl,rfl⟩:=hW;have hs:st - m<(wd ws cl).length:=by lia
   have hch:(wd ws cl)[st - m]?=some (wd ws cl)[st - m]:=getElem?_eq_getElem hs;obtain ⟨sg1,sg2⟩:=hU.sign g2 (getElem_mem hs);have hat:pQ w.cps.toList ((st - m:Nat):Int)=some (wd ws cl)[st - m]:=cF (by rw[<-hlsw];exact hch);have hwk:=xB (ws:=ws) (k:=k - 1 - i) (wd ws cl) x0 (st - m) _ (by rw[hst];lia) hch;rw[hst] at hwk;walk_at "";refine oW (small (by lia)) hat ?_;refine iW (hdz.get sg1 sg2) ?_;walk_at "";refine gI (λhc=>AO ?_) λhc=>?_
   ·have hlt2:=hwk.mpr hc;have hm0:0<m:=by lia
    walk_at "";refine oW (small (by lia)) hat ?_;refine iW (hdz.get sg1 sg2) ?_;walk_at "";refine ⟨m - 1,by lia,by lia,rfl,?_⟩;have e1:st - (m - 1)=(st - m)+1:=by lia
    have e2:aO ws (k - 1 - i) ((wd ws cl).take (st - m+1))=aO ws (k - 1 - i) ((wd ws cl).take (st - m))+sz ws (k - 1 - i) (wd ws cl)[st - m]:=by
     rw[take_add_one,hch];unfold aO;rw[map_append,sum_append];simp
    rw[e1,e2];have e3:((st - m:Nat):Int)+1=((st - m+1:Nat):Int):=by lia
    have e4:x0 - aO ws (k - 1 - i) ((wd ws cl).take (st - m)) - sz ws (k - 1 - i) (wd ws cl)[st - m]=x0 - (aO ws (k - 1 - i) ((wd ws cl).take (st - m))+sz ws (k - 1 - i) (wd ws cl)[st - m]):=by lia
    rw[<-e3,<-e4];rfl
   ·have hm0:m=0:=by
     by_cases h0:m=0
     ·exact h0
     ·exact absurd (hwk.mp (by lia)) hc
    subst hm0;have hat0:pQ w.cps.toList ((st:Nat):Int)=some (wd ws cl)[st]:=cF (by rw[<-hlsw];exact getElem?_eq_getElem o1);rw[Nat.sub_zero];walk_at "";refine oW (small (by lia)) hat0 ?_;walk_at "";refine KC (aR.of (hS5 _ _ hF.1)) ?_;walk_at "";refine ⟨by show 2<=sizeLine;decide,λt ht=>?_⟩;walk_at "";have s6:=aE ht (.tup [V.int (st:Nat),sgn (wd ws cl)[st]]);have htp:t≠pl:=(aD (hS5 _ _ hF.1) ht).symm;have hdn':(wd ws cl)[st]=dn:=by
     rw[getElem?_eq_getElem o1] at hdn;exact Option.some.inj hdn
    have hfl:((dB ws k c n).take i).length=i:=by rw[length_take,bN];lia
    refine fL (s6 _ _ (hS5 _ _ hF.1)) (by rw[length_map,hF.2.1,hfl];exact Nat.lt_of_lt_of_le (show i<1000 by lia) (small (by decide))) ?_;refine ⟨hik,((hO.trans hS5).trans s6).upd,⟨us++[t],⟨by rw[aA,map_append];rfl,?_,λj r f hr hf=>?_⟩,λu hu=>?_⟩,some (.ref rs[k - 1 - i]),some (.ref dz),some (.str w),some (.int st),?_⟩
    ·rw[length_append,hF.2.1,hfl,length_take,bN];show i+1=_;lia
    ·rw[take_add_one,hfat] at hf;by_cases hj:j<us.length
     ·rw[getElem?_append_left hj] at hr;rw[getElem?_append_left (by rw[<-hF.2.1];exact hj)] at hf;have hne:=(hus r (mem_of_getElem? hr)).2;rw[aF hne];exact s6 _ _ (hS5 _ _ (hF.2.2 j r f hr hf))
     ·rw[getElem?_append_right (by lia)] at hr;rw[getElem?_append_right (by rw[<-hF.2.1];lia),<-hF.2.1] at hf;have e0:j - us.length=0:=by
       have:=(List.getElem?_eq_some_iff.mp hr).1;simp at this;lia
      rw[e0] at hr hf;have e1:t=r:=by simpa using hr
      have e2:(st,(bM ws k c n (i+1)).1)=f:=by simpa using hf
      subst e1 e2;rw[aF htp,aA,hsucc,hdn'];rfl
    ·rcases mem_append.mp hu with h|h
     ·exact hus u h
     ·have e:u=t:=by simpa using h
      subst e;exact ⟨none_of (hS02.trans (hS.trans hS5)) ht,htp⟩
    ·rw[hsucc,o4,hdn'];rfl
 ·obtain ⟨hi,hO,⟨us,hF,hus⟩,a8,a9,a10,a11,rfl⟩:=hP;walk_at "";rw[hlen] at hF;rw[take_of_length_le (by rw[bN];exact Nat.le_refl _)] at hF;exact q pl us H' (hS02.trans (hpl4 H' hO)) (none_of hS02 hpl) (λr hr=>(hus r hr).1) hF
noncomputable def bW (K:Fg):Sp:=λvs H Q E=>L2.Na.bW K vs H Q E\/∃(a:Addr) (ws:List Str) (c n m:Nat),vs=[.ref a,sgn c,.int n,.int m]/\1<=m/\Em K H a ws c ((n+m - 1:Nat):Int) E
noncomputable def dP (K:Fg):List (SX K):=
 [set 4 (call "figures" (cH K) [var 0,var 1,bin .Sub (bin .Add (var 2) (var 3)) (cst (.int 1))]),
  setC 5 (BZ none (var 0) (CT [0,1]) (kQ (call "figures" (cH K) [var 0,var 1,var 2])) ["step","letter"] [] []),
  set 6 (bin .Mult (lst [cst (.int 0)]) (bin .Sub (len (var 4)) (len (var 5)))),
  set 7 (var 1),
  iR (kJ 8) (kQ (bin .Add (var 6) (var 5))) [set 7 (yR (yR (call "put" (nV K) [var 0,var 7]) (some (var 8)) none) none (some (var 3)))],
  ret (yR (var 7) none (some (var 3)))]
theorem tY:∀vs H Q E,bW K vs H Q E->vs.length=4:=by
 rintro vs H Q E (⟨_,_,_,_,_,rfl,_⟩|⟨_,_,_,_,_,rfl,_⟩)<;>rfl
theorem sT:TT (bW K) (dP K) ["rule","start","n","many","last","steps","ahead","window","step"]:=by
 intro vs H Q E h;rcases h with h|⟨a,ws,c,n,m,rfl,hm1,hb⟩
 case inr=>
  unfold dP;walk_at "";exact .inr ⟨a,ws,c,_,rfl,(show ((n:Nat):Int)+((m:Nat):Int) - 1=((n+m - 1:Nat):Int) by lia)▸hb⟩
 obtain ⟨a,ws,c,n,m,rfl,hP,hm1,hm2,q⟩:=h;have hU:=hP.ru;obtain ⟨kk,hkk,hGG,hltt⟩:=hP.turns;have hP2:Pl K H a ws c ((n:Nat):Int):=hP.less (by lia) (by lia);obtain ⟨k,hk,hG,hlt⟩:=hP2.turns;have hkle:k<=kk:=by
  by_cases h:k<=kk
  ·exact h
  ·have:=hlt kk (by lia);have:=hGG.2.2.2;lia
 have hGn:=hG.more hU hP.gr hkle;unfold dP;walk_at "";refine .inl ⟨a,ws,c,_,kk,rfl,hP.rt,hU,hP.gr,hkk,?_,?_,λp rs H1 hS1 _ _ hF=>?_⟩
 ·rw[show ((n:Nat):Int)+((m:Nat):Int) - 1=((n+m - 1:Nat):Int) by lia];exact hGG
 ·rw[show ((n:Nat):Int)+((m:Nat):Int) - 1=((n+m - 1:Nat):Int) by lia];exact hltt
 have hrl:rs.length=kk:=by rw[hF.2.1,bN]
 walk_at "";refine .inl ⟨a,ws,c,n,k,rfl,hP.rt.same hS1,hU,hP.gr,hk,hG,hlt,λp2 rs2 H2 hS2 _ _ hF2=>?_⟩;have hrl2:rs2.length=k:=by rw[hF2.2.1,bN]
 have hlm:(rs2.map V.ref).length=k:=by rw[length_map,hrl2]
 refine kP (aR.of hF2.1) ?_;intro D hD;have hfi:∀i,i<k->∃f,(dB ws k c n)[i]?=some f:=λi hi=>⟨_,getElem?_eq_getElem (by rw[bN];exact hi)⟩;refine LB (λi=>.int ((((dB ws k c n)[i]?.getD (0,0)).1:Nat):Int)) (λi=>.int ((((dB ws k c n)[i]?.getD (0,0)).1:Nat):Int)) (λi=>sgn ((dB ws k c n)[i]?.getD (0,0)).2) (aR.of hF2.1) (λi x hx=>?_) hD (small (by lia)) (λi H3 Q' hi hS3 fin=>?_) λH3 hS3 hO=>?_
 ·have hi:i<rs2.length:=by
   have:=(List.getElem?_eq_some_iff.mp hx).1;rw[length_map] at this;exact this
  rw[getElem?_map,getElem?_eq_getElem hi] at hx;obtain ⟨f,hf⟩:=hfi i (by lia);refine ⟨rs2[i],(Option.some.inj hx).symm,?_⟩;rw[hf];exact cC.of (hF2.2.2 i _ f (getElem?_eq_getElem hi) hf)
 ·walk_at "";exact fin H3 (aB.refl _)
 have hO':H3 D=some (.lst ((dB ws k c n).map λf=>V.int (f.1:Nat))):=by
  rw[hO,hlm]
  congr 2
  refine ext_getElem? λi=>?_;rw[getElem?_map,getElem?_map];by_cases hi:i<k
  ·obtain ⟨f,hf⟩:=hfi i hi;rw[getElem?_range hi,hf];show some (V.int ((((dB ws k c n)[i]?.getD (0,0)).1:Nat):Int))=_;rw[hf];rfl
  ·rw[List.getElem?_eq_none_iff.mpr (by rw[length_range];lia),List.getElem?_eq_none_iff.mpr (by rw[bN];lia)];rfl
 have hl4:(rs.map V.ref).length=kk:=by rw[length_map,hrl]
 have hl5:((dB ws k c n).map λf=>V.int (f.1:Nat)).length=k:=by rw[length_map,bN]
 have hq4:aR K H3 p (rs.map V.ref):=aR.of ((hS2.trans hS3) _ _ hF.1);have hq5:aR K H3 D ((dB ws k c n).map λf=>V.int (f.1:Nat)):=aR.of hO';walk_at "";refine ⟨by show 1<=sizeLine;decide,λl hl=>?_⟩;have s4:=aE hl (.lst [V.int 0]);walk_at "";refine lP (s4.seq hq4) ?_;walk_at "";refine lP (s4.seq hq5) ?_;walk_at "";rw[hl4,hl5,show ((kk:Nat):Int) - ((k:Nat):Int)=((kk - k:Nat):Int) by lia];refine wY (xs:=[V.int 0]) aA ⟨by lia,by lia⟩ (small (by show 1 * _<=_;lia)) λl2 hl2=>?_;rw[hZ,toNat_natCast];have s5:=aE hl2 (.lst (replicate (kk - k) (V.int 0)));walk_at "";refine JW aA (s5 _ _ (s4 _ _ hO')) (small (by rw[length_replicate,hl5];lia)) λl3 hl3=>?_;rw[tX hU hP.gr hG,show k+(kk - k)=kk by lia];have s6:=aE hl3 (.lst ((dB ws kk c n).map λf=>V.int (f.1:Nat)));refine kP (aR.of aA) ?_;have hS06:aB H (upd (upd (upd H3 l (.lst [V.int 0])) l2 (.lst (replicate (kk - k) (V.int 0)))) l3 (.lst ((dB ws kk c n).map λf=>V.int (f.1:Nat)))):=(((hS1.trans hS2).trans hS3).trans (s4.trans s5)).trans s6;refine oO (aR.of aA) (λi σ=>i<=kk/\∃A B a8,At ws c kk n i A B/\σ=[some (.ref a),some (sgn c),some (.int n),some (.int m),some (.ref p),some (.ref D),some (.ref l2),some (.str (aG (((bM ws kk c n i).1::B).take m))),a8])
  ⟨zero_le _,[],[],none,CG,?_⟩ (λi x σ1 H7 hx hPi hS7=>?_) λσ1 H7 hPi hS7=>?_
 ·have e:bM ws kk c n 0=(c,((n:Nat):Int)):=by cases kk<;>rfl
  rw[e,take_of_length_le (by show 1<=m;lia)];rfl
 ·obtain ⟨_,A,B,a8,hA,rfl⟩:=hPi;have hi:i<kk:=by
   have:=(List.getElem?_eq_some_iff.mp hx).1;rw[length_map,bN] at this;exact this
  obtain ⟨st,S,hf,hst,hw,hdr,hA'⟩:=CH hU hGn hi hA;have ex:x=.int ((st:Nat):Int):=by
   rw[getElem?_map,hf] at hx;exact (Option.some.inj hx).symm
  subst ex;have hLw:dC ws ((bM ws kk c n i).1::B):=λd hd=>dW hU hP.c1 hP.c2 i d (by rw[hA.1];exact mem_append_right _ hd);have hLt:dC ws (((bM ws kk c n i).1::B).take m):=λd hd=>hLw d (mem_of_mem_take hd);have hwl:(aG (((bM ws kk c n i).1::B).take m)).length<=m:=by rw[eR,length_take];lia
  walk_at "";refine ⟨a,ws,_,rfl,(hP.rt.same hS06).same hS7,hU.le,hLt.isW,by lia,λH8 hS8=>?_⟩;have hil:=JL (ws:=ws) (z:=aG (((bM ws kk c n i).1::B).take m)) (B:=100) hU.le;have hil2:(img ws (aG (((bM ws kk c n i).1::B).take m))).length<=1000000:=by lia
  have hls:ls (img ws (aG (((bM ws kk c n i).1::B).take m)))=aK ws (((bM ws kk c n i).1::B).take m):=by rw[lM,aQ];rfl
  have hge:st<=(img ws (aG (((bM ws kk c n i).1::B).take m))).length:=by
   rw[<-aS,hls];obtain ⟨m',rfl⟩:∃m',m=m'+1:=⟨m - 1,by lia⟩;rw[take_succ_cons,aT,length_append];lia
  walk_at "";refine fK (small hil2) ?_;walk_at "";have hsl:=lG (img ws (aG (((bM ws kk c n i).1::B).take m))) (some ((st:Nat):Int)) none;refine fK (small (by lia)) ?_;refine ⟨⟨hi,_,_,some (.int st),hA',?_⟩,hS7.trans hS8⟩;have e:Txt.slice (Txt.slice (img ws (aG (((bM ws kk c n i).1::B).take m))) (some ((st:Nat):Int)) none) none (some ((m:Nat):Int))=aG (((bM ws kk c n (i+1)).1::(S++aK ws B)).take m):=by
   refine fZ ?_;rw[show ls (Txt.slice (Txt.slice (img ws (aG (((bM ws kk c n i).1::B).take m))) (some ((st:Nat):Int)) none) none (some ((m:Nat):Int)))=(Txt.slice (img ws (aG (((bM ws kk c n i).1::B).take m))) (some ((st:Nat):Int)) none).cps.toList.take ((m:Nat):Int).toNat from bX (by lia)];rw[yQ (by lia) (by lia),toNat_natCast,toNat_natCast,aQ];show ((ls (img ws (aG (((bM ws kk c n i).1::B).take m)))).drop st).take m=_;rw[hls,window hU hLw hst hm1,aT,List.drop_append_of_le_length (by lia),hdr];rfl
  rw[e];rfl
 ·obtain ⟨_,A,B,a8,hA,rfl⟩:=hPi;rw[length_map,bN] at hA ⊢;have hAl:=LW hU hGn hA;walk_at "";refine fK (small (by rw[eR,length_take];lia)) ?_;have e:Txt.slice (aG (((bM ws kk c n kk).1::B).take m)) none (some ((m:Nat):Int))=aG (str ws c n m):=by
   refine fZ ?_;rw[show ls (Txt.slice (aG (((bM ws kk c n kk).1::B).take m)) none (some ((m:Nat):Int)))=(aG (((bM ws kk c n kk).1::B).take m)).cps.toList.take ((m:Nat):Int).toNat from bX (by lia)];show (ls (aG (((bM ws kk c n kk).1::B).take m))).take _=_;rw[aQ,toNat_natCast,aQ,take_take,Nat.min_self];have hwl:=cQ hU hP.c1 hP.c2 kk;have hgg:=hGG.2.2.2;rw[<-gJ hU hP.c1 hP.c2 hP.gr (k:=kk) (by lia),hA.1,List.drop_append_of_le_length (by lia),List.drop_of_length_le (by lia)];rfl
  rw[e];exact q _ (hS06.trans hS7)
theorem kU (n:Nat) (a b:List Nat):aW n (aG (a++b))=zipWith (·+·) (aW n (aG a)) (aW n (aG b)):=by
 refine ext_getElem? λi=>?_;by_cases hi:i<n
 ·rw[getElem?_zipWith,cA hi,cA hi,cA hi];show some _=some _;unfold cnt;rw[aQ,aQ,aQ,List.count_append]
  congr 1
 ·rw[List.getElem?_eq_none_iff.mpr (by rw[bO];lia),List.getElem?_eq_none_iff.mpr (by rw[length_zipWith,bO];lia)]
theorem kT (n:Nat):aW n (aG [])=replicate n 0:=by
 have e2:cnt (aG [])=λ_=>0:=by
  funext k
  unfold cnt;rw[aQ];rfl
 unfold aW;rw[e2,List.map_const',length_range]
end
section
variable {K:Fg}
noncomputable def jV (K:Fg):Sp:=λvs H Q _=>∃(a:Addr) (ws:List Str) (c n:Nat),vs=[.ref a,sgn c,.int n]/\Pl K H a ws c n/\∀r H',aB H H'->H r=none->H' r=some (.lst ((aW ws.length (aG (str ws c 0 n))).map V.int))->Q (.ref r) H'
noncomputable def iG (K:Fg):List (SX K):=
 [set 3 (call "words_by_letter" (bD K) [var 0]),
  set 4 (bin .Mult (lst [cst (.int 0)]) (len (var 0))),
  set 5 (JA (var 3) (var 1) (cst (.str ""))),
  iR (CT [6,7]) (kQ (call "figures" (cH K) [var 0,var 1,var 2])) [set 4 (call "added" (jW K) [call "counts_behind" (cU K) [var 0,var 4,cst (.int 1)],call "counts" (iJ K) [yR (var 5) none (some (var 6)),len (var 0)]]),
   set 5 (ix (var 3) (var 7))],
  ret (var 4)]
theorem vF:TT (jV K) (iG K) ["rule","start","n","word_for","made","word","step","letter"]:=by
 intro vs H Q E h;obtain ⟨a,ws,c,n,rfl,hP,q⟩:=h;have hU:=hP.ru;have h4:=hP.rt.four;obtain ⟨k,hk,hG,hlt⟩:=hP.turns;have hlen:(ws.map V.str).length=ws.length:=length_map _;unfold iG;walk_at "";refine ⟨a,ws,rfl,hP.rt,λd H1 hS1 _ hd=>?_⟩;have hR1:=hP.rt.same hS1;walk_at "";refine ⟨by show 1<=sizeLine;decide,λl hl=>?_⟩;have s2:=aE hl (.lst [V.int 0]);have hq2:=aB.seqT s2 hR1.tp;walk_at "";refine wY (xs:=[V.int 0]) aA ⟨by lia,by lia⟩ (small (by show 1 * _<=_;lia)) λl2 hl2=>?_;rw[hZ,hlen,toNat_natCast];have s3:=aE hl2 (.lst (replicate ws.length (V.int 0)));have hS03:=hS1.trans (s2.trans s3);have hd3:=hd.same (s2.trans s3);obtain ⟨kvs,hkv,_⟩:=id hd3;walk_at "";refine Df hkv ?_;walk_at "";obtain ⟨w0,hw0,hwd0,hwm0⟩:=hU.word hP.c2;refine AB (hd3.get hP.c1 hw0) ?_;rw[show (some (V.str w0)).getD (V.str (Str.ofString ""))=V.str w0 from rfl];walk_at "";refine .inl ⟨a,ws,c,n,k,rfl,hP.rt.same hS03,hU,hP.gr,hk,hG,hlt,λp rs H4 hS4 _ _ hF=>?_⟩;have hrl:rs.length=k:=by rw[hF.2.1,bN]
 have hS04:=hS03.trans hS4;refine kP (aR.of hF.1) ?_;refine mZ (dG (xs:=rs.map V.ref)) (λi σ H'=>aB H4 H'/\i<=k/\∃(A B:List Nat) (u:Addr) (w:Str) (a6 a7:Option V),At ws c k n i A B/\H u=none/\H' u=some (.lst ((aW ws.length (aG A)).map V.int))/\ws[(bM ws k c n i).1 - 97]?=some w/\σ=[some (.ref a),some (sgn c),some (.int n),some (.ref d),some (.ref u),some (.str w),a6,a7])
  ⟨aB.refl _,zero_le _,[],[],l2,w0,none,none,CG,none_of (hS1.trans s2) hl2,?_,?_,rfl⟩ (λi σ H' _ hPi=>aR.of (hPi.1 _ _ hF.1)) (λi x σ H' hx hPi=>?_) λσ H' hPi=>?_
 ·rw[kT,map_replicate];exact hS4 _ _ aA
 ·have e:bM ws k c n 0=(c,((n:Nat):Int)):=by cases k<;>rfl
  rw[e];exact hw0
 ·obtain ⟨hS5,_,A,B,u,w,a6,a7,hA,hu,hu5,hw,rfl⟩:=hPi;have hi:i<rs.length:=by
   have:=(List.getElem?_eq_some_iff.mp hx).1;rw[length_map] at this;exact this
  have hik:i<k:=by lia
  obtain ⟨st,S,hf,hst,hwsp,hdr,hA'⟩:=CH hU hG hik hA;have ex:x=.ref rs[i]:=by
   rw[getElem?_map,getElem?_eq_getElem hi] at hx;exact (Option.some.inj hx).symm
  subst ex;have ht:=hS5 _ _ (hF.2.2 i _ _ (getElem?_eq_getElem hi) hf);refine jD (cC.of ht) ?_;have hGi:=fM hU k c n i hG (by lia);obtain ⟨w',hw',hwd',hwm'⟩:=hU.word hGi.2.1;rw[hw] at hw';cases hw';have hwl:=hU.le w hwm';have hRH:=hP.rt.same (hS04.trans hS5);have hLA:dC ws A:=λx hx=>dW hU hP.c1 hP.c2 i x (by rw[hA.1];exact mem_append_left _ hx);walk_at "";refine ⟨a,u,ws,_,1,rfl,hRH,hu5,bO _ _,λw hw=>by have:=hU.le w hw;lia,by lia,by lia,λu2 H6 hS6 hu2 hu6=>?_⟩;walk_at "";refine fK (small (by lia)) ?_;have hq6:=aB.seqT hS6 hRH.tp;walk_at "";refine ⟨_,_,rfl,by lia,by lia,λu3 H7 hS7 hu3 hu7=>?_⟩;walk_at "";have hu6':H6 u2=some (.lst ((aW ws.length (aG (aK ws A))).map V.int)):=by
   rw[hu6];show some (HO.lst ((kW (rowsOf ws) (aW ws.length (aG A))).map V.int))=_;rw[pK hLA.isW,bZ,aQ]
  have hsl:Txt.slice w none (some ((st:Nat):Int))=aG ((wd ws (bM ws k c n i).1).take st):=by
   refine fZ ?_;rw[show ls (Txt.slice w none (some ((st:Nat):Int)))=w.cps.toList.take ((st:Nat):Int).toNat from bX (by lia),toNat_natCast,aQ,hwd']
  rw[hsl,hlen,toNat_natCast] at hu7;refine ⟨u2,u3,_,_,rfl,hS7 _ _ hu6',hu7,by rw[bO];lia,λu4 H8 hS8 hu4 hu8=>?_⟩;rw[<-kU] at hu8;have hS58:=(hS6.trans hS7).trans hS8;have hGn:=fM hU k c n (i+1) hG (by lia);obtain ⟨w2,hw2,_,hwm2⟩:=hU.word hGn.2.1;walk_at "";refine iW (((hd3.same hS4).same (hS5.trans hS58)).get hGn.1 hw2) ?_;exact ⟨hS5.trans hS58,hik,_,_,u4,w2,_,_,hA',none_of ((hS04.trans hS5).trans (hS6.trans hS7)) hu4,hu8,hw2,rfl⟩
 ·obtain ⟨hS5,_,A,B,u,w,a6,a7,hA,hu,hu5,hw,rfl⟩:=hPi;rw[length_map,hrl] at hA;have hAl:=LW hU hG hA;walk_at "";refine q u H' (hS04.trans hS5) hu ?_;rw[hu5,<-gJ hU hP.c1 hP.c2 hP.gr (k:=k) (n:=0) (m:=n) (by rw[hA.1,length_append];lia),drop_zero,hA.1,List.take_append_of_le_length (by lia),take_of_length_le (by lia)]
end
end L2.Na.Pr
namespace L2.Na
open PySem
noncomputable def gU (ws:List Str) (x:List Nat):List (List Nat):=(range (wd ws (x.headD 0)).length).map λj=>((aK ws x).drop j).take x.length
noncomputable abbrev aV:=List Nat × List Int
noncomputable def bI (f:List aV):List (List Nat):=f.map (·.1)
noncomputable def bH (f:List aV) (p:aV):List aV:=if p.1∈bI f then f else f++[p]
noncomputable def chl (ws:List Str) (x:aV):List aV:=(range (wd ws (x.1.headD 0)).length).map λj=>(((aK ws x.1).drop j).take x.1.length,zipWith (·+·) (xW (rowsOf ws) x.2 1) (aW ws.length (aG ((wd ws (x.1.headD 0)).take j))))
noncomputable def aM (ws:List Str) (f0:List aV):Nat->List aV
 |0=>f0
 |i+1=>match (aM ws f0 i)[i]? with
  |some x=>(chl ws x).foldl bH (aM ws f0 i)
  |none=>aM ws f0 i
theorem dN (f g:List aV):bI (f++g)=bI f++bI g:=map_append
theorem iL (f:List aV):(bI f).length=f.length:=length_map _
theorem uF (ws:List Str) (x:aV):bI (chl ws x)=gU ws x.1:=by
 unfold bI chl gU;rw[map_map];rfl
theorem MA (f:List aV) (p:aV):∃t,bH f p=f++t:=by
 unfold bH;split
 ·exact ⟨[],(append_nil f).symm⟩
 ·exact ⟨[p],rfl⟩
theorem kZ:∀(ps f:List aV),∃t,ps.foldl bH f=f++t
 |[],f=>⟨[],(append_nil f).symm⟩
 |p::ps,f=>by
  obtain ⟨t,e⟩:=MA f p;obtain ⟨u,g⟩:=kZ ps (bH f p);exact ⟨t++u,by rw[foldl_cons,g,e,List.append_assoc]⟩
theorem GW (ws:List Str) (f0:List aV) (i:Nat):∃t,aM ws f0 (i+1)=aM ws f0 i++t:=by
 show ∃t,(match (aM ws f0 i)[i]? with|some x=>(chl ws x).foldl bH (aM ws f0 i)|none=>aM ws f0 i)=_;cases (aM ws f0 i)[i]? with
 |none=>exact ⟨[],(append_nil _).symm⟩
 |some x=>exact kZ _ _
theorem cR (ws:List Str) (f0:List aV) (i:Nat):∀k,∃t,aM ws f0 (i+k)=aM ws f0 i++t
 |0=>⟨[],(append_nil _).symm⟩
 |k+1=>by
  obtain ⟨t,e⟩:=cR ws f0 i k;obtain ⟨u,g⟩:=GW ws f0 (i+k);exact ⟨t++u,by rw[<-Nat.add_assoc,g,e,List.append_assoc]⟩
theorem AW (ws:List Str) (f0:List aV) {i k:Nat} (h:i<=k):(aM ws f0 i).length<=(aM ws f0 k).length:=by
 obtain ⟨t,e⟩:=cR ws f0 i (k - i);rw[show i+(k - i)=k by lia] at e;rw[e,length_append];lia
theorem jS (ws:List Str) (f0:List aV) {i:Nat} (h:(aM ws f0 i).length<=i):∀k,aM ws f0 (i+k)=aM ws f0 i
 |0=>rfl
 |k+1=>by
  have ih:=jS ws f0 h k;show (match (aM ws f0 (i+k))[i+k]? with|some x=>(chl ws x).foldl bH (aM ws f0 (i+k))|none=>aM ws f0 (i+k))=_;rw[ih,List.getElem?_eq_none (by lia)]
structure qQ (ws:List Str) (L:Nat) (f:List aV):Prop where
 nd:(bI f).Nodup
 ok:∀p∈f,p.1.length=L/\dC ws p.1/\p.2.length=ws.length
theorem QJ {ws:List Str} {L:Nat} {f:List aV} {p:aV} (h:qQ ws L f) (hp:p.1.length=L/\dC ws p.1/\p.2.length=ws.length):qQ ws L (bH f p):=by
 unfold bH;split
 ·exact h
 ·rename_i hn;refine ⟨?_,λq hq=>?_⟩
  ·rw[dN];exact List.nodup_append.mpr ⟨h.nd,nodup_cons.mpr ⟨by simp [bI],List.nodup_nil⟩,λa ha b hb e=>hn (by
    have:b=p.1:=by simpa [bI] using hb
    rw[<-this,<-e]
    exact ha)⟩
  ·rcases mem_append.mp hq with hq|hq
   ·exact h.ok q hq
   ·have:q=p:=by simpa using hq
    subst this;exact hp
theorem uQ {ws:List Str} {L:Nat}:∀{ps f:List aV},qQ ws L f->(∀p∈ps,p.1.length=L/\dC ws p.1/\p.2.length=ws.length)->qQ ws L (ps.foldl bH f)
 |[],f,h,_=>h
 |p::ps,f,h,hp=>by
  rw[foldl_cons];exact uQ (f:=bH f p) (QJ h (hp p (by simp))) λq hq=>hp q (by simp [hq])
theorem BO {ws:List Str} (hU:Ru ws):∀{l:List Nat},dC ws l->l.length<=(aK ws l).length
 |[],_=>zero_le _
 |c::l,h=>by
  obtain ⟨w,_,e,m⟩:=hU.word (h c (by simp)).2;have:=hU.one w m;rw[<-aS] at this;have ih:=BO hU (l:=l) λd hd=>h d (by simp [hd]);rw[aT,length_append,length_cons,e];lia
theorem fG {ws:List Str} (hU:Ru ws) {x:List Nat} (hx:dC ws x) (h1:1<=x.length) {j:Nat} (hj:j<(wd ws (x.headD 0)).length):(((aK ws x).drop j).take x.length).length=x.length:=by
 cases x with
 |nil=>simp at h1
 |cons c l=>
  have ih:=BO hU (l:=l) λd hd=>hx d (by simp [hd]);rw[length_take,length_drop,aT,length_append,length_cons];have hj':j<(wd ws c).length:=hj;lia
theorem LI {ws:List Str} (hU:Ru ws) {L:Nat} (hL:1<=L) {x:aV} (hx:x.1.length=L/\dC ws x.1/\x.2.length=ws.length):∀p∈chl ws x,p.1.length=L/\dC ws p.1/\p.2.length=ws.length:=λp hp=>by
 obtain ⟨j,hj,rfl⟩:=mem_map.mp hp;have hj':=mem_range.mp hj;refine ⟨?_,λc hc=>hx.2.1.img hU c (mem_of_mem_drop (mem_of_mem_take hc)),?_⟩
 ·have:=fG hU hx.2.1 (by lia) hj';rw[this];exact hx.1
 ·show (zipWith (·+·) (xW (rowsOf ws) x.2 1) _).length=_;rw[length_zipWith,uI hx.2.2,bO];lia
theorem fS {ws:List Str} (hU:Ru ws) {L:Nat} (hL:1<=L) {f0:List aV} (h0:qQ ws L f0):∀i,qQ ws L (aM ws f0 i)
 |0=>h0
 |i+1=>by
  have ih:=fS hU hL h0 i;show qQ ws L (match (aM ws f0 i)[i]? with|some x=>(chl ws x).foldl bH (aM ws f0 i)|none=>aM ws f0 i);cases e:(aM ws f0 i)[i]? with
  |none=>exact ih
  |some x=>exact uQ ih (LI hU hL (ih.ok x (mem_of_getElem? e)))
noncomputable def QI (f:List (List Nat)) (x:List Nat):List (List Nat):=if x∈f then f else f++[x]
theorem xS (f:List aV) (p:aV):bI (bH f p)=QI (bI f) p.1:=by
 unfold bH QI;split
 ·rfl
 ·rw[dN];rfl
noncomputable def oR (f:List aV) (as:List Addr):List (L2.Key × L2.V):=zipWith (λp a=>(Sum.inr (aG p.1),L2.V.ref a)) f as
theorem mX {x y:List Nat} (h:aG x=aG y):x=y:=by
 have:=congrArg ls h;rwa [aQ,aQ] at this
theorem oQ:∀{f:List aV} {as:List Addr} {x:List Nat},x∉bI f->L2.cZ (oR f as) (Sum.inr (aG x))=none
 |[],as,x,_=>by cases as<;>rfl
 |p::f,[],x,_=>rfl
 |p::f,a::as,x,h=>by
  have h1:¬(Sum.inr (aG p.1):L2.Key)=Sum.inr (aG x):=λe=>h (by
   have:=mX (Sum.inr.inj e)
   rw[<-this]
   exact mem_cons_self)
  show L2.cZ ((Sum.inr (aG p.1),L2.V.ref a)::oR f as) _=none;rw[L2.dX h1];exact oQ λz=>h (mem_cons_of_mem _ z)
theorem nC:∀{f:List aV} {as:List Addr} {i:Nat} {p:aV} {a:Addr},(bI f).Nodup->f[i]?=some p->as[i]?=some a->L2.cZ (oR f as) (Sum.inr (aG p.1))=some (.ref a)
 |[],as,i,p,a,_,h,_=>by simp at h
 |q::f,[],i,p,a,_,_,h=>by simp at h
 |q::f,b::as,0,p,a,_,h1,h2=>by
  cases h1;cases h2;exact L2.gL rfl
 |q::f,b::as,i+1,p,a,nd,h1,h2=>by
  have nd':(q.1::bI f).Nodup:=nd;obtain ⟨n1,n2⟩:=nodup_cons.mp nd';have hm:p.1∈bI f:=mem_map.mpr ⟨p,mem_of_getElem? (by simpa using h1),rfl⟩;have ne:¬(Sum.inr (aG q.1):L2.Key)=Sum.inr (aG p.1):=λe=>n1 (by
   have:=mX (Sum.inr.inj e)
   rw[this]
   exact hm)
  show L2.cZ ((Sum.inr (aG q.1),L2.V.ref b)::oR f as) _=_;rw[L2.dX ne];exact nC n2 (by simpa using h1) (by simpa using h2)
theorem ON {f:List aV} {as:List Addr} {x:List Nat} {v:L2.V} (h:x∉bI f):L2.putK (oR f as) (Sum.inr (aG x)) v=oR f as++[(Sum.inr (aG x),v)]:=by
 unfold L2.putK;rw[if_neg];rw[L2.jM,oQ h];simp
theorem OO {f:List aV} {as:List Addr} {p:aV} {a:Addr} (h:f.length=as.length):oR f as++[(Sum.inr (aG p.1),.ref a)]=oR (f++[p]) (as++[a]):=by
 unfold oR;rw[List.zipWith_append h];rfl
theorem nB {f:List aV} {as:List Addr} (h:f.length=as.length):(oR f as).length=f.length:=by
 unfold oR;rw[length_zipWith];lia
open PySem.Spec PyProof.Rows L2 L2.L3
theorem nX {z:Str} {n j:Nat} (h:n+j<=z.length):Txt.slice z (some ((n:Nat):Int)) (some ((n:Nat)+(j:Nat):Int))=aG (((ls z).drop n).take j):=by
 rw[show ((n:Nat):Int)+((j:Nat):Int)=(((n+j:Nat)):Int) by lia];refine fZ ?_;rw[aQ];have e:=beq_iff_eq.mp (slice_closes (x:=z) (i:=((n:Nat):Int)) (j:=(((n+j:Nat)):Int)) ⟨by lia,by lia,by rw[show z.cps.toList.length=z.length from aS z];lia⟩);rw[e];show ((ls z).drop ((n:Nat):Int).toNat).take ((((n+j:Nat)):Int) - ((n:Nat):Int)).toNat=_;rw[toNat_natCast,show ((((n+j:Nat)):Int) - ((n:Nat):Int)).toNat=j by lia]
section
variable {K:Fg}
noncomputable def dY (K:Fg):Sp:=λvs H Q _=>∃(a:Addr) (ws:List Str) (x:List Nat),vs=[.ref a,.str (aG x)]/\uV K H a ws/\Ru ws/\dC ws x/\1<=x.length/\x.length<=400/\
 ∀p H',aB H H'->H p=none->H' p=some (.lst ((gU ws x).map λy=>V.str (aG y)))->Q (.ref p) H'
noncomputable def cN (K:Fg):List (SX K):=
 [set 2 (call "put" (nV K) [var 0,var 1]),
  ret (comp (yR (var 1) (some (var 0)) (some (bin .Add (var 0) (len (var 2))))) (kJ 0) (tZ (len (call "put" (nV K) [var 0,yR (var 1) none (some (cst (.int 1)))])) []) ["place"] ["made","piece"] [2,1])]
theorem iN {ws:List Str} (hU:Ru ws):∀{l:List Nat},(aK ws l).length<=100 * l.length
 |[]=>zero_le _
 |c::l=>by
  have ih:=iN hU (l:=l);have:(wd ws c).length<=100:=by
   unfold wd;cases e:ws[c - 97]? with
   |none=>exact zero_le _
   |some w=>
    have:=hU.le w (mem_of_getElem? e);rw[<-aS] at this;exact this
  rw[aT,length_append,length_cons];lia
theorem aX (x:List Nat):(aG x).length=x.length:=by rw[<-aS,aQ]
theorem rN {ws:List Str} {x:List Nat} (h1:1<=x.length):img ws (Txt.slice (aG x) none (some 1))=aG (wd ws (x.headD 0)):=by
 rw[bZ]
 congr 1
 show aK ws (Txt.slice (aG x) none (some 1)).cps.toList=_;rw[bX (by decide)];show aK ws ((ls (aG x)).take 1)=_;rw[aQ];cases x with
 |nil=>simp at h1
 |cons c l=>
  show aK ws [c]=wd ws c;rw[aT];exact append_nil _
theorem jO:TT (dY K) (cN K) ["rule","piece","made"]:=by
 intro vs H Q E h;obtain ⟨a,ws,x,rfl,hR,hU,hx,h1,h4,q⟩:=h;have hW:eM ws.length (aG x):=hx.isW;have hil:=iN hU (l:=x);have hxl:=aX x;unfold cN;walk_at "";refine ⟨a,ws,aG x,rfl,hR,hU.le,hW,by lia,λH1 s1=>?_⟩;walk_at "";refine fK (small (by lia)) ?_;walk_at "";refine ⟨a,ws,_,rfl,hR.same s1,hU.le,hW.to (by decide),by have:=lG (aG x) none (some 1);lia,λH2 s2=>?_⟩;rw[rN h1];have hwl:(wd ws (x.headD 0)).length<=100:=by
  have:=iN hU (l:=[x.headD 0]);rw[aT] at this;simpa [aK] using this
 refine eU (small (by rw[aX];lia)) ?_;rw[aX];walk_at "";intro D hD;refine xK (λj=>V.str (aG (((aK ws x).drop j).take x.length))) hD (small (by lia)) (λj H3 Q' hj s3 fin=>?_) λH3 s3 hO=>?_
 ·rw[toNat_natCast] at hj;rw[show (0:Int)+((j:Nat):Int)=((j:Nat):Int) by lia];walk_at "";refine eU (small (by lia)) ?_;walk_at "";have pl:=fG hU hx h1 hj;rw[length_take,length_drop] at pl;refine fK (small (by rw[bZ,aX,aQ];lia)) ?_;rw[bZ,aQ,hxl,nX (by rw[aX];lia),aQ];exact fin H3 (aB.refl _)
 ·refine q D H3 ((s1.trans s2).trans s3) (none_of (s1.trans s2) hD) ?_;rw[hO,toNat_natCast];unfold gU;rw[map_map];rfl
end
end L2.Na
namespace L2.Na.Pr
open PySem PySem.Spec PyProof.Rows L2 L2.L3
section
variable {K:Fg}
structure YW (H:Hp) (d:Addr) (as:List Addr) (f:List aV):Prop where
 d:H d=some (.dK (oR f as))
 l:f.length=as.length
 v:∀(i:Nat) (a:Addr) (p:aV),as[i]?=some a->f[i]?=some p->H a=some (.lst (p.2.map V.int))
theorem YW.same {H H':Hp} {d:Addr} {as:List Addr} {f:List aV} (h:YW H d as f) (e:aB H H'):YW H' d as f:=⟨e _ _ h.d,h.l,λi a p x y=>e _ _ (h.v i a p x y)⟩
noncomputable def f0 (ws:List Str) (c L:Nat):List aV:=[(str ws c 0 L,replicate ws.length 0)]
noncomputable def bP (ws:List Str) (c L:Nat):List aV:=aM ws (f0 ws c L) 300
noncomputable def dD (K:Fg):Sp:=λvs H Q E=>
 (∃(a:Addr) (ws:List Str) (c L:Nat),vs=[.ref a,sgn c,.int (L:Nat)]/\1<=L/\L<=400/\Pl K H a ws c ((0+L - 1:Nat):Int)/\
  ((bP ws c L).length<=300->∀d as H',aB H H'->H d=none->(∀a∈as,H a=none)->YW H' d as (bP ws c L)->Q (.ref d) H')/\(300<(bP ws c L).length->TG K 300 H E))\/
 ∃(a:Addr) (ws:List Str) (c L:Nat),vs=[.ref a,sgn c,.int (L:Nat)]/\1<=L/\Em K H a ws c ((0+L - 1:Nat):Int) E
noncomputable def LV (K:Fg):List (SX K):=
 [wX (VI (var 11) (var 5)) [wX (cmp .Eq (len (var 4)) (YM "MOST_PIECES" (.int 300))) [yW "TooGreat" "self" "most" "most" (YM "MOST_PIECES" (.int 300))] [],
         ex (eD (var 4) (var 11)),
     put (var 5) (var 11) (call "added" (jW K) [var 9,call "counts" (iJ K) [yR (var 8) none (some (var 10)),len (var 0)]])] []]
noncomputable def SA (K:Fg):List (SX K):=
 [set 7 (ix (var 4) (var 6)),
   set 8 (call "put" (nV K) [var 0,yR (var 7) none (some (cst (.int 1)))]),
   set 9 (call "counts_behind" (cU K) [var 0,ix (var 5) (var 7),cst (.int 1)]),
   iR (CT [10,11]) (RU (call "pieces_of_image" (dY K) [var 0,var 7])) (LV K),
   set 6 (bin .Add (var 6) (cst (.int 1)))]
noncomputable def cO (K:Fg):List (SX K):=
 [set 3 (call "stretch_at" (bW K) [var 0,var 1,cst (.int 0),var 2]),
  set 4 (lst [var 3]),
  set 5 (Dr (var 3) (bin .Mult (lst [cst (.int 0)]) (len (var 0)))),
  set 6 (cst (.int 0)),
  YX (cmp .Lt (var 6) (len (var 4))) (SA K),
  ret (var 5)]
theorem oP:∀vs H Q E,dD K vs H Q E->vs.length=3:=by
 rintro vs H Q E (⟨_,_,_,_,rfl,_⟩|⟨_,_,_,_,rfl,_⟩)<;>rfl
theorem XD {ws:List Str} (h:Ru ws) {c:Nat} (h1:97<=c) (h2:c - 97<ws.length) (hg:aJ ws c=true) (i:Nat):97<=ew ws c i/\ew ws c i - 97<ws.length:=by
 have li:i<(wk ws c i).length:=by
  have a:=cQ h h1 h2 i;have b:=dH h h1 h2 hg i;lia
 exact dW h h1 h2 i _ (mem_of_getElem? (yB h h1 h2 hg li))
theorem bT {ws:List Str} (h:Ru ws) {c:Nat} (h1:97<=c) (h2:c - 97<ws.length) (hg:aJ ws c=true) (n m:Nat):dC ws (str ws c n m):=λd hd=>by
 unfold str at hd;obtain ⟨i,_,rfl⟩:=mem_map.mp hd;exact XD h h1 h2 hg _
theorem rR {ws:List Str} {c L:Nat} (hU:Ru ws) (h1:97<=c) (h2:c - 97<ws.length) (hg:aJ ws c=true):qQ ws L (f0 ws c L):=by
 refine ⟨nodup_cons.mpr ⟨by simp,List.nodup_nil⟩,λp hp=>?_⟩;have:p=(str ws c 0 L,replicate ws.length 0):=by simpa [f0] using hp
 subst this;exact ⟨str_len _ _ _ _,bT hU h1 h2 hg 0 L,length_replicate⟩
structure MH (K:Fg) (H H1:Hp) (R d:Addr) (as:List Addr) (f:List aV):Prop where
 s:aB H H1
 r:H1 R=some (.lst ((bI f).map λy=>V.str (aG y)))
 dc:YW H1 d as f
 nw:∀a∈as,H a=none/\a≠R/\a≠d
 l:f.length<=300
theorem MH.upd {H H1:Hp} {R d:Addr} {as:List Addr} {f:List aV} {b:Addr} {o:HO} (h:MH K H H1 R d as f) (nb:H1 b=none):MH K H (upd H1 b o) R d as f:=
 ⟨h.s.trans (aE nb _),aE nb _ _ _ h.r,h.dc.same (aE nb _),h.nw,h.l⟩
theorem qW {ps:List aV} {f:List aV} {j:Nat} {p:aV} (h:ps[j]?=some p):(ps.take (j+1)).foldl bH f=bH ((ps.take j).foldl bH f) p:=by
 rw[take_add_one,h,List.foldl_append];rfl
theorem uG {ws:List Str} {x:aV} {j:Nat} (h:j<(wd ws (x.1.headD 0)).length):(chl ws x)[j]?=some (((aK ws x.1).drop j).take x.1.length,zipWith (·+·) (xW (rowsOf ws) x.2 1) (aW ws.length (aG ((wd ws (x.1.headD 0)).take j)))):=by
 unfold chl;rw[getElem?_map,getElem?_range h];rfl
theorem CB {ws:List Str} {x:aV}:(chl ws x).length=(wd ws (x.1.headD 0)).length:=by
 unfold chl;rw[length_map,length_range]
theorem zV {f:List aV} {as:List Addr} {y:List Nat} (nd:(bI f).Nodup) (l:f.length=as.length):(cZ (oR f as) (Sum.inr (aG y))).isSome=decide (y∈bI f):=by
 by_cases h:y∈bI f
 ·obtain ⟨p,hp,rfl⟩:=mem_map.mp h;obtain ⟨i,hi⟩:=getElem?_of_mem hp;have hl:i<as.length:=by have:=(List.getElem?_eq_some_iff.mp hi).1;lia
  rw[nC nd hi (getElem?_eq_getElem hl),decide_eq_true h];rfl
 ·rw[oQ h,decide_eq_false h];rfl
theorem ZK {D:Ends} {E:XK} {H H1 H2:Hp} {a R d p b:Addr} {ws:List Str} {L j:Nat} {x:aV} {f:List aV} {as:List Addr} {v1 v2 v3 v6 v7:Option V} (hR:uV K H a ws) (hU:Ru ws) (hx:x.1.length=L/\dC ws x.1/\x.2.length=ws.length) (h1:1<=L) (h4:L<=400) (ok:qQ ws L f) (nR:H R=none) (nd:H d=none) (Rd:R≠d)
  (I:MH K H H2 R d as f) (hj:j<(wd ws (x.1.headD 0)).length) (hb:H2 b=some (.lst ((xW (rowsOf ws) x.2 1).map V.int))) (bR:b≠R) (bd:b≠d)
  (big:300<(bH f (((aK ws x.1).drop j).take x.1.length,zipWith (·+·) (xW (rowsOf ws) x.2 1) (aW ws.length (aG ((wd ws (x.1.headD 0)).take j))))).length->TG K 300 H E)
  (q:∀as' H3,(∀c o,c≠R->c≠d->H2 c=some o->H3 c=some o)->MH K H H3 R d as' (bH f (((aK ws x.1).drop j).take x.1.length,zipWith (·+·) (xW (rowsOf ws) x.2 1) (aW ws.length (aG ((wd ws (x.1.headD 0)).take j)))))->D.nx [some (.ref a),v1,v2,v3,some (.ref R),some (.ref d),v6,v7,some (.str (aG (wd ws (x.1.headD 0)))),some (.ref b),some (.int (j:Nat)),some (.str (aG (((aK ws x.1).drop j).take x.1.length)))] H3):
  lW (LV K) (λ_=>E) D [some (.ref a),v1,v2,v3,some (.ref R),some (.ref d),v6,v7,some (.str (aG (wd ws (x.1.headD 0)))),some (.ref b),some (.int (j:Nat)),some (.str (aG (((aK ws x.1).drop j).take x.1.length)))] H2:=by
 have h4w:=hU.four;obtain ⟨y,hy⟩:∃y,y=((aK ws x.1).drop j).take x.1.length:=⟨_,rfl⟩;obtain ⟨cs,hcs⟩:∃cs,cs=zipWith (·+·) (xW (rowsOf ws) x.2 1) (aW ws.length (aG ((wd ws (x.1.headD 0)).take j))):=⟨_,rfl⟩;rw[<-hy,<-hcs] at big q;rw[<-hy];have hwl:(wd ws (x.1.headD 0)).length<=100:=by
  have:=iN hU (l:=[x.1.headD 0]);rw[aT] at this;simpa [aK] using this
 unfold LV;walk_at "";refine JI ?_;walk_at "";refine ⟨d,_,rfl,dR.k (k:=Sum.inr (aG y)) I.dc.d,_,rfl,?_⟩;rw[zV ok.nd I.dc.l];by_cases hm:y∈bI f
 ·rw[decide_eq_true hm];refine uJ ?_;walk_at "";have e:bH f (y,cs)=f:=if_pos hm;rw[e] at q;exact q as H2 (λc o _ _ e=>e) I
 ·rw[decide_eq_false hm];refine He ?_;have e:bH f (y,cs)=f++[(y,cs)]:=if_neg hm;rw[e] at q big;have hRl:aR K H2 R ((bI f).map λy=>V.str (aG y)):=aR.of I.r;have hlen:((bI f).map λy=>V.str (aG y)).length=f.length:=by rw[length_map,iL]
  walk_at "";rw[hlen];refine gI (λc=>?_) λc=>?_
  ·walk_at "";refine wZ ?_;walk_at "";intro dx ndx;exact big (by rw[length_append];simp;lia) _ dx (I.s.trans (aE ndx _)) aA
  ·have fl:f.length<300:=by have:=I.l;lia
   walk_at "";refine KC hRl ?_;walk_at "";refine fL I.r (Nat.lt_of_lt_of_le (show _<5000 by rw[hlen];lia) (small (by decide))) ?_;walk_at "";refine RM ?_;have k3:∀c o,c≠R->H2 c=some o->(upd H2 R (.lst (((bI f).map λy=>V.str (aG y))++[V.str (aG y)]))) c=some o:=λc o hc e=>by rw[aF hc];exact e
   have S3:aB H (upd H2 R (.lst (((bI f).map λy=>V.str (aG y))++[V.str (aG y)]))):=dZ I.s nR;have r3:(upd H2 R (.lst (((bI f).map λy=>V.str (aG y))++[V.str (aG y)]))) R=some (.lst ((bI (f++[(y,cs)])).map λy=>V.str (aG y))):=by
    rw[aA,dN,map_append];rfl
   revert k3 S3 r3;generalize upd H2 R (.lst (((bI f).map λy=>V.str (aG y))++[V.str (aG y)]))=H3;intro k3 S3 r3;walk_at "";have wl:(aG (wd ws (x.1.headD 0))).length=(wd ws (x.1.headD 0)).length:=aX _;refine fK (small (by lia)) ?_;have htp3:=(hR.same S3).tp;walk_at "";refine ⟨_,_,rfl,by lia,by rw[length_map];lia,λr H4 s4 nr hr=>?_⟩;rw[length_map,toNat_natCast] at hr;have esl:Txt.slice (aG (wd ws (x.1.headD 0))) none (some ((j:Nat):Int))=aG ((wd ws (x.1.headD 0)).take j):=by
    refine fZ ?_;show (Txt.slice (aG (wd ws (x.1.headD 0))) none (some ((j:Nat):Int))).cps.toList=_;rw[bX (by lia),toNat_natCast,aQ];show (ls (aG (wd ws (x.1.headD 0)))).take j=_;rw[aQ]
   rw[esl] at hr;walk_at "";refine ⟨b,r,_,_,rfl,s4 _ _ (k3 _ _ bR hb),hr,by rw[uI hx.2.2];lia,λt H5 s5 nt ht=>?_⟩;rw[<-hcs] at ht;walk_at "";have s45:=s4.trans s5;have hd5:H5 d=some (.dK (oR f as)):=s45 _ _ (k3 _ _ Rd.symm I.dc.d);refine .inr ⟨d,_,rfl,FL.k (k:=Sum.inr (aG y)) hd5 (by rw[nB I.dc.l];exact Nat.lt_of_lt_of_le fl (small (by decide))),?_⟩;rw[ON hm,OO (p:=(y,cs)) I.dc.l];walk_at "";have tR:t≠R:=(aD (s4 _ _ r3) nt).symm;have td:t≠d:=(aD (s4 _ _ (k3 _ _ Rd.symm I.dc.d)) nt).symm;have nt0:H t=none:=none_of (S3.trans s4) nt;refine q (as++[t]) _ (λc o c1 c2 e=>by rw[aF c2];exact s45 _ _ (k3 _ _ c1 e)) ⟨dZ (S3.trans s45) nd,?_,⟨aA,by rw[length_append,length_append,I.dc.l];rfl,λi a' p' g1 g2=>?_⟩,λa' ha'=>?_,by rw[length_append];simp;lia⟩
   ·rw[aF Rd];exact s45 _ _ r3
   ·by_cases hi:i<as.length
    ·rw[getElem?_append_left hi] at g1;rw[getElem?_append_left (by have:=I.dc.l;lia)] at g2;obtain ⟨_,n2,n3⟩:=I.nw a' (mem_of_getElem? g1);rw[aF n3];exact s45 _ _ (k3 _ _ n2 (I.dc.v i a' p' g1 g2))
    ·rw[getElem?_append_right (by lia)] at g1;rw[getElem?_append_right (by have:=I.dc.l;lia)] at g2;have e1:a'=t:=by
      have:=mem_of_getElem? g1;simpa using this
     have e2:p'=(y,cs):=by
      have:=mem_of_getElem? g2;simpa using this
     subst e1 e2;rw[aF td];exact ht
   ·rcases mem_append.mp ha' with h|h
    ·exact I.nw a' h
    ·have:a'=t:=by simpa using h
     subst this;exact ⟨nt0,tR,td⟩
theorem fF {ws:List Str} {f:List aV} {i:Nat} {x:aV} (h:(aM ws f i)[i]?=some x):aM ws f (i+1)=(chl ws x).foldl bH (aM ws f i):=by
 show (match (aM ws f i)[i]? with|some x=>(chl ws x).foldl bH (aM ws f i)|none=>aM ws f i)=_;rw[h]
theorem MP (ps f:List aV) (j:Nat):((ps.take j).foldl bH f).length<=(ps.foldl bH f).length:=by
 have e:ps.foldl bH f=(ps.drop j).foldl bH ((ps.take j).foldl bH f):=by rw[<-List.foldl_append,take_append_drop]
 obtain ⟨t,g⟩:=kZ (ps.drop j) ((ps.take j).foldl bH f);rw[e,g,length_append];lia
theorem nM:TT (dD K) (cO K) ["rule","start","length","first","found","ahead","done","piece","word","base","place","met"]:=by
 intro vs H Q E h;rcases h with ⟨a,ws,c,L,rfl,h1,hL4,hP,q,tg⟩|⟨a,ws,c,L,rfl,h1,hB⟩
 ·have hU:=hP.ru;have hR:=hP.rt;have h4:=hU.four;have p1:=hU.pos;have ok0:qQ ws L (f0 ws c L):=rR hU hP.c1 hP.c2 hP.gr;have okA:=λi=>fS hU h1 ok0 i;unfold cO;walk_at "";refine .inl ⟨a,ws,c,0,L,rfl,hP,h1,by lia,λH1 s1=>?_⟩;walk_at "";refine ⟨by show 1<=sizeLine;decide,λR nR=>?_⟩;have s2:=aE nR (.lst [V.str (aG (str ws c 0 L))]);walk_at "";refine WT λd nd=>?_;have s3:=aE nd (.dK []);walk_at "";refine ⟨by show 1<=sizeLine;decide,λz nz=>?_⟩;have s4:=aE nz (.lst [V.int 0]);have hS4:=((s1.trans s2).trans s3).trans s4;have htp:=(hR.same hS4).tp;walk_at "";rw[length_map];refine wY (xs:=[V.int 0]) aA ⟨by lia,by lia⟩ (small (by show 1 * _<=_;lia)) λu nu=>?_;rw[toNat_natCast];have er:(replicate ws.length [V.int 0]).flatten=(replicate ws.length (0:Int)).map V.int:=by
   rw[map_replicate];induction ws.length with
   |zero=>rfl
   |succ n ih=>rw[replicate_succ,replicate_succ,flatten_cons,ih];rfl
  rw[er];have s5:=aE nu (.lst ((replicate ws.length (0:Int)).map V.int));refine PK (k:=Sum.inr (aG (str ws c 0 L))) (s5 _ _ (s4 _ _ aA)) ?_;have nR0:H R=none:=none_of s1 nR;have nd0:H d=none:=none_of (s1.trans s2) nd;have Rd:R≠d:=aD aA nd;have uR:u≠R:=(aD (s4 _ _ (s3 _ _ aA)) nu).symm;have ud:u≠d:=(aD (s4 _ _ aA) nu).symm;have nu0:H u=none:=none_of hS4 nu;have I0:MH K H (upd (upd (upd (upd (upd H1 R (.lst [V.str (aG (str ws c 0 L))])) d (.dK [])) z (.lst [V.int 0])) u (.lst ((replicate ws.length (0:Int)).map V.int))) d (.dK [(Sum.inr (aG (str ws c 0 L)),V.ref u)])) R d [u] (f0 ws c L):=by
   refine ⟨dZ (hS4.trans s5) nd0,?_,⟨aA,rfl,λi a' p' g1 g2=>?_⟩,λa' ha'=>?_,by show 1<=300;decide⟩
   ·rw[aF Rd];exact s5 _ _ (s4 _ _ (s3 _ _ aA))
   ·match i,g1,g2 with
    |0,g1,g2=>
     cases g1;cases g2;rw[aF ud];exact aA
    |i+1,g1,g2=>simp at g1
   ·have:a'=u:=by simpa using ha'
    subst this;exact ⟨nu0,uR,ud⟩
  revert I0;generalize upd (upd (upd (upd (upd H1 R (.lst [V.str (aG (str ws c 0 L))])) d (.dK [])) z (.lst [V.int 0])) u (.lst ((replicate ws.length (0:Int)).map V.int))) d (.dK [(Sum.inr (aG (str ws c 0 L)),V.ref u)])=H5;intro I0;walk_at "";refine nA (λm σ H2=>∃(i:Nat) (as:List Addr) (b7 b8 b9 b10 b11:Option V),σ=[some (.ref a),some (sgn c),some (.int (L:Nat)),some (.str (aG (str ws c 0 L))),some (.ref R),some (.ref d),some (.int (i:Nat)),b7,b8,b9,b10,b11]/\m=300 - i/\i<=(aM ws (f0 ws c L) i).length/\MH K H H2 R d as (aM ws (f0 ws c L) i)) (m:=300) ⟨0,[u],none,none,none,none,none,rfl,rfl,zero_le _,I0⟩ ?_;rintro m σ H2 ⟨i,as,b7,b8,b9,b10,b11,rfl,rfl,hi,I⟩;have hRl:aR K H2 R ((bI (aM ws (f0 ws c L) i)).map λy=>V.str (aG y)):=aR.of I.r;have hlen:((bI (aM ws (f0 ws c L) i)).map λy=>V.str (aG y)).length=(aM ws (f0 ws c L) i).length:=by rw[length_map,iL]
  walk_at "";rw[hlen];have Il:=I.l;refine gI (λcc=>?_) λcc=>?_
  ·have hil:i<(aM ws (f0 ws c L) i).length:=by lia
   obtain ⟨x,hx⟩:∃x,(aM ws (f0 ws c L) i)[i]?=some x:=⟨_,getElem?_eq_getElem hil⟩;have okx:=(okA i).ok x (mem_of_getElem? hx);obtain ⟨ax,hax⟩:∃ax,as[i]?=some ax:=⟨_,getElem?_eq_getElem (by have:=I.dc.l;lia)⟩;have hxl:=aX x.1;have hwl:(wd ws (x.1.headD 0)).length<=100:=by
    have:=iN hU (l:=[x.1.headD 0]);rw[aT] at this;simpa [aK] using this
   refine AO ?_;unfold SA;walk_at "";refine kO (v:=.str (aG x.1)) hRl (cF (by unfold bI;rw[getElem?_map,getElem?_map,hx];rfl)) ?_;walk_at "";refine fK (small (by lia)) ?_;walk_at "";refine ⟨a,ws,_,rfl,hR.same I.s,hU.le,okx.2.1.isW.to (by decide),by have:=lG (aG x.1) none (some 1);lia,λH3 s3=>?_⟩;rw[rN (by lia)];have I3:MH K H H3 R d as (aM ws (f0 ws c L) i):=⟨I.s.trans s3,s3 _ _ I.r,I.dc.same s3,I.nw,I.l⟩;walk_at "";refine iW (v:=.ref ax) (by
    have:=dR.k (k:=Sum.inr (aG x.1)) I3.dc.d
    rw[nC (okA i).nd hx hax] at this
    exact this) ?_
   walk_at "";refine ⟨a,ax,ws,_,1,rfl,hR.same I3.s,I3.dc.v i ax x hax hx,okx.2.2,λw hw=>by have:=hU.le w hw;lia,by decide,by decide,λb H4 s4 nb hb=>?_⟩;have I4:MH K H H4 R d as (aM ws (f0 ws c L) i):=⟨I3.s.trans s4,s4 _ _ I3.r,I3.dc.same s4,I3.nw,I3.l⟩;have bR:b≠R:=(aD I3.r nb).symm;have bd:b≠d:=(aD I3.dc.d nb).symm;replace hb:H4 b=some (.lst ((xW (rowsOf ws) x.2 1).map V.int)):=hb;walk_at "";refine WR ?_;walk_at "";refine ⟨a,ws,x.1,rfl,hR.same I4.s,hU,okx.2.1,by lia,by lia,λp H5 s5' np hp=>?_⟩;have I5:MH K H H5 R d as (aM ws (f0 ws c L) i):=⟨I4.s.trans s5',s5' _ _ I4.r,I4.dc.same s5',I4.nw,I4.l⟩;have pR:p≠R:=(aD I4.r np).symm;have pd:p≠d:=(aD I4.dc.d np).symm;walk_at "";refine PJ hp ?_;have hpl:((gU ws x.1).map λy=>V.str (aG y)).length=(wd ws (x.1.headD 0)).length:=by unfold gU;rw[length_map,length_map,length_range]
   have i300:i+1<=300:=by lia
   refine EA (xs:=(gU ws x.1).map λy=>V.str (aG y)) (λj σ H6=>∃(as':List Addr) (b10 b11:Option V),σ=[some (.ref a),some (sgn c),some (.int (L:Nat)),some (.str (aG (str ws c 0 L))),some (.ref R),some (.ref d),some (.int (i:Nat)),some (.str (aG x.1)),some (.str (aG (wd ws (x.1.headD 0)))),some (.ref b),b10,b11]/\(∀e o,e≠R->e≠d->H5 e=some o->H6 e=some o)/\MH K H H6 R d as' (((chl ws x).take j).foldl bH (aM ws (f0 ws c L) i)))
    ⟨as,b10,b11,rfl,λe o _ _ g=>g,I5⟩ (λj σ6 H6 ⟨_,_,_,_,kp,_⟩=>kp _ _ pR pd hp) (λj σ6 H6 e o ⟨as',c10,c11,g,kp,J⟩ ne=>⟨as',c10,c11,g,λe' o' n1 n2 g'=>by rw[aF (aD (kp e' o' n1 n2 g') ne)];exact kp e' o' n1 n2 g',J.upd ne⟩) (λj y σ6 H6 hy hP6=>?_) λσ6 H6 hP6=>?_
   ·obtain ⟨as',c10,c11,rfl,kp,J⟩:=hP6;have hj:j<(wd ws (x.1.headD 0)).length:=by have:=(List.getElem?_eq_some_iff.mp hy).1;lia
    have hyv:y=V.str (aG (((aK ws x.1).drop j).take x.1.length)):=by
     unfold gU at hy;rw[getElem?_map,getElem?_map,getElem?_range hj] at hy;exact (Option.some.inj hy).symm
    subst hyv;have ef:=qW (f:=aM ws (f0 ws c L) i) (uG hj);refine ZK (H1:=H5) (p:=p) hR hU okx h1 hL4 (uQ (okA i) λp hp=>LI hU h1 okx p (mem_of_mem_take hp)) nR0 nd0 Rd J hj (kp _ _ bR bd (s5' _ _ hb)) bR bd (λhbig=>tg ?_) λas2 H7 k7 J7=>?_
    ·rw[<-ef] at hbig;have l1:=MP (chl ws x) (aM ws (f0 ws c L) i) (j+1);rw[<-fF hx] at l1;have l2:=AW ws (f0 ws c L) i300;show 300<(aM ws (f0 ws c L) 300).length;lia
    ·refine ⟨as2,_,_,rfl,λe o n1 n2 g=>k7 e o n1 n2 (kp e o n1 n2 g),?_⟩;rw[ef];exact J7
   ·obtain ⟨as',c10,c11,rfl,kp,J⟩:=hP6;rw[hpl,<-CB,take_of_length_le (Nat.le_refl _),<-fF hx] at J;walk_at "";refine ⟨300 - (i+1),by lia,i+1,as',some (.str (aG x.1)),some (.str (aG (wd ws (x.1.headD 0)))),some (.ref b),c10,c11,?_,rfl,?_,J⟩
    ·rw[show ((i:Nat):Int)+1=((i+1:Nat):Int) by lia];rfl
    ·have:=AW ws (f0 ws c L) (show i<=i+1 by lia);lia
  ·walk_at "";have hie:(aM ws (f0 ws c L) i).length<=i:=by lia
   have eA:bP ws c L=aM ws (f0 ws c L) i:=by
    have:=jS ws (f0 ws c L) hie (300 - i);rw[show i+(300 - i)=300 by lia] at this;exact this
   rw[eA] at q;exact q Il d as H2 I.s nd0 (λa' ha'=>(I.nw a' ha').1) I.dc
 ·unfold cO;walk_at "";exact .inr ⟨a,ws,c,0,L,rfl,h1,hB⟩
end
end L2.Na.Pr
namespace L2.Na.Mx
section
variable {R:Nat->Nat->Prop}
end
section
variable {R:Nat->Nat->Prop} {n:Nat}
end
end L2.Na.Mx
namespace L2.Na
open PySem PySem.Spec PyProof.Rows L2 L2.L3
noncomputable def MB (X:Cx) (p:Addr) (zs:List Str):Heap->Prop:=λh=>eI X.prog X.w (uU X.w) h p zs
theorem jK:∀{vs:List Value} {ss:List Str},StrsAre vs ss->Vals (ss.map V.str) vs
 |_,_,.nil=>.nil
 |_,_,.cons x t h=>.cons ⟨t,rfl⟩ (jK h)
section
variable {K:Fg}
noncomputable def Fy (a:EX K) (C:Sc):Expr->Bool
 | .Call (.Name y _) [.Call (.Name y2 _) es [] _] [] _=>(C.cm&&qL C "sorted" y)&&(qL C "set" y2&&kL [a] C es)
 |_=>false
theorem JB {a:EX K} {C:Sc} {e:Expr} (h:Fy a C e=true):∃y p y2 p2 es q2 q,e=.Call (.Name y p) [.Call (.Name y2 p2) es [] q2] [] q/\C.cm=true/\qL C "sorted" y=true/\qL C "set" y2=true/\kL [a] C es=true:=by
 unfold Fy at h;split at h
 ·simp only [and_eq_true] at h;exact ⟨_,_,_,_,_,_,_,rfl,h.1.1,h.1.2,h.2.1,h.2.2⟩
 ·cases h
end
noncomputable def HI (X:Cx):List V->Hp->VK->Prop:=λvs H Q=>∃(p0:Addr) (ns:List Str),vs=[.ref p0]/\H p0=some (.lst (ns.map V.str))/\ns.length+1<scanBound/\∀p zs,H p=none->(∀y,y∈zs↔y∈ns)->zs.Nodup->Q (.ref p) (upd H p (.ext (MB X p zs)))
theorem HB (X:Cx) (hc:X.calm=true):cD X (.type "set") (HI X):=by
 intro pins s σ H xs us Q I r h;obtain ⟨p0,ns,rfl,hp0,hb,q⟩:=h;obtain ⟨u,rfl,ru⟩:=r.one;obtain rfl:u=Value.ref p0:=ru;obtain ⟨hz,its,n1,k1,l1,g1⟩:=I.lstM hp0;have hl:s.heap.IsList p0 its.toArray:=⟨_,g1,rfl,n1,rfl⟩;have hlen:its.length=ns.length:=by rw[<-k1.length,length_map]
 refine yV (ns:=ns) (I.ok.hd hc) hl (by rw[size_toArray];exact hlen) (λi v hi hv=>?_) (by rw[size_toArray,hlen];exact hb) λh' tk zs hS hm kp=>?_
 ·have hi2:i<its.toArray.size:=by rw[size_toArray];lia
  obtain ⟨x,e1,q1⟩:=jL k1 hi2;rw[getElem?_map,getElem?_eq_getElem hi] at e1;cases e1;obtain ⟨t,e⟩:=q1;refine ⟨t,?_⟩;rw[getElem?_pos _ i hi2] at hv;cases hv;exact e
 ·have hg:∃o,h'.get? s.heap.objs.size=some o:=by
   obtain ⟨o,_,_,_,ho,_⟩:=hS;exact ⟨o,ho⟩
  have nd:zs.Nodup:=by
   obtain ⟨_,_,_,_,_,_,_,_,rfl,nd,_⟩:=id hS;exact nd
  exact ⟨.ref _,_,I.laid (t':=tk) (o:=.ext (MB X s.heap.objs.size zs)) kp (Nat.le_refl _) ⟨hS,hg,λh1 h2 x k=>eI.keep x k⟩,rfl,q _ zs I.fresh hm nd⟩
noncomputable def TQ (X:Cx):List V->Hp->VK->Prop:=λvs H Q=>∃(p:Addr) (zs:List Str),vs=[.ref p]/\H p=some (.ext (MB X p zs))/\zs.length<=sizeLine/\∀D ss,H D=none->List.Perm ss zs->ss.Nodup->sortedS ss=true->Q (.ref D) (upd H D (.lst (ss.map V.str)))
theorem GV (X:Cx) (hc:X.calm=true):cD X (.builtin "sorted") (TQ X):=by
 intro pins s σ H xs us Q I r h;obtain ⟨p,zs,rfl,hp,h64,q⟩:=h;obtain ⟨u,rfl,ru⟩:=r.one;obtain rfl:u=Value.ref p:=ru;have hS:eI X.prog X.w (uU X.w) s.heap p zs:=(show aZ X.prog X.w H s.heap p (.ext (MB X p zs)) from I.hok p _ hp).1;have nd:zs.Nodup:=by
  obtain ⟨_,_,_,_,_,_,_,_,rfl,nd,_⟩:=hS;exact nd
 refine tD (I.ok.hd hc) hS h64 λs' D vs ss e kp le hD hs pm st eg eo=>?_;obtain ⟨h',g',d',tk',os'⟩:=s';have eg':g'=s.gens:=eg;have eo':os'=s.os:=eo;subst eg' eo';have fr:H D=none:=I.hok.fresh le;have I1:Inv X pins σ (upd H D (.lst (ss.map V.str))) {s with heap:=h',toks:=tk'}:=I.laid (t':=tk') (o:=.lst (ss.map V.str)) kp le ⟨by rw[length_map,pm.length_eq];exact h64,vs,e,jK hs,hD⟩;exact ⟨.ref D,_,⟨I1.ok,I1.os,I1.bare,I1.base,I1.loc,I1.cell,I1.free,I1.freeC,I1.pin,I1.hok,I1.len⟩,rfl,q D ss fr pm (pm.nodup_iff.mpr nd) st⟩
noncomputable def RC (x:V) (H:Hp) (Q:VK):Prop:=∃(p:Addr) (ns:List Str),x=.ref p/\H p=some (.lst (ns.map V.str))/\ns.length<=4000/\∀D ss H',aB H H'->H D=none->(∀y,y∈ss↔y∈ns)->ss.Nodup->sortedS ss=true->H' D=some (.lst (ss.map V.str))->Q (.ref D) H'
noncomputable def yX:List V->Hp->VK->Prop
 |[x],H,Q=>RC x H Q
 |_,_,_=>False
theorem DV {zs ns:List Str} (nd:zs.Nodup) (h:∀y,y∈zs↔y∈ns):zs.length<=ns.length:=by
 refine Nodup.length_le_of_subset nd λy hy=>(h y).mp hy
section
variable {K:Fg}
noncomputable def ZU (a:EX K):EX K:=mM (λE=>ZR yX (fQ [a] E)) (Fy a) (λR=>tM [a] R/\True) .pl
 (λX C E e hK G hE hq hm=>by
  subst hK
  obtain ⟨y,p,y2,p2,es,q2,q,rfl,hcm,h1,h2,h3⟩:=JB hm
  have e1:=cJ h1
  have e2:=cJ h2
  subst e1 e2
  obtain ⟨g1,d1⟩:=cI G h1
  obtain ⟨g2,d2⟩:=cI G h2
  have calm:=G.calm hcm
  cases es with
  |nil=>cases h3
  |cons e0 es=>
   intro pins s σ H Q I h
   have inner:PE X (.Call (.Name "set" p2) (e0::es) [] q2) (λσ H Q2=>fQ [a] E σ H (λvs H1=>yX vs H1 Q)/\∀vs H1,yX vs H1 Q->HI X vs H1 Q2):=by
    intro pins s σ H Q2 I ⟨k1,k2⟩
    refine wpAny_Call_Name_kw (eS I g2 (G.bl _ (by decide+kernel)) PyProof.Rows.Boot.set ?_ (by decide+kernel) d2)
    exact PyProof.Rows.callWith_type1 (bS (eG G hE [a] (e0::es) hq.1 h3 q2 pins s σ H _ I k1) λus s1 ⟨vs,H1,I1,r1,z1⟩=>HB X calm pins s1 σ H1 vs us Q2 I1 r1 (k2 vs H1 z1)) (bB (a.sok C e0 (aH h3).1)) (bK [] es (aH h3).2)
   refine wC (GV X calm) g1 (G.bl _ (by decide+kernel)) PyProof.Rows.Boot.sorted (BH inner HZ) (by decide+kernel) d1 rfl rfl pins s σ H Q I ⟨h,λvs H1 z1=>?_⟩
   match vs,z1 with
   |[x],⟨p0,ns,ex,hp0,b4,fin⟩=>
    refine ⟨p0,ns,by rw[ex],hp0,by show ns.length+1<4096;lia,λp zs fr hm nd=>?_⟩
    refine ⟨p,zs,rfl,aA,Nat.le_trans (DV nd hm) (Nat.le_trans b4 (by rw[sizeLine_eq];decide)),λD ss frD pm nds st=>?_⟩
    have s1:=aE fr (.ext (MB X p zs))
    exact fin D ss _ (s1.trans (aE frD _)) (none_of s1 frD) (λy=>by rw[pm.mem_iff];exact hm y) nds st aA)
 (λC e hm=>by
  obtain ⟨y,p,y2,p2,es,q2,q,rfl,_⟩:=JB hm
  exact ⟨rfl,rfl⟩)
theorem WE {E:XS} {σ:St} {H:Hp} {Q:VK} {a:EX K} (h:a.t E σ H λx H1=>RC x H1 Q):(ZU a).t E σ H Q:=h
theorem GU {x y:Str} (h:x.cps.toList=y.cps.toList):x=y:=by
 cases x;cases y
 congr
 exact ext' h
noncomputable def Ec (l:List Str):Prop:=l.Pairwise λa b=>¬b.cps.toList<a.cps.toList
theorem HG:∀(p:Str) (l:List Str),risingS p l=true->Ec (p::l)
 |p,[],_=>pairwise_singleton _ _
 |p,x::l,h=>by
  have h:(!ltCps x.cps.toList p.cps.toList&&risingS x l)=true:=h;rw[and_eq_true,not_eq_true',ltCps_eq] at h;have ih:=HG x l h.2;have h1:¬x.cps.toList<p.cps.toList:=of_decide_eq_false h.1;refine pairwise_cons.mpr ⟨λy hy=>?_,ih⟩;rcases mem_cons.mp hy with e|hy
  ·rw[e];exact h1
  ·have h2:=(pairwise_cons.mp ih).1 y hy;exact not_lt.mpr (List.le_trans (not_lt.mp h1) (not_lt.mp h2))
theorem yP {ss:List Str} (h:sortedS ss=true):Ec ss:=by
 cases ss with
 |nil=>exact Pairwise.nil
 |cons x l=>exact HG x l h
theorem vT:∀{ss ns:List Str},ss.Nodup->ns.Nodup->(∀y,y∈ss↔y∈ns)->Ec ss->Ec ns->ss=ns
 |[],[],_,_,_,_,_=>rfl
 |[],y::l,_,_,h,_,_=>nomatch (h y).mpr mem_cons_self
 |y::l,[],_,_,h,_,_=>nomatch (h y).mp mem_cons_self
 |x::l,y::r,n1,n2,h,s1,s2=>by
  have e:x=y:=by
   rcases mem_cons.mp ((h x).mp mem_cons_self) with e|hx
   ·exact e
   ·rcases mem_cons.mp ((h y).mpr mem_cons_self) with e|hy
    ·exact e.symm
    ·have a:=(pairwise_cons.mp s1).1 y hy;have b:=(pairwise_cons.mp s2).1 x hx;exact GU (List.le_antisymm (not_lt.mp a) (not_lt.mp b))
  subst e;have n1':=nodup_cons.mp n1;have n2':=nodup_cons.mp n2;refine congrArg _ (vT n1'.2 n2'.2 (λz=>?_) (pairwise_cons.mp s1).2 (pairwise_cons.mp s2).2);constructor
  ·intro hz;rcases mem_cons.mp ((h z).mp (mem_cons_of_mem _ hz)) with e|g
   ·rw[e] at hz;exact absurd hz n1'.1
   ·exact g
  ·intro hz;rcases mem_cons.mp ((h z).mpr (mem_cons_of_mem _ hz)) with e|g
   ·rw[e] at hz;exact absurd hz n2'.1
   ·exact g
end
end L2.Na
namespace L2.Na.K41
open PySem PySem.Spec PyProof.Rows L2 L2.L3
section
variable {ws:List Str} (hU:Ru ws)
include hU
end
end L2.Na.K41
namespace L2.Na
open PySem L2.Na.K41
end L2.Na
namespace L2.Na.Pr
open PySem L2.Na.K41
theorem pU:∀{ps f:List aV} {p:aV},p∈ps->p.1∈bI (ps.foldl bH f)
 |[],f,p,h=>by cases h
 |q::ps,f,p,h=>by
  rw[foldl_cons];rcases mem_cons.mp h with rfl|h
  ·obtain ⟨t,e⟩:=kZ ps (bH f p);rw[e,dN];refine mem_append_left _ ?_;rw[xS];unfold QI;split
   ·assumption
   ·exact mem_append_right _ mem_cons_self
  ·exact pU h
theorem sI:∀{ps f:List aV} {y:List Nat},y∈bI (ps.foldl bH f)->y∈bI f\/y∈bI ps
 |[],f,y,h=>.inl h
 |q::ps,f,y,h=>by
  rw[foldl_cons] at h;rcases sI h with h|h
  ·rw[xS] at h;unfold QI at h;split at h
   ·exact .inl h
   ·rcases mem_append.mp h with h|h
    ·exact .inl h
    ·exact .inr (by rw[mem_singleton.mp h];exact mem_cons_self)
  ·exact .inr (mem_cons_of_mem _ h)
theorem vJ {ws:List Str} {f0:List aV} {i k:Nat} (h:i<=k) {y:List Nat} (hy:y∈bI (aM ws f0 i)):y∈bI (aM ws f0 k):=by
 obtain ⟨t,e⟩:=cR ws f0 i (k - i);rw[show i+(k - i)=k by lia] at e;rw[e,dN];exact mem_append_left _ hy
theorem vK {ws:List Str} {f0:List aV} {P:List Nat->Prop} (h0:∀x∈bI f0,P x) (hs:∀x,P x->∀y∈gU ws x,P y):∀(i:Nat) (x:List Nat),x∈bI (aM ws f0 i)->P x
 |0,x,h=>h0 x h
 |i+1,x,h=>by
  have ih:=vK h0 hs i;change x∈bI (match (aM ws f0 i)[i]? with|some x=>(chl ws x).foldl bH (aM ws f0 i)|none=>aM ws f0 i) at h;cases e:(aM ws f0 i)[i]? with
  |none=>rw[e] at h;exact ih x h
  |some z=>
   rw[e] at h;rcases sI h with h|h
   ·exact ih x h
   ·rw[uF] at h;exact hs z.1 (ih z.1 (mem_map.mpr ⟨z,mem_of_getElem? e,rfl⟩)) x h
section
variable {ws:List Str} {c L:Nat}
theorem pS (h:(bP ws c L).length<=300) {x y:List Nat} (hx:x∈bI (bP ws c L)) (hy:y∈gU ws x):y∈bI (bP ws c L):=by
 obtain ⟨p,hp,rfl⟩:=mem_map.mp hx;obtain ⟨i,hi⟩:=getElem?_of_mem hp;have il:i<(bP ws c L).length:=(List.getElem?_eq_some_iff.mp hi).1;have hil:i<(aM ws (f0 ws c L) i).length:=lt_of_not_le λhn=>by
  have e:=jS ws (f0 ws c L) hn (300 - i);rw[show i+(300 - i)=300 by lia] at e;have:(bP ws c L).length<=i:=by
   show (aM ws (f0 ws c L) 300).length<=i;rw[e];exact hn
  lia
 obtain ⟨t,e⟩:=cR ws (f0 ws c L) i (300 - i);rw[show i+(300 - i)=300 by lia] at e;have hp':(aM ws (f0 ws c L) i)[i]?=some p:=by
  have:(aM ws (f0 ws c L) 300)[i]?=some p:=hi;rw[e,getElem?_append_left hil] at this;exact this
 have h1:y∈bI (aM ws (f0 ws c L) (i+1)):=by
  rw[fF hp'];rw[<-uF] at hy;obtain ⟨q,hq,rfl⟩:=mem_map.mp hy;exact pU hq
 exact vJ (by lia) h1
section
variable (hU:Ru ws) (hL:1<=L) (h1:97<=c) (h2:c - 97<ws.length) (hg:aJ ws c=true) (h:(bP ws c L).length<=300)
include hU hL h1 h2 hg h
end
end
end L2.Na.Pr
namespace L2.Na
open PySem L2.Na.K41 L2.Na.Pr
theorem kG {ws:List Str} (h:Ru ws) {c:Nat} (h1:97<=c) (h2:c - 97<ws.length) (hg:aJ ws c=true) {k n m:Nat} (hk:n+m<=(wk ws c k).length):
  str ws c (aK ws (str ws c 0 n)).length (aK ws (str ws c n m)).length=aK ws (str ws c n m)/\(aK ws (str ws c 0 n)).length+(aK ws (str ws c n m)).length<=(wk ws c (k+1)).length:=by
 have e1:wk ws c k=str ws c 0 n++(str ws c n m++(wk ws c k).drop (n+m)):=by
  rw[<-gJ h h1 h2 hg (k:=k) (n:=0) (m:=n) (by lia),<-gJ h h1 h2 hg hk,drop_zero]
  conv=>lhs;rw[<-take_append_drop n (wk ws c k)]
  congr 1
  conv=>lhs;rw[<-take_append_drop m ((wk ws c k).drop n)]
  rw[drop_drop]
 have e2:wk ws c (k+1)=aK ws (str ws c 0 n)++(aK ws (str ws c n m)++aK ws ((wk ws c k).drop (n+m))):=by
  show aK ws (wk ws c k)=_
  conv=>lhs;rw[e1]
  rw[fJ,fJ]
 have hl:(aK ws (str ws c 0 n)).length+(aK ws (str ws c n m)).length<=(wk ws c (k+1)).length:=by
  rw[e2,length_append,length_append];lia
 refine ⟨?_,hl⟩;rw[<-gJ h h1 h2 hg hl,e2,List.drop_append_of_le_length (Nat.le_refl _),List.drop_length,nil_append,List.take_append_of_le_length (Nat.le_refl _),take_length]
theorem dJ (ws:List Str) (c n m j l:Nat) (h:j+l<=m):((str ws c n m).drop j).take l=str ws c (n+j) l:=by
 unfold str;refine ext_getElem? λi=>?_;by_cases hi:i<l
 ·rw[getElem?_take,if_pos hi,getElem?_drop,getElem?_map,getElem?_map,getElem?_range (by lia),getElem?_range hi];show some (ew ws c (n+(j+i)))=some (ew ws c (n+j+i));rw[Nat.add_assoc]
 ·rw[List.getElem?_eq_none (by rw[length_take];lia),List.getElem?_eq_none (by rw[length_map,length_range];lia)]
theorem jR (ws:List Str) (c n m l:Nat):str ws c n (m+l)=str ws c n m++str ws c (n+m) l:=by
 have e:=take_append_drop m (str ws c n (m+l));rw[<-e]
 congr 1
 ·have:=dJ ws c n (m+l) 0 m (by lia);rw[drop_zero,Nat.add_zero] at this;exact this
 ·have:=dJ ws c n (m+l) m l (Nat.le_refl _);rw[take_of_length_le (by rw[length_drop,str_len];lia)] at this;exact this
noncomputable def MC (ws:List Str) (c L i:Nat) (p:aV):Prop:=∃n:Nat,p.1=str ws c n L/\p.2=aW ws.length (aG (str ws c 0 n))/\n+L<=(wk ws c (L+i)).length
section
variable {ws:List Str} {c L:Nat}
theorem bT (hU:Ru ws) (h1:97<=c) (h2:c - 97<ws.length) (hg:aJ ws c=true) {k n m:Nat} (hk:n+m<=(wk ws c k).length):dC ws (str ws c n m):=by
 rw[<-gJ hU h1 h2 hg hk];exact λd hd=>dW hU h1 h2 k d (mem_of_mem_drop (mem_of_mem_take hd))
theorem MC.more (hU:Ru ws) (h2:c - 97<ws.length) (hg:aJ ws c=true) {i:Nat} {p:aV} (h:MC ws c L i p):MC ws c L (i+1) p:=by
 obtain ⟨n,e1,e2,e3⟩:=h;obtain ⟨t,et⟩:=yA hU h2 hg (L+i);refine ⟨n,e1,e2,?_⟩;rw[show L+(i+1)=L+i+1 by lia,et,length_append];lia
theorem MC.chl (hU:Ru ws) (hL:1<=L) (h1:97<=c) (h2:c - 97<ws.length) (hg:aJ ws c=true) {i:Nat} {x p:aV} (h:MC ws c L i x) (hp:p∈chl ws x):MC ws c L (i+1) p:=by
 obtain ⟨n,e1,e2,e3⟩:=h;obtain ⟨j,hj,rfl⟩:=mem_map.mp hp;have hj:=mem_range.mp hj;obtain ⟨o1,o2⟩:=kG hU h1 h2 hg e3;obtain ⟨o3,_⟩:=kG hU h1 h2 hg (k:=L+i) (n:=0) (m:=n) (by lia);have lx:=bT hU h1 h2 hg e3;have l0:=bT hU h1 h2 hg (k:=L+i) (n:=0) (m:=n) (by lia);have xl:x.1.length=L:=by rw[e1,str_len]
 have pl:=fG hU (by rw[e1];exact lx) (by lia) hj;rw[xl,length_take,length_drop,e1] at pl;have hjl:j+L<=(aK ws (str ws c n L)).length:=by lia
 have o3:str ws c 0 (aK ws (str ws c 0 n)).length=aK ws (str ws c 0 n):=o3;refine ⟨(aK ws (str ws c 0 n)).length+j,?_,?_,?_⟩
 ·show ((aK ws x.1).drop j).take x.1.length=_;rw[xl,e1,<-o1];exact dJ ws c _ _ j L (by rw[<-o1] at hjl;rw[str_len] at hjl;exact hjl)
 ·show zipWith (·+·) (xW (rowsOf ws) x.2 1) (aW ws.length (aG ((wd ws (x.1.headD 0)).take j)))=_;rw[e2,pL hU.isw l0.isW 1];have ei:Bw ws (aG (str ws c 0 n)) 1=aG (aK ws (str ws c 0 n)):=by
   show img ws (aG (str ws c 0 n))=_;rw[bZ,aQ]
  rw[ei,<-L2.Na.kU]
  congr 2
  rw[jR,o3]
  congr 1
  rw[zero_add];have ht:=dJ ws c (aK ws (str ws c 0 n)).length (aK ws (str ws c n L)).length 0 j (by lia);rw[drop_zero,Nat.add_zero,o1] at ht;rw[<-ht];cases hs:str ws c n L with
  |nil=>
   have:=str_len ws c n L;rw[hs] at this;simp at this;lia
  |cons d l=>
   rw[e1,hs] at hj ⊢;rw[aT];exact (List.take_append_of_le_length (le_of_lt hj)).symm
 ·rw[show L+(i+1)=L+i+1 by lia];lia
theorem MC.zero (hU:Ru ws) (h1:97<=c) (h2:c - 97<ws.length) (hg:aJ ws c=true):∀p∈f0 ws c L,MC ws c L 0 p:=λp hp=>by
 have e:p=(str ws c 0 L,replicate ws.length 0):=by simpa [f0] using hp
 rw[e];refine ⟨0,rfl,(L2.Na.kT _).symm,?_⟩;have a:=cQ hU h1 h2 L;have b:=dH hU h1 h2 hg L;rw[Nat.add_zero];lia
theorem wN {p:aV}:∀(ps g:List aV),p∈ps.foldl bH g->p∈g\/p∈ps
 |[],g,h=>.inl h
 |q::ps,g,h=>by
  rw[foldl_cons] at h;rcases wN ps _ h with h|h
  ·unfold bH at h;split at h
   ·exact .inl h
   ·rcases mem_append.mp h with h|h
    ·exact .inl h
    ·exact .inr (by rw[mem_singleton.mp h];exact mem_cons_self)
  ·exact .inr (mem_cons_of_mem _ h)
theorem nS (hU:Ru ws) (hL:1<=L) (h1:97<=c) (h2:c - 97<ws.length) (hg:aJ ws c=true):∀(i:Nat) (p:aV),p∈aM ws (f0 ws c L) i->MC ws c L i p
 |0,p,hp=>MC.zero hU h1 h2 hg p hp
 |i+1,p,hp=>by
  have ih:=nS hU hL h1 h2 hg i;change p∈(match (aM ws (f0 ws c L) i)[i]? with|some x=>(chl ws x).foldl bH (aM ws (f0 ws c L) i)|none=>aM ws (f0 ws c L) i) at hp;cases e:(aM ws (f0 ws c L) i)[i]? with
  |none=>
   rw[e] at hp;exact (ih p hp).more hU h2 hg
  |some z=>
   rw[e] at hp;rcases wN _ _ hp with h|h
   ·exact (ih p h).more hU h2 hg
   ·exact (ih z (mem_of_getElem? e)).chl hU hL h1 h2 hg h
end
theorem rW:∀xs:List Int,dot xs (replicate xs.length 1)=xs.sum
 |[]=>rfl
 |x::xs=>by
  have ih:=rW xs;unfold dot at ih ⊢;rw[length_cons,replicate_succ,zipWith_cons_cons,sum_cons,sum_cons,ih,Int.mul_one]
theorem lS {n:Nat} {z:Str} (h:eM n z):(aW n z).sum=z.length:=by
 have e:=rW (aW n z);rw[bO] at e;have d:=pG (ds:=replicate n (1:Int)) (z:=z) (by rw[length_replicate];exact h);rw[length_replicate,e,MZ h] at d;exact d
theorem NN {ws:List Str} {c L i:Nat} (hU:Ru ws) (h1:97<=c) (h2:c - 97<ws.length) (hg:aJ ws c=true) {p:aV} (h:MC ws c L i p):∃n:Nat,p.1=str ws c n L/\p.2.sum=(n:Int)/\n+L<=(wk ws c (L+i)).length:=by
 obtain ⟨n,e1,e2,e3⟩:=h;refine ⟨n,e1,?_,e3⟩;rw[e2,lS (bT hU h1 h2 hg (k:=L+i) (n:=0) (m:=n) (by lia)).isW,aX,str_len]
section
variable {ws:List Str} {c L:Nat}
theorem BU (hU:Ru ws) (h1:97<=c) (h2:c - 97<ws.length) (hg:aJ ws c=true) (i:Nat):97<=ew ws c i/\ew ws c i - 97<ws.length:=by
 have li:i<(wk ws c i).length:=by
  have a:=cQ hU h1 h2 i;have b:=dH hU h1 h2 hg i;lia
 exact dW hU h1 h2 i _ (mem_of_getElem? (yB hU h1 h2 hg li))
theorem sS (hU:Ru ws) (h1:97<=c) (h2:c - 97<ws.length) (hg:aJ ws c=true) (i:Nat):1<=(wd ws (ew ws c i)).length:=by
 obtain ⟨w,_,e,hw⟩:=hU.word (BU hU h1 h2 hg i).2;rw[e,aS];exact hU.one w hw
noncomputable def Fl (ws:List Str) (c n:Nat):Nat:=(aK ws (str ws c 0 n)).length
theorem nI (n:Nat):Fl ws c (n+1)=Fl ws c n+(wd ws (ew ws c n)).length:=by
 unfold Fl;rw[jR,fJ,length_append,zero_add]
 congr 1
 show (aK ws [ew ws c (n+0)]).length=_;rw[aT,Nat.add_zero];show (wd ws (ew ws c n)++[]).length=_;rw[append_nil]
theorem MF (hU:Ru ws) (h1:97<=c) (h2:c - 97<ws.length) (hg:aJ ws c=true):∀n,∃m j,n=Fl ws c m+j/\j<(wd ws (ew ws c m)).length
 |0=>⟨0,0,rfl,sS hU h1 h2 hg 0⟩
 |n+1=>by
  obtain ⟨m,j,e,hj⟩:=MF hU h1 h2 hg n;by_cases h:j+1<(wd ws (ew ws c m)).length
  ·exact ⟨m,j+1,by lia,h⟩
  ·exact ⟨m+1,0,by rw[nI];lia,sS hU h1 h2 hg (m+1)⟩
theorem SH (hU:Ru ws) (h1:97<=c) (h2:c - 97<ws.length) (hg:aJ ws c=true):∀n,n+2<=Fl ws c (n+1)
 |0=>by
  rw[nI];have e0:ew ws c 0=c:=rfl;rw[e0];unfold aJ at hg;obtain ⟨w,hw,e,_⟩:=hU.word h2;rw[hw] at hg;rw[e,aS];simp only [and_eq_true,decide_eq_true_eq] at hg;lia
 |n+1=>by
  have ih:=SH hU h1 h2 hg n;have:=sS hU h1 h2 hg (n+1);rw[nI];lia
theorem fE (n:Nat) (hL:1<=L):(str ws c n L).headD 0=ew ws c n:=by
 obtain ⟨l,rfl⟩:∃l,L=1+l:=⟨L - 1,by lia⟩;rw[jR];rfl
theorem nQ (hU:Ru ws) (hL:1<=L) (h1:97<=c) (h2:c - 97<ws.length) (hg:aJ ws c=true) (n j:Nat) (hj:j<(wd ws (ew ws c n)).length):str ws c (Fl ws c n+j) L∈gU ws (str ws c n L):=by
 have e3:n+L<=(wk ws c (n+L)).length:=by
  have a:=cQ hU h1 h2 (n+L);have b:=dH hU h1 h2 hg (n+L);lia
 obtain ⟨o1,o2⟩:=kG hU h1 h2 hg e3;have lx:=bT hU h1 h2 hg e3;have pl:=fG hU lx (by rw[str_len];exact hL) (j:=j) (by rw[fE n hL];exact hj);rw[str_len,length_take,length_drop] at pl;unfold gU;refine mem_map.mpr ⟨j,mem_range.mpr (by rw[fE n hL];exact hj),?_⟩;rw[str_len,<-o1];exact dJ ws c _ _ j L (by lia)
theorem XU (hU:Ru ws) (hL:1<=L) (h1:97<=c) (h2:c - 97<ws.length) (hg:aJ ws c=true) (hsm:(bP ws c L).length<=300):∀n,str ws c n L∈bI (bP ws c L):=by
 intro n;induction n using Nat.strongRecOn with
 |_ n ih=>
  by_cases h0:n=0
  ·subst h0;have:=cR ws (f0 ws c L) 0 300;obtain ⟨t,e⟩:=this;rw[zero_add] at e;unfold bP;rw[e,dN];exact mem_append.mpr (.inl (mem_cons_self))
  ·obtain ⟨m,j,e,hj⟩:=MF hU h1 h2 hg n;have hm:m<n:=by
    cases m with
    |zero=>lia
    |succ m=>
     have:=SH hU h1 h2 hg m;lia
   rw[e];exact pS hsm (ih m hm) (nQ hU hL h1 h2 hg m j hj)
end
noncomputable def kS:Nat->Nat->List Nat
 |0,_=>[]
 |m+1,v=>kS m (v / 4)++[97+v % 4]
noncomputable def PV (x:List Nat):Nat:=x.foldl (λa d=>4 * a+(d - 97)) 0
noncomputable def Hu (tb:List (List Nat)) (M:Nat) (vs:List Nat):Bool:=vs.all λv=>(range (tb.getD ((kS M v).headD 0 - 97) []).length).all λj=>vs.contains (PV ((((kS M v).flatMap λd=>tb.getD (d - 97) []).drop j).take M))&&decide (kS M (PV ((((kS M v).flatMap λd=>tb.getD (d - 97) []).drop j).take M))=(((kS M v).flatMap λd=>tb.getD (d - 97) []).drop j).take M)
theorem xH:∀(m v:Nat),(kS m v).length=m
 |0,_=>rfl
 |m+1,v=>by
  show (kS m (v / 4)++[97+v % 4]).length=m+1;rw[length_append,xH m];rfl
theorem FZ {ws:List Str} {tb:List (List Nat)} (h:ws.map ls=tb) (d:Nat):wd ws d=tb.getD (d - 97) []:=by
 subst h;unfold wd;rw[getD_eq_getElem?_getD,getElem?_map];cases ws[d - 97]? with
 |none=>rfl
 |some w=>rfl
theorem IE {ws:List Str} {tb:List (List Nat)} (h:ws.map ls=tb) {M:Nat} {vs:List Nat} (ok:Hu tb M vs=true):∀x∈vs.map (kS M),∀y∈gU ws x,y∈vs.map (kS M):=by
 intro x hx y hy;obtain ⟨v,hv,rfl⟩:=mem_map.mp hx;obtain ⟨j,hj,rfl⟩:=mem_map.mp hy;have e1:=all_eq_true.mp (all_eq_true.mp ok v hv) j (by rw[<-FZ h];exact hj);rw[and_eq_true] at e1;have ei:aK ws (kS M v)=(kS M v).flatMap λd=>tb.getD (d - 97) []:=by
  unfold aK;rw[show wd ws=λd=>tb.getD (d - 97) [] from funext (FZ h)]
 rw[ei,xH];exact mem_map.mpr ⟨_,List.contains_iff_mem.mp e1.1,of_decide_eq_true e1.2⟩
section
variable {ws:List Str} {c L:Nat}
theorem XA (hU:Ru ws) (hL:1<=L) (h1:97<=c) (h2:c - 97<ws.length) (hg:aJ ws c=true) {g:List (List Nat)} (h0:str ws c 0 L∈g) (hc:∀x∈g,∀y∈gU ws x,y∈g):(bP ws c L).length<=g.length:=by
 rw[<-iL];refine Nodup.length_le_of_subset (fS hU hL (rR hU h1 h2 hg) 300).nd λx hx=>?_;refine vK (P:=λx=>x∈g) (λy hy=>?_) hc 300 x hx;have e:y=str ws c 0 L:=by simpa [f0,bI] using hy
 rw[e];exact h0
theorem KN (hU:Ru ws) (hL:1<=L) {M:Nat} (hM:L<=M) (h1:97<=c) (h2:c - 97<ws.length) (hg:aJ ws c=true) (hs:(bP ws c M).length<=300):(bP ws c L).length<=300:=by
 refine Nat.le_trans ?_ hs;rw[<-iL,<-iL (bP ws c M),<-length_map (f:=λy:List Nat=>y.take L) (as:=bI (bP ws c M))];refine Nodup.length_le_of_subset (fS hU hL (rR hU h1 h2 hg) 300).nd λx hx=>?_;obtain ⟨p,hp,rfl⟩:=mem_map.mp hx;obtain ⟨n,e1,_,_⟩:=nS hU hL h1 h2 hg 300 p hp;refine mem_map.mpr ⟨str ws c n M,XU hU (by lia) h1 h2 hg hs n,?_⟩;show (str ws c n M).take L=p.1;rw[e1];have:=dJ ws c n M 0 L (by lia);rw[drop_zero,Nat.add_zero] at this;exact this
noncomputable def ML (m:Nat):Nat->List (List Nat)
 |0=>[[]]
 |L+1=>(range m).flatMap λd=>(ML m L).map λx=>(97+d)::x
theorem uX (m:Nat):∀L,(ML m L).length=m ^ L
 |0=>rfl
 |L+1=>by
  show ((range m).flatMap λd=>(ML m L).map λx=>(97+d)::x).length=_;rw[List.length_flatMap];simp only [length_map,uX m L];rw[List.map_const',List.sum_replicate_nat,length_range,Nat.pow_succ,Nat.mul_comm]
theorem uW {m:Nat}:∀{x:List Nat},(∀d∈x,97<=d/\d - 97<m)->x∈ML m x.length
 |[],_=>mem_singleton.mpr rfl
 |d::x,h=>by
  obtain ⟨a,b⟩:=h d mem_cons_self;refine List.mem_flatMap.mpr ⟨d - 97,mem_range.mpr b,mem_map.mpr ⟨x,uW λe he=>h e (mem_cons_of_mem _ he),?_⟩⟩;rw[show 97+(d - 97)=d by lia]
theorem PR (hU:Ru ws) (hL:1<=L) (h1:97<=c) (h2:c - 97<ws.length) (hg:aJ ws c=true):(bP ws c L).length<=ws.length ^ L:=by
 rw[<-iL,<-uX];refine Nodup.length_le_of_subset (fS hU hL (rR hU h1 h2 hg) 300).nd λx hx=>?_;obtain ⟨p,hp,rfl⟩:=mem_map.mp hx;obtain ⟨l1,l2,_⟩:=(fS hU hL (rR hU h1 h2 hg) 300).ok p hp;show p.1∈_;rw[<-l1];exact uW l2
end
theorem NL {m L:Nat} (h1:1<=m) (h4:m<=4) (hL:L<=[20,8,5,4].getD (m - 1) 0):m ^ L<=300:=by
 have:m=1\/m=2\/m=3\/m=4:=by lia
 rcases this with rfl|rfl|rfl|rfl
 ·rw[Nat.one_pow];decide
 ·exact Nat.le_trans (Nat.pow_le_pow_right (by decide) hL) (by decide)
 ·exact Nat.le_trans (Nat.pow_le_pow_right (by decide) hL) (by decide)
 ·exact Nat.le_trans (Nat.pow_le_pow_right (by decide) hL) (by decide)
section
variable {ws:List Str} {c L:Nat}
noncomputable def eP (ws:List Str) (c L n:Nat):aV:=(str ws c n L,aW ws.length (aG (str ws c 0 n)))
theorem kM (hU:Ru ws) (h1:97<=c) (h2:c - 97<ws.length) (hg:aJ ws c=true) (n:Nat):n<=(wk ws c n).length:=by
 have a:=cQ hU h1 h2 n;have b:=dH hU h1 h2 hg n;lia
theorem LJ (hU:Ru ws) (hL:1<=L) (h1:97<=c) (h2:c - 97<ws.length) (hg:aJ ws c=true) (n j:Nat) (hj:j<(wd ws (ew ws c n)).length):(chl ws (eP ws c L n))[j]?=some (eP ws c L (Fl ws c n+j)):=by
 have e3:n+L<=(wk ws c (n+L)).length:=kM hU h1 h2 hg (n+L);obtain ⟨o1,o2⟩:=kG hU h1 h2 hg e3;obtain ⟨o3,_⟩:=kG hU h1 h2 hg (k:=n+L) (n:=0) (m:=n) (by lia);have lx:=bT hU h1 h2 hg e3;have l0:=bT hU h1 h2 hg (k:=n+L) (n:=0) (m:=n) (by lia);have hj':j<(wd ws ((str ws c n L).headD 0)).length:=by rw[fE n hL];exact hj
 have pl:=fG hU lx (by rw[str_len];exact hL) hj';rw[str_len,length_take,length_drop] at pl;have hjl:j+L<=(aK ws (str ws c n L)).length:=by lia
 have o3:str ws c 0 (aK ws (str ws c 0 n)).length=aK ws (str ws c 0 n):=o3;rw[uG (x:=eP ws c L n) hj'];refine congrArg some (Prod.ext ?_ ?_)
 ·show ((aK ws (str ws c n L)).drop j).take (str ws c n L).length=str ws c ((aK ws (str ws c 0 n)).length+j) L;rw[str_len,<-o1];exact dJ ws c _ _ j L (by rw[<-o1] at hjl;rw[str_len] at hjl;exact hjl)
 ·show zipWith (·+·) (xW (rowsOf ws) (aW ws.length (aG (str ws c 0 n))) 1) (aW ws.length (aG ((wd ws ((str ws c n L).headD 0)).take j)))=aW ws.length (aG (str ws c 0 ((aK ws (str ws c 0 n)).length+j)));rw[pL hU.isw l0.isW 1];have ei:Bw ws (aG (str ws c 0 n)) 1=aG (aK ws (str ws c 0 n)):=by
   show img ws (aG (str ws c 0 n))=_;rw[bZ,aQ]
  rw[ei,<-L2.Na.kU]
  congr 2
  rw[jR,o3]
  congr 1
  rw[zero_add];have ht:=dJ ws c (aK ws (str ws c 0 n)).length (aK ws (str ws c n L)).length 0 j (by lia);rw[drop_zero,Nat.add_zero,o1] at ht;rw[<-ht];cases hs:str ws c n L with
  |nil=>
   have:=str_len ws c n L;rw[hs] at this;simp at this;lia
  |cons d l=>
   rw[hs] at hj';rw[aT];exact (List.take_append_of_le_length (le_of_lt hj')).symm
theorem CN:∀{k n:Nat},k<=n->Fl ws c k<=Fl ws c n
 |k,0,h=>by
  have e:k=0:=by lia
  rw[e];exact Nat.le_refl _
 |k,n+1,h=>by
  by_cases e:k=n+1
  ·rw[e];exact Nat.le_refl _
  ·have:=CN (k:=k) (n:=n) (by lia);rw[nI];lia
structure Fp (ws:List Str) (c L:Nat) (f:List aV) (ns:List Nat):Prop where
 e:f=ns.map (eP ws c L)
 up:ns.Pairwise (·<·)
 fs:∀n∈ns,∀m,m<n->str ws c m L∈bI f/\str ws c m L≠str ws c n L
theorem Fp.nm {f:List aV} {ns:List Nat} (I:Fp ws c L f ns):bI f=ns.map λn=>str ws c n L:=by
 rw[I.e];unfold bI;rw[map_map];rfl
theorem Fp.add {f:List aV} {ns:List Nat} {M:Nat} (I:Fp ws c L f ns) (hc:∀m,m<M->str ws c m L∈bI f):∃ns',Fp ws c L (bH f (eP ws c L M)) ns'/\∀m,m<M+1->str ws c m L∈bI (bH f (eP ws c L M)):=by
 unfold bH;by_cases h:str ws c M L∈bI f
 ·rw[if_pos (show (eP ws c L M).1∈bI f from h)];refine ⟨ns,I,λm hm=>?_⟩;by_cases e:m=M
  ·rw[e];exact h
  ·exact hc m (by lia)
 ·rw[if_neg (show ¬(eP ws c L M).1∈bI f from h)];have hn:∀{y},y∈bI f->y∈bI (f++[eP ws c L M]):=λhy=>by
   rw[dN];exact mem_append.mpr (.inl hy)
  refine ⟨ns++[M],⟨by rw[map_append,<-I.e];rfl,pairwise_append.mpr ⟨I.up,pairwise_singleton _ _,λa ha b hb=>?_⟩,λn hn' m hm=>?_⟩,λm hm=>?_⟩
  ·have eb:b=M:=by simpa using hb
   subst eb;refine lt_of_not_le λhle=>h ?_;by_cases e:a=b
   ·rw[I.nm];exact mem_map.mpr ⟨a,ha,by rw[e]⟩
   ·exact (I.fs a ha b (by lia)).1
  ·rcases mem_append.mp hn' with hn'|hn'
   ·exact ⟨hn (I.fs n hn' m hm).1,(I.fs n hn' m hm).2⟩
   ·have eb:n=M:=by simpa using hn'
    subst eb;exact ⟨hn (hc m hm),λe=>h (by rw[<-e];exact hc m hm)⟩
  ·by_cases e:m=M
   ·rw[dN,e];exact mem_append.mpr (.inr mem_cons_self)
   ·exact hn (hc m (by lia))
theorem Fp.chl (hU:Ru ws) (hL:1<=L) (h1:97<=c) (h2:c - 97<ws.length) (hg:aJ ws c=true) {f:List aV} {ns:List Nat} {n:Nat} (I:Fp ws c L f ns) (hc:∀m,m<Fl ws c n->str ws c m L∈bI f):
  ∀j,j<=(chl ws (eP ws c L n)).length->∃ns',Fp ws c L (((chl ws (eP ws c L n)).take j).foldl bH f) ns'/\∀m,m<Fl ws c n+j->str ws c m L∈bI (((chl ws (eP ws c L n)).take j).foldl bH f)
 |0,_=>⟨ns,I,hc⟩
 |j+1,hj=>by
  obtain ⟨ns1,I1,c1⟩:=Fp.chl hU hL h1 h2 hg I hc j (by lia);have hj':j<(wd ws (ew ws c n)).length:=by
   have e:(L2.Na.chl ws (eP ws c L n)).length=(wd ws ((str ws c n L).headD 0)).length:=CB;rw[fE n hL] at e;lia
  rw[qW (LJ hU hL h1 h2 hg n j hj')];exact I1.add c1
theorem DD {ws:List Str} {f0:List aV} {i k:Nat} {p:aV} (hp:(aM ws f0 i)[k]?=some p) (hk:k<i) {y:List Nat} (hy:y∈gU ws p.1):y∈bI (aM ws f0 i):=by
 have hil:k<(aM ws f0 k).length:=lt_of_not_le λhn=>by
  have e:=jS ws f0 hn (i - k);rw[show k+(i - k)=i by lia] at e;rw[e,List.getElem?_eq_none hn] at hp;cases hp
 obtain ⟨t,e⟩:=cR ws f0 k (i - k);rw[show k+(i - k)=i by lia] at e;have hp':(aM ws f0 k)[k]?=some p:=by
  rw[e,getElem?_append_left hil] at hp;exact hp
 have h1:y∈bI (aM ws f0 (k+1)):=by
  rw[fF hp'];rw[<-uF] at hy;obtain ⟨q,hq,rfl⟩:=mem_map.mp hy;exact pU hq
 exact vJ (by lia) h1
theorem nU (hU:Ru ws) (hL:1<=L) (h1:97<=c) (h2:c - 97<ws.length) (hg:aJ ws c=true):∀i,∃ns,Fp ws c L (aM ws (f0 ws c L) i) ns
 |0=>⟨[0],⟨by
   show [(str ws c 0 L,replicate ws.length 0)]=[(str ws c 0 L,aW ws.length (aG []))]
   rw[show aW ws.length (aG [])=replicate ws.length 0 from L2.Na.kT _],pairwise_singleton _ _,λn hn m hm=>by
   have e:n=0:=by simpa using hn
   lia⟩⟩
 |i+1=>by
  obtain ⟨ns,I⟩:=nU hU hL h1 h2 hg i;cases e:(aM ws (f0 ws c L) i)[i]? with
  |none=>
   refine ⟨ns,?_⟩;show Fp ws c L (match (aM ws (f0 ws c L) i)[i]? with|some x=>(chl ws x).foldl bH (aM ws (f0 ws c L) i)|none=>aM ws (f0 ws c L) i) ns;rw[e];exact I
  |some x=>
   rw[fF e];have ei:=e;rw[I.e,getElem?_map] at ei;cases en:ns[i]? with
   |none=>rw[en] at ei;cases ei
   |some n=>
    rw[en] at ei;have ex:x=eP ws c L n:=(Option.some.inj ei).symm;subst ex;have hn:=mem_of_getElem? en;have hc:∀m,m<Fl ws c n->str ws c m L∈bI (aM ws (f0 ws c L) i):=λm hm=>by
     obtain ⟨k,j,em,hj⟩:=MF hU h1 h2 hg m;have hk:k<n:=lt_of_not_le λhle=>by
      have:=CN (ws:=ws) (c:=c) hle;lia
     have hin:=(I.fs n hn k hk).1;rw[I.nm] at hin;obtain ⟨n',hn',e'⟩:=mem_map.mp hin;have hle:n'<=k:=le_of_not_lt λhlt=>(I.fs n' hn' k hlt).2 e'.symm;obtain ⟨i',hi'⟩:=getElem?_of_mem hn';have hii:i'<i:=lt_of_not_le λhle2=>by
      by_cases eq:i=i'
      ·subst eq;rw[en] at hi';have:=Option.some.inj hi';lia
      ·obtain ⟨l1,g1⟩:=List.getElem?_eq_some_iff.mp en;obtain ⟨l2,g2⟩:=List.getElem?_eq_some_iff.mp hi';have:=List.pairwise_iff_getElem.mp I.up i i' l1 l2 (by lia);lia
     have hp:(aM ws (f0 ws c L) i)[i']?=some (eP ws c L n'):=by
      rw[I.e,getElem?_map,hi'];rfl
     refine DD hp hii ?_;show str ws c m L∈gU ws (str ws c n' L);rw[e',em];exact nQ hU hL h1 h2 hg k j hj
    obtain ⟨ns',I',_⟩:=I.chl hU hL h1 h2 hg hc _ (Nat.le_refl _);rw[take_length] at I';exact ⟨ns',I'⟩
theorem QH (hU:Ru ws) (hL:1<=L) (h1:97<=c) (h2:c - 97<ws.length) (hg:aJ ws c=true) {p:aV} (hp:p∈bP ws c L):∃n:Nat,p=eP ws c L n/\p.2.sum=(n:Int)/\∀m,m<n->str ws c m L≠str ws c n L:=by
 obtain ⟨ns,I⟩:=nU hU hL h1 h2 hg 300;have hp':p∈aM ws (f0 ws c L) 300:=hp;rw[I.e] at hp';obtain ⟨n,hn,rfl⟩:=mem_map.mp hp';refine ⟨n,rfl,?_,λm hm=>(I.fs n hn m hm).2⟩;show (aW ws.length (aG (str ws c 0 n))).sum=_;rw[lS (bT hU h1 h2 hg (k:=n) (n:=0) (m:=n) (by have:=kM hU h1 h2 hg n;lia)).isW,aX,str_len]
end
end L2.Na
namespace L2.Na.K31
open PySem L2.Na.K41 L2.Na.Pr
noncomputable def Bx (n:Nat) (x:List Nat):Bool:=x.all λc=>decide (97<=c)&&decide (c<97+n)
noncomputable def okT (tb:List (List Nat)):Bool:=decide (1<=tb.length)&&(decide (tb.length<=4)&&tb.all λw=>Bx tb.length w&&(decide (1<=w.length)&&decide (w.length<=100)))
theorem ZZ {ws:List Str} {tb:List (List Nat)} (h:ws.map ls=tb) (ok:okT tb=true):Ru ws:=by
 unfold okT at ok;simp only [and_eq_true,decide_eq_true_eq] at ok;obtain ⟨h1,h2,h3⟩:=ok;have hl:tb.length=ws.length:=by rw[<-h,length_map]
 have h3':∀w∈ws,Bx ws.length (ls w)=true/\1<=w.length/\w.length<=100:=λw hw=>by
  have:=all_eq_true.mp h3 (ls w) (by rw[<-h];exact mem_map.mpr ⟨w,hw,rfl⟩);rw[hl,aS] at this;simpa using this
 refine ⟨by lia,by lia,λw hw c hc=>?_,λw hw=>(h3' w hw).2.1,λw hw=>(h3' w hw).2.2⟩;have:=all_eq_true.mp (h3' w hw).1 c hc;simpa using this
noncomputable def Gy (tb:List (List Nat)):Bool:=decide (1<(tb.getD 0 []).length)&&decide ((tb.getD 0 [])[0]?=some 97)
theorem Di {ws:List Str} {tb:List (List Nat)} (h:ws.map ls=tb) (ok:Gy tb=true):aJ ws 97=true/\97 - 97<ws.length:=by
 subst h;cases ws with
 |nil=>exact absurd ok (by decide)
 |cons w ws=>
  refine ⟨?_,Nat.succ_pos _⟩;unfold Gy at ok;change (decide (1<(ls w).length)&&decide ((ls w)[0]?=some 97))=true at ok;rw[aS] at ok;simp only [and_eq_true,decide_eq_true_eq] at ok;show (decide (97<=97)&&(decide (1<w.length)&&decide ((ls w)[0]?=some 97)))=true;have k2:(ls w)[0]?=some 97:=of_decide_eq_true ok.2;rw[decide_eq_true ok.1,decide_eq_true k2];rfl
noncomputable def QT (tb:List (List Nat)):Nat->List Nat
 |0=>[97]
 |k+1=>(QT tb k).flatMap λd=>tb.getD (d - 97) []
theorem FY {ws:List Str} {tb:List (List Nat)} (h:ws.map ls=tb):∀k,wk ws 97 k=QT tb k
 |0=>rfl
 |k+1=>by
  show aK ws (wk ws 97 k)=(QT tb k).flatMap λd=>tb.getD (d - 97) [];rw[FY h k];unfold aK;rw[show wd ws=λd=>tb.getD (d - 97) [] from funext (FZ h)]
structure Fx (ws:List Str) (M:Nat):Prop where
 ru:Ru ws
 gr:aJ ws 97=true
 c2:97 - 97<ws.length
 few:(bP ws 97 M).length<=300
noncomputable def Hw (tb:List (List Nat)) (M:Nat) (vs:List Nat) (k:Nat):Bool:=okT tb&&(Gy tb&&(Hu tb M vs&&(decide (M<=(QT tb k).length)&&(vs.contains (PV ((QT tb k).take M))&&(decide (kS M (PV ((QT tb k).take M))=(QT tb k).take M)&&(decide (vs.length<=300)&&decide (1<=M)))))))
theorem gH {ws:List Str} {tb:List (List Nat)} {M:Nat} {vs:List Nat} {k:Nat} (h:ws.map ls=tb) (ok:Hw tb M vs k=true):Fx ws M:=by
 unfold Hw at ok;simp only [and_eq_true,decide_eq_true_eq] at ok;obtain ⟨a1,a2,a3,a4,a5,a6,a7,a8⟩:=ok;have hU:=ZZ h a1;obtain ⟨g1,g2⟩:=Di h a2;refine ⟨hU,g1,g2,?_⟩;have e0:str ws 97 0 M=(QT tb k).take M:=by
  rw[<-gJ hU (by decide) g2 g1 (k:=k) (n:=0) (m:=M) (by rw[FY h];lia),drop_zero,FY h]
 have:=XA hU a8 (by decide) g2 g1 (g:=vs.map (kS M)) (by rw[e0];exact mem_map.mpr ⟨_,List.contains_iff_mem.mp a5,a6⟩) (IE h a3);rw[length_map] at this;lia
noncomputable abbrev R0:List Str:=[Str.ofString "ab",Str.ofString "a"]
theorem Ir:R0.map ls=[[97,98],[97]]:=by decide+kernel
theorem Jh:Fx R0 20:=gH (vs:=[69861393425,279445573700,18270667024,73082668097,292330672388,69811061776,279244247105,17465360644,69861442577,279445770308,18271453456,73085813825,292343255300,69861393424,279445573697,18270667012,73082668049,292330672196,69811061008,279244244033,17465348356]) (k:=6) Ir (by decide+kernel)
noncomputable abbrev R1:List Str:=[Str.ofString "ab",Str.ofString "ba"]
theorem Iq:R1.map ls=[[97,98],[98,97]]:=by decide+kernel
theorem Jg:Fx R1 20:=gH (vs:=[86994129985,347976519940,292394451985,70066180165,280264720660,21547254864,86189019457,344756077829,279512683540,18539106385,74156425540,296625702160,86991180865,347964723461,292347266068,69877436496,279509745985,18527356164,74109424657,296437698629,86239166740,344956666960,280315040065,21748532485,86994129940,347976519761,292394451268,70066177296,280264709185,21547208964,86188835857,344755343429,279509745940,18527355985,74109423940,296437695760,86239155265,344956621061,280314856468,21747798096,86991192385,347964769540,292347450385,69878173765,279512695060,18539152465,74156609860,296626439440,347964723460,292347266065,69877436485,18539152464,74156609857,296626439429,21547208965,86188835860,344755343440,344956666961,280315040068,21748532496]) (k:=5) Iq (by decide+kernel)
noncomputable abbrev R2:List Str:=[Str.ofString "aab",Str.ofString "ab"]
theorem Ip:R2.map ls=[[97,97,98],[97,98]]:=by decide+kernel
theorem Jf:Fx R2 20:=gH (vs:=[17465348356,69861393425,279445573700,18270667024,73082668097,292330672388,69811061776,279244247105,17465360644,69861442577,279445770308,18271453456,73085813825,292343255300,69861393424,279445573697,18270667012,73082668049,292330672196,69811061008,279244244033]) (k:=3) Ip (by decide+kernel)
noncomputable abbrev R3:List Str:=[Str.ofString "abc",Str.ofString "ac",Str.ofString "b"]
theorem Io:R3.map ls=[[97,98,99],[97,99],[98]]:=by decide+kernel
theorem Je:Fx R3 9:=gH (vs:=[25158,100633,140388,37266,149064,71969,25734,102936,149602,74121,34340,137362,25160,100641,140422,37401,149604,74129,34374,137496,25698,102793,149028,71825,102937,71826,37400,137361]) (k:=3) Io (by decide+kernel)
noncomputable abbrev R4:List Str:=[Str.ofString "abb",Str.ofString "ab"]
theorem Im:R4.map ls=[[97,98,98],[97,98]]:=by decide+kernel
theorem Jd:Fx R4 20:=gH (vs:=[87045510213,348182040852,293216535633,73354514756,293418059025,74160608324,296642433297,87058105413,348232421652,293418058833,74160607556,296642430225,87058093125,348232372500,293417862225,74159821124,296639284497,87045510212,348182040849,293216535621,73354514708]) (k:=4) Im (by decide+kernel)
noncomputable abbrev R5:List Str:=[Str.ofString "abc",Str.ofString "bca",Str.ofString "cab"]
theorem Ik:R5.map ls=[[97,98,99],[98,99,97],[99,97,98]]:=by decide+kernel
theorem Jc:Fx R5 20:=gH (vs:=[109661684840,438646739361,655075329668,421278063121,585600624710,143379243289,573516973158,95044637080,380178548321,421202565510,585298634264,142171281506,568685126024,75717248545,302868994180,111964348945,447857395782,691917955354,568648565864,75571007905,302284031620,109624498705,438497994822,654480351513,418898150502,576080974232,105300641376,421202565505,585298634246,142171281433,568685125734,75717247384,302868989538,111964330376,447857321505,691917658246,568647377432,75566254177,302265016708,109548439057,438193756230,653263397145,414030333030,556609704344,27415561824,109662247297,438648989190,655084328985,421314060390,585744613784,143955199586,575820798344,104259937825,417039751301,568647377430,75566254168,302265016674,109548438920,438193755681,653263394948,414030324241,556609669190,27415421209,109661684838,438646739352,655075329634,421278062984,585600624161,143379241092,573516964369,95044601926,380178407706,421202003048,585296384417,142162282116,568649128465,75573258310,302293033241,109660505190,438642020760,655056455264,27415421208,109661684833,438646739334,655075329561,421278062694,585600623000,143379236450,573516945800,95044527649,380178110597,421200814614,585291630680,142143267170,568573068680,75269019169,301076076676,104792678929,419170715718,577171235098,380178548322,421202565512,585298634273,142171281540,568685126161,75717249094,302868996377,111964357734,447857430936,691918095968,568649128321,75573257734,302293030937,109660495974,438641983896,655056307810,421201975688,585296274977,142161844357,691917658245,27415421210,380178548320,691917658244,568647377425,75566254150,302265016601,109548438630,438193754520,653263390306,414030305672,556609594913,27415124101,109660496406,438641985624,655056314722,421202003336,585296385569,142162286724,568649146897,75573332038,302293328154]) (k:=3) Ik (by decide+kernel)
noncomputable abbrev R6:List Str:=[Str.ofString "ab",Str.ofString "cd",Str.ofString "ad",Str.ofString "cb"]
theorem Ij:R6.map ls=[[97,98],[99,100],[97,100],[99,98]]:=by decide+kernel
theorem Jb:Fx R6 12:=gH (vs:=[1784089,7136356,11768211,13518414,3742011,14968044,9540529,4607686,1653531,6614124,9679283,5162702,3873595,15494380,11645873,13029062,1784601,7138404,11776403,13551182,3873081,15492324,11637649,12996166,1653019,6612076,9671091,5129934,3742521,14970084,9548689,4640326,3742009,14968036,9540497,4607558,3742523,14970092,9548721,4640454,3873083,15492332,11637681,12996294,3873593,15494372,11645841,13028934]) (k:=4) Ij (by decide+kernel)
noncomputable abbrev R7:List Str:=[Str.ofString "abab",Str.ofString "a"]
theorem Ii:R7.map ls=[[97,98,97,98],[97]]:=by decide+kernel
theorem Ja:Fx R7 20:=gH (vs:=[73085817104,292343268417,69861445892,279445783569,18271506500,73086026000,292344104001,69864788228,279459152913,18324983876,73299935505,293199742020,73287340305,293149361220,73299935504,293199742017,73287340292,293149361169,73085816900,292343267600,69861442625,279445770500,18271454225,292343267601,69861442628,279445770513,18271454276]) (k:=3) Ii (by decide+kernel)
noncomputable abbrev R8:List Str:=[Str.ofString "ab",Str.ofString "c",Str.ofString "a"]
theorem Ih:R8.map ls=[[97,98],[99],[97]]:=by decide+kernel
theorem Iz:Fx R8 20:=gH (vs:=[103373211140,413492844561,554459750470,18815746328,75262985312,301051941249,104696137220,418784548881,575626567750,103483015448,413932061793,556216619398,25843222040,103372888160,413491552641,554454582788,18795075601,75180302406,300721209624,103373210721,413492842886,554459743768,18815719520,75262878081,301051512326,104694421528,418777686112,575599116673,75262985313,301051941254,104696137240,418784548960,575626568065,103483016710,413932066840,556216639584,25843302785,554454582790,18795075608,75180302432,300721209729]) (k:=8) Ih (by decide+kernel)
noncomputable abbrev R9:List Str:=[Str.ofString "ab",Str.ofString "ca",Str.ofString "cd",Str.ofString "ac"]
theorem Ig:R9.map ls=[[97,98],[99,97],[99,100],[97,99]]:=by decide+kernel
theorem Iy:Fx R9 12:=gH (vs:=[1618354,6473416,9116449,2911366,11645464,13027426,1778059,7112236,11671730,13132488,2198305,8793222,1618459,6473836,9118129,2918086,11672344,13134946,2208139,8832556,1775793,7103174,11635483,12987500,11645467,13027436,1778097,7112390,1775794,7103176,11635489,12987526,1618456,6473826,9118091,2917932,11671729,13132486,2198299,8793196]) (k:=4) Ig (by decide+kernel)
noncomputable abbrev Et:List Str:=[Str.ofString "aba",Str.ofString "b"]
theorem Fe:Et.map ls=[[97,98,97],[98]]:=by decide+kernel
theorem Hb:Fx Et 20:=gH (vs:=[73300775185,293203100740]) (k:=4) Fe (by decide+kernel)
noncomputable abbrev Es:List Str:=[Str.ofString "ab",Str.ofString "b"]
theorem Fd:Es.map ls=[[97,98],[98]]:=by decide+kernel
theorem Ha:Fx Es 20:=gH (vs:=[91625968981,366503875925]) (k:=19) Fd (by decide+kernel)
noncomputable abbrev FW:List (List Str × Nat):=[(R0,20),(R1,20),(R2,20),(R3,9),(R4,20),(R5,20),(R6,12),(R7,20),(R8,20),(R9,12),(Et,20),(Es,20)]
theorem WY {i:Nat} {p:List Str × Nat} (h:FW[i]?=some p):Fx p.1 p.2/\1<=p.2/\p.2<=20:=by
 have hm:=mem_of_getElem? h;simp only [mem_cons,not_mem_nil,or_false] at hm;rcases hm with rfl|rfl|rfl|rfl|rfl|rfl|rfl|rfl|rfl|rfl|rfl|rfl
 ·exact ⟨Jh,by decide,by decide⟩
 ·exact ⟨Jg,by decide,by decide⟩
 ·exact ⟨Jf,by decide,by decide⟩
 ·exact ⟨Je,by decide,by decide⟩
 ·exact ⟨Jd,by decide,by decide⟩
 ·exact ⟨Jc,by decide,by decide⟩
 ·exact ⟨Jb,by decide,by decide⟩
 ·exact ⟨Ja,by decide,by decide⟩
 ·exact ⟨Iz,by decide,by decide⟩
 ·exact ⟨Iy,by decide,by decide⟩
 ·exact ⟨Hb,by decide,by decide⟩
 ·exact ⟨Ha,by decide,by decide⟩
open PySem.Spec PyProof.Rows L2 L2.L3
theorem tN {α β:Type} {f:α->β}:∀{rs:List β} {z:List α},rs.Perm (z.map f)->∃z':List α,z'.Perm z/\z'.map f=rs:=by
 intro rs z h;generalize hm:z.map f=m at h;induction h generalizing z with
 |nil=>
  cases z with
  |nil=>exact ⟨[],.refl _,rfl⟩
  |cons _ _=>cases hm
 |cons x _ ih=>
  cases z with
  |nil=>cases hm
  |cons a z=>
   cases hm;obtain ⟨z',h1,h2⟩:=ih rfl;exact ⟨a::z',h1.cons a,by rw[map_cons,h2]⟩
 |swap x y l=>
  match z,hm with
  |a::b::z,hm=>
   cases hm;exact ⟨b::a::z,.swap _ _ _,rfl⟩
 |trans h1 h2 ih1 ih2=>
  obtain ⟨z1,p1,e1⟩:=ih2 hm;obtain ⟨z2,p2,e2⟩:=ih1 e1;exact ⟨z2,p2.trans p1,e2⟩
noncomputable def QK (H:Hp) (rs:List Addr) (f:List aV):Prop:=∃g:List aV,g.Perm f/\rs.length=g.length/\(∀(i:Nat) (a:Addr) (p:aV),rs[i]?=some a->g[i]?=some p->H a=some (.tup [.str (aG p.1),.int p.2.sum]))/\g.Pairwise λp q=>So.MJ (aG q.1,q.2.sum) (aG p.1,p.2.sum)=false
theorem SU {H:Hp} {qs rs:List Addr} {f:List aV} (hl:qs.length=f.length) (hq:∀(i:Nat) (a:Addr) (p:aV),qs[i]?=some a->f[i]?=some p->H a=some (.tup [.str (aG p.1),.int p.2.sum])) (hp:rs.Perm qs) (hu:Hh H rs):QK H rs f:=by
 let z:=qs.zip f
 have hz1:z.map (·.1)=qs:=List.map_fst_zip (by lia);have hz2:z.map (·.2)=f:=List.map_snd_zip (by lia);obtain ⟨z',hp1,hp2⟩:∃z':List (Addr × aV),z'.Perm z/\z'.map (·.1)=rs:=by
  have:rs.Perm (z.map (·.1)):=by rw[hz1];exact hp
  exact tN this
 have hmem:∀t∈z',H t.1=some (.tup [.str (aG t.2.1),.int t.2.2.sum]):=λt ht=>by
  obtain ⟨i,hi⟩:=getElem?_of_mem (hp1.mem_iff.mp ht);have h1:qs[i]?=some t.1:=by rw[<-hz1,getElem?_map,hi];rfl
  have h2:f[i]?=some t.2:=by rw[<-hz2,getElem?_map,hi];rfl
  exact hq i t.1 t.2 h1 h2
 refine ⟨z'.map (·.2),by rw[<-hz2];exact hp1.map _,by rw[<-hp2,length_map,length_map],λi a p h1 h2=>?_,?_⟩
 ·rw[<-hp2,getElem?_map] at h1;rw[getElem?_map] at h2;cases e:z'[i]? with
  |none=>rw[e] at h1;cases h1
  |some t=>
   rw[e] at h1 h2;cases h1;cases h2;exact hmem t (mem_of_getElem? e)
 ·rw[<-hp2] at hu;have hu:=pairwise_map.mp hu;refine pairwise_map.mpr (hu.imp_of_mem λ{a b} ha hb g=>?_);exact g _ _ _ _ (hmem a ha) (hmem b hb)
section
variable {K:Fg}
noncomputable def iI (K:Fg):Sp:=λvs H Q E=>
 (∃(a:Addr) (ws:List Str) (c L:Nat),vs=[.ref a,sgn c,.int (L:Nat)]/\1<=L/\L<=400/\Pl K H a ws c ((0+L - 1:Nat):Int)/\
  ((bP ws c L).length<=300->∀(r:Addr) (rs:List Addr) (H':Hp),aB H H'->H r=none->H' r=some (.lst (rs.map V.ref))->QK H' rs (bP ws c L)->Q (.ref r) H')/\(300<(bP ws c L).length->Pr.TG K 300 H E))\/
 ∃(a:Addr) (ws:List Str) (c L:Nat),vs=[.ref a,sgn c,.int (L:Nat)]/\1<=L/\Em K H a ws c ((0+L - 1:Nat):Int) E
noncomputable def XT (K:Fg):List (SX K):=[ret (ZT (comp (tup [var 0,sum (ix (var 1) (var 0))]) (kJ 0) (Dh (var 3)) ["piece"] ["ahead"] [3]))]
noncomputable def pO (K:Fg):List (SX K):=set 3 (call "counts_ahead" (dD K) [var 0,var 1,var 2])::XT K
theorem JG:∀vs H Q E,iI K vs H Q E->vs.length=3:=by
 rintro vs H Q E (⟨_,_,_,_,rfl,_⟩|⟨_,_,_,_,rfl,_⟩)
 ·rfl
 ·rfl
theorem Ff {H0 H:Hp} {Q:VK} {E:XK} {f:List aV} {d:Addr} {as:List Addr} {v0 v1 v2:Option V} (s0:aB H0 H) (nd:H0 d=none) (nn:(bI f).Nodup) (hl:f.length<=300) (hD:YW H d as f)
  (q:∀(r:Addr) (rs:List Addr) (H':Hp),aB H0 H'->H0 r=none->H' r=some (.lst (rs.map V.ref))->QK H' rs f->Q (.ref r) H'):
  lW (XT K) (λ_=>E) {nx:=λ_ H'=>Q .non H',rt:=Q} [v0,v1,v2,some (.ref d)] H:=by
 unfold XT;walk_at "";refine WD ?_;walk_at "";refine WS ?_;walk_at "";refine Cy hD.d λo=>?_;have k2:∀b oo,b≠d->H b=some oo->(upd H d (.frz o (.dK (oR f as)))) b=some oo:=λb oo hb e=>by rw[aF hb];exact e
 have f2:(upd H d (.frz o (.dK (oR f as)))) d=some (.frz o (.dK (oR f as))):=aA;have n2:∀b,(upd H d (.frz o (.dK (oR f as)))) b=none->H0 b=none:=λb hb=>by
  have hbd:b≠d:=λe=>by rw[e,aA] at hb;cases hb
  rw[aF hbd] at hb;exact none_of s0 hb
 have s2:aB H0 (upd H d (.frz o (.dK (oR f as)))):=λb oo e=>k2 b oo (aD e nd) (s0 _ _ e);revert k2 f2 n2 s2;generalize upd H d (.frz o (.dK (oR f as)))=H2;intro k2 f2 n2 s2;intro D nD;have hal:=hD.l;refine xM (SN (d:=d) (o:=o) (kvs:=oR f as)) (λi y H1=>∃r p,y=.ref r/\r≠D/\f[i]?=some p/\H1 r=some (.tup [.str (aG p.1),.int p.2.sum])) nD (λH1 hS=>hS _ _ f2) (small (by rw[length_map,nB hal];lia)) (λi y H1 H3 hh=>?_) (λi x H1 Q' hx hS hDs fin=>?_) λH1 ys hS hO hl2 hr=>?_
 ·rintro ⟨r,p,e1,e2,e3,e4⟩;exact ⟨r,p,e1,e2,e3,hh r _ e2 e4⟩
 ·obtain ⟨od,hod⟩:=hDs;have hi:i<f.length:=by
   have:=(List.getElem?_eq_some_iff.mp hx).1;rw[length_map,nB hal] at this;exact this
  have hfi:f[i]?=some f[i]:=getElem?_eq_getElem hi;have hai:as[i]?=some (as[i]'(by lia)):=getElem?_eq_getElem _;have ev:x=.str (aG f[i].1):=by
   rw[getElem?_map] at hx;unfold oR at hx;rw[getElem?_zipWith,hfi,hai] at hx;exact (Option.some.inj hx).symm
  subst ev;have ha:=hD.v i _ _ hai hfi;have ha1:H1 as[i]=some (.lst (f[i].2.map V.int)):=hS _ _ (k2 _ _ (λe=>by rw[e,hD.d] at ha;cases ha) ha);walk_at "";refine iW (v:=.ref as[i]) (.inl ⟨oR f as,Sum.inr (aG f[i].1),.inr ⟨o,hS _ _ f2⟩,rfl,(nC nn hfi hai).symm⟩) ?_;walk_at "";refine ⟨as[i],_,rfl,ha1,?_⟩;walk_at "";refine ⟨by show 2<=sizeLine;decide,λr nr=>?_⟩;exact fin (.ref r) _ (aE nr _) ⟨r,f[i],rfl,(aD hod nr).symm,hfi,aA⟩
 ·obtain ⟨qs,rfl⟩:=tF ys λy hy=>by
   obtain ⟨i,hi⟩:=getElem?_of_mem hy;obtain ⟨r,_,e1,_⟩:=hr i y hi;exact ⟨r,e1⟩
  rw[length_map,length_map,nB hal] at hl2;have hq1:∀(i:Nat) (a:Addr) (p:aV),qs[i]?=some a->f[i]?=some p->H1 a=some (.tup [.str (aG p.1),.int p.2.sum]):=λi a p h1 h2=>by
   obtain ⟨r',p',e1,_,e3,e4⟩:=hr i (.ref a) (by rw[getElem?_map,h1];rfl);cases e1;rw[h2] at e3;cases e3;exact e4
  refine ⟨D,qs,rfl,hO,λr hrm=>?_,λr rs hp hu nr=>?_⟩
  ·obtain ⟨i,hi⟩:=getElem?_of_mem hrm;obtain ⟨r',p,e1,_,_,e4⟩:=hr i (.ref r) (by rw[getElem?_map,hi];rfl);cases e1;exact ⟨_,_,e4⟩
  ·have s3:=aE nr (.lst (rs.map V.ref));have t1:QK H1 rs f:=SU hl2 hq1 hp hu;refine q r rs _ ((s2.trans hS).trans s3) (none_of (s2.trans hS) nr) aA ?_;obtain ⟨g,g1,g2,g3,g4⟩:=t1;exact ⟨g,g1,g2,λi a p x y=>s3 _ _ (g3 i a p x y),g4⟩
theorem CJ {H:Hp} {a:Addr} {ws:List Str} {c L:Nat} {n:Int} (pl:Pl K H a ws c n) (l1:1<=L):(bI (bP ws c L)).Nodup:=(fS pl.ru l1 (rR pl.ru pl.c1 pl.c2 pl.gr) 300).nd
theorem GQ:TT (iI K) (pO K) ["rule","start","length","ahead"]:=by
 intro vs H Q E h;unfold pO;rcases h with ⟨a,ws,c,L,rfl,l1,l4,pl,q,g⟩|⟨a,ws,c,L,rfl,l1,bd⟩
 ·walk_at "";refine .inl ⟨a,ws,c,L,rfl,l1,l4,pl,λhle d as H1 s1 nd nas hD=>?_,g⟩;have e:=CJ pl l1;revert hle hD q e;generalize bP ws c L=f;intro q hle hD e;walk_at "";exact Ff s1 nd e hle hD (q hle)
 ·walk_at "";exact .inr ⟨a,ws,c,L,rfl,l1,bd⟩
end
section
variable {K:Fg}
noncomputable def iT (K:Fg):Sp:=λvs H Q _=>∃(n:Int) (m:Nat),vs=[.int n,.int (m:Nat)]/\0<=n/\1<=m/\m<=4/\∀(L:Nat) (H':Hp),aB H H'->1<=L->L<=[20,8,5,4].getD (m - 1) 0->Q (.int (L:Nat)) H'
noncomputable def gB (K:Fg):List (SX K):=
 [ret (bin .Add (cst (.int 1)) (bin .Mod (var 0) (ix (lst [cst (.int 20),cst (.int 8),cst (.int 5),cst (.int 4)]) (bin .Sub (var 1) (cst (.int 1))))))]
theorem sV:TT (iT K) (gB K) ["_law_number","_law_many"]:=by
 intro vs H Q E h;obtain ⟨n,m,rfl,n0,m1,m4,q⟩:=h;unfold gB;walk_at "";refine ⟨by show 4<=sizeLine;decide,λl nl=>?_⟩;have s1:=aE nl (.lst [V.int 20,.int 8,.int 5,.int 4]);walk_at "";obtain ⟨d,hd,e1,d1⟩:∃d:Nat,pQ [V.int 20,.int 8,.int 5,.int 4] (((m:Nat):Int) - 1)=some (.int (d:Nat))/\d=[20,8,5,4].getD (m - 1) 0/\1<=d:=by
  have:m=1\/m=2\/m=3\/m=4:=by lia
  rcases this with rfl|rfl|rfl|rfl
  ·exact ⟨20,rfl,rfl,by decide⟩
  ·exact ⟨8,rfl,rfl,by decide⟩
  ·exact ⟨5,rfl,rfl,by decide⟩
  ·exact ⟨4,rfl,rfl,by decide⟩
 refine kO (aR.of aA) hd ?_;refine RO (by lia) ?_;walk_at "";have a1:=emod_nonneg n (show ((d:Nat):Int)≠0 by lia);have a2:=emod_lt_of_pos n (show 0<((d:Nat):Int) by lia);obtain ⟨L,hL⟩:∃L:Nat,1+n % ((d:Nat):Int)=(L:Int):=⟨(1+n % ((d:Nat):Int)).toNat,by lia⟩;rw[hL];exact q L _ s1 (by lia) (by rw[<-e1];lia)
noncomputable def eK (K:Fg):Sp:=λvs H Q _=>∃(r:Addr) (rs:List Addr) (f:List aV) (L m:Nat),vs=[.ref r,.int (L:Nat),.int (m:Nat)]/\H r=some (.lst (rs.map V.ref))/\QK H rs f/\1<=f.length/\f.length<=300/\(bI f).Nodup/\L<=400/\m<=4/\(∀p∈f,p.1.length=L/\(∀c∈p.1,97<=c/\c<97+m)/\0<=p.2.sum)/\∀H',aB H H'->Q (.bl true) H'
noncomputable def SD (K:Fg):List (SX K):=
 [setC 4 (BZ none (ix (var 0) (cst (.int 0))) (kJ 0) (kQ (var 0)) ["_law_pair"] [] []),
  ret (Hx (var 4) (ZU (var 4)))]
noncomputable def cV (K:Fg):List (SX K):=
 wX (Au (oN (YL (var 0) GG)) [cmp .Eq (var 0) (lst [])]) [ret (cst (.bl false))] []::
  iR (kJ 3) (kQ (var 0)) [wX (Au (oN (YL (var 3) AQ)) [cmp .NotEq (len (var 3)) (cst (.int 2)),oN (YL (ix (var 3) (cst (.int 0))) QU),oN (call "_law_whole" (jU K) [ix (var 3) (cst (.int 1))])]) [ret (cst (.bl false))] [],
   wX (Au (cmp .NotEq (len (ix (var 3) (cst (.int 0)))) (var 1)) [cmp .Lt (ix (var 3) (cst (.int 1))) (cst (.int 0)),cmp .NotEq (m_strip (ix (var 3) (cst (.int 0))) (yR (cst (.str "abcd")) none (some (var 2)))) (cst (.str ""))]) [ret (cst (.bl false))] []]::SD K
theorem lE:TT (eK K) (cV K) ["_law_found","_law_length_here","_law_many","_law_pair","_law_names"]:=by
 intro vs H Q E h;obtain ⟨r,rs,f,L,m,rfl,hr,hT,f1,f3,nd,L4,m4,hf,q⟩:=h;obtain ⟨g,gp,gl,gt,gs⟩:=hT;have gf:g.length=f.length:=gp.length_eq;have hg:∀p∈g,p.1.length=L/\(∀c∈p.1,97<=c/\c<97+m)/\0<=p.2.sum:=λp hp=>hf p (gp.mem_iff.mp hp);have hrl:(rs.map V.ref).length=g.length:=by rw[length_map,gl]
 unfold cV;walk_at "";refine ⟨_,_,gC.lst hr,Bm,?_⟩;walk_at "";refine uJ ?_;walk_at "";refine ⟨zero_le _,λe0 n0=>?_⟩;have s0:=aE n0 (.lst []);refine Bs (s0 _ _ hr) aA (by rw[hrl];show g.length≠0;lia) ?_;refine uJ ?_;have hr1:=s0 _ _ hr;have gt1:∀(i:Nat) (a:Addr) (p:aV),rs[i]?=some a->g[i]?=some p->(upd H e0 (.lst [])) a=some (.tup [.str (aG p.1),.int p.2.sum]):=λi a p x y=>s0 _ _ (gt i a p x y);revert s0 hr1 gt1;generalize upd H e0 (.lst [])=H1;intro s0 hr1 gt1;walk_at "";refine kP (aR.of hr1) ?_;refine oO (aR.of hr1) (λ_ σ=>∃b3,σ=[some (.ref r),some (.int (L:Nat)),some (.int (m:Nat)),b3,none]) ⟨none,rfl⟩ (λi x σ H2 hx ⟨b3,e⟩ s2=>?_) λσ H2 ⟨b3,e⟩ s2=>?_
 ·subst e;rw[getElem?_map] at hx;cases ex:rs[i]? with
  |none=>rw[ex] at hx;cases hx
  |some a=>
   rw[ex] at hx;cases hx;have hi:i<g.length:=by
    have:=(List.getElem?_eq_some_iff.mp ex).1;lia
   have hgi:g[i]?=some g[i]:=getElem?_eq_getElem hi;have ha:=s2 _ _ (gt1 i a _ ex hgi);obtain ⟨p1,p2,p3⟩:=hg g[i] (getElem_mem hi);have hsq:cC K H2 a [.str (aG g[i].1),.int g[i].2.sum]:=cC.of ha;refine JS ?_;walk_at "";refine ⟨_,_,gC.tup ha,Ga,?_⟩;walk_at "";refine uJ ?_;walk_at "";refine uJ ?_;walk_at "";refine iV (v:=.str (aG g[i].1)) hsq rfl ?_;walk_at "";refine ⟨_,_,gC.str _,Gb,?_⟩;walk_at "";refine uJ ?_;walk_at "";refine iV (v:=.int g[i].2.sum) hsq rfl ?_;walk_at "";refine ⟨_,rfl,?_⟩;walk_at "";refine uJ ?_;walk_at "";refine iV (v:=.str (aG g[i].1)) hsq rfl ?_;walk_at "";refine eU (small (by rw[aX,p1];lia)) ?_;walk_at "";rw[aX,p1,decide_eq_true rfl];refine uJ ?_;walk_at "";refine iV (v:=.int g[i].2.sum) hsq rfl ?_;walk_at "";rw[decide_eq_false (show ¬g[i].2.sum<0 by lia)];refine uJ ?_;walk_at "";refine PC ?_;walk_at "";refine iV (v:=.str (aG g[i].1)) hsq rfl ?_;walk_at "";refine fK (by rw[show (Str.ofString "abcd").length=4 by decide+kernel];exact small (by decide)) ?_;walk_at "";refine ⟨small (by rw[aX,p1];lia),?_⟩;have es:Txt.stripChars (aG g[i].1) (Txt.slice (Str.ofString "abcd") none (some ((m:Nat):Int)))=⟨#[]⟩:=DB λd hd=>by
    rw[aQ] at hd;have:=p2 d hd;rw[show ls (Txt.slice (Str.ofString "abcd") none (some ((m:Nat):Int)))=(ls (Str.ofString "abcd")).take ((m:Nat):Int).toNat from bX (by lia),show ls (Str.ofString "abcd")=[97,98,99,100] by decide+kernel,toNat_natCast];have hm:m=0\/m=1\/m=2\/m=3\/m=4:=by lia
    have hd2:d=97\/d=98\/d=99\/d=100:=by lia
    rcases hm with rfl|rfl|rfl|rfl|rfl<;>rcases hd2 with rfl|rfl|rfl|rfl<;>first|decide|lia
   rw[es];walk_at "";rw[decide_eq_true (show (⟨#[]⟩:Str)=Str.ofString "" by decide+kernel)];refine uJ ?_;walk_at "";exact ⟨⟨_,rfl⟩,s2⟩
 ·subst e;have gt2:∀(i:Nat) (a:Addr) (p:aV),rs[i]?=some a->g[i]?=some p->H2 a=some (.tup [.str (aG p.1),.int p.2.sum]):=λi a p x y=>s2 _ _ (gt1 i a p x y);have hr2:=s2 _ _ hr1;unfold SD;walk_at "";refine kP (aR.of hr2) ?_;intro D nD;refine iA (dG (xs:=rs.map V.ref)) (λi=>V.str (aG (g.getD i ([],[])).1)) nD (λH3 h3=>aR.of (h3 _ _ hr2)) (by rw[hrl];exact small (by lia)) (λi x H3 Q' hx h3 fin=>?_) λH3 h3 hO=>?_
  ·rw[getElem?_map] at hx;cases ex:rs[i]? with
   |none=>rw[ex] at hx;cases hx
   |some a=>
    rw[ex] at hx;cases hx;have hi:i<g.length:=by
     have:=(List.getElem?_eq_some_iff.mp ex).1;lia
    have hgi:g[i]?=some g[i]:=getElem?_eq_getElem hi;have ha:=h3 _ _ (gt2 i a _ ex hgi);walk_at "";refine iV (v:=.str (aG g[i].1)) (cC.of ha) rfl ?_;have e:(g.getD i ([],[]))=g[i]:=by rw[getD_eq_getElem?_getD,hgi];rfl
    rw[<-e];exact fin H3 (aB.refl _)
  ·have hO2:H3 D=some (.lst ((g.map λp=>aG p.1).map V.str)):=by
    rw[hO,hrl]
    congr 2
    refine ext_getElem? λi=>?_;by_cases hi:i<g.length
    ·rw[getElem?_map,getElem?_range hi,getElem?_map,getElem?_map,getElem?_eq_getElem hi];show some (V.str (aG (g.getD i ([],[])).1))=some (V.str (aG g[i].1));rw[getD_eq_getElem?_getD,getElem?_eq_getElem hi];rfl
    ·rw[List.getElem?_eq_none (by rw[length_map,length_range];lia),List.getElem?_eq_none (by rw[length_map,length_map];lia)]
   walk_at "";refine Cv ?_;walk_at "";refine WE ?_;walk_at "";refine ⟨D,g.map λp=>aG p.1,rfl,hO2,by rw[length_map];lia,λD2 ss H4 s4 n2 hm hn hs h4=>?_⟩;have nd2:(g.map λp=>aG p.1).Nodup:=by
    have h1:(bI g).Nodup:=by
     unfold bI at nd ⊢;exact ((gp.map (λp:aV=>p.1)).nodup_iff).mpr nd
    have e:(g.map λp=>aG p.1)=(bI g).map aG:=by unfold bI;rw[map_map];rfl
    rw[e];exact Pairwise.map aG (λa b h e=>h (by have:=congrArg ls e;rwa [aQ,aQ] at this)) h1
   have rg:Ec (g.map λp=>aG p.1):=by
    refine pairwise_map.mpr (gs.imp λ{a b} h=>?_);unfold So.MJ at h;dsimp only at h;by_cases e:aG b.1=aG a.1
    ·rw[e];exact List.lt_irrefl _
    ·rw[if_neg e] at h;exact of_decide_eq_false h
   have es:=vT hn nd2 hm (yP hs) rg;rw[es] at h4;refine ⟨D,D2,_,_,λ_=>true,rfl,rfl,.inl ⟨s4 _ _ hO2,h4⟩,rfl,λi x y hx hy=>?_,?_⟩
   ·rw[hx] at hy;cases hy;obtain ⟨z,_,rfl⟩:=mem_map.mp (mem_of_getElem? hx);exact .inl (.inr (.inl ⟨z,z,rfl,rfl,by simp⟩))
   ·rw[show (range ((g.map λp=>aG p.1).map V.str).length).all (λ_=>true)=true from all_eq_true.mpr λ_ _=>rfl];exact q H4 (((s0.trans s2).trans h3).trans s4)
end
section
variable {K:Fg}
noncomputable def el (p:List Str × Nat):EX K:=lst [tup (p.1.map λw=>cst (.str w)),cst (.int (p.2:Nat))]
noncomputable def Fw (H:Hp) (p:List Str × Nat) (l:Addr):Prop:=∃t,H l=some (.lst [.ref t,.int (p.2:Nat)])/\H t=some (.tup (p.1.map V.str))
theorem Fw.same {H H':Hp} {p:List Str × Nat} {l:Addr} (h:Fw H p l) (e:aB H H'):Fw H' p l:=by
 obtain ⟨t,a,b⟩:=h;exact ⟨t,e _ _ a,e _ _ b⟩
theorem CI {E:XS} {σ:St} {H:Hp}:∀{ws:List Str} {Q:List V->Hp->Prop},Q (ws.map V.str) H->fQ (ws.map λw=>(cst (.str w):EX K)) E σ H Q
 |[],_,h=>h
 |w::ws,Q,h=>by
  show fQ (ws.map λw=>(cst (.str w):EX K)) E σ H λxs H1=>Q (.str w::xs) H1;exact CI (ws:=ws) h
theorem Gw {E:XS} {σ:St} {H:Hp} {p:List Str × Nat} {Q:VK} (hp:p.1.length<=4) (q:∀l H',aB H H'->Fw H' p l->Q (.ref l) H'):(el p:EX K).t E σ H Q:=by
 unfold el;refine JT ?_;show (tup (p.1.map λw=>cst (.str w)):EX K).t E σ H λx H1=>(cst (.int (p.2:Nat)):EX K).t E σ H1 λy H2=>_;refine RK (CI ⟨small (by rw[length_map];lia),λt nt=>?_⟩);show 2<=sizeLine/\_;refine ⟨small (by decide),λl nl=>?_⟩;refine q l _ ((aE nt _).trans (aE nl _)) ⟨t,aA,?_⟩;rw[aF (aD aA nl)];exact aA
theorem LZ {E:XS} {σ:St}:∀{ps:List (List Str × Nat)} {H:Hp} {Q:List V->Hp->Prop},(∀p∈ps,p.1.length<=4)->(∀(ls:List Addr) (H':Hp),aB H H'->ls.length=ps.length->(∀(i:Nat) (l:Addr) (p:List Str × Nat),ls[i]?=some l->ps[i]?=some p->Fw H' p l)->Q (ls.map V.ref) H')->fQ (ps.map (el (K:=K))) E σ H Q
 |[],H,_,_,h=>h [] H (aB.refl _) rfl λi l p hl=>by cases hl
 |p::ps,H,Q,hp,h=>by
  show (el p:EX K).t E σ H λx H1=>fQ (ps.map (el (K:=K))) E σ H1 λxs H2=>Q (x::xs) H2;refine Gw (hp p mem_cons_self) λl H1 s1 f1=>?_;refine LZ (ps:=ps) (λq hq=>hp q (mem_cons_of_mem _ hq)) λls H2 s2 hl hf=>?_;refine h (l::ls) H2 (s1.trans s2) (by rw[length_cons,length_cons,hl]) λi a q ha hq=>?_;cases i with
  |zero=>
   cases ha;cases hq;exact f1.same s2
  |succ i=>exact hf i a q ha hq
structure YU (H:Hp) (ps:List (List Str × Nat)) (l:Addr) (ls:List Addr):Prop where
 l:H l=some (.lst (ls.map V.ref))
 n:ls.length=ps.length
 f:∀(i:Nat) (a:Addr) (p:List Str × Nat),ls[i]?=some a->ps[i]?=some p->Fw H p a
theorem YU.same {H H':Hp} {ps:List (List Str × Nat)} {l:Addr} {ls:List Addr} (h:YU H ps l ls) (e:aB H H'):YU H' ps l ls:=⟨e _ _ h.l,h.n,λi a p x y=>(h.f i a p x y).same e⟩
theorem RQ {E:XS} {σ:St} {H:Hp} {ps:List (List Str × Nat)} {Q:VK} (hp:∀p∈ps,p.1.length<=4) (hn:ps.length<=12) (q:∀(l:Addr) (ls:List Addr) (H':Hp),aB H H'->YU H' ps l ls->Q (.ref l) H'):(lst (ps.map (el (K:=K)))).t E σ H Q:=by
 refine JT (LZ hp λls H1 s1 hl hf=>⟨small (by rw[length_map];lia),λl nl=>?_⟩);have s2:=aE nl (.lst (ls.map V.ref));exact q l ls _ (s1.trans s2) ⟨aA,hl,λi a p x y=>(hf i a p x y).same s2⟩
theorem zZ {E:XS} {σ:St} {H:Hp} {ps qs:List (List Str × Nat)} {l:Addr} {ls:List Addr} {k:Nat} {Q:VK} (hσ:σ[k]?=some (some (.ref l))) (h0:YU H ps l ls) (hp:∀p∈qs,p.1.length<=4) (hn:ps.length+qs.length<=12) (q:∀(l:Addr) (ls:List Addr) (H':Hp),aB H H'->YU H' (ps++qs) l ls->Q (.ref l) H'):(bin .Add (var k) (lst (qs.map (el (K:=K))))).t E σ H Q:=by
 refine RT ?_;refine BP hσ ?_;refine RQ hp (by lia) λl2 ls2 H1 s1 f1=>?_;have f0:=h0.same s1;refine JW f0.l f1.l (small (by rw[length_map,length_map,f0.n,f1.n];lia)) λr nr=>?_;have s2:=aE nr (.lst (ls.map V.ref++ls2.map V.ref));refine q r (ls++ls2) _ (s1.trans s2) ⟨by rw[aA,map_append],by rw[length_append,length_append,f0.n,f1.n],λi a p x y=>?_⟩;by_cases hi:i<ls.length
 ·rw[getElem?_append_left hi] at x;rw[getElem?_append_left (by have:=f0.n;lia)] at y;exact (f0.f i a p x y).same s2
 ·rw[getElem?_append_right (by lia)] at x;rw[getElem?_append_right (by have:=f0.n;lia),<-f0.n] at y;exact (f1.f _ a p x y).same s2
noncomputable def nW (K:Fg):Sp:=λvs H Q _=>∃n:Int,vs=[.int n]/\0<=n/\∀(l:Addr) (i:Nat) (p:List Str × Nat) (H':Hp),aB H H'->FW[i]?=some p->Fw H' p l->Q (.ref l) H'
noncomputable def lU (K:Fg):List (SX K):=
 [set 1 (lst [lst [tup [cst (.str "ab"),cst (.str "a")],cst (.int 20)],lst [tup [cst (.str "ab"),cst (.str "ba")],cst (.int 20)],lst [tup [cst (.str "aab"),cst (.str "ab")],cst (.int 20)],lst [tup [cst (.str "abc"),cst (.str "ac"),cst (.str "b")],cst (.int 9)]]),
  set 1 (bin .Add (var 1) (lst [lst [tup [cst (.str "abb"),cst (.str "ab")],cst (.int 20)],lst [tup [cst (.str "abc"),cst (.str "bca"),cst (.str "cab")],cst (.int 20)],lst [tup [cst (.str "ab"),cst (.str "cd"),cst (.str "ad"),cst (.str "cb")],cst (.int 12)]])),
  set 1 (bin .Add (var 1) (lst [lst [tup [cst (.str "abab"),cst (.str "a")],cst (.int 20)],lst [tup [cst (.str "ab"),cst (.str "c"),cst (.str "a")],cst (.int 20)]])),
  set 1 (bin .Add (var 1) (lst [lst [tup [cst (.str "ab"),cst (.str "ca"),cst (.str "cd"),cst (.str "ac")],cst (.int 12)],lst [tup [cst (.str "aba"),cst (.str "b")],cst (.int 20)],lst [tup [cst (.str "ab"),cst (.str "b")],cst (.int 20)]])),
  ret (ix (var 1) (bin .Mod (var 0) (cst (.int 12))))]
noncomputable abbrev F1:List (List Str × Nat):=[(R0,20),(R1,20),(R2,20),(R3,9)]
noncomputable abbrev F2:List (List Str × Nat):=[(R4,20),(R5,20),(R6,12)]
noncomputable abbrev F3:List (List Str × Nat):=[(R7,20),(R8,20)]
noncomputable abbrev F4:List (List Str × Nat):=[(R9,12),(Et,20),(Es,20)]
noncomputable def RZ (K:Fg):List (SX K):=[set 1 (lst (F1.map el)),set 1 (bin .Add (var 1) (lst (F2.map el))),set 1 (bin .Add (var 1) (lst (F3.map el))),set 1 (bin .Add (var 1) (lst (F4.map el))),ret (ix (var 1) (bin .Mod (var 0) (cst (.int 12))))]
theorem XB:lU K=RZ K:=rfl
theorem CY:TT (nW K) (lU K) ["_law_number","_law_some"]:=by
 intro vs H Q E h;obtain ⟨n,rfl,n0,q⟩:=h;rw[XB];unfold RZ
 (with_reducible refine mE ?_)
 refine rL ?_;refine RQ (ps:=F1) (by decide) (by decide) λl1 ls1 H1 s1 f1=>?_
 (with_reducible refine mE ?_)
 refine rL ?_;refine zZ (ps:=F1) (qs:=F2) rfl f1 (by decide) (by decide) λl2 ls2 H2 s2 f2=>?_
 (with_reducible refine mE ?_)
 refine rL ?_;refine zZ (ps:=F1++F2) (qs:=F3) rfl f2 (by decide) (by decide) λl3 ls3 H3 s3 f3=>?_
 (with_reducible refine mE ?_)
 refine rL ?_;refine zZ (ps:=F1++F2++F3) (qs:=F4) rfl f3 (by decide) (by decide) λl4 ls4 H4 s4 f4=>?_;have fl:(F1++F2++F3++F4)=FW:=rfl;rw[fl] at f4;walk_at "";have m0:=emod_nonneg n (show (12:Int)≠0 by decide);have m1:=emod_lt_of_pos n (show (0:Int)<12 by decide);obtain ⟨i,hi⟩:∃i:Nat,n % 12=(i:Int):=⟨(n % 12).toNat,by lia⟩;have hl:ls4.length=12:=f4.n;have hx:ls4[i]?=some (ls4[i]'(by lia)):=getElem?_eq_getElem _;have hy:FW[i]?=some (FW[i]'(by show i<12;lia)):=getElem?_eq_getElem _;refine kO (aR.of f4.l) (v:=.ref (ls4[i]'(by lia))) (by rw[hi];exact cF (by rw[getElem?_map,hx];rfl)) ?_;exact q _ i _ H4 (((s1.trans s2).trans s3).trans s4) hy (f4.f i _ _ hx hy)
end
structure KF (K:Fg):Prop where
 n_NoStart:PySem.W.nsIn K mainGlobals "NoStart"=some (some (.ref (clsAt K "NoStart")))
 n_TooGreat:PySem.W.nsIn K mainGlobals "TooGreat"=some (some (.ref (clsAt K "TooGreat")))
 ini:YE K "TooGreat" "self" "most" "most"
 e_NoStart:YF K "NoStart"
theorem QK.same {H H':Hp} {rs:List Addr} {f:List aV} (h:QK H rs f) (e:∀a y,H a=some (.tup y)->H' a=some (.tup y)):QK H' rs f:=by
 obtain ⟨g,g1,g2,g3,g4⟩:=h;exact ⟨g,g1,g2,λi a p x y=>e _ _ (g3 i a p x y),g4⟩
section
variable {K:Fg}
structure Lw (K:Fg) (H:Hp) (a:Addr) (ws:List Str) (c L:Nat):Prop where
 rl:Rl K H a ws 100
 c1:97<=c
 c2:c - 97<ws.length
 gr:aJ ws c=true
 l1:1<=L
 l20:L<=20
 few:(bP ws c L).length<=300
theorem Lw.same {H H':Hp} {a:Addr} {ws:List Str} {c L:Nat} (h:Lw K H a ws c L) (e:aB H H'):Lw K H' a ws c L:=⟨h.rl.same e,h.c1,h.c2,h.gr,h.l1,h.l20,h.few⟩
theorem Lw.pl {H:Hp} {a:Addr} {ws:List Str} {c L:Nat} (h:Lw K H a ws c L) {n m:Nat} (hm:m<=400) (hn:n+L<=(wk ws c m).length):Pl K H a ws c ((n+L - 1:Nat):Int):=by
 have e:=cQ h.rl.ru h.c1 h.c2 m;have l1:=h.l1;exact ⟨h.rl.rt,h.rl.ru,h.c1,h.c2,h.gr,by lia,m,hm,by lia⟩
theorem Lw.pl0 {H:Hp} {a:Addr} {ws:List Str} {c L:Nat} (h:Lw K H a ws c L):Pl K H a ws c ((0+L - 1:Nat):Int):=by
 have e:=cQ h.rl.ru h.c1 h.c2 L;have b:=dH h.rl.ru h.c1 h.c2 h.gr L;have:=h.l20;exact h.pl (m:=L) (by lia) (by lia)
theorem Lw.nd {H:Hp} {a:Addr} {ws:List Str} {c L:Nat} (h:Lw K H a ws c L):(bI (bP ws c L)).Nodup:=CJ h.pl0 h.l1
theorem Lw.pc {H:Hp} {a:Addr} {ws:List Str} {c L:Nat} (h:Lw K H a ws c L):∀p∈bP ws c L,∃n:Nat,p.1=str ws c n L/\p.2.sum=(n:Int)/\n+L<=(wk ws c (L+300)).length:=λp hp=>
 NN h.rl.ru h.c1 h.c2 h.gr (nS h.rl.ru h.l1 h.c1 h.c2 h.gr 300 p hp)
theorem Lw.pc2 {H:Hp} {a:Addr} {ws:List Str} {c L:Nat} (h:Lw K H a ws c L):∀p∈bP ws c L,p.1.length=L/\(∀d∈p.1,97<=d/\d<97+ws.length)/\0<=p.2.sum:=λp hp=>by
 obtain ⟨n,e1,e2,e3⟩:=h.pc p hp;refine ⟨by rw[e1,str_len],λd hd=>?_,by lia⟩;rw[e1] at hd;have:=L2.Na.bT h.rl.ru h.c1 h.c2 h.gr e3 d hd;lia
theorem Lw.first {H:Hp} {a:Addr} {ws:List Str} {c L:Nat} (_:Lw K H a ws c L):(str ws c 0 L,replicate ws.length (0:Int))∈bP ws c L:=by
 obtain ⟨t,e⟩:=cR ws (f0 ws c L) 0 300;rw[zero_add] at e;unfold bP;rw[e];exact mem_append.mpr (.inl mem_cons_self)
theorem Lw.one {H:Hp} {a:Addr} {ws:List Str} {c L:Nat} (h:Lw K H a ws c L):1<=(bP ws c L).length:=List.length_pos_of_mem h.first
theorem Lw.ask {H:Hp} {a:Addr} {ws:List Str} {c L:Nat} {Q:VK} {E:XK} (h:Lw K H a ws c L) (q:∀(r:Addr) (rs:List Addr) (H':Hp),aB H H'->H r=none->H' r=some (.lst (rs.map V.ref))->QK H' rs (bP ws c L)->Q (.ref r) H'):iI K [.ref a,sgn c,.int (L:Nat)] H Q E:=
 .inl ⟨a,ws,c,L,rfl,h.l1,Nat.le_trans h.l20 (by decide),h.pl0,λ_=>q,λhg=>absurd h.few (Nat.not_le.mpr hg)⟩
end
end L2.Na.K31
namespace L2.Na.K32
open PySem PySem.Spec PyProof.Rows L2 L2.L3 L2.Na.Pr L2.Na.K41
noncomputable def FO (v:aV->V) (f:List aV):List (Key × V):=f.map λp=>(Sum.inr (aG p.1),v p)
theorem wR {v:aV->V}:∀{f:List aV} {x:List Nat},x∉bI f->cZ (FO v f) (Sum.inr (aG x))=none
 |[],x,_=>rfl
 |p::f,x,h=>by
  have h1:¬(Sum.inr (aG p.1):Key)=Sum.inr (aG x):=λe=>h (by
   have:=mX (Sum.inr.inj e)
   rw[<-this]
   exact mem_cons_self)
  show cZ ((Sum.inr (aG p.1),v p)::FO v f) _=none;rw[dX h1];exact wR λz=>h (mem_cons_of_mem _ z)
theorem nE {v:aV->V}:∀{f:List aV} {p:aV},(bI f).Nodup->p∈f->cZ (FO v f) (Sum.inr (aG p.1))=some (v p)
 |[],p,_,h=>nomatch h
 |q::f,p,nd,h=>by
  have nd':(q.1::bI f).Nodup:=nd;obtain ⟨n1,n2⟩:=nodup_cons.mp nd';show cZ ((Sum.inr (aG q.1),v q)::FO v f) _=_;rcases mem_cons.mp h with rfl|h
  ·exact gL rfl
  ·have ne:¬(Sum.inr (aG q.1):Key)=Sum.inr (aG p.1):=λe=>n1 (by
    rw[mX (Sum.inr.inj e)]
    exact mem_map.mpr ⟨p,h,rfl⟩)
   rw[dX ne];exact nE n2 h
theorem OP {v:aV->V} {f:List aV} {p:aV} (h:p.1∉bI f):putK (FO v f) (Sum.inr (aG p.1)) (v p)=FO v (f++[p]):=by
 unfold putK;rw[if_neg (by rw[jM,wR h];simp)];unfold FO;rw[map_append];rfl
theorem OQ {v:aV->V} (f:List aV):(FO v f).length=f.length:=length_map _
theorem OH {g:List aV} (nd:(bI g).Nodup) {i:Nat} {p:aV} (h:g[i]?=some p):p.1∉bI (g.take i):=by
 intro hm;obtain ⟨hi,e⟩:=List.getElem?_eq_some_iff.mp h;have e2:bI g=bI (g.take i)++bI (g.drop i):=by rw[<-dN,take_append_drop]
 rw[e2] at nd;refine (pairwise_append.mp nd).2.2 _ hm p.1 ?_ rfl;rw[List.drop_eq_getElem_cons hi,e];exact mem_cons_self
theorem take_one {g:List aV} {i:Nat} {p:aV} (h:g[i]?=some p):g.take (i+1)=g.take i++[p]:=by
 rw[take_add_one,h];rfl
theorem VH {c:Nat} (h1:97<=c) (h2:c<101):∃r,Builtin.Str.occurrences (Str.ofString "abcd") ⟨#[c]⟩ 0 (Str.ofString "abcd").length 1=(c - 97)::r:=oH h1 h2
section
variable {K:Fg}
end
end L2.Na.K32
namespace L2.Na.K33
open PySem PySem.Spec PyProof.Rows L2 L2.L3 L2.Na.Pr L2.Na.K41 L2.Na.K32
noncomputable def Hj (ws:List Str) (c L n:Nat):Prop:=∀m,m<n->str ws c m L≠str ws c n L
theorem AI {ws:List Str} {c L n N i:Nat}:StrLaws.At (aG (str ws c 0 N)) (aG (str ws c n L)) (aG (str ws c 0 N)).length i↔i+L<=N/\str ws c i L=str ws c n L:=by
 unfold StrLaws.At;rw[aX,aX,str_len,str_len,StrLaws.subAt_eq,aX,str_len];show i+L<=N/\((ls (aG (str ws c 0 N))).drop i).take L==ls (aG (str ws c n L))↔_;rw[aQ,aQ,beq_iff_eq];refine and_congr_right λh=>?_;rw[dJ ws c 0 N i L h,zero_add]
theorem EL {ws:List Str} {c L n N:Nat} (hf:Hj ws c L n):Txt.find (aG (str ws c 0 N)) (aG (str ws c n L))=(n:Int)\/(Txt.find (aG (str ws c 0 N)) (aG (str ws c n L))=-1/\N<n+L):=by
 rcases find_whole (aG (str ws c 0 N)) (aG (str ws c n L)) with ⟨e,h⟩|⟨i,e,h,k⟩
 ·exact .inr ⟨e,lt_of_not_le λhle=>h n (AI.mpr ⟨hle,rfl⟩)⟩
 ·obtain ⟨h1,h2⟩:=AI.mp h;have hn:n<=i:=le_of_not_lt λhlt=>hf i hlt h2;have:i=n:=by
   refine Nat.le_antisymm (le_of_not_lt λhlt=>?_) hn;exact k n hlt (AI.mpr ⟨by lia,rfl⟩)
  exact .inl (by rw[e,this])
theorem NT {ws:List Str} {c L:Nat} (hU:Ru ws) (hL:1<=L) (h1:97<=c) (h2:c - 97<ws.length) (hg:aJ ws c=true) (n j:Nat) (hj:j<(wd ws (ew ws c n)).length):((aK ws (str ws c n L)).drop j).take L=str ws c (Fl ws c n+j) L:=by
 have e:=LJ hU hL h1 h2 hg n j hj;rw[uG (x:=eP ws c L n) (by show j<(wd ws ((str ws c n L).headD 0)).length;rw[fE n hL];exact hj)] at e;have e2:((aK ws (str ws c n L)).drop j).take (str ws c n L).length=str ws c (Fl ws c n+j) L:=congrArg Prod.fst (Option.some.inj e);rw[str_len] at e2;exact e2
section
variable {K:Fg}
theorem PH {H:Hp} {Q:VK} {z y:Str} (h:Q (.int (Txt.find z y)) H):tL z [.str y] H Q:=h
noncomputable def lY (K:Fg):Sp:=λvs H Q _=>∃(r:Addr) (rs:List Addr) (ws:List Str) (c L N:Nat),vs=[.ref r,.str (aG (str ws c 0 N)),.int (L:Nat)]/\H r=some (.lst (rs.map V.ref))/\N<=1000/\
 (∀x∈rs,∃n,Hj ws c L n/\H x=some (.tup [.str (aG (str ws c n L)),.int (n:Nat)]))/\∀H',aB H H'->Q (.bl true) H'
noncomputable def jH (K:Fg):List (SX K):=
 [iR (CT [3,4]) (kQ (var 0)) [set 5 (m_find (var 1) (var 3)),
   wX (AJ (cmp .GtE (var 5) (cst (.int 0))) [cmp .NotEq (var 4) (var 5)]) [ret (cst (.bl false))] [],
   wX (AJ (cmp .Lt (var 5) (cst (.int 0))) [cmp .LtE (var 4) (bin .Sub (len (var 1)) (var 2))]) [ret (cst (.bl false))] []],
  ret (cst (.bl true))]
theorem yI:TT (lY K) (jH K) ["_law_found","_law_word_here","_law_length_here","_law_piece","_law_place","_law_first"]:=by
 intro vs H Q E h;obtain ⟨r,rs,ws,c,L,N,rfl,hr,hN,hx,q⟩:=h;have hzl:(aG (str ws c 0 N)).length=N:=by rw[aX,str_len]
 unfold jH;walk_at "";refine kP (aR.of hr) ?_;refine oO (aR.of hr) (λ_ σ=>∃b3 b4 b5,σ=[some (.ref r),some (.str (aG (str ws c 0 N))),some (.int (L:Nat)),b3,b4,b5]) ⟨_,_,_,rfl⟩ (λi x σ H1 hx1 ⟨b3,b4,b5,e⟩ s1=>?_) λσ H1 ⟨b3,b4,b5,e⟩ s1=>?_
 ·subst e;obtain ⟨y,hy,rfl⟩:=mem_map.mp (mem_of_getElem? hx1);obtain ⟨n,hf,ht⟩:=hx y hy;refine jD (cC.of (s1 _ _ ht)) ?_;walk_at "";refine WQ ?_;walk_at "";refine PH ?_;rcases EL (N:=N) hf with e|⟨e,hlt⟩
  ·rw[e];walk_at "";refine gI (λ_=>?_) λz=>absurd (show (0:Int)<=(n:Nat) by lia) (by lia);walk_at "";rw[decide_eq_true rfl];refine uJ ?_;walk_at "";refine gI (λz=>absurd z (by lia)) λ_=>?_;refine uJ ?_;walk_at "";exact ⟨⟨_,_,_,rfl⟩,s1⟩
  ·rw[e];walk_at "";refine gI (λz=>absurd z (by lia)) λ_=>?_;refine uJ ?_;walk_at "";refine gI (λ_=>?_) λz=>absurd (show (-1:Int)<0 by decide) (by lia);walk_at "";refine eU (small (by lia)) ?_;rw[hzl];walk_at "";refine gI (λz=>absurd z (by lia)) λ_=>?_;walk_at "";exact ⟨⟨_,_,_,rfl⟩,s1⟩
 ·subst e;walk_at "";exact q H1 s1
end
structure Gd (ws:List Str) (c L:Nat) (g:List aV):Prop where
 nd:(bI g).Nodup
 cl:∀x∈bI g,∀y∈gU ws x,y∈bI g
 at_:∀p∈g,∃n:Nat,p=eP ws c L n/\p.2.sum=(n:Int)/\Hj ws c L n/\n+L<=(wk ws c (L+300)).length
section
variable {K:Fg}
noncomputable def gF (K:Fg):Sp:=λvs H Q _=>∃(d a:Addr) (ws:List Str) (c L n:Nat) (g:List aV),vs=[.ref d,.ref a,sgn c,.str (aG (str ws c n L))]/\H d=some (.dK (FO (λp=>.int p.2.sum) g))/\Rl K H a ws 100/\97<=c/\c - 97<ws.length/\aJ ws c=true/\1<=L/\L<=20/\
 Gd ws c L g/\eP ws c L n∈g/\∀H',aB H H'->Q (.bl true) H'
noncomputable def LQ (K:Fg):List (SX K):=
 set 6 (call "_law_image" (fU K) [var 1,var 3])::
  iR (kJ 7) (tZ (len (ix (var 1) (mY (cst (.str "abcd")) (ix (var 3) (cst (.int 0)))))) []) [set 8 (yR (var 6) (some (var 7)) (some (bin .Add (var 7) (len (var 3))))),
   wX (Au (VI (var 8) (var 0)) [cmp .Gt (ix (var 0) (var 8)) (bin .Add (var 5) (var 7))]) [ret (cst (.bl false))] []]::
  [ret (cst (.bl true))]
noncomputable def eF (K:Fg):List (SX K):=
 set 4 (call "counts_to" (Pr.jV K) [var 1,var 2,ix (var 0) (var 3)])::
  set 5 (sum (comp (bin .Mult (ix (var 1) (var 0)) (len (ix (var 2) (var 0)))) (kJ 0) (tZ (len (var 1)) []) ["_law_k"] ["_law_ahead","_law_rule"] [4,1]))::LQ K
theorem ZG {H H1:Hp} {Q:VK} {E:XK} {d a:Addr} {ws:List Str} {c L n:Nat} {g:List aV} {v4:Option V} (s1:aB H H1) (hd:H1 d=some (.dK (FO (λp=>.int p.2.sum) g))) (hR:Rl K H1 a ws 100) (h1:97<=c) (h2:c - 97<ws.length) (hg:aJ ws c=true) (l1:1<=L) (l20:L<=20) (G:Gd ws c L g) (hn:eP ws c L n∈g) (q:∀H',aB H H'->Q (.bl true) H'):
  lW (LQ K) (λ_=>E) {nx:=λ_ H'=>Q .non H',rt:=Q} [some (.ref d),some (.ref a),some (sgn c),some (.str (aG (str ws c n L))),v4,some (.int (Fl ws c n:Nat)),none,none,none] H1:=by
 have hU:=hR.ru;have h4:=hR.four;have hk:n+L<=(wk ws c (n+L)).length:=kM hU h1 h2 hg (n+L);have pw:=L2.Na.bT hU h1 h2 hg hk;have hzl:(aG (str ws c n L)).length=L:=by rw[aX,str_len]
 have hil:=iN hU (l:=str ws c n L);rw[str_len] at hil;unfold LQ;walk_at "";refine ⟨a,ws,_,rfl,hR,pw.isW,by lia,λH2 s2=>?_⟩;have hR2:=hR.same s2;walk_at "";have ec:ew ws c n=(str ws c n L).headD 0:=(fE n l1).symm;have hcl:=BU hU h1 h2 hg n;obtain ⟨ro,hro⟩:=VH hcl.1 (by lia);obtain ⟨w,hw,ew',hwm⟩:=hU.word hcl.2;refine oW (k:=ew ws c n) (small (by lia)) (by
  show pQ (ls (aG (str ws c n L))) ((0:Nat):Int)=some (ew ws c n)
  rw[aQ]
  refine cF ?_
  obtain ⟨l,rfl⟩:∃l,L=1+l:=⟨L - 1,by lia⟩
  rw[jR]
  rfl) ?_
 walk_at "";refine oX hro ?_;refine iV (v:=.str w) hR2.sq (cF (by rw[getElem?_map,hw];rfl)) ?_;have wl:=hU.le w hwm;refine eU (small (by lia)) ?_;walk_at "";have hwd:(wd ws (ew ws c n)).length=w.length:=by rw[ew',aS]
 refine DZ (λ_ σ=>∃b7 b8,σ=[some (.ref d),some (.ref a),some (sgn c),some (.str (aG (str ws c n L))),v4,some (.int (Fl ws c n:Nat)),some (.str (img ws (aG (str ws c n L)))),b7,b8]) ⟨_,_,rfl⟩ (λj σ H3 hj ⟨b7,b8,e⟩ s3=>?_) λσ H3 ⟨b7,b8,e⟩ s3=>?_
 ·subst e;rw[toNat_natCast] at hj;have e0:(0:Int)+((j:Nat):Int)=((j:Nat):Int):=by lia
  rw[e0];have hj':j<(wd ws (ew ws c n)).length:=by lia
  have plen:=fG hU pw (by rw[str_len];exact l1) (j:=j) (by rw[<-ec];exact hj');rw[length_take,length_drop,str_len] at plen;walk_at "";refine eU (small (by lia)) ?_;rw[hzl];walk_at "";refine fK (small (by rw[bZ,aX,aQ];lia)) ?_;rw[bZ,aQ,nX (by rw[aX];lia),aQ,NT hU l1 h1 h2 hg n j hj'];walk_at "";have hd3:=s3 _ _ (s2 _ _ hd);have hin:str ws c (Fl ws c n+j) L∈bI g:=G.cl _ (mem_map.mpr ⟨_,hn,rfl⟩) _ (nQ hU l1 h1 h2 hg n j hj');obtain ⟨p,hp,ep⟩:=mem_map.mp hin;obtain ⟨n',e1,e2,e3,_⟩:=G.at_ p hp;have ev:=nE (v:=λp=>V.int p.2.sum) G.nd hp;rw[ep,e2] at ev;have hle:n'<=Fl ws c n+j:=le_of_not_lt λhlt=>e3 _ hlt (by rw[<-ep,e1];rfl);refine JI ?_;walk_at "";refine ⟨d,_,rfl,dR.k (k:=Sum.inr (aG (str ws c (Fl ws c n+j) L))) hd3,?_⟩;rw[ev];refine ⟨false,rfl,?_⟩;refine uJ ?_;walk_at "";refine iW (v:=.int (n':Nat)) (by rw[<-ev];exact dR.k (k:=Sum.inr (aG (str ws c (Fl ws c n+j) L))) hd3) ?_;walk_at "";refine gI (λz=>absurd z (by lia)) λ_=>?_;walk_at "";exact ⟨⟨_,_,rfl⟩,s3⟩
 ·subst e;walk_at "";exact q H3 ((s1.trans s2).trans s3)
theorem nL:TT (gF K) (eF K) ["_law_told","_law_rule","_law_start","_law_piece","_law_ahead","_law_place","_law_below","_law_step","_law_part"]:=by
 intro vs H Q E h;obtain ⟨d,a,ws,c,L,n,g,rfl,hd,hR,h1,h2,hg,l1,l20,G,hn,q⟩:=h;have hU:=hR.ru;have h4:=hR.four;have hlen:(ws.map V.str).length=ws.length:=length_map _;obtain ⟨n',e1,e2,_,e4⟩:=G.at_ _ hn;have hsn:(eP ws c L n).2.sum=(n:Int):=by
  show (aW ws.length (aG (str ws c 0 n))).sum=_;rw[lS (L2.Na.bT hU h1 h2 hg (k:=n) (n:=0) (m:=n) (by have:=kM hU h1 h2 hg n;lia)).isW,aX,str_len]
 have en:n'=n:=by lia
 subst en;have ev:=nE (v:=λp=>V.int p.2.sum) G.nd hn;rw[hsn] at ev;have hL:=L2.Na.bT hU h1 h2 hg (k:=n') (n:=0) (m:=n') (by have:=kM hU h1 h2 hg n';lia);unfold eF;walk_at "";refine iW (v:=.int (n':Nat)) (by rw[<-ev];exact dR.k (k:=Sum.inr (aG (str ws c n' L))) hd) ?_;walk_at "";have ek:=cQ hU h1 h2 (L+300);refine ⟨a,ws,c,n',rfl,⟨hR.rt,hU,h1,h2,hg,by lia,L+300,by lia,by lia⟩,λr1 H1 hS1 _ hr1=>?_⟩;have hq1:aR K H1 r1 ((aW ws.length (aG (str ws c 0 n'))).map V.int):=aR.of hr1;have hqt:=aB.seqT hS1 hR.rt.tp;walk_at "";intro D hD;refine xK (λj=>.int ((((str ws c 0 n').count (97+j) * (ws[j]?.getD ⟨#[]⟩).length:Nat)):Int)) hD (small (by lia)) (λj H2 Q' hj hS2 fin=>?_) λH2 hS2 hO=>?_
 ·have hj':j<ws.length:=by lia
  have e0:(0:Int)+(j:Nat)=((j:Nat):Int):=by lia
  rw[e0];walk_at "";refine kO (v:=.int (cnt (aG (str ws c 0 n')) j)) (hS2.seq hq1) (cF (by rw[getElem?_map,cA hj'];rfl)) ?_;walk_at "";refine iV (v:=.str ws[j]) (aB.seqT hS2 hqt) (cF (by rw[getElem?_map,getElem?_eq_getElem hj'];rfl)) ?_;have hwl:=hU.le _ (getElem_mem hj');refine eU (small (by lia)) ?_;refine RN (.inr ⟨by lia,by lia⟩) ?_;have f:=fin H2 (aB.refl _);rw[getElem?_eq_getElem hj'] at f;unfold cnt;rw[aQ];simpa using f
 have hplace:((range ws.length).map λj=>((((str ws c 0 n').count (97+j) * (ws[j]?.getD ⟨#[]⟩).length:Nat)):Int)).sum=((Fl ws c n':Nat):Int):=by
  rw[Gm,wW ws (str ws c 0 n') λd hd=>by have:=hL d hd;lia];rfl
 refine ⟨D,(range ws.length).map λj=>((((str ws c 0 n').count (97+j) * (ws[j]?.getD ⟨#[]⟩).length:Nat)):Int),rfl,?_,?_⟩
 ·rw[hO,hlen,toNat_natCast,map_map];rfl
 rw[hplace];have hS02:=hS1.trans hS2;walk_at "";exact ZG hS02 (hS02 _ _ hd) (hR.same hS02) h1 h2 hg l1 l20 G hn q
end
open L2.Na.K31
theorem Fm:V.str (Str.ofString "a")=sgn 97:=congrArg V.str (by decide+kernel)
section
variable {K:Fg}
noncomputable def sX (K:Fg):Sp:=λvs H Q _=>∃(a:Addr) (ns:List Int),vs=[.ref a]/\aR K H a (ns.map V.int)/\ns.length<=63/\∀H',Q (.bl true) H'
noncomputable def LR (K:Fg):List (SX K):=
 iR (kJ 11) (tZ (min2 (len (var 7)) (cst (.int 24))) []) [set 9 (ix (ix (var 7) (bin .Mod (bin .Add (bin .FloorDiv (var 1) (cst (.int 400))) (bin .Mult (cst (.int 5)) (var 11))) (len (var 7)))) (cst (.int 0))),
   wX (AJ (cmp .LtE (ix (var 8) (var 9)) (bin .Pow (cst (.int 10)) (cst (.int 29)))) [oN (call "_law_no_later" (gF K) [var 8,var 4,var 3,var 9])]) [ret (cst (.bl false))] []]::
  [ret (cst (.bl true))]
noncomputable def LS (K:Fg):List (SX K):=
 set 8 Hc::
  iR (CT [9,10]) (kQ (var 7)) [put (var 8) (var 9) (var 10)]::LR K
noncomputable def LU (K:Fg):List (SX K):=
 set 7 (call "pieces" (iI K) [var 4,var 3,var 5])::
  wX (oN (call "_law_are_pieces" (eK K) [var 7,var 5,var 2])) [ret (cst (.bl false))] []::
  wX (oN (call "_law_near" (lY K) [var 7,call "_law_written" (gN K) [var 4,var 3,cst (.int 300)],var 5])) [ret (cst (.bl false))] []::LS K
noncomputable def xQ (K:Fg):List (SX K):=
 set 1 (call "_law_mixed" (fT K) [call "_law_cell" (gP K) [var 0,cst (.int 0)],cst (.int 0)])::
  set 2 (bin .Add (cst (.int 1)) (bin .Mod (var 1) (cst (.int 4))))::
  set 3 (ix (cst (.str "abcd")) (bin .Mod (bin .FloorDiv (var 1) (cst (.int 4))) (var 2)))::
  set 4 (call "_law_growing" (gO K) [var 0,var 2,bin .Mod (bin .FloorDiv (var 1) (cst (.int 4))) (var 2),cst (.int 1),cst (.int 6)])::
  set 5 (call "_law_length" (iT K) [bin .FloorDiv (var 1) (cst (.int 16)),var 2])::
  wX (cmp .Eq (bin .Mod (bin .FloorDiv (var 1) (cst (.int 8000))) (cst (.int 4))) (cst (.int 0))) [ZX (ZA [4,6]) (call "_law_few" (nW K) [bin .FloorDiv (var 1) (cst (.int 32000))]),
   set 2 (len (var 4)),
   set 3 (cst (.str "a")),
   set 5 (bin .Add (cst (.int 1)) (bin .Mod (bin .FloorDiv (var 1) (cst (.int 16))) (var 6)))] []::LU K
theorem Bl:∀vs H Q E,sX K vs H Q E->vs.length=1:=by
 rintro vs H Q E ⟨_,_,rfl,_⟩;rfl
section
variable {Q:VK} {E:XK} {a:Addr} {ws:List Str} {c L:Nat} {v0 v2 v6 v9 v10:Option V}
theorem ZH {H:Hp} {r d:Addr} {rs:List Addr} {g:List aV} {v:Int} (v0':0<=v) (h:Lw K H a ws c L) (hr:H r=some (.lst (rs.map V.ref))) (gl:rs.length=g.length) (g1:1<=g.length)
  (gt:∀(i:Nat) (a:Addr) (p:aV),rs[i]?=some a->g[i]?=some p->H a=some (.tup [.str (aG p.1),.int p.2.sum])) (G:Gd ws c L g) (hd:H d=some (.dK (FO (λp=>.int p.2.sum) g))) (q:∀H',Q (.bl true) H'):
  lW (LR K) (λ_=>E) {nx:=λ_ H'=>Q .non H',rt:=Q} [v0,some (.int v),v2,some (sgn c),some (.ref a),some (.int (L:Nat)),v6,some (.ref r),some (.ref d),v9,v10,none] H:=by
 unfold LR;have rl:(rs.map V.ref).length=rs.length:=length_map _;walk_at "";refine lP (aR.of hr) ?_;walk_at "";rw[rl];refine fH (λ_ σ H'=>aB H H'/\∃b9 b11,σ=[v0,some (.int v),v2,some (sgn c),some (.ref a),some (.int (L:Nat)),v6,some (.ref r),some (.ref d),b9,v10,b11]) ⟨aB.refl _,_,_,rfl⟩ (λi σ H1 hi hP=>?_) λσ H1 hP=>?_
 ·obtain ⟨s1,b9,b11,rfl⟩:=hP;have hr1:=s1 _ _ hr;have hd1:=s1 _ _ hd;walk_at "";refine lP (aR.of hr1) ?_;walk_at "";rw[rl];have hr0:0<rs.length:=by lia
  have m0:=emod_nonneg (v / 400+5 * (0+((i:Nat):Int))) (show ((rs.length:Nat):Int)≠0 by lia);have m1:=emod_lt_of_pos (v / 400+5 * (0+((i:Nat):Int))) (show (0:Int)<((rs.length:Nat):Int) by lia);obtain ⟨j,hj⟩:∃j:Nat,(v / 400+5 * (0+((i:Nat):Int))) % ((rs.length:Nat):Int)=(j:Int):=⟨_,(Int.toNat_of_nonneg m0).symm⟩;rw[hj] at m1 ⊢;have hjl:j<rs.length:=by lia
  have hjg:j<g.length:=by lia
  have hx:rs[j]?=some rs[j]:=getElem?_eq_getElem hjl;have hy:g[j]?=some g[j]:=getElem?_eq_getElem hjg;have hpm:g[j]∈g:=getElem_mem hjg;have hpa:=s1 _ _ (gt j _ _ hx hy);obtain ⟨n,e1,e2,e3,e4⟩:=G.at_ _ hpm;have ev:=nE (v:=λp=>V.int p.2.sum) G.nd hpm;rw[e2] at ev hpa;have en:(g[j]).1=str ws c n L:=by rw[e1];rfl
  rw[en] at ev hpa;rw[e1] at hpm;clear e1 hy;refine kO (aR.of hr1) (v:=.ref rs[j]) (cF (by rw[getElem?_map,hx];rfl)) ?_;walk_at "";refine iV (v:=.str (aG (str ws c n L))) (cC.of hpa) rfl ?_;walk_at "";refine iW (v:=.int (n:Nat)) (by rw[<-ev];exact dR.k (k:=Sum.inr (aG (str ws c n L))) hd1) ?_;walk_at "";refine Ci ⟨by decide,by decide,by decide⟩ ?_;walk_at "";have fin:∀H2,aB H1 H2->aB H H2/\∃b9' b11',[v0,some (.int v),v2,some (sgn c),some (.ref a),some (.int (L:Nat)),v6,some (.ref r),some (.ref d),some (.str (aG (str ws c n L))),v10,some (.int (0+(i:Nat)))]=[v0,some (.int v),v2,some (sgn c),some (.ref a),some (.int (L:Nat)),v6,some (.ref r),some (.ref d),b9',v10,b11']:=λH2 s2=>⟨s1.trans s2,_,_,rfl⟩;refine gI (λ_=>?_) λ_=>?_
  ·walk_at "";have h1:=h.same s1;refine ⟨d,a,ws,c,L,n,g,rfl,hd1,h1.rl,h.c1,h.c2,h.gr,h.l1,h.l20,G,hpm,λH2 s2=>?_⟩;walk_at "";refine uJ ?_;walk_at "";exact fin H2 s2
  ·refine uJ ?_;walk_at "";exact fin H1 (aB.refl _)
 ·obtain ⟨s1,b9,b11,rfl⟩:=hP;walk_at "";exact q H1
theorem ZI {H:Hp} {r:Addr} {rs:List Addr} {g:List aV} {v:Int} (v0':0<=v) (h:Lw K H a ws c L) (hr:H r=some (.lst (rs.map V.ref))) (gl:rs.length=g.length) (g1:1<=g.length) (g3:g.length<=300)
  (gt:∀(i:Nat) (a:Addr) (p:aV),rs[i]?=some a->g[i]?=some p->H a=some (.tup [.str (aG p.1),.int p.2.sum])) (G:Gd ws c L g) (q:∀H',Q (.bl true) H'):
  lW (LS K) (λ_=>E) {nx:=λ_ H'=>Q .non H',rt:=Q} [v0,some (.int v),v2,some (sgn c),some (.ref a),some (.int (L:Nat)),v6,some (.ref r),none,none,none,none] H:=by
 unfold LS;walk_at "";intro d ndd;have s0:=aE ndd (.dK []);walk_at "";refine kP (aR.of (s0 _ _ hr)) ?_;refine mZ (dG (xs:=rs.map V.ref)) (λi σ H'=>aB H H'/\H' d=some (.dK (FO (λp=>.int p.2.sum) (g.take i)))/\∃b9 b10,σ=[v0,some (.int v),v2,some (sgn c),some (.ref a),some (.int (L:Nat)),v6,some (.ref r),some (.ref d),b9,b10,none])
  ⟨s0,aA,none,none,rfl⟩ (λi σ H' _ hP=>aR.of (hP.1 _ _ hr)) (λi x σ H' hx hP=>?_) λσ H' hP=>?_
 ·obtain ⟨sH,hd,b9,b10,rfl⟩:=hP;rw[getElem?_map] at hx;cases ex:rs[i]? with
  |none=>rw[ex] at hx;cases hx
  |some y=>
   rw[ex] at hx;cases hx;have hi:i<g.length:=by
    have:=(List.getElem?_eq_some_iff.mp ex).1;lia
   have hp:g[i]?=some g[i]:=getElem?_eq_getElem hi;refine jD (cC.of (sH _ _ (gt i y _ ex hp))) ?_;walk_at "";refine RM ?_;walk_at "";refine .inr ⟨d,_,rfl,FL.k (k:=.inr (aG g[i].1)) hd (by rw[OQ,length_take];exact Nat.lt_of_lt_of_le (show min i g.length<5000 by lia) (small (by decide))),?_⟩;walk_at "";refine ⟨dZ sH ndd,?_,_,_,rfl⟩;rw[aA,OP (v:=λp=>V.int p.2.sum) (OH G.nd hp),take_one hp]
 ·obtain ⟨sH,hd,b9,b10,rfl⟩:=hP;rw[length_map,gl,take_length] at hd;exact ZH v0' (h.same sH) (sH _ _ hr) gl g1 (λi a p x y=>sH _ _ (gt i a p x y)) G hd q
theorem QW {H:Hp} {v:Int} (v0':0<=v) (h:Lw K H a ws c L) (q:∀H',Q (.bl true) H'):
  lW (LU K) (λ_=>E) {nx:=λ_ H'=>Q .non H',rt:=Q} [v0,some (.int v),some (.int (ws.length:Nat)),some (sgn c),some (.ref a),some (.int (L:Nat)),v6,none,none,none,none,none] H:=by
 unfold LU;walk_at "";refine Lw.ask h λr rs H1 s1 nr hr tl=>?_;have h1:=h.same s1;walk_at "";refine ⟨r,rs,bP ws c L,L,ws.length,rfl,hr,tl,h.one,h.few,h.nd,by have:=h.l20;lia,h.rl.four,h.pc2,λH2 s2=>?_⟩;have h2:=h1.same s2;have hr2:=s2 _ _ hr;obtain ⟨g,gp,gl,gt,gs⟩:=tl.same λb y e=>s2 _ _ e;have hmem:∀{x},x∈bI g↔x∈bI (bP ws c L):=(gp.map (λp:aV=>p.1)).mem_iff;have hgl:g.length<=300:=by rw[gp.length_eq];exact h.few
 have hg1:1<=g.length:=by rw[gp.length_eq];exact h.one
 have G:Gd ws c L g:=⟨((gp.map (λp:aV=>p.1)).nodup_iff).mpr h.nd,λx hx y hy=>hmem.mpr (pS h.few (hmem.mp hx) hy),λp hp=>by
  have hpa:=gp.mem_iff.mp hp
  obtain ⟨n,e1,e2,e3⟩:=QH h.rl.ru h.l1 h.c1 h.c2 h.gr hpa
  obtain ⟨n',_,f2,f3⟩:=h.pc p hpa
  have en:n'=n:=by lia
  subst en
  exact ⟨n',e1,e2,e3,f3⟩⟩
 clear hmem gs gp tl;walk_at "";refine uJ ?_;walk_at "";refine ⟨a,ws,c,300,rfl,h2.rl,h.c1,h.c2,h.gr,by decide,λH3 s3=>?_⟩;have hr3:=s3 _ _ hr2;have gt3:∀(i:Nat) (a:Addr) (p:aV),rs[i]?=some a->g[i]?=some p->H3 a=some (.tup [.str (aG p.1),.int p.2.sum]):=λi a p x y=>s3 _ _ (gt i a p x y);walk_at "";refine ⟨r,rs,ws,c,L,300,rfl,hr3,by decide,λx hx=>?_,λH4 s4=>?_⟩
 ·obtain ⟨i,hi⟩:=getElem?_of_mem hx;have hl:i<g.length:=by
   have:=(List.getElem?_eq_some_iff.mp hi).1;lia
  obtain ⟨n,e1,e2,e3,_⟩:=G.at_ g[i] (getElem_mem hl);refine ⟨n,e3,?_⟩;rw[gt3 i x _ hi (getElem?_eq_getElem hl),e2,show (g[i]).1=str ws c n L by rw[e1];rfl]
 ·walk_at "";refine uJ ?_;walk_at "";exact ZI v0' ((h2.same s3).same s4) (s4 _ _ hr3) gl hg1 hgl (λi a p x y=>s4 _ _ (gt3 i a p x y)) G q
end
theorem ZJ (_:KF K) (vs:List V) (H:Hp) (Q:VK) (E:XK) (h:sX K vs H Q E):lW (xQ K) (λ_=>E) {nx:=λ_ H'=>Q .non H',rt:=Q} (start ["_law_script","_law_head","_law_many","_law_start","_law_rule","_law_length_here","_law_most","_law_found","_law_told_at","_law_piece","_law_place","_law_k"] vs) H:=by
 obtain ⟨a,ns,rfl,hS,h63,q⟩:=h;unfold xQ;walk_at "";refine ⟨a,ns,0,rfl,hS,by decide,λv1=>?_⟩;walk_at "";refine ⟨v1,0,rfl,by decide,by decide,λv v0 _=>?_⟩;walk_at "";obtain ⟨m,hm,m1,m4⟩:∃m:Nat,1+v % 4=(m:Int)/\1<=m/\m<=4:=⟨(1+v % 4).toNat,by lia,by lia,by lia⟩;rw[hm];have s0:=emod_nonneg (v / 4) (show ((m:Nat):Int)≠0 by lia);have s4:=emod_lt_of_pos (v / 4) (show (0:Int)<((m:Nat):Int) by lia);obtain ⟨s,hs⟩:∃s:Nat,v / 4 % ((m:Nat):Int)=(s:Int):=⟨_,(Int.toNat_of_nonneg s0).symm⟩;rw[hs] at s0 s4 ⊢;refine oW (by rw[lB];decide) (uT (m:=4) (by lia) (by lia) (by lia)) ?_;rw[toNat_natCast];walk_at "";rw[hs];refine ⟨a,ns,_,s,1,6,rfl,hS,by lia,by lia,s4,by decide,by decide,by decide,λp ws H1 s1 hR hl _ hg=>?_⟩;rw[toNat_natCast] at hl;walk_at "";refine ⟨_,m,rfl,by lia,m1,m4,λL H2 s2 L1 Lm=>?_⟩;have hR2:=hR.same s2;have L20:L<=20:=by
  have:m=1\/m=2\/m=3\/m=4:=by lia
  rcases this with rfl|rfl|rfl|rfl
  ·exact Lm
  ·exact Nat.le_trans Lm (by decide)
  ·exact Nat.le_trans Lm (by decide)
  ·exact Nat.le_trans Lm (by decide)
 walk_at "";refine gI (λhc=>?_) λhc=>?_
 ·walk_at "";refine WG ?_;walk_at "";refine ⟨_,rfl,by lia,λl i pr H3 s3 hi fw=>?_⟩;obtain ⟨fx,M1,M20⟩:=WY hi;obtain ⟨t,hl3,ht3⟩:=fw;refine OY (aR.of hl3) ?_;walk_at "";refine AA (cC.of ht3) ?_;walk_at "";have k0:=emod_nonneg (v / 16) (show ((pr.2:Nat):Int)≠0 by lia);have k1:=emod_lt_of_pos (v / 16) (show (0:Int)<((pr.2:Nat):Int) by lia);obtain ⟨L',hL'⟩:∃L':Nat,1+v / 16 % ((pr.2:Nat):Int)=(L':Int):=⟨(1+v / 16 % ((pr.2:Nat):Int)).toNat,by lia⟩;rw[hL',Fm,length_map];have hLw:Lw K H3 t pr.1 97 L':=⟨⟨ht3,fx.ru.pos,fx.ru.four,fx.ru.isw,fx.ru.one,fx.ru.le⟩,by decide,fx.c2,fx.gr,by lia,by lia,KN fx.ru (by lia) (by lia) (by decide) fx.c2 fx.gr fx.few⟩;exact QW v0 hLw q
 ·walk_at "";have hL:Lw K H2 p ws (97+s) L:=⟨hR2,by lia,by lia,hg,L1,L20,Nat.le_trans (PR hR.ru L1 (by lia) (by lia) hg) (by rw[hl];exact NL m1 m4 Lm)⟩;rw[<-hl];exact QW v0 hL q
theorem ZY (K:Fg) (H:Hp) (a:Addr) (ns:List Int) (kf:KF K) (h:ns.length<=63) (hS:aR K H a (ns.map V.int)):sX K [.ref a] H (λv _=>v=.bl true) λ_ _ _=>False:=⟨a,ns,rfl,hS,h,λ_=>rfl⟩
end
end L2.Na.K33
namespace L2.Na
open PySem PySem.Spec PyProof.Rows L2 L2.L3
noncomputable def iY (st:Stmt) (n:Nat) (N:List Str) (b:∀K:Fg,List (SX K)):Prop:=gD N (N.take n) (aN st)/\(∀K,FN (b K) ⟨N,(aN st).names,true⟩ (bJ st)=true)/\
 ∀(x y:Str) (kV doc pm:Value) (an:Option Addr) (cdv ct:Value) (us:List Value),us.length=(N.take n).length->bindArgs (PySem.W.fnOf x y (cY st) (bJ st) (aN st) .none kV doc pm an cdv ct) ⟨us,[]⟩=pure ((N.take n).zip us)
theorem Jn {f:FuncData} {ps:List Str} (h:∀a:Value,bindArgs f ⟨[a],[]⟩=pure (ps.zip [a])) (us:List Value) (hl:us.length=1):bindArgs f ⟨us,[]⟩=pure (ps.zip us):=Jr (Z:=λus=>bindArgs f ⟨us,[]⟩=pure (ps.zip us)) h us hl
theorem Jm {f:FuncData} {ps:List Str} (h:∀a b:Value,bindArgs f ⟨[a,b],[]⟩=pure (ps.zip [a,b])) (us:List Value) (hl:us.length=2):bindArgs f ⟨us,[]⟩=pure (ps.zip us):=Jq (Z:=λus=>bindArgs f ⟨us,[]⟩=pure (ps.zip us)) h us hl
theorem Jl {f:FuncData} {ps:List Str} (h:∀a b c:Value,bindArgs f ⟨[a,b,c],[]⟩=pure (ps.zip [a,b,c])) (us:List Value) (hl:us.length=3):bindArgs f ⟨us,[]⟩=pure (ps.zip us):=Jp (Z:=λus=>bindArgs f ⟨us,[]⟩=pure (ps.zip us)) h us hl
theorem Jk {f:FuncData} {ps:List Str} (h:∀a b c d:Value,bindArgs f ⟨[a,b,c,d],[]⟩=pure (ps.zip [a,b,c,d])) (us:List Value) (hl:us.length=4):bindArgs f ⟨us,[]⟩=pure (ps.zip us):=by4 (Z:=λus=>bindArgs f ⟨us,[]⟩=pure (ps.zip us)) h us hl
theorem Jj {f:FuncData} {ps:List Str} (h:∀a b c d e:Value,bindArgs f ⟨[a,b,c,d,e],[]⟩=pure (ps.zip [a,b,c,d,e])) (us:List Value) (hl:us.length=5):bindArgs f ⟨us,[]⟩=pure (ps.zip us):=Jo (Z:=λus=>bindArgs f ⟨us,[]⟩=pure (ps.zip us)) h us hl
section
variable {K:Fg} {P:Program} {w:World} {h base:Heap} {mg:Str->Option Value}
theorem dn (X:K.In h) (G:h.Ns mainGlobals mg) (bl:∀x∈pM,mg x=none) (k:Nat) {x:Str} {st:Stmt} {sp:Sp} {n:Nat} {N:List Str} {b:∀K:Fg,List (SX K)} (F:FD K x st) (o:iY st n N b) (len:∀vs H Q E,sp vs H Q E->vs.length=(N.take n).length)
  (t:∀vs H Q E,sp vs H Q E->lW (b K) (λ_=>E) {nx:=λ_ H'=>Q .non H',rt:=Q} (start N vs) H) (hq:∀A,dF k A->HN (b K) ⟨P,w,K,mg,base,A⟩):YH P w K mg base (k+1) x sp:=
 Dq F X G bl (b K) o.1 (o.2.1 K) (o.2.2 x x) len t hq
theorem YH.a {j k:Nat} {x:Str} {sp:Sp} {A:Around} (D:YH P w K mg base j x sp) (hr:dF k A) (h:j<=k:=by decide):FnAt ⟨P,w,K,mg,base,A⟩ x sp:=D.at hr h
end
end L2.Na
local macro_rules | `(tactic| walk_at "l") => `(tactic| (intro vs H Q E h; first | (obtain ⟨_, e, _⟩ := h; subst e; rfl) | (obtain ⟨_, _, e, _⟩ := h; subst e; rfl) | (obtain ⟨_, _, _, e, _⟩ := h; subst e; rfl) | (obtain ⟨_, _, _, _, e, _⟩ := h; subst e; rfl) | (obtain ⟨_, _, _, _, _, e, _⟩ := h; subst e; rfl) | (obtain ⟨_, _, _, _, _, _, e, _⟩ := h; subst e; rfl) | (obtain ⟨_, _, _, _, _, _, _, e, _⟩ := h; subst e; rfl) | (obtain ⟨_, _, _, _, _, _, _, _, e, _⟩ := h; subst e; rfl) | (obtain ⟨_, _, _, _, _, _, _, _, _, e, _⟩ := h; subst e; rfl) | (obtain ⟨_, _, _, _, _, _, _, _, _, _, e, _⟩ := h; subst e; rfl) | (obtain ⟨_, _, _, _, _, _, _, _, _, _, _, e, _⟩ := h; subst e; rfl)))
local macro_rules | `(tactic| walk_at "o") => `(tactic| (refine ⟨⟨rfl, rfl, rfl, by decide +kernel, rfl, by decide +kernel, by decide +kernel⟩, fun K => by kernel_rfl, ?_⟩; intro x y kV doc pm an cdv ct us hl; first | exact L2.Na.Jn (fun _ => by exact rfl) us hl | exact L2.Na.Jm (fun _ _ => by exact rfl) us hl | exact L2.Na.Jl (fun _ _ _ => by exact rfl) us hl | exact L2.Na.Jk (fun _ _ _ _ => by exact rfl) us hl | exact L2.Na.Jj (fun _ _ _ _ _ => by exact rfl) us hl | exact L2.Na.bz6 (fun _ _ _ _ _ _ => by exact rfl) us hl))
local macro_rules | `(tactic| walk_at "f") => `(tactic| first
 | (refine' L2.Na.Dn ?a1 ?a2 ?a3 ?a4; (case a1 => k_is); (case a2 => k_is); (case a3 => k_is); (case a4 => k_is))
 | (refine' L2.Na.WW ?a1; (case a1 => k_is))
 | (refine' L2.Na.WX ?a1; (case a1 => k_is))
 | (refine' L2.Na.iniO_mk ?a1 ?a2 ?a3 ?a4 ?a5 ?a6 ?a7 ?a8; (case a1 => k_is); (case a2 => k_is); (case a3 => k_is); (case a4 => k_is); (case a5 => k_is); (case a6 => k_is); (case a7 => k_is); (case a8 => k_is)))
local macro_rules | `(tactic| walk_at "e") => `(tactic| first | kernel_rfl | k_is)
local macro_rules | `(tactic| walk_at "k") => `(tactic| first
 | kernel_rfl
 | k_is
 | (show PySem.W.findIn _ _ _ = _; walk_at "e")
 | exact ⟨by walk_at "e", by walk_at "e"⟩
 | (refine' L2.Na.YE.mk ?i1 ?i2 ?i3 ?i4 ?i5; (case i1 => walk_at "e"); (case i2 => walk_at "e"); (case i3 => walk_at "e"); (case i4 => walk_at "e"); (case i5 => (refine' L2.Na.WA ?z1 ?z2 ?z3 ?z4 ?z5 ?z6 ?z7 ?z8; (case z1 => k_is); (case z2 => k_is); (case z3 => k_is); (case z4 => k_is); (case z5 => exact ⟨rfl, rfl, rfl⟩); (case z6 => exact ⟨rfl, rfl⟩); (case z7 => exact ⟨rfl, rfl, by decide⟩); (case z8 => exact fun s u v X => PySem.W.kp_binds X (fun S => by kernel_rfl)))))
 | (refine' L2.Na.XF.mk ?x1 ?x2 ?x3 ?x4 ?x5 ?x6; (case x1 => walk_at "e"); (case x2 => walk_at "e"); (case x3 => walk_at "e"); (case x4 => walk_at "e"); (case x5 => intro od; walk_at "e"); (case x6 => walk_at "e"))
 | (refine' L2.Ex.mk ?x1 ?x2 ?x3 ?x4; (case x1 => walk_at "e"); (case x2 => walk_at "e"); (case x3 => walk_at "e"); (case x4 => walk_at "e")))
local macro_rules | `(tactic| walk_at "q") => `(tactic| (intro A hr; repeat' first | exact trivial | exact L2.Na.YH.a (by assumption) hr | refine ⟨?_, ?_⟩))
namespace L2.Na.K33
open PySem PySem.Spec PyProof.Rows L2 L2.L3 L2.Na
open L2.Na.K31 (KF)
noncomputable def top (i:Nat):Stmt:=PySem.Challenge.pw_neveragain_k33_first_places.main.body.getD i (.Pass ⟨0,0,0,0⟩)
theorem wG:iY (top 33) 2 ["_law_cell_here","_law_k","_law_number"] iE:=by walk_at "o"
theorem zJ:iY (top 34) 3 ["_law_number","_law_many","_law_size","_law_word_here","_law_k"] jG:=by walk_at "o"
theorem zL:iY (top 32) 2 ["_law_script","_law_k"] jI:=by walk_at "o"
theorem qG:iY (top 35) 5 ["_law_script","_law_many","_law_start","_law_least","_law_most","_law_words","_law_k","_law_number","_law_size","_law_word_here"] eZ:=by walk_at "o"
theorem tU:iY (top 39) 2 ["_law_number","_law_many"] L2.Na.K31.gB:=by walk_at "o"
theorem DS:iY (top 2) 1 ["many"] lT:=by walk_at "o"
theorem IH:iY (top 4) 2 ["word","many"] pP:=by walk_at "o"
theorem OC:iY (top 5) 1 ["rule"] uK:=by walk_at "o"
theorem kH:iY (top 18) 1 ["rule"] cM:=by walk_at "o"
theorem OE:iY (top 21) 2 ["rule","start","word"] uM:=by walk_at "o"
theorem oJ:iY (top 10) 2 ["row","before"] eE:=by walk_at "o"
theorem tT:iY (top 9) 2 ["rows","before"] gA:=by walk_at "o"
theorem OD:iY (top 7) 2 ["rule","times","rows","made","turn"] uL:=by walk_at "o"
theorem qE:iY (top 25) 3 ["rule","start","n","rows","at","made"] L2.Na.Pr.cB:=by walk_at "o"
theorem DU:iY (top 22) 3 ["rule","start","n","rows","word_for","pairs","letter","left","row","size_of","word","step"] L2.Na.Pr.iQ:=by walk_at "o"
theorem Bd:iY (top 17) 2 ["rule","word","word_for"] LP:=by walk_at "o"
theorem tS:iY (top 23) 4 ["rule","start","n","many","last","steps","ahead","window","step"] L2.Na.Pr.dP:=by walk_at "o"
theorem OF:iY (top 11) 2 ["one","other"] uN:=by walk_at "o"
theorem qH:iY (top 8) 2 ["rows","numbers","made","number","row"] fA:=by walk_at "o"
theorem mL:iY (top 6) 3 ["rule","numbers","times","rows","made","turn"] dE:=by walk_at "o"
theorem kI:iY (top 30) 2 ["rule","piece","made"] cN:=by walk_at "o"
theorem oM:iY (top 29) 3 ["rule","start","length","first","found","ahead","done","piece","word","base","place","met"] L2.Na.Pr.cO:=by walk_at "o"
theorem IG:iY (top 28) 3 ["rule","start","length","ahead"] L2.Na.K31.pO:=by walk_at "o"
theorem DT:iY (top 43) 1 ["_law_number","_law_some"] L2.Na.K31.lU:=by walk_at "o"
theorem wF:iY (top 38) 1 ["_law_found"] iD:=by walk_at "o"
theorem lJ:iY (top 40) 3 ["_law_found","_law_length_here","_law_many","_law_pair","_law_names"] L2.Na.K31.cV:=by walk_at "o"
theorem zK:iY (top 41) 3 ["_law_found","_law_word_here","_law_length_here","_law_piece","_law_place","_law_first"] jH:=by walk_at "o"
theorem wH:iY (top 36) 2 ["_law_rule","_law_word_here","_law_found","_law_sign"] iF:=by walk_at "o"
theorem qF:iY (top 37) 3 ["_law_rule","_law_start","_law_size","_law_word_here"] eW:=by walk_at "o"
theorem wI:iY (top 24) 3 ["rule","start","n","word_for","made","word","step","letter"] L2.Na.Pr.iG:=by walk_at "o"
theorem oK:iY (top 42) 4 ["_law_told","_law_rule","_law_start","_law_piece","_law_ahead","_law_place","_law_below","_law_step","_law_part"] eF:=by walk_at "o"
theorem TJ:gD ["_law_script","_law_head","_law_many","_law_start","_law_rule","_law_length_here","_law_most","_law_found","_law_told_at","_law_piece","_law_place","_law_k"] ["_law_script"] (aN (top 44)):=⟨rfl,rfl,rfl,by decide+kernel,rfl,by decide+kernel,by decide+kernel⟩
theorem Bj (K:Fg):FN (xQ K) ⟨["_law_script","_law_head","_law_many","_law_start","_law_rule","_law_length_here","_law_most","_law_found","_law_told_at","_law_piece","_law_place","_law_k"],(aN (top 44)).names,true⟩ (bJ (top 44))=true:=by kernel_rfl
theorem Dx {K:Fg} {P:Program} {w:World} {h base:Heap} {mg:Str->Option Value} (X:K.In h) (G:h.Ns mainGlobals mg) (bl:∀x∈pM,mg x=none) (F_law_mixed:FD K "_law_mixed" (top 33)) (F_law_word:FD K "_law_word" (top 34)) (F_law_cell:FD K "_law_cell" (top 32)) (F_law_growing:FD K "_law_growing" (top 35)) (F_law_length:FD K "_law_length" (top 39)) (F_letters:FD K "letters" (top 2)) (F_counts:FD K "counts" (top 4)) (F_table:FD K "table" (top 5)) (F_words_by_letter:FD K "words_by_letter" (top 18)) (F_grows:FD K "grows" (top 21)) (F_signs_behind:FD K "signs_behind" (top 10)) (F_sizes_once:FD K "sizes_once" (top 9)) (F_sizes:FD K "sizes" (top 7)) (F_sizes_until:FD K "sizes_until" (top 25)) (F_figures:FD K "figures" (top 22)) (F_put:FD K "put" (top 17)) (F_stretch_at:FD K "stretch_at" (top 23)) (F_added:FD K "added" (top 11)) (F_counts_once:FD K "counts_once" (top 8)) (F_counts_behind:FD K "counts_behind" (top 6)) (F_pieces_of_image:FD K "pieces_of_image" (top 30)) (F_counts_ahead:FD K "counts_ahead" (top 29)) (F_pieces:FD K "pieces" (top 28)) (F_law_few:FD K "_law_few" (top 43)) (F_law_whole:FD K "_law_whole" (top 38)) (F_law_are_pieces:FD K "_law_are_pieces" (top 40)) (F_law_near:FD K "_law_near" (top 41)) (F_law_image:FD K "_law_image" (top 36)) (F_law_written:FD K "_law_written" (top 37)) (F_counts_to:FD K "counts_to" (top 24)) (F_law_no_later:FD K "_law_no_later" (top 42)) (k_LETTERS:GC K "LETTERS" (.str "abcd")) (k_MOST_PIECES:GC K "MOST_PIECES" (.int 300)) (k_MOST_TURNS:GC K "MOST_TURNS" (.int 400)) (kf:KF K) (A:Around) (hr:dF 9 A):HN (xQ K) ⟨P,w,K,mg,base,A⟩:=by
 have d:=@dn K P w h base mg X G bl;have r_NoStart:=PySem.W.mg_of X G kf.n_NoStart;have r_TooGreat:=PySem.W.mg_of X G kf.n_TooGreat;have D_law_mixed:=d 0 F_law_mixed wG (by walk_at "l") vD (by walk_at "q");have D_law_word:=d 0 F_law_word zJ (by walk_at "l") yH (by walk_at "q");have D_law_cell:=d 0 F_law_cell zL (by walk_at "l") yJ (by walk_at "q");have D_law_growing:=d 1 F_law_growing qG (by walk_at "l") pZ (by walk_at "q");have D_law_length:=d 0 F_law_length tU (by walk_at "l") L2.Na.K31.sV (by walk_at "q");have D_letters:=d 0 F_letters DS (by walk_at "l") CW λA hr=>⟨⟨(xA X G k_LETTERS),tI,tI⟩,tI⟩;have D_counts:=d 1 F_counts IH (by walk_at "l") GR (by walk_at "q");have D_table:=d 2 F_table OC (by walk_at "l") MQ (by walk_at "q");have D_words_by_letter:=d 1 F_words_by_letter kH (by walk_at "l") jN (by walk_at "q");have D_grows:=d 2 F_grows OE (by walk_at "l") MS (by walk_at "q");have D_signs_behind:=d 0 F_signs_behind oJ (by walk_at "l") nK (by walk_at "q");have D_sizes_once:=d 1 F_sizes_once tT (by walk_at "l") sU (by walk_at "q");have D_sizes:=d 3 F_sizes OD (by walk_at "l") MR (by walk_at "q");have D_sizes_until:=d 4 F_sizes_until qE L2.Na.Pr.qK L2.Na.Pr.pV λA hr=>⟨⟨⟨D_grows.a hr,⟨tI,⟨tI,tI⟩⟩⟩,⟨⟨⟨r_NoStart,kf.e_NoStart⟩,⟨tI,tI⟩⟩,tI⟩,tI⟩,⟨⟨D_table.a hr,⟨tI,tI⟩⟩,⟨⟨⟨D_letters.a hr,⟨⟨tI,tI⟩,tI⟩⟩,⟨tI,tI⟩⟩,⟨⟨⟨D_sizes.a hr,⟨tI,⟨tI,tI⟩⟩⟩,tI⟩,⟨⟨⟨⟨⟨tI,tI⟩,tI⟩,tI⟩,⟨⟨⟨⟨tI,tI⟩,(xA X G k_MOST_TURNS)⟩,⟨⟨⟨r_TooGreat,kf.ini,_,hr⟩,(xA X G k_MOST_TURNS)⟩,tI⟩,tI⟩,⟨⟨tI,⟨⟨D_sizes_once.a hr,⟨tI,⟨⟨tI,tI⟩,tI⟩⟩⟩,tI⟩⟩,tI⟩⟩⟩,⟨tI,tI⟩⟩⟩⟩⟩⟩;have D_figures:=d 5 F_figures DU L2.Na.Pr.EE L2.Na.Pr.CZ (by walk_at "q");have D_put:=d 2 F_put Bd (by walk_at "l") ZF (by walk_at "q");have D_stretch_at:=d 6 F_stretch_at tS L2.Na.Pr.tY L2.Na.Pr.sT (by walk_at "q");have D_added:=d 0 F_added OF (by walk_at "l") MT (by walk_at "q");have D_counts_once:=d 1 F_counts_once qH (by walk_at "l") qA (by walk_at "q");have D_counts_behind:=d 3 F_counts_behind mL (by walk_at "l") mJ (by walk_at "q");have D_pieces_of_image:=d 3 F_pieces_of_image kI (by walk_at "l") jO (by walk_at "q");have D_counts_ahead:=d 7 F_counts_ahead oM L2.Na.Pr.oP L2.Na.Pr.nM λA hr=>⟨⟨D_stretch_at.a hr,⟨tI,⟨tI,⟨tI,⟨tI,tI⟩⟩⟩⟩⟩,⟨⟨tI,tI⟩,⟨⟨tI,⟨⟨tI,tI⟩,⟨tI,tI⟩⟩⟩,⟨tI,⟨⟨⟨tI,⟨tI,tI⟩⟩,⟨⟨tI,tI⟩,⟨⟨D_put.a hr,⟨tI,⟨⟨tI,tI,tI⟩,tI⟩⟩⟩,⟨⟨D_counts_behind.a hr,⟨tI,⟨⟨tI,tI⟩,⟨tI,tI⟩⟩⟩⟩,⟨⟨⟨⟨D_pieces_of_image.a hr,⟨tI,⟨tI,tI⟩⟩⟩,tI⟩,⟨⟨⟨tI,tI⟩,⟨⟨⟨⟨tI,tI⟩,(xA X G k_MOST_PIECES)⟩,⟨⟨⟨r_TooGreat,kf.ini,_,hr⟩,(xA X G k_MOST_PIECES)⟩,tI⟩,tI⟩,⟨⟨tI,⟨tI,tI⟩⟩,⟨⟨tI,tI,⟨D_added.a hr,⟨tI,⟨⟨D_counts.a hr,⟨⟨tI,tI,tI⟩,⟨⟨tI,tI⟩,tI⟩⟩⟩,tI⟩⟩⟩⟩,tI⟩⟩⟩,tI⟩,tI⟩⟩,⟨⟨tI,tI⟩,tI⟩⟩⟩⟩⟩⟩,⟨tI,tI⟩⟩⟩⟩⟩⟩;have D_pieces:=d 8 F_pieces IG L2.Na.K31.JG L2.Na.K31.GQ (by walk_at "q");have D_law_few:=d 0 F_law_few DT (by walk_at "l") L2.Na.K31.CY (by walk_at "q");have D_law_whole:=d 0 F_law_whole wF (by walk_at "l") vC (by walk_at "q");have D_law_are_pieces:=d 1 F_law_are_pieces lJ (by walk_at "l") L2.Na.K31.lE (by walk_at "q");have D_law_near:=d 0 F_law_near zK (by walk_at "l") yI (by walk_at "q");have D_law_image:=d 0 F_law_image wH (by walk_at "l") vE (by walk_at "q");have D_law_written:=d 1 F_law_written qF (by walk_at "l") pW (by walk_at "q");have D_counts_to:=d 6 F_counts_to wI (by walk_at "l") L2.Na.Pr.vF (by walk_at "q");have D_law_no_later:=d 7 F_law_no_later oK (by walk_at "l") nL (by walk_at "q");exact ⟨⟨D_law_mixed.a hr,⟨⟨D_law_cell.a hr,⟨tI,⟨tI,tI⟩⟩⟩,⟨tI,tI⟩⟩⟩,⟨⟨tI,⟨tI,tI⟩⟩,⟨⟨tI,⟨⟨tI,tI⟩,tI⟩⟩,⟨⟨D_law_growing.a hr,⟨tI,⟨tI,⟨⟨⟨tI,tI⟩,tI⟩,⟨tI,⟨tI,tI⟩⟩⟩⟩⟩⟩,⟨⟨D_law_length.a hr,⟨⟨tI,tI⟩,⟨tI,tI⟩⟩⟩,⟨⟨⟨⟨⟨tI,tI⟩,tI⟩,tI⟩,⟨⟨D_law_few.a hr,⟨⟨tI,tI⟩,tI⟩⟩,⟨⟨tI,tI⟩,⟨tI,⟨⟨tI,⟨⟨tI,tI⟩,tI⟩⟩,tI⟩⟩⟩⟩,tI⟩,⟨⟨D_pieces.a hr,⟨tI,⟨tI,⟨tI,tI⟩⟩⟩⟩,⟨⟨⟨D_law_are_pieces.a hr,⟨tI,⟨tI,⟨tI,tI⟩⟩⟩⟩,⟨tI,tI⟩,tI⟩,⟨⟨⟨D_law_near.a hr,⟨tI,⟨⟨D_law_written.a hr,⟨tI,⟨tI,⟨tI,tI⟩⟩⟩⟩,⟨tI,tI⟩⟩⟩⟩,⟨tI,tI⟩,tI⟩,⟨tI,⟨⟨tI,⟨⟨tI,tI,tI⟩,tI⟩⟩,⟨⟨⟨⟨⟨tI,tI⟩,⟨tI,tI⟩⟩,tI⟩,⟨⟨⟨tI,⟨⟨⟨tI,tI⟩,⟨tI,tI⟩⟩,⟨tI,tI⟩⟩⟩,tI⟩,⟨⟨⟨⟨⟨tI,tI⟩,⟨tI,tI⟩⟩,⟨⟨D_law_no_later.a hr,⟨tI,⟨tI,⟨tI,⟨tI,tI⟩⟩⟩⟩⟩,tI⟩⟩,⟨tI,tI⟩,tI⟩,tI⟩⟩⟩,⟨tI,tI⟩⟩⟩⟩⟩⟩⟩⟩⟩⟩⟩⟩⟩
end L2.Na.K33
namespace L2.Hd
open PySem PySem.Calls PyProof.Rows PySem.W
open L2 (cY bJ aN)
open L2.Na.K33 (top)
theorem q0:(PySem.Challenge.pw_neveragain_k33_first_places.main.body.length==45)=true:=by k_qdec
noncomputable def env (p:Program):Env:={scope:=p.main.scope,locals:=mainNs,globals:=mainNs,cells:=[],code:=.ref 13,frame:=some 14}
noncomputable def cd (p:Program):Code:=.body (behindTheImports p) (env p)
noncomputable abbrev p0:Pos:=⟨0,0,0,0⟩
noncomputable abbrev p1:Pos:=⟨192,0,215,15⟩
noncomputable abbrev B:List Frame:=[topFrame p0]
noncomputable def toT (s:Shared):SharedT:=⟨(s.heap.objs.toList.foldl (λ(a:BT × Nat) o=>(a.1.ins a.2 o,a.2+1)) (BT.nil,0)).1,s.heap.objs.size,s.heap.life,s.gens,s.drawn,s.toks,s.os⟩
noncomputable def prA (x:Option (Shared × Thread)):SharedT:=match x with
 |some (s,_)=>toT s
 |none=>⟨BT.nil,0,{},#[],boot_drawn,0,{}⟩
noncomputable def prS (x:Option (Flow × SharedT × Code × Pos)):SharedT:=match x with
 |some (_,s,_)=>s
 |none=>⟨BT.nil,0,{},#[],boot_drawn,0,{}⟩
noncomputable abbrev ann:Option Value:=some (.ref 6)
noncomputable def goA (tb:String->Option Builtin) (p:Program) (w:World) (os:OsState):Option (Shared × Thread):=topGo tb p w 11 ann 12 ⟨boot_heap w.params,#[],boot_drawn,boot_toks,os⟩ (topStub p)
noncomputable def goB (tb:String->Option Builtin) (p:Program) (w:World) (os:OsState):Option (Flow × SharedT × Code × Pos):=segRunT tb p w 11 ann 1 1713 (prA (goA tb p w os)) (piecesOf (behindTheImports p) (env p) (cd p) p0 B)
theorem l1:(λ(w:World) (os:OsState)=>goA treeTable PySem.Challenge.pw_neveragain_k33_first_places w os)=λw os=>some ((prA (goA treeTable PySem.Challenge.pw_neveragain_k33_first_places w os)).abs,Thread.mk (denote treeTable (cd PySem.Challenge.pw_neveragain_k33_first_places)) (cd PySem.Challenge.pw_neveragain_k33_first_places) p0 B):=by
 unfold goA;rw[PySem.W.Fast.te15667345088766844465,PySem.W.Fast.te14364793385576792824,PySem.W.Fast.te11892475500146522536,PySem.W.Fast.te8336772933544090784];kernel_rfl
theorem l2:(λ(w:World) (os:OsState)=>segRun treeTable PySem.Challenge.pw_neveragain_k33_first_places w 11 ann 1 1 (prA (goA treeTable PySem.Challenge.pw_neveragain_k33_first_places w os)).abs (blockOf (behindTheImports PySem.Challenge.pw_neveragain_k33_first_places) (env PySem.Challenge.pw_neveragain_k33_first_places) (cd PySem.Challenge.pw_neveragain_k33_first_places) p0 B))=λw os=>some (.next,(prA (goA treeTable PySem.Challenge.pw_neveragain_k33_first_places w os)).abs,cd PySem.Challenge.pw_neveragain_k33_first_places,p0):=by
 unfold goA;rw[PySem.W.Fast.te15667345088766844465,PySem.W.Fast.te14364793385576792824,PySem.W.Fast.te14374325043358763698,PySem.W.Fast.te8336772933544090784];kernel_rfl
theorem l3:(λ(w:World) (os:OsState)=>goB treeTable PySem.Challenge.pw_neveragain_k33_first_places w os)=λw os=>some (.next,prS (goB treeTable PySem.Challenge.pw_neveragain_k33_first_places w os),cd PySem.Challenge.pw_neveragain_k33_first_places,p1):=by
 unfold goB goA;rw[PySem.W.Fast.te10110043849684766642,PySem.W.Fast.te15667345088766844465,PySem.W.Fast.te14364793385576792824,PySem.W.Fast.te8336772933544090784];kernel_rfl
theorem l4:(λ(w:World) (os:OsState)=>topRun treeTable PySem.Challenge.pw_neveragain_k33_first_places w 11 ann 2 (prS (goB treeTable PySem.Challenge.pw_neveragain_k33_first_places w os)).abs ⟨doneF .next,cd PySem.Challenge.pw_neveragain_k33_first_places,p1,B⟩)=λw os=>some (prS (goB treeTable PySem.Challenge.pw_neveragain_k33_first_places w os)).abs:=by
 unfold goB goA;rw[PySem.W.Fast.te14082659384304107361,PySem.W.Fast.te10110043849684766642,PySem.W.Fast.te15667345088766844465,PySem.W.Fast.te14364793385576792824,PySem.W.Fast.te8336772933544090784];kernel_rfl
noncomputable def dk (P:Params) (x:Str) (n:Nat) (v:Value):DictEntry:={hash:=PyData.keyHash P x,key:=.str x n,val:=v}
noncomputable def tp (a:Array Value):Obj:={cls:=.type "tuple",data:=.seq a}
noncomputable def fo (x:Str) (i:Nat) (m:Value) (c:Nat):Obj:={cls:=.type "function",data:=.func {name:=x,qualname:=x,params:=cY (top i),body:=.stmts (bJ (top i)),scope:=aN (top i),globals:=3,closure:=[],defaults:=.none,kwdefaults:=.none,pyModule:=m,code:=.ref c}}
noncomputable def cx (x y:Str) (n:Nat) (L a:Int) (r:Nat) (u v:Value) (z t:Nat):Obj:={cls:=.type "code",data:=.fields #[.str x n,.str y (n+1),.str "/claim/cut.py" (n+2),.int L 0,.int a 0,.int 0 0,.int 0 0,.int 3 0,.ref r,.bool true,.int 181 0,.ref (r+1),.none,u,v,.ref z,.int t 0,.int L 0,.str "/claim/cut.py" (t+1)]}
noncomputable def cb (x y:Str) (n:Nat) (L a:Int) (r t:Nat):Obj:=cx x y n L a r .none .none (r+2) t
noncomputable def co (x y:Str) (n:Nat) (L a:Int) (r t:Nat):Obj:=cx x y n L a r (.ref (r+2)) (.ref (r+3)) (r+4) t
noncomputable def K:Params->Frag:=λP=>
 (nat_lit 2,{cls:=.none,data:=Data.dict #[]})::
 (nat_lit 3,{cls:=.type "dict",data:=Data.dict #[dk P "__name__" 165 (.str "law_neveragain_k33_first_places" 432),dk P "__doc__" 166 .none,dk P "__package__" 167 .none,dk P "__loader__" 168 (.builtin "__main__.__loader__#opaque"),dk P "__spec__" 169 .none,dk P "__annotations__" 170 (.ref 6),dk P "__builtins__" 171 (.ref 4),dk P "__file__" 173 (.str "/claim/cut.py" 172),dk P "__cached__" 174 .none,dk P "LETTERS" 190 (.str "abcd" 189),dk P "letters" 197 (.ref 21),dk P "counts" 205 (.ref 26),dk P "table" 211 (.ref 31),dk P "counts_behind" 223 (.ref 38),dk P "sizes" 234 (.ref 45),dk P "counts_once" 240 (.ref 50),dk P "sizes_once" 246 (.ref 55),dk P "signs_behind" 252 (.ref 60),dk P "added" 258 (.ref 65),dk P "WordError" 278 (.ref 75),dk P "NoStart" 294 (.ref 88),dk P "TooGreat" 319 (.ref 108),dk P "put" 327 (.ref 115),dk P "words_by_letter" 334 (.ref 122),dk P "MOST_TURNS" 338 (.int 400 337),dk P "grows" 347 (.ref 129),dk P "figures" 365 (.ref 136),dk P "stretch_at" 371 (.ref 141),dk P "counts_to" 385 (.ref 148),dk P "sizes_until" 397 (.ref 155),dk P "MOST_PIECES" 401 (.int 300 400),dk P "pieces" 407 (.ref 160),dk P "counts_ahead" 425 (.ref 167),dk P "pieces_of_image" 431 (.ref 172),dk P "_law_cell" 441 (.ref 179),dk P "_law_mixed" 450 (.ref 186),dk P "_law_word" 461 (.ref 193),dk P "_law_growing" 477 (.ref 200),dk P "_law_image" 487 (.ref 207),dk P "_law_written" 497 (.ref 214),dk P "_law_whole" 504 (.ref 221),dk P "_law_length" 512 (.ref 228),dk P "_law_are_pieces" 518 (.ref 233),dk P "_law_near" 530 (.ref 240),dk P "_law_no_later" 536 (.ref 245),dk P "_law_few" 544 (.ref 252),dk P "law" 562 (.ref 259)] 47})::
 (nat_lit 15,tp #[])::
 (nat_lit 17,tp #[.str "many" 194])::
 (nat_lit 18,tp #[])::
 (nat_lit 20,co "letters" "letters" 191 3 1 15 195)::
 (nat_lit 21,fo "letters" 2 (.str "neveragain.words" 187) 20)::
 (nat_lit 22,tp #[])::
 (nat_lit 25,cb "counts" "counts" 200 6 2 22 203)::
 (nat_lit 26,fo "counts" 4 (.str "neveragain.counts" 198) 25)::
 (nat_lit 27,tp #[])::
 (nat_lit 30,cb "table" "table" 206 8 1 27 209)::
 (nat_lit 31,fo "table" 5 (.str "neveragain.counts" 198) 30)::
 (nat_lit 32,tp #[])::
 (nat_lit 34,tp #[.str "rule" 215,.str "numbers" 216,.str "times" 217,.str "rows" 218,.str "made" 219,.str "turn" 220])::
 (nat_lit 35,tp #[])::
 (nat_lit 37,co "counts_behind" "counts_behind" 212 10 3 32 221)::
 (nat_lit 38,fo "counts_behind" 6 (.str "neveragain.counts" 198) 37)::
 (nat_lit 39,tp #[])::
 (nat_lit 41,tp #[.str "rule" 227,.str "times" 228,.str "rows" 229,.str "made" 230,.str "turn" 231])::
 (nat_lit 42,tp #[])::
 (nat_lit 44,co "sizes" "sizes" 224 16 2 39 232)::
 (nat_lit 45,fo "sizes" 7 (.str "neveragain.counts" 198) 44)::
 (nat_lit 46,tp #[])::
 (nat_lit 49,cb "counts_once" "counts_once" 235 22 2 46 238)::
 (nat_lit 50,fo "counts_once" 8 (.str "neveragain.counts" 198) 49)::
 (nat_lit 51,tp #[])::
 (nat_lit 54,cb "sizes_once" "sizes_once" 241 27 2 51 244)::
 (nat_lit 55,fo "sizes_once" 9 (.str "neveragain.counts" 198) 54)::
 (nat_lit 56,tp #[])::
 (nat_lit 59,cb "signs_behind" "signs_behind" 247 29 2 56 250)::
 (nat_lit 60,fo "signs_behind" 10 (.str "neveragain.counts" 198) 59)::
 (nat_lit 61,tp #[])::
 (nat_lit 64,cb "added" "added" 253 31 2 61 256)::
 (nat_lit 65,fo "added" 11 (.str "neveragain.counts" 198) 64)::
 (nat_lit 66,tp #[.type "ValueError"])::
 (nat_lit 73,tp #[])::
 (nat_lit 74,{cls:=.type "dict",data:=Data.dict #[dk P "__module__" 268 (.str "neveragain.errors" 259),dk P "__firstlineno__" 272 (.int 34 271),dk P "__static_attributes__" 273 (.ref 73),dk P "__weakref__" 275 (.ref 76),dk P "__doc__" 276 .none] 3})::
 (nat_lit 75,{cls:=.type "type",data:=Data.cls {name:="WordError",bases:=[.type "ValueError"],mro:=[.ref 75,.type "ValueError",.type "Exception",.type "BaseException",.type "object"],ns:=74,qualname:="WordError",subclasses:=[.ref 88,.ref 108]},slots:=#[some (.ref 66),none,some (.str "WordError" 261),some (.str "WordError" 269),some (.builtin "ValueError.__new__"),some (.bool true)]})::
 (nat_lit 76,{cls:=.type "getset_descriptor",data:=Data.fields #[.str "__weakref__" 274,.ref 75,.builtin "ExceptionGroup.__weakref__",.none]})::
 (nat_lit 79,tp #[.ref 75])::
 (nat_lit 86,tp #[])::
 (nat_lit 87,{cls:=.type "dict",data:=Data.dict #[dk P "__module__" 286 (.str "neveragain.errors" 259),dk P "__firstlineno__" 290 (.int 36 289),dk P "__static_attributes__" 291 (.ref 86),dk P "__doc__" 292 .none] 2})::
 (nat_lit 88,{cls:=.type "type",data:=Data.cls {name:="NoStart",bases:=[.ref 75],mro:=[.ref 88,.ref 75,.type "ValueError",.type "Exception",.type "BaseException",.type "object"],ns:=87,qualname:="NoStart"},slots:=#[some (.ref 79),none,some (.str "NoStart" 279),some (.str "NoStart" 287),some (.builtin "ValueError.__new__"),some (.bool true)]})::
 (nat_lit 91,tp #[.ref 75])::
 (nat_lit 98,tp #[.none])::
 (nat_lit 99,tp #[])::
 (nat_lit 101,tp #[.str "self" 310,.str "most" 311])::
 (nat_lit 102,tp #[])::
 (nat_lit 104,co "__init__" "TooGreat.__init__" 307 40 2 99 312)::
 (nat_lit 105,{cls:=.type "function",data:=Data.func {name:="__init__",qualname:="TooGreat.__init__",params:={posonlyargs:=[],args:=[{arg:="self",annotation:=none,pos:={line:=40,col:=17,endLine:=40,endCol:=21}},{arg:="most",annotation:=none,pos:={line:=40,col:=23,endLine:=40,endCol:=27}}],vararg:=none,kwonlyargs:=[],kw_defaults:=[],kwarg:=none,defaults:=[Expr.Constant Const.none 0 {line:=40,col:=28,endLine:=40,endCol:=32}]},body:=FuncBody.stmts [Stmt.Assign [(Expr.Name "self" {line:=41,col:=8,endLine:=41,endCol:=12}).Attribute "most" {line:=41,col:=8,endLine:=41,endCol:=17}] (Expr.Name "most" {line:=41,col:=20,endLine:=41,endCol:=24}) {line:=41,col:=8,endLine:=41,endCol:=24}],scope:={kind:=ScopeKind.function,names:=[("self",NameKind.local),("most",NameKind.local)],isGenerator:=false,isCoroutine:=false},globals:=3,closure:=[],defaults:=.ref 98,kwdefaults:=.none,pyModule:=.str "neveragain.errors" 259,code:=.ref 104}})::
 (nat_lit 106,tp #[.str "most" 315])::
 (nat_lit 107,{cls:=.type "dict",data:=Data.dict #[dk P "__module__" 302 (.str "neveragain.errors" 259),dk P "__firstlineno__" 306 (.int 38 305),dk P "__init__" 314 (.ref 105),dk P "__static_attributes__" 316 (.ref 106),dk P "__doc__" 317 .none] 2})::
 (nat_lit 108,{cls:=.type "type",data:=Data.cls {name:="TooGreat",bases:=[.ref 75],mro:=[.ref 108,.ref 75,.type "ValueError",.type "Exception",.type "BaseException",.type "object"],ns:=107,qualname:="TooGreat"},slots:=#[some (.ref 91),none,some (.str "TooGreat" 295),some (.str "TooGreat" 303),some (.builtin "ValueError.__new__"),some (.bool true)]})::
 (nat_lit 111,tp #[])::
 (nat_lit 114,cb "put" "put" 322 43 2 111 325)::
 (nat_lit 115,fo "put" 17 (.str "neveragain.rules" 320) 114)::
 (nat_lit 116,tp #[])::
 (nat_lit 118,tp #[.str "rule" 331])::
 (nat_lit 119,tp #[])::
 (nat_lit 121,co "words_by_letter" "words_by_letter" 328 46 1 116 332)::
 (nat_lit 122,fo "words_by_letter" 18 (.str "neveragain.rules" 320) 121)::
 (nat_lit 123,tp #[])::
 (nat_lit 125,tp #[.str "rule" 342,.str "start" 343,.str "word" 344])::
 (nat_lit 126,tp #[])::
 (nat_lit 128,co "grows" "grows" 339 50 2 123 345)::
 (nat_lit 129,fo "grows" 21 (.str "neveragain.places" 335) 128)::
 (nat_lit 130,tp #[])::
 (nat_lit 132,tp #[.str "rule" 351,.str "start" 352,.str "n" 353,.str "rows" 354,.str "word_for" 355,.str "pairs" 356,.str "letter" 357,.str "left" 358,.str "row" 359,.str "size_of" 360,.str "word" 361,.str "step" 362])::
 (nat_lit 133,tp #[])::
 (nat_lit 135,co "figures" "figures" 348 53 3 130 363)::
 (nat_lit 136,fo "figures" 22 (.str "neveragain.places" 335) 135)::
 (nat_lit 137,tp #[])::
 (nat_lit 140,cb "stretch_at" "stretch_at" 366 69 4 137 369)::
 (nat_lit 141,fo "stretch_at" 23 (.str "neveragain.places" 335) 140)::
 (nat_lit 142,tp #[])::
 (nat_lit 144,tp #[.str "rule" 375,.str "start" 376,.str "n" 377,.str "word_for" 378,.str "made" 379,.str "word" 380,.str "step" 381,.str "letter" 382])::
 (nat_lit 145,tp #[])::
 (nat_lit 147,co "counts_to" "counts_to" 372 77 3 142 383)::
 (nat_lit 148,fo "counts_to" 24 (.str "neveragain.places" 335) 147)::
 (nat_lit 149,tp #[])::
 (nat_lit 151,tp #[.str "rule" 389,.str "start" 390,.str "n" 391,.str "rows" 392,.str "at" 393,.str "made" 394])::
 (nat_lit 152,tp #[])::
 (nat_lit 154,co "sizes_until" "sizes_until" 386 85 3 149 395)::
 (nat_lit 155,fo "sizes_until" 25 (.str "neveragain.places" 335) 154)::
 (nat_lit 156,tp #[])::
 (nat_lit 159,cb "pieces" "pieces" 402 98 3 156 405)::
 (nat_lit 160,fo "pieces" 28 (.str "neveragain.pieces" 398) 159)::
 (nat_lit 161,tp #[])::
 (nat_lit 163,tp #[.str "rule" 411,.str "start" 412,.str "length" 413,.str "first" 414,.str "found" 415,.str "ahead" 416,.str "done" 417,.str "piece" 418,.str "word" 419,.str "base" 420,.str "place" 421,.str "met" 422])::
 (nat_lit 164,tp #[])::
 (nat_lit 166,co "counts_ahead" "counts_ahead" 408 101 3 161 423)::
 (nat_lit 167,fo "counts_ahead" 29 (.str "neveragain.pieces" 398) 166)::
 (nat_lit 168,tp #[])::
 (nat_lit 171,cb "pieces_of_image" "pieces_of_image" 426 118 2 168 429)::
 (nat_lit 172,fo "pieces_of_image" 30 (.str "neveragain.pieces" 398) 171)::
 (nat_lit 173,tp #[])::
 (nat_lit 175,tp #[.str "_law_script" 437,.str "_law_k" 438])::
 (nat_lit 176,tp #[])::
 (nat_lit 178,co "_law_cell" "_law_cell" 434 122 2 173 439)::
 (nat_lit 179,fo "_law_cell" 32 (.str "law_neveragain_k33_first_places" 432) 178)::
 (nat_lit 180,tp #[])::
 (nat_lit 182,tp #[.str "_law_cell_here" 445,.str "_law_k" 446,.str "_law_number" 447])::
 (nat_lit 183,tp #[])::
 (nat_lit 185,co "_law_mixed" "_law_mixed" 442 126 2 180 448)::
 (nat_lit 186,fo "_law_mixed" 33 (.str "law_neveragain_k33_first_places" 432) 185)::
 (nat_lit 187,tp #[])::
 (nat_lit 189,tp #[.str "_law_number" 454,.str "_law_many" 455,.str "_law_size" 456,.str "_law_word_here" 457,.str "_law_k" 458])::
 (nat_lit 190,tp #[])::
 (nat_lit 192,co "_law_word" "_law_word" 451 129 3 187 459)::
 (nat_lit 193,fo "_law_word" 34 (.str "law_neveragain_k33_first_places" 432) 192)::
 (nat_lit 194,tp #[])::
 (nat_lit 196,tp #[.str "_law_script" 465,.str "_law_many" 466,.str "_law_start" 467,.str "_law_least" 468,.str "_law_most" 469,.str "_law_words" 470,.str "_law_k" 471,.str "_law_number" 472,.str "_law_size" 473,.str "_law_word_here" 474])::
 (nat_lit 197,tp #[])::
 (nat_lit 199,co "_law_growing" "_law_growing" 462 135 5 194 475)::
 (nat_lit 200,fo "_law_growing" 35 (.str "law_neveragain_k33_first_places" 432) 199)::
 (nat_lit 201,tp #[])::
 (nat_lit 203,tp #[.str "_law_rule" 481,.str "_law_word_here" 482,.str "_law_found" 483,.str "_law_sign" 484])::
 (nat_lit 204,tp #[])::
 (nat_lit 206,co "_law_image" "_law_image" 478 145 2 201 485)::
 (nat_lit 207,fo "_law_image" 36 (.str "law_neveragain_k33_first_places" 432) 206)::
 (nat_lit 208,tp #[])::
 (nat_lit 210,tp #[.str "_law_rule" 491,.str "_law_start" 492,.str "_law_size" 493,.str "_law_word_here" 494])::
 (nat_lit 211,tp #[])::
 (nat_lit 213,co "_law_written" "_law_written" 488 150 3 208 495)::
 (nat_lit 214,fo "_law_written" 37 (.str "law_neveragain_k33_first_places" 432) 213)::
 (nat_lit 215,tp #[])::
 (nat_lit 217,tp #[.str "_law_found" 501])::
 (nat_lit 218,tp #[])::
 (nat_lit 220,co "_law_whole" "_law_whole" 498 155 1 215 502)::
 (nat_lit 221,fo "_law_whole" 38 (.str "law_neveragain_k33_first_places" 432) 220)::
 (nat_lit 222,tp #[])::
 (nat_lit 224,tp #[.str "_law_number" 508,.str "_law_many" 509])::
 (nat_lit 225,tp #[])::
 (nat_lit 227,co "_law_length" "_law_length" 505 157 2 222 510)::
 (nat_lit 228,fo "_law_length" 39 (.str "law_neveragain_k33_first_places" 432) 227)::
 (nat_lit 229,tp #[])::
 (nat_lit 232,cb "_law_are_pieces" "_law_are_pieces" 513 159 3 229 516)::
 (nat_lit 233,fo "_law_are_pieces" 40 (.str "law_neveragain_k33_first_places" 432) 232)::
 (nat_lit 234,tp #[])::
 (nat_lit 236,tp #[.str "_law_found" 522,.str "_law_word_here" 523,.str "_law_length_here" 524,.str "_law_piece" 525,.str "_law_place" 526,.str "_law_first" 527])::
 (nat_lit 237,tp #[])::
 (nat_lit 239,co "_law_near" "_law_near" 519 169 3 234 528)::
 (nat_lit 240,fo "_law_near" 41 (.str "law_neveragain_k33_first_places" 432) 239)::
 (nat_lit 241,tp #[])::
 (nat_lit 244,cb "_law_no_later" "_law_no_later" 531 177 4 241 534)::
 (nat_lit 245,fo "_law_no_later" 42 (.str "law_neveragain_k33_first_places" 432) 244)::
 (nat_lit 246,tp #[])::
 (nat_lit 248,tp #[.str "_law_number" 540,.str "_law_some" 541])::
 (nat_lit 249,tp #[])::
 (nat_lit 251,co "_law_few" "_law_few" 537 186 1 246 542)::
 (nat_lit 252,fo "_law_few" 43 (.str "law_neveragain_k33_first_places" 432) 251)::
 (nat_lit 253,tp #[])::
 (nat_lit 255,tp #[.str "_law_script" 548,.str "_law_head" 549,.str "_law_many" 550,.str "_law_start" 551,.str "_law_rule" 552,.str "_law_length_here" 553,.str "_law_most" 554,.str "_law_found" 555,.str "_law_told_at" 556,.str "_law_piece" 557,.str "_law_place" 558,.str "_law_k" 559])::
 (nat_lit 256,tp #[])::
 (nat_lit 258,co "law" "law" 545 192 1 253 560)::
 (nat_lit 259,fo "law" 44 (.str "law_neveragain_k33_first_places" 432) 258)::[]
noncomputable def ads:List Addr:=[2,3,15,17,18,20,21,22,25,26,27,30,31,32,34,35,37,38,39,41,42,44,45,46,49,50,51,54,55,56,59,60,61,64,65,66,73,74,75,76,79,86,87,88,91,98,99,101,102,104,105,106,107,108,111,114,115,116,118,119,121,122,123,125,126,128,129,130,132,133,135,136,137,140,141,142,144,145,147,148,149,151,152,154,155,156,159,160,161,163,164,166,167,168,171,172,173,175,176,178,179,180,182,183,185,186,187,189,190,192,193,194,196,197,199,200,201,203,204,206,207,208,210,211,213,214,215,217,218,220,221,222,224,225,227,228,229,232,233,234,236,237,239,240,241,244,245,246,248,249,251,252,253,255,256,258,259]
noncomputable def q (p:Program):Program:=view p [1,2,4,5,6,7,8,9,10,11,13,14,15,17,18,20,21,22,23,24,25,27,28,29,30,32,33,34,35,36,37,38,39,40,41,42,43,44]
noncomputable abbrev fin (w:World) (os:OsState):Shared:=(prS (goB treeTable PySem.Challenge.pw_neveragain_k33_first_places w os)).abs
theorem run (w:World) (os:OsState):topRun treeTable PySem.Challenge.pw_neveragain_k33_first_places w 11 ann (12+(1+(1713+2))) ⟨boot_heap w.params,#[],boot_drawn,boot_toks,os⟩ (topStub PySem.Challenge.pw_neveragain_k33_first_places)=some (fin w os):=by
 refine go_top (congrFun (congrFun l1 w) os) (piece_block (congrFun (congrFun l2 w) os) ?_);have h:=piece_app (rest:=[]) (segRun_of (congrFun (congrFun l3 w) os)) (piece_nil (congrFun (congrFun l4 w) os));rw[append_nil] at h;exact h
theorem k1:(λ(w:World) (os:OsState)=>ads.map (fin w os).heap.get?)=λw _=>(K w.params).map λp=>some p.2:=by
 unfold fin goB goA;rw[PySem.W.Fast.te10110043849684766642,PySem.W.Fast.te15667345088766844465,PySem.W.Fast.te14364793385576792824,PySem.W.Fast.te8336772933544090784];kernel_rfl
theorem k2:(λ(w:World) (os:OsState)=>staticsOk (importedModules PySem.Challenge.pw_neveragain_k33_first_places.main.body) (boot_heap w.params) (fin w os).heap&&namesBound PySem.Challenge.pw_neveragain_k33_first_places (fin w os).heap&&gensDone (fin w os)&&laidKept (boot_heap w.params) (fin w os).heap)=λ_ _=>true:=by
 unfold fin goB goA;rw[PySem.W.Fast.te10110043849684766642,PySem.W.Fast.te15667345088766844465,PySem.W.Fast.te14364793385576792824,PySem.W.Fast.te8336772933544090784];kernel_rfl
theorem left_run {p v:Program} {lo:List Str} {X:Shared->Bool} {α:Type} {f:Shared->α} {g:World->α} {N:Nat} {H:Params->Heap} {gs:Array GenState} {d:Drawn} {k m M:Nat} {an:Option Value} {z:World->OsState->Shared}
  (ho:∀w:World,(fencedOpening treeTable p w N).map (λs=>(s.heap,s.gens,s.drawn,s.toks))=some (H w.params,gs,d,k))
  (hs:∀w:World,((H w.params).isNs mainGlobals&&gs.size==0,(H w.params).objs.size,(H w.params).nsMap mainGlobals "__annotations__")=(true,m,an))
  (hr:∀w os,topRun treeTable p w m an M ⟨H w.params,gs,d,k,os⟩ (topStub p)=some (z w os)) (hM:M<=N)
  (h1:∀w os,(staticsOk (importedModules p.main.body) (H w.params) (z w os).heap&&namesBound p (z w os).heap&&gensDone (z w os)&&laidKept (H w.params) (z w os).heap)=true)
  (h2:∀w os,openSeen v lo (importedModules p.main.body) X true (z w os)=openGood v lo) (h3:∀w os,f (z w os)=g w):LeftO p v lo X f g N:=by
 intro w;have a:=ho w;cases e:fencedOpening treeTable p w N with
 |none=>rw[e] at a;cases a
 |some s=>
  rw[e] at a;obtain ⟨hh,hg,hd,hk,os⟩:=s;have b:=Option.some.inj a;have b1:hh=H w.params:=congrArg (·.1) b;have b2:hg=gs:=congrArg (·.2.1) b;have b3:hd=d:=congrArg (·.2.2.1) b;have b4:hk=k:=congrArg (·.2.2.2) b;subst b1 b2 b3 b4;have s1:=congrArg (·.1) (hs w);have s2:=congrArg (·.2.1) (hs w);have s3:=congrArg (·.2.2) (hs w);have r:=topRun_mono (N - M) _ _ _ _ (hr w os);rw[Nat.add_sub_cancel' hM] at r;have t:topFrom treeTable p w N ⟨H w.params,hg,hd,hk,os⟩=some (z w os):=by
   simp only [topFrom];dsimp only at s1 s2 s3;rw[s1,s2,s3,r];simp only [Option.bind,h1 w os]
  simp only [openEnds,e,Option.bind];show (topFrom treeTable p w N _).map _=_;rw[t];exact congrArg some (Prod.ext (h2 w os) (h3 w os))
theorem k3:(λ(w:World) (os:OsState)=>openSeen (q PySem.Challenge.pw_neveragain_k33_first_places) ["TooGreat"] (importedModules PySem.Challenge.pw_neveragain_k33_first_places.main.body) (λs=>xlAt (q PySem.Challenge.pw_neveragain_k33_first_places) [] s&&recOk (RowW.records (OpenRow.toRowW PySem.Challenge.rw_neveragain_k33_first_places.row)) s) true (fin w os))=λ_ _=>openGood (q PySem.Challenge.pw_neveragain_k33_first_places) ["TooGreat"]:=by
 unfold fin goB goA;rw[PySem.W.Fast.te4187177175401517315,PySem.W.Fast.te10110043849684766642,PySem.W.Fast.te15667345088766844465,PySem.W.Fast.te14364793385576792824,PySem.W.Fast.te8336772933544090784];kernel_rfl
theorem k4:(λ(w:World)=>((boot_heap w.params).isNs mainGlobals&&(#[]:Array GenState).size==0,(boot_heap w.params).objs.size,(boot_heap w.params).nsMap mainGlobals "__annotations__"))=λ_=>(true,11,ann):=by kernel_rfl
theorem k5:opening PySem.Challenge.pw_neveragain_k33_first_places=plainProg PySem.Challenge.pw_neveragain_k33_first_places.main.scope.names:=by kernel_rfl
theorem k6:(λs=>fenceModules? PySem.Challenge.pw_neveragain_k33_first_places s)=λs=>some s:=by kernel_rfl
theorem left:LeftO PySem.Challenge.pw_neveragain_k33_first_places (q PySem.Challenge.pw_neveragain_k33_first_places) ["TooGreat"] (λs=>xlAt (q PySem.Challenge.pw_neveragain_k33_first_places) [] s&&recOk (RowW.records (OpenRow.toRowW PySem.Challenge.rw_neveragain_k33_first_places.row)) s) (λs=>ads.map s.heap.get?) (λw=>(K w.params).map λp=>some p.2) 1760:=
 left_run (boot_open k5 (by decide) (λs=>congrFun k6 s)) (λw=>congrFun k4 w) run (by decide) (λw os=>congrFun (congrFun k2 w) os) (λw os=>congrFun (congrFun k3 w) os) (λw os=>congrFun (congrFun k1 w) os)
theorem he (P:Params):ads=(K P).map (·.1):=by kernel_rfl
end L2.Hd
open PySem PySem.W PyProof.Rows
set_option maxRecDepth 100000 in
set_option maxHeartbeats 0 in
theorem PySem.Challenge.cw_neveragain_k33_first_places_holds : PySem.Challenge.rw_neveragain_k33_first_places.Holds := by
 w_on;o_law
 refine holds_open (q:=L2.Hd.q PySem.Challenge.pw_neveragain_k33_first_places) (loose:=["TooGreat"]) (XP:=XL (L2.Hd.q PySem.Challenge.pw_neveragain_k33_first_places) [])
  (Yf:=Hook.obs (kHook L2.Hd.K L2.Hd.ads L2.Hd.he)) (Ya:=Hook.val (kHook L2.Hd.K L2.Hd.ads L2.Hd.he))
  (YP:=Hook.says (kHook L2.Hd.K L2.Hd.ads L2.Hd.he)) (N:=1760) L2.Hd.left (Hook.of (kHook L2.Hd.K L2.Hd.ads L2.Hd.he))
  (Hook.keeps (kHook L2.Hd.K L2.Hd.ads L2.Hd.he)) (λs e=>xl_of s (Bool.and_eq_true_iff.mp e).1) XL.keeps (by rfl) (by rfl) (by rfl)
  (λs e=>recFacts_of (Bool.and_eq_true_iff.mp e).2) (by rfl) (by assumption) (by decide+kernel)
  ⟨rfl,rfl,rfl,rfl,rfl,by decide+kernel⟩ ?hw ?hc
 case hw=>w_witness2
 k_fill
 refine L2.Na.OM (KF:=L2.Na.K31.KF) (l:=PySem.Challenge.rw_neveragain_k33_first_places) (k:=9) (x:="_law_script") (sp:=L2.Na.K33.sX) rfl rfl ⟨rfl,by decide,by decide⟩ (λw h Y=>PySem.W.kIn_of Y) ?KF rfl L2.Na.K33.xQ L2.Na.K33.TJ L2.Na.K33.Bj (λ_ _ _ _ _ _ _=>rfl) (λ_=>L2.Na.K33.Bl) (λ_ kf=>L2.Na.K33.ZJ kf) ?F ?Q L2.Na.K33.ZY
 case KF=>
  intro w;constructor<;>walk_at "k"
 case F=>
  intro w h KX;refine ⟨?a,?b⟩
  case a=>walk_at "f"
  case b=>
   unfold L2.Na.pM;refine ⟨?_,?_,?_,?_,?_,?_,?_,?_,?_,?_,?_,?_,?_,?_,?_,?_,?_,?_,?_,?_,?_,?_,L2.tI⟩<;>k_is
 case Q=>
  intro w mg h base kf KX G bl A hr;refine' L2.Na.K33.Dx KX G bl ?_ ?_ ?_ ?_ ?_ ?_ ?_ ?_ ?_ ?_ ?_ ?_ ?_ ?_ ?_ ?_ ?_ ?_ ?_ ?_ ?_ ?_ ?_ ?_ ?_ ?_ ?_ ?_ ?_ ?_ ?_ ?_ ?_ ?_ kf A hr<;>walk_at "f"
#print axioms PySem.Challenge.cw_neveragain_k33_first_places_holds
