import PyProof.Rows.All
import Wide.All
import OpenK.AllK
import Wide.FinOn
import Lean
import PyProof.EqAt
import PyProof.EqKinds
import PyProof.TupleCall
import PyProof.AttrMissSeq
import KE.KDictOf
import KE.KSortTup
import PySem.Challenge.RW_neveragain_k32_whole_pieces_closed
set_option genSizeOf false
set_option bootstrap.genMatcherCode false
set_option compiler.extract_closed false
open PySem.Challenge (pw_neveragain_k32_whole_pieces_closed)
open List (Nodup Pairwise all_eq_true any_cons append_nil drop_drop drop_eq_nil_of_le drop_zero ext_getElem? extract_eq_take_drop filter_cons find?_cons flatten_cons foldl foldl_cons forIn_cons forIn_nil getD_eq_getElem?_getD getElem?_append_left getElem?_append_right getElem?_drop getElem?_map getElem?_of_mem getElem?_range getElem?_take getElem_mem length length_append length_cons length_drop length_map length_nil length_range length_replicate length_reverse length_set length_take length_zipWith lookup_cons lookup_cons_self map_append map_congr_left map_cons map_map map_nil mem_append mem_append_left mem_append_right mem_cons mem_cons_of_mem mem_cons_self mem_filter mem_filterMap mem_map mem_of_getElem? mem_of_mem_drop mem_of_mem_take mem_range mem_reverse mem_singleton nil_append nodup_cons not_lt not_mem_nil pairwise_append pairwise_cons pairwise_map perm_append_comm range range' range_succ replicate replicate_succ size_toArray sum_cons take_add take_add_one take_append_drop take_of_length_le take_succ_cons take_take take_zero zipWith zipWith_cons_cons)
open Nat (le_of_eq le_of_lt le_succ lt_succ_of_lt lt_succ_self min_eq_left ne_of_gt ne_of_lt sub_self zero_add zero_le)
open Bool (and_eq_true false_eq_true not_eq_true' or_eq_true)
open Int (emod_lt_of_pos emod_nonneg toNat toNat_natCast)
open Array (ext' getElem?_toList length_toList size_eq_one_iff size_extract size_map toList_append toList_extract toList_map toList_push toList_reverse)
open PySem.Heap (DictOf ExtBut SameBut get?_push_ne get?_push_of_some get?_push_size get?_update_other get?_update_self lt_size size_update)
noncomputable abbrev L2.Fg:=PySem.W.Frag
theorem L2.tI:True:=True.intro
set_option Elab.async false
set_option linter.all false
set_option maxRecDepth 100000
set_option maxHeartbeats 4000000
namespace L2
open PySem PySem.Spec PyProof.Rows
noncomputable abbrev Key:=Sum Int Str
noncomputable def lK:Key->Value->Bool
 | .inl k,v=>Value.isInt k v
 | .inr x,v=>Value.isStrOf x v
noncomputable def Gf (w:World):Key->Int
 | .inl k=>hashInt k
 | .inr x=>hashStr w x
theorem bA:∀{k:Key} {v:Value},lK k v=true->(∃i t,k=Sum.inl i/\v=Value.int i t)\/(∃x t,k=Sum.inr x/\v=Value.str x t)
 | .inl i,v,h=>by
  obtain ⟨t,e⟩:=Value.isInt_shape (k:=i) (v:=v) h;exact .inl ⟨i,t,rfl,e⟩
 | .inr x,v,h=>by
  obtain ⟨t,e⟩:=Value.isStrOf_shape (x:=x) (v:=v) h;exact .inr ⟨x,t,rfl,e⟩
theorem DK (i:Int) (t:Tok):lK (.inl i) (.int i t)=true:=by simp [lK,Value.isInt]
theorem qF (x:Str) (t:Tok):lK (.inr x) (.str x t)=true:=by simp [lK,Value.isStrOf]
theorem VM (a b:Int):decide ((Sum.inl a:Key)=Sum.inl b)=(a==b):=by
 by_cases e:a=b
 ·subst e;simp
 ·have h:¬(Sum.inl a:Key)=Sum.inl b:=λq=>e (Sum.inl.inj q);rw[decide_eq_false h];exact (beq_eq_false_iff_ne.mpr e).symm
theorem VI (a b:Str):decide ((Sum.inr a:Key)=Sum.inr b)=decide (a=b):=by
 by_cases e:a=b
 ·subst e;simp
 ·have h:¬(Sum.inr a:Key)=Sum.inr b:=λq=>e (Sum.inr.inj q);rw[decide_eq_false h,decide_eq_false e]
theorem VL (a:Int) (b:Str):decide ((Sum.inl a:Key)=Sum.inr b)=false:=decide_eq_false (λq=>nomatch q)
theorem VJ (a:Str) (b:Int):decide ((Sum.inr a:Key)=Sum.inl b)=false:=decide_eq_false (λq=>nomatch q)
noncomputable def aX (prog:Program) (w:World):PySem.KeyKind prog w Key where
 is:=lK
 hash:=Gf w
 inj:=λv a b ha hb=>by
  rcases bA ha with ⟨i,t,rfl,rfl⟩|⟨x,t,rfl,rfl⟩
  ·rcases bA hb with ⟨j,u,rfl,e⟩|⟨y,u,rfl,e⟩
   ·injection e with e1 _;rw[e1]
   ·exact nomatch e
  ·rcases bA hb with ⟨j,u,rfl,e⟩|⟨y,u,rfl,e⟩
   ·exact nomatch e
   ·injection e with e1 _;rw[e1]
 byValue:=λk v h=>by
  rcases bA h with ⟨i,t,rfl,rfl⟩|⟨x,t,rfl,rfl⟩<;>rfl
 pyHash:=λhv h=>by
  rcases bA hv with ⟨i,t,rfl,rfl⟩|⟨x,t,rfl,rfl⟩
  ·exact wpAny_pyHash_int h
  ·exact wpAny_pyHash_str h
 eqBool:=λhu hv h=>by
  rcases bA hu with ⟨i,t,rfl,rfl⟩|⟨x,t,rfl,rfl⟩
  ·rcases bA hv with ⟨j,u,rfl,rfl⟩|⟨y,u,rfl,rfl⟩
   ·rw[VM] at h;exact wpAny_eqBool_int h
   ·rw[VL] at h;exact SeqAt.EqAt.int_str i t y u _ _ _ _ h
  ·rcases bA hv with ⟨j,u,rfl,rfl⟩|⟨y,u,rfl,rfl⟩
   ·rw[VJ] at h;exact SeqAt.EqAt.str_int x t j u _ _ _ _ h
   ·rw[VI] at h;exact wpAny_eqBool_str h
 «strs»:=λk x t v h=>by
  rcases bA h with ⟨i,u,rfl,e⟩|⟨y,u,rfl,e⟩
  ·exact nomatch e
  ·injection e with e1 _
   subst e1;cases v<;>rfl
theorem vK (prog:Program) (w:World) (i:Int) (t:Tok):(aX prog w).is (.inl i) (.int i t)=true:=DK i t
theorem vJ (prog:Program) (w:World) (x:Str) (t:Tok):(aX prog w).is (.inr x) (.str x t)=true:=qF x t
inductive V where
 |non|bl (b:Bool)|int (i:Int)|str (x:Str)|byt (b:Array UInt8)|flt (b:UInt64)|ref (a:Addr)|ty (n:String)
 deriving DecidableEq
noncomputable def RelV:V->Value->Prop
 | .non,u=>u=Value.none
 | .bl b,u=>u=Value.bool b
 | .int i,u=>∃t,u=Value.int i t
 | .str x,u=>∃t,u=Value.str x t
 | .byt b,u=>∃t,u=Value.bytes b t
 | .flt b,u=>∃t,u=Value.float b t
 | .ref a,u=>u=Value.ref a
 | .ty n,u=>u=Value.type n
noncomputable abbrev Vals:List V->List Value->Prop:=Paired RelV
theorem Vals.length {xs:List V} {us:List Value} (r:Vals xs us):xs.length=us.length:=Paired.length r
theorem Vals.get:∀{xs:List V} {us:List Value} {i:Nat} {x:V},Vals xs us->xs[i]?=some x->∃u,us[i]?=some u/\RelV x u
 |_,_,_,_,.nil,e=>by simp at e
 |_,_,0,_,.cons r _,e=>by simp at e;subst e;exact ⟨_,rfl,r⟩
 |_,_,i+1,x,.cons _ t,e=>by
  obtain ⟨u,h1,h2⟩:=Vals.get (i:=i) (x:=x) t (by simpa using e);exact ⟨u,by simpa using h1,h2⟩
theorem Vals.set {x:V} {u:Value} (r:RelV x u):∀{xs:List V} {us:List Value} (i:Nat),Vals xs us->Vals (xs.set i x) (us.set i u)
 |_,_,_,.nil=>.nil
 |_,_,0,.cons _ t=>.cons r t
 |_,_,i+1,.cons q t=>.cons q (Vals.set r i t)
theorem Vals.append:∀{xs ys:List V} {us ws:List Value},Vals xs us->Vals ys ws->Vals (xs++ys) (us++ws)
 |_,_,_,_,.nil,s=>s
 |_,_,_,_,.cons r t,s=>.cons r (Vals.append t s)
theorem Vals.take:∀{xs:List V} {us:List Value} (n:Nat),Vals xs us->Vals (xs.take n) (us.take n)
 |_,_,0,_=>.nil
 |_,_,_+1,.nil=>.nil
 |_,_,n+1,.cons r t=>.cons r (Vals.take n t)
theorem Vals.drop:∀{xs:List V} {us:List Value} (n:Nat),Vals xs us->Vals (xs.drop n) (us.drop n)
 |_,_,0,r=>r
 |_,_,_+1,.nil=>.nil
 |_,_,n+1,.cons _ t=>Vals.drop n t
noncomputable def iX:Option V->Option Value->Prop
 |some v,some u=>RelV v u
 |none,none=>True
 |_,_=>False
noncomputable def KV {κ:Type}:List (κ × V)->List (κ × Value)->Prop:=Paired λ(p:κ × V) (q:κ × Value)=>p.1=q.1/\RelV p.2 q.2
noncomputable def kV:Key->V
 | .inl i=>.int i
 | .inr x=>.str x
inductive HO where
  
 |lst (xs:List V)
  
 |tup (xs:List V)
  
 |dK (kvs:List (Key × V))|dT (kvs:List (List Key × V))
  
 |set (S:Int->Bool) (n:Nat)
  
 |ins (C dx:Addr) (fs:List (Str × V))
  
 |own (x:Addr)
  
 |xd (fs:List (Str × V))
  
 |met (f x:Addr)
  
 |rng (lo hi:Int)
  
 |frz (o:Obj) (u:HO)
  
 |tbl (ps:Array Value)
  
 |ext (φ:Heap->Prop)
noncomputable abbrev Hp:=Addr->Option HO
noncomputable def upd (H:Hp) (a:Addr) (o:HO):Hp:=λb=>if b=a then some o else H b
theorem aA:upd H a o a=some o:=by unfold upd;rw[if_pos rfl]
theorem aF (h:b≠a):upd H a o b=H b:=by unfold upd;rw[if_neg h]
theorem MG:upd (upd H a o) a u=upd H a u:=by
 funext b;unfold upd;split<;>rfl
theorem Bl {H:Hp} {a b:Addr} {o u:HO} (h:H a=some o) (h':H b=some u) (d:o≠u):a≠b:=by
 intro e;subst e;rw[h] at h';exact d (Option.some.inj h')
theorem aB {H:Hp} {a b:Addr} {o:HO} (h:H a=some o) (h':H b=none):a≠b:=by
 intro e;subst e;rw[h] at h';cases h'
section
variable (P:Program) (w:World)
noncomputable def aY (H:Hp) (h:Heap) (a:Addr):HO->Prop
 | .lst xs=>xs.length<=sizeLine/\∃(its:List Value) (n:Nat),Vals xs its/\h.get? a=some {cls:=.type "list",data:=.seq its.toArray n}
 | .tup xs=>xs.length<=sizeLine/\∃its:List Value,Vals xs its/\IsTup h a its.toArray
 | .dK kvs=>kvs.length<=sizeLine/\(a==sysModules)=false/\∃vs,KV kvs vs/\h.DictOf (aX P w) a vs
 | .dT kvs=>kvs.length<=sizeLine/\(a==sysModules)=false/\∃xs:List (List Key × Addr × Value),
   Paired (λ(p:List Key × V) (q:List Key × Addr × Value)=>p.1=q.1/\H q.2.1=some (.tup (p.1.map kV))/\RelV p.2 q.2.2) kvs xs/\
   ∃o es ep,h.get? a=some o/\o.ExactDict/\o.data=.dict es ep/\es.toList=xs.map (entryOfKey (tupleKind (aX P w)))/\(xs.map (·.1)).Nodup
 | .set S n=>h.SetOf (intKind P w) a S n
 | .ins C dx fs=>H dx=some (.own a)/\fs.length<=1000/\dx≠a/\h.get? a=some (PySem.W.instObj C dx)/\
   ∃mA,h.Ns1 dx mA/\(∀f,iX (fs.lookup f) (mA f))/\PySem.Within mA (fs.map (·.1))
 | .own _=>∃o,h.get? a=some o
 | .xd fs=>∃mA,h.Ns1 a mA/\∀f,iX (fs.lookup f) (mA f)
 | .rng lo hi=>∃t u v,h.get? a=some {cls:=.type "range",data:=.fields #[.int lo t,.int hi u,.int 1 v]}
 | .frz o u=>h.get? a=some o/\aY H h a u
 | .tbl ps=>h.get? a=some {cls:=.none,data:=.fields ps}
 | .met f x=>h.get? a=some (PySem.W.methodObj (.ref f) (.ref x))
 | .ext φ=>φ h/\(∃o,h.get? a=some o)/\∀h1 h2:Heap,φ h1->(∀o,h1.get? a=some o->h2.get? a=some o)->φ h2
noncomputable def dY (H:Hp) (h:Heap):Prop:=∀a o,H a=some o->aY P w H h a o
end
section
variable {P:Program} {w:World} {H H':Hp} {h h':Heap} {a:Addr} {o:HO}
theorem aY.lt (x:aY P w H h a o):a<h.objs.size:=by
 cases o with
 |lst xs=>obtain ⟨_,_,_,_,e⟩:=x;exact lt_size e
 |tup xs=>obtain ⟨_,_,_,p⟩:=x;exact p.lt
 |dK kvs=>obtain ⟨_,_,_,_,o,_,_,e,_⟩:=x;exact lt_size e
 |dT kvs=>obtain ⟨_,_,_,_,o,_,_,e,_⟩:=x;exact lt_size e
 |set S n=>obtain ⟨o,_,_,_,e,_⟩:=x;exact lt_size e
 |ins C dx fs=>obtain ⟨_,_,_,e,_⟩:=x;exact lt_size e
 |own y=>obtain ⟨_,e⟩:=x;exact lt_size e
 |xd fs=>obtain ⟨_,⟨_,_,_,e,_⟩,_⟩:=x;exact lt_size e
 |rng lo hi=>obtain ⟨_,_,_,e⟩:=x;exact lt_size e
 |frz ob u=>obtain ⟨e,_⟩:=x;exact lt_size e
 |tbl ps=>exact lt_size (show h.get? a=some _ from x)
 |met f y=>exact lt_size (show h.get? a=some _ from x)
 |ext φ=>obtain ⟨_,⟨_,e⟩,_⟩:=x;exact lt_size e
theorem Paired.mapP:∀{av:List α} {aw:List β},Paired F av aw->(∀a b,F a b->G a b)->Paired G av aw
 |_,_,.nil,_=>.nil
 |_,_,.cons r t,f=>.cons (f _ _ r) (Paired.mapP t f)
theorem aY.stay (x:aY P w H h a o) (k:∀b u,(b=a\/H b=some (.own a))->h.get? b=some u->h'.get? b=some u)
  (ho:∀b,H b=some (.own a)->H' b=some (.own a)) (ht:∀b xs,H b=some (.tup xs)->H' b=some (.tup xs)):aY P w H' h' a o:=by
 induction o with
 |lst xs=>obtain ⟨z,its,n,r,e⟩:=x;exact ⟨z,its,n,r,k _ _ (.inl rfl) e⟩
 |tup xs=>obtain ⟨z,its,r,ob,e,c⟩:=x;exact ⟨z,its,r,ob,k _ _ (.inl rfl) e,c⟩
 |dK kvs=>obtain ⟨z,y,vs,r,ob,es,ep,e,c⟩:=x;exact ⟨z,y,vs,r,ob,es,ep,k _ _ (.inl rfl) e,c⟩
 |dT kvs=>
  obtain ⟨z,y,xs,r,ob,es,ep,e,c⟩:=x;exact ⟨z,y,xs,Paired.mapP r λp q z=>⟨z.1,ht _ _ z.2.1,z.2.2⟩,ob,es,ep,k _ _ (.inl rfl) e,c⟩
 |set S n=>obtain ⟨ob,es,ep,t,e,c⟩:=x;exact ⟨ob,es,ep,t,k _ _ (.inl rfl) e,c⟩
 |ins C dx fs=>
  obtain ⟨d,z,ne,e,mA,⟨od,es,ep,e2,c⟩,r⟩:=x;exact ⟨ho _ d,z,ne,k _ _ (.inl rfl) e,mA,⟨od,es,ep,k _ _ (.inr d) e2,c⟩,r⟩
 |own y=>obtain ⟨ob,e⟩:=x;exact ⟨ob,k _ _ (.inl rfl) e⟩
 |xd fs=>obtain ⟨mA,⟨od,es,ep,e,c⟩,r⟩:=x;exact ⟨mA,⟨od,es,ep,k _ _ (.inl rfl) e,c⟩,r⟩
 |rng lo hi=>obtain ⟨t,u,v,e⟩:=x;exact ⟨t,u,v,k _ _ (.inl rfl) e⟩
 |frz ob u ih=>obtain ⟨e,q⟩:=x;exact ⟨k _ _ (.inl rfl) e,ih q⟩
 |tbl ps=>
  have e:h.get? a=some {cls:=.none,data:=.fields ps}:=x;show h'.get? a=some {cls:=.none,data:=.fields ps};exact k a _ (.inl rfl) e
 |met f y=>
  have e:h.get? a=some (PySem.W.methodObj (.ref f) (.ref y)):=x;show h'.get? a=some (PySem.W.methodObj (.ref f) (.ref y));exact k a _ (.inl rfl) e
 |ext φ=>obtain ⟨p,⟨o,e⟩,st⟩:=x;exact ⟨st _ _ p λo q=>k _ _ (.inl rfl) q,⟨o,k _ _ (.inl rfl) e⟩,st⟩
theorem dY.lt (x:dY P w H h) (e:H a=some o):a<h.objs.size:=(x a o e).lt
theorem dY.fresh (x:dY P w H h) (e:h.objs.size<=a):H a=none:=by
 cases q:H a with
 |none=>rfl
 |some u=>exact absurd (Nat.lt_of_lt_of_le (x.lt q) e) (Nat.lt_irrefl _)
theorem dY.kept (x:dY P w H h) (k:∀b u,h.get? b=some u->h'.get? b=some u):dY P w H h':=λa o e=>
 (x a o e).stay (λb u _ q=>k b u q) (λ_ q=>q) λ_ _ q=>q
theorem dY.laid (x:dY P w H h) (k:∀b u,h.get? b=some u->h'.get? b=some u) (hp:h.objs.size<=a) (new:aY P w (upd H a o) h' a o):dY P w (upd H a o) h':=λb u e=>by
 have hn:=x.fresh hp;by_cases hb:b=a
 ·subst hb;rw[aA] at e;cases e;exact new
 ·rw[aF hb] at e;exact (x b u e).stay (λc v _ q=>k c v q) (λc q=>by rw[aF (aB q hn)];exact q) λc xs q=>by rw[aF (aB q hn)];exact q
end
noncomputable def Rd (H:Hp) (a:Addr) (u:HO):Prop:=H a=some u\/∃o,H a=some (.frz o u)
theorem Rd.ok {P:Program} {w:World} {H:Hp} {h:Heap} {a:Addr} {u:HO} (r:Rd H a u) (x:dY P w H h):aY P w H h a u:=by
 rcases r with r|⟨o,r⟩
 ·exact x a u r
 ·obtain ⟨_,q⟩:=x a _ r;exact q
noncomputable def Ej:Option HO->Prop
 |some (.lst _)=>True
 |some (.dK _)=>True
 |some (.dT _)=>True
 |some (.set _ _)=>True
 |some (.ins _ _ _)=>True
 |some (.ext _)=>True
 |_=>False
section
variable {P:Program} {w:World} {H:Hp} {h h':Heap} {x e:Addr} {o':HO}
theorem dY.write (ok:dY P w H h) (mu:Ej (H x)) (he:e=x\/H e=some (.own x)) (k:∀b u,b≠e->h.get? b=some u->h'.get? b=some u) (heo:∃u,h'.get? e=some u)
  (new:aY P w (upd H x o') h' x o'):dY P w (upd H x o') h':=λb u q=>by
 have nown:∀c y,H c=some (.own y)->c≠x:=λc y r z=>by subst z;rw[r] at mu;exact mu
 have ntup:∀c xs,H c=some (.tup xs)->c≠x:=λc xs r z=>by subst z;rw[r] at mu;exact mu
 by_cases hb:b=x
 ·subst hb;rw[aA] at q;cases q;exact new
 ·rw[aF hb] at q;by_cases hbe:b=e
  ·have q':H b=some (.own x):=by
    rcases he with z|z
    ·exact absurd (hbe.trans z) hb
    ·rw[hbe];exact z
   rw[q] at q';cases q';obtain ⟨v,hv⟩:=heo;exact ⟨v,by rw[hbe];exact hv⟩
  ·refine (ok b u q).stay (λc v hc r=>k c v ?_ r) (λc r=>by rw[aF (nown c b r)];exact r) λc xs r=>by rw[aF (ntup c xs r)];exact r
   rcases hc with rfl|hc
   ·exact hbe
   ·rintro rfl;rcases he with z|z
    ·exact nown c b hc z
    ·rw[hc] at z;cases z;exact hb rfl
end
structure Un (fs ex:List Addr) (H H':Hp) (h h':Heap):Prop where
 keep:∀b o,h.get? b=some o->H b=none->b∉fs->b∉ex->h'.get? b=some o
 slot:∀b o,h.get? b=some o->H b=none->b∈fs->b∉ex->∃sl,h'.get? b=some {o with slots:=sl}
 free:∀b o,h.get? b=some o->H b=none->b∉ex->H' b=none
 there:∀b o,h.get? b=some o->b∉ex->∃o',h'.get? b=some o'
 tups:∀b xs,H b=some (.tup xs)->H' b=some (.tup xs)
 frzs:∀b o u,H b=some (.frz o u)->H' b=some (.frz o u)
 tbls:∀b ps,H b=some (.tbl ps)->∃more,H' b=some (.tbl (ps++more))
section
variable {fs fs' ex ex':List Addr} {H H1 H2:Hp} {h h1 h2 h':Heap} {a x e:Addr} {o:HO}
theorem Un.any (u:Un fs ex H H1 h h1) {b:Addr} {ob:Obj} (q:h.get? b=some ob) (n:H b=none) (hx:b∉ex):∃sl,h1.get? b=some {ob with slots:=sl}:=by
 by_cases hb:b∈fs
 ·exact u.slot b ob q n hb hx
 ·exact ⟨ob.slots,u.keep b ob q n hb hx⟩
theorem Un.kept (k:∀b u,h.get? b=some u->h'.get? b=some u):Un fs ex H H h h':=
 ⟨λb ob q _ _ _=>k b ob q,λb ob q _ _ _=>⟨ob.slots,k b ob q⟩,λ_ _ _ n _=>n,λb ob q _=>⟨ob,k b ob q⟩,λ_ _ q=>q,λ_ _ _ q=>q,λ_ ps q=>⟨#[],by rw[q];simp⟩⟩
theorem Un.refl:Un fs ex H H h h:=Un.kept λ_ _ q=>q
theorem Un.laid (k:∀b u,h.get? b=some u->h'.get? b=some u) (hp:h.objs.size<=a) (hn:H a=none):Un fs ex H (upd H a o) h h' where
 keep:=λb u q _ _ _=>k b u q
 slot:=λb u q _ _ _=>⟨u.slots,k b u q⟩
 free:=λb u q n _=>by rw[aF (ne_of_lt (Nat.lt_of_lt_of_le (lt_size q) hp))];exact n
 there:=λb u q _=>⟨u,k b u q⟩
 tups:=λb xs q=>by rw[aF (aB q hn)];exact q
 frzs:=λb u xs q=>by rw[aF (aB q hn)];exact q
 tbls:=λb ps q=>⟨#[],by rw[aF (aB q hn),q];simp⟩
theorem Un.write (mu:Ej (H x)) (he:e=x\/H e=some (.own x)) (k:∀b u,b≠e->h.get? b=some u->h'.get? b=some u) (heo:∃u,h'.get? e=some u):Un fs ex H (upd H x o) h h':=by
 have hx:∀b,H b=none->b≠x:=λb n z=>by subst z;rw[n] at mu;exact mu
 have hb:∀b,H b=none->b≠e:=λb n z=>by
  subst z;rcases he with r|r
  ·exact hx b n r
  ·rw[n] at r;cases r
 have hm:∀b u,H b=some u->¬Ej (some u)->b≠x:=λb u q nm z=>by subst z;rw[q] at mu;exact nm mu
 refine ⟨λb u q n _ _=>k b u (hb b n) q,λb u q n _ _=>⟨u.slots,k b u (hb b n) q⟩,λb u q n _=>by rw[aF (hx b n)];exact n,λb u q _=>?_,
  λb xs q=>by rw[aF (hm b _ q λz=>z)];exact q,λb u xs q=>by rw[aF (hm b _ q λz=>z)];exact q,λb ps q=>⟨#[],by rw[aF (hm b _ q λz=>z),q];simp⟩⟩
 by_cases hbe:b=e
 ·subst hbe;exact heo
 ·exact ⟨u,k b u hbe q⟩
end
noncomputable def Er (h:Heap) (H:Hp):List Addr:=(range h.objs.size).filter λa=>(H a).isSome
noncomputable def tD (h:Heap) (H:Hp):Heap:=PySem.W.hideAll h (Er h H)
theorem DO (h:Heap) (H:Hp):(tD h H).objs.size=h.objs.size:=PySem.W.hideAll_size _ _
theorem JL (e:h.get? b=some o) (n:H b=none):(tD h H).get? b=some o:=
 PySem.W.hideAll_get _ e λhm=>by
  have q:(H b).isSome=true:=(mem_filter.mp hm).2;rw[n] at q;simp at q
theorem NV (e:(tD h H).get? b=some o):h.get? b=some o/\H b=none:=by
 have e':h.get? b=some o:=PySem.W.of_hideAll (Er h H) e;refine ⟨e',?_⟩;cases q:H b with
 |none=>rfl
 |some x=>
  have hm:b∈Er h H:=mem_filter.mpr ⟨mem_range.mpr (lt_size e'),by simp [q]⟩;have z:(tD h H).get? b=none:=PySem.W.hideAll_none (Er h H) hm;rw[z] at e;cases e
structure Mod (K:Fg) (mg:Str->Option Value) (base:Heap):Prop where
 kin:K.In base
 glob:base.Ns mainGlobals mg
 blt:∃mb,base.Ns builtinsNs mb/\∀x:Str,x≠"__name__"->mb x=bootBuiltins x
 nolimit:base.NoLimit
structure Cx where
 prog:Program
 w:World
 K:Fg
 mg:Str->Option Value
 base:Heap
 A:Around
 N:List Str
 s₀:Shared
 H₀:Hp
 env:Env
 outer:List Env
 stack:List Env
 ex:List Addr
 fn:Str->Bool
 calm:Bool
 pn:List (Addr × Obj)
 xe:Value->Shared->Prop
noncomputable def eL (l:List Env):List Addr:=l.filterMap (·.frame)
noncomputable abbrev Cx.fs (X:Cx):List Addr:=eL X.outer
noncomputable def Ew (sc:Scope) (x:Str):Prop:=sc.names.lookup x=some .local\/sc.names.lookup x=some .cell\/sc.names.lookup x=some .free
noncomputable def Loc (sc:Scope) (x:Str):Prop:=sc.names.lookup x=some .local\/sc.names.lookup x=some .cell
noncomputable def Look (env:Env) (h:Heap) (m:Str->Option Value) (x:Str) (u:Value):Prop:=
 (env.kindOf x=some .local/\m x=some u)\/((env.kindOf x=some .cell\/env.kindOf x=some .free)/\∃c,env.cells.lookup x=some c/\h.IsCell c (some u))
structure Cx.Ok (X:Cx):Prop where
 mod:Mod X.K X.mg X.base
 kind:X.env.scope.kind=.function
 glob:X.env.globals=mainGlobals
 blt:X.env.builtins=builtinsNs
 above:X.s₀.heap.objs.size<=X.env.locals
 inj:∀x y c,X.env.cells.lookup x=some c->X.env.cells.lookup y=some c->x=y
 has:∀x,(X.env.kindOf x=some .cell\/X.env.kindOf x=some .free)->∃c,X.env.cells.lookup x=some c
 cab:∀x c,X.fn x=true->X.env.cells.lookup x=some c->X.s₀.heap.objs.size<=c
 hd:X.calm=true->X.A.handled=none
 frames:X.A.frames=some X.stack
 stk:X.stack=X.outer\/(X.stack=X.env::X.outer/\X.env.frame=some X.env.locals)
 exf:∀b∈X.ex,b≠X.env.locals/\∀x c,X.env.cells.lookup x=some c->c≠b
 bs:∀b o,X.base.get? b=some o->X.s₀.heap.get? b=some o/\X.H₀ b=none
 bsz:X.base.objs.size<=X.s₀.heap.objs.size
 noex:∀b o,X.base.get? b=some o->b∉X.ex
 exfs:∀b∈X.ex,b∉X.fs
 funs:X.s₀.heap.FunFrames X.base X.outer
 frf:∀b∈X.fs,X.H₀ b=none
structure Inv (X:Cx) (pins:List (Addr × Obj)) (σ:List (Option V)) (H:Hp) (s:Shared):Prop where
 ok:X.Ok
 os:s.os=X.s₀.os
 bare:AllBare s.gens
 base:Un X.fs X.ex X.H₀ H X.s₀.heap s.heap
 loc:∃m,s.heap.Ns X.env.locals m/\∀(i:Nat) (x:Str) (v:V),X.N[i]?=some x->σ[i]?=some (some v)->Ew X.env.scope x->∃u,RelV v u/\Look X.env s.heap m x u
 cell:∀x c,X.env.cells.lookup x=some c->∃v,s.heap.IsCell c v
 free:H X.env.locals=none
 freeC:∀x c,X.env.cells.lookup x=some c->H c=none
 pin:∀p∈X.pn++pins,s.heap.get? p.1=some p.2/\H p.1=none/\p.1≠X.env.locals/\p.1∉X.fs/\∀v,p.2.data≠.cell v
 hok:dY X.prog X.w H s.heap
 len:σ.length=X.N.length
section
variable {X:Cx} {pins:List (Addr × Obj)} {σ:List (Option V)} {H H':Hp} {s:Shared} {h':Heap}
theorem Cx.Ok.nofr (ok:X.Ok) (e:X.base.get? b=some o):b∉X.fs:=λhb=>by
 have:=(ok.funs.mem hb).1;rw[e] at this;cases this
theorem Inv.bs (I:Inv X pins σ H s):∀b o,X.base.get? b=some o->s.heap.get? b=some o/\H b=none:=λb o e=>
 ⟨I.base.keep b o (I.ok.bs b o e).1 (I.ok.bs b o e).2 (I.ok.nofr e) (I.ok.noex b o e),I.base.free b o (I.ok.bs b o e).1 (I.ok.bs b o e).2 (I.ok.noex b o e)⟩
theorem Inv.bk (I:Inv X pins σ H s):∀b o,X.base.get? b=some o->s.heap.get? b=some o:=λb o e=>(I.bs b o e).1
theorem Inv.mod (I:Inv X pins σ H s):Mod X.K X.mg X.base:=I.ok.mod
theorem Inv.kIn (I:Inv X pins σ H s):X.K.In s.heap:=I.ok.mod.kin.keeps I.bk
theorem Inv.nolimit (I:Inv X pins σ H s):s.heap.NoLimit:=I.ok.mod.nolimit.keeps I.bk
theorem Inv.lt (I:Inv X pins σ H s):X.env.locals<s.heap.objs.size:=let ⟨_,hn,_⟩:=I.loc;hn.lt
theorem Inv.sz (I:Inv X pins σ H s):X.s₀.heap.objs.size<=s.heap.objs.size:=Nat.le_trans I.ok.above (le_of_lt I.lt)
theorem Inv.nofs (I:Inv X pins σ H s) (h:s.heap.objs.size<=a):a∉X.fs:=λhb=>by
 obtain ⟨_,o,ho,_⟩:=I.ok.funs.mem hb;exact absurd (Nat.lt_of_lt_of_le (lt_size ho) (Nat.le_trans I.sz h)) (Nat.lt_irrefl _)
theorem Inv.cne (I:Inv X pins σ H s):∀x c,X.env.cells.lookup x=some c->c≠X.env.locals:=λx c e z=>by
 obtain ⟨v,o,ho,hd⟩:=I.cell x c e;obtain ⟨m,⟨o',es,ep,ho',hd',_⟩,_⟩:=I.loc;rw[z,ho'] at ho;cases ho;rw[hd'] at hd;cases hd
theorem Inv.funs (I:Inv X pins σ H s):s.heap.FunFrames X.base X.outer:=by
 have all:∀(l:List Env),(∀b∈eL l,b∈X.fs)->X.s₀.heap.FunFrames X.base l->s.heap.FunFrames X.base l:=by
  intro l;induction l with
  |nil=>intro _ _;trivial
  |cons env r ih=>
   intro hs hl;obtain ⟨hk,⟨L,o,hf,hn,ho,hd⟩,hr⟩:=hl;have hL:L∈X.fs:=hs L (by unfold eL;rw[List.filterMap_cons,hf];exact mem_cons_self);obtain ⟨sl,e⟩:=I.base.slot L o ho (I.ok.frf L hL) hL λz=>I.ok.exfs L z hL;exact ⟨hk,⟨L,_,hf,hn,e,hd⟩,ih (λb hb=>hs b (by unfold eL;rw[List.filterMap_cons,hf];exact mem_cons_of_mem _ hb)) hr⟩
 exact all X.outer (λ_ hb=>hb) I.ok.funs
theorem Inv.stack (I:Inv X pins σ H s):s.heap.FunFrames X.base X.stack:=by
 rcases I.ok.stk with e|⟨e,hf⟩
 ·rw[e];exact I.funs
 ·rw[e];obtain ⟨m,hn,_⟩:=I.loc;refine .cons (by rw[I.ok.kind];decide) hf hn ?_ I.funs;exact Heap.get?_none_of_le (Nat.le_trans I.ok.bsz I.ok.above)
theorem Inv.stkSub (I:Inv X pins σ H s):∀b∈eL X.stack,b∈X.env.locals::X.fs:=λb hb=>by
 rcases I.ok.stk with e|⟨e,hf⟩
 ·rw[e] at hb;exact mem_cons_of_mem _ hb
 ·rw[e] at hb;unfold eL at hb;rw[List.filterMap_cons,hf] at hb;exact hb
theorem Inv.stkFree (I:Inv X pins σ H s):∀b∈eL X.stack,H b=none:=λb hb=>by
 rcases mem_cons.mp (I.stkSub b hb) with e|hb
 ·rw[e];exact I.free
 ·obtain ⟨_,o,ho,_⟩:=I.ok.funs.mem hb;exact I.base.free b o ho (I.ok.frf b hb) λz=>I.ok.exfs b z hb
theorem Inv.step {g':Array GenState} {t':Nat} {d':Drawn} {ch:List Addr} (I:Inv X pins σ H s)
  (hch:∀b∈ch,(b∈X.ex\/X.s₀.heap.objs.size<=b)/\b≠X.env.locals/\(∀x c,X.env.cells.lookup x=some c->c≠b)/\∀p∈X.pn++pins,p.1≠b)
  (keep:∀b o,b≠X.env.locals->b∉X.fs->b∉ch->s.heap.get? b=some o->H b=none->h'.get? b=some o)
  (slot:∀b o,b≠X.env.locals->b∈X.fs->b∉ch->s.heap.get? b=some o->H b=none->∃sl,h'.get? b=some {o with slots:=sl}) (free:∀b o,b∉ch->s.heap.get? b=some o->H b=none->H' b=none)
  (there:∀b o,b∉ch->s.heap.get? b=some o->∃o',h'.get? b=some o')
  (tups:∀b xs,H b=some (.tup xs)->H' b=some (.tup xs)) (frzs:∀b o u,H b=some (.frz o u)->H' b=some (.frz o u)) (tbls:∀b ps,H b=some (.tbl ps)->∃more,H' b=some (.tbl (ps++more)))
  (ns:∀m,s.heap.Ns X.env.locals m->h'.Ns X.env.locals m) (hok:dY X.prog X.w H' h') (hg:AllBare g'):
  Inv X pins σ H' {s with heap:=h',gens:=g',drawn:=d',toks:=t'}:=by
 have neL:∀b o,X.s₀.heap.get? b=some o->b≠X.env.locals:=λb o e=>ne_of_lt (Nat.lt_of_lt_of_le (lt_size e) I.ok.above);have neC:∀b o,X.s₀.heap.get? b=some o->b∉X.ex->b∉ch:=λb o e hx hb=>by
  rcases (hch b hb).1 with z|z
  ·exact hx z
  ·exact absurd (Nat.lt_of_lt_of_le (lt_size e) z) (Nat.lt_irrefl _)
 have cellK:∀x c,X.env.cells.lookup x=some c->∀v,s.heap.IsCell c v->h'.IsCell c v:=λx c e v ⟨o,ho,hd⟩=>by
  have nch:c∉ch:=λz=>(hch c z).2.2.1 x c e rfl;by_cases hc:c∈X.fs
  ·obtain ⟨sl,q⟩:=slot c o (I.cne x c e) hc nch ho (I.freeC x c e);exact ⟨_,q,hd⟩
  ·exact ⟨o,keep c o (I.cne x c e) hc nch ho (I.freeC x c e),hd⟩
 refine ⟨I.ok,I.os,hg,⟨λb o e n hb hx=>?_,λb o e n hb hx=>?_,λb o e n hx=>?_,λb o e hx=>?_,λb xs e=>tups b xs (I.base.tups b xs e),λb o xs e=>frzs b o xs (I.base.frzs b o xs e),λb ps e=>?_⟩,?_,λx c e=>?_,?_,λx c e=>?_,λp hp=>?_,hok,I.len⟩
 ·exact keep b o (neL b o e) hb (neC b o e hx) (I.base.keep b o e n hb hx) (I.base.free b o e n hx)
 ·obtain ⟨sl,e1⟩:=I.base.slot b o e n hb hx;obtain ⟨sl',e2⟩:=slot b _ (neL b o e) hb (neC b o e hx) e1 (I.base.free b o e n hx);exact ⟨sl',e2⟩
 ·obtain ⟨o',e1⟩:=I.base.there b o e hx;exact free b o' (neC b o e hx) e1 (I.base.free b o e n hx)
 ·obtain ⟨o',e1⟩:=I.base.there b o e hx;exact there b o' (neC b o e hx) e1
 ·obtain ⟨m1,e1⟩:=I.base.tbls b ps e;obtain ⟨m2,e2⟩:=tbls b _ e1;exact ⟨m1++m2,by rw[e2,Array.append_assoc]⟩
 ·obtain ⟨m,hn,hl⟩:=I.loc;refine ⟨m,ns m hn,λi x v e1 e2 e3=>?_⟩;obtain ⟨u,r,l⟩:=hl i x v e1 e2 e3;refine ⟨u,r,?_⟩;rcases l with l|⟨k,c,e,z⟩
  ·exact .inl l
  ·exact .inr ⟨k,c,e,cellK x c e _ z⟩
 ·obtain ⟨v,z⟩:=I.cell x c e;exact ⟨v,cellK x c e v z⟩
 ·obtain ⟨m,⟨o,_,_,ho,_⟩,_⟩:=I.loc;exact free _ o (λz=>(hch _ z).2.1 rfl) ho I.free
 ·obtain ⟨v,o,ho,hd⟩:=I.cell x c e;exact free c o (λz=>(hch c z).2.2.1 x c e rfl) ho (I.freeC x c e)
 ·obtain ⟨e,n,ne,nf,d⟩:=I.pin p hp;have nch:p.1∉ch:=λz=>(hch p.1 z).2.2.2 p hp rfl;exact ⟨keep p.1 p.2 ne nf nch e n,free p.1 p.2 nch e n,ne,nf,d⟩
theorem Inv.un {t':Nat} (I:Inv X pins σ H s) (u:Un X.fs [] H H' s.heap h') (hok:dY X.prog X.w H' h'):Inv X pins σ H' {s with heap:=h',toks:=t'}:=by
 obtain ⟨m,⟨o,es,ep,ho,r⟩,_⟩:=id I.loc;obtain ⟨sl,hL⟩:=u.any ho I.free (by simp);exact I.step (g':=s.gens) (d':=s.drawn) (ch:=[]) (λ_ z=>nomatch z) (λb o _ hb _ e n=>u.keep b o e n hb (by simp)) (λb o _ hb _ e n=>u.slot b o e n hb (by simp)) (λb o _ e n=>u.free b o e n (by simp)) (λb o _ e=>u.there b o e (by simp)) u.tups u.frzs u.tbls (λm' hm=>by
  obtain ⟨o',es',ep',ho',r'⟩:=hm
  rw[ho] at ho';cases ho'
  exact ⟨_,es',ep',hL,r'⟩) hok I.bare
theorem Inv.call {g':Array GenState} {t':Nat} {d':Drawn} {ch:List Addr} (I:Inv X pins σ H s) (u:Un (eL X.stack) ch H H' s.heap h') (hok:dY X.prog X.w H' h') (hg:AllBare g')
  (hch:∀b∈ch,(b∈X.ex\/X.s₀.heap.objs.size<=b)/\b≠X.env.locals/\(∀x c,X.env.cells.lookup x=some c->c≠b)/\∀p∈X.pn++pins,p.1≠b):
  Inv X pins σ H' {s with heap:=h',gens:=g',drawn:=d',toks:=t'}:=by
 obtain ⟨m,⟨o,es,ep,ho,r⟩,_⟩:=id I.loc;obtain ⟨sl,hL⟩:=u.any ho I.free λz=>(hch _ z).2.1 rfl;exact I.step (ch:=ch) hch (λb o hL hb hc e n=>u.keep b o e n (λz=>(mem_cons.mp (I.stkSub b z)).elim hL hb) hc) (λb o _ _ hc e n=>u.any e n hc) (λb o hc e n=>u.free b o e n hc) (λb o hc e=>u.there b o e hc) u.tups u.frzs u.tbls (λm' hm=>by
  obtain ⟨o',es',ep',ho',r'⟩:=hm
  rw[ho] at ho';cases ho'
  exact ⟨_,es',ep',hL,r'⟩) hok hg
theorem Inv.turned {t':Nat} {it:Addr} (I:Inv X pins σ H s) (k:∀b o,b≠it->s.heap.get? b=some o->h'.get? b=some o) (hn:H it=none) (hL:it≠X.env.locals)
  (h1:it∈X.ex\/X.s₀.heap.objs.size<=it) (h2:∀x c,X.env.cells.lookup x=some c->c≠it) (h3:∀p∈X.pn++pins,p.1≠it):Inv X pins σ H {s with heap:=h',toks:=t'}:=by
 have nit:∀b u,H b=some u->b≠it:=λb u e z=>by rw[z,hn] at e;cases e
 refine I.step (g':=s.gens) (d':=s.drawn) (ch:=[it]) (λb hb=>?_) (λb o _ _ hc e _=>k b o (λz=>hc (by simp [z])) e) (λb o _ _ hc e _=>⟨o.slots,k b o (λz=>hc (by simp [z])) e⟩) (λ_ _ _ _ n=>n)
  (λb o hc e=>⟨o,k b o (λz=>hc (by simp [z])) e⟩) (λ_ _ e=>e) (λ_ _ _ e=>e) (λb ps e=>⟨#[],by rw[e];simp⟩) (λm hm=>?_) (λb u e=>?_) I.bare
 ·have e:b=it:=by simpa using hb
  subst e;exact ⟨h1,hL,h2,h3⟩
 ·obtain ⟨o,es,ep,ho,r⟩:=hm;exact ⟨o,es,ep,k _ o (Ne.symm hL) ho,r⟩
 ·refine (I.hok b u e).stay (λc v hc q=>k c v ?_ q) (λ_ q=>q) λ_ _ q=>q;rcases hc with z|z
  ·rw[z];exact nit b u e
  ·exact nit c _ z
theorem Inv.tok (I:Inv X pins σ H s) (t:Nat):Inv X pins σ H {s with toks:=t}:=I.un (h':=s.heap) (t':=t) Un.refl I.hok
theorem Inv.kept {t':Nat} (I:Inv X pins σ H s) (k:∀b u,s.heap.get? b=some u->h'.get? b=some u):Inv X pins σ H {s with heap:=h',toks:=t'}:=I.un (Un.kept k) (I.hok.kept k)
theorem Inv.laid {a:Addr} {o:HO} {t':Nat} (I:Inv X pins σ H s) (k:∀b u,s.heap.get? b=some u->h'.get? b=some u) (hp:s.heap.objs.size<=a) (new:aY X.prog X.w (upd H a o) h' a o):
  Inv X pins σ (upd H a o) {s with heap:=h',toks:=t'}:=I.un (Un.laid k hp (I.hok.fresh hp)) (I.hok.laid k hp new)
theorem Inv.write (I:Inv X pins σ H s) (mu:Ej (H x)) (he:e=x\/H e=some (.own x)) (k:∀b u,b≠e->s.heap.get? b=some u->h'.get? b=some u) (heo:∃u,h'.get? e=some u)
  (new:aY X.prog X.w (upd H x o) h' x o):Inv X pins σ (upd H x o) {s with heap:=h',toks:=t'}:=I.un (Un.write mu he k heo) (I.hok.write mu he k heo new)
theorem Inv.pins_of (I:Inv X pins σ H s) (h:∀p∈pins',s.heap.get? p.1=some p.2/\H p.1=none/\p.1≠X.env.locals/\p.1∉X.fs/\∀v,p.2.data≠.cell v):Inv X pins' σ H s:=
 ⟨I.ok,I.os,I.bare,I.base,I.loc,I.cell,I.free,I.freeC,λp hp=>(mem_append.mp hp).elim (λz=>I.pin p (mem_append_left _ z)) (h p),I.hok,I.len⟩
theorem vH {N:List Str} (hN:N.Nodup) {i j:Nat} {x:Str} (a:N[i]?=some x) (b:N[j]?=some x):i=j:=by
 obtain ⟨h1,e1⟩:=List.getElem?_eq_some_iff.mp a;obtain ⟨h2,e2⟩:=List.getElem?_eq_some_iff.mp b;exact (List.getElem_inj hN).mp (e1.trans e2.symm)
theorem pV (I:Inv X pins σ H s) (hN:X.N.Nodup) (hi:X.N[i]?=some x) (hx:Loc X.env.scope x) (r:RelV v u)
  (h:∀s',Inv X pins (σ.set i (some v)) H s'->(∃a,SameBut a s.heap s'.heap/\(a=X.env.locals\/X.env.cells.lookup x=some a))->Q () s') (hf:X.fn x=true\/X.env.scope.names.lookup x=some .local:=by first|exact .inl rfl|exact .inr rfl|assumption):wpAny M A (storeName X.env x u) Q E s:=by
 obtain ⟨m,hn,hl⟩:=id I.loc;have hcls:(X.env.scope.kind==.class || (X.env.scope.kind==.module&&X.env.locals != X.env.globals))=false:=by rw[I.ok.kind];rfl
 have hiσ:i<σ.length:=by rw[I.len];exact (List.getElem?_eq_some_iff.mp hi).1
 have cne:=I.cne;have tracked:∀{a:Addr} {h':Heap},(∃o,s.heap.get? a=some o/\H a=none)->SameBut a s.heap h'->dY X.prog X.w H h':=λ{a h'} ha hs b ob e=>by
  obtain ⟨_,_,hfree⟩:=ha;refine (I.hok b ob e).stay (λc w' hc q=>(hs.2 c ?_).trans q) (λ_ q=>q) λ_ _ q=>q;rintro rfl;rcases hc with rfl|hc
  ·rw[hfree] at e;cases e
  ·rw[hfree] at hc;cases hc
 rcases hx with hk|hk
 ·refine wpAny_storeName_local hk hn (λh' hn' hs=>?_) hcls;obtain ⟨oL,_,_,hoL,_⟩:=id hn;refine h _ ⟨I.ok,I.os,I.bare,⟨λb o e n hb hx=>?_,λb o e n hb hx=>?_,I.base.free,λb o e hx=>?_,I.base.tups,I.base.frzs,I.base.tbls⟩,⟨_,hn',λj y v' e1 e2 e3=>?_⟩,λy c e=>?_,I.free,I.freeC,λp hp=>?_,tracked ⟨oL,hoL,I.free⟩ hs,by simpa using I.len⟩ ⟨_,hs,.inl rfl⟩
  ·exact (hs.2 b (ne_of_lt (Nat.lt_of_lt_of_le (lt_size e) I.ok.above))).trans (I.base.keep b o e n hb hx)
  ·obtain ⟨sl,e1⟩:=I.base.slot b o e n hb hx;exact ⟨sl,(hs.2 b (ne_of_lt (Nat.lt_of_lt_of_le (lt_size e) I.ok.above))).trans e1⟩
  ·obtain ⟨o',e1⟩:=I.base.there b o e hx;exact ⟨o',(hs.2 b (ne_of_lt (Nat.lt_of_lt_of_le (lt_size e) I.ok.above))).trans e1⟩
  ·by_cases hj:j=i
   ·subst hj;rw[hi] at e1;cases e1;rw[List.getElem?_set_self hiσ] at e2;cases e2;exact ⟨u,r,.inl ⟨hk,by simp⟩⟩
   ·rw[List.getElem?_set_ne (Ne.symm hj)] at e2;obtain ⟨u',r',q⟩:=hl j y v' e1 e2 e3;refine ⟨u',r',?_⟩;rcases q with ⟨k,e⟩|⟨k,c,e,z⟩
    ·refine .inl ⟨k,?_⟩;have:y≠x:=λe=>hj (vH hN e1 (e▸hi));simp [this,e]
    ·exact .inr ⟨k,c,e,z.sameBut hs (cne y c e)⟩
  ·obtain ⟨w',z⟩:=I.cell y c e;exact ⟨w',z.sameBut hs (cne y c e)⟩
  ·obtain ⟨e,n,ne,nf,d⟩:=I.pin p hp;exact ⟨(hs.2 p.1 ne).trans e,n,ne,nf,d⟩
 ·have hfn:X.fn x=true:=by
   rcases hf with z|z
   ·exact z
   ·rw[z] at hk;cases hk
  obtain ⟨c,hc⟩:=I.ok.has x (.inl hk);obtain ⟨w',z⟩:=I.cell x c hc;refine wpAny_storeName_cell I.ok.kind hk hc z (λh' hc' hs=>?_);obtain ⟨oc,hoc,hocd⟩:=id z;refine h {s with heap:=h'} ⟨I.ok,I.os,I.bare,⟨λb o e n hb hx=>?_,λb o e n hb hx=>?_,I.base.free,λb o e hx=>?_,I.base.tups,I.base.frzs,I.base.tbls⟩,⟨m,hn.sameBut hs (Ne.symm (cne x c hc)),λj y v' e1 e2 e3=>?_⟩,λy c' e=>?_,I.free,I.freeC,λp hp=>?_,tracked ⟨oc,hoc,I.freeC x c hc⟩ hs,by simpa using I.len⟩ ⟨c,hs,.inr hc⟩
  ·exact (hs.2 b (ne_of_lt (Nat.lt_of_lt_of_le (lt_size e) (I.ok.cab x c hfn hc)))).trans (I.base.keep b o e n hb hx)
  ·obtain ⟨sl,e1⟩:=I.base.slot b o e n hb hx;exact ⟨sl,(hs.2 b (ne_of_lt (Nat.lt_of_lt_of_le (lt_size e) (I.ok.cab x c hfn hc)))).trans e1⟩
  ·obtain ⟨o',e1⟩:=I.base.there b o e hx;exact ⟨o',(hs.2 b (ne_of_lt (Nat.lt_of_lt_of_le (lt_size e) (I.ok.cab x c hfn hc)))).trans e1⟩
  ·by_cases hj:j=i
   ·subst hj;rw[hi] at e1;cases e1;rw[List.getElem?_set_self hiσ] at e2;cases e2;exact ⟨u,r,.inr ⟨.inl hk,c,hc,hc'⟩⟩
   ·rw[List.getElem?_set_ne (Ne.symm hj)] at e2;obtain ⟨u',r',q⟩:=hl j y v' e1 e2 e3;refine ⟨u',r',?_⟩;rcases q with q|⟨k,c',e,z'⟩
    ·exact .inl q
    ·refine .inr ⟨k,c',e,z'.sameBut hs ?_⟩;rintro rfl;exact hj (vH hN e1 (I.ok.inj _ _ _ e hc▸hi))
  ·by_cases hcc:c'=c
   ·subst hcc;exact ⟨_,hc'⟩
   ·obtain ⟨w2,z2⟩:=I.cell y c' e;exact ⟨w2,z2.sameBut hs hcc⟩
  ·obtain ⟨e,n,ne,nf,d⟩:=I.pin p hp;refine ⟨(hs.2 p.1 ?_).trans e,n,ne,nf,d⟩;intro q;rw[q,hoc] at e;have q':oc=p.2:=Option.some.inj e;exact d w' (by rw[<-q'];exact hocd)
theorem uJ {M:Model} {A:Around} {E:Value->Shared->Prop} {i:Nat} {x:Str} {v:V} {u:Value} {Q:Unit->Shared->Prop} (I:Inv X pins σ H s) (hN:X.N.Nodup) (hi:X.N[i]?=some x) (hx:Loc X.env.scope x) (r:RelV v u)
  (h:∀s',Inv X pins (σ.set i (some v)) H s'->Q () s') (hf:X.fn x=true\/X.env.scope.names.lookup x=some .local:=by first|exact .inl rfl|exact .inr rfl|assumption):wpAny M A (storeName X.env x u) Q E s:=
 pV I hN hi hx r (λs' I' _=>h s' I') hf
theorem Inv.call' (I:Inv X pins σ H s) (ho:s'.os=s.os) (u:Un (eL X.stack) ch H H' s.heap s'.heap) (hok:dY X.prog X.w H' s'.heap) (hg:AllBare s'.gens)
  (hch:∀b∈ch,(b∈X.ex\/X.s₀.heap.objs.size<=b)/\b≠X.env.locals/\(∀x c,X.env.cells.lookup x=some c->c≠b)/\∀p∈X.pn++pins,p.1≠b):Inv X pins σ H' s':=by
 obtain ⟨h',g',d',t',o'⟩:=s';have e:o'=s.os:=ho;subst e;exact I.call (g':=g') (t':=t') (d':=d') u hok hg hch
end
noncomputable abbrev XK:=Value->Option Addr->Hp->Prop
noncomputable abbrev St:=List (Option V)
noncomputable abbrev VK:=V->Hp->Prop
noncomputable abbrev TE:=St->Hp->VK->Prop
noncomputable abbrev TT:=St->Hp->(Bool->Hp->Prop)->Prop
noncomputable abbrev TA:=St->Hp->(List V->Hp->Prop)->Prop
structure Ends where
 nx:St->Hp->Prop
 rt:VK
 bk:St->Hp->Prop:=λ_ _=>False
 ct:St->Hp->Prop:=λ_ _=>False
noncomputable abbrev TS:=Ends->St->Hp->Prop
noncomputable def EP (X:Cx) (pins:List (Addr × Obj)) (σ:St) (Q:VK) (u:Value) (s':Shared):Prop:=∃v H',Inv X pins σ H' s'/\RelV v u/\Q v H'
noncomputable def TP (X:Cx) (pins:List (Addr × Obj)) (σ:St) (Q:Bool->Hp->Prop) (b:Bool) (s':Shared):Prop:=∃H',Inv X pins σ H' s'/\Q b H'
noncomputable def AP (X:Cx) (pins:List (Addr × Obj)) (σ:St) (Q:List V->Hp->Prop) (us:List Value) (s':Shared):Prop:=∃vs H',Inv X pins σ H' s'/\Vals vs us/\Q vs H'
noncomputable def SP (X:Cx) (pins:List (Addr × Obj)) (D:Ends) (f:Flow) (s':Shared):Prop:=
 match f with
 | .next=>∃σ' H',Inv X pins σ' H' s'/\D.nx σ' H'
 | .brk=>∃σ' H',Inv X pins σ' H' s'/\D.bk σ' H'
 | .cont=>∃σ' H',Inv X pins σ' H' s'/\D.ct σ' H'
 | .ret u=>∃v σ' H',Inv X pins σ' H' s'/\RelV v u/\D.rt v H'
noncomputable def PE (X:Cx) (e:Expr) (t:TE):Prop:=
 ∀(pins:List (Addr × Obj)) (s:Shared) (σ:St) (H:Hp) (Q:VK),Inv X pins σ H s->t σ H Q->wpAny (model X.prog X.w) X.A (eval e X.env) (EP X pins σ Q) X.xe s
noncomputable def PT (X:Cx) (e:Expr) (t:TT):Prop:=
 ∀(pins:List (Addr × Obj)) (s:Shared) (σ:St) (H:Hp) (Q:Bool->Hp->Prop),Inv X pins σ H s->t σ H Q->wpAny (model X.prog X.w) X.A (isTrue e X.env (eval e X.env)) (TP X pins σ Q) X.xe s
noncomputable def PW (X:Cx) (e:Expr) (t:TT):Prop:=
 ∀(whole:Sem Value) (pins:List (Addr × Obj)) (s:Shared) (σ:St) (H:Hp) (Q:Bool->Hp->Prop),Inv X pins σ H s->t σ H Q->wpAny (model X.prog X.w) X.A (isTrue e X.env whole) (TP X pins σ Q) X.xe s
theorem PW.pt {X:Cx} {e:Expr} {t:TT} (h:PW X e t):PT X e t:=h _
noncomputable def PA (X:Cx) (es:List Expr) (t:TA):Prop:=
 ∀(pos:Pos) (pins:List (Addr × Obj)) (s:Shared) (σ:St) (H:Hp) (Q:List V->Hp->Prop),Inv X pins σ H s->t σ H Q->wpAny (model X.prog X.w) X.A (spliced (backTo pos (starEach es X.env))) (AP X pins σ Q) X.xe s
noncomputable def PS (X:Cx) (st:Stmt) (t:TS):Prop:=
 ∀(pins:List (Addr × Obj)) (s:Shared) (σ:St) (H:Hp) (D:Ends),Inv X pins σ H s->t D σ H->wpAny (model X.prog X.w) X.A (exec st X.env) (SP X pins D) X.xe s
noncomputable def YD (X:Cx) (st:List Stmt) (t:TS):Prop:=
 ∀(pins:List (Addr × Obj)) (s:Shared) (σ:St) (H:Hp) (D:Ends),Inv X pins σ H s->t D σ H->wpAny (model X.prog X.w) X.A (execs st X.env) (SP X pins D) X.xe s
theorem bO {α:Type} {t:Sem α} {Q Q':α->Shared->Prop} {M:Model} {A:Around} {E:Value->Shared->Prop} {s:Shared} (h:wpAny M A t Q E s) (hQ:∀a s,Q a s->Q' a s):wpAny M A t Q' E s:=wpAny_mono h hQ λ_ _ x=>x
section
variable {X:Cx}
noncomputable def Fo (i:Nat):TE:=λσ H Q=>∃v,σ[i]?=some (some v)/\Q v H
noncomputable def tC (v:V):TE:=λ_ H Q=>Q v H
theorem UG (hN:X.N[i]?=some x) (hv:Ew X.env.scope x) (hd:(x==("__debug__":Str))=false:=by decide) (hcd:(x==("__classdict__":Str))=false:=by decide):PE X (.Name x pos) (Fo i):=by
 intro pins s σ H Q I h;obtain ⟨v,e,h⟩:=h;obtain ⟨m,hn,hl⟩:=I.loc;obtain ⟨u,r,l⟩:=hl i x v hN e hv;have fin:EP X pins σ Q u s:=⟨v,H,I,r,h⟩;rcases l with ⟨hk,hm⟩|⟨hk,c,hc,hcell⟩
 ·exact wpAny_Name (wpAny_loadName_local I.ok.kind hk hn hm fin) hd
 ·rcases hk with hk|hk
  ·exact wpAny_Name (wpAny_loadName_cell I.ok.kind hk hc hcell fin) hd
  ·exact wpAny_Name (wpAny_loadName_free I.ok.kind hk hc hcell fin hcd) hd
theorem UM {i j pos}:PE X (.Constant (.int i) j pos) (tC (.int i)):=λ_ _ _ H _ I h=>wpAny_Constant_int ⟨.int i,H,I.tok _,⟨_,rfl⟩,h⟩
theorem Az {b j pos}:PE X (.Constant (.bool b) j pos) (tC (.bl b)):=λ_ _ _ H _ I h=>Constant_bool ⟨.bl b,H,I,rfl,h⟩
theorem UK {j pos}:PE X (.Constant .none j pos) (tC .non):=λ_ _ _ H _ I h=>Constant_none ⟨.non,H,I,rfl,h⟩
theorem UI {x j pos}:PE X (.Constant (.str x) j pos) (tC (.str x)):=λ_ _ _ H _ I h=>Calls.Constant_str ⟨.str x,H,I.tok _,⟨_,rfl⟩,h⟩
noncomputable def Gl (X:Cx) (x:Str):Prop:=X.env.kindOf x=some .globalImplicit
theorem jV {E:Value->Shared->Prop} {pins:List (Addr × Obj)} {s:Shared} {σ:St} {H:Hp} {x:Str} {u:Value} {pos:Pos} {Q:Value->Shared->Prop} (I:Inv X pins σ H s) (hg:Gl X x) (hm:X.mg x=some u) (h:Q u s)
  (hd:(x==("__debug__":Str))=false:=by decide):wpAny (model X.prog X.w) X.A (eval (.Name x pos) X.env) Q E s:=
 Calls.Name_function_global I.ok.kind hg (Calls.loadGlobal_global (by rw[I.ok.glob];exact I.mod.glob.keeps I.bk) hm h) hd
theorem eK {E:Value->Shared->Prop} {pins:List (Addr × Obj)} {s:Shared} {σ:St} {H:Hp} {x:Str} {u:Value} {pos:Pos} {Q:Value->Shared->Prop} (I:Inv X pins σ H s) (hg:Gl X x) (hm:X.mg x=none) (hv:bootBuiltins x=some u) (h:Q u s)
  (hn:x≠"__name__":=by decide) (hd:(x==("__debug__":Str))=false:=by decide):wpAny (model X.prog X.w) X.A (eval (.Name x pos) X.env) Q E s:=by
 obtain ⟨mb,h1,h2⟩:=I.mod.blt;exact Calls.Name_function_global I.ok.kind hg (Calls.loadGlobal_builtin (by rw[I.ok.glob];exact I.mod.glob.keeps I.bk) hm (by rw[I.ok.blt];exact h1.keeps I.bk) ((h2 x hn).trans hv) h) hd
theorem NK (hg:Gl X x) (hm:X.mg x=some u) (r:RelV v u) (hd:(x==("__debug__":Str))=false:=by decide):PE X (.Name x pos) (tC v):=
 λ_ _ _ H _ I h=>jV I hg hm ⟨v,H,I,r,h⟩ hd
theorem NN (hg:Gl X x) (hm:X.mg x=none) (hv:bootBuiltins x=some u) (r:RelV v u) (hn:x≠"__name__":=by decide) (hd:(x==("__debug__":Str))=false:=by decide):PE X (.Name x pos) (tC v):=
 λ_ _ _ H _ I h=>eK I hg hm hv ⟨v,H,I,r,h⟩ hn hd
variable {a b:Expr} {ta tb:TE} {pos:Pos}
variable {tA tB':TT} {rest:List Expr}
noncomputable def Fq (t:TT):TT:=λσ H Q=>t σ H λc H1=>Q (!c) H1
theorem NA (ha:PT X a tA):PW X (.BoolOp .And [a] pos) tA:=by
 intro wh pins s σ H Q I h;refine isTrue_and (bO (ha pins s σ H Q I h) λc s1 e=>?_);cases c with
 |true=>exact isTrue_and_nil e
 |false=>exact e
theorem TU (ha:PT X a tA):PW X (.BoolOp .Or [a] pos) tA:=by
 intro wh pins s σ H Q I h;refine isTrue_or (bO (ha pins s σ H Q I h) λc s1 e=>?_);cases c with
 |false=>exact isTrue_or_nil e
 |true=>exact e
theorem TZ (ha:PT X a tA):PT X (.UnaryOp .Not a pos) (Fq tA):=by
 intro pins s σ H Q I h;exact isTrue_not (ha pins s σ H (λc H1=>Q (!c) H1) I h)
theorem UJ {op} (h:PE X a t):PE X (.BoolOp op [a] pos) t:=λpins s σ H Q I hw=>BoolOp_one (h pins s σ H Q I hw)
end
noncomputable def aM (K:Fg) (H:Hp) (a:Addr) (xs:List V):Prop:=
 Rd H a (.lst xs)\/
  ∃(o:Obj) (its:Array Value) (n:Nat),K.lookup a=some o/\o.cls=.type "list"/\o.dict=none/\o.data=.seq its n/\its.size<=sizeLine/\Vals xs its.toList
noncomputable def bX (K:Fg) (H:Hp) (a:Addr) (xs:List V):Prop:=
 Rd H a (.tup xs)\/
  ∃(o:Obj) (its:Array Value) (n:Nat),K.lookup a=some o/\o.cls=.type "tuple"/\o.data=.seq its n/\its.size<=sizeLine/\Vals xs its.toList
noncomputable def Hj:Value->Option V
 | .none=>some .non
 | .bool b=>some (.bl b)
 | .int i _=>some (.int i)
 | .str x _=>some (.str x)
 | .bytes b _=>some (.byt b)
 | .float b _=>some (.flt b)
 | .ref a=>some (.ref a)
 | .type n=>some (.ty n)
 |_=>none
theorem RelV.abs (r:RelV x u):Hj u=some x:=by
 cases x with
 |non=>cases r;rfl
 |bl _=>cases r;rfl
 |int _=>obtain ⟨t,rfl⟩:=r;rfl
 |str _=>obtain ⟨t,rfl⟩:=r;rfl
 |byt _=>obtain ⟨t,rfl⟩:=r;rfl
 |flt _=>obtain ⟨t,rfl⟩:=r;rfl
 |ref _=>cases r;rfl
 |ty _=>cases r;rfl
theorem RelV.inj {x y:V} {u:Value} (r:RelV x u) (q:RelV y u):x=y:=Option.some.inj (r.abs.symm.trans q.abs)
theorem Vals.inj:∀{xs ys:List V} {us:List Value},Vals xs us->Vals ys us->xs=ys
 |_,_,_,.nil,.nil=>rfl
 |_,_,_,.cons r t,.cons r' t'=>by rw[r.inj r',Vals.inj t t']
section
variable {X:Cx} {pins:List (Addr × Obj)} {σ:St} {H:Hp} {s:Shared} {a:Addr} {xs ys:List V}
theorem aM.of {K:Fg} (h:H a=some (.lst xs)):aM K H a xs:=.inl (.inl h)
theorem bX.of {K:Fg} (h:H a=some (.tup xs)):bX K H a xs:=.inl (.inl h)
theorem Inv.list (I:Inv X pins σ H s) (h:aM X.K H a xs):∃its:List Value,Vals xs its/\PlainL s.heap a its.toArray/\xs.length<=sizeLine:=by
 rcases h with h|⟨o,its,n,hk,hc,hd,hs,hz,r⟩
 ·obtain ⟨z,its,n,r,e⟩:=h.ok I.hok;exact ⟨its,r,⟨_,n,e,rfl,rfl,rfl⟩,z⟩
 ·refine ⟨its.toList,r,⟨o,n,I.kIn a o hk,hc,hd,by simpa using hs⟩,?_⟩;have e:=r.length;simp only [length_toList] at e;lia
theorem Inv.tuple (I:Inv X pins σ H s) (h:bX X.K H a xs):∃its:List Value,Vals xs its/\IsTup s.heap a its.toArray/\xs.length<=sizeLine:=by
 rcases h with h|⟨o,its,n,hk,hc,hs,hz,r⟩
 ·obtain ⟨z,its,r,p⟩:=h.ok I.hok;exact ⟨its,r,p,z⟩
 ·refine ⟨its.toList,r,⟨o,I.kIn a o hk,hc,n,by simpa using hs⟩,?_⟩;have e:=r.length;simp only [length_toList] at e;lia
theorem Inv.list_inj (I:Inv X pins σ H s) (h:aM X.K H a xs) (h':aM X.K H a ys):xs=ys:=by
 obtain ⟨its,r,⟨o,n,e,_,_,d⟩,_⟩:=I.list h;obtain ⟨its',r',⟨o',n',e',_,_,d'⟩,_⟩:=I.list h';rw[e] at e';cases e';rw[d] at d';injection d' with d1 _
 have:its=its':=by simpa using congrArg Array.toList d1
 subst this;exact r.inj r'
theorem Inv.tuple_inj (I:Inv X pins σ H s) (h:bX X.K H a xs) (h':bX X.K H a ys):xs=ys:=by
 obtain ⟨its,r,⟨o,e,_,n,d⟩,_⟩:=I.tuple h;obtain ⟨its',r',⟨o',e',_,n',d'⟩,_⟩:=I.tuple h';rw[e] at e';cases e';rw[d] at d';injection d' with d1 _
 have:its=its':=by simpa using congrArg Array.toList d1
 subst this;exact r.inj r'
end
section
variable {X:Cx} {pins:List (Addr × Obj)} {σ:St} {H:Hp} {s:Shared} {E:Value->Shared->Prop}
end
section
variable {X:Cx} {st:Stmt} {rest:List Stmt} {t u:TS} {e:Expr} {te:TE} {pos:Pos}
noncomputable def QK:TS:=λD σ H=>D.nx σ H
noncomputable def ZS (t u:TS):TS:=λD σ H=>t {D with nx:=u D} σ H
theorem NC:YD X [] QK:=λ_ _ σ H _ I h=>wpAny_execs_nil ⟨σ,H,I,h⟩
theorem GV (h1:PS X st t) (h2:YD X rest u):YD X (st::rest) (ZS t u):=by
 intro pins s σ H D I h;refine wpAny_execs_cons (bO (h1 pins s σ H {D with nx:=u D} I h) λf s1 q=>?_);cases f with
 |next=>
  obtain ⟨σ',H',I',q⟩:=q;exact h2 pins s1 σ' H' D I' q
 |ret v=>exact q
 |brk=>exact q
 |cont=>exact q
theorem Inv.quiet {pins:List (Addr × Obj)} {σ:St} {H:Hp} {s:Shared} (I:Inv X pins σ H s):interactive X.env=false:=by simp [interactive,I.ok.kind]
noncomputable def ZW (te:TE):TS:=λD σ H=>te σ H λ_ H1=>D.nx σ H1
theorem ND (he:PE X e te) (hs:swapsWith e none pos.line X.env=pure false:=by rfl):PS X (.Expr e pos) (ZW te):=by
 intro pins s σ H D I h;exact wpAny_Expr_any (bO (he pins s σ H _ I h) λv s1 ⟨x,H1,I1,r1,q1⟩=>⟨σ,H1,I1,q1⟩) I.quiet hs
noncomputable def Fp (te:TE):TS:=λD σ H=>te σ H D.rt
theorem UA (he:PE X e te):PS X (.Return (some e) pos) (Fp te):=by
 intro pins s σ H D I h;exact wpAny_Return_some (bO (he pins s σ H _ I h) λv s1 ⟨x,H1,I1,r1,q1⟩=>⟨x,σ,H1,I1,r1,q1⟩)
end
noncomputable abbrev TG:=V->St->Hp->(St->Hp->Prop)->Prop
noncomputable abbrev QC:=List V->St->Hp->(St->Hp->Prop)->Prop
noncomputable def PG (X:Cx) (target:Expr) (t:TG):Prop:=
 ∀(pins:List (Addr × Obj)) (s:Shared) (σ:St) (H:Hp) (v:V) (u:Value) (Q:St->Hp->Prop),Inv X pins σ H s->RelV v u->t v σ H Q->
  wpAny (model X.prog X.w) X.A (assign target X.env u) (λ_ s'=>∃σ' H',Inv X pins σ' H' s'/\Q σ' H') X.xe s
noncomputable def YV (X:Cx) (ts:List Expr) (t:QC):Prop:=
 ∀(pins:List (Addr × Obj)) (s:Shared) (σ:St) (H:Hp) (vs:List V) (us:List Value) (Q:St->Hp->Prop),Inv X pins σ H s->Vals vs us->t vs σ H Q->
  wpAny (model X.prog X.w) X.A (assignInOrder ((assignEach ts X.env).map (·.2)) us) (λ_ s'=>∃σ' H',Inv X pins σ' H' s'/\Q σ' H') X.xe s
noncomputable abbrev YB:=V->V->V->Hp->(Hp->Prop)->Prop
noncomputable def YE (X:Cx) (t:YB):Prop:=
 ∀(pins:List (Addr × Obj)) (s:Shared) (σ:St) (H:Hp) (o i v:V) (ov iv u:Value) (Q:Hp->Prop),Inv X pins σ H s->RelV o ov->RelV i iv->RelV v u->t o i v H Q->
  wpAny (model X.prog X.w) X.A (setItem ov iv u) (λ_ s'=>∃H',Inv X pins σ H' s'/\Q H') X.xe s
section
variable {X:Cx} {pos:Pos}
noncomputable def BC (i:Nat):TG:=λv σ H Q=>Q (σ.set i (some v)) H
theorem AJ (hN:X.N.Nodup) (hi:X.N[i]?=some x) (hx:Loc X.env.scope x) (hf:X.fn x=true\/X.env.scope.names.lookup x=some .local:=by first|exact .inl rfl|exact .inr rfl|assumption):PG X (.Name x pos) (BC i):=by
 intro pins s σ H v u Q I r h;exact wpAny_assign_Name (uJ I hN hi hx r (λs' I'=>⟨_,H,I',h⟩) hf)
noncomputable def Dp:QC:=λvs σ H Q=>vs=[]/\Q σ H
noncomputable def RO (t:TG) (u:QC):QC:=λvs σ H Q=>∃v r,vs=v::r/\t v σ H λσ' H'=>u r σ' H' Q
theorem NJ:YV X [] Dp:=by
 intro pins s σ H vs us Q I r h;obtain ⟨e,h⟩:=h;subst e;cases r;exact assignInOrder_nil ⟨σ,H,I,h⟩
theorem HA {e:Expr} {es:List Expr} {t:TG} {u:QC} (h1:PG X e t) (h2:YV X es u)
  (hs:(assignEach (e::es) X.env).map (·.2)=assign e X.env::(assignEach es X.env).map (·.2):=by rfl):YV X (e::es) (RO t u):=by
 intro pins s σ H vs us Q I r h;obtain ⟨v,vr,e1,h⟩:=h;subst e1;cases r with
 |cons r rr=>
  rw[hs];refine assignInOrder_cons (bO (h1 pins s σ H _ _ _ I r h) λ_ s1 ⟨σ1,H1,I1,q1⟩=>?_);exact h2 pins s1 σ1 H1 _ _ Q I1 rr q1
noncomputable def Dn (K:Fg) (n:Nat) (t:QC):TG:=λv σ H Q=>∃a xs,v=.ref a/\bX K H a xs/\xs.length=n/\t xs σ H Q
theorem UC (hc:X.calm=true) (h:YV X es t)
  (hn:(assignEach es X.env).length=n:=by rfl) (hst:(assignEach es X.env).findIdx? (·.1)=none:=by rfl):PG X (.Tuple es k pos) (Dn X.K n t):=by
 intro pins s σ H v u Q I r hw;obtain ⟨a,xs,e1,hq,hl,hw⟩:=hw;subst e1;cases r;obtain ⟨its,rv,ht,hz⟩:=I.tuple hq;refine assign_Tuple_tuple (I.ok.hd hc) ht (by simp [hn,<-hl,rv.length]) hst λh' hx=>?_;have I1:Inv X pins σ H {s with heap:=h'}:=I.kept (t':=s.toks) λb o e=>hx b o (ne_of_lt (lt_size e)) e;exact h pins _ σ H xs _ Q I1 (by simpa using rv) hw
noncomputable def He (to ti:TE) (t:YB):TG:=λv σ H Q=>to σ H λo H1=>ti σ H1 λi H2=>t o i v H2 λH3=>Q σ H3
theorem UD {o i:Expr} {to ti:TE} {t:YB} (ho:PE X o to) (hi:PE X i ti) (hs:YE X t)
  (ha:∀v,assign (.Subscript o i pos) X.env v=(do
   let ov <-holding [v] (eval o X.env)
   let iv <-holding [v,ov] (eval i X.env)
   standAt pos
   holding [v,ov,iv] (setItem ov iv v)
   release [v,ov,iv] []):=by intro _;rfl):PG X (.Subscript o i pos) (He to ti t):=by
 intro pins s σ H v u Q I r h;rw[ha];refine wpAny_bind (wpAny_holding (bO (ho pins s σ H _ I h) λov s1 ⟨x,H1,I1,r1,q1⟩=>?_));refine wpAny_bind (wpAny_holding (bO (hi pins s1 σ H1 _ I1 q1) λiv s2 ⟨y,H2,I2,r2,q2⟩=>?_));refine wpAny_bind (wpAny_standAt (wpAny_bind (wpAny_holding (bO (hs pins s2 σ H2 x y v ov iv u _ I2 r1 r2 r q2) λ_ s3 ⟨H3,I3,q3⟩=>?_))));exact wpAny_release ⟨σ,H3,I3,q3⟩
noncomputable def SV (te:TE) (g:TG):TS:=λD σ H=>te σ H λx H1=>g x σ H1 D.nx
theorem GX {tg e:Expr} {te:TE} {g:TG} (he:PE X e te) (hg:PG X tg g) (hs:swapsWithSole [tg] e pos.line X.env=pure false:=by rfl) (hw:swappedStores [tg] e X.env=pure none:=by rfl)
  (h1:(assignEach [tg] X.env).map (·.2)=[assign tg X.env]:=by rfl):PS X (.Assign [tg] e pos) (SV te g):=by
 intro pins s σ H D I h;refine wpAny_Assign_stores (bO (he pins s σ H _ I h) λv s1 ⟨x,H1,I1,r1,q1⟩=>?_) hs hw;rw[h1];exact bO (hg pins s1 σ H1 x v _ I1 r1 q1) λ_ s2 q=>q
theorem GW {i:Nat} {x:Str} {e:Expr} {te:TE} {pos':Pos} (hN:X.N.Nodup) (hi:X.N[i]?=some x) (hx:Loc X.env.scope x) (he:PE X e te) (hs:swapsWith e (some (.Name x pos')) pos.line X.env=pure false:=by rfl) (hf:X.fn x=true\/X.env.scope.names.lookup x=some .local:=by first|exact .inl rfl|exact .inr rfl|assumption):
  PS X (.Assign [.Name x pos'] e pos) (SV te (BC i)):=by
 intro pins s σ H D I h;refine wpAny_Assign_Name (bO (he pins s σ H _ I h) λv s1 ⟨y,H1,I1,r1,q1⟩=>?_) hs;exact uJ I1 hN hi hx r1 (λs2 I2=>⟨_,H1,I2,q1⟩) hf
end
structure It where
 go:Nat->Hp->Prop
 yld:Nat->Hp->V->Hp->Prop
 stop:Nat->Hp->Prop
noncomputable def lF (X:Cx) (pins:List (Addr × Obj)) (H:Hp) (b:Addr):Prop:=
 H b=none/\b≠X.env.locals/\b∉X.fs/\(b∈X.ex\/X.s₀.heap.objs.size<=b)/\(∀x c,X.env.cells.lookup x=some c->c≠b)/\∀p∈X.pn++pins,p.1≠b
theorem Inv.fpOk {X:Cx} {pins:List (Addr × Obj)} {σ:St} {H H':Hp} {s:Shared} {b:Addr} (I:Inv X pins σ H s) (hb:s.heap.objs.size<=b) (hn:H' b=none):lF X pins H' b:=by
 refine ⟨hn,ne_of_gt (Nat.lt_of_lt_of_le I.lt hb),I.nofs hb,.inr (Nat.le_trans I.sz hb),λx c e z=>?_,λp hp z=>?_⟩
 ·obtain ⟨v,q⟩:=I.cell x c e;exact absurd (Nat.lt_of_lt_of_le q.lt (by rw[z];exact hb)) (Nat.lt_irrefl _)
 ·exact absurd (Nat.lt_of_lt_of_le (lt_size (I.pin p hp).1) (by rw[z];exact hb)) (Nat.lt_irrefl _)
structure Turn (P:Program) (w:World) (K:Fg) (tg:Expr) (J:It) (fp:List Addr) (it:Addr) (tn:Nat->Heap->Prop):Prop where
 mem:it∈fp
 obj:∀i h,tn i h->∀b∈fp,∃o,h.get? b=some o/\∀v,o.data≠.cell v
 keep:∀i h h',tn i h->(∀b∈fp,∀o,h.get? b=some o->h'.get? b=some o)->tn i h'
 item:∀(X:Cx),X.prog=P->X.w=w->X.K=K->X.calm=true->∀(i:Nat) (pins:List (Addr × Obj)) (s:Shared) (σ:St) (H:Hp) (E:Value->Shared->Prop),Inv X pins σ H s->(∀b∈fp,lF X pins H b)->tn i s.heap->J.go i H->
  wpAny (model P w) X.A (pyNext (.ref it)) (λr s1=>∃u,r=some u/\
   wpAny (model P w) X.A (letOwnedTupleGo tg (.ref it) u) (λ_ s2=>∃x H',Inv X pins σ H' s2/\RelV x u/\J.yld i H x H'/\tn (i+1) s2.heap/\∀b∈fp,H' b=none) E s1) E s
 done:∀(X:Cx),X.prog=P->X.w=w->X.K=K->X.calm=true->∀(i:Nat) (pins:List (Addr × Obj)) (s:Shared) (σ:St) (H:Hp) (E:Value->Shared->Prop),Inv X pins σ H s->(∀b∈fp,lF X pins H b)->tn i s.heap->J.stop i H->
  wpAny (model P w) X.A (pyNext (.ref it)) (λr s1=>r=none/\Inv X pins σ H s1) E s
 self:∀(A:Around) (i:Nat) (s:Shared) (Q:Value->Shared->Prop) (E:Value->Shared->Prop),tn i s.heap->Q (.ref it) s->wpAny (model P w) A (pyIter (.ref it)) Q E s
noncomputable abbrev TI:=St->Hp->(It->Hp->Prop)->Prop
noncomputable def Ei (X:Cx) (pins:List (Addr × Obj)) (σ:St) (tg:Expr) (R:It->Hp->Prop) (itv:Value) (s2:Shared):Prop:=
 ∃(it:Addr) (fp:List Addr) (tn:Nat->Heap->Prop) (J:It) (H':Hp),itv=.ref it/\Inv X pins σ H' s2/\Turn X.prog X.w X.K tg J fp it tn/\tn 0 s2.heap/\(∀b∈fp,lF X pins H' b)/\R J H'
noncomputable def PI (X:Cx) (tg iter:Expr) (wi:TI):Prop:=
 ∀(pins:List (Addr × Obj)) (s:Shared) (σ:St) (H:Hp) (R:It->Hp->Prop),Inv X pins σ H s->wi σ H R->
  wpAny (model X.prog X.w) X.A (eval iter X.env) (λv s1=>wpAny (model X.prog X.w) X.A (pyIter v) (Ei X pins σ tg R) X.xe s1) X.xe s
theorem oA (ho:s.heap.get? it=some o) (hc:o.cls=.type n) (hd:o.data=.fields vs)
  (hn:["enumerate","zip","dict_itemiterator","dict_reverseitemiterator","odict_iterator","itertools.zip_longest","itertools.pairwise"].contains n=false) (hQ:Q () s):wpAny M A (letOwnedTupleGo tg (.ref it) u) Q E s:=by
 unfold letOwnedTupleGo;cases tg<;>first
  |exact wpAny_pure hQ
  | (cases u<;>first
    |exact wpAny_pure hQ
    | (refine wpAny_bind (wpAny_load ho ?_)
       rw[hc,hd]
       show wpAny M A (if (["enumerate","zip","dict_itemiterator","dict_reverseitemiterator","odict_iterator","itertools.zip_longest","itertools.pairwise"].contains n&&vs[0]?==some (rawInt _))=true then _ else _) Q E s
       rw[if_neg (by intro h;rw[hn,Bool.false_and] at h;cases h)]
       exact wpAny_pure hQ))
noncomputable def SA (K:Fg) (a:Addr):It:=
 ⟨λi H=>∃xs x,aM K H a xs/\xs[i]?=some x,λi H x H'=>H'=H/\∀xs,aM K H a xs->xs[i]?=some x,λi H=>∃xs,aM K H a xs/\xs.length<=i⟩
noncomputable def YZ (K:Fg) (a:Addr):It:=
 ⟨λi H=>∃xs x,bX K H a xs/\xs[i]?=some x,λi H x H'=>H'=H/\∀xs,bX K H a xs->xs[i]?=some x,λi H=>∃xs,bX K H a xs/\xs.length<=i⟩
noncomputable def EM (lo:Int) (n:Nat):It:=⟨λi _=>i<n,λi H x H'=>H'=H/\x=.int (lo+i),λi _=>n<=i⟩
theorem CA {P:Program} {w:World} {K:Fg} {tg:Expr} (a it:Addr):Turn P w K tg (SA K a) [it] it (λi h=>h.IsListIter it a i) where
 mem:=by simp
 obj:=λi h st b hb=>by
  have e:b=it:=by simpa using hb
  subst e;obtain ⟨o,e,c,d⟩:=st;exact ⟨o,e,λv z=>by rw[d] at z;cases z⟩
 keep:=λi h h' st k=>st.at λo e=>k it (by simp) o e
 item:=by
  intro X hP hw hK hc i pins s σ H E I hf st hg;subst hP hw hK;obtain ⟨xs,x,hq,hx⟩:=hg;obtain ⟨its,rv,p,hz⟩:=I.list hq;obtain ⟨u,hu,ru⟩:=rv.get hx;obtain ⟨f0,f1,f2,f3,f4,f5⟩:=hf it (by simp);refine wpAny_pyNext_list_item st p.isList (x:=u) (by simpa using hu) λh' st' sb=>?_;have I1:Inv X pins σ H {s with heap:=h'}:=I.turned (t':=s.toks) (λb o hb e=>(sb.2 b hb).trans e) f0 f1 f3 f4 f5;obtain ⟨o,e,c,d⟩:=id st';exact ⟨u,rfl,oA (s:={s with heap:=h'}) e c d (by decide) ⟨x,H,I1,ru,⟨rfl,λys hy=>by rw[I.list_inj hy hq];exact hx⟩,st',λb hb=>(hf b hb).1⟩⟩
 done:=by
  intro X hP hw hK hc i pins s σ H E I hf st hg;subst hP hw hK;obtain ⟨xs,hq,hx⟩:=hg;obtain ⟨its,rv,p,hz⟩:=I.list hq;obtain ⟨f0,f1,f2,f3,f4,f5⟩:=hf it (by simp);have hl:=rv.length;exact wpAny_pyNext_list_end (I.ok.hd hc) st p.isList (by simp;lia) λh' eb=>⟨rfl,I.turned (t':=s.toks) (λb o hb e=>eb b o hb e) f0 f1 f3 f4 f5⟩
 self:=λ_ _ _ _ _ st h=>wpAny_pyIter_listiter st h
theorem xK {P:Program} {w:World} {K:Fg} {tg:Expr} (a it:Addr):Turn P w K tg (YZ K a) [it] it (λi h=>h.IsTupleIter it a i) where
 mem:=by simp
 obj:=λi h st b hb=>by
  have e:b=it:=by simpa using hb
  subst e;obtain ⟨o,e,c,d⟩:=st;exact ⟨o,e,λv z=>by rw[d] at z;cases z⟩
 keep:=λi h h' st k=>st.at λo e=>k it (by simp) o e
 item:=by
  intro X hP hw hK hc i pins s σ H E I hf st hg;subst hP hw hK;obtain ⟨xs,x,hq,hx⟩:=hg;obtain ⟨its,rv,p,hz⟩:=I.tuple hq;obtain ⟨u,hu,ru⟩:=rv.get hx;obtain ⟨f0,f1,f2,f3,f4,f5⟩:=hf it (by simp);refine wpAny_pyNext_tuple_item st (show s.heap.IsTuple a its.toArray from p) (x:=u) (by simpa using hu) λh' st' sb=>?_;have I1:Inv X pins σ H {s with heap:=h'}:=I.turned (t':=s.toks) (λb o hb e=>(sb.2 b hb).trans e) f0 f1 f3 f4 f5;obtain ⟨o,e,c,d⟩:=id st';exact ⟨u,rfl,oA (s:={s with heap:=h'}) e c d (by decide) ⟨x,H,I1,ru,⟨rfl,λys hy=>by rw[I.tuple_inj hy hq];exact hx⟩,st',λb hb=>(hf b hb).1⟩⟩
 done:=by
  intro X hP hw hK hc i pins s σ H E I hf st hg;subst hP hw hK;obtain ⟨xs,hq,hx⟩:=hg;obtain ⟨its,rv,p,hz⟩:=I.tuple hq;obtain ⟨f0,f1,f2,f3,f4,f5⟩:=hf it (by simp);have hl:=rv.length;exact wpAny_pyNext_tuple_end (I.ok.hd hc) st (show s.heap.IsTuple a its.toArray from p) (by simp;lia) λh' eb=>⟨rfl,I.turned (t':=s.toks) (λb o hb e=>eb b o hb e) f0 f1 f3 f4 f5⟩
 self:=λ_ _ _ _ _ st h=>wpAny_pyIter_tupleiter st h
theorem xM {P:Program} {w:World} {K:Fg} {tg:Expr} (it:Addr) (lo:Int) (n:Nat):Turn P w K tg (EM lo n) [it] it (λi h=>IsRangeIter h it (lo+(i:Nat) * 1) ((n:Int) - (i:Nat)) 1) where
 mem:=by simp
 obj:=λi h st b hb=>by
  have e:b=it:=by simpa using hb
  subst e;exact ⟨_,st,λv z=>by
   have z':Data.fields _=Data.cell v:=z
   cases z'⟩
 keep:=λi h h' st k=>k it (by simp) _ st
 item:=by
  intro X hP hw hK hc i pins s σ H E I hf st hg;subst hP hw hK;obtain ⟨f0,f1,f2,f3,f4,f5⟩:=hf it (by simp);have W:=Walks.range (prog:=X.prog) (w:=X.w) (I.ok.hd hc) it lo 1 n;refine W.item i s _ _ hg st λv h' tk hv st' kk=>?_;obtain ⟨t,rfl⟩:=hv;have I1:Inv X pins σ H {s with heap:=h',toks:=tk}:=I.turned (λb o hb e=>kk b o (by simpa using hb) e) f0 f1 f3 f4 f5;refine ⟨_,rfl,oA (s:={s with heap:=h',toks:=tk}) (n:="range_iterator") st' rfl rfl (by decide) ⟨.int (lo+i),H,I1,⟨t,?_⟩,⟨rfl,rfl⟩,st',λb hb=>(hf b hb).1⟩⟩;rw[Int.mul_one]
 done:=by
  intro X hP hw hK hc i pins s σ H E I hf st hg;subst hP hw hK;obtain ⟨f0,f1,f2,f3,f4,f5⟩:=hf it (by simp);exact wpAny_pyNext_range_end (I.ok.hd hc) st (by have:n<=i:=hg;lia) λh' eb=>⟨rfl,I.turned (t':=s.toks) (λb o hb e=>eb b o hb e) f0 f1 f3 f4 f5⟩
 self:=λ_ _ _ _ _ st h=>wpAny_pyIter_rangeiter st h
section
variable {X:Cx} {tg:Expr}
theorem uX {pins:List (Addr × Obj)} {σ:St} {H:Hp} {s:Shared} {R:It->Hp->Prop} {E:Value->Shared->Prop} {lo hi:Int} {t u v:Tok} {tk:Nat} (I:Inv X pins σ H s) (h1:-(2 ^ 62)<=lo) (h2:lo<2 ^ 62) (h3:-(2 ^ 62)<=hi) (h4:hi<2 ^ 62)
  (q:R (EM lo (hi - lo).toNat) H):wpAny (model X.prog X.w) X.A (pyIter (.ref s.heap.objs.size)) (Ei X pins σ tg R) E {s with heap:=s.heap.push {cls:=.type "range",data:=.fields #[.int lo t,.int hi u,.int 1 v]},toks:=tk}:=by
 refine wpAny_pyIter_range (IsRange.new ..) (small_one h1 h2 h3 h4) ?_;have I1:Inv X pins σ H {s with heap:=s.heap.push {cls:=.type "range",data:=.fields #[.int lo t,.int hi u,.int 1 v]},toks:=tk}:=I.kept λb o e=>get?_push_of_some _ e;refine ⟨(s.heap.push {cls:=.type "range",data:=.fields #[.int lo t,.int hi u,.int 1 v]}).objs.size,[(s.heap.push {cls:=.type "range",data:=.fields #[.int lo t,.int hi u,.int 1 v]}).objs.size],_,_,H,rfl,
  I1.kept (t':=tk) λb o e=>get?_push_of_some _ e,xM _ lo (hi - lo).toNat,?_,λb hb=>?_,q⟩
 ·have e1:lo+((0:Nat):Int) * 1=lo:=by simp
  have e2:(((hi - lo).toNat:Nat):Int) - ((0:Nat):Int)=Builtin.Range.rangeSize lo hi 1:=by rw[rangeSize_one];split<;>lia
  show IsRangeIter _ _ (lo+((0:Nat):Int) * 1) ((((hi - lo).toNat:Nat):Int) - ((0:Nat):Int)) 1;rw[e1,e2];exact get?_push_size _ rfl
 ·have e:b=(s.heap.push {cls:=.type "range",data:=.fields #[.int lo t,.int hi u,.int 1 v]}).objs.size:=by simpa using hb
  subst e;exact I1.fpOk (Nat.le_refl _) (I1.hok.fresh (Nat.le_refl _))
noncomputable def ZV (wi:TI) (g:TG) (tb:TS):TS:=λD σ H=>wi σ H λJ H1=>∃W:Nat->Nat->St->Hp->Prop,(∃m,W 0 m σ H1)/\∀i m σ H,W i m σ H->
 (J.stop i H/\D.nx σ H)\/(J.go i H/\∃N:St->Hp->Prop,(∀σ' H',N σ' H'->∃m',m'<m/\W (i+1) m' σ' H')/\∀x H',J.yld i H x H'->g x σ H' λσ2 H2=>tb {D with nx:=N,ct:=N,bk:=D.nx} σ2 H2)
noncomputable def nJ (fp:List Addr) (h:Heap):List (Addr × Obj):=fp.filterMap λb=>(h.get? b).map λo=>(b,o)
theorem fL {fp:List Addr} {h:Heap} {b:Addr} {o:Obj} (hb:b∈fp) (e:h.get? b=some o):(b,o)∈nJ fp h:=mem_filterMap.mpr ⟨b,hb,by rw[e];rfl⟩
theorem CZ (hp:p∈nJ fp h):p.1∈fp/\h.get? p.1=some p.2:=by
 obtain ⟨b,hb,e⟩:=mem_filterMap.mp hp;cases q:h.get? b with
 |none=>rw[q] at e;cases e
 |some o=>
  rw[q] at e;have e':(b,o)=p:=Option.some.inj e;subst e';exact ⟨hb,q⟩
theorem Inv.pinned {pins:List (Addr × Obj)} {σ:St} {H:Hp} {s:Shared} {fp:List Addr} (I:Inv X pins σ H s) (hf:∀b∈fp,lF X pins H b) (ho:∀b∈fp,∃o,s.heap.get? b=some o/\∀v,o.data≠.cell v):Inv X (pins++nJ fp s.heap) σ H s:=
 I.pins_of λp hp=>(mem_append.mp hp).elim (λz=>I.pin p (mem_append_right _ z)) λz=>by
  obtain ⟨hb,e⟩:=CZ z;obtain ⟨f0,f1,f2,_⟩:=hf p.1 hb;obtain ⟨o,e',d⟩:=ho p.1 hb;rw[e] at e';cases e';exact ⟨e,f0,f1,f2,d⟩
theorem Inv.unpinned {pins pl:List (Addr × Obj)} {σ:St} {H:Hp} {s:Shared} (I:Inv X (pins++pl) σ H s):Inv X pins σ H s:=I.pins_of λp hp=>I.pin p (mem_append_right _ (mem_append_left _ hp))
theorem UB {iter:Expr} {body:List Stmt} {wi:TI} {g:TG} {tb:TS} {pos:Pos} (hp:PassesOwn (model X.prog X.w) X.A X.env X.xe) (hc:X.calm=true) (hi:PI X tg iter wi) (hg:PG X tg g) (hb:YD X body tb)
  (hs:∀x,foldedSetIterable iter X.env x=pure x:=by intro _;rfl):PS X (.For tg iter body [] pos) (ZV wi g tb):=by
 intro pins s σ H D I h;refine wpAny_For (bO (hi pins s σ H _ I h) λv s1 h1=>bO h1 λitv s2 h2=>?_) hs;obtain ⟨it,fp,tn,J,H2,e,I2,T,st2,f2,W,⟨m0,w0⟩,turn⟩:=h2;subst e;have stat:∀{H':Hp},(∀b∈fp,H' b=none)->∀b∈fp,lF X pins H' b:=λhn b hb=>⟨hn b hb,(f2 b hb).2⟩;refine codeAny_forLoop_any (λn s'=>∃i σ' H',Inv X pins σ' H' s'/\tn i s'.heap/\(∀b∈fp,H' b=none)/\W i n σ' H') ?_ m0 ⟨0,σ,H2,I2,st2,λb hb=>(f2 b hb).1,w0⟩;rintro n s3 ⟨i,σ3,H3,I3,st3,fr3,w3⟩;rcases turn i n σ3 H3 w3 with ⟨stop,qn⟩|⟨go,N,hN,step⟩
 ·refine wpAny_passesOwn hp (bO (T.done X rfl rfl rfl hc i pins s3 σ3 H3 X.xe I3 (stat fr3) st3 stop) λr s4 ⟨hr,I4⟩=>?_);subst hr;exact wpAny_execs_nil ⟨σ3,H3,I4,qn⟩
 ·refine wpAny_passesOwn hp (bO (T.item X rfl rfl rfl hc i pins s3 σ3 H3 X.xe I3 (stat fr3) st3 go) λr s4 ⟨u,hr,h4⟩=>?_);subst hr;refine wpAny_passesOwn hp (bO h4 λ_ s5 ⟨x,H5,I5,r5,y5,st5,fr5⟩=>?_);have I5':=I5.pinned (stat fr5) (T.obj _ _ st5);refine wpAny_passesOwn hp (bO (hg _ s5 σ3 H5 x u _ I5' r5 (step x H5 y5)) λ_ s6 ⟨σ6,H6,I6,q6⟩=>?_);refine wpAny_passesOwn hp (bO (hb _ s6 σ6 H6 _ I6 q6) λf s7 q7=>?_);have again:∀{σ7:St} {H7:Hp},Inv X (pins++nJ fp s5.heap) σ7 H7 s7->N σ7 H7->∃m,m<n/\∃i σ' H',Inv X pins σ' H' s7/\tn i s7.heap/\(∀b∈fp,H' b=none)/\W i m σ' H':=λ{σ7 H7} I7 n7=>by
   obtain ⟨m',hm,w7⟩:=hN σ7 H7 n7;refine ⟨m',hm,i+1,σ7,H7,I7.unpinned,T.keep _ _ _ st5 λb hb o e=>(I7.pin (b,o) (mem_append_right _ (mem_append_right _ (fL hb e)))).1,λb hb=>?_,w7⟩;obtain ⟨o,e,d⟩:=T.obj _ _ st5 b hb;exact (I7.pin (b,o) (mem_append_right _ (mem_append_right _ (fL hb e)))).2.1
  cases f with
  |next=>obtain ⟨σ7,H7,I7,n7⟩:=q7;exact again I7 n7
  |cont=>obtain ⟨σ7,H7,I7,n7⟩:=q7;exact again I7 n7
  |brk=>obtain ⟨σ7,H7,I7,q7⟩:=q7;exact ⟨σ7,H7,I7.unpinned,q7⟩
  |ret v=>obtain ⟨x7,σ7,H7,I7,r7,q7⟩:=q7;exact ⟨x7,σ7,H7,I7.unpinned,r7,q7⟩
end
theorem DP {lo:Int} {n:Nat} {g:TG} {tb:TS} {D:Ends} {σ:St} {H:Hp} (Pv:Nat->St->Hp->Prop) (h0:Pv 0 σ H)
  (hs:∀i σ H,i<n->Pv i σ H->g (.int (lo+i)) σ H λσ2 H2=>tb {D with nx:=Pv (i+1),ct:=Pv (i+1),bk:=D.nx} σ2 H2) (hd:∀σ H,Pv n σ H->D.nx σ H):
  ∃W:Nat->Nat->St->Hp->Prop,(∃m,W 0 m σ H)/\∀i m σ H,W i m σ H->
   ((EM lo n).stop i H/\D.nx σ H)\/((EM lo n).go i H/\∃N:St->Hp->Prop,(∀σ' H',N σ' H'->∃m',m'<m/\W (i+1) m' σ' H')/\∀x H',(EM lo n).yld i H x H'->g x σ H' λσ2 H2=>tb {D with nx:=N,ct:=N,bk:=D.nx} σ2 H2):=by
 refine ⟨λi m σ H=>m=n - i/\i<=n/\Pv i σ H,⟨n,by simp,zero_le _,h0⟩,?_⟩;rintro i m σ H ⟨rfl,hi,p⟩;by_cases hlt:i<n
 ·refine .inr ⟨hlt,Pv (i+1),λσ' H' p'=>⟨n - (i+1),by lia,rfl,hlt,p'⟩,λx H' y=>?_⟩;obtain ⟨e,y⟩:=y;subst e y;exact hs i σ _ hlt p
 ·have e:i=n:=by lia
  subst e;exact .inl ⟨Nat.le_refl _,hd σ H p⟩
noncomputable abbrev R2:=V->V->Hp->VK->Prop
noncomputable def fA (X:Cx) (f:Value->Value->Sem Value) (r:R2):Prop:=
 ∀(pins:List (Addr × Obj)) (s:Shared) (σ:St) (H:Hp) (x y:V) (v u:Value) (Q:VK),Inv X pins σ H s->RelV x v->RelV y u->r x y H Q->
  wpAny (model X.prog X.w) X.A (f v u) (EP X pins σ Q) X.xe s
noncomputable def Hm (X:Cx) (f:Value->Sem Value) (r:V->Hp->VK->Prop):Prop:=
 ∀(pins:List (Addr × Obj)) (s:Shared) (σ:St) (H:Hp) (x:V) (v:Value) (Q:VK),Inv X pins σ H s->RelV x v->r x H Q->
  wpAny (model X.prog X.w) X.A (f v) (EP X pins σ Q) X.xe s
noncomputable def bZ (X:Cx) (f:Value) (r:List V->Hp->VK->Prop):Prop:=
 ∀(pins:List (Addr × Obj)) (s:Shared) (σ:St) (H:Hp) (xs:List V) (us:List Value) (Q:VK),Inv X pins σ H s->Vals xs us->r xs H Q->
  wpAny (model X.prog X.w) X.A (call f us) (EP X pins σ Q) X.xe s
noncomputable def Ef (X:Cx) (r:V->Hp->(Bool->Hp->Prop)->Prop):Prop:=
 ∀(pins:List (Addr × Obj)) (s:Shared) (σ:St) (H:Hp) (x:V) (v:Value) (Q:Bool->Hp->Prop),Inv X pins σ H s->RelV x v->r x H Q->
  wpAny (model X.prog X.w) X.A (truthy v) (TP X pins σ Q) X.xe s
noncomputable def SS (r:R2) (ta tb:TE):TE:=λσ H Q=>ta σ H λx H1=>tb σ H1 λy H2=>r x y H2 Q
noncomputable def Ht (r:V->Hp->VK->Prop) (ta:TE):TE:=λσ H Q=>ta σ H λx H1=>r x H1 Q
noncomputable def rI (C:Int->Int->Prop) (g:Int->Int->V):R2:=λx y H Q=>∃i j,x=.int i/\y=.int j/\C i j/\Q (g i j) H
noncomputable def QW (g:Int->Int->V):R2:=λx y H Q=>∃i j,x=.int i/\y=.int j/\Q (g i j) H
noncomputable def rU (g:Int->V):V->Hp->VK->Prop:=λx H Q=>∃i,x=.int i/\Q (g i) H
section
variable {X:Cx} {a b c:Expr} {ta tb tc:TE} {pos:Pos}
theorem XW (ha:PE X a ta) (hb:PE X b tb) {pins:List (Addr × Obj)} {s:Shared} {σ:St} {H:Hp} {R:V->V->Hp->Prop} (I:Inv X pins σ H s)
  (h:ta σ H λx H1=>tb σ H1 λy H2=>R x y H2) {Q:Value->Shared->Prop} {f:Value->Value->Sem Value}
  (hf:∀v u s2 x y H2,Inv X pins σ H2 s2->RelV x v->RelV y u->R x y H2->wpAny (model X.prog X.w) X.A (f v u) Q X.xe s2):
  wpAny (model X.prog X.w) X.A (eval a X.env) (λv aa=>wpAny (model X.prog X.w) X.A (eval b X.env) (λu ah=>wpAny (model X.prog X.w) X.A (f v u) Q X.xe ah) X.xe aa) X.xe s:=by
 refine bO (ha pins s σ H _ I h) λv s1 ⟨x,H1,I1,r1,q1⟩=>?_;refine bO (hb pins s1 σ H1 _ I1 q1) λu s2 ⟨y,H2,I2,r2,q2⟩=>?_;exact hf v u s2 x y H2 I2 r1 r2 q2
theorem Ax (ho:fA X (binaryOp op) r) (ha:PE X a ta) (hb:PE X b tb):PE X (.BinOp a op b pos) (SS r ta tb):=by
 intro pins s σ H Q I h;exact wpAny_BinOp (XW ha hb I h λv u s2 x y H2 I2 rx ry q=>ho pins s2 σ H2 x y v u Q I2 rx ry q)
theorem Aw {op:UnaryOp} {r:V->Hp->VK->Prop} (ho:Hm X (unaryOp op) r) (ha:PE X a ta):PE X (.UnaryOp op a pos) (Ht r ta):=by
 intro pins s σ H Q I h;exact UnaryOp_ (bO (ha pins s σ H _ I h) λv s1 ⟨x,H1,I1,r1,q1⟩=>ho pins s1 σ H1 x v Q I1 r1 q1)
theorem Es {f:Value->Value->Sem Value} {C:Int->Int->Prop} {g:Int->Int->Int}
  (rule:∀(i j:Int) (t u:Tok) (s:Shared) (Q:Value->Shared->Prop) (E:Value->Shared->Prop),C i j->Q (.int (g i j) s.toks) {s with toks:=s.toks+1}->wpAny (model X.prog X.w) X.A (f (.int i t) (.int j u)) Q E s):
  fA X f (rI C λi j=>.int (g i j)):=by
 intro pins s σ H x y v u Q I rx ry h;obtain ⟨i,j,rfl,rfl,hc,q⟩:=h;obtain ⟨t,rfl⟩:=rx;obtain ⟨t',rfl⟩:=ry;exact rule i j t t' s _ _ hc ⟨.int (g i j),H,I.tok _,⟨_,rfl⟩,q⟩
theorem Bj {f:Value->Value->Sem Value} {g:Int->Int->Int}
  (rule:∀(i j:Int) (t u:Tok) (s:Shared) (Q:Value->Shared->Prop) (E:Value->Shared->Prop),Q (.int (g i j) s.toks) {s with toks:=s.toks+1}->wpAny (model X.prog X.w) X.A (f (.int i t) (.int j u)) Q E s):
  fA X f (QW λi j=>.int (g i j)):=by
 intro pins s σ H x y v u Q I rx ry h;obtain ⟨i,j,rfl,rfl,q⟩:=h;obtain ⟨t,rfl⟩:=rx;obtain ⟨t',rfl⟩:=ry;exact rule i j t t' s _ _ ⟨.int (g i j),H,I.tok _,⟨_,rfl⟩,q⟩
theorem NU {f:Value->Value->Sem Value} {g:Int->Int->Bool}
  (rule:∀(i j:Int) (t u:Tok) (s:Shared) (Q:Value->Shared->Prop) (E:Value->Shared->Prop),Q (.bool (g i j)) s->wpAny (model X.prog X.w) X.A (f (.int i t) (.int j u)) Q E s):
  fA X f (QW λi j=>.bl (g i j)):=by
 intro pins s σ H x y v u Q I rx ry h;obtain ⟨i,j,rfl,rfl,q⟩:=h;obtain ⟨t,rfl⟩:=rx;obtain ⟨t',rfl⟩:=ry;exact rule i j t t' s _ _ ⟨.bl (g i j),H,I,rfl,q⟩
noncomputable def Hr (i j:Int):Prop:=0<j/\j<1073741824
noncomputable def QF (i j:Int):Prop:=0<=j/\j<=1000000/\i.natAbs<2 ^ 64
noncomputable def YO (i j:Int):Prop:=(-(2 ^ 64)<i/\i<2 ^ 64)\/(-(2 ^ 64)<j/\j<2 ^ 64)
theorem YO.ok {i j:Int} (h:YO i j):IntMulOk i j:=by
 rcases h with ⟨h1,h2⟩|⟨h1,h2⟩
 ·exact .of_left (intBits_le_64 h1 h2)
 ·exact .of_right (intBits_le_64 h1 h2)
theorem VA:fA X (binaryOp .Add) (QW λi j=>.int (i+j)):=Bj λ_ _ _ _ _ _ _ q=>add_int q
theorem UO:fA X (binaryOp .Sub) (QW λi j=>.int (i - j)):=Bj λ_ _ _ _ _ _ _ q=>sub_int q
theorem US:fA X (binaryOp .Mod) (rI (λ_ j=>0<j) λi j=>.int (i % j)):=Es λi j _ _ _ _ _ hc q=>by
 have h1:(0:Int)<j:=hc;exact mod_int' (by lia) (by rw[Int.fmod_eq_emod_of_nonneg i (by lia)];exact q)
theorem Ij {f:Value->Sem Value} {g:Int->Int}
  (rule:∀(i:Int) (t:Tok) (s:Shared) (Q:Value->Shared->Prop) (E:Value->Shared->Prop),Q (.int (g i) s.toks) {s with toks:=s.toks+1}->wpAny (model X.prog X.w) X.A (f (.int i t)) Q E s):
  Hm X f (rU λi=>.int (g i)):=by
 intro pins s σ H x v Q I rx h;obtain ⟨i,rfl,q⟩:=h;obtain ⟨t,rfl⟩:=rx;exact rule i t s _ _ ⟨.int (g i),H,I.tok _,⟨_,rfl⟩,q⟩
theorem SK:Hm X (unaryOp .USub) (rU λi=>.int (-i)):=Ij λ_ _ _ _ _ q=>neg_int q
theorem CY:fA X (binaryOp .Add) (λx y H Q=>∃i k,x=.int i/\y=.bl k/\Q (.int (i+b2i k)) H):=by
 intro pins s σ H x y v u Q I rx ry h;obtain ⟨i,k,rfl,rfl,q⟩:=h;obtain ⟨t,rfl⟩:=rx;cases ry;exact add_int_bool ⟨.int (i+b2i k),H,I.tok _,⟨_,rfl⟩,q⟩
end
noncomputable def MT:V->V->Bool
 | .non,.non=>true| .non,.int _=>true| .int _,.non=>true| .non,.bl _=>true| .bl _,.non=>true| .non,.str _=>true| .str _,.non=>true
 | .int _,.int _=>true| .bl _,.bl _=>true| .str _,.str _=>true| .byt _,.byt _=>true
 | .int _,.str _=>true| .str _,.int _=>true| .bl _,.str _=>true| .str _,.bl _=>true
 |_,_=>false
noncomputable def Jb:R2:=λx y H Q=>MT x y=true/\Q (.bl (decide (x=y))) H
noncomputable def Ja:R2:=λx y H Q=>MT x y=true/\Q (.bl (!decide (x=y))) H
theorem BF:decide (V.int i=V.int j)=(i==j):=by
 rw[Bool.eq_iff_iff];simp
theorem KA:decide (V.bl i=V.bl j)=(i==j):=by
 rw[Bool.eq_iff_iff];simp
theorem BE:decide (V.str i=V.str j)=(i==j):=by
 rw[Bool.eq_iff_iff];simp
theorem BG:decide (V.byt i=V.byt j)=(i.toList==j.toList):=by
 rw[Bool.eq_iff_iff];cases i;cases j;simp
section
variable {X:Cx} {a b c:Expr} {ta tb tc:TE} {pos:Pos}
theorem aQ (I:Inv X pins σ H s) (q:Q (.bl k) H) (e:k=k'):EP X pins σ Q (.bool k') s:=by
 subst e;exact ⟨.bl k,H,I,rfl,q⟩
theorem Bi:fA X (compareOp .Eq) Jb:=by
 intro pins s σ H x y v u Q I rx ry h;obtain ⟨hs,q⟩:=h;cases x with
 |non=>
  cases rx;cases y with
  |non=>cases ry;exact PySem.EqNone.eq_none_none (aQ I q (by simp))
  |bl j=>cases ry;exact PySem.EqNone.eq_none_bool (aQ I q (by simp))
  |int j=>obtain ⟨t',rfl⟩:=ry;exact PySem.EqNone.eq_none_int (aQ I q (by simp))
  |str j=>obtain ⟨t',rfl⟩:=ry;exact PySem.EqNone.eq_none_str (aQ I q (by simp))
  |_=>exact absurd (show false=true from hs) Bool.false_ne_true
 |bl i=>
  cases rx;cases y with
  |non=>cases ry;exact PySem.EqNone.eq_bool_none (aQ I q (by simp))
  |bl j=>cases ry;exact eq_bool (aQ I q KA)
  |str j=>obtain ⟨t',rfl⟩:=ry;exact PySem.EqMixed.eq_bool_str (aQ I q (by simp))
  |_=>exact absurd (show false=true from hs) Bool.false_ne_true
 |int i=>
  obtain ⟨t,rfl⟩:=rx;cases y with
  |non=>cases ry;exact PySem.EqNone.eq_int_none (aQ I q (by simp))
  |int j=>obtain ⟨t',rfl⟩:=ry;exact eq_int (aQ I q BF)
  |str j=>obtain ⟨t',rfl⟩:=ry;exact PySem.EqMixed.eq_int_str (aQ I q (by simp))
  |_=>exact absurd (show false=true from hs) Bool.false_ne_true
 |str i=>
  obtain ⟨t,rfl⟩:=rx;cases y with
  |non=>cases ry;exact PySem.EqNone.eq_str_none (aQ I q (by simp))
  |bl j=>cases ry;exact PySem.EqMixed.eq_str_bool (aQ I q (by simp))
  |int j=>obtain ⟨t',rfl⟩:=ry;exact PySem.EqMixed.eq_str_int (aQ I q (by simp))
  |str j=>obtain ⟨t',rfl⟩:=ry;exact eq_str (aQ I q BE)
  |_=>exact absurd (show false=true from hs) Bool.false_ne_true
 |byt i=>
  obtain ⟨t,rfl⟩:=rx;cases y with
  |byt j=>obtain ⟨t',rfl⟩:=ry;exact PySem.W.eq_bytes (aQ I q BG)
  |_=>exact absurd (show false=true from hs) Bool.false_ne_true
 |_=>cases y<;>exact absurd (show false=true from hs) Bool.false_ne_true
theorem Bc:fA X (compareOp .NotEq) Ja:=by
 intro pins s σ H x y v u Q I rx ry h;obtain ⟨hs,q⟩:=h;cases x with
 |non=>
  cases rx;cases y with
  |non=>cases ry;exact PySem.EqNone.ne_none_none (aQ I q (by simp))
  |bl j=>cases ry;exact PySem.EqNone.ne_none_bool (aQ I q (by simp))
  |int j=>obtain ⟨t',rfl⟩:=ry;exact PySem.EqNone.ne_none_int (aQ I q (by simp))
  |str j=>obtain ⟨t',rfl⟩:=ry;exact PySem.EqNone.ne_none_str (aQ I q (by simp))
  |_=>exact absurd (show false=true from hs) Bool.false_ne_true
 |bl i=>
  cases rx;cases y with
  |non=>cases ry;exact PySem.EqNone.ne_bool_none (aQ I q (by simp))
  |bl j=>cases ry;exact ne_bool (aQ I q (congrArg not KA))
  |str j=>obtain ⟨t',rfl⟩:=ry;exact PySem.EqMixed.ne_bool_str (aQ I q (by simp))
  |_=>exact absurd (show false=true from hs) Bool.false_ne_true
 |int i=>
  obtain ⟨t,rfl⟩:=rx;cases y with
  |non=>cases ry;exact PySem.EqNone.ne_int_none (aQ I q (by simp))
  |int j=>obtain ⟨t',rfl⟩:=ry;exact ne_int (aQ I q (congrArg not BF))
  |str j=>obtain ⟨t',rfl⟩:=ry;exact PySem.EqMixed.ne_int_str (aQ I q (by simp))
  |_=>exact absurd (show false=true from hs) Bool.false_ne_true
 |str i=>
  obtain ⟨t,rfl⟩:=rx;cases y with
  |non=>cases ry;exact PySem.EqNone.ne_str_none (aQ I q (by simp))
  |bl j=>cases ry;exact PySem.EqMixed.ne_str_bool (aQ I q (by simp))
  |int j=>obtain ⟨t',rfl⟩:=ry;exact PySem.EqMixed.ne_str_int (aQ I q (by simp))
  |str j=>obtain ⟨t',rfl⟩:=ry;exact ne_str (aQ I q (congrArg not BE))
  |_=>exact absurd (show false=true from hs) Bool.false_ne_true
 |byt i=>
  obtain ⟨t,rfl⟩:=rx;cases y with
  |byt j=>obtain ⟨t',rfl⟩:=ry;exact PySem.W.ne_bytes (aQ I q (congrArg not BG))
  |_=>exact absurd (show false=true from hs) Bool.false_ne_true
 |_=>cases y<;>exact absurd (show false=true from hs) Bool.false_ne_true
theorem Bd:fA X (compareOp .Lt) (QW λi j=>.bl (decide (i<j))):=NU λ_ _ _ _ _ _ _ q=>lt_int q
theorem Be:fA X (compareOp .LtE) (QW λi j=>.bl (decide (i<=j))):=NU λ_ _ _ _ _ _ _ q=>le_int q
theorem Bg:fA X (compareOp .Gt) (QW λi j=>.bl (decide (j<i))):=NU λ_ _ _ _ _ _ _ q=>gt_int q
theorem Bh:fA X (compareOp .GtE) (QW λi j=>.bl (decide (j<=i))):=NU λ_ _ _ _ _ _ _ q=>ge_int q
theorem CV:fA X (compareOp .In) (λx y H Q=>∃i j,x=.str i/\y=.str j/\Q (.bl (!(Builtin.Str.occurrences j i 0 j.length 1).isEmpty)) H):=by
 intro pins s σ H x y v u Q I rx ry h;obtain ⟨i,j,rfl,rfl,q⟩:=h;obtain ⟨t,rfl⟩:=rx;obtain ⟨t',rfl⟩:=ry;exact in_str (aQ I q rfl)
theorem UT:fA X (compareOp .Is) (λx y H Q=>y=.non/\Q (.bl (decide (x=.non))) H):=by
 intro pins s σ H x y v u Q I rx ry h;obtain ⟨rfl,q⟩:=h;cases ry;refine is_none_gen (aQ I q ?_);cases x<;>first
  | (cases rx;rfl)
  | (obtain ⟨t,rfl⟩:=rx;rfl)
theorem NP:fA X (compareOp .IsNot) (λx y H Q=>y=.non/\Q (.bl (!decide (x=.non))) H):=by
 intro pins s σ H x y v u Q I rx ry h;obtain ⟨rfl,q⟩:=h;cases ry;refine isnot_none_gen (aQ I q ?_);cases x<;>first
  | (cases rx;rfl)
  | (obtain ⟨t,rfl⟩:=rx;rfl)
theorem AK (ho:fA X (compareOp op) r) (ha:PE X a ta) (hb:PE X b tb) (hm:behindInMarks op b=false):PE X (.Compare a [op] [b] pos) (SS r ta tb):=by
 intro pins s σ H Q I h;exact wpAny_Compare1 (XW ha hb I h λv u s2 x y H2 I2 rx ry q=>ho pins s2 σ H2 x y v u Q I2 rx ry q) hm
noncomputable def YA (K:Fg) (x:V) (H:Hp) (k:Bool):Prop:=
 match x with
 | .non=>k=false
 | .bl b=>k=b
 | .int i=>k=(i != 0)
 | .str y=>y.length<=sizeLine/\k=((y.length:Int) != 0)
 | .byt y=>y.size<=sizeLine/\k=((y.size:Int) != 0)
 | .ref p=>(∃xs,aM K H p xs/\k=!xs.isEmpty)\/(∃xs,bX K H p xs/\k=!xs.isEmpty)\/∃kvs,H p=some (.dK kvs)/\k=!kvs.isEmpty
 |_=>False
theorem yV {κ:Type} {kvs:List (κ × V)} {vs:List (κ × Value)} (r:KV kvs vs):(!vs.isEmpty)=!kvs.isEmpty:=by
 cases r<;>rfl
theorem nV {xs:List V} {its:List Value} (r:Vals xs its):(!its.toArray.isEmpty)=!xs.isEmpty:=by
 cases r<;>simp
theorem iT:(sizeLine:Nat)<2 ^ 63:=by rw[sizeLine_eq];decide
theorem SN:Ef X (λx H Q=>∃k,YA X.K x H k/\Q k H):=by
 intro pins s σ H x v Q I rx h;obtain ⟨k,e,q⟩:=h;have hl:=iT;have hs:sizeLine=16777216:=sizeLine_eq;cases x with
 |non=>
  cases rx;have e':k=false:=e;subst e';exact truthy_none ⟨H,I,q⟩
 |bl b=>
  cases rx;have e':k=b:=e;subst e';exact wpAny_truthy_bool ⟨H,I,q⟩
 |int i=>
  obtain ⟨t,rfl⟩:=rx;have e':k=(i != 0):=e;subst e';exact PySem.P.truthy_int ⟨H,I,q⟩
 |str y=>
  obtain ⟨t,rfl⟩:=rx;obtain ⟨hy,e'⟩:y.length<=sizeLine/\k=((y.length:Int) != 0):=e;subst e';exact PySem.P.truthy_str (by lia) ⟨H,I.tok _,q⟩
 |byt y=>
  obtain ⟨t,rfl⟩:=rx;obtain ⟨hy,e'⟩:y.size<=sizeLine/\k=((y.size:Int) != 0):=e;subst e';exact PySem.W.truthy_bytes (by lia) ⟨H,I.tok _,q⟩
 |ref p=>
  cases rx;have e':(∃xs,aM X.K H p xs/\k=!xs.isEmpty)\/(∃xs,bX X.K H p xs/\k=!xs.isEmpty)\/∃kvs,H p=some (.dK kvs)/\k=!kvs.isEmpty:=e;rcases e' with ⟨xs,hx,e'⟩|⟨xs,hx,e'⟩|⟨kvs,hx,e'⟩
  ·subst e';obtain ⟨its,r,pl,hz⟩:=I.list hx;have hlen:=r.length;exact wpAny_truthy_list pl.isList (by simp only [size_toArray];lia) ⟨H,I.tok _,by rw[nV r];exact q⟩
  ·subst e';obtain ⟨its,r,pl,hz⟩:=I.tuple hx;have hlen:=r.length;exact truthy_tuple pl (by simp only [size_toArray];lia) ⟨H,I.tok _,by rw[nV r];exact q⟩
  ·subst e';obtain ⟨hz,hS,vs,r,m⟩:kvs.length<=sizeLine/\(p==sysModules)=false/\∃vs,KV kvs vs/\s.heap.DictOf (aX X.prog X.w) p vs:=I.hok p _ hx;have hlen:kvs.length=vs.length:=Paired.length r;exact wpAny_truthy_dict hS m (by lia) ⟨H,I.tok _,by rw[yV r];exact q⟩
 |_=>exact (show False from e).elim
theorem yL:fA X (binaryOp .Add) (λx y H Q=>∃i j,x=.str i/\y=.str j/\i.length+j.length<=sizeLine/\Q (.str (i++j)) H):=by
 intro pins s σ H x y v u Q I rx ry h;obtain ⟨i,j,rfl,rfl,hz,q⟩:=h;obtain ⟨t,rfl⟩:=rx;obtain ⟨t',rfl⟩:=ry;exact add_str (λt' tk=>⟨.str (i++j),H,I.tok _,⟨_,rfl⟩,q⟩) hz
theorem vals1 (r:Vals [x] us):∃u,us=[u]/\RelV x u:=by
 cases r with
 |cons r1 r2=>cases r2;exact ⟨_,rfl,r1⟩
theorem vals2 (r:Vals [x,y] us):∃u w',us=[u,w']/\RelV x u/\RelV y w':=by
 cases r with
 |cons r1 r2=>
  cases r2 with
  |cons r3 r4=>cases r4;exact ⟨_,_,rfl,r1,r3⟩
theorem EG (hc:X.calm=true):bZ X (.builtin "max") (λxs H Q=>∃i j,xs=[.int i,.int j]/\Q (.int (if j>i then j else i)) H):=by
 intro pins s σ H xs us Q I r h;obtain ⟨i,j,rfl,q⟩:=h;obtain ⟨u,w',rfl,⟨t,rfl⟩,⟨t',rfl⟩⟩:=vals2 r;refine max_two_ints (I.ok.hd hc) λh' tk k=>⟨_,H,I.kept k,?_,q⟩;by_cases hj:j>i
 ·rw[if_pos hj,if_pos hj];exact ⟨_,rfl⟩
 ·rw[if_neg hj,if_neg hj];exact ⟨_,rfl⟩
theorem EF (hc:X.calm=true):bZ X (.builtin "min") (λxs H Q=>∃i j,xs=[.int i,.int j]/\Q (.int (if j<i then j else i)) H):=by
 intro pins s σ H xs us Q I r h;obtain ⟨i,j,rfl,q⟩:=h;obtain ⟨u,w',rfl,⟨t,rfl⟩,⟨t',rfl⟩⟩:=vals2 r;refine min_two_ints (I.ok.hd hc) λh' tk k=>⟨_,H,I.kept k,?_,q⟩;by_cases hj:j<i
 ·rw[if_pos hj,if_pos hj];exact ⟨_,rfl⟩
 ·rw[if_neg hj,if_neg hj];exact ⟨_,rfl⟩
noncomputable def Ek (K:Fg) (x:V) (H:Hp) (n:Nat):Prop:=
 match x with
 | .str y=>y.length<=sizeLine/\n=y.length
 | .byt y=>y.size<=sizeLine/\n=y.size
 | .ref p=>(∃xs,aM K H p xs/\n=xs.length)\/∃xs,bX K H p xs/\n=xs.length
 |_=>False
theorem wM:bZ X (.builtin "len") (λxs H Q=>∃x n,xs=[x]/\Ek X.K x H n/\Q (.int n) H):=by
 intro pins s σ H xs us Q I r h;obtain ⟨x,n,rfl,e,q⟩:=h;obtain ⟨u,rfl,rx⟩:=vals1 r;have hl:=iT;have hs:sizeLine=16777216:=sizeLine_eq;cases x with
 |str y=>
  obtain ⟨t,rfl⟩:=rx;obtain ⟨hy,e'⟩:y.length<=sizeLine/\n=y.length:=e;subst e';exact len_str (by lia) ⟨.int _,H,I.tok _,⟨_,rfl⟩,q⟩
 |byt y=>
  obtain ⟨t,rfl⟩:=rx;obtain ⟨hy,e'⟩:y.size<=sizeLine/\n=y.size:=e;subst e';exact PySem.W.len_bytes (by lia) ⟨.int _,H,I.tok _,⟨_,rfl⟩,q⟩
 |ref p=>
  cases rx;have e':(∃xs,aM X.K H p xs/\n=xs.length)\/∃xs,bX X.K H p xs/\n=xs.length:=e;rcases e' with ⟨xs,hx,e'⟩|⟨xs,hx,e'⟩
  ·subst e';obtain ⟨its,r',pl,hz⟩:=I.list hx;have hlen:=r'.length;exact Calls.call_len_list pl.isList (by simp only [size_toArray];lia) ⟨.int xs.length,H,I.tok _,⟨_,by simp only [size_toArray];rw[hlen]⟩,q⟩
  ·subst e';obtain ⟨its,r',pl,hz⟩:=I.tuple hx;have hlen:=r'.length;exact len_tuple pl (by simp only [size_toArray];lia) ⟨.int xs.length,H,I.tok _,⟨_,by simp only [size_toArray];rw[hlen]⟩,q⟩
 |_=>exact (show False from e).elim
end
structure YG (h:Heap) (x dx C:Addr) (mA:Str->Option Value):Prop where
 obj:h.get? x=some (PySem.W.instObj C dx)
 ns:h.Ns1 dx mA
 ne:dx≠x
theorem DH {h:Heap} {dx:Addr} {mA:Str->Option Value} (n:h.Ns1 dx mA):∃od,h.get? dx=some od/\∀name,PySem.W.lookIn name od=some (mA name):=by
 obtain ⟨o,es,ep,ho,hd,hk,_,hm⟩:=n;refine ⟨o,ho,λname=>?_⟩;have e:=hm name;unfold nsFind findBy at e;rw[<-Array.find?_toList] at e;unfold PySem.W.lookIn;rw[hd];dsimp only;split
 ·rename_i y q;rw[q] at e;exact congrArg some e
 ·rename_i q;rw[q] at e;have a:es.toList.any (·.refKey)=false:=by
   rw[List.any_eq_false];intro y hy;obtain ⟨z,t,hkey⟩:=hk y (Array.mem_toList_iff.mp hy);simp [DictEntry.refKey,hkey]
  have a':¬es.toList.any (·.refKey)=true:=by rw[a];exact Bool.false_ne_true
  rw[if_neg a'];exact congrArg some e
theorem YG.look (I:YG h x dx C mA):∃od,PySem.W.InstAt h x (PySem.W.instObj C dx) C (some od)/\∀name,PySem.W.lookIn name od=some (mA name):=
 let ⟨od,ho,hl⟩:=DH I.ns
 ⟨od,⟨I.obj,rfl,rfl,ho⟩,hl⟩
section
variable {prog:Program} {w:World} {A:Around} {E:Value->Shared->Prop} {s:Shared} {K:Fg} {x dx C f:Addr} {mA:Str->Option Value} {name:Str} {v:Value}
end
theorem iX.some_of (r:iX (some v) o):∃u,o=some u/\RelV v u:=by
 cases o with
 |none=>exact (show False from r).elim
 |some u=>exact ⟨u,rfl,r⟩
section
variable {P:Program} {w:World} {H H':Hp} {h h':Heap} {a C dx:Addr} {fs fs':List (Str × V)}
theorem OK (hok:dY P w H h) (e:H a=some (.ins C dx fs)):∃mA,YG h a dx C mA/\(∀f,iX (fs.lookup f) (mA f))/\PySem.Within mA (fs.map (·.1))/\fs.length<=1000/\H dx=some (.own a):=by
 obtain ⟨d,z,ne,ob,mA,n,r,q⟩:=(show aY P w H h a (.ins C dx fs) from hok a _ e);exact ⟨mA,⟨ob,n,ne⟩,r,q,z,d⟩
end
structure Fd (K:Fg) (C:Addr):Prop where
 pg:PySem.W.plainGet K C Str.empty=true
 hd:PySem.W.hasDictIn K C=true
 po:PySem.W.plainOver K C=true
 sa:PySem.W.findIn K (.ref C) "__setattr__"=some (some (.builtin "object.__setattr__"))
theorem Fd.get {K:Fg} {C:Addr} (c:Fd K C) (f:Str):PySem.W.plainGet K C f=true:=c.pg
section
variable {X:Cx} {pins:List (Addr × Obj)} {σ:St} {H:Hp} {s:Shared} {a C dx:Addr} {fs:List (Str × V)} {f:Str} {v:V} {A:Around} {E:Value->Shared->Prop}
end
section
variable {X:Cx} {o e value:Expr} {f:Str} {pos pos' tpos:Pos} {ta tv:TE}
end
section
variable {X:Cx} {pins:List (Addr × Obj)} {σ:St} {H:Hp} {s:Shared} {A:Around} {E:Value->Shared->Prop} {Q:Value->Shared->Prop} {c:Value} {b:Bool}
inductive fP (K:Fg) (H:Hp):V->Value->Prop where
 |non:fP K H .non (.type "NoneType")
 |bl (x:Bool):fP K H (.bl x) (.type "bool")
 |int (i:Int):fP K H (.int i) (.type "int")
 |str (x:Str):fP K H (.str x) (.type "str")
 |flt (x:UInt64):fP K H (.flt x) (.type "float")
 |lst {a:Addr} {xs:List V} (e:H a=some (.lst xs)):fP K H (.ref a) (.type "list")
 |frz {a:Addr} {o:Obj} {xs:List V} (e:H a=some (.frz o (.lst xs))):fP K H (.ref a) (.type "list")
 |tup {a:Addr} {xs:List V} (e:H a=some (.tup xs)):fP K H (.ref a) (.type "tuple")
 |dK {a:Addr} {kvs:List (Key × V)} (e:H a=some (.dK kvs)):fP K H (.ref a) (.type "dict")
 |dT {a:Addr} {kvs:List (List Key × V)} (e:H a=some (.dT kvs)):fP K H (.ref a) (.type "dict")
 |ins {a C dx:Addr} {fs:List (Str × V)} (e:H a=some (.ins C dx fs)) (cl:Fd K C) (ha:PySem.W.findIn K (.ref C) "__class__"=some (some (.builtin "object.__class__")))
   (hn:PySem.W.specialIn K (.builtin "object.__class__") "__get__"=some (some (.builtin "getset_descriptor.__get__"))) (htk:PySem.W.takesIn K (.builtin "object.__class__")=some true)
   (hm:PySem.W.mroIn K C (.type "object")=some true):fP K H (.ref a) (.ref C)
theorem DL (I:Inv X pins σ H s) (rx:RelV x u) (ty:fP X.K H x t) (e:PySem.W.kitOne X.K t c=some b) (h:∀tk,Q (.bool b) {s with toks:=tk}):
  wpAny (model X.prog X.w) A (call (.builtin "isinstance") [u,c]) Q E s:=by
 cases ty with
 |non=>cases (show u=Value.none from rx);exact PySem.W.kia_one PySem.W.kitx_none I.kIn tI e (λz=>nomatch z) h
 |bl y=>cases (show u=Value.bool y from rx);exact PySem.W.kia_one PySem.W.kitx_bool I.kIn tI e (λz=>nomatch z) h
 |int i=>obtain ⟨t,q⟩:=(show ∃t,u=Value.int i t from rx);cases q;exact PySem.W.kia_one PySem.W.kitx_int I.kIn tI e (λz=>nomatch z) h
 |str y=>obtain ⟨t,q⟩:=(show ∃t,u=Value.str y t from rx);cases q;exact PySem.W.kia_one PySem.W.kitx_str I.kIn tI e (λz=>nomatch z) h
 |flt y=>obtain ⟨t,q⟩:=(show ∃t,u=Value.float y t from rx);cases q;exact PySem.W.kia_one PySem.W.kitx_float I.kIn tI e (λz=>nomatch z) h
 |@lst a xs ea=>
  cases (show u=Value.ref a from rx);obtain ⟨_,_,n,_,h1⟩:=(show aY X.prog X.w H s.heap a (.lst xs) from I.hok a _ ea);exact PySem.W.kia_one PySem.W.kitx_list I.kIn ⟨_,h1,rfl⟩ e (λz=>nomatch z) h
 |@frz a ob xs ea=>
  cases (show u=Value.ref a from rx);obtain ⟨_,_,_,n,_,h1⟩:=(show aY X.prog X.w H s.heap a (.frz ob (.lst xs)) from I.hok a _ ea);exact PySem.W.kia_one PySem.W.kitx_list I.kIn ⟨_,h1,rfl⟩ e (λz=>nomatch z) h
 |@tup a xs ea=>
  cases (show u=Value.ref a from rx);obtain ⟨_,_,_,p⟩:=(show aY X.prog X.w H s.heap a (.tup xs) from I.hok a _ ea);obtain ⟨o,h1,h2,_⟩:=p;exact PySem.W.kia_one PySem.W.kitx_tuple I.kIn ⟨o,h1,h2⟩ e (λz=>nomatch z) h
 |@dK a kvs ea=>
  cases (show u=Value.ref a from rx);obtain ⟨_,_,vs,_,p⟩:=(show aY X.prog X.w H s.heap a (.dK kvs) from I.hok a _ ea);obtain ⟨o,es,ep,h1,h2,_⟩:=p;exact PySem.W.kia_one PySem.W.kitx_dict I.kIn ⟨o,h1,h2.1⟩ e (λz=>nomatch z) h
 |@dT a kvs ea=>
  cases (show u=Value.ref a from rx);obtain ⟨_,_,xs,_,o,es,ep,h1,h2,_⟩:=(show aY X.prog X.w H s.heap a (.dT kvs) from I.hok a _ ea);exact PySem.W.kia_one PySem.W.kitx_dict I.kIn ⟨o,h1,h2.1⟩ e (λz=>nomatch z) h
 |@ins a C dx fs ea cl ha hn htk hm=>
  cases (show u=Value.ref a from rx);obtain ⟨mA,O,_⟩:=OK I.hok ea;obtain ⟨od,J,_⟩:=O.look;exact PySem.W.kia_one (PySem.W.kitx_own (cl.get _) cl.hd ha hn htk hm) I.kIn J e (λz=>nomatch z) h
end
structure dA (k:Nat) (A:Around):Prop where
 hd:A.handled=none
 dp:A.depth+3 * k+5<recursionLimit
 un:A.units+16 * k+200<cLine
theorem dA.mono (r:dA k A) (h:j<=k):dA j A:=⟨r.hd,by have:=r.dp;lia,by have:=r.un;lia⟩
theorem dA.deeper (r:dA (k+1) A) (env:Env):dA k (A.deeper env):=
 ⟨r.hd,by have:=r.dp;show A.depth+1+3 * k+5<_;lia,by have:=r.un;show A.units+3+16 * k+200<_;lia⟩
theorem yR {A:Around} {C:Addr} {us:List Value} {kw:List (Str × Value)}:(A.under (.builtin "type.__call__" ⟨.ref C::us,kw⟩)).depth=A.depth+1:=by
 first|rfl|simp [Around.under,Code.weight,Code.isCreation,Code.isGuard,Code.isCaller,Code.frames,Code.isFrame,guardIds]
theorem dA.depth (r:dA k A):A.depth<recursionLimit:=by have:=r.dp;lia
theorem dA.units (r:dA k A):A.units+64<cLine:=by have:=r.un;lia
noncomputable def ZT:TA:=λ_ H Q=>Q [] H
noncomputable def QP (ta:TE) (tr:TA):TA:=λσ H Q=>ta σ H λx H1=>tr σ H1 λxs H2=>Q (x::xs) H2
section
variable {X:Cx} {e:Expr} {es:List Expr} {te:TE} {t:TA} {pos:Pos}
theorem HE:PA X [] ZT:=λ_ _ _ _ H Q I h=>Calls.spliced_nil ⟨[],H,I,.nil,h⟩
theorem AL (ha:PE X e te) (hr:PA X es t) (hs:starEach (e::es) X.env=(false,eval e X.env)::starEach es X.env:=by rfl):PA X (e::es) (QP te t):=by
 intro pos pins s σ H Q I h;rw[hs];show wpAny _ _ (spliced ((false,eval e X.env)::backTo pos (starEach es X.env))) _ _ s;refine Calls.spliced_cons (bO (ha pins s σ H _ I h) λu s1 ⟨x,H1,I1,r1,q1⟩=>?_);exact bO (hr pos pins s1 σ H1 _ I1 q1) λus s2 ⟨xs,H2,I2,r2,q2⟩=>⟨x::xs,H2,I2,.cons r1 r2,q2⟩
noncomputable def ZR (t:TA):TE:=λσ H Q=>t σ H λxs H1=>xs.length<=sizeLine/\∀p,H1 p=none->Q (.ref p) (upd H1 p (.tup xs))
noncomputable def ZU (t:TA):TE:=λσ H Q=>t σ H λxs H1=>xs.length<=sizeLine/\∀p,H1 p=none->Q (.ref p) (upd H1 p (.lst xs))
theorem UH {x1} (h:PA X es t):PE X (.Tuple es x1 pos) (ZR t):=by
 intro pins s σ H Q I hq;refine wpAny_Tuple_spliced (bO (h pos pins s σ H _ I hq) λus s1 ⟨xs,H1,I1,r,z,q⟩=>⟨by rw[<-r.length];exact z,?_⟩);have hf:H1 s1.heap.objs.size=none:=I1.hok.fresh (Nat.le_refl _);refine ⟨.ref s1.heap.objs.size,upd H1 s1.heap.objs.size (.tup xs),I1.laid (t':=s1.toks) (λb u e=>get?_push_of_some _ e) (Nat.le_refl _) ?_,rfl,q _ hf⟩;exact ⟨z,us,r,⟨_,get?_push_size _ rfl,rfl,_,rfl⟩⟩
theorem UL (h:PA X es t):PE X (.List es pos) (ZU t):=by
 intro pins s σ H Q I hq;refine wpAny_List_spliced (bO (h pos pins s σ H _ I hq) λus s1 ⟨xs,H1,I1,r,z,q⟩=>⟨by rw[<-r.length];exact z,?_⟩);have hf:H1 s1.heap.objs.size=none:=I1.hok.fresh (Nat.le_refl _);refine ⟨.ref s1.heap.objs.size,upd H1 s1.heap.objs.size (.lst xs),I1.laid (t':=s1.toks) (λb u e=>get?_push_of_some _ e) (Nat.le_refl _) ?_,rfl,q _ hf⟩;exact ⟨z,us,0,r,get?_push_size _ rfl⟩
end
noncomputable abbrev Sp:=List V->Hp->VK->XK->Prop
noncomputable abbrev LV:=List Env->Hp->Shared->XK->Value->Shared->Prop
structure QE (P:Program) (w:World) (K:Fg) (mg:Str->Option Value) (base:Heap) (A:Around) (outer:List Env) (s:Shared) (H:Hp):Prop where
 frames:A.frames=some outer
 mod:Mod K mg base
 bs:∀b o,base.get? b=some o->s.heap.get? b=some o/\H b=none
 bsz:base.objs.size<=s.heap.objs.size
 funs:s.heap.FunFrames base outer
 frf:∀b∈eL outer,H b=none
 hok:dY P w H s.heap
 bare:AllBare s.gens
noncomputable def CE (outer:List Env) (P:Program) (w:World) (H:Hp) (s:Shared) (Q:VK) (u:Value) (s':Shared):Prop:=
 ∃v H',s'.os=s.os/\AllBare s'.gens/\Un (eL outer) [] H H' s.heap s'.heap/\dY P w H' s'.heap/\RelV v u/\Q v H'
noncomputable def CR (CX:LV) (outer:List Env) (P:Program) (w:World) (H:Hp) (s:Shared) (Q:VK) (E:XK) (r:Result) (s':Shared):Prop:=
 match r with
 | .ok (.ret u)=>CE outer P w H s Q u s'
 | .ok _=>False
 | .error e=>CX outer H s E e s'
structure zQ (P:Program) (w:World) (K:Fg) (mg:Str->Option Value) (base:Heap) (CX:LV) (k:Nat) (f:Addr) (fd:FuncData) (ps:List Str) (sp:Sp):Prop where
 len:∀vs H Q E,sp vs H Q E->vs.length=ps.length
 run:∀(A:Around) (outer:List Env) (s:Shared) (H:Hp) (args:Args) (us:List Value) (vs:List V) (Q:VK) (E:XK),dA k A->QE P w K mg base A outer s H->BindsTo s fd args (ps.zip us)->Vals vs us->sp vs H Q E->
  codeAny (model P w) A (.call (.ref f) args) (CR CX outer P w H s Q E) s
section
variable {X:Cx} {pins:List (Addr × Obj)} {σ:St} {H:Hp} {s s':Shared}
theorem Inv.env0 (I:Inv X pins σ H s):QE X.prog X.w X.K X.mg X.base X.A X.stack s H:=
 ⟨I.ok.frames,I.ok.mod,I.bs,Nat.le_trans I.ok.bsz I.sz,I.stack,I.stkFree,I.hok,I.bare⟩
theorem Inv.after (I:Inv X pins σ H s) (h:CE X.stack X.prog X.w H s Q u s'):EP X pins σ Q u s':=by
 obtain ⟨v,H',os,bare,un,hok,r,q⟩:=h;obtain ⟨hh,g,d,t,os'⟩:=s';obtain rfl:os'=s.os:=os;exact ⟨v,H',I.call (h':=hh) (g':=g) (d':=d) (t':=t) (ch:=[]) un hok bare (λb z=>absurd z (by simp)),r,q⟩
end
noncomputable def Binds (K:Fg) (fd:FuncData) (ps:List Str) (ds:List Value):Prop:=
 ∀(s:Shared) (us:List Value),K.In s.heap->(us++ds).length=ps.length->BindsTo s fd ⟨us,[]⟩ (ps.zip (us++ds))
theorem Binds.all {K:Fg} {fd:FuncData} {ps:List Str} (h:∀us:List Value,us.length=ps.length->bindArgs fd ⟨us,[]⟩=pure (ps.zip us)):Binds K fd ps []:=λs us _ hl=>by
 rw[append_nil] at hl ⊢;exact .of_eq (h us hl)
noncomputable def Passes (CX:LV) (X:Cx) (E:XK):Prop:=∀(pins:List (Addr × Obj)) (σ:St) (H:Hp) (s:Shared) (e:Value) (s':Shared),Inv X pins σ H s->CX X.stack H s E e s'->X.xe e s'
section
variable {X:Cx} {CX:LV} {k:Nat} {f C:Addr} {fd:FuncData} {ps:List Str} {sp:Sp} {dvs:List V} {ds:List Value} {E:XK} {x m:Str} {p pos apos:Pos} {e o:Expr} {es:List Expr} {ta:TE} {t:TA}
end
section
variable {X:Cx} {CX:LV} {k:Nat} {f C:Addr} {fd:FuncData} {ps ks:List Str} {sp:Sp} {E:XK} {x m:Str} {p pos apos kpos:Pos} {e o:Expr} {es:List Expr} {kws:List Keyword} {te ta:TE} {t tk:TA} {nm:Option Str}
variable {g:List Value->List Value->List Value} {gV:List V->List V->List V}
end
structure fQ (N P:List Str) (sc:Scope):Prop where
 kind:sc.kind=.function
 co:sc.isCoroutine=false
 gen:sc.isGenerator=false
 nd:N.Nodup
 pre:N.take P.length=P
 par:∀x∈P,sc.names.lookup x=some .local\/sc.names.lookup x=some .cell
 nofree:∀y∈sc.names,y.2≠.free
theorem qW {kindOf:Str->Option NameKind} {x:Str}:∀{binds:List (Str × Value)} {m:Str->Option Value},(∀v,(x,v)∉binds)->bindL kindOf binds m x=m x
 |[],_,_=>rfl
 | (n,v)::r,m,h=>by
  unfold bindL;rw[qW λw hw=>h w (mem_cons_of_mem _ hw)];split
  ·have:x≠n:=by rintro rfl;exact h v mem_cons_self
   simp [this]
  ·rfl
theorem qY {kindOf:Str->Option NameKind} {x:Str}:∀{binds:List (Str × Value)} {m:Str->Option Value},(∀v,(x,v)∉binds)->bindC kindOf binds m x=m x
 |[],_,_=>rfl
 | (n,v)::r,m,h=>by
  unfold bindC;rw[qY λw hw=>h w (mem_cons_of_mem _ hw)];split
  ·rfl
  ·have:x≠n:=by rintro rfl;exact h v mem_cons_self
   simp [this]
theorem qX {kindOf:Str->Option NameKind} {x:Str} {v:Value}:∀{P:List Str} {vs:List Value} {i:Nat} {m:Str->Option Value},P.Nodup->P[i]?=some x->vs[i]?=some v->kindOf x=some .local->
  bindL kindOf (P.zip vs) m x=some v
 |[],_,_,_,_,h,_,_=>by simp at h
 |_::_,[],_,_,_,_,h,_=>by simp at h
 |p::P,w::vs,0,m,nd,h1,h2,hk=>by
  simp at h1 h2;subst h1;subst h2;show bindL kindOf ((p,w)::P.zip vs) m p=_;unfold bindL;rw[qW λv hv=>(nodup_cons.mp nd).1 (List.of_mem_zip hv).1,if_pos hk];simp
 |p::P,w::vs,i+1,m,nd,h1,h2,hk=>by
  show bindL kindOf ((p,w)::P.zip vs) m x=_;unfold bindL;exact qX (i:=i) (nodup_cons.mp nd).2 (by simpa using h1) (by simpa using h2) hk
theorem qZ {kindOf:Str->Option NameKind} {x:Str} {v:Value}:∀{P:List Str} {vs:List Value} {i:Nat} {m:Str->Option Value},P.Nodup->P[i]?=some x->vs[i]?=some v->kindOf x≠some .local->
  bindC kindOf (P.zip vs) m x=some v
 |[],_,_,_,_,h,_,_=>by simp at h
 |_::_,[],_,_,_,_,h,_=>by simp at h
 |p::P,w::vs,0,m,nd,h1,h2,hk=>by
  simp at h1 h2;subst h1;subst h2;show bindC kindOf ((p,w)::P.zip vs) m p=_;unfold bindC;rw[qY λv hv=>(nodup_cons.mp nd).1 (List.of_mem_zip hv).1,if_neg hk];simp
 |p::P,w::vs,i+1,m,nd,h1,h2,hk=>by
  show bindC kindOf ((p,w)::P.zip vs) m x=_;unfold bindC;exact qZ (i:=i) (nodup_cons.mp nd).2 (by simpa using h1) (by simpa using h2) hk
noncomputable def start (N:List Str) (vs:List V):St:=vs.map some++replicate (N.length - vs.length) none
noncomputable def pL (CX:LV) (P:Program) (w:World) (K:Fg) (mg:Str->Option Value) (base:Heap) (N:List Str) (qual:Str) (scope:Scope) (f:Addr) (cd:Value) (A:Around) (outer:List Env) (s:Shared) (H:Hp) (E:XK):Cx where
 prog:=P
 w:=w
 K:=K
 mg:=mg
 base:=base
 A:=A.deeper (envOfC qual scope s.heap.objs.size f cd)
 N:=N
 s₀:=s
 H₀:=H
 env:=envOfC qual scope s.heap.objs.size f cd
 outer:=outer
 stack:=envOfC qual scope s.heap.objs.size f cd::outer
 ex:=[]
 calm:=true
 fn:=λ_=>true
 pn:=[]
 xe:=λe s'=>wpAny (model P w) (A.deeper (envOfC qual scope s.heap.objs.size f cd)) (leaving (envOfC qual scope s.heap.objs.size f cd) e) (λ_ s''=>CX outer H s E e s'') (λe' s''=>CX outer H s E e' s'') s'
theorem oN {sc:Scope} {n:Nat} {x:Str} (h:sc.names.lookup x=some .cell):∃c,(cellsFrom n sc.names []).lookup x=some c:=by
 have q:=PySem.W.cellsFrom_some sc.names n [] (.inl h);exact Option.isSome_iff_exists.mp q
theorem DM {CX:LV} {P:Program} {w:World} {K:Fg} {mg:Str->Option Value} {base:Heap} {N ps:List Str} {qual:Str} {scope:Scope} {f:Addr} {cd:Value} {A:Around} {outer:List Env} {s s1:Shared} {H:Hp} {E:XK} {us:List Value} {vs:List V}
  (S:fQ N ps scope) (hd:A.handled=none) (e0:QE P w K mg base A outer s H) (hl:vs.length=ps.length) (r:Vals vs us)
  (x:InCallC s s.heap.objs.size (bindL (envOfC qual scope s.heap.objs.size f cd).kindOf (ps.zip us) λ_=>none) (cellsFrom (s.heap.objs.size+1) scope.names []) (bindC (envOfC qual scope s.heap.objs.size f cd).kindOf (ps.zip us) λ_=>none) s1):
  Inv (pL CX P w K mg base N qual scope f cd A outer s H E) [] (start N vs) H s1:=by
 have hpl:ps.length<=N.length:=by have:=congrArg length S.pre;rw[length_take] at this;lia
 obtain ⟨h1,tk,rfl,hk⟩:=x.done;have noA:∀b:Addr,b∉(pL CX P w K mg base N qual scope f cd A outer s H E).ex:=λb z=>absurd (show b∈([]:List Addr) from z) (by simp);refine ⟨⟨e0.mod,S.kind,rfl,rfl,Nat.le_refl _,λy z c h1 h2=>?_,λy hy=>?_,λy c _ h=>?_,λ_=>hd,Around.frames_deeper e0.frames,.inr ⟨rfl,rfl⟩,λb z=>absurd z (noA b),e0.bs,e0.bsz,λb _ _=>noA b,λb z=>absurd z (noA b),e0.funs,e0.frf⟩,
  rfl,e0.bare,Un.kept hk,⟨_,x.toInCall.ns,λi y v h1 h2 h3=>?_⟩,λy c h=>⟨_,x.cell y c h⟩,e0.hok.fresh (Nat.le_refl _),λy c h=>?_,λp hp=>absurd (show p∈([]:List (Addr × Obj)) from hp) (by simp),e0.hok.kept hk,?_⟩
 ·exact name_of_addr x.apart (PySem.mem_of_lookup h1) (PySem.mem_of_lookup h2)
 ·have hy:scope.names.lookup y=some .cell\/scope.names.lookup y=some .free:=hy;rcases hy with hy|hy
  ·exact oN hy
  ·exact absurd rfl (S.nofree _ (PySem.mem_of_lookup hy))
 ·exact le_of_lt (x.above y c (PySem.mem_of_lookup h))
 ·have hi:i<vs.length:=by
   unfold start at h2;by_cases hi:i<vs.length
   ·exact hi
   ·rw[getElem?_append_right (by simpa using hi)] at h2;rw[List.getElem?_replicate] at h2;split at h2<;>cases h2
  have ha:vs[i]?=some v:=by
   unfold start at h2;rw[getElem?_append_left (by simpa using hi),getElem?_map] at h2;cases e:vs[i]? with
   |none=>rw[e] at h2;cases h2
   |some a=>rw[e] at h2;cases h2;rfl
  obtain ⟨u,hu,rv⟩:=r.get ha;have hp:ps[i]?=some y:=by
   rw[<-S.pre,List.getElem?_take_of_lt (by lia)];exact h1
  have ndP:ps.Nodup:=by rw[<-S.pre];exact S.nd.sublist (List.take_sublist _ _)
  refine ⟨u,rv,?_⟩;rcases S.par y (mem_of_getElem? hp) with k|k
  ·exact .inl ⟨k,qX ndP hp hu k⟩
  ·obtain ⟨c,e⟩:=oN (n:=s.heap.objs.size+1) k;refine .inr ⟨.inl k,c,e,?_⟩;have q:=x.cell y c e;rw[qZ ndP hp hu (by show scope.names.lookup y≠_;rw[k];decide)] at q;exact q
 ·exact e0.hok.fresh (le_of_lt (x.above y c (PySem.mem_of_lookup h)))
 ·unfold start;show _=N.length;rw[length_append,length_map,length_replicate];lia
theorem Ds {CX:LV} {P:Program} {w:World} {K:Fg} {mg:Str->Option Value} {base:Heap} {k:Nat} {f:Addr} {name qual:Str} {params:Arguments} {body:List Stmt} {scope:Scope} {dV kV doc pm cdv ct oc:Value} {an od:Option Addr}
  {osl:Array (Option Value)} {N ps:List Str} {sp:Sp} (lk:K.lookup f=some ⟨oc,od,.func (PySem.W.fnOf name qual params body scope dV kV doc pm an cdv ct),osl⟩) (hcd:PySem.W.codeIn K cdv qual=true) (S:fQ N ps scope)
  (len:∀vs H Q E,sp vs H Q E->vs.length=ps.length)
  (hbody:∀(A:Around) (outer:List Env) (s:Shared) (H:Hp) (vs:List V) (Q:VK) (E:XK),dA k (A.deeper (envOfC qual scope s.heap.objs.size f cdv))->sp vs H Q E->
   ∃t,YD (pL CX P w K mg base N qual scope f cdv A outer s H E) body t/\t {nx:=λ_ H'=>Q .non H',rt:=Q} (start N vs) H):
  zQ P w K mg base CX (k+1) f (PySem.W.fnOf name qual params body scope dV kV doc pm an cdv ct) ps sp:=by
 refine ⟨len,λA outer s H args us vs Q E hr e0 hb r hsp=>?_⟩;have hl:=len _ _ _ _ hsp;have KX:K.In s.heap:=e0.mod.kin.keeps λb o e=>(e0.bs b o e).1;have lim:s.heap.NoLimit:=e0.mod.nolimit.keeps λb o e=>(e0.bs b o e).1;have hkind:∀y∈ps.zip us,scope.names.lookup y.1=some .local\/(scope.names.lookup y.1=some .cell/\((cellsFrom (s.heap.objs.size+1) scope.names []).lookup y.1).isSome=true):=λ⟨n,v⟩ hy=>by
  rcases S.par n (List.of_mem_zip hy).1 with q|q
  ·exact .inl q
  ·exact .inr ⟨q,PySem.W.cellsFrom_some _ _ _ (.inl q)⟩
 refine codeAny_call_function hr.depth (KX _ _ lk) rfl S.co S.gen rfl (PySem.W.codeRec_of KX hcd) (hb _ _ _ _ ?_);refine wpAny_newFunctionEnv_cells S.kind hkind λenv he s1 x=>?_;subst he;refine ⟨lim.keeps x.toInCall.keep,codeAny_func ?_⟩;obtain ⟨t,ht,hq⟩:=hbody A outer s H vs Q E (hr.deeper _) hsp;have I:Inv (pL CX P w K mg base N qual scope f cdv A outer s H E) [] (start N vs) H s1:=DM S hr.hd e0 hl r x;refine wpAny_mono (ht [] s1 (start N vs) H _ I hq) (λfl s' hs=>?_) λe s' hs=>hs;have fin:∀{σ':St} {H':Hp} {v:V} {u:Value},Inv (pL CX P w K mg base N qual scope f cdv A outer s H E) [] σ' H' s'->RelV v u->Q v H'->CE outer P w H s Q u s':=
  λ{σ' H' v u} J rv q=>⟨v,H',J.os,J.bare,J.base,J.hok,rv,q⟩
 cases fl with
 |ret u=>
  obtain ⟨v,σ',H',J,rv,q⟩:=hs;exact fin J rv q
 |next=>
  obtain ⟨σ',H',J,q⟩:=hs;exact fin (v:=V.non) (u:=Value.none) J rfl q
 |brk=>
  obtain ⟨_,_,_,q⟩:=hs;exact False.elim q
 |cont=>
  obtain ⟨_,_,_,q⟩:=hs;exact False.elim q
section
variable {X:Cx} {x:Str} {p pos:Pos} {e:Expr} {es:List Expr} {t:TA} {id T:String} {r:List V->Hp->VK->Prop}
noncomputable def ZX (r:List V->Hp->VK->Prop) (t:TA):TE:=λσ H Q=>t σ H λvs H1=>r vs H1 Q
theorem vE (hc:bZ X (.builtin id) r) (hg:Gl X x) (hm:X.mg x=none) (hv:bootBuiltins x=some (.builtin id)) (ha:PA X (e::es) t) (hn:x≠"__name__":=by decide) (hdb:(x==("__debug__":Str))=false:=by decide)
  (he:starEach (e::es) X.env=(false,eval e X.env)::starEach es X.env:=by rfl) (hpl:(backTo pos (starEach es X.env)).any (·.1)=false:=by rfl):PE X (.Call (.Name x p) (e::es) [] pos) (ZX r t):=by
 intro pins s σ H Q I h;refine wpAny_Call_Name_kw (eK I hg hm hv ?_ hn hdb);exact PyProof.Rows.callWith_builtin1 (bO (ha pos pins s σ H _ I h) λus s1 ⟨vs,H1,I1,r1,q1⟩=>hc pins s1 σ H1 vs us Q I1 r1 q1) he hpl
theorem CT (hc:bZ X (.type T) r) (hg:Gl X x) (hm:X.mg x=none) (hv:bootBuiltins x=some (.type T)) (ha:PA X (e::es) t) (hn:x≠"__name__":=by decide) (hdb:(x==("__debug__":Str))=false:=by decide)
  (he:starEach (e::es) X.env=(false,eval e X.env)::starEach es X.env:=by rfl) (hpl:(backTo pos (starEach es X.env)).any (·.1)=false:=by rfl):PE X (.Call (.Name x p) (e::es) [] pos) (ZX r t):=by
 intro pins s σ H Q I h;refine wpAny_Call_Name_kw (eK I hg hm hv ?_ hn hdb);exact PyProof.Rows.callWith_type1 (bO (ha pos pins s σ H _ I h) λus s1 ⟨vs,H1,I1,r1,q1⟩=>hc pins s1 σ H1 vs us Q I1 r1 q1) he hpl
end
end L2
namespace HT
open PySem PyProof.Rows
section
open PySem.SeqAt
open PySem.AutoSeq1 (wpAny_loadPart')
open PySem.MeetsSeq PySem.MeetsSeq2 PySem.MeetsSeq3
end
section
variable {prog:Program} {w:World} {A:Around} {E:Value->Shared->Prop} {s:Shared}
theorem PN (ht:IsTup s.heap t vs.toArray) (hb:IsTup s.heap b ws.toArray) (hv:vs≠[])
  (h1:ws=[]->Q (.ref t) s) (h2:ws≠[]->Q (.ref s.heap.objs.size) {s with heap:=s.heap.push {cls:=.type "tuple",data:=.seq (vs++ws).toArray}})
  (hsz:vs.length+ws.length<=sizeLine):wpAny (model prog w) A (binaryOp .Add (.ref t) (.ref b)) Q E s:=by
 obtain ⟨⟨cls,dd,data,sl⟩,ho,hc,n,hd⟩:=id ht;obtain ⟨⟨cls2,dd2,data2,sl2⟩,ho2,hc2,n2,hd2⟩:=id hb;simp only at hc hd hc2 hd2;subst hc hd hc2 hd2;have e:vs.toArray++ws.toArray=(vs++ws).toArray:=by simp
 by_cases hw:ws=[]
 ·exact concat_meets ⟨_,ho,rfl⟩ ⟨_,ho2,rfl⟩ noFill_tuple_add seq_tuple_add PySem.F.slot_tuple_add PySem.F.entry_tuple_add (PySem.F.args_tuple_add_2 _ _)
   (tuple_addW1 t b vs.toArray ws.toArray n n2 dd dd2 sl sl2 (by simpa using hv) (by simp [hw])) ⟨ho,ho2,h1 hw⟩
 ·refine concat_meets ⟨_,ho,rfl⟩ ⟨_,ho2,rfl⟩ noFill_tuple_add seq_tuple_add PySem.F.slot_tuple_add PySem.F.entry_tuple_add (PySem.F.args_tuple_add_2 _ _)
   (tuple_addW2 t b vs.toArray ws.toArray n n2 dd dd2 sl sl2 (by simpa using hv) (by simpa using hw) (by rw[size_toArray,size_toArray];exact hsz)) ⟨ho,ho2,?_⟩
  rw[e];exact h2 hw
noncomputable def cL (n d:Nat):Option Int->Nat
 |none=>d
 |some v=>if v<0 then (v+(n:Int)).toNat else min v.toNat n
theorem nE (n d:Nat):cL n d none=d:=rfl
theorem MU (n d k:Nat):cL n d (some (k:Int))=min k n:=by
 show (if (k:Int)<0 then ((k:Int)+(n:Int)).toNat else min (k:Int).toNat n)=min k n;rw[if_neg (by lia),toNat_natCast]
theorem TF (n d:Nat) (hd:d<=n) (o:Option Int):cL n d o<=n:=by
 cases o with
 |none=>exact hd
 |some v=>
  show (if v<0 then (v+(n:Int)).toNat else min v.toNat n)<=n;by_cases hv:v<0
  ·rw[if_pos hv];lia
  ·rw[if_neg hv];exact Nat.min_le_right _ _
theorem BI (v:Int) (n d:Nat):(if v<0 then max (v+(n:Int)) 0 else min v (n:Int))=((cL n d (some v):Nat):Int):=by
 show (if v<0 then max (v+(n:Int)) 0 else min v (n:Int))=(((if v<0 then (v+(n:Int)).toNat else min v.toNat n):Nat):Int);by_cases hv:v<0
 ·simp only [if_pos hv];lia
 ·simp only [if_neg hv];lia
theorem zN (lo hi:Option Int) (n:Nat):Builtin.Slice.sliceAdjust lo hi 1 (n:Int)=(((cL n 0 lo:Nat):Int),((cL n n hi:Nat):Int)):=by
 have h1:¬((1:Int)<0):=by lia
 unfold Builtin.Slice.sliceAdjust;simp only [h1,if_false];refine Prod.ext ?_ ?_
 ·cases lo with
  |none=>rfl
  |some v=>exact BI v n 0
 ·cases hi with
  |none=>rfl
  |some v=>exact BI v n n
theorem yJ (i j:Nat):Builtin.Slice.slicePlaces (i:Int) (j:Int) 1=j - i:=by
 unfold Builtin.Slice.slicePlaces;have h1:(1:Int)>0:=by lia
 simp only [h1,if_true,Int.ediv_one];split<;>lia
theorem nB (p:IsPart v o) (h:Q o s):wpAny (model prog w) A (Builtin.Slice.slicePartIndex v) Q E s:=by
 cases p with
 |none=>exact slicePart_none h
 |int i t=>exact slicePart_int h
theorem kR {sl:Addr} {vl vu:Value} {lo hi:Option Int} {n:Nat} {Q:Int × Int × Nat->Shared->Prop} (hs:s.heap.IsSliceOf sl vl vu .none) (pl:IsPart vl lo) (pu:IsPart vu hi)
  (h:Q (((cL n 0 lo:Nat):Int),1,cL n n hi - cL n 0 lo) s):wpAny (model prog w) A (Builtin.Slice.sliceApplied (.ref sl) (pure (n:Int))) Q E s:=by
 obtain ⟨os,hos,hcs,hds⟩:=id hs;unfold Builtin.Slice.sliceApplied Builtin.Slice.sliceFields;refine wpAny_bind (wpAny_bind (wpAny_field hos hds (x:=vl) rfl (wpAny_bind (wpAny_field hos hds (x:=vu) rfl (wpAny_bind (wpAny_field hos hds (x:=.none) rfl (wpAny_pure ?_)))))));refine wpAny_bind (slicePart_none ?_);show wpAny _ _ (if ((1:Int)==0)=true then _ else _) _ _ s;rw[if_neg (by decide)];refine wpAny_bind (nB pl (wpAny_bind (nB pu (wpAny_bind (wpAny_pure ?_)))));show wpAny _ _ (match Builtin.Slice.sliceAdjust lo hi 1 (n:Int) with|(lo,hi)=>pure (lo,(1:Int),Builtin.Slice.slicePlaces lo hi 1)) _ _ s;rw[zN lo hi n];show wpAny _ _ (pure (((cL n 0 lo:Nat):Int),(1:Int),Builtin.Slice.slicePlaces ((cL n 0 lo:Nat):Int) ((cL n n hi:Nat):Int) 1)) _ _ s;rw[yJ];exact wpAny_pure h
theorem GZ (xs:Array Value) (i k:Nat):((range k).filterMap λ(m:Nat)=>xs[((i:Int)+(m:Int) * 1).toNat]?).toArray=((xs.toList.drop i).take k).toArray:=by
 have e:(λ(m:Nat)=>xs[((i:Int)+(m:Int) * 1).toNat]?)=λm=>xs[i+m]?:=by
  funext m
  have:((i:Int)+(m:Int) * 1).toNat=i+m:=by lia
  rw[this]
 rw[e];have:=pick_run xs i k;rw[List.filterMap_map] at this;have e2:((λx=>xs[x]?)∘λx=>i+x)=λm=>xs[i+m]?:=rfl;rw[e2] at this;rw[this]
theorem jY {t sl:Addr} {items:Array Value} {vl vu:Value} {lo hi:Option Int} {Q:Value->Shared->Prop} (ht:IsTup s.heap t items) (hs:s.heap.IsSliceOf sl vl vu .none) (pl:IsPart vl lo) (pu:IsPart vu hi)
  (hw:¬(cL items.size 0 lo=0/\cL items.size items.size hi=items.size))
  (h:Q (.ref s.heap.objs.size) {s with heap:=s.heap.push {cls:=.type "tuple",data:=.seq ((items.toList.drop (cL items.size 0 lo)).take (cL items.size items.size hi - cL items.size 0 lo)).toArray}})
  (hsz:items.size<=sizeLine):wpAny (model prog w) A (getItem (.ref t) (.ref sl)) Q E s:=by
 have htake:sizeOk (.seq ((items.toList.drop (cL items.size 0 lo)).take (cL items.size items.size hi - cL items.size 0 lo)).toArray):=by
  show ((items.toList.drop (cL items.size 0 lo)).take (cL items.size items.size hi - cL items.size 0 lo)).toArray.size<=sizeLine;rw[size_toArray,length_take,length_drop,length_toList];lia
 have hj:cL items.size items.size hi<=items.size:=TF _ _ (Nat.le_refl _) hi;obtain ⟨os,hos,hcs,hds⟩:=id hs;have hTs:s.TypeIs (.ref sl) "slice":=⟨os,hos,hcs⟩;unfold getItem
 try with_reducible refine wpAny_holding ?_
 first|refine wpAny_bind (wpAny_pure ?_)|skip
 refine wpAny_bind (wpAny_sequenceKey ht.typeIs (by decide) ?_);refine wpAny_bind (wpAny_callSpecial?_slot (name:=Str.ofString "__getitem__") ht.typeIs PyProof.Rows.slot_tuple_getitem
  (wpAny_call_entry PyProof.Rows.slot_tuple_getitem ht.typeIs entry_tuple_getitem ?_ (args_tuple_getitem _ _)))
 show wpAny _ _ (Builtin.Tuple.tupleItemsOf (.ref t) >>=_) _ _ s;refine wpAny_bind (tupleItemsOf_ ht ?_);refine wpAny_bind (wpAny_typeOf hTs ?_);rw[if_pos (by decide)];refine wpAny_bind (kR hs pl pu ?_);have hno:¬((((cL items.size 0 lo:Nat):Int)==0&&(1:Int)==1&&(cL items.size items.size hi - cL items.size 0 lo)==items.size)=true):=by
  intro q;rw[and_eq_true,and_eq_true] at q;have q1:((cL items.size 0 lo:Nat):Int)=0:=eq_of_beq q.1.1;have q2:cL items.size items.size hi - cL items.size 0 lo=items.size:=eq_of_beq q.2;exact hw ⟨by lia,by lia⟩
 show wpAny _ _ (if (((cL items.size 0 lo:Nat):Int)==0&&(1:Int)==1&&(cL items.size items.size hi - cL items.size 0 lo)==items.size)=true then _ else _) _ _ s;rw[if_neg hno,GZ]
 first
  |exact wpAny_bind (m:=Builtin.Tuple.tupleExact _) (wpAny_newObj_type (wpAny_pure ⟨_,rfl,wpAny_pure h⟩) htake)
  |exact wpAny_bind (m:=Builtin.Tuple.tupleExact _) (wpAny_newObj_type (wpAny_bind (wpAny_pure (wpAny_pure ⟨_,rfl,wpAny_pure h⟩))) htake)
  |exact wpAny_bind (wpAny_bind (m:=Builtin.Tuple.tupleExact _) (wpAny_newObj_type (wpAny_pure (wpAny_pure ⟨_,rfl,wpAny_pure h⟩)) htake))
  |exact wpAny_bind (wpAny_bind (m:=Builtin.Tuple.tupleExact _) (wpAny_newObj_type (wpAny_pure ⟨_,rfl,wpAny_pure h⟩) htake))
end
end HT
namespace L2
open PySem PySem.Spec PyProof.Rows
noncomputable abbrev TO:=St->Hp->(Option Int->Hp->Prop)->Prop
noncomputable def PO (X:Cx) (e:Option Expr) (t:TO):Prop:=
 ∀(pins:List (Addr × Obj)) (s:Shared) (σ:St) (H:Hp) (Q:Option Int->Hp->Prop),Inv X pins σ H s->t σ H Q->
  wpAny (model X.prog X.w) X.A (evalPart e X.env) (λu s'=>∃o H',Inv X pins σ H' s'/\IsPart u o/\Q o H') X.xe s
noncomputable def zU:TO:=λ_ H Q=>Q none H
theorem intsAre_of:∀{us:List Value},Vals (ns.map V.int) us->IntsAre us ns:=by
 induction ns with
 |nil=>intro us r;rw[map_nil] at r;cases r;exact .nil
 |cons n ns ih=>
  intro us r;rw[map_cons] at r;cases r with
  |cons r1 r2=>
   obtain ⟨t,e⟩:=r1;subst e;exact .cons n t (ih r2)
section
variable {X:Cx} {e:Expr} {te:TE} {lo hi:Option Expr} {tl th:TO} {pos p2:Pos}
theorem NH:PO X none zU:=by
 intro pins s σ H Q I h;rw[evalPart_none];exact wpAny_pure ⟨none,H,I,.none,h⟩
noncomputable def Eg (X:Cx) (r:V->Option Int->Option Int->Hp->VK->Prop):Prop:=
 ∀(pins:List (Addr × Obj)) (s:Shared) (σ:St) (H:Hp) (x:V) (v vl vu:Value) (lo hi:Option Int) (sl:Addr) (Q:VK),Inv X pins σ H s->RelV x v->s.heap.IsSliceOf sl vl vu .none->IsPart vl lo->IsPart vu hi->r x lo hi H Q->
  ∃T id,typeLookup (.type T) "__getitem__"=pure (some (.builtin id))/\s.TypeIs v T/\wpAny (model X.prog X.w) X.A (getItem v (.ref sl)) (EP X pins σ Q) X.xe s
noncomputable def Hu (r:V->Option Int->Option Int->Hp->VK->Prop) (te:TE) (tl th:TO):TE:=λσ H Q=>te σ H λx H1=>tl σ H1 λl H2=>th σ H2 λu H3=>r x l u H3 Q
theorem HC (hr:Eg X r) (he:PE X e te) (hl:PO X lo tl) (hu:PO X hi th):PE X (.Subscript e (.Slice lo hi none p2) pos) (Hu r te tl th):=by
 intro pins s σ H Q I h;refine Subscript_ (bO (he pins s σ H _ I h) λv s1 ⟨x,H1,I1,r1,q1⟩=>?_);refine wpAny_Slice (bO (hl pins s1 σ H1 _ I1 q1) λvl s2 ⟨l,H2,I2,pl,q2⟩=>bO (hu pins s2 σ H2 _ I2 q2) λvu s3 ⟨u,H3,I3,pu,q3⟩=>?_);rw[evalPart_none];refine wpAny_pure ?_;have I4:Inv X pins σ H3 {s3 with heap:=s3.heap.push {cls:=.type "slice",data:=.fields #[vl,vu,.none]}}:=I3.kept (t':=s3.toks) λb ob q=>get?_push_of_some _ q;obtain ⟨T,id,hT,ht,hg⟩:=hr pins {s3 with heap:=s3.heap.push {cls:=.type "slice",data:=.fields #[vl,vu,.none]}} σ H3 x v vl vu l u s3.heap.objs.size Q I4 r1 (Heap.IsSliceOf.new ..) pl pu q3;show wpAny (model X.prog X.w) X.A (subscriptTail e (.Slice lo hi none p2) v (.ref s3.heap.objs.size)) (EP X pins σ Q) X.xe {s3 with heap:=s3.heap.push {cls:=.type "slice",data:=.fields #[vl,vu,.none]}};exact tail_any (ops:=[.ref s3.heap.objs.size,v]) ht hT hg (by with_unfolding_all rfl)
noncomputable def kC (xs:List V) (lo hi:Option Int):List V:=(xs.drop (HT.cL xs.length 0 lo)).take (HT.cL xs.length xs.length hi - HT.cL xs.length 0 lo)
theorem lM (xs:List V) (lo hi:Option Int):(kC xs lo hi).length<=xs.length:=by
 unfold kC;rw[length_take,length_drop];lia
noncomputable def Ah (K:Fg):V->Option Int->Option Int->Hp->VK->Prop:=λx lo hi H Q=>∃a xs,x=.ref a/\bX K H a xs/\
 ¬(HT.cL xs.length 0 lo=0/\HT.cL xs.length xs.length hi=xs.length)/\∀p,H p=none->Q (.ref p) (upd H p (.tup (kC xs lo hi)))
theorem SW:Eg X (Ah X.K):=by
 intro pins s σ H x v vl vu lo hi sl Q I rx hs pl pu h;obtain ⟨a,xs,rfl,hx,hw,q⟩:=h;cases rx;obtain ⟨its,r,ht,hz⟩:=I.tuple hx;have hlen:its.toArray.size=xs.length:=by rw[size_toArray];exact r.length.symm
 refine ⟨"tuple",_,PyProof.Rows.slot_tuple_getitem.lookup,ht.typeIs,?_⟩;refine HT.jY ht hs pl pu (by rw[hlen];exact hw) ?_ (by rw[hlen];exact hz);rw[hlen];refine ⟨.ref s.heap.objs.size,_,I.laid (t':=s.toks) (o:=.tup (kC xs lo hi)) (λb ob q=>get?_push_of_some _ q) (Nat.le_refl _) ?_,rfl,q _ (I.hok.fresh (Nat.le_refl _))⟩;exact ⟨Nat.le_trans (lM xs lo hi) hz,_,(r.drop (HT.cL xs.length 0 lo)).take (HT.cL xs.length xs.length hi - HT.cL xs.length 0 lo),IsTup.new _ _⟩
noncomputable def QY (K:Fg):R2:=λx y H Q=>∃a b xs ys,x=.ref a/\y=.ref b/\bX K H a xs/\bX K H b ys/\xs≠[]/\xs.length+ys.length<=sizeLine/\
 (ys=[]->Q (.ref a) H)/\(ys≠[]->∀p,H p=none->Q (.ref p) (upd H p (.tup (xs++ys))))
theorem Vals.nil_iff (r:Vals xs us):us=[]↔xs=[]:=by
 cases r with
 |nil=>simp
 |cons _ _=>simp
theorem NT:fA X (binaryOp .Add) (QY X.K):=by
 intro pins s σ H x y v u Q I rx ry h;obtain ⟨a,b,xs,ys,rfl,rfl,ha,hb,hx,hz,q1,q2⟩:=h;cases rx;cases ry;obtain ⟨its,r1,p1,_⟩:=I.tuple ha;obtain ⟨its2,r2,p2,_⟩:=I.tuple hb;refine HT.PN p1 p2 (λz=>hx (r1.nil_iff.mp z)) (λz=>⟨.ref a,H,I,rfl,q1 (r2.nil_iff.mp z)⟩) (λz=>?_) (by rw[<-r1.length,<-r2.length];exact hz);refine ⟨.ref s.heap.objs.size,_,I.laid (t':=s.toks) (o:=.tup (xs++ys)) (λb ob q=>get?_push_of_some _ q) (Nat.le_refl _) ?_,rfl,q2 (λw=>z (r2.nil_iff.mpr w)) _ (I.hok.fresh (Nat.le_refl _))⟩;exact ⟨by rw[length_append];exact hz,_,r1.append r2,IsTup.new _ _⟩
end
noncomputable def LZ (n:Nat) (i:Int):Option Nat:=if 0<=i then (if i<n then some i.toNat else none) else if -(n:Int)<=i then some (i+n).toNat else none
noncomputable def kL {α:Type} (xs:List α) (i:Int):Option α:=(LZ xs.length i).bind λj=>xs[j]?
theorem AS (h:LZ n i=some j):seqIndex? i n=some j/\j<n/\-(n:Int)<=i/\i<n:=by
 unfold LZ at h;by_cases h0:0<=i
 ·rw[if_pos h0] at h;by_cases h1:i<n
  ·rw[if_pos h1] at h;have e:i.toNat=j:=Option.some.inj h;exact ⟨by rw[seqIndex_of h0 h1,e],by lia,by lia,h1⟩
  ·rw[if_neg h1] at h;cases h
 ·rw[if_neg h0] at h;by_cases h1:-(n:Int)<=i
  ·rw[if_pos h1] at h;have e:(i+n).toNat=j:=Option.some.inj h;exact ⟨by rw[seqIndex_neg (by lia) h1,e],by lia,h1,by lia⟩
  ·rw[if_neg h1] at h;cases h
theorem mL {α:Type} {xs:List α} {i:Int} {v:α} (h:kL xs i=some v):∃j,seqIndex? i xs.length=some j/\xs[j]?=some v/\j<xs.length/\-(xs.length:Int)<=i/\i<xs.length:=by
 unfold kL at h;cases e:LZ xs.length i with
 |none=>rw[e] at h;cases h
 |some j=>
  rw[e] at h;obtain ⟨h1,h2,h3,h4⟩:=AS e;exact ⟨j,h1,h,h2,h3,h4⟩
theorem cH {α:Type} {xs:List α} {j:Nat} {v:α} (h:xs[j]?=some v):kL xs (j:Int)=some v:=by
 have hj:j<xs.length:=(List.getElem?_eq_some_iff.mp h).1;have e:LZ xs.length (j:Int)=some j:=by
  unfold LZ;rw[if_pos (by lia),if_pos (by lia)];simp
 unfold kL;rw[e];exact h
theorem LJ (xs:List α) (v:α):kL (xs++[v]) (-1)=some v:=by
 have hl:(xs++[v]).length=xs.length+1:=by simp
 have e:LZ (xs++[v]).length (-1)=some xs.length:=by
  unfold LZ;rw[hl,if_neg (by decide),if_pos (by lia)]
  congr 1
  lia
 unfold kL;rw[e];show (xs++[v])[xs.length]?=some v;simp
noncomputable def tP (b:Expr):Prop:=∀o i,subscripted b false o i=operate [o,i] (getItem o i)
noncomputable def YY (X:Cx) (r:R2):Prop:=
 ∀(value slice:Expr) (pins:List (Addr × Obj)) (s:Shared) (σ:St) (H:Hp) (x y:V) (v u:Value) (Q:VK),Inv X pins σ H s->RelV x v->RelV y u->r x y H Q->
  subscripted slice false v u=operate [v,u] (getItem v u)->wpAny (model X.prog X.w) X.A (subscriptTail value slice v u) (EP X pins σ Q) X.xe s
noncomputable def YH (X:Cx) (id:String) (r:V->List V->Hp->VK->Prop):Prop:=
 ∀(pins:List (Addr × Obj)) (s:Shared) (σ:St) (H:Hp) (x:V) (xs:List V) (v:Value) (us:List Value) (Q:VK),Inv X pins σ H s->RelV x v->Vals xs us->r x xs H Q->
  wpAny (model X.prog X.w) X.A (call (.builtin id) (v::us)) (EP X pins σ Q) X.xe s
section
variable {X:Cx} {a b:Expr} {ta tb:TE} {pos:Pos}
theorem Ay (hr:YY X r) (ha:PE X a ta) (hb:PE X b tb) (hs:tP b):PE X (.Subscript a b pos) (SS r ta tb):=by
 intro pins s σ H Q I h;exact Subscript_ (XW ha hb I h λv u s2 x y H2 I2 rx ry q=>hr a b pins s2 σ H2 x y v u Q I2 rx ry q (hs _ _))
noncomputable def An (K:Fg):R2:=λx y H Q=>∃p xs i v,x=.ref p/\y=.int i/\aM K H p xs/\kL xs i=some v/\Q v H
noncomputable def Am (K:Fg):R2:=λx y H Q=>∃p xs i v,x=.ref p/\y=.int i/\bX K H p xs/\kL xs i=some v/\Q v H
noncomputable def Fu:R2:=λx y H Q=>∃z i c,x=.str z/\y=.int i/\z.length<=sizeLine/\kL z.cps.toList i=some c/\Q (.str ⟨#[c]⟩) H
theorem OH:YY X (An X.K):=by
 intro value slice pins s σ H x y v u Q I rx ry h hs;obtain ⟨p,xs,i,z,rfl,rfl,hq,he,q⟩:=h;cases rx;obtain ⟨t,rfl⟩:=ry;obtain ⟨its,r,pl,hz⟩:=I.list hq;obtain ⟨j,h1,h2,h3,h4,h5⟩:=mL he;obtain ⟨w,ew,rw'⟩:=r.get h2;have hl:=r.length;have hn:=iT;have fin:EP X pins σ Q w s:=⟨z,H,I,rw',q⟩;by_cases h0:0<=i
 ·have hj:i.toNat=j:=by
   rw[seqIndex_of h0 h5] at h1;exact Option.some.inj h1
  exact item_listR pl.isList h0 (by lia) (by rw[hj];simpa using ew) fin hs
 ·have hj:(i+(its.toArray.size:Int)).toNat=j:=by
   rw[seqIndex_neg (by lia) h4] at h1;rw[size_toArray,<-hl];exact Option.some.inj h1
  exact subscriptTail_builtinR (x:=w) pl.isList.typeIs slot_list_getitem.lookup
   (wpAny_getItem_list_neg (Q:=λr s'=>r=w/\EP X pins σ Q r s') pl.isList (by lia) (by rw[size_toArray]<;>lia) (by lia) (by rw[hj];simpa using ew) ⟨rfl,fin⟩) hs
theorem VQ:YY X (Am X.K):=by
 intro value slice pins s σ H x y v u Q I rx ry h hs;obtain ⟨p,xs,i,z,rfl,rfl,hq,he,q⟩:=h;cases rx;obtain ⟨t,rfl⟩:=ry;obtain ⟨its,r,pl,hz⟩:=I.tuple hq;obtain ⟨j,h1,h2,h3,h4,h5⟩:=mL he;obtain ⟨w,ew,rw'⟩:=r.get h2;have hl:=r.length;have hn:=iT;have fin:EP X pins σ Q w s:=⟨z,H,I,rw',q⟩;exact subscriptTail_builtinR (x:=w) pl.typeIs slot_tuple_getitem.lookup
  (getItem_tuple (j:=j) (Q:=λr s'=>r=w/\EP X pins σ Q r s') pl (by lia) (by lia) (by rw[size_toArray,<-hl];exact h1) (by simpa using ew) ⟨rfl,fin⟩) hs
theorem VR:YY X Fu:=by
 intro value slice pins s σ H x y v u Q I rx ry h hs;obtain ⟨z,i,c,rfl,rfl,hz,he,q⟩:=h;obtain ⟨t,rfl⟩:=rx;obtain ⟨t',rfl⟩:=ry;obtain ⟨j,h1,h2,h3,h4,h5⟩:=mL he;have hl:z.cps.toList.length=z.length:=by simp [Str.length]
 rw[hl] at h1 h4 h5;have hn:=iT;exact tail_any (typeIs_str s z t) slot_str_getitem.lookup (getItem_str (c:=c) (by
  have e1:decide (i< -(2 ^ 63:Int))=false:=decide_eq_false (by lia)
  have e2:decide (i>=2 ^ 63)=false:=decide_eq_false (by lia)
  rw[e1,e2,Bool.or_false]) (by rw[h1];simpa using h2) ⟨.str ⟨#[c]⟩,H,I.tok _,⟨_,rfl⟩,q⟩) hs
theorem yQ (its:List Value) (n j:Nat) (u:Value):Obj.mapSeq (·.setIfInBounds j u) {cls:=.type "list",data:=.seq its.toArray n}={cls:=.type "list",data:=.seq (its.set j u).toArray n}:=by
 simp [Obj.mapSeq]
theorem Inv.lst {pins:List (Addr × Obj)} {σ:St} {H:Hp} {s:Shared} {p:Addr} {xs:List V} (I:Inv X pins σ H s) (h:H p=some (.lst xs)):
  ∃(its:List Value) (n:Nat),Vals xs its/\s.heap.get? p=some {cls:=.type "list",data:=.seq its.toArray n}/\xs.length<=sizeLine:=by
 obtain ⟨z,its,n,r,e⟩:=I.hok p _ h;exact ⟨its,n,r,e,z⟩
theorem Inv.lstUpd {pins:List (Addr × Obj)} {σ:St} {H:Hp} {s:Shared} {p:Addr} {xs ys:List V} {its its':List Value} {n n':Nat} {f:Obj->Obj} (I:Inv X pins σ H s) (h:H p=some (.lst xs))
  (ho:s.heap.get? p=some {cls:=.type "list",data:=.seq its.toArray n}) (hf:f {cls:=.type "list",data:=.seq its.toArray n}={cls:=.type "list",data:=.seq its'.toArray n'}) (r:Vals ys its') (hz:ys.length<=sizeLine) (t:Nat):
  Inv X pins σ (upd H p (.lst ys)) {s with heap:=s.heap.update p f,toks:=t}:=by
 have e:(s.heap.update p f).get? p=some {cls:=.type "list",data:=.seq its'.toArray n'}:=by
  rw[get?_update_self f ho (by rw[hf]<;>rfl),hf]
 refine I.write (x:=p) (e:=p) (by rw[h];trivial) (.inl rfl) (λb u hb q=>(get?_update_other _ _ (Ne.symm hb)).trans q) ⟨_,e⟩ ?_;exact ⟨hz,its',n',r,e⟩
noncomputable def QU:V->V->V->Hp->(Hp->Prop)->Prop:=λo i v H Q=>∃p xs k j,o=.ref p/\i=.int k/\H p=some (.lst xs)/\LZ xs.length k=some j/\Q (upd H p (.lst (xs.set j v)))
theorem set_list:YE X QU:=by
 intro pins s σ H o i v ov iv u Q I ro ri rv h;obtain ⟨p,xs,k,j,rfl,rfl,hp,hj,q⟩:=h;cases ro;obtain ⟨t,rfl⟩:=ri;obtain ⟨its,n,r,ho,hz⟩:=I.lst hp;obtain ⟨h1,h2,h3,h4⟩:=AS hj;have hl:=r.length;have hn:=iT;have I':Inv X pins σ (upd H p (.lst (xs.set j v))) {s with heap:=s.heap.update p (Obj.mapSeq (·.setIfInBounds j u))}:=
  I.lstUpd hp ho (yQ its n j u) (r.set rv j) (by rw[length_set];exact hz) s.toks
 by_cases h0:0<=k
 ·have hk:k.toNat=j:=by
   rw[seqIndex_of h0 h4] at h1;exact Option.some.inj h1
  exact PySem.W.ki_setAt ho h0 (by lia) (by rw[size_toArray,<-hl];exact h4) (by rw[hk];exact ⟨_,I',q⟩)
 ·have hk:(k+(its.toArray.size:Int)).toNat=j:=by
   rw[seqIndex_neg (by lia) h3] at h1;rw[size_toArray,<-hl];exact Option.some.inj h1
  exact PySem.W.ki_setBack ho (by lia) (by rw[size_toArray,<-hl];exact h3) (by lia) (by rw[hk];exact ⟨_,I',q⟩)
theorem rZ (lo hi:Option Int) (n:Nat):(sliceBounds lo hi none n).1=((HT.cL n 0 lo:Nat):Int)/\(sliceBounds lo hi none n).2.1=((HT.cL n n hi:Nat):Int)/\(sliceBounds lo hi none n).2.2=1:=by
 refine ⟨?_,?_,rfl⟩
 ·cases lo with
  |none=>simp [sliceBounds,HT.cL]
  |some i=>
   simp only [sliceBounds,HT.cL,Option.getD_none,show (1:Int)>0 by decide,if_true];by_cases h:i<0
   ·simp only [h,if_true]<;>lia
   ·simp only [h,if_false]<;>lia
 ·cases hi with
  |none=>simp [sliceBounds,HT.cL]
  |some i=>
   simp only [sliceBounds,HT.cL,Option.getD_none,show (1:Int)>0 by decide,if_true];by_cases h:i<0
   ·simp only [h,if_true]<;>lia
   ·simp only [h,if_false]<;>lia
theorem pE (its:List Value) (lo hi:Option Int):slicePick its.toArray lo hi none=((its.drop (HT.cL its.length 0 lo)).take (HT.cL its.length its.length hi - HT.cL its.length 0 lo)).toArray:=by
 obtain ⟨h1,h2,h3⟩:=rZ lo hi its.toArray.size;unfold slicePick;rw[h1,h2,h3];simp only [sliceRange_one,pick_run,size_toArray]<;>rfl
noncomputable def Ai (K:Fg):V->Option Int->Option Int->Hp->VK->Prop:=λx lo hi H Q=>∃a xs,x=.ref a/\aM K H a xs/\∀p,H p=none->Q (.ref p) (upd H p (.lst (kC xs lo hi)))
theorem MP:Eg X (Ai X.K):=by
 intro pins s σ H x v vl vu lo hi sl Q I rx hs pl pu h;obtain ⟨a,xs,rfl,hx,q⟩:=h;cases rx;obtain ⟨its,r,ht,hz⟩:=I.list hx;have hlen:=r.length;refine ⟨"list",_,slot_list_getitem.lookup,ht.isList.typeIs,?_⟩;refine wpAny_getItem_list_slice ht.isList hs pl pu .none (by simp) ?_ (by rw[size_toArray]<;>lia);rw[pE,<-hlen];refine ⟨.ref s.heap.objs.size,_,I.laid (t':=s.toks) (o:=.lst (kC xs lo hi)) (λb ob q=>get?_push_of_some _ q) (Nat.le_refl _) ?_,rfl,q _ (I.hok.fresh (Nat.le_refl _))⟩;exact ⟨Nat.le_trans (lM xs lo hi) hz,_,0,(r.drop (HT.cL xs.length 0 lo)).take (HT.cL xs.length xs.length hi - HT.cL xs.length 0 lo),get?_push_size _ rfl⟩
noncomputable def gR:V->Bool
 | .non=>true
 | .bl _=>true
 | .int _=>true
 | .str _=>true
 |_=>false
noncomputable def RP:V->V->Bool
 | .non,.non=>true
 | .bl a,.bl b=>a==b
 | .bl a,.int b=>(if a then 1 else 0)==b
 | .int a,.bl b=>a==(if b then 1 else 0)
 | .int a,.int b=>a==b
 | .str a,.str b=>a==b
 |_,_=>false
theorem XH (ry:RelV y u) (rx:RelV x v) (fy:gR y=true) (fx:gR x=true):SeqAt.EqAt A s u v (RP y x):=by
 cases y with
 |non=>
  cases ry;cases x with
  |non=>cases rx;exact SeqAt.EqAt.same _
  |bl b=>cases rx;exact SeqAt.EqAt.none_bool b
  |int b=>obtain ⟨t,rfl⟩:=rx;exact SeqAt.EqAt.none_int b t
  |str b=>obtain ⟨t,rfl⟩:=rx;exact SeqAt.EqAt.none_str b t
  |_=>exact absurd (show false=true from fx) Bool.false_ne_true
 |bl a=>
  cases ry;cases x with
  |non=>cases rx;exact SeqAt.EqAt.bool_none a
  |bl b=>cases rx;exact SeqAt.EqAt.bool_bool a b
  |int b=>obtain ⟨t,rfl⟩:=rx;exact SeqAt.EqAt.bool_int a b t
  |str b=>obtain ⟨t,rfl⟩:=rx;exact SeqAt.EqAt.bool_str a b t
  |_=>exact absurd (show false=true from fx) Bool.false_ne_true
 |int a=>
  obtain ⟨t',rfl⟩:=ry;cases x with
  |non=>cases rx;exact SeqAt.EqAt.int_none a t'
  |bl b=>cases rx;exact SeqAt.EqAt.int_bool a t' b
  |int b=>obtain ⟨t,rfl⟩:=rx;exact SeqAt.EqAt.int_int a t' b t
  |str b=>obtain ⟨t,rfl⟩:=rx;exact SeqAt.EqAt.int_str a t' b t
  |_=>exact absurd (show false=true from fx) Bool.false_ne_true
 |str a=>
  obtain ⟨t',rfl⟩:=ry;cases x with
  |non=>cases rx;exact SeqAt.EqAt.str_none a t'
  |bl b=>cases rx;exact SeqAt.EqAt.str_bool a t' b
  |int b=>obtain ⟨t,rfl⟩:=rx;exact SeqAt.EqAt.str_int a t' b t
  |str b=>obtain ⟨t,rfl⟩:=rx;exact SeqAt.EqAt.str_str a t' b t
  |_=>exact absurd (show false=true from fx) Bool.false_ne_true
 |_=>exact absurd (show false=true from fy) Bool.false_ne_true
noncomputable def zH (x:V) (u:Value):Bool:=match u with
 | .none=>RP .non x
 | .bool b=>RP (.bl b) x
 | .int i _=>RP (.int i) x
 | .str z _=>RP (.str z) x
 |_=>false
theorem JT (r:RelV y u) (f:gR y=true):zH x u=RP y x:=by
 cases y with
 |non=>cases r;rfl
 |bl b=>cases r;rfl
 |int i=>obtain ⟨t,rfl⟩:=r;rfl
 |str z=>obtain ⟨t,rfl⟩:=r;rfl
 |_=>exact absurd (show false=true from f) Bool.false_ne_true
theorem kH:∀{xs:List V} {us:List Value},Vals xs us->xs.all gR=true->us.any (zH x)=xs.any λy=>RP y x
 |_,_,.nil,_=>rfl
 |y::xs,u::us,.cons r t,f=>by
  rw[List.all_cons,and_eq_true] at f;rw[any_cons,any_cons,JT r f.1,kH t f.2]
theorem gJ (rx:RelV x v) (fx:gR x=true):∀{xs:List V} {us:List Value},Vals xs us->xs.all gR=true->∀u∈us,SeqAt.EqAt A s u v (zH x u)
 |_,_,.nil,_=>λu hu=>by cases hu
 |y::xs,u::us,.cons r t,f=>λu' hu=>by
  rw[List.all_cons,and_eq_true] at f;rcases mem_cons.mp hu with rfl|hu
  ·rw[JT r f.1];exact XH r rx f.1 fx
  ·exact gJ rx fx t f.2 u' hu
noncomputable def YT (x:V) (xs:List V):Bool:=xs.any λy=>RP y x
noncomputable def Fy (K:Fg) (neg:Bool):R2:=λx y H Q=>∃p xs,y=.ref p/\(aM K H p xs\/bX K H p xs)/\gR x=true/\xs.all gR=true/\Q (.bl (if neg then !YT x xs else YT x xs)) H
theorem CW:fA X (compareOp .In) (Fy X.K false):=by
 intro pins s σ H x y v u Q I rx ry h;obtain ⟨p,xs,rfl,hq,fx,fs,q⟩:=h;cases ry;rcases hq with hq|hq
 ·obtain ⟨its,r,pl,hz⟩:=I.list hq;refine SeqAt.in_listAt (zH x) pl.isList (λw hw=>gJ rx fx r fs w (by simpa using hw)) ⟨.bl _,H,I,rfl,?_⟩;rw[show its.toArray.any (zH x)=its.any (zH x) by simp,kH r fs];exact q
 ·obtain ⟨its,r,pl,hz⟩:=I.tuple hq;refine SeqAt.in_tupleAt (zH x) pl (λw hw=>gJ rx fx r fs w (by simpa using hw)) ⟨.bl _,H,I,rfl,?_⟩;rw[show its.toArray.any (zH x)=its.any (zH x) by simp,kH r fs];exact q
theorem sR:fA X (compareOp .NotIn) (Fy X.K true):=by
 intro pins s σ H x y v u Q I rx ry h;obtain ⟨p,xs,rfl,hq,fx,fs,q⟩:=h;cases ry;rcases hq with hq|hq
 ·obtain ⟨its,r,pl,hz⟩:=I.list hq;refine SeqAt.notIn_listAt (zH x) pl.isList (λw hw=>gJ rx fx r fs w (by simpa using hw)) ⟨.bl _,H,I,rfl,?_⟩;rw[show its.toArray.any (zH x)=its.any (zH x) by simp,kH r fs];exact q
 ·obtain ⟨its,r,pl,hz⟩:=I.tuple hq;refine SeqAt.notIn_tupleAt (zH x) pl (λw hw=>gJ rx fx r fs w (by simpa using hw)) ⟨.bl _,H,I,rfl,?_⟩;rw[show its.toArray.any (zH x)=its.any (zH x) by simp,kH r fs];exact q
theorem sQ:fA X (compareOp .NotIn) (λx y H Q=>∃i j,x=.str i/\y=.str j/\Q (.bl (!(!(Builtin.Str.occurrences j i 0 j.length 1).isEmpty))) H):=by
 intro pins s σ H x y v u Q I rx ry h;obtain ⟨i,j,rfl,rfl,q⟩:=h;obtain ⟨t,rfl⟩:=rx;obtain ⟨t',rfl⟩:=ry;exact notIn_str ⟨.bl _,H,I,rfl,q⟩
theorem tH:bZ X (.type "list") (λxs H Q=>∃p ys,xs=[.ref p]/\(aM X.K H p ys\/bX X.K H p ys)/\∀l,H l=none->Q (.ref l) (upd H l (.lst ys))):=by
 intro pins s σ H xs us Q I r h;obtain ⟨p,ys,rfl,hq,q⟩:=h;obtain ⟨u,rfl,rx⟩:=vals1 r;cases rx;have fin:∀(its:List Value),Vals ys its->ys.length<=sizeLine->∀(h':Heap) (c':Nat),(∀b o',s.heap.get? b=some o'->h'.get? b=some o')->
   h'.get? s.heap.objs.size=some {cls:=.type "list",dict:=none,data:=.seq its.toArray c',slots:=#[]}->EP X pins σ Q (.ref s.heap.objs.size) {s with heap:=h'}:=λits r' hz h' c' kp e=>
  ⟨.ref s.heap.objs.size,_,I.laid (t':=s.toks) kp (Nat.le_refl _) (show aY X.prog X.w _ h' _ (.lst ys) from ⟨hz,its,c',r',e⟩),rfl,q _ (I.hok.fresh (Nat.le_refl _))⟩
 rcases hq with hq|hq
 ·obtain ⟨its,r',pl,hz⟩:=I.list hq;have hlen:=r'.length;obtain ⟨o,ho,hc,n,hd⟩:=pl.isList;exact call_list_seq p (.inl rfl) ho hc hd (λh' c' kp e=>fin its r' hz h' c' kp e) (by simp only [size_toArray]<;>lia)
 ·obtain ⟨its,r',pl,hz⟩:=I.tuple hq;have hlen:=r'.length;obtain ⟨o,ho,hc,n,hd⟩:=pl;exact call_list_seq p (.inr rfl) ho hc hd (λh' c' kp e=>fin its r' hz h' c' kp e) (by simp only [size_toArray]<;>lia)
theorem iK:bZ X (.type "tuple") (λxs H Q=>∃p ys,xs=[.ref p]/\((aM X.K H p ys/\∀l,H l=none->Q (.ref l) (upd H l (.tup ys)))\/(bX X.K H p ys/\Q (.ref p) H))):=by
 intro pins s σ H xs us Q I r h;obtain ⟨p,ys,rfl,h⟩:=h;obtain ⟨u,rfl,rx⟩:=vals1 r;cases rx;rcases h with ⟨hq,q⟩|⟨hq,q⟩
 ·obtain ⟨its,r',pl,hz⟩:=I.list hq;have hlen:=r'.length;refine call_tuple_list pl.isList (λh' kp=>?_) (by simp only [size_toArray]<;>lia);have I1:Inv X pins σ H {s with heap:=h'}:=I.kept (t':=s.toks) kp;have I2:Inv X pins σ (upd H h'.objs.size (.tup ys)) {s with heap:=h'.push {cls:=.type "tuple",data:=.seq its.toArray}}:=
   I1.laid (t':=s.toks) (λb o e=>get?_push_of_some _ e) (Nat.le_refl _) (show aY X.prog X.w _ _ _ (.tup ys) from ⟨hz,its,r',IsTup.new _ _⟩)
  exact ⟨.ref h'.objs.size,_,I2,rfl,q _ (I1.hok.fresh (Nat.le_refl _))⟩
 ·obtain ⟨its,r',pl,hz⟩:=I.tuple hq;exact call_tuple_same pl ⟨.ref p,H,I,rfl,q⟩
noncomputable def Fh (K:Fg) (T:String) (x:V) (H:Hp):Prop:=match x with
 | .str _=>T="str"
 | .int _=>T="int"
 | .ref p=>(T="list"/\∃xs,aM K H p xs)\/(T="tuple"/\∃o,K.lookup p=some o/\o.cls=.type "tuple"/\o.dict=none)\/
   (T="dict"/\((∃kvs,H p=some (.dK kvs))\/∃kvs,H p=some (.dT kvs)))\/(T="set"/\∃S n,H p=some (.set S n))
 |_=>False
theorem FH (I:Inv X pins σ H s) (r:RelV x v) (ty:Fh X.K T x H):
  s.TypeIs v T/\∀a,v=.ref a->∃ob,s.heap.get? a=some ob/\ob.dict=none:=by
 cases x with
 |str z=>
  obtain ⟨t,rfl⟩:=r;cases (show T="str" from ty);exact ⟨typeIs_str s z t,λ_ e=>nomatch e⟩
 |int i=>
  obtain ⟨t,rfl⟩:=r;cases (show T="int" from ty);exact ⟨typeIs_int s i t,λ_ e=>nomatch e⟩
 |ref p=>
  cases r;rcases ty with ⟨rfl,xs,hq⟩|⟨rfl,o,hk,hc,hd⟩|⟨rfl,hk⟩|⟨rfl,S,n,hk⟩
  ·obtain ⟨its,_,pl,_⟩:=I.list hq;refine ⟨pl.isList.typeIs,λa e=>?_⟩;cases e;obtain ⟨o,n,e,c,hd,_⟩:=pl;exact ⟨o,e,hd⟩
  ·refine ⟨⟨o,I.kIn p o hk,hc⟩,λa e=>?_⟩;cases e;exact ⟨o,I.kIn _ o hk,hd⟩
  ·have z:∃o,s.heap.get? p=some o/\o.ExactDict:=by
    rcases hk with ⟨kvs,hk⟩|⟨kvs,hk⟩
    ·obtain ⟨_,_,_,_,o,_,_,e,ex,_⟩:=I.hok p _ hk;exact ⟨o,e,ex⟩
    ·obtain ⟨_,_,_,_,o,_,_,e,ex,_⟩:=I.hok p _ hk;exact ⟨o,e,ex⟩
   obtain ⟨o,e,ex⟩:=z;refine ⟨⟨o,e,ex.1⟩,λa e2=>?_⟩;cases e2;exact ⟨o,e,ex.2.1⟩
  ·obtain ⟨o,_,_,_,e,ex,_⟩:=I.hok p _ hk;refine ⟨⟨o,e,ex.1⟩,λa e2=>?_⟩;cases e2;exact ⟨o,e,ex.2.1⟩
 |_=>exact False.elim ty
variable {o e:Expr} {es:List Expr} {to:TE} {t:TA} {name:Str} {apos cpos:Pos} {T id:String} {r:V->List V->Hp->VK->Prop}
end
noncomputable def RZ (X:Cx) (id:String) (r:V->List V->Hp->VK->Prop):Prop:=
 ∀(pins:List (Addr × Obj)) (s:Shared) (σ:St) (H:Hp) (x:V) (xs:List V) (v:Value) (us:List Value) (Q:VK),Inv X pins σ H s->RelV x v->Vals xs us->r x xs H Q->
  wpAny (model X.prog X.w) X.A (call (.builtin id) (v::us)) (EP X pins σ Q) X.xe s
theorem Vals.one:∀{x:V} {us:List Value},Vals [x] us->∃u,us=[u]/\RelV x u
 |_,_,.cons r .nil=>⟨_,rfl,r⟩
theorem Vals.two:∀{x y:V} {us:List Value},Vals [x,y] us->∃u v,us=[u,v]/\RelV x u/\RelV y v
 |_,_,_,.cons r (.cons q .nil)=>⟨_,_,rfl,r,q⟩
theorem Vals.zero:∀{us:List Value},Vals [] us->us=[]
 |_,.nil=>rfl
theorem Vals.dropLast (h:Vals xs us):Vals xs.dropLast us.dropLast:=by
 induction h with
 |nil=>exact .nil
 |cons r t ih=>
  cases t with
  |nil=>exact .nil
  |cons q t'=>exact .cons r ih
theorem Vals.reverse {xs:List V} {us:List Value} (h:Vals xs us):Vals xs.reverse us.reverse:=by
 induction h with
 |nil=>exact .nil
 |cons r t ih=>rw[List.reverse_cons,List.reverse_cons];exact Vals.append ih (.cons r .nil)
theorem Vals.rep (h:Vals xs us):∀k:Nat,Vals (replicate k xs).flatten (replicate k us).flatten
 |0=>.nil
 |k+1=>by
  rw[replicate_succ,replicate_succ,flatten_cons,flatten_cons];exact Vals.append h (Vals.rep h k)
theorem zG (l:List α):l.eraseIdx (l.length - 1)=l.dropLast:=by
 induction l with
 |nil=>rfl
 |cons a r ih=>
  cases r with
  |nil=>rfl
  |cons b r=>
   have e:(a::b::r).length - 1=((b::r).length - 1)+1:=by
    have h1:(a::b::r).length=r.length+2:=rfl;have h2:(b::r).length=r.length+1:=rfl;lia
   rw[e,List.eraseIdx_cons_succ,ih]
   all_goals rfl
theorem foldl_rep (its:List Value):∀(k:Nat) (acc:List Value),
  foldl (λx1 x2=>x1++x2) acc.toArray (replicate k its.toArray)=(acc++(replicate k its).flatten).toArray
 |0,acc=>by simp
 |k+1,acc=>by
  have e:acc.toArray++its.toArray=(acc++its).toArray:=by simp
  have e2:(acc++its)++(replicate k its).flatten=acc++(replicate (k+1) its).flatten:=by
   rw[replicate_succ,flatten_cons,List.append_assoc]
  rw[<-e2,<-foldl_rep its k (acc++its),<-e,replicate_succ,foldl_cons]
section
variable {X:Cx} {pins:List (Addr × Obj)} {σ:St} {H:Hp} {s:Shared} {l b:Addr} {xs ys zs:List V}
theorem Inv.lset {its its':List Value} {n:Nat} {f:Array Value->Array Value} {t':Nat} (I:Inv X pins σ H s) (hH:H l=some (.lst xs))
  (e:s.heap.get? l=some {cls:=.type "list",data:=.seq its.toArray n}) (hf:f its.toArray=its'.toArray) (hv:Vals ys its') (hz:ys.length<=sizeLine):
  Inv X pins σ (upd H l (.lst ys)) {s with heap:=s.heap.update l (Obj.mapSeq f),toks:=t'}:=by
 have q:=PySem.IsL.update e f;rw[hf] at q;refine I.write (x:=l) (e:=l) (by rw[hH];exact trivial) (.inl rfl) (λb' u hb hu=>(get?_update_other s.heap (Obj.mapSeq f) (Ne.symm hb)).trans hu) ⟨_,q⟩ ?_;exact ⟨hz,its',_,hv,q⟩
theorem Inv.lnew (I:Inv X pins σ H s) (hv:Vals ys its) (hz:ys.length<=sizeLine):
  Inv X pins σ (upd H s.heap.objs.size (.lst ys)) {s with heap:=s.heap.push {cls:=.type "list",data:=.seq its.toArray},toks:=t'}:=
 I.laid (λ_ _ q=>get?_push_of_some _ q) (Nat.le_refl _) ⟨hz,its,0,hv,get?_push_size _ rfl⟩
theorem Inv.fresh (I:Inv X pins σ H s):H s.heap.objs.size=none:=I.hok.fresh (Nat.le_refl _)
theorem Inv.lstM (I:Inv X pins σ H s) (hH:H l=some (.lst xs)):xs.length<=sizeLine/\∃(its:List Value) (n:Nat),Vals xs its/\xs.length=its.length/\s.heap.get? l=some {cls:=.type "list",data:=.seq its.toArray n}:=by
 obtain ⟨z,its,n,r,e⟩:=I.hok l _ hH;exact ⟨z,its,n,r,r.length,e⟩
theorem HQ (h:n<=sizeLine):Builtin.List.listTooLong n=false:=by
 unfold Builtin.List.listTooLong;exact decide_eq_false (by lia)
end
section
variable {X:Cx}
noncomputable def mD:V->List V->Hp->VK->Prop:=λx vs H Q=>∃l xs y,x=.ref l/\vs=[y]/\H l=some (.lst xs)/\xs.length<sizeLine/\Q .non (upd H l (.lst (xs++[y])))
theorem qE:RZ X "list.append" mD:=by
 intro pins s σ H x vs v us Q I rx rv h;obtain ⟨l,xs,y,rfl,rfl,hH,hz,q⟩:=h;cases rx;obtain ⟨u,rfl,ru⟩:=rv.one;obtain ⟨z,its,n,r,hl,e⟩:=I.lstM hH;refine call_meets F.slot_list_append ⟨_,e,rfl⟩ F.entry_list_append (F.args_list_append_2 _ _) (PySem.list_append l its.toArray n u (by rw[size_toArray];lia)) ⟨e,?_⟩;refine ⟨.non,_,I.lset (its':=its++[u]) hH e (by simp) (r.append (.cons ru .nil)) ?_,rfl,q⟩;rw[length_append,List.length_singleton];lia
noncomputable def MX:V->List V->Hp->VK->Prop:=λx vs H Q=>∃l xs y,x=.ref l/\vs=[]/\H l=some (.lst xs)/\xs[xs.length - 1]?=some y/\Q y (upd H l (.lst xs.dropLast))
theorem VE:RZ X "list.pop" MX:=by
 intro pins s σ H x vs v us Q I rx rv h;obtain ⟨l,xs,y,rfl,rfl,hH,hy,q⟩:=h;cases rx;have hus:=rv.zero;subst hus;obtain ⟨z,its,n,r,hl,e⟩:=I.lstM hH;obtain ⟨u,hu,ru⟩:=r.get hy;have hy':its.toArray[its.toArray.size - 1]?=some u:=by
  show its.toArray[its.length - 1]?=some u;rw[<-getElem?_toList,<-hl];exact hu
 refine call_meets F.slot_list_pop ⟨_,e,rfl⟩ F.entry_list_pop (F.args_list_pop_1 _) (MeetsSeq.list_pop_last l its.toArray n u hy' (by rw[size_toArray];lia)) ⟨e,?_⟩;refine ⟨y,_,I.lset (its':=its.dropLast) hH e ?_ r.dropLast ?_,ru,q⟩
 ·show its.toArray.eraseIdxIfInBounds (its.toArray.size - 1)=its.dropLast.toArray;rw[size_toArray,List.eraseIdxIfInBounds_toArray,zG]
 ·rw[List.length_dropLast];lia
noncomputable def Ar:R2:=λx y H Q=>∃l b xs zs,x=.ref l/\y=.ref b/\H l=some (.lst xs)/\H b=some (.lst zs)/\xs.length+zs.length<=sizeLine/\∀p,H p=none->Q (.ref p) (upd H p (.lst (xs++zs)))
theorem UZ:fA X (binaryOp .Add) Ar:=by
 intro pins s σ H x y v u Q I rx ry h;obtain ⟨l,b,xs,zs,rfl,rfl,hH,hB,hz,q⟩:=h;cases rx;cases ry;obtain ⟨z,its,n,r,hl,e⟩:=I.lstM hH;obtain ⟨z2,its2,n2,r2,hl2,e2⟩:=I.lstM hB;refine PySem.P.add_list e e2 ?_ (by rw[size_toArray,size_toArray];lia);have ea:its.toArray++its2.toArray=(its++its2).toArray:=by simp
 rw[ea];exact ⟨.ref _,_,I.lnew (t':=s.toks) (r.append r2) (by rw[length_append];lia),rfl,q _ I.fresh⟩
noncomputable def Aj:R2:=λx y H Q=>∃l k xs,x=.ref l/\y=.int k/\H l=some (.lst xs)/\-(2 ^ 63)<=k/\k<2 ^ 63/\xs.length * k.toNat<=sizeLine/\
 ∀p,H p=none->Q (.ref p) (upd H p (.lst (replicate k.toNat xs).flatten))
theorem len_rep (xs:List α) (k:Nat):(replicate k xs).flatten.length=k * xs.length:=by
 induction k with
 |zero=>simp
 |succ k ih=>rw[replicate_succ,flatten_cons,length_append,ih,Nat.succ_mul,Nat.add_comm]
theorem UP:fA X (binaryOp .Mult) Aj:=by
 intro pins s σ H x y v u Q I rx ry h;obtain ⟨l,k,xs,rfl,rfl,hH,h1,h2,hz,q⟩:=h;cases rx;obtain ⟨t,rfl⟩:=ry;obtain ⟨z,its,n,r,hl,e⟩:=I.lstM hH;have hlen:its.toArray.size * k.toNat<=sizeLine:=by rw[size_toArray,<-hl];exact hz
 have hcap:¬its.toArray.size * k.toNat>(2 ^ 63 - 1) / 8:=by
  have:(sizeLine:Nat)<=(2 ^ 63 - 1) / 8:=by decide
  lia
 have hfit:¬(!Builtin.List.listFitsIndex k)=true:=by
  rw[fitsIndex_both h1 h2];exact Bool.false_ne_true
 have hlong:¬Builtin.List.listTooLong (its.toArray.size * k.toNat)=true:=by
  rw[HQ hlen];exact Bool.false_ne_true
 have hnew:foldl (λx1 x2=>x1++x2) #[] (replicate (if its.toArray.isEmpty=true then 0 else k.toNat) its.toArray)=(replicate k.toNat its).flatten.toArray:=by
  have f0:∀m:Nat,foldl (λx1 x2=>x1++x2) #[] (replicate m its.toArray)=(replicate m its).flatten.toArray:=λm=>by
   have:=foldl_rep its m [];rw[nil_append] at this;exact this
  rw[f0];cases its with
  |nil=>simp
  |cons a r'=>rw[if_neg (by simp)]
 refine wpAny_binaryOp_repeat_ref (T:="list") (U:="int") (by decide) ⟨_,e,rfl⟩ (λs'=>typeIs_int s' k t) noFill_list_mul F.fills_int_mul F.slot_int_rmul repeat_list F.slot_int_index.lookup
  (call_meets F.slot_int_rmul (typeIs_int s k t) F.entry_int_rmul (F.args_int_rmul_2 _ _) (int___rmul___int_list k t l its.toArray n)
   ⟨e,rfl,⟨_,e,rfl⟩,call_meets F.slot_list_mul ⟨_,e,rfl⟩ F.entry_list_mul (F.args_list_mul_2 _ _) (AutoListH.list___mul___list_int_3 l its.toArray n k t hfit hcap hlong) ⟨e,?_⟩⟩)
 rw[hnew];exact ⟨.ref _,_,I.lnew (t':=s.toks) (r.rep k.toNat) (by rw[len_rep,Nat.mul_comm];exact hz),rfl,q _ I.fresh⟩
end
section
variable {prog:Program} {w:World} {A:Around} {E:Value->Shared->Prop} {s:Shared}
end
section
variable {X:Cx}
end
end L2
namespace Att
open PySem PySem.W PySem.Calls PyProof.Rows
theorem lU:∀(ns:List Int) (vs:List Value),WellAll P h vs (ns.map WData.int)->IntsAre vs ns:=by
 intro ns;induction ns with
 |nil=>
  intro vs w;rw[map_nil] at w;cases w;exact .nil
 |cons n ns ih=>
  intro vs w;rw[map_cons] at w;cases w with
  |cons a b=>
   cases a;exact .cons _ _ (ih _ b)
theorem CM {l:OpenLaw} {n:Nat} (hn:l.most=some n) {P:Params} {h:Heap} {args:List WData} {vals:List Value}
  (hpre:l.row.toRowW.claim.pre args=true) (hwl:WellAll P h vals args):
  ∃a vs ns,vals=[Value.ref a]/\args=[WData.list (ns.map WData.int)]/\h.get? a=some {cls:=.type "list",data:=.seq vs.toArray}/\IntsAre vs ns/\ns.length<=n:=by
 have hsh:WShape.hasAll [] args [.list .int]=true:=(pre_splitW hpre).1;have hc:l.pre.holds [] {args:=args}=true:=(pre_splitW hpre).2;obtain ⟨d,r,rfl,h1,h2⟩:=hasAllW_cons hsh;obtain rfl:=hasAllW_nil h2;obtain ⟨xs,rfl,h3⟩:=hasW_list h1;obtain ⟨ns,rfl⟩:=items_int h3;have hlen:ns.length<=n:=by
  unfold OpenLaw.pre at hc;have h4:(WTm.not (.lt (.lit (.int (n:Int))) (.len (.arg 0)))).holds [] {args:=[.list (ns.map .int)]}=true:=by
   have h4:=(holds_andW hc).1;rw[hn] at h4;exact h4
  have h5:=condW_of h4 (w_not (w_lt w_lit (w_len_list (w_arg rfl))));rw[length_map] at h5;refine Nat.le_of_not_lt λq=>?_;have q':(n:Int)<((ns.length:Nat):Int):=by lia
  first
   | (rw[decide_eq_true q'] at h5;exact absurd h5 (by decide))
   | (simp at h5;lia)
 cases hwl with
 |cons w1 w2=>
  cases w2;cases w1 with
  |list ho hall=>exact ⟨_,_,ns,rfl,rfl,ho,lU ns _ hall,hlen⟩
theorem CQ (l:OpenLaw) (args:List WData):l.row.toRowW.claim.post args (.bool true) args=true:=
 postW_of (r:=l.row.toRowW) (X:=(true==true))
  (show WShape.has [] (.bool true) .bool=true by first|rfl|decide|simp [WShape.has,WShape.arms,WShape.armsAll])
  (show (WTm.eq .res (.lit (.bool true))).value [] {args:=args,res:=some (.bool true),after:=args}=some (.bool (true==true)) from w_eq_bool (w_res rfl) w_lit) rfl
theorem wV {l:OpenLaw} {n:Nat} {q:Program} {loose:List Str} {XP:(Str->Option Value)->Heap->Prop} {YP:World->Heap->Prop} {d:DefRec}
  (hn:l.most=some n) (hdf:d.params.defaults=[])
  (call:∀(w:World) (s₀ aa:Shared) (mg mb:Str->Option Value) (fa:Addr) (o:Obj) (pm cd doc:Value) (a:Addr) (vs:List Value) (ns:List Int),
   Ground q loose [] XP w s₀ mg mb aa.heap->YP w aa.heap->
   aa.heap.get? fa=some o->o.data=.func (docDef d.name d.params d.body d.scope pm cd doc)->aa.heap.CodeRec cd d.name->mg d.name=some (.ref fa)->
   aa.heap.get? a=some {cls:=.type "list",data:=.seq vs.toArray}->IntsAre vs ns->ns.length<=n->aa.gens=#[]->
   codeAny (model l.prog w) callerA (.call (.ref fa) ⟨[.ref a],[]⟩) (λr s'=>r=.ok (.ret (.bool true))/\OldK aa.heap s'.heap/\s'.os=aa.os/\AllBare s'.gens) aa):
  WalkO q loose XP YP l.row.toRowW d [] (λf vs=>PySem.call f vs):=by
 intro w s₀ aa mg mb G Y fa o pm cd doc dV kV ho hd hcd hD hmg hg args vals as hpre hlay hrd hwl hlo;obtain rfl:dV=.none:=Dflts.none hD hdf;obtain rfl:kV=.none:=Dflts.noKw hD;obtain ⟨a,vs,ns,rfl,rfl,hobj,hints,hlen⟩:=CM hn hpre hwl;refine enter_call (codeAny_mono (call w s₀ aa mg mb fa o pm cd doc a vs ns G Y ho (fd_plain hd) hcd hmg hobj hints hlen hg) λr s' hq=>?_);obtain ⟨rfl,h2,h3,h4⟩:=hq;exact ⟨.inl ⟨.bool true,.bool true,[],rfl,λ_=>rfl,.bool true,CQ l _,λ_=>⟨Pairwise.nil,λ_ hm=>(nomatch hm)⟩⟩,h2,h3,h4⟩
section
variable {prog:Program} {w:World} {A:Around} {E:Value->Shared->Prop} {s:Shared} {K:Frag}
theorem PR {dV kV doc pm cdv ct oc:Value}
  (X:K.In s.heap) (hlim:s.heap.NoLimit) (ho:K.lookup f=some ⟨oc,od,.func (fnOf name qual params body scope dV kV doc pm an cdv ct),osl⟩) (hcd:codeIn K cdv qual=true) (hroom:A.depth<recursionLimit)
  (hbind:BindsTo s (fnOf name qual params body scope dV kV doc pm an cdv ct) args binds)
  (hkind:(binds.all λy=>scope.names.lookup y.1==some .local || scope.names.lookup y.1==some .cell)=true)
  (h:∀aa,InCallC s s.heap.objs.size (bindL (envOfC qual scope s.heap.objs.size f cdv).kindOf binds λ_=>none) (cellsFrom (s.heap.objs.size+1) scope.names [])
    (bindC (envOfC qual scope s.heap.objs.size f cdv).kindOf binds λ_=>none) aa->
   wpAny (model prog w) (A.deeper (envOfC qual scope s.heap.objs.size f cdv)) (execs body (envOfC qual scope s.heap.objs.size f cdv))
    (λfl s'=>R (.ok (.ret (match fl with| .ret v=>v|_=>.none))) s')
    (λe s'=>wpAny (model prog w) (A.deeper (envOfC qual scope s.heap.objs.size f cdv)) (leaving (envOfC qual scope s.heap.objs.size f cdv) e) (λ_ s''=>R (.error e) s'') (λe' s''=>R (.error e') s'') s') aa)
  (hco:scope.isCoroutine=false) (hgen:scope.isGenerator=false) (hk:scope.kind=.function):codeAny (model prog w) A (.call (.ref f) args) R s:=by
 refine codeAny_call_function hroom (X _ _ ho) rfl hco hgen rfl (codeRec_of X hcd) (hbind _ _ _ _ ?_);refine wpAny_newFunctionEnv_cells hk (kindsX hkind _) λenv he aa x=>?_;subst he;exact ⟨hlim.keeps x.toInCall.keep,codeAny_func (h aa x)⟩
end
end Att
namespace L2
open PySem PySem.Spec PyProof.Rows
theorem eQ:∀{vs:List Value} {ns:List Int},IntsAre vs ns->Vals (ns.map V.int) vs
 |_,_,.nil=>.nil
 |_,_,.cons n t h=>.cons ⟨t,rfl⟩ (eQ h)
noncomputable def YF (H:Hp):Prop:=∀b,H b=none\/∃o xs,H b=some (.frz o (.lst xs))
theorem IK {P:Program} {w:World} {K:Fg} {mg mb:Str->Option Value} {CX:LV} {k:Nat} {fa a:Addr} {fd:FuncData} {x:Str} {sp:Sp} {aa:Shared} {vs:List Value} {ns:List Int}
  (KX:K.In aa.heap) (hns:aa.heap.Ns mainGlobals mg) (hb:aa.heap.Ns builtinsNs mb) (hbb:∀x:Str,x≠"__name__"->mb x=bootBuiltins x) (hlim:aa.heap.NoLimit) (hg:aa.gens=#[])
  (ha:aa.heap.get? a=some {cls:=.type "list",data:=.seq vs.toArray}) (hi:IntsAre vs ns) (hl:ns.length<=sizeLine) (hr:dA k callerA)
  (F:∀base:Heap,K.In base->base.Ns mainGlobals mg->zQ P w K mg base CX k fa fd [x] sp) (hbind:∀(s:Shared) (u:Value),BindsTo s fd ⟨[u],[]⟩ [(x,u)])
  (hsp:∀H:Hp,YF H->aM K H a (ns.map V.int)->sp [.ref a] H (λv _=>v=.bl true) λ_ _ _=>False)
  (hCX:∀H e s',CX [] H aa (λ_ _ _=>False) e s'->False):
  codeAny (model P w) callerA (.call (.ref fa) ⟨[.ref a],[]⟩) (λr s'=>r=.ok (.ret (.bool true))/\OldK aa.heap s'.heap/\s'.os=aa.os/\AllBare s'.gens) aa:=by
 have rv:=eQ hi;have lenV:=hi.length;have core:∀H:Hp,YF H->aM K H a (ns.map V.int)->dY P w H aa.heap->(∀b,H b≠none->b=a)->(H a≠none->K.lookup a=none)->
   codeAny (model P w) callerA (.call (.ref fa) ⟨[.ref a],[]⟩) (λr s'=>r=.ok (.ret (.bool true))/\OldK aa.heap s'.heap/\s'.os=aa.os/\AllBare s'.gens) aa:=by
  intro H hO hS hok hA hK;have base_of:∀{b:Addr} {o:Obj},aa.heap.get? b=some o->H b=none->(tD aa.heap H).get? b=some o:=λe n=>JL e n;have noA:∀{b:Addr} {o:Obj} {es:Array DictEntry} {ep:Nat},aa.heap.get? b=some o->o.data=.dict es ep->H b=none:=λ{b o es ep} e d=>by
   cases q:H b with
   |none=>rfl
   |some u=>
    have e':b=a:=hA b (by rw[q];simp);subst e';rw[ha] at e;cases e;have d':Data.seq vs.toArray _=Data.dict es ep:=d;cases d'
  have nsK:∀{b:Addr} {m:Str->Option Value},aa.heap.Ns b m->(tD aa.heap H).Ns b m:=λ{b m} ⟨o,es,ep,e,d,r⟩=>⟨o,es,ep,base_of e (noA e d),d,r⟩;have hKb:K.In (tD aa.heap H):=λb o e=>base_of (KX b o e) (by
   cases q:H b with
   |none=>rfl
   |some u=>
    have e':b=a:=hA b (by rw[q];simp)
    subst e'
    rw[hK (by rw[q];simp)] at e;cases e)
  have hM:Mod K mg (tD aa.heap H):=⟨hKb,nsK hns,⟨mb,nsK hb,hbb⟩,let ⟨mc,h1,h2⟩:=hlim;⟨mc,nsK h1,h2⟩⟩;have e0:QE P w K mg (tD aa.heap H) callerA [] aa H:=⟨rfl,hM,λb o e=>NV e,le_of_eq (DO _ _),trivial,λb hb=>absurd (show b∈([]:List Addr) from hb) (by simp),hok,.of_eq hg⟩;refine codeAny_mono ((F _ hKb (nsK hns)).run callerA [] aa H ⟨[.ref a],[]⟩ [.ref a] [.ref a] _ _ hr e0 (hbind aa (.ref a)) (.cons rfl .nil) (hsp H hO hS)) λr s' h=>?_;cases r with
  |error e=>exact (hCX H e s' h).elim
  |ok fl=>
   cases fl with
   |next=>exact False.elim h
   |brk=>exact False.elim h
   |cont=>exact False.elim h
   |ret u=>
    obtain ⟨v,H',os,bare,un,hok',r',q⟩:=h;have q':v=.bl true:=q;subst q';obtain rfl:u=Value.bool true:=r';refine ⟨rfl,OldK.of_keep λb o e=>?_,os,bare⟩;cases q:H b with
    |none=>exact un.keep b o e q (by intro z;exact absurd (show b∈([]:List Addr) from z) (by simp)) (by simp)
    |some u=>
     rcases hO b with z|⟨ob,xs,z⟩
     ·rw[q] at z;cases z
     ·have z2:=un.frzs b ob _ z;obtain ⟨e1,_⟩:=hok b _ z;obtain ⟨e2,_⟩:=hok' b _ z2;rw[e] at e1;cases e1;exact e2
 cases hk:K.lookup a with
 |some o=>
  have e:=KX a o hk;rw[ha] at e;cases e;refine core (λ_=>none) (λ_=>.inl rfl) (.inr ⟨_,vs.toArray,_,hk,rfl,rfl,rfl,by rw[size_toArray,lenV];exact hl,by simpa using rv⟩) (λb u z=>by have z':(none:Option HO)=some u:=z;cases z') (λb z=>absurd rfl z) λz=>absurd rfl z
 |none=>
  refine core (λb=>if b=a then some (.frz {cls:=.type "list",data:=.seq vs.toArray} (.lst (ns.map V.int))) else none) (λb=>?_) (.inl (.inr ⟨{cls:=.type "list",data:=.seq vs.toArray},if_pos rfl⟩)) (λb u z=>?_) (λb z=>?_) λ_=>hk
  ·by_cases hb:b=a
   ·exact .inr ⟨_,_,if_pos hb⟩
   ·exact .inl (if_neg hb)
  ·by_cases hb:b=a
   ·have z':=(if_pos hb).symm.trans z;cases z';subst hb;exact ⟨ha,by rw[length_map];exact hl,vs,_,rv,ha⟩
   ·have z':=(if_neg hb).symm.trans z;cases z'
  ·by_cases hb:b=a
   ·exact hb
   ·exact absurd (if_neg hb) z
theorem ME {l:PySem.W.OpenLaw} {n k:Nat} {q:Program} {loose:List Str} {XP:(Str->Option Value)->Heap->Prop} {YP:World->Heap->Prop} {d:DefRec} {K:Params->Fg} {CX:World->LV} {sp:World->Sp} {x:Str}
  (hn:l.most=some n) (hn2:n<=sizeLine) (hdf:d.params.defaults=[]) (hr:dA k callerA)
  (hY:∀(w:World) (h:Heap),YP w h->(K w.params).In h)
  (F:∀(w:World) (mg:Str->Option Value) (fa:Addr) (h:Heap),(K w.params).In h->h.Ns mainGlobals mg->mg d.name=some (.ref fa)->
   ∃fd:FuncData,(∀(s:Shared) (u:Value),BindsTo s fd ⟨[u],[]⟩ [(x,u)])/\
    ∀base:Heap,(K w.params).In base->base.Ns mainGlobals mg->zQ l.prog w (K w.params) mg base (CX w) k fa fd [x] (sp w))
  (hsp:∀(w:World) (H:Hp) (a:Addr) (ns:List Int),ns.length<=n->YF H->aM (K w.params) H a (ns.map V.int)->sp w [.ref a] H (λv _=>v=.bl true) λ_ _ _=>False)
  (hCX:∀(w:World) (H:Hp) (s:Shared) (e:Value) (s':Shared),CX w [] H s (λ_ _ _=>False) e s'->False):
  PySem.W.WalkO q loose XP YP l.row.toRowW d [] (λf vs=>PySem.call f vs):=by
 refine Att.wV hn hdf λw s₀ aa mg mb fa o pm cd doc a vs ns G Y ho hd hcd hmg hobj hints hlen hg=>?_;have KX:=hY w _ Y;obtain ⟨fd,hb,hF⟩:=F w mg fa _ KX G.T.g hmg;exact IK KX G.T.g G.T.b G.T.builtins G.T.nolimit hg hobj hints (Nat.le_trans hlen hn2) hr hF hb (λH hO hS=>hsp w H a ns hlen hO hS) λH e s'=>hCX w H aa e s'
noncomputable def cR (s:Stmt):Arguments:=match s with
 | .FunctionDef _ a _ _ _ _ _ _ _ _=>a
 |_=>{posonlyargs:=[],args:=[],vararg:=none,kwonlyargs:=[],kw_defaults:=[],kwarg:=none,defaults:=[]}
noncomputable def bE (s:Stmt):List Stmt:=match s with
 | .FunctionDef _ _ b _ _ _ _ _ _ _=>b
 |_=>[]
noncomputable def aO (s:Stmt):Scope:=match s with
 | .FunctionDef _ _ _ _ _ _ sc _ _ _=>sc
 |_=>{kind:=.function,names:=[],isGenerator:=false,isCoroutine:=false}
noncomputable abbrev E0:XK:=λ_ _ _=>False
structure Eo (K:Fg) (x qual:Str) (st:Stmt) (f:Addr) (fd:FuncData):Prop where
 ex:∃(oc:Value) (od:Option Addr) (kV doc pm:Value) (an:Option Addr) (cdv ct:Value) (osl:Array (Option Value)),
  fd=PySem.W.fnOf x qual (cR st) (bE st) (aO st) .none kV doc pm an cdv ct/\K.lookup f=some ⟨oc,od,.func fd,osl⟩/\PySem.W.codeIn K cdv qual=true
 kp:PySem.W.keepIn K (.ref f)=true
section
variable {P:Program} {w:World} {K:Fg} {mg:Str->Option Value} {base:Heap}
theorem Eo.binds {x qual:Str} {st:Stmt} {f:Addr} {fd:FuncData} {ps:List Str} (F:Eo K x qual st f fd)
  (h:∀(kV doc pm:Value) (an:Option Addr) (cdv ct:Value) (us:List Value),us.length=ps.length->bindArgs (PySem.W.fnOf x qual (cR st) (bE st) (aO st) .none kV doc pm an cdv ct) ⟨us,[]⟩=pure (ps.zip us)):Binds K fd ps []:=by
 obtain ⟨oc,od,kV,doc,pm,an,cdv,ct,osl,rfl,lk,hcd⟩:=F.ex;exact .all (h kV doc pm an cdv ct)
theorem XB {x qual:Str} {st:Stmt} {f:Addr} {oc:Value} {od an:Option Addr} {osl:Array (Option Value)} {kV doc pm cdv ct:Value} (l:K.lookup f=some ⟨oc,od,.func (PySem.W.fnOf x qual (cR st) (bE st) (aO st) .none kV doc pm an cdv ct),osl⟩)
  (c:PySem.W.codeIn K cdv qual=true) (k:PySem.W.keepIn K (.ref f)=true):Eo K x qual st f (PySem.W.fnOf x qual (cR st) (bE st) (aO st) .none kV doc pm an cdv ct):=⟨⟨oc,od,kV,doc,pm,an,cdv,ct,osl,rfl,l,c⟩,k⟩
end
theorem CK (h:n<=1000):n<sizeLine:=Nat.lt_of_le_of_lt h (by decide)
section
variable {X:Cx}
end
noncomputable def aC (H H':Hp):Prop:=∀b o,H b=some o->H' b=some o
theorem aC.refl (H:Hp):aC H H:=λ_ _ h=>h
theorem aC.trans (a:aC H H1) (b:aC H1 H2):aC H H2:=λc o h=>b c o (a c o h)
theorem aC.seq {K:Fg} {H H':Hp} {a:Addr} {xs:List V} (e:aC H H') (h:aM K H a xs):aM K H' a xs:=by
 rcases h with (h|⟨o,h⟩)|h
 ·exact .inl (.inl (e _ _ h))
 ·exact .inl (.inr ⟨o,e _ _ h⟩)
 ·exact .inr h
section
variable {κ:Type} [DecidableEq κ]
noncomputable def cU (kvs:List (κ × V)) (k:κ):Option V:=(kvs.find? λkv=>decide (kv.1=k)).map (·.2)
noncomputable def putK (kvs:List (κ × V)) (k:κ) (v:V):List (κ × V):=
 if (kvs.any λkv=>decide (kv.1=k))=true then kvs.map (λkv=>if kv.1=k then (kv.1,v) else kv) else kvs++[(k,v)]
theorem fZ {p:κ × V} {r:List (κ × V)} {k:κ} (e:p.1=k):cU (p::r) k=some p.2:=by simp [cU,find?_cons,e]
theorem dM {p:κ × V} {r:List (κ × V)} {k:κ} (e:¬p.1=k):cU (p::r) k=cU r k:=by simp [cU,find?_cons,e]
theorem jA (k:κ):∀kvs:List (κ × V),(kvs.any λkv=>decide (kv.1=k))=(cU kvs k).isSome
 |[]=>rfl
 |p::r=>by
  rw[any_cons];by_cases e:p.1=k
  ·simp only [fZ e,decide_eq_true e,Bool.true_or,Option.isSome_some]
  ·rw[dM e,decide_eq_false e,Bool.false_or];exact jA k r
theorem gM (kvs:List (κ × V)) (k:κ) (v:V):(putK kvs k v).length<=kvs.length+1:=by
 unfold putK;split
 ·rw[length_map];lia
 ·rw[length_append,length_cons,length_nil];lia
theorem iX.isSome_eq (r:iX o u):o.isSome=u.isSome:=by
 cases o with
 |none=>cases u with
  |none=>rfl
  |some _=>exact (show False from r).elim
 |some _=>cases u with
  |none=>exact (show False from r).elim
  |some _=>rfl
theorem iX.getD (r:iX o u) (rd:RelV d d'):RelV (o.getD d) (u.getD d'):=by
 cases o with
 |none=>cases u with
  |none=>exact rd
  |some _=>exact (show False from r).elim
 |some _=>cases u with
  |none=>exact (show False from r).elim
  |some _=>exact r
theorem KV.val {kvs:List (κ × V)} (r:KV kvs vs) (k:κ):iX (cU kvs k) (valueAt vs k):=by
 unfold KV at r;induction r with
 |nil=>exact tI
 |@cons p q ps qs h t ih=>
  obtain ⟨h1,h2⟩:=h;by_cases e:p.1=k
  ·have e':q.1=k:=h1.symm.trans e;have b:valueAt (q::qs) k=some q.2:=by simp [valueAt,find?_cons,e']
   rw[fZ e,b];exact h2
  ·have e':¬q.1=k:=λz=>e (h1.trans z);have b:valueAt (q::qs) k=valueAt qs k:=by simp [valueAt,find?_cons,e']
   rw[dM e,b];exact ih
theorem KV.any {kvs:List (κ × V)} {vs:List (κ × Value)} (r:KV kvs vs) (k:κ):(kvs.any λkv=>decide (kv.1=k))=vs.any λkv=>decide (kv.1=k):=by
 unfold KV at r;induction r with
 |nil=>rfl
 |cons h t ih=>rw[any_cons,any_cons,ih,h.1]
theorem KV.repl {kvs:List (κ × V)} (r:KV kvs vs) (k:κ) (ry:RelV y u):
  KV (kvs.map λkv=>if kv.1=k then (kv.1,y) else kv) (vs.map λkv=>if kv.1=k then (kv.1,u) else kv):=by
 unfold KV at r ⊢;induction r with
 |nil=>exact .nil
 |@cons p q ps qs h t ih=>
  rw[map_cons,map_cons];refine .cons ?_ ih;obtain ⟨h1,h2⟩:=h;by_cases e:p.1=k
  ·rw[if_pos e,if_pos (h1.symm.trans e)];exact ⟨h1,ry⟩
  ·rw[if_neg e,if_neg (λz=>e (h1.trans z))];exact ⟨h1,h2⟩
theorem KV.put {kvs:List (κ × V)} (r:KV kvs vs) (k:κ) (ry:RelV y u):KV (putK kvs k y) (stored vs k u):=by
 unfold putK stored;rw[r.any k];by_cases e:(vs.any λkv=>decide (kv.1=k))=true
 ·rw[if_pos e,if_pos e];exact r.repl k ry
 ·rw[if_neg e,if_neg e];exact Paired.snoc r ⟨rfl,ry⟩
theorem KV.keys {kvs:List (κ × V)} {vs:List (κ × Value)} (r:KV kvs vs):kvs.map (·.1)=vs.map (·.1):=by
 unfold KV at r;induction r with
 |nil=>rfl
 |cons h t ih=>rw[map_cons,map_cons,ih,h.1]
theorem KV.length {kvs:List (κ × V)} {vs:List (κ × Value)} (r:KV kvs vs):kvs.length=vs.length:=Paired.length r
end
theorem qG (r:RelV (kV k) u):(aX P w).is k u=true:=by
 cases k with
 |inl i=>obtain ⟨t,e⟩:=(show ∃t,u=Value.int i t from r);subst e;exact vK P w i t
 |inr x=>obtain ⟨t,e⟩:=(show ∃t,u=Value.str x t from r);subst e;exact vJ P w x t
theorem qH:∀{ks:List Key} {us:List Value},Vals (ks.map kV) us->ItemsAre (aX P w) ks us
 |[],_,r=>by rw[map_nil] at r;cases r;exact .nil
 |k::ks,_,r=>by
  rw[map_cons] at r;cases r with
  |cons h t=>exact .cons (qG h) (qH t)
noncomputable abbrev KT (H:Hp):List (List Key × V)->List (List Key × Addr × Value)->Prop:=Paired λp q=>p.1=q.1/\H q.2.1=some (.tup (p.1.map kV))/\RelV p.2 q.2.2
theorem KT.val {kvs:List (List Key × V)} (r:KT H kvs xs) (k:List Key):iX (cU kvs k) ((atKey xs k).map (·.2)):=by
 induction r with
 |nil=>exact tI
 |@cons p q ps qs h t ih=>
  obtain ⟨h1,_,h2⟩:=h;by_cases e:p.1=k
  ·have e':q.1=k:=h1.symm.trans e;have b:atKey (q::qs) k=some q.2:=by simp [atKey,find?_cons,e']
   rw[fZ e,b];exact h2
  ·have e':¬q.1=k:=λz=>e (h1.trans z);have b:atKey (q::qs) k=atKey qs k:=by simp [atKey,find?_cons,e']
   rw[dM e,b];exact ih
theorem KT.repl {kvs:List (List Key × V)} (r:KT H kvs xs) (k:List Key) (ry:RelV y u):
  KT H (kvs.map λkv=>if kv.1=k then (kv.1,y) else kv) (xs.map (putAt k u)):=by
 induction r with
 |nil=>exact .nil
 |@cons p q ps qs h t ih=>
  rw[map_cons,map_cons];refine .cons ?_ ih;obtain ⟨h1,h2,h3⟩:=h;unfold putAt;by_cases e:p.1=k
  ·rw[if_pos e,if_pos (h1.symm.trans e)];exact ⟨h1,h2,ry⟩
  ·rw[if_neg e,if_neg (λz=>e (h1.trans z))];exact ⟨h1,h2,h3⟩
theorem KT.put {kvs:List (List Key × V)} (r:KT H kvs xs) (k:List Key) (hb:H b=some (.tup (k.map kV))) (ry:RelV y u):
  KT H (putK kvs k y) (storedH xs k b u):=by
 have e:(kvs.any λkv=>decide (kv.1=k))=(atKey xs k).isSome:=by
  rw[jA,(r.val k).isSome_eq,Option.isSome_map]
 unfold putK storedH;rw[e];by_cases q:(atKey xs k).isSome=true
 ·rw[if_pos q,if_pos q];exact r.repl k ry
 ·rw[if_neg q,if_neg q];exact Paired.snoc r ⟨rfl,hb,ry⟩
theorem KT.keeps {kvs:List (List Key × V)} (r:KT H kvs xs) (ht:∀b ys,H b=some (.tup ys)->H' b=some (.tup ys)):KT H' kvs xs:=
 Paired.mapP r λ_ _ z=>⟨z.1,ht _ _ z.2.1,z.2.2⟩
section
variable {P:Program} {w:World} {H:Hp} {h:Heap} {a:Addr}
theorem QR (ok:dY P w H h) (e:Rd H a u):aY P w H h a u:=e.ok ok
theorem qT {kvs:List (Key × V)} (ok:dY P w H h) (e:Rd H a (.dK kvs)):kvs.length<=sizeLine/\(a==sysModules)=false/\∃vs,KV kvs vs/\h.DictOf (aX P w) a vs:=
 show aY P w H h a (.dK kvs) from QR ok e
theorem JW {kvs:List (Key × V)} (ok:dY P w H h) (e:H a=some (.dK kvs)):kvs.length<=sizeLine/\(a==sysModules)=false/\∃vs,KV kvs vs/\h.DictOf (aX P w) a vs:=qT ok (.inl e)
theorem nU (ok:dY P w H h) (e:H a=some (.tup (ks.map kV))):(tupleKind (aX P w)).is h ks a:=by
 obtain ⟨_,its,r,o,h1,h2,n,h3⟩:=(show aY P w H h a (.tup (ks.map kV)) from ok a _ e);exact ⟨o,its.toArray,n,h1,h2,h3,by simpa using qH r⟩
theorem wB {kvs:List (List Key × V)} (ok:dY P w H h) (e:Rd H a (.dT kvs)):kvs.length<=sizeLine/\(a==sysModules)=false/\
  ∃xs,KT H kvs xs/\h.DictOfH (tupleKind (aX P w)) a xs:=by
 obtain ⟨z,y,xs,r,o,es,ep,h1,h2,h3,h4,h5⟩:=(show aY P w H h a (.dT kvs) from QR ok e);refine ⟨z,y,xs,r,o,es,ep,h1,h2,h3,h4,λx hx=>?_,h5⟩;have all:∀{l:List (List Key × V)} {m:List (List Key × Addr × Value)},KT H l m->∀x∈m,(tupleKind (aX P w)).is h x.1 x.2.1:=by
  intro l m q;induction q with
  |nil=>intro x hx;exact nomatch hx
  |@cons p q ps qs hq t ih=>
   intro x hx;rcases mem_cons.mp hx with e|hx
   ·subst e;exact nU ok (by rw[<-hq.1];exact hq.2.1)
   ·exact ih x hx
 exact all r x hx
theorem Du {kvs:List (List Key × V)} (ok:dY P w H h) (e:H a=some (.dT kvs)):kvs.length<=sizeLine/\(a==sysModules)=false/\
  ∃xs,KT H kvs xs/\h.DictOfH (tupleKind (aX P w)) a xs:=wB ok (.inl e)
end
noncomputable def eN (H:Hp) (a:Addr) (y:V) (r:Option V):Prop:=
 (∃kvs k,Rd H a (.dK kvs)/\y=kV k/\r=cU kvs k)\/∃kvs k b,Rd H a (.dT kvs)/\y=.ref b/\H b=some (.tup (k.map kV))/\r=cU kvs k
noncomputable def EN (H:Hp) (a:Addr) (y v:V) (H':Hp):Prop:=
 (∃kvs k,H a=some (.dK kvs)/\y=kV k/\kvs.length<sizeLine/\H'=upd H a (.dK (putK kvs k v)))\/
 ∃kvs k b,H a=some (.dT kvs)/\y=.ref b/\H b=some (.tup (k.map kV))/\kvs.length<sizeLine/\H'=upd H a (.dT (putK kvs k v))
theorem eN.k {H:Hp} {a:Addr} {kvs:List (Key × V)} {k:Key} (e:H a=some (.dK kvs)):eN H a (kV k) (cU kvs k):=.inl ⟨kvs,k,.inl e,rfl,rfl⟩
theorem EN.k {H:Hp} {a:Addr} {kvs:List (Key × V)} {k:Key} {v:V} (e:H a=some (.dK kvs)) (hl:kvs.length<sizeLine):EN H a (kV k) v (upd H a (.dK (putK kvs k v))):=.inl ⟨kvs,k,e,rfl,hl,rfl⟩
section
variable {X:Cx} {pins:List (Addr × Obj)} {σ:St} {H:Hp} {s:Shared} {a:Addr} {y v:V} {u r:Value} {o:Option V} {A:Around} {E:Value->Shared->Prop}
theorem Inv.big (I:Inv X pins σ H s):sysModules<s.heap.objs.size:=by
 have h:mainGlobals<s.heap.objs.size:=(I.mod.glob.keeps I.bk).lt;exact Nat.lt_trans (by decide) h
theorem DT (hu:A.units+1<cLine) (I:Inv X pins σ H s) (g:eN H a y (some v)) (ry:RelV y u) (h:∀w' s',Inv X pins σ H s'->RelV v w'->Q w' s'):
  wpAny (model X.prog X.w) A (getItem (.ref a) u) Q E s:=by
 rcases g with ⟨kvs,k,e,ey,l⟩|⟨kvs,k,b,e,ey,eb,l⟩
 ·subst ey;obtain ⟨z,hd,vs,rel,dd⟩:=qT I.hok e;obtain ⟨w',hw,rw'⟩:=iX.some_of (v:=v) (o:=valueAt vs k) (by rw[l];exact rel.val k);exact wpAny_getItem_of (qG ry) dd.mapOf hw (h w' _ (I.tok _) rw')
 ·subst ey;cases (show u=Value.ref b from ry);obtain ⟨z,hd,xs,rel,dd⟩:=wB I.hok e;obtain ⟨w',hw,rw'⟩:=iX.some_of (v:=v) (o:=(atKey xs k).map (·.2)) (by rw[l];exact rel.val k);obtain ⟨p,hp,hp2⟩:=Option.map_eq_some_iff.mp hw;refine wpAny_getItem_heap (tupleKind_room_in1 hu) (nU I.hok eb) dd hp ?_;rw[hp2];exact h w' _ (I.tok _) rw'
theorem PH (hu:A.units+1<cLine) (I:Inv X pins σ H s) (g:eN H a y o) (ry:RelV y u) (h:∀s',Inv X pins σ H s'->Q (.bool (!o.isSome)) s'):
  wpAny (model X.prog X.w) A (compareOp .NotIn u (.ref a)) Q E s:=by
 rcases g with ⟨kvs,k,e,ey,l⟩|⟨kvs,k,b,e,ey,eb,l⟩
 ·subst ey;obtain ⟨z,hd,vs,rel,dd⟩:=qT I.hok e;refine wpAny_notIn_of (qG ry) hd dd.mapOf ?_;rw[<-(rel.val k).isSome_eq,<-l];exact h _ (I.tok _)
 ·subst ey;cases (show u=Value.ref b from ry);obtain ⟨z,hd,xs,rel,dd⟩:=wB I.hok e;refine wpAny_notIn_heap (tupleKind_room_in1 hu) (nU I.hok eb) hd dd ?_;have q:=(rel.val k).isSome_eq;rw[Option.isSome_map] at q;rw[<-q,<-l];exact h _ (I.tok _)
theorem mK (I:Inv X pins σ H s) (mu:Ej (H a)) (hs:SameBut a s.heap h') (he:∃q,h'.get? a=some q) (new:aY X.prog X.w (upd H a ob) h' a ob):
  Inv X pins σ (upd H a ob) {s with heap:=h',toks:=t'}:=
 I.write (x:=a) (e:=a) mu (.inl rfl) (λb q hb z=>(hs.2 b hb).trans z) he new
theorem JX {kvs:List (Key × V)} (z:kvs.length<=sizeLine) (hd:(a==sysModules)=false) (rel:KV kvs vs) (dd:h'.DictOf (aX P w) a vs):
  aY P w H' h' a (.dK kvs):=⟨z,hd,vs,rel,dd⟩
theorem DS (hu:A.units+1<cLine) (I:Inv X pins σ H s) (g:EN H a y v H') (ry:RelV y u) (rv:RelV v r) (h:∀s',Inv X pins σ H' s'->Q () s'):
  wpAny (model X.prog X.w) A (setItem (.ref a) u r) Q E s:=by
 rcases g with ⟨kvs,k,e,ey,l,eH⟩|⟨kvs,k,b,e,ey,eb,l,eH⟩
 ·subst ey eH;obtain ⟨z,hd,vs,rel,dd⟩:=JW I.hok e;have hz:vs.length<=sizeLine:=by rw[<-rel.length];exact z
  have hl:(putK kvs k v).length<=sizeLine:=by have:=gM kvs k v;lia
  refine wpAny_setItem_pairs (hsz:=hz) (qG ry) dd λh' dd' hs=>h _ ?_;have he:∃q,h'.get? a=some q:=let ⟨q,_,_,hq,_⟩:=dd';⟨q,hq⟩;exact mK I (by rw[e];exact tI) hs he (JX hl hd (rel.put k rv) dd')
 ·subst ey eH;cases (show u=Value.ref b from ry);obtain ⟨z,hd,xs,rel,dd⟩:=Du I.hok e;have hz:xs.length<=sizeLine:=by rw[<-Paired.length rel];exact z
  have hl:(putK kvs k v).length<=sizeLine:=by have:=gM kvs k v;lia
  refine wpAny_setItem_heap (hsz:=hz) (tupleKind_room_in1 hu) (nU I.hok eb) dd λh' dd' hs=>h _ ?_;obtain ⟨q,es,ep,hq,h2,h3,h4,_,h5⟩:=dd';refine mK I (by rw[e];exact tI) hs ⟨q,hq⟩ ⟨hl,hd,_,(rel.put k eb rv).keeps λc ys ec=>?_,q,es,ep,hq,h2,h3,h4,h5⟩;rw[aF (Bl ec e (λz=>nomatch z))];exact ec
end
section
variable {X:Cx} {pins:List (Addr × Obj)} {σ:St} {H:Hp} {s:Shared} {a:Addr} {kvs:List (Key × V)} {k:Key} {u:Value} {A:Around} {E:Value->Shared->Prop}
theorem Dx (I:Inv X pins σ H s) (e:Rd H a (.dK kvs)) (h:∀t s',Inv X pins σ H s'->Q (.int kvs.length t) s'):wpAny (model X.prog X.w) A (call (.builtin "len") [.ref a]) Q E s:=by
 obtain ⟨z,hd,vs,rel,dd⟩:=qT I.hok e;refine call_len_dict hd dd (by rw[<-rel.length];rw[sizeLine_eq] at z;lia) ?_;rw[<-rel.length];exact h _ _ (I.tok _)
end
theorem wD (I:Inv X pins σ H s) (g:eN H a y o):s.TypeIs (.ref a) "dict":=by
 rcases g with ⟨kvs,k,e,_,_⟩|⟨kvs,k,b,e,_,_,_⟩
 ·obtain ⟨_,_,vs,_,dd⟩:=qT I.hok e;exact dd.typeIs
 ·obtain ⟨_,_,xs,_,dd⟩:=wB I.hok e;exact dd.typeIs
section
variable {X:Cx} {o i e value:Expr} {pos pos' tpos:Pos} {td ty tv:TE}
end
theorem JY (h:Heap) (hb:sysModules<h.objs.size):aY P w H (h.push {cls:=.type "dict",data:=.dict #[]}) h.objs.size (.dK []):=
 ⟨zero_le _,beq_eq_false_iff_ne.mpr (Ne.symm (ne_of_lt hb)),[],.nil,DictOf.new h⟩
section
variable {X:Cx} {pos:Pos}
end
noncomputable def xS:List (TE × TE)->St->Hp->(List (V × V)->Hp->Prop)->Prop
 |[],_,H,Q=>Q [] H
 | (tk,tv)::r,σ,H,Q=>tk σ H λx H1=>tv σ H1 λy H2=>xS r σ H2 λps H3=>Q ((x,y)::ps) H3
noncomputable abbrev VV:List (V × V)->List (Value × Value)->Prop:=Paired λp q=>RelV p.1 q.1/\RelV p.2 q.2
noncomputable def Ez (X:Cx) (pos:Pos) (keys:List (Option Expr)) (values:List Expr) (trs:List (TE × TE)):Prop:=
 ∀(pins:List (Addr × Obj)) (s:Shared) (σ:St) (H:Hp) (Q:List (V × V)->Hp->Prop),Inv X pins σ H s->xS trs σ H Q->
  wpAny (model X.prog X.w) X.A (evalPairs (pairTrees keys values X.env pos)) (λvs s'=>∃ps H',Inv X pins σ H' s'/\VV ps vs/\Q ps H') X.xe s
theorem NF:Ez X pos [] [] []:=λpins s σ H Q I h=>pairTrees_nil_walk ⟨[],H,I,.nil,h⟩
theorem GY (hk:PE X k tk) (hv:PE X v tv) (hr:Ez X pos ks vs trs):
  Ez X pos (some k::ks) (v::vs) ((tk,tv)::trs):=λpins s σ H Q I h=>
 pairTrees_cons_walk (bO (hk pins s σ H _ I h) λu s1 ⟨x,H1,I1,rx,q1⟩=>bO (hv pins s1 σ H1 _ I1 q1) λw2 s2 ⟨y,H2,I2,ry,q2⟩=>
  bO (hr pins s2 σ H2 _ I2 q2) λws s3 ⟨ps,H3,I3,rel,q3⟩=>⟨(x,y)::ps,H3,I3,.cons ⟨rx,ry⟩ rel,q3⟩)
noncomputable def kW (kvs more:List (Key × V)):List (Key × V):=more.foldl (λacc kv=>putK acc kv.1 kv.2) kvs
theorem KV.merge:∀{more:List (Key × V)} {rs:List (Key × Value)} {kvs:List (Key × V)} {vs:List (Key × Value)},KV more rs->KV kvs vs->KV (kW kvs more) (merged vs rs):=by
 intro more rs kvs vs r;unfold KV at r;induction r generalizing kvs vs with
 |nil=>intro q;exact q
 |@cons p q ps qs h t ih=>
  intro r0;have e:KV (putK kvs p.1 p.2) (stored vs q.1 q.2):=by
   have:=r0.put p.1 h.2;rw[<-h.1];exact this
  exact ih e
theorem iI:∀(more kvs:List (Key × V)),(kW kvs more).length<=kvs.length+more.length
 |[],kvs=>by show kvs.length<=kvs.length+0;lia
 |p::r,kvs=>by
  have h1:=iI r (putK kvs p.1 p.2);have h2:=gM kvs p.1 p.2;show (kW (putK kvs p.1 p.2) r).length<=_;rw[length_cons];lia
theorem oO:∀{kvs:List (Key × V)} {ws:List (Value × Value)},VV (kvs.map λkv=>(kV kv.1,kv.2)) ws->∃rs,Carries (aX P w) ws rs/\KV kvs rs
 |[],_,r=>by rw[map_nil] at r;cases r;exact ⟨[],tI,.nil⟩
 |p::kvs,_,r=>by
  rw[map_cons] at r;cases r with
  |@cons a b as bs h t=>
   obtain ⟨rs,c,q⟩:=oO (P:=P) (w:=w) t;obtain ⟨b1,b2⟩:=b;exact ⟨(p.1,b2)::rs,⟨qG h.1,rfl,c⟩,.cons ⟨rfl,h.2⟩ q⟩
noncomputable def QM (trs:List (TE × TE)):TE:=λσ H Q=>∀p,H p=none->xS trs σ (upd H p (.dK [])) λps H2=>H2 p=some (.dK [])/\∃kvs:List (Key × V),ps=kvs.map (λkv=>(kV kv.1,kv.2))/\kvs.length<=15/\Q (.ref p) (upd H2 p (.dK (kW [] kvs)))
theorem NM (h:Ez X pos keys values trs) (hall:keys.all (·.isSome)=true) (hl:keys.length=values.length) (h0:keys≠[])
  (h15:keys.length<=15):PE X (.Dict keys values pos) (QM trs):=by
 intro pins s σ H Q I q;have hn:=I.hok.fresh (Nat.le_refl s.heap.objs.size);have I1:=I.laid (a:=s.heap.objs.size) (o:=.dK []) (h':=s.heap.push {cls:=.type "dict",data:=.dict #[]}) (t':=s.toks) (λ_ _ q=>get?_push_of_some _ q) (Nat.le_refl _) (JY s.heap I.big);refine wpAny_Dict_walk (knd:=aX X.prog X.w) hall hl h0 h15 (bO (h pins _ σ _ _ I1 (q _ hn)) λws s2 ⟨ps,H2,I2,rel,e,kvs,ep,lk,q2⟩=>?_);subst ep;obtain ⟨rs,c,rk⟩:=oO (P:=X.prog) (w:=X.w) rel;obtain ⟨z,hd,vs0,r0,dd⟩:=JW I2.hok e;cases r0;refine ⟨rs,c,dd,λh' dd' hs=>⟨.ref s.heap.objs.size,_,?_,rfl,q2⟩⟩;have hz:(kW [] kvs).length<=sizeLine:=by
  have h1:=iI kvs [];rw[length_nil] at h1;rw[sizeLine_eq];lia
 have he:∃q,h'.get? s.heap.objs.size=some q:=let ⟨q,_,_,hq,_⟩:=dd';⟨q,hq⟩;exact mK I2 (by rw[e];exact tI) hs he (JX hz hd (rk.merge .nil) dd')
section
variable {X:Cx} {pins:List (Addr × Obj)} {σ:St} {H:Hp} {s:Shared} {a:Addr} {y d:V} {u r:Value} {o:Option V} {A:Around} {E:Value->Shared->Prop}
theorem XJ (hu:A.units+1<cLine) (I:Inv X pins σ H s) (g:eN H a y o) (ry:RelV y u) (rd:RelV d r) (h:∀w' s',Inv X pins σ H s'->RelV (o.getD d) w'->Q w' s'):
  wpAny (model X.prog X.w) A (call (.builtin "dict.get") [.ref a,u,r]) Q E s:=by
 rcases g with ⟨kvs,k,e,ey,l⟩|⟨kvs,k,b,e,ey,eb,l⟩
 ·subst ey;obtain ⟨z,hd,vs,rel,dd⟩:=qT I.hok e;refine call_meetsIn PySem.F.slot_dict_get dd.typeIs PySem.F.entry_dict_get (PySem.F.args_dict_get_3 _ _ _) (meets_dict_get_default (aX X.prog X.w) a (qG ry) hd r) ⟨_,dd.mapOf,h _ _ (I.tok _) ?_⟩;rw[l];exact (rel.val k).getD rd
 ·subst ey;cases (show u=Value.ref b from ry);obtain ⟨z,hd,xs,rel,dd⟩:=wB I.hok e;refine call_meetsIn PySem.F.slot_dict_get dd.typeIs PySem.F.entry_dict_get (PySem.F.args_dict_get_3 _ _ _) (meetsH_dict_get_default (tupleKind (aX X.prog X.w)) a b hd r) ⟨tupleKind_room_in1 hu,k,xs,nU I.hok eb,dd,h _ _ (I.tok _) ?_⟩;rw[l];exact (rel.val k).getD rd
end
section
variable {X:Cx} {o e f:Expr} {apos cpos:Pos} {td ty tx:TE}
end
section
variable {X:Cx} {pins:List (Addr × Obj)} {σ:St} {H:Hp} {s:Shared} {a:Addr} {kvs:List (Key × V)} {A:Around} {E:Value->Shared->Prop}
end
section
variable {X:Cx} {pins:List (Addr × Obj)} {σ:St} {H:Hp} {s:Shared} {a:Addr} {y:V} {u:Value} {A:Around} {E:Value->Shared->Prop}
end
end L2
namespace So
open PySem PySem.Spec PyProof.Rows
section
variable {M:Model} {A:Around} {E:Value->Shared->Prop} {s:Shared}
noncomputable def BW (M:Model) (A:Around) (E:Value->Shared->Prop) (s:Shared) (κ:SortKind) (c:Keyed->Keyed->Bool) (P:Keyed->Prop):Prop:=
 ∀(p q:Keyed) (st:SortSt) (Q:Option Bool->SortSt->Prop),P p->P q->kindOf st=κ->Q (some (c p q)) st->wpS M A E s (lt' p q) Q st
variable {κ:SortKind} {c:Keyed->Keyed->Bool} {P:Keyed->Prop}
noncomputable def BB:Bool->Keyed->Array Keyed->Nat->Nat->Nat->StateT SortSt Sem (Option Nat):=sortPriv% PySem.Builtin.gallop
theorem aI {arr:Array Keyed} {i:Nat} {p:Keyed} {st:SortSt} {Q:Keyed->SortSt->Prop} (h:arr[i]?=some p) (q:Q p st):wpS M A E s (elem' arr i) Q st:=by
 rw[elem'_eq,h];exact wpS_pure q
theorem bY {arr:Array Keyed} {i:Nat} (h:i<arr.size) (hP:∀p∈arr.toList,P p):∃p,arr[i]?=some p/\P p:=
 ⟨arr[i],getElem?_pos arr i h,hP _ (by simp)⟩
theorem aD {σ α:Type} {p:Prop} [Decidable p] {x y:StateT σ Sem α} {Q:α->σ->Prop} {st:σ} (h1:p->wpS M A E s x Q st) (h2:¬p->wpS M A E s y Q st):wpS M A E s (if p then x else y) Q st:=by
 by_cases h:p
 ·rw[if_pos h];exact h1 h
 ·rw[if_neg h];exact h2 h
noncomputable def HZ:Array Keyed->Array Keyed->StateT SortSt Sem (Array Keyed):=sortPriv% PySem.Builtin.mergeLo
noncomputable def IA:Array Keyed->Array Keyed->StateT SortSt Sem (Array Keyed):=sortPriv% PySem.Builtin.mergeHi
noncomputable def zP (st st':SortSt):Prop:=kindOf st'=kindOf st/\arrOf st'=arrOf st/\pendingOf st'=pendingOf st/\failedOf st'=failedOf st
theorem zP.refl (st:SortSt):zP st st:=⟨rfl,rfl,rfl,rfl⟩
theorem zP.gal {st st':SortSt} (h:zP st st') (g:Nat):zP st (SortSt.mk' (kindOf st') (arrOf st') (pendingOf st') g (failedOf st')):=h
structure Pm (a b out:Array Keyed) (ia ib:Nat):Prop where
 la:ia<=a.size
 lb:ib<=b.size
 pm:out.toList.Perm (a.toList.take ia++b.toList.take ib)
section
variable {a b out:Array Keyed} {ia ib:Nat}
theorem iC (a:Array Keyed) (i:Nat):(a.extract i).toList=a.toList.drop i:=by
 simp only [toList_extract,extract_eq_take_drop];exact take_of_length_le (by rw[length_drop,length_toList];exact Nat.le_refl _)
theorem HB {α:Type} {x u v p q:List α} (h:x.Perm (u++v)):(x++(p++q)).Perm ((u++p)++(v++q)):=by
 refine (h.append_right _).trans ?_;rw[List.append_assoc,List.append_assoc];refine List.Perm.append_left u ?_;rw[<-List.append_assoc,<-List.append_assoc];exact (perm_append_comm).append_right q
theorem Pm.done (h:Pm a b out ia ib):(out++a.extract ia++b.extract ib).toList.Perm (a.toList++b.toList):=by
 rw[toList_append,toList_append,iC,iC,List.append_assoc];have:=HB (p:=a.toList.drop ia) (q:=b.toList.drop ib) h.pm;rwa [take_append_drop,take_append_drop] at this
theorem Pm.last (h:Pm a b out ia ib):(out++b.extract ib++a.extract ia).toList.Perm (a.toList++b.toList):=by
 refine List.Perm.trans ?_ h.done;rw[toList_append,toList_append,toList_append,toList_append,List.append_assoc,List.append_assoc];exact List.Perm.append_left _ perm_append_comm
theorem Pm.ea (h:Pm a b out ia ib) {k:Nat} (hk:ia+k<=a.size):Pm a b (out++a.extract ia (ia+k)) (ia+k) ib:=by
 refine ⟨hk,h.lb,?_⟩;rw[toList_append,toList_extract];have e:a.toList.take (ia+k)=a.toList.take ia++(a.toList.drop ia).take k:=by rw[take_add]
 have e2:List.extract a.toList ia (ia+k)=(a.toList.drop ia).take k:=by
  rw[extract_eq_take_drop]
  congr 1
  lia
 rw[e,e2];have:=HB (p:=(a.toList.drop ia).take k) (q:=[]) h.pm;rwa [append_nil,append_nil] at this
theorem Pm.eb (h:Pm a b out ia ib) {k:Nat} (hk:ib+k<=b.size):Pm a b (out++b.extract ib (ib+k)) ia (ib+k):=by
 refine ⟨h.la,hk,?_⟩;rw[toList_append,toList_extract];have e:b.toList.take (ib+k)=b.toList.take ib++(b.toList.drop ib).take k:=by rw[take_add]
 have e2:List.extract b.toList ib (ib+k)=(b.toList.drop ib).take k:=by
  rw[extract_eq_take_drop]
  congr 1
  lia
 rw[e,e2];have:=HB (p:=[]) (q:=(b.toList.drop ib).take k) h.pm;rwa [nil_append,append_nil] at this
theorem take_one (hx:a[i]?=some x):a.toList.take (i+1)=a.toList.take i++[x]:=by
 have:a.toList[i]?=some x:=by rw[getElem?_toList];exact hx
 rw[take_add_one,this];rfl
theorem AO (hx:a[i]?=some x):i<a.size:=by
 obtain ⟨h,_⟩:=Array.getElem?_eq_some_iff.mp hx;exact h
end
structure Ph (a b out:Array Keyed) (na nb:Nat):Prop where
 la:na<=a.size
 lb:nb<=b.size
 pm:out.toList.Perm (a.toList.drop na++b.toList.drop nb)
section
variable {a b out:Array Keyed} {na nb:Nat}
theorem DQ (a:Array Keyed) (i:Nat):(a.extract 0 i).toList=a.toList.take i:=by
 simp only [toList_extract,extract_eq_take_drop,drop_zero,Nat.sub_zero]
theorem Av {α:Type} {x u v p q:List α} (h:x.Perm (u++v)):((p++q)++x).Perm ((p++u)++(q++v)):=by
 refine (h.append_left _).trans ?_;rw[List.append_assoc,List.append_assoc];refine List.Perm.append_left p ?_;rw[<-List.append_assoc,<-List.append_assoc];exact (perm_append_comm).append_right v
theorem nF (out:Array Keyed):out.reverse.toList.Perm out.toList:=by
 rw[toList_reverse];exact List.reverse_perm _
theorem Ph.done (h:Ph a b out na nb):(a.extract 0 na++b.extract 0 nb++out.reverse).toList.Perm (a.toList++b.toList):=by
 rw[toList_append,toList_append,DQ,DQ];have:=Av (p:=a.toList.take na) (q:=b.toList.take nb) ((nF out).trans h.pm);rwa [take_append_drop,take_append_drop] at this
theorem Ph.first (h:Ph a b out na nb):(b.extract 0 nb++a.extract 0 na++out.reverse).toList.Perm (a.toList++b.toList):=by
 refine List.Perm.trans ?_ h.done;rw[toList_append,toList_append,toList_append,toList_append];exact List.Perm.append_right _ perm_append_comm
theorem eU (l:List α) (h:i<=n):l.drop i=(l.take n).drop i++l.drop n:=by
 have e:l.drop i=(l.take n++l.drop n).drop i:=by rw[take_append_drop]
 rw[e,List.drop_append];by_cases hl:i<=(l.take n).length
 ·rw[show i - (l.take n).length=0 by lia,drop_zero]
 ·rw[length_take] at hl;have:l.length<=n:=by lia
  rw[drop_eq_nil_of_le this,List.drop_nil]
theorem cB (a:Array Keyed) (i n:Nat):(a.extract i n).toList=(a.toList.take n).drop i:=by
 rw[toList_extract,extract_eq_take_drop,List.take_drop];by_cases h:i<=n
 ·rw[show i+(n - i)=n by lia]
 ·rw[drop_eq_nil_of_le (by rw[length_take];lia),drop_eq_nil_of_le (by rw[length_take];lia)]
theorem Ph.ea (h:Ph a b out na nb) (hk:k<=na):Ph a b (out++(a.extract k na).reverse) k nb:=by
 refine ⟨by have:=h.la;lia,h.lb,?_⟩;rw[toList_append,eU a.toList hk,<-cB];refine ((nF _).append_left _).trans ?_;refine (h.pm.append_right _).trans ?_;rw[List.append_assoc];refine (List.Perm.append_left _ perm_append_comm).trans ?_;rw[<-List.append_assoc];exact List.Perm.append_right _ perm_append_comm
theorem Ph.eb (h:Ph a b out na nb) (hk:k<=nb):Ph a b (out++(b.extract k nb).reverse) na k:=by
 refine ⟨h.la,by have:=h.lb;lia,?_⟩;rw[toList_append,eU b.toList hk,<-cB];refine ((nF _).append_left _).trans ?_;refine (h.pm.append_right _).trans ?_;rw[List.append_assoc];exact List.Perm.append_left _ perm_append_comm
theorem drop_one (hx:a[i]?=some x):a.toList.drop i=x::a.toList.drop (i+1):=by
 have h:=AO hx;have:a.toList[i]?=some x:=by rw[getElem?_toList];exact hx
 rw[List.drop_eq_getElem_cons (by rw[length_toList];exact h)];have e:=List.getElem?_eq_some_iff.mp this;obtain ⟨h1,h2⟩:=e;rw[h2]
end
end
end So
namespace So
open PySem PySem.Spec PyProof.Rows
section
variable {M:Model} {A:Around} {E:Value->Shared->Prop} {s:Shared} {κ:SortKind} {c:Keyed->Keyed->Bool} {P:Keyed->Prop} {a₀:Array Keyed}
structure Ba (κ:SortKind) (a₀:Array Keyed) (pend:Array (Nat × Nat × Nat)) (st:SortSt):Prop where
 perm:(arrOf st).Perm a₀
 failed:failedOf st=none
 kind:kindOf st=κ
 pend:pendingOf st=pend
theorem Ba.size {pend:Array (Nat × Nat × Nat)} {st:SortSt} (h:Ba κ a₀ pend st):(arrOf st).size=a₀.size:=h.perm.size_eq
theorem Ba.all {pend:Array (Nat × Nat × Nat)} {st:SortSt} (h:Ba κ a₀ pend st) (hP:∀p∈a₀.toList,P p):∀p∈(arrOf st).toList,P p:=λp hp=>hP p (h.perm.toList.mem_iff.mp hp)
theorem Ba.set {pend:Array (Nat × Nat × Nat)} {st:SortSt} (h:Ba κ a₀ pend st) {xs:Array Keyed} (hp:xs.Perm (arrOf st)):Ba κ a₀ pend (setArr st xs):=⟨hp.trans h.perm,h.failed,h.kind,h.pend⟩
end
end So
namespace So
open PySem PySem.Spec PyProof.Rows
theorem jR (sa:Nat):∀(m:List Keyed) (j:Nat) (arr:Array Keyed),sa+j+m.length<=arr.size->
  ((m.zipIdx j).foldl (λ(a:Array Keyed) (x:Keyed × Nat)=>a.setIfInBounds (sa+x.2) x.1) arr).toList=arr.toList.take (sa+j)++m++arr.toList.drop (sa+j+m.length)
 |[],j,arr,h=>by
  rw[List.zipIdx_nil,List.foldl_nil,append_nil,length_nil,Nat.add_zero,take_append_drop]
 |p::m,j,arr,h=>by
  rw[List.zipIdx_cons,foldl_cons];rw[length_cons] at h;have hs:(arr.setIfInBounds (sa+j) p).size=arr.size:=Array.size_setIfInBounds;have ih:=jR sa m (j+1) (arr.setIfInBounds (sa+j) p) (by rw[hs];lia);rw[ih,Array.toList_setIfInBounds];have hl:sa+j<arr.toList.length:=by rw[length_toList];lia
  have e1:(arr.toList.set (sa+j) p).take (sa+(j+1))=arr.toList.take (sa+j)++[p]:=by
   rw[show sa+(j+1)=sa+j+1 by lia,take_add_one,List.take_set,List.getElem?_set_self hl];rw[List.set_eq_of_length_le (by rw[length_take];lia)];rfl
  have e2:(arr.toList.set (sa+j) p).drop (sa+(j+1)+m.length)=arr.toList.drop (sa+j+(p::m).length):=by
   rw[List.drop_set,if_pos (by lia),length_cons]
   congr 1
   lia
  rw[e1,e2,List.append_assoc,List.append_assoc,List.append_assoc];rfl
noncomputable def Runs:Nat->List (Nat × Nat × Nat)->Nat->Prop
 |x,[],y=>x=y
 |x,(s,n,_)::l,y=>s=x/\1<=n/\Runs (x+n) l y
theorem Runs.le:∀{l:List (Nat × Nat × Nat)} {x y:Nat},Runs x l y->x<=y
 |[],x,y,h=>le_of_eq h
 | (s,n,p)::l,x,y,⟨_,_,h⟩=>Nat.le_trans (Nat.le_add_right _ _) h.le
theorem Runs.push:∀{l:List (Nat × Nat × Nat)} {x y n p:Nat},Runs x l y->1<=n->Runs x (l++[(y,n,p)]) (y+n)
 |[],x,y,n,p,h,hn=>by
  have e:x=y:=h;subst e;exact ⟨rfl,hn,rfl⟩
 | (s,k,r)::l,x,y,n,p,⟨h1,h2,h3⟩,hn=>⟨h1,h2,h3.push hn⟩
theorem Runs.two:∀{l:List (Nat × Nat × Nat)} {i x y sa na p sb nb p2:Nat},Runs x l y->l[i]?=some (sa,na,p)->l[i+1]?=some (sb,nb,p2)->sb=sa+na/\1<=na/\1<=nb/\sb+nb<=y/\Runs x ((l.set i (sa,na+nb,p)).eraseIdx (i+1)) y
 |[],_,_,_,_,_,_,_,_,_,_,h,_=>by cases h
 |t::[],0,_,_,_,_,_,_,_,_,_,_,h=>by cases h
 |t::u::l,0,x,y,sa,na,p,sb,nb,p2,h,e1,e2=>by
  cases e1;cases e2;obtain ⟨h1,h2,h3,h4,h5⟩:=h;subst h1;refine ⟨h3,h2,h4,by have:=h5.le;lia,rfl,by lia,?_⟩;rw[show sa+(na+nb)=sa+na+nb by lia];exact h5
 | (s,n,r)::l,i+1,x,y,sa,na,p,sb,nb,p2,⟨h1,h2,h3⟩,e1,e2=>by
  obtain ⟨g1,g2,g3,g4,g5⟩:=Runs.two (i:=i) h3 e1 e2;exact ⟨g1,g2,g3,g4,h1,h2,g5⟩
theorem Runs.mod:∀{l:List (Nat × Nat × Nat)} {x y i:Nat} {f:Nat × Nat × Nat->Nat × Nat × Nat},(∀t,(f t).1=t.1/\(f t).2.1=t.2.1)->Runs x l y->Runs x (l.modify i f) y
 |[],_,_,_,_,_,h=>by cases ‹Nat›<;>exact h
 | (s,n,p)::l,x,y,0,f,hf,⟨h1,h2,h3⟩=>by
  rw[List.modify_zero_cons];obtain ⟨e1,e2⟩:=hf (s,n,p);show (f (s,n,p)).1=x/\1<=(f (s,n,p)).2.1/\Runs (x+(f (s,n,p)).2.1) l y;rw[e1,e2];exact ⟨h1,h2,h3⟩
 | (s,n,p)::l,x,y,i+1,f,hf,⟨h1,h2,h3⟩=>by
  rw[List.modify_succ_cons];exact ⟨h1,h2,Runs.mod hf h3⟩
section
variable {M:Model} {A:Around} {E:Value->Shared->Prop} {s:Shared} {κ:SortKind} {c:Keyed->Keyed->Bool} {P:Keyed->Prop} {a₀:Array Keyed}
theorem MC {σ:Type} {st st0:σ} {Q:PUnit->σ->Prop} (h:Q ⟨⟩ st0):wpS M A E s (set st0:StateT σ Sem PUnit) Q st:=by
 unfold wpS;rw[StateT.run_set];exact wpAny_pure ⟨rfl,h⟩
theorem uU {arr out:Array Keyed} {sa sb e:Nat} (h1:sa<=sb) (h2:sb<=e) (h3:e<=arr.size) (hp:out.toList.Perm ((arr.extract sa sb).toList++(arr.extract sb e).toList)):
  (out.toList.zipIdx.foldl (λ(a:Array Keyed) (x:Keyed × Nat)=>a.setIfInBounds (sa+x.2) x.1) arr).Perm arr:=by
 have l1:((arr.extract sa sb).toList++(arr.extract sb e).toList).length=e - sa:=by
  rw[length_append,length_toList,length_toList,size_extract,size_extract];lia
 have lo:out.toList.length=e - sa:=by rw[hp.length_eq,l1]
 rw[Array.perm_iff_toList_perm,jR sa out.toList 0 arr (by lia),Nat.add_zero,lo,show sa+(e - sa)=e by lia];have ex:arr.toList=arr.toList.take sa++((arr.extract sa sb).toList++(arr.extract sb e).toList)++arr.toList.drop e:=by
  rw[cB,cB];have c1:=eU arr.toList (i:=sb) (n:=e) h2;have c2:(arr.toList.take e).drop sa=(arr.toList.take sb).drop sa++(arr.toList.take e).drop sb:=by
   have:=eU (arr.toList.take e) (i:=sa) (n:=sb) h1;rw[take_take,min_eq_left h2] at this;exact this
  rw[<-c2];have c3:=eU arr.toList (i:=sa) (n:=e) (by lia);rw[List.append_assoc,<-c3,take_append_drop]
 refine List.Perm.trans ?_ (List.Perm.of_eq ex.symm);exact (hp.append_left _).append_right _
theorem VS [Decidable p] (h:¬N<=1):(if p then N - 2 - 1 else N - 2)+1<N:=by split<;>lia
end
end So
namespace So
open PySem PySem.Spec PyProof.Rows PySem.W PySem.SeqAt
noncomputable def xB (h:Heap) (v:Value) (x:Str) (i:Int):Prop:=∃a o n t u,v=.ref a/\h.get? a=some o/\o.cls=.type "tuple"/\o.data=.seq #[.str x t,.int i u] n
noncomputable def kv (h:Heap):Value->Str × Int
 | .ref a=>match h.get? a with
  |some o=>match o.data with
   | .seq xs _=>match xs[0]? with
    |some (Value.str x _)=>match xs[1]? with
     |some (Value.int i _)=>(x,i)
     |_=>(⟨#[]⟩,0)
    |_=>(⟨#[]⟩,0)
   |_=>(⟨#[]⟩,0)
  |none=>(⟨#[]⟩,0)
 |_=>(⟨#[]⟩,0)
theorem lJ (e:xB h v x i):kv h v=(x,i):=by
 obtain ⟨a,o,n,t,u,rfl,ho,_,hd⟩:=e;unfold kv;dsimp only;rw[ho];dsimp only;rw[hd];rfl
noncomputable def LX (p q:Str × Int):Bool:=if p.1=q.1 then decide (p.2<q.2) else decide (p.1.cps.toList<q.1.cps.toList)
section
variable {prog:Program} {w:World} {A:Around} {E:Value->Shared->Prop} {s:Shared}
theorem IJ (h:Q (LX (x,i) (y,j)) s):KatLex prog w A true false Q [(.str x t,.str y u),(.int i t2,.int j u2)] 0 s:=by
 refine kat_cons (EqAt.str_str x t y u prog w _ _ ?_);by_cases e:x=y
 ·subst e;rw[beq_self_eq_true];refine kat_yes (kat_cons (EqAt.int_int i t2 j u2 prog w _ _ ?_));have hq:LX (x,i) (x,j)=decide (i<j):=if_pos rfl;rw[hq] at h;by_cases e2:i=j
  ·subst e2;rw[beq_self_eq_true];refine kat_yes (kat_nil ?_);rwa [show decide (i<i)=false from decide_eq_false (by lia)] at h
  ·rw[show (i==j)=false from beq_eq_false_iff_ne.mpr e2];refine kat_no ?_;exact kat_one _ _ (lt_int h)
 ·rw[show (x==y)=false from beq_eq_false_iff_ne.mpr e];refine kat_no ?_;have hq:LX (x,i) (y,j)=decide (x.cps.toList<y.cps.toList):=if_neg e;rw[hq] at h;exact oneLt_str h
theorem KP:BW (model prog w) A E s (tuples' true) (λp q=>LX (kv s.heap p.1) (kv s.heap q.1)) (λp=>∃x i,xB s.heap p.1 x i):=by
 rintro ⟨p,p2⟩ ⟨q,q2⟩ st Q ⟨x,i,hp⟩ ⟨y,j,hq⟩ hk hQ;dsimp only at hp hq hQ;rw[lJ hp,lJ hq] at hQ;obtain ⟨a,o,n,t,u,rfl,ho,_,hd⟩:=hp;obtain ⟨a',o',n',t',u',rfl,ho',_,hd'⟩:=hq;rw[lt'_eq];refine wpS_bind (wpS_get ?_);rw[hk];refine wpS_bind (wpS_lift (wpAny_attempt (kat_lt ho hd ho' hd' (IJ ⟨rfl,?_⟩))));exact wpS_pure hQ
theorem zT:∀{vs:List Value},(∀v∈vs,∃x i,xB h v x i)->∃fs,fs.length=vs.length/\KatTups h vs fs/\∀f∈fs,∃x t,f=Value.str x t
 |[],_=>⟨[],rfl,.nil,λf hf=>nomatch hf⟩
 |v::vs,hv=>by
  obtain ⟨x,i,a,o,n,t,u,rfl,ho,hc,hd⟩:=hv v mem_cons_self;obtain ⟨fs,h1,h2,h3⟩:=zT (vs:=vs) λv hm=>hv v (mem_cons_of_mem _ hm);refine ⟨.str x t::fs,by rw[length_cons,h1,length_cons],.cons ho hc hd rfl h2,λf hf=>?_⟩;rcases mem_cons.mp hf with rfl|hf
  ·exact ⟨x,t,rfl⟩
  ·exact h3 f hf
theorem DG:Looks M h (typeOf (.str x t)) (.type "str"):=Looks.of_pure rfl
theorem xB.keep (e:xB h v x i) (k:∀b o,h.get? b=some o->o.cls=.type "tuple"->h'.get? b=some o):xB h' v x i:=by
 obtain ⟨a,o,n,t,u,rfl,ho,hc,hd⟩:=e;exact ⟨a,o,n,t,u,rfl,k a o ho hc,hc,hd⟩
end
end So
namespace So
open PySem PySem.Spec PyProof.Rows
structure Od (c:Keyed->Keyed->Bool):Prop where
 as:∀x y,c x y=true->c y x=false
 neg:∀x y z,c x z=true->c x y=true\/c y z=true
theorem Od.le_trans (o:Od c) (h1:c y x=false) (h2:c z y=false):c z x=false:=by
 cases h:c z x
 ·rfl
 ·rcases o.neg z y x h with h|h
  ·rw[h2] at h;cases h
  ·rw[h1] at h;cases h
noncomputable def sd (c:Keyed->Keyed->Bool) (left:Bool) (key x:Keyed):Bool:=if left then c x key else !(c key x)
theorem MS (o:Od c) {left:Bool} (h:c y x=false) (hy:sd c left key y=true):sd c left key x=true:=by
 unfold sd at hy ⊢;cases left
 ·simp only [false_eq_true,if_false,not_eq_true'] at hy ⊢;exact o.le_trans h hy
 ·simp only [if_true] at hy ⊢;rcases o.neg y x key hy with g|g
  ·rw[h] at g;cases g
  ·exact g
section
variable {M:Model} {A:Around} {E:Value->Shared->Prop} {s:Shared} {κ:SortKind} {c:Keyed->Keyed->Bool} {P:Keyed->Prop}
theorem jL (C:BW M A E s κ c P) {left:Bool} {x key:Keyed} {st:SortSt} {Q:Option Bool->SortSt->Prop} (hk:kindOf st=κ) (hx:P x) (hy:P key) (q:Q (some (sd c left key x)) st):
  wpS M A E s (if left=true then lt' x key else lt' key x >>=λr=>pure (Option.map (λx=>!x) r)) Q st:=by
 cases left
 ·rw[if_neg (by decide)];exact wpS_bind (C key x st _ hy hx hk (wpS_pure q))
 ·rw[if_pos rfl];exact C x key st _ hx hy hk q
noncomputable def Cut (B:Nat->Bool) (n k:Nat):Prop:=k<=n/\(∀i,i<k->B i=true)/\∀i,k<=i->i<n->B i=false
theorem tY (C:BW M A E s κ c P) {left:Bool} {key:Keyed} {arr:Array Keyed} {base n hint:Nat} {st:SortSt} {Q:Option Nat->SortSt->Prop} {B:Nat->Bool} (hk:kindOf st=κ) (hP:∀p∈arr.toList,P p) (hkey:P key) (hb:base+n<=arr.size) (hh:hint<n)
  (hB:∀i x,i<n->arr[base+i]?=some x->B i=sd c left key x) (mono:∀i j,i<=j->j<n->B j=true->B i=true)
  (q:∀k,Cut B n k->Q (some k) st):wpS M A E s (BB left key arr base n hint) Q st:=by
 have mono':∀i j,i<=j->j<n->B i=false->B j=false:=λi j h1 h2 h3=>by
  cases h:B j
  ·rfl
  ·rw[mono i j h1 h2 h] at h3;cases h3
 refine wpS_bind ?_;obtain ⟨x,hx,px⟩:=bY (P:=P) (i:=base+hint) (by lia) hP;refine wpS_bind (aI hx (jL C hk px hkey ?_));rw[<-hB hint x hh hx];cases eb:B hint
 ·dsimp only;rw[if_neg (by decide)];refine wpS_bind (wpS_mono (wpS_forRange (I:=λi c st'=>c.1=none/\st'=st/\c.2.1<=hint/\i+1<=c.2.2/\B (hint - c.2.1)=false) (Q:=λc st'=>c.1=none/\st'=st/\c.2.1<=hint/\B (hint - c.2.1)=false/\(hint+1<=c.2.2\/(c.2.2<=hint/\B (hint - c.2.2)=true))) ?_ (λc st' h=>?_) ⟨rfl,rfl,by dsimp only;lia,by dsimp only;lia,by exact eb⟩) ?_)
  ·rintro i ⟨c1,lf,of⟩ st' _ hi ⟨rfl,rfl,h1,h2,h3⟩;dsimp only at h1 h2 h3 ⊢;refine aD (λg=>?_) λg=>?_
   ·exact wpS_pure ⟨rfl,rfl,h1,h3,.inl g⟩
   ·refine wpS_bind ?_;obtain ⟨x,hx,px⟩:=bY (P:=P) (i:=base+(hint - of)) (by lia) hP;refine wpS_bind (aI hx (jL C hk px hkey ?_));rw[<-hB _ x (by lia) hx];cases e2:B (hint - of)
    ·exact wpS_pure ⟨rfl,rfl,by dsimp only;lia,by dsimp only;lia,e2⟩
    ·exact wpS_pure ⟨rfl,rfl,h1,h3,.inr ⟨by dsimp only;lia,e2⟩⟩
  ·obtain ⟨e1,e2,e3,e4,e5⟩:=h;exact ⟨e1,e2,e3,e5,.inl (by lia)⟩
  ·rintro ⟨c1,lf,of⟩ st' ⟨rfl,rfl,h1,h2,h3⟩;dsimp only at h1 h2 h3 ⊢;have lo1:∀i,i<hint+1 - min of (hint+1)->B i=true:=λi hi=>by
    rcases h3 with h3|⟨h3,h4⟩
    ·lia
    ·exact mono i (hint - of) (by lia) (by lia) h4
   have hi1:∀i,hint - lf<=i->i<n->B i=false:=λi h4 h5=>mono' (hint - lf) i h4 h5 h2;have hle:hint - lf<=n:=by lia
   refine wpS_bind (wpS_mono (wpS_forRange (I:=λi c st''=>c.1=none/\st''=st'/\c.2.2<=n/\c.2.2 - c.2.1<=n - i/\(∀i,i<c.2.1->B i=true)/\∀i,c.2.2<=i->i<n->B i=false) (Q:=λc st''=>c.1=none/\st''=st'/\Cut B n c.2.2) ?_ (λc st' h=>?_) ⟨rfl,rfl,hle,by dsimp only;lia,lo1,hi1⟩) ?_)
   ·rintro i ⟨c1,lo,hi⟩ st'' _ hi0 ⟨rfl,rfl,k1,k2,k3,k4⟩;dsimp only at k1 k2 k3 k4 ⊢;refine aD (λg=>?_) λg=>?_
    ·exact wpS_pure ⟨rfl,rfl,k1,λi h=>k3 i (by dsimp only at h;lia),k4⟩
    ·refine wpS_bind ?_;obtain ⟨x,hx,px⟩:=bY (P:=P) (i:=base+(lo+(hi - lo) / 2)) (by lia) hP;refine wpS_bind (aI hx (jL C hk px hkey ?_));rw[<-hB _ x (by lia) hx];cases e2:B (lo+(hi - lo) / 2)
     ·exact wpS_pure ⟨rfl,rfl,by dsimp only;lia,by dsimp only;lia,k3,λi h5 h6=>mono' _ i h5 h6 e2⟩
     ·exact wpS_pure ⟨rfl,rfl,k1,by dsimp only;lia,λi h5=>mono i _ (by dsimp only at h5;lia) (by lia) e2,k4⟩
   ·obtain ⟨e1,e2,k1,k2,k3,k4⟩:=h;exact ⟨e1,e2,k1,λi h=>k3 i (by lia),k4⟩
   ·rintro ⟨c1,lo,hi⟩ st'' ⟨rfl,rfl,hn⟩;exact wpS_pure (q _ hn)
 ·dsimp only;rw[if_pos rfl];refine wpS_bind (wpS_mono (wpS_forRange (I:=λi c st'=>c.1=none/\st'=st/\hint+c.2.1<n/\i+1<=c.2.2/\B (hint+c.2.1)=true) (Q:=λc st'=>c.1=none/\st'=st/\hint+c.2.1<n/\B (hint+c.2.1)=true/\(n - hint<=c.2.2\/(hint+c.2.2<n/\B (hint+c.2.2)=false))) ?_ (λc st' h=>?_) ⟨rfl,rfl,by dsimp only;lia,by dsimp only;lia,by exact eb⟩) ?_)
  ·rintro i ⟨c1,lf,of⟩ st' _ hi ⟨rfl,rfl,h1,h2,h3⟩;dsimp only at h1 h2 h3 ⊢;refine aD (λg=>?_) λg=>?_
   ·exact wpS_pure ⟨rfl,rfl,h1,h3,.inl g⟩
   ·refine wpS_bind ?_;obtain ⟨x,hx,px⟩:=bY (P:=P) (i:=base+(hint+of)) (by lia) hP;refine wpS_bind (aI hx (jL C hk px hkey ?_));rw[<-hB _ x (by lia) hx];cases e2:B (hint+of)
    ·exact wpS_pure ⟨rfl,rfl,h1,h3,.inr ⟨by dsimp only;lia,e2⟩⟩
    ·exact wpS_pure ⟨rfl,rfl,by dsimp only;lia,by dsimp only;lia,e2⟩
  ·obtain ⟨e1,e2,e3,e4,e5⟩:=h;exact ⟨e1,e2,e3,e5,.inl (by lia)⟩
  ·rintro ⟨c1,lf,of⟩ st' ⟨rfl,rfl,h1,h2,h3⟩;dsimp only at h1 h2 h3 ⊢;have lo1:∀i,i<hint+lf+1->B i=true:=λi hi=>mono i (hint+lf) (by lia) h1 h2;have hi1:∀i,hint+min of (n - hint)<=i->i<n->B i=false:=λi h4 h5=>by
    rcases h3 with h3|⟨h3,h6⟩
    ·lia
    ·exact mono' (hint+of) i (by lia) h5 h6
   have hle:hint+min of (n - hint)<=n:=by lia
   refine wpS_bind (wpS_mono (wpS_forRange (I:=λi c st''=>c.1=none/\st''=st'/\c.2.2<=n/\c.2.2 - c.2.1<=n - i/\(∀i,i<c.2.1->B i=true)/\∀i,c.2.2<=i->i<n->B i=false) (Q:=λc st''=>c.1=none/\st''=st'/\Cut B n c.2.2) ?_ (λc st' h=>?_) ⟨rfl,rfl,hle,by dsimp only;lia,lo1,hi1⟩) ?_)
   ·rintro i ⟨c1,lo,hi⟩ st'' _ hi0 ⟨rfl,rfl,k1,k2,k3,k4⟩;dsimp only at k1 k2 k3 k4 ⊢;refine aD (λg=>?_) λg=>?_
    ·exact wpS_pure ⟨rfl,rfl,k1,λi h=>k3 i (by dsimp only at h;lia),k4⟩
    ·refine wpS_bind ?_;obtain ⟨x,hx,px⟩:=bY (P:=P) (i:=base+(lo+(hi - lo) / 2)) (by lia) hP;refine wpS_bind (aI hx (jL C hk px hkey ?_));rw[<-hB _ x (by lia) hx];cases e2:B (lo+(hi - lo) / 2)
     ·exact wpS_pure ⟨rfl,rfl,by dsimp only;lia,by dsimp only;lia,k3,λi h5 h6=>mono' _ i h5 h6 e2⟩
     ·exact wpS_pure ⟨rfl,rfl,k1,by dsimp only;lia,λi h5=>mono i _ (by dsimp only at h5;lia) (by lia) e2,k4⟩
   ·obtain ⟨e1,e2,k1,k2,k3,k4⟩:=h;exact ⟨e1,e2,k1,λi h=>k3 i (by lia),k4⟩
   ·rintro ⟨c1,lo,hi⟩ st'' ⟨rfl,rfl,hn⟩;exact wpS_pure (q _ hn)
end
end So
namespace So
open PySem PySem.Spec PyProof.Rows
noncomputable abbrev Pw (c:Keyed->Keyed->Bool) (l:List Keyed):Prop:=l.Pairwise λx y=>c y x=false
noncomputable def Bf (c:Keyed->Keyed->Bool) (left:Bool) (key:Keyed) (l:List Keyed) (i:Nat):Bool:=match l[i]? with
 |some x=>sd c left key x
 |none=>false
section
variable {M:Model} {A:Around} {E:Value->Shared->Prop} {s:Shared} {κ:SortKind} {c:Keyed->Keyed->Bool} {P:Keyed->Prop}
theorem yI (h:Pw c l) {i j:Nat} (hij:i<j) (hx:l[i]?=some x) (hy:l[j]?=some y):c y x=false:=by
 obtain ⟨h1,e1⟩:=List.getElem?_eq_some_iff.mp hx;obtain ⟨h2,e2⟩:=List.getElem?_eq_some_iff.mp hy;have:=List.pairwise_iff_getElem.mp h i j h1 h2 hij;rwa [e1,e2] at this
theorem bH (o:Od c) (C:BW M A E s κ c P) {left:Bool} {key:Keyed} {arr:Array Keyed} {base n hint:Nat} {st:SortSt} {Q:Option Nat->SortSt->Prop} {l:List Keyed} (hk:kindOf st=κ) (hP:∀p∈arr.toList,P p) (hkey:P key) (hb:base+n<=arr.size) (hh:hint<n)
  (hl:l=(arr.toList.drop base).take n) (hw:Pw c l) (q:∀k,k<=n->(∀x∈l.take k,sd c left key x=true)->(∀x∈l.drop k,sd c left key x=false)->Q (some k) st):wpS M A E s (BB left key arr base n hint) Q st:=by
 have ll:l.length=n:=by rw[hl,length_take,length_drop,length_toList];lia
 have lg:∀i,i<n->l[i]?=arr[base+i]?:=λi hi=>by rw[hl,getElem?_take,if_pos hi,getElem?_drop,getElem?_toList]
 refine tY C (B:=Bf c left key l) hk hP hkey hb hh (λi x hi hx=>?_) (λi j hij hj e=>?_) λk ⟨k1,k2,k3⟩=>q k k1 (λx hx=>?_) λx hx=>?_
 ·unfold Bf;rw[lg i hi,hx]
 ·unfold Bf at e ⊢;have hjx:l[j]?=some l[j]:=List.getElem?_eq_getElem (by lia);have hix:l[i]?=some l[i]:=List.getElem?_eq_getElem (by lia);rw[hjx] at e;rw[hix];by_cases h:i=j
  ·subst h;exact e
  ·exact MS o (yI hw (by lia) hix hjx) e
 ·obtain ⟨i,hi⟩:=getElem?_of_mem hx;have hik:i<k:=by
   have:=(List.getElem?_eq_some_iff.mp hi).1;rw[length_take] at this;lia
  rw[getElem?_take,if_pos hik] at hi;have:=k2 i hik;unfold Bf at this;rwa [hi] at this
 ·obtain ⟨i,hi⟩:=getElem?_of_mem hx;rw[getElem?_drop] at hi;have hik:k+i<n:=by
   have:=(List.getElem?_eq_some_iff.mp hi).1;lia
  have:=k3 (k+i) (by lia) hik;unfold Bf at this;rwa [hi] at this
structure Pn (c:Keyed->Keyed->Bool) (a b out:Array Keyed) (ia ib:Nat):Prop where
 pm:Pm a b out ia ib
 so:Pw c out.toList
 oa:∀x∈out.toList,∀y∈a.toList.drop ia,c y x=false
 ob:∀x∈out.toList,∀y∈b.toList.drop ib,c y x=false
section
variable {a b out:Array Keyed} {ia ib:Nat}
theorem gK {l:List Keyed} {i j:Nat} {x:Keyed} (h:i<=j) (hx:x∈l.drop j):x∈l.drop i:=by
 obtain ⟨d,rfl⟩:=Nat.exists_eq_add_of_le h;rw[<-drop_drop] at hx;exact mem_of_mem_drop hx
theorem Pn.done (h:Pn c a b out ia ib) (ha:Pw c a.toList) (hb:Pw c b.toList) (he:a.size<=ia\/b.size<=ib):Pw c (out++a.extract ia++b.extract ib).toList:=by
 rw[toList_append,toList_append,iC,iC,List.append_assoc];rcases he with he|he
 ·rw[drop_eq_nil_of_le (by rw[length_toList];exact he),nil_append];exact pairwise_append.mpr ⟨h.so,hb.drop,h.ob⟩
 ·rw[drop_eq_nil_of_le (as:=b.toList) (by rw[length_toList];exact he),append_nil];exact pairwise_append.mpr ⟨h.so,ha.drop,h.oa⟩
theorem Pn.last (h:Pn c a b out ia ib) (ha:Pw c a.toList) (hb:Pw c b.toList) (hl:∀x∈b.toList.drop ib,∀y∈a.toList.drop ia,c y x=false):Pw c (out++b.extract ib++a.extract ia).toList:=by
 rw[toList_append,toList_append,iC,iC,List.append_assoc];refine pairwise_append.mpr ⟨h.so,pairwise_append.mpr ⟨hb.drop,ha.drop,hl⟩,λx hx y hy=>?_⟩;rcases mem_append.mp hy with hy|hy
 ·exact h.ob x hx y hy
 ·exact h.oa x hx y hy
theorem Pn.ea (h:Pn c a b out ia ib) (ha:Pw c a.toList) {k:Nat} (hk:ia+k<=a.size) (hx:∀x∈(a.toList.drop ia).take k,∀y∈b.toList.drop ib,c y x=false):Pn c a b (out++a.extract ia (ia+k)) (ia+k) ib:=by
 have e2:(a.extract ia (ia+k)).toList=(a.toList.drop ia).take k:=by
  rw[toList_extract,extract_eq_take_drop]
  congr 1
  lia
 have e3:(a.toList.drop ia).drop k=a.toList.drop (ia+k):=drop_drop;have had:Pw c (a.toList.drop ia):=ha.drop;refine ⟨h.pm.ea hk,?_,λx hx' y hy=>?_,λx hx' y hy=>?_⟩
 ·rw[toList_append,e2];exact pairwise_append.mpr ⟨h.so,had.take,λx hx' y hy=>h.oa x hx' y (mem_of_mem_take hy)⟩
 ·rw[toList_append,e2] at hx';rcases mem_append.mp hx' with hx'|hx'
  ·exact h.oa x hx' y (gK (by lia) hy)
  ·have hs:=had;rw[<-take_append_drop k (a.toList.drop ia)] at hs;exact (pairwise_append.mp hs).2.2 x hx' y (by rw[e3];exact hy)
 ·rw[toList_append,e2] at hx';rcases mem_append.mp hx' with hx'|hx'
  ·exact h.ob x hx' y hy
  ·exact hx x hx' y hy
theorem Pn.eb (h:Pn c a b out ia ib) (hb:Pw c b.toList) {k:Nat} (hk:ib+k<=b.size) (hx:∀x∈(b.toList.drop ib).take k,∀y∈a.toList.drop ia,c y x=false):Pn c a b (out++b.extract ib (ib+k)) ia (ib+k):=by
 have e2:(b.extract ib (ib+k)).toList=(b.toList.drop ib).take k:=by
  rw[toList_extract,extract_eq_take_drop]
  congr 1
  lia
 have e3:(b.toList.drop ib).drop k=b.toList.drop (ib+k):=drop_drop;have had:Pw c (b.toList.drop ib):=hb.drop;refine ⟨h.pm.eb hk,?_,λx hx' y hy=>?_,λx hx' y hy=>?_⟩
 ·rw[toList_append,e2];exact pairwise_append.mpr ⟨h.so,had.take,λx hx' y hy=>h.ob x hx' y (mem_of_mem_take hy)⟩
 ·rw[toList_append,e2] at hx';rcases mem_append.mp hx' with hx'|hx'
  ·exact h.oa x hx' y hy
  ·exact hx x hx' y hy
 ·rw[toList_append,e2] at hx';rcases mem_append.mp hx' with hx'|hx'
  ·exact h.ob x hx' y (gK (by lia) hy)
  ·have hs:=had;rw[<-take_append_drop k (b.toList.drop ib)] at hs;exact (pairwise_append.mp hs).2.2 x hx' y (by rw[e3];exact hy)
theorem mJ (hx:a[i]?=some x):a.extract i (i+1)=#[x]:=by
 have h:=AO hx;apply ext';rw[cB,take_one hx,List.drop_append,drop_eq_nil_of_le (by rw[length_take,length_toList];lia),nil_append,length_take,length_toList,show i - min i a.size=0 by lia];rfl
theorem Pn.pa (h:Pn c a b out ia ib) (ha:Pw c a.toList) (hx:a[ia]?=some x) (hl:∀y∈b.toList.drop ib,c y x=false):Pn c a b (out.push x) (ia+1) ib:=by
 have:=h.ea ha (k:=1) (AO hx) λz hz y hy=>by
  rw[drop_one hx] at hz;have e:z=x:=by simpa using hz
  rw[e];exact hl y hy
 rw[mJ hx] at this;rwa [<-Array.push_eq_append] at this
theorem Pn.pb (h:Pn c a b out ia ib) (hb:Pw c b.toList) (hx:b[ib]?=some x) (hl:∀y∈a.toList.drop ia,c y x=false):Pn c a b (out.push x) ia (ib+1):=by
 have:=h.eb hb (k:=1) (AO hx) λz hz y hy=>by
  rw[drop_one hx] at hz;have e:z=x:=by simpa using hz
  rw[e];exact hl y hy
 rw[mJ hx] at this;rwa [<-Array.push_eq_append] at this
end
end
end So
namespace So
open PySem PySem.Spec PyProof.Rows
section
variable {M:Model} {A:Around} {E:Value->Shared->Prop} {s:Shared} {κ:SortKind} {c:Keyed->Keyed->Bool} {P:Keyed->Prop}
theorem Od.irr (o:Od c) (x:Keyed):c x x=false:=by
 cases h:c x x
 ·rfl
 ·have:=o.as x x h;rw[h] at this;cases this
theorem low (o:Od c) {b:Array Keyed} (hb:Pw c b.toList) {i:Nat} {x:Keyed} (hx:b[i]?=some x):∀y∈b.toList.drop i,c y x=false:=λy hy=>by
 have hd:Pw c (b.toList.drop i):=hb.drop;rw[drop_one hx] at hd hy;rcases mem_cons.mp hy with e|hy
 ·rw[e];exact o.irr x
 ·exact (pairwise_cons.mp hd).1 y hy
theorem xO (a:Array Keyed) (i:Nat):a.toList.drop i=(a.toList.drop i).take (a.size - i):=by
 rw[take_of_length_le (by rw[length_drop,length_toList];exact Nat.le_refl _)]
noncomputable def YX (c:Keyed->Keyed->Bool) (a b:Array Keyed) (st:SortSt) (n:Nat) (r:Option (Array Keyed)) (out:Array Keyed) (ia ib:Nat) (st':SortSt):Prop:=
 zP st st'/\((∃z,r=some z/\z.toList.Perm (a.toList++b.toList)/\Pw c z.toList)\/(r=none/\Pn c a b out ia ib/\ia+1<a.size/\ib<b.size/\n<=ia+ib))
theorem rJ (o:Od c) (C:BW M A E s κ c P) {a b:Array Keyed} {st:SortSt} {Q:Array Keyed->SortSt->Prop} (hk:kindOf st=κ) (hA:∀p∈a.toList,P p) (hB:∀p∈b.toList,P p) (ha1:1<=a.size) (hb1:1<=b.size) (ha:Pw c a.toList) (hb:Pw c b.toList)
  (h0:∀x y,b[0]?=some x->y∈a.toList->c y x=false) (h9:∀x∈b.toList,∀y∈a.toList.drop (a.size - 1),c y x=false)
  (q:∀out st',zP st st'->out.toList.Perm (a.toList++b.toList)->Pw c out.toList->Q out st'):wpS M A E s (HZ a b) Q st:=by
 refine wpS_bind (wpS_lift (wpAny_rule ⟨rfl,?_⟩));obtain ⟨b0,hb0,pb0⟩:=bY (P:=P) (i:=0) (by lia) hB;refine wpS_bind (aI hb0 ?_);have hLast:∀{ia ib:Nat} (_:Nat) (_:ia+1=a.size),∀x∈b.toList.drop ib,∀y∈a.toList.drop ia,c y x=false:=λ{ia ib} _ e x hx y hy=>h9 x (mem_of_mem_drop hx) y (by rw[show a.size - 1=ia by lia];exact hy);have lb0:=low o hb hb0;have p0:Pn c a b #[b0] 0 1:=⟨⟨by lia,by lia,by rw[take_one (i:=0) hb0];exact List.Perm.refl _⟩,List.pairwise_singleton _ _,λx hx y hy=>by
  have e:x=b0:=by simpa using hx
  rw[e]
  exact h0 b0 y hb0 (mem_of_mem_drop hy),λx hx y hy=>by
  have e:x=b0:=by simpa using hx
  rw[e]
  exact lb0 y (gK (by lia) hy)⟩
 dsimp only;refine aD (λg1=>?_) λg1=>?_
 ·rw[beq_iff_eq] at g1;exact wpS_pure (q _ _ (zP.refl _) p0.pm.done (p0.done ha hb (.inr (by lia))))
 refine aD (λg2=>?_) λg2=>?_
 ·rw[beq_iff_eq] at g2;exact wpS_pure (q _ _ (zP.refl _) p0.pm.last (p0.last ha hb (hLast 0 (by lia))))
 rw[beq_iff_eq] at g1 g2;refine wpS_bind (wpS_get ?_);refine wpS_bind (wpS_mono (wpS_forRange (I:=λx c' st'=>c'.1=none/\YX c a b st (1+x) c'.1 c'.2.1 c'.2.2.1 c'.2.2.2.1 st') (Q:=λc' st'=>YX c a b st (a.size+b.size) c'.1 c'.2.1 c'.2.2.1 c'.2.2.2.1 st') ?_ (λc' st' h=>?_) ⟨rfl,zP.refl _,.inr ⟨rfl,p0,by dsimp only;lia,by dsimp only;lia,by dsimp only;lia⟩⟩) ?_)
 ·rintro x ⟨c1,out,ia,ib,mg⟩ st1 _ hx ⟨rfl,k1,h⟩;dsimp only at h ⊢;obtain ⟨z,e,_⟩|⟨_,pn,ha2,hb2,hn⟩:=h
  ·cases e
  refine wpS_bind (wpS_mono (wpS_forRange (I:=λy c' st'=>c'.1=none/\YX c a b st (1+x+min y 1) c'.1 c'.2.1 c'.2.2.1 c'.2.2.2.1 st') (Q:=λc' st'=>YX c a b st (2+x) c'.1 c'.2.1 c'.2.2.1 c'.2.2.2.1 st') ?_ (λc' st' h=>?_) ⟨rfl,k1,.inr ⟨rfl,pn,ha2,hb2,by dsimp only;lia⟩⟩) ?_)
  ·rintro y ⟨c1,out,ia,ib,ac,bc⟩ st2 _ hy ⟨rfl,k2,h⟩;dsimp only at h ⊢;obtain ⟨z,e,_⟩|⟨_,pn,ha2,hb2,hn⟩:=h
   ·cases e
   obtain ⟨xb,hxb,pxb⟩:=bY (P:=P) (i:=ib) (by lia) hB;obtain ⟨xa,hxa,pxa⟩:=bY (P:=P) (i:=ia) (by lia) hA;refine wpS_bind (aI hxb (wpS_bind (aI hxa (wpS_bind (C xb xa st2 _ pxb pxa (k2.1.trans hk) ?_)))));dsimp only;have lowA:=low o ha hxa;have lowX:=low o hb hxb;cases ec:c xb xa
   ·rw[if_neg (by decide)];have pn2:=pn.pa ha hxa λy hy=>o.le_trans ec (lowX y hy);refine wpS_bind (aI hxa ?_);refine aD (λg3=>?_) λg3=>?_
    ·rw[beq_iff_eq] at g3;exact wpS_pure ⟨k2,.inl ⟨_,rfl,pn2.pm.last,pn2.last ha hb (hLast 0 (by lia))⟩⟩
    rw[beq_iff_eq] at g3;refine aD (λ_=>?_) λ_=>?_
    ·exact wpS_pure ⟨k2,.inr ⟨rfl,pn2,by dsimp only;lia,hb2,by dsimp only;lia⟩⟩
    ·exact wpS_pure ⟨rfl,k2,.inr ⟨rfl,pn2,by dsimp only;lia,hb2,by dsimp only;lia⟩⟩
   ·rw[if_pos rfl];have pn2:=pn.pb hb hxb λy hy=>o.le_trans (o.as _ _ ec) (lowA y hy);refine wpS_bind (aI hxb ?_);refine aD (λg3=>?_) λg3=>?_
    ·rw[beq_iff_eq] at g3;exact wpS_pure ⟨k2,.inl ⟨_,rfl,pn2.pm.done,pn2.done ha hb (.inr (by lia))⟩⟩
    rw[beq_iff_eq] at g3;refine aD (λ_=>?_) λ_=>?_
    ·exact wpS_pure ⟨k2,.inr ⟨rfl,pn2,ha2,by dsimp only;lia,by dsimp only;lia⟩⟩
    ·exact wpS_pure ⟨rfl,k2,.inr ⟨rfl,pn2,ha2,by dsimp only;lia,by dsimp only;lia⟩⟩
  ·obtain ⟨_,k2,h⟩:=h;refine ⟨k2,h.imp id λ⟨e,pn,ha2,hb2,hn⟩=>⟨e,pn,ha2,hb2,by lia⟩⟩
  ·rintro ⟨c1,out,ia,ib,ac,bc⟩ st2 ⟨k2,h⟩;dsimp only at h ⊢;obtain ⟨z,rfl,hz⟩|⟨rfl,pn,ha2,hb2,hn⟩:=h
   ·exact wpS_pure ⟨k2,.inl ⟨z,rfl,hz⟩⟩
   refine wpS_bind (wpS_lift (wpAny_rule ⟨rfl,?_⟩));refine wpS_bind (wpS_mono (wpS_forRange (I:=λy c' st'=>c'.1=none/\YX c a b st (2+x) c'.1 c'.2.1 c'.2.2.1 c'.2.2.2.1 st') (Q:=λc' st'=>YX c a b st (2+x) c'.1 c'.2.1 c'.2.2.1 c'.2.2.2.1 st') ?_ (λc' st' h=>h.2) ⟨rfl,k2,.inr ⟨rfl,pn,ha2,hb2,hn⟩⟩) ?_)
   ·rintro y ⟨c1,out,ia,ib,mg,ac,bc⟩ st3 _ hy ⟨rfl,k3,h⟩;dsimp only at h ⊢;obtain ⟨z,e,_⟩|⟨_,pn,ha2,hb2,hn⟩:=h
    ·cases e
    obtain ⟨xb,hxb,pxb⟩:=bY (P:=P) (i:=ib) (by lia) hB;refine aD (λ_=>?_) λ_=>?_
    all_goals
     refine wpS_bind (wpS_modify ?_);refine wpS_bind (aI hxb ?_);refine wpS_bind (bH o C (l:=a.toList.drop ia) (k3.1.trans hk) hA pxb (by lia) (by lia) (xO a _) ha.drop λk1' hk1 t1 t2=>?_);dsimp only;have lowX:=low o hb hxb;have pe:∀x∈(a.toList.drop ia).take k1',∀y∈b.toList.drop ib,c y x=false:=λx hx y hy=>by
      have:=t1 x hx;unfold sd at this;rw[if_neg (by decide),not_eq_true'] at this;exact o.le_trans this (lowX y hy)
     have upA':∀y∈a.toList.drop (ia+k1'),c y xb=false:=λy hy=>by
      have:=t2 y (by rw[drop_drop];exact hy);unfold sd at this;rw[if_neg (by decide),Bool.not_eq_false'] at this;exact o.as _ _ this
     refine aD (λ_=>?_) λgz1=>?_
     ·have pnE:=pn.ea ha (k:=k1') (by lia) pe;refine aD (λg1'=>?_) λg1'=>?_
      ·rw[beq_iff_eq] at g1';exact wpS_pure ⟨k3.gal _,.inl ⟨_,rfl,(pnE).pm.last,(pnE).last ha hb (hLast 0 (by lia))⟩⟩
      rw[beq_iff_eq] at g1';refine aD (λg2'=>?_) λg2'=>?_
      ·rw[beq_iff_eq] at g2';exact wpS_pure ⟨k3.gal _,.inl ⟨_,rfl,(pnE).pm.done,(pnE).done ha hb (.inl (by lia))⟩⟩
      rw[beq_iff_eq] at g2';have upA:=upA';have pn1:=pnE;refine wpS_bind (aI hxb ?_);have pn2:=pn1.pb hb hxb upA;refine aD (λg3=>?_) λg3=>?_
      ·rw[beq_iff_eq] at g3;exact wpS_pure ⟨k3.gal _,.inl ⟨_,rfl,(pn2).pm.done,(pn2).done ha hb (.inr (by lia))⟩⟩
      rw[beq_iff_eq] at g3;obtain ⟨xa,hxa,pxa⟩:=bY (P:=P) (i:=ia+k1') (by lia) hA;refine wpS_bind (aI hxa ?_);have lowA:=low o ha hxa;refine wpS_bind (bH o C (l:=b.toList.drop (ib+1)) (k3.1.trans hk) hB pxa (by lia) (by lia) (xO b _) hb.drop λk2 hk2 t1 t2=>?_);dsimp only;refine aD (λ_=>?_) λgz=>?_
      ·have pn2':=pn2.eb hb (k:=k2) (by lia) λx hx y hy=>by
        have:=t1 x hx;unfold sd at this;rw[if_pos rfl] at this;exact o.le_trans (o.as _ _ this) (lowA y hy)
       refine aD (λg5=>?_) λg5=>?_
       ·rw[beq_iff_eq] at g5;exact wpS_pure ⟨k3.gal _,.inl ⟨_,rfl,(pn2').pm.done,(pn2').done ha hb (.inr (by lia))⟩⟩
       rw[beq_iff_eq] at g5;have lowB:∀y∈b.toList.drop (ib+1+k2),c y xa=false:=λy hy=>by
        have:=t2 y (by rw[drop_drop];exact hy);unfold sd at this;rwa [if_pos rfl] at this
       have pn3:=pn2'.pa ha hxa lowB;refine wpS_bind (aI hxa ?_);refine aD (λg6=>?_) λg6=>?_
       ·rw[beq_iff_eq] at g6;exact wpS_pure ⟨k3.gal _,.inl ⟨_,rfl,(pn3).pm.last,(pn3).last ha hb (hLast 0 (by lia))⟩⟩
       rw[beq_iff_eq] at g6;refine aD (λ_=>?_) λ_=>?_
       ·exact wpS_pure ⟨k3.gal _,.inr ⟨rfl,pn3,by dsimp only;lia,by dsimp only;lia,by dsimp only;lia⟩⟩
       ·exact wpS_pure ⟨rfl,k3.gal _,.inr ⟨rfl,pn3,by dsimp only;lia,by dsimp only;lia,by dsimp only;lia⟩⟩
      ·have k0:k2=0:=by lia
       subst k0;have lowB:∀y∈b.toList.drop (ib+1),c y xa=false:=λy hy=>by
        have:=t2 y hy;unfold sd at this;rwa [if_pos rfl] at this
       have pn3:=pn2.pa ha hxa lowB;refine wpS_bind (aI hxa ?_);refine aD (λg6=>?_) λg6=>?_
       ·rw[beq_iff_eq] at g6;exact wpS_pure ⟨k3.gal _,.inl ⟨_,rfl,(pn3).pm.last,(pn3).last ha hb (hLast 0 (by lia))⟩⟩
       rw[beq_iff_eq] at g6;refine aD (λ_=>?_) λ_=>?_
       ·exact wpS_pure ⟨k3.gal _,.inr ⟨rfl,pn3,by dsimp only;lia,by dsimp only;lia,by dsimp only;lia⟩⟩
       ·exact wpS_pure ⟨rfl,k3.gal _,.inr ⟨rfl,pn3,by dsimp only;lia,by dsimp only;lia,by dsimp only;lia⟩⟩
     ·have k0:k1'=0:=by lia
      subst k0;have upA:∀y∈a.toList.drop ia,c y xb=false:=upA';have pn1:=pn;refine wpS_bind (aI hxb ?_);have pn2:=pn1.pb hb hxb upA;refine aD (λg3=>?_) λg3=>?_
      ·rw[beq_iff_eq] at g3;exact wpS_pure ⟨k3.gal _,.inl ⟨_,rfl,(pn2).pm.done,(pn2).done ha hb (.inr (by lia))⟩⟩
      rw[beq_iff_eq] at g3;obtain ⟨xa,hxa,pxa⟩:=bY (P:=P) (i:=ia) (by lia) hA;refine wpS_bind (aI hxa ?_);have lowA:=low o ha hxa;refine wpS_bind (bH o C (l:=b.toList.drop (ib+1)) (k3.1.trans hk) hB pxa (by lia) (by lia) (xO b _) hb.drop λk2 hk2 t1 t2=>?_);dsimp only;refine aD (λ_=>?_) λgz=>?_
      ·have pn2':=pn2.eb hb (k:=k2) (by lia) λx hx y hy=>by
        have:=t1 x hx;unfold sd at this;rw[if_pos rfl] at this;exact o.le_trans (o.as _ _ this) (lowA y hy)
       refine aD (λg5=>?_) λg5=>?_
       ·rw[beq_iff_eq] at g5;exact wpS_pure ⟨k3.gal _,.inl ⟨_,rfl,(pn2').pm.done,(pn2').done ha hb (.inr (by lia))⟩⟩
       rw[beq_iff_eq] at g5;have lowB:∀y∈b.toList.drop (ib+1+k2),c y xa=false:=λy hy=>by
        have:=t2 y (by rw[drop_drop];exact hy);unfold sd at this;rwa [if_pos rfl] at this
       have pn3:=pn2'.pa ha hxa lowB;refine wpS_bind (aI hxa ?_);refine aD (λg6=>?_) λg6=>?_
       ·rw[beq_iff_eq] at g6;exact wpS_pure ⟨k3.gal _,.inl ⟨_,rfl,(pn3).pm.last,(pn3).last ha hb (hLast 0 (by lia))⟩⟩
       rw[beq_iff_eq] at g6;refine aD (λ_=>?_) λ_=>?_
       ·exact wpS_pure ⟨k3.gal _,.inr ⟨rfl,pn3,by dsimp only;lia,by dsimp only;lia,by dsimp only;lia⟩⟩
       ·exact wpS_pure ⟨rfl,k3.gal _,.inr ⟨rfl,pn3,by dsimp only;lia,by dsimp only;lia,by dsimp only;lia⟩⟩
      ·have k0:k2=0:=by lia
       subst k0;have lowB:∀y∈b.toList.drop (ib+1),c y xa=false:=λy hy=>by
        have:=t2 y hy;unfold sd at this;rwa [if_pos rfl] at this
       have pn3:=pn2.pa ha hxa lowB;refine wpS_bind (aI hxa ?_);refine aD (λg6=>?_) λg6=>?_
       ·rw[beq_iff_eq] at g6;exact wpS_pure ⟨k3.gal _,.inl ⟨_,rfl,(pn3).pm.last,(pn3).last ha hb (hLast 0 (by lia))⟩⟩
       rw[beq_iff_eq] at g6;refine aD (λ_=>?_) λ_=>?_
       ·exact wpS_pure ⟨k3.gal _,.inr ⟨rfl,pn3,by dsimp only;lia,by dsimp only;lia,by dsimp only;lia⟩⟩
       ·exact wpS_pure ⟨rfl,k3.gal _,.inr ⟨rfl,pn3,by dsimp only;lia,by dsimp only;lia,by dsimp only;lia⟩⟩
   ·rintro ⟨c1,out,ia,ib,mg,ac,bc⟩ st3 ⟨k3,h⟩;dsimp only at h ⊢;obtain ⟨z,rfl,hz⟩|⟨rfl,pn,ha2,hb2,hn⟩:=h
    ·exact wpS_pure ⟨k3,.inl ⟨z,rfl,hz⟩⟩
    ·refine wpS_bind (wpS_modify ?_);exact wpS_pure ⟨rfl,k3.gal _,.inr ⟨rfl,pn,ha2,hb2,by dsimp only;lia⟩⟩
 ·obtain ⟨e,k1,h⟩:=h;exact ⟨k1,h.imp id λ⟨e,pn,ha2,hb2,hn⟩=>⟨e,pn,ha2,hb2,by lia⟩⟩
 ·rintro ⟨c1,out,ia,ib,mg⟩ st1 ⟨k1,h⟩;dsimp only at h ⊢;obtain ⟨z,rfl,hz1,hz2⟩|⟨rfl,pn,ha2,hb2,hn⟩:=h
  ·exact wpS_pure (q _ _ k1 hz1 hz2)
  ·lia
end
end So
namespace So
open PySem PySem.Spec PyProof.Rows
section
variable {M:Model} {A:Around} {E:Value->Shared->Prop} {s:Shared} {κ:SortKind} {c:Keyed->Keyed->Bool} {P:Keyed->Prop}
theorem high (o:Od c) {b:Array Keyed} (hb:Pw c b.toList) {i:Nat} {x:Keyed} (h1:1<=i) (hx:b[i - 1]?=some x):∀y∈b.toList.take i,c x y=false:=λy hy=>by
 have hd:Pw c (b.toList.take i):=hb.take;have e:=take_one hx;rw[show i - 1+1=i by lia] at e;rw[e] at hd hy;rcases mem_append.mp hy with hy|hy
 ·exact (pairwise_append.mp hd).2.2 y hy x (mem_singleton.mpr rfl)
 ·have e2:y=x:=by simpa using hy
  rw[e2];exact o.irr x
structure Pu (c:Keyed->Keyed->Bool) (a b out:Array Keyed) (na nb:Nat):Prop where
 ph:Ph a b out na nb
 so:Pw c out.reverse.toList
 oa:∀x∈out.toList,∀y∈a.toList.take na,c x y=false
 ob:∀x∈out.toList,∀y∈b.toList.take nb,c x y=false
section
variable {a b out:Array Keyed} {na nb:Nat}
theorem eC (h:x∈out.reverse.toList):x∈out.toList:=by
 rw[toList_reverse] at h;exact mem_reverse.mp h
theorem Pu.done (h:Pu c a b out na nb) (ha:Pw c a.toList) (hb:Pw c b.toList) (he:na=0\/nb=0):Pw c (a.extract 0 na++b.extract 0 nb++out.reverse).toList:=by
 rw[toList_append,toList_append,DQ,DQ];rcases he with he|he
 ·rw[he,take_zero,nil_append];exact pairwise_append.mpr ⟨hb.take,h.so,λy hy x hx=>h.ob x (eC hx) y hy⟩
 ·rw[he,take_zero,append_nil];exact pairwise_append.mpr ⟨ha.take,h.so,λy hy x hx=>h.oa x (eC hx) y hy⟩
theorem Pu.first (h:Pu c a b out na nb) (ha:Pw c a.toList) (hb:Pw c b.toList) (hl:∀x∈b.toList.take nb,∀y∈a.toList.take na,c y x=false):Pw c (b.extract 0 nb++a.extract 0 na++out.reverse).toList:=by
 rw[toList_append,toList_append,DQ,DQ];refine pairwise_append.mpr ⟨pairwise_append.mpr ⟨hb.take,ha.take,hl⟩,h.so,λy hy x hx=>?_⟩;rcases mem_append.mp hy with hy|hy
 ·exact h.ob x (eC hx) y hy
 ·exact h.oa x (eC hx) y hy
theorem AE (out:Array Keyed) (l:Array Keyed):(out++l.reverse).reverse.toList=l.toList++out.reverse.toList:=by
 rw[toList_reverse,toList_append,List.reverse_append,toList_reverse,List.reverse_reverse,toList_reverse]
theorem gI {l:List Keyed} {i j:Nat} {x:Keyed} (h:i<=j) (hx:x∈l.take i):x∈l.take j:=by
 have:(l.take j).take i=l.take i:=by rw[take_take,min_eq_left h]
 rw[<-this] at hx;exact mem_of_mem_take hx
theorem Pu.ea (h:Pu c a b out na nb) (ha:Pw c a.toList) (hk:k<=na) (hx:∀x∈(a.toList.take na).drop k,∀y∈b.toList.take nb,c x y=false):Pu c a b (out++(a.extract k na).reverse) k nb:=by
 have e2:=cB a k na;have had:Pw c (a.toList.take na):=ha.take;have e3:(a.toList.take na).take k=a.toList.take k:=by rw[take_take,min_eq_left hk]
 have mm:∀x,x∈(out++(a.extract k na).reverse).toList->x∈out.toList\/x∈(a.toList.take na).drop k:=λx hx'=>by
  rw[toList_append] at hx';rcases mem_append.mp hx' with hx'|hx'
  ·exact .inl hx'
  ·exact .inr (by rw[<-e2];exact eC hx')
 refine ⟨h.ph.ea hk,?_,λx hx' y hy=>?_,λx hx' y hy=>?_⟩
 ·rw[AE,e2];exact pairwise_append.mpr ⟨had.drop,h.so,λy hy x hx'=>h.oa x (eC hx') y (mem_of_mem_drop hy)⟩
 ·rcases mm x hx' with hx'|hx'
  ·exact h.oa x hx' y (gI hk hy)
  ·have hs:=had;rw[<-take_append_drop k (a.toList.take na)] at hs;exact (pairwise_append.mp hs).2.2 y (by rw[e3];exact hy) x hx'
 ·rcases mm x hx' with hx'|hx'
  ·exact h.ob x hx' y hy
  ·exact hx x hx' y hy
theorem Pu.eb (h:Pu c a b out na nb) (hb:Pw c b.toList) (hk:k<=nb) (hx:∀x∈(b.toList.take nb).drop k,∀y∈a.toList.take na,c x y=false):Pu c a b (out++(b.extract k nb).reverse) na k:=by
 have e2:=cB b k nb;have had:Pw c (b.toList.take nb):=hb.take;have e3:(b.toList.take nb).take k=b.toList.take k:=by rw[take_take,min_eq_left hk]
 have mm:∀x,x∈(out++(b.extract k nb).reverse).toList->x∈out.toList\/x∈(b.toList.take nb).drop k:=λx hx'=>by
  rw[toList_append] at hx';rcases mem_append.mp hx' with hx'|hx'
  ·exact .inl hx'
  ·exact .inr (by rw[<-e2];exact eC hx')
 refine ⟨h.ph.eb hk,?_,λx hx' y hy=>?_,λx hx' y hy=>?_⟩
 ·rw[AE,e2];exact pairwise_append.mpr ⟨had.drop,h.so,λy hy x hx'=>h.ob x (eC hx') y (mem_of_mem_drop hy)⟩
 ·rcases mm x hx' with hx'|hx'
  ·exact h.oa x hx' y hy
  ·exact hx x hx' y hy
 ·rcases mm x hx' with hx'|hx'
  ·exact h.ob x hx' y (gI hk hy)
  ·have hs:=had;rw[<-take_append_drop k (b.toList.take nb)] at hs;exact (pairwise_append.mp hs).2.2 y (by rw[e3];exact hy) x hx'
theorem vD (h1:1<=i) (hx:a[i - 1]?=some x) (out:Array Keyed):out++(a.extract (i - 1) i).reverse=out.push x:=by
 have:=mJ hx;rw[show i - 1+1=i by lia] at this;rw[this];rfl
theorem vF (h1:1<=i) (hx:a[i - 1]?=some x) (hz:z∈(a.toList.take i).drop (i - 1)):z=x:=by
 have:=mJ hx;rw[show i - 1+1=i by lia] at this;rw[<-cB,this] at hz;simpa using hz
theorem Pu.pa (h:Pu c a b out na nb) (ha:Pw c a.toList) (h1:1<=na) (hx:a[na - 1]?=some x) (hl:∀y∈b.toList.take nb,c x y=false):Pu c a b (out.push x) (na - 1) nb:=by
 have:=h.ea ha (k:=na - 1) (by lia) λz hz y hy=>by
  rw[vF h1 hx hz];exact hl y hy
 rwa [vD h1 hx] at this
theorem Pu.pb (h:Pu c a b out na nb) (hb:Pw c b.toList) (h1:1<=nb) (hx:b[nb - 1]?=some x) (hl:∀y∈a.toList.take na,c x y=false):Pu c a b (out.push x) na (nb - 1):=by
 have:=h.eb hb (k:=nb - 1) (by lia) λz hz y hy=>by
  rw[vF h1 hx hz];exact hl y hy
 rwa [vD h1 hx] at this
end
noncomputable def YW (c:Keyed->Keyed->Bool) (a b:Array Keyed) (st:SortSt) (n:Nat) (r:Option (Array Keyed)) (out:Array Keyed) (na nb:Nat) (st':SortSt):Prop:=
 zP st st'/\((∃z,r=some z/\z.toList.Perm (a.toList++b.toList)/\Pw c z.toList)\/(r=none/\Pu c a b out na nb/\1<=na/\2<=nb/\na+nb+n<=a.size+b.size))
theorem rK (o:Od c) (C:BW M A E s κ c P) {a b:Array Keyed} {st:SortSt} {Q:Array Keyed->SortSt->Prop} (hk:kindOf st=κ) (hA:∀p∈a.toList,P p) (hB:∀p∈b.toList,P p) (ha1:1<=a.size) (hb1:1<=b.size) (ha:Pw c a.toList) (hb:Pw c b.toList)
  (h0:∀x y,b[0]?=some x->y∈a.toList->c y x=false) (h9:∀x∈b.toList,∀y∈a.toList.drop (a.size - 1),c y x=false)
  (q:∀out st',zP st st'->out.toList.Perm (a.toList++b.toList)->Pw c out.toList->Q out st'):wpS M A E s (IA a b) Q st:=by
 refine wpS_bind (wpS_lift (wpAny_rule ⟨rfl,?_⟩));obtain ⟨a0,ha0,pa0⟩:=bY (P:=P) (i:=a.size - 1) (by lia) hA;refine wpS_bind (aI ha0 ?_);have hFirst:∀{na nb:Nat} (_:Nat) (_:nb=1),∀x∈b.toList.take nb,∀y∈a.toList.take na,c y x=false:=λ{na nb} _ e x hx y hy=>by
  obtain ⟨b0,hb0,_⟩:=bY (P:=P) (i:=0) (by lia) hB;have e2:=take_one hb0;rw[e,e2,take_zero,nil_append] at hx;have e3:x=b0:=by simpa using hx
  rw[e3];exact h0 b0 y hb0 (mem_of_mem_take hy)
 have hi0:=high o ha ha1 ha0;have p0:Pu c a b #[a0] (a.size - 1) b.size:=⟨⟨by lia,by lia,by
  rw[drop_one ha0,drop_eq_nil_of_le (by rw[length_toList];lia),drop_eq_nil_of_le (by rw[length_toList];lia)]
  exact List.Perm.refl _⟩,List.pairwise_singleton _ _,λx hx y hy=>by
  have e:x=a0:=by simpa using hx
  rw[e]
  exact hi0 y (gI (by lia) hy),λx hx y hy=>by
  have e:x=a0:=by simpa using hx
  rw[e]
  exact h9 y (mem_of_mem_take hy) a0 (by rw[drop_one ha0];exact mem_cons_self)⟩
 dsimp only;refine aD (λg1=>?_) λg1=>?_
 ·rw[beq_iff_eq] at g1;exact wpS_pure (q _ _ (zP.refl _) p0.ph.done (p0.done ha hb (.inl g1)))
 refine aD (λg2=>?_) λg2=>?_
 ·rw[beq_iff_eq] at g2;exact wpS_pure (q _ _ (zP.refl _) p0.ph.first (p0.first ha hb (hFirst 0 g2)))
 rw[beq_iff_eq] at g1 g2;refine wpS_bind (wpS_get ?_);refine wpS_bind (wpS_mono (wpS_forRange (I:=λx c' st'=>c'.1=none/\YW c a b st (1+x) c'.1 c'.2.2.2.1 c'.2.1 c'.2.2.1 st') (Q:=λc' st'=>YW c a b st (a.size+b.size) c'.1 c'.2.2.2.1 c'.2.1 c'.2.2.1 st') ?_ (λc' st' h=>?_) ⟨rfl,zP.refl _,.inr ⟨rfl,p0,by dsimp only;lia,by dsimp only;lia,by dsimp only;lia⟩⟩) ?_)
 ·rintro x ⟨c1,na,nb,out,mg⟩ st1 _ hx ⟨rfl,k1,h⟩;dsimp only at h ⊢;obtain ⟨z,e,_⟩|⟨_,pn,ha2,hb2,hn⟩:=h
  ·cases e
  have la:=pn.ph.la;have lb:=pn.ph.lb;refine wpS_bind (wpS_mono (wpS_forRange (I:=λy c' st'=>c'.1=none/\YW c a b st (1+x+min y 1) c'.1 c'.2.2.2.1 c'.2.1 c'.2.2.1 st') (Q:=λc' st'=>YW c a b st (2+x) c'.1 c'.2.2.2.1 c'.2.1 c'.2.2.1 st') ?_ (λc' st' h=>?_) ⟨rfl,k1,.inr ⟨rfl,pn,ha2,hb2,by dsimp only;lia⟩⟩) ?_)
  ·rintro y ⟨c1,na,nb,out,ac,bc⟩ st2 _ hy ⟨rfl,k2,h⟩;dsimp only at h ⊢;obtain ⟨z,e,_⟩|⟨_,pn,ha2,hb2,hn⟩:=h
   ·cases e
   have la:=pn.ph.la;have lb:=pn.ph.lb;obtain ⟨xb,hxb,pxb⟩:=bY (P:=P) (i:=nb - 1) (by lia) hB;obtain ⟨xa,hxa,pxa⟩:=bY (P:=P) (i:=na - 1) (by lia) hA;refine wpS_bind (aI hxb (wpS_bind (aI hxa (wpS_bind (C xb xa st2 _ pxb pxa (k2.1.trans hk) ?_)))));dsimp only;have hiA:=high o ha ha2 hxa;have hiX:=high o hb (by lia) hxb;cases ec:c xb xa
   ·rw[if_neg (by decide)];have pn2:=pn.pb hb (by lia) hxb λy hy=>o.le_trans (hiA y hy) ec;refine wpS_bind (aI hxb ?_);refine aD (λg3=>?_) λg3=>?_
    ·rw[beq_iff_eq] at g3;exact wpS_pure ⟨k2,.inl ⟨_,rfl,pn2.ph.first,pn2.first ha hb (hFirst 0 (by lia))⟩⟩
    rw[beq_iff_eq] at g3;refine aD (λ_=>?_) λ_=>?_
    ·exact wpS_pure ⟨k2,.inr ⟨rfl,pn2,by dsimp only;lia,by dsimp only;lia,by dsimp only;lia⟩⟩
    ·exact wpS_pure ⟨rfl,k2,.inr ⟨rfl,pn2,by dsimp only;lia,by dsimp only;lia,by dsimp only;lia⟩⟩
   ·rw[if_pos rfl];have pn2:=pn.pa ha ha2 hxa λy hy=>o.le_trans (hiX y hy) (o.as _ _ ec);refine wpS_bind (aI hxa ?_);refine aD (λg3=>?_) λg3=>?_
    ·rw[beq_iff_eq] at g3;exact wpS_pure ⟨k2,.inl ⟨_,rfl,pn2.ph.done,pn2.done ha hb (.inl (by lia))⟩⟩
    rw[beq_iff_eq] at g3;refine aD (λ_=>?_) λ_=>?_
    ·exact wpS_pure ⟨k2,.inr ⟨rfl,pn2,by dsimp only;lia,by dsimp only;lia,by dsimp only;lia⟩⟩
    ·exact wpS_pure ⟨rfl,k2,.inr ⟨rfl,pn2,by dsimp only;lia,by dsimp only;lia,by dsimp only;lia⟩⟩
  ·obtain ⟨_,k2,h⟩:=h;refine ⟨k2,h.imp id λ⟨e,pn,ha2,hb2,hn⟩=>⟨e,pn,ha2,hb2,by lia⟩⟩
  ·rintro ⟨c1,na,nb,out,ac,bc⟩ st2 ⟨k2,h⟩;dsimp only at h ⊢;obtain ⟨z,rfl,hz⟩|⟨rfl,pn,ha2,hb2,hn⟩:=h
   ·exact wpS_pure ⟨k2,.inl ⟨z,rfl,hz⟩⟩
   refine wpS_bind (wpS_lift (wpAny_rule ⟨rfl,?_⟩));refine wpS_bind (wpS_mono (wpS_forRange (I:=λy c' st'=>c'.1=none/\YW c a b st (2+x) c'.1 c'.2.2.2.1 c'.2.1 c'.2.2.1 st') (Q:=λc' st'=>YW c a b st (2+x) c'.1 c'.2.2.2.1 c'.2.1 c'.2.2.1 st') ?_ (λc' st' h=>h.2) ⟨rfl,k2,.inr ⟨rfl,pn,ha2,hb2,hn⟩⟩) ?_)
   ·rintro y ⟨c1,na,nb,out,mg,ac,bc⟩ st3 _ hy ⟨rfl,k3,h⟩;dsimp only at h ⊢;obtain ⟨z,e,_⟩|⟨_,pn,ha2,hb2,hn⟩:=h
    ·cases e
    have la:=pn.ph.la;have lb:=pn.ph.lb;obtain ⟨xb,hxb,pxb⟩:=bY (P:=P) (i:=nb - 1) (by lia) hB;refine aD (λ_=>?_) λ_=>?_
    all_goals
     refine wpS_bind (wpS_modify ?_);refine wpS_bind (aI hxb ?_);refine wpS_bind (bH o C (l:=a.toList.take na) (k3.1.trans hk) hA pxb (by lia) (by lia) (by rw[drop_zero]) ha.take λk1' hk1 t1 t2=>?_);dsimp only;have hiX:=high o hb (by lia) hxb;have pe:∀x∈(a.toList.take na).drop k1',∀y∈b.toList.take nb,c x y=false:=λx hx y hy=>by
      have:=t2 x hx;unfold sd at this;rw[if_neg (by decide),Bool.not_eq_false'] at this;exact o.le_trans (hiX y hy) (o.as _ _ this)
     have upA':∀y∈a.toList.take k1',c xb y=false:=λy hy=>by
      have:=t1 y (by rw[take_take,min_eq_left hk1];exact hy);unfold sd at this;rwa [if_neg (by decide),not_eq_true'] at this
     refine aD (λ_=>?_) λgz1=>?_
     ·have pnE:=pn.ea ha (k:=k1') (by lia) pe;refine aD (λg2'=>?_) λg2'=>?_
      ·rw[beq_iff_eq] at g2';exact wpS_pure ⟨k3.gal _,.inl ⟨_,rfl,pnE.ph.done,pnE.done ha hb (.inl (by lia))⟩⟩
      rw[beq_iff_eq] at g2';have upA:=upA';have pn1:=pnE;refine wpS_bind (aI hxb ?_);have pn2:=pn1.pb hb (by lia) hxb upA;refine aD (λg3=>?_) λg3=>?_
      ·rw[beq_iff_eq] at g3;exact wpS_pure ⟨k3.gal _,.inl ⟨_,rfl,pn2.ph.first,pn2.first ha hb (hFirst 0 (by lia))⟩⟩
      rw[beq_iff_eq] at g3;obtain ⟨xa,hxa,pxa⟩:=bY (P:=P) (i:=k1' - 1) (by lia) hA;refine wpS_bind (aI hxa ?_);have hiA:=high o ha (by lia) hxa;refine wpS_bind (bH o C (l:=b.toList.take (nb - 1)) (k3.1.trans hk) hB pxa (by lia) (by lia) (by rw[drop_zero]) hb.take λk2 hk2 t1 t2=>?_);dsimp only;refine aD (λ_=>?_) λgz=>?_
      ·have pn2':=pn2.eb hb (k:=k2) (by lia) λx hx y hy=>by
        have:=t2 x hx;unfold sd at this;rw[if_pos rfl] at this;exact o.le_trans (hiA y hy) this
       refine aD (λg4=>?_) λg4=>?_
       ·rw[beq_iff_eq] at g4;exact wpS_pure ⟨k3.gal _,.inl ⟨_,rfl,pn2'.ph.first,pn2'.first ha hb (hFirst 0 (by lia))⟩⟩
       rw[beq_iff_eq] at g4;refine aD (λg5=>?_) λg5=>?_
       ·rw[beq_iff_eq] at g5;exact wpS_pure ⟨k3.gal _,.inl ⟨_,rfl,pn2'.ph.done,pn2'.done ha hb (.inr (by lia))⟩⟩
       rw[beq_iff_eq] at g5;have upB:∀y∈b.toList.take k2,c xa y=false:=λy hy=>by
        have:=t1 y (by rw[take_take,min_eq_left (by lia)];exact hy);unfold sd at this;rw[if_pos rfl] at this;exact o.as _ _ this
       have pn3:=pn2'.pa ha (by lia) hxa upB;refine wpS_bind (aI hxa ?_);refine aD (λg6=>?_) λg6=>?_
       ·rw[beq_iff_eq] at g6;exact wpS_pure ⟨k3.gal _,.inl ⟨_,rfl,pn3.ph.done,pn3.done ha hb (.inl (by lia))⟩⟩
       rw[beq_iff_eq] at g6;refine aD (λ_=>?_) λ_=>?_
       ·exact wpS_pure ⟨k3.gal _,.inr ⟨rfl,pn3,by dsimp only;lia,by dsimp only;lia,by dsimp only;lia⟩⟩
       ·exact wpS_pure ⟨rfl,k3.gal _,.inr ⟨rfl,pn3,by dsimp only;lia,by dsimp only;lia,by dsimp only;lia⟩⟩
      ·have k0:k2=nb - 1:=by lia
       subst k0;have upB:∀y∈b.toList.take (nb - 1),c xa y=false:=λy hy=>by
        have:=t1 y (by rw[take_take,min_eq_left (by lia)];exact hy);unfold sd at this;rw[if_pos rfl] at this;exact o.as _ _ this
       have pn3:=pn2.pa ha (by lia) hxa upB;refine wpS_bind (aI hxa ?_);refine aD (λg6=>?_) λg6=>?_
       ·rw[beq_iff_eq] at g6;exact wpS_pure ⟨k3.gal _,.inl ⟨_,rfl,pn3.ph.done,pn3.done ha hb (.inl (by lia))⟩⟩
       rw[beq_iff_eq] at g6;refine aD (λ_=>?_) λ_=>?_
       ·exact wpS_pure ⟨k3.gal _,.inr ⟨rfl,pn3,by dsimp only;lia,by dsimp only;lia,by dsimp only;lia⟩⟩
       ·exact wpS_pure ⟨rfl,k3.gal _,.inr ⟨rfl,pn3,by dsimp only;lia,by dsimp only;lia,by dsimp only;lia⟩⟩
     ·have k0:k1'=na:=by lia
      subst k0;have upA:=upA';have pn1:=pn;refine wpS_bind (aI hxb ?_);have pn2:=pn1.pb hb (by lia) hxb upA;refine aD (λg3=>?_) λg3=>?_
      ·rw[beq_iff_eq] at g3;exact wpS_pure ⟨k3.gal _,.inl ⟨_,rfl,pn2.ph.first,pn2.first ha hb (hFirst 0 (by lia))⟩⟩
      rw[beq_iff_eq] at g3;obtain ⟨xa,hxa,pxa⟩:=bY (P:=P) (i:=k1' - 1) (by lia) hA;refine wpS_bind (aI hxa ?_);have hiA:=high o ha (by lia) hxa;refine wpS_bind (bH o C (l:=b.toList.take (nb - 1)) (k3.1.trans hk) hB pxa (by lia) (by lia) (by rw[drop_zero]) hb.take λk2 hk2 t1 t2=>?_);dsimp only;refine aD (λ_=>?_) λgz=>?_
      ·have pn2':=pn2.eb hb (k:=k2) (by lia) λx hx y hy=>by
        have:=t2 x hx;unfold sd at this;rw[if_pos rfl] at this;exact o.le_trans (hiA y hy) this
       refine aD (λg4=>?_) λg4=>?_
       ·rw[beq_iff_eq] at g4;exact wpS_pure ⟨k3.gal _,.inl ⟨_,rfl,pn2'.ph.first,pn2'.first ha hb (hFirst 0 (by lia))⟩⟩
       rw[beq_iff_eq] at g4;refine aD (λg5=>?_) λg5=>?_
       ·rw[beq_iff_eq] at g5;exact wpS_pure ⟨k3.gal _,.inl ⟨_,rfl,pn2'.ph.done,pn2'.done ha hb (.inr (by lia))⟩⟩
       rw[beq_iff_eq] at g5;have upB:∀y∈b.toList.take k2,c xa y=false:=λy hy=>by
        have:=t1 y (by rw[take_take,min_eq_left (by lia)];exact hy);unfold sd at this;rw[if_pos rfl] at this;exact o.as _ _ this
       have pn3:=pn2'.pa ha (by lia) hxa upB;refine wpS_bind (aI hxa ?_);refine aD (λg6=>?_) λg6=>?_
       ·rw[beq_iff_eq] at g6;exact wpS_pure ⟨k3.gal _,.inl ⟨_,rfl,pn3.ph.done,pn3.done ha hb (.inl (by lia))⟩⟩
       rw[beq_iff_eq] at g6;refine aD (λ_=>?_) λ_=>?_
       ·exact wpS_pure ⟨k3.gal _,.inr ⟨rfl,pn3,by dsimp only;lia,by dsimp only;lia,by dsimp only;lia⟩⟩
       ·exact wpS_pure ⟨rfl,k3.gal _,.inr ⟨rfl,pn3,by dsimp only;lia,by dsimp only;lia,by dsimp only;lia⟩⟩
      ·have k0:k2=nb - 1:=by lia
       subst k0;have upB:∀y∈b.toList.take (nb - 1),c xa y=false:=λy hy=>by
        have:=t1 y (by rw[take_take,min_eq_left (by lia)];exact hy);unfold sd at this;rw[if_pos rfl] at this;exact o.as _ _ this
       have pn3:=pn2.pa ha (by lia) hxa upB;refine wpS_bind (aI hxa ?_);refine aD (λg6=>?_) λg6=>?_
       ·rw[beq_iff_eq] at g6;exact wpS_pure ⟨k3.gal _,.inl ⟨_,rfl,pn3.ph.done,pn3.done ha hb (.inl (by lia))⟩⟩
       rw[beq_iff_eq] at g6;refine aD (λ_=>?_) λ_=>?_
       ·exact wpS_pure ⟨k3.gal _,.inr ⟨rfl,pn3,by dsimp only;lia,by dsimp only;lia,by dsimp only;lia⟩⟩
       ·exact wpS_pure ⟨rfl,k3.gal _,.inr ⟨rfl,pn3,by dsimp only;lia,by dsimp only;lia,by dsimp only;lia⟩⟩
   ·rintro ⟨c1,na,nb,out,mg,ac,bc⟩ st3 ⟨k3,h⟩;dsimp only at h ⊢;obtain ⟨z,rfl,hz⟩|⟨rfl,pn,ha2,hb2,hn⟩:=h
    ·exact wpS_pure ⟨k3,.inl ⟨z,rfl,hz⟩⟩
    ·refine wpS_bind (wpS_modify ?_);exact wpS_pure ⟨rfl,k3.gal _,.inr ⟨rfl,pn,ha2,hb2,by dsimp only;lia⟩⟩
 ·obtain ⟨e,k1,h⟩:=h;exact ⟨k1,h.imp id λ⟨e,pn,ha2,hb2,hn⟩=>⟨e,pn,ha2,hb2,by lia⟩⟩
 ·rintro ⟨c1,na,nb,out,mg⟩ st1 ⟨k1,h⟩;dsimp only at h ⊢;obtain ⟨z,rfl,hz1,hz2⟩|⟨rfl,pn,ha2,hb2,hn⟩:=h
  ·exact wpS_pure (q _ _ k1 hz1 hz2)
  ·lia
end
end So
namespace So
open PySem PySem.Spec PyProof.Rows
noncomputable def cK (o:KeyKind) (p q:Keyed):Bool:=o.blt ((o.keyOf p.1).getD o.dflt) ((o.keyOf q.1).getD o.dflt)
theorem HK (o:KeyKind):Od (cK o):=⟨λx y h=>KeyOrd.klt_asymm h,λx y z h=>o.negTrans _ _ _ h⟩
noncomputable def eO (o:KeyKind) (arr:Array Keyed) (lo n:Nat):Prop:=∀i j,lo<=i->i<=j->j<lo+n->o.kle (KK o arr i) (KK o arr j)
noncomputable def mM (o:KeyKind) (arr:Array Keyed) (lo n:Nat):Prop:=∀i j,lo<=i->i<=j->j<lo+n->o.kle (KK o arr j) (KK o arr i)
noncomputable def LS (o:KeyKind) (arr:Array Keyed) (i j:Nat):Prop:=∀k,i<=k->k<j->KK o arr k=KK o arr (j - 1)
section
variable {o:KeyKind} {arr:Array Keyed} {lo n:Nat}
theorem eO.ext (h:eO o arr lo n) (h1:1<=n) (he:o.kle (KK o arr (lo+n - 1)) (KK o arr (lo+n))):eO o arr lo (n+1):=λi j a b c=>by
 by_cases hj:j<lo+n
 ·exact h i j a b hj
 ·have ej:j=lo+n:=by lia
  subst ej;by_cases hi:i=lo+n
  ·rw[hi];exact KeyOrd.kle_refl _
  ·exact KeyOrd.kle_trans (h i (lo+n - 1) a (by lia) (by lia)) he
theorem mM.ext (h:mM o arr lo n) (h1:1<=n) (he:o.kle (KK o arr (lo+n)) (KK o arr (lo+n - 1))):mM o arr lo (n+1):=λi j a b c=>by
 by_cases hj:j<lo+n
 ·exact h i j a b hj
 ·have ej:j=lo+n:=by lia
  subst ej;by_cases hi:i=lo+n
  ·rw[hi];exact KeyOrd.kle_refl _
  ·exact KeyOrd.kle_trans he (h i (lo+n - 1) a (by lia) (by lia))
theorem mM.congr (hk:∀k,KK o arr' k=KK o arr k) (h:mM o arr lo n):mM o arr' lo n:=λi j a b c=>by
 rw[hk,hk];exact h i j a b c
theorem LS.ext (h:LS o arr i j) (hij:i<j) (e:KK o arr j=KK o arr (j - 1)):LS o arr i (j+1):=λk a b=>by
 rw[Nat.add_sub_cancel];by_cases hk:k=j
 ·rw[hk]
 ·rw[h k a (by lia),e]
theorem lB:LS o arr (j - (0+1)) j:=λk a b=>by rw[show k=j - 1 by lia]
theorem LS.mir (h:LS o arr i j) (hj:j<=arr.size):∀k,KK o (mirror arr i j ((j - i) / 2)) k=KK o arr k:=λk=>KK_mirror_equal hj h k
theorem dD (hj:j<=arr.size) (hk:k<i):(mirror arr i j ((j - i) / 2))[k]?=arr[k]?:=by
 rw[getElem?_mirror_all hj,if_neg (by lia)]
theorem mM.mir (h:mM o arr lo n) (hj:lo+n<=arr.size):eO o (mirror arr lo (lo+n) ((lo+n - lo) / 2)) lo n:=λi j a b c=>by
 rw[KK_mirror hj,KK_mirror hj,if_pos (by lia),if_pos (by lia)];exact h _ _ (by lia) (by lia) (by lia)
end
section
variable {M:Model} {A:Around} {E:Value->Shared->Prop} {s:Shared} {kd:SortKind} {o:KeyKind} {P:Keyed->Prop} {a₀ a1:Array Keyed} {lo:Nat}
structure Cs (kd:SortKind) (a₀:Array Keyed) (pend:Array (Nat × Nat × Nat)) (a1:Array Keyed) (lo:Nat) (st:SortSt):Prop where
 ba:Ba kd a₀ pend st
 pre:∀i,i<lo->(arrOf st)[i]?=a1[i]?
theorem Cs.set {pend:Array (Nat × Nat × Nat)} {st:SortSt} (h:Cs kd a₀ pend a1 lo st) {xs:Array Keyed} (hp:xs.Perm (arrOf st)) (he:∀i,i<lo->xs[i]?=(arrOf st)[i]?):Cs kd a₀ pend a1 lo (setArr st xs):=⟨h.ba.set hp,λi hi=>(he i hi).trans (h.pre i hi)⟩
theorem cG (C:BW M A E s kd (cK o) P) {pend:Array (Nat × Nat × Nat)} {st:SortSt} {i j:Nat} {Q:Option Bool->SortSt->Prop} (h:Ba kd a₀ pend st) (hP:∀p∈a₀.toList,P p) (hi:i<a₀.size) (hj:j<a₀.size) (q:Q (some (o.blt (KK o (arrOf st) i) (KK o (arrOf st) j))) st):wpS M A E s (ltAt' i j) Q st:=by
 obtain ⟨x,hx,px⟩:=bY (P:=P) (i:=i) (by rw[h.size];exact hi) (h.all hP);obtain ⟨y,hy,py⟩:=bY (P:=P) (i:=j) (by rw[h.size];exact hj) (h.all hP);rw[ltAt'_eq];refine wpS_bind (wpS_get ?_);refine wpS_bind (aI hx (wpS_bind (aI hy (C x y st _ px py h.kind ?_))));have e1:KK o (arrOf st) i=(o.keyOf x.1).getD o.dflt:=by unfold KK;rw[hx]
 have e2:KK o (arrOf st) j=(o.keyOf y.1).getD o.dflt:=by unfold KK;rw[hy]
 rw[e1,e2] at q;exact q
theorem xF (C:BW M A E s kd (cK o) P) {pend:Array (Nat × Nat × Nat)} {st:SortSt} {nrem:Nat} {Q:Option Nat->SortSt->Prop} (h:Cs kd a₀ pend a1 lo st) (hP:∀p∈a₀.toList,P p) (hl:lo+nrem<=a₀.size) (hr:1<=nrem) (q:∀n st',1<=n->n<=nrem->Cs kd a₀ pend a1 lo st'->eO o (arrOf st') lo n->Q (some n) st'):wpS M A E s (countRun' lo nrem) Q st:=by
 have s0:eO o (arrOf st) lo 1:=λi j a b c=>by
  rw[show i=j by lia];exact KeyOrd.kle_refl _
 refine wpS_bind (wpS_mono (wpS_forRange (I:=λi c st'=>c.1=none/\c.2=i/\Cs kd a₀ pend a1 lo st'/\eO o (arrOf st') lo i) (Q:=λc st'=>c.1=none/\1<=c.2/\c.2<=nrem/\Cs kd a₀ pend a1 lo st'/\eO o (arrOf st') lo c.2/\(c.2<nrem->o.klt (KK o (arrOf st') (lo+c.2)) (KK o (arrOf st') (lo+c.2 - 1)))) ?_ (λc st' ⟨e,e2,h',hs⟩=>⟨e,by lia,by lia,h',by rw[e2];exact hs,λg=>by lia⟩) ⟨rfl,rfl,h,s0⟩) ?_)
 ·rintro i ⟨c1,n⟩ st1 hi1 hi2 ⟨rfl,e,h1,hs⟩;dsimp only at e ⊢;subst e;refine wpS_bind (cG C h1.ba hP (by lia) (by lia) ?_);cases eb:o.blt (KK o (arrOf st1) (lo+n)) (KK o (arrOf st1) (lo+n - 1))
  ·exact wpS_pure ⟨rfl,rfl,h1,hs.ext hi1 eb⟩
  ·exact wpS_pure ⟨rfl,hi1,by dsimp only;lia,h1,hs,λ_=>eb⟩
 ·rintro ⟨c1,n⟩ st1 ⟨rfl,n1,n2,h1,hs,hlt⟩;dsimp only at n1 n2 hs hlt ⊢;refine aD (λ_=>?_) λg=>?_
  ·exact wpS_pure (q _ _ n1 n2 h1 hs)
  rw[beq_iff_eq] at g;have hlt:=hlt (by lia);refine aD (λ_=>?_) λ_=>?_
  ·refine wpS_bind (cG C h1.ba hP (by lia) (by lia) ?_);cases eb:o.blt (KK o (arrOf st1) lo) (KK o (arrOf st1) (lo+n - 1))
   ·dsimp only;rw[if_neg (by decide)];have he:LS o (arrOf st1) lo (lo+n):=λk a b=>KeyOrd.kle_antisymm (hs k (lo+n - 1) a (by lia) (by lia)) (KeyOrd.kle_trans eb (hs lo k (by lia) a b));have hk:=he.mir (by rw[h1.ba.size];lia);refine wpS_bind (wpS_modify ?_);have h2:Cs kd a₀ pend a1 lo (setArr st1 (mirror (arrOf st1) lo (lo+n) ((lo+n - lo) / 2))):=h1.set (mirror_perm _ _ _ _) λi hi=>dD (by rw[h1.ba.size];lia) hi;have ni2:mM o (mirror (arrOf st1) lo (lo+n) ((lo+n - lo) / 2)) lo (n+1):=mM.ext (λi j a b c=>by
     rw[hk,hk,he i a (by lia),he j (by lia) c]
     exact KeyOrd.kle_refl _) n1 (by
     rw[hk,hk]
     exact KeyOrd.kle_of_klt hlt)
    refine wpS_bind (wpS_lift (wpAny_rule ⟨rfl,?_⟩));refine wpS_bind (wpS_mono (wpS_forRange (I:=λi c st'=>c.1=none/\c.2.1=i/\Cs kd a₀ pend a1 lo st'/\mM o (arrOf st') lo i/\c.2.2+1<=i/\LS o (arrOf st') (lo+i - (c.2.2+1)) (lo+i)) (Q:=λc st'=>c.1=none/\1<=c.2.1/\c.2.1<=nrem/\Cs kd a₀ pend a1 lo st'/\mM o (arrOf st') lo c.2.1/\c.2.2+1<=c.2.1/\LS o (arrOf st') (lo+c.2.1 - (c.2.2+1)) (lo+c.2.1)) ?_ (λc st' ⟨e,e2,h',hn',hq,he⟩=>⟨e,by lia,by lia,h',by rw[e2];exact hn',by lia,by rw[e2];exact he⟩) ⟨rfl,rfl,h2,ni2,by dsimp only;lia,by dsimp only;exact lB⟩) ?_)
    ·rintro i ⟨c1,m,neq⟩ st3 hi1 hi2 ⟨rfl,e,h3,ni3,hq3,he3⟩;dsimp only at e hq3 he3 ⊢;subst e;refine wpS_bind (cG C h3.ba hP (by lia) (by lia) ?_);cases eb:o.blt (KK o (arrOf st3) (lo+m)) (KK o (arrOf st3) (lo+m - 1))
     ·dsimp only;rw[if_neg (by decide)];refine wpS_bind (cG C h3.ba hP (by lia) (by lia) ?_);cases eb2:o.blt (KK o (arrOf st3) (lo+m - 1)) (KK o (arrOf st3) (lo+m))
      ·have ee:KK o (arrOf st3) (lo+m)=KK o (arrOf st3) (lo+m - 1):=o.total _ _ eb eb2;refine wpS_pure ⟨rfl,rfl,h3,ni3.ext (by lia) eb2,by dsimp only;lia,?_⟩;dsimp only;rw[show lo+(m+1) - (neq+1+1)=lo+m - (neq+1) by lia];exact he3.ext (by lia) ee
      ·exact wpS_pure ⟨rfl,by dsimp only;lia,by dsimp only;lia,h3,ni3,hq3,he3⟩
     ·dsimp only;rw[if_pos rfl];have ke:o.kle (KK o (arrOf st3) (lo+m)) (KK o (arrOf st3) (lo+m - 1)):=KeyOrd.kle_of_klt eb;refine aD (λ_=>?_) λ_=>?_
      ·refine wpS_bind (wpS_modify ?_);have hk:=he3.mir (by rw[h3.ba.size];lia);refine wpS_pure ⟨rfl,rfl,h3.set (mirror_perm _ _ _ _) λi hi=>dD (by rw[h3.ba.size];lia) (by lia),?_,by dsimp only;lia,by dsimp only;exact lB⟩;exact mM.ext (mM.congr hk ni3) (by lia) (by
        show o.kle (KK o (mirror _ _ _ _) _) (KK o (mirror _ _ _ _) _)
        rw[hk,hk]
        exact ke)
      ·exact wpS_pure ⟨rfl,rfl,h3,ni3.ext (by lia) ke,by dsimp only;lia,by dsimp only;exact lB⟩
    ·rintro ⟨c1,m,neq⟩ st3 ⟨rfl,m1,m2,h3,ni3,hq3,he3⟩;dsimp only at m1 m2 ni3 hq3 he3 ⊢;refine aD (λ_=>?_) λ_=>?_
     ·refine wpS_bind (wpS_modify ?_);have hk:=he3.mir (by rw[h3.ba.size];lia);have h4:Cs kd a₀ pend a1 lo (setArr st3 (mirror (arrOf st3) (lo+m - (neq+1)) (lo+m) ((lo+m - (lo+m - (neq+1))) / 2))):=h3.set (mirror_perm _ _ _ _) λi hi=>dD (by rw[h3.ba.size];lia) (by lia);have ni4:mM o (mirror (arrOf st3) (lo+m - (neq+1)) (lo+m) ((lo+m - (lo+m - (neq+1))) / 2)) lo m:=mM.congr hk ni3;refine wpS_bind (wpS_modify ?_);have h5:Cs kd a₀ pend a1 lo (setArr (setArr st3 (mirror (arrOf st3) (lo+m - (neq+1)) (lo+m) ((lo+m - (lo+m - (neq+1))) / 2))) (mirror (mirror (arrOf st3) (lo+m - (neq+1)) (lo+m) ((lo+m - (lo+m - (neq+1))) / 2)) lo (lo+m) ((lo+m - lo) / 2))):=h4.set (mirror_perm _ _ _ _) λi hi=>dD (by rw[mirror_size,h3.ba.size];lia) (by lia);have sr5:eO o (mirror (mirror (arrOf st3) (lo+m - (neq+1)) (lo+m) ((lo+m - (lo+m - (neq+1))) / 2)) lo (lo+m) ((lo+m - lo) / 2)) lo m:=ni4.mir (by rw[mirror_size,h3.ba.size];lia);refine wpS_bind (wpS_mono (wpS_forRange (I:=λi c st'=>c.1=none/\c.2=i/\Cs kd a₀ pend a1 lo st'/\eO o (arrOf st') lo i) (Q:=λc st'=>c.1=none/\1<=c.2/\c.2<=nrem/\Cs kd a₀ pend a1 lo st'/\eO o (arrOf st') lo c.2) ?_ (λc st' ⟨e,e2,h',hs⟩=>⟨e,by lia,by lia,h',by rw[e2];exact (Nat.max_eq_right m2).symm▸hs⟩) ⟨rfl,rfl,h5,sr5⟩) ?_)
      ·rintro i ⟨c1,n⟩ st6 hi1 hi2 ⟨rfl,e,h6,hs6⟩;dsimp only at e ⊢;subst e;refine wpS_bind (cG C h6.ba hP (by lia) (by lia) ?_);cases eb:o.blt (KK o (arrOf st6) (lo+n)) (KK o (arrOf st6) (lo+n - 1))
       ·exact wpS_pure ⟨rfl,rfl,h6,hs6.ext (by lia) eb⟩
       ·exact wpS_pure ⟨rfl,by dsimp only;lia,by dsimp only;lia,h6,hs6⟩
      ·rintro ⟨c1,n⟩ st6 ⟨rfl,n1,n2,h6,hs6⟩;exact wpS_pure (q _ _ n1 n2 h6 hs6)
     ·refine wpS_bind (wpS_modify ?_);have h5:Cs kd a₀ pend a1 lo (setArr st3 (mirror (arrOf st3) lo (lo+m) ((lo+m - lo) / 2))):=h3.set (mirror_perm _ _ _ _) λi hi=>dD (by rw[h3.ba.size];lia) (by lia);have sr5:eO o (mirror (arrOf st3) lo (lo+m) ((lo+m - lo) / 2)) lo m:=ni3.mir (by rw[h3.ba.size];lia);refine wpS_bind (wpS_mono (wpS_forRange (I:=λi c st'=>c.1=none/\c.2=i/\Cs kd a₀ pend a1 lo st'/\eO o (arrOf st') lo i) (Q:=λc st'=>c.1=none/\1<=c.2/\c.2<=nrem/\Cs kd a₀ pend a1 lo st'/\eO o (arrOf st') lo c.2) ?_ (λc st' ⟨e,e2,h',hs⟩=>⟨e,by lia,by lia,h',by rw[e2];exact (Nat.max_eq_right m2).symm▸hs⟩) ⟨rfl,rfl,h5,sr5⟩) ?_)
      ·rintro i ⟨c1,n⟩ st6 hi1 hi2 ⟨rfl,e,h6,hs6⟩;dsimp only at e ⊢;subst e;refine wpS_bind (cG C h6.ba hP (by lia) (by lia) ?_);cases eb:o.blt (KK o (arrOf st6) (lo+n)) (KK o (arrOf st6) (lo+n - 1))
       ·exact wpS_pure ⟨rfl,rfl,h6,hs6.ext (by lia) eb⟩
       ·exact wpS_pure ⟨rfl,by dsimp only;lia,by dsimp only;lia,h6,hs6⟩
      ·rintro ⟨c1,n⟩ st6 ⟨rfl,n1,n2,h6,hs6⟩;exact wpS_pure (q _ _ n1 n2 h6 hs6)
   ·exact wpS_pure (q _ _ n1 n2 h1 hs)
  ·have h2:=h1;have e1:n=1:=by lia
   have ni2:mM o (arrOf st1) lo (n+1):=mM.ext (λi j a b c=>by
    rw[show i=j by lia]
    exact KeyOrd.kle_refl _) n1 (KeyOrd.kle_of_klt hlt)
   refine wpS_bind (wpS_lift (wpAny_rule ⟨rfl,?_⟩));refine wpS_bind (wpS_mono (wpS_forRange (I:=λi c st'=>c.1=none/\c.2.1=i/\Cs kd a₀ pend a1 lo st'/\mM o (arrOf st') lo i/\c.2.2+1<=i/\LS o (arrOf st') (lo+i - (c.2.2+1)) (lo+i)) (Q:=λc st'=>c.1=none/\1<=c.2.1/\c.2.1<=nrem/\Cs kd a₀ pend a1 lo st'/\mM o (arrOf st') lo c.2.1/\c.2.2+1<=c.2.1/\LS o (arrOf st') (lo+c.2.1 - (c.2.2+1)) (lo+c.2.1)) ?_ (λc st' ⟨e,e2,h',hn',hq,he⟩=>⟨e,by lia,by lia,h',by rw[e2];exact hn',by lia,by rw[e2];exact he⟩) ⟨rfl,rfl,h2,ni2,by dsimp only;lia,by dsimp only;exact lB⟩) ?_)
   ·rintro i ⟨c1,m,neq⟩ st3 hi1 hi2 ⟨rfl,e,h3,ni3,hq3,he3⟩;dsimp only at e hq3 he3 ⊢;subst e;refine wpS_bind (cG C h3.ba hP (by lia) (by lia) ?_);cases eb:o.blt (KK o (arrOf st3) (lo+m)) (KK o (arrOf st3) (lo+m - 1))
    ·dsimp only;rw[if_neg (by decide)];refine wpS_bind (cG C h3.ba hP (by lia) (by lia) ?_);cases eb2:o.blt (KK o (arrOf st3) (lo+m - 1)) (KK o (arrOf st3) (lo+m))
     ·have ee:KK o (arrOf st3) (lo+m)=KK o (arrOf st3) (lo+m - 1):=o.total _ _ eb eb2;refine wpS_pure ⟨rfl,rfl,h3,ni3.ext (by lia) eb2,by dsimp only;lia,?_⟩;dsimp only;rw[show lo+(m+1) - (neq+1+1)=lo+m - (neq+1) by lia];exact he3.ext (by lia) ee
     ·exact wpS_pure ⟨rfl,by dsimp only;lia,by dsimp only;lia,h3,ni3,hq3,he3⟩
    ·dsimp only;rw[if_pos rfl];have ke:o.kle (KK o (arrOf st3) (lo+m)) (KK o (arrOf st3) (lo+m - 1)):=KeyOrd.kle_of_klt eb;refine aD (λ_=>?_) λ_=>?_
     ·refine wpS_bind (wpS_modify ?_);have hk:=he3.mir (by rw[h3.ba.size];lia);refine wpS_pure ⟨rfl,rfl,h3.set (mirror_perm _ _ _ _) λi hi=>dD (by rw[h3.ba.size];lia) (by lia),?_,by dsimp only;lia,by dsimp only;exact lB⟩;exact mM.ext (mM.congr hk ni3) (by lia) (by
       show o.kle (KK o (mirror _ _ _ _) _) (KK o (mirror _ _ _ _) _)
       rw[hk,hk]
       exact ke)
     ·exact wpS_pure ⟨rfl,rfl,h3,ni3.ext (by lia) ke,by dsimp only;lia,by dsimp only;exact lB⟩
   ·rintro ⟨c1,m,neq⟩ st3 ⟨rfl,m1,m2,h3,ni3,hq3,he3⟩;dsimp only at m1 m2 ni3 hq3 he3 ⊢;refine aD (λ_=>?_) λ_=>?_
    ·refine wpS_bind (wpS_modify ?_);have hk:=he3.mir (by rw[h3.ba.size];lia);have h4:Cs kd a₀ pend a1 lo (setArr st3 (mirror (arrOf st3) (lo+m - (neq+1)) (lo+m) ((lo+m - (lo+m - (neq+1))) / 2))):=h3.set (mirror_perm _ _ _ _) λi hi=>dD (by rw[h3.ba.size];lia) (by lia);have ni4:mM o (mirror (arrOf st3) (lo+m - (neq+1)) (lo+m) ((lo+m - (lo+m - (neq+1))) / 2)) lo m:=mM.congr hk ni3;refine wpS_bind (wpS_modify ?_);have h5:Cs kd a₀ pend a1 lo (setArr (setArr st3 (mirror (arrOf st3) (lo+m - (neq+1)) (lo+m) ((lo+m - (lo+m - (neq+1))) / 2))) (mirror (mirror (arrOf st3) (lo+m - (neq+1)) (lo+m) ((lo+m - (lo+m - (neq+1))) / 2)) lo (lo+m) ((lo+m - lo) / 2))):=h4.set (mirror_perm _ _ _ _) λi hi=>dD (by rw[mirror_size,h3.ba.size];lia) (by lia);have sr5:eO o (mirror (mirror (arrOf st3) (lo+m - (neq+1)) (lo+m) ((lo+m - (lo+m - (neq+1))) / 2)) lo (lo+m) ((lo+m - lo) / 2)) lo m:=ni4.mir (by rw[mirror_size,h3.ba.size];lia);refine wpS_bind (wpS_mono (wpS_forRange (I:=λi c st'=>c.1=none/\c.2=i/\Cs kd a₀ pend a1 lo st'/\eO o (arrOf st') lo i) (Q:=λc st'=>c.1=none/\1<=c.2/\c.2<=nrem/\Cs kd a₀ pend a1 lo st'/\eO o (arrOf st') lo c.2) ?_ (λc st' ⟨e,e2,h',hs⟩=>⟨e,by lia,by lia,h',by rw[e2];exact (Nat.max_eq_right m2).symm▸hs⟩) ⟨rfl,rfl,h5,sr5⟩) ?_)
     ·rintro i ⟨c1,n⟩ st6 hi1 hi2 ⟨rfl,e,h6,hs6⟩;dsimp only at e ⊢;subst e;refine wpS_bind (cG C h6.ba hP (by lia) (by lia) ?_);cases eb:o.blt (KK o (arrOf st6) (lo+n)) (KK o (arrOf st6) (lo+n - 1))
      ·exact wpS_pure ⟨rfl,rfl,h6,hs6.ext (by lia) eb⟩
      ·exact wpS_pure ⟨rfl,by dsimp only;lia,by dsimp only;lia,h6,hs6⟩
     ·rintro ⟨c1,n⟩ st6 ⟨rfl,n1,n2,h6,hs6⟩;exact wpS_pure (q _ _ n1 n2 h6 hs6)
    ·refine wpS_bind (wpS_modify ?_);have h5:Cs kd a₀ pend a1 lo (setArr st3 (mirror (arrOf st3) lo (lo+m) ((lo+m - lo) / 2))):=h3.set (mirror_perm _ _ _ _) λi hi=>dD (by rw[h3.ba.size];lia) (by lia);have sr5:eO o (mirror (arrOf st3) lo (lo+m) ((lo+m - lo) / 2)) lo m:=ni3.mir (by rw[h3.ba.size];lia);refine wpS_bind (wpS_mono (wpS_forRange (I:=λi c st'=>c.1=none/\c.2=i/\Cs kd a₀ pend a1 lo st'/\eO o (arrOf st') lo i) (Q:=λc st'=>c.1=none/\1<=c.2/\c.2<=nrem/\Cs kd a₀ pend a1 lo st'/\eO o (arrOf st') lo c.2) ?_ (λc st' ⟨e,e2,h',hs⟩=>⟨e,by lia,by lia,h',by rw[e2];exact (Nat.max_eq_right m2).symm▸hs⟩) ⟨rfl,rfl,h5,sr5⟩) ?_)
     ·rintro i ⟨c1,n⟩ st6 hi1 hi2 ⟨rfl,e,h6,hs6⟩;dsimp only at e ⊢;subst e;refine wpS_bind (cG C h6.ba hP (by lia) (by lia) ?_);cases eb:o.blt (KK o (arrOf st6) (lo+n)) (KK o (arrOf st6) (lo+n - 1))
      ·exact wpS_pure ⟨rfl,rfl,h6,hs6.ext (by lia) eb⟩
      ·exact wpS_pure ⟨rfl,by dsimp only;lia,by dsimp only;lia,h6,hs6⟩
     ·rintro ⟨c1,n⟩ st6 ⟨rfl,n1,n2,h6,hs6⟩;exact wpS_pure (q _ _ n1 n2 h6 hs6)
end
end So
namespace So
open PySem PySem.Spec PyProof.Rows
section
variable {M:Model} {A:Around} {E:Value->Shared->Prop} {s:Shared} {kd:SortKind} {o:KeyKind} {P:Keyed->Prop} {a₀ a1:Array Keyed} {lo:Nat}
theorem VU (h:eO o arr lo k) (hs:lo+k<arr.size) (hl:l<=k) (h1:∀i,i<l->o.kle (KK o arr (lo+i)) (KK o arr (lo+k))) (h2:∀i,l<=i->i<k->o.kle (KK o arr (lo+k)) (KK o arr (lo+i))):
  eO o (bubble arr (lo+k) (lo+k - (lo+l))) lo (k+1):=λi j a b c=>by
 have e:=λx=>KK_bubble (κ:=o) hs (d:=lo+k - (lo+l)) (by lia) x;rw[show lo+k - (lo+k - (lo+l))=lo+l by lia] at e;rw[e i,e j];by_cases i1:i=lo+l
 ·rw[if_pos i1];by_cases j1:j=lo+l
  ·rw[if_pos j1];exact KeyOrd.kle_refl _
  ·rw[if_neg j1,if_pos (by lia)];have:=h2 (j - 1 - lo) (by lia) (by lia);rwa [show lo+(j - 1 - lo)=j - 1 by lia] at this
 ·rw[if_neg i1];by_cases i2:lo+l<i/\i<=lo+k
  ·rw[if_pos i2,if_neg (by lia),if_pos (by lia)];exact h _ _ (by lia) (by lia) (by lia)
  ·rw[if_neg i2];by_cases j1:j=lo+l
   ·rw[if_pos j1];have:=h1 (i - lo) (by lia);rwa [show lo+(i - lo)=i by lia] at this
   ·rw[if_neg j1];by_cases j2:lo+l<j/\j<=lo+k
    ·rw[if_pos j2];exact h _ _ a (by lia) (by lia)
    ·rw[if_neg j2];exact h _ _ a b (by lia)
theorem PU (hs:src<arr.size) (hd:d<=src) (hk:k<src - d):(bubble arr src d)[k]?=arr[k]?:=by
 rw[getElem?_bubble hs d hd,if_neg (by lia),if_neg (by lia)]
theorem tZ (C:BW M A E s kd (cK o) P) {pend:Array (Nat × Nat × Nat)} {st:SortSt} {n ok:Nat} {Q:Bool->SortSt->Prop} (h:Cs kd a₀ pend a1 lo st) (hP:∀p∈a₀.toList,P p) (hl:lo+n<=a₀.size) (ok1:1<=ok) (hok:ok<=n) (hs:eO o (arrOf st) lo ok) (q:∀st',Cs kd a₀ pend a1 lo st'->eO o (arrOf st') lo n->Q true st'):wpS M A E s (binarySort' lo n ok) Q st:=by
 refine wpS_bind (wpS_mono (wpS_forRange (I:=λk c st'=>c.1=none/\Cs kd a₀ pend a1 lo st'/\eO o (arrOf st') lo k) (Q:=λc st'=>c.1=none/\Cs kd a₀ pend a1 lo st'/\eO o (arrOf st') lo n) ?_ (λc st' ⟨e,h1,h2⟩=>⟨e,h1,by rw[show max (max ok 1) n=n by lia] at h2;exact h2⟩) ⟨rfl,h,by rw[show max ok 1=ok by lia];exact hs⟩) ?_)
 ·rintro k ⟨c1,c2⟩ st1 hk1 hk2 ⟨rfl,h1,s1⟩;dsimp only;have sz:=h1.ba.size;refine wpS_bind (wpS_mono (wpS_forRange (I:=λi c st'=>c.1=none/\st'=st1/\c.2.1<=k/\c.2.2<=k/\c.2.2 - c.2.1<=k - i/\(∀i,i<c.2.1->o.kle (KK o (arrOf st1) (lo+i)) (KK o (arrOf st1) (lo+k)))/\∀i,c.2.2<=i->i<k->o.kle (KK o (arrOf st1) (lo+k)) (KK o (arrOf st1) (lo+i)))
   (Q:=λc st'=>c.1=none/\st'=st1/\c.2.1<=k/\(∀i,i<c.2.1->o.kle (KK o (arrOf st1) (lo+i)) (KK o (arrOf st1) (lo+k)))/\∀i,c.2.1<=i->i<k->o.kle (KK o (arrOf st1) (lo+k)) (KK o (arrOf st1) (lo+i))) ?_ (λc st' ⟨e1,e2,e3,e4,e5,e6,e7⟩=>⟨e1,e2,e3,e6,λi hi=>e7 i (by lia)⟩)
   ⟨rfl,rfl,by dsimp only;lia,by dsimp only;lia,by dsimp only;lia,λi hi=>by dsimp only at hi;lia,λi h5 h6=>by dsimp only at h5;lia⟩) ?_)
  ·rintro i ⟨c1,l,r⟩ st2 _ _ ⟨rfl,rfl,a1',a2,a3,a4,a5⟩;dsimp only at a1' a2 a3 a4 a5 ⊢;refine aD (λg=>?_) λg=>?_
   ·exact wpS_pure ⟨rfl,rfl,a1',a4,λi hi=>a5 i (by dsimp only at hi;lia)⟩
   ·refine wpS_bind (cG C h1.ba hP (by lia) (by lia) ?_);cases eb:o.blt (KK o (arrOf st2) (lo+k)) (KK o (arrOf st2) (lo+(l+r) / 2))
    ·refine wpS_pure ⟨rfl,rfl,by dsimp only;lia,a2,by dsimp only;lia,λi hi=>?_,a5⟩;dsimp only at hi;exact KeyOrd.kle_trans (s1 (lo+i) (lo+(l+r) / 2) (by lia) (by lia) (by lia)) eb
    ·refine wpS_pure ⟨rfl,rfl,a1',by dsimp only;lia,by dsimp only;lia,a4,λi h5 h6=>?_⟩;dsimp only at h5;exact KeyOrd.kle_trans (KeyOrd.kle_of_klt eb) (s1 (lo+(l+r) / 2) (lo+i) (by lia) (by lia) (by lia))
  ·rintro ⟨c1,l,r⟩ st2 ⟨rfl,rfl,b1,b2,b3⟩;dsimp only at b1 b2 b3 ⊢;refine wpS_bind (wpS_modify ?_);exact wpS_pure ⟨rfl,h1.set (bubble_perm _ _ _) λi hi=>PU (by rw[sz];lia) (by lia) (by lia),VU s1 (by rw[sz];lia) b1 b2 b3⟩
 ·rintro ⟨c1,c2⟩ st1 ⟨rfl,h1,s1⟩;exact wpS_pure (q _ h1 s1)
end
end So
namespace So
open PySem PySem.Spec PyProof.Rows
section
variable {o:KeyKind} {arr:Array Keyed}
theorem fG {lo n i:Nat} (h:i<n):((arr.toList.drop lo).take n)[i]?=arr[lo+i]?:=by
 rw[getElem?_take,if_pos h,getElem?_drop,getElem?_toList]
theorem eO.pw {lo n:Nat} (h:eO o arr lo n):Pw (cK o) ((arr.toList.drop lo).take n):=by
 refine List.pairwise_iff_getElem.mpr λi j hi hj hij=>?_;have hjn:j<n:=by rw[length_take] at hj;lia
 have e1:((arr.toList.drop lo).take n)[i]?=some ((arr.toList.drop lo).take n)[i]:=List.getElem?_eq_getElem hi;have e2:((arr.toList.drop lo).take n)[j]?=some ((arr.toList.drop lo).take n)[j]:=List.getElem?_eq_getElem hj;rw[fG (by lia)] at e1;rw[fG hjn] at e2;have:=h (lo+i) (lo+j) (by lia) (by lia) (by lia);unfold KK at this;rw[e1,e2] at this;exact this
theorem As {lo n:Nat} (hs:lo+n<=arr.size) (h:Pw (cK o) ((arr.toList.drop lo).take n)):eO o arr lo n:=λi j a b c=>by
 by_cases e:i=j
 ·rw[e];exact KeyOrd.kle_refl _
 have h1:i<arr.size:=by lia
 have h2:j<arr.size:=by lia
 have e1:arr[i]?=some arr[i]:=getElem?_pos arr i h1;have e2:arr[j]?=some arr[j]:=getElem?_pos arr j h2;have g1:((arr.toList.drop lo).take n)[i - lo]?=some arr[i]:=by rw[fG (by lia),show lo+(i - lo)=i by lia,e1]
 have g2:((arr.toList.drop lo).take n)[j - lo]?=some arr[j]:=by rw[fG (by lia),show lo+(j - lo)=j by lia,e2]
 have:=yI h (show i - lo<j - lo by lia) g1 g2;unfold KK;rw[e1,e2];exact this
theorem eO.same {lo n:Nat} (h:eO o arr lo n) (e:∀i,lo<=i->i<lo+n->arr'[i]?=arr[i]?):eO o arr' lo n:=λi j a b c=>by
 rw[KK_congr (e i a (by lia)),KK_congr (e j (by lia) c)];exact h i j a b c
end
theorem Runs.after:∀{l:List (Nat × Nat × Nat)} {x y:Nat} {t:Nat × Nat × Nat},Runs x l y->t∈l->x<=t.1/\t.1+t.2.1<=y
 |[],_,_,_,_,h=>nomatch h
 | (s,n,p)::l,x,y,t,⟨h1,h2,h3⟩,ht=>by
  rcases mem_cons.mp ht with e|ht
  ·subst e;have:=h3.le;dsimp only;lia
  ·have:=h3.after ht;lia
theorem Runs.rest:∀{l:List (Nat × Nat × Nat)} {i x y sa na p sb nb p2:Nat},Runs x l y->l[i]?=some (sa,na,p)->l[i+1]?=some (sb,nb,p2)->∀t∈(l.set i (sa,na+nb,p)).eraseIdx (i+1),t=(sa,na+nb,p)\/(t∈l/\(t.1+t.2.1<=sa\/sb+nb<=t.1))
 |[],_,_,_,_,_,_,_,_,_,_,h,_=>by cases h
 |t::[],0,_,_,_,_,_,_,_,_,_,_,h=>by cases h
 |t::u::l,0,x,y,sa,na,p,sb,nb,p2,h,e1,e2=>by
  cases e1;cases e2;obtain ⟨h1,h2,h3,h4,h5⟩:=h;intro t ht;have ht:t∈(sa,na+nb,p)::l:=ht;rcases mem_cons.mp ht with e|ht
  ·exact .inl e
  ·exact .inr ⟨mem_cons_of_mem _ (mem_cons_of_mem _ ht),.inr (by have:=(h5.after ht).1;lia)⟩
 | (s,n,r)::l,i+1,x,y,sa,na,p,sb,nb,p2,⟨h1,h2,h3⟩,e1,e2=>by
  intro t ht;have ht:t∈(s,n,r)::(l.set i (sa,na+nb,p)).eraseIdx (i+1):=ht;rcases mem_cons.mp ht with e|ht
  ·subst e;refine .inr ⟨mem_cons_self,.inl ?_⟩;have:=h3.after (mem_of_getElem? (show l[i]?=some (sa,na,p) from e1));dsimp only at this ⊢;lia
  ·rcases Runs.rest (i:=i) h3 e1 e2 t ht with g|⟨g1,g2⟩
   ·exact .inl g
   ·exact .inr ⟨mem_cons_of_mem _ g1,g2⟩
section
variable {M:Model} {A:Around} {E:Value->Shared->Prop} {s:Shared} {kd:SortKind} {o:KeyKind} {P:Keyed->Prop} {a₀:Array Keyed}
structure Bz (o:KeyKind) (kd:SortKind) (a₀:Array Keyed) (y:Nat) (st:SortSt):Prop where
 perm:(arrOf st).Perm a₀
 failed:failedOf st=none
 kind:kindOf st=kd
 runs:Runs 0 (pendingOf st).toList y
 srt:∀t∈(pendingOf st).toList,eO o (arrOf st) t.1 t.2.1
theorem Bz.size {y:Nat} {st:SortSt} (h:Bz o kd a₀ y st):(arrOf st).size=a₀.size:=h.perm.size_eq
theorem AB {l:List Keyed} {sa na nb:Nat}:(l.drop sa).take (na+nb)=(l.drop sa).take na++(l.drop (sa+na)).take nb:=by rw[take_add,drop_drop]
theorem NB {arr out:Array Keyed} {sa na nb k m:Nat} (hs:sa+na+nb<=arr.size) (hk:k<=na) (hm:m<=nb) (ho:out.toList.length=na - k+m):
  ((out.toList.zipIdx.foldl (λ(a:Array Keyed) (x:Keyed × Nat)=>a.setIfInBounds (sa+k+x.2) x.1) arr).toList.drop sa).take (na+nb)=((arr.toList.drop sa).take na).take k++(out.toList++((arr.toList.drop (sa+na)).take nb).drop m):=by
 have ll:arr.toList.length=arr.size:=length_toList;rw[jR (sa+k) out.toList 0 arr (by lia),Nat.add_zero,ho,show sa+k+(na - k+m)=sa+na+m by lia];have c1:arr.toList.take (sa+k)=arr.toList.take sa++((arr.toList.drop sa).take na).take k:=by
  rw[take_add,take_take,min_eq_left hk]
 have c2:arr.toList.drop (sa+na+m)=((arr.toList.drop (sa+na)).take nb).drop m++arr.toList.drop (sa+na+nb):=by
  have:=eU (arr.toList.drop (sa+na)) hm;rw[drop_drop,drop_drop] at this;exact this
 rw[c1,c2,List.append_assoc,List.append_assoc,List.drop_left' (by rw[length_take];lia)];have len:(((arr.toList.drop sa).take na).take k++(out.toList++((arr.toList.drop (sa+na)).take nb).drop m)).length=na+nb:=by
  rw[length_append,length_append,ho,length_take,length_take,length_drop,length_drop,length_take,length_drop,ll];lia
 rw[<-List.append_assoc,<-List.append_assoc,List.append_assoc (bs:=out.toList)];exact List.take_left' len
theorem AH {arr out:Array Keyed} {b len j:Nat} (ho:out.toList.length=len) (hs:b+len<=arr.size) (hj:j<b\/b+len<=j):(out.toList.zipIdx.foldl (λ(a:Array Keyed) (x:Keyed × Nat)=>a.setIfInBounds (b+x.2) x.1) arr)[j]?=arr[j]?:=by
 have ll:arr.toList.length=arr.size:=length_toList;rw[<-getElem?_toList,jR b out.toList 0 arr (by lia),Nat.add_zero,ho,<-getElem?_toList];rcases hj with hj|hj
 ·rw[List.append_assoc,getElem?_append_left (by rw[length_take];lia),getElem?_take,if_pos hj]
 ·rw[getElem?_append_right (by rw[length_append,length_take,ho];lia),getElem?_drop,length_append,length_take,ho,ll]
  congr 1
  lia
theorem fC (C:BW M A E s kd (cK o) P) {y i:Nat} {st:SortSt} {Q:Bool->SortSt->Prop} (h:Bz o kd a₀ y st) (hP:∀p∈a₀.toList,P p) (hy:y<=a₀.size) (hi:i+1<(pendingOf st).size) (q:∀st',Bz o kd a₀ y st'->(pendingOf st').size+1=(pendingOf st).size->(∀j,y<=j->(arrOf st')[j]?=(arrOf st)[j]?)->Q true st'):wpS M A E s (mergeAt' i) Q st:=by
 obtain ⟨⟨sa,na,pw⟩,e1⟩:∃t,(pendingOf st)[i]?=some t:=⟨_,getElem?_pos _ i (by lia)⟩;obtain ⟨⟨sb,nb,p2⟩,e2⟩:∃t,(pendingOf st)[i+1]?=some t:=⟨_,getElem?_pos _ (i+1) hi⟩;have l1:(pendingOf st).toList[i]?=some (sa,na,pw):=by rw[getElem?_toList];exact e1
 have l2:(pendingOf st).toList[i+1]?=some (sb,nb,p2):=by rw[getElem?_toList];exact e2
 obtain ⟨g1,g2,g3,g4,g5⟩:=h.runs.two (i:=i) l1 l2;have g6:=h.runs.rest (i:=i) l1 l2;have sz:=h.size;have al:∀p∈(arrOf st).toList,P p:=λp hp=>hP p (h.perm.toList.mem_iff.mp hp);have sA:=h.srt _ (mem_of_getElem? l1);have sB:=h.srt _ (mem_of_getElem? l2);dsimp only at sA sB;have pA:=sA.pw;have pB:=sB.pw;have od:=HK o;have tl:(((pendingOf st).setIfInBounds i (sa,na+nb,pw)).eraseIdxIfInBounds (i+1)).toList=((pendingOf st).toList.set i (sa,na+nb,pw)).eraseIdx (i+1):=by
  rw[Array.toList_eraseIdxIfInBounds,Array.toList_setIfInBounds]
 have hsz1:(((pendingOf st).setIfInBounds i (sa,na+nb,pw)).eraseIdxIfInBounds (i+1)).size+1=(pendingOf st).size:=by
  rw[<-length_toList,tl,List.length_eraseIdx_of_lt (by rw[length_set,length_toList];exact hi),length_set,length_toList];lia
 have lA:((arrOf st).toList.drop sa).length=(arrOf st).size - sa:=by rw[length_drop,length_toList]
 have fin:∀(st':SortSt) (xs:Array Keyed),arrOf st'=xs->pendingOf st'=((pendingOf st).setIfInBounds i (sa,na+nb,pw)).eraseIdxIfInBounds (i+1)->failedOf st'=none->kindOf st'=kd->xs.Perm (arrOf st)->(∀j,j<sa\/sb+nb<=j->xs[j]?=(arrOf st)[j]?)->Pw (cK o) ((xs.toList.drop sa).take (na+nb))->Q true st':=λst' xs x1 x2 x3 x4 x5 x6 x7=>by
  subst x1;refine q st' ⟨x5.trans h.perm,x3,x4,by rw[x2,tl];exact g5,λt ht=>?_⟩ (by rw[x2];exact hsz1) λj hj=>x6 j (by lia);rw[x2,tl] at ht;rcases g6 t ht with e|⟨m1,m2⟩
  ·rw[e];exact As (by rw[x5.size_eq];dsimp only;lia) x7
  ·exact (h.srt t m1).same λj j1 j2=>x6 j (by lia)
 have same0:∀j,j<sa\/sb+nb<=j->(arrOf st)[j]?=(arrOf st)[j]?:=λ_ _=>rfl;refine wpS_bind (wpS_get ?_);dsimp only;rw[e1,e2];dsimp only;refine wpS_bind (MC ?_);obtain ⟨b0,hb0,pb0⟩:=bY (P:=P) (i:=sb) (by lia) al;refine wpS_bind (aI hb0 ?_);refine wpS_bind (bH od C (l:=((arrOf st).toList.drop sa).take na) h.kind al pb0 (show sa+na<=(arrOf st).size by lia) (by lia) rfl pA λk hk t1 t2=>?_);dsimp only;have lowB:∀y∈((arrOf st).toList.drop sb).take nb,cK o y b0=false:=λy hy=>by
  have hd:((arrOf st).toList.drop sb).take nb=b0::((arrOf st).toList.drop (sb+1)).take (nb - 1):=by
   rw[drop_one hb0,show nb=nb - 1+1 by lia,take_succ_cons,Nat.add_sub_cancel]
  have pB':=pB;rw[hd] at hy pB';rcases mem_cons.mp hy with e|hy
  ·rw[e];exact od.irr b0
  ·exact (pairwise_cons.mp pB').1 y hy
 have lowA:∀x∈(((arrOf st).toList.drop sa).take na).take k,cK o b0 x=false:=λx hx=>by
  have:=t1 x hx;unfold sd at this;rwa [if_neg (by decide),not_eq_true'] at this
 have upA:∀x∈(((arrOf st).toList.drop sa).take na).drop k,cK o b0 x=true:=λx hx=>by
  have:=t2 x hx;unfold sd at this;rwa [if_neg (by decide),Bool.not_eq_false'] at this
 have lTA:(((arrOf st).toList.drop sa).take na).length=na:=by rw[length_take,lA];lia
 refine aD (λg=>?_) λg=>?_
 ·rw[beq_iff_eq] at g;refine wpS_pure (fin _ (arrOf st) rfl rfl h.failed h.kind (Array.Perm.refl _) same0 ?_);rw[AB,<-g1];refine pairwise_append.mpr ⟨pA,pB,λx hx y hy=>?_⟩;exact od.le_trans (lowA x (by rw[take_of_length_le (by lia)];exact hx)) (lowB y hy)
 rw[beq_iff_eq] at g;obtain ⟨aL,haL,paL⟩:=bY (P:=P) (i:=sa+k+(na - k) - 1) (by lia) al;refine wpS_bind (aI haL ?_);refine wpS_bind (bH od C (l:=((arrOf st).toList.drop sb).take nb) h.kind al paL (show sb+nb<=(arrOf st).size by lia) (by lia) rfl pB λnb' hnb u1 u2=>?_);dsimp only;have upAL:∀x∈((arrOf st).toList.drop sa).take na,cK o aL x=false:=λx hx=>by
  obtain ⟨j,hj⟩:=getElem?_of_mem hx;have hjn:j<na:=by
   have:=(List.getElem?_eq_some_iff.mp hj).1;lia
  have hl:(((arrOf st).toList.drop sa).take na)[na - 1]?=some aL:=by
   rw[fG (by lia),show sa+(na - 1)=sa+k+(na - k) - 1 by lia];exact haL
  by_cases e:j=na - 1
  ·rw[e,hl] at hj;cases hj;exact od.irr aL
  ·exact yI pA (by lia) hj hl
 have lowU:∀y∈(((arrOf st).toList.drop sb).take nb).take nb',cK o y aL=true:=λy hy=>by
  have:=u1 y hy;unfold sd at this;rwa [if_pos rfl] at this
 have upU:∀y∈(((arrOf st).toList.drop sb).take nb).drop nb',cK o y aL=false:=λy hy=>by
  have:=u2 y hy;unfold sd at this;rwa [if_pos rfl] at this
 refine aD (λg'=>?_) λg'=>?_
 ·rw[beq_iff_eq] at g';subst g';refine wpS_pure (fin _ (arrOf st) rfl rfl h.failed h.kind (Array.Perm.refl _) same0 ?_);rw[AB,<-g1];refine pairwise_append.mpr ⟨pA,pB,λx hx y hy=>?_⟩;exact od.le_trans (upAL x hx) (upU y hy)
 rw[beq_iff_eq] at g';have eX:((arrOf st).extract (sa+k) sb).toList=(((arrOf st).toList.drop sa).take na).drop k:=by
  rw[cB,g1,<-drop_drop,List.drop_take,Nat.add_sub_cancel_left]
 have eY:((arrOf st).extract sb (sb+nb')).toList=(((arrOf st).toList.drop sb).take nb).take nb':=by
  rw[cB,take_take,min_eq_left hnb,List.drop_take,Nat.add_sub_cancel_left]
 have hX:∀p∈((arrOf st).extract (sa+k) sb).toList,P p:=λp hp=>al p (by
  rw[cB] at hp
  exact mem_of_mem_take (mem_of_mem_drop hp))
 have hY:∀p∈((arrOf st).extract sb (sb+nb')).toList,P p:=λp hp=>al p (by
  rw[cB] at hp
  exact mem_of_mem_take (mem_of_mem_drop hp))
 have pX:Pw (cK o) ((arrOf st).extract (sa+k) sb).toList:=by rw[eX];exact pA.drop
 have pY:Pw (cK o) ((arrOf st).extract sb (sb+nb')).toList:=by rw[eY];exact pB.take
 have c0:∀x y,((arrOf st).extract sb (sb+nb'))[0]?=some x->y∈((arrOf st).extract (sa+k) sb).toList->cK o y x=false:=λx y hx hy=>by
  rw[eX] at hy;have e:x=b0:=by
   rw[<-getElem?_toList,eY,getElem?_take,if_pos (by lia),fG (by lia),Nat.add_zero,hb0] at hx;exact (Option.some.inj hx).symm
  rw[e];exact od.as _ _ (upA y hy)
 have c9:∀x∈((arrOf st).extract sb (sb+nb')).toList,∀y∈((arrOf st).extract (sa+k) sb).toList.drop (((arrOf st).extract (sa+k) sb).size - 1),cK o y x=false:=λx hx y hy=>by
  rw[eY] at hx;have hsx:((arrOf st).extract (sa+k) sb).size=na - k:=by rw[size_extract];lia
  rw[hsx,eX,drop_drop] at hy;have e:y=aL:=by
   obtain ⟨j,hj⟩:=getElem?_of_mem hy;rw[getElem?_drop] at hj;have hjl:=(List.getElem?_eq_some_iff.mp hj).1;rw[fG (by lia),show sa+(k+(na - k - 1)+j)=sa+k+(na - k) - 1 by lia,haL] at hj;exact (Option.some.inj hj).symm
  rw[e];exact od.as _ _ (lowU x hx)
 have lenO:∀{out:Array Keyed},out.toList.Perm (((arrOf st).extract (sa+k) sb).toList++((arrOf st).extract sb (sb+nb')).toList)->out.toList.length=na - k+nb':=λ{out} hp=>by
  rw[hp.length_eq,length_append,length_toList,length_toList,size_extract,size_extract];lia
 have fin2:∀out:Array Keyed,out.toList.Perm (((arrOf st).extract (sa+k) sb).toList++((arrOf st).extract sb (sb+nb')).toList)->Pw (cK o) out.toList->Pw (cK o) (((foldl (λ(a:Array Keyed) (x:Keyed × Nat)=>a.setIfInBounds (sa+k+x.2) x.1) (arrOf st) out.toList.zipIdx).toList.drop sa).take (na+nb)):=λout hp hpw=>by
  have hm:∀z∈out.toList,z∈(((arrOf st).toList.drop sa).take na).drop k\/z∈(((arrOf st).toList.drop sb).take nb).take nb':=λz hz=>by
   have:=hp.mem_iff.mp hz;rw[eX,eY] at this;exact mem_append.mp this
  rw[NB (by lia) hk hnb (lenO hp),<-g1];have pA2:=pA;rw[<-take_append_drop k (((arrOf st).toList.drop sa).take na)] at pA2;have pB2:=pB;rw[<-take_append_drop nb' (((arrOf st).toList.drop sb).take nb)] at pB2;refine pairwise_append.mpr ⟨pA.take,pairwise_append.mpr ⟨hpw,pB.drop,λx hx y hy=>?_⟩,λx hx y hy=>?_⟩
  ·rcases hm x hx with g|g
   ·exact od.le_trans (upAL x (mem_of_mem_drop g)) (upU y hy)
   ·exact (pairwise_append.mp pB2).2.2 x g y hy
  ·rcases mem_append.mp hy with hy|hy
   ·rcases hm y hy with g|g
    ·exact (pairwise_append.mp pA2).2.2 x hx y g
    ·exact od.le_trans (lowA x hx) (lowB y (mem_of_mem_take g))
   ·exact od.le_trans (lowA x hx) (lowB y (mem_of_mem_drop hy))
 refine aD (λ_=>?_) λ_=>?_
 ·refine wpS_bind (rJ (HK o) C h.kind hX hY (show 1<=((arrOf st).extract (sa+k) sb).size by rw[size_extract];lia) (show 1<=((arrOf st).extract sb (sb+nb')).size by rw[size_extract];lia) pX pY c0 c9 λout st2 k2 hp hpw=>?_);refine wpS_bind (wpS_modify ?_);refine wpS_bind (wpS_get ?_);obtain ⟨q1,q2,q3,q4⟩:=k2;have hf:failedOf st2=none:=q4.trans h.failed;show wpS M A E s (pure (failedOf st2).isNone) Q _;rw[hf];refine wpS_pure (fin _ (foldl (λ(a:Array Keyed) (x:Keyed × Nat)=>a.setIfInBounds (sa+k+x.2) x.1) (arrOf st2) out.toList.zipIdx) rfl q3 hf (q1.trans h.kind) ?_ ?_ ?_)
  ·rw[q2];exact uU (arr:=arrOf st) (by lia) (by lia) (by lia) hp
  ·intro j hj;rw[q2];exact AH (arr:=arrOf st) (lenO hp) (by lia) (by lia)
  ·rw[q2];exact fin2 out hp hpw
 ·refine wpS_bind (rK (HK o) C h.kind hX hY (show 1<=((arrOf st).extract (sa+k) sb).size by rw[size_extract];lia) (show 1<=((arrOf st).extract sb (sb+nb')).size by rw[size_extract];lia) pX pY c0 c9 λout st2 k2 hp hpw=>?_);refine wpS_bind (wpS_modify ?_);refine wpS_bind (wpS_get ?_);obtain ⟨q1,q2,q3,q4⟩:=k2;have hf:failedOf st2=none:=q4.trans h.failed;show wpS M A E s (pure (failedOf st2).isNone) Q _;rw[hf];refine wpS_pure (fin _ (foldl (λ(a:Array Keyed) (x:Keyed × Nat)=>a.setIfInBounds (sa+k+x.2) x.1) (arrOf st2) out.toList.zipIdx) rfl q3 hf (q1.trans h.kind) ?_ ?_ ?_)
  ·rw[q2];exact uU (arr:=arrOf st) (by lia) (by lia) (by lia) hp
  ·intro j hj;rw[q2];exact AH (arr:=arrOf st) (lenO hp) (by lia) (by lia)
  ·rw[q2];exact fin2 out hp hpw
theorem rL (C:BW M A E s kd (cK o) P) {y i:Nat} {st:SortSt} {Q:Bool->SortSt->Prop} (h:Bz o kd a₀ y st) (hP:∀p∈a₀.toList,P p) (hy:y<=a₀.size) (hi:i+1<(pendingOf st).size) (q:∀st',Bz o kd a₀ y st'->(pendingOf st').size+1=(pendingOf st).size->Q true st'):wpS M A E s (mergeAt' i) Q st:=fC C h hP hy hi λst' h1 h2 _=>q st' h1 h2
end
end So
namespace So
open PySem PySem.Spec PyProof.Rows
theorem Runs.len:∀{l:List (Nat × Nat × Nat)} {x y:Nat},Runs x l y->x+l.length<=y
 |[],x,y,h=>le_of_eq h
 | (s,n,p)::l,x,y,⟨_,h2,h3⟩=>by
  have:=h3.len;rw[length_cons];lia
section
variable {M:Model} {A:Around} {E:Value->Shared->Prop} {s:Shared} {kd:SortKind} {o:KeyKind} {P:Keyed->Prop} {a₀:Array Keyed}
theorem Bz.cs {y:Nat} {st:SortSt} (h:Bz o kd a₀ y st):Cs kd a₀ (pendingOf st) (arrOf st) y st:=⟨⟨h.perm,h.failed,h.kind,rfl⟩,λ_ _=>rfl⟩
theorem Cs.bz {lo:Nat} {st st':SortSt} (h1:Bz o kd a₀ lo st) (h:Cs kd a₀ (pendingOf st) (arrOf st) lo st'):Bz o kd a₀ lo st':=⟨h.ba.perm,h.ba.failed,h.ba.kind,by rw[h.ba.pend];exact h1.runs,λt ht=>by
 rw[h.ba.pend] at ht
 have:=(h1.runs.after ht).2
 exact (h1.srt t ht).same λi _ i2=>h.pre i (by lia)⟩
theorem Bz.push {y n:Nat} {st:SortSt} (h:Bz o kd a₀ y st) (hn:1<=n) (hs:eO o (arrOf st) y n):Bz o kd a₀ (y+n) (setPending st ((pendingOf st).push (y,n,0))):=⟨h.perm,h.failed,h.kind,by
 show Runs 0 ((pendingOf st).push (y,n,0)).toList (y+n)
 rw[toList_push]
 exact h.runs.push hn,λt ht=>by
 have ht:t∈((pendingOf st).push (y,n,0)).toList:=ht
 rw[toList_push] at ht
 rcases mem_append.mp ht with ht|ht
 ·exact h.srt t ht
 ·have e:t=(y,n,0):=by simpa using ht
  rw[e]
  exact hs⟩
theorem mem_modify {l:List (Nat × Nat × Nat)} {i:Nat} {f:Nat × Nat × Nat->Nat × Nat × Nat} {t:Nat × Nat × Nat} (h:t∈l.modify i f):t∈l\/∃u∈l,t=f u:=by
 obtain ⟨j,hj⟩:=getElem?_of_mem h;rw[List.getElem?_modify] at hj;cases e:l[j]? with
 |none=>rw[e] at hj;cases hj
 |some u=>
  rw[e] at hj;have hu:=mem_of_getElem? e;by_cases hij:i=j
  ·exact .inr ⟨u,hu,by simpa [hij] using hj.symm⟩
  ·refine .inl ?_;have:u=t:=by simpa [hij] using hj
   rw[<-this];exact hu
theorem Bz.lastp {y:Nat} {st:SortSt} (h:Bz o kd a₀ y st) (i pw:Nat):Bz o kd a₀ y (setPending st ((pendingOf st).modify i λt=>(t.1,t.2.1,pw))):=⟨h.perm,h.failed,h.kind,by
 show Runs 0 ((pendingOf st).modify i λt=>(t.1,t.2.1,pw)).toList y
 rw[Array.toList_modify]
 exact h.runs.mod λ_=>⟨rfl,rfl⟩,λt ht=>by
 have ht:t∈((pendingOf st).modify i λt=>(t.1,t.2.1,pw)).toList:=ht
 rw[Array.toList_modify] at ht
 rcases mem_modify ht with ht|⟨u,hu,e⟩
 ·exact h.srt t ht
 ·rw[e]
  exact h.srt u hu⟩
theorem pP (C:BW M A E s kd (cK o) P) {st:SortSt} {Q:Unit->SortSt->Prop} (h:Bz o kd a₀ 0 st) (hP:∀p∈a₀.toList,P p) (h2:1<=a₀.size) (q:∀st',(arrOf st').Perm a₀->failedOf st'=none->eO o (arrOf st') 0 a₀.size->Q () st'):wpS M A E s sortRuns' Q st:=by
 refine wpS_bind (wpS_get ?_);have sz:=h.size
 try dsimp only
 rw[show (arrOf st).size=a₀.size from sz];refine wpS_bind (wpS_mono (wpS_forRange (I:=λx c st'=>c.1=none/\c.2<=a₀.size/\min x a₀.size<=c.2/\Bz o kd a₀ c.2 st') (Q:=λc st'=>c.1=none/\c.2=a₀.size/\Bz o kd a₀ c.2 st') ?_ (λc st' ⟨e1,e2,e3,e4⟩=>⟨e1,by lia,e4⟩) ⟨rfl,zero_le _,by dsimp only;lia,h⟩) ?_)
 ·rintro x ⟨c1,lo⟩ st1 _ hx ⟨rfl,hlo,hmn,h1⟩;dsimp only at hlo hmn h1 ⊢;refine aD (λg=>?_) λg=>?_
  ·exact wpS_pure ⟨rfl,by dsimp only;lia,h1⟩
  refine wpS_bind (xF C h1.cs hP (by lia) (by lia) λn st2 n1 n2 hc2 sr2=>?_)
  try dsimp only
  refine aD (λgm=>?_) λgm=>?_
  ·refine wpS_bind (wpS_lift (wpAny_rule ⟨rfl,?_⟩));refine wpS_bind (tZ C hc2 hP (by lia) n1 (by lia) sr2 λstx hcx srx=>?_);have hx2:=Cs.bz h1 hcx
   try dsimp only
   rw[if_neg (by decide)];revert srx;generalize hnn:min (a₀.size - lo) _=nn;intro srx;have hn1:1<=nn:=by lia
   have hn2:lo+nn<=a₀.size:=by lia
   refine wpS_bind (wpS_get ?_);cases eb:(pendingOf stx).back? with
   |none=>
    try dsimp only
    refine wpS_bind (wpS_modify ?_);refine wpS_pure ⟨rfl,by dsimp only;lia,by dsimp only;lia,hx2.push hn1 srx⟩
   |some t=>
    obtain ⟨s1,m1,p1⟩:=t
    try dsimp only
    refine wpS_bind (wpS_mono (wpS_forRange (I:=λ_ c st'=>c.1=none/\Bz o kd a₀ lo st'/\eO o (arrOf st') lo nn) (Q:=λc st'=>c.1=none/\Bz o kd a₀ lo st'/\eO o (arrOf st') lo nn) ?_ (λ_ _ h=>h) ⟨rfl,hx2,srx⟩) ?_)
    ·rintro i ⟨c1,c2⟩ st3 _ _ ⟨rfl,h3,sr3⟩;refine wpS_bind (wpS_get ?_)
     try dsimp only
     by_cases g:(pendingOf st3).size>1
     ·rw[if_pos g];obtain ⟨⟨u1,u2,u3⟩,eu⟩:∃t,(pendingOf st3)[(pendingOf st3).size - 2]?=some t:=⟨_,getElem?_pos _ _ (by lia)⟩;rw[eu]
      try dsimp only
      refine aD (λ_=>?_) λ_=>?_
      ·exact wpS_pure ⟨rfl,h3,sr3⟩
      ·refine wpS_bind (fC C h3 hP (by lia) (show (pendingOf st3).size - 2+1<(pendingOf st3).size by lia) λst4 h4 _ k4=>?_);exact wpS_pure ⟨rfl,h4,sr3.same λj j1 j2=>k4 j j1⟩
     ·rw[if_neg g];exact wpS_pure ⟨rfl,h3,sr3⟩
    ·rintro ⟨c1,c2⟩ st3 ⟨rfl,h3,sr3⟩
     try dsimp only
     refine wpS_bind (wpS_modify ?_);refine wpS_bind (wpS_modify ?_);exact wpS_pure ⟨rfl,by dsimp only;lia,by dsimp only;lia,(h3.lastp _ _).push hn1 sr3⟩
  ·have hn1:=n1;have hn2:lo+n<=a₀.size:=by lia
   have h2:=Cs.bz h1 hc2;generalize st2=stx at h2 sr2;refine wpS_bind (wpS_get ?_);cases eb:(pendingOf stx).back? with
   |none=>
    try dsimp only
    refine wpS_bind (wpS_modify ?_);refine wpS_pure ⟨rfl,by dsimp only;lia,by dsimp only;lia,h2.push hn1 sr2⟩
   |some t=>
    obtain ⟨s1,m1,p1⟩:=t
    try dsimp only
    refine wpS_bind (wpS_mono (wpS_forRange (I:=λ_ c st'=>c.1=none/\Bz o kd a₀ lo st'/\eO o (arrOf st') lo n) (Q:=λc st'=>c.1=none/\Bz o kd a₀ lo st'/\eO o (arrOf st') lo n) ?_ (λ_ _ h=>h) ⟨rfl,h2,sr2⟩) ?_)
    ·rintro i ⟨c1,c2⟩ st3 _ _ ⟨rfl,h3,sr3⟩;refine wpS_bind (wpS_get ?_)
     try dsimp only
     by_cases g:(pendingOf st3).size>1
     ·rw[if_pos g];obtain ⟨⟨u1,u2,u3⟩,eu⟩:∃t,(pendingOf st3)[(pendingOf st3).size - 2]?=some t:=⟨_,getElem?_pos _ _ (by lia)⟩;rw[eu]
      try dsimp only
      refine aD (λ_=>?_) λ_=>?_
      ·exact wpS_pure ⟨rfl,h3,sr3⟩
      ·refine wpS_bind (fC C h3 hP (by lia) (show (pendingOf st3).size - 2+1<(pendingOf st3).size by lia) λst4 h4 _ k4=>?_);exact wpS_pure ⟨rfl,h4,sr3.same λj j1 j2=>k4 j j1⟩
     ·rw[if_neg g];exact wpS_pure ⟨rfl,h3,sr3⟩
    ·rintro ⟨c1,c2⟩ st3 ⟨rfl,h3,sr3⟩
     try dsimp only
     refine wpS_bind (wpS_modify ?_);refine wpS_bind (wpS_modify ?_);exact wpS_pure ⟨rfl,by dsimp only;lia,by dsimp only;lia,(h3.lastp _ _).push hn1 sr3⟩
 ·rintro ⟨c1,lo⟩ st1 ⟨rfl,hlo,h1⟩;dsimp only at hlo h1 ⊢;subst hlo;have l0:=h1.runs.len;rw[length_toList] at l0;refine wpS_bind (wpS_mono (wpS_forRange (I:=λi c st'=>c.1=none/\Bz o kd a₀ a₀.size st'/\(pendingOf st').size<=max 1 (a₀.size - i)) (Q:=λc st'=>c.1=none/\Bz o kd a₀ a₀.size st'/\(pendingOf st').size<=1) ?_ (λc st' ⟨e1,e2,e3⟩=>⟨e1,e2,by lia⟩) ⟨rfl,h1,by lia⟩) ?_)
  ·rintro i ⟨c1,c2⟩ st3 _ hi3 ⟨rfl,h3,z3⟩;refine wpS_bind (wpS_get ?_)
   try dsimp only
   refine aD (λg=>?_) λg=>?_
   ·exact wpS_pure ⟨rfl,h3,g⟩
   ·have g':¬(pendingOf st3).size<=1:=g;refine wpS_bind (rL C h3 hP (Nat.le_refl _) (VS g') λst4 h4 z4=>?_);exact wpS_pure ⟨rfl,h4,by lia⟩
  ·rintro ⟨c1,c2⟩ st3 ⟨rfl,h3,z3⟩;refine wpS_pure (q _ h3.perm h3.failed ?_);have r3:=h3.runs;have s3:=h3.srt;rw[<-length_toList] at z3;revert r3 s3 z3;generalize (pendingOf st3).toList=l;intro z3 r3 s3
   match l,r3 with
   |[],r3=>
    have:0=a₀.size:=r3;lia
   |[(a,n,p)],⟨e1,_,e3⟩=>
    have e3:0+n=a₀.size:=e3;have:=s3 (a,n,p) mem_cons_self;dsimp only at this;rw[e1] at this;rw[<-e3,zero_add];exact this
   |_::_::_,_=>
    simp only [length_cons] at z3;lia
end
end So
namespace So
open PySem PySem.Spec PyProof.Rows PySem.W PySem.SeqAt
@[reducible] noncomputable def dP (h:Heap):KeyKind where
 α:=List Nat × Int
 blt a b:=if a.1=b.1 then decide (a.2<b.2) else decide (a.1<b.1)
 irrefl a:=by simp
 trans a b c h1 h2:=by
  split at h1<;>split at h2<;>rename_i e1 e2<;>simp only [decide_eq_true_eq] at h1 h2
  ·rw[if_pos (e1.trans e2)];exact decide_eq_true (by lia)
  ·rw[if_neg (by rw[e1];exact e2),e1];exact decide_eq_true h2
  ·rw[if_neg (by rw[<-e2];exact e1),<-e2];exact decide_eq_true h1
  ·have:=List.lt_trans h1 h2;rw[if_neg (λe=>by rw[e] at this;exact List.lt_irrefl _ this)];exact decide_eq_true this
 negTrans a b c h:=by
  by_cases e1:a.1=b.1
  ·by_cases e2:b.1=c.1
   ·rw[if_pos (e1.trans e2)] at h;rw[if_pos e1,if_pos e2];simp only [decide_eq_true_eq] at h ⊢;lia
   ·rw[if_neg (by rw[e1];exact e2),e1] at h;exact .inr (by rw[if_neg e2];exact h)
  ·by_cases e2:b.1=c.1
   ·rw[if_neg (by rw[<-e2];exact e1),<-e2] at h;exact .inl (by rw[if_neg e1];exact h)
   ·rw[if_neg e1,if_neg e2];simp only [decide_eq_true_eq];by_cases hab:a.1<b.1
    ·exact .inl hab
    ·refine .inr ?_;by_cases e3:a.1=c.1
     ·rw[<-e3];by_cases hb:b.1<a.1
      ·exact hb
      ·exact absurd (List.le_antisymm (not_lt.mp hb) (not_lt.mp hab)) e1
     ·rw[if_neg e3] at h;exact List.lt_of_le_of_lt (not_lt.mp hab) (of_decide_eq_true h)
 total a b h1 h2:=by
  by_cases e:a.1=b.1
  ·rw[if_pos e] at h1;rw[if_pos e.symm] at h2;simp only [decide_eq_false_iff_not] at h1 h2;exact Prod.ext e (by lia)
  ·rw[if_neg e] at h1;rw[if_neg (Ne.symm e)] at h2;simp only [decide_eq_false_iff_not] at h1 h2;exact absurd (List.le_antisymm (not_lt.mp h2) (not_lt.mp h1)) e
 keyOf v:=some ((kv h v).1.cps.toList,(kv h v).2)
 dflt:=([],0)
theorem MN {x y:Str} (h:x.cps.toList=y.cps.toList):x=y:=by
 cases x;cases y
 congr
 exact ext' h
theorem BM (h:Heap) (x y:Str) (i j:Int):(dP h).blt (x.cps.toList,i) (y.cps.toList,j)=LX (x,i) (y,j):=by
 show (if x.cps.toList=y.cps.toList then decide (i<j) else decide (x.cps.toList<y.cps.toList))=if x=y then decide (i<j) else decide (x.cps.toList<y.cps.toList)
 by_cases e:x=y
 ·rw[if_pos e,if_pos (by rw[e])]
 ·rw[if_neg e,if_neg λg=>e (MN g)]
noncomputable def Up (h:Heap) (l:List Value):Prop:=l.Pairwise λu v=>∀x i y j,xB h u x i->xB h v y j->LX (y,j) (x,i)=false
theorem FG (hl:l.length<2):Up h l:=by
 match l,hl with
 |[],_=>exact Pairwise.nil
 |[a],_=>exact List.pairwise_singleton _ _
 |_::_::_,hl=>
  simp only [length_cons] at hl;lia
section
variable {prog:Program} {w:World} {A:Around} {E:Value->Shared->Prop} {s:Shared}
theorem EC:BW (model prog w) A E s (tuples' true) (cK (dP s.heap)) (λp=>∃x i,xB s.heap p.1 x i):=by
 have e:(λp q:Keyed=>LX (kv s.heap p.1) (kv s.heap q.1))=cK (dP s.heap):=funext λp=>funext λq=>(BM s.heap _ _ _ _).symm;rw[<-e];exact KP
theorem ZI {h h':Heap} {arr:Array Keyed} {vs:List Value} {n:Nat} (hm:∀p∈arr.toList,p.1=p.2/\p.1∈vs) (hn:arr.size=n) (hs:eO (dP h') arr 0 n) (hk:∀v∈vs,∃x i,xB h v x i/\xB h' v x i):Up h (arr.toList.map (·.2)):=by
 refine List.pairwise_iff_getElem.mpr λi j hi hj hij x a y b p1 p2=>?_;rw[length_map,length_toList] at hi hj;rw[List.getElem_map] at p1 p2;have m1:=hm arr.toList[i] (getElem_mem _);have m2:=hm arr.toList[j] (getElem_mem _);obtain ⟨x1,a1,k1,k1'⟩:=hk _ m1.2;obtain ⟨y1,b1,k2,k2'⟩:=hk _ m2.2;rw[<-m1.1] at p1;rw[<-m2.1] at p2;have e1:(x,a)=(x1,a1):=(lJ p1).symm.trans (lJ k1);have e2:(y,b)=(y1,b1):=(lJ p2).symm.trans (lJ k2);cases e1;cases e2;have:=hs i j (zero_le _) (by lia) (by lia);have g1:KK (dP h') arr i=(x.cps.toList,a):=by
  unfold KK;rw[getElem?_pos arr i hi];show ((kv h' arr[i].1).1.cps.toList,(kv h' arr[i].1).2)=_;rw[show arr[i]=arr.toList[i] from (Array.getElem_toList ..).symm,lJ k1']
 have g2:KK (dP h') arr j=(y.cps.toList,b):=by
  unfold KK;rw[getElem?_pos arr j hj];show ((kv h' arr[j].1).1.cps.toList,(kv h' arr[j].1).2)=_;rw[show arr[j]=arr.toList[j] from (Array.getElem_toList ..).symm,lJ k2']
 rw[g1,g2] at this;rw[<-BM h'];exact this
theorem pG {a:Addr} {vs:List Value} {n:Nat} {P:Fin->Shared->Prop} (ho:s.heap.get? a=some (seqObj "list" vs.toArray n)) (hp:∀v∈vs,∃x i,xB s.heap v x i) (hz:vs.length<=sizeLine)
  (h:∀out:Array Value,out.toList.Perm vs->Up s.heap out.toList->P (.done (.ret .none)) {s with heap:=sortedHeap s.heap a vs out}):wpAny (model prog w) A (Builtin.«list.sort» ⟨[.ref a],[]⟩) P E s:=by
 rw[list_sort_plain];have ha:a<s.heap.objs.size:=lt_size ho;refine wpAny_bind (listItems_at ho rfl ?_);refine wpAny_bind (listUpdate_at ho rfl ?_);obtain ⟨e1,ho1⟩:∃e1,(s.heap.update a (Obj.mapSeq λ_=>#[])).get? a=some (seqObj "list" #[] e1):=⟨_,get?_update_seq ho (λ_=>#[])⟩;refine wpAny_bind (seqEpoch_at ho1 rfl ?_);refine wpAny_bind (wpAny_newTuple ?_);refine wpAny_bind (wpAny_newList ?_);refine wpAny_holding ?_;have ho6:(((s.heap.update a (Obj.mapSeq λ_=>#[])).push (seqObj "tuple" vs.toArray 0)).push (seqObj "list" #[] 0)).get? a=some (seqObj "list" #[] e1):=by
  rw[get?_push_ne _ _ _ (by rw[size_push',size_update];exact ne_of_lt (lt_succ_of_lt ha)),get?_push_ne _ _ _ (by rw[size_update];exact ne_of_lt ha)];exact ho1
 have kp:∀b o,s.heap.get? b=some o->o.cls=.type "tuple"->(((s.heap.update a (Obj.mapSeq λ_=>#[])).push (seqObj "tuple" vs.toArray 0)).push (seqObj "list" #[] 0)).get? b=some o:=λb o hb hc=>by
  have hba:b≠a:=by
   rintro rfl;rw[ho] at hb;cases hb;exact absurd (show Value.type "list"=Value.type "tuple" from hc) (by simp)
  have hbl:b<s.heap.objs.size:=lt_size hb;rw[get?_push_ne _ _ _ (by rw[size_push',size_update];exact ne_of_lt (lt_succ_of_lt hbl)),get?_push_ne _ _ _ (by rw[size_update];exact ne_of_lt hbl),Heap.get?_update_ne _ _ _ _ hba];exact hb
 have hp6:∀v∈vs,∃x i,xB (((s.heap.update a (Obj.mapSeq λ_=>#[])).push (seqObj "tuple" vs.toArray 0)).push (seqObj "list" #[] 0)) v x i:=λv hv=>by
  obtain ⟨x,i,e⟩:=hp v hv;exact ⟨x,i,e.keep kp⟩
 show wpAny (model prog w) A _ P E {s with heap:=((s.heap.update a (Obj.mapSeq λ_=>#[])).push (seqObj "tuple" vs.toArray 0)).push (seqObj "list" #[] 0)};dsimp only;have hsz:vs.toArray.size=vs.length:=by simp
 by_cases h2:vs.toArray.size<2
 ·rw[if_pos h2,if_pos h2];refine wpAny_bind (wpAny_pure ?_);rw[StateT.run_pure];refine wpAny_bind (wpAny_pure ?_);dsimp only;refine wpAny_bind (seqEpoch_at ho6 rfl ?_);have pe:((pairsOf vs).map (·.2)).toList=vs:=by
   rw[toList_map,pairsOf_toList];exact List.map_snd_zip (Nat.le_refl _)
  refine wpAny_bind (listUpdate_at ho6 rfl ?_ (hsz2:=by rw[size_map];show (pairsOf vs).size<=_;rw[pairsOf_size];exact Nat.le_succ_of_le hz));simp only [bne_self_eq_false,false_eq_true,if_false];exact wpAny_pure (h _ (List.Perm.of_eq pe) (by rw[show (Array.map (λx=>x.2) (vs.toArray.zip vs.toArray)).toList=vs from pe];exact FG (by lia)))
 ·rw[if_neg h2,if_neg h2];obtain ⟨fs,f1,f2,f3⟩:=zT hp6;refine wpAny_bind (kat_kind f2 (by lia) (λv hv=>by obtain ⟨x,t,rfl⟩:=f3 v hv;exact DG) (by decide) ?_);rw[show (Value.type "str" != Value.type "tuple")=true by decide];refine wpAny_bind (wpAny_mono (pP EC (a₀:=pairsOf vs) (st:=SortSt.mk' (tuples' true) (vs.toArray.zip vs.toArray) #[] 7 none)
   (Q:=λ_ st'=>(arrOf st').Perm (pairsOf vs)/\failedOf st'=none/\eO (dP (((s.heap.update a (Obj.mapSeq λ_=>#[])).push (seqObj "tuple" vs.toArray 0)).push (seqObj "list" #[] 0))) (arrOf st') 0 (pairsOf vs).size) ⟨Array.Perm.refl _,rfl,rfl,rfl,λt ht=>nomatch ht⟩ (λp hm=>?_) (by rw[pairsOf_size];lia) λst' a1 a2 a3=>⟨a1,a2,a3⟩) ?_ λ_ _ e=>e)
  ·rw[pairsOf_toList] at hm;exact hp6 _ (mem_zip_self hm).2
  ·rintro ⟨⟨⟩,st'⟩ s' ⟨rfl,hpm,hf,hsr⟩;dsimp only;refine wpAny_bind (seqEpoch_at ho6 rfl ?_);have sz:((arrOf st').map (·.2)).size=vs.length:=(size_map ..).trans (hpm.size_eq.trans (pairsOf_size _));refine wpAny_bind (listUpdate_at ho6 rfl ?_ (hsz2:=Nat.le_trans (le_of_eq sz) (Nat.le_succ_of_le hz)));rw[hf];simp only [bne_self_eq_false,false_eq_true,if_false];refine wpAny_pure (h _ ?_ ?_)
   ·rw[toList_map];refine ((Array.perm_iff_toList_perm.mp hpm).map _).trans ?_;rw[pairsOf_toList];exact List.Perm.of_eq (List.map_snd_zip (Nat.le_refl _))
   ·rw[toList_map];refine ZI (vs:=vs) (λp hm=>?_) hpm.size_eq hsr λv hv=>?_
    ·have:=(Array.perm_iff_toList_perm.mp hpm).mem_iff.mp hm;rw[pairsOf_toList] at this;exact mem_zip_self this
    ·obtain ⟨x,i,e⟩:=hp v hv;exact ⟨x,i,e,e.keep kp⟩
theorem xW (hl:s.heap.IsList l vs.toArray) (hp:∀v∈vs,∃x i,xB s.heap v x i) (hz:vs.length<=sizeLine)
  (h:∀out:Array Value,out.toList.Perm vs->Up s.heap out.toList->Q (.ref (s.heap.objs.size+1)) {s with heap:=sortedAll s.heap vs out}):wpAny (model prog w) A (call (.builtin "sorted") [.ref l]) Q E s:=by
 refine Calls.call_function_entry kind_sorted plain_sorted entry_sorted (args_sorted1 _) ?_;unfold Builtin.«sorted»;refine wpAny_bind (m:=checkCount "sorted" 1 1 _) (wpAny_pure ?_);refine wpAny_bind (collect_list hl ?_);refine wpAny_bind (wpAny_newList ?_);have hsz:((s.heap.push (seqObj "list" #[] 0)).update s.heap.objs.size (Obj.mapSeq (·++vs.toArray))).objs.size=s.heap.objs.size+1:=by
  rw[size_update,size_push']
 have hoL:(((s.heap.push (seqObj "list" #[] 0)).update s.heap.objs.size (Obj.mapSeq (·++vs.toArray))).push (seqObj "list" vs.toArray 0)).get? (s.heap.objs.size+1)=some (seqObj "list" vs.toArray 0):=by
  rw[<-hsz];exact get?_push_size _ rfl
 have kp:∀b o,s.heap.get? b=some o->o.cls=.type "tuple"->(((s.heap.push (seqObj "list" #[] 0)).update s.heap.objs.size (Obj.mapSeq (·++vs.toArray))).push (seqObj "list" vs.toArray 0)).get? b=some o:=λb o hb hc=>by
  have hbl:b<s.heap.objs.size:=lt_size hb;rw[get?_push_ne _ _ _ (by rw[hsz];exact ne_of_lt (lt_succ_of_lt hbl)),Heap.get?_update_ne _ _ _ _ (ne_of_lt hbl),get?_push_ne _ _ _ (ne_of_lt hbl)];exact hb
 have hp2:∀v∈vs,∃x i,xB (((s.heap.push (seqObj "list" #[] 0)).update s.heap.objs.size (Obj.mapSeq (·++vs.toArray))).push (seqObj "list" vs.toArray 0)) v x i:=λv hv=>by
  obtain ⟨x,i,e⟩:=hp v hv;exact ⟨x,i,e.keep kp⟩
 show wpAny _ _ _ _ _ {s with heap:=((s.heap.push (seqObj "list" #[] 0)).update s.heap.objs.size (Obj.mapSeq (·++vs.toArray))).push (seqObj "list" vs.toArray 0)};rw[hsz];refine wpAny_bind (wpAny_holding (wpAny_call_entry slot_list_sort ⟨_,hoL,rfl⟩ entry_list_sort (pG hoL hp2 hz λout a1 a2=>⟨_,rfl,?_⟩) (args_list_sort _)));exact wpAny_pure ⟨_,rfl,h out a1 (a2.imp λ{u v} g x i y j p1 p2=>g x i y j (p1.keep kp) (p2.keep kp))⟩
end
end So
namespace L2.Na
open PySem PySem.Spec PyProof.Rows
theorem yT (t:SetTable) (es:Array (Int × Value)) (h:Int) (x:Value):(layNew t es h x).2.1.led=t.led:=by
 unfold layNew;split
 ·show (SetTable.orStandIn _ _).led=_;unfold SetTable.orStandIn;split<;>rfl
 ·rfl
theorem nG (t:SetTable) (es:Array (Int × Value)) (m:Nat):(relayAll t es m).2.1.led=t.led/\(t.plain=false->(relayAll t es m).2.1.plain=false):=by
 unfold relayAll;split
 ·rename_i t' order he;have ht:t'.led=t.led/\t'.plain=t.plain:=by
   unfold SetTable.relaid SetTable.laid at he;cases hl:SetTable.layClean (SetTable.sizeAbove m - 1) (es.map (·.1)) with
   |none=>rw[hl] at he;cases he
   |some owner=>
    rw[hl] at he;cases he;exact ⟨rfl,rfl⟩
  dsimp only;split
  ·exact ⟨ht.1,λz=>ht.2.trans z⟩
  ·exact ⟨rfl,λ_=>rfl⟩
 ·exact ⟨rfl,λ_=>rfl⟩
noncomputable def cA (es:Array (Int × Value)):List Str:=es.toList.map λe=>PyProof.Rows.strOf e.2
noncomputable def dX (prog:Program) (w:World) (bt:Bool) (h:Heap) (a:Addr) (zs:List Str):Prop:=
 ∃(o:Obj) (es:Array (Int × Value)) (ep:Nat) (t:SetTable),h.get? a=some o/\o.ExactSet/\o.data=.set es ep t/\ElemsOf (PySem.strKind prog w) es.toList/\cA es=zs/\zs.Nodup/\es.size<scanBound/\t.fits es.size=true/\t.led=(!bt)/\(es.size≠0->t.plain=false)
section
variable {prog:Program} {w:World} {A:Around} {E:Value->Shared->Prop} {s:Shared} {bt:Bool} {a:Addr}
theorem dX.keep (hS:dX prog w bt h a zs) (k:∀o,h.get? a=some o->h'.get? a=some o):dX prog w bt h' a zs:=by
 obtain ⟨o,es,ep,t,ho,r⟩:=hS;exact ⟨o,es,ep,t,k o ho,r⟩
theorem zZ {h:Heap} {o:Obj} {es es':Array (Int × Value)} {ep:Nat} {t t':SetTable} (ho:h.get? a=some o) (hd:o.data=.set es ep t):(h.update a (Obj.putSet es' t')).get? a=some {o with data:=.set es' (ep+1) t'}:=by
 have z:=get?_update_self (Obj.putSet es' t') ho (by rw[putSet_of es' t' hd];rfl);rwa [putSet_of es' t' hd] at z
theorem wA {es:Array (Int × Value)} (hel:ElemsOf (PySem.strKind prog w) es.toList) {e:Int × Value} (he:e∈es.toList) (x:Str):(PySem.strKind prog w).is x e.2=true↔PyProof.Rows.strOf e.2=x:=by
 obtain ⟨⟨k,hk,_⟩,_⟩:=hel e he;obtain ⟨u,hu⟩:=Value.isStrOf_shape hk;constructor
 ·intro h;obtain ⟨u',hu'⟩:=Value.isStrOf_shape (show Value.isStrOf x e.2=true from h);rw[hu'];rfl
 ·intro h;rw[hu] at h;have e1:k=x:=h;rw[<-e1];exact hk
theorem pZ {g:Bool->Sem Unit} (hg:∀(b:Bool) (aa:Shared) (Q':Unit->Shared->Prop),Q' () aa->wpAny (model prog w) A (g b) Q' E aa)
  {o:Obj} {es es1:Array (Int × Value)} {ep:Nat} {t t2:SetTable} (ho:s.heap.get? a=some o) (hex:o.ExactSet) (hd:o.data=.set es ep t) (hel:ElemsOf (PySem.strKind prog w) es1.toList) (nd:(cA es1).Nodup)
  (hb:es1.size<scanBound) (hf:t2.fits es1.size=true) (hl:t2.led=!bt) (hp:t2.plain=false) {wd:Bool} {R:Option Bool->Shared->Prop}
  (h:∀h' zs,SameBut a s.heap h'->dX prog w bt h' a zs->List.Perm zs (cA es1)->R (some true) {s with heap:=h'}):
  wpAny (model prog w) A (do
    storeSet a es1 t2
    if (!wd&&t2.tooFull)=true then do
      g (relayAll t2 es1 (SetTable.grown es1.size)).2.2
      storeSet a (relayAll t2 es1 (SetTable.grown es1.size)).1 (relayAll t2 es1 (SetTable.grown es1.size)).2.1
      pure (some true)
     else pure (some true)) R E s:=by
 refine wpAny_bind (wpAny_storeSet_of ho hd ?_ (fits_of_scanBound hb));have g1:=zZ (es':=es1) (t':=t2) ho hd;have sb1:=SameBut.update s.heap a (Obj.putSet es1 t2);split
 ·obtain ⟨l3,p3⟩:=nG t2 es1 (SetTable.grown es1.size);have pm:=relayAll_perm t2 es1 (SetTable.grown es1.size);have f3:=relayAll_fits t2 es1 (SetTable.grown es1.size);revert l3 p3 pm f3;generalize relayAll t2 es1 (SetTable.grown es1.size)=r;obtain ⟨es2,t3,gv⟩:=r;intro l3 p3 pm f3;have sz:es2.size=es1.size:=by rw[<-length_toList,<-length_toList];exact pm.length_eq
  have pk:List.Perm (cA es2) (cA es1):=pm.map _;refine wpAny_bind (hg _ _ _ ?_);refine wpAny_bind (wpAny_storeSet_of g1 rfl ?_ (fits_of_scanBound (by show es2.size<scanBound;rw[sz];exact hb)));refine wpAny_pure (h _ (cA es2) (sb1.trans (SameBut.update _ a _)) ?_ pk);exact ⟨_,es2,_,t3,zZ g1 rfl,hex,rfl,hel.perm pm,rfl,pk.nodup_iff.mpr nd,by rw[sz];exact hb,f3,l3.trans hl,λ_=>p3 hp⟩
 ·exact wpAny_pure (h _ (cA es1) sb1 ⟨_,es1,_,t2,g1,hex,rfl,hel,rfl,nd,hb,hf,hl,λ_=>hp⟩ (List.Perm.refl _))
theorem GI {zs:List Str} {x:Str} {tk:Tok} {Q:Bool->Shared->Prop} (hS:dX prog w bt s.heap a zs) (hroom:zs.length+1<scanBound)
  (h:∀h' zs' b,SameBut a s.heap h'->dX prog w bt h' a zs'->(∀y,y∈zs'↔y∈zs\/y=x)->zs'.length<=zs.length+1->Q b {s with heap:=h',toks:=s.toks+1}):
  wpAny (model prog w) A (setAdd a (.str x tk)) Q E s:=by
 obtain ⟨o,es,ep,t,ho,hex,hd,hel,rfl,nd,hb,hf,hl,hp⟩:=hS;have hlen:(cA es).length=es.size:=by unfold cA;rw[length_map,length_toList]
 have hkey:(PySem.strKind prog w).is x (.str x tk)=true:=by show Value.isStrOf x (.str x tk)=true;simp [Value.isStrOf]
 have hsc:(Value.str x tk).scannable=true:=rfl;unfold setAdd;refine wpAny_holding (wpAny_bind ((PySem.strKind prog w).pyHash hkey ?_));unfold setAddHashed setAddHashedIn;refine wpAny_holding (wpAny_bind (wpAny_setState_of (s:={s with toks:=s.toks+1}) ho hd hf ?_));dsimp only;rw[byScan_of hsc hb hel];simp only [↓reduceIte];unfold setAddByScan;refine wpAny_bind (wpAny_bind (wpAny_rule (wpAny_bind (wpAny_setScan_of (s:={s with toks:=s.toks+1}) hkey ho hd hf hel ?_))));cases hr:List.findIdx? (λe=>(PySem.strKind prog w).is x e.2) es.toList with
 |some j=>
  dsimp only;obtain ⟨hj,hpj,_⟩:=List.findIdx?_eq_some_iff_getElem.mp hr;have hm:x∈cA es:=mem_map.mpr ⟨_,getElem_mem hj,(wA hel (getElem_mem hj) x).mp hpj⟩;refine wpAny_pure (wpAny_pure ?_);exact h s.heap (cA es) _ (SameBut.refl a s.heap) ⟨o,es,ep,t,ho,hex,hd,hel,rfl,nd,hb,hf,hl,hp⟩ (λy=>⟨.inl,λz=>z.elim id λe=>e▸hm⟩) (le_succ _)
 |none=>
  dsimp only;have hn:x∉cA es:=λz=>by
   obtain ⟨e,he,hx⟩:=mem_map.mp z;have:=List.findIdx?_eq_none_iff.mp hr e he;rw[(wA hel he x).mpr hx] at this;cases this
  have pm:=layNew_perm t es ((PySem.strKind prog w).hash x) (.str x tk);have ft:=layNew_fits t es ((PySem.strKind prog w).hash x) (.str x tk);have ld:=yT t es ((PySem.strKind prog w).hash x) (.str x tk);revert pm ft ld;generalize layNew t es ((PySem.strKind prog w).hash x) (.str x tk)=L;obtain ⟨es1,t1,wd,gv⟩:=L;intro pm ft ld;dsimp only at pm ft ld ⊢;rw[toList_push] at pm;have el1:=(hel.push hkey hsc).perm pm;have pk:List.Perm (cA es1) (cA es++[x]):=by
   have:=pm.map λe:Int × Value=>PyProof.Rows.strOf e.2;rw[map_append] at this;exact this
  have nd1:(cA es1).Nodup:=pk.nodup_iff.mpr (List.nodup_append.mpr ⟨nd,by simp,λu hu v hv e=>by
   have:v=x:=by simpa using hv
   rw[this] at e
   exact hn (e▸hu)⟩)
  have sz1:es1.size=es.size+1:=by rw[<-length_toList,pm.length_eq,length_append,length_toList];rfl
  have hb1:es1.size<scanBound:=by rw[sz1,<-hlen];exact hroom
  have fin:∀h' zs',SameBut a s.heap h'->dX prog w bt h' a zs'->List.Perm zs' (cA es1)->Q true {s with heap:=h',toks:=s.toks+1}:=λh' zs' sb hS' pz=>by
   refine h h' zs' true sb hS' (λy=>?_) ?_
   ·rw[(pz.trans pk).mem_iff,mem_append];simp
   ·rw[(pz.trans pk).length_eq,length_append];exact Nat.le_refl _
  have hgw:∀(b:Bool) (aa:Shared) (Q':Unit->Shared->Prop),Q' () aa->wpAny (model prog w) A (match b with|true=>rule "set.scan.the-table-gave-way"|false=>pure ()) Q' E aa:=
   λb aa Q' hq=>by cases b<;>first|exact wpAny_pure hq|exact wpAny_rule hq
  refine wpAny_bind (hgw _ _ _ ?_);split
  ·refine wpAny_bind ?_;rw[hashByValue_scannable 8 hsc];refine wpAny_pure ?_;refine pZ (s:={s with toks:=s.toks+1}) (t2:={t1 with plain:=false}) hgw ho hex hd el1 nd1 hb1 (SetTable.fits_plain_off ft) (ld.trans hl) rfl λh' zs' sb hS' pz=>?_;exact wpAny_pure (fin h' zs' sb hS' pz)
  ·rename_i hpl;refine wpAny_bind (wpAny_pure ?_);simp only [↓reduceIte];refine pZ (s:={s with toks:=s.toks+1}) (t2:=t1) hgw ho hex hd el1 nd1 hb1 ft (ld.trans hl) (by simpa using hpl) λh' zs' sb hS' pz=>?_;exact wpAny_pure (fin h' zs' sb hS' pz)
end
noncomputable abbrev tT (w:World):Bool:=w.params.followText "set-order"
noncomputable def cP (w:World):Obj:={cls:=.type "set",dict:=none,data:=.set #[] 0 (.fresh 0 0 (!tT w))}
section
variable {prog:Program} {w:World} {A:Around} {E:Value->Shared->Prop} {s:Shared}
theorem GH (e:h.get? a=some (cP w)):dX prog w (tT w) h a []:=
 ⟨_,#[],0,_,e,⟨rfl,rfl,rfl⟩,rfl,λx hx=>by simp at hx,rfl,List.nodup_nil,by decide,by rfl,rfl,λz=>absurd rfl z⟩
theorem EA (x:Value) (h:Q (.ref s.heap.objs.size) {s with heap:=s.heap.push (cP w)}):
  codeAny (model prog w) A (.call (.builtin "set.__new__") ⟨[.type "set",x],[]⟩) (wants Q E) s:=by
 refine codeAny_of_tree ?_;show wpAny _ A.in1 (do checkBuiltinCall "set.__new__" ⟨[.type "set",x],[]⟩;again (.builtin "set.__new__" ⟨[.type "set",x],[]⟩)) _ _ s;refine wpAny_bind (wpAny_of_eq (PySem.F.newCall_set_1 x) (wpAny_pure ⟨plainId_quiet PySem.F.plain_set_new _,codeAny_builtin PySem.F.entry_set_new ?_⟩));rw[Around.under_plainId PySem.F.plain_set_new _];unfold Builtin.«set.__new__» Builtin.Frozenset.newClass;have sub:=sub_set_self;obtain ⟨hp,g,d,tk,os⟩:=s;dsimp only
 wp_walk
 refine wpAny_askSetting (wpAny_pure ?_);dsimp only;simp only [newObj];refine wpAny_bind (wpAny_alloc (wpAny_pure (wpAny_pure ?_)));exact h
variable {R:Result->Shared->Prop} {I:Addr} {fp wr:List Addr} {G:Array GenState->Array GenState->Prop} {n:Nat} {P:Nat->Value->Prop} {St:Nat->Shared->Prop} {bt:Bool}
theorem BZ (W:WalksS prog w A.in1 I fp wr G n P St) (S:Addr) (hSf:S∉fp) (val:Nat->Str) (hval:∀i v,P i v->∃t,v=.str (val i) t) (hb:n+1<scanBound):
  ∀(k i:Nat) (s:Shared) (zs:List Str),n - i=k->i<=n->St i s->dX prog w bt s.heap S zs->(∀y,y∈zs↔∃j,j<i/\val j=y)->zs.length<=i->
   (∀s' zs',Moved (S::wr) G s s'->dX prog w bt s'.heap S zs'->(∀y,y∈zs'↔∃j,j<n/\val j=y)->R (.ok (.ret .none)) s')->
   codeAny (model prog w) A (.builtin "set.update.loop" ⟨[.ref S,.ref I],[]⟩) R s:=by
 have hSw:S∉wr:=λh=>hSf (W.sub _ h);have up:∀b∈wr,b∈S::wr:=λb hb=>mem_cons_of_mem _ hb;intro k;induction k with
 |zero=>
  intro i s zs hk hi st hS hm _ fin;have e:i=n:=by lia
  subst e;refine codeAny_builtin PyProof.Rows.F.entry_set_update_loop ?_;rw[Around.under_plainId PyProof.Rows.F.plain_set_update_loop _];show wpAny _ A.in1 (pyNext (.ref I) >>=_) _ _ s;refine wpAny_bind (W.done s _ _ st λs' mv=>?_);show wpAny _ A.in1 (ret Value.none) _ _ s';exact wpAny_pure (fin s' zs (mv.mono up) (hS.keep λo ho=>mv.heap S o hSw ho) hm)
 |succ k ih=>
  intro i s zs hk hi st hS hm hl fin;have lt:i<n:=by lia
  refine codeAny_builtin PyProof.Rows.F.entry_set_update_loop ?_;rw[Around.under_plainId PyProof.Rows.F.plain_set_update_loop _];show wpAny _ A.in1 (pyNext (.ref I) >>=_) _ _ s;refine wpAny_bind (W.item i s _ _ lt st λv s1 hP st1 mv=>?_);obtain ⟨t,rfl⟩:=hval i v hP;have hS1:dX prog w bt s1.heap S zs:=hS.keep λo ho=>mv.heap S o hSw ho;show wpAny _ A.in1 (holding [Value.str (val i) t] (setAdd S (.str (val i) t)) >>=_) _ _ s1;refine wpAny_bind (wpAny_holding (GI hS1 (by lia) λh2 zs2 b sb hS2 hm2 hl2=>?_));refine wpAny_pure ⟨plainId_quiet PyProof.Rows.F.plain_set_update_loop _,ih (i+1) _ zs2 (by lia) lt (W.frame _ s1 _ _ st1 (le_succ _) λb hb o e=>?_) hS2 (λy=>?_) (by lia) λs3 zs3 mv3 hS3 hm3=>?_⟩
  ·rw[sb.2 b (λh:b=S=>hSf (by rw[<-h];exact hb))];exact e
  ·rw[hm2 y,hm y];constructor
   ·rintro (⟨j,hj,rfl⟩|rfl)
    ·exact ⟨j,by lia,rfl⟩
    ·exact ⟨i,by lia,rfl⟩
   ·rintro ⟨j,hj,rfl⟩;by_cases e:j=i
    ·rw[e];exact .inr rfl
    ·exact .inl ⟨j,by lia,rfl⟩
  ·refine fin s3 zs3 (Moved.trans W.gtrans ((mv.mono up).then_heap (le_succ _) λb o hb e=>?_) mv3) hS3 hm3;rw[sb.2 b (λh:b=S=>hb (by rw[h];exact mem_cons_self))];exact e
end
theorem aT:Slot "set_iterator" "__next__" "set_iterator.__next__":=
 .of (owner:="set_iterator") (n:="__next__") (by rw[typeLookup_type,builtinLookup_eq_fast];kernel_rfl) (by decide+kernel) (by decide+kernel) (by decide+kernel)
  (by first|exact .inl (by decide+kernel)|exact .inr (by decide+kernel)) (by rw[isSubtype_type];kernel_rfl)
theorem cQ:entryFor table "set_iterator.__next__"=some Builtin.«set_iterator.__next__»:=entryFor_of_fast (by kernel_rfl)
theorem dE (a:Value):argsOk "set_iterator.__next__" ⟨[a],[]⟩:=by unfold argsOk;kernel_rfl
theorem jK:Slot "set_iterator" "__iter__" "set_iterator.__iter__":=
 .of (owner:="set_iterator") (n:="__iter__") (by rw[typeLookup_type,builtinLookup_eq_fast];kernel_rfl) (by decide+kernel) (by decide+kernel) (by decide+kernel)
  (by first|exact .inl (by decide+kernel)|exact .inr (by decide+kernel)) (by rw[isSubtype_type];kernel_rfl)
theorem pK:entryFor table "set_iterator.__iter__"=some Builtin.«dict_keyiterator.__iter__»:=
 entryFor_alias (id':="dict_keyiterator.__iter__") (by kernel_rfl) rfl (by decide+kernel) (by kernel_rfl)
theorem tK (a:Value):argsOk "set_iterator.__iter__" ⟨[a],[]⟩:=by unfold argsOk;kernel_rfl
theorem oG:entryFor table "set.__iter__"=some Builtin.«frozenset.__iter__»:=
 entryFor_alias (id':="frozenset.__iter__") (by kernel_rfl) rfl (by decide+kernel) (by kernel_rfl)
noncomputable def cJ (h:Heap) (it:Addr) (first:Value) (i:Nat) (a:Addr) (n ep:Nat):Prop:=∃o,h.get? it=some o/\o.cls=.type "set_iterator"/\o.data=.fields #[first,.int i 0,.ref a,.int n 0,.int ep 0]
section
variable {prog:Program} {w:World} {A:Around} {E:Value->Shared->Prop} {s:Shared} {it a:Addr} {i n ep:Nat} {o:Obj} {es:Array (Int × Value)} {t:SetTable}
theorem cJ.type (h:cJ s.heap it first i a n ep):s.TypeIs (.ref it) "set_iterator":=by
 obtain ⟨o,ho,hc,_⟩:=h;exact ⟨o,ho,hc⟩
theorem sC (hit:cJ s.heap it first i a n ep) (h:Q (.ref it) s):wpAny (model prog w) A (pyIter (.ref it)) Q E s:=by
 refine wpAny_pyIter_slot hit.type jK (wpAny_call_entry jK hit.type pK ?_ (tK _));show wpAny _ _ (ret (.ref it)) _ _ s;exact wpAny_pure ⟨_,rfl,"set_iterator",_,hit.type,aT.lookup,h⟩
theorem uO {slot nx:Nat} (hit:cJ s.heap it (.int slot 0) i a n ep) (ho:s.heap.get? a=some o) (hd:o.data=.set es ep t) (hf:t.fits es.size=true) (hn:es.size=n)
  (hx:∀(A:Around) (E:Value->Shared->Prop) (Q':Option (Value × Nat)->Shared->Prop),Q' (some (x,nx)) s->wpAny (model prog w) A (setNext a slot i ep) Q' E s)
  (h:∀h',cJ h' it (.int nx 0) (i+1) a n ep->SameBut it s.heap h'->Q (some x) {s with heap:=h'}):wpAny (model prog w) A (pyNext (.ref it)) Q E s:=by
 obtain ⟨oi,hoi,hci,hdi⟩:=id hit;unfold pyNext;refine wpAny_bind (wpAny_attempt (wpAny_callSpecial?_slot (name:=Str.ofString "__next__") hit.type aT (wpAny_call_entry aT hit.type cQ ?_ (dE _))));show wpAny _ _ (fieldsOf (.ref it) >>=_) _ _ s;refine wpAny_bind (wpAny_fieldsOf hoi hdi ?_);show wpAny _ _ (setEntries a >>=_) _ _ s;refine wpAny_bind (wpAny_setEntries_of ho hd hf ?_);rw[if_neg (by simp [hn])];show wpAny _ _ (setNext a (toNat (slot:Nat)) (toNat (i:Nat)) (toNat (ep:Nat)) >>=_) _ _ s;rw[toNat_natCast,toNat_natCast,toNat_natCast];refine wpAny_bind (hx _ _ _ ?_);dsimp only;refine wpAny_bind (wpAny_setField hoi hdi (by simp) ?_);have g1:=get?_update_self (Obj.mapFields (·.setIfInBounds 0 (rawInt nx))) hoi (Obj.isFreed_of_fields (Obj.data_mapFields hdi _));have d1:=Obj.data_mapFields hdi (·.setIfInBounds 0 (rawInt nx));refine wpAny_bind (wpAny_setField g1 d1 (by simp) ?_);have g2:=get?_update_self (Obj.mapFields (·.setIfInBounds 1 (rawInt ((i:Int)+1)))) g1 (Obj.isFreed_of_fields (Obj.data_mapFields d1 _));have d2:=Obj.data_mapFields d1 (·.setIfInBounds 1 (rawInt ((i:Int)+1)));refine wpAny_pure ⟨x,rfl,wpAny_pure (h _ ⟨_,g2,(Obj.cls_mapFields ..).trans ((Obj.cls_mapFields ..).trans hci),?_⟩ ((SameBut.update ..).trans (SameBut.update ..)))⟩;rw[d2];simp [rawInt]
theorem GD {tp:Addr} {m p:Nat} {hx:Int} (hit:cJ s.heap it (.ref tp) i a n ep) (ho:s.heap.get? a=some o) (hd:o.data=.set es ep t) (hf:t.fits es.size=true) (hn:es.size=n)
  (hot:s.heap.get? tp=some ot) (hdt:ot.data=.seq ps m) (hp:ps[i]?=some (.int p u)) (he:es[p]?=some (hx,x))
  (h:∀h',cJ h' it (.ref tp) (i+1) a n ep->SameBut it s.heap h'->Q (some x) {s with heap:=h'}):wpAny (model prog w) A (pyNext (.ref it)) Q E s:=by
 obtain ⟨oi,hoi,hci,hdi⟩:=id hit;unfold pyNext;refine wpAny_bind (wpAny_attempt (wpAny_callSpecial?_slot (name:=Str.ofString "__next__") hit.type aT (wpAny_call_entry aT hit.type cQ ?_ (dE _))));show wpAny _ _ (fieldsOf (.ref it) >>=_) _ _ s;refine wpAny_bind (wpAny_fieldsOf hoi hdi ?_);show wpAny _ _ (setEntries a >>=_) _ _ s;refine wpAny_bind (wpAny_setEntries_of ho hd hf ?_);rw[if_neg (by simp [hn])];show wpAny _ _ (seqItems? (.ref tp) >>=_) _ _ s;refine wpAny_bind (wpAny_seqItems hot hdt ?_);dsimp only;rw[toNat_natCast,hp];dsimp only;rw[toNat_natCast,toNat_natCast];unfold setNextDrawn;refine wpAny_bind (wpAny_bind (wpAny_setState_of ho hd hf ?_));dsimp only;rw[if_neg (by simp)];rw[he];refine wpAny_pure ?_;refine wpAny_bind (wpAny_setField hoi hdi (by simp) ?_);have g2:=get?_update_self (Obj.mapFields (·.setIfInBounds 1 (rawInt ((i:Int)+1)))) hoi (Obj.isFreed_of_fields (Obj.data_mapFields hdi _));have d2:=Obj.data_mapFields hdi (·.setIfInBounds 1 (rawInt ((i:Int)+1)));refine wpAny_pure ⟨x,rfl,wpAny_pure (h _ ⟨_,g2,(Obj.cls_mapFields ..).trans hci,?_⟩ (SameBut.update ..))⟩;rw[d2];simp [rawInt]
theorem zY {slot:Nat} (hh:A.handled=none) (hit:cJ s.heap it (.int slot 0) i a n ep) (ho:s.heap.get? a=some o) (hd:o.data=.set es ep t) (hf:t.fits es.size=true) (hn:es.size=n)
  (hx:∀(A:Around) (E:Value->Shared->Prop) (Q':Option (Value × Nat)->Shared->Prop),Q' none s->wpAny (model prog w) A (setNext a slot i ep) Q' E s)
  (h:∀h',ExtBut it s.heap h'->Q none {s with heap:=h'}):wpAny (model prog w) A (pyNext (.ref it)) Q E s:=by
 obtain ⟨oi,hoi,hci,hdi⟩:=id hit;unfold pyNext;refine wpAny_bind (wpAny_attempt (wpAny_callSpecial?_slot (name:=Str.ofString "__next__") hit.type aT (wpAny_call_entry aT hit.type cQ ?_ (dE _))));show wpAny _ _ (fieldsOf (.ref it) >>=_) _ _ s;refine wpAny_bind (wpAny_fieldsOf hoi hdi ?_);show wpAny _ _ (setEntries a >>=_) _ _ s;refine wpAny_bind (wpAny_setEntries_of ho hd hf ?_);rw[if_neg (by simp [hn])];show wpAny _ _ (setNext a (toNat (slot:Nat)) (toNat (i:Nat)) (toNat (ep:Nat)) >>=_) _ _ s;rw[toNat_natCast,toNat_natCast,toNat_natCast];refine wpAny_bind (hx _ _ _ ?_);dsimp only;refine wpAny_bind (wpAny_setField hoi hdi (by simp) ?_);show wpAny _ _ (newExc (.type "StopIteration") [] >>=_) _ _ _;refine wpAny_bind ?_;simp only [newExc,newTuple];refine wpAny_bind (wpAny_newObj_type ?_ (by size_fits));refine wpAny_bind (m:=firstArgMember _ _) (wpAny_of_eq (a:=Value.none) (by first|rfl|(simp only [firstArgMember];rfl)) ?_);refine wpAny_newObj_type ?_ (by size_fits);simp only [raiseNew];refine wpAny_bind (wpAny_handled ?_)
 first|rw[show A.in1.handled=none from hh]|rw[hh]
 refine wpAny_bind (wpAny_pure (wpAny_throw ?_));refine wpAny_bind (wpAny_isInstance (T:="StopIteration") (b:=true) ⟨_,get?_push_size _ rfl,rfl⟩ isSubtype_stop ?_);exact wpAny_pure (h _ (((SameBut.update ..).extBut.push _).push _))
theorem MQ {tp:Addr} (hh:A.handled=none) (hit:cJ s.heap it (.ref tp) i a n ep) (ho:s.heap.get? a=some o) (hd:o.data=.set es ep t) (hf:t.fits es.size=true) (hn:es.size=n)
  (hot:s.heap.get? tp=some ot) (hdt:ot.data=.seq ps m) (hp:ps[i]?=none)
  (h:∀h',ExtBut it s.heap h'->Q none {s with heap:=h'}):wpAny (model prog w) A (pyNext (.ref it)) Q E s:=by
 obtain ⟨oi,hoi,hci,hdi⟩:=id hit;unfold pyNext;refine wpAny_bind (wpAny_attempt (wpAny_callSpecial?_slot (name:=Str.ofString "__next__") hit.type aT (wpAny_call_entry aT hit.type cQ ?_ (dE _))));show wpAny _ _ (fieldsOf (.ref it) >>=_) _ _ s;refine wpAny_bind (wpAny_fieldsOf hoi hdi ?_);show wpAny _ _ (setEntries a >>=_) _ _ s;refine wpAny_bind (wpAny_setEntries_of ho hd hf ?_);rw[if_neg (by simp [hn])];show wpAny _ _ (seqItems? (.ref tp) >>=_) _ _ s;refine wpAny_bind (wpAny_seqItems hot hdt ?_);dsimp only;rw[toNat_natCast,hp];dsimp only;refine wpAny_bind (wpAny_setField hoi hdi (by simp) ?_);have g1:=get?_update_self (Obj.mapFields (·.setIfInBounds 0 (rawInt 0))) hoi (Obj.isFreed_of_fields (Obj.data_mapFields hdi _));have d1:=Obj.data_mapFields hdi (·.setIfInBounds 0 (rawInt 0));refine wpAny_bind (wpAny_setField g1 d1 (by simp) ?_);show wpAny _ _ (newExc (.type "StopIteration") [] >>=_) _ _ _;refine wpAny_bind ?_;simp only [newExc,newTuple];refine wpAny_bind (wpAny_newObj_type ?_ (by size_fits));refine wpAny_bind (m:=firstArgMember _ _) (wpAny_of_eq (a:=Value.none) (by first|rfl|(simp only [firstArgMember];rfl)) ?_);refine wpAny_newObj_type ?_ (by size_fits);simp only [raiseNew];refine wpAny_bind (wpAny_handled ?_)
 first|rw[show A.in1.handled=none from hh]|rw[hh]
 refine wpAny_bind (wpAny_pure (wpAny_throw ?_));refine wpAny_bind (wpAny_isInstance (T:="StopIteration") (b:=true) ⟨_,get?_push_size _ rfl,rfl⟩ isSubtype_stop ?_);exact wpAny_pure (h _ ((((SameBut.update ..).trans (SameBut.update ..)).extBut.push _).push _))
end
section
variable {prog:Program} {w:World} {A:Around} {E:Value->Shared->Prop} {s:Shared}
theorem zI (hn:n≠0) (h:∀i d,i<n->Q i {s with drawn:=d}):wpAny (model prog w) A (choose src n) Q E s:=λΓ p hΓ=>by
 unfold choose;rw[Sem.wp_choose];exact ⟨hn,h _ _ (Nat.mod_lt _ (Nat.pos_of_ne_zero hn))⟩
theorem iV:∀{l:List α} {i:Nat} (h:i<l.length),List.Perm (l[i]::l.eraseIdx i) l
 |_::_,0,_=>List.Perm.refl _
 |x::l,i+1,h=>(List.Perm.swap ..).trans ((iV (l:=l) (i:=i) (by simpa using h)).cons x)
theorem qR:∀(n:Nat) (xs:List α) (s:Shared) (Q:List α->Shared->Prop),xs.length=n->(∀ys d,List.Perm ys xs->Q ys {s with drawn:=d})->wpAny (model prog w) A (drawOrder n xs) Q E s
 |0,xs,s,Q,hl,h=>by
  have e:xs=[]:=List.eq_nil_of_length_eq_zero hl;subst e;exact wpAny_pure (h [] s.drawn (List.Perm.refl _))
 |n+1,[],s,Q,hl,h=>nomatch hl
 |n+1,x::xs,s,Q,hl,h=>by
  unfold drawOrder;refine wpAny_bind (zI (by simp) λi d hi=>?_);rw[List.getElem?_eq_getElem hi];dsimp only;refine wpAny_bind (qR n _ _ _ (by rw[List.length_eraseIdx_of_lt hi];simpa using hl) λys d' hp=>?_);exact wpAny_pure (h _ d' ((List.Perm.cons _ hp).trans (iV hi)))
theorem AI (next:Nat->Nat):∀(f k:Nat) (left:List α) (out:Array α),left.length=f->List.Perm (pickOrder.go next f k left out).toList (out.toList++left)
 |0,k,left,out,hl=>by
  have e:left=[]:=List.eq_nil_of_length_eq_zero hl;subst e;unfold pickOrder.go;rw[append_nil]
 |f+1,k,left,out,hl=>by
  unfold pickOrder.go;have hi:next k % left.length<left.length:=Nat.mod_lt _ (by lia);rw[List.getElem?_eq_getElem hi];dsimp only;refine (AI next f (k+1) _ _ (by rw[List.length_eraseIdx_of_lt hi];lia)).trans ?_;rw[toList_push,List.append_assoc];exact (List.Perm.refl _).append (iV hi)
theorem kT (next:Nat->Nat) (xs:Array α):List.Perm (pickOrder next xs).toList xs.toList:=by
 unfold pickOrder;exact AI next _ _ _ _ (by simp)
variable {a:Addr} {o:Obj} {es:Array (Int × Value)} {ep:Nat} {t:SetTable}
theorem iD (h:Q (tT w) s):wpAny (model prog w) A setsByText Q E s:=by
 unfold setsByText;exact wpAny_bind (wpAny_askSetting (wpAny_pure h))
theorem uT (ho:s.heap.get? a=some o) (hd:o.data=.set es ep t) (hf:t.fits es.size=true) (h:Q (!tT w&&(!t.plain&&decide (es.size>1))) s):wpAny (model prog w) A (setDrawn a) Q E s:=by
 unfold setDrawn;refine wpAny_bind (wpAny_setState_of ho hd hf ?_);dsimp only;refine wpAny_bind (iD ?_);exact wpAny_pure h
theorem jN (bt:tT w=true) (ho:s.heap.get? a=some o) (hd:o.data=.set es ep t) (hf:t.fits es.size=true)
  (h:Q (((pickOrder (w.params.setOrder a ep) es)[i]?).map λe=>(e.2,slot)) s):wpAny (model prog w) A (setNext a slot i ep) Q E s:=by
 unfold setNext;refine wpAny_bind (wpAny_setState_of ho hd hf ?_);dsimp only;refine wpAny_bind (iD ?_);rw[bt];simp only [↓reduceIte,bne_self_eq_false,false_eq_true];refine wpAny_bind ?_;unfold setWalk;refine wpAny_bind (wpAny_setState_of ho hd hf ?_);dsimp only;refine wpAny_bind (iD ?_);rw[bt];simp only [↓reduceIte];exact wpAny_bind (wpAny_askSetting (wpAny_pure (wpAny_pure h)))
theorem jO (bt:tT w=false) (h1:es.size<=1) (hl:t.led=true) (ho:s.heap.get? a=some o) (hd:o.data=.set es ep t) (hf:t.fits es.size=true)
  (h:Q (match es[SetTable.below t.place slot]?,t.place[SetTable.below t.place slot]? with
   |some (_,x),some j=>some (x,j+1)
   |_,_=>none) s):wpAny (model prog w) A (setNext a slot i ep) Q E s:=by
 obtain ⟨mk,pl,dm,fg,ld,mv,pn⟩:=t;cases hl;have hz:decide (es.size>1)=false:=decide_eq_false (by lia);unfold setNext;refine wpAny_bind (wpAny_setState_of ho hd hf ?_);dsimp only;refine wpAny_bind (iD ?_);rw[bt];simp only [false_eq_true,↓reduceIte];split
 ·rename_i hc;have hc':(!pn&&decide (es.size>1))=true:=hc;rw[hz,Bool.and_false] at hc';cases hc'
 ·exact wpAny_bind (wpAny_of_eq (a:=()) rfl (wpAny_pure h))
end
section
variable {prog:Program} {w:World} {A:Around} {I a:Addr} {o:Obj} {es:Array (Int × Value)} {ep:Nat} {t:SetTable}
theorem cJ.keep (hI:cJ h it first i a n ep) (k:∀o,h.get? it=some o->h'.get? it=some o):cJ h' it first i a n ep:=by
 obtain ⟨o,ho,r⟩:=hI;exact ⟨o,k o ho,r⟩
theorem BY (bt:tT w=true) (hh:A.handled=none) (hne:a≠I) (hd:o.data=.set es ep t) (hf:t.fits es.size=true):
  Walks prog w A I [I,a] [I] es.size (λi v=>((pickOrder (w.params.setOrder a ep) es).toList.map (·.2))[i]?=some v) (λi h=>cJ h I (.int (0:Nat) 0) i a es.size ep/\h.get? a=some o) where
 sub:=λb hb=>by simp at hb;simp [hb]
 frame:=λ_ _ _ st hk=>⟨st.1.keep λo e=>hk I (by simp) o e,hk a (by simp) o st.2⟩
 item:=λi s Q E hi st hQ=>by
  have hl:(pickOrder (w.params.setOrder a ep) es).size=es.size:=by
   rw[<-length_toList,(kT _ es).length_eq,length_toList]
  have hi':i<(pickOrder (w.params.setOrder a ep) es).size:=by lia
  refine uO (x:=(pickOrder (w.params.setOrder a ep) es)[i].2) (nx:=0) st.1 st.2 hd hf rfl (λA' E' Q' q=>jN bt st.2 hd hf (by simpa [hi'] using q)) λh' hit' hs'=>?_;exact hQ _ h' s.toks (by simp [hi']) ⟨hit',by rw[hs'.2 a hne];exact st.2⟩ λb o hb e=>hs'.extBut b o (λh=>hb (by simp [h])) e
 done:=λs Q E st hQ=>by
  have hl:(pickOrder (w.params.setOrder a ep) es).size=es.size:=by
   rw[<-length_toList,(kT _ es).length_eq,length_toList]
  exact zY hh st.1 st.2 hd hf rfl (λA' E' Q' q=>jN bt st.2 hd hf (by rw[Array.getElem?_eq_none (by lia)];exact q)) λh' he'=>hQ h' s.toks λb o hb e=>he' b o (λh=>hb (by simp [h])) e
 self:=λi s Q E st hQ=>sC st.1 hQ
noncomputable def slotAt (t:SetTable):Nat->Nat
 |0=>0
 |_+1=>t.place.getD 0 0+1
theorem rA (j:Nat):SetTable.below #[j] 0=0/\SetTable.below #[j] (j+1)=1:=by
 constructor<;>simp [SetTable.below,SetTable.below.go]
theorem FE (bt:tT w=false) (h1:es.size<=1) (hl:t.led=true) (hh:A.handled=none) (hne:a≠I) (hd:o.data=.set es ep t) (hf:t.fits es.size=true):
  Walks prog w A I [I,a] [I] es.size (λi v=>(es.toList.map (·.2))[i]?=some v) (λi h=>cJ h I (.int (slotAt t i:Nat) 0) i a es.size ep/\h.get? a=some o) where
 sub:=λb hb=>by simp at hb;simp [hb]
 frame:=λ_ _ _ st hk=>⟨st.1.keep λo e=>hk I (by simp) o e,hk a (by simp) o st.2⟩
 item:=λi s Q E hi st hQ=>by
  have i0:i=0:=by lia
  subst i0;have hpl:t.place.size=es.size:=by
   simp only [SetTable.fits,and_eq_true,beq_iff_eq] at hf;exact hf.1
  obtain ⟨j,hj⟩:∃j,t.place=#[j]:=size_eq_one_iff.mp (by lia);obtain ⟨e,he⟩:∃e,es=#[e]:=size_eq_one_iff.mp (by lia);refine uO (x:=e.2) (nx:=j+1) st.1 st.2 hd hf rfl (λA' E' Q' q=>jO bt h1 hl st.2 hd hf (by
   show Q' (match es[SetTable.below t.place 0]?,t.place[SetTable.below t.place 0]? with
    |some (_,x),some j=>some (x,j+1)
    |_,_=>none) s
   rw[hj,(rA j).1,he]
   exact q)) λh' hit' hs'=>?_
  refine hQ _ h' s.toks (by simp [he]) ⟨?_,by rw[hs'.2 a hne];exact st.2⟩ λb o hb e=>hs'.extBut b o (λh=>hb (by simp [h])) e;have:slotAt t (0+1)=j+1:=by unfold slotAt;rw[hj];rfl
  rw[this];exact hit'
 done:=λs Q E st hQ=>by
  have hpl:t.place.size=es.size:=by
   simp only [SetTable.fits,and_eq_true,beq_iff_eq] at hf;exact hf.1
  refine zY hh st.1 st.2 hd hf rfl (λA' E' Q' q=>jO bt h1 hl st.2 hd hf ?_) λh' he'=>hQ h' s.toks λb o hb e=>he' b o (λh=>hb (by simp [h])) e;by_cases h0:es.size=0
  ·rw[Array.getElem?_eq_none (show es.size<=_ by lia)];exact q
  ·obtain ⟨j,hj⟩:∃j,t.place=#[j]:=size_eq_one_iff.mp (by lia);obtain ⟨e,he⟩:∃e,es=#[e]:=size_eq_one_iff.mp (by lia);have:slotAt t es.size=j+1:=by rw[he];unfold slotAt;rw[hj];rfl
   rw[this,hj,(rA j).2,he];exact q
 self:=λi s Q E st hQ=>sC st.1 hQ
theorem JQ {α β:Type} {f:α->Option β} {d:β}:∀(l:List α),(∀x∈l,(f x).isSome=true)->l.filterMap f=l.map λx=>(f x).getD d
 |[],_=>rfl
 |x::l,h=>by
  obtain ⟨y,hy⟩:=Option.isSome_iff_exists.mp (h x mem_cons_self);rw[List.filterMap_cons_some hy,map_cons,JQ l λz hz=>h z (mem_cons_of_mem _ hz),hy];rfl
theorem xI {tp:Addr} (hh:A.handled=none) (hne:a≠I) (hnt:tp≠I) (hd:o.data=.set es ep t) (hf:t.fits es.size=true) (hdt:ot.data=.seq (ord.map λ(i:Nat)=>rawInt i).toArray m) (hp:List.Perm ord (range es.size)):
  Walks prog w A I [I,a,tp] [I] es.size (λi v=>(ord.filterMap λp=>es[p]?.map (·.2))[i]?=some v) (λi h=>cJ h I (.ref tp) i a es.size ep/\h.get? a=some o/\h.get? tp=some ot) where
 sub:=λb hb=>by simp at hb;simp [hb]
 frame:=λ_ _ _ st hk=>⟨st.1.keep λo e=>hk I (by simp) o e,hk a (by simp) o st.2.1,hk tp (by simp) ot st.2.2⟩
 item:=λi s Q E hi st hQ=>by
  have hl:ord.length=es.size:=by rw[hp.length_eq,length_range]
  have hlt:∀p∈ord,p<es.size:=λp hp'=>mem_range.mp (hp.mem_iff.mp hp');have hi':i<ord.length:=by lia
  have hpi:=hlt _ (getElem_mem hi');have hfm:ord.filterMap (λp=>es[p]?.map (·.2))=ord.map λp=>(es[p]?.map (·.2)).getD .none:=JQ _ λp hp'=>by simp [hlt p hp']
  refine GD (x:=es[ord[i]].2) (hx:=es[ord[i]].1) (p:=ord[i]) (u:=0) st.1 st.2.1 hd hf rfl st.2.2 hdt (by simp [hi',rawInt]) (by simp [hpi]) λh' hit' hs'=>?_;exact hQ _ h' s.toks (by rw[hfm];simp [hi',hpi]) ⟨hit',by rw[hs'.2 a hne];exact st.2.1,by rw[hs'.2 tp hnt];exact st.2.2⟩ λb o hb e=>hs'.extBut b o (λh=>hb (by simp [h])) e
 done:=λs Q E st hQ=>by
  have hl:ord.length=es.size:=by rw[hp.length_eq,length_range]
  exact MQ hh st.1 st.2.1 hd hf rfl st.2.2 hdt (by simp [hl]) λh' he'=>hQ h' s.toks λb o hb e=>he' b o (λh=>hb (by simp [h])) e
 self:=λi s Q E st hQ=>sC st.1 hQ
end
section
variable {prog:Program} {w:World} {A:Around} {E:Value->Shared->Prop} {s:Shared}
theorem fY (hel:ElemsOf (PySem.strKind prog w) es.toList) (hp:List.Perm ys (es.toList.map (·.2))):ys.length=(cA es).length/\StrsAre ys (ys.map PyProof.Rows.strOf)/\List.Perm (ys.map PyProof.Rows.strOf) (cA es):=by
 refine ⟨by rw[hp.length_eq];unfold cA;rw[length_map,length_map],strsAre_map ys λv hv=>?_,?_⟩
 ·obtain ⟨e,he,rfl⟩:=mem_map.mp (hp.mem_iff.mp hv);obtain ⟨⟨k,hk,_⟩,_⟩:=hel e he;obtain ⟨u,hu⟩:=Value.isStrOf_shape hk;exact ⟨k,u,hu⟩
 ·have:=hp.map PyProof.Rows.strOf;rw[map_map] at this;exact this
theorem CL (hS:dX prog w (tT w) s.heap a zs)
  (h:∀(I:Addr) (s':Shared) (fp:List Addr) (ys:List Value) (St:Nat->Heap->Prop),(∀A':Around,A'.handled=none->Walks prog w A' I fp [I] zs.length (λi v=>ys[i]?=some v) St)->St 0 s'.heap->
   (∀b o,s.heap.get? b=some o->s'.heap.get? b=some o)->s.heap.objs.size<=I->(∀b∈fp,b=a\/s.heap.objs.size<=b)->ys.length=zs.length->StrsAre ys (ys.map PyProof.Rows.strOf)->List.Perm (ys.map PyProof.Rows.strOf) zs->
   s'.gens=s.gens->s'.os=s.os->s'.toks=s.toks->Q (.ref I) s'):
  wpAny (model prog w) A (pyIter (.ref a)) Q E s:=by
 obtain ⟨o,es,ep,t,ho,hex,hd,hel,rfl,nd,hb,hf,hl,hp⟩:=hS;have hT:s.TypeIs (.ref a) "set":=⟨o,ho,hex.1⟩;have hlen:(cA es).length=es.size:=by unfold cA;rw[length_map,length_toList]
 have alt:a<s.heap.objs.size:=lt_size ho;refine wpAny_pyIter_slot hT PySem.F.slot_set_iter (wpAny_call_entry PySem.F.slot_set_iter hT oG ?_ (PySem.F.args_set_iter_1 _));unfold Builtin.«frozenset.__iter__» Builtin.Frozenset.slot0 slotArgs;simp only [List.isEmpty_nil,Bool.not_true,false_eq_true,↓reduceIte,bind_assoc,length_nil,bne_self_eq_false];unfold Builtin.Frozenset.addrOf Builtin.Frozenset.sizeOf;refine wpAny_bind (wpAny_pure ?_)
 try dsimp only
 refine wpAny_bind (wpAny_pure ?_);refine wpAny_bind (wpAny_bind (wpAny_setEntries_of ho hd hf (wpAny_pure ?_)));refine wpAny_bind (uT ho hd hf ?_);split
 ·refine wpAny_bind (qR es.size (range es.size) s _ length_range λord d hpo=>?_);have hol:ord.length=es.size:=by rw[hpo.length_eq,length_range]
  refine wpAny_bind (wpAny_newTuple ?_ (by rw[length_map,hol];exact fits_of_scanBound hb));refine wpAny_bind (wpAny_setEpoch_of (get?_push_of_some _ ho) hd hf ?_);refine wpAny_bind (wpAny_newObj_type ?_);refine wpAny_pure ⟨_,rfl,"set_iterator",_,⟨_,get?_push_size _ rfl,rfl⟩,aT.lookup,?_⟩;have pm:List.Perm (ord.filterMap λp=>es[p]?.map (·.2)) (es.toList.map (·.2)):=by
   have z:=hpo.filterMap λp=>es[p]?.map (·.2);rw[<-List.map_filterMap,<-List.map_filterMap,filterMap_getElem?_range] at z;rwa [<-List.map_filterMap]
  obtain ⟨q1,q2,q3⟩:=fY hel pm;refine h (s.heap.push ({cls:=.type "tuple",data:=.seq (ord.map λ(i:Nat)=>rawInt i).toArray}:Obj)).objs.size _ [(s.heap.push ({cls:=.type "tuple",data:=.seq (ord.map λ(i:Nat)=>rawInt i).toArray}:Obj)).objs.size,a,s.heap.objs.size] _ (λi h=>cJ h (s.heap.push ({cls:=.type "tuple",data:=.seq (ord.map λ(i:Nat)=>rawInt i).toArray}:Obj)).objs.size (.ref s.heap.objs.size) i a es.size ep/\h.get? a=some o/\h.get? s.heap.objs.size=some ({cls:=.type "tuple",data:=.seq (ord.map λ(i:Nat)=>rawInt i).toArray}:Obj)) (λA' hh'=>?_) ⟨⟨_,get?_push_size _ rfl,rfl,rfl⟩,get?_push_of_some _ (get?_push_of_some _ ho),get?_push_of_some _ (get?_push_size _ rfl)⟩ (λb o e=>get?_push_of_some _ (get?_push_of_some _ e)) ?_ (λb hb'=>?_) q1 q2 q3 rfl rfl rfl
  ·rw[hlen];exact xI hh' (by rw[Heap.size_push];exact ne_of_lt (lt_succ_of_lt alt)) (by rw[Heap.size_push];exact ne_of_lt (lt_succ_self _)) hd hf rfl hpo
  ·rw[Heap.size_push];exact le_succ _
  ·rcases mem_cons.mp hb' with rfl|hb'
   ·exact .inr (by rw[Heap.size_push];exact le_succ _)
   ·rcases mem_cons.mp hb' with rfl|hb'
    ·exact .inl rfl
    ·rw[mem_singleton.mp hb'];exact .inr (Nat.le_refl _)
 ·rename_i hc;refine wpAny_bind (wpAny_pure ?_);refine wpAny_bind (wpAny_setEpoch_of ho hd hf ?_);refine wpAny_bind (wpAny_newObj_type ?_);refine wpAny_pure ⟨_,rfl,"set_iterator",_,⟨_,get?_push_size _ rfl,rfl⟩,aT.lookup,?_⟩;have fps:∀b∈[s.heap.objs.size,a],b=a\/s.heap.objs.size<=b:=λb hb'=>by
   rcases mem_cons.mp hb' with rfl|hb'
   ·exact .inr (Nat.le_refl _)
   ·exact .inl (mem_singleton.mp hb')
  cases bt:tT w with
  |true=>
   obtain ⟨q1,q2,q3⟩:=fY hel ((kT (w.params.setOrder a ep) es).map (·.2));refine h s.heap.objs.size _ [s.heap.objs.size,a] _ (λi h=>cJ h s.heap.objs.size (.int (0:Nat) 0) i a es.size ep/\h.get? a=some o) (λA' hh'=>?_) ⟨⟨_,get?_push_size _ rfl,rfl,rfl⟩,get?_push_of_some _ ho⟩ (λb o e=>get?_push_of_some _ e) (Nat.le_refl _) fps q1 q2 q3 rfl rfl rfl;rw[hlen];exact BY bt hh' (ne_of_lt alt) hd hf
  |false=>
   have h1:es.size<=1:=by
    rw[bt] at hc;by_cases z:es.size<=1
    ·exact z
    ·rw[hp (by lia),decide_eq_true (show es.size>1 by lia)] at hc;exact absurd rfl hc
   obtain ⟨q1,q2,q3⟩:=fY hel (List.Perm.refl _);refine h s.heap.objs.size _ [s.heap.objs.size,a] _ (λi h=>cJ h s.heap.objs.size (.int (slotAt t i:Nat) 0) i a es.size ep/\h.get? a=some o) (λA' hh'=>?_) ⟨⟨_,get?_push_size _ rfl,rfl,rfl⟩,get?_push_of_some _ ho⟩ (λb o e=>get?_push_of_some _ e) (Nat.le_refl _) fps q1 q2 q3 rfl rfl rfl;rw[hlen];exact FE bt h1 (by rw[hl,bt];rfl) hh' (ne_of_lt alt) hd hf
theorem GF (hT:s.TypeIs (.ref a) "set") (h:Q false s):wpAny (model prog w) A (Builtin.List.listLengthHint (.ref a)) Q E s:=by
 unfold Builtin.List.listLengthHint;refine wpAny_bind (wpAny_specialOf hT PySem.F.slot_set_len.lookup ?_);generalize hid:("set.__len__":String)=id0
 wp_delta
 rw[show splitId id0=some ("set","__len__") from by subst hid;decide+kernel];subst hid;refine wpAny_bind (wpAny_isInstance (b:=true) hT (by rw[isSubtype_type];kernel_rfl) ?_);refine wpAny_ite_split (λz=>absurd z (by decide)) (λ_=>?_);refine wpAny_ite_split (λ_=>?_) (λz=>absurd (by decide+kernel) z);exact wpAny_bind (wpAny_typeOf hT (wpAny_pure h))
theorem dX.type {bt:Bool} (hS:dX prog w bt s.heap a zs):s.TypeIs (.ref a) "set":=by
 obtain ⟨o,_,_,_,ho,hex,_⟩:=hS;exact ⟨o,ho,hex.1⟩
theorem sF (hh:A.handled=none) (hS:dX prog w (tT w) s.heap a zs) (hn:zs.length<=sizeLine)
  (h:∀(s':Shared) (ys:List Value),(∀b o,s.heap.get? b=some o->s'.heap.get? b=some o)->s.heap.objs.size<=s'.heap.objs.size->StrsAre ys (ys.map PyProof.Rows.strOf)->List.Perm (ys.map PyProof.Rows.strOf) zs->s'.gens=s.gens->s'.os=s.os->Q ys s'):
  wpAny (model prog w) A (collect (.ref a)) Q E s:=by
 have alt:a<s.heap.objs.size:=by
  obtain ⟨o,_,_,_,ho,_⟩:=hS;exact lt_size ho
 unfold collect;refine wpAny_bind (wpAny_runValue (codeAny_builtin entry_proto_collect' ?_));rw[Around.under_plainId PySem.F.plain_proto_collect _];show wpAny _ A.in1 (newList [] >>=λl=>again (.builtin "list.__iadd__" ⟨[l,.ref a],[]⟩)) _ _ s;refine wpAny_bind (wpAny_newObj_type ?_);refine wpAny_pure ⟨plainId_quiet PySem.F.plain_list_iadd _,codeAny_builtin entry_list_iadd' ?_⟩;rw[Around.under_plainId PySem.F.plain_list_iadd _];have g1:(s.heap.push {cls:=.type "list",data:=.seq ([]:List Value).toArray}).get? s.heap.objs.size=some {cls:=.type "list",data:=.seq #[]}:=get?_push_size _ rfl;have hS1:dX prog w (tT w) (s.heap.push {cls:=.type "list",data:=.seq ([]:List Value).toArray}) a zs:=hS.keep λo e=>get?_push_of_some _ e;show wpAny _ A.in1 (Builtin.List.listExtendWith (.ref s.heap.objs.size) (.ref a) (.ref s.heap.objs.size)) _ _ _;unfold Builtin.List.listExtendWith;refine wpAny_bind (wpAny_typeOf (T:="set") hS1.type ?_);have n1:Builtin.List.listSameRef (.ref s.heap.objs.size) (.ref a)=false:=by simp [Builtin.List.listSameRef,ne_of_gt alt]
 have n2:(Value.type "set"==Value.type "list")=false:=by decide
 have n3:(Value.type "set"==Value.type "tuple")=false:=by decide
 simp only [n1,n2,n3,Bool.or_false,false_eq_true,if_false];refine wpAny_bind (CL (s:={s with heap:=s.heap.push {cls:=.type "list",data:=.seq ([]:List Value).toArray}}) hS1 λI s2 fp ys St W st kp hI hfp q1 q2 q3 eg eo et=>?_);have g2:=kp _ _ g1;have hI1:s.heap.objs.size<I:=by
  have:(s.heap.push {cls:=.type "list",data:=.seq ([]:List Value).toArray}).objs.size<=I:=hI;rw[Heap.size_push] at this;exact this
 have hSf:s.heap.objs.size∉fp:=λz=>by
  rcases hfp _ z with e|e
  ·exact absurd e (ne_of_gt alt)
  ·have e':(s.heap.push {cls:=.type "list",data:=.seq ([]:List Value).toArray}).objs.size<=s.heap.objs.size:=e;rw[Heap.size_push] at e';exact absurd e' (Nat.not_le.mpr (lt_succ_self _))
 have hh2:A.in1.handled=none:=by simp [hh]
 have key:∀(h:Heap) (c:Nat),St 0 h->(∀b o,b≠s.heap.objs.size->s2.heap.get? b=some o->h.get? b=some o)->h.get? s.heap.objs.size=some {cls:=.type "list",data:=.seq #[] c}->
   codeAny (model prog w) A (.builtin "list.extend.loop" ⟨[.ref s.heap.objs.size,.ref I,.ref s.heap.objs.size],[]⟩) (λr s'=>match r with
    | .ok (.ret v)=>wpAny (model prog w) A (match v with
     | .ref a=>do
      let o <-load a
      match o.data with
      | .seq xs _=>pure xs.toList
      |_=>unsupported "internal:collect"
     |_=>unsupported "internal:collect") Q E s'
    | .ok _=>False
    | .error e=>E e s') {s2 with heap:=h}:=λh3 c st3 k3 g3=>by
  refine codeAny_extend_loopS ((W _ hh2).toS) hn s.heap.objs.size hSf (.ref s.heap.objs.size) zs.length 0 _ #[] c rfl (zero_le _) st3 g3 (ItemsOf.nil _) λs4 acc c4 mv g4 ac=>?_;dsimp only;refine wpAny_bind (wpAny_load g4 ?_);dsimp only;have ea:acc.toList=ys:=by
   refine ext_getElem? λj=>?_;by_cases hj:j<acc.size
   ·have z:=ac.2 j acc[j] (by simp [hj]);rw[z];simp [hj]
   ·have e1:acc.size=zs.length:=ac.1;rw[List.getElem?_eq_none (by simpa using hj),List.getElem?_eq_none (by lia)]
  rw[ea];refine wpAny_pure (h s4 ys (λb o e=>?_) (le_of_lt (lt_size g4)) q2 q3 (mv.gens.trans eg) (mv.os.trans eo));have b1:=lt_size e;refine mv.heap b o (by simp only [mem_cons,not_mem_nil,or_false,not_or];exact ⟨ne_of_lt b1,ne_of_lt (Nat.lt_trans b1 hI1)⟩) (k3 b o (ne_of_lt b1) (kp b o (get?_push_of_some _ e)))
 refine wpAny_bind (wpAny_holding (GF (dX.type (hS1.keep λo e=>kp _ _ e)) ?_));refine wpAny_ite_split (λ_=>?_) (λ_=>wpAny_pure ⟨plainId_quiet PySem.F.plain_extend_loop _,key _ _ st (λb o _ e=>e) g2⟩);refine wpAny_bind (wpAny_rule ?_);refine wpAny_bind ?_;show wpAny _ _ (updateSeq s.heap.objs.size (·.push .none) >>=λ_=>updateSeq s.heap.objs.size (·.pop)) _ _ _;refine wpAny_bind (wpAny_updateSeq g2 rfl ?_);have g5:=get?_update_self (Obj.mapSeq (·.push Value.none)) g2 rfl;refine wpAny_updateSeq (hz:=by seq_fits) g5 rfl ?_;have g6:=get?_update_self (Obj.mapSeq (·.pop)) g5 rfl;have oth:∀b o,b≠s.heap.objs.size->s2.heap.get? b=some o->((s2.heap.update s.heap.objs.size (Obj.mapSeq (·.push Value.none))).update s.heap.objs.size (Obj.mapSeq (·.pop))).get? b=some o:=λb o hb e=>
  (get?_update_other _ _ (Ne.symm hb)).trans ((get?_update_other _ _ (Ne.symm hb)).trans e)
 exact wpAny_pure ⟨plainId_quiet PySem.F.plain_extend_loop _,key _ _ ((W _ hh2).frame 0 _ _ st λb hb o e=>oth b o (λz=>hSf (z▸hb)) e) oth g6⟩
end
end L2.Na
namespace So
open PySem PySem.Spec PyProof.Rows
section
variable {prog:Program} {w:World} {A:Around} {E:Value->Shared->Prop} {s:Shared}
theorem PJ (hO:o.OneLt):BW (model prog w) A E s oneType' (cK o) (λp=>∃a,o.keyOf p.1=some a):=by
 rintro ⟨p,p2⟩ ⟨q,q2⟩ st Q ⟨a,ha⟩ ⟨b,hb⟩ hk hQ;dsimp only at ha hb;have e:cK o (p,p2) (q,q2)=o.blt a b:=by
  unfold cK;dsimp only;rw[ha,hb];rfl
 rw[e] at hQ;rw[lt'_eq];refine wpS_bind (wpS_get ?_);rw[hk,keyLt'_oneType];refine wpS_bind (wpS_lift (wpAny_attempt (hO prog w A _ s p q a b ha hb ⟨rfl,?_⟩)));exact wpS_pure hQ
theorem pH (hO:o.OneLt) (ho:s.heap.get? a=some (seqObj "list" vs.toArray n))
  (h0:KeysOf o (pairsOf vs)) (hkk:∀af ag rest,vs=af::ag::rest->keyKind' (af::ag::rest).toArray=pure oneType') (hz:vs.length<=sizeLine)
  (h:∀st':SortSt,(arrOf st').Perm (pairsOf vs)->SortedToK o (arrOf st') (pairsOf vs).size->P (.done (.ret .none)) {s with heap:=sortedHeap s.heap a vs ((arrOf st').map (·.2))}):
  wpAny (model prog w) A (Builtin.«list.sort» ⟨[.ref a],[]⟩) P E s:=by
 by_cases h64:vs.length<64
 ·exact list_sort_treeK hO ho h0 hkk h64 h
 rw[list_sort_plain];have ha:a<s.heap.objs.size:=lt_size ho;refine wpAny_bind (listItems_at ho rfl ?_);refine wpAny_bind (listUpdate_at ho rfl ?_);obtain ⟨e1,ho1⟩:∃e1,(s.heap.update a (Obj.mapSeq λ_=>#[])).get? a=some (seqObj "list" #[] e1):=⟨_,get?_update_seq ho (λ_=>#[])⟩;refine wpAny_bind (seqEpoch_at ho1 rfl ?_);refine wpAny_bind (wpAny_newTuple ?_);refine wpAny_bind (wpAny_newList ?_);refine wpAny_holding ?_;have ho6:(((s.heap.update a (Obj.mapSeq λ_=>#[])).push (seqObj "tuple" vs.toArray 0)).push (seqObj "list" #[] 0)).get? a=some (seqObj "list" #[] e1):=by
  rw[get?_push_ne _ _ _ (by rw[size_push',size_update];exact ne_of_lt (lt_succ_of_lt ha)),get?_push_ne _ _ _ (by rw[size_update];exact ne_of_lt ha)];exact ho1
 show wpAny (model prog w) A _ P E {s with heap:=((s.heap.update a (Obj.mapSeq λ_=>#[])).push (seqObj "tuple" vs.toArray 0)).push (seqObj "list" #[] 0)};dsimp only;have hsz:vs.toArray.size=vs.length:=by simp
 have h2:¬vs.toArray.size<2:=by lia
 rw[if_neg h2,if_neg h2];obtain ⟨af,ag,rest,rfl⟩:∃af ag rest,vs=af::ag::rest:=by
  match vs,hsz,h2 with
  |[],_,h2=>simp at h2
  |[_],_,h2=>simp at h2
  |af::ag::rest,_,_=>exact ⟨af,ag,rest,rfl⟩
 rw[hkk _ _ _ rfl];refine wpAny_bind (wpAny_pure ?_);refine wpAny_bind (wpAny_mono (pP (PJ hO) (a₀:=pairsOf (af::ag::rest)) (st:=SortSt.mk' oneType' ((af::ag::rest).toArray.zip (af::ag::rest).toArray) #[] 7 none)
  (Q:=λ_ st'=>(arrOf st').Perm (pairsOf (af::ag::rest))/\failedOf st'=none/\eO o (arrOf st') 0 (pairsOf (af::ag::rest)).size)
  ⟨Array.Perm.refl _,rfl,rfl,rfl,λt ht=>nomatch ht⟩ h0 (by rw[pairsOf_size];simp) λst' a1 a2 a3=>⟨a1,a2,a3⟩) ?_ λ_ _ e=>e)
 rintro ⟨⟨⟩,st'⟩ s' ⟨rfl,hp,hf,hs⟩;dsimp only;refine wpAny_bind (seqEpoch_at ho6 rfl ?_);refine wpAny_bind (listUpdate_at ho6 rfl ?_ (hsz2:=Nat.le_trans (le_of_eq ((size_map ..).trans (hp.size_eq.trans (pairsOf_size _)))) (Nat.le_succ_of_le hz)));rw[hf];simp only [bne_self_eq_false,false_eq_true,if_false];exact wpAny_pure (h st' hp λi j hij hj=>hs i j (zero_le _) hij (by lia))
end
end So
namespace L2.Na
open PySem PySem.Spec PyProof.Rows
section
variable {prog:Program} {w:World} {A:Around} {E:Value->Shared->Prop} {s:Shared}
theorem sE (hh:A.handled=none) (hS:dX prog w (tT w) s.heap a zs) (hn:zs.length<=sizeLine)
  (h:∀(s':Shared) (D:Addr) (vs:List Value) (ss:List Str) (e:Nat),(∀b o,s.heap.get? b=some o->s'.heap.get? b=some o)->s.heap.objs.size<=D->s'.heap.get? D=some (seqObj "list" vs.toArray e)->StrsAre vs ss->List.Perm ss zs->sortedS ss=true->
   s'.gens=s.gens->s'.os=s.os->Q (.ref D) s'):wpAny (model prog w) A (call (.builtin "sorted") [.ref a]) Q E s:=by
 refine Calls.call_function_entry kind_sorted plain_sorted entry_sorted (args_sorted1 _) ?_;unfold Builtin.«sorted»;refine wpAny_bind (m:=checkCount "sorted" 1 1 _) (wpAny_pure ?_);refine wpAny_bind (sF (A:=A.in1) (by simp [hh]) hS hn λs1 ys k1 le q2 q3 eg eo=>?_);have hl:ys.length=zs.length:=by rw[<-q3.length_eq,length_map]
 refine wpAny_bind (wpAny_newList ?_ (by rw[hl];exact hn));have hoL:(s1.heap.push (seqObj "list" ys.toArray 0)).get? s1.heap.objs.size=some (seqObj "list" ys.toArray 0):=get?_push_size _ rfl;show wpAny _ _ _ _ _ {s1 with heap:=s1.heap.push (seqObj "list" ys.toArray 0)};refine wpAny_bind (wpAny_holding (wpAny_call_entry slot_list_sort ⟨_,hoL,rfl⟩ entry_list_sort (So.pH strKind_oneLt hoL q2.keysOf (λaf ag rest e=>keyKind_strs (by rw[<-e];exact q2)) (by lia) λst' a1 a2=>⟨_,rfl,?_⟩) (args_list_sort _)));obtain ⟨ss,b1,b2,b3⟩:=sorted_out_str q2 a1 a2;obtain ⟨e,he⟩:=sortedHeap_at (out:=(arrOf st').map (·.2)) hoL;refine wpAny_pure ⟨_,rfl,h _ s1.heap.objs.size ((arrOf st').map (·.2)).toList ss e (λb o z=>?_) le ?_ b1 (b2.trans q3) b3 eg eo⟩
 ·have lt:=lt_size (k1 b o z);show (sortedHeap _ _ _ _).get? b=some o;rw[sortedHeap_old (ne_of_lt lt) (by rw[Heap.size_push];exact lt_succ_of_lt lt)];exact get?_push_of_some _ (k1 b o z)
 ·rw[Array.toArray_toList];exact he
set_option maxHeartbeats 3200000 in
theorem yD {p:Addr} {its:Array Value} {ns:List Str} {Q:Value->Shared->Prop} (hh:A.handled=none) (hl:s.heap.IsList p its) (hlen:its.size=ns.length) (hat:∀(i:Nat) (v:Value) (hi:i<ns.length),its[i]?=some v->∃t,v=.str ns[i] t) (hb:its.size+1<scanBound)
  (h:∀(h':Heap) (tk:Nat) (l:List Str),dX prog w (tT w) h' s.heap.objs.size l->(∀c,c∈l↔c∈ns)->
   (∀b o,s.heap.get? b=some o->h'.get? b=some o)->Q (.ref s.heap.objs.size) {s with heap:=h',toks:=tk}):
  wpAny (model prog w) A (call (.type "set") [.ref p]) Q E s:=by
 obtain ⟨c,tl,hmro⟩:=PySem.F.called_set.mro;have hmade:=PySem.F.called_set.made;have hsub:=PySem.F.called_set.sub;refine wpAny_call (codeAny_of_tree ?_);show wpAny _ _ (callAny (.type "set") _) _ _ _;refine wpAny_pure ⟨Code.quiet_builtin _ (by decide+kernel),codeAny_builtin PySem.F.entry_type_call ?_⟩;rw[Around.under_plain (weight_type_call_type "set" [.ref p] []) rfl];have h1:=PySem.F.called_set.notType;have h2:=PySem.F.called_set.canCreate;have hct:=PySem.F.typeCall_set_1 (.ref p)
 repeat (any_goals (first|assumption|wp_step))
 refine codeAny_mono (EA (.ref p) (E:=E) (Q:=λob s1=>ob=.ref s.heap.objs.size/\s1={s with heap:=s.heap.push (cP w)}) ⟨rfl,rfl⟩) λr s1 hr=>?_;cases r with
 |error e=>exact hr
 |ok fl=>
  cases fl with
  |ret ob=>
   obtain ⟨rfl,rfl⟩:=hr;have hS:(s.heap.push (cP w)).get? s.heap.objs.size=some (cP w):=get?_push_size _ rfl;have hT:Shared.TypeIs {s with heap:=s.heap.push (cP w)} (.ref s.heap.objs.size) "set":=⟨_,hS,rfl⟩;have hli:=PySem.F.called_set.init.lookup;have hbi:=PySem.F.called_set.init.bind (.ref s.heap.objs.size)
   repeat (any_goals (first|assumption|wp_step))
   refine codeAny_mono (codeAny_call_builtin (R:=wants (λr s2=>r=.none/\∃h' tk l,s2={s with heap:=h',toks:=tk}/\dX prog w (tT w) h' s.heap.objs.size l/\(∀c,c∈l↔c∈ns)/\
     (∀b o,s.heap.get? b=some o->h'.get? b=some o)) E) PySem.F.called_set.init.plain PySem.F.entry_set_init (check_set_init_1 hT ?_)) λr2 s2 hr2=>?_
   ·obtain ⟨ol,hol,hcl,nl,hdl⟩:=hl;obtain ⟨ocls,odict,odata,oslots⟩:=ol;simp only at hcl hdl;subst hcl;subst hdl;have hol':(s.heap.push (cP w)).get? p=some {cls:=.type "list",dict:=odict,data:=.seq its nl,slots:=oslots}:=get?_push_of_some _ hol;have a1:=PySem.F.sub_list_set;have a2:=PySem.F.sub_list_frozenset;have a3:(Value.type "list"==Value.type "dict")=false:=by decide
    have hl1:(s.heap.push (cP w)).IsList p its:=⟨_,hol',rfl,nl,rfl⟩;have plt:p<s.heap.objs.size:=lt_size hol;unfold Builtin.«set.__init__» noKeywords Builtin.Frozenset.updateFrom;generalize hPI:pyIter=PI
    wp_walk
    subst hPI;refine wpAny_pyIter_list hl1 ?_;refine wpAny_bind (wpAny_runValue ?_);have hh3:A.in1.in1.in1.handled=none:=by simp [hh]
    have hneI:p≠(s.heap.push (cP w)).objs.size:=by rw[Heap.size_push];exact ne_of_lt (lt_succ_of_lt plt)
    have hSf:s.heap.objs.size∉[(s.heap.push (cP w)).objs.size,p]:=by
     rw[Heap.size_push];simp only [mem_cons,not_mem_nil,or_false,not_or];exact ⟨ne_of_lt (lt_succ_self _),ne_of_gt plt⟩
    have hval:∀(i:Nat) (v:Value),its[i]?=some v->∃t,v=.str ((λi=>ns.getD i ⟨#[]⟩) i) t:=λi v hv=>by
     have hi:i<its.size:=(Array.getElem?_eq_some_iff.mp hv).1;obtain ⟨t,e⟩:=hat i v (by lia) hv;have eg:ns.getD i ⟨#[]⟩=ns[i]:=by simp [getD_eq_getElem?_getD,show i<ns.length by lia]
     dsimp only;rw[eg];exact ⟨t,e⟩
    refine BZ (bt:=tT w) ((Walks.list hh3 _ p hneI its).toS) s.heap.objs.size hSf (λi=>ns.getD i ⟨#[]⟩) hval hb (its.size - 0) 0 _ [] (by lia) (zero_le _)
     ⟨⟨_,get?_push_size _ rfl,rfl,rfl⟩,(hl1.push _)⟩ (GH (get?_push_of_some _ hS)) (λc=>by simp) (Nat.le_refl _) λs' l mv hS' hm=>?_
    obtain ⟨h',g',d',tk',os'⟩:=s';have eg:g'=s.gens:=mv.gens;have ed:d'=s.drawn:=mv.drawn;have eo:os'=s.os:=mv.os;subst eg ed eo;show wpAny _ _ _ _ _ _;refine wpAny_pure ?_;show wpAny _ _ (ret Value.none) _ _ _;refine wpAny_pure ⟨rfl,h',tk',l,rfl,hS',λc=>?_,λb o e=>?_⟩
    ·rw[hm c];constructor
     ·rintro ⟨j,hj,rfl⟩;have:j<ns.length:=by lia
      simp [getD_eq_getElem?_getD,this]
     ·intro hc';obtain ⟨j,hj,e⟩:=List.getElem_of_mem hc';exact ⟨j,by lia,by simp [getD_eq_getElem?_getD,hj,e]⟩
    ·have b1:=lt_size e;refine mv.heap b o (by rw[Heap.size_push];simp only [mem_cons,not_mem_nil,or_false,not_or];exact ⟨ne_of_lt b1,ne_of_lt (lt_succ_of_lt b1)⟩) (get?_push_of_some _ (get?_push_of_some _ e))
   ·cases r2 with
    |error e=>exact hr2
    |ok fl2=>
     cases fl2 with
     |ret r=>
      obtain ⟨rfl,h',tk,l,rfl,q1,q2,q3⟩:=hr2
      repeat (any_goals (first|assumption|wp_step))
      exact h _ _ l q1 q2 q3
     |_=>exact hr2.elim
  |_=>exact hr.elim
end
end L2.Na
namespace L2.L3
open PySem PySem.Spec PyProof.Rows
noncomputable def sgn (c:Nat):V:=.str ⟨#[c]⟩
noncomputable def ZA (z:Str):It:=⟨λi _=>i<z.cps.size,λi H x H'=>H'=H/\∃c,z.cps[i]?=some c/\x=sgn c,λi _=>z.cps.size<=i⟩
theorem FL {P:Program} {w:World} {K:Fg} {tg:Expr} (z:Str) (t:Tok) (it:Addr) (T:String) (hT:T="str_ascii_iterator"\/T="str_iterator"):
  Turn P w K tg (ZA z) [it] it (λi h=>h.IsStrIter it T z t i) where
 mem:=by simp
 obj:=λi h st b hb=>by
  have e:b=it:=by simpa using hb
  subst e;obtain ⟨o,e,c,d⟩:=st;exact ⟨o,e,λv z=>by rw[d] at z;cases z⟩
 keep:=λi h h' st k=>by
  obtain ⟨o,e,c,d⟩:=st;exact ⟨o,k it (by simp) o e,c,d⟩
 item:=by
  intro X hP hw hK hc i pins s σ H E I hf st hg;subst hP hw hK;obtain ⟨f0,f1,f2,f3,f4,f5⟩:=hf it (by simp);have hi:i<z.cps.size:=hg;rcases hT with rfl|rfl
  ·refine wpAny_pyNext_ascii_item st (c:=z.cps[i]) (by simp [hi]) λh' st' sb=>?_;have I1:Inv X pins σ H {s with heap:=h',toks:=s.toks+1}:=I.turned (λb o hb e=>(sb.2 b hb).trans e) f0 f1 f3 f4 f5;obtain ⟨o,e,c,d⟩:=id st';exact ⟨_,rfl,oA (s:={s with heap:=h',toks:=s.toks+1}) e c d (by decide) ⟨sgn z.cps[i],H,I1,⟨_,rfl⟩,⟨rfl,_,by simp [hi],rfl⟩,st',λb hb=>(hf b hb).1⟩⟩
  ·refine wpAny_pyNext_wide_item st (c:=z.cps[i]) (by simp [hi]) λh' st' sb=>?_;have I1:Inv X pins σ H {s with heap:=h',toks:=s.toks+1}:=I.turned (λb o hb e=>(sb.2 b hb).trans e) f0 f1 f3 f4 f5;obtain ⟨o,e,c,d⟩:=id st';exact ⟨_,rfl,oA (s:={s with heap:=h',toks:=s.toks+1}) e c d (by decide) ⟨sgn z.cps[i],H,I1,⟨_,rfl⟩,⟨rfl,_,by simp [hi],rfl⟩,st',λb hb=>(hf b hb).1⟩⟩
 done:=by
  intro X hP hw hK hc i pins s σ H E I hf st hg;subst hP hw hK;obtain ⟨f0,f1,f2,f3,f4,f5⟩:=hf it (by simp);have hi:z.cps.size<=i:=hg;rcases hT with rfl|rfl
  ·exact wpAny_pyNext_ascii_end (I.ok.hd hc) st (by simp [hi]) λh' eb=>⟨rfl,I.turned (t':=s.toks) (λb o hb e=>eb b o hb e) f0 f1 f3 f4 f5⟩
  ·exact wpAny_pyNext_wide_end (I.ok.hd hc) st (by simp [hi]) λh' eb=>⟨rfl,I.turned (t':=s.toks) (λb o hb e=>eb b o hb e) f0 f1 f3 f4 f5⟩
 self:=λ_ _ _ _ _ st h=>by
  rcases hT with rfl|rfl
  ·exact wpAny_pyIter_striter_ascii st h
  ·exact wpAny_pyIter_striter_wide st h
structure Yl (J:It) (P:Hp->Prop) (items:List V):Prop where
 go:∀i H,P H->i<items.length->J.go i H
 yld:∀i H x H',P H->i<items.length->J.yld i H x H'->H'=H/\items[i]?=some x
 stop:∀H,P H->J.stop items.length H
theorem dB {K:Fg} {a:Addr} {xs:List V}:Yl (SA K a) (λH=>aM K H a xs) xs where
 go:=λi H p h=>⟨xs,xs[i],p,by simp [h]⟩
 yld:=λi H x H' p _ h=>⟨h.1,h.2 xs p⟩
 stop:=λH p=>⟨xs,p,Nat.le_refl _⟩
theorem EW {K:Fg} {a:Addr} {xs:List V}:Yl (YZ K a) (λH=>bX K H a xs) xs where
 go:=λi H p h=>⟨xs,xs[i],p,by simp [h]⟩
 yld:=λi H x H' p _ h=>⟨h.1,h.2 xs p⟩
 stop:=λH p=>⟨xs,p,Nat.le_refl _⟩
noncomputable def CO (lo:Int) (n:Nat):List V:=(range n).map λi=>.int (lo+(i:Nat))
theorem gF (lo:Int) (n:Nat):(CO lo n).length=n:=by unfold CO;rw[length_map,length_range]
theorem GJ {lo:Int} {n i:Nat} (h:(CO lo n)[i]?=some x):i<n/\x=.int (lo+(i:Nat)):=by
 unfold CO at h;rw[getElem?_map] at h;by_cases hi:i<n
 ·rw[getElem?_range hi] at h;exact ⟨hi,(Option.some.inj h).symm⟩
 ·rw[List.getElem?_eq_none_iff.mpr (by rw[length_range];lia)] at h;cases h
theorem SH {lo:Int} {n:Nat}:Yl (EM lo n) (λ_=>True) (CO lo n) where
 go:=λi H _ h=>by rw[gF] at h;exact h
 yld:=λi H x H' _ hi h=>⟨h.1,by
  have e:x=.int (lo+(i:Nat)):=h.2
  rw[gF] at hi
  rw[e]
  unfold CO
  rw[getElem?_map,getElem?_range hi]
  rfl⟩
 stop:=λH _=>by rw[gF];exact Nat.le_refl _
noncomputable def yC (z:Str):List V:=z.cps.toList.map sgn
theorem gE (z:Str):(yC z).length=z.cps.size:=by unfold yC;rw[length_map,length_toList]
theorem EY:Yl (ZA z) (λ_=>True) (yC z) where
 go:=λi H _ h=>by rw[gE] at h;exact h
 yld:=λi H x H' _ hi h=>by
  obtain ⟨e,c,h1,h2⟩:=h;refine ⟨e,?_⟩;unfold yC;rw[getElem?_map,h2];have q:z.cps.toList[i]?=some c:=by simpa using h1
  rw[q];rfl
 stop:=λH _=>by rw[gE];exact Nat.le_refl _
theorem JO {J:It} {P:Hp->Prop} {xs:List V} {g:TG} {tb:TS} {D:Ends} {σ:St} {H:Hp} (Y:Yl J P xs) (Pv:Nat->St->Hp->Prop) (h0:Pv 0 σ H) (hl:∀i σ H,i<=xs.length->Pv i σ H->P H)
  (hs:∀i x σ H,xs[i]?=some x->Pv i σ H->g x σ H λσ2 H2=>tb {D with nx:=Pv (i+1),ct:=Pv (i+1),bk:=D.nx} σ2 H2) (hd:∀σ H,Pv xs.length σ H->D.nx σ H):
  ∃W:Nat->Nat->St->Hp->Prop,(∃m,W 0 m σ H)/\∀i m σ H,W i m σ H->
   (J.stop i H/\D.nx σ H)\/(J.go i H/\∃N:St->Hp->Prop,(∀σ' H',N σ' H'->∃m',m'<m/\W (i+1) m' σ' H')/\∀x H',J.yld i H x H'->g x σ H' λσ2 H2=>tb {D with nx:=N,ct:=N,bk:=D.nx} σ2 H2):=by
 refine ⟨λi m σ H=>m=xs.length - i/\i<=xs.length/\Pv i σ H,⟨xs.length,by simp,zero_le _,h0⟩,?_⟩;rintro i m σ H ⟨rfl,hi,p⟩;have q:=hl i σ H hi p;by_cases hlt:i<xs.length
 ·refine .inr ⟨Y.go i H q hlt,Pv (i+1),λσ' H' p'=>⟨xs.length - (i+1),by lia,rfl,hlt,p'⟩,λx H' y=>?_⟩;obtain ⟨e,hx⟩:=Y.yld i H x H' q hlt y;subst e;exact hs i x σ H' hx p
 ·have e:i=xs.length:=by lia
  subst e;exact .inl ⟨Y.stop H q,hd σ H p⟩
theorem JP {J:It} {P:Hp->Prop} {xs:List V} {g:TG} {tb:TS} {D:Ends} {σ:St} {H:Hp} (Y:Yl J P xs) (hP:∀H',aC H H'->P H') (S:Nat->St->Prop) (h0:S 0 σ)
  (hs:∀i x σ1 H1,xs[i]?=some x->S i σ1->aC H H1->g x σ1 H1 λσ2 H2=>tb {D with nx:=λσ3 H3=>S (i+1) σ3/\aC H H3,ct:=λσ3 H3=>S (i+1) σ3/\aC H H3,bk:=D.nx} σ2 H2) (hd:∀σ1 H1,S xs.length σ1->aC H H1->D.nx σ1 H1):
  ∃W:Nat->Nat->St->Hp->Prop,(∃m,W 0 m σ H)/\∀i m σ H,W i m σ H->
   (J.stop i H/\D.nx σ H)\/(J.go i H/\∃N:St->Hp->Prop,(∀σ' H',N σ' H'->∃m',m'<m/\W (i+1) m' σ' H')/\∀x H',J.yld i H x H'->g x σ H' λσ2 H2=>tb {D with nx:=N,ct:=N,bk:=D.nx} σ2 H2):=
 JO Y (λi σ1 H1=>S i σ1/\aC H H1) ⟨h0,aC.refl _⟩ (λ_ _ H1 _ p=>hP H1 p.2) (λi x σ1 H1 hx p=>hs i x σ1 H1 hx p.1 p.2) λσ1 H1 p=>hd σ1 H1 p.1 p.2
noncomputable def wL (names:List (Str × NameKind)) (env:Env):List (Str × Addr):=((names.filter λx=>x.2==.free).filterMap λx=>(env.cells.lookup x.1).map λc=>(x.1,c)).reverse
theorem KR {env:Env} (h:(x,c)∈wL names env):env.cells.lookup x=some c:=by
 obtain ⟨y,hy,e⟩:=mem_filterMap.mp (mem_reverse.mp h);cases q:env.cells.lookup y.1 with
 |none=>rw[q] at e;cases e
 |some d=>
  rw[q] at e;have e':(y.1,d)=(x,c):=Option.some.inj e;cases e';exact q
theorem lN {env:Env} (h:(wL names env).lookup x=some c):env.cells.lookup x=some c:=KR (PySem.mem_of_lookup h)
theorem KS {env:Env} (h:names.lookup x=some .free) (e:env.cells.lookup x=some c):(wL names env).lookup x=some c:=by
 have hm:(x,c)∈wL names env:=mem_reverse.mpr (mem_filterMap.mpr ⟨(x,.free),mem_filter.mpr ⟨PySem.mem_of_lookup h,rfl⟩,by rw[e];rfl⟩);cases q:(wL names env).lookup x with
 |none=>
  have z:=List.lookup_eq_none_iff.mp q _ hm;simp at z
 |some d=>
  have z:=lN q;rw[e] at z;exact z.symm
theorem jQ {env:Env}:∀{names:List (Str × NameKind)} {x:Str},env.scope.kind=.function->names.lookup x=some .free->env.kindOf x=some .cell->
  (names.map λ(n,k)=>if (k==NameKind.free&&env.scope.kind==.function&&env.kindOf n==some .cell) then (n,NameKind.cell) else (n,k)).lookup x=some .cell
 |[],_,_,h,_=>by simp at h
 | (n,k)::r,x,hk,h,hc=>by
  by_cases hx:x=n
  ·subst hx;rw[lookup_cons_self] at h;cases h;rw[map_cons];dsimp only;rw[if_pos (by rw[hk,hc];rfl)];exact lookup_cons_self
  ·have hb:(x==n)=false:=beq_eq_false_iff_ne.mpr hx;rw[lookup_cons,hb] at h;have ih:=jQ (names:=r) hk h hc;rw[map_cons];dsimp only;by_cases c:(k==NameKind.free&&env.scope.kind==.function&&env.kindOf n==some .cell)=true
   ·rw[if_pos c,lookup_cons,hb];exact ih
   ·rw[if_neg c,lookup_cons,hb];exact ih
theorem fH {env:Env}:∀{names:List (Str × NameKind)} {x:Str} {k:NameKind},(names.map λ(n,k)=>if (k==NameKind.free&&env.scope.kind==.function&&env.kindOf n==some .cell) then (n,NameKind.cell) else (n,k)).lookup x=some k->
  names.lookup x=some k\/(k=.cell/\names.lookup x=some .free)
 |[],_,_,h=>by simp at h
 | (n,k')::r,x,k,h=>by
  rw[map_cons] at h;dsimp only at h;by_cases hx:x=n
  ·subst hx;rw[lookup_cons_self];by_cases c:(k'==NameKind.free&&env.scope.kind==.function&&env.kindOf x==some .cell)=true
   ·rw[if_pos c,lookup_cons_self] at h;cases h;have z:k'=.free:=by
     rw[and_eq_true,and_eq_true] at c;exact beq_iff_eq.mp c.1.1
    exact .inr ⟨rfl,by rw[z]⟩
   ·rw[if_neg c,lookup_cons_self] at h;exact .inl h
  ·have hb:(x==n)=false:=beq_eq_false_iff_ne.mpr hx;have h':(r.map λ(n,k)=>if (k==NameKind.free&&env.scope.kind==.function&&env.kindOf n==some .cell) then (n,NameKind.cell) else (n,k)).lookup x=some k:=by
    by_cases c:(k'==NameKind.free&&env.scope.kind==.function&&env.kindOf n==some .cell)=true
    ·rw[if_pos c,lookup_cons,hb] at h;exact h
    ·rw[if_neg c,lookup_cons,hb] at h;exact h
   rw[lookup_cons,hb];exact fH h'
theorem bD:∀(names:List (Str × NameKind)) (n:Nat) (acc:List (Str × Addr)),cellsFrom n names acc=cellsFrom n names []++acc
 |[],_,_=>rfl
 | (name,kind)::r,n,acc=>by
  unfold cellsFrom;split
  ·rw[bD r (n+1) ((name,n)::acc),bD r (n+1) [(name,n)],List.append_assoc];rfl
  ·exact bD r n acc
theorem eM:∀(names:List (Str × NameKind)) (n:Nat) {x:Str} {c:Addr},(x,c)∈cellsFrom n names []->(x,NameKind.cell)∈names
 |[],_,_,_,h=>nomatch h
 | (name,kind)::r,n,x,c,h=>by
  unfold cellsFrom at h;split at h
  ·rename_i hk;rw[bD] at h;rcases mem_append.mp h with h|h
   ·exact mem_cons_of_mem _ (eM r _ h)
   ·have e:=mem_singleton.mp h;have e1:x=name:=congrArg Prod.fst e;have e2:kind=NameKind.cell:=eq_of_beq hk;rw[e1,e2];exact mem_cons_self
  ·exact mem_cons_of_mem _ (eM r _ h)
noncomputable def kD (sc:Scope) (C:Addr) (env:Env):List (Str × Addr):=cellsFrom (C+1) sc.names (wL sc.names env)
theorem gT {env:Env} (h:(kD sc C env).lookup x=some c):(x,c)∈cellsFrom (C+1) sc.names []\/env.cells.lookup x=some c:=by
 unfold kD at h;rw[bD,List.lookup_append] at h;cases q:(cellsFrom (C+1) sc.names []).lookup x with
 |some d=>
  rw[q] at h;have e:d=c:=Option.some.inj h;subst e;exact .inl (PySem.mem_of_lookup q)
 |none=>
  rw[q] at h;exact .inr (lN h)
theorem EI {env:Env} (hx:sc.names.lookup x=some .cell) (h:(kD sc C env).lookup x=some c):(x,c)∈cellsFrom (C+1) sc.names []:=by
 obtain ⟨d,q⟩:=oN (n:=C+1) hx;unfold kD at h;rw[bD,List.lookup_append,q] at h;have e:d=c:=Option.some.inj h;subst e;exact PySem.mem_of_lookup q
theorem oR {env:Env} (hown:∀y∈sc.names,y.2=.cell->sc.names.lookup y.1=some .cell) (hx:sc.names.lookup x=some .free) (e:env.cells.lookup x=some c):(kD sc C env).lookup x=some c:=by
 unfold kD;rw[bD,List.lookup_append];cases q:(cellsFrom (C+1) sc.names []).lookup x with
 |some d=>
  have z:=hown _ (eM _ _ (PySem.mem_of_lookup q)) rfl;have z':sc.names.lookup x=some .cell:=z;rw[hx] at z';cases z'
 |none=>exact KS hx e
theorem HF (h:Heap) (ob:Obj) (sc:Scope):CellsOk (pushCells (h.push ob) sc.names) (h.objs.size+1) (cellsFrom (h.objs.size+1) sc.names []):=by
 have ok:=cellsFrom_ok sc.names (h.push ob) (h.objs.size+1) [] ⟨λ_ _ hm=>(nomatch hm),Pairwise.nil⟩ (by rw[Heap.size_push];exact Nat.le_refl _);rwa [Heap.size_push] at ok
theorem rM {M:Model} {A:Around} {E:Value->Shared->Prop} {s:Shared} {scope:Scope} {globals:Addr} {closure:List (Str × Addr)} {qual:Str} {func:Option Addr} {code:Value} {outer:Env} {builtins:Addr} {Q:Env->Shared->Prop}
  (hQ:Q (newEnv scope s.heap.objs.size globals (cellsFrom (s.heap.objs.size+1) scope.names closure) qual func code (some outer) builtins) {s with heap:=pushCells (s.heap.push {cls:=.type "dict",data:=.dict #[]}) scope.names}):
  wpAny M A (newFunctionEnv scope globals closure [] qual func code (some outer) builtins) Q E s:=by
 simp only [newFunctionEnv,Option.isSome_some,if_true];refine wpAny_bind (wpAny_alloc ?_);refine wpAny_bind (wpAny_layCells _ (λname kind cells=>by cases hkc:kind==NameKind.cell<;>simp [hkc]) _ _ _ _ ?_);rw[show ({s with heap:=s.heap.push {cls:=.type "dict",data:=.dict #[]}}:Shared).heap.objs.size=s.heap.objs.size+1 from Heap.size_push ..];refine wpAny_bind ?_;rw[forIn_nil];exact wpAny_pure (wpAny_pure hQ)
noncomputable def EJ (X:Cx) (N:List Str) (sc:Scope) (C:Addr) (s₀:Shared) (H₀:Hp) (ex:List Addr):Cx:=
 {X with N:=N,s₀:=s₀,H₀:=H₀,env:=compEnvC sc (kD sc C X.env) C X.env,outer:=X.stack,ex:=ex,fn:=λx=>sc.names.lookup x==some .cell,pn:=[],xe:=λ_ _=>False}
inductive ER (X:Cx) (sc:Scope):List Str->List Nat->Prop
 |nil:ER X sc [] []
 |cons {x:Str} {i:Nat} {xs:List Str} {is:List Nat} (hN:X.N[i]?=some x) (hk:X.env.kindOf x=some .cell) (hf:sc.names.lookup x=some .free) (t:ER X sc xs is):ER X sc (x::xs) (i::is)
theorem ER.length:∀{xs:List Str} {is:List Nat},ER X sc xs is->xs.length=is.length
 |_,_,.nil=>rfl
 |_,_,.cons _ _ _ t=>by rw[length_cons,length_cons,ER.length t]
theorem ER.get {X:Cx} {sc:Scope}:∀{xs:List Str} {is:List Nat} {j:Nat} {x:Str},ER X sc xs is->xs[j]?=some x->∃i,is[j]?=some i/\X.N[i]?=some x/\X.env.kindOf x=some .cell/\sc.names.lookup x=some .free
 |_,_,_,_,.nil,e=>by simp at e
 |_,_,0,_,.cons hN hk hf _,e=>by
  have e':=Option.some.inj e;subst e';exact ⟨_,rfl,hN,hk,hf⟩
 |_,_,j+1,x,.cons _ _ _ t,e=>by
  obtain ⟨i,h1,h2⟩:=ER.get (j:=j) (x:=x) t (by simpa using e);exact ⟨i,by simpa using h1,h2⟩
noncomputable def dQ (is:List Nat) (σ:St):St:=is.map λi=>(σ[i]?).join
noncomputable def EE (n:Nat) (is:List Nat) (σ:St):St:=replicate n none++dQ is σ
theorem Un.but {fs ex:List Addr} (u:Un fs ex H H1 h h1) (hs:SameBut C h1 h2) (hC:h.objs.size<=C):Un fs ex H H1 h h2:=by
 have ne:∀b o,h.get? b=some o->b≠C:=λb o e=>ne_of_lt (Nat.lt_of_lt_of_le (lt_size e) hC);refine ⟨λb o q n hb hx=>(hs.2 b (ne b o q)).trans (u.keep b o q n hb hx),λb o q n hb hx=>?_,u.free,λb o q hx=>?_,u.tups,u.frzs,u.tbls⟩
 ·obtain ⟨sl,e⟩:=u.slot b o q n hb hx;exact ⟨sl,(hs.2 b (ne b o q)).trans e⟩
 ·obtain ⟨o',e⟩:=u.there b o q hx;exact ⟨o',(hs.2 b (ne b o q)).trans e⟩
theorem dY.but (k:dY P w H h) (hs:SameBut C h h') (hn:H C=none):dY P w H h':=λb ob e=>by
 refine (k b ob e).stay (λc w' hc q=>(hs.2 c ?_).trans q) (λ_ q=>q) λ_ _ q=>q;rintro rfl;rcases hc with rfl|hc
 ·rw[hn] at e;cases e
 ·rw[hn] at hc;cases hc
section
variable {X:Cx} {pins:List (Addr × Obj)} {σ:St} {H:Hp} {s:Shared}
theorem XR (I:Inv X pins σ H s) {N:List Str} {sc:Scope} {ex:List Addr} (hkind:sc.kind=.function) (hown:∀y∈sc.names,y.2=.cell->sc.names.lookup y.1=some .cell) (hfr:(sc.names.all λy=>y.2 != .free || X.env.kindOf y.1==some .cell)=true)
  (hex:∀b∈ex,lF X pins H b) (hob:∀b∈ex,∃o,s.heap.get? b=some o):(EJ X N sc s.heap.objs.size s H ex).Ok:=by
 have oc:=HF s.heap {cls:=.type "dict",data:=.dict #[]} sc;have lo:∀{x c},(x,c)∈cellsFrom (s.heap.objs.size+1) sc.names []->s.heap.objs.size<c:=λhm=>(oc.empty _ _ hm).2;have hi:∀{x c},X.env.cells.lookup x=some c->c<s.heap.objs.size:=λe=>by
  obtain ⟨v,o,e',_⟩:=I.cell _ _ e;exact lt_size e'
 refine ⟨I.ok.mod,hkind,I.ok.glob,I.ok.blt,Nat.le_refl _,λx y c h1 h2=>?_,λx h=>?_,λx c hf h=>?_,I.ok.hd,I.ok.frames,.inl rfl,λb hb=>⟨?_,λx c h=>?_⟩,I.bs,Nat.le_trans I.ok.bsz I.sz,λb o e hb=>?_,λb hb hf=>?_,I.stack,I.stkFree⟩
 ·rcases gT h1 with h1|h1<;>rcases gT h2 with h2|h2
  ·exact PySem.name_of_addr oc.apart h1 h2
  ·exact absurd (hi h2) (Nat.lt_asymm (lo h1))
  ·exact absurd (hi h1) (Nat.lt_asymm (lo h2))
  ·exact I.ok.inj x y c h1 h2
 ·have fr:sc.names.lookup x=some .free->∃c,(kD sc s.heap.objs.size X.env).lookup x=some c:=λq=>by
   have z:=all_eq_true.mp hfr _ (PySem.mem_of_lookup q);have z':(X.env.kindOf x==some .cell)=true:=z;obtain ⟨c,e⟩:=I.ok.has x (.inl (beq_iff_eq.mp z'));exact ⟨c,oR hown q e⟩
  rcases h with h|h
  ·rcases fH (show (sc.names.map λ(n,k)=>if (k==NameKind.free&&X.env.scope.kind==.function&&X.env.kindOf n==some .cell) then (n,NameKind.cell) else (n,k)).lookup x=some .cell from h) with q|⟨_,q⟩
   ·exact Option.isSome_iff_exists.mp (PySem.W.cellsFrom_some sc.names _ _ (.inl q))
   ·exact fr q
  ·rcases fH (show (sc.names.map λ(n,k)=>if (k==NameKind.free&&X.env.scope.kind==.function&&X.env.kindOf n==some .cell) then (n,NameKind.cell) else (n,k)).lookup x=some .free from h) with q|⟨q,_⟩
   ·exact fr q
   ·cases q
 ·have hx:sc.names.lookup x=some .cell:=eq_of_beq hf;exact le_of_lt (lo (EI hx h))
 ·obtain ⟨o,e⟩:=hob b hb;exact ne_of_lt (lt_size e)
 ·rcases gT h with h|h
  ·obtain ⟨o,e⟩:=hob b hb;exact ne_of_gt (Nat.lt_trans (lt_size e) (lo h))
  ·exact (hex b hb).2.2.2.2.1 x c h
 ·obtain ⟨_,_,_,q,_⟩:=hex b hb;rcases q with q|q
  ·exact I.ok.noex b o e q
  ·exact absurd (Nat.lt_of_lt_of_le (lt_size (I.ok.bs b o e).1) q) (Nat.lt_irrefl _)
 ·obtain ⟨_,n1,n2,_⟩:=hex b hb;rcases mem_cons.mp (I.stkSub b hf) with z|z
  ·exact n1 z
  ·exact n2 z
theorem EH (I:Inv X pins σ H s) {own caps:List Str} {ex:List Addr} (hkind:sc.kind=.function) (hown:∀y∈sc.names,y.2=.cell->sc.names.lookup y.1=some .cell) (hfr:(sc.names.all λy=>y.2 != .free || X.env.kindOf y.1==some .cell)=true)
  (hcap:ER X sc caps is) (hex:∀b∈ex,lF X pins H b) (hob:∀b∈ex,∃o,s.heap.get? b=some o) (hn:h1.Ns s.heap.objs.size m0) (hk:∀b o,s.heap.get? b=some o->h1.get? b=some o) (oc:CellsOk h1 (s.heap.objs.size+1) (cellsFrom (s.heap.objs.size+1) sc.names [])):
  Inv (EJ X (own++caps) sc s.heap.objs.size s H ex) [] (EE own.length is σ) H {s with heap:=h1,toks:=tk}:=by
 refine ⟨XR I hkind hown hfr hex hob,rfl,I.bare,Un.kept hk,⟨m0,hn,λi x v e1 e2 _=>?_⟩,λx c h=>?_,I.hok.fresh (Nat.le_refl _),λx c h=>(gT h).elim (λh=>I.hok.fresh (le_of_lt (oc.empty _ _ h).2)) λh=>I.freeC x c h,λp hp=>absurd (show p∈([]:List (Addr × Obj)) from hp) (by simp),I.hok.kept hk,?_⟩
 ·have e1':(own++caps)[i]?=some x:=e1;by_cases hi:i<own.length
  ·unfold EE at e2;rw[getElem?_append_left (by rw[length_replicate];exact hi),List.getElem?_replicate,if_pos hi] at e2;cases e2
  ·rw[getElem?_append_right (by lia)] at e1';unfold EE at e2;rw[getElem?_append_right (by rw[length_replicate];lia),length_replicate] at e2;obtain ⟨i',q1,q2,q3,q4⟩:=hcap.get e1';unfold dQ at e2;rw[getElem?_map,q1] at e2;have e2':(σ[i']?).join=some v:=Option.some.inj e2;have e3:σ[i']?=some (some v):=by
    cases z:σ[i']? with
    |none=>rw[z] at e2';cases e2'
    |some w=>
     rw[z] at e2';have e4:w=some v:=e2';rw[e4]
   obtain ⟨m,_,hl⟩:=I.loc;obtain ⟨u,r,l⟩:=hl i' x v q2 e3 (.inr (.inl q3));refine ⟨u,r,?_⟩;rcases l with ⟨z,_⟩|⟨_,c,z1,o,z2,z3⟩
   ·rw[q3] at z;cases z
   ·refine .inr ⟨.inl ?_,c,oR hown q4 z1,o,hk _ _ z2,z3⟩;exact jQ I.ok.kind q4 q3
 ·rcases gT h with h|h
  ·exact ⟨none,(oc.empty _ _ h).1⟩
  ·obtain ⟨v,o,e,d⟩:=I.cell x c h;exact ⟨v,o,hk _ _ e,d⟩
 ·show (EE own.length is σ).length=(own++caps).length;unfold EE dQ;rw[length_append,length_append,length_replicate,length_map,hcap.length]
end
section
variable {X:Cx}
noncomputable def Fs:V->Option Int->Option Int->Hp->VK->Prop:=λx lo hi H Q=>∃z,x=.str z/\z.length<=sizeLine/\Q (.str (Txt.slice z lo hi)) H
theorem SY:Eg X Fs:=by
 intro pins s σ H x v vl vu lo hi sl Q I rx hs pl pu h;obtain ⟨z,rfl,hz,q⟩:=h;obtain ⟨t,rfl⟩:=rx;have fin:∀lo hi:Option Int,Q (.str (Txt.slice z lo hi)) H->(Txt.slice z lo hi).length<=sizeLine/\∀t' k,EP X pins σ Q (.str (Txt.slice z lo hi) t') {s with toks:=k}:=λlo hi q=>
  ⟨Nat.le_trans (Txt.slice_le z _ _) hz,λt' k=>⟨.str _,H,I.tok k,⟨t',rfl⟩,q⟩⟩
 refine ⟨"str",_,F.slot_str_getitem.lookup,typeIs_str _ _ _,?_⟩;cases pl with
 |none=>
  cases pu with
  |none=>exact wpAny_getItem_str_slice (l:=none) (u:=none) (st:=none) hs rfl (post_val_or_str (fin none none q))
  |int j t2=>exact wpAny_getItem_str_slice (l:=none) (u:=some (j,t2)) (st:=none) hs rfl (post_val_or_str (fin none (some j) q))
 |int i t1=>
  cases pu with
  |none=>exact wpAny_getItem_str_slice (l:=some (i,t1)) (u:=none) (st:=none) hs rfl (post_val_or_str (fin (some i) none q))
  |int j t2=>exact wpAny_getItem_str_slice (l:=some (i,t1)) (u:=some (j,t2)) (st:=none) hs rfl (post_val_or_str (fin (some i) (some j) q))
theorem cF (h0:0<=j):(Txt.slice z none (some j)).cps.toList=z.cps.toList.take j.toNat:=by
 have hl:z.cps.toList.length=z.length:=by simp [Str.length]
 by_cases h:j<=z.length
 ·have e:=beq_iff_eq.mp (slice_closes_to (x:=z) (j:=j) ⟨h0,by rw[hl];exact h⟩);rw[e];simp
 ·have e:=beq_iff_eq.mp (slice_closes_to (x:=z) (j:=(z.length:Int)) ⟨by lia,by rw[hl];exact Int.le_refl _⟩);rw[slice_to_beyond (by lia),e];show List.take ((z.length:Int) - 0).toNat (z.cps.toList.drop 0)=_;rw[drop_zero,take_of_length_le (by lia),take_of_length_le (by lia)]
theorem xY (h0:0<=i) (h1:i<=z.length):(Txt.slice z (some i) none).cps.toList=z.cps.toList.drop i.toNat:=by
 have hl:z.cps.toList.length=z.length:=by simp [Str.length]
 rw[slice_from_eq (b:=(z.length:Int)) h0 h1 rfl];show (z.cps.toList.drop i.toNat).take ((z.length:Int) - i).toNat=_;rw[take_of_length_le (by rw[length_drop];lia)]
theorem kQ (z:Str) (lo hi:Option Int):(Txt.slice z lo hi).length<=z.length:=Txt.slice_le z lo hi
noncomputable def Fv (K:Fg):List V->Hp->VK->Prop:=λxs H Q=>∃x n t b,xs=[x,.ty n]/\fP K H x t/\PySem.W.kitOne K t (.type n)=some b/\Q (.bl b) H
theorem KZ:bZ X (.builtin "isinstance") (Fv X.K):=by
 intro pins s σ H xs us Q I rv h;obtain ⟨x,n,t,b,rfl,ty,k,q⟩:=h;obtain ⟨u,w',rfl,rx,ry⟩:=rv.two;cases (show w'=Value.type n from ry);exact DL I rx ty k λtk=>⟨.bl b,H,I.tok tk,rfl,q⟩
end
noncomputable def KG:Const->Option V
 | .none=>some .non
 | .bool b=>some (.bl b)
 | .int i=>some (.int i)
 | .str x=>some (.str x)
 |_=>none
theorem CS (h:KG c=some v):PE X (.Constant c j pos) (tC v):=by
 cases c with
 |none=>cases h;exact UK
 |bool b=>cases h;exact Az
 |int i=>cases h;exact UM
 |str x=>cases h;exact UI
 |_=>cases h
theorem aE (h:H p=none) (o:HO):aC H (upd H p o):=λb u q=>by rw[aF (aB q h)];exact q
theorem wO (I:Inv X pins σ H s):sysModules<s.heap.objs.size:=by
 have h:mainGlobals<s.heap.objs.size:=(I.mod.glob.keeps I.bk).lt;exact Nat.lt_trans (by decide) h
noncomputable def QN:TE:=λ_ H Q=>∀p,H p=none->Q (.ref p) (upd H p (.dK []))
theorem NL:PE X (.Dict [] [] pos) QN:=λpins s σ H Q I h=>
 wpAny_Dict_empty ⟨.ref s.heap.objs.size,_,I.laid (a:=s.heap.objs.size) (o:=.dK []) (t':=s.toks) (λ_ _ q=>get?_push_of_some _ q) (Nat.le_refl _)
  ⟨zero_le _,beq_eq_false_iff_ne.mpr (Ne.symm (ne_of_lt (wO I))),[],.nil,DictOf.new _⟩,rfl,h _ (I.hok.fresh (Nat.le_refl _))⟩
end L2.L3
namespace ZD
open PySem PySem.Spec PyProof.Rows
section
variable {prog:Program} {w:World} {A:Around} {E:Value->Shared->Prop} {s:Shared}
theorem alive {α:Type} {M:Model} {a:Addr} {o:Obj} {k:Option Obj->Sem α} {Q:α->Shared->Prop} (ho:s.heap.get? a=some o) (h:wpAny M A (k (some o)) Q E s):wpAny M A (.loadIfAlive a k) Q E s:=λΓ p hi=>by
 rw[Sem.wp_loadIfAlive,ho];exact h Γ p hi
theorem HR (hit:s.heap.IsTupleIter it t i) (ht:s.heap.IsTuple t items) (hx:items[i]?=some x)
  (hQ:∀h',h'.IsTupleIter it t (i+1)->SameBut it s.heap h'->Q x {s with heap:=h'}):wpAny (model prog w) A (Builtin.SmallTypes.nextOf (.ref it)) Q E s:=by
 obtain ⟨oi,hoi,hci,hdi⟩:=id hit;obtain ⟨ot,hot,_,nt,hdt⟩:=ht;unfold Builtin.SmallTypes.nextOf;refine wpAny_bind (wpAny_callSpecial?_slot (name:=Str.ofString "__next__") hit.typeIs F.slot_tuple_iterator_next
  (wpAny_call_entry F.slot_tuple_iterator_next hit.typeIs F.entry_tuple_iterator_next ?_ (F.args_tuple_iterator_next_1 _)))
 show wpAny _ _ (field (.ref it) 0 >>=_) _ _ s;refine wpAny_bind (wpAny_field hoi hdi (x:=.ref t) rfl ?_);show wpAny _ _ (if (Value.ref t==Value.none)=true then _ else _) _ _ s;rw[if_neg (show ¬((Value.ref t==Value.none)=true) from Bool.false_ne_true)];show wpAny _ _ (field (.ref it) 1 >>=_) _ _ s;refine wpAny_bind (wpAny_field hoi hdi (x:=.int i 0) rfl ?_);show wpAny _ _ (seqItems? (.ref t) >>=_) _ _ s;refine wpAny_bind (wpAny_seqItems hot hdt ?_);simp only [toNat_natCast,hx];refine wpAny_bind (wpAny_setField hoi hdi (by simp) (wpAny_pure ⟨x,rfl,wpAny_pure (hQ _ ?_ (SameBut.update ..))⟩));exact ⟨_,get?_update_self _ hoi (Obj.isFreed_of_fields (Obj.data_mapFields hdi _)),(Obj.cls_mapFields ..).trans hci,by
  rw[Obj.data_mapFields hdi];simp [rawInt]⟩
structure cJ (h:Heap) (it:Addr) (x:Str) (t:Tok) (i:Nat):Prop where
 ex:∃T:String,(T="str_ascii_iterator"\/T="str_iterator")/\h.IsStrIter it T x t i
theorem cJ.at' {h h':Heap} {it:Addr} {x:Str} {t:Tok} {i:Nat} (z:cJ h it x t i) (k:∀o,h.get? it=some o->h'.get? it=some o):cJ h' it x t i:=by
 obtain ⟨T,hT,o,e,r⟩:=z.ex;exact ⟨T,hT,o,k o e,r⟩
theorem cJ.lt {h:Heap} {it:Addr} {x:Str} {t:Tok} {i:Nat} (z:cJ h it x t i):it<h.objs.size:=by
 obtain ⟨T,hT,o,e,r⟩:=z.ex;exact lt_size e
theorem AM {it:Addr} {x:Str} {t:Tok} {i c:Nat} {Q:Value->Shared->Prop} (hit:cJ s.heap it x t i) (hx:x.cps[i]?=some c)
  (hQ:∀h' u tk,cJ h' it x t (i+1)->SameBut it s.heap h'->Q (.str ⟨#[c]⟩ u) {s with heap:=h',toks:=tk}):wpAny (model prog w) A (Builtin.SmallTypes.nextOf (.ref it)) Q E s:=by
 obtain ⟨T,hT,z⟩:=hit.ex;rcases hT with rfl|rfl
 ·exact wpAny_nextOf_ascii_item z hx λh' z' sb=>hQ h' _ _ ⟨_,.inl rfl,z'⟩ sb
 ·exact wpAny_nextOf_wide_item z hx λh' z' sb=>hQ h' _ _ ⟨_,.inr rfl,z'⟩ sb
theorem lI {it:Addr} {x:Str} {t:Tok} {i:Nat} {Q:Value->Shared->Prop} (hh:A.handled=none) (hit:cJ s.heap it x t i) (hx:x.cps[i]?=none)
  (hE:∀h' e,ExtBut it s.heap h'->(∃o,h'.get? e=some o/\o.cls=.type "StopIteration")->E (.ref e) {s with heap:=h'}):wpAny (model prog w) A (Builtin.SmallTypes.nextOf (.ref it)) Q E s:=by
 obtain ⟨T,hT,z⟩:=hit.ex;rcases hT with rfl|rfl
 ·exact wpAny_nextOf_ascii_end hh z hx hE
 ·exact wpAny_nextOf_wide_end hh z hx hE
noncomputable def LQ (h:Heap) (i2 t:Addr) (items:Array Value) (k:Nat):Prop:=(h.IsTupleIter i2 t k/\h.IsTuple t items)\/(h.IsListIter i2 t k/\h.IsList t items)
theorem LQ.at {h h':Heap} {i2 t:Addr} {items:Array Value} {k:Nat} (z:LQ h i2 t items k) (k1:∀o,h.get? i2=some o->h'.get? i2=some o) (k2:∀o,h.get? t=some o->h'.get? t=some o):LQ h' i2 t items k:=by
 rcases z with ⟨a,o,e,r⟩|⟨a,o,e,r⟩
 ·exact .inl ⟨a.at k1,o,k2 _ e,r⟩
 ·exact .inr ⟨a.at k1,o,k2 _ e,r⟩
theorem LQ.lt {h:Heap} {i2 t:Addr} {items:Array Value} {k:Nat} (z:LQ h i2 t items k):i2<h.objs.size:=by
 rcases z with ⟨⟨o,e,_⟩,_⟩|⟨⟨o,e,_⟩,_⟩
 ·exact lt_size e
 ·exact lt_size e
theorem LQ.ltT (z:LQ h i2 t items k):t<h.objs.size:=by
 rcases z with ⟨_,o,e,_⟩|⟨_,o,e,_⟩
 ·exact lt_size e
 ·exact lt_size e
theorem vI {i2 t:Addr} {k:Nat} {items:Array Value} {x:Value} {Q:Value->Shared->Prop} (z:LQ s.heap i2 t items k) (ht:t≠i2) (hx:items[k]?=some x)
  (hQ:∀h',LQ h' i2 t items (k+1)->SameBut i2 s.heap h'->Q x {s with heap:=h'}):wpAny (model prog w) A (Builtin.SmallTypes.nextOf (.ref i2)) Q E s:=by
 rcases z with ⟨a,b⟩|⟨a,b⟩
 ·exact HR a b hx λh' j sb=>hQ h' (.inl ⟨j,let ⟨o,e,r⟩:=b;⟨o,sb.extBut _ _ ht e,r⟩⟩) sb
 ·exact wpAny_nextOf_list_item a b hx λh' j sb=>hQ h' (.inr ⟨j,let ⟨o,e,r⟩:=b;⟨o,sb.extBut _ _ ht e,r⟩⟩) sb
noncomputable def pM (f0 f1:Value) (TI TO:Addr):Obj:={cls:=.type "zip",dict:=none,data:=.fields #[f0,f1,.bool false,.ref TI,.ref TO],slots:=#[]}
structure Apart (z TI TO i1 i2 t:Addr):Prop where
 TIz:TI≠z
 TOz:TO≠z
 i1z:i1≠z
 i2z:i2≠z
 TITO:TI≠TO
 TIi1:TI≠i1
 TIi2:TI≠i2
 TOi1:TO≠i1
 TOi2:TO≠i2
 i12:i1≠i2
 tz:t≠z
 tTO:t≠TO
 ti1:t≠i1
 ti2:t≠i2
structure xD (h:Heap) (z TI TO i1 i2 t:Addr) (x:Str) (tk:Tok) (items:Array Value) (k:Nat):Prop where
 zip:∃f0 f1,h.get? z=some (pM f0 f1 TI TO)/\(f0=.none\/∃a o,f0=rawInt (a:Nat)/\h.get? a=some o/\a≠z/\a≠TO/\a≠i1/\a≠i2)
 pTI:IsPair h TI (.ref i1) (.ref i2)
 pTO:∃a b,IsPair h TO a b
 s1:cJ h i1 x tk k
 s2:LQ h i2 t items k
theorem xD.keep {z TI TO i1 i2 t:Addr} (y:xD h z TI TO i1 i2 t x tk items k) (kp:∀b o,h.get? b=some o->h'.get? b=some o):xD h' z TI TO i1 i2 t x tk items k:=by
 obtain ⟨⟨f0,f1,e,r⟩,p1,⟨a,b,p2⟩,s1,s2⟩:=y;refine ⟨⟨f0,f1,kp _ _ e,?_⟩,kp _ _ p1,⟨a,b,kp _ _ p2⟩,s1.at' λo=>kp _ o,s2.at (λo=>kp _ o) λo=>kp _ o⟩;rcases r with r|⟨a,o,r1,r2,r3⟩
 ·exact .inl r
 ·exact .inr ⟨a,o,r1,kp _ _ r2,r3⟩
theorem EV {z TI TO i1 i2 t:Addr} {x:Str} {tk:Tok} {items:Array Value} {k c:Nat} {y:Value} {Q:Value->Shared->Prop} (D:Apart z TI TO i1 i2 t) (S:xD s.heap z TI TO i1 i2 t x tk items k) (hx:x.cps[k]?=some c) (hy:items[k]?=some y)
  (hQ:∀h' T u tk',xD h' z TI TO i1 i2 t x tk items (k+1)->IsPair h' T (.str ⟨#[c]⟩ u) y->s.heap.objs.size<=T->(∀b o,b≠z->b≠TO->b≠i1->b≠i2->s.heap.get? b=some o->h'.get? b=some o)->Q (.ref T) {s with heap:=h',toks:=tk'}):
  wpAny (model prog w) A (Builtin.«zip.__next__» ⟨[.ref z],[]⟩) (λfin s'=>∃v,fin=.done (.ret v)/\Q v s') E s:=by
 obtain ⟨⟨f0,f1,hz,hf⟩,hTI,⟨a,b,hTO⟩,h1,h2⟩:=S;show wpAny _ _ (field (.ref z) 2 >>=_) _ _ _;refine wpAny_bind (wpAny_field hz rfl (x:=.bool false) rfl ?_);show wpAny _ _ (field (.ref z) 3 >>=_) _ _ _;refine wpAny_bind (wpAny_field hz rfl (x:=.ref TI) rfl ?_);refine wpAny_bind (wpAny_seqItems hTI rfl ?_);show wpAny _ _ (Builtin.SmallTypes.ownedTupleIsFree (.ref z) >>=_) _ _ _;refine wpAny_bind ?_;unfold Builtin.SmallTypes.ownedTupleIsFree;rcases hf with rfl|⟨q,oq,rfl,hq,q1,q2,q3,q4⟩
 ·refine wpAny_bind (wpAny_field hz rfl (x:=.none) rfl (wpAny_pure ?_));simp only [if_true];refine wpAny_bind (wpAny_rule ?_);refine wpAny_bind (wpAny_field hz rfl (x:=.ref TO) rfl ?_);refine wpAny_bind (wpAny_setField_rec hz (by simp) λg1 z1 b1=>?_);replace z1:g1.get? z=some (pM .ellipsis f1 TI TO):=z1;refine wpAny_bind ?_;simp only [List.zipIdx_cons,List.zipIdx_nil,forIn_cons,forIn_nil];refine wpAny_bind (wpAny_bind (wpAny_onRaise ?_));show wpAny _ _ (Builtin.SmallTypes.nextOf (.ref i1) >>=_) _ _ _;refine wpAny_bind (AM (h1.at' λo e=>b1.extBut _ _ D.i1z e) hx λg2 u tk2 i2' b2=>wpAny_pure ?_);have o2:IsPair g2 TO a b:=b2.extBut _ _ D.TOi1 (b1.extBut _ _ D.TOz hTO);refine wpAny_bind (wpAny_seqItems o2 rfl ?_);refine wpAny_bind (wpAny_updateSeq_pair o2 λg3 o3 b3=>?_);replace o3:IsPair g3 TO (.str ⟨#[c]⟩ u) b:=o3;refine wpAny_bind (wpAny_letGo (wpAny_pure ?_));refine wpAny_bind (wpAny_bind (wpAny_onRaise ?_));show wpAny _ _ (Builtin.SmallTypes.nextOf (.ref i2) >>=_) _ _ _;have up3:∀c o,c≠z->c≠TO->c≠i1->s.heap.get? c=some o->g3.get? c=some o:=λc o c1 c2 c3 e=>b3.extBut _ _ c2 (b2.extBut _ _ c3 (b1.extBut _ _ c1 e));refine wpAny_bind (vI (h2.at (λo e=>up3 _ _ D.i2z D.TOi2.symm D.i12.symm e) λo e=>up3 _ _ D.tz D.tTO D.ti1 e) D.ti2 hy λg4 j4 b4=>wpAny_pure ?_);have o4:IsPair g4 TO (.str ⟨#[c]⟩ u) b:=b4.extBut _ _ D.TOi2 o3;refine wpAny_bind (wpAny_seqItems o4 rfl ?_);refine wpAny_bind (wpAny_updateSeq_pair o4 λg5 o5 b5=>?_);replace o5:IsPair g5 TO (.str ⟨#[c]⟩ u) y:=o5;refine wpAny_bind (wpAny_letGo (wpAny_pure (wpAny_pure ?_)));refine wpAny_bind (wpAny_seqItems o5 rfl ?_);refine wpAny_bind (wpAny_newTuple ?_);have sz:g5.objs.size=s.heap.objs.size:=by rw[b5.1,b4.1,b3.1,b2.1,b1.1]
  have z5:g5.get? z=some (pM .ellipsis f1 TI TO):=b5.extBut _ _ D.TOz.symm (b4.extBut _ _ D.i2z.symm (b3.extBut _ _ D.TOz.symm (b2.extBut _ _ D.i1z.symm z1)));have up5:∀c o,c≠z->c≠TO->c≠i1->c≠i2->s.heap.get? c=some o->g5.get? c=some o:=λc o c1 c2 c3 c4 e=>b5.extBut _ _ c2 (b4.extBut _ _ c4 (up3 c o c1 c2 c3 e));have s5:cJ g5 i1 x tk (k+1):=i2'.at' λo e=>b5.extBut _ _ D.TOi1.symm (b4.extBut _ _ D.i12 (b3.extBut _ _ D.TOi1.symm e));have j5:LQ g5 i2 t items (k+1):=j4.at (λo e=>b5.extBut _ _ D.TOi2.symm e) λo e=>b5.extBut _ _ D.tTO e;show wpAny _ _ (Builtin.SmallTypes.ownedTupleHandOut (.ref z) (.ref g5.objs.size) >>=_) _ _ _;refine wpAny_bind ?_;unfold Builtin.SmallTypes.ownedTupleHandOut;have z6:(g5.push {cls:=.type "tuple",data:=.seq #[.str ⟨#[c]⟩ u,y]}).get? z=some (pM .ellipsis f1 TI TO):=get?_push_of_some _ z5;refine wpAny_bind (wpAny_setField_rec z6 (by simp) λg7 z7 b7=>?_);replace z7:g7.get? z=some (pM (rawInt g5.objs.size) f1 TI TO):=z7;refine wpAny_setField_rec z7 (by simp) λg8 z8 b8=>?_;replace z8:g8.get? z=some (pM (rawInt g5.objs.size) (.bool false) TI TO):=z8;have up:∀c o,c≠z->g5.get? c=some o->g8.get? c=some o:=λc o c1 e=>b8.extBut _ _ c1 (b7.extBut _ _ c1 (get?_push_of_some _ e));have zlt:z<g5.objs.size:=lt_size z5;have T8:IsPair g8 g5.objs.size (.str ⟨#[c]⟩ u) y:=b8.extBut _ _ (ne_of_gt zlt) (b7.extBut _ _ (ne_of_gt zlt) (get?_push_size _ rfl));refine wpAny_pure ⟨_,rfl,?_⟩;refine hQ g8 g5.objs.size u tk2 ⟨⟨_,_,z8,.inr ⟨g5.objs.size,_,rfl,T8,ne_of_gt zlt,ne_of_gt (lt_size o5),ne_of_gt s5.lt,?_⟩⟩,up _ _ D.TIz (up5 _ _ D.TIz D.TITO D.TIi1 D.TIi2 hTI),⟨_,_,up _ _ D.TOz o5⟩,s5.at' λo e=>up _ _ D.i1z e,j5.at (λo e=>up _ _ D.i2z e) λo e=>up _ _ D.tz e⟩ T8 (le_of_eq sz.symm) λc o c1 c2 c3 c4 e=>up c o c1 (up5 c o c1 c2 c3 c4 e);exact ne_of_gt j5.lt
 ·refine wpAny_bind (wpAny_field hz rfl (x:=rawInt (q:Nat)) rfl ?_);show wpAny _ _ (loadIfAlive ((q:Int)).toNat >>=_) _ _ _;refine wpAny_bind ?_;unfold loadIfAlive;refine alive (o:=oq) (by simpa using hq) (wpAny_pure ?_);simp only [Option.isNone_some,false_eq_true,if_false];refine wpAny_bind (wpAny_field hz rfl (x:=f1) rfl ?_);refine wpAny_mono (Q:=λr s'=>r=false/\∃g1 f1',s'={s with heap:=g1}/\g1.get? z=some (pM (rawInt (q:Nat)) f1' TI TO)/\SameBut z s.heap g1) ?_ (λr s' hr=>?_) (λ_ _ e=>e)
  ·by_cases hb:(f1 != Value.bool true)=true
   ·rw[if_pos hb];exact wpAny_bind (wpAny_setField_rec hz (by simp) λg1 z1 b1=>wpAny_pure ⟨rfl,g1,.bool true,rfl,z1,b1⟩)
   ·rw[if_neg hb];exact wpAny_pure ⟨rfl,s.heap,f1,rfl,hz,.refl ..⟩
  obtain ⟨rfl,g1,f1',rfl,z1,b1⟩:=hr;simp only [false_eq_true,if_false];refine wpAny_bind ?_;simp only [List.forIn_toArray,forIn_cons,forIn_nil];refine wpAny_bind (wpAny_bind (wpAny_holding ?_));show wpAny _ _ (Builtin.SmallTypes.nextOf (.ref i1) >>=_) _ _ _;refine wpAny_bind (AM (h1.at' λo e=>b1.extBut _ _ D.i1z e) hx λg2 u tk2 i2' b2=>wpAny_pure ?_);refine wpAny_pure ?_;refine wpAny_bind (wpAny_bind (wpAny_holding ?_));show wpAny _ _ (Builtin.SmallTypes.nextOf (.ref i2) >>=_) _ _ _;have up2:∀c o,c≠z->c≠i1->s.heap.get? c=some o->g2.get? c=some o:=λc o c1 c3 e=>b2.extBut _ _ c3 (b1.extBut _ _ c1 e);refine wpAny_bind (vI (h2.at (λo e=>up2 _ _ D.i2z D.i12.symm e) λo e=>up2 _ _ D.tz D.ti1 e) D.ti2 hy λg4 j4 b4=>wpAny_pure ?_);refine wpAny_pure (wpAny_pure ?_);refine wpAny_bind (wpAny_newTuple (hsz:=by show 2<=sizeLine;decide) ?_);have up4:∀c o,c≠z->c≠i1->c≠i2->s.heap.get? c=some o->g4.get? c=some o:=λc o c1 c3 c4 e=>b4.extBut _ _ c4 (up2 c o c1 c3 e);have sz:g4.objs.size=s.heap.objs.size:=by rw[b4.1,b2.1,b1.1]
  have z4:g4.get? z=some (pM (rawInt (q:Nat)) f1' TI TO):=b4.extBut _ _ D.i2z.symm (b2.extBut _ _ D.i1z.symm z1);refine wpAny_pure ⟨_,rfl,?_⟩;refine hQ _ g4.objs.size u tk2 ⟨⟨_,_,get?_push_of_some _ z4,.inr ⟨q,oq,rfl,get?_push_of_some _ (up4 _ _ q1 q3 q4 hq),q1,q2,q3,q4⟩⟩,get?_push_of_some _ (up4 _ _ D.TIz D.TIi1 D.TIi2 hTI),⟨_,_,get?_push_of_some _ (up4 _ _ D.TOz D.TOi1 D.TOi2 hTO)⟩,
   i2'.at' λo e=>get?_push_of_some _ (b4.extBut _ _ D.i12 e),j4.at (λo e=>get?_push_of_some _ e) λo e=>get?_push_of_some _ e⟩ (get?_push_size _ rfl) (le_of_eq sz.symm) λc o c1 c2 c3 c4 e=>get?_push_of_some _ (up4 c o c1 c3 c4 e)
theorem MA {z TI TO i1 i2 t:Addr} {x:Str} {tk:Tok} {items:Array Value} {k:Nat} {Q:Fin->Shared->Prop} (hh:A.handled=none) (D:Apart z TI TO i1 i2 t) (S:xD s.heap z TI TO i1 i2 t x tk items k) (hx:x.cps[k]?=none)
  (hE:∀h' e,(∀b o,b≠z->b≠TO->b≠i1->b≠i2->s.heap.get? b=some o->h'.get? b=some o)->(∃o,h'.get? e=some o/\o.cls=.type "StopIteration")->E (.ref e) {s with heap:=h'}):
  wpAny (model prog w) A (Builtin.«zip.__next__» ⟨[.ref z],[]⟩) Q E s:=by
 obtain ⟨⟨f0,f1,hz,hf⟩,hTI,⟨a,b,hTO⟩,h1,h2⟩:=S;show wpAny _ _ (field (.ref z) 2 >>=_) _ _ _;refine wpAny_bind (wpAny_field hz rfl (x:=.bool false) rfl ?_);show wpAny _ _ (field (.ref z) 3 >>=_) _ _ _;refine wpAny_bind (wpAny_field hz rfl (x:=.ref TI) rfl ?_);refine wpAny_bind (wpAny_seqItems hTI rfl ?_);show wpAny _ _ (Builtin.SmallTypes.ownedTupleIsFree (.ref z) >>=_) _ _ _;refine wpAny_bind ?_;unfold Builtin.SmallTypes.ownedTupleIsFree;rcases hf with rfl|⟨q,oq,rfl,hq,q1,q2,q3,q4⟩
 ·refine wpAny_bind (wpAny_field hz rfl (x:=.none) rfl (wpAny_pure ?_));simp only [if_true];refine wpAny_bind (wpAny_rule ?_);refine wpAny_bind (wpAny_field hz rfl (x:=.ref TO) rfl ?_);refine wpAny_bind (wpAny_setField_rec hz (by simp) λg1 z1 b1=>?_);replace z1:g1.get? z=some (pM .ellipsis f1 TI TO):=z1;refine wpAny_bind ?_;simp only [List.zipIdx_cons,List.zipIdx_nil,forIn_cons,forIn_nil];refine wpAny_bind (wpAny_bind (wpAny_onRaise ?_));show wpAny _ _ (Builtin.SmallTypes.nextOf (.ref i1) >>=_) _ _ _;refine wpAny_bind (lI hh (h1.at' λo e=>b1.extBut _ _ D.i1z e) hx λg2 e b2 he=>?_);obtain ⟨oe,hoe,hce⟩:=he;have z2:g2.get? z=some (pM .ellipsis f1 TI TO):=b2 _ _ D.i1z.symm z1;have ne:e≠z:=λy=>by
   subst y;rw[z2] at hoe;cases hoe;have c':(Value.type "zip")=.type "StopIteration":=hce;simp at c'
  exact wpAny_setField_rec z2 (by simp) λg3 _ b3=>hE g3 e (λc o c1 _ c3 _ y=>b3.extBut _ _ c1 (b2 _ _ c3 (b1.extBut _ _ c1 y))) ⟨oe,b3.extBut _ _ ne hoe,hce⟩
 ·refine wpAny_bind (wpAny_field hz rfl (x:=rawInt (q:Nat)) rfl ?_);show wpAny _ _ (loadIfAlive ((q:Int)).toNat >>=_) _ _ _;refine wpAny_bind ?_;unfold loadIfAlive;refine alive (o:=oq) (by simpa using hq) (wpAny_pure ?_);simp only [Option.isNone_some,false_eq_true,if_false];refine wpAny_bind (wpAny_field hz rfl (x:=f1) rfl ?_);refine wpAny_mono (Q:=λr s'=>r=false/\∃g1,s'={s with heap:=g1}/\SameBut z s.heap g1) ?_ (λr s' hr=>?_) (λ_ _ e=>e)
  ·by_cases hb:(f1 != Value.bool true)=true
   ·rw[if_pos hb];exact wpAny_bind (wpAny_setField_rec hz (by simp) λg1 z1 b1=>wpAny_pure ⟨rfl,g1,rfl,b1⟩)
   ·rw[if_neg hb];exact wpAny_pure ⟨rfl,s.heap,rfl,.refl ..⟩
  obtain ⟨rfl,g1,rfl,b1⟩:=hr;simp only [false_eq_true,if_false];refine wpAny_bind ?_;simp only [List.forIn_toArray,forIn_cons,forIn_nil];refine wpAny_bind (wpAny_bind (wpAny_holding ?_));show wpAny _ _ (Builtin.SmallTypes.nextOf (.ref i1) >>=_) _ _ _;exact wpAny_bind (lI hh (h1.at' λo e=>b1.extBut _ _ D.i1z e) hx λg2 e b2 he=>hE g2 e (λc o c1 _ c3 _ y=>b2 _ _ c3 (b1.extBut _ _ c1 y)) he)
theorem MZ {z TI TO i1 i2 t:Addr} (D:Apart z TI TO i1 i2 t) (S:xD s.heap z TI TO i1 i2 t x tk items k) (hx:x.cps[k]?=some c) (hy:items[k]?=some y)
  (hQ:∀h' T u tk',xD h' z TI TO i1 i2 t x tk items (k+1)->IsPair h' T (.str ⟨#[c]⟩ u) y->s.heap.objs.size<=T->(∀b o,b≠z->b≠TO->b≠i1->b≠i2->s.heap.get? b=some o->h'.get? b=some o)->Q (some (.ref T)) {s with heap:=h',toks:=tk'}):
  wpAny (model prog w) A (pyNext (.ref z)) Q E s:=by
 have hT:s.TypeIs (.ref z) "zip":=let ⟨_,_,e,_⟩:=S.zip;⟨_,e,rfl⟩;unfold pyNext;exact wpAny_bind (wpAny_attempt (wpAny_callSpecial?_slot (name:=Str.ofString "__next__") hT F.slot_zip_next
  (wpAny_call_entry F.slot_zip_next hT F.entry_zip_next (EV D S hx hy λh' T u tk' a1 a2 a3 a4=>wpAny_pure (hQ h' T u tk' a1 a2 a3 a4)) (F.args_zip_next_1 _))))
theorem TR {z TI TO i1 i2 t:Addr} (hh:A.handled=none) (D:Apart z TI TO i1 i2 t) (S:xD s.heap z TI TO i1 i2 t x tk items k) (hx:x.cps[k]?=none)
  (hQ:∀h',(∀b o,b≠z->b≠TO->b≠i1->b≠i2->s.heap.get? b=some o->h'.get? b=some o)->Q none {s with heap:=h'}):wpAny (model prog w) A (pyNext (.ref z)) Q E s:=by
 have hT:s.TypeIs (.ref z) "zip":=let ⟨_,_,e,_⟩:=S.zip;⟨_,e,rfl⟩;unfold pyNext;refine wpAny_bind (wpAny_attempt (wpAny_callSpecial?_slot (name:=Str.ofString "__next__") hT F.slot_zip_next
  (wpAny_call_entry F.slot_zip_next hT F.entry_zip_next (MA hh D S hx λh' e hk he=>?_) (F.args_zip_next_1 _))))
 obtain ⟨o,ho,hc⟩:=he;refine wpAny_bind (wpAny_isInstance (T:="StopIteration") (b:=true) ⟨o,ho,hc⟩ isSubtype_stop ?_);exact wpAny_pure (hQ _ hk)
end
theorem JU:entryFor table "zip.__getattribute__"=some Builtin.«object.__getattribute__»:=
 entryFor_alias (id':="object.__getattribute__") (by kernel_rfl) (by decide+kernel) (by decide+kernel) (by kernel_rfl)
theorem NW:typeLookup (.type "zip") "keys"=pure none:=by rw[typeLookup_type,builtinLookup_eq_fast];kernel_rfl
theorem yN:typeLookup (.type "zip") "__getattr__"=pure none:=by rw[typeLookup_type,builtinLookup_eq_fast];kernel_rfl
theorem yP (a:Addr) (vs:Array Value) (name:Str) (u:Tok) (hmiss:typeLookup (.type "zip") name=pure none) (hname:(["__module__","__name__","__qualname__","__doc__","__annotations__"]:List Str).contains name=false) (hsz:name.length+100<=sizeLine):
  Meets (Builtin.«object.__getattribute__» ⟨[.ref a,.str name u],[]⟩) (λA R s=>s.heap.get? a=some {cls:=.type "zip",dict:=none,data:=.fields vs,slots:=#[]}/\raisesAttr (.ref a) name A R s):=
 Meets.of_wp λprog w A R s hs=>by
  obtain ⟨hp,g,d,tk,os⟩:=s;obtain ⟨hx,hs⟩:=hs;have hT:(⟨hp,g,d,tk,os⟩:Shared).TypeIs (.ref a) "zip":=⟨_,hx,rfl⟩;unfold Builtin.«object.__getattribute__»
  repeat (any_goals (first|assumption|wp_step))
  simp only [hname,false_eq_true,if_false]
  repeat (any_goals (first|assumption|wp_step))
  exact wpAny_raiseAttrError hs.1 hs.2 (attrMsg_fits (by decide+kernel) hsz)
section
variable {prog:Program} {w:World} {A:Around} {E:Value->Shared->Prop} {s:Shared}
theorem sS (hx:s.heap.get? a=some {cls:=.type "zip",dict:=none,data:=.fields vs,slots:=#[]}) (hA:A.handled=none)
  (h:∀h' tk,(∀b o,s.heap.get? b=some o->h'.get? b=some o)->Q none {s with heap:=h',toks:=tk}):wpAny (model prog w) A (getAttr? (.ref a) "keys") Q E s:=by
 obtain ⟨hp,g,d,tk,os⟩:=s;have hT:∀tk',(⟨hp,g,d,tk',os⟩:Shared).TypeIs (.ref a) "zip":=λ_=>⟨_,hx,rfl⟩;have f1:=sub_AttributeError;have f3:=F.slot_zip_getattribute.lookup;have f4:=F.slot_zip_getattribute.bind (.ref a);have f5:=yN;unfold getAttr? getAttrBy? getAttrBy
 repeat (any_goals (first|assumption|exact hT _|((with_reducible show wpAny _ _ (call (Value.builtin "zip.__getattribute__") _ _) _ _ _);refine call_meets F.slot_zip_getattribute (hT _) JU (F.args_zip_getattribute_2 _ _) (yP a vs "keys" _ NW (by decide+kernel) (by decide+kernel)) ⟨hx,hA,λh' tk' e hx'=>?_⟩)|wp_step))
 obtain ⟨t',u',he⟩:=hx'.there;show wpAny _ _ (getattributeRaised _ _ _ _ _ _ _) _ _ _;unfold getattributeRaised
 repeat (any_goals (first|assumption|wp_step))
 exact h _ _ hx'.keeps
end
end ZD
namespace ZD
open PySem PySem.Spec PyProof.Rows
theorem oH:entryFor table "dict.update.loop"=some Builtin.«dict.update.loop»:=entryFor_of_tree (by kernel_rfl)
theorem fJ:plainId "dict.update.loop"=true:=by decide+kernel
noncomputable def storeAll {K:Type} [DecidableEq K] (kk:Nat->K) (items:Array Value):Nat->Nat->List (K × Value)->List (K × Value)
 |0,_,kvs=>kvs
 |n+1,k,kvs=>storeAll kk items n (k+1) (stored kvs (kk k) (items[k]?.getD .none))
theorem xU {K:Type} [DecidableEq K] (kvs:List (K × Value)) (k:K) (v:Value):(stored kvs k v).length<=kvs.length+1:=by
 unfold stored;split
 ·simp
 ·simp
theorem xD.but {d z TI TO i1 i2 t:Addr} (y:xD h z TI TO i1 i2 t x tk items k) (sb:SameBut d h h') (d1:d≠z) (d2:d≠TO) (d3:d≠i1) (d4:d≠i2) (d5:d≠TI) (d6:d≠t) (ob:∃o,h'.get? d=some o):
  xD h' z TI TO i1 i2 t x tk items k:=by
 obtain ⟨⟨f0,f1,e,r⟩,p1,⟨a,b,p2⟩,s1,s2⟩:=y;refine ⟨⟨f0,f1,sb.extBut _ _ d1.symm e,?_⟩,sb.extBut _ _ d5.symm p1,⟨a,b,sb.extBut _ _ d2.symm p2⟩,s1.at' λo e=>sb.extBut _ _ d3.symm e,s2.at (λo e=>sb.extBut _ _ d4.symm e) λo e=>sb.extBut _ _ d6.symm e⟩;rcases r with r|⟨a,o,r1,r2,r3⟩
 ·exact .inl r
 ·by_cases ha:a=d
  ·obtain ⟨o',e'⟩:=ob;exact .inr ⟨a,o',r1,by rw[ha];exact e',r3⟩
  ·exact .inr ⟨a,o,r1,sb.extBut _ _ ha r2,r3⟩
section
variable {prog:Program} {w:World} {A:Around} {K:Type} [DecidableEq K] {knd:KeyKind prog w K} {R:Result->Shared->Prop} {d z TI TO i1 i2 t:Addr} {x:Str} {tk:Tok} {items:Array Value}
theorem FF (hk:∀i c u,x.cps[i]?=some c->knd.is (kk i) (.str ⟨#[c]⟩ u)=true) (D:Apart z TI TO i1 i2 t) (hh:A.handled=none) (d1:d≠z) (d2:d≠TO) (d3:d≠i1) (d4:d≠i2) (d5:d≠TI) (d6:d≠t) (hsz:x.cps.size=items.size) (hle:x.cps.size<=1000):
  ∀(n k:Nat) (j:Int) (s:Shared) (kvs:List (K × Value)),k+n=x.cps.size->xD s.heap z TI TO i1 i2 t x tk items k->s.heap.DictOf knd d kvs->kvs.length<=k->
   (∀h' tk',h'.DictOf knd d (storeAll kk items n k kvs)->(∀b o,b≠z->b≠TO->b≠i1->b≠i2->b≠d->s.heap.get? b=some o->h'.get? b=some o)->R (.ok (.ret .none)) {s with heap:=h',toks:=tk'})->
   codeAny (model prog w) A (.builtin "dict.update.loop" ⟨[.ref d,.ref z,rawInt j,.none],[]⟩) R s:=by
 intro n;induction n with
 |zero=>
  intro k j s kvs hkn S hd hl hR;refine codeAny_builtin oH ?_;rw[Around.under_plainId fJ _];show wpAny _ A.in1 (pyNext (.ref z) >>=_) _ _ s;refine wpAny_bind (TR hh D S (by simp;lia) λh' hk'=>?_);show wpAny _ _ (Builtin.Dict.addKeywords d [] >>=_) _ _ _;refine wpAny_bind (wpAny_pure (wpAny_pure ?_));exact hR h' s.toks (let ⟨o,es,ep,ho,r⟩:=hd;⟨o,es,ep,hk' d o d1 d2 d3 d4 ho,r⟩) λb o b1 b2 b3 b4 _ e=>hk' b o b1 b2 b3 b4 e
 |succ n ih=>
  intro k j s kvs hkn S hd hl hR;have hkx:k<x.cps.size:=by lia
  have hx:x.cps[k]?=some x.cps[k]:=by simp [hkx]
  have hy:items[k]?=some items[k]:=by simp
  refine codeAny_builtin oH ?_;rw[Around.under_plainId fJ _];show wpAny _ A.in1 (pyNext (.ref z) >>=_) _ _ s;refine wpAny_bind (MZ D S hx hy λh' T u tk' S' pT hT hk'=>?_);refine wpAny_bind (wpAny_holding ?_);have hTy:(⟨h',s.gens,s.drawn,tk',s.os⟩:Shared).TypeIs (.ref T) "tuple":=⟨_,pT,rfl⟩;refine wpAny_bind (wpAny_tryCatch ?_);unfold Builtin.Dict.pairItems;refine wpAny_bind (wpAny_typeOf hTy ?_);rw[if_pos (by decide)];refine wpAny_bind (wpAny_seqItems (s:=⟨h',s.gens,s.drawn,tk',s.os⟩) pT rfl (wpAny_pure ?_));show wpAny _ _ (holding [.str ⟨#[x.cps[k]]⟩ u,items[k]] (dictSet d (.str ⟨#[x.cps[k]]⟩ u) items[k])) _ _ _;have hd':h'.DictOf knd d kvs:=let ⟨o,es,ep,ho,r⟩:=hd;⟨o,es,ep,hk' d o d1 d2 d3 d4 ho,r⟩;refine wpAny_holding (wpAny_dictSet_pairs (s:=⟨h',s.gens,s.drawn,tk',s.os⟩) (hk k _ u hx) hd' (λh2 hd2 sb=>?_) (le_of_lt (Nat.lt_of_le_of_lt (show kvs.length<=1000 by lia) (by decide))));refine wpAny_pure ⟨plainId_quiet fJ _,?_⟩;have ob:∃o,h2.get? d=some o:=let ⟨o,_,_,ho,_⟩:=hd2;⟨o,ho⟩;refine ih (k+1) (j+1) _ _ (by lia) (S'.but sb d1 d2 d3 d4 d5 d6 ob) hd2 ?_ (λh3 tk3 hd3 hk3=>?_)
  ·have:=xU kvs (kk k) items[k];lia
  ·have e:storeAll kk items (n+1) k kvs=storeAll kk items n (k+1) (stored kvs (kk k) items[k]):=by
    show storeAll kk items n (k+1) (stored kvs (kk k) (items[k]?.getD .none))=_;rw[hy];rfl
   refine hR h3 tk3 (by rw[e];exact hd3) λb o b1 b2 b3 b4 b5 eb=>hk3 b o b1 b2 b3 b4 b5 (sb.extBut b o b5 (hk' b o b1 b2 b3 b4 eb))
end
end ZD
namespace ZD
open PySem PySem.Spec PyProof.Rows
noncomputable abbrev zA (h:Heap) (x:Str) (tk:Tok):Heap:=h.push {cls:=.type "str_ascii_iterator",data:=.fields #[.str x tk,.int 0 0]}
noncomputable abbrev zB (T:String) (h:Heap) (x:Str) (tk:Tok) (t:Addr):Heap:=(zA h x tk).push {cls:=.type T,data:=.fields #[.ref t,.int 0 0]}
noncomputable abbrev zC (T:String) (h:Heap) (x:Str) (tk:Tok) (t:Addr):Heap:=(zB T h x tk t).push {cls:=.type "tuple",data:=.seq #[.ref h.objs.size,.ref (zA h x tk).objs.size]}
noncomputable abbrev zD (T:String) (h:Heap) (x:Str) (tk:Tok) (t:Addr):Heap:=(zC T h x tk t).push {cls:=.type "tuple",data:=.seq #[.none,.none]}
noncomputable abbrev zE (T:String) (h:Heap) (x:Str) (tk:Tok) (t:Addr):Heap:=(zD T h x tk t).push {cls:=.type "zip",data:=.fields #[.none,.bool false,.bool false,.ref (zB T h x tk t).objs.size,.ref (zC T h x tk t).objs.size]}
theorem DC (x:Str) (tk:Tok) (t:Addr) (items:Array Value) (ha:x.cps.all (·<128)=true):
  Meets (Builtin.«zip.__new__» ⟨[.type "zip",.str x tk,.ref t],[]⟩) (λ_ R s=>s.heap.IsTuple t items/\R (.ok (.ret (.ref (zD "tuple_iterator" s.heap x tk t).objs.size))) {s with heap:=zE "tuple_iterator" s.heap x tk t}):=
 .of_wp λprog w A R s h=>by
  obtain ⟨hp,g,d,tks,os⟩:=s;obtain ⟨ht,h⟩:=h;have hsub:=sub_zip;have hT:Heap.IsTuple (Shared.heap ⟨hp.push {cls:=.type "str_ascii_iterator",data:=.fields #[.str x tk,.int 0 0]},g,d,tks,os⟩) t items:=let ⟨o,e,r⟩:=ht;⟨o,get?_push_of_some _ e,r⟩
  wp_walk using wpAny_pyIter_ascii (t:=tk) ha,wpAny_pyIter_tuple hT
  exact ⟨_,rfl,h⟩
theorem yO (x:Str) (tk:Tok) (t:Addr) (items:Array Value) (ha:x.cps.all (·<128)=true):
  Meets (Builtin.«zip.__new__» ⟨[.type "zip",.str x tk,.ref t],[]⟩) (λ_ R s=>s.heap.IsList t items/\R (.ok (.ret (.ref (zD "list_iterator" s.heap x tk t).objs.size))) {s with heap:=zE "list_iterator" s.heap x tk t}):=
 .of_wp λprog w A R s h=>by
  obtain ⟨hp,g,d,tks,os⟩:=s;obtain ⟨ht,h⟩:=h;have hsub:=sub_zip;have hT:Heap.IsList (Shared.heap ⟨hp.push {cls:=.type "str_ascii_iterator",data:=.fields #[.str x tk,.int 0 0]},g,d,tks,os⟩) t items:=let ⟨o,e,r⟩:=ht;⟨o,get?_push_of_some _ e,r⟩
  wp_walk using wpAny_pyIter_ascii (t:=tk) ha,wpAny_pyIter_list hT
  exact ⟨_,rfl,h⟩
section
variable {prog:Program} {w:World} {A:Around} {E:Value->Shared->Prop} {s:Shared}
theorem EU (T:String) (hT:T="tuple_iterator"\/T="list_iterator") {x:Str} {tk:Tok} {t:Addr} {items:Array Value} {Q:Value->Shared->Prop} (ht:(T="tuple_iterator"/\s.heap.IsTuple t items)\/(T="list_iterator"/\s.heap.IsList t items))
  (h:∀h',xD h' (s.heap.objs.size+4) (s.heap.objs.size+2) (s.heap.objs.size+3) s.heap.objs.size (s.heap.objs.size+1) t x tk items 0->h'.objs.size=s.heap.objs.size+5->(∀c o,s.heap.get? c=some o->h'.get? c=some o)->Q (.ref (s.heap.objs.size+4)) {s with heap:=h'}):
  ({s with heap:=zE T s.heap x tk t}:Shared).TypeIs (.ref (zD T s.heap x tk t).objs.size) "zip"/\Q (.ref (zD T s.heap x tk t).objs.size) {s with heap:=zE T s.heap x tk t}:=by
 have z1:(zA s.heap x tk).objs.size=s.heap.objs.size+1:=Heap.size_push ..;have z2:(zB T s.heap x tk t).objs.size=s.heap.objs.size+2:=by rw[Heap.size_push,z1]
 have z3:(zC T s.heap x tk t).objs.size=s.heap.objs.size+3:=by rw[Heap.size_push,z2]
 have z4:(zD T s.heap x tk t).objs.size=s.heap.objs.size+4:=by rw[Heap.size_push,z3]
 have z5:(zE T s.heap x tk t).objs.size=s.heap.objs.size+5:=by rw[Heap.size_push,z4]
 have g5:(zE T s.heap x tk t).get? (zD T s.heap x tk t).objs.size=some _:=get?_push_size _ rfl;have g4:(zE T s.heap x tk t).get? (zC T s.heap x tk t).objs.size=some _:=get?_push_of_some _ (get?_push_size _ rfl);have g3:(zE T s.heap x tk t).get? (zB T s.heap x tk t).objs.size=some _:=get?_push_of_some _ (get?_push_of_some _ (get?_push_size _ rfl));have g2:(zE T s.heap x tk t).get? (zA s.heap x tk).objs.size=some _:=get?_push_of_some _ (get?_push_of_some _ (get?_push_of_some _ (get?_push_size _ rfl)));have g1:(zE T s.heap x tk t).get? s.heap.objs.size=some _:=get?_push_of_some _ (get?_push_of_some _ (get?_push_of_some _ (get?_push_of_some _ (get?_push_size _ rfl))));have up:∀c o,s.heap.get? c=some o->(zE T s.heap x tk t).get? c=some o:=λc o y=>get?_push_of_some _ (get?_push_of_some _ (get?_push_of_some _ (get?_push_of_some _ (get?_push_of_some _ y))));rw[z2,z3,z4] at g5;rw[z1,z2] at g3;rw[z3] at g4;rw[z1] at g2;rw[z4];refine ⟨⟨_,g5,rfl⟩,h _ ⟨⟨_,_,g5,.inl rfl⟩,g3,⟨_,_,g4⟩,⟨_,.inl rfl,_,g1,rfl,rfl⟩,?_⟩ z5 up⟩;rcases ht with ⟨rfl,o,e,r⟩|⟨rfl,o,e,r⟩
 ·exact .inl ⟨⟨_,g2,rfl,rfl⟩,o,up _ _ e,r⟩
 ·exact .inr ⟨⟨_,g2,rfl,rfl⟩,o,up _ _ e,r⟩
theorem KW (ha:x.cps.all (·<128)=true) (ht:s.heap.IsTuple t items\/s.heap.IsList t items)
  (h:∀h',xD h' (s.heap.objs.size+4) (s.heap.objs.size+2) (s.heap.objs.size+3) s.heap.objs.size (s.heap.objs.size+1) t x tk items 0->h'.objs.size=s.heap.objs.size+5->(∀c o,s.heap.get? c=some o->h'.get? c=some o)->Q (.ref (s.heap.objs.size+4)) {s with heap:=h'}):
  wpAny (model prog w) A (call (.type "zip") [.str x tk,.ref t]) Q E s:=by
 rcases ht with ht|ht
 ·exact callType_new F.called_zip (by decide) (F.typeCall_zip_2 _ _) (F.newCall_zip_2 _ _) (λobj=>F.args_object_init_3 obj _ _) F.entry_zip_new (DC x tk t items ha) ⟨ht,EU "tuple_iterator" (.inl rfl) (.inl ⟨rfl,ht⟩) h⟩
 ·exact callType_new F.called_zip (by decide) (F.typeCall_zip_2 _ _) (F.newCall_zip_2 _ _) (λobj=>F.args_object_init_3 obj _ _) F.entry_zip_new (yO x tk t items ha) ⟨ht,EU "list_iterator" (.inr rfl) (.inr ⟨rfl,ht⟩) h⟩
theorem apart_new {n t:Nat} (h:t<n):Apart (n+4) (n+2) (n+3) n (n+1) t:=by
 constructor<;>(intro (e:(_:Nat)=_);lia)
end
end ZD
namespace ZD
open PySem PySem.Spec PyProof.Rows
section
variable {prog:Program} {w:World} {A:Around} {E:Value->Shared->Prop} {s:Shared}
theorem wF {K:Type} [DecidableEq K] {knd:KeyKind prog w K} {z TI TO i1 i2 t:Addr} {x:Str} {tk:Tok} {items:Array Value} {kk:Nat->K} {Q:Value->Shared->Prop} (hk:∀i c u,x.cps[i]?=some c->knd.is (kk i) (.str ⟨#[c]⟩ u)=true) (D:Apart z TI TO i1 i2 t) (hh:A.handled=none)
  (hsz:x.cps.size=items.size) (hle:x.cps.size<=1000) (S:xD s.heap z TI TO i1 i2 t x tk items 0)
  (h:∀h' d tk',s.heap.objs.size<=d->h'.DictOf knd d (storeAll kk items x.cps.size 0 [])->(∀b o,b≠z->b≠TO->b≠i1->b≠i2->s.heap.get? b=some o->h'.get? b=some o)->Q (.ref d) {s with heap:=h',toks:=tk'}):
  wpAny (model prog w) A (call (.type "dict") [.ref z]) Q E s:=by
 refine callType_codes (Q₁:=λobj aa=>obj=.ref s.heap.objs.size/\aa={s with heap:=s.heap.push {cls:=.type "dict",data:=.dict #[]}}) F.kt_called_dict (F.kt_typeCall_dict_1 _) F.entry_dict_init (kt_code_dict_new _ ⟨rfl,rfl⟩) ?_;rintro obj aa ⟨rfl,rfl⟩;have hnew:(s.heap.push {cls:=.type "dict",data:=.dict #[]}).DictOf knd s.heap.objs.size []:=DictOf.new s.heap;have S1:=S.keep (h':=s.heap.push {cls:=.type "dict",data:=.dict #[]}) λb o e=>get?_push_of_some _ e;refine ⟨hnew.typeIs,F.args_dict_init_2 _ _,?_⟩;unfold Builtin.«dict.__init__»;refine wpAny_bind ?_;unfold Builtin.Dict.selfAndRest;refine wpAny_bind (wpAny_notOrdered_dict hnew.typeIs ?_);show wpAny _ _ (pure (s.heap.objs.size,[Value.ref z])) _ _ _;refine wpAny_pure ?_;show wpAny _ _ (Builtin.Dict.updateFrom "dict.__init__" s.heap.objs.size (.ref z) [] .none) _ _ _;unfold Builtin.Dict.updateFrom;obtain ⟨f0,f1,ez,_⟩:=S1.zip;have hTz:(⟨s.heap.push {cls:=.type "dict",data:=.dict #[]},s.gens,s.drawn,s.toks,s.os⟩:Shared).TypeIs (.ref z) "zip":=⟨_,ez,rfl⟩;refine wpAny_bind (wpAny_typeOf hTz ?_);rw[if_pos (by decide)];refine wpAny_bind (sS ez hh λh1 tk1 k1=>?_);simp only [Option.isNone_none,if_true];refine wpAny_bind (wpAny_rule ?_);have S2:=S1.keep k1;obtain ⟨f0',f1',ez2,_⟩:=id S2.zip;have hT2:(⟨h1,s.gens,s.drawn,tk1,s.os⟩:Shared).TypeIs (.ref z) "zip":=⟨_,ez2,rfl⟩;have lt:∀{b:Addr} {o:Obj},s.heap.get? b=some o->s.heap.objs.size≠b:=λe=>ne_of_gt (lt_size e);obtain ⟨⟨g0,g1,e0,_⟩,e1,⟨pa,pb,e2⟩,s1,s2⟩:=id S;refine wpAny_bind ?_;refine wpAny_pyIter_slot hT2 F.slot_zip_iter (wpAny_call_entry F.slot_zip_iter hT2 F.entry_zip_iter ?_ (F.args_zip_iter_1 _));show wpAny _ _ (ret (.ref z)) _ _ _;refine wpAny_pure ⟨_,rfl,"zip",_,hT2,F.slot_zip_next.lookup,?_⟩;refine wpAny_pure ⟨plainId_quiet fJ _,?_⟩;have hd1:h1.DictOf knd s.heap.objs.size []:=let ⟨o,es,ep,ho,r⟩:=hnew;⟨o,es,ep,k1 _ o ho,r⟩;refine FF (A:=A.in1) hk D hh (lt e0) (lt e2) (ne_of_gt s1.lt) (ne_of_gt s2.lt) (lt e1) (ne_of_gt s2.ltT) hsz hle x.cps.size 0 0 ⟨h1,s.gens,s.drawn,tk1,s.os⟩ [] (by lia) S2 hd1 (zero_le _) λh2 tk2 hd2 hk2=>?_;refine ⟨rfl,?_⟩;exact h h2 _ tk2 (Nat.le_refl _) hd2 λb o b1 b2 b3 b4 e=>hk2 b o b1 b2 b3 b4 (lt e).symm (k1 b o (get?_push_of_some _ e))
end
end ZD
namespace L2.L3
open PySem PySem.Spec PyProof.Rows
section
variable {X:Cx}
theorem mT:∀{us:List Value},Vals (ys.map V.str) us->StrsAre us ys:=by
 induction ys with
 |nil=>intro us r;rw[map_nil] at r;cases r;exact .nil
 |cons y ys ih=>
  intro us r;rw[map_cons] at r;cases r with
  |cons r1 r2=>
   obtain ⟨t,e⟩:=r1;subst e;exact .cons y t (ih r2)
noncomputable def rJoin:V->List V->Hp->VK->Prop:=λx vs H Q=>∃(z:Str) (p:Addr) (ys:List Str),x=.str z/\vs=[.ref p]/\H p=some (.lst (ys.map V.str))/\(ys.map (·.length)).sum+ys.length * z.length<=16777216/\Q (.str (Txt.join z ys)) H
theorem NY:RZ X "str.join" rJoin:=by
 intro pins s σ H x vs v us Q I rx rv h;obtain ⟨z,p,ys,rfl,rfl,hp,hok,q⟩:=h;obtain ⟨t,rfl⟩:=rx;obtain ⟨u,rfl,ru⟩:=rv.one;cases (show u=Value.ref p from ru);obtain ⟨hz,its,n,r,hl,e⟩:=I.lstM hp;have isl:s.heap.IsList p its.toArray:=⟨_,e,rfl,n,rfl⟩;exact join_list isl (mT r) hok λt' k=>⟨.str _,H,I.tok k,⟨t',rfl⟩,q⟩
noncomputable def TL (K:Fg):V->List V->Hp->VK->Prop:=λx vs H Q=>∃(z:Str) (p:Addr) (ys:List Str),x=.str z/\vs=[.ref p]/\bX K H p (ys.map V.str)/\(ys.map (·.length)).sum+ys.length * z.length<=16777216/\Q (.str (Txt.join z ys)) H
theorem HU:RZ X "str.join" (TL X.K):=by
 intro pins s σ H x vs v us Q I rx rv h;obtain ⟨z,p,ys,rfl,rfl,hp,hok,q⟩:=h;obtain ⟨t,rfl⟩:=rx;obtain ⟨u,rfl,ru⟩:=rv.one;cases (show u=Value.ref p from ru);obtain ⟨its,r,ht,hz⟩:=I.tuple hp;exact join_tuple ht (mT r) hok λt' k=>⟨.str _,H,I.tok k,⟨t',rfl⟩,q⟩
noncomputable def TQ:V->List V->Hp->VK->Prop:=λx vs H Q=>∃(z y:Str),x=.str z/\vs=[.str y]/\Q (.int (Txt.count z y)) H
theorem HW:RZ X "str.count" TQ:=by
 intro pins s σ H x vs v us Q I rx rv h;obtain ⟨z,y,rfl,rfl,q⟩:=h;obtain ⟨t,rfl⟩:=rx;obtain ⟨u,rfl,ru⟩:=rv.one;obtain ⟨t2,rfl⟩:=ru;exact SC.count ⟨.int _,H,I.tok _,⟨_,rfl⟩,q⟩
noncomputable def TM:V->List V->Hp->VK->Prop:=λx vs H Q=>∃(z y:Str) (i:Nat) (rest:List Nat),x=.str z/\vs=[.str y]/\Builtin.Str.occurrences z y 0 z.length 1=i::rest/\Q (.int i) H
theorem HV:RZ X "str.index" TM:=by
 intro pins s σ H x vs v us Q I rx rv h;obtain ⟨z,y,i,rest,rfl,rfl,ho,q⟩:=h;obtain ⟨t,rfl⟩:=rx;obtain ⟨u,rfl,ru⟩:=rv.one;obtain ⟨t2,rfl⟩:=ru;exact SC.index ho ⟨.int _,H,I.tok _,⟨_,rfl⟩,q⟩
noncomputable def TH:List V->Hp->VK->Prop:=λxs H Q=>∃(p:Addr) (ns:List Int),xs=[.ref p]/\H p=some (.lst (ns.map V.int))/\Q (.int ns.sum) H
theorem KY (hc:X.calm=true):bZ X (.builtin "sum") TH:=by
 intro pins s σ H xs us Q I rv h;obtain ⟨p,ns,rfl,hp,q⟩:=h;obtain ⟨u,rfl,ru⟩:=rv.one;cases (show u=Value.ref p from ru);obtain ⟨hz,its,n,r,hl,e⟩:=I.lstM hp;have isl:s.heap.IsList p its.toArray:=⟨_,e,rfl,n,rfl⟩;have hi:=intsAre_of r;have hn:numsOf its=ns:=hi.numsOf;obtain ⟨ys,ey⟩:=hi.allInts.items;have en:numsOf its=numsOf (intItems ys).toList:=by rw[<-ey]
 rw[ey] at isl;refine sum_intListG (I.ok.hd hc) isl λh' tk t' hk=>⟨.int ns.sum,H,I.kept (t':=tk) hk,⟨t',?_⟩,q⟩;rw[preSum_eq,take_of_length_le (by simp),<-hn,en,nums_intItems]
theorem stored_new {K:Type} [DecidableEq K] {kvs:List (K × Value)} {k:K} {v:Value} (h:∀p∈kvs,p.1≠k):stored kvs k v=kvs++[(k,v)]:=by
 unfold stored;rw[if_neg];intro z;obtain ⟨p,hp,e⟩:=List.any_eq_true.mp z;exact h p hp (of_decide_eq_true e)
theorem gA {K:Type} [DecidableEq K] {kk:Nat->K} {items:Array Value}:∀(n k:Nat),(∀i j,i<k+n->j<k+n->kk i=kk j->i=j)->
  ZD.storeAll kk items n k ((range k).map λi=>(kk i,items[i]?.getD .none))=(range (k+n)).map λi=>(kk i,items[i]?.getD .none)
 |0,k,_=>rfl
 |n+1,k,hi=>by
  show ZD.storeAll kk items n (k+1) (stored _ (kk k) (items[k]?.getD .none))=_;rw[stored_new]
  ·have ih:=gA (kk:=kk) (items:=items) n (k+1) (λi j a b=>hi i j (by lia) (by lia));rw[range_succ,map_append] at ih;rw[show k+(n+1)=k+1+n by lia];exact ih
  ·intro p hp;obtain ⟨i,hm,rfl⟩:=mem_map.mp hp;have hlt:=mem_range.mp hm;intro e;have:=hi i k (by lia) (by lia) e;lia
theorem nK {α β γ:Type} {R:β->γ->Prop} {f:α->β} {g:α->γ}:∀(l:List α),(∀a∈l,R (f a) (g a))->Paired R (l.map f) (l.map g)
 |[],_=>.nil
 |a::l,h=>.cons (h a mem_cons_self) (nK l λb hb=>h b (mem_cons_of_mem _ hb))
noncomputable def eP (x:Str) (i:Nat):Key:=.inr ⟨#[x.cps.getD i 0]⟩
noncomputable def iF (x:Str) (ws:List V):List (Key × V):=(range x.cps.size).map λi=>(eP x i,ws[i]?.getD .non)
noncomputable def Hv (K:Fg) (ta:TA):TE:=λσ H Q=>ta σ H λvs H1=>∃(x:Str) (t:Addr) (ws:List V),vs=[.str x,.ref t]/\(bX K H1 t ws\/aM K H1 t ws)/\x.cps.size=ws.length/\x.cps.size<=1000/\x.cps.all (·<128)=true/\(∀i j,i<x.cps.size->j<x.cps.size->eP x i=eP x j->i=j)/\
 ∀d,H1 d=none->Q (.ref d) (upd H1 d (.dK (iF x ws)))
theorem XI {pins:List (Addr × Obj)} {σ:St} {H:Hp} {s:Shared} {Q:VK} {x:Str} {tk:Tok} {t:Addr} {ws:List V} (hc:X.calm=true) (I:Inv X pins σ H s) (ht:bX X.K H t ws\/aM X.K H t ws) (hl:x.cps.size=ws.length) (hle:x.cps.size<=1000) (ha:x.cps.all (·<128)=true)
  (hinj:∀i j,i<x.cps.size->j<x.cps.size->eP x i=eP x j->i=j) (q:∀d,H d=none->Q (.ref d) (upd H d (.dK (iF x ws)))):
  wpAny (model X.prog X.w) X.A (call (.type "zip") [.str x tk,.ref t]) (λz s1=>wpAny (model X.prog X.w) X.A (call (.type "dict") [z]) (EP X pins σ Q) X.xe s1) X.xe s:=by
 obtain ⟨its,r,it,hlt⟩:∃its:List Value,Vals ws its/\(s.heap.IsTuple t its.toArray\/s.heap.IsList t its.toArray)/\t<s.heap.objs.size:=by
  rcases ht with ht|ht
  ·obtain ⟨its,r,it,hz⟩:=I.tuple ht;exact ⟨its,r,.inl it,let ⟨o,e,_⟩:=it;lt_size e⟩
  ·obtain ⟨its,r,it,hz⟩:=I.list ht;exact ⟨its,r,.inr it.isList,let ⟨o,n,e,_⟩:=it;lt_size e⟩
 have hlen:ws.length=its.length:=r.length;refine ZD.KW ha it λh1 S1 sz1 k1=>?_;refine ZD.wF (s:={s with heap:=h1}) (knd:=aX X.prog X.w) (kk:=eP x) (λi c u hx=>?_) (ZD.apart_new hlt) (I.ok.hd hc) (by rw[hl,hlen,size_toArray]) hle S1 λh2 d tk2 hd hdict k2=>?_
 ·show lK (.inr ⟨#[x.cps.getD i 0]⟩) (.str ⟨#[c]⟩ u)=true;have e:x.cps.getD i 0=c:=by
   rw[Array.getD_eq_getD_getElem?,hx];rfl
  rw[e];exact qF _ _
 ·have hd':s.heap.objs.size<=d:=by
   have:h1.objs.size<=d:=hd;lia
  have kept:∀b o,s.heap.get? b=some o->h2.get? b=some o:=λb o e=>by
   have lb:b<s.heap.objs.size:=lt_size e;exact k2 b o (ne_of_lt (Nat.lt_add_right _ lb)) (ne_of_lt (Nat.lt_add_right _ lb)) (ne_of_lt lb) (ne_of_lt (Nat.lt_add_right _ lb)) (k1 b o e)
  have e0:=gA (kk:=eP x) (items:=its.toArray) x.cps.size 0 (λi j a b=>hinj i j (by lia) (by lia));have e1:ZD.storeAll (eP x) its.toArray x.cps.size 0 []=(range x.cps.size).map λi=>(eP x i,its.toArray[i]?.getD .none):=by
   rw[show 0+x.cps.size=x.cps.size by lia] at e0;exact e0
  rw[e1] at hdict;have hrel:KV (iF x ws) ((range x.cps.size).map λi=>(eP x i,its.toArray[i]?.getD .none)):=by
   refine nK _ λi hi=>⟨rfl,?_⟩;have hi':=mem_range.mp hi;have hw:ws[i]?=some (ws[i]'(by lia)):=List.getElem?_eq_getElem (by lia);obtain ⟨u,hu,ru⟩:=r.get hw;have hu':its.toArray[i]?=some u:=by simpa using hu
   show RelV (ws[i]?.getD .non) (its.toArray[i]?.getD .none);rw[hw,hu'];exact ru
  refine ⟨.ref d,upd H d (.dK (iF x ws)),?_,rfl,q d (I.hok.fresh hd')⟩;refine I.laid (t':=tk2) kept hd' ⟨?_,beq_eq_false_iff_ne.mpr (Ne.symm (ne_of_lt (Nat.lt_of_lt_of_le (wO I) hd'))),_,hrel,hdict⟩;show (iF x ws).length<=sizeLine;unfold iF;rw[length_map,length_range];exact le_of_lt (CK hle)
theorem yK {p1 p2 pos1 pos2:Pos} (hc:X.calm=true) (hgd:Gl X "dict") (hmd:X.mg "dict"=none) (hgz:Gl X "zip") (hmz:X.mg "zip"=none) (ha:PA X [a,b] ta)
  (hs:starEach [a,b] X.env=(false,eval a X.env)::starEach [b] X.env:=by rfl) (hpl:(backTo pos2 (starEach [b] X.env)).any (·.1)=false:=by rfl)
  (hs1:starEach [.Call (.Name "zip" p2) [a,b] [] pos2] X.env=(false,eval (.Call (.Name "zip" p2) [a,b] [] pos2) X.env)::starEach [] X.env:=by rfl) (hpl1:(backTo pos1 (starEach [] X.env)).any (·.1)=false:=by rfl):
  PE X (.Call (.Name "dict" p1) [.Call (.Name "zip" p2) [a,b] [] pos2] [] pos1) (Hv X.K ta):=by
 intro pins s σ H Q I h;refine wpAny_Call_Name_kw (eK I hgd hmd PyProof.Rows.Boot.dict ?_ (by decide) (by decide));refine PyProof.Rows.callWith_type1 ?_ hs1 hpl1;rw[hs1];show wpAny _ _ (spliced ((false,eval (.Call (.Name "zip" p2) [a,b] [] pos2) X.env)::backTo pos1 (starEach [] X.env))) _ _ s;refine Calls.spliced_cons ?_;refine bO (Q:=λz s1=>wpAny (model X.prog X.w) X.A (call (.type "dict") [z]) (EP X pins σ Q) X.xe s1) ?_ λz s1 hz=>Calls.spliced_nil hz;refine wpAny_Call_Name_kw (eK I hgz hmz PyProof.Rows.Boot.zip ?_ (by decide) (by decide));refine PyProof.Rows.callWith_type1 (bO (ha pos2 pins s σ H _ I h) λus s1 ⟨vs,H1,I1,r1,q1⟩=>?_) hs hpl;obtain ⟨x,t,ws,rfl,ht,hl,hle,hasc,hinj,q⟩:=q1;obtain ⟨u,v,rfl,ru,rv⟩:=r1.two;obtain ⟨tk,rfl⟩:=ru;cases (show v=Value.ref t from rv);exact XI hc I1 ht hl hle hasc hinj q
theorem pS {n:Nat} {key:Nat->Key} {f:Nat->V} {j:Nat} (hinj:∀i j,i<n->j<n->key i=key j->i=j) (hj:j<n):cU ((range n).map λi=>(key i,f i)) (key j)=some (f j):=by
 unfold cU;rw[List.find?_map];have e:(range n).find? ((λkv:Key × V=>decide (kv.1=key j))∘λi=>(key i,f i))=some j:=by
  cases q:(range n).find? ((λkv:Key × V=>decide (kv.1=key j))∘λi=>(key i,f i)) with
  |none=>
   have z:=List.find?_eq_none.mp q j (mem_range.mpr hj);simp at z
  |some i=>
   have z1:=mem_range.mp (List.mem_of_find?_eq_some q);have z2:=List.find?_some q;have z3:key i=key j:=of_decide_eq_true z2;rw[hinj i j z1 hj z3]
 rw[e];rfl
end
section
variable {X:Cx} {pins:List (Addr × Obj)} {σ:St} {H:Hp} {s:Shared}
theorem Inv.but (I:Inv X pins σ H s) (hs:SameBut C s.heap h') (hC:X.s₀.heap.objs.size<=C) (hL:X.env.locals≠C) (hcl:∀x c,X.env.cells.lookup x=some c->c≠C) (hp:∀p∈X.pn++pins,p.1≠C) (hn:H C=none):
  Inv X pins σ H {s with heap:=h'}:=by
 have kp:∀b o,b≠C->s.heap.get? b=some o->h'.get? b=some o:=λb o hb e=>(hs.2 b hb).trans e;obtain ⟨m,hm,hl⟩:=I.loc;have cells:∀c v,c≠C->s.heap.IsCell c v->h'.IsCell c v:=λc v hc ⟨o,e,d⟩=>⟨o,kp _ _ hc e,d⟩;refine ⟨I.ok,I.os,I.bare,Un.but I.base hs hC,⟨m,hm.sameBut hs hL,λi x v e1 e2 e3=>?_⟩,λx c e=>?_,I.free,I.freeC,λp hpp=>⟨kp _ _ (hp p hpp) (I.pin p hpp).1,(I.pin p hpp).2⟩,dY.but I.hok hs hn,I.len⟩
 ·obtain ⟨u,r,l⟩:=hl i x v e1 e2 e3;refine ⟨u,r,?_⟩;rcases l with l|⟨hk,c,hc,hcell⟩
  ·exact .inl l
  ·exact .inr ⟨hk,c,hc,cells c _ (hcl x c hc) hcell⟩
 ·obtain ⟨v,hv⟩:=I.cell x c e;exact ⟨v,cells c v (hcl x c e) hv⟩
theorem tG {env:Env} (Iv:Nat->Shared->Prop)
  (turn:∀n s,Iv n s->wpAny (model prog w) A (pyNext it) (λr s1=>match r with
   |none=>R (.ok .next) s1
   |some v=>wpAny (model prog w) A (letOwnedTupleGo target it v) (λ_ s1'=>wpAny (model prog w) A (assign target env v) (λ_ s2=>
     wpAny (model prog w) A (forIn ifs true λc r=>if r=true then do let ok <-isTrue c env (eval c env);pure (ForInStep.yield ok) else pure (ForInStep.yield r)) (λok s3=>
      if ok=true then wpAny (model prog w) A (eval elt env) (λx s4=>wpAny (model prog w) A (call (.builtin "list.append") [acc,x]) (λ_ s5=>∃m,m<n/\Iv m s5) (notedBy (model prog w) A env λe s'=>R (.error e) s') s4) (notedBy (model prog w) A env λe s'=>R (.error e) s') s3
      else ∃m,m<n/\Iv m s3) (notedBy (model prog w) A env λe s'=>R (.error e) s') s2)
     (notedBy (model prog w) A env λe s'=>R (.error e) s') s1') (notedBy (model prog w) A env λe s'=>R (.error e) s') s1) (notedBy (model prog w) A env λe s'=>R (.error e) s') s)
  (n:Nat) (h:Iv n s):codeAny (model prog w) A (.compLoop (.ListComp elt [⟨target,iter,ifs,0⟩] scope pos) 0 it acc env) R s:=by
 refine codeAny_loop rfl Iv (λn s hI=>?_) n h;show wpAny _ _ ((compTurn (.ListComp elt [⟨target,iter,ifs,0⟩] scope pos) 0 it acc env).onRaise (λx=>do noteFrame x env;theTreesLotGoes x)) _ _ s;refine wpAny_noted ?_;rw[compTurn_list];refine wpAny_bind (wpAny_standAt (wpAny_bind (wpAny_mono (turn n s hI) (λr s1 h1=>?_) λ_ _ h'=>h')));cases r with
 |none=>exact wpAny_pure h1
 |some v=>
  refine wpAny_bind (wpAny_mono h1 (λ_ s1' h1'=>wpAny_bind (wpAny_mono h1' (λ_ s2 h2=>wpAny_bind (wpAny_mono h2 (λok s3 h3=>?_) λ_ _ h'=>h')) λ_ _ h'=>h')) λ_ _ h'=>h');cases ok with
  |true=>
   rw[if_pos rfl] at h3 ⊢;exact wpAny_bind (wpAny_bind (wpAny_mono h3 (λx s4 h4=>wpAny_bind (wpAny_mono h4 (λ_ s5 h5=>wpAny_pure (wpAny_pure ⟨rfl,h5⟩)) λ_ _ h'=>h')) λ_ _ h'=>h'))
  |false=>
   rw[if_neg Bool.false_ne_true] at h3 ⊢
   first
    |exact wpAny_pure ⟨rfl,h3⟩
    |exact wpAny_bind (wpAny_pure (wpAny_pure ⟨rfl,h3⟩))
inductive rG (X:Cx):List Expr->TT->Prop
 |nil:rG X [] (λ_ H Q=>Q true H)
 |one {c:Expr} {t:TT} (h:PT X c t):rG X [c] t
theorem rG.run (T:rG X ifs t) (I:Inv X pins σ H s) (h:t σ H QB):
  wpAny (model X.prog X.w) X.A (forIn ifs true λc r=>if r=true then do let ok <-isTrue c X.env (eval c X.env);pure (ForInStep.yield ok) else pure (ForInStep.yield r)) (TP X pins σ QB) X.xe s:=by
 cases T with
 |nil=>exact wpAny_tests_nil ⟨H,I,h⟩
 |one hc=>exact wpAny_tests_one (hc pins s σ H QB I h)
noncomputable def aU (J:It) (g:TG) (tc:TT) (te:TE) (n:Nat) (is:List Nat) (σ:St) (D:Addr) (H1:Hp) (Q:VK):Prop:=∃W:Nat->Nat->St->Hp->Prop,(∃m,W 0 m (EE n is σ) (upd H1 D (.lst [])))/\
 ∀i m σ' H,W i m σ' H->(J.stop i H/\Q (.ref D) H)\/(J.go i H/\∀x H',J.yld i H x H'->g x σ' H' λσ2 H2=>tc σ2 H2 λb H3=>
  (b=true->te σ2 H3 λy H4=>∃xs,H4 D=some (.lst xs)/\xs.length<sizeLine/\∃m',m'<m/\W (i+1) m' σ2 (upd H4 D (.lst (xs++[y]))))/\(b=false->∃m',m'<m/\W (i+1) m' σ2 H3))
noncomputable def mS (wi:TI) (g:TG) (tc:TT) (te:TE) (n:Nat) (is:List Nat):TE:=λσ H Q=>wi σ H λJ H1=>∀D,H1 D=none->aU J g tc te n is σ D H1 Q
theorem DY {own caps:List Str} (use:Option (Value->Sem Unit)) (hc:X.calm=true) (hi:PI X target iter wi)
  (hg:∀C s₀ H₀ ex,PG (EJ X (own++caps) sc C s₀ H₀ ex) target g) (ht:∀C s₀ H₀ ex,rG (EJ X (own++caps) sc C s₀ H₀ ex) ifs tc) (he:∀C s₀ H₀ ex,PE (EJ X (own++caps) sc C s₀ H₀ ex) elt te) (hcap:ER X sc caps is)
  (hkind:sc.kind=.function) (hown:∀y∈sc.names,y.2=.cell->sc.names.lookup y.1=some .cell) (hfr:(sc.names.all λy=>y.2 != .free || X.env.kindOf y.1==some .cell)=true)
  (hclos:closureFor sc X.env=pure (wL sc.names X.env)) (hnames:∀y∈sc.names,y.2=.local->sc.names.lookup y.1=some .local)
  (hs:∀x,foldedSetIterable iter X.env x=pure x) (I:Inv X pins σ H s) (h:mS wi g tc te own.length is σ H Q)
  (fin:∀(D C:Addr) (H':Hp) (s':Shared) (m:Str->Option Value),Inv X pins σ H' s'->s'.heap.Ns C m->H' C=none->X.s₀.heap.objs.size<=C->X.env.locals≠C->(∀x c,X.env.cells.lookup x=some c->c≠C)->(∀p∈X.pn++pins,p.1≠C)->Q (.ref D) H'->
   compPost (model X.prog X.w) X.A X.xe use QQ (.ref D) C (.ok .next) s'):
  wpAny (model X.prog X.w) X.A (comprehension (.ListComp elt [⟨target,iter,ifs,0⟩] sc pos) sc X.env pos2 (newList []) false (eval iter X.env) use) QQ X.xe s:=by
 refine wpAny_comprehension_free (use:=use) rfl hs hclos hkind hnames ?_;refine bO (hi pins s σ H _ I h) λv s1 h1=>bO h1 λitv s2 h2=>?_;obtain ⟨it,fp,tn,J,H2,e,I2,T,st2,f2,q2⟩:=h2;subst e;have ob2:∀b∈fp,∃o,s2.heap.get? b=some o:=λb hb=>let ⟨o,e,_⟩:=T.obj _ _ st2 b hb;⟨o,e⟩;refine wpAny_newObj_type (rM ?_);have ao:(pushCells ((s2.heap.push {cls:=.type "list",data:=.seq ([]:List Value).toArray}).push {cls:=.type "dict",data:=.dict #[]}) sc.names).Ns (s2.heap.push {cls:=.type "list",data:=.seq ([]:List Value).toArray}).objs.size (λ_=>none):=(Heap.Ns.new _ (.type "dict")).keeps (pushCells_keeps _ _);have au:=HF (s2.heap.push {cls:=.type "list",data:=.seq ([]:List Value).toArray}) {cls:=.type "dict",data:=.dict #[]} sc;have ak:∀b o,(s2.heap.push {cls:=.type "list",data:=.seq ([]:List Value).toArray}).get? b=some o->(pushCells ((s2.heap.push {cls:=.type "list",data:=.seq ([]:List Value).toArray}).push {cls:=.type "dict",data:=.dict #[]}) sc.names).get? b=some o:=λb o e=>pushCells_keeps _ _ b o (get?_push_of_some _ e);generalize bb:pushCells ((s2.heap.push {cls:=.type "list",data:=.seq ([]:List Value).toArray}).push {cls:=.type "dict",data:=.dict #[]}) sc.names=ae at ao au ak;have I3:=I2.lnew (its:=[]) (ys:=[]) (t':=s2.toks) .nil (zero_le _);have hD:H2 s2.heap.objs.size=none:=I2.hok.fresh (Nat.le_refl _);obtain ⟨W,⟨m0,w0⟩,turn⟩:=q2 s2.heap.objs.size hD;have f3:∀b∈fp,lF X pins (upd H2 s2.heap.objs.size (.lst [])) b:=λb hb=>by
  obtain ⟨o,e⟩:=ob2 b hb;exact ⟨by rw[aF (ne_of_lt (lt_size e))];exact (f2 b hb).1,(f2 b hb).2⟩
 have hk3:=ak;have ob3:∀b∈fp,∃o,(s2.heap.push {cls:=.type "list",data:=.seq ([]:List Value).toArray}).get? b=some o:=λb hb=>by
  obtain ⟨o,e⟩:=ob2 b hb;exact ⟨o,get?_push_of_some _ e⟩
 have I4:=EH (own:=own) I3 hkind hown hfr hcap f3 ob3 (tk:=s2.toks) ao hk3 au;have st4:tn 0 ae:=T.keep 0 s2.heap ae st2 λb hb o e=>hk3 b o (get?_push_of_some _ e);have stat:∀{H':Hp},(∀b∈fp,H' b=none)->∀b∈fp,lF (EJ X (own++caps) sc (s2.heap.push {cls:=.type "list",data:=.seq ([]:List Value).toArray}).objs.size {s2 with heap:=s2.heap.push {cls:=.type "list",data:=.seq ([]:List Value).toArray}} (upd H2 s2.heap.objs.size (.lst [])) fp) [] H' b:=λ{H'} hn b hb=>by
  obtain ⟨o,e⟩:=ob3 b hb;refine ⟨hn b hb,ne_of_lt (lt_size e),I4.ok.exfs b hb,.inl hb,(I4.ok.exf b hb).2,λp hp=>absurd (show p∈([]:List (Addr × Obj)) from hp) (by simp)⟩
 have loop:∀s4:Shared,s4={s2 with heap:=ae}->
   codeAny (model X.prog X.w) X.A (.compLoop (.ListComp elt [⟨target,iter,ifs,0⟩] sc pos) 0 (.ref it) (.ref s2.heap.objs.size) (compEnvC sc (kD sc (s2.heap.push {cls:=.type "list",data:=.seq ([]:List Value).toArray}).objs.size X.env) (s2.heap.push {cls:=.type "list",data:=.seq ([]:List Value).toArray}).objs.size X.env))
    (compPost (model X.prog X.w) X.A X.xe use QQ (.ref s2.heap.objs.size) (s2.heap.push {cls:=.type "list",data:=.seq ([]:List Value).toArray}).objs.size) s4:=by
  rintro s4 rfl;refine tG (λn s'=>∃i σ' H',Inv (EJ X (own++caps) sc (s2.heap.push {cls:=.type "list",data:=.seq ([]:List Value).toArray}).objs.size {s2 with heap:=s2.heap.push {cls:=.type "list",data:=.seq ([]:List Value).toArray}} (upd H2 s2.heap.objs.size (.lst [])) fp) [] σ' H' s'/\tn i s'.heap/\(∀b∈fp,H' b=none)/\W i n σ' H') ?_ m0
   ⟨0,_,_,I4,st4,λb hb=>(f3 b hb).1,w0⟩
  rintro n s5 ⟨i,σ5,H5,I5,st5,fr5,w5⟩;rcases turn i n σ5 H5 w5 with ⟨stop,qn⟩|⟨go,step⟩
  ·refine wpAny_mono (T.done (EJ X (own++caps) sc _ _ _ fp) rfl rfl rfl hc i [] s5 σ5 H5 (λ_ _=>False) I5 (stat fr5) st5 stop) (λr s6 ⟨hr,I6⟩=>?_) λ_ _ z=>z.elim;subst hr;obtain ⟨m,hn,_⟩:=I6.loc;have IX:Inv X pins σ H5 s6:=I3.call' (s':=s6) I6.os I6.base I6.hok I6.bare (ch:=fp) λb hb=>by
    obtain ⟨_,n1,_,n3,n4,n5⟩:=f3 b hb;exact ⟨n3,n1,n4,n5⟩
   have lt3:∀{b:Addr} {o:Obj},(s2.heap.push {cls:=.type "list",data:=.seq ([]:List Value).toArray}).get? b=some o->b≠(s2.heap.push {cls:=.type "list",data:=.seq ([]:List Value).toArray}).objs.size:=λe=>ne_of_lt (lt_size e);refine fin _ _ H5 s6 m IX hn I6.free I3.sz (ne_of_lt I3.lt) (λx c e=>?_) (λp hp=>lt3 (I3.pin p hp).1) qn;obtain ⟨v,o,e',_⟩:=I3.cell x c e;exact lt3 e'
  ·refine wpAny_mono (T.item (EJ X (own++caps) sc _ _ _ fp) rfl rfl rfl hc i [] s5 σ5 H5 (λ_ _=>False) I5 (stat fr5) st5 go) (λr s6 ⟨u,hr,h6⟩=>?_) λ_ _ z=>z.elim;subst hr;refine wpAny_mono h6 (λ_ s7 ⟨x,H7,I7,r7,y7,st7,fr7⟩=>?_) λ_ _ z=>z.elim;have I7':=I7.pinned (stat fr7) (T.obj _ _ st7);refine wpAny_mono (hg _ _ _ _ _ s7 σ5 H7 x u _ I7' r7 (step x H7 y7)) (λ_ s8 ⟨σ8,H8,I8,q8⟩=>?_) λ_ _ z=>z.elim;refine wpAny_mono ((ht _ _ _ _).run I8 q8) (λb s8' ⟨H8',I8',q8'⟩=>?_) λ_ _ z=>z.elim;have back:∀{σ9:St} {H9:Hp} {s9:Shared},Inv (EJ X (own++caps) sc (s2.heap.push {cls:=.type "list",data:=.seq ([]:List Value).toArray}).objs.size {s2 with heap:=s2.heap.push {cls:=.type "list",data:=.seq ([]:List Value).toArray}} (upd H2 s2.heap.objs.size (.lst [])) fp) ([]++nJ fp s7.heap) σ9 H9 s9->tn (i+1) s9.heap/\∀b∈fp,H9 b=none:=λ{σ9 H9 s9} I9=>
    ⟨T.keep _ _ _ st7 λb hb o e=>(I9.pin (b,o) (mem_append_right _ (mem_append_right _ (fL hb e)))).1,λb hb=>by
     obtain ⟨o,e,d⟩:=T.obj _ _ st7 b hb
     exact (I9.pin (b,o) (mem_append_right _ (mem_append_right _ (fL hb e)))).2.1⟩
   cases b with
   |false=>
    rw[if_neg Bool.false_ne_true];obtain ⟨m',hm,w9⟩:=q8'.2 rfl;exact ⟨m',hm,i+1,σ8,_,I8'.unpinned,(back I8').1,(back I8').2,w9⟩
   |true=>
    rw[if_pos rfl];refine wpAny_mono (he _ _ _ _ _ s8' σ8 H8' _ I8' (q8'.1 rfl)) (λyv s9 ⟨y,H9,I9,r9,xs,hx,hz,m',hm,w9⟩=>?_) λ_ _ z=>z.elim;refine wpAny_mono (qE (X:=EJ X (own++caps) sc _ _ _ fp) _ s9 σ8 H9 (.ref s2.heap.objs.size) [y] (.ref s2.heap.objs.size) [yv] (λv Hn=>v=.non/\Hn=upd H9 s2.heap.objs.size (.lst (xs++[y]))) I9 rfl (.cons r9 .nil) ⟨_,xs,y,rfl,rfl,hx,hz,rfl,rfl⟩)
     (λv s10 ⟨v10,H10,I10,r10,q10⟩=>?_) λ_ _ z=>z.elim
    obtain ⟨_,rfl⟩:=q10;exact ⟨m',hm,i+1,σ8,_,I10.unpinned,(back I10).1,(back I10).2,w9⟩
 exact codeAny_compStart_list (loop _ rfl) (T.self _ 0 _ _ _ st4 (loop _ rfl))
end
end L2.L3
namespace L2.Na
open PySem PySem.Spec PyProof.Rows L2 L2.L3
theorem Inv.turnedN {X:Cx} {pins:List (Addr × Obj)} {σ:St} {H:Hp} {s:Shared} {h':Heap} {t':Nat} {fp:List Addr} (I:Inv X pins σ H s) (k:∀b o,b∉fp->s.heap.get? b=some o->h'.get? b=some o) (hf:∀b∈fp,lF X pins H b):Inv X pins σ H {s with heap:=h',toks:=t'}:=by
 have nit:∀b u,H b=some u->b∉fp:=λb u e z=>by rw[(hf b z).1] at e;cases e
 refine I.step (g':=s.gens) (d':=s.drawn) (ch:=fp) (λb hb=>?_) (λb o _ _ hc e _=>k b o hc e) (λb o _ _ hc e _=>⟨o.slots,k b o hc e⟩) (λ_ _ _ _ n=>n)
  (λb o hc e=>⟨o,k b o hc e⟩) (λ_ _ e=>e) (λ_ _ _ e=>e) (λb ps e=>⟨#[],by rw[e];simp⟩) (λm hm=>?_) (λb u e=>?_) I.bare
 ·obtain ⟨_,hL,_,h1,h2,h3⟩:=hf b hb;exact ⟨h1,hL,h2,h3⟩
 ·obtain ⟨o,es,ep,ho,r⟩:=hm;exact ⟨o,es,ep,k _ o (λz=>(hf _ z).2.1 rfl) ho,r⟩
 ·refine (I.hok b u e).stay (λc v hc q=>k c v ?_ q) (λ_ q=>q) λ_ _ q=>q;rcases hc with z|z
  ·rw[z];exact nit b u e
  ·exact nit c _ z
noncomputable def El (K:Fg) (a b:Addr):It:=
 ⟨λi H=>∃xs ys x y,aM K H a xs/\aM K H b ys/\xs[i]?=some x/\ys[i]?=some y,
  λi H v H'=>∃p x y,H p=none/\v=.ref p/\H'=upd H p (.tup [x,y])/\(∀xs,aM K H a xs->xs[i]?=some x)/\∀ys,aM K H b ys->ys[i]?=some y,
  λi H=>∃xs ys,aM K H a xs/\aM K H b ys/\(xs.length<=i\/ys.length<=i)⟩
structure zO (z TI TO i1 i2:Addr):Prop where
 TIz:TI≠z
 TOz:TO≠z
 i1z:i1≠z
 i2z:i2≠z
 TITO:TI≠TO
 TIi1:TI≠i1
 TIi2:TI≠i2
 TOi1:TO≠i1
 TOi2:TO≠i2
 i12:i1≠i2
theorem gS {h:Heap} {a b:Addr} {o u:Obj} {m n:String} (e1:h.get? a=some o) (e2:h.get? b=some u) (c1:o.cls=.type m) (c2:u.cls=.type n) (hn:m≠n):a≠b:=λz=>by
 subst z;rw[e1] at e2;cases e2;rw[c1] at c2;exact hn (by simpa using c2)
noncomputable def Ee (z TI TO i1 i2 a b:Addr) (i:Nat) (h:Heap):Prop:=IsZip h z TI TO .none/\IsPair h TI (.ref i1) (.ref i2)/\(∃u v,IsPair h TO u v)/\h.IsListIter i1 a i/\h.IsListIter i2 b i
theorem Ee.apart {z TI TO i1 i2 a b:Addr} {i:Nat} {h:Heap} {xs ys:Array Value} (Z:zO z TI TO i1 i2) (t:Ee z TI TO i1 i2 a b i h) (h1:h.IsList a xs) (h2:h.IsList b ys):ZipApart z TI TO i1 i2 a b:=by
 obtain ⟨hz,_,⟨u,v,hTO⟩,⟨o1,e1,c1,_⟩,⟨o2,e2,c2,_⟩⟩:=t;obtain ⟨oa,ea,ca,_⟩:=h1;obtain ⟨ob,eb,cb,_⟩:=h2;exact ⟨Z.TIz,Z.TOz,Z.i1z,Z.i2z,Z.TITO,Z.TIi1,Z.TIi2,Z.TOi1,Z.TOi2,Z.i12,
  gS ea hz ca rfl (by decide),gS ea hTO ca rfl (by decide),gS ea e1 ca c1 (by decide),gS ea e2 ca c2 (by decide),
  gS eb hz cb rfl (by decide),gS eb hTO cb rfl (by decide),gS eb e1 cb c1 (by decide),gS eb e2 cb c2 (by decide)⟩
theorem FK {P:Program} {w:World} {K:Fg} {elts:List Expr} {k:Nat} {pos:Pos} (a b z TI TO i1 i2:Addr) (Z:zO z TI TO i1 i2):Turn P w K (.Tuple elts k pos) (El K a b) [z,TI,TO,i1,i2] z (Ee z TI TO i1 i2 a b) where
 mem:=by simp
 obj:=λi h st c hc=>by
  obtain ⟨hz,hTI,⟨u,v,hTO⟩,⟨o1,e1,c1,d1⟩,⟨o2,e2,c2,d2⟩⟩:=st;simp only [mem_cons,not_mem_nil,or_false] at hc;rcases hc with rfl|rfl|rfl|rfl|rfl
  ·exact ⟨_,hz,λ_ q=>by have q':Data.fields _=Data.cell _:=q;cases q'⟩
  ·exact ⟨_,hTI,λ_ q=>by have q':Data.seq _=Data.cell _:=q;cases q'⟩
  ·exact ⟨_,hTO,λ_ q=>by have q':Data.seq _=Data.cell _:=q;cases q'⟩
  ·exact ⟨_,e1,λ_ q=>by rw[d1] at q;cases q⟩
  ·exact ⟨_,e2,λ_ q=>by rw[d2] at q;cases q⟩
 keep:=λi h h' st kp=>by
  obtain ⟨hz,hTI,⟨u,v,hTO⟩,l1,l2⟩:=st;exact ⟨kp z (by simp) _ hz,kp TI (by simp) _ hTI,⟨u,v,kp TO (by simp) _ hTO⟩,l1.at λo e=>kp i1 (by simp) o e,l2.at λo e=>kp i2 (by simp) o e⟩
 item:=by
  intro X hP hw hK hc i pins s σ H E I hf st hg;subst hP hw hK;obtain ⟨xs,ys,x,y,hqa,hqb,hx,hy⟩:=hg;obtain ⟨ia,ra,pa,_⟩:=I.list hqa;obtain ⟨ib,rb,pb,_⟩:=I.list hqb;obtain ⟨u,hu,ru⟩:=ra.get hx;obtain ⟨v,hv,rv⟩:=rb.get hy;have D:=Ee.apart Z st pa.isList pb.isList;obtain ⟨hz,hTI,⟨u0,v0,hTO⟩,l1,l2⟩:=st;refine wpAny_pyNext_zip_item D hz hTI hTO l1 l2 pa.isList pb.isList (x:=u) (y:=v) (by simpa using hu) (by simpa using hv) λh' a1 a2 a3 a4 a5 a6 hk=>?_;refine ⟨_,rfl,?_⟩;refine wpAny_letOwnedTupleGo_zip (s:={s with heap:=h'}) a1 λh2 z2 sb=>?_;have fr:H s.heap.objs.size=none:=I.hok.fresh (Nat.le_refl _);have zlt:z<s.heap.objs.size:=lt_size hz;have k2:∀c o,c∉[z,TI,TO,i1,i2]->s.heap.get? c=some o->h2.get? c=some o:=λc o hc' e=>by
   simp only [mem_cons,not_mem_nil,or_false,not_or] at hc';exact sb.extBut _ _ hc'.1 (hk c o hc'.1 hc'.2.2.1 hc'.2.2.2.1 hc'.2.2.2.2 e)
  have T2:IsPair h2 s.heap.objs.size u v:=sb.extBut _ _ (ne_of_gt zlt) a5;have ne:∀c∈[z,TI,TO,i1,i2],c≠s.heap.objs.size:=λc hc'=>by
   obtain ⟨o,e⟩:∃o,s.heap.get? c=some o:=by
    simp only [mem_cons,not_mem_nil,or_false] at hc';obtain ⟨o1,e1,_⟩:=l1;obtain ⟨o2,e2,_⟩:=l2;rcases hc' with rfl|rfl|rfl|rfl|rfl
    ·exact ⟨_,hz⟩
    ·exact ⟨_,hTI⟩
    ·exact ⟨_,hTO⟩
    ·exact ⟨_,e1⟩
    ·exact ⟨_,e2⟩
   exact ne_of_lt (lt_size e)
  have I0:Inv X pins σ (upd H s.heap.objs.size (.tup [x,y])) {s with heap:=s.heap.push {cls:=.type "tuple",data:=.seq #[u,v]}}:=
   I.laid (t':=s.toks) (λc o e=>get?_push_of_some _ e) (Nat.le_refl _) (show aY X.prog X.w _ _ _ (.tup [x,y]) from ⟨by show 2<=sizeLine;decide,[u,v],.cons ru (.cons rv .nil),IsTup.new _ _⟩)
  have hf':∀c∈[z,TI,TO,i1,i2],lF X pins (upd H s.heap.objs.size (.tup [x,y])) c:=λc hc'=>⟨by rw[aF (ne c hc')];exact (hf c hc').1,(hf c hc').2⟩;have I1:Inv X pins σ (upd H s.heap.objs.size (.tup [x,y])) {s with heap:=h2}:=Inv.turnedN (s:={s with heap:=s.heap.push {cls:=.type "tuple",data:=.seq #[u,v]}}) (t':=s.toks) I0 (λc o hc' e=>by
   rcases Heap.get?_push_cases e with ⟨hcs,ho⟩|e
   ·subst hcs ho
    exact T2
   ·exact k2 c o hc' e) hf'
  exact ⟨.ref s.heap.objs.size,_,I1,rfl,⟨_,x,y,fr,rfl,rfl,λxs' h'=>by rw[I.list_inj h' hqa];exact hx,λys' h'=>by rw[I.list_inj h' hqb];exact hy⟩,
   ⟨z2,sb.extBut _ _ Z.TIz (hk _ _ Z.TIz Z.TITO Z.TIi1 Z.TIi2 hTI),⟨_,_,sb.extBut _ _ Z.TOz a2⟩,a3.at λo e=>sb.extBut _ _ Z.i1z e,a4.at λo e=>sb.extBut _ _ Z.i2z e⟩,λc hc'=>(hf' c hc').1⟩
 done:=by
  intro X hP hw hK hc i pins s σ H E I hf st hg;subst hP hw hK;obtain ⟨xs,ys,hqa,hqb,hx⟩:=hg;obtain ⟨ia,ra,pa,_⟩:=I.list hqa;obtain ⟨ib,rb,pb,_⟩:=I.list hqb;have D:=Ee.apart Z st pa.isList pb.isList;obtain ⟨hz,hTI,⟨u0,v0,hTO⟩,l1,l2⟩:=st;have n1:=ra.length;have n2:=rb.length;refine wpAny_pyNext_zip_end (I.ok.hd hc) D hz hTI hTO l1 l2 pa.isList pb.isList (by rcases hx with hx|hx;exact .inl (by simp;lia);exact .inr (by simp;lia)) λh' hk=>⟨rfl,Inv.turnedN (t':=s.toks) I (λc o hc' e=>?_) hf⟩;simp only [mem_cons,not_mem_nil,or_false,not_or] at hc';exact hk c o hc'.1 hc'.2.2.1 hc'.2.2.2.1 hc'.2.2.2.2 e
 self:=λ_ _ _ _ _ st h=>wpAny_pyIter_zip st.1 h
end L2.Na
namespace L2.L3
open PySem PySem.Spec PyProof.Rows L2 PySem.SeqAt
noncomputable def Eqv:Nat->Hp->V->V->Prop
 |0,_,x,y=>(∃i,x=.int i/\y=.int i)\/(∃z,x=.str z/\y=.str z)\/(x=.non/\y=.non)
 |n+1,H,x,y=>Eqv n H x y\/∃p q xs ys,x=.ref p/\y=.ref q/\((H p=some (.lst xs)/\H q=some (.lst ys))\/(H p=some (.tup xs)/\H q=some (.tup ys)))/\xs.length=ys.length/\∀(i:Nat) (x y:V),xs[i]?=some x->ys[i]?=some y->Eqv n H x y
section
variable {X:Cx} {pins:List (Addr × Obj)} {σ:St} {H:Hp} {s:Shared}
theorem all_true (n:Nat):(range n).all (λ_=>true)=true:=all_eq_true.mpr λ_ _=>rfl
theorem iZ (r:Vals xs us) (h:j<us.toArray.size):∃x,xs[j]?=some x/\RelV x us.toArray[j]:=by
 have hj:j<us.length:=by simpa using h
 have hx:j<xs.length:=by rw[r.length];exact hj
 obtain ⟨u,h1,h2⟩:=r.get (List.getElem?_eq_getElem hx);have e:us.toArray[j]=u:=by
  rw[List.getElem?_eq_getElem hj] at h1;simpa using Option.some.inj h1
 exact ⟨xs[j],List.getElem?_eq_getElem hx,by rw[e];exact h2⟩
theorem dG (r1:Vals xs us) (r2:Vals ys vs) (hi:∀(i:Nat) (x y:V),xs[i]?=some x->ys[i]?=some y->Eqv n H x y)
  (ih:∀(x y:V) (u v:Value),Eqv n H x y->RelV x u->RelV y v->EqAt A s u v true):∀j (h1:j<us.toArray.size) (h2:j<vs.toArray.size),EqAt A s us.toArray[j] vs.toArray[j] ((λ_=>true) j):=λj h1 h2=>by
 obtain ⟨x,e1,q1⟩:=iZ r1 h1;obtain ⟨y,e2,q2⟩:=iZ r2 h2;exact ih x y _ _ (hi j x y e1 e2) q1 q2
theorem iW (I:Inv X pins σ H s):∀(n:Nat) (A:Around) (x y:V) (u v:Value),A.units+n<cLine->Eqv n H x y->RelV x u->RelV y v->EqAt A s u v true
 |0,A,x,y,u,v,hu,h,r1,r2=>by
  rcases h with ⟨i,rfl,rfl⟩|⟨z,rfl,rfl⟩|⟨rfl,rfl⟩
  ·obtain ⟨t,rfl⟩:=r1;obtain ⟨t2,rfl⟩:=r2;have e:=EqAt.int_int (A:=A) (s:=s) i t i t2;rwa [beq_self_eq_true] at e
  ·obtain ⟨t,rfl⟩:=r1;obtain ⟨t2,rfl⟩:=r2;have e:=EqAt.str_str (A:=A) (s:=s) z t z t2;rwa [beq_self_eq_true] at e
  ·cases r1;cases r2;exact EqAt.same _
 |n+1,A,x,y,u,v,hu,.inl h,r1,r2=>iW I n A x y u v (by lia) h r1 r2
 |n+1,A,x,y,u,v,hu,.inr ⟨p,q,xs,ys,e1,e2,hh,hl,hi⟩,r1,r2=>by
  subst e1 e2;cases r1;cases r2;by_cases e:p=q
  ·subst e;exact EqAt.same _
  refine EqAt.of_refs e ?_;have hu1:A.in1.units+n<cLine:=by show A.units+1+n<cLine;lia
  rcases hh with ⟨h1,h2⟩|⟨h1,h2⟩
  ·obtain ⟨_,its,n1,k1,l1,g1⟩:=I.lstM h1;obtain ⟨_,its2,n2,k2,l2,g2⟩:=I.lstM h2;have z:=RcAt.lists (A:=A) (e:=λ_=>true) (⟨_,g1,rfl,n1,rfl⟩:s.heap.IsList p its.toArray) (⟨_,g2,rfl,n2,rfl⟩:s.heap.IsList q its2.toArray) (by rw[size_toArray,size_toArray];lia) (by lia)
    (dG k1 k2 hi λx y u v=>iW I n A.in1 x y u v hu1)
   rwa [all_true] at z
  ·obtain ⟨its,k1,p1,_⟩:=I.tuple (bX.of h1);obtain ⟨its2,k2,p2,_⟩:=I.tuple (bX.of h2);have z:=RcAt.tuples (A:=A) (e:=λ_=>true) (show s.heap.IsTuple p its.toArray from p1) (show s.heap.IsTuple q its2.toArray from p2) (by lia)
    (dG k1 k2 hi λx y u v=>iW I n A.in1 x y u v hu1)
   have e3:its.toArray.size=its2.toArray.size:=by rw[size_toArray,size_toArray,<-k1.length,<-k2.length];exact hl
   rwa [all_true,e3,beq_self_eq_true,Bool.true_and] at z
noncomputable def YL (n:Nat) (H:Hp) (p q:Addr):Prop:=∃xs ys,((H p=some (.lst xs)/\H q=some (.lst ys))\/(H p=some (.tup xs)/\H q=some (.tup ys)))/\xs.length=ys.length/\∀(i:Nat) (x y:V),xs[i]?=some x->ys[i]?=some y->Eqv n H x y
noncomputable def Aq:R2:=λx y H Q=>∃p q n,x=.ref p/\y=.ref q/\n<=40/\YL n H p q/\Q (.bl true) H
noncomputable def Al:R2:=λx y H Q=>∃p q n,x=.ref p/\y=.ref q/\n<=40/\YL n H p q/\Q (.bl false) H
theorem UY (hu:X.A.units+64<cLine):fA X (compareOp .Eq) Aq:=by
 intro pins s σ H x y v u Q I rx ry h;obtain ⟨p,q,n,rfl,rfl,hn,⟨xs,ys,hh,hl,hi⟩,qq⟩:=h;cases rx;cases ry;have hu1:X.A.in1.units+n<cLine:=by show X.A.units+1+n<cLine;lia
 rcases hh with ⟨h1,h2⟩|⟨h1,h2⟩
 ·obtain ⟨_,its,n1,k1,l1,g1⟩:=I.lstM h1;obtain ⟨_,its2,n2,k2,l2,g2⟩:=I.lstM h2;have z:=RcAt.lists (A:=X.A) (e:=λ_=>true) (⟨_,g1,rfl,n1,rfl⟩:s.heap.IsList p its.toArray) (⟨_,g2,rfl,n2,rfl⟩:s.heap.IsList q its2.toArray) (by rw[size_toArray,size_toArray];lia) (by lia)
   (dG k1 k2 hi λx y u v=>iW I n X.A.in1 x y u v hu1)
  rw[all_true] at z;exact z X.prog X.w X.xe _ ⟨.bl true,H,I,rfl,qq⟩
 ·obtain ⟨its,k1,p1,_⟩:=I.tuple (bX.of h1);obtain ⟨its2,k2,p2,_⟩:=I.tuple (bX.of h2);have z:=RcAt.tuples (A:=X.A) (e:=λ_=>true) (show s.heap.IsTuple p its.toArray from p1) (show s.heap.IsTuple q its2.toArray from p2) (by lia)
   (dG k1 k2 hi λx y u v=>iW I n X.A.in1 x y u v hu1)
  have e3:its.toArray.size=its2.toArray.size:=by rw[size_toArray,size_toArray,<-k1.length,<-k2.length];exact hl
  rw[all_true,e3,beq_self_eq_true,Bool.true_and] at z;exact z X.prog X.w X.xe _ ⟨.bl true,H,I,rfl,qq⟩
noncomputable def Ap:R2:=λx y H Q=>∃p q xs ys,x=.ref p/\y=.ref q/\H p=some (.lst xs)/\H q=some (.lst ys)/\xs.length≠ys.length/\Q (.bl false) H
theorem UW (hu:X.A.units+64<cLine):fA X (compareOp .Eq) Ap:=by
 intro pins s σ H x y v u Q I rx ry h;obtain ⟨p,q,xs,ys,rfl,rfl,h1,h2,hl,qq⟩:=h;cases rx;cases ry;obtain ⟨_,its,n1,k1,l1,g1⟩:=I.lstM h1;obtain ⟨_,its2,n2,k2,l2,g2⟩:=I.lstM h2;have hne:(its.toArray.size != its2.toArray.size)=true:=by
  rw[size_toArray,size_toArray,<-l1,<-l2];exact bne_iff_ne.mpr hl
 exact RcAt.lists_lengths (A:=X.A) (⟨_,g1,rfl,n1,rfl⟩:s.heap.IsList p its.toArray) (⟨_,g2,rfl,n2,rfl⟩:s.heap.IsList q its2.toArray) hne (by lia) X.prog X.w X.xe _ ⟨.bl false,H,I,rfl,qq⟩
theorem UR (hu:X.A.units+64<cLine):fA X (compareOp .NotEq) Al:=by
 intro pins s σ H x y v u Q I rx ry h;obtain ⟨p,q,n,rfl,rfl,hn,⟨xs,ys,hh,hl,hi⟩,qq⟩:=h;cases rx;cases ry;have hu1:X.A.in1.units+n<cLine:=by show X.A.units+1+n<cLine;lia
 rcases hh with ⟨h1,h2⟩|⟨h1,h2⟩
 ·obtain ⟨_,its,n1,k1,l1,g1⟩:=I.lstM h1;obtain ⟨_,its2,n2,k2,l2,g2⟩:=I.lstM h2;have z:=RcNeAt.lists (A:=X.A) (e:=λ_=>true) (⟨_,g1,rfl,n1,rfl⟩:s.heap.IsList p its.toArray) (⟨_,g2,rfl,n2,rfl⟩:s.heap.IsList q its2.toArray) (by rw[size_toArray,size_toArray];lia) (by lia)
   (dG k1 k2 hi λx y u v=>iW I n X.A.in1 x y u v hu1)
  rw[all_true] at z;exact z X.prog X.w X.xe _ ⟨.bl false,H,I,rfl,qq⟩
 ·obtain ⟨its,k1,p1,_⟩:=I.tuple (bX.of h1);obtain ⟨its2,k2,p2,_⟩:=I.tuple (bX.of h2);have z:=RcNeAt.tuples (A:=X.A) (e:=λ_=>true) (show s.heap.IsTuple p its.toArray from p1) (show s.heap.IsTuple q its2.toArray from p2) (by lia)
   (dG k1 k2 hi λx y u v=>iW I n X.A.in1 x y u v hu1)
  have e3:its.toArray.size=its2.toArray.size:=by rw[size_toArray,size_toArray,<-k1.length,<-k2.length];exact hl
  rw[all_true,e3,beq_self_eq_true,Bool.true_and] at z;exact z X.prog X.w X.xe _ ⟨.bl false,H,I,rfl,qq⟩
noncomputable def Ak:R2:=λx y H Q=>∃p q xs ys,x=.ref p/\y=.ref q/\H p=some (.lst xs)/\H q=some (.lst ys)/\xs.length≠ys.length/\Q (.bl true) H
theorem UQ (hu:X.A.units+64<cLine):fA X (compareOp .NotEq) Ak:=by
 intro pins s σ H x y v u Q I rx ry h;obtain ⟨p,q,xs,ys,rfl,rfl,h1,h2,hl,qq⟩:=h;cases rx;cases ry;obtain ⟨_,its,n1,k1,l1,g1⟩:=I.lstM h1;obtain ⟨_,its2,n2,k2,l2,g2⟩:=I.lstM h2;have hne:(its.toArray.size != its2.toArray.size)=true:=by
  rw[size_toArray,size_toArray,<-l1,<-l2];exact bne_iff_ne.mpr hl
 exact RcNeAt.lists_lengths (A:=X.A) (⟨_,g1,rfl,n1,rfl⟩:s.heap.IsList p its.toArray) (⟨_,g2,rfl,n2,rfl⟩:s.heap.IsList q its2.toArray) hne (by lia) X.prog X.w X.xe _ ⟨.bl true,H,I,rfl,qq⟩
noncomputable def GS (K:Fg):R2:=λx y H Q=>∃a b ys,x=.ref a/\y=.ref b/\bX K H a []/\bX K H b ys/\Q (.ref b) H
theorem HI:fA X (binaryOp .Add) (GS X.K):=by
 intro pins s σ H x y v u Q I rx ry h;obtain ⟨a,b,ys,rfl,rfl,ha,hb,q⟩:=h;cases rx;cases ry;obtain ⟨its,r1,p1,_⟩:=I.tuple ha;obtain ⟨its2,r2,p2,_⟩:=I.tuple hb;have e:its=[]:=r1.nil_iff.mpr rfl;subst e;obtain ⟨⟨cls,dd,data,sl⟩,ho,hc,n,hd⟩:=id p1;obtain ⟨⟨cls2,dd2,data2,sl2⟩,ho2,hc2,n2,hd2⟩:=id p2;simp only at hc hd hc2 hd2;subst hc hd hc2 hd2;exact concat_meets ⟨_,ho,rfl⟩ ⟨_,ho2,rfl⟩ noFill_tuple_add seq_tuple_add PySem.F.slot_tuple_add PySem.F.entry_tuple_add (PySem.F.args_tuple_add_2 _ _)
  (tuple_addW0 a b [].toArray its2.toArray n n2 dd dd2 sl sl2 rfl) ⟨ho,ho2,⟨.ref b,H,I,rfl,q⟩⟩
noncomputable def SG (z:Str) (k:Int):Prop:=0<=k/\k<2 ^ 31/\z.length * k.toNat<=sizeLine
theorem NR:fA X (binaryOp .Mult) (λx y H Q=>∃i k,x=.str i/\y=.int k/\SG i k/\Q (.str (Txt.mul i k)) H):=by
 intro pins s σ H x y v u Q I rx ry h;obtain ⟨i,k,rfl,rfl,⟨h1,h2,h3⟩,q⟩:=h;obtain ⟨t,rfl⟩:=rx;obtain ⟨t',rfl⟩:=ry;have e1:(decide (k< -(2 ^ 63:Int)) || decide (k>=2 ^ 63))=false:=by
  rw[decide_eq_false (by lia),decide_eq_false (by lia)];rfl
 have hs:(sizeLine:Nat)<=2 ^ 40:=by rw[sizeLine_eq];decide
 refine SB.mul ⟨e1,λg1 _ c=>?_,λg1 _=>?_⟩ (λt' tk=>⟨.str (Txt.mul i k),H,I.tok _,⟨_,rfl⟩,q⟩)
 ·have c1:(2 ^ 63 - 1) / k<(i.length:Int):=c;have c2:¬(i.length:Int)<=(2 ^ 63 - 1) / k:=by lia
  refine c2 ((Int.le_ediv_iff_mul_le (by lia)).mpr ?_);have e:((i.length * k.toNat:Nat):Int)=(i.length:Int) * k:=by rw[Int.natCast_mul,Int.toNat_of_nonneg (by lia)]
  lia
 ·show decide _=false;exact decide_eq_false (by lia)
noncomputable def Fe (i j:Int):Prop:=0<=j/\(Builtin.Int.intBits i:Int) * j<=2 ^ 27
theorem QF.pw (h:QF i j):Fe i j:=by
 obtain ⟨h0,h1,h2⟩:=h;refine ⟨h0,?_⟩;have hb:Builtin.Int.intBits i<=64:=PyProof.Rows.intBits_le h2;have:(Builtin.Int.intBits i:Int) * j<=64 * j:=Int.mul_le_mul_of_nonneg_right (by lia) h0;lia
noncomputable def Hq (_ j:Int):Prop:=0<j/\j<2 ^ 64
theorem HH:fA X (binaryOp .FloorDiv) (rI Hq λi j=>.int (i / j)):=Es λi j _ _ _ _ _ hc q=>by
 have h1:(0:Int)<j:=hc.1;have h2:j<2 ^ 64:=hc.2;refine floordiv_int (by lia) (by rw[Int.fdiv_eq_ediv_of_nonneg i (by lia)];exact q) (.inl (PyProof.noPylong_of_log2 ?_));have h3:j.natAbs.log2<64:=(Nat.log2_lt (by lia)).mpr (by lia);lia
theorem NS:fA X (binaryOp .Mult) (rI IntMulOk λi j=>.int (i * j)):=Es λ_ _ _ _ _ _ _ hc q=>mul_int q hc
theorem NO:fA X (binaryOp .Pow) (rI Fe λi j=>.int (i ^ j.toNat)):=Es λ_ _ _ _ _ _ _ hc q=>pow_int hc.1 hc.2 q
end
end L2.L3
namespace L2.Na
open PySem PySem.Spec PyProof.Rows L2 L2.L3
theorem oK (o:Obj) (f:Array Value->Array Value):(o.mapFields f).dict=o.dict:=by
 unfold Obj.mapFields;split<;>rfl
noncomputable def Ie (h B:Heap) (e:Addr) (c:Value) (dx:Option Addr) (fl:Value):Prop:=
 ∃oe vs T oT ts,h.get? e=some oe/\oe.cls=c/\oe.dict=dx/\oe.data=.fields vs/\vs[1]?=some (.ref T)/\B.get? T=none/\T≠e/\h.get? T=some oT/\oT.data=.fields ts/\ts[3]?=some fl
structure Hk (B:Heap) (l:List Env) (e:Addr) (c:Value) (dx:Option Addr) (fl:Value) (h h':Heap):Prop where
 stay:B.StaysIn h'
 frames:h'.FunFrames B l
 tr:Ie h' B e c dx fl
 slots:h.UpToSlots h'
structure kK (B:Heap) (l:List Env) (e:Addr) (c:Value) (dx:Option Addr) (fl:Value) (h:Heap):Prop where
 stay:B.StaysIn h
 new:B.get? e=none
 frames:h.FunFrames B l
 tr:Ie h B e c dx fl
section
variable {M:Model} {A:Around} {E:Value->Shared->Prop} {s:Shared} {B:Heap} {env:Env} {outer:List Env} {L e:Addr} {Q:Unit->Shared->Prop}
theorem zF (fr:A.frames=some (env::outer)) (ff:s.heap.FunFrames B (env::outer)) (ef:env.frame=some L) (ef2:env2.frame=some L)
  (h:∀h',Heap.SlotsOnly ((env::outer).filterMap (·.frame)) s.heap h'->R (.ref L) {s with heap:=h'}):wpAny M A (PySem.frameOf env2) R E s:=by
 unfold PySem.frameOf;refine wpAny_bind (wpAny_frameEnvs fr ?_);have hdw:((env::outer).dropWhile λx=>x.frame != env2.frame)=env::outer:=by simp [List.dropWhile,ef,ef2]
 rw[hdw];unfold frameObject;refine wpAny_bind (wpAny_bind (wpAny_readyFrames_fun ff λae az=>wpAny_pure ?_));rw[ef];exact wpAny_pure (h ae az)
theorem qQ (fr:A.frames=some (env::outer)) (ff:s.heap.FunFrames B (env::outer)) (ef:env.frame=some L) (ef2:env2.frame=some L) (eo:s.heap.get? e=some oe) (st:B.StaysIn s.heap)
  (en:B.get? e=none) (dt:oe.data=.fields vs) (sz:1<vs.size) (k:∀g,Hk B (env::outer) e oe.cls oe.dict (rawInt L) s.heap g->Q () {s with heap:=g}):
  wpAny M A (do let a <-frameOf env2;let pl <-entryPlaceOf L nx;let b <-EntryCells.newEntry hd0 a .none (rawInt L) .none pl;setField (.ref e) 1 b) Q E s:=by
 have nf:e∉(env::outer).filterMap (·.frame):=λm=>by
  obtain ⟨_,o,ho,n⟩:=ff.mem m;rw[eo] at ho;cases ho;exact n vs dt
 refine wpAny_bind (zF fr ff ef ef2 λg1 s1=>wpAny_bind (wpAny_entryPlaceOf λpl ip=>?_));unfold EntryCells.newEntry newFields;refine wpAny_bind (wpAny_newObj_type ?_ (ip.sizeOk5 _ _ _ _ _));have e1:g1.get? e=some oe:=by rw[s1.2.1 e nf];exact eo
 have b1:B.StaysIn g1:=λb o q=>by
  rw[s1.2.1 b λm=>by rw[(ff.mem m).1] at q;cases q];exact st b o q
 generalize ho:({cls:=.type "traceback",dict:=none,data:=.fields ([hd0,.ref L,.none,rawInt L,.none]++(if pl.isEmpty then replicate 6 Value.none else pl)).toArray}:Obj)=ot;have od:ot.data=.fields ([hd0,.ref L,.none,rawInt L,.none]++(if pl.isEmpty then replicate 6 Value.none else pl)).toArray:=by rw[<-ho]
 have of3:([hd0,.ref L,.none,rawInt L,.none]++(if pl.isEmpty then replicate 6 Value.none else pl)).toArray[3]?=some (rawInt L):=by simp
 have onf:ot.isFreed=false:=Obj.isFreed_of_fields od;have e2:(g1.push ot).get? e=some oe:=get?_push_of_some _ e1;have ne:g1.objs.size≠e:=ne_of_gt (lt_size e1);refine wpAny_setField e2 dt sz (k _ ?_);have d3:(oe.mapFields (·.setIfInBounds 1 (Value.ref g1.objs.size))).data=.fields (vs.setIfInBounds 1 (Value.ref g1.objs.size)):=Obj.data_mapFields dt _;have e3:((g1.push ot).update e (Obj.mapFields (·.setIfInBounds 1 (Value.ref g1.objs.size)))).get? e=some (oe.mapFields (·.setIfInBounds 1 (Value.ref g1.objs.size))):=get?_update_self _ e2 (Obj.isFreed_of_fields d3);have kp:∀b o,b≠e->g1.get? b=some o->((g1.push ot).update e (Obj.mapFields (·.setIfInBounds 1 (Value.ref g1.objs.size)))).get? b=some o:=λb o hb q=>by
  rw[get?_update_other _ _ hb.symm];exact get?_push_of_some _ q
 have nr:∀b o,s.heap.get? b=some o->(∀ws,o.data≠.fields ws)->b≠e:=λb o q n z=>by
  subst z;rw[eo] at q;cases q;exact n vs dt
 refine ⟨λb o q=>kp b o (λz=>by rw[z,en] at q;cases q) (b1 b o q),ff.of_keeps λb o q n=>?_,⟨_,_,g1.objs.size,ot,_,e3,Obj.cls_mapFields _ _,oK _ _,d3,by simp [sz],b1.fresh,ne,?_,od,of3⟩,λb o q n=>?_⟩
 ·obtain ⟨sl,z⟩:=s1.2.2 b o q;exact ⟨_,kp b _ (nr b o q n) z,rfl⟩
 ·rw[get?_update_other _ _ ne.symm];exact get?_push_size g1 onf
 ·obtain ⟨sl,z⟩:=s1.2.2 b o q;exact ⟨sl,kp b _ (nr b o q n) z⟩
theorem HN (fr:A.frames=some (env::outer)) (ff:s.heap.FunFrames B (env::outer)) (ef:env.frame=some L) (ef2:env2.frame=some L) (eo:s.heap.get? e=some oe) (st:B.StaysIn s.heap)
  (en:B.get? e=none) (dt:oe.data=.fields vs) (v1:vs[1]?=some .none) (k:∀g,kK B (env::outer) e oe.cls oe.dict (rawInt L) g->s.heap.UpToSlots g->Q () {s with heap:=g}):wpAny M A (noteFrame (.ref e) env2) Q E s:=by
 unfold noteFrame;simp only [ef2];refine wpAny_bind (wpAny_field eo dt v1 ?_);rw[if_neg (show ¬((Value.none != Value.none)=true) by decide)];exact qQ fr ff ef ef2 eo st en dt (Array.getElem?_eq_some_iff.mp v1).1 λg w=>k g ⟨w.stay,en,w.frames,w.tr⟩ w.slots
theorem HP (fr:A.frames=some (env::outer)) (ef:env.frame=some L) (ef2:env2.frame=some L) (F:kK B (env::outer) e c dx fl s.heap)
  (k:∀g fl',kK B (env::outer) e c dx fl' g->s.heap.UpToSlots g->Q () {s with heap:=g}):wpAny M A (noteFrame (.ref e) env2) Q E s:=by
 have F0:=F;obtain ⟨st,en,ff,oe,vs,T,oT,ts,eo,rfl,rfl,dt,v1,nT,ne,eT,dT,t3⟩:=F;unfold noteFrame;simp only [ef2];refine wpAny_bind (wpAny_field eo dt v1 ?_);rw[if_pos (show (Value.ref T != Value.none)=true by simp)];refine wpAny_bind (wpAny_field eT dT t3 ?_);by_cases hfl:(fl==rawInt L)=true
 ·rw[if_pos hfl];exact wpAny_pure (k s.heap fl F0 (Heap.UpToSlots.refl _))
 rw[if_neg hfl];refine wpAny_bind (wpAny_setField eT dT (Array.getElem?_eq_some_iff.mp t3).1 ?_);have ot:∀b,b≠T->(s.heap.update T (Obj.mapFields (·.setIfInBounds 3 Value.none))).get? b=s.heap.get? b:=λb hb=>get?_update_other _ _ hb.symm;have nr:∀b o,s.heap.get? b=some o->(∀ws,o.data≠.fields ws)->b≠T:=λb o q n z=>by
  subst z;rw[eT] at q;cases q;exact n ts dT
 refine qQ (s:={s with heap:=s.heap.update T (Obj.mapFields (·.setIfInBounds 3 Value.none))}) fr (ff.of_keeps λb o q n=>⟨o,by rw[ot b (nr b o q n)];exact q,rfl⟩) ef ef2 (by show (s.heap.update T _).get? e=_;rw[ot e ne.symm];exact eo)
  (λb o q=>by show (s.heap.update T _).get? b=_;rw[ot b λz=>by rw[z,nT] at q;cases q];exact st b o q) en dt (Array.getElem?_eq_some_iff.mp v1).1 λg w=>k g _ ⟨w.stay,en,w.frames,w.tr⟩ λb o q n=>w.slots b o (by rw[ot b (nr b o q n)];exact q) n
theorem IB (fo:Option Addr) (F:kK B l e c dx fl s.heap) (k:∀g,kK B l e c dx (fo.elim Value.none λf=>rawInt f) g->s.heap.UpToSlots g->Q () {s with heap:=g}):wpAny M A (setFlight (.ref e) fo) Q E s:=by
 obtain ⟨st,en,ff,oe,vs,T,oT,ts,eo,hc,hx,dt,v1,nT,ne,eT,dT,t3⟩:=F;have ot:∀b,b≠T->(s.heap.update T (Obj.mapFields (·.setIfInBounds 3 (fo.elim Value.none λf=>rawInt f)))).get? b=s.heap.get? b:=λb hb=>get?_update_other _ _ hb.symm;have nr:∀b o,s.heap.get? b=some o->(∀ws,o.data≠.fields ws)->b≠T:=λb o q n z=>by
  subst z;rw[eT] at q;cases q;exact n ts dT
 have s3:=(Array.getElem?_eq_some_iff.mp t3).1;unfold setFlight;refine wpAny_bind (wpAny_field eo dt v1 ?_);rw[if_pos (show (Value.ref T != Value.none)=true by simp)];refine wpAny_setField eT dT s3 (k _ ⟨λb o q=>?_,en,ff.of_keeps λb o q n=>⟨o,by rw[ot b (nr b o q n)];exact q,rfl⟩,oe,vs,T,_,_,by rw[ot e ne.symm];exact eo,hc,hx,dt,v1,nT,ne,get?_update_self _ eT (Obj.isFreed_of_fields (Obj.data_mapFields dT _)),Obj.data_mapFields dT _,by simp [s3]⟩
  λb o q n=>⟨o.slots,by rw[ot b (nr b o q n)];exact q⟩)
 rw[ot b λz=>by rw[z,nT] at q;cases q];exact st b o q
theorem vO (F:kK B l e c dx fl s.heap) (k:∀g,kK B l e c dx .none g->s.heap.UpToSlots g->Q () {s with heap:=g}):wpAny M A (setFlight (.ref e) none) Q E s:=IB none F k
theorem kK.tail (F:kK B (env::outer) e c dx fl h):kK B outer e c dx fl h:=⟨F.stay,F.new,F.frames.2.2,F.tr⟩
theorem leave_new (fr:A.frames=some (env::outer)) (ff:s.heap.FunFrames B (env::outer)) (ef:env.frame=some L) (eo:s.heap.get? e=some oe) (st:B.StaysIn s.heap)
  (en:B.get? e=none) (dt:oe.data=.fields vs) (v1:vs[1]?=some .none) (k:∀g,kK B outer e oe.cls oe.dict .none g->s.heap.UpToSlots g->Q () {s with heap:=g}):wpAny M A (leaving env (.ref e)) Q E s:=by
 unfold leaving;exact wpAny_bind (HN fr ff ef ef eo st en dt v1 λg F u=>vO F λg2 F2 u2=>k g2 F2.tail (u.trans u2))
theorem DI (fr:A.frames=some (env::outer)) (ef:env.frame=some L) (F:kK B (env::outer) e c dx fl s.heap)
  (k:∀g,kK B outer e c dx .none g->s.heap.UpToSlots g->Q () {s with heap:=g}):wpAny M A (leaving env (.ref e)) Q E s:=by
 unfold leaving;exact wpAny_bind (HP fr ef ef F λg _ F1 u=>vO F1 λg2 F2 u2=>k g2 F2.tail (u.trans u2))
end
noncomputable def xE (P:Program) (w:World):LV:=λouter H s E ev s'=>∃(e:Addr) (c:Value) (dx:Option Addr) (H':Hp) (B:Heap),ev=.ref e/\s'.os=s.os/\AllBare s'.gens/\Un (eL outer) [] H H' s.heap s'.heap/\dY P w H' s'.heap/\
 (∃fl,kK B outer e c dx fl s'.heap)/\(∀b o,s.heap.get? b=some o->b∉eL outer->∃u,B.get? b=some u)/\(∀b o,H' b=some o->∃u,B.get? b=some u)/\E c dx H'
theorem xE.no (h:xE P w outer H s E0 ev s'):False:=by
 obtain ⟨_,_,_,_,_,_,_,_,_,_,_,_,_,z⟩:=h;exact z
theorem mP (x:aY P w H h a o):∃u,h.get? a=some u:=by
 induction o with
 |lst xs=>obtain ⟨_,_,_,_,e⟩:=x;exact ⟨_,e⟩
 |tup xs=>obtain ⟨_,_,_,u,e,_⟩:=x;exact ⟨_,e⟩
 |dK kvs=>obtain ⟨_,_,_,_,o,_,_,e,_⟩:=x;exact ⟨_,e⟩
 |dT kvs=>obtain ⟨_,_,_,_,o,_,_,e,_⟩:=x;exact ⟨_,e⟩
 |set S n=>obtain ⟨o,_,_,_,e,_⟩:=x;exact ⟨_,e⟩
 |ins C dx fs=>obtain ⟨_,_,_,e,_⟩:=x;exact ⟨_,e⟩
 |own y=>exact x
 |xd fs=>obtain ⟨_,⟨_,_,_,e,_⟩,_⟩:=x;exact ⟨_,e⟩
 |rng lo hi=>obtain ⟨_,_,_,e⟩:=x;exact ⟨_,e⟩
 |frz ob u _=>exact ⟨_,x.1⟩
 |tbl ps=>exact ⟨_,x⟩
 |met f y=>exact ⟨_,x⟩
 |ext φ=>exact x.2.1
section
variable {P:Program} {w:World} {K:Fg} {mg:Str->Option Value} {base:Heap} {N:List Str} {qual:Str} {scope:Scope} {f:Addr} {cd:Value} {A:Around} {outer:List Env} {s:Shared} {H:Hp} {E:XK}
theorem JK {H':Hp} {h g B:Heap} (x:dY P w H' h) (c2:∀b o,H' b=some o->∃u,B.get? b=some u) (s1:B.StaysIn h) (s2:B.StaysIn g):dY P w H' g:=λb o q=>
 (x b o q).stay (λb' u' hb' q'=>by
  obtain ⟨u,hu⟩:∃u,B.get? b'=some u:=by
   rcases hb' with rfl|hb'
   ·exact c2 _ _ q
   ·exact c2 _ _ hb'
  have z:=s1 _ _ hu
  rw[q'] at z
  cases z
  exact s2 _ _ hu) (λ_ z=>z) λ_ _ z=>z
theorem HD:Passes (xE P w) (pL (xE P w) P w K mg base N qual scope f cd A outer s H E) E:=by
 intro pins σ H1 s1 ev s' I hc;obtain ⟨e,c,dx,H',B,rfl,os,bare,un,hok,⟨fl,F⟩,c1,c2,hE⟩:=hc;have un':Un (eL (envOfC qual scope s.heap.objs.size f cd::outer)) [] H1 H' s1.heap s'.heap:=un;have I0:Un (eL outer) [] H H1 s.heap s1.heap:=I.base;have nl:∀b o,s.heap.get? b=some o->b∉eL outer->b∉eL (envOfC qual scope s.heap.objs.size f cd::outer):=λb o q hb z=>by
  have z':b=s.heap.objs.size\/b∈eL outer:=by simpa [eL,envOfC] using z
  rcases z' with z'|z'
  ·exact absurd (lt_size q) (by rw[z'];exact Nat.lt_irrefl _)
  ·exact hb z'
 have fs:∀b,b∈eL outer->b∈eL (envOfC qual scope s.heap.objs.size f cd::outer):=λb z=>by
  have:b=s.heap.objs.size\/b∈eL outer:=.inr z;simpa [eL,envOfC] using this
 show wpAny _ _ (leaving _ (.ref e)) _ _ s';refine DI (L:=s.heap.objs.size) I.ok.frames rfl F λg F2 u=>?_;have bg:∀b o,s'.heap.get? b=some o->(∃u,B.get? b=some u)->g.get? b=some o:=λb o q ⟨v,hv⟩=>by
  have z:=F.stay _ _ hv;rw[q] at z;cases z;exact F2.stay _ _ hv
 have c1':∀b o,s.heap.get? b=some o->b∉eL outer->∃u,B.get? b=some u:=λb o q hb=>by
  obtain ⟨o1,q1⟩:=I0.there b o q (by simp);exact c1 b o1 q1 (nl b o q hb)
 have slot:∀b o,s.heap.get? b=some o->H b=none->b∈eL outer->∃sl,g.get? b=some {o with slots:=sl}:=λb o q n hb=>by
  obtain ⟨sl,q1⟩:=I0.slot b o q n hb (by simp);obtain ⟨sl2,q2⟩:=un'.slot b _ q1 (I0.free b o q n (by simp)) (fs b hb) (by simp);have nf:∀ws,o.data≠.fields ws:=by
   obtain ⟨_,o',q',n'⟩:=(show s.heap.FunFrames base outer from I.ok.funs).mem hb;rw[q] at q';cases q';exact n'
  obtain ⟨sl3,q3⟩:=u b _ q2 nf;exact ⟨sl3,q3⟩
 refine ⟨e,c,dx,H',B,rfl,os.trans I.os,bare,⟨λb o q n hb _=>?_,λb o q n hb _=>slot b o q n hb,λb o q n _=>?_,λb o q _=>?_,λb xs q=>un.tups b xs (I0.tups b xs q),λb o xs q=>un.frzs b o xs (I0.frzs b o xs q),λb ps q=>?_⟩,JK hok c2 F.stay F2.stay,⟨_,F2⟩,c1',c2,hE⟩
 ·exact bg b o (un'.keep b o (I0.keep b o q n hb (by simp)) (I0.free b o q n (by simp)) (nl b o q hb) (by simp)) (c1' b o q hb)
 ·obtain ⟨o1,q1⟩:=I0.there b o q (by simp);exact un'.free b o1 q1 (I0.free b o q n (by simp)) (by simp)
 ·by_cases hb:b∈eL outer
  ·obtain ⟨sl,z⟩:=slot b o q (I.ok.frf b hb) hb;exact ⟨_,z⟩
  ·obtain ⟨v,hv⟩:=c1' b o q hb;exact ⟨v,F2.stay _ _ hv⟩
 ·obtain ⟨m1,e1⟩:=I0.tbls b ps q;obtain ⟨m2,e2⟩:=un.tbls b _ e1;exact ⟨m1++m2,by rw[e2,Array.append_assoc]⟩
theorem IC (I:Inv (pL (xE P w) P w K mg base N qual scope f cd A outer s H E) pins σ H1 s1)
  (eo:s1.heap.get? e=some oe) (dt:oe.data=.fields vs) (v1:vs[1]?=some .none) (en:H1 e=none) (e0:∀b o,s.heap.get? b=some o->b≠e) (hE:E oe.cls oe.dict H1):
  (pL (xE P w) P w K mg base N qual scope f cd A outer s H E).xe (.ref e) s1:=by
 have I0:Un (eL outer) [] H H1 s.heap s1.heap:=I.base;have ff:s1.heap.FunFrames base (envOfC qual scope s.heap.objs.size f cd::outer):=I.stack;have nl:∀b o,s.heap.get? b=some o->b∉eL outer->b∉eL (envOfC qual scope s.heap.objs.size f cd::outer):=λb o q hb z=>by
  have z':b=s.heap.objs.size\/b∈eL outer:=by simpa [eL,envOfC] using z
  rcases z' with z'|z'
  ·exact absurd (lt_size q) (by rw[z'];exact Nat.lt_irrefl _)
  ·exact hb z'
 have ne:e∉eL (envOfC qual scope s.heap.objs.size f cd::outer):=λz=>by
  obtain ⟨_,o,q,n⟩:=ff.mem z;rw[eo] at q;cases q;exact n vs dt
 have hid:∀{b o},(PySem.W.hideAll s1.heap (e::eL (envOfC qual scope s.heap.objs.size f cd::outer))).get? b=some o->s1.heap.get? b=some o:=λq=>PySem.W.of_hideAll _ q;have has:∀{b o},s1.heap.get? b=some o->b≠e->b∉eL (envOfC qual scope s.heap.objs.size f cd::outer)->(PySem.W.hideAll s1.heap (e::eL (envOfC qual scope s.heap.objs.size f cd::outer))).get? b=some o:=
  λq h1 h2=>PySem.W.hideAll_get _ q (by simp only [mem_cons,not_or];exact ⟨h1,h2⟩)
 have ff2:s1.heap.FunFrames (PySem.W.hideAll s1.heap (e::eL (envOfC qual scope s.heap.objs.size f cd::outer))) (envOfC qual scope s.heap.objs.size f cd::outer):=
  PySem.W.funFrames_hide ff λenv' he' a ha=>mem_cons_of_mem _ (mem_filterMap.mpr ⟨env',he',ha⟩)
 show wpAny _ _ (leaving _ (.ref e)) _ _ s1;refine leave_new (L:=s.heap.objs.size) I.ok.frames ff2 rfl eo (λb o q=>hid q) (PySem.W.hideAll_none _ (by simp)) dt v1 λg F2 u=>?_;have c1':∀b o,s.heap.get? b=some o->b∉eL outer->∃u,(PySem.W.hideAll s1.heap (e::eL (envOfC qual scope s.heap.objs.size f cd::outer))).get? b=some u:=λb o q hb=>by
  obtain ⟨o1,q1⟩:=I0.there b o q (by simp);exact ⟨o1,has q1 (e0 b o q) (nl b o q hb)⟩
 have c2:∀b o,H1 b=some o->∃u,(PySem.W.hideAll s1.heap (e::eL (envOfC qual scope s.heap.objs.size f cd::outer))).get? b=some u:=λb o q=>by
  obtain ⟨o1,q1⟩:∃o1,s1.heap.get? b=some o1:=mP (I.hok b o q);refine ⟨o1,has q1 (λz=>by rw[z,en] at q;cases q) λz=>?_⟩;have:=I.stkFree b z;rw[q] at this;cases this
 have slot:∀b o,s.heap.get? b=some o->H b=none->b∈eL outer->∃sl,g.get? b=some {o with slots:=sl}:=λb o q n hb=>by
  obtain ⟨sl,q1⟩:=I0.slot b o q n hb (by simp);have nf:∀ws,o.data≠.fields ws:=by
   obtain ⟨_,o',q',n'⟩:=(show s.heap.FunFrames base outer from I.ok.funs).mem hb;rw[q] at q';cases q';exact n'
  obtain ⟨sl3,q3⟩:=u b _ q1 nf;exact ⟨sl3,q3⟩
 refine ⟨e,oe.cls,oe.dict,H1,_,rfl,I.os,I.bare,⟨λb o q n hb _=>?_,λb o q n hb _=>slot b o q n hb,λb o q n _=>I0.free b o q n (by simp),λb o q _=>?_,I0.tups,I0.frzs,I0.tbls⟩,JK I.hok c2 (λb o q=>hid q) F2.stay,⟨_,F2⟩,c1',c2,hE⟩
 ·exact F2.stay _ _ (has (I0.keep b o q n hb (by simp)) (e0 b o q) (nl b o q hb))
 ·by_cases hb:b∈eL outer
  ·obtain ⟨sl,z⟩:=slot b o q (I.ok.frf b hb) hb;exact ⟨_,z⟩
  ·obtain ⟨v,hv⟩:=c1' b o q hb;exact ⟨v,F2.stay _ _ hv⟩
end
theorem ff {P:Prop} (h:false=true):P:=nomatch h
noncomputable abbrev XS:=St->XK
noncomputable abbrev E0:XS:=λ_ _ _ _=>False
noncomputable def oQ:List Str:=["len","range","sum","all","any","min","max","sorted","isinstance","list","tuple","int","str","bool","dict","zip","set","abs","enumerate","reversed","divmod","ValueError"]
structure Rt where
 P:Program
 w:World
 K:Fg
 mg:Str->Option Value
 base:Heap
 A:Around
noncomputable def dC (X:Cx):Rt:=⟨X.prog,X.w,X.K,X.mg,X.base,X.A⟩
noncomputable def FnAt (R:Rt) (x:Str) (sp:Sp):Prop:=∃(k:Nat) (f:Addr) (fd:FuncData) (ps:List Str),dA k R.A/\zQ R.P R.w R.K R.mg R.base (xE R.P R.w) k f fd ps sp/\Binds R.K fd ps []/\PySem.W.keepIn R.K (.ref f)=true/\R.mg x=some (.ref f)
noncomputable def En (R:Rt) (x:Str) (v:V):Prop:=∃u,R.mg x=some u/\RelV v u
inductive Fb where
 |all
 |own (l:List Str)
 |hot
noncomputable def Fb.of:Bool->Fb
 |true=>.all
 |false=>.own []
noncomputable instance:Coe Bool Fb:=⟨Fb.of⟩
structure Sc where
 N:List Str
 nm:List (Str × NameKind)
 fo:Fb
noncomputable def Sc.fb (C:Sc):Bool:=match C.fo with
 | .all=>true
 | .own _=>false
 | .hot=>true
noncomputable def Sc.cm (C:Sc):Bool:=match C.fo with
 | .hot=>false
 |_=>true
noncomputable def Sc.ow (C:Sc):List Str:=match C.fo with
 | .all=>[]
 | .own l=>l
 | .hot=>[]
structure Gd (X:Cx) (C:Sc):Prop where
 N:X.N=C.N
 nm:X.env.scope.names=C.nm
 nd:C.N.Nodup
 calm:C.cm=true->X.calm=true
 bl:∀x∈oQ,X.mg x=none
 hu:X.A.units+64<cLine
 fb:C.fb=true->∀x,X.fn x=true
 top:C.fb=true->X.stack=X.env::X.outer/\X.env.frame=some X.env.locals
 ow:∀x∈C.ow,X.fn x=true
structure rF (X:Cx) (E:XS):Prop where
 pass:∀(pins:List (Addr × Obj)) (σ:St) (H:Hp) (s:Shared) (ev:Value) (s':Shared),Inv X pins σ H s->xE X.prog X.w X.stack H s (E σ) ev s'->X.xe ev s'
 made:∀(pins:List (Addr × Obj)) (σ:St) (H H':Hp) (s s':Shared) (e:Addr) (oe:Obj) (vs:Array Value),Inv X pins σ H s->s'.os=s.os->AllBare s'.gens->Un (eL X.stack) [] H H' s.heap s'.heap->dY X.prog X.w H' s'.heap->s.heap.get? e=none->H' e=none->
  s'.heap.get? e=some oe->oe.data=.fields vs->vs[1]?=some .none->E σ oe.cls oe.dict H'->X.xe (.ref e) s'
 own:PassesOwn (model X.prog X.w) X.A X.env X.xe
inductive YC where
 |pl|cp|zc
 deriving DecidableEq
noncomputable def fS:Expr->Option YC
 | .Starred ..=>none
 | .Slice ..=>none
 | .Set ..=>none
 | .SetComp ..=>none
 | .DictComp ..=>none
 | .GeneratorExp ..=>none
 | .ListComp ..=>some .cp
 | .Call (.Name _ _) [] [] _=>some .zc
 |_=>some .pl
noncomputable def uB:Expr->Bool
 | .UnaryOp .Not _ _=>false
 | .BoolOp ..=>false
 | .IfExp ..=>false
 | .Compare ..=>false
 |_=>true
section
variable {e b o:Expr} {es:List Expr} {env:Env} {s:YC}
theorem aZ (h:fS e=some s):starEach (e::es) env=(false,eval e env)::starEach es env:=by
 cases e<;>first|rfl|cases h
theorem nC {tgt:Option Expr} {line:Nat} (h:fS e=some s) (hs:s≠.cp):swapsWith e tgt line env=pure false:=by
 cases e with
 |ListComp a b c d=>exact absurd (Option.some.inj h).symm hs
 |SetComp a b c d=>cases h
 |DictComp a b c d=>cases h
 |_=>rfl
theorem yA (h:fS b=some s):tP b:=by
 cases b with
 |Slice a b c d=>cases h
 |_=>exact λ_ _=>rfl
theorem jM {op:CmpOp} (h:fS b=some s):behindInMarks op b=false:=by
 cases b with
 |Set a b c=>cases h
 |_=>rfl
theorem uQ (h:fS e=some s) (x:Value):foldedSetIterable e env x=pure x:=by
 cases e with
 |Set a b c=>cases h
 |_=>rfl
theorem uS {attr:Str} {w:Sem Value} (h:fS o=some s) (hs:s≠.zc):attributeBase o attr env w=w:=by
 cases o with
 |Call f a k p=>
  cases f with
  |Name x q=>
   cases a with
   |nil=>
    cases k with
    |nil=>exact absurd (Option.some.inj h).symm hs
    |cons _ _=>rfl
   |cons _ _=>rfl
  |_=>rfl
 |_=>rfl
theorem SM (h:uB e=true) (whole:Sem Value):isTrue e env whole=(do let v <-whole;standAt e.pos;holding [v] (truthy v)):=by
 cases e with
 |UnaryOp op x p=>
  cases op with
  |Not=>cases h
  |_=>rfl
 |BoolOp a b c=>cases h
 |IfExp a b c d=>cases h
 |Compare a b c d=>cases h
 |_=>rfl
end
noncomputable def br (b:Bool) (A B:Prop):Prop:=(b=true->A)/\(b=false->B)
theorem XQ {A B:Prop} (h:A):br true A B:=⟨λ_=>h,λz=>nomatch z⟩
theorem oP {A B:Prop} (h:B):br false A B:=⟨λz=>(nomatch z),λ_=>h⟩
theorem lC {c A B:Prop} [Decidable c] (h1:c->A) (h2:¬c->B):br (decide c) A B:=⟨λz=>h1 (of_decide_eq_true z),λz=>h2 (of_decide_eq_false z)⟩
noncomputable def sJ (K:Fg) (x:V) (H:Hp) (Q:Bool->Hp->Prop):Prop:=match x with
 | .bl b=>Q b H
 | .non=>Q false H
 | .int i=>Q (i != 0) H
 | .str y=>y.length<=sizeLine/\Q ((y.length:Int) != 0) H
 | .ref p=>∃k,YA K (.ref p) H k/\Q k H
 |_=>False
theorem MV {K:Fg} {x:V} {H:Hp} {Q:Bool->Hp->Prop} (h:sJ K x H Q):∃k,YA K x H k/\Q k H:=by
 cases x with
 |bl b=>exact ⟨b,rfl,h⟩
 |non=>exact ⟨false,rfl,h⟩
 |int i=>exact ⟨_,rfl,h⟩
 |str y=>exact ⟨_,⟨h.1,rfl⟩,h.2⟩
 |ref p=>exact h
 |byt _=>exact h.elim
 |flt _=>exact h.elim
 |ty _=>exact h.elim
theorem lV {X:Cx}:Ef X (sJ X.K):=λpins s σ H x v Q I rx h=>SN pins s σ H x v Q I rx (MV h)
noncomputable def SO (K:Fg) (t:TE):TT:=λσ H Q=>t σ H λx H'=>sJ K x H' Q
theorem TY {X:Cx} {a:Expr} {ta:TE} (ha:PE X a ta) (he:uB a=true):PT X a (SO X.K ta):=by
 intro pins s σ H Q I h;exact isTrue_plain (bO (ha pins s σ H _ I h) λv s1 ⟨x,H1,I1,r1,q1⟩=>lV pins s1 σ H1 x v Q I1 r1 q1) (SM he _)
theorem PE.imp {X:Cx} {e:Expr} {t t':TE} (h:PE X e t) (f:∀σ H Q,t' σ H Q->t σ H Q):PE X e t':=λpins s σ H Q I q=>h pins s σ H Q I (f σ H Q q)
structure EX (K:Fg) where
 t:XS->TE
 tt:XS->TT
 m:Sc->Expr->Bool
 q:Rt->Prop
 s:YC
 ok:∀(X:Cx) (C:Sc) (E:XS) (e:Expr),X.K=K->Gd X C->rF X E->q (dC X)->m C e=true->PE X e (t E)
 okT:∀(X:Cx) (C:Sc) (E:XS) (e:Expr),X.K=K->Gd X C->rF X E->q (dC X)->m C e=true->PT X e (tt E)
 sok:∀(C:Sc) (e:Expr),m C e=true->fS e=some s
noncomputable def RA {K:Fg} (t:XS->TE) (m:Sc->Expr->Bool) (q:Rt->Prop) (s:YC)
  (ok:∀(X:Cx) (C:Sc) (E:XS) (e:Expr),X.K=K->Gd X C->rF X E->q (dC X)->m C e=true->PE X e (t E))
  (sok:∀(C:Sc) (e:Expr),m C e=true->fS e=some s) (hT:∀(C:Sc) (e:Expr),m C e=true->uB e=true):EX K:=
 ⟨t,λE=>SO K (t E),m,q,s,ok,λX C E e hK G hE hq hm=>by subst hK;exact TY (ok X C E e rfl G hE hq hm) (hT C e hm),sok⟩
noncomputable def jT {K:Fg} (t:XS->TE) (m:Sc->Expr->Bool) (q:Rt->Prop) (s:YC)
  (ok:∀(X:Cx) (C:Sc) (E:XS) (e:Expr),X.K=K->Gd X C->rF X E->q (dC X)->m C e=true->PE X e (t E))
  (both:∀(C:Sc) (e:Expr),m C e=true->fS e=some s/\uB e=true):EX K:=RA t m q s ok (λC e h=>(both C e h).1) λC e h=>(both C e h).2
variable {K:Fg}
noncomputable def tV (i:Nat):TE:=λσ H Q=>match σ[i]? with
 |some (some v)=>Q v H
 |_=>False
noncomputable def ZH:Option NameKind->Bool
 |some .local=>true
 |some .cell=>true
 |some .free=>true
 |_=>false
theorem MF {sc:Scope} {x:Str} (h:ZH (sc.names.lookup x)=true):Ew sc x:=by
 unfold Ew;cases e:sc.names.lookup x with
 |none=>rw[e] at h;cases h
 |some k=>
  cases k with
  |«local»=>exact .inl rfl
  |cell=>exact .inr (.inl rfl)
  |free=>exact .inr (.inr rfl)
  |globalExplicit=>rw[e] at h;cases h
  |globalImplicit=>rw[e] at h;cases h
theorem kU {x y:Str} (h:(x != y)=true):(x==y)=false:=by
 cases e:x==y with
 |false=>rfl
 |true=>rw[bne,e] at h;cases h
noncomputable def var (i:Nat):EX K:=jT (λ_=>tV i)
 (λC e=>match e with
  | .Name x _=>C.N[i]?==some x&&(ZH (C.nm.lookup x)&&(x != "__debug__"&&x != "__classdict__"))
  |_=>false) (λ_=>True) .pl
 (λX C E e hK G hE hq hm=>by
  cases e with
  |Name x p=>
   simp only [and_eq_true] at hm
   obtain ⟨h1,h2,h3,h4⟩:=hm
   refine PE.imp (UG (i:=i) (by rw[G.N];exact eq_of_beq h1) (MF (by rw[G.nm];exact h2)) (kU h3) (kU h4)) λσ H Q h=>?_
   unfold tV at h
   split at h
   ·exact ⟨_,by assumption,h⟩
   ·exact h.elim
  |_=>exact ff hm)
 (λC e hm=>by cases e with|Name x p=>exact ⟨rfl,rfl⟩|_=>exact ff hm)
noncomputable def cst (v:V):EX K:=jT (λ_=>tC v)
 (λ_ e=>match e with
  | .Constant c _ _=>decide (KG c=some v)
  |_=>false) (λ_=>True) .pl
 (λX C E e hK G hE hq hm=>by
  cases e with
  |Constant c k p=>exact CS (of_decide_eq_true hm)
  |_=>exact ff hm)
 (λC e hm=>by cases e with|Constant c k p=>exact ⟨rfl,rfl⟩|_=>exact ff hm)
noncomputable def pJ (C:Sc) (x y:Str):Bool:=y==x&&(C.nm.lookup x==some .globalImplicit&&x != "__debug__")
theorem cE {C:Sc} {x y:Str} (h:pJ C x y=true):y=x:=by
 unfold pJ at h;simp only [and_eq_true] at h;exact eq_of_beq h.1
theorem cD {X:Cx} {C:Sc} {x y:Str} (G:Gd X C) (h:pJ C x y=true):Gl X x/\(x==("__debug__":Str))=false:=by
 unfold pJ at h;simp only [and_eq_true] at h;obtain ⟨_,h2,h3⟩:=h;exact ⟨by show X.env.scope.names.lookup x=_;rw[G.nm];exact eq_of_beq h2,kU h3⟩
noncomputable def YU (x:Str) (v:V):EX K:=jT (λ_=>tC v)
 (λC e=>match e with
  | .Name y _=>pJ C x y
  |_=>false) (λR=>En R x v) .pl
 (λX C E e hK G hE hq hm=>by
  cases e with
  |Name y p=>
   obtain ⟨u,h1,h2⟩:=hq
   have e:=cE hm
   subst e
   obtain ⟨g,d⟩:=cD G hm
   exact NK g h1 h2 d
  |_=>exact ff hm)
 (λC e hm=>by cases e with|Name x p=>exact ⟨rfl,rfl⟩|_=>exact ff hm)
noncomputable def Ea (x:Str) (T:String) (hb:bootBuiltins x=some (.type T)) (hi:x∈oQ) (hn:x≠"__name__"):EX K:=jT (λ_=>tC (.ty T))
 (λC e=>match e with
  | .Name y _=>pJ C x y
  |_=>false) (λ_=>True) .pl
 (λX C E e hK G hE hq hm=>by
  cases e with
  |Name y p=>
   have e:=cE hm
   subst e
   obtain ⟨g,d⟩:=cD G hm
   exact NN g (G.bl _ hi) hb rfl hn d
  |_=>exact ff hm)
 (λC e hm=>by cases e with|Name x p=>exact ⟨rfl,rfl⟩|_=>exact ff hm)
noncomputable def OY (f:Int->Int->Hp->(V->Hp->Prop)->Prop):R2:=λx y H Q=>match x with
 | .int i=>(match y with
  | .int j=>f i j H Q
  |_=>False)
 |_=>False
theorem gP {f:Int->Int->Hp->(V->Hp->Prop)->Prop} {x y:V} {H:Hp} {Q:V->Hp->Prop} (h:OY f x y H Q):∃i j,x=.int i/\y=.int j/\f i j H Q:=by
 cases x with
 |int i=>cases y with
  |int j=>exact ⟨i,j,rfl,rfl,h⟩
  |_=>exact False.elim h
 |_=>exact False.elim h
noncomputable def Ga (K:Fg):R2:=λx y H Q=>match x with
 | .int i=>(match y with
  | .int j=>Q (.int (i+j)) H
  | .bl k=>Q (.int (i+b2i k)) H
  |_=>False)
 | .str a=>(match y with
  | .str b=>a.length+b.length<=sizeLine/\Q (.str (a++b)) H
  |_=>False)
 | .ref a=>(match y with
  | .ref b=>Ar (.ref a) (.ref b) H Q\/QY K (.ref a) (.ref b) H Q\/GS K (.ref a) (.ref b) H Q
  |_=>False)
 |_=>False
noncomputable def Ft:R2:=λx y H Q=>match y with
 | .int j=>(match x with
  | .int i=>IntMulOk i j/\Q (.int (i * j)) H
  | .ref a=>Aj (.ref a) (.int j) H Q
  | .str a=>SG a j/\Q (.str (Txt.mul a j)) H
  |_=>False)
 |_=>False
noncomputable def kS (K:Fg):Operator->R2
 | .Add=>Ga K
 | .Sub=>OY λi j H Q=>Q (.int (i - j)) H
 | .Mult=>Ft
 | .FloorDiv=>OY λi j H Q=>Hq i j/\Q (.int (i / j)) H
 | .Mod=>OY λi j H Q=>0<j/\Q (.int (i % j)) H
 | .Pow=>OY λi j H Q=>Fe i j/\Q (.int (i ^ j.toNat)) H
 |_=>λ_ _ _ _=>False
theorem XU {X:Cx} (op:Operator):fA X (binaryOp op) (kS X.K op):=by
 intro pins s σ H x y v u Q I rx ry h;cases op with
 |Add=>
  cases x with
  |int i=>cases y with
   |int j=>exact VA pins s σ H _ _ v u Q I rx ry ⟨_,_,rfl,rfl,h⟩
   |bl k=>exact CY pins s σ H _ _ v u Q I rx ry ⟨_,_,rfl,rfl,h⟩
   |_=>exact False.elim h
  |str a=>cases y with
   |str b=>exact yL pins s σ H _ _ v u Q I rx ry ⟨_,_,rfl,rfl,h.1,h.2⟩
   |_=>exact False.elim h
  |ref a=>cases y with
   |ref b=>
    rcases h with h|h|h
    ·exact UZ pins s σ H _ _ v u Q I rx ry h
    ·exact NT pins s σ H _ _ v u Q I rx ry h
    ·exact HI pins s σ H _ _ v u Q I rx ry h
   |_=>exact False.elim h
  |_=>exact False.elim h
 |Sub=>exact UO pins s σ H _ _ v u Q I rx ry (gP (f:=λi j H Q=>Q (.int (i - j)) H) h)
 |Mult=>
  cases y with
  |int j=>cases x with
   |int i=>exact NS pins s σ H _ _ v u Q I rx ry ⟨_,_,rfl,rfl,h.1,h.2⟩
   |ref a=>exact UP pins s σ H _ _ v u Q I rx ry h
   |str a=>exact NR pins s σ H _ _ v u Q I rx ry ⟨_,_,rfl,rfl,h.1,h.2⟩
   |_=>exact False.elim h
  |_=>exact False.elim h
 |FloorDiv=>exact HH pins s σ H _ _ v u Q I rx ry (gP (f:=λi j H Q=>Hq i j/\Q (.int (i / j)) H) h)
 |Mod=>exact US pins s σ H _ _ v u Q I rx ry (gP (f:=λi j H Q=>0<j/\Q (.int (i % j)) H) h)
 |Pow=>exact NO pins s σ H _ _ v u Q I rx ry (gP (f:=λi j H Q=>Fe i j/\Q (.int (i ^ j.toNat)) H) h)
 |_=>exact False.elim h
noncomputable def bin (op:Operator) (a b:EX K):EX K:=jT (λE=>SS (kS K op) (a.t E) (b.t E))
 (λC e=>match e with
  | .BinOp l o r _=>decide (o=op)&&(a.m C l&&b.m C r)
  |_=>false) (λR=>a.q R/\b.q R) .pl
 (λX C E e hK G hE hq hm=>by
  subst hK
  cases e with
  |BinOp l o r p=>
   simp only [and_eq_true] at hm
   obtain ⟨h1,h2,h3⟩:=hm
   have e:=of_decide_eq_true h1
   subst e
   exact Ax (XU _) (a.ok X C E l rfl G hE hq.1 h2) (b.ok X C E r rfl G hE hq.2 h3)
  |_=>exact ff hm)
 (λC e hm=>by cases e with|BinOp l o r p=>exact ⟨rfl,rfl⟩|_=>exact ff hm)
noncomputable def MY:V->Hp->VK->Prop
 | .int i,H,Q=>Q (.int (-i)) H
 |_,_,_=>False
noncomputable def neg (a:EX K):EX K:=RA (λE=>Ht MY (a.t E))
 (λC e=>match e with
  | .UnaryOp .USub l _=>a.m C l
  |_=>false) a.q .pl
 (λX C E e hK G hE hq hm=>by
  cases e with
  |UnaryOp o l p=>
   cases o with
   |USub=>
    refine Aw (λpins s σ H x v Q I rx h=>?_) (a.ok X C E l hK G hE hq hm)
    unfold MY at h
    split at h
    ·exact SK pins s σ H _ v Q I rx ⟨_,rfl,h⟩
    ·exact h.elim
   |_=>exact ff hm
  |_=>exact ff hm)
 (λC e hm=>by cases e with|UnaryOp o l p=>rfl|_=>exact ff hm)
 (λC e hm=>by cases e with|UnaryOp o l p=>(cases o with|USub=>rfl|_=>exact ff hm)|_=>exact ff hm)
theorem UU {X:Cx}:fA X (compareOp .Is) (λx y H Q=>∃c d,x=.bl c/\y=.bl d/\Q (.bl (c==d)) H):=by
 intro pins s σ H x y v u Q I rx ry h;obtain ⟨c,d,rfl,rfl,q⟩:=h;cases (show v=Value.bool c from rx);cases (show u=Value.bool d from ry);exact is_bool ⟨.bl _,H,I,rfl,q⟩
theorem CU {X:Cx}:fA X (compareOp .IsNot) (λx y H Q=>∃c d,x=.bl c/\y=.bl d/\Q (.bl (c != d)) H):=by
 intro pins s σ H x y v u Q I rx ry h;obtain ⟨c,d,rfl,rfl,q⟩:=h;cases (show v=Value.bool c from rx);cases (show u=Value.bool d from ry);exact isnot_bool ⟨.bl _,H,I,rfl,q⟩
noncomputable def Hy (f:Bool->Bool):R2:=λx y H Q=>match y with
 | .non=>Q (.bl (f (decide (x=.non)))) H
 | .bl d=>(match x with
  | .bl c=>Q (.bl (f (c==d))) H
  |_=>False)
 |_=>False
noncomputable def Ao (K:Fg) (n:Bool) (f:Bool->Bool):R2:=λx y H Q=>match y with
 | .ref b=>Fy K n x (.ref b) H Q
 | .str j=>(match x with
  | .str i=>Q (.bl (f (!(Builtin.Str.occurrences j i 0 j.length 1).isEmpty))) H
  |_=>False)
 |_=>False
noncomputable def iE (K:Fg):CmpOp->R2
 | .Eq=>λx y H Q=>(MT x y=true/\Q (.bl (decide (x=y))) H)\/Aq x y H Q\/Ap x y H Q
 | .NotEq=>λx y H Q=>(MT x y=true/\Q (.bl (!decide (x=y))) H)\/Al x y H Q\/Ak x y H Q
 | .Lt=>OY λi j H Q=>Q (.bl (decide (i<j))) H
 | .LtE=>OY λi j H Q=>Q (.bl (decide (i<=j))) H
 | .Gt=>OY λi j H Q=>Q (.bl (decide (j<i))) H
 | .GtE=>OY λi j H Q=>Q (.bl (decide (j<=i))) H
 | .Is=>Hy λb=>b
 | .IsNot=>Hy λb=>!b
 | .In=>Ao K false λb=>b
 | .NotIn=>Ao K true λb=>!b
theorem KQ {X:Cx} (hu:X.A.units+64<cLine) (op:CmpOp):fA X (compareOp op) (iE X.K op):=by
 intro pins s σ H x y v u Q I rx ry h;cases op with
 |Eq=>
  rcases h with h|h|h
  ·exact Bi pins s σ H _ _ v u Q I rx ry h
  ·exact UY hu pins s σ H _ _ v u Q I rx ry h
  ·exact UW hu pins s σ H _ _ v u Q I rx ry h
 |NotEq=>
  rcases h with h|h|h
  ·exact Bc pins s σ H _ _ v u Q I rx ry h
  ·exact UR hu pins s σ H _ _ v u Q I rx ry h
  ·exact UQ hu pins s σ H _ _ v u Q I rx ry h
 |Lt=>exact Bd pins s σ H _ _ v u Q I rx ry (gP (f:=λi j H Q=>Q (.bl (decide (i<j))) H) h)
 |LtE=>exact Be pins s σ H _ _ v u Q I rx ry (gP (f:=λi j H Q=>Q (.bl (decide (i<=j))) H) h)
 |Gt=>exact Bg pins s σ H _ _ v u Q I rx ry (gP (f:=λi j H Q=>Q (.bl (decide (j<i))) H) h)
 |GtE=>exact Bh pins s σ H _ _ v u Q I rx ry (gP (f:=λi j H Q=>Q (.bl (decide (j<=i))) H) h)
 |Is=>
  cases y with
  |non=>exact UT pins s σ H _ _ v u Q I rx ry ⟨rfl,h⟩
  |bl d=>cases x with
   |bl c=>exact UU pins s σ H _ _ v u Q I rx ry ⟨_,_,rfl,rfl,h⟩
   |_=>exact False.elim h
  |_=>exact False.elim h
 |IsNot=>
  cases y with
  |non=>exact NP pins s σ H _ _ v u Q I rx ry ⟨rfl,h⟩
  |bl d=>cases x with
   |bl c=>exact CU pins s σ H _ _ v u Q I rx ry ⟨_,_,rfl,rfl,h⟩
   |_=>exact False.elim h
  |_=>exact False.elim h
 |In=>
  cases y with
  |ref b=>exact CW pins s σ H _ _ v u Q I rx ry h
  |str j=>cases x with
   |str i=>exact CV pins s σ H _ _ v u Q I rx ry ⟨_,_,rfl,rfl,h⟩
   |_=>exact False.elim h
  |_=>exact False.elim h
 |NotIn=>
  cases y with
  |ref b=>exact sR pins s σ H _ _ v u Q I rx ry h
  |str j=>cases x with
   |str i=>exact sQ pins s σ H _ _ v u Q I rx ry ⟨_,_,rfl,rfl,h⟩
   |_=>exact False.elim h
  |_=>exact False.elim h
noncomputable def bV (Q:Bool->Hp->Prop):V->Hp->Prop
 | .bl b,H=>Q b H
 |_,_=>False
noncomputable def rB (r:R2):V->V->Hp->(Bool->Hp->Prop)->Prop:=λx y H Q=>r x y H (bV Q)
theorem Eb {z:V} {H:Hp} {Q:Bool->Hp->Prop} (h:bV Q z H):∃b,z=.bl b/\Q b H:=by
 cases z with
 |bl b=>exact ⟨b,rfl,h⟩
 |_=>exact h.elim
noncomputable def cmp (op:CmpOp) (a b:EX K):EX K where
 t:=λE=>SS (iE K op) (a.t E) (b.t E)
 tt:=λE σ H Q=>a.t E σ H λx H1=>b.t E σ H1 λy H2=>rB (iE K op) x y H2 Q
 m:=λC e=>match e with
  | .Compare l [o] [r] _=>decide (o=op)&&(a.m C l&&b.m C r)
  |_=>false
 q:=λR=>a.q R/\b.q R
 s:=.pl
 ok:=λX C E e hK G hE hq hm=>by
  subst hK;cases e with
  |Compare l os rs p=>
   match os,rs,hm with
   |[o],[r],hm=>
    simp only [and_eq_true] at hm;obtain ⟨h1,h2,h3⟩:=hm;have e:=of_decide_eq_true h1;subst e;exact AK (KQ G.hu _) (a.ok X C E l rfl G hE hq.1 h2) (b.ok X C E r rfl G hE hq.2 h3) (jM (b.sok C r h3))
  |_=>exact ff hm
 okT:=λX C E e hK G hE hq hm=>by
  subst hK;cases e with
  |Compare l os rs p=>
   match os,rs,hm with
   |[o],[r],hm=>
    simp only [and_eq_true] at hm;obtain ⟨h1,h2,h3⟩:=hm;have e:=of_decide_eq_true h1;subst e;intro pins s σ H Q I hw;refine wpAny_isTrue_Compare1 (bO (a.ok X C E l rfl G hE hq.1 h2 pins s σ H _ I hw) λv s1 ⟨x,H1,I1,r1,q1⟩=>bO (b.ok X C E r rfl G hE hq.2 h3 pins s1 σ H1 _ I1 q1) λu s2 ⟨y,H2,I2,r2,q2⟩=>
     bO (KQ G.hu _ pins s2 σ H2 x y v u _ I2 r1 r2 q2) λc s3 ⟨z,H3,I3,r3,q3⟩=>?_) (jM (b.sok C r h3))
    obtain ⟨d,rfl,q⟩:=Eb q3;cases r3;exact wpAny_truthy_bool ⟨H3,I3,q⟩
  |_=>exact ff hm
 sok:=λC e hm=>by cases e with|Compare l o r p=>rfl|_=>exact ff hm
noncomputable def pF (a:EX K):EX K where
 t:=λE σ H Q=>a.t E σ H λx H1=>sJ K x H1 λb H2=>Q (.bl (!b)) H2
 tt:=λE σ H Q=>a.tt E σ H λb H1=>Q (!b) H1
 m:=λC e=>match e with
  | .UnaryOp .Not l _=>a.m C l
  |_=>false
 q:=a.q
 s:=.pl
 ok:=λX C E e hK G hE hq hm=>by
  subst hK;cases e with
  |UnaryOp o l p=>
   cases o with
   |Not=>
    intro pins s σ H Q I h;refine UnaryOp_ (bO (a.ok X C E l rfl G hE hq hm pins s σ H _ I h) λv s1 ⟨x,H1,I1,r1,q1⟩=>?_);exact not_of (bO (lV pins s1 σ H1 x v _ I1 r1 q1) λb s2 ⟨H2,I2,q2⟩=>⟨.bl (!b),H2,I2,rfl,q2⟩)
   |_=>exact ff hm
  |_=>exact ff hm
 okT:=λX C E e hK G hE hq hm=>by
  cases e with
  |UnaryOp o l p=>
   cases o with
   |Not=>exact TZ (a.okT X C E l hK G hE hq hm)
   |_=>exact ff hm
  |_=>exact ff hm
 sok:=λC e hm=>by cases e with|UnaryOp o l p=>rfl|_=>exact ff hm
noncomputable def CH (K:Fg) (op:BoolOp) (E:XS):TE->List (EX K)->TE
 |t,[]=>t
 |t,y::ys=>λσ H Q=>t σ H λx H1=>sJ K x H1 λb H2=>match op with
  | .And=>br b (CH K op E (y.t E) ys σ H2 Q) (Q x H2)
  | .Or=>br b (Q x H2) (CH K op E (y.t E) ys σ H2 Q)
noncomputable def jE (K:Fg) (op:BoolOp) (E:XS):TT->List (EX K)->TT
 |t,[]=>t
 |t,y::ys=>λσ H Q=>t σ H λb H1=>match op with
  | .And=>br b (jE K op E (y.tt E) ys σ H1 Q) (Q false H1)
  | .Or=>br b (Q true H1) (jE K op E (y.tt E) ys σ H1 Q)
noncomputable def jU:List (EX K)->Sc->List Expr->Bool
 |[],_,[]=>true
 |x::xs,C,e::es=>x.m C e&&jU xs C es
 |_,_,_=>false
noncomputable def sN:List (EX K)->Rt->Prop
 |[],_=>True
 |x::xs,R=>x.q R/\sN xs R
theorem LB {X:Cx} {C:Sc} {E:XS} {pos:Pos} (op:BoolOp) (G:Gd X C) (hE:rF X E):∀(xs:List (EX X.K)) (e:Expr) (es:List Expr) (t:TE),PE X e t->sN xs (dC X)->jU xs C es=true->PE X (.BoolOp op (e::es) pos) (CH X.K op E t xs)
 |[],e,[],t,he,_,_=>UJ he
 |[],e,_::_,t,he,_,hm=>nomatch hm
 |x::xs,e,[],t,he,_,hm=>nomatch hm
 |x::xs,e,e2::es,t,he,hq,hm=>by
  have hm':(x.m C e2&&jU xs C es)=true:=hm;simp only [and_eq_true] at hm';have h2:=LB (pos:=pos) op G hE xs e2 es (x.t E) (x.ok X C E e2 rfl G hE hq.1 hm'.1) hq.2 hm'.2;cases op with
  |And=>
   intro pins s σ H Q I h;refine BoolOp_and (bO (he pins s σ H _ I h) λv s1 ⟨y,H1,I1,r1,q1⟩=>?_);refine bO (lV pins s1 σ H1 y v _ I1 r1 q1) λb s2 ⟨H2,I2,q2⟩=>?_;cases b with
   |true=>exact h2 pins s2 σ H2 Q I2 (q2.1 rfl)
   |false=>exact ⟨y,H2,I2,r1,q2.2 rfl⟩
  |Or=>
   intro pins s σ H Q I h;refine BoolOp_or (bO (he pins s σ H _ I h) λv s1 ⟨y,H1,I1,r1,q1⟩=>?_);refine bO (lV pins s1 σ H1 y v _ I1 r1 q1) λb s2 ⟨H2,I2,q2⟩=>?_;cases b with
   |true=>exact ⟨y,H2,I2,r1,q2.1 rfl⟩
   |false=>exact h2 pins s2 σ H2 Q I2 (q2.2 rfl)
theorem BL {X:Cx} {C:Sc} {E:XS} {pos:Pos} (op:BoolOp) (G:Gd X C) (hE:rF X E):∀(xs:List (EX X.K)) (e:Expr) (es:List Expr) (t:TT),PT X e t->sN xs (dC X)->jU xs C es=true->PW X (.BoolOp op (e::es) pos) (jE X.K op E t xs)
 |[],e,[],t,he,_,_=>by
  cases op with
  |And=>exact NA he
  |Or=>exact TU he
 |[],e,_::_,t,he,_,hm=>nomatch hm
 |x::xs,e,[],t,he,_,hm=>nomatch hm
 |x::xs,e,e2::es,t,he,hq,hm=>by
  have hm':(x.m C e2&&jU xs C es)=true:=hm;simp only [and_eq_true] at hm';have h2:=BL (pos:=pos) op G hE xs e2 es (x.tt E) (x.okT X C E e2 rfl G hE hq.1 hm'.1) hq.2 hm'.2;cases op with
  |And=>
   intro wh pins s σ H Q I h;refine isTrue_and (bO (he pins s σ H _ I h) λb s1 ⟨H1,I1,q1⟩=>?_);cases b with
   |true=>exact h2 wh pins s1 σ H1 Q I1 (q1.1 rfl)
   |false=>exact ⟨H1,I1,q1.2 rfl⟩
  |Or=>
   intro wh pins s σ H Q I h;refine isTrue_or (bO (he pins s σ H _ I h) λb s1 ⟨H1,I1,q1⟩=>?_);cases b with
   |true=>exact ⟨H1,I1,q1.1 rfl⟩
   |false=>exact h2 wh pins s1 σ H1 Q I1 (q1.2 rfl)
noncomputable def Ib (op:BoolOp) (x:EX K) (xs:List (EX K)):EX K where
 t:=λE=>CH K op E (x.t E) xs
 tt:=λE=>jE K op E (x.tt E) xs
 m:=λC e=>match e with
  | .BoolOp o (l::ls) _=>decide (o=op)&&(x.m C l&&jU xs C ls)
  |_=>false
 q:=λR=>x.q R/\sN xs R
 s:=.pl
 ok:=λX C E e hK G hE hq hm=>by
  subst hK;cases e with
  |BoolOp o ls p=>
   cases ls with
   |nil=>cases hm
   |cons l ls=>
    simp only [and_eq_true] at hm;obtain ⟨h1,h2,h3⟩:=hm;have e:=of_decide_eq_true h1;subst e;exact LB _ G hE xs l ls _ (x.ok X C E l rfl G hE hq.1 h2) hq.2 h3
  |_=>exact ff hm
 okT:=λX C E e hK G hE hq hm=>by
  subst hK;cases e with
  |BoolOp o ls p=>
   cases ls with
   |nil=>cases hm
   |cons l ls=>
    simp only [and_eq_true] at hm;obtain ⟨h1,h2,h3⟩:=hm;have e:=of_decide_eq_true h1;subst e;exact (BL _ G hE xs l ls _ (x.okT X C E l rfl G hE hq.1 h2) hq.2 h3).pt
  |_=>exact ff hm
 sok:=λC e hm=>by cases e with|BoolOp o l p=>rfl|_=>exact ff hm
noncomputable def zM (x:EX K) (xs:List (EX K)):EX K:=Ib .And x xs
noncomputable def Bb (x:EX K) (xs:List (EX K)):EX K:=Ib .Or x xs
noncomputable def fB:List (EX K)->XS->TA
 |[],_=>ZT
 |x::xs,E=>QP (x.t E) (fB xs E)
theorem aG {x:EX K} {xs:List (EX K)} {C:Sc} {e:Expr} {es:List Expr} (h:jU (x::xs) C (e::es)=true):x.m C e=true/\jU xs C es=true:=by
 have h':(x.m C e&&jU xs C es)=true:=h;simpa only [and_eq_true] using h'
theorem dU {X:Cx} {C:Sc} {E:XS} (G:Gd X C) (hE:rF X E):∀(xs:List (EX X.K)) (es:List Expr),sN xs (dC X)->jU xs C es=true->PA X es (fB xs E)
 |[],[],_,_=>HE
 |[],_::_,_,hm=>nomatch hm
 |_::_,[],_,hm=>nomatch hm
 |x::xs,e::es,hq,hm=>AL (x.ok X C E e rfl G hE hq.1 (aG hm).1) (dU G hE xs es hq.2 (aG hm).2) (aZ (x.sok C e (aG hm).1))
theorem bG {C:Sc} {env:Env} {pos:Pos}:∀(xs:List (EX K)) (es:List Expr),jU xs C es=true->(backTo pos (starEach es env)).any (·.1)=false
 |[],[],_=>rfl
 |[],_::_,hm=>nomatch hm
 |_::_,[],hm=>nomatch hm
 |x::xs,e::es,hm=>by
  rw[aZ (x.sok C e (aG hm).1)];show (false || (backTo pos (starEach es env)).any (·.1))=false;rw[bG xs es (aG hm).2];rfl
theorem as_none {C:Sc} {env:Env} {pos:Pos}:∀(xs:List (EX K)) (es:List Expr),jU xs C es=true->(backTo pos (starEach es env)).all (λx=>!x.1)=true
 |[],[],_=>rfl
 |[],_::_,hm=>nomatch hm
 |_::_,[],hm=>nomatch hm
 |x::xs,e::es,hm=>by
  rw[aZ (x.sok C e (aG hm).1)];show (true&&(backTo pos (starEach es env)).all (λx=>!x.1))=true;rw[as_none xs es (aG hm).2];rfl
noncomputable def Hw:List (EX K)->YC
 |[]=>.zc
 |_=>.pl
theorem yB {C:Sc} {y:Str} {p q:Pos}:∀(xs:List (EX K)) (es:List Expr),jU xs C es=true->fS (.Call (.Name y p) es [] q)=some (Hw xs)
 |[],[],_=>rfl
 |[],_::_,hm=>nomatch hm
 |_::_,[],hm=>nomatch hm
 |_::_,_::_,_=>rfl
noncomputable def SU (sp:Sp) (E:XS) (t:TA):TE:=λσ H Q=>t σ H λvs H1=>sp vs H1 Q (E σ)
theorem AD {X:Cx} {E:XS} {k:Nat} {f:Addr} {fd:FuncData} {ps:List Str} {sp:Sp} {pins:List (Addr × Obj)} {σ:St} {H1:Hp} {s1:Shared} {Q1:VK} {us:List Value} {vs:List V} (hE:rF X E) (F:zQ X.prog X.w X.K X.mg X.base (xE X.prog X.w) k f fd ps sp)
  (room:dA k X.A) (bd:Binds X.K fd ps []) (I1:Inv X pins σ H1 s1) (rl:Vals vs us) (pr:sp vs H1 Q1 (E σ)):wpAny (model X.prog X.w) X.A (PySem.call (.ref f) us) (EP X pins σ Q1) X.xe s1:=by
 have ln:(us++[]).length=ps.length:=by rw[append_nil,<-rl.length];exact F.len _ _ _ _ pr
 have b:=bd s1 us I1.kIn ln;rw[append_nil] at b;refine wpAny_call (codeAny_mono (F.run X.A X.stack s1 H1 ⟨us,[]⟩ us vs Q1 (E σ) room I1.env0 b rl pr) λres s2 fin=>?_);cases res with
 |error ev=>exact hE.pass pins σ H1 s1 ev s2 I1 fin
 |ok fl=>
  cases fl with
  |ret v=>exact I1.after fin
  |next=>exact fin.elim
  |brk=>exact fin.elim
  |cont=>exact fin.elim
noncomputable def call (x:Str) (sp:Sp) (as:List (EX K)):EX K:=RA (λE=>SU sp E (fB as E))
 (λC e=>match e with
  | .Call (.Name y _) es [] _=>pJ C x y&&jU as C es
  |_=>false) (λR=>FnAt R x sp/\sN as R) (Hw as)
 (λX C E e hK G hE hq hm=>by
  subst hK
  cases e with
  |Call f es ks p=>
   cases f with
   |Name y py=>
    cases ks with
    |nil=>
     simp only [and_eq_true] at hm
     obtain ⟨h1,h2⟩:=hm
     have e:=cE h1
     subst e
     obtain ⟨g,d⟩:=cD G h1
     obtain ⟨⟨k,f,fd,ps,hr,F,hb,kp,hg⟩,hqa⟩:=hq
     cases as with
     |nil=>
      cases es with
      |nil=>
       intro pins s σ H Q I h
       exact wpAny_Call_Name_kw (jV I g hg (PySem.W.callWith_K0 I.kIn kp (AD (us:=[]) hE F hr hb I .nil h)) d)
      |cons _ _=>cases h2
     |cons a as=>
      cases es with
      |nil=>cases h2
      |cons e es=>
       intro pins s σ H Q I h
       exact wpAny_Call_Name_kw (jV I g hg (PySem.W.callWith_K (h₀:=X.base) I.ok.mod.kin kp (bO (dU G hE (a::as) (e::es) hqa h2 p pins s σ H _ I h) λus s1 ⟨vs,H1,I1,r,q⟩=>⟨I1.kIn,AD hE F hr hb I1 r q⟩) (aZ (a.sok C e (aG h2).1)) (bG as es (aG h2).2)) d)
    |cons _ _=>cases hm
   |_=>exact ff hm
  |_=>exact ff hm)
 (λC e hm=>by
  cases e with
  |Call f es ks p=>
   cases f with
   |Name y py=>
    cases ks with
    |nil=>
     simp only [and_eq_true] at hm
     exact yB as es hm.2
    |cons _ _=>cases hm
   |_=>exact ff hm
  |_=>exact ff hm)
 (λC e hm=>by cases e with|Call f es ks p=>rfl|_=>exact ff hm)
noncomputable def XX (x:Str) (id:String) (r:List V->Hp->VK->Prop) (ok:∀X:Cx,X.K=K->X.calm=true->X.A.units+64<cLine->bZ X (.builtin id) r) (hb:bootBuiltins x=some (.builtin id)) (hi:x∈oQ) (hn:x≠"__name__") (a:EX K) (as:List (EX K)):EX K:=
 RA (λE=>ZX r (fB (a::as) E))
 (λC e=>match e with
  | .Call (.Name y _) es [] _=>(C.cm&&pJ C x y)&&jU (a::as) C es
  |_=>false) (λR=>sN (a::as) R) .pl
 (λX C E e hK G hE hq hm=>by
  subst hK
  cases e with
  |Call f es ks p=>
   cases f with
   |Name y py=>
    cases ks with
    |nil=>
     simp only [and_eq_true] at hm
     obtain ⟨⟨hcm,h1⟩,h2⟩:=hm
     have e:=cE h1
     subst e
     obtain ⟨g,d⟩:=cD G h1
     cases es with
     |nil=>cases h2
     |cons e es=>exact vE (ok X rfl (G.calm hcm) G.hu) g (G.bl _ hi) hb (dU G hE (a::as) (e::es) hq h2) hn d (aZ (a.sok C e (aG h2).1)) (bG as es (aG h2).2)
    |cons _ _=>cases hm
   |_=>exact ff hm
  |_=>exact ff hm)
 (λC e hm=>by
  cases e with
  |Call f es ks p=>
   cases f with
   |Name y py=>
    cases ks with
    |nil=>
     simp only [and_eq_true] at hm
     exact yB (a::as) es hm.2
    |cons _ _=>cases hm
   |_=>exact ff hm
  |_=>exact ff hm)
 (λC e hm=>by cases e with|Call f es ks p=>rfl|_=>exact ff hm)
noncomputable def Ic (x:Str) (T:String) (r:List V->Hp->VK->Prop) (ok:∀X:Cx,X.K=K->X.calm=true->X.A.units+64<cLine->bZ X (.type T) r) (hb:bootBuiltins x=some (.type T)) (hi:x∈oQ) (hn:x≠"__name__") (a:EX K) (as:List (EX K)):EX K:=
 RA (λE=>ZX r (fB (a::as) E))
 (λC e=>match e with
  | .Call (.Name y _) es [] _=>(C.cm&&pJ C x y)&&jU (a::as) C es
  |_=>false) (λR=>sN (a::as) R) .pl
 (λX C E e hK G hE hq hm=>by
  subst hK
  cases e with
  |Call f es ks p=>
   cases f with
   |Name y py=>
    cases ks with
    |nil=>
     simp only [and_eq_true] at hm
     obtain ⟨⟨hcm,h1⟩,h2⟩:=hm
     have e:=cE h1
     subst e
     obtain ⟨g,d⟩:=cD G h1
     cases es with
     |nil=>cases h2
     |cons e es=>exact CT (ok X rfl (G.calm hcm) G.hu) g (G.bl _ hi) hb (dU G hE (a::as) (e::es) hq h2) hn d (aZ (a.sok C e (aG h2).1)) (bG as es (aG h2).2)
    |cons _ _=>cases hm
   |_=>exact ff hm
  |_=>exact ff hm)
 (λC e hm=>by
  cases e with
  |Call f es ks p=>
   cases f with
   |Name y py=>
    cases ks with
    |nil=>
     simp only [and_eq_true] at hm
     exact yB (a::as) es hm.2
    |cons _ _=>cases hm
   |_=>exact ff hm
  |_=>exact ff hm)
 (λC e hm=>by cases e with|Call f es ks p=>rfl|_=>exact ff hm)
noncomputable def yH (K:Fg):List V->Hp->VK->Prop
 |[.str z],H,Q=>z.length<=sizeLine/\Q (.int z.length) H
 |[.ref a],H,Q=>(∃n,Ek K (.ref a) H n/\Q (.int n) H)\/∃kvs,H a=some (.dK kvs)/\Q (.int kvs.length) H
 |_,_,_=>False
theorem LA {X:Cx}:bZ X (.builtin "len") (λxs H Q=>∃a kvs,xs=[V.ref a]/\H a=some (.dK kvs)/\Q (.int kvs.length) H):=by
 intro pins s σ H xs us Q I r h;obtain ⟨a,kvs,rfl,ha,q⟩:=h;obtain ⟨u,rfl,ru⟩:=vals1 r;cases ru;exact Dx I (.inl ha) λt s' I'=>⟨.int kvs.length,H,I',⟨t,rfl⟩,q⟩
theorem VH (X:Cx):bZ X (.builtin "len") (yH X.K):=by
 intro pins s σ H xs us Q I r h;unfold yH at h;split at h
 ·exact wM pins s σ H _ us Q I r ⟨_,_,rfl,⟨h.1,rfl⟩,h.2⟩
 ·rcases h with ⟨n,h1,h2⟩|⟨kvs,h1,h2⟩
  ·exact wM pins s σ H _ us Q I r ⟨_,n,rfl,h1,h2⟩
  ·exact LA pins s σ H _ us Q I r ⟨_,kvs,rfl,h1,h2⟩
 ·exact h.elim
noncomputable def len (a:EX K):EX K:=XX "len" "len" (yH K) (λX hK _ _=>by subst hK;exact VH X) PySem.boot_len (by decide+kernel) (by decide+kernel) a []
noncomputable def sum (a:EX K):EX K:=XX "sum" "sum" TH (λX hK hc _=>KY hc) PyProof.Rows.Boot.sum (by decide+kernel) (by decide+kernel) a []
noncomputable def vA:List V->Hp->VK->Prop
 |[.int i,.int j],H,Q=>Q (.int (min i j)) H
 |_,_,_=>False
noncomputable def vB:List V->Hp->VK->Prop
 |[.int i,.int j],H,Q=>Q (.int (max i j)) H
 |_,_,_=>False
theorem VF {X:Cx} (hc:X.calm=true):bZ X (.builtin "min") vA:=by
 intro pins s σ H xs us Q I r h;unfold vA at h;split at h
 ·rename_i i j;refine EF hc pins s σ H _ us Q I r ⟨i,j,rfl,?_⟩;have e:(if j<i then j else i)=min i j:=by split<;>lia
  rw[e];exact h
 ·exact h.elim
theorem VG {X:Cx} (hc:X.calm=true):bZ X (.builtin "max") vB:=by
 intro pins s σ H xs us Q I r h;unfold vB at h;split at h
 ·rename_i i j;refine EG hc pins s σ H _ us Q I r ⟨i,j,rfl,?_⟩;have e:(if j>i then j else i)=max i j:=by split<;>lia
  rw[e];exact h
 ·exact h.elim
noncomputable def min2 (a b:EX K):EX K:=XX "min" "min" vA (λX hK hc _=>VF hc) PyProof.Rows.Boot.min (by decide+kernel) (by decide+kernel) a [b]
noncomputable def max2 (a b:EX K):EX K:=XX "max" "max" vB (λX hK hc _=>VG hc) PyProof.Rows.Boot.max (by decide+kernel) (by decide+kernel) a [b]
noncomputable def AG (K:Fg):List V->Hp->VK->Prop
 |[x,.ty n],H,Q=>∃t b,fP K H x t/\PySem.W.kitOne K t (.type n)=some b/\Q (.bl b) H
 |_,_,_=>False
theorem VT (X:Cx):bZ X (.builtin "isinstance") (AG X.K):=by
 intro pins s σ H xs us Q I r h;unfold AG at h;split at h
 ·obtain ⟨t,b,h1,h2,h3⟩:=h;exact KZ pins s σ H _ us Q I r ⟨_,_,t,b,rfl,h1,h2,h3⟩
 ·exact h.elim
noncomputable def YS (a b:EX K):EX K:=XX "isinstance" "isinstance" (AG K) (λX hK _ _=>by subst hK;exact VT X) PyProof.Rows.Boot.isinstance (by decide+kernel) (by decide+kernel) a [b]
noncomputable def QH:EX K:=Ea "int" "int" PyProof.Rows.Boot.int (by decide+kernel) (by decide+kernel)
noncomputable def QG:EX K:=Ea "str" "str" PyProof.Rows.Boot.str (by decide+kernel) (by decide+kernel)
noncomputable def FJ:EX K:=Ea "bool" "bool" PyProof.Rows.Boot.bool (by decide+kernel) (by decide+kernel)
noncomputable def FI:EX K:=Ea "list" "list" PyProof.Rows.Boot.list (by decide+kernel) (by decide+kernel)
noncomputable def zS:EX K:=Ea "tuple" "tuple" PyProof.Rows.Boot.tuple (by decide+kernel) (by decide+kernel)
noncomputable def lY (K:Fg):List V->Hp->VK->Prop
 |[.ref p],H,Q=>∃ys,(aM K H p ys\/bX K H p ys)/\∀l,H l=none->Q (.ref l) (upd H l (.lst ys))
 |_,_,_=>False
theorem OB (X:Cx):bZ X (.type "list") (lY X.K):=by
 intro pins s σ H xs us Q I r h;unfold lY at h;split at h
 ·obtain ⟨ys,h1,h2⟩:=h;exact tH pins s σ H _ us Q I r ⟨_,ys,rfl,h1,h2⟩
 ·exact h.elim
noncomputable def listE (a:EX K):EX K:=Ic "list" "list" (lY K) (λX hK _ _=>by subst hK;exact OB X) PyProof.Rows.Boot.list (by decide+kernel) (by decide+kernel) a []
noncomputable def sI (K:Fg):List V->Hp->VK->Prop
 |[.ref p],H,Q=>(∃ys,aM K H p ys/\∀l,H l=none->Q (.ref l) (upd H l (.tup ys)))\/∃ys,bX K H p ys/\Q (.ref p) H
 |_,_,_=>False
theorem FP (X:Cx):bZ X (.type "tuple") (sI X.K):=by
 intro pins s σ H xs us Q I r h;unfold sI at h;split at h
 ·rcases h with ⟨ys,h1,h2⟩|⟨ys,h1,h2⟩
  ·exact iK pins s σ H _ us Q I r ⟨_,ys,rfl,.inl ⟨h1,h2⟩⟩
  ·exact iK pins s σ H _ us Q I r ⟨_,ys,rfl,.inr ⟨h1,h2⟩⟩
 ·exact h.elim
noncomputable def xN (a:EX K):EX K:=Ic "tuple" "tuple" (sI K) (λX hK _ _=>by subst hK;exact FP X) PyProof.Rows.Boot.tuple (by decide+kernel) (by decide+kernel) a []
theorem UN {X:Cx} {o:Expr} {es:List Expr} {to:TE} {name:Str} {apos cpos:Pos} {T id:String} {r:V->List V->Hp->VK->Prop} {RR:V->St->Hp->VK->Prop} {C:Sc} {E:XS} {xs:List (EX X.K)}
  (pa:PlainAttrs T) (slot:Slot T name id) (hty:typeOf (.builtin id)=pure (.type "method_descriptor")) (hm:YH X id r) (ho:PE X o to) (ha:PA X es (fB xs E))
  (hR:∀x σ H Q,RR x σ H Q->Fh X.K T x H/\fB xs E σ H λys H2=>r x ys H2 Q)
  (hbase:attributeBase o name X.env (eval o X.env)=eval o X.env) (hx:jU xs C es=true) (h30:es.length<30) (hline:(apos.endLine==cpos.line)=true):
  PE X (.Call (.Attribute o name apos) es [] cpos) (λσ H Q=>to σ H λx H1=>RR x σ H1 Q):=by
 intro pins s σ H Q I h;cases es with
 |nil=>
  refine wpAny_Call_method0_late hbase hline (bO (ho pins s σ H _ I h) λv s1 ⟨x,H1,I1,r1,q0⟩=>?_);obtain ⟨ty,q1⟩:=hR x σ H1 Q q0;obtain ⟨h1,h2⟩:=FH I1 r1 ty;cases xs with
  |nil=>exact ⟨T,id,pa,slot,hty,h1,h2,Calls.callWith_builtin rfl (PySem.evalArgs_none (hm pins s1 σ H1 x [] v [] Q I1 r1 .nil q1))⟩
  |cons _ _=>cases hx
 |cons e es=>
  cases xs with
  |nil=>cases hx
  |cons a as=>
   have hs:=aZ (env:=X.env) (es:=es) (a.sok C e (aG hx).1);have hplain:=bG (env:=X.env) (pos:=cpos) as es (aG hx).2;have hfew:((backTo cpos (starEach (e::es) X.env)).all (λx=>!x.1)&&(backToKw cpos (keywordEach [] X.env)).all (λx=>x.1.isSome)
     &&decide ((e::es).length+([]:List Keyword).length+(if ([]:List Keyword).isEmpty then 0 else 1)<30))=true:=by
    rw[as_none (env:=X.env) (pos:=cpos) (a::as) (e::es) hx];have h30':(e::es).length+([]:List Keyword).length+(if ([]:List Keyword).isEmpty then 0 else 1)<30:=h30;rw[decide_eq_true h30'];rfl
   refine wpAny_Call_method_late hbase hfew hline rfl (bO (ho pins s σ H _ I h) λv s1 ⟨x,H1,I1,r1,q0⟩=>?_);obtain ⟨ty,q1⟩:=hR x σ H1 Q q0;obtain ⟨h1,h2⟩:=FH I1 r1 ty;refine ⟨T,id,pa,slot,hty,h1,h2,?_⟩;have hA:=ha cpos pins s1 σ H1 _ I1 q1;rw[hs] at hA ⊢;refine Calls.callWith_builtin (by show (false || (backTo cpos (starEach es X.env)).any (·.1))=false;rw[hplain]<;>rfl) (Calls.evalArgs_plain ?_);exact bO hA λus s2 ⟨vs,H2,I2,r2,q2⟩=>hm pins s2 σ H2 x vs v us Q I2 r1 r2 q2
noncomputable def HY (name:Str) (T id:String) (r:V->List V->Hp->VK->Prop) (RR:TA->V->St->Hp->VK->Prop) (pa:PlainAttrs T) (slot:Slot T name id) (hty:typeOf (.builtin id)=pure (.type "method_descriptor")) (ok:∀X:Cx,X.K=K->X.calm=true->X.A.units+64<cLine->YH X id r)
  (hR:∀t x σ H Q,RR t x σ H Q->Fh K T x H/\t σ H λys H2=>r x ys H2 Q) (o:EX K) (ho:o.s≠.zc) (as:List (EX K)):EX K:=RA (λE σ H Q=>o.t E σ H λx H1=>RR (fB as E) x σ H1 Q)
 (λC e=>match e with
  | .Call (.Attribute l y p) es [] p2=>(y==name&&(C.cm&&(p.endLine==p2.line&&decide (es.length<30))))&&(o.m C l&&jU as C es)
  |_=>false) (λR=>o.q R/\sN as R) .pl
 (λX C E e hK G hE hq hm=>by
  subst hK
  cases e with
  |Call f es ks p=>
   cases f with
   |Attribute l y py=>
    cases ks with
    |nil=>
     simp only [and_eq_true] at hm
     obtain ⟨⟨h1,hcm,h2,h3⟩,h4,h5⟩:=hm
     have e:=eq_of_beq h1
     subst e
     exact UN pa slot hty (ok X rfl (G.calm hcm) G.hu) (o.ok X C E l rfl G hE hq.1 h4) (dU G hE as es hq.2 h5) (hR _) (uS (o.sok C l h4) ho) h5 (of_decide_eq_true h3) h2
    |cons _ _=>cases hm
   |_=>exact ff hm
  |_=>exact ff hm)
 (λC e hm=>by
  cases e with
  |Call f es ks p=>
   cases f with
   |Attribute l y py=>rfl
   |_=>exact ff hm
  |_=>exact ff hm)
 (λC e hm=>by cases e with|Call f es ks p=>rfl|_=>exact ff hm)
noncomputable def RS (r:Str->List V->Hp->VK->Prop) (t:TA):V->St->Hp->VK->Prop
 | .str z,σ,H,Q=>t σ H λys H2=>r z ys H2 Q
 |_,_,_,_=>False
noncomputable def rS (r:Str->List V->Hp->VK->Prop):V->List V->Hp->VK->Prop
 | .str z,ys,H,Q=>r z ys H Q
 |_,_,_,_=>False
noncomputable def vL (name:Str) (id:String) (r:Str->List V->Hp->VK->Prop) (slot:Slot "str" name id) (hty:typeOf (.builtin id)=pure (.type "method_descriptor")) (ok:∀X:Cx,X.K=K->X.calm=true->X.A.units+64<cLine->YH X id (rS r)) (o:EX K) (ho:o.s≠.zc) (as:List (EX K)):EX K:=
 HY name "str" id (rS r) (RS r) PySem.F.plainAttrs_str slot hty ok (λt x σ H Q h=>by
  cases x with
  |str z=>exact ⟨rfl,h⟩
  |_=>exact h.elim) o ho as
noncomputable def RL (K:Fg) (r:V->List V->Hp->VK->Prop) (t:TA):V->St->Hp->VK->Prop
 | .ref p,σ,H,Q=>(∃xs,aM K H p xs)/\t σ H λys H2=>r (.ref p) ys H2 Q
 |_,_,_,_=>False
noncomputable def RB (name:Str) (id:String) (r:V->List V->Hp->VK->Prop) (slot:Slot "list" name id) (hty:typeOf (.builtin id)=pure (.type "method_descriptor")) (ok:∀X:Cx,X.K=K->X.calm=true->X.A.units+64<cLine->YH X id r) (o:EX K) (ho:o.s≠.zc) (as:List (EX K)):EX K:=
 HY name "list" id r (RL K r) PySem.F.plainAttrs_list slot hty ok (λt x σ H Q h=>by
  cases x with
  |ref p=>exact ⟨.inl ⟨rfl,h.1⟩,h.2⟩
  |_=>exact h.elim) o ho as
theorem OI {X:Cx} (hu:X.A.units+1<cLine):YY X (λx y H Q=>∃a v,x=.ref a/\eN H a y (some v)/\Q v H):=by
 intro value slice pins s σ H x y v u Q I rx ry h hs;obtain ⟨a,z,rfl,g,q⟩:=h;obtain rfl:v=Value.ref a:=rx;exact tail_any (wD I g) PySem.F.slot_dict_getitem.lookup (DT hu I g ry λw' s3 I3 rw'=>⟨z,H,I3,rw',q⟩) hs
noncomputable def vC (K:Fg):R2
 | .str z,.int i,H,Q=>z.length<=sizeLine/\∃c,kL z.cps.toList i=some c/\Q (sgn c) H
 | .ref a,y,H,Q=>An K (.ref a) y H Q\/Am K (.ref a) y H Q\/∃v,eN H a y (some v)/\Q v H
 |_,_,_,_=>False
theorem Cc {X:Cx} (hu:X.A.units+1<cLine):YY X (vC X.K):=by
 intro value slice pins s σ H x y v u Q I rx ry h hs;unfold vC at h;split at h
 ·obtain ⟨h1,c,h2,h3⟩:=h;exact VR value slice pins s σ H _ _ v u Q I rx ry ⟨_,_,c,rfl,rfl,h1,h2,h3⟩ hs
 ·rcases h with h|h|⟨z,h,q⟩
  ·exact OH value slice pins s σ H _ _ v u Q I rx ry h hs
  ·exact VQ value slice pins s σ H _ _ v u Q I rx ry h hs
  ·exact OI hu value slice pins s σ H _ _ v u Q I rx ry ⟨_,z,rfl,h,q⟩ hs
 ·exact h.elim
noncomputable def ix (a b:EX K):EX K:=jT (λE=>SS (vC K) (a.t E) (b.t E))
 (λC e=>match e with
  | .Subscript l r _=>a.m C l&&b.m C r
  |_=>false) (λR=>a.q R/\b.q R) .pl
 (λX C E e hK G hE hq hm=>by
  subst hK
  cases e with
  |Subscript l r p=>
   simp only [and_eq_true] at hm
   exact Ay (Cc (by have:=G.hu;lia)) (a.ok X C E l rfl G hE hq.1 hm.1) (b.ok X C E r rfl G hE hq.2 hm.2) (yA (b.sok C r hm.2))
  |_=>exact ff hm)
 (λC e hm=>by cases e with|Subscript l r p=>exact ⟨rfl,rfl⟩|_=>exact ff hm)
noncomputable def rO (QO:Option Int->Hp->Prop):V->Hp->Prop
 | .int i,H=>QO (some i) H
 |_,_=>False
noncomputable def tO (E:XS):Option (EX K)->TO
 |none=>zU
 |some x=>λσ H Q=>x.t E σ H (rO Q)
noncomputable def mO:Option (EX K)->Sc->Option Expr->Bool
 |none,_,none=>true
 |some x,C,some e=>x.m C e
 |_,_,_=>false
noncomputable def qO:Option (EX K)->Rt->Prop
 |none,_=>True
 |some x,R=>x.q R
theorem Bk {X:Cx} {C:Sc} {E:XS} (G:Gd X C) (hE:rF X E):∀(o:Option (EX X.K)) (e:Option Expr),qO o (dC X)->mO o C e=true->PO X e (tO E o)
 |none,none,_,_=>NH
 |none,some _,_,hm=>nomatch hm
 |some _,none,_,hm=>nomatch hm
 |some x,some e,hq,hm=>by
  intro pins s σ H Q I hw;rw[evalPart_some];refine bO (x.ok X C E e rfl G hE hq hm pins s σ H _ I hw) λu s1 ⟨y,H1,I1,r1,q1⟩=>?_;cases y with
  |int i=>
   obtain ⟨t,rfl⟩:=r1;exact ⟨some i,H1,I1,.int i t,q1⟩
  |_=>exact q1.elim
noncomputable def CP (K:Fg):V->Option Int->Option Int->Hp->VK->Prop
 | .str z,lo,hi,H,Q=>z.length<=sizeLine/\Q (.str (Txt.slice z lo hi)) H
 | .ref a,lo,hi,H,Q=>Ai K (.ref a) lo hi H Q\/Ah K (.ref a) lo hi H Q
 |_,_,_,_,_=>False
theorem Ad {X:Cx}:Eg X (CP X.K):=by
 intro pins s σ H x v vl vu lo hi sl Q I rx hs pl pu h;unfold CP at h;split at h
 ·exact SY pins s σ H _ v vl vu _ _ sl Q I rx hs pl pu ⟨_,rfl,h.1,h.2⟩
 ·rcases h with h|h
  ·exact MP pins s σ H _ v vl vu _ _ sl Q I rx hs pl pu h
  ·exact SW pins s σ H _ v vl vu _ _ sl Q I rx hs pl pu h
 ·exact h.elim
noncomputable def xC (a:EX K) (lo hi:Option (EX K)):EX K:=jT (λE=>Hu (CP K) (a.t E) (tO E lo) (tO E hi))
 (λC e=>match e with
  | .Subscript l (.Slice x y none _) _=>a.m C l&&(mO lo C x&&mO hi C y)
  |_=>false) (λR=>a.q R/\qO lo R/\qO hi R) .pl
 (λX C E e hK G hE hq hm=>by
  subst hK
  cases e with
  |Subscript l r p=>
   cases r with
   |Slice x y z p2=>
    cases z with
    |none=>
     simp only [and_eq_true] at hm
     exact HC Ad (a.ok X C E l rfl G hE hq.1 hm.1) (Bk G hE lo x hq.2.1 hm.2.1) (Bk G hE hi y hq.2.2 hm.2.2)
    |some _=>cases hm
   |_=>exact ff hm
  |_=>exact ff hm)
 (λC e hm=>by cases e with|Subscript l r p=>exact ⟨rfl,rfl⟩|_=>exact ff hm)
noncomputable def lst (as:List (EX K)):EX K:=jT (λE=>ZU (fB as E))
 (λC e=>match e with
  | .List es _=>jU as C es
  |_=>false) (λR=>sN as R) .pl
 (λX C E e hK G hE hq hm=>by
  subst hK
  cases e with
  |List es p=>exact UL (dU G hE as es hq hm)
  |_=>exact ff hm)
 (λC e hm=>by cases e with|List es p=>exact ⟨rfl,rfl⟩|_=>exact ff hm)
noncomputable def tup (as:List (EX K)):EX K:=jT (λE=>ZR (fB as E))
 (λC e=>match e with
  | .Tuple es _ _=>jU as C es
  |_=>false) (λR=>sN as R) .pl
 (λX C E e hK G hE hq hm=>by
  subst hK
  cases e with
  |Tuple es k p=>exact UH (dU G hE as es hq hm)
  |_=>exact ff hm)
 (λC e hm=>by cases e with|Tuple es k p=>exact ⟨rfl,rfl⟩|_=>exact ff hm)
noncomputable def Hi:EX K:=jT (λ_=>QN)
 (λ_ e=>match e with
  | .Dict [] [] _=>true
  |_=>false) (λ_=>True) .pl
 (λX C E e hK G hE hq hm=>by
  cases e with
  |Dict ks vs p=>
   cases ks with
   |nil=>
    cases vs with
    |nil=>exact NL
    |cons _ _=>cases hm
   |cons _ _=>cases hm
  |_=>exact ff hm)
 (λC e hm=>by cases e with|Dict es k p=>exact ⟨rfl,rfl⟩|_=>exact ff hm)
theorem uP {e t:Expr} {line:Nat} {env:Env} {s:YC} (h:fS e=some s) (hs:s≠.cp):swapsWithSole [t] e line env=pure false:=nC (tgt:=some t) h hs
structure IX (K:Fg) where
 t:XS->TI
 tm:Expr->Bool
 m:Sc->Expr->Bool
 q:Rt->Prop
 ok:∀(X:Cx) (C:Sc) (E:XS) (tg e:Expr),X.K=K->Gd X C->rF X E->q (dC X)->tm tg=true->m C e=true->PI X tg e (t E)
 fs:∀(C:Sc) (e:Expr) (env:Env) (x:Value),m C e=true->foldedSetIterable e env x=pure x
noncomputable def nH (K:Fg):V->Hp->(It->Hp->Prop)->Prop
 | .str z,H,R=>R (ZA z) H
 | .ref a,H,R=>((∃xs,aM K H a xs)/\R (SA K a) H)\/((∃xs,bX K H a xs)/\R (YZ K a) H)
 |_,_,_=>False
theorem IQ {X:Cx} {tg:Expr} {pins:List (Addr × Obj)} {s1:Shared} {σ:St} {H1:Hp} {x:V} {v:Value} {R:It->Hp->Prop} (I1:Inv X pins σ H1 s1) (r1:RelV x v) (q1:nH X.K x H1 R):
  wpAny (model X.prog X.w) X.A (pyIter v) (Ei X pins σ tg R) X.xe s1:=by
 unfold nH at q1;split at q1
 ·rename_i z;obtain ⟨t,rfl⟩:=r1;have fin:∀T:String,(T="str_ascii_iterator"\/T="str_iterator")->Ei X pins σ tg R (.ref s1.heap.objs.size) {s1 with heap:=s1.heap.push {cls:=.type T,data:=.fields #[.str z t,.int 0 0]}}:=λT hT=>by
   refine ⟨s1.heap.objs.size,[s1.heap.objs.size],_,_,H1,rfl,I1.kept (t':=s1.toks) λb o e=>get?_push_of_some _ e,FL z t _ T hT,⟨_,get?_push_size _ rfl,rfl,rfl⟩,λb hb=>?_,q1⟩;have e:b=s1.heap.objs.size:=by simpa using hb
   subst e;exact I1.fpOk (Nat.le_refl _) (I1.hok.fresh (Nat.le_refl _))
  cases ha:z.cps.all (·<128) with
  |true=>exact wpAny_pyIter_ascii ha (fin _ (.inl rfl))
  |false=>exact wpAny_pyIter_wide ha (fin _ (.inr rfl))
 ·rename_i a;cases (show v=Value.ref a from r1);rcases q1 with ⟨⟨xs,hq⟩,q⟩|⟨⟨xs,hq⟩,q⟩
  ·obtain ⟨its,rv,p,hz⟩:=I1.list hq;refine wpAny_pyIter_list p.isList ?_;refine ⟨s1.heap.objs.size,[s1.heap.objs.size],_,_,H1,rfl,I1.kept (t':=s1.toks) λb o e=>get?_push_of_some _ e,CA a _,⟨_,get?_push_size _ rfl,rfl,rfl⟩,λb hb=>?_,q⟩;have e:b=s1.heap.objs.size:=by simpa using hb
   subst e;exact I1.fpOk (Nat.le_refl _) (I1.hok.fresh (Nat.le_refl _))
  ·obtain ⟨its,rv,p,hz⟩:=I1.tuple hq;refine wpAny_pyIter_tuple (show s1.heap.IsTuple a its.toArray from p) ?_;refine ⟨s1.heap.objs.size,[s1.heap.objs.size],_,_,H1,rfl,I1.kept (t':=s1.toks) λb o e=>get?_push_of_some _ e,xK a _,⟨_,get?_push_size _ rfl,rfl,rfl⟩,λb hb=>?_,q⟩;have e:b=s1.heap.objs.size:=by simpa using hb
   subst e;exact I1.fpOk (Nat.le_refl _) (I1.hok.fresh (Nat.le_refl _))
 ·exact q1.elim
noncomputable def iU (a:EX K):IX K where
 t:=λE σ H R=>a.t E σ H λx H1=>nH K x H1 R
 tm:=λ_=>true
 m:=a.m
 q:=a.q
 ok:=λX C E tg e hK G hE hq _ hm=>by
  subst hK;intro pins s σ H R I h;exact bO (a.ok X C E e rfl G hE hq hm pins s σ H _ I h) λv s1 ⟨x,H1,I1,r1,q1⟩=>IQ I1 r1 q1
 fs:=λC e env x hm=>uQ (a.sok C e hm) x
noncomputable def GO:List V->Hp->(It->Hp->Prop)->Prop
 |[.int j],H,R=>(-(2 ^ 62)<=j/\j<2 ^ 62)/\R (EM 0 j.toNat) H
 |[.int i,.int j],H,R=>(-(2 ^ 62)<=i/\i<2 ^ 62/\-(2 ^ 62)<=j/\j<2 ^ 62)/\R (EM i (j - i).toNat) H
 |_,_,_=>False
noncomputable def nZ (a:EX K) (as:List (EX K)):IX K where
 t:=λE σ H R=>fB (a::as) E σ H λvs H1=>GO vs H1 R
 tm:=λ_=>true
 m:=λC e=>match e with
  | .Call (.Name y _) es [] _=>pJ C "range" y&&jU (a::as) C es
  |_=>false
 q:=λR=>sN (a::as) R
 ok:=λX C E tg e hK G hE hq _ hm=>by
  subst hK;cases e with
  |Call f es ks p=>
   cases f with
   |Name y py=>
    cases ks with
    |nil=>
     simp only [and_eq_true] at hm;obtain ⟨h1,h2⟩:=hm;have e:=cE h1;subst e;obtain ⟨g,d⟩:=cD G h1;cases es with
     |nil=>cases h2
     |cons e es=>
      intro pins s σ H R I h;refine Call_ (eK I g (G.bl _ (by decide+kernel)) boot_range (PyProof.Rows.callWith_type1 (bO (dU G hE (a::as) (e::es) hq h2 p pins s σ H _ I h) λus s1 ⟨vs,H1,I1,r1,q1⟩=>?_) (aZ (a.sok C e (aG h2).1)) (bG as es (aG h2).2)));replace q1:GO vs H1 R:=q1;unfold GO at q1;split at q1
      ·cases r1 with
       |cons r rr=>
        cases rr;obtain ⟨t,rfl⟩:=r;exact call_range_1 (uX I1 (by lia) (by lia) q1.1.1 q1.1.2 (by simpa using q1.2))
      ·cases r1 with
       |cons r rr=>
        cases rr with
        |cons r' rr=>
         cases rr;obtain ⟨t,rfl⟩:=r;obtain ⟨t',rfl⟩:=r';exact call_range_2 (uX I1 q1.1.1 q1.1.2.1 q1.1.2.2.1 q1.1.2.2.2 q1.2)
      ·exact q1.elim
    |cons _ _=>cases hm
   |_=>exact ff hm
  |_=>exact ff hm
 fs:=λC e env x hm=>by cases e with|Call f es ks p=>rfl|_=>exact ff hm
noncomputable def GL (K:Fg):List V->Hp->(It->Hp->Prop)->Prop
 |[.ref p,.ref q],H,R=>((∃xs,aM K H p xs)/\∃ys,aM K H q ys)/\R (El K p q) H
 |_,_,_=>False
noncomputable def OX (a b:EX K):IX K where
 t:=λE σ H R=>fB [a,b] E σ H λvs H1=>GL K vs H1 R
 tm:=λe=>match e with
  | .Tuple _ _ _=>true
  |_=>false
 m:=λC e=>match e with
  | .Call (.Name y _) es [] _=>pJ C "zip" y&&jU [a,b] C es
  |_=>false
 q:=λR=>sN [a,b] R
 ok:=λX C E tg e hK G hE hq ht hm=>by
  subst hK;cases tg with
  |Tuple ts tk tp=>
   cases e with
   |Call f es ks p=>
    cases f with
    |Name y py=>
     cases ks with
     |nil=>
      simp only [and_eq_true] at hm;obtain ⟨h1,h2⟩:=hm;have e:=cE h1;subst e;obtain ⟨g,d⟩:=cD G h1;cases es with
      |nil=>cases h2
      |cons e es=>
       intro pins s σ H R I h;refine Call_ (eK I g (G.bl _ (by decide+kernel)) boot_zip (PyProof.Rows.callWith_type1 (bO (dU G hE [a,b] (e::es) hq h2 p pins s σ H _ I h) λus s1 ⟨vs,H1,I1,r1,q1⟩=>?_) (aZ (a.sok C e (aG h2).1)) (bG [b] es (aG h2).2)));replace q1:GL X.K vs H1 R:=q1;unfold GL at q1;split at q1
       ·rename_i p1 p2;cases r1 with
        |cons r rr=>
         cases rr with
         |cons r' rr=>
          cases rr;cases r;cases r';obtain ⟨⟨⟨xs,hx⟩,ys,hy⟩,q⟩:=q1;obtain ⟨ia,ra,pa,_⟩:=I1.list hx;obtain ⟨ib,rb,pb,_⟩:=I1.list hy;refine call_zip_2 pa.isList pb.isList λh' z1 z2 z3 z4 z5 z6 kp=>?_;refine wpAny_pyIter_zip (s:={s1 with heap:=h'}) z1 ?_;have Z:zO (s1.heap.objs.size+4) (s1.heap.objs.size+2) (s1.heap.objs.size+3) s1.heap.objs.size (s1.heap.objs.size+1):=by constructor<;>simp<;>lia
          have big:∀c∈[s1.heap.objs.size+4,s1.heap.objs.size+2,s1.heap.objs.size+3,s1.heap.objs.size,s1.heap.objs.size+1],s1.heap.objs.size<=c:=by
           intro c hc;simp only [mem_cons,not_mem_nil,or_false] at hc;lia
          exact ⟨_,[s1.heap.objs.size+4,s1.heap.objs.size+2,s1.heap.objs.size+3,s1.heap.objs.size,s1.heap.objs.size+1],_,_,H1,rfl,I1.kept (t':=s1.toks) kp,FK p1 p2 _ _ _ _ _ Z,⟨z1,z2,⟨_,_,z3⟩,z4,z5⟩,λc hc=>I1.fpOk (big c hc) (I1.hok.fresh (big c hc)),q⟩
       ·exact q1.elim
     |cons _ _=>cases hm
    |_=>exact ff hm
   |_=>exact ff hm
  |_=>cases ht
 fs:=λC e env x hm=>by cases e with|Call f es ks p=>rfl|_=>exact ff hm
structure TX (K:Fg) where
 g:TG
 m:Sc->Expr->Bool
 ok:∀(X:Cx) (C:Sc) (e:Expr),X.K=K->Gd X C->m C e=true->PG X e g
noncomputable def MO (C:Sc) (i:Nat) (x:Str):Bool:=C.N[i]?==some x&&(C.nm.lookup x==some .local || (C.nm.lookup x==some .cell&&(C.fb || C.ow.contains x)))
theorem rX {X:Cx} {C:Sc} {i:Nat} {x:Str} (G:Gd X C) (h:MO C i x=true):X.N[i]?=some x/\Loc X.env.scope x/\(X.fn x=true\/X.env.scope.names.lookup x=some .local):=by
 unfold MO at h;simp only [and_eq_true,or_eq_true] at h;obtain ⟨h1,h2⟩:=h;refine ⟨by rw[G.N];exact eq_of_beq h1,?_,?_⟩
 ·rcases h2 with h2|⟨h2,_⟩
  ·exact .inl (by rw[G.nm];exact eq_of_beq h2)
  ·exact .inr (by rw[G.nm];exact eq_of_beq h2)
 ·rcases h2 with h2|⟨_,h2⟩
  ·exact .inr (by rw[G.nm];exact eq_of_beq h2)
  ·rcases h2 with h2|h2
   ·exact .inl (G.fb h2 x)
   ·exact .inl (G.ow x (List.contains_iff_mem.mp h2))
noncomputable def fX (i:Nat):TX K where
 g:=BC i
 m:=λC e=>match e with
  | .Name x _=>MO C i x
  |_=>false
 ok:=λX C e hK G hm=>by
  cases e with
  |Name x p=>
   obtain ⟨h1,h2,h3⟩:=rX G hm;exact AJ (by rw[G.N];exact G.nd) h1 h2 h3
  |_=>exact ff hm
noncomputable def Eu:List Nat->QC
 |[]=>Dp
 |i::is=>RO (BC i) (Eu is)
noncomputable def Bp:List Nat->Sc->List Expr->Bool
 |[],_,[]=>true
 |i::is,C,.Name x _::es=>MO C i x&&Bp is C es
 |_,_,_=>false
theorem HM {X:Cx} {C:Sc} (G:Gd X C):∀(is:List Nat) (es:List Expr),Bp is C es=true->YV X es (Eu is)/\(assignEach es X.env).length=is.length/\(assignEach es X.env).findIdx? (·.1)=none
 |[],[],_=>⟨NJ,rfl,rfl⟩
 |[],_::_,hm=>nomatch hm
 |_::_,[],hm=>nomatch hm
 |i::is,e::es,hm=>by
  cases e with
  |Name x p=>
   have hm':(MO C i x&&Bp is C es)=true:=hm;simp only [and_eq_true] at hm';obtain ⟨h1,h2,h3⟩:=HM G is es hm'.2;obtain ⟨g1,g2,g3⟩:=rX G hm'.1;refine ⟨HA (AJ (by rw[G.N];exact G.nd) g1 g2 g3) h1 rfl,?_,?_⟩
   ·show (assignEach es X.env).length+1=is.length+1;rw[h2]
   ·show List.findIdx? (·.1) ((false,assign (.Name x p) X.env)::assignEach es X.env)=none;rw[List.findIdx?_cons,h3];rfl
  |_=>exact nomatch hm
noncomputable def LW (is:List Nat):TX K where
 g:=Dn K is.length (Eu is)
 m:=λC e=>match e with
  | .Tuple es _ _=>C.cm&&Bp is C es
  |_=>false
 ok:=λX C e hK G hm=>by
  subst hK;cases e with
  |Tuple es k p=>
   simp only [and_eq_true] at hm;obtain ⟨h1,h2,h3⟩:=HM G is es hm.2;exact UC (G.calm hm.1) h1 h2 h3
  |_=>exact ff hm
structure SX (K:Fg) where
 t:XS->TS
 m:Sc->Stmt->Bool
 q:Rt->Prop
 ok:∀(X:Cx) (C:Sc) (E:XS) (s:Stmt),X.K=K->Gd X C->rF X E->q (dC X)->m C s=true->PS X s (t E)
noncomputable def jD:List (SX K)->XS->TS
 |[],_=>QK
 |s::ss,E=>ZS (s.t E) (jD ss E)
noncomputable def EO:List (SX K)->Sc->List Stmt->Bool
 |[],_,[]=>true
 |s::ss,C,e::es=>s.m C e&&EO ss C es
 |_,_,_=>false
noncomputable def GU:List (SX K)->Rt->Prop
 |[],_=>True
 |s::ss,R=>s.q R/\GU ss R
theorem pW {X:Cx} {C:Sc} {E:XS} (G:Gd X C) (hE:rF X E):∀(xs:List (SX X.K)) (es:List Stmt),GU xs (dC X)->EO xs C es=true->YD X es (jD xs E)
 |[],[],_,_=>NC
 |[],_::_,_,hm=>nomatch hm
 |_::_,[],_,hm=>nomatch hm
 |x::xs,e::es,hq,hm=>by
  have hm':(x.m C e&&EO xs C es)=true:=hm;simp only [and_eq_true] at hm';exact GV (x.ok X C E e rfl G hE hq.1 hm'.1) (pW G hE xs es hq.2 hm'.2)
noncomputable def set (i:Nat) (a:EX K):SX K where
 t:=λE D σ H=>a.t E σ H λx H1=>D.nx (σ.set i (some x)) H1
 m:=λC s=>match s with
  | .Assign [.Name x _] e _=>decide (a.s≠.cp)&&(MO C i x&&a.m C e)
  |_=>false
 q:=a.q
 ok:=λX C E s hK G hE hq hm=>by
  split at hm
  ·rename_i x px e p;simp only [and_eq_true] at hm;obtain ⟨h1,h2,h3⟩:=hm;obtain ⟨g1,g2,g3⟩:=rX G h2;exact GW (by rw[G.N];exact G.nd) g1 g2 (a.ok X C E e hK G hE hq h3) (nC (a.sok C e h3) (of_decide_eq_true h1)) g3
  ·cases hm
noncomputable def Ae (tg:TX K) (a:EX K):SX K where
 t:=λE=>SV (a.t E) tg.g
 m:=λC s=>match s with
  | .Assign [.Tuple ts k p'] e _=>(match e with| .Tuple ..=>false|_=>true)&&(decide (a.s≠.cp)&&(tg.m C (.Tuple ts k p')&&a.m C e))
  |_=>false
 q:=a.q
 ok:=λX C E s hK G hE hq hm=>by
  split at hm
  ·rename_i ts k p' e p;simp only [and_eq_true] at hm;obtain ⟨h0,h1,h2,h3⟩:=hm;refine GX (a.ok X C E e hK G hE hq h3) (tg.ok X C _ hK G h2) (uP (a.sok C e h3) (of_decide_eq_true h1)) ?_ rfl;cases e with
   |Tuple _ _ _=>cases h0
   |_=>rfl
  ·cases hm
noncomputable def MW (o i v:V) (H:Hp) (Q:Hp->Prop):Prop:=QU o i v H Q\/∃a H',o=.ref a/\EN H a i v H'/\Q H'
theorem TV {X:Cx} (hu:X.A.units+1<cLine):YE X MW:=by
 intro pins s σ H o i v ov iv u Q I ro ri rv h;rcases h with h|⟨a,H',rfl,g,q⟩
 ·exact set_list pins s σ H o i v ov iv u Q I ro ri rv h
 ·obtain rfl:ov=Value.ref a:=ro;exact DS hu I g ri rv λs4 I4=>⟨H',I4,q⟩
noncomputable def put (o i a:EX K):SX K where
 t:=λE D σ H=>a.t E σ H λx H1=>o.t E σ H1 λy H2=>i.t E σ H2 λz H3=>MW y z x H3 λH4=>D.nx σ H4
 m:=λC s=>match s with
  | .Assign [.Subscript l r _] e _=>decide (a.s≠.cp)&&((match r with| .Slice ..=>false|_=>true)&&(o.m C l&&(i.m C r&&a.m C e)))
  |_=>false
 q:=λR=>o.q R/\i.q R/\a.q R
 ok:=λX C E s hK G hE hq hm=>by
  split at hm
  ·rename_i l r p' e p;simp only [and_eq_true] at hm;obtain ⟨h1,h0,h2,h3,h4⟩:=hm;refine GX (a.ok X C E e hK G hE hq.2.2 h4) (UD (o.ok X C E l hK G hE hq.1 h2) (i.ok X C E r hK G hE hq.2.1 h3) (TV (by have:=G.hu;lia)) ?_) (uP (a.sok C e h4) (of_decide_eq_true h1)) ?_ rfl
   ·intro v;cases r with
    |Slice _ _ _ _=>cases h0
    |_=>rfl
   ·cases e<;>rfl
  ·cases hm
noncomputable def ex (a:EX K):SX K where
 t:=λE D σ H=>a.t E σ H λ_ H1=>D.nx σ H1
 m:=λC s=>match s with
  | .Expr e _=>decide (a.s≠.cp)&&a.m C e
  |_=>false
 q:=a.q
 ok:=λX C E s hK G hE hq hm=>by
  cases s with
  |Expr e p=>
   simp only [and_eq_true] at hm;exact ND (a.ok X C E e hK G hE hq hm.2) (nC (a.sok C e hm.2) (of_decide_eq_true hm.1))
  |_=>exact ff hm
noncomputable def ret (a:EX K):SX K where
 t:=λE D σ H=>a.t E σ H D.rt
 m:=λC s=>match s with
  | .Return (some e) _=>a.m C e
  |_=>false
 q:=a.q
 ok:=λX C E s hK G hE hq hm=>by
  cases s with
  |Return o p=>
   cases o with
   |some e=>exact UA (a.ok X C E e hK G hE hq hm)
   |none=>cases hm
  |_=>exact ff hm
noncomputable def tS (c:EX K) (t f:List (SX K)):SX K where
 t:=λE D σ H=>c.tt E σ H λb H1=>br b (jD t E D σ H1) (jD f E D σ H1)
 m:=λC s=>match s with
  | .If e x y _=>c.m C e&&(EO t C x&&EO f C y)
  |_=>false
 q:=λR=>c.q R/\GU t R/\GU f R
 ok:=λX C E s hK G hE hq hm=>by
  subst hK;cases s with
  |If e x y p=>
   simp only [and_eq_true] at hm;obtain ⟨h1,h2,h3⟩:=hm;intro pins s σ H D I h;refine wpAny_If (bO (c.okT X C E e rfl G hE hq.1 h1 pins s σ H _ I h) λd s1 ⟨H1,I1,q1⟩=>?_);cases d with
   |true=>exact pW G hE t x hq.2.1 h2 pins s1 σ H1 D I1 (q1.1 rfl)
   |false=>exact pW G hE f y hq.2.2 h3 pins s1 σ H1 D I1 (q1.2 rfl)
  |_=>exact ff hm
noncomputable def gQ (tg:TX K) (it:IX K) (b:List (SX K)):SX K where
 t:=λE=>ZV (it.t E) tg.g (jD b E)
 m:=λC s=>match s with
  | .For x e y [] _=>(C.cm&&it.tm x)&&(tg.m C x&&(it.m C e&&EO b C y))
  |_=>false
 q:=λR=>it.q R/\GU b R
 ok:=λX C E s hK G hE hq hm=>by
  subst hK;cases s with
  |For x e y z p=>
   cases z with
   |nil=>
    simp only [and_eq_true] at hm;obtain ⟨⟨hcm,h0⟩,h1,h2,h3⟩:=hm;exact UB hE.own (G.calm hcm) (it.ok X C E x e rfl G hE hq.1 h0 h2) (tg.ok X C x rfl G h1) (pW G hE b y hq.2 h3) (λv=>it.fs C e X.env v h2)
   |cons _ _=>cases hm
  |_=>exact ff hm
noncomputable def Hs (c:TT) (tb:TS):TS:=λD σ H=>∃W:Nat->St->Hp->Prop,(∃m,W m σ H)/\∀m σ H,W m σ H->
 c σ H λb H1=>br b (∃N:St->Hp->Prop,(∀σ' H',N σ' H'->∃m',m'<m/\W m' σ' H')/\tb {D with nx:=N,ct:=N,bk:=D.nx} σ H1) (D.nx σ H1)
theorem Au {X:Cx} {c:Expr} {body:List Stmt} {tc:TT} {tb:TS} {pos:Pos} (hp:PassesOwn (model X.prog X.w) X.A X.env X.xe) (hc:PT X c tc) (hb:YD X body tb):PS X (.While c body [] pos) (Hs tc tb):=by
 intro pins s σ H D I h;obtain ⟨W,⟨m0,w0⟩,turn⟩:=h;refine wpAny_While (codeAny_whileLoop (λn s'=>∃σ' H',Inv X pins σ' H' s'/\W n σ' H') ?_ m0 ⟨σ,H,I,w0⟩);rintro n s1 ⟨σ1,H1,I1,w1⟩;refine wpAny_passesOwn hp (bO (hc pins s1 σ1 H1 _ I1 (turn n σ1 H1 w1)) λb s2 ⟨H2,I2,q2⟩=>?_);cases b with
 |true=>
  obtain ⟨N,hN,q2⟩:=q2.1 rfl;rw[if_pos rfl];refine wpAny_passesOwn hp (bO (hb pins s2 σ1 H2 _ I2 q2) λf s3 q3=>?_);cases f with
  |next=>
   obtain ⟨σ3,H3,I3,n3⟩:=q3;obtain ⟨m',hm,w3⟩:=hN σ3 H3 n3;exact ⟨m',hm,σ3,H3,I3,w3⟩
  |cont=>
   obtain ⟨σ3,H3,I3,n3⟩:=q3;obtain ⟨m',hm,w3⟩:=hN σ3 H3 n3;exact ⟨m',hm,σ3,H3,I3,w3⟩
  |brk=>exact q3
  |ret v=>exact q3
 |false=>
  rw[if_neg Bool.false_ne_true];exact wpAny_execs_nil ⟨σ1,H2,I2,q2.2 rfl⟩
noncomputable def ZG (c:EX K) (b:List (SX K)):SX K where
 t:=λE=>Hs (c.tt E) (jD b E)
 m:=λC s=>match s with
  | .While e y [] _=>c.m C e&&EO b C y
  |_=>false
 q:=λR=>c.q R/\GU b R
 ok:=λX C E s hK G hE hq hm=>by
  subst hK;cases s with
  |While e y z p=>
   cases z with
   |nil=>
    simp only [and_eq_true] at hm;exact Au hE.own (c.okT X C E e rfl G hE hq.1 hm.1) (pW G hE b y hq.2 hm.2)
   |cons _ _=>cases hm
  |_=>exact ff hm
noncomputable def qA (nm names:List (Str × NameKind)):List (Str × NameKind):=names.map λ(n,k)=>if (k==NameKind.free&&nm.lookup n==some .cell) then (n,NameKind.cell) else (n,k)
noncomputable def PQ (C:Sc) (sc:Scope):List Str->List Nat->Bool
 |[],[]=>true
 |x::xs,i::is=>(C.N[i]?==some x&&(C.nm.lookup x==some .cell&&sc.names.lookup x==some .free))&&PQ C sc xs is
 |_,_=>false
theorem BK {X:Cx} {C:Sc} {sc:Scope} (G:Gd X C):∀(xs:List Str) (is:List Nat),PQ C sc xs is=true->ER X sc xs is
 |[],[],_=>.nil
 |[],_::_,h=>nomatch h
 |_::_,[],h=>nomatch h
 |x::xs,i::is,h=>by
  have h':((C.N[i]?==some x&&(C.nm.lookup x==some .cell&&sc.names.lookup x==some .free))&&PQ C sc xs is)=true:=h;simp only [and_eq_true] at h';obtain ⟨⟨h1,h2,h3⟩,h4⟩:=h';exact .cons (by rw[G.N];exact eq_of_beq h1) (by show X.env.scope.names.lookup x=_;rw[G.nm];exact eq_of_beq h2) (eq_of_beq h3) (BK G xs is h4)
noncomputable def RT (C:Sc) (sc:Scope) (own caps:List Str) (is:List Nat):Bool:=
 (decide (sc.kind=.function)&&decide (own++caps).Nodup)&&((sc.names.all λy=>y.2 != .cell || sc.names.lookup y.1==some .cell)&&((sc.names.all λy=>y.2 != .free || C.nm.lookup y.1==some .cell)&&((sc.names.all λy=>y.2 != .local || sc.names.lookup y.1==some .local)&&PQ C sc caps is)))
theorem qU (env:Env):∀(names:List (Str × NameKind)) (acc:List (Str × Addr)),(∀y∈names,y.2=.free->∃c,env.cells.lookup y.1=some c)->
  (forIn names acc (λ(x:Str × NameKind) (r:List (Str × Addr))=>(if (x.2==NameKind.free)=true then (do let c <-cellOf env x.1;pure (ForInStep.yield ((x.1,c)::r))) else pure (ForInStep.yield r):Sem (ForInStep (List (Str × Addr))))))=
   (pure (((names.filter λx=>x.2==.free).filterMap λx=>(env.cells.lookup x.1).map λc=>(x.1,c)).reverse++acc):Sem (List (Str × Addr)))
 |[],acc,_=>rfl
 | (n,k)::r,acc,h=>by
  have ih:=λacc'=>qU env r acc' λy hy=>h y (mem_cons_of_mem _ hy);rw[forIn_cons];cases hk:(k==NameKind.free) with
  |false=>
   rw[if_neg Bool.false_ne_true];have e:((n,k)::r).filter (λx=>x.2==NameKind.free)=r.filter (λx=>x.2==NameKind.free):=by rw[filter_cons,if_neg (by show ¬(k==NameKind.free)=true;rw[hk];exact Bool.false_ne_true)]
   rw[e];exact ih acc
  |true=>
   rw[if_pos rfl];obtain ⟨c,hc⟩:=h (n,k) mem_cons_self (eq_of_beq hk);have e:((n,k)::r).filter (λx=>x.2==NameKind.free)=(n,k)::r.filter (λx=>x.2==NameKind.free):=by rw[filter_cons,if_pos (by show (k==NameKind.free)=true;exact hk)]
   have hcell:cellOf env n=pure c:=by
    unfold cellOf;rw[hc]
   rw[e,List.filterMap_cons,hcell];have hc':(env.cells.lookup n)=some c:=hc;simp only [hc',Option.map_some,List.reverse_cons,List.append_assoc,List.singleton_append];exact ih ((n,c)::acc)
theorem PK {X:Cx} {sc:Scope} (ok:X.Ok) (hfr:(sc.names.all λy=>y.2 != .free || X.env.kindOf y.1==some .cell)=true):closureFor sc X.env=pure (wL sc.names X.env):=by
 have h:=qU X.env sc.names [] λy hy hf=>by
  have z:=all_eq_true.mp hfr y hy;simp only [or_eq_true] at z;rcases z with z|z
  ·rw[hf] at z;cases z
  ·exact ok.has y.1 (.inl (eq_of_beq z))
 rw[append_nil] at h;have h3:closureFor sc X.env=(forIn sc.names ([]:List (Str × Addr)) (λ(x:Str × NameKind) (r:List (Str × Addr))=>(if (x.2==NameKind.free)=true then (do let c <-cellOf X.env x.1;pure (ForInStep.yield ((x.1,c)::r))) else pure (ForInStep.yield r):Sem (ForInStep (List (Str × Addr))))) >>=λr=>pure r):=rfl;rw[h3,h];rfl
noncomputable def HG (names:List (Str × NameKind)):List Str:=(names.filter λy=>names.lookup y.1==some .cell).map (·.1)
theorem XT {X:Cx} {C:Sc} {own caps:List Str} {sc:Scope} {Ca:Addr} {s₀:Shared} {H₀:Hp} {ex:List Addr} (G:Gd X C) (hcm:C.cm=true) (hk:X.env.scope.kind=.function) (hnd:(own++caps).Nodup):Gd (EJ X (own++caps) sc Ca s₀ H₀ ex) ⟨own++caps,qA C.nm sc.names,.own (HG sc.names)⟩ where
 N:=rfl
 nm:=by
  show (sc.names.map λ(n,k)=>if (k==NameKind.free&&X.env.scope.kind==.function&&X.env.kindOf n==some .cell) then (n,NameKind.cell) else (n,k))=qA C.nm sc.names;unfold qA;rw[hk];show (sc.names.map λ(n,k)=>if (k==NameKind.free&&true&&X.env.scope.names.lookup n==some NameKind.cell) then (n,NameKind.cell) else (n,k))=_;rw[G.nm];simp only [Bool.and_true]
 nd:=hnd
 calm:=λ_=>G.calm hcm
 bl:=G.bl
 top:=λz=>nomatch z
 hu:=G.hu
 fb:=λh=>nomatch h
 ow:=λx hx=>by
  obtain ⟨y,hy,rfl⟩:=mem_map.mp (show x∈HG sc.names from hx);exact (mem_filter.mp hy).2
theorem ZK {X:Cx} (h:X.xe=λ_ _=>False):rF X E0:=⟨λ_ _ _ _ _ _ _ z=>(xE.no z).elim,λ_ _ _ _ _ _ _ _ _ _ _ _ _ _ _ _ _ _ _ z=>z.elim,by rw[h];exact PassesOwn.never⟩
structure Ff (K:Fg) where
 t:XS->TE
 m:Sc->Expr->Bool
 q:Rt->Prop
 sok:∀(C:Sc) (e:Expr),m C e=true->fS e=some .cp/\uB e=true
 ok:∀(X:Cx) (C:Sc) (E:XS) (e:Expr),X.K=K->Gd X C->rF X E->q (dC X)->m C e=true->PE X e (t E)
 okS:∀(X:Cx) (C:Sc) (E:XS) (i:Nat) (x:Str) (p' pos:Pos) (e:Expr),X.K=K->Gd X C->rF X E->q (dC X)->m C e=true->MO C i x=true->PS X (.Assign [.Name x p'] e pos) (λD σ H=>t E σ H λv H1=>D.nx (σ.set i (some v)) H1)
noncomputable def cT (c:Option (EX K)):TT:=match c with
 |none=>λ_ H Q=>Q true H
 |some c=>c.tt E0
noncomputable def mC (c:Option (EX K)) (C:Sc) (ifs:List Expr):Bool:=match c,ifs with
 |none,[]=>true
 |some c,[e]=>c.m C e
 |_,_=>false
noncomputable def qC (c:Option (EX K)) (R:Rt):Prop:=match c with
 |none=>True
 |some c=>c.q R
theorem FQ {X:Cx} {C:Sc} (G:Gd X C) (hE:rF X E0):∀(c:Option (EX X.K)) (ifs:List Expr),qC c (dC X)->mC c C ifs=true->rG X ifs (cT c)
 |none,[],_,_=>.nil
 |none,_::_,_,hm=>nomatch hm
 |some _,[],_,hm=>nomatch hm
 |some c,[e],hq,hm=>.one (c.okT X C E0 e rfl G hE hq hm)
 |some _,_::_::_,_,hm=>nomatch hm
noncomputable def YR (c:Option (EX K)) (elt:EX K) (tg:TX K) (it:IX K) (own caps:List Str) (is:List Nat) (C:Sc) (e:Expr):Bool:=match e with
 | .ListComp l [⟨x,y,ifs,asy⟩] sc _=>((C.cm&&decide (asy=0))&&it.tm x)&&(RT C sc own caps is&&(it.m C y&&(tg.m ⟨own++caps,qA C.nm sc.names,.own (HG sc.names)⟩ x&&(mC c ⟨own++caps,qA C.nm sc.names,.own (HG sc.names)⟩ ifs&&elt.m ⟨own++caps,qA C.nm sc.names,.own (HG sc.names)⟩ l))))
 |_=>false
theorem KD {X:Cx} {C:Sc} {E:XS} {e:Expr} {c:Option (EX X.K)} {elt:EX X.K} {tg:TX X.K} {it:IX X.K} {own caps:List Str} {is:List Nat} (G:Gd X C) (hE:rF X E) (hq:it.q (dC X)/\elt.q (dC X)/\qC c (dC X)) (hm:YR c elt tg it own caps is C e=true):
  ∃l x y ifs sc p,e=.ListComp l [⟨x,y,ifs,0⟩] sc p/\∀(use:Option (Value->Sem Unit)) (p2:Pos) (pins:List (Addr × Obj)) (s:Shared) (σ:St) (H:Hp) (Q:VK) (QQ:Value->Shared->Prop),Inv X pins σ H s->mS (it.t E) tg.g (cT c) (elt.t E0) own.length is σ H Q->
   (∀(D C:Addr) (H':Hp) (s':Shared) (m:Str->Option Value),Inv X pins σ H' s'->s'.heap.Ns C m->H' C=none->X.s₀.heap.objs.size<=C->X.env.locals≠C->(∀x c,X.env.cells.lookup x=some c->c≠C)->(∀p∈X.pn++pins,p.1≠C)->Q (.ref D) H'->
    compPost (model X.prog X.w) X.A X.xe use QQ (.ref D) C (.ok .next) s')->
   wpAny (model X.prog X.w) X.A (comprehension (.ListComp l [⟨x,y,ifs,0⟩] sc p) sc X.env p2 (newList []) false (eval y X.env) use) QQ X.xe s:=by
 unfold YR at hm;cases e with
 |ListComp l gs sc p=>
  match gs,hm with
  |[⟨x,y,ifs,asy⟩],hm=>
   simp only [and_eq_true] at hm;obtain ⟨⟨⟨hcm,h1⟩,h0⟩,h2,h3,h4,h6,h5⟩:=hm;have e1:=of_decide_eq_true h1;subst e1;unfold RT at h2;simp only [and_eq_true] at h2;obtain ⟨⟨k1,k2⟩,k3,k4,k5,k6⟩:=h2;have k4':(sc.names.all λy=>y.2 != .free || X.env.kindOf y.1==some .cell)=true:=by
    show (sc.names.all λy=>y.2 != .free || X.env.scope.names.lookup y.1==some .cell)=true;rw[G.nm];exact k4
   refine ⟨l,x,y,ifs,sc,p,rfl,λuse p2 pins s σ H Q QQ I h fin=>?_⟩;have hg:=λCa s₀ H₀ ex=>XT (own:=own) (caps:=caps) (sc:=sc) (Ca:=Ca) (s₀:=s₀) (H₀:=H₀) (ex:=ex) G hcm I.ok.kind (of_decide_eq_true k2);refine DY (own:=own) (caps:=caps) (is:=is) use (G.calm hcm) (it.ok X C E x y rfl G hE hq.1 h0 h3) (λCa s₀ H₀ ex=>tg.ok _ _ x rfl (hg Ca s₀ H₀ ex) h4)
    (λCa s₀ H₀ ex=>FQ (X:=EJ X (own++caps) sc Ca s₀ H₀ ex) (hg Ca s₀ H₀ ex) (ZK rfl) c ifs hq.2.2 h6) (λCa s₀ H₀ ex=>elt.ok _ _ E0 l rfl (hg Ca s₀ H₀ ex) (ZK rfl) hq.2.1 h5) (BK G caps is k6) (of_decide_eq_true k1)
    (λz hz=>?_) k4' (PK I.ok k4') (λz hz hl=>?_) (λv=>it.fs C y X.env v h3) I h fin
   ·have:=all_eq_true.mp k3 z hz;simp only [or_eq_true] at this;intro hl;rcases this with q|q
    ·rw[hl] at q;cases q
    ·exact eq_of_beq q
   ·have:=all_eq_true.mp k5 z hz;simp only [or_eq_true] at this;rcases this with q|q
    ·rw[hl] at q;cases q
    ·exact eq_of_beq q
 |_=>exact ff hm
theorem RQ {X:Cx} {C:Sc} {E:XS} {e:Expr} {c:Option (EX X.K)} {elt:EX X.K} {tg:TX X.K} {it:IX X.K} {own caps:List Str} {is:List Nat} (G:Gd X C) (hE:rF X E) (hq:it.q (dC X)/\elt.q (dC X)/\qC c (dC X)) (hm:YR c elt tg it own caps is C e=true):
  PE X e (mS (it.t E) tg.g (cT c) (elt.t E0) own.length is):=by
 obtain ⟨l,x,y,ifs,sc,p,rfl,R⟩:=KD G hE hq hm;intro pins s σ H Q I h;rw[eval_ListComp];refine R none _ pins s σ H Q _ I h λD C H' s' m I' hn hC h1 h2 h3 h4 q=>?_;exact ⟨m,hn,λh' hs'=>⟨.ref D,H',Inv.but I' hs' h1 h2 h3 h4 hC,rfl,q⟩⟩
theorem Dy {X:Cx} {C:Sc} {E:XS} {e:Expr} {i:Nat} {nm:Str} {p' pos:Pos} {c:Option (EX X.K)} {elt:EX X.K} {tg:TX X.K} {it:IX X.K} {own caps:List Str} {is:List Nat} (G:Gd X C) (hE:rF X E) (hq:it.q (dC X)/\elt.q (dC X)/\qC c (dC X)) (hm:YR c elt tg it own caps is C e=true) (hst:MO C i nm=true):
  PS X (.Assign [.Name nm p'] e pos) (λD σ H=>mS (it.t E) tg.g (cT c) (elt.t E0) own.length is σ H λv H1=>D.nx (σ.set i (some v)) H1):=by
 have P:=RQ G hE hq hm;obtain ⟨g1,g2,g3⟩:=rX G hst;have nd:X.N.Nodup:=by rw[G.N];exact G.nd
 obtain ⟨l,x,y,ifs,sc,p,rfl,R⟩:=KD G hE hq hm;obtain ⟨b,hb⟩:∃b:Bool,swapsWith (.ListComp l [⟨x,y,ifs,0⟩] sc p) (some (.Name nm p')) pos.line X.env=pure b:=⟨_,rfl⟩;cases b with
 |false=>exact GW nd g1 g2 P hb g3
 |true=>
  intro pins s σ H D I h;rw[exec_Assign_Name_used _ _ _ _ hb];refine wpAny_bind (wpAny_standAt (wpAny_bind ?_));show wpAny _ _ (do let _ <-comprehension (.ListComp l [⟨x,y,ifs,0⟩] sc p) sc X.env _ (newList []) false (eval y X.env) (some (assign (.Name nm p') X.env))) _ _ s;refine wpAny_bind (wpAny_mono (R (some (assign (.Name nm p') X.env)) _ pins s σ H _ (λ_ s'=>SP X pins D .next s') I h λA C H' s' m I' hn hC h1 h2 h3 h4 q=>?_) (λ_ s' hq=>wpAny_pure (wpAny_pure hq)) λ_ _ z=>z);show wpAny _ _ (assign (.Name nm p') X.env (.ref A)) _ _ s';refine wpAny_assign_Name (pV I' nd g1 g2 (v:=.ref A) rfl (λs'' I'' ⟨a,sb,ha⟩=>?_) g3);have hne:C≠a:=by
   rcases ha with ha|ha
   ·rw[ha];exact h2.symm
   ·exact (h3 _ _ ha).symm
  exact ⟨m,hn.sameBut sb hne,λh' hs'=>⟨_,H',Inv.but I'' hs' h1 h2 h3 h4 hC,q⟩⟩
noncomputable def wK (c:Option (EX K)) (elt:EX K) (tg:TX K) (it:IX K) (own caps:List Str) (is:List Nat):Ff K where
 t:=λE=>mS (it.t E) tg.g (cT c) (elt.t E0) own.length is
 m:=YR c elt tg it own caps is
 q:=λR=>it.q R/\elt.q R/\qC c R
 sok:=λC e hm=>by
  unfold YR at hm;cases e with
  |ListComp l gs sc p=>exact ⟨rfl,rfl⟩
  |_=>exact ff hm
 ok:=λX C E e hK G hE hq hm=>by subst hK;exact RQ G hE hq hm
 okS:=λX C E i x p' pos e hK G hE hq hm hst=>by subst hK;exact Dy G hE hq hm hst
noncomputable def Jm (c:Ff K):EX K:=RA c.t c.m c.q .cp c.ok (λC e hm=>(c.sok C e hm).1) (λC e hm=>(c.sok C e hm).2)
noncomputable def setC (i:Nat) (c:Ff K):SX K where
 t:=λE D σ H=>c.t E σ H λv H1=>D.nx (σ.set i (some v)) H1
 m:=λC s=>match s with
  | .Assign [.Name x _] e _=>MO C i x&&c.m C e
  |_=>false
 q:=c.q
 ok:=λX C E s hK G hE hq hm=>by
  split at hm
  ·rename_i x px e p;simp only [and_eq_true] at hm;exact c.okS X C E i x _ p e hK G hE hq hm.2 hm.1
  ·cases hm
noncomputable def comp (elt:EX K) (tg:TX K) (it:IX K) (own caps:List Str) (is:List Nat):EX K:=Jm (wK none elt tg it own caps is)
noncomputable def YN (P:Program) (w:World) (K:Fg) (mg:Str->Option Value) (base:Heap) (k:Nat) (x:Str) (sp:Sp):Prop:=
 ∃(f:Addr) (fd:FuncData) (ps:List Str),zQ P w K mg base (xE P w) k f fd ps sp/\Binds K fd ps []/\PySem.W.keepIn K (.ref f)=true/\mg x=some (.ref f)
theorem YN.at {P:Program} {w:World} {mg:Str->Option Value} {base:Heap} {j k:Nat} {x:Str} {sp:Sp} {A:Around} (D:YN P w K mg base j x sp) (hr:dA k A) (h:j<=k):FnAt ⟨P,w,K,mg,base,A⟩ x sp:=by
 obtain ⟨f,fd,ps,F,hb,kp,hg⟩:=D;exact ⟨j,f,fd,ps,hr.mono h,F,hb,kp,hg⟩
theorem JZ {P:Program} {w:World} {mg:Str->Option Value} {base:Heap} {x qual:Str} {st:Stmt} {f:Addr} {fd:FuncData} {N ps:List Str} {k:Nat} {sp:Sp} (F:Eo K x qual st f fd) (b:List (SX K)) (S:fQ N ps (aO st))
  (hm:EO b ⟨N,(aO st).names,true⟩ (bE st)=true) (bl:∀x∈oQ,mg x=none) (hq:∀A,dA k A->GU b ⟨P,w,K,mg,base,A⟩) (len:∀vs H Q E,sp vs H Q E->vs.length=ps.length)
  (h:∀vs H Q E,sp vs H Q E->jD b (λ_=>E) {nx:=λ_ H'=>Q .non H',rt:=Q} (start N vs) H):zQ P w K mg base (xE P w) (k+1) f fd ps sp:=by
 obtain ⟨oc,od,kV,doc,pm,an,cdv,ct,osl,rfl,lk,hcd⟩:=F.ex;refine Ds lk hcd S len λA outer s H vs Q E hr hsp=>?_;have G:Gd (pL (xE P w) P w K mg base N qual (aO st) f cdv A outer s H E) ⟨N,(aO st).names,true⟩:=⟨rfl,rfl,S.nd,λ_=>rfl,bl,hr.units,λ_ _=>rfl,λ_=>⟨rfl,rfl⟩,λ_ h=>nomatch h⟩;have T:rF (pL (xE P w) P w K mg base N qual (aO st) f cdv A outer s H E) (λ_=>E):=⟨λpins σ H1 s1 ev s' I z=>HD pins σ H1 s1 ev s' I z,λ_ _ _ _ _ _ e _ _ I o1 b1 u1 k1 n1 en eo dt v1 z=>IC (I.call' o1 u1 k1 b1 λb y=>absurd y (by simp)) eo dt v1 en (λb o q y=>by obtain ⟨v,hv⟩:=I.base.there b o q (λy=>nomatch y);rw[y,n1] at hv;cases hv) z,PassesOwn.leaving⟩;exact ⟨_,pW G T b (bE st) (hq _ hr) hm,h vs H Q E hsp⟩
noncomputable abbrev ls (z:Str):List Nat:=z.cps.toList
noncomputable def aH (l:List Nat):Str:=⟨l.toArray⟩
theorem aW (l:List Nat):ls (aH l)=l:=by simp [ls,aH]
theorem aN (z:Str):(ls z).length=z.length:=by show z.cps.toList.length=z.cps.size;simp
theorem eJ (l:List Nat):(aH l).length=l.length:=by rw[<-aN,aW]
theorem fM (h:ls a=ls b):a=b:=by
 cases a;cases b;simp only [ls] at h
 congr 1
 exact Array.toList_inj.mp h
theorem QZ (z:Str):aH (ls z)=z:=fM (aW _)
theorem IG (a b:Str):ls (a++b)=ls a++ls b:=by
 show (a.cps++b.cps).toList=a.cps.toList++b.cps.toList;simp
theorem len_app (a b:Str):(a++b).length=a.length+b.length:=by rw[<-aN,IG,length_append,aN,aN]
theorem oB (g:Array Nat):∀(r:List Str) (acc:Array Nat),(r.foldl (λacc p=>acc++g++p.cps) acc).toList=acc.toList++(r.map λp=>g.toList++p.cps.toList).flatten
 |[],acc=>by simp
 |p::r,acc=>by
  rw[foldl_cons,oB g r];simp [List.append_assoc]
theorem nN (ys:List Str):ls (Txt.join (Str.ofString "") ys)=(ys.map ls).flatten:=by
 have e:(Str.ofString "").cps=#[]:=by decide+kernel
 cases ys with
 |nil=>decide+kernel
 |cons y r=>
  show ((r.foldl (λacc p=>acc++(Str.ofString "").cps++p.cps) y.cps)).toList=_;rw[e,oB];simp
theorem eI (x:Str) (c lim:Nat):∀(l:List Nat) (st:Array Nat × Nat),(∀i∈l,st.snd<=i)->l.Pairwise (·<·)->st.fst.size+l.length<=lim->
  (forIn l st (StrLaws.occBody x ⟨#[c]⟩ x.length lim)).run.fst.size=st.fst.size+(l.filter λi=>decide (x.cps.toList[i]?=some c)).length
 |[],st,_,_,_=>by simp
 |a::l,st,hf,hp,hl=>by
  rw[forIn_cons];have ha:st.snd<=a:=hf a mem_cons_self;rw[length_cons] at hl;have hp':=pairwise_cons.mp hp;unfold StrLaws.occBody;by_cases hc:x.cps.toList[a]?=some c
  ·have h1:=(StrLaws.subAt_one x c a).mpr hc;rw[if_pos ⟨⟨⟨by lia,ha⟩,h1.1⟩,h1.2⟩];have ih:=eI x c lim l (st.fst.push a,a+(⟨#[c]⟩:Str).length) (λi hi=>by
    have:=hp'.1 i hi
    show a+1<=i
    lia) hp'.2 (by rw[Array.size_push];lia)
   show (forIn l (st.fst.push a,a+(⟨#[c]⟩:Str).length) (StrLaws.occBody x ⟨#[c]⟩ x.length lim)).run.fst.size=_;rw[ih,filter_cons,if_pos (decide_eq_true hc),length_cons,Array.size_push];lia
  ·rw[if_neg (λh=>hc ((StrLaws.subAt_one x c a).mp ⟨h.1.2,h.2⟩))];have ih:=eI x c lim l (st.fst,st.snd) (λi hi=>hf i (mem_cons_of_mem _ hi)) hp'.2 (by show st.fst.size+l.length<=lim;lia);show (forIn l (st.fst,st.snd) (StrLaws.occBody x ⟨#[c]⟩ x.length lim)).run.fst.size=_;rw[ih,filter_cons,if_neg (by rw[decide_eq_false hc];exact Bool.false_ne_true)]
theorem qM (c:Nat):∀(l:List Nat) (k:Nat),((range' k (l.length+1)).filter λi=>decide (l[i - k]?=some c)).length=l.count c
 |[],k=>by simp [range']
 |a::l,k=>by
  have e:range' k ((a::l).length+1)=k::range' (k+1) (l.length+1):=by rw[length_cons,List.range'_succ]
  rw[e,filter_cons];have ih:=qM c l (k+1);have e2:((range' (k+1) (l.length+1)).filter λi=>decide ((a::l)[i - k]?=some c))=((range' (k+1) (l.length+1)).filter λi=>decide (l[i - (k+1)]?=some c)):=by
   refine List.filter_congr λi hi=>?_;have hi':=List.mem_range'_1.mp hi;have:i - k=(i - (k+1))+1:=by lia
   rw[this,List.getElem?_cons_succ]
  have e3:(a::l)[k - k]?=some a:=by rw[sub_self];rfl
  rw[e2,e3,List.count_cons];by_cases hc:a=c
  ·subst hc;rw[if_pos (decide_eq_true rfl),length_cons,ih];simp
  ·rw[if_neg (by simp [hc]),ih];simp [hc]
theorem DU (x:Str) (c:Nat):Txt.count x ⟨#[c]⟩=((ls x).count c:Int):=by
 unfold Txt.count;rw[StrLaws.occ_eq,length_toList,Nat.sub_zero];rw[eI x c (x.length+1) _ _ (λi hi=>zero_le _) List.pairwise_lt_range' (by simp)];have h:=qM c (ls x) 0;rw[aN] at h;simp only [Nat.sub_zero] at h;simp only [size_toArray,length_nil,zero_add];rw[<-h]
noncomputable def gX (m:Nat) (z:Str):Prop:=∀c∈ls z,97<=c/\c<97+m
theorem gX.of_ls (h:gX m z) (e:∀c∈ls y,c∈ls z):gX m y:=λc hc=>h c (e c hc)
noncomputable def wd (ws:List Str) (c:Nat):List Nat:=ls (ws[c - 97]?.getD ⟨#[]⟩)
noncomputable def img (ws:List Str) (z:Str):Str:=aH ((ls z).flatMap (wd ws))
theorem kX (ws:List Str) (z:Str):ls (img ws z)=(ls z).flatMap (wd ws):=aW _
theorem OM (hw:∀w∈ws,gX m w):gX m (img ws z):=λc hc=>by
 rw[kX] at hc;obtain ⟨d,_,h2⟩:=List.mem_flatMap.mp hc;unfold wd at h2;cases e:ws[d - 97]? with
 |none=>rw[e] at h2;simp [ls] at h2
 |some w=>rw[e] at h2;exact hw w (mem_of_getElem? e) c h2
theorem xT {l:List Nat} {B:Nat} (h:∀x∈l,x<=B):l.sum<=l.length * B:=by
 induction l with
 |nil=>simp
 |cons a l ih=>
  have h1:=h a mem_cons_self;have h2:=ih λx hx=>h x (mem_cons_of_mem _ hx);rw[sum_cons,length_cons,Nat.add_mul,Nat.one_mul];lia
theorem IV {ws:List Str} {z:Str} {B:Nat} (h:∀w∈ws,w.length<=B):(img ws z).length<=z.length * B:=by
 rw[<-aN,kX,List.length_flatMap,<-aN z];refine Nat.le_trans (xT (B:=B) λx hx=>?_) (by rw[length_map];exact Nat.le_refl _);obtain ⟨c,hc,rfl⟩:=mem_map.mp hx;unfold wd;cases e:ws[c - 97]? with
 |none=>simp [ls]
 |some w=>rw[show (some w).getD ⟨#[]⟩=w from rfl,aN];exact h w (mem_of_getElem? e)
theorem HX {X:Cx} {id:String} {r:Str->List V->Hp->VK->Prop} {r':V->List V->Hp->VK->Prop} (h:RZ X id r') (f:∀z ys H Q,r z ys H Q->r' (.str z) ys H Q):YH X id (rS r):=by
 intro pins s σ H x xs v us Q I rx rs q;cases x with
 |str z=>exact h pins s σ H _ xs v us Q I rx rs (f z xs H Q q)
 |_=>exact q.elim
noncomputable def sM (K:Fg):Str->List V->Hp->VK->Prop
 |z,[.ref p],H,Q=>∃ys:List Str,(H p=some (.lst (ys.map V.str))\/bX K H p (ys.map V.str))/\(ys.map (·.length)).sum+ys.length * z.length<=16777216/\Q (.str (Txt.join z ys)) H
 |_,_,_,_=>False
noncomputable def sU (o a:EX K) (ho:o.s≠.zc:=by intro z;cases z):EX K:=vL "join" "str.join" (sM K) PySem.F.slot_str_join PySem.F.type_str_join (λX hK _ _=>by
 subst hK
 intro pins s σ H x xs v us Q I rx rs q
 cases x with
 |str z=>
  have q':sM X.K z xs H Q:=q
  unfold sM at q'
  split at q'
  ·obtain ⟨ys,h1|h1,h2,h3⟩:=q'
   ·exact NY pins s σ H _ _ v us Q I rx rs ⟨_,_,ys,rfl,rfl,h1,h2,h3⟩
   ·exact HU pins s σ H _ _ v us Q I rx rs ⟨_,_,ys,rfl,rfl,h1,h2,h3⟩
  ·exact q'.elim
 |_=>exact q.elim) o ho [a]
noncomputable def mB:Str->List V->Hp->VK->Prop
 |z,[.str y],H,Q=>Q (.int (Txt.count z y)) H
 |_,_,_,_=>False
noncomputable def AN (o a:EX K) (ho:o.s≠.zc:=by intro z;cases z):EX K:=vL "count" "str.count" mB PySem.F.slot_str_count PySem.F.type_str_count (λX hK _ _=>HX HW (λz ys H Q h=>by
 unfold mB at h
 split at h
 ·exact ⟨_,_,rfl,rfl,h⟩
 ·exact h.elim)) o ho [a]
noncomputable def lZ:Str->List V->Hp->VK->Prop
 |z,[.str y],H,Q=>∃(i:Nat) (rest:List Nat),Builtin.Str.occurrences z y 0 z.length 1=i::rest/\Q (.int i) H
 |_,_,_,_=>False
noncomputable def mF (o a:EX K) (ho:o.s≠.zc:=by intro z;cases z):EX K:=vL "index" "str.index" lZ PySem.F.slot_str_index PySem.F.type_str_index (λX hK _ _=>HX HV (λz ys H Q h=>by
 unfold lZ at h
 split at h
 ·obtain ⟨i,rest,h1,h2⟩:=h
  exact ⟨_,_,i,rest,rfl,rfl,h1,h2⟩
 ·exact h.elim)) o ho [a]
noncomputable def bS (o a:EX K) (ho:o.s≠.zc:=by intro z;cases z):EX K:=RB "append" "list.append" mD PySem.F.slot_list_append PySem.F.type_list_append (λX hK _ _=>qE) o ho [a]
noncomputable def PD (a b:EX K):EX K:=RA (λE=>Hv K (fB [a,b] E))
 (λC e=>match e with
  | .Call (.Name y _) [.Call (.Name z _) es [] _] [] _=>(C.cm&&pJ C "dict" y)&&(pJ C "zip" z&&jU [a,b] C es)
  |_=>false) (λR=>sN [a,b] R) .pl
 (λX C E e hK G hE hq hm=>by
  subst hK
  split at hm
  ·rename_i y py z pz es p2 p
   ·simp only [and_eq_true] at hm
    obtain ⟨⟨hcm,h1⟩,h2,h3⟩:=hm
    have e:=cE h1
    have e2:=cE h2
    subst e e2
    match es,h3 with
    |[],h3=>exact nomatch h3
    |[x],h3=>exact nomatch (aG h3).2
    |x::y::z::r,h3=>exact nomatch (aG (aG h3).2).2
    |[x,y],h3=>
     have s1:=aZ (env:=X.env) (es:=[y]) (a.sok C x (aG h3).1)
     have s2:=aZ (env:=X.env) (es:=[]) (b.sok C y (aG (aG h3).2).1)
     exact yK (G.calm hcm) (cD G h1).1 (G.bl _ (by decide+kernel)) (cD G h2).1 (G.bl _ (by decide+kernel)) (dU G hE [a,b] [x,y] hq h3)
      s1 (bG [b] [y] (aG h3).2)
  ·cases hm)
 (λC e hm=>by
  split at hm
  ·rfl
  ·cases hm)
 (λC e hm=>by cases e with|Call f es ks p=>rfl|_=>exact ff hm)
section
variable {E:XS} {σ:St} {H:Hp} {Q:VK} {D:Ends} {QB:Bool->Hp->Prop} {QL:List V->Hp->Prop} {v:V} {i j:Int} {n:Nat} {a b c:EX K} {as:List (EX K)} {ss:List (SX K)} {s:SX K} {op:Operator} {co:CmpOp} {x:Str} {sp:Sp}
theorem WC {tg:TX K} (h:a.t E σ H λx H1=>tg.g x σ H1 D.nx):(Ae tg a).t E D σ H:=h
theorem lL (h:s.t E {D with nx:=jD ss E D} σ H):jD (s::ss) E D σ H:=h
theorem Cp (h:D.nx σ H):jD ([]:List (SX K)) E D σ H:=h
theorem qI (h:a.t E σ H λx H1=>D.nx (σ.set n (some x)) H1):(set n a).t E D σ H:=h
theorem Ck (h:a.t E σ H D.rt):(ret a).t E D σ H:=h
theorem Gx (h:a.t E σ H λ_ H1=>D.nx σ H1):(ex a).t E D σ H:=h
theorem Gv {t f:List (SX K)} (h:c.tt E σ H λb H1=>br b (jD t E D σ H1) (jD f E D σ H1)):(tS c t f).t E D σ H:=h
theorem AW (e:σ[n]?=some (some v)) (h:Q v H):(var n:EX K).t E σ H Q:=by
 show tV n σ H Q;unfold tV;rw[e];exact h
theorem Df (h:Q v H):(cst v:EX K).t E σ H Q:=h
theorem Cw (h:Q v H):(YU x v:EX K).t E σ H Q:=h
theorem RM (h:a.t E σ H λx H1=>b.t E σ H1 λy H2=>kS K op x y H2 Q):(bin op a b).t E σ H Q:=h
theorem Di (h:Q (.int (i+j)) H):kS K .Add (.int i) (.int j) H Q:=h
theorem Cg (h:Q (.int (i - j)) H):kS K .Sub (.int i) (.int j) H Q:=h
theorem Cq (c:YO i j) (h:Q (.int (i * j)) H):kS K .Mult (.int i) (.int j) H Q:=⟨c.ok,h⟩
theorem Dd (c:Hr i j) (h:Q (.int (i / j)) H):kS K .FloorDiv (.int i) (.int j) H Q:=⟨⟨c.1,by have:=c.2;lia⟩,h⟩
theorem WS (c:0<j/\j<2 ^ 64) (h:Q (.int (i / j)) H):kS K .FloorDiv (.int i) (.int j) H Q:=⟨c,h⟩
theorem RH (c:0<j) (h:Q (.int (i % j)) H):kS K .Mod (.int i) (.int j) H Q:=⟨c,h⟩
theorem Cm (c:QF i j) (h:Q (.int (i ^ j.toNat)) H):kS K .Pow (.int i) (.int j) H Q:=⟨L2.L3.QF.pw c,h⟩
theorem WX {y z:Str} (c:y.length+z.length<=sizeLine) (h:Q (.str (y++z)) H):kS K .Add (.str y) (.str z) H Q:=⟨c,h⟩
theorem Dg (h:a.t E σ H λx H1=>b.t E σ H1 λy H2=>iE K co x y H2 Q):(cmp co a b).t E σ H Q:=h
theorem By (h:a.t E σ H λx H1=>b.t E σ H1 λy H2=>rB (iE K co) x y H2 QB):(cmp co a b).tt E σ H QB:=h
theorem Gw (h:Q (.bl (decide (j<i))) H):iE K .Gt (.int i) (.int j) H Q:=h
theorem dI:decide (V.int i=V.int j)=decide (i=j):=decide_eq_decide.mpr ⟨λz=>V.int.inj z,λz=>by rw[z]⟩
theorem dS {y z:Str}:decide (V.str y=V.str z)=decide (y=z):=decide_eq_decide.mpr ⟨λe=>V.str.inj e,λe=>by rw[e]⟩
theorem Gy (h:Q (.bl (decide (i=j))) H):iE K .Eq (.int i) (.int j) H Q:=.inl ⟨rfl,by rw[dI];exact h⟩
theorem Gk (h:QB (decide (i<j)) H):rB (iE K .Lt) (.int i) (.int j) H QB:=h
theorem Gm (h:QB (decide (i<=j)) H):rB (iE K .LtE) (.int i) (.int j) H QB:=h
theorem Gn (h:QB (decide (j<i)) H):rB (iE K .Gt) (.int i) (.int j) H QB:=h
theorem Gp (h:QB (decide (i=j)) H):rB (iE K .Eq) (.int i) (.int j) H QB:=.inl ⟨rfl,by show QB _ H;rw[dI];exact h⟩
theorem Gj (h:QB (!decide (i=j)) H):rB (iE K .NotEq) (.int i) (.int j) H QB:=.inl ⟨rfl,by show QB _ H;rw[dI];exact h⟩
theorem Bw {y z:Str} (h:QB (!decide (y=z)) H):rB (iE K .NotEq) (.str y) (.str z) H QB:=.inl ⟨rfl,by show QB _ H;rw[dS];exact h⟩
theorem Bu (e:a.tt E=SO K (a.t E)) (h:a.t E σ H λx H1=>sJ K x H1 QB):a.tt E σ H QB:=by rw[e];exact h
theorem Bv (h:a.tt E σ H λb H1=>QB (!b) H1):(pF a).tt E σ H QB:=h
theorem Co (h:a.t E σ H λx H1=>sJ K x H1 λb H2=>Q (.bl (!b)) H2):(pF a).t E σ H Q:=h
theorem VX {k:Bool} (h:QB k H):sJ K (.bl k) H QB:=h
theorem Dh (h:a.t E σ H λx H1=>sJ K x H1 λk H2=>br k (CH K .And E (b.t E) as σ H2 Q) (Q x H2)):(zM a (b::as)).t E σ H Q:=h
theorem Cb (h:a.tt E σ H λk H1=>br k (jE K .And E (b.tt E) as σ H1 QB) (QB false H1)):(zM a (b::as)).tt E σ H QB:=h
theorem Gi (h:a.tt E σ H λk H1=>br k (QB true H1) (jE K .Or E (b.tt E) as σ H1 QB)):(Bb a (b::as)).tt E σ H QB:=h
theorem WW {bo:BoolOp} {t:TE} (h:t σ H Q):CH K bo E t [] σ H Q:=h
theorem VP {bo:BoolOp} {t:TT} (h:t σ H QB):jE K bo E t [] σ H QB:=h
theorem VO {t:TT} (h:t σ H λk H1=>br k (QB true H1) (jE K .Or E (b.tt E) as σ H1 QB)):jE K .Or E t (b::as) σ H QB:=h
theorem BA (h:a.t E σ H λx H1=>fB as E σ H1 λxs H2=>QL (x::xs) H2):fB (a::as) E σ H QL:=h
theorem JJ (h:QL [] H):fB ([]:List (EX K)) E σ H QL:=h
theorem JH (h:fB as E σ H λvs H1=>sp vs H1 Q (E σ)):(call x sp as).t E σ H Q:=h
theorem RI (h:a.t E σ H λx H1=>yH K [x] H1 Q):(len a).t E σ H Q:=h
theorem gN {z:Str} (c:z.length<=sizeLine) (h:Q (.int z.length) H):yH K [.str z] H Q:=⟨c,h⟩
theorem tB {p:Addr} {xs:List V} (c:aM K H p xs) (h:Q (.int xs.length) H):yH K [.ref p] H Q:=.inl ⟨_,.inl ⟨xs,c,rfl⟩,h⟩
theorem nX {p:Addr} {xs:List V} (c:bX K H p xs) (h:Q (.int xs.length) H):yH K [.ref p] H Q:=.inl ⟨_,.inr ⟨xs,c,rfl⟩,h⟩
theorem Cf (h:a.t E σ H λx H1=>TH [x] H1 Q):(sum a).t E σ H Q:=h
theorem Cr (h:a.t E σ H λx H1=>b.t E σ H1 λy H2=>vA [x,y] H2 Q):(min2 a b).t E σ H Q:=h
theorem Ct (h:a.t E σ H λx H1=>b.t E σ H1 λy H2=>vB [x,y] H2 Q):(max2 a b).t E σ H Q:=h
theorem WM (h:Q (.int (min i j)) H):vA [.int i,.int j] H Q:=h
theorem WN (h:Q (.int (max i j)) H):vB [.int i,.int j] H Q:=h
theorem Cv (h:a.t E σ H λx H1=>b.t E σ H1 λy H2=>AG K [x,y] H2 Q):(YS a b).t E σ H Q:=h
theorem OO (h:Q (.ty "str") H):(QG:EX K).t E σ H Q:=h
theorem OP (h:Q (.ty "int") H):(QH:EX K).t E σ H Q:=h
theorem IY (h:Q (.ty "bool") H):(FJ:EX K).t E σ H Q:=h
theorem IW (h:Q (.ty "list") H):(FI:EX K).t E σ H Q:=h
theorem DN (h:Q (.ty "tuple") H):(zS:EX K).t E σ H Q:=h
theorem OR (h:a.t E σ H λx H1=>lY K [x] H1 Q):(listE a).t E σ H Q:=h
theorem IZ (h:a.t E σ H λx H1=>sI K [x] H1 Q):(xN a).t E σ H Q:=h
theorem Gu (h:a.t E σ H λx H1=>b.t E σ H1 λy H2=>vC K x y H2 Q):(ix a b).t E σ H Q:=h
theorem jW {z:Str} {k:Nat} (c:z.length<=sizeLine) (e:kL z.cps.toList i=some k) (h:Q (sgn k) H):vC K (.str z) (.int i) H Q:=⟨c,k,e,h⟩
theorem fU {p:Addr} {xs:List V} (c:aM K H p xs) (e:kL xs i=some v) (h:Q v H):vC K (.ref p) (.int i) H Q:=.inl ⟨p,xs,i,v,rfl,rfl,c,e,h⟩
theorem gO {p:Addr} {xs:List V} (c:bX K H p xs) (e:kL xs i=some v) (h:Q v H):vC K (.ref p) (.int i) H Q:=.inr (.inl ⟨p,xs,i,v,rfl,rfl,c,e,h⟩)
theorem qJ {p:Addr} {y:V} (c:eN H p y (some v)) (h:Q v H):vC K (.ref p) y H Q:=.inr (.inr ⟨v,c,h⟩)
theorem Ci {lo hi:Option (EX K)} (h:a.t E σ H λx H1=>tO E lo σ H1 λl H2=>tO E hi σ H2 λu H3=>CP K x l u H3 Q):(xC a lo hi).t E σ H Q:=h
theorem Gs {QO:Option Int->Hp->Prop} (h:QO none H):tO E (none:Option (EX K)) σ H QO:=h
theorem Gr {QO:Option Int->Hp->Prop} (h:a.t E σ H (rO QO)):tO E (some a) σ H QO:=h
theorem Gq {QO:Option Int->Hp->Prop} (h:QO (some i) H):rO QO (.int i) H:=h
theorem fT {z:Str} {lo hi:Option Int} (c:z.length<=sizeLine) (h:Q (.str (Txt.slice z lo hi)) H):CP K (.str z) lo hi H Q:=⟨c,h⟩
theorem JB {p:Addr} {xs:List V} {lo hi:Option Int} (c:aM K H p xs) (h:∀q,H q=none->Q (.ref q) (upd H q (.lst (kC xs lo hi)))):CP K (.ref p) lo hi H Q:=.inl ⟨p,xs,rfl,c,h⟩
theorem JD (h:fB as E σ H λxs H1=>xs.length<=sizeLine/\∀p,H1 p=none->Q (.ref p) (upd H1 p (.lst xs))):(lst as).t E σ H Q:=h
theorem RG (h:fB as E σ H λxs H1=>xs.length<=sizeLine/\∀p,H1 p=none->Q (.ref p) (upd H1 p (.tup xs))):(tup as).t E σ H Q:=h
theorem WO {ho:a.s≠.zc} (h:a.t E σ H λx H1=>RS (sM K) (fB [b] E) x σ H1 Q):(sU a b ho).t E σ H Q:=h
theorem OV {ho:a.s≠.zc} (h:a.t E σ H λx H1=>RS mB (fB [b] E) x σ H1 Q):(AN a b ho).t E σ H Q:=h
theorem OS {ho:a.s≠.zc} (h:a.t E σ H λx H1=>RS lZ (fB [b] E) x σ H1 Q):(mF a b ho).t E σ H Q:=h
theorem JI {ho:a.s≠.zc} (h:a.t E σ H λx H1=>RL K mD (fB [b] E) x σ H1 Q):(bS a b ho).t E σ H Q:=h
theorem Ha {r:Str->List V->Hp->VK->Prop} {t:TA} {z:Str} (h:t σ H λys H2=>r z ys H2 Q):RS r t (.str z) σ H Q:=h
theorem vW {r:V->List V->Hp->VK->Prop} {t:TA} {p:Addr} {xs:List V} (c:aM K H p xs) (h:t σ H λys H2=>r (.ref p) ys H2 Q):RL K r t (.ref p) σ H Q:=⟨⟨xs,c⟩,h⟩
theorem JG {z:Str} {k:Nat} (h:Q (.int (((ls z).count k:Nat):Int)) H):mB z [sgn k] H Q:=by
 show Q (.int (Txt.count z ⟨#[k]⟩)) H;rw[DU];exact h
theorem nY {z y:Str} {k:Nat} {r:List Nat} (e:Builtin.Str.occurrences z y 0 z.length 1=k::r) (h:Q (.int k) H):lZ z [.str y] H Q:=⟨k,r,e,h⟩
theorem cO {p:Addr} {xs:List V} {y:V} (e:H p=some (.lst xs)) (c:xs.length<sizeLine) (h:Q .non (upd H p (.lst (xs++[y])))):mD (.ref p) [y] H Q:=⟨p,xs,y,rfl,rfl,e,c,h⟩
noncomputable def kJ (J:It) (g:TG) (tb:TS) (D:Ends) (σ:St) (H:Hp):Prop:=∃W:Nat->Nat->St->Hp->Prop,(∃m,W 0 m σ H)/\∀i m σ H,W i m σ H->
 (J.stop i H/\D.nx σ H)\/(J.go i H/\∃N:St->Hp->Prop,(∀σ' H',N σ' H'->∃m',m'<m/\W (i+1) m' σ' H')/\∀x H',J.yld i H x H'->g x σ H' λσ2 H2=>tb {D with nx:=N,ct:=N,bk:=D.nx} σ2 H2)
theorem Cz {tg:TX K} {it:IX K} {bd:List (SX K)} (h:it.t E σ H λJ H1=>kJ J tg.g (jD bd E) D σ H1):(gQ tg it bd).t E D σ H:=h
theorem Cj {R:It->Hp->Prop} (h:fB (a::as) E σ H λvs H1=>GO vs H1 R):(nZ a as).t E σ H R:=h
theorem WE {R:It->Hp->Prop} (c:-(2 ^ 62)<=j/\j<2 ^ 62) (h:R (EM 0 j.toNat) H):GO [.int j] H R:=⟨c,h⟩
theorem Ce {R:It->Hp->Prop} (h:fB [a,b] E σ H λvs H1=>GL K vs H1 R):(OX a b).t E σ H R:=h
theorem yW {R:It->Hp->Prop} {p r:Addr} {xs ys:List V} (c:aM K H p xs) (d:aM K H r ys) (h:R (El K p r) H):GL K [.ref p,.ref r] H R:=⟨⟨⟨xs,c⟩,ys,d⟩,h⟩
theorem WQ {R:It->Hp->Prop} (h:a.t E σ H λx H1=>nH K x H1 R):(iU a).t E σ H R:=h
theorem Cu {R:It->Hp->Prop} {z:Str} (h:R (ZA z) H):nH K (.str z) H R:=h
theorem jX {R:It->Hp->Prop} {p:Addr} {xs:List V} (c:aM K H p xs) (h:R (SA K p) H):nH K (.ref p) H R:=.inl ⟨⟨xs,c⟩,h⟩
theorem RJ {R:It->Hp->Prop} {p:Addr} {xs:List V} (c:bX K H p xs) (h:R (YZ K p) H):nH K (.ref p) H R:=.inr ⟨⟨xs,c⟩,h⟩
theorem sV {J:It} {P:Hp->Prop} {xs:List V} {g:TG} {tb:TS} (Y:Yl J P xs) (Pv:Nat->St->Hp->Prop) (h0:Pv 0 σ H) (hl:∀i σ H,i<=xs.length->Pv i σ H->P H)
  (hs:∀i x σ H,xs[i]?=some x->Pv i σ H->g x σ H λσ2 H2=>tb {D with nx:=Pv (i+1),ct:=Pv (i+1),bk:=D.nx} σ2 H2) (hd:∀σ H,Pv xs.length σ H->D.nx σ H):kJ J g tb D σ H:=JO Y Pv h0 hl hs hd
theorem cV {lo:Int} {k:Nat} {g:TG} {tb:TS} (Pv:Nat->St->Hp->Prop) (h0:Pv 0 σ H)
  (hs:∀i σ H,i<k->Pv i σ H->g (.int (lo+(i:Nat))) σ H λσ2 H2=>tb {D with nx:=Pv (i+1),ct:=Pv (i+1),bk:=D.nx} σ2 H2) (hd:∀σ H,Pv k σ H->D.nx σ H):kJ (EM lo k) g tb D σ H:=DP Pv h0 hs hd
theorem IH {z:Str} {g:TG} {tb:TS} (Pv:Nat->St->Hp->Prop) (h0:Pv 0 σ H)
  (hs:∀i k σ H,z.cps.toList[i]?=some k->Pv i σ H->g (sgn k) σ H λσ2 H2=>tb {D with nx:=Pv (i+1),ct:=Pv (i+1),bk:=D.nx} σ2 H2) (hd:∀σ H,Pv z.cps.toList.length σ H->D.nx σ H):kJ (ZA z) g tb D σ H:=by
 refine sV EY Pv h0 (λ_ _ _ _ _=>trivial) (λi x σ1 H1 hx hp=>?_) (λσ1 H1 hp=>hd σ1 H1 ?_)
 ·unfold yC at hx;rw[getElem?_map] at hx;cases e:z.cps.toList[i]? with
  |none=>rw[e] at hx;cases hx
  |some k=>
   rw[e] at hx;have hx':sgn k=x:=Option.some.inj hx;subst hx';exact hs i k σ1 H1 e hp
 ·rw[gE] at hp;rw[length_toList];exact hp
theorem AZ {QS:St->Hp->Prop} (h:QS (σ.set n (some v)) H):(fX n:TX K).g v σ H QS:=h
theorem JF (h:a.t E σ H λx H1=>b.t E σ H1 λy H2=>∃(z:Str) (t:Addr) (ws:List V),[x,y]=[V.str z,.ref t]/\(bX K H2 t ws\/aM K H2 t ws)/\z.cps.size=ws.length/\z.cps.size<=1000/\z.cps.all (·<128)=true/\(∀i j,i<z.cps.size->j<z.cps.size->eP z i=eP z j->i=j)/\
 ∀d,H2 d=none->Q (.ref d) (upd H2 d (.dK (iF z ws)))):(PD a b).t E σ H Q:=h
theorem nO {p:Addr} {xs:List V} {g:TG} {tb:TS} (hp:aM K H p xs) (S:Nat->St->Prop) (h0:S 0 σ)
  (hs:∀i x σ1 H1,xs[i]?=some x->S i σ1->aC H H1->g x σ1 H1 λσ2 H2=>tb {D with nx:=λσ3 H3=>S (i+1) σ3/\aC H H3,ct:=λσ3 H3=>S (i+1) σ3/\aC H H3,bk:=D.nx} σ2 H2) (hd:∀σ1 H1,S xs.length σ1->aC H H1->D.nx σ1 H1):
  kJ (SA K p) g tb D σ H:=JP (dB (xs:=xs)) (λH' e=>e.seq hp) S h0 hs hd
theorem DE {lo:Int} {k:Nat} {g:TG} {tb:TS} (S:Nat->St->Prop) (h0:S 0 σ)
  (hs:∀i σ1 H1,i<k->S i σ1->aC H H1->g (.int (lo+(i:Nat))) σ1 H1 λσ2 H2=>tb {D with nx:=λσ3 H3=>S (i+1) σ3/\aC H H3,ct:=λσ3 H3=>S (i+1) σ3/\aC H H3,bk:=D.nx} σ2 H2) (hd:∀σ1 H1,S k σ1->aC H H1->D.nx σ1 H1):
  kJ (EM lo k) g tb D σ H:=cV (λi σ1 H1=>S i σ1/\aC H H1) ⟨h0,aC.refl _⟩ (λi σ1 H1 hi p=>hs i σ1 H1 hi p.1 p.2) λσ1 H1 p=>hd σ1 H1 p.1 p.2
theorem sX {QS:St->Hp->Prop} {k l:Nat} {p:Addr} {x y:V} (c:bX K H p [x,y]) (h:QS ((σ.set k (some x)).set l (some y)) H):(LW [k,l]:TX K).g (.ref p) σ H QS:=
 ⟨p,[x,y],rfl,c,rfl,x,[y],rfl,y,[],rfl,rfl,h⟩
theorem DZ {J:It} {P:Hp->Prop} {items:List V} (Y:Yl J P items) {tc:TT} {te:TE} {is:List Nat} {D:Addr} (keep:Nat->Bool) (f:Nat->V) (hD:H D=none) (hP:∀H1,aC H H1->P H1) (hz:items.length<=sizeLine)
  (test:∀(i:Nat) (x:V) (H1:Hp) (QB:Bool->Hp->Prop),items[i]?=some x->aC H H1->(∀H2,aC H1 H2->QB (keep i) H2)->tc (some x::dQ is σ) H1 QB)
  (step:∀(i:Nat) (x:V) (H1:Hp) (Q':VK),items[i]?=some x->keep i=true->aC H H1->(∀H3,aC H1 H3->Q' (f i) H3)->te (some x::dQ is σ) H1 Q')
  (fin:∀H1,aC H H1->H1 D=some (.lst (((range items.length).filter keep).map f))->Q (.ref D) H1):aU J (fX 0:TX K).g tc te 1 is σ D H Q:=by
 have hn:∀i,(((range i).filter keep).map f).length<=i:=λi=>by
  rw[length_map];exact Nat.le_trans (List.length_filter_le _ _) (by rw[length_range];exact Nat.le_refl _)
 refine ⟨λi m σ' H1=>m=items.length - i/\i<=items.length/\(∃a,σ'=a::dQ is σ)/\aC H H1/\H1 D=some (.lst (((range i).filter keep).map f)),⟨items.length,by simp,zero_le _,⟨none,rfl⟩,λb o e=>by rw[aF (aB e hD)];exact e,aA⟩,?_⟩;rintro i m σ' H1 ⟨rfl,hi,⟨a,rfl⟩,hS,hO⟩;have p:=hP H1 hS;by_cases hlt:i<items.length
 ·refine .inr ⟨Y.go i H1 p hlt,λx H' hy=>?_⟩;obtain ⟨e,hx⟩:=Y.yld i H1 x H' p hlt hy;subst e;show tc (some x::dQ is σ) H' _;refine test i x H' _ hx hS λH2 s2=>⟨λhk=>?_,λhk=>?_⟩
  ·refine step i x H2 _ hx hk (hS.trans s2) λH3 s3=>?_;refine ⟨_,s3 _ _ (s2 _ _ hO),Nat.lt_of_le_of_lt (hn i) (Nat.lt_of_lt_of_le hlt hz),items.length - (i+1),by lia,rfl,hlt,⟨_,rfl⟩,λb o q=>?_,?_⟩
   ·rw[aF (aB q hD)];exact s3 _ _ (s2 _ _ (hS b o q))
   ·rw[aA,range_succ,List.filter_append,map_append,filter_cons,if_pos hk];rfl
  ·refine ⟨items.length - (i+1),by lia,rfl,hlt,⟨_,rfl⟩,hS.trans s2,?_⟩;rw[s2 _ _ hO,range_succ,List.filter_append,filter_cons,if_neg (by rw[hk];exact Bool.false_ne_true),List.filter_nil,append_nil]
 ·have e:i=items.length:=by lia
  subst e;exact .inl ⟨Y.stop H1 p,fin H1 hS hO⟩
theorem filter_all {α:Type} (l:List α):(l.filter λ_=>true)=l:=List.filter_eq_self.mpr λ_ _=>rfl
theorem eV {J:It} {P:Hp->Prop} {items:List V} (Y:Yl J P items) {te:TE} {is:List Nat} {D:Addr} (f:Nat->V) (hD:H D=none) (hP:∀H1,aC H H1->P H1) (hz:items.length<=sizeLine)
  (step:∀(i:Nat) (x:V) (H1:Hp) (Q':VK),items[i]?=some x->aC H H1->(∀H3,aC H1 H3->Q' (f i) H3)->te (some x::dQ is σ) H1 Q')
  (fin:∀H1,aC H H1->H1 D=some (.lst ((range items.length).map f))->Q (.ref D) H1):aU J (fX 0:TX K).g (cT (none:Option (EX K))) te 1 is σ D H Q:=
 DZ Y (λ_=>true) f hD hP hz (λ_ _ _ _ _ _ q=>q _ (aC.refl _)) (λi x H1 Q' hx _ hS q=>step i x H1 Q' hx hS q) λH1 hS hO=>fin H1 hS (by rw[filter_all] at hO;exact hO)
theorem KJ {lo:Int} {m:Nat} {te:TE} {is:List Nat} {D:Addr} (f:Nat->V) (hD:H D=none) (hz:m<=sizeLine)
  (step:∀(i:Nat) (H1:Hp) (Q':VK),i<m->aC H H1->(∀H3,aC H1 H3->Q' (f i) H3)->te (some (.int (lo+(i:Nat)))::dQ is σ) H1 Q')
  (fin:∀H1,aC H H1->H1 D=some (.lst ((range m).map f))->Q (.ref D) H1):aU (EM lo m) (fX 0:TX K).g (cT (none:Option (EX K))) te 1 is σ D H Q:=by
 refine eV SH f hD (λ_ _=>trivial) (by rw[gF];exact hz) (λi x H1 Q' hx hS q=>?_) (λH1 hS hO=>fin H1 hS (by rw[gF] at hO;exact hO));obtain ⟨hi,rfl⟩:=GJ hx;exact step i H1 Q' hi hS q
theorem hV {α β:Type} (l:List α) (f:α->β) (d:β):((range l.length).map λi=>(l[i]?.map f).getD d)=l.map f:=by
 refine ext_getElem? λi=>?_;rw[getElem?_map,getElem?_map];by_cases hi:i<l.length
 ·rw[getElem?_range hi];show some ((l[i]?.map f).getD d)=l[i]?.map f;rw[List.getElem?_eq_getElem hi];rfl
 ·rw[List.getElem?_eq_none_iff.mpr (by rw[length_range];lia),List.getElem?_eq_none_iff.mpr (by lia)];rfl
theorem oM {J:It} {P:Hp->Prop} {xs:List V} (Y:Yl J P xs) {te:TE} {is:List Nat} {D:Addr} (f:V->V) (hD:H D=none) (hP:∀H1,aC H H1->P H1) (hz:xs.length<=sizeLine)
  (step:∀(i:Nat) (x:V) (H1:Hp) (Q':VK),xs[i]?=some x->aC H H1->(∀H3,aC H1 H3->Q' (f x) H3)->te (some x::dQ is σ) H1 Q')
  (fin:∀H1,aC H H1->H1 D=some (.lst (xs.map f))->Q (.ref D) H1):aU J (fX 0:TX K).g (cT (none:Option (EX K))) te 1 is σ D H Q:=by
 refine eV Y (λi=>(xs[i]?.map f).getD .non) hD hP hz (λi x H1 Q' hx hS q=>?_) λH1 hS hO=>fin H1 hS (by rw[hV] at hO;exact hO);rw[hx] at q;exact step i x H1 Q' hx hS q
theorem wI {z:Str} {te:TE} {is:List Nat} {D:Addr} (f:Nat->V) (hD:H D=none) (hz:z.length<=sizeLine)
  (step:∀(i c:Nat) (H1:Hp) (Q':VK),z.cps.toList[i]?=some c->aC H H1->(∀H3,aC H1 H3->Q' (f c) H3)->te (some (sgn c)::dQ is σ) H1 Q')
  (fin:∀H1,aC H H1->H1 D=some (.lst (z.cps.toList.map f))->Q (.ref D) H1):aU (ZA z) (fX 0:TX K).g (cT (none:Option (EX K))) te 1 is σ D H Q:=by
 refine eV EY (λi=>(z.cps.toList[i]?.map f).getD .non) hD (λ_ _=>trivial) (by rw[gE];exact hz) (λi x H1 Q' hx hS q=>?_) λH1 hS hO=>fin H1 hS (by
  rw[show (yC z).length=z.cps.toList.length by rw[gE];simp,hV] at hO;exact hO)
 unfold yC at hx;rw[getElem?_map] at hx;cases e:z.cps.toList[i]? with
 |none=>rw[e] at hx;cases hx
 |some c=>
  rw[e] at hx q;have hx':sgn c=x:=Option.some.inj hx;subst hx';exact step i c H1 Q' e hS q
theorem mW {p:Addr} {xs:List V} (hp:bX K H p xs) (H1:Hp) (hS:aC H H1):bX K H1 p xs:=by
 rcases hp with (h|⟨o,h⟩)|h
 ·exact .inl (.inl (hS _ _ h))
 ·exact .inl (.inr ⟨o,hS _ _ h⟩)
 ·exact .inr h
theorem KI {p:Addr} {xs:List V} {te:TE} {is:List Nat} {D:Addr} (f:V->V) (hp:bX K H p xs) (hD:H D=none) (hz:xs.length<=sizeLine)
  (step:∀(i:Nat) (x:V) (H1:Hp) (Q':VK),xs[i]?=some x->aC H H1->(∀H3,aC H1 H3->Q' (f x) H3)->te (some x::dQ is σ) H1 Q')
  (fin:∀H1,aC H H1->H1 D=some (.lst (xs.map f))->Q (.ref D) H1):aU (YZ K p) (fX 0:TX K).g (cT (none:Option (EX K))) te 1 is σ D H Q:=oM (EW (xs:=xs)) f hD (mW hp) hz step fin
theorem KL {p:Addr} {xs:List V} {te:TE} {is:List Nat} {D:Addr} (f:V->V) (hp:aM K H p xs) (hD:H D=none) (hz:xs.length<=sizeLine)
  (step:∀(i:Nat) (x:V) (H1:Hp) (Q':VK),xs[i]?=some x->aC H H1->(∀H3,aC H1 H3->Q' (f x) H3)->te (some x::dQ is σ) H1 Q')
  (fin:∀H1,aC H H1->H1 D=some (.lst (xs.map f))->Q (.ref D) H1):aU (SA K p) (fX 0:TX K).g (cT (none:Option (EX K))) te 1 is σ D H Q:=oM (dB (xs:=xs)) f hD (λH1 hS=>hS.seq hp) hz step fin
theorem OW {elt:EX K} {c:Option (EX K)} {tg:TX K} {it:IX K} {own caps:List Str} {is:List Nat} (h:it.t E σ H λJ H1=>∀D,H1 D=none->aU J tg.g (cT c) (elt.t E0) own.length is σ D H1 Q):(wK c elt tg it own caps is).t E σ H Q:=h
theorem WV {elt:EX K} {tg:TX K} {it:IX K} {own caps:List Str} {is:List Nat} (h:it.t E σ H λJ H1=>∀D,H1 D=none->aU J tg.g (cT (none:Option (EX K))) (elt.t E0) own.length is σ D H1 Q):(comp elt tg it own caps is).t E σ H Q:=h
theorem WD {c:Ff K} (h:c.t E σ H λx H1=>D.nx (σ.set n (some x)) H1):(setC n c).t E D σ H:=h
end
noncomputable def FD (K:Fg) (x:Str) (st:Stmt):Prop:=∃(f:Addr) (fd:FuncData),Eo K x x st f fd/\PySem.W.nsIn K mainGlobals x=some (some (.ref f))
theorem Dt {K:Fg} {x:Str} {st:Stmt} {f:Addr} {oc:Value} {od an:Option Addr} {osl:Array (Option Value)} {kV doc pm cdv ct:Value} (a:PySem.W.nsIn K mainGlobals x=some (some (.ref f)))
  (l:K.lookup f=some ⟨oc,od,.func (PySem.W.fnOf x x (cR st) (bE st) (aO st) .none kV doc pm an cdv ct),osl⟩) (c:PySem.W.codeIn K cdv x=true) (k:PySem.W.keepIn K (.ref f)=true):FD K x st:=⟨f,_,XB l c k,a⟩
noncomputable def YQ (K:Fg):List Str->Prop
 |[]=>True
 |x::xs=>PySem.W.nsIn K mainGlobals x=some none/\YQ K xs
theorem all_none {K:Fg} {h:Heap} {mg:Str->Option Value} (X:K.In h) (G:h.Ns mainGlobals mg):∀{xs:List Str},YQ K xs->∀x∈xs,mg x=none
 |[],_,_,hx=>nomatch hx
 |y::ys,z,x,hx=>by
  rcases mem_cons.mp hx with rfl|hx
  ·exact PySem.W.mg_none_of X G z.1
  ·exact all_none X G z.2 x hx
noncomputable def GC (K:Fg) (x:Str) (v:V):Prop:=∃u,PySem.W.nsIn K mainGlobals x=some (some u)/\RelV v u
theorem vX {K:Fg} {h:Heap} {mg:Str->Option Value} {P:Program} {w:World} {base:Heap} {A:Around} {x:Str} {v:V} (X:K.In h) (G:h.Ns mainGlobals mg) (c:GC K x v):En ⟨P,w,K,mg,base,A⟩ x v:=by
 obtain ⟨u,h1,h2⟩:=c;exact ⟨u,PySem.W.mg_of X G h1,h2⟩
theorem WY {K:Fg} {x z:Str} {t:Tok} (h:PySem.W.nsIn K mainGlobals x=some (some (.str z t))):GC K x (.str z):=⟨_,h,t,rfl⟩
theorem WZ {K:Fg} {x:Str} {i:Int} {t:Tok} (h:PySem.W.nsIn K mainGlobals x=some (some (.int i t))):GC K x (.int i):=⟨_,h,t,rfl⟩
section
variable {K:Fg} {P:Program} {w:World} {h base:Heap} {mg:Str->Option Value} {x:Str} {st:Stmt} {N ps:List Str} {k:Nat} {sp:Sp}
theorem Dv (F:FD K x st) (X:K.In h) (G:h.Ns mainGlobals mg) (bl:∀x∈oQ,mg x=none) (b:List (SX K)) (S:fQ N ps (aO st)) (hm:EO b ⟨N,(aO st).names,true⟩ (bE st)=true)
  (hb:∀(kV doc pm:Value) (an:Option Addr) (cdv ct:Value) (us:List Value),us.length=ps.length->bindArgs (PySem.W.fnOf x x (cR st) (bE st) (aO st) .none kV doc pm an cdv ct) ⟨us,[]⟩=pure (ps.zip us))
  (len:∀vs H Q E,sp vs H Q E->vs.length=ps.length) (t:∀vs H Q E,sp vs H Q E->jD b (λ_=>E) {nx:=λ_ H'=>Q .non H',rt:=Q} (start N vs) H) (hq:∀A,dA k A->GU b ⟨P,w,K,mg,base,A⟩):YN P w K mg base (k+1) x sp:=by
 obtain ⟨f,fd,F,a⟩:=F;exact ⟨f,fd,ps,JZ F b S hm bl hq len t,F.binds hb,F.kp,PySem.W.mg_of X G a⟩
end
theorem Jv {Z:List Value->Prop} (h:∀a:Value,Z [a]) (us:List Value) (hl:us.length=1):Z us:=match us,hl with|[_],_=>h _
theorem Ju {Z:List Value->Prop} (h:∀a b:Value,Z [a,b]) (us:List Value) (hl:us.length=2):Z us:=match us,hl with|[_,_],_=>h _ _
theorem Jt {Z:List Value->Prop} (h:∀a b c:Value,Z [a,b,c]) (us:List Value) (hl:us.length=3):Z us:=match us,hl with|[_,_,_],_=>h _ _ _
theorem by4 {Z:List Value->Prop} (h:∀a b c d:Value,Z [a,b,c,d]) (us:List Value) (hl:us.length=4):Z us:=match us,hl with|[_,_,_,_],_=>h _ _ _ _
theorem Js {Z:List Value->Prop} (h:∀a b c d e:Value,Z [a,b,c,d,e]) (us:List Value) (hl:us.length=5):Z us:=match us,hl with|[_,_,_,_,_],_=>h _ _ _ _ _
noncomputable def clsAt (K:Fg) (x:Str):Addr:=match PySem.W.nsIn K mainGlobals x with
 |some (some (.ref C))=>C
 |_=>0
noncomputable abbrev jS:List Value:=[.type "ValueError",.type "Exception",.type "BaseException",.type "object"]
structure YK (K:Fg) (x:Str):Prop where
 at_:PySem.W.nsIn K mainGlobals x=some (some (.ref (clsAt K x)))
 exc:PySem.W.excIn K (clsAt K x) jS "ValueError.__new__"=true
theorem PB {x:Str} {h:Heap} (k:YK K x) (X:K.In h):∃bm N nm q bs hdct sn sub ab col dd k0 k1 k2 k3 k5 mN,h.get? (clsAt K x)=some (excClassObj nm q (clsAt K x) N bs bm hdct sn sub ab col dd k0 k1 k2 k3 k5 "ValueError.__new__")/\h.Ns N mN/\mN "__init__"=none/\OwnTail h jS bm:=by
 have q:=k.exc;generalize clsAt K x=C at q;unfold PySem.W.excIn at q;split at q
 ·rename_i dd cd sl ho;split at q
  ·rename_i C' bm k0 k1 k2 k3 n k5 hm hs;simp only [and_eq_true,beq_iff_eq,not_eq_true'] at q;obtain ⟨⟨⟨⟨⟨rfl,rfl⟩,hdel⟩,ht⟩,hok⟩,hni⟩:=q;obtain ⟨nm,bs,mro,ns,qn,hd,sn,sub,ab,col,del⟩:=cd;obtain ⟨l⟩:=sl;dsimp only at hm hs hdel hok hni;subst hm hdel hs;exact ⟨bm,ns,nm,qn,bs,hd,sn,sub,ab,col,dd,k0,k1,k2,k3,k5,_,X _ _ ho,.of_isNs (PySem.W.isNs_of_in X hok),PySem.W.nsMap_none_of_in X hok hni,PySem.W.tail_of_in X ht⟩
  ·cases q
 ·cases q
noncomputable def raiseO (x:Str) (a:EX K) (as:List (EX K)):SX K where
 t:=λE _ σ H=>fB (a::as) E σ H λvs H1=>vs.length<=sizeLine/\E σ (.ref (clsAt K x)) none H1
 m:=λC s=>match s with
  | .Raise (some (.Call (.Name y _) es [] _)) none _=>(C.cm&&pJ C x y)&&jU (a::as) C es
  |_=>false
 q:=λR=>(R.mg x=some (.ref (clsAt K x))/\YK K x)/\sN (a::as) R
 ok:=λX C E s hK G hE hq hm=>by
  subst hK;split at hm
  ·rename_i y py es p pos;simp only [and_eq_true] at hm;obtain ⟨⟨hcm,h1⟩,h2⟩:=hm;have e:=cE h1;subst e;obtain ⟨g,d⟩:=cD G h1;obtain ⟨⟨hg,ek⟩,hqa⟩:=hq;cases es with
   |nil=>cases h2
   |cons e es=>
    intro pins s σ H D I h;have st:=aZ (env:=X.env) (es:=es) (a.sok C e (aG h2).1);have pl:=bG (env:=X.env) (pos:=p) as es (aG h2).2;obtain ⟨bm,N,nm,q,bs,hdct,sn,sub,ab,col,dd,k0,k1,k2,k3,k5,mN,hC,hN,hni,T⟩:=PB ek I.ok.mod.kin;refine wpAny_Raise_call_subT (C:=clsAt X.K y) (nm:=nm) (q:=q) (N:=N) (bs:=bs) (bm:=bm) (hdct:=hdct) (sn:=sn) (sub:=sub) (ab:=ab) (col:=col) (dd:=dd) (k0:=k0) (k1:=k1) (k2:=k2) (k3:=k3) (k5:=k5)
     PySem.F.excBase_ValueError (mN:=mN) (T.hasType PySem.F.excBase_ValueError.hasBase) (I.ok.hd (G.calm hcm)) (by rw[st];exact pl) hni (jV I g hg ⟨rfl,?_⟩ d)
    have ev:=dU G hE (a::as) (e::es) hqa h2 p pins s σ H _ I h;rw[st] at ev ⊢;refine Calls.evalArgs_plain (wpAny_mono ev (λus s1 z=>?_) λ_ _ z=>z);obtain ⟨vs,H1,I1,r1,ln,w1⟩:=z;refine ⟨rfl,by rw[<-r1.length];exact ln,I1.bk _ _ hC,hN.keeps I1.bk,T.keeps I1.bk,λh' e' mk=>?_⟩;obtain ⟨t,eo,_,_⟩:=mk.there;refine hE.made pins σ H1 H1 s1 {s1 with heap:=h'} e' _ _ I1 rfl I1.bare (Un.kept mk.keeps) (I1.hok.kept mk.keeps) mk.new ?_ eo rfl rfl w1;cases hh:H1 e' with
    |none=>rfl
    |some o=>
     obtain ⟨u,hu⟩:=mP (I1.hok e' o hh);rw[mk.new] at hu;cases hu
  ·cases hm
section
variable {X:Cx} {pins:List (Addr × Obj)} {σ:St} {H1 H':Hp} {s1 s':Shared} {B g:Heap} {e:Addr} {c fl:Value} {dx:Option Addr}
end
section
variable {X:Cx} {pins:List (Addr × Obj)} {σ:St} {H:Hp} {s:Shared} {M:Model} {A:Around} {E:Value->Shared->Prop} {Q:Unit->Shared->Prop}
end
section
variable {X:Cx} {pins pins':List (Addr × Obj)} {σ:St} {H:Hp} {s:Shared} {W:Value->Shared->Prop}
end
open PySem.W
section
variable {prog:Program} {w:World} {A:Around} {E:Value->Shared->Prop} {s:Shared} {K:Frag} {x D:Addr} {ox:Obj} {od:Option Obj} {name:Str}
end
theorem OC {KF:Fg->Prop} {l:PySem.W.OpenLaw} {q:Program} {loose:List Str} {XP:(Str->Option Value)->Heap->Prop} {YP:World->Heap->Prop} {d:DefRec} {K:Params->Fg} {st:Stmt} {N:List Str} {k:Nat} {x:Str} {sp:Fg->Sp} (hn:l.most=some 63) (hdf:d.params.defaults=[]) (hr:dA (k+1) callerA)
  (hY:∀(w:World) (h:Heap),YP w h->(K w.params).In h) (hK:∀w:World,KF (K w.params)) (hd:d.name="law") (b:∀K:Fg,List (SX K)) (S:fQ N [x] (aO st)) (hm:∀K,EO (b K) ⟨N,(aO st).names,true⟩ (bE st)=true)
  (hb:∀(kV doc pm:Value) (an:Option Addr) (cdv ct:Value) (u:Value),bindArgs (PySem.W.fnOf "law" "law" (cR st) (bE st) (aO st) .none kV doc pm an cdv ct) ⟨[u],[]⟩=pure [(x,u)])
  (len:∀K vs H Q E,sp K vs H Q E->vs.length=1) (t:∀K,KF K->∀vs H Q E,sp K vs H Q E->jD (b K) (λ_=>E) {nx:=λ_ H'=>Q .non H',rt:=Q} (start N vs) H)
  (F:∀(w:World) (h:Heap),(K w.params).In h->FD (K w.params) "law" st/\YQ (K w.params) oQ)
  (hq:∀(w:World) (mg:Str->Option Value) (h base:Heap),KF (K w.params)->(K w.params).In h->h.Ns mainGlobals mg->(∀x∈oQ,mg x=none)->∀A,dA k A->GU (b (K w.params)) ⟨l.prog,w,K w.params,mg,base,A⟩)
  (hsp:∀(K:Fg) (H:Hp) (a:Addr) (ns:List Int),KF K->ns.length<=63->aM K H a (ns.map V.int)->sp K [.ref a] H (λv _=>v=.bl true) λ_ _ _=>False):
  PySem.W.WalkO q loose XP YP l.row.toRowW d [] (λf vs=>PySem.call f vs):=by
 refine L2.ME (n:=63) (k:=k+1) (x:=x) (CX:=λw=>xE l.prog w) (sp:=λw=>sp (K w.params)) hn (by decide) hdf hr hY (λw mg fa h KX G hmg=>?_) (λw H a ns hl _ hS=>hsp _ H a ns (hK w) hl hS) λ_ _ _ _ _ z=>xE.no z;obtain ⟨⟨f,fd,Fn,a⟩,bl⟩:=F w h KX;rw[hd] at hmg;have e:=hmg.symm.trans (PySem.W.mg_of KX G a);cases e;refine ⟨fd,λs u=>?_,λbase _ _=>?_⟩
 ·obtain ⟨oc,od,kV,doc,pm,an,cdv,ct,osl,rfl,lk,hcd⟩:=Fn.ex;exact .of_eq (hb kV doc pm an cdv ct u)
 ·exact JZ Fn (b (K w.params)) S (hm _) (all_none KX G bl) (hq w mg h base (hK w) KX G (all_none KX G bl)) (λvs H Q E z=>len _ vs H Q E z) (t _ (hK w))
section
variable {prog:Program} {w:World} {A:Around} {E:Value->Shared->Prop} {h:Heap} {g:Array GenState} {d:Drawn} {t:Nat} {os:OsState}
variable {nm q:Str} {C N:Addr} {bs bm bmB:List Value} {hdct:Bool} {sn:List Str} {sub:List Value} {ab:Bool} {col:Option Bool} {dd:Option Addr} {k0 k1 k2 k3 k5:Option Value} {B newId initId:String}
theorem lS (F:ExcBaseFacts B newId initId bmB) (T:OwnTail h bmB bm) {mN:Str->Option Value} {rest:List Value} {fI:Addr} {oI:Obj} {Q:Fin->Shared->Prop}
  (hC:h.get? C=some (excClassObj nm q C N bs bm hdct sn sub ab col dd k0 k1 k2 k3 k5 newId)) (hn:h.Ns N mN) (hi:mN "__init__"=some (.ref fI)) (hfI:h.get? fI=some oI) (hfc:oI.cls=.type "function")
  (hq:∀h' e,Heap.MadeExcOf h h' e (.ref C) rest->wpAny (model prog w) A (PySem.call (.ref fI) (.ref e::rest)) (λr s'=>r=.none/\Q (.done (.ret (.ref e))) s') E ⟨h',g,d,t,os⟩) (hrest:rest.length<=sizeLine):
  wpAny (model prog w) A (Builtin.«type.__call__» ⟨.ref C::rest,[]⟩) Q E ⟨h,g,d,t,os⟩:=by
 repeat (first|with_reducible refine wpAny_loadPart_at hC ?_|with_reducible refine wpAny_madeBy_exc hC ?_|wp_step)
 refine codeAny_call_builtin_code (Code.quiet_builtin _ F.quiet) (wpAny_check_new_subT F T hC ?_);refine codeAny_exc_new_subT F T hC ?_ hrest;show wpAny _ _ _ _ _ _;have kp:∀b o,h.get? b=some o->((h.push {cls:=.type "tuple",data:=.seq rest.toArray}).push {cls:=.ref C,data:=.fields #[.ref h.objs.size,.none,.none,.none,.bool false,.none]}).get? b=some o:=λb o e=>get?_push_of_some _ (get?_push_of_some _ e);have hget:((h.push {cls:=.type "tuple",data:=.seq rest.toArray}).push {cls:=.ref C,data:=.fields #[.ref h.objs.size,.none,.none,.none,.bool false,.none]}).get? (h.objs.size+1)=some ({cls:=.ref C,data:=.fields #[.ref h.objs.size,.none,.none,.none,.bool false,.none]}:Obj):=by heap_get
 have hcC:(Value.ref C::bm).contains (.ref C)=true:=by simp
 have ay:=kp _ _ hC;unfold isInstance
 repeat (first|with_reducible refine wpAny_loadPart_at hget ?_|(with_reducible refine wpAny_isSubtype_exc ay ?_;rw[hcC])|wp_step)
 show wpAny _ _ (typeLookup (.ref C) _) _ _ _;refine wpAny_typeLookup_tail ay (hn.keeps kp) (T.keeps kp) F.mroIs F.init.lookup ?_;rw[hi];refine wpAny_holding (wpAny_bind ?_);unfold bindSpecial;refine wpAny_bind (wpAny_typeOf (T:="function") ⟨_,kp _ _ hfI,hfc⟩ ?_);rw[if_pos (by decide)];refine wpAny_pure (wpAny_bind (wpAny_mono (hq _ (h.objs.size+1) ⟨kp,Heap.get?_none_of_le (le_succ _),h.objs.size,hget,Heap.get?_none_of_le (Nat.le_refl _),?_⟩) (λr s' hr=>?_) λ_ _ x=>x))
 ·exact get?_push_of_some _ (Heap.get?_push_at rfl rfl)
 ·obtain ⟨rfl,hQ⟩:=hr
  wp_walk
  exact hQ
theorem zJ (F:ExcBaseFacts B newId initId bmB) (T:OwnTail h bmB bm) {mN:Str->Option Value} {rest:List Value} {fI:Addr} {oI:Obj} {Q:Value->Shared->Prop}
  (hC:h.get? C=some (excClassObj nm q C N bs bm hdct sn sub ab col dd k0 k1 k2 k3 k5 newId)) (hn:h.Ns N mN) (hi:mN "__init__"=some (.ref fI)) (hfI:h.get? fI=some oI) (hfc:oI.cls=.type "function")
  (hq:∀h' e,Heap.MadeExcOf h h' e (.ref C) rest->
   wpAny (model prog w) (A.under (.builtin "type.__call__" ⟨.ref C::rest,[]⟩)) (PySem.call (.ref fI) (.ref e::rest)) (λr s'=>r=.none/\Q (.ref e) s') E ⟨h',g,d,t,os⟩) (hrest:rest.length<=sizeLine):
  wpAny (model prog w) A (PySem.call (.ref C) rest) Q E ⟨h,g,d,t,os⟩:=by
 have f1:=tc_lookup;have f2:=tc_bind (.ref C);have hT:(⟨h,g,d,t,os⟩:Shared).TypeIs (.ref C) "type":=⟨_,hC,rfl⟩;refine wpAny_call (codeAny_of_tree ?_);show wpAny _ _ (callAny (.ref C) _) _ _ _
 repeat (any_goals (first|assumption|with_reducible refine wpAny_loadPart_at hC ?_|wp_step))
 refine ⟨rfl,?_⟩;refine codeAny_call_builtin_at (Code.quiet_builtin _ (by decide+kernel)) entry_typeCall (wpAny_check_type_call_sub hC (lS (hrest:=hrest) F T hC hn hi hfI hfc λh' e hm=>?_));exact hq h' e hm
end
section
variable {prog:Program} {w:World} {A:Around} {E:Value->Shared->Prop} {s:Shared} {env:Env}
variable {nm q:Str} {C N:Addr} {bs bm bmB:List Value} {hdct:Bool} {sn:List Str} {sub:List Value} {ab:Bool} {col:Option Bool} {dd:Option Addr} {k0 k1 k2 k3 k5:Option Value} {B newId initId:String}
theorem dO {M:Model} {A:Around} {E:Value->Shared->Prop} {x:Sem Value} {Q:Flow->Shared->Prop} (hbase:bm.contains (.type "BaseException")=true) (hh:A.handled=none)
  (h:wpAny M A x (λv aa=>∃e oe,v=.ref e/\aa.heap.get? C=some (excClassObj nm q C N bs bm hdct sn sub ab col dd k0 k1 k2 k3 k5 newId)/\aa.heap.get? e=some oe/\oe.cls=.ref C/\(∃vs,oe.data=.fields vs/\vs[1]?=some .none)/\E (.ref e) aa) E s):
  wpAny M A (raiseStmt env (some x) none) Q E s:=by
 have hcB:(Value.ref C::bm).contains (.type "BaseException")=true:=by rw[List.contains_cons,hbase,Bool.or_true]
 unfold raiseStmt;refine wpAny_bind (wpAny_mono h (λv aa ae=>?_) λ_ _ x=>x);obtain ⟨e,⟨oc,od,odt,osl⟩,rfl,hC,he,hc,⟨vs,hv,v1⟩,hE⟩:=ae;dsimp only at hc hv;subst hc hv;obtain ⟨hp,g,d,tk,os⟩:=aa
 repeat (first|with_reducible refine wpAny_loadPart_at he ?_|with_reducible refine wpAny_loadPart_at hC ?_|(with_reducible refine wpAny_isSubtype_exc hC ?_;rw[hcB])|wp_step)
 rw[v1];refine wpAny_pure ?_;rw[if_neg (show ¬((Value.none != Value.none)=true) by decide)];exact wpAny_pure (wpAny_raiseNew_none hh hE)
theorem uY (F:ExcBaseFacts B newId initId bmB) {mN:Str->Option Value} {x:Str} {np cpos pos:Pos} {args:List Expr} {Q:Flow->Shared->Prop} {fI:Addr}
  (hbase:bm.contains (.type "BaseException")=true) (hh:A.handled=none) (hplain:(backTo cpos (starEach args env)).any (·.1)=false) (hi:mN "__init__"=some (.ref fI))
  (h:wpAny (model prog w) A (eval (.Name x np) env) (λf aa=>f=.ref C/\wpAny (model prog w) A (evalArgs (.ref C) true (backTo cpos (starEach args env)) [])
   (λa ah=>a.kw=[]/\a.pos.length<=sizeLine/\ah.heap.get? C=some (excClassObj nm q C N bs bm hdct sn sub ab col dd k0 k1 k2 k3 k5 newId)/\ah.heap.Ns N mN/\OwnTail ah.heap bmB bm/\(∃oI,ah.heap.get? fI=some oI/\oI.cls=.type "function")/\
    ∀h' e,Heap.MadeExcOf ah.heap h' e (.ref C) a.pos->wpAny (model prog w) (A.under (.builtin "type.__call__" ⟨.ref C::a.pos,[]⟩)) (PySem.call (.ref fI) (.ref e::a.pos)) (λr s'=>r=.none/\s'.heap.get? C=some (excClassObj nm q C N bs bm hdct sn sub ab col dd k0 k1 k2 k3 k5 newId)/\
     (∃oe vs,s'.heap.get? e=some oe/\oe.cls=.ref C/\oe.data=.fields vs/\vs[1]?=some .none)/\E (.ref e) s') E {ah with heap:=h'}) E aa) E s):
  wpAny (model prog w) A (exec (.Raise (some (.Call (.Name x np) args [] cpos)) none pos) env) Q E s:=by
 rw[arm_exec_Raise]
 first
  |refine wpAny_bind (wpAny_standAt (dO (C:=C) (nm:=nm) (q:=q) (N:=N) (bs:=bs) (bm:=bm) (hdct:=hdct) (sn:=sn) (sub:=sub) (ab:=ab) (col:=col) (dd:=dd) (k0:=k0) (k1:=k1) (k2:=k2) (k3:=k3) (k5:=k5) (newId:=newId) hbase hh (wpAny_bind (wpAny_mono (wpAny_Call_ofName (wpAny_mono h (λf aa ae=>?_) λ_ _ x=>x)) (λv ar ai=>wpAny_bind (wpAny_standAt (wpAny_pure ai))) λ_ _ x=>x))))
  | (simp only [evalOpt,Option.map];refine wpAny_bind (wpAny_standAt (dO (C:=C) (nm:=nm) (q:=q) (N:=N) (bs:=bs) (bm:=bm) (hdct:=hdct) (sn:=sn) (sub:=sub) (ab:=ab) (col:=col) (dd:=dd) (k0:=k0) (k1:=k1) (k2:=k2) (k3:=k3) (k5:=k5) (newId:=newId) hbase hh (wpAny_bind (wpAny_mono (wpAny_Call_ofName (wpAny_mono h (λf aa ae=>?_) λ_ _ x=>x)) (λv ar ai=>wpAny_bind (wpAny_standAt (wpAny_pure ai))) λ_ _ x=>x)))))
  | (refine wpAny_bind (wpAny_standAt (dO (C:=C) (nm:=nm) (q:=q) (N:=N) (bs:=bs) (bm:=bm) (hdct:=hdct) (sn:=sn) (sub:=sub) (ab:=ab) (col:=col) (dd:=dd) (k0:=k0) (k1:=k1) (k2:=k2) (k3:=k3) (k5:=k5) (newId:=newId) hbase hh ?_));refine wpAny_bind (wpAny_mono (wpAny_Call_ofName (wpAny_mono h (λf aa ae=>?_) λ_ _ x=>x)) (λv ar ai=>wpAny_bind (wpAny_standAt (wpAny_pure ai))) λ_ _ x=>x))
 obtain ⟨rfl,ae⟩:=ae;unfold callWith;refine wpAny_bind (wpAny_holding (wpAny_mono ae (λa ah aj=>wpAny_bind (wpAny_standAt ?_)) λ_ _ x=>x));obtain ⟨apos,akw⟩:=a;obtain ⟨hkw,hlen,hC,hn,T,⟨oI,hfI,hfc⟩,aj⟩:=aj;obtain rfl:akw=[]:=hkw;obtain ⟨hp,g,d,tk,os⟩:=ah;simp only [hplain];refine wpAny_bind (wpAny_keeperOf_exc hC ?_);refine wpAny_bind (zJ (hrest:=hlen) F T hC hn hi hfI hfc λh' e hm=>wpAny_mono (aj h' e hm) (λr s' z=>⟨z.1,wpAny_bind (wpAny_holding (wpAny_point (wpAny_pure ?_)))⟩) λ_ _ z=>z);obtain ⟨_,z1,⟨oe,vs,z2,z3,z4,z6⟩,z5⟩:=z;exact ⟨e,oe,rfl,z1,z2,z3,⟨vs,z4,z6⟩,z5⟩
end
open Builtin Builtin.ObjectAttr
section
variable {prog:Program} {w:World} {A:Around} {E:Value->Shared->Prop} {h:Heap} {g:Array GenState} {d:Drawn} {t:Nat} {os:OsState} {K:Fg}
variable {nm q:Str} {C N e:Addr} {bs bm:List Value} {sn:List Str} {sub:List Value} {ab:Bool} {col:Option Bool} {dd:Option Addr} {k0 k1 k2 k3 k5:Option Value} {newId:String} {fld:Str} {v:Value} {oe:Obj}
theorem uW (self:Value) {tl:List Value} (T:OwnTail h jS tl):refuseLoop self "__setattr__" tl=pure ():=by
 induction T with
 |base=>exact F.store_ValueError.passes self
 |own _ _ _ _ ih=>rw[refuseLoop_ref];exact ih
theorem AQ {M:Model} {c:Value} {n:Str} {r:Option Value} {Q:Option Value->Shared->Prop} (X:K.In h) (e:PySem.W.findIn K c n=some r) (hq:Q r ⟨h,g,d,t,os⟩):wpAny M A (typeLookup c n) Q E ⟨h,g,d,t,os⟩:=
 PySem.W.looks_findIn X e _ _ _ _ (λ_ _ z=>z) hq
theorem ED {M:Model} {nameV:Value} {Q:Unit->Shared->Prop} (hC:h.get? C=some (excClassObj nm q C N bs bm true sn sub ab col dd k0 k1 k2 k3 k5 newId)) (T:OwnTail h jS bm)
  (he:h.get? e=some oe) (hc:oe.cls=.ref C) (hq:Q () ⟨h,g,d,t,os⟩):wpAny M A (checkBuiltinCall "object.__setattr__" ⟨[.ref e,nameV,v],[]⟩) Q E ⟨h,g,d,t,os⟩:=by
 have SF:=F.store_ValueError;have hcB:(Value.ref C::bm).contains (.type "object")=true:=by rw[List.contains_cons,T.hasType SF.hasOwner,Bool.or_true]
 have ha:=SF.args (.ref e) nameV v;simp only [checkBuiltinCall,SF.kind,SF.split];refine wpAny_bind ?_;unfold isInstance
 repeat (first|(with_reducible refine wpAny_loadPart_at he ?_;rw[hc])|(with_reducible refine wpAny_isSubtype_exc hC ?_;rw[hcB])|wp_step)
 first
  |exact hq
  |cases hsig:Manifest.signature? "object.__setattr__" with
   |none=>exact wpAny_pure hq
   |some sig=>
    simp only [argsOk,hsig] at ha;have h2:Bind.checkArgs "object.__setattr__" sig ⟨[.ref e,nameV,v],[]⟩=pure ():=ha;show wpAny M A (Bind.checkArgs "object.__setattr__" sig ⟨[.ref e,nameV,v],[]⟩) Q E _;rw[h2];exact wpAny_pure hq
theorem DR {tk:Tok} {Q:PySem.Fin->Shared->Prop} (X:K.In h) (hC:h.get? C=some (excClassObj nm q C N bs bm true sn sub ab col dd k0 k1 k2 k3 k5 newId)) (T:OwnTail h jS bm)
  (hfl:PySem.W.findIn K (.ref C) fld=some none) (he:h.get? e=some oe) (hc:oe.cls=.ref C) (hdn:oe.dict=none) (hnc:∀c,oe.data≠.cls c)
  (hq:∀h' tk' dx,(∀b o,b≠e->h.get? b=some o->h'.get? b=some o)->h.get? dx=none->dx≠e->h'.get? e=some {cls:=oe.cls,dict:=some dx,data:=oe.data,slots:=oe.slots}->
   h'.Ns1 dx (λy=>if y=fld then some v else none)->Q (.done (.ret .none)) ⟨h',g,d,tk',os⟩):
  wpAny (model prog w) A (Builtin.«object.__setattr__» ⟨[.ref e,.str fld tk,v],[]⟩) Q E ⟨h,g,d,t,os⟩:=by
 have hpass:=uW (.ref e) T;unfold Builtin.«object.__setattr__»
 repeat (first|rw[refuse_eq]|(rw[refuseLoop_ref,hpass])|(with_reducible refine wpAny_loadPart_at he ?_;rw[hc])|with_reducible refine wpAny_mroOf_exc hC ?_|(with_reducible refine AQ X hfl ?_)|wp_step)
 rw[hdn,if_neg (by simp [typeHasDict])];split
 ·rename_i hcd;cases hcd
 split
 ·rename_i c hcd;exact absurd hcd (hnc c)
 ·have aq:(h.push {cls:=.type "dict",data:=.dict #[]}).get? e=some oe:=get?_push_of_some _ he;have hxs:e≠h.objs.size:=ne_of_lt (lt_size he);refine wpAny_bind (wpAny_alloc' ?_);refine wpAny_bind (wpAny_update' aq ?_);refine wpAny_pure ?_;have hgd:((h.push {cls:=.type "dict",data:=.dict #[]}).update e λo=>{cls:=o.cls,dict:=some h.objs.size,data:=o.data,slots:=o.slots}).get? h.objs.size
    =some ({cls:=.type "dict",data:=.dict #[]}:Obj):=(Heap.get?_update_ne _ _ _ _ hxs.symm).trans (Heap.get?_push_at rfl rfl)
  have hnd:((h.push {cls:=.type "dict",data:=.dict #[]}).update e λo=>{cls:=o.cls,dict:=some h.objs.size,data:=o.data,slots:=o.slots}).Ns h.objs.size (λ_=>none):=
   ⟨_,#[],_,hgd,rfl,λe he=>absurd he (by simp),λ_=>rfl⟩
  show wpAny _ _ (storeInDict h.objs.size (.str fld tk) fld v) _ _ _;unfold storeInDict newKeyGuard;refine wpAny_bind (wpAny_pure (wpAny_bind (wpAny_nsSet1 (Heap.Ns1.of_empty hnd) λh' hn' hs=>?_)));obtain ⟨oD,esD,epD,hoD,hdD,hcD⟩:=hn'.count (Within.cons fld v Within.nil);refine wpAny_bind (wpAny_lookBehind hoD (by rw[hdD];exact pastItsLine_dict (Nat.le_trans hcD (by rw[length_cons,length_nil,sizeLine_eq];lia))) ?_)
  wp_walk
  refine hq h' _ h.objs.size (λb ob hbx hb=>?_) (Heap.get?_none_of_le (Nat.le_refl _)) hxs.symm ?_ hn'
  ·exact (hs.2 b (ne_of_lt (lt_size hb))).trans ((Heap.get?_update_ne _ _ _ _ hbx).trans (get?_push_of_some _ hb))
  ·refine (hs.2 e hxs).trans (get?_update_self _ aq ?_);have hfr:=(Heap.get?_some_iff.mp he).2;obtain ⟨oc,od,odt,osl⟩:=oe;cases odt<;>first|rfl|exact hfr
theorem CJ {Q:Unit->Shared->Prop} (X:K.In h) (hC:h.get? C=some (excClassObj nm q C N bs bm true sn sub ab col dd k0 k1 k2 k3 k5 newId)) (T:OwnTail h jS bm)
  (hsa:PySem.W.findIn K (.ref C) "__setattr__"=some (some (.builtin "object.__setattr__"))) (hfl:PySem.W.findIn K (.ref C) fld=some none)
  (he:h.get? e=some oe) (hc:oe.cls=.ref C) (hdn:oe.dict=none) (hnc:∀c,oe.data≠.cls c)
  (hq:∀h' tk' dx,(∀b o,b≠e->h.get? b=some o->h'.get? b=some o)->h.get? dx=none->dx≠e->h'.get? e=some {cls:=oe.cls,dict:=some dx,data:=oe.data,slots:=oe.slots}->
   h'.Ns1 dx (λy=>if y=fld then some v else none)->Q () ⟨h',g,d,tk',os⟩):
  wpAny (model prog w) A (setAttr (.ref e) fld v) Q E ⟨h,g,d,t,os⟩:=by
 have SF:=F.store_ValueError;have f3:=SF.slot.bind (.ref e);unfold setAttr callSpecial? specialOf
 repeat (any_goals (first|assumption|(with_reducible refine wpAny_loadPart_at he ?_;rw[hc])|(with_reducible refine AQ X hsa ?_)|wp_step))
 refine codeAny_call_builtin SF.slot.plain SF.entry (ED hC T he hc (DR X hC T hfl he hc hdn hnc λh' tk' dx q1 q2 q3 q4 q5=>?_))
 repeat (any_goals (first|assumption|wp_step))
 exact hq h' tk' dx q1 q2 q3 q4 q5
end
noncomputable def LR (K:Fg) (f:Addr) (slf prm fld:Str):Prop:=
 ∃(name qual:Str) (params:Arguments) (scope:Scope) (dV kV doc pm cdv ct:Value) (an od:Option Addr) (osl:Array (Option Value)) (p1 p2 p3 p4:Pos),
  K.lookup f=some ⟨.type "function",od,.func (PySem.W.fnOf name qual params [.Assign [.Attribute (.Name slf p1) fld p2] (.Name prm p3) p4] scope dV kV doc pm an cdv ct),osl⟩/\PySem.W.codeIn K cdv qual=true/\
  (scope.kind=.function/\scope.isCoroutine=false/\scope.isGenerator=false)/\(scope.names.lookup slf=some .local/\scope.names.lookup prm=some .local)/\((slf==("__debug__":Str))=false/\(prm==("__debug__":Str))=false/\slf≠prm)/\
  ∀(s:Shared) (u v:Value),K.In s.heap->PySem.BindsTo s (PySem.W.fnOf name qual params [.Assign [.Attribute (.Name slf p1) fld p2] (.Name prm p3) p4] scope dV kV doc pm an cdv ct) ⟨[u,v],[]⟩ [(slf,u),(prm,v)]
section
variable {prog:Program} {w:World} {A:Around} {E:Value->Shared->Prop} {s:Shared} {K:Fg}
variable {nm q:Str} {C N e f:Addr} {bs bm:List Value} {sn:List Str} {sub:List Value} {ab:Bool} {col:Option Bool} {dd:Option Addr} {k0 k1 k2 k3 k5:Option Value} {newId:String} {slf prm fld:Str} {v:Value} {oe:Obj}
theorem IU {Q:Value->Shared->Prop} (X:K.In s.heap) (I:LR K f slf prm fld) (hlim:s.heap.NoLimit) (hroom:A.depth<recursionLimit)
  (hC:s.heap.get? C=some (excClassObj nm q C N bs bm true sn sub ab col dd k0 k1 k2 k3 k5 newId)) (T:OwnTail s.heap jS bm)
  (hsa:PySem.W.findIn K (.ref C) "__setattr__"=some (some (.builtin "object.__setattr__"))) (hfl:PySem.W.findIn K (.ref C) fld=some none)
  (he:s.heap.get? e=some oe) (hc:oe.cls=.ref C) (hdn:oe.dict=none) (hnc:∀c,oe.data≠.cls c)
  (hq:∀h' tk' dx,(∀b o,b≠e->s.heap.get? b=some o->h'.get? b=some o)->s.heap.get? dx=none->dx≠e->h'.get? e=some {cls:=oe.cls,dict:=some dx,data:=oe.data,slots:=oe.slots}->
   h'.Ns1 dx (λy=>if y=fld then some v else none)->Q .none {s with heap:=h',toks:=tk'}):
  wpAny (model prog w) A (PySem.call (.ref f) [.ref e,v]) Q E s:=by
 obtain ⟨name,qual,params,scope,dV,kV,doc,pm,cdv,ct,an,od,osl,p1,p2,p3,p4,ho,hcd,⟨hk,hco,hgen⟩,⟨l1,l2⟩,⟨d1,d2,ne⟩,hb⟩:=I;refine wpAny_call (Att.PR X hlim ho hcd hroom (hb s (.ref e) v X) ?_ (λaa x=>?_) hco hgen hk)
 ·simp [l1,l2]
 have k1:(envOfC qual scope s.heap.objs.size f cdv).kindOf slf=some .local:=l1;have k2:(envOfC qual scope s.heap.objs.size f cdv).kindOf prm=some .local:=l2;have m1:bindL (envOfC qual scope s.heap.objs.size f cdv).kindOf [(slf,.ref e),(prm,v)] (λ_=>none) slf=some (.ref e):=by simp [bindL,k1,k2,ne]
 have m2:bindL (envOfC qual scope s.heap.objs.size f cdv).kindOf [(slf,.ref e),(prm,v)] (λ_=>none) prm=some v:=by simp [bindL,k1,k2]
 refine wpAny_execs_cons (plainObj_wpAny_Assign_Attribute (NameLC (s₀:=s) (env:=envOfC qual scope s.heap.objs.size f cdv) x hk k2 m2 (NameLC (s₀:=s) (env:=envOfC qual scope s.heap.objs.size f cdv) x hk k1 m1 ?_ d1) d2) rfl);obtain ⟨ae,tk,rfl,kp⟩:=x.done;have kp':∀b o,s.heap.get? b=some o->ae.get? b=some o:=kp;obtain ⟨h0,g,dr,t0,os⟩:=s;refine CJ (X.keeps kp') (kp' _ _ hC) (T.keeps kp') hsa hfl (kp' _ _ he) hc hdn hnc λh' tk' dx q1 q2 q3 q4 q5=>wpAny_execs_nil ?_;exact hq h' tk' dx (λb o hb eo=>q1 b o hb (kp' b o eo)) (by
  cases z:h0.get? dx with
  |none=>rfl
  |some o=>rw[kp' _ _ z] at q2;cases q2) q3 q4 q5
end
noncomputable def XE (K:Fg) (C f:Addr):Bool:=match K.lookup C with
 |some ⟨.type "type",_,.cls cd,sl⟩=>(match cd.mro,sl.toList with
  | .ref C'::bm,[_,_,_,_,some (.builtin n),_]=>C'==C&&n=="ValueError.__new__"&&!cd.hasDel&&PySem.W.tailIn K jS bm&&PySem.W.nsOkIn K cd.ns&&(PySem.W.nsIn K cd.ns "__init__"==some (some (.ref f))&&cd.hasDict)
  |_,_=>false)
 |_=>false
noncomputable def vQ (K:Fg) (x:Str):Addr:=match PySem.W.findIn K (.ref (clsAt K x)) "__init__" with
 |some (some (.ref f))=>f
 |_=>0
structure YJ (K:Fg) (x slf prm fld:Str):Prop where
 at_:PySem.W.nsIn K mainGlobals x=some (some (.ref (clsAt K x)))
 exc:XE K (clsAt K x) (vQ K x)=true
 sa:PySem.W.findIn K (.ref (clsAt K x)) "__setattr__"=some (some (.builtin "object.__setattr__"))
 fl:PySem.W.findIn K (.ref (clsAt K x)) fld=some none
 fn:LR K (vQ K x) slf prm fld
theorem yM {h:Heap} {N:Addr} {mg:Str->Option Value} {n:Str} {v:Value} (X:K.In h) (G:h.Ns N mg) (e:PySem.W.nsIn K N n=some (some v)):mg n=some v:=by
 obtain ⟨o,es,ep,ho,hd,_,hf⟩:=G;unfold PySem.W.nsIn at e;split at e
 ·rename_i c d es' n' sl q;have z:=X _ _ q;rw[ho] at z;cases z;cases hd;split at e
  ·rename_i en he;cases e;rw[<-hf];unfold nsFind findBy;rw[<-Array.find?_toList,he];rfl
  ·split at e<;>cases e
 ·cases e
theorem OL {C f:Addr} {h:Heap} (q:XE K C f=true) (X:K.In h):∃bm N nm q bs sn sub ab col dd k0 k1 k2 k3 k5 mN,h.get? C=some (excClassObj nm q C N bs bm true sn sub ab col dd k0 k1 k2 k3 k5 "ValueError.__new__")/\h.Ns N mN/\mN "__init__"=some (.ref f)/\OwnTail h jS bm:=by
 unfold XE at q;split at q
 ·rename_i dd cd sl ho;split at q
  ·rename_i C' bm k0 k1 k2 k3 n k5 hm hs;simp only [and_eq_true,beq_iff_eq,not_eq_true'] at q;obtain ⟨⟨⟨⟨⟨rfl,rfl⟩,hdel⟩,ht⟩,hok⟩,hni,hhd⟩:=q;obtain ⟨nm,bs,mro,ns,qn,hd,sn,sub,ab,col,del⟩:=cd;obtain ⟨l⟩:=sl;dsimp only at hm hs hdel hok hni hhd;subst hm hdel hs hhd;exact ⟨bm,ns,nm,qn,bs,sn,sub,ab,col,dd,k0,k1,k2,k3,k5,_,X _ _ ho,.of_isNs (PySem.W.isNs_of_in X hok),yM X (.of_isNs (PySem.W.isNs_of_in X hok)) hni,PySem.W.tail_of_in X ht⟩
  ·cases q
 ·cases q
theorem Un.laid' {fs ex:List Addr} {H:Hp} {h h':Heap} {a:Addr} {o:HO} (k:∀b u,h.get? b=some u->h'.get? b=some u) (hp:h.get? a=none) (hn:H a=none):Un fs ex H (upd H a o) h h' where
 keep:=λb u q _ _ _=>k b u q
 slot:=λb u q _ _ _=>⟨u.slots,k b u q⟩
 free:=λb u q n _=>by rw[aF (λz=>by rw[z,hp] at q;cases q)];exact n
 there:=λb u q _=>⟨u,k b u q⟩
 tups:=λb xs q=>by rw[aF (aB q hn)];exact q
 frzs:=λb u xs q=>by rw[aF (aB q hn)];exact q
 tbls:=λb ps q=>⟨#[],by rw[aF (aB q hn),q];simp⟩
theorem dY.none_of {P:Program} {w:World} {H:Hp} {h:Heap} {a:Addr} (x:dY P w H h) (e:h.get? a=none):H a=none:=by
 cases q:H a with
 |none=>rfl
 |some o=>
  obtain ⟨u,hu⟩:=mP (x a o q);rw[e] at hu;cases hu
theorem dY.laid' {P:Program} {w:World} {H:Hp} {h h':Heap} {a:Addr} {o:HO} (x:dY P w H h) (k:∀b u,h.get? b=some u->h'.get? b=some u) (hn:H a=none) (new:aY P w (upd H a o) h' a o):dY P w (upd H a o) h':=λb u e=>by
 by_cases hb:b=a
 ·subst hb;rw[aA] at e;cases e;exact new
 ·rw[aF hb] at e;exact (x b u e).stay (λc v _ q=>k c v q) (λc q=>by rw[aF (aB q hn)];exact q) λc xs q=>by rw[aF (aB q hn)];exact q
noncomputable def one (P:V->Hp->Prop):List V->Hp->Prop
 |[v],H=>P v H
 |_,_=>False
theorem VB {P:V->Hp->Prop} {vs:List V} {H:Hp} (h:one P vs H):∃v,vs=[v]/\P v H:=by
 cases vs with
 |nil=>exact h.elim
 |cons x xs=>
  cases xs with
  |nil=>exact ⟨x,rfl,h⟩
  |cons _ _=>exact h.elim
noncomputable def yE (x slf prm fld:Str) (a:EX K):SX K where
 t:=λE _ σ H=>a.t E σ H λv H1=>∀dx,H1 dx=none->E σ (.ref (clsAt K x)) (some dx) (upd H1 dx (.xd [(fld,v)]))
 m:=λC s=>match s with
  | .Raise (some (.Call (.Name y _) es [] _)) none _=>(C.cm&&pJ C x y)&&jU [a] C es
  |_=>false
 q:=λR=>(R.mg x=some (.ref (clsAt K x))/\YJ K x slf prm fld/\∃k,dA k R.A)/\a.q R
 ok:=λX C E s hK G hE hq hm=>by
  subst hK;split at hm
  ·rename_i y py es p pos;simp only [and_eq_true] at hm;obtain ⟨⟨hcm,h1⟩,h2⟩:=hm;have e:=cE h1;subst e;obtain ⟨g,d⟩:=cD G h1;obtain ⟨⟨hg,ek,kk,rm⟩,hqa⟩:=hq;cases es with
   |nil=>cases h2
   |cons e es=>
    intro pins s σ H D I h;have st:=aZ (env:=X.env) (es:=es) (a.sok C e (aG h2).1);have pl:=bG (env:=X.env) (pos:=p) [] es (aG h2).2;obtain ⟨bm,N,nm,q,bs,sn,sub,ab,col,dd,k0,k1,k2,k3,k5,mN,hC,hN,hi,T⟩:=OL ek.exc I.ok.mod.kin;refine uY (C:=clsAt X.K y) (nm:=nm) (q:=q) (N:=N) (bs:=bs) (bm:=bm) (hdct:=true) (sn:=sn) (sub:=sub) (ab:=ab) (col:=col) (dd:=dd) (k0:=k0) (k1:=k1) (k2:=k2) (k3:=k3) (k5:=k5)
     PySem.F.excBase_ValueError (mN:=mN) (T.hasType PySem.F.excBase_ValueError.hasBase) (I.ok.hd (G.calm hcm)) (by rw[st];exact pl) hi (jV I g hg ⟨rfl,?_⟩ d)
    have ev:=dU G hE [a] (e::es) (show sN [a] (dC X) from ⟨hqa,trivial⟩) h2 p pins s σ H (one λv H1=>∀dx,H1 dx=none->E σ (.ref (clsAt X.K y)) (some dx) (upd H1 dx (.xd [(fld,v)]))) I h;rw[st] at ev ⊢;refine Calls.evalArgs_plain (wpAny_mono ev (λus s1 z=>?_) λ_ _ z=>z);obtain ⟨vs,H1,I1,r1,w1⟩:=z;obtain ⟨v,rfl,w1⟩:=VB w1;obtain ⟨u,rfl,r2⟩:=r1.one;obtain ⟨name,qual,params,scope,dV,kV,doc,pm,cdv,ct,an,od,osl,p1,p2,p3,p4,ho,_⟩:=ek.fn;refine ⟨rfl,by simp [sizeLine_eq],I1.bk _ _ hC,hN.keeps I1.bk,T.keeps I1.bk,⟨_,I1.kIn _ _ ho,rfl⟩,λh' e' mk=>?_⟩;obtain ⟨t,eo,_,_⟩:=mk.there;have kp:∀b o,s1.heap.get? b=some o->h'.get? b=some o:=mk.keeps;refine IU (s:={s1 with heap:=h'}) (I1.kIn.keeps kp) ek.fn (I1.nolimit.keeps kp) ?_ (kp _ _ (I1.bk _ _ hC)) ((T.keeps I1.bk).keeps kp) ek.sa ek.fl eo rfl rfl (λc z=>by cases z) λh2 tk dx q1 q2 q3 q4 q5=>?_
    ·rw[yR];have z:X.A.depth+3 * kk+5<recursionLimit:=rm.dp;lia
    have q1':∀b o,s1.heap.get? b=some o->h2.get? b=some o:=λb o z=>q1 b o (λy=>by rw[y,mk.new] at z;cases z) (kp b o z);have n1:s1.heap.get? dx=none:=by
     cases z:s1.heap.get? dx with
     |none=>rfl
     |some o=>rw[kp _ _ z] at q2;cases q2
    have n2:=dY.none_of I1.hok n1;refine ⟨rfl,q1' _ _ (I1.bk _ _ hC),⟨_,_,q4,rfl,rfl,rfl⟩,?_⟩;refine hE.made pins σ H1 _ s1 {s1 with heap:=h2,toks:=tk} e' _ _ I1 rfl I1.bare (Un.laid' q1' n1 n2) (dY.laid' I1.hok q1' n2 ?_) mk.new ?_ q4 rfl rfl (w1 dx n2)
    ·refine ⟨_,q5,λf=>?_⟩;by_cases hf:f=fld
     ·subst hf;simp [iX];exact r2
     ·have hb:(f==fld)=false:=beq_eq_false_iff_ne.mpr hf;simp [hb,hf,iX,List.lookup]
    ·rw[aF q3.symm];exact dY.none_of I1.hok mk.new
  ·cases hm
section
variable {K:Fg} {X:Cx} {pins:List (Addr × Obj)} {σ:St} {H:Hp} {s:Shared}
theorem VW {x slf prm fld name qual:Str} {C f:Addr} {params:Arguments} {scope:Scope} {dV kV doc pm cdv ct:Value} {an od:Option Addr} {osl:Array (Option Value)} {p1 p2 p3 p4:Pos}
  (h1:PySem.W.nsIn K mainGlobals x=some (some (.ref C))) (h2:PySem.W.findIn K (.ref C) "__init__"=some (some (.ref f)))
  (l:K.lookup f=some ⟨.type "function",od,.func (PySem.W.fnOf name qual params [.Assign [.Attribute (.Name slf p1) fld p2] (.Name prm p3) p4] scope dV kV doc pm an cdv ct),osl⟩) (c:PySem.W.codeIn K cdv qual=true)
  (s:scope.kind=.function/\scope.isCoroutine=false/\scope.isGenerator=false) (n:scope.names.lookup slf=some .local/\scope.names.lookup prm=some .local) (d:(slf==("__debug__":Str))=false/\(prm==("__debug__":Str))=false/\slf≠prm)
  (b:∀(s:Shared) (u v:Value),K.In s.heap->PySem.BindsTo s (PySem.W.fnOf name qual params [.Assign [.Attribute (.Name slf p1) fld p2] (.Name prm p3) p4] scope dV kV doc pm an cdv ct) ⟨[u,v],[]⟩ [(slf,u),(prm,v)]):LR K (vQ K x) slf prm fld:=by
 have e1:clsAt K x=C:=by unfold clsAt;rw[h1]
 have e2:vQ K x=f:=by unfold vQ;rw[e1,h2]
 rw[e2];exact ⟨name,qual,params,scope,dV,kV,doc,pm,cdv,ct,an,od,osl,p1,p2,p3,p4,l,c,s,n,d,b⟩
end
theorem pQ:∀{cs:List Addr} {us:List Value},Vals (cs.map V.ref) us->us=cs.map Value.ref
 |[],[],_=>rfl
 |[],_::_,h=>nomatch h
 |c::cs,[],h=>nomatch h
 |c::cs,u::us,.cons r1 r2=>by
  obtain rfl:u=Value.ref c:=r1;rw[map_cons,pQ r2]
section
variable {E:XS} {σ:St} {H:Hp} {Q:VK} {a b:EX K} {D:Ends}
theorem vU {x slf prm fld:Str} (h:a.t E σ H λv H1=>∀dx,H1 dx=none->E σ (.ref (clsAt K x)) (some dx) (upd H1 dx (.xd [(fld,v)]))):(yE x slf prm fld a).t E D σ H:=h
theorem JC {x:Str} {as:List (EX K)} (h:fB (a::as) E σ H λvs H1=>vs.length<=sizeLine/\E σ (.ref (clsAt K x)) none H1):(raiseO x a as).t E D σ H:=h
end
open PySem.Builtin PySem.Builtin.Str
noncomputable def gG:Str->List V->Hp->VK->Prop
 |z,[.str y],H,Q=>Q (.bl (Txt.startswith z y)) H
 |_,_,_,_=>False
theorem DB {X:Cx}:YH X "str.startswith" (rS gG):=by
 intro pins s σ H x xs v us Q I rx rs q;cases x with
 |str z=>
  have q':gG z xs H Q:=q;unfold gG at q';split at q'
  ·obtain ⟨t,rfl⟩:=rx;obtain ⟨u,rfl,ru⟩:=rs.one;obtain ⟨t2,rfl⟩:=ru;exact SC.startswith ⟨.bl _,H,I,rfl,q'⟩
  ·exact q'.elim
 |_=>exact q.elim
noncomputable def m_startswith (o a:EX K) (ho:o.s≠.zc:=by intro z;cases z):EX K:=vL "startswith" "str.startswith" gG PySem.F.slot_str_startswith PySem.F.type_str_startswith (λ_ _ _ _=>DB) o ho [a]
noncomputable def RD (r:V->List V->Hp->VK->Prop) (t:TA):V->St->Hp->VK->Prop
 | .ref p,σ,H,Q=>(∃kvs,H p=some (.dK kvs))/\t σ H λys H2=>r (.ref p) ys H2 Q
 |_,_,_,_=>False
noncomputable def qD:V->List V->Hp->VK->Prop
 | .ref a,[y,d],H,Q=>∃o,eN H a y o/\Q (o.getD d) H
 |_,_,_,_=>False
theorem NZ {X:Cx} (hu:X.A.units+1<cLine):YH X "dict.get" qD:=by
 intro pins s σ H x xs v us Q I rx rs q;unfold qD at q;split at q
 ·obtain ⟨o,g,q⟩:=q;obtain ⟨u,w',rfl,r1,r2⟩:=rs.two;cases rx;exact XJ hu I g r1 r2 λw' s' I' rw'=>⟨_,H,I',rw',q⟩
 ·exact q.elim
noncomputable def RE (o a b:EX K) (ho:o.s≠.zc:=by intro z;cases z):EX K:=HY "get" "dict" "dict.get" qD (RD qD) PySem.F.plainAttrs_dict PySem.F.slot_dict_get PySem.F.type_dict_get (λX _ _ hu=>NZ (by lia)) (λt x σ H Q h=>by
  cases x with
  |ref p=>exact ⟨.inr (.inr (.inl ⟨rfl,.inl h.1⟩)),h.2⟩
  |_=>exact h.elim) o ho [a,b]
noncomputable def RC (o:EX K) (ho:o.s≠.zc:=by intro z;cases z):EX K:=RB "pop" "list.pop" MX PySem.F.slot_list_pop PySem.F.type_list_pop (λX hK _ _=>VE) o ho []
noncomputable def rev (z:Str):Str:=aH (ls z).reverse
theorem rev_eq (z:Str) (u:Tok):Txt.sliceBy z none none (-1,u)=rev z:=by
 refine fM ?_;show (Txt.sliceBy z none none (-1,u)).cps.toList=_;rw[step_rev_list,rev,aW];have hl:=aN z;refine ext_getElem? λi=>?_;rw[getElem?_map];by_cases hi:i<z.length
 ·have h2:z.length - 1 - i<(ls z).length:=by lia
  rw[getElem?_range hi,List.getElem?_reverse (by lia),hl,List.getElem?_eq_getElem h2];show some (z.cps.getD (z.length - 1 - i) 0)=_
  congr 1
  have h3:z.length - 1 - i<z.cps.size:=by rw[hl] at h2;exact h2
  rw[Array.getD_eq_getD_getElem?,Array.getElem?_eq_getElem h3];simp [ls]
 ·rw[List.getElem?_eq_none_iff.mpr (by rw[length_range];lia),List.getElem?_eq_none_iff.mpr (by rw[length_reverse];lia)];rfl
noncomputable def GP (K:Fg):V->Hp->VK->Prop
 | .str z,H,Q=>z.length<=sizeLine/\Q (.str (rev z)) H
 | .ref a,H,Q=>∃xs,aM K H a xs/\∀p,H p=none->Q (.ref p) (upd H p (.lst xs.reverse))
 |_,_,_=>False
noncomputable def Ac (a:EX K):EX K:=jT (λE σ H Q=>a.t E σ H λx H1=>GP K x H1 Q)
 (λC e=>match e with
  | .Subscript l (.Slice none none (some st) _) _=>a.m C l&&(neg (cst (.int 1)):EX K).m C st
  |_=>false) (λR=>a.q R) .pl
 (λX C E e hK G hE hq hm=>by
  subst hK
  cases e with
  |Subscript l r p=>
   cases r with
   |Slice x y z p2=>
    match x,y,z,hm with
    |none,none,some st,hm=>
     simp only [and_eq_true] at hm
     intro pins s σ H Q I h
     refine Subscript_ (bO (a.ok X C E l rfl G hE hq hm.1 pins s σ H _ I h) λv s1 ⟨x,H1,I1,r1,q1⟩=>?_)
     refine wpAny_Slice ?_
     rw[evalPart_none,evalPart_some]
     refine wpAny_pure (wpAny_pure ?_)
     refine bO ((neg (cst (.int 1)):EX X.K).ok X C E st rfl G hE trivial hm.2 pins s1 σ H1 (λy H2=>y=.int (-1)/\H2=H1) I1 ⟨rfl,rfl⟩) λvs s2 ⟨y,H2,I2,r2,e1,e2⟩=>?_
     subst e1 e2
     obtain ⟨t,rfl⟩:=r2
     have I4:Inv X pins σ H2 {s2 with heap:=s2.heap.push {cls:=.type "slice",data:=.fields #[.none,.none,.int (-1) t]}}:=I2.kept (t':=s2.toks) λb ob q=>get?_push_of_some _ q
     replace q1:GP X.K x H2 Q:=q1
     unfold GP at q1
     split at q1
     ·rename_i z0
      obtain ⟨hz,q⟩:=q1
      obtain ⟨t0,rfl⟩:=r1
      show wpAny (model X.prog X.w) X.A (subscriptTail l (.Slice none none (some st) p2) _ (.ref s2.heap.objs.size)) (EP X pins σ Q) X.xe {s2 with heap:=s2.heap.push {cls:=.type "slice",data:=.fields #[.none,.none,.int (-1) t]}}
      refine tail_any (ops:=[.ref s2.heap.objs.size,.str z0 t0]) (typeIs_str _ _ _) PySem.F.slot_str_getitem.lookup ?_ (by with_unfolding_all rfl)
      exact wpAny_getItem_str_slice (l:=none) (u:=none) (st:=some (-1,t)) ⟨_,get?_push_size _ rfl,rfl,rfl⟩ rfl
       (post_val_or_str ⟨Nat.le_trans (Txt.sliceBy_le _ _ _ (-1,t) (show (-1:Int)≠0 by decide)) hz,λt' c=>⟨.str _,H2,I4.tok c,⟨t',rfl⟩,by show Q (.str (Txt.sliceBy z0 none none (-1,t))) H2;rw[rev_eq];exact q⟩⟩)
     ·rename_i a0
      obtain ⟨xs,hx,q⟩:=q1
      cases r1
      obtain ⟨its,r,ht,hz⟩:=I4.list hx
      show wpAny (model X.prog X.w) X.A (subscriptTail l (.Slice none none (some st) p2) _ (.ref s2.heap.objs.size)) (EP X pins σ Q) X.xe {s2 with heap:=s2.heap.push {cls:=.type "slice",data:=.fields #[.none,.none,.int (-1) t]}}
      refine tail_any (ops:=[.ref a0,.ref s2.heap.objs.size]) ht.isList.typeIs slot_list_getitem.lookup ?_ (by with_unfolding_all rfl)
      refine wpAny_getItem_list_slice ht.isList (Heap.IsSliceOf.new ..) .none .none (.int (-1) t) (by decide) ?_ (by rw[size_toArray,<-r.length];exact hz)
      rw[PySem.W.krv_pick]
      exact ⟨.ref _,_,I4.laid (t':=s2.toks) (o:=.lst xs.reverse) (λb ob q=>get?_push_of_some _ q) (Nat.le_refl _) ⟨by rw[length_reverse];exact hz,_,0,r.reverse,get?_push_size _ rfl⟩,rfl,q _ (I4.hok.fresh (Nat.le_refl _))⟩
     ·exact q1.elim
   |_=>exact ff hm
  |_=>exact ff hm)
 (λC e hm=>by cases e with|Subscript l r p=>exact ⟨rfl,rfl⟩|_=>exact ff hm)
section
variable {E:XS} {σ:St} {H:Hp} {Q:VK} {D:Ends} {QB:Bool->Hp->Prop} {v:V} {i j:Int} {n:Nat} {a b c:EX K}
theorem JA {ho:a.s≠.zc} (h:a.t E σ H λx H1=>RS gG (fB [b] E) x σ H1 Q):(m_startswith a b ho).t E σ H Q:=h
theorem Cy {ho:a.s≠.zc} (h:a.t E σ H λx H1=>RD qD (fB [b,c] E) x σ H1 Q):(RE a b c ho).t E σ H Q:=h
theorem Hb {r:V->List V->Hp->VK->Prop} {t:TA} {p:Addr} {kvs:List (Key × V)} (c:H p=some (.dK kvs)) (h:t σ H λys H2=>r (.ref p) ys H2 Q):RD r t (.ref p) σ H Q:=⟨⟨kvs,c⟩,h⟩
theorem JE {p:Addr} {y d:V} {o:Option V} (g:eN H p y o) (h:Q (o.getD d) H):qD (.ref p) [y,d] H Q:=⟨o,g,h⟩
theorem WA (h:a.t E σ H λx H1=>GP K x H1 Q):(Ac a).t E σ H Q:=h
theorem WG {p:Addr} {xs:List V} (c:aM K H p xs) (h:∀q,H q=none->Q (.ref q) (upd H q (.lst xs.reverse))):GP K (.ref p) H Q:=⟨xs,c,h⟩
theorem Cn {ho:a.s≠.zc} (h:a.t E σ H λx H1=>RL K MX (fB ([]:List (EX K)) E) x σ H1 Q):(RC a ho).t E σ H Q:=h
theorem WK {p:Addr} {xs:List V} {y:V} (e:H p=some (.lst xs)) (hy:xs[xs.length - 1]?=some y) (h:Q y (upd H p (.lst xs.dropLast))):MX (.ref p) [] H Q:=⟨p,xs,y,rfl,rfl,e,hy,h⟩
theorem sY {p:Addr} {x:V} {xs:List V} (c:aM K H p xs) (f1:gR x=true) (f2:xs.all gR=true) (h:QB (!YT x xs) H):rB (iE K .NotIn) x (.ref p) H QB:=by
 cases x<;>first|exact ⟨p,xs,rfl,.inl c,f1,f2,h⟩|cases f1
theorem Bx {p q:Addr} {n:Nat} (hn:n<=40) (e:YL n H p q) (h:QB true H):rB (iE K .Eq) (.ref p) (.ref q) H QB:=.inr (.inl ⟨p,q,n,rfl,rfl,hn,e,h⟩)
theorem RF {p q:Addr} {xs ys:List V} (h1:H p=some (.lst xs)) (h2:H q=some (.lst ys)) (hl:xs.length≠ys.length) (h:QB false H):rB (iE K .Eq) (.ref p) (.ref q) H QB:=.inr (.inr ⟨p,q,xs,ys,rfl,rfl,h1,h2,hl,h⟩)
theorem yZ {p q:Addr} {xs ys:List V} (h1:H p=some (.lst xs)) (h2:H q=some (.lst ys)) (hz:xs.length+ys.length<=sizeLine) (h:∀r,H r=none->Q (.ref r) (upd H r (.lst (xs++ys)))):kS K .Add (.ref p) (.ref q) H Q:=
 .inl ⟨p,q,xs,ys,rfl,rfl,h1,h2,hz,h⟩
theorem KC {xs:List V} {k:Nat} (h:k<=xs.length):kC xs none (some (k:Int))=xs.take k:=by
 unfold kC;rw[HT.nE,HT.MU,drop_zero,min_eq_left h,Nat.sub_zero]
theorem AX {p:Addr} {xs:List V} {k:Int} (h1:H p=some (.lst xs)) (h2:-(2 ^ 63)<=k/\k<2 ^ 63) (hz:xs.length * k.toNat<=sizeLine) (h:∀r,H r=none->Q (.ref r) (upd H r (.lst (replicate k.toNat xs).flatten))):kS K .Mult (.ref p) (.int k) H Q:=
 ⟨p,k,xs,rfl,rfl,h1,h2.1,h2.2,hz,h⟩
theorem wH {p r:Addr} {xs ys:List V} {te:TE} {is:List Nat} {D:Addr} (f:V->V->V) (hp:aM K H p xs) (hr:aM K H r ys) (hD:H D=none) (hz:xs.length<=sizeLine)
  (step:∀(i:Nat) (x y:V) (H1:Hp) (Q':VK),xs[i]?=some x->ys[i]?=some y->aC H H1->(∀H3,aC H1 H3->Q' (f x y) H3)->te (some x::some y::dQ is σ) H1 Q')
  (fin:∀H1,aC H H1->H1 D=some (.lst (zipWith f xs ys))->Q (.ref D) H1):aU (El K p r) (LW [0,1]:TX K).g (cT (none:Option (EX K))) te 2 is σ D H Q:=by
 refine ⟨λi m σ' H1=>m=min xs.length ys.length - i/\i<=min xs.length ys.length/\(∃a b,σ'=a::b::dQ is σ)/\aC H H1/\H1 D=some (.lst ((zipWith f xs ys).take i)),⟨_,rfl,zero_le _,⟨none,none,rfl⟩,λb o e=>by rw[aF (aB e hD)];exact e,by rw[aA,take_zero]⟩,?_⟩;rintro i m σ' H1 ⟨rfl,hi,⟨a,b,rfl⟩,hS,hO⟩;have hp1:=hS.seq hp;have hr1:=hS.seq hr;by_cases hlt:i<min xs.length ys.length
 ·have l1:i<xs.length:=by lia
  have l2:i<ys.length:=by lia
  refine .inr ⟨⟨xs,ys,xs[i],ys[i],hp1,hr1,List.getElem?_eq_getElem l1,List.getElem?_eq_getElem l2⟩,?_⟩;rintro v H' ⟨t,x,y,ht,rfl,rfl,hx,hy⟩;have hx1:=hx _ hp1;have hy1:=hy _ hr1;have s1:aC H1 (upd H1 t (.tup [x,y])):=λc o e=>by rw[aF (aB e ht)];exact e
  refine sX (bX.of aA) ?_;refine ⟨λ_=>?_,λz=>nomatch z⟩;refine step i x y _ _ hx1 hy1 (hS.trans s1) λH3 s3=>?_;refine ⟨_,s3 _ _ (s1 _ _ hO),?_,min xs.length ys.length - (i+1),by lia,rfl,hlt,⟨_,_,rfl⟩,λc o q=>?_,?_⟩
  ·rw[length_take];lia
  ·rw[aF (aB q hD)];exact s3 _ _ (s1 _ _ (hS c o q))
  ·rw[aA,take_add_one,List.getElem?_zipWith,hx1,hy1];rfl
 ·have e:i=min xs.length ys.length:=by lia
  subst e;refine .inl ⟨⟨xs,ys,hp1,hr1,by lia⟩,fin H1 hS ?_⟩;rw[hO,take_of_length_le (by rw[length_zipWith];exact Nat.le_refl _)]
end
section
variable {K:Fg} {σ:St} {H:Hp} {Q:VK}
theorem wJ {J:It} {P:Hp->Prop} {items:List V} (Y:Yl J P items) {te:TE} {is:List Nat} {D:Addr} (R:Nat->V->Hp->Prop) (hD:H D=none) (hP:∀H1,aC H H1->P H1) (hz:items.length<=sizeLine)
  (mono:∀i y H1 H2,(∀b o,b≠D->H1 b=some o->H2 b=some o)->R i y H1->R i y H2)
  (step:∀(i:Nat) (x:V) (H1:Hp) (Q':VK),items[i]?=some x->aC H H1->(∃o,H1 D=some o)->(∀y H3,aC H1 H3->R i y H3->Q' y H3)->te (some x::dQ is σ) H1 Q')
  (fin:∀H1 ys,aC H H1->H1 D=some (.lst ys)->ys.length=items.length->(∀i y,ys[i]?=some y->R i y H1)->Q (.ref D) H1):aU J (fX 0:TX K).g (cT (none:Option (EX K))) te 1 is σ D H Q:=by
 refine ⟨λi m σ' H1=>m=items.length - i/\i<=items.length/\(∃a,σ'=a::dQ is σ)/\aC H H1/\∃ys:List V,H1 D=some (.lst ys)/\ys.length=i/\∀j y,ys[j]?=some y->R j y H1,⟨items.length,by simp,zero_le _,⟨none,rfl⟩,λb o e=>by rw[aF (aB e hD)];exact e,[],aA,rfl,λj y z=>by simp at z⟩,?_⟩;rintro i m σ' H1 ⟨rfl,hi,⟨a,rfl⟩,hS,ys,hO,hl,hr⟩;have p:=hP H1 hS;by_cases hlt:i<items.length
 ·refine .inr ⟨Y.go i H1 p hlt,λx H' hy=>?_⟩;obtain ⟨e,hx⟩:=Y.yld i H1 x H' p hlt hy;subst e;refine ⟨λ_=>?_,λz=>nomatch z⟩;refine step i x H' _ hx hS ⟨_,hO⟩ λy H3 s3 hy3=>?_;refine ⟨ys,s3 _ _ hO,by rw[hl];lia,items.length - (i+1),by lia,rfl,hlt,⟨_,rfl⟩,λb o q=>?_,ys++[y],aA,by rw[length_append,hl];rfl,λj y' hj=>?_⟩
  ·rw[aF (aB q hD)];exact s3 _ _ (hS b o q)
  ·by_cases hj2:j<ys.length
   ·rw[getElem?_append_left hj2] at hj;exact mono j y' H' _ (λb o hb q=>by rw[aF hb];exact s3 _ _ q) (hr j y' hj)
   ·rw[getElem?_append_right (by lia)] at hj;have e0:j - ys.length=0:=by
     have:=(List.getElem?_eq_some_iff.mp hj).1;simp at this;lia
    rw[e0] at hj;have e1:y=y':=by simpa using hj
    subst e1;have e2:j=i:=by lia
    subst e2;exact mono j y H3 _ (λb o hb q=>by rw[aF hb];exact q) hy3
 ·have e:i=items.length:=by lia
  subst e;exact .inl ⟨Y.stop H1 p,fin H1 ys hS hO hl hr⟩
theorem DV {p:Addr} {xs:List V} {te:TE} {is:List Nat} {D:Addr} (R:Nat->V->Hp->Prop) (hp:bX K H p xs) (hD:H D=none) (hz:xs.length<=sizeLine)
  (mono:∀i y H1 H2,(∀b o,b≠D->H1 b=some o->H2 b=some o)->R i y H1->R i y H2)
  (step:∀(i:Nat) (x:V) (H1:Hp) (Q':VK),xs[i]?=some x->aC H H1->(∃o,H1 D=some o)->(∀y H3,aC H1 H3->R i y H3->Q' y H3)->te (some x::dQ is σ) H1 Q')
  (fin:∀H1 ys,aC H H1->H1 D=some (.lst ys)->ys.length=xs.length->(∀i y,ys[i]?=some y->R i y H1)->Q (.ref D) H1):aU (YZ K p) (fX 0:TX K).g (cT (none:Option (EX K))) te 1 is σ D H Q:=wJ (EW (xs:=xs)) R hD (mW hp) hz mono step fin
theorem DX {p:Addr} {xs:List V} {te:TE} {is:List Nat} {D:Addr} (f:Nat->V) (hp:aM K H p xs) (hD:H D=none) (hz:xs.length<=sizeLine)
  (step:∀(i:Nat) (x:V) (H1:Hp) (Q':VK),xs[i]?=some x->aC H H1->(∀H3,aC H1 H3->Q' (f i) H3)->te (some x::dQ is σ) H1 Q')
  (fin:∀H1,aC H H1->H1 D=some (.lst ((range xs.length).map f))->Q (.ref D) H1):aU (SA K p) (fX 0:TX K).g (cT (none:Option (EX K))) te 1 is σ D H Q:=eV (dB (xs:=xs)) f hD (λH1 hS=>hS.seq hp) hz step fin
end
noncomputable def Em (K:Fg) (a:Addr) (n:Nat):It:=
 ⟨λi H=>i<n/\∃xs x,aM K H a xs/\xs[n - 1 - i]?=some x,λi H x H'=>H'=H/\∀xs,aM K H a xs->xs[n - 1 - i]?=some x,λi _=>i=n⟩
theorem FN {P:Program} {w:World} {K:Fg} {tg:Expr} (a it:Addr) (n:Nat):Turn P w K tg (Em K a n) [it] it (λi h=>h.IsRevIter it a ((n:Int) - 1 - (i:Int))) where
 mem:=by simp
 obj:=λi h st b hb=>by
  have e:b=it:=by simpa using hb
  subst e;obtain ⟨o,e,c,d⟩:=st;exact ⟨o,e,λv z=>by rw[d] at z;cases z⟩
 keep:=λi h h' st k=>st.at λo e=>k it (by simp) o e
 item:=by
  intro X hP hw hK hc i pins s σ H E I hf st hg;subst hP hw hK;obtain ⟨hi,xs,x,hq,hx⟩:=hg;obtain ⟨its,rv,p,hz⟩:=I.list hq;obtain ⟨u,hu,ru⟩:=rv.get hx;obtain ⟨f0,f1,f2,f3,f4,f5⟩:=hf it (by simp);have e:(n:Int) - 1 - (i:Int)=((n - 1 - i:Nat):Int):=by lia
  rw[e] at st;refine wpAny_pyNext_rev_item st p.isList (x:=u) (by simpa using hu) λh' st' sb=>?_;have I1:Inv X pins σ H {s with heap:=h'}:=I.turned (t':=s.toks) (λb o hb e=>(sb.2 b hb).trans e) f0 f1 f3 f4 f5;have e2:((n - 1 - i:Nat):Int) - 1=(n:Int) - 1 - ((i+1:Nat):Int):=by lia
  rw[e2] at st';obtain ⟨o,e,c,d⟩:=id st';exact ⟨u,rfl,oA (s:={s with heap:=h'}) e c d (by decide) ⟨x,H,I1,ru,⟨rfl,λys hy=>by rw[I.list_inj hy hq];exact hx⟩,st',λb hb=>(hf b hb).1⟩⟩
 done:=by
  intro X hP hw hK hc i pins s σ H E I hf st hg;subst hP hw hK;have hg:i=n:=hg;subst hg;obtain ⟨f0,f1,f2,f3,f4,f5⟩:=hf it (by simp);have e:(i:Int) - 1 - (i:Int)=-1:=by lia
  rw[e] at st;exact wpAny_pyNext_rev_end (I.ok.hd hc) st λh' eb=>⟨rfl,I.turned (t':=s.toks) (λb o hb e=>eb b o hb e) f0 f1 f3 f4 f5⟩
 self:=λ_ _ _ _ _ st h=>wpAny_pyIter_revIter st h
theorem SI {K:Fg} {a:Addr} {xs:List V}:Yl (Em K a xs.length) (λH=>aM K H a xs) xs.reverse where
 go:=λi H p h=>by
  rw[length_reverse] at h;exact ⟨h,xs,xs[xs.length - 1 - i],p,List.getElem?_eq_getElem (by lia)⟩
 yld:=λi H x H' p hi h=>⟨h.1,by
  rw[length_reverse] at hi
  rw[List.getElem?_reverse hi]
  exact h.2 xs p⟩
 stop:=λH p=>by
  show xs.reverse.length=xs.length;exact length_reverse
noncomputable def uZ (K:Fg):List V->Hp->(It->Hp->Prop)->Prop
 |[.ref p],H,R=>∃xs,aM K H p xs/\R (Em K p xs.length) H
 |_,_,_=>False
noncomputable def Dj (a:EX K):IX K where
 t:=λE σ H R=>fB [a] E σ H λvs H1=>uZ K vs H1 R
 tm:=λ_=>true
 m:=λC e=>match e with
  | .Call (.Name y _) es [] _=>pJ C "reversed" y&&jU [a] C es
  |_=>false
 q:=λR=>sN [a] R
 ok:=λX C E tg e hK G hE hq _ hm=>by
  subst hK;cases e with
  |Call f es ks p=>
   cases f with
   |Name y py=>
    cases ks with
    |nil=>
     simp only [and_eq_true] at hm;obtain ⟨h1,h2⟩:=hm;have e:=cE h1;subst e;obtain ⟨g,d⟩:=cD G h1;cases es with
     |nil=>cases h2
     |cons e es=>
      intro pins s σ H R I h;refine Call_ (eK I g (G.bl _ (by decide+kernel)) PyProof.Rows.Boot.reversed (PyProof.Rows.callWith_type1 (bO (dU G hE [a] (e::es) hq h2 p pins s σ H _ I h) λus s1 ⟨vs,H1,I1,r1,q1⟩=>?_) (aZ (a.sok C e (aG h2).1)) (bG [] es (aG h2).2)));replace q1:uZ X.K vs H1 R:=q1;unfold uZ at q1;split at q1
      ·rename_i p1;obtain ⟨u,rfl,ru⟩:=r1.one;cases ru;obtain ⟨xs,hx,q⟩:=q1;obtain ⟨ia,ra,pa,_⟩:=I1.list hx;refine call_reversed_list pa.isList ?_;have hl:((ia.toArray.size:Nat):Int) - 1=(xs.length:Int) - 1 - ((0:Nat):Int):=by rw[size_toArray,<-ra.length];lia
       have st:({s1 with heap:=s1.heap.push (revObj p1 ((ia.toArray.size:Int) - 1))}:Shared).heap.IsRevIter s1.heap.objs.size p1 ((xs.length:Int) - 1 - ((0:Nat):Int)):=⟨_,get?_push_size _ rfl,rfl,by rw[<-hl];rfl⟩;refine wpAny_pyIter_revIter st ?_;refine ⟨s1.heap.objs.size,[s1.heap.objs.size],_,_,H1,rfl,I1.kept (t':=s1.toks) λb o e=>get?_push_of_some _ e,FN p1 _ xs.length,st,λb hb=>?_,q⟩;have e:b=s1.heap.objs.size:=by simpa using hb
       subst e;exact I1.fpOk (Nat.le_refl _) (I1.hok.fresh (Nat.le_refl _))
      ·exact q1.elim
    |cons _ _=>cases hm
   |_=>exact ff hm
  |_=>exact ff hm
 fs:=λC e env x hm=>by cases e with|Call f es ks p=>rfl|_=>exact ff hm
section
variable {E:XS} {σ:St} {H:Hp} {Q:VK} {D:Ends} {a c:EX K} {bd:List (SX K)}
theorem WI {R:It->Hp->Prop} (h:a.t E σ H λx H1=>uZ K [x] H1 R):(Dj a).t E σ H R:=h
theorem WH {R:It->Hp->Prop} {p:Addr} {xs:List V} (c:aM K H p xs) (h:R (Em K p xs.length) H):uZ K [.ref p] H R:=⟨xs,c,h⟩
theorem II {p:Addr} {xs:List V} {g:TG} {tb:TS} (Pv:Nat->St->Hp->Prop) (h0:Pv 0 σ H) (hl:∀i σ H,Pv i σ H->aM K H p xs)
  (hs:∀i x σ H,xs.reverse[i]?=some x->Pv i σ H->g x σ H λσ2 H2=>tb {D with nx:=Pv (i+1),ct:=Pv (i+1),bk:=D.nx} σ2 H2) (hd:∀σ H,Pv xs.length σ H->D.nx σ H):kJ (Em K p xs.length) g tb D σ H:=
 sV SI Pv h0 (λi σ H _ q=>hl i σ H q) hs (λσ H q=>hd σ H (by rw[length_reverse] at q;exact q))
theorem mG (W:Nat->St->Hp->Prop) {m:Nat} (h0:W m σ H)
  (hs:∀m σ H,W m σ H->c.tt E σ H λb H1=>br b (∃N:St->Hp->Prop,(∀σ' H',N σ' H'->∃m',m'<m/\W m' σ' H')/\jD bd E {D with nx:=N,ct:=N,bk:=D.nx} σ H1) (D.nx σ H1)):(ZG c bd).t E D σ H:=⟨W,⟨m,h0⟩,hs⟩
theorem zR {W:Nat->St->Hp->Prop} {m:Nat} {tb:TS} (h:tb {D with nx:=λσ' H'=>∃m',m'<m/\W m' σ' H',ct:=λσ' H'=>∃m',m'<m/\W m' σ' H',bk:=D.nx} σ H):
  ∃N:St->Hp->Prop,(∀σ' H',N σ' H'->∃m',m'<m/\W m' σ' H')/\tb {D with nx:=N,ct:=N,bk:=D.nx} σ H:=⟨_,λ_ _ z=>z,h⟩
end
noncomputable def TT {K:Fg} (sp:Sp) (b:List (SX K)) (N:List Str):Prop:=∀(vs:List V) (H:Hp) (Q:VK) (E:XK),sp vs H Q E->jD b (λ_=>E) {nx:=λ_ H'=>Q .non H',rt:=Q} (start N vs) H
end L2.Na
set_option compiler.extract_closed false
set_option hygiene false in
local macro_rules | `(tactic| walk_at "t") => `(tactic| (with_reducible first | refine L2.Na.lL ?_ | refine L2.Na.Cp ?_ | refine L2.Na.qI ?_ | refine L2.Na.Ck ?_ | refine L2.Na.Gx ?_ | refine L2.Na.Gv ?_ | refine L2.Na.Df ?_ | refine L2.Na.Cw ?_ | refine L2.Na.RM ?_ | refine L2.Na.JH ?_ | refine L2.Na.BA ?_ | refine L2.Na.JJ ?_ | refine L2.Na.Di ?_ | refine L2.Na.Cg ?_ | refine L2.Na.Dg ?_ | refine L2.Na.By ?_ | refine L2.Na.Gw ?_ | refine L2.Na.Gy ?_ | refine L2.Na.Gk ?_ | refine L2.Na.Gm ?_ | refine L2.Na.Gn ?_ | refine L2.Na.Gp ?_ | refine L2.Na.Gj ?_ | refine L2.Na.Bw ?_ | refine L2.Na.Bv ?_ | refine L2.Na.Co ?_ | refine L2.Na.VX ?_ | refine L2.Na.Dh ?_ | refine L2.Na.Cb ?_ | refine L2.Na.Gi ?_ | refine L2.Na.WW ?_ | refine L2.Na.VP ?_ | refine L2.Na.VO ?_ | refine L2.Na.RI ?_ | refine L2.Na.Cf ?_ | refine L2.Na.Cr ?_ | refine L2.Na.Ct ?_ | refine L2.Na.WM ?_ | refine L2.Na.WN ?_ | refine L2.Na.Cv ?_ | refine L2.Na.OO ?_ | refine L2.Na.OP ?_ | refine L2.Na.IY ?_ | refine L2.Na.IW ?_ | refine L2.Na.DN ?_ | refine L2.Na.JF ?_ | refine L2.Na.OR ?_ | refine L2.Na.IZ ?_ | refine L2.Na.Gu ?_ | refine L2.Na.Ci ?_ | refine L2.Na.Gs ?_ | refine L2.Na.Gr ?_ | refine L2.Na.Gq ?_ | refine L2.Na.JD ?_ | refine L2.Na.RG ?_ | refine L2.Na.WO ?_ | refine L2.Na.OV ?_ | refine L2.Na.OS ?_ | refine L2.Na.JI ?_ | refine L2.Na.Ha ?_ | refine L2.Na.JG ?_ | refine L2.Na.Cz ?_ | refine L2.Na.Cj ?_ | refine L2.Na.WQ ?_ | refine L2.Na.Cu ?_ | refine L2.Na.WV ?_ | refine L2.Na.OW ?_ | refine L2.Na.WD ?_ | refine L2.Na.AZ ?_ | refine L2.Na.JA ?_ | refine L2.Na.Cy ?_ | refine L2.Na.WA ?_ | refine L2.Na.Ce ?_ | refine L2.Na.Cn ?_))
local macro_rules | `(tactic| walk_at "s") => `(tactic| first
 | ((with_reducible refine L2.Na.AW (v := ?v) ?h1 ?_); (case h1 => exact rfl))
 | walk_at "t"
 | ((with_reducible refine L2.Na.Cq ?h1 ?_); (case h1 => first | exact Or.inl ⟨by omega, by omega⟩ | exact Or.inr ⟨by omega, by omega⟩))
 | ((with_reducible refine L2.Na.Dd ?h1 ?_); (case h1 => exact ⟨by omega, by omega⟩))
 | ((with_reducible refine L2.Na.RH ?h1 ?_); (case h1 => omega))
 | ((with_reducible refine L2.Na.WE ?h1 ?_); (case h1 => exact ⟨by omega, by omega⟩))
 | ((with_reducible refine L2.Na.tB (xs := ?xs) ?h1 ?_); (case h1 => assumption))
 | ((with_reducible refine L2.Na.nX (xs := ?xs) ?h1 ?_); (case h1 => assumption))
 | ((with_reducible refine L2.Na.Bu ?h1 ?_); (case h1 => rfl)))
local macro_rules | `(tactic| walk_at "") => `(tactic| repeat (walk_at "s"))
namespace L2.Na
open PySem PySem.Spec PyProof.Rows L2 L2.L3
section
variable {K:Fg} {σ:St} {H:Hp} {Q:VK}
theorem KH {p:Addr} {xs:List V} {te:TE} {is:List Nat} {D:Addr} (f U W:Nat->V) (hp:aM K H p xs) (hx:∀(i:Nat) (x:V),xs[i]?=some x->∃t,x=.ref t/\bX K H t [U i,W i]) (hD:H D=none) (hz:xs.length<=sizeLine)
  (step:∀(i:Nat) (H1:Hp) (Q':VK),i<xs.length->aC H H1->(∀H3,aC H1 H3->Q' (f i) H3)->te (some (U i)::some (W i)::dQ is σ) H1 Q')
  (fin:∀H1,aC H H1->H1 D=some (.lst ((range xs.length).map f))->Q (.ref D) H1):aU (SA K p) (LW [0,1]:TX K).g (cT (none:Option (EX K))) te 2 is σ D H Q:=by
 refine ⟨λi m σ' H1=>m=xs.length - i/\i<=xs.length/\(∃a b,σ'=a::b::dQ is σ)/\aC H H1/\H1 D=some (.lst ((range i).map f)),⟨xs.length,by simp,zero_le _,⟨none,none,rfl⟩,λb o e=>by rw[aF (aB e hD)];exact e,aA⟩,?_⟩;rintro i m σ' H1 ⟨rfl,hi,⟨a,b,rfl⟩,hS,hO⟩;have hp1:=hS.seq hp;by_cases hlt:i<xs.length
 ·refine .inr ⟨(dB (xs:=xs)).go i H1 hp1 hlt,λx H' hy=>?_⟩;obtain ⟨e,hx1⟩:=(dB (xs:=xs)).yld i H1 x H' hp1 hlt hy;subst e;obtain ⟨t,rfl,ht⟩:=hx i x hx1;refine sX (mW ht _ hS) ?_;refine ⟨λ_=>?_,λz=>nomatch z⟩;refine step i H' _ hlt hS λH3 s3=>?_;refine ⟨_,s3 _ _ hO,by rw[length_map,length_range];lia,xs.length - (i+1),by lia,rfl,hlt,⟨_,_,rfl⟩,λb o q=>?_,?_⟩
  ·rw[aF (aB q hD)];exact s3 _ _ (hS b o q)
  ·rw[aA,range_succ,map_append];rfl
 ·have e:i=xs.length:=by lia
  subst e;exact .inl ⟨(dB (xs:=xs)).stop H1 hp1,fin H1 hS hO⟩
theorem DW {lo:Int} {m:Nat} {te:TE} {is:List Nat} {D:Addr} (Iv:Nat->Hp->Prop) (R:Nat->V->Prop) (hz:m<=sizeLine) (h0:Iv 0 (upd H D (.lst [])))
  (step:∀(i:Nat) (H1:Hp) (ys:List V) (Q':VK),i<m->Iv i H1->H1 D=some (.lst ys)->(∀y H3,R i y->H3 D=some (.lst ys)->(∀o,Iv (i+1) (upd H3 D o))->Q' y H3)->te (some (.int (lo+(i:Nat)))::dQ is σ) H1 Q')
  (fin:∀H1 ys,Iv m H1->H1 D=some (.lst ys)->ys.length=m->(∀i y,ys[i]?=some y->R i y)->Q (.ref D) H1):aU (EM lo m) (fX 0:TX K).g (cT (none:Option (EX K))) te 1 is σ D H Q:=by
 refine ⟨λi j σ' H1=>j=m - i/\i<=m/\(∃a,σ'=a::dQ is σ)/\Iv i H1/\∃ys:List V,H1 D=some (.lst ys)/\ys.length=i/\∀l y,ys[l]?=some y->R l y,⟨m,by simp,zero_le _,⟨none,rfl⟩,h0,[],aA,rfl,λl y z=>by simp at z⟩,?_⟩;rintro i j σ' H1 ⟨rfl,hi,⟨a,rfl⟩,hI,ys,hO,hl,hr⟩;by_cases hlt:i<m
 ·refine .inr ⟨hlt,λx H' hy=>?_⟩;obtain ⟨rfl,rfl⟩:=hy;refine ⟨λ_=>?_,λz=>nomatch z⟩;refine step i H' ys _ hlt hI hO λy H3 hy3 hO3 hI3=>?_;refine ⟨ys,hO3,by rw[hl];lia,m - (i+1),by lia,rfl,hlt,⟨_,rfl⟩,hI3 _,ys++[y],aA,by rw[length_append,hl];rfl,λl y' hl'=>?_⟩;by_cases hj2:l<ys.length
  ·rw[getElem?_append_left hj2] at hl';exact hr l y' hl'
  ·rw[getElem?_append_right (by lia)] at hl';have e0:l - ys.length=0:=by
    have:=(List.getElem?_eq_some_iff.mp hl').1;simp at this;lia
   rw[e0] at hl';have e1:y=y':=by simpa using hl'
   subst e1;have e2:l=i:=by lia
   subst e2;exact hy3
 ·have e:i=m:=by lia
  subst e;exact .inl ⟨Nat.le_refl _,fin H1 ys hI hO hl hr⟩
end
end L2.Na
namespace PySem
namespace F
end F
section
variable {prog:Program} {w:World} {A:Around} {E:Value->Shared->Prop} {s:Shared}
end
end PySem
namespace L2.Na
open PySem PySem.Spec PyProof.Rows L2 L2.L3
variable {K:Fg}
section
variable {E:XS} {σ:St} {H:Hp} {a:EX K}
end
noncomputable def Fc (d:Addr) (o:Obj) (kvs:List (Key × V)):It:=⟨λi H=>H d=some (.frz o (.dK kvs))/\i<kvs.length,λi H x H'=>H'=H/\∃kv,kvs[i]?=some kv/\x=kV kv.1,λi H=>H d=some (.frz o (.dK kvs))/\i=kvs.length⟩
theorem VN {k:Key} {u:Value} (h:lK k u=true):RelV (kV k) u:=by
 rcases bA h with ⟨i,t,rfl,rfl⟩|⟨x,t,rfl,rfl⟩
 ·exact ⟨t,rfl⟩
 ·exact ⟨t,rfl⟩
theorem JN {P:Program} {w:World} {H:Hp} {h:Heap} {d:Addr} {o:Obj} {kvs:List (Key × V)} {es:Array DictEntry} {ep:Nat} (hok:dY P w H h) (hH:H d=some (.frz o (.dK kvs))) (ho:o.data=.dict es ep):
  ∃vs,KV kvs vs/\h.DictAt (aX P w) d vs ep:=by
 obtain ⟨hg,hk⟩:=(show aY P w H h d (.frz o (.dK kvs)) from hok d _ hH);obtain ⟨z,hsm,vs,rel,o',es',ep',ho',r1,r2,r3⟩:=(show aY P w H h d (.dK kvs) from hk);rw[hg] at ho';cases ho';rw[ho] at r2;cases r2;exact ⟨vs,rel,o,es,hg,r1,ho,r3⟩
theorem FO {P:Program} {w:World} {K:Fg} {tg:Expr} (d it:Addr) (o:Obj) (kvs:List (Key × V)) (es:Array DictEntry) (ep:Nat) (ho:o.data=.dict es ep):Turn P w K tg (Fc d o kvs) [it] it (λi h=>h.IsKeyIter it d i kvs.length ep) where
 mem:=by simp
 obj:=λi h st b hb=>by
  have e:b=it:=by simpa using hb
  subst e;obtain ⟨o,e,c,d⟩:=st;exact ⟨o,e,λv z=>by rw[d] at z;cases z⟩
 keep:=λi h h' st k=>st.at λo e=>k it (by simp) o e
 item:=by
  intro X hP hw hK hc i pins s σ H E I hf st hg;subst hP hw hK;obtain ⟨f0,f1,f2,f3,f4,f5⟩:=hf it (by simp);obtain ⟨hH,hi⟩:=hg;obtain ⟨vs,rel,dd⟩:=JN I.hok hH ho;have hl:vs.length=kvs.length:=(KV.length rel).symm;have hk:=KV.keys rel;have hx:vs[i]?=some (vs[i]'(by lia)):=List.getElem?_eq_getElem (by lia);rw[<-hl] at st;refine wpAny_pyNext_dict_item (k:=(vs[i]'(by lia)).1) (v:=(vs[i]'(by lia)).2) st dd hx λkey h' hkey hit' hs'=>?_;have I1:Inv X pins σ H {s with heap:=h',toks:=s.toks}:=I.turned (λb o hb e=>(hs'.2 b hb).trans e) f0 f1 f3 f4 f5;have ek:(kvs[i]'hi).1=(vs[i]'(by lia)).1:=by
   have e1:(kvs.map (·.1))[i]?=(vs.map (·.1))[i]?:=by rw[hk]
   rw[getElem?_map,getElem?_map,hx,List.getElem?_eq_getElem hi] at e1;exact Option.some.inj e1
  rw[hl] at hit';obtain ⟨o2,e2,c2,d2⟩:=id hit';exact ⟨_,rfl,oA (s:={s with heap:=h',toks:=s.toks}) e2 c2 d2 (by decide) ⟨kV (kvs[i]'hi).1,H,I1,by rw[ek];exact VN hkey,⟨rfl,_,List.getElem?_eq_getElem hi,rfl⟩,hit',λb hb=>(hf b hb).1⟩⟩
 done:=by
  intro X hP hw hK hc i pins s σ H E I hf st hg;subst hP hw hK;obtain ⟨f0,f1,f2,f3,f4,f5⟩:=hf it (by simp);obtain ⟨hH,hi⟩:=hg;obtain ⟨vs,rel,dd⟩:=JN I.hok hH ho;have hl:vs.length=kvs.length:=(KV.length rel).symm;rw[<-hl] at st;exact wpAny_pyNext_dict_end (I.ok.hd hc) st dd (List.getElem?_eq_none_iff.mpr (by lia)) λh' eb=>⟨rfl,I.turned (t':=s.toks) (λb o hb e=>eb b o hb e) f0 f1 f3 f4 f5⟩
 self:=λ_ _ _ _ _ st h=>wpAny_pyIter_keyiter st h
theorem SJ {d:Addr} {o:Obj} {kvs:List (Key × V)}:Yl (Fc d o kvs) (λH=>H d=some (.frz o (.dK kvs))) (kvs.map λkv=>kV kv.1) where
 go:=λi H p h=>⟨p,by rw[length_map] at h;exact h⟩
 yld:=λi H x H' p hi h=>by
  obtain ⟨e,kv,h1,h2⟩:=h;refine ⟨e,?_⟩;rw[getElem?_map,h1,h2];rfl
 stop:=λH p=>⟨p,length_map _⟩
noncomputable def GR:V->Hp->(It->Hp->Prop)->Prop
 | .ref d,H,R=>∃kvs,H d=some (.dK kvs)/\∀o,R (Fc d o kvs) (upd H d (.frz o (.dK kvs)))
 |_,_,_=>False
theorem PF {X:Cx} {tg:Expr} {pins:List (Addr × Obj)} {s1:Shared} {σ:St} {H1:Hp} {x:V} {v:Value} {R:It->Hp->Prop} (I1:Inv X pins σ H1 s1) (r1:RelV x v) (q1:GR x H1 R):
  wpAny (model X.prog X.w) X.A (pyIter v) (Ei X pins σ tg R) X.xe s1:=by
 unfold GR at q1;split at q1
 ·rename_i d;cases (show v=Value.ref d from r1);obtain ⟨kvs,hH,q⟩:=q1;obtain ⟨z,hsm,vs,rel,dd⟩:=JW I1.hok hH;obtain ⟨o,es,ep,ho,hd1,hd2,hd3⟩:=id dd;have I2:Inv X pins σ (upd H1 d (.frz o (.dK kvs))) {s1 with heap:=s1.heap,toks:=s1.toks}:=mK I1 (by rw[hH];trivial) ⟨rfl,λb _=>rfl⟩ ⟨o,ho⟩ ⟨ho,z,hsm,vs,rel,dd⟩;refine wpAny_pyIter_dict hsm ⟨o,es,ho,hd1,hd2,hd3⟩ ?_;have hl:vs.length=kvs.length:=(KV.length rel).symm;rw[hl];refine ⟨s1.heap.objs.size,[s1.heap.objs.size],_,_,upd H1 d (.frz o (.dK kvs)),rfl,I2.kept (t':=s1.toks) λb o e=>get?_push_of_some _ e,FO d _ o kvs es ep hd2,⟨_,get?_push_size _ rfl,rfl,rfl⟩,λb hb=>?_,q o⟩;have e:b=s1.heap.objs.size:=by simpa using hb
  subst e;exact I2.fpOk (Nat.le_refl _) (I2.hok.fresh (Nat.le_refl _))
 ·exact q1.elim
noncomputable def Dk (a:EX K):IX K where
 t:=λE σ H R=>a.t E σ H λx H1=>GR x H1 R
 tm:=λ_=>true
 m:=a.m
 q:=a.q
 ok:=λX C E tg e hK G hE hq _ hm=>by
  subst hK;intro pins s σ H R I h;exact bO (a.ok X C E e rfl G hE hq hm pins s σ H _ I h) λv s1 ⟨x,H1,I1,r1,q1⟩=>PF I1 r1 q1
 fs:=λC e env x hm=>uQ (a.sok C e hm) x
theorem WT {E:XS} {σ:St} {H:Hp} {a:EX K} {R:It->Hp->Prop} (h:a.t E σ H λx H1=>GR x H1 R):(Dk a).t E σ H R:=h
theorem De {H:Hp} {d:Addr} {kvs:List (Key × V)} {R:It->Hp->Prop} (h:H d=some (.dK kvs)) (q:∀o,R (Fc d o kvs) (upd H d (.frz o (.dK kvs)))):GR (.ref d) H R:=⟨kvs,h,q⟩
noncomputable def Dz (op:CmpOp) (r:R2) (hr:∀X:Cx,X.K=K->X.A.units+64<cLine->fA X (compareOp op) r) (a b:EX K):EX K where
 t:=λE=>SS r (a.t E) (b.t E)
 tt:=λE σ H Q=>a.t E σ H λx H1=>b.t E σ H1 λy H2=>r x y H2 λv H3=>∃c,v=.bl c/\Q c H3
 m:=λC e=>match e with
  | .Compare l [o] [r] _=>decide (o=op)&&(a.m C l&&b.m C r)
  |_=>false
 q:=λR=>a.q R/\b.q R
 s:=.pl
 ok:=λX C E e hK G hE hq hm=>by
  subst hK;cases e with
  |Compare l os rs p=>
   match os,rs,hm with
   |[o],[r'],hm=>
    simp only [and_eq_true] at hm;obtain ⟨h1,h2,h3⟩:=hm;have e:=of_decide_eq_true h1;subst e;exact AK (hr X rfl G.hu) (a.ok X C E l rfl G hE hq.1 h2) (b.ok X C E r' rfl G hE hq.2 h3) (jM (b.sok C r' h3))
  |_=>exact ff hm
 okT:=λX C E e hK G hE hq hm=>by
  subst hK;cases e with
  |Compare l os rs p=>
   match os,rs,hm with
   |[o],[r'],hm=>
    simp only [and_eq_true] at hm;obtain ⟨h1,h2,h3⟩:=hm;have e:=of_decide_eq_true h1;subst e;intro pins s σ H Q I hw;refine wpAny_isTrue_Compare1 (bO (a.ok X C E l rfl G hE hq.1 h2 pins s σ H _ I hw) λv s1 ⟨x,H1,I1,r1,q1⟩=>bO (b.ok X C E r' rfl G hE hq.2 h3 pins s1 σ H1 _ I1 q1) λu s2 ⟨y,H2,I2,r2,q2⟩=>
     bO (hr X rfl G.hu pins s2 σ H2 x y v u _ I2 r1 r2 q2) λc s3 ⟨z,H3,I3,r3,q3⟩=>?_) (jM (b.sok C r' h3))
    obtain ⟨d,rfl,q⟩:=q3;cases r3;exact wpAny_truthy_bool ⟨H3,I3,q⟩
  |_=>exact ff hm
 sok:=λC e hm=>by cases e with|Compare l o r p=>rfl|_=>exact ff hm
section
variable {E:XS} {σ:St} {H:Hp} {a b:EX K}
end
open PySem.SeqAt
noncomputable def YM (x y:V) (b:Bool):Prop:=(∃i j,x=.int i/\y=.int j/\b=(i==j))\/(∃w z,x=.str w/\y=.str z/\b=(w==z))\/(∃k l,x=.bl k/\y=.bl l/\b=(k==l))\/(x=.non/\y=.non/\b=true)\/(∃i,x=.non/\y=.int i/\b=false)\/(∃i,x=.int i/\y=.non/\b=false)
noncomputable def Ii (H:Hp) (x y:V) (b:Bool):Prop:=YM x y b\/∃p q xs ys e,x=.ref p/\y=.ref q/\p≠q/\H p=some (.lst xs)/\H q=some (.lst ys)/\xs.length=ys.length/\(∀(i:Nat) (x y:V),xs[i]?=some x->ys[i]?=some y->YM x y (e i))/\b=(range xs.length).all e
section
variable {X:Cx} {pins:List (Addr × Obj)} {σ:St} {H:Hp} {s:Shared}
theorem BD {A:Around} {x y:V} {u v:Value} {b:Bool} (h:YM x y b) (r1:RelV x u) (r2:RelV y v):EqAt A s u v b:=by
 rcases h with ⟨i,j,rfl,rfl,rfl⟩|⟨w,z,rfl,rfl,rfl⟩|⟨k,l,rfl,rfl,rfl⟩|⟨rfl,rfl,rfl⟩|⟨i,rfl,rfl,rfl⟩|⟨i,rfl,rfl,rfl⟩
 ·obtain ⟨t,rfl⟩:=r1;obtain ⟨t2,rfl⟩:=r2;exact EqAt.int_int i t j t2
 ·obtain ⟨t,rfl⟩:=r1;obtain ⟨t2,rfl⟩:=r2;exact EqAt.str_str w t z t2
 ·cases r1;cases r2;exact EqAt.bool_bool k l
 ·cases r1;cases r2;exact EqAt.same _
 ·cases r1;obtain ⟨t,rfl⟩:=r2;exact EqAt.none_int i t
 ·obtain ⟨t,rfl⟩:=r1;cases r2;exact EqAt.int_none i t
theorem kZ {A:Around} {R:V->V->Bool->Prop} {e:Nat->Bool} {xs ys:List V} {us vs:List Value} (r1:Vals xs us) (r2:Vals ys vs) (hi:∀(i:Nat) (x y:V),xs[i]?=some x->ys[i]?=some y->R x y (e i))
  (ih:∀(x y:V) (u v:Value) (b:Bool),R x y b->RelV x u->RelV y v->EqAt A s u v b):∀j (h1:j<us.toArray.size) (h2:j<vs.toArray.size),EqAt A s us.toArray[j] vs.toArray[j] (e j):=λj h1 h2=>by
 obtain ⟨x,e1,q1⟩:=iZ r1 h1;obtain ⟨y,e2,q2⟩:=iZ r2 h2;exact ih x y _ _ _ (hi j x y e1 e2) q1 q2
theorem JS (I:Inv X pins σ H s) {A:Around} {x y:V} {u v:Value} {b:Bool} (hu:A.units+4<cLine) (h:Ii H x y b) (r1:RelV x u) (r2:RelV y v):EqAt A s u v b:=by
 rcases h with h|⟨p,q,xs,ys,e,rfl,rfl,hne,h1,h2,hl,hi,rfl⟩
 ·exact BD h r1 r2
 ·cases r1;cases r2;refine EqAt.of_refs hne ?_;obtain ⟨_,its,n1,k1,l1,g1⟩:=I.lstM h1;obtain ⟨_,its2,n2,k2,l2,g2⟩:=I.lstM h2;have z:=RcAt.lists (A:=A) (e:=e) (⟨_,g1,rfl,n1,rfl⟩:s.heap.IsList p its.toArray) (⟨_,g2,rfl,n2,rfl⟩:s.heap.IsList q its2.toArray) (by rw[size_toArray,size_toArray];lia) (by lia)
   (kZ k1 k2 hi λx y u v b=>BD)
  rw[size_toArray,<-k1.length] at z;exact z
noncomputable def TN:R2:=λx y H Q=>∃p q xs ys e,x=.ref p/\y=.ref q/\((H p=some (.lst xs)/\H q=some (.lst ys))\/(H p=some (.tup xs)/\H q=some (.tup ys)))/\xs.length=ys.length/\(∀(i:Nat) (x y:V),xs[i]?=some x->ys[i]?=some y->Ii H x y (e i))/\Q (.bl ((range xs.length).all e)) H
theorem UX (hu:X.A.units+64<cLine):fA X (compareOp .Eq) TN:=by
 intro pins s σ H x y v u Q I rx ry h;obtain ⟨p,q,xs,ys,e,rfl,rfl,hh,hl,hi,qq⟩:=h;cases rx;cases ry;have hu1:X.A.in1.units+4<cLine:=by show X.A.units+1+4<cLine;lia
 rcases hh with ⟨h1,h2⟩|⟨h1,h2⟩
 ·obtain ⟨_,its,n1,k1,l1,g1⟩:=I.lstM h1;obtain ⟨_,its2,n2,k2,l2,g2⟩:=I.lstM h2;have z:=RcAt.lists (A:=X.A) (e:=e) (⟨_,g1,rfl,n1,rfl⟩:s.heap.IsList p its.toArray) (⟨_,g2,rfl,n2,rfl⟩:s.heap.IsList q its2.toArray) (by rw[size_toArray,size_toArray];lia) (by lia)
   (kZ k1 k2 hi λx y u v b h r1 r2=>JS I hu1 h r1 r2)
  rw[size_toArray,<-k1.length] at z;exact z X.prog X.w X.xe _ ⟨.bl _,H,I,rfl,qq⟩
 ·obtain ⟨its,k1,p1,_⟩:=I.tuple (bX.of h1);obtain ⟨its2,k2,p2,_⟩:=I.tuple (bX.of h2);have z:=RcAt.tuples (A:=X.A) (e:=e) (show s.heap.IsTuple p its.toArray from p1) (show s.heap.IsTuple q its2.toArray from p2) (by lia)
   (kZ k1 k2 hi λx y u v b h r1 r2=>JS I hu1 h r1 r2)
  have e3:its.toArray.size=its2.toArray.size:=by rw[size_toArray,size_toArray,<-k1.length,<-k2.length];exact hl
  rw[e3,beq_self_eq_true,Bool.and_true] at z;have e4:its2.toArray.size=xs.length:=by rw[size_toArray,<-k2.length];exact hl.symm
  simp only [e4,Nat.min_self] at z;exact z X.prog X.w X.xe _ ⟨.bl _,H,I,rfl,qq⟩
end
section
noncomputable def Ia (a b:EX K):EX K:=Dz .Eq TN (λ_ _ hu=>UX hu) a b
variable {E:XS} {σ:St} {H:Hp} {a b:EX K}
theorem Dc {Q:VK} (h:a.t E σ H λx H1=>b.t E σ H1 λy H2=>TN x y H2 Q):(Ia a b).t E σ H Q:=h
end
noncomputable def Dq (K:Fg) (n:Nat) (t:QC):TG:=λv σ H Q=>∃a xs,v=.ref a/\aM K H a xs/\xs.length=n/\t xs σ H Q
theorem UE {X:Cx} {pos:Pos} {es:List Expr} {k:Nat} {t:QC} {n:Nat} (hc:X.calm=true) (h:YV X es t)
  (hn:(assignEach es X.env).length=n) (hst:(assignEach es X.env).findIdx? (·.1)=none):PG X (.Tuple es k pos) (Dq X.K n t):=by
 intro pins s σ H v u Q I r hw;obtain ⟨a,xs,e1,hq,hl,hw⟩:=hw;subst e1;cases r;obtain ⟨its,rv,⟨o,m,g1,g2,g3,g4⟩,hz⟩:=I.list hq;have ht:s.heap.IsList a its.toArray:=⟨o,g1,g2,m,g4⟩;have hsz:(assignEach es X.env).length=its.toArray.size:=by simp [hn,<-hl,rv.length]
 rw[assign_Tuple];refine wpAny_bind (wpAny_standAt ?_);unfold unpack;rw[hsz,hst];refine wpAny_bind (wpAny_holding (PySem.W.kun_itemsOf (I.ok.hd hc) ht λh' hx=>?_));have I1:Inv X pins σ H {s with heap:=h'}:=I.kept (t':=s.toks) λb o e=>hx b o (ne_of_lt (lt_size e)) e;exact h pins _ σ H xs _ Q I1 (by simpa using rv) hw
noncomputable def ZJ (is:List Nat):TX K where
 g:=Dq K is.length (Eu is)
 m:=λC e=>match e with
  | .Tuple es _ _=>C.cm&&Bp is C es
  |_=>false
 ok:=λX C e hK G hm=>by
  subst hK;cases e with
  |Tuple es k p=>
   simp only [and_eq_true] at hm;obtain ⟨h1,h2,h3⟩:=HM G is es hm.2;exact UE (G.calm hm.1) h1 h2 h3
  |_=>exact ff hm
theorem ON {σ:St} {H:Hp} {QS:St->Hp->Prop} {k l:Nat} {p:Addr} {x y:V} (c:aM K H p [x,y]) (h:QS ((σ.set k (some x)).set l (some y)) H):(ZJ [k,l]:TX K).g (.ref p) σ H QS:=
 ⟨p,[x,y],rfl,c,rfl,x,[y],rfl,y,[],rfl,rfl,h⟩
section
variable {X:Cx}
noncomputable def TJ:V->List V->Hp->VK->Prop:=λx vs H Q=>∃(z y:Str),x=.str z/\vs=[.str y]/\z.length<=sizeLine/\Q (.str (Txt.stripChars z y)) H
theorem HS:RZ X "str.strip" TJ:=by
 intro pins s σ H x vs v us Q I rx rv h;obtain ⟨z,y,rfl,rfl,hz,q⟩:=h;obtain ⟨t,rfl⟩:=rx;obtain ⟨u,rfl,ru⟩:=rv.one;obtain ⟨t2,rfl⟩:=ru;exact SC.stripChars (λt' k=>⟨.str _,H,I.tok _,⟨_,rfl⟩,q⟩) hz
end
noncomputable def Fz:Str->List V->Hp->VK->Prop
 |z,[.str y],H,Q=>Q (.int (Txt.find z y)) H
 |_,_,_,_=>False
noncomputable def sL:Str->List V->Hp->VK->Prop
 |z,[.str y],H,Q=>z.length<=sizeLine/\Q (.str (Txt.stripChars z y)) H
 |_,_,_,_=>False
noncomputable def m_strip (o a:EX K) (ho:o.s≠.zc:=by intro z;cases z):EX K:=vL "strip" "str.strip" sL PySem.F.slot_str_strip PySem.F.type_str_strip (λX hK _ _=>HX HS (λz ys H Q h=>by
 unfold sL at h
 split at h
 ·exact ⟨_,_,rfl,rfl,h.1,h.2⟩
 ·exact h.elim)) o ho [a]
theorem take_all {p:Nat->Bool}:∀{l:List Nat},(∀c∈l,p c=true)->l.takeWhile p=l
 |[],_=>rfl
 |c::l,h=>by
  rw[List.takeWhile_cons,if_pos (h c mem_cons_self),take_all λd hd=>h d (mem_cons_of_mem _ hd)]
theorem CI {z y:Str} (h:∀c∈ls z,c∈ls y):Txt.stripChars z y=⟨#[]⟩:=by
 have hg:∀c∈z.cps.toList,y.cps.contains c=true:=λc hc=>by
  rw[Array.contains_iff_mem];exact Array.mem_def.mpr (h c hc)
 unfold Txt.stripChars Txt.stripBy;have lo:stripLo y.cps.contains true z=z.cps.size:=by
  unfold stripLo;rw[if_pos rfl,take_all hg,length_toList]
 have hi:stripHi y.cps.contains true z z.cps.size=z.cps.size:=by
  unfold stripHi;rw[if_pos rfl,drop_eq_nil_of_le (by rw[length_toList];exact Nat.le_refl _)];rfl
 split
 ·rename_i hs;unfold stripSame at hs;rw[lo,and_eq_true,beq_iff_eq] at hs;have:z.cps=#[]:=Array.eq_empty_of_size_eq_zero hs.1;cases z
  congr
 ·unfold stripped;rw[lo,hi];unfold Builtin.Str.strSub
  congr
  apply ext';simp
theorem OQ {K:Fg} {E:XS} {σ:St} {H:Hp} {Q:VK} {a b:EX K} {ho:a.s≠.zc} (h:a.t E σ H λx H1=>RS sL (fB [b] E) x σ H1 Q):(m_strip a b ho).t E σ H Q:=h
noncomputable def Keeps (g h:Heap):Prop:=∀b o,g.get? b=some o->h.get? b=some o
section
variable {prog:Program} {w:World} {A:Around} {E:Value->Shared->Prop}
variable {R:Result->Shared->Prop} {it ls l:Addr} {vs:List Value} {g:Heap} {f:Nat->Int × Int} {d:Value}
end
theorem IT {X:Cx} {pins:List (Addr × Obj)} {σ:St} {H:Hp} {s:Shared} {g:Heap} {tk:Nat} (I:Inv X pins σ H s) (k:Keeps s.heap g):Inv X pins σ H {s with heap:=g,toks:=tk}:=
 I.call' rfl (show Un (eL X.stack) [] H H s.heap g from Un.kept k) (I.hok.kept k) I.bare λb y=>absurd y (by simp)
theorem eQ:∀{ns:List Int} {us:List Value},Vals (ns.map V.int) us->∃ps:List (Int × Tok),us=ps.map (λp=>Value.int p.1 p.2)/\ps.map (·.1)=ns
 |[],_,h=>⟨[],h.zero,rfl⟩
 |n::ns,us,h=>by
  cases h with
  |cons r rs=>
   obtain ⟨t,rfl⟩:=r;obtain ⟨ps,rfl,e⟩:=eQ rs;exact ⟨(n,t)::ps,rfl,by rw[map_cons,e]⟩
theorem IS (ps:List (Int × Tok)):(ps.map λp=>Value.int p.1 p.2).toArray=intItems ps.toArray:=by
 unfold intItems;simp
theorem HL {ps:List (Int × Tok)} {ns:List Int} (e:ps.map (·.1)=ns) (i:Nat):numAt ps.toArray i=ns[i]?.getD 0:=by
 subst e;unfold numAt;simp
theorem RY (bt:Nat->Nat->Bool):∀k,argBest bt k<=k
 |0=>Nat.le_refl _
 |k+1=>by
  have:=RY bt k;rw[argBest];split<;>lia
theorem xA (f:Nat->Int):∀k j,j<=k->f (argBest (λi j=>decide (f i<f j)) k)<=f j
 |0,j,h=>by
  have e:j=0:=by lia
  subst e;exact Int.le_refl _
 |k+1,j,h=>by
  have ih:=xA f k;rw[argBest];by_cases c:f (k+1)<f (argBest (λi j=>decide (f i<f j)) k)
  ·rw[if_pos (decide_eq_true c)];by_cases e:j=k+1
   ·subst e;exact Int.le_refl _
   ·have:=ih j (by lia);lia
  ·rw[if_neg (by rw[decide_eq_false c];exact Bool.false_ne_true)];by_cases e:j=k+1
   ·subst e;lia
   ·exact ih j (by lia)
noncomputable def Hx:List V->Hp->VK->Prop
 |[.ref p],H,Q=>∃ns:List Int,H p=some (.lst (ns.map V.int))/\ns≠[]/\∀m,m∈ns->(∀x∈ns,x<=m)->Q (.int m) H
 |_,_,_=>False
noncomputable def AF:List V->Hp->VK->Prop
 |[.ref p],H,Q=>∃ns:List Int,H p=some (.lst (ns.map V.int))/\ns≠[]/\∀m,m∈ns->(∀x∈ns,m<=x)->Q (.int m) H
 |_,_,_=>False
section
theorem OA (X:Cx) (hc:X.calm=true):bZ X (.builtin "min") AF:=by
 intro pins s σ H xs us Q I r h;unfold AF at h;split at h
 ·rename_i p;obtain ⟨ns,h1,h2,h3⟩:=h;obtain ⟨u,rfl,r1⟩:=r.one;obtain rfl:u=Value.ref p:=r1;obtain ⟨_,its,n1,k1,l1,g1⟩:=I.lstM h1;obtain ⟨ps,rfl,e⟩:=eQ k1;have hl:s.heap.IsList p (intItems ps.toArray):=by rw[<-IS];exact ⟨_,g1,rfl,n1,rfl⟩
  have hlen:ps.length=ns.length:=by rw[<-e,length_map]
  have h0:0<ns.length:=List.length_pos_iff.mpr h2;refine min_intList (I.ok.hd hc) hl (by rw[size_toArray];lia) λv g tk hv kp=>?_;obtain ⟨t,rfl⟩:=intItems_at hv;have hb:=RY (λi j=>decide (numAt ps.toArray i<numAt ps.toArray j)) (ps.toArray.size - 1);have hb2:=xA (numAt ps.toArray) (ps.toArray.size - 1);rw[size_toArray] at hb hb2;rw[size_toArray];generalize argBest (λi j=>decide (numAt ps.toArray i<numAt ps.toArray j)) (ps.length - 1)=k at hb hb2 ⊢;have hk:k<ns.length:=by lia
  have ek:numAt ps.toArray k=ns[k]:=by rw[HL e,List.getElem?_eq_getElem hk];rfl
  refine ⟨.int (numAt ps.toArray k),H,IT I kp,⟨t,rfl⟩,h3 _ (by rw[ek];exact getElem_mem hk) λx hx=>?_⟩;obtain ⟨j,hj⟩:=getElem?_of_mem hx;have hjl:=(List.getElem?_eq_some_iff.mp hj).1;have:=hb2 j (by lia);rw[HL e j,hj] at this;exact this
 ·exact h.elim
noncomputable def Bn (a:EX K):EX K:=XX "min" "min" AF (λX _ hc _=>OA X hc) PyProof.Rows.Boot.min (by decide+kernel) (by decide+kernel) a []
variable {E:XS} {σ:St} {H:Hp} {Q:VK} {a:EX K}
theorem WL (h:a.t E σ H λx H1=>AF [x] H1 Q):(Bn a).t E σ H Q:=h
end
noncomputable def uA:Value->Addr
 | .ref a=>a
 |_=>0
theorem xJ {l:List Value} {qs:List Addr} (h:l.Perm (qs.map Value.ref)):∃rs:List Addr,l=rs.map Value.ref/\rs.Perm qs:=by
 refine ⟨l.map uA,?_,?_⟩
 ·rw[map_map];have:∀v∈l,(Value.ref∘uA) v=v:=λv hv=>by
   obtain ⟨q,_,rfl⟩:=mem_map.mp (h.mem_iff.mp hv);rfl
  rw[map_congr_left this,List.map_id']
 ·have:=h.map uA;rw[map_map] at this;have e:qs.map (uA∘Value.ref)=qs:=by
   have:(uA∘Value.ref)=id:=rfl;rw[this,List.map_id]
  rwa [e] at this
theorem qB:∀(rs:List Addr),Vals (rs.map V.ref) (rs.map Value.ref)
 |[]=>.nil
 |_::rs=>.cons rfl (qB rs)
section
variable {E:XS} {σ:St} {H:Hp} {Q:VK} {a:EX K}
end
noncomputable def Hl (H:Hp) (rs:List Addr):Prop:=rs.Pairwise λa b=>∀x i y j,H a=some (.tup [.str x,.int i])->H b=some (.tup [.str y,.int j])->So.LX (y,j) (x,i)=false
noncomputable def yG:List V->Hp->VK->Prop:=λxs H Q=>∃(p:Addr) (qs:List Addr),xs=[.ref p]/\H p=some (.lst (qs.map V.ref))/\(∀q∈qs,∃x i,H q=some (.tup [.str x,.int i]))/\
 ∀(r:Addr) (rs:List Addr),rs.Perm qs->Hl H rs->H r=none->Q (.ref r) (upd H r (.lst (rs.map V.ref)))
theorem GB (X:Cx):bZ X (.builtin "sorted") yG:=by
 intro pins s σ H xs us Q I r h;obtain ⟨p,qs,rfl,h1,h2,h3⟩:=h;obtain ⟨u,rfl,r1⟩:=r.one;obtain rfl:u=Value.ref p:=r1;obtain ⟨hz,its,n1,k1,l1,g1⟩:=I.lstM h1;have ei:=pQ k1;subst ei;rw[length_map] at hz;have hl:s.heap.IsList p (qs.map Value.ref).toArray:=⟨_,g1,rfl,n1,rfl⟩;have hq:∀(q:Addr) (x:Str) (i:Int),H q=some (.tup [.str x,.int i])->So.xB s.heap (.ref q) x i:=λq x i e=>by
  obtain ⟨its,kk,⟨o,e1,e2,n,e3⟩,_⟩:=I.tuple (bX.of e);obtain ⟨u1,u2,rfl,ra,rb⟩:=kk.two;obtain ⟨t,rfl⟩:=ra;obtain ⟨t2,rfl⟩:=rb;exact ⟨q,o,n,t,t2,rfl,e1,e2,e3⟩
 have hp:∀v∈qs.map Value.ref,∃x i,So.xB s.heap v x i:=λv hv=>by
  obtain ⟨q,hqm,rfl⟩:=mem_map.mp hv;obtain ⟨x,i,e⟩:=h2 q hqm;exact ⟨x,i,hq q x i e⟩
 refine So.xW hl hp (by rw[length_map];exact hz) λout q1 q2=>?_;obtain ⟨rs,rfl,hrs⟩:∃rs:List Addr,out=(rs.map Value.ref).toArray/\rs.Perm qs:=by
  obtain ⟨rs,e,hp⟩:=xJ q1;exact ⟨rs,by rw[<-e],hp⟩
 have hup:Hl H rs:=by
  have q2:So.Up s.heap (rs.map Value.ref):=q2;exact (pairwise_map.mp q2).imp λ{a b} g x i y j p1 p2=>g x i y j (hq a x i p1) (hq b y j p2)
 obtain ⟨c,hc⟩:=sortedAll_at s.heap (qs.map Value.ref) (rs.map Value.ref).toArray;have fr:H (s.heap.objs.size+1)=none:=I.hok.fresh (le_succ _);refine ⟨.ref (s.heap.objs.size+1),_,I.laid (t':=s.toks) (o:=.lst (rs.map V.ref)) (λb o q=>sortedAll_old q) (le_succ _) ⟨?_,rs.map Value.ref,c,?_,?_⟩,rfl,h3 _ rs hrs hup fr⟩
 ·rw[length_map,hrs.length_eq];exact hz
 ·exact qB rs
 ·rw[hc]
section
noncomputable def ZZ (a:EX K):EX K:=XX "sorted" "sorted" yG (λX _ _ _=>GB X) PyProof.Rows.Boot.sorted (by decide+kernel) (by decide+kernel) a []
variable {E:XS} {σ:St} {H:Hp} {Q:VK} {a:EX K}
theorem VY (h:a.t E σ H λx H1=>yG [x] H1 Q):(ZZ a).t E σ H Q:=h
end
noncomputable def Dw (a b:EX K):EX K:=jT (λE=>QM [(a.t E,b.t E)])
 (λC e=>match e with
  | .Dict [some k] [v] _=>a.m C k&&b.m C v
  |_=>false) (λR=>a.q R/\b.q R) .pl
 (λX C E e hK G hE hq hm=>by
  subst hK
  cases e with
  |Dict ks vs p=>
   match ks,vs,hm with
   |[some k],[v],hm=>
    simp only [and_eq_true] at hm
    exact NM (GY (a.ok X C E k rfl G hE hq.1 hm.1) (b.ok X C E v rfl G hE hq.2 hm.2) NF) rfl rfl (by simp) (by show 1<=15;decide)
  |_=>exact ff hm)
 (λC e hm=>by cases e with|Dict es k p=>exact ⟨rfl,rfl⟩|_=>exact ff hm)
noncomputable def GQ:R2:=λy x H Q=>∃a o,x=.ref a/\eN H a y o/\Q (.bl (!o.isSome)) H
theorem NQ {X:Cx} (hu:X.A.units+64<cLine):fA X (compareOp .NotIn) GQ:=by
 intro pins s σ H y x v u Q I ry rx h;obtain ⟨a,o,rfl,g,q⟩:=h;cases (show u=Value.ref a from rx);exact PH (by lia) I g ry λs' I'=>⟨.bl (!o.isSome),H,I',rfl,q⟩
noncomputable def VD (a b:EX K):EX K:=Dz .NotIn GQ (λ_ _ hu=>NQ hu) a b
section
variable {E:XS} {σ:St} {H:Hp} {Q:VK} {QB:Bool->Hp->Prop} {a b:EX K}
noncomputable def QX (p:Addr) (x y:V) (H2:Hp) (Q:VK):Prop:=H2 p=some (.dK [])/\∃kvs:List (Key × V),[(x,y)]=kvs.map (λkv=>(kV kv.1,kv.2))/\kvs.length<=15/\Q (.ref p) (upd H2 p (.dK (kW [] kvs)))
theorem WU (h:∀p,H p=none->a.t E σ (upd H p (.dK [])) λx H1=>b.t E σ H1 λy H2=>QX p x y H2 Q):(Dw a b).t E σ H Q:=h
theorem OU {p:Addr} {k:Key} {y:V} (h1:H p=some (.dK [])) (h:Q (.ref p) (upd H p (.dK [(k,y)]))):QX p (kV k) y H Q:=⟨h1,[(k,y)],rfl,(by show 1<=15;decide),h⟩
theorem IP (h:a.t E σ H λx H1=>b.t E σ H1 λy H2=>GQ x y H2 λv H3=>∃c,v=.bl c/\QB c H3):(VD a b).tt E σ H QB:=h
end
section
variable {E:XS} {σ:St} {H:Hp} {Q:VK} {D:Ends} {a o:EX K} {as:List (EX K)}
end
noncomputable def QD (a:Addr):It:=
 ⟨λi H=>∃xs x,H a=some (.lst xs)/\xs[i]?=some x,
  λi H v H'=>∃p x,H p=none/\v=.ref p/\H'=upd H p (.tup [.int (i:Nat),x])/\∀xs,H a=some (.lst xs)->xs[i]?=some x,
  λi H=>∃xs,H a=some (.lst xs)/\xs.length<=i⟩
noncomputable def Jx (e it a:Addr) (i:Nat) (h:Heap):Prop:=(∃old,IsEnum h e it ((i:Nat):Int) old)/\h.IsListIter it a i
theorem CB {P:Program} {w:World} {K:Fg} {elts:List Expr} {k:Nat} {pos:Pos} (a e it:Addr) (hei:e≠it):Turn P w K (.Tuple elts k pos) (QD a) [e,it] e (Jx e it a) where
 mem:=by simp
 obj:=λi h st c hc=>by
  obtain ⟨⟨old,he⟩,⟨o1,e1,c1,d1⟩⟩:=st;simp only [mem_cons,not_mem_nil,or_false] at hc;rcases hc with rfl|rfl
  ·exact ⟨_,he,λ_ q=>by have q':Data.fields _=Data.cell _:=q;cases q'⟩
  ·exact ⟨_,e1,λ_ q=>by rw[d1] at q;cases q⟩
 keep:=λi h h' st kp=>by
  obtain ⟨⟨old,he⟩,l1⟩:=st;exact ⟨⟨old,kp e (by simp) _ he⟩,l1.at λo q=>kp it (by simp) o q⟩
 item:=by
  intro X hP hw hK hc i pins s σ H E I hf st hg;subst hP hw hK;obtain ⟨xs,x,hqa,hx⟩:=hg;obtain ⟨z,its,n,r,hl,eo⟩:=I.lstM hqa;obtain ⟨u,hu,ru⟩:=r.get hx;obtain ⟨⟨old,he⟩,l1⟩:=st;have hla:s.heap.IsList a its.toArray:=⟨_,eo,rfl,n,rfl⟩;refine wpAny_pyNext_enum_item he l1 hla (x:=u) (by simpa using hu) hei λh' a1 a2 a3 a4 hk=>?_;refine ⟨_,rfl,?_⟩;refine wpAny_letOwnedTupleGo_enum (s:={s with heap:=h',toks:=s.toks+1}) a1 λh2 z2 sb=>?_;have fr:H s.heap.objs.size=none:=I.hok.fresh (Nat.le_refl _);have zlt:e<s.heap.objs.size:=lt_size he;have k2:∀c o,c∉[e,it]->s.heap.get? c=some o->h2.get? c=some o:=λc o hc' q=>by
   simp only [mem_cons,not_mem_nil,or_false,not_or] at hc';exact sb.extBut _ _ hc'.1 (hk c o hc'.1 hc'.2 q)
  have T2:h2.get? s.heap.objs.size=some {cls:=.type "tuple",data:=.seq #[.int i s.toks,u]}:=sb.extBut _ _ (ne_of_gt zlt) a3;have ne:∀c∈[e,it],c≠s.heap.objs.size:=λc hc'=>by
   obtain ⟨o,q⟩:∃o,s.heap.get? c=some o:=by
    simp only [mem_cons,not_mem_nil,or_false] at hc';obtain ⟨o1,e1,_⟩:=l1;rcases hc' with rfl|rfl
    ·exact ⟨_,he⟩
    ·exact ⟨_,e1⟩
   exact ne_of_lt (lt_size q)
  have I0:Inv X pins σ (upd H s.heap.objs.size (.tup [.int (i:Nat),x])) {s with heap:=s.heap.push {cls:=.type "tuple",data:=.seq #[.int i s.toks,u]},toks:=s.toks+1}:=
   I.laid (t':=s.toks+1) (λc o q=>get?_push_of_some _ q) (Nat.le_refl _) (show aY X.prog X.w _ _ _ (.tup [.int (i:Nat),x]) from ⟨by show 2<=sizeLine;decide,[.int i s.toks,u],.cons ⟨_,rfl⟩ (.cons ru .nil),IsTup.new _ _⟩)
  have hf':∀c∈[e,it],lF X pins (upd H s.heap.objs.size (.tup [.int (i:Nat),x])) c:=λc hc'=>⟨by rw[aF (ne c hc')];exact (hf c hc').1,(hf c hc').2⟩;have I1:Inv X pins σ (upd H s.heap.objs.size (.tup [.int (i:Nat),x])) {s with heap:=h2,toks:=s.toks+1}:=Inv.turnedN (s:={s with heap:=s.heap.push {cls:=.type "tuple",data:=.seq #[.int i s.toks,u]},toks:=s.toks+1}) (t':=s.toks+1) I0 (λc o hc' q=>by
   rcases Heap.get?_push_cases q with ⟨hcs,ho⟩|q
   ·subst hcs ho
    exact T2
   ·exact k2 c o hc' q) hf'
  exact ⟨.ref s.heap.objs.size,_,I1,rfl,⟨_,x,fr,rfl,rfl,λxs' h'=>by rw[hqa] at h';cases h';exact hx⟩,
   ⟨⟨_,by rw[show ((i+1:Nat):Int)=(i:Int)+1 by lia];exact z2⟩,a2.at λo q=>sb.extBut _ _ hei.symm q⟩,λc hc'=>(hf' c hc').1⟩
 done:=by
  intro X hP hw hK hc i pins s σ H E I hf st hg;subst hP hw hK;obtain ⟨xs,hqa,hx⟩:=hg;obtain ⟨z,its,n,r,hl,eo⟩:=I.lstM hqa;obtain ⟨⟨old,he⟩,l1⟩:=st;have n1:=r.length;have hla:s.heap.IsList a its.toArray:=⟨_,eo,rfl,n,rfl⟩;refine wpAny_pyNext_enum_end (I.ok.hd hc) he l1 hla (by simp;lia) λh' hk=>⟨rfl,Inv.turnedN (t':=s.toks) I (λc o hc' q=>?_) hf⟩;simp only [mem_cons,not_mem_nil,or_false,not_or] at hc';exact hk c o hc'.2 q
 self:=λ_ _ _ _ _ st h=>by
  obtain ⟨⟨old,he⟩,_⟩:=st;exact wpAny_pyIter_enum he h
noncomputable def nI:List V->Hp->(It->Hp->Prop)->Prop
 |[.ref p],H,R=>(∃xs,H p=some (.lst xs))/\R (QD p) H
 |_,_,_=>False
noncomputable def RN (a:EX K):IX K where
 t:=λE σ H R=>fB [a] E σ H λvs H1=>nI vs H1 R
 tm:=λe=>match e with
  | .Tuple _ _ _=>true
  |_=>false
 m:=λC e=>match e with
  | .Call (.Name y _) es [] _=>pJ C "enumerate" y&&jU [a] C es
  |_=>false
 q:=λR=>sN [a] R
 ok:=λX C E tg e hK G hE hq ht hm=>by
  subst hK;cases tg with
  |Tuple ts tk tp=>
   cases e with
   |Call f es ks p=>
    cases f with
    |Name y py=>
     cases ks with
     |nil=>
      simp only [and_eq_true] at hm;obtain ⟨h1,h2⟩:=hm;have e:=cE h1;subst e;obtain ⟨g,d⟩:=cD G h1;cases es with
      |nil=>cases h2
      |cons e es=>
       intro pins s σ H R I h;refine Call_ (eK I g (G.bl _ (by decide+kernel)) boot_enumerate (PyProof.Rows.callWith_type1 (bO (dU G hE [a] (e::es) hq h2 p pins s σ H _ I h) λus s1 ⟨vs,H1,I1,r1,q1⟩=>?_) (aZ (a.sok C e (aG h2).1)) (bG [] es (aG h2).2)));replace q1:nI vs H1 R:=q1;unfold nI at q1;split at q1
       ·rename_i p1;cases r1 with
        |cons r rr=>
         cases rr;cases r;obtain ⟨⟨xs,hx⟩,q⟩:=q1;obtain ⟨z,its,n,r,hl,eo⟩:=I1.lstM hx;refine call_enumerate_1 eo λh' z1 z2 z3 kp=>?_;refine wpAny_pyIter_enum (s:={s1 with heap:=h'}) z1 ?_;have big:∀c∈[s1.heap.objs.size+1,s1.heap.objs.size],s1.heap.objs.size<=c:=by
          intro c hc;simp only [mem_cons,not_mem_nil,or_false] at hc;lia
         exact ⟨_,[s1.heap.objs.size+1,s1.heap.objs.size],_,_,H1,rfl,I1.kept (t':=s1.toks) kp,CB p1 _ _ (Nat.succ_ne_self _),⟨⟨_,z1⟩,z2⟩,λc hc=>I1.fpOk (big c hc) (I1.hok.fresh (big c hc)),q⟩
       ·exact q1.elim
     |cons _ _=>cases hm
    |_=>exact ff hm
   |_=>exact ff hm
  |_=>cases ht
 fs:=λC e env x hm=>by cases e with|Call f es ks p=>rfl|_=>exact ff hm
section
variable {E:XS} {σ:St} {H:Hp} {D:Ends} {Q:VK} {QB:Bool->Hp->Prop} {a b c:EX K}
theorem WR {R:It->Hp->Prop} (h:fB [a] E σ H λvs H1=>nI vs H1 R):(RN a).t E σ H R:=h
theorem OT {R:It->Hp->Prop} {p:Addr} {xs:List V} (c:H p=some (.lst xs)) (h:R (QD p) H):nI [.ref p] H R:=⟨⟨xs,c⟩,h⟩
theorem DF {p:Addr} {xs:List V} {m n:Nat} {tb:TS} (Pv:Nat->St->Hp->Prop) (h0:Pv 0 σ H) (hk:∀i σ1 H1,Pv i σ1 H1->H1 p=some (.lst xs))
  (hw:∀i σ1 H1 a o,Pv i σ1 H1->H1 a=none->Pv i σ1 (upd H1 a o))
  (hs:∀i x σ1 H1,xs[i]?=some x->Pv i σ1 H1->tb {D with nx:=Pv (i+1),ct:=Pv (i+1),bk:=D.nx} ((σ1.set m (some (.int (i:Nat)))).set n (some x)) H1) (hd:∀σ1 H1,Pv xs.length σ1 H1->D.nx σ1 H1):
  kJ (QD p) (LW [m,n]:TX K).g tb D σ H:=by
 refine ⟨λi k σ1 H1=>k=xs.length - i/\i<=xs.length/\Pv i σ1 H1,⟨_,rfl,zero_le _,h0⟩,?_⟩;rintro i k σ1 H1 ⟨rfl,hi,s1⟩;have hp1:=hk _ _ _ s1;by_cases hlt:i<xs.length
 ·refine .inr ⟨⟨xs,xs[i],hp1,List.getElem?_eq_getElem hlt⟩,Pv (i+1),λσ3 H3 q=>⟨xs.length - (i+1),by lia,rfl,hlt,q⟩,?_⟩;rintro v H' ⟨a,x,ha,rfl,rfl,hx⟩;exact sX (bX.of aA) (hs i x σ1 _ (hx _ hp1) (hw _ _ _ _ _ s1 ha))
 ·have e:i=xs.length:=by lia
  subst e;exact .inl ⟨⟨xs,hp1,Nat.le_refl _⟩,hd σ1 H1 s1⟩
end
noncomputable abbrev wZ:Str:=Str.ofString "abcd"
theorem dW:wZ.length=4:=by decide+kernel
theorem wY:wZ.cps.toList=[97,98,99,100]:=by decide+kernel
theorem small {n:Nat} (h:n<=1000000):n<=sizeLine:=Nat.le_trans h (by rw[sizeLine_eq];decide)
theorem fO {r m:Int} (h0:0<=r) (hm:r<m) (h4:m<=4):kL wZ.cps.toList r=some (97+r.toNat):=by
 have:r=0\/r=1\/r=2\/r=3:=by lia
 rw[wY];rcases this with rfl|rfl|rfl|rfl<;>rfl
structure Rl (K:Fg) (H:Hp) (a:Addr) (ws:List Str) (most:Nat):Prop where
 tp:H a=some (.tup (ws.map V.str))
 pos:1<=ws.length
 four:ws.length<=4
 isw:∀w∈ws,gX ws.length w
 one:∀w∈ws,1<=w.length
 le:∀w∈ws,w.length<=most
theorem aC.seqT {H H':Hp} {a:Addr} {xs:List V} (e:aC H H') (h:bX K H a xs):bX K H' a xs:=by
 rcases h with (h|⟨o,h⟩)|h
 ·exact .inl (.inl (e _ _ h))
 ·exact .inl (.inr ⟨o,e _ _ h⟩)
 ·exact .inr h
theorem Rl.sq {H:Hp} {a:Addr} {ws:List Str} {m:Nat} (h:Rl K H a ws m):bX K H a (ws.map V.str):=bX.of h.tp
theorem Rl.same {H H':Hp} {a:Addr} {ws:List Str} {m:Nat} (h:Rl K H a ws m) (e:aC H H'):Rl K H' a ws m:=⟨e _ _ h.tp,h.pos,h.four,h.isw,h.one,h.le⟩
theorem bQ {H0 H:Hp} {p:Addr} {o:HO} (e:aC H0 H) (hp:H0 p=none):aC H0 (upd H p o):=λb u q=>by rw[aF (aB q hp)];exact e b u q
theorem gX.to {m:Nat} {z:Str} {k:Int} (h:gX m z) (h0:0<=k):gX m (Txt.slice z none (some k)):=h.of_ls λc hc=>by
 rw[show ls (Txt.slice z none (some k))=(ls z).take k.toNat from cF h0] at hc;exact mem_of_mem_take hc
theorem nL {c:Nat} (h1:97<=c) (h2:c<101):∃r,Builtin.Str.occurrences wZ ⟨#[c]⟩ 0 wZ.length 1=(c - 97)::r:=by
 have:c=97\/c=98\/c=99\/c=100:=by lia
 rcases this with rfl|rfl|rfl|rfl
 ·exact ⟨[],by decide+kernel⟩
 ·exact ⟨[],by decide+kernel⟩
 ·exact ⟨[],by decide+kernel⟩
 ·exact ⟨[],by decide+kernel⟩
noncomputable def fF (K:Fg):Sp:=λvs H Q _=>∃(a:Addr) (ws:List Str) (z:Str),vs=[.ref a,.str z]/\Rl K H a ws 100/\gX ws.length z/\z.length<=20000/\∀H',aC H H'->Q (.str (img ws z)) H'
noncomputable def gW (K:Fg):List (SX K):=
 [set 2 (lst []),
  gQ (fX 3) (iU (var 1)) [ex (bS (var 2) (ix (var 0) (mF (cst (.str "abcd")) (var 3))))],
  ret (sU (cst (.str "")) (var 2))]
theorem uE:TT (fF K) (gW K) ["_law_rule_here","_law_word_here","_law_found","_law_sign"]:=by
 intro vs H Q E h;obtain ⟨a,ws,z,rfl,hR,hz,hzl,q⟩:=h;unfold gW;walk_at "";refine ⟨zero_le _,λp hp=>?_⟩;walk_at "";have hn:(ls z).length<=20000:=by rw[aN];exact hzl
 have hw:∀i c,(ls z)[i]?=some c->∃w,ws[c - 97]?=some w/\w∈ws/\97<=c/\c<101:=λi c hc=>by
  have h:=hz c (mem_of_getElem? hc);have h4:=hR.four;have hl:c - 97<ws.length:=by lia
  exact ⟨ws[c - 97],List.getElem?_eq_getElem hl,getElem_mem hl,h.1,by lia⟩
 refine IH (λi σ H'=>aC H H'/\i<=(ls z).length/\∃(a3:Option V),H' p=some (.lst (((ls z).take i).map λc=>V.str (aH (wd ws c))))/\σ=[some (.ref a),some (.str z),some (.ref p),a3])
  ⟨aE hp _,zero_le _,none,aA,rfl⟩ (λi c σ H' hc hP=>?_) λσ H' hP=>?_
 ·obtain ⟨hSm,hi,a3,hpl,rfl⟩:=hP;obtain ⟨w,hw1,hw2,hc1,hc2⟩:=hw i c hc;obtain ⟨r,hr⟩:=nL hc1 hc2;have hilt:=(List.getElem?_eq_some_iff.mp hc).1;walk_at "";refine vW (aM.of hpl) ?_;walk_at "";refine nY hr ?_;refine gO (v:=.str w) (aC.seqT hSm hR.sq) (cH (by rw[getElem?_map,hw1];rfl)) ?_;walk_at "";refine cO hpl (by rw[length_map,length_take];exact Nat.lt_of_lt_of_le (show min i (ls z).length<100000 by lia) (small (by decide))) ?_;refine ⟨bQ hSm hp,hilt,_,?_,rfl⟩;rw[aA,take_add_one,hc,map_append];have e:aH (wd ws c)=w:=by unfold wd;rw[hw1];exact QZ w
  show some (HO.lst (_++[V.str w]))=some (HO.lst (_++[V.str (aH (wd ws c))]));rw[e]
 ·obtain ⟨hSm,hi,a3,hpl,rfl⟩:=hP;walk_at "";have hb:(((ls z).map λc=>aH (wd ws c)).map (·.length)).sum<=20000 * 100:=by
   refine Nat.le_trans (xT (B:=100) λx hx=>?_) (by rw[length_map,length_map];exact Nat.mul_le_mul_right _ hn);obtain ⟨y,hy,rfl⟩:=mem_map.mp hx;obtain ⟨c,hc,rfl⟩:=mem_map.mp hy;obtain ⟨i,hi'⟩:=getElem?_of_mem hc;obtain ⟨w,hw1,hw2,_⟩:=hw i c hi';rw[eJ];unfold wd;rw[hw1];show (ls w).length<=100;rw[aN];exact hR.le w hw2
  refine ⟨(ls z).map λc=>aH (wd ws c),.inl ?_,?_,?_⟩
  ·rw[hpl,List.take_length,map_map];rfl
  ·have e:(Str.ofString "").length=0:=by decide+kernel
   rw[e];lia
  ·have e:Txt.join (Str.ofString "") ((ls z).map λc=>aH (wd ws c))=img ws z:=fM (by
    rw[nN,kX,map_map,List.flatMap_def]
    congr 1)
   rw[e];exact q H' hSm
theorem Gh:PySem.W.kitOne K (.type "str") (.type "str")=some true:=by kernel_rfl
noncomputable def known (m:Int):Str:=Txt.slice wZ none (some m)
theorem gL {m:Int} (h0:0<=m) (h4:m<=4):ls (known m)=(range m.toNat).map (97+·):=by
 unfold known;rw[show ls (Txt.slice wZ none (some m))=wZ.cps.toList.take m.toNat from cF h0,wY];have:m=0\/m=1\/m=2\/m=3\/m=4:=by lia
 rcases this with rfl|rfl|rfl|rfl|rfl<;>rfl
theorem kY {m:Int} (h0:0<=m) (h4:m<=4):(known m).length=m.toNat:=by rw[<-aN,gL h0 h4,length_map,length_range]
theorem IM {m:Int} (h0:0<=m) (h4:m<=4) {k:Nat} (hk:k<m.toNat):(known m).cps.toList[k]?=some (97+k):=by
 rw[show (known m).cps.toList=ls (known m) from rfl,gL h0 h4,getElem?_map,getElem?_range hk];rfl
noncomputable def cM (K:Fg):Sp:=λvs H Q _=>∃m:Int,vs=[.int m]/\Q (.str (known m)) H
noncomputable def rC (K:Fg):List (SX K):=
 [ret (xC (YU "LETTERS" (.str "abcd")) none (some (var 0)))]
theorem CD:TT (cM K) (rC K) ["many"]:=by
 intro vs H Q E h;obtain ⟨m,rfl,q⟩:=h;unfold rC;walk_at "";exact fT (by rw[dW];decide) q
noncomputable def WB (H:Hp) (d:Addr) (ws:List Str):Prop:=∃kvs,H d=some (.dK kvs)/\(∀k w,ws[k]?=some w->cU kvs (.inr ⟨#[97+k]⟩)=some (.str w))/\∀c,¬(97<=c/\c<97+ws.length)->cU kvs (.inr ⟨#[c]⟩)=none
theorem WB.same {H H':Hp} {d:Addr} {ws:List Str} (h:WB H d ws) (e:aC H H'):WB H' d ws:=by
 obtain ⟨kvs,h1,h2,h3⟩:=h;exact ⟨kvs,e _ _ h1,h2,h3⟩
theorem WB.get {H:Hp} {d:Addr} {ws:List Str} (h:WB H d ws) {c:Nat} {w:Str} (hc:97<=c) (hw:ws[c - 97]?=some w):eN H d (sgn c) (some (.str w)):=by
 obtain ⟨kvs,h1,h2,_⟩:=h;have e:=h2 (c - 97) w hw;have:97+(c - 97)=c:=by lia
 rw[this] at e;rw[<-e];exact eN.k (k:=.inr ⟨#[c]⟩) h1
theorem WB.miss {H:Hp} {d:Addr} {ws:List Str} (h:WB H d ws) {c:Nat} (hc:¬(97<=c/\c<97+ws.length)):eN H d (sgn c) none:=by
 obtain ⟨kvs,h1,_,h3⟩:=h;rw[<-h3 c hc];exact eN.k (k:=.inr ⟨#[c]⟩) h1
structure tU (K:Fg) (H:Hp) (a:Addr) (ws:List Str):Prop where
 tp:bX K H a (ws.map V.str)
 pos:1<=ws.length
 four:ws.length<=4
theorem tU.same {H H':Hp} {a:Addr} {ws:List Str} (h:tU K H a ws) (e:aC H H'):tU K H' a ws:=⟨aC.seqT e h.tp,h.pos,h.four⟩
theorem Rl.rt {H:Hp} {a:Addr} {ws:List Str} {m:Nat} (h:Rl K H a ws m):tU K H a ws:=⟨h.sq,h.pos,h.four⟩
noncomputable def bI (K:Fg):Sp:=λvs H Q _=>∃(a:Addr) (ws:List Str),vs=[.ref a]/\tU K H a ws/\∀d H',aC H H'->H d=none->WB H' d ws->Q (.ref d) H'
noncomputable def eD (K:Fg):List (SX K):=
 [ret (PD (call "letters" (cM K) [len (var 0)]) (var 0))]
theorem cC {m:Int} (h0:0<=m) (h4:m<=4) {k:Nat} (hk:k<m.toNat):eP (known m) k=.inr ⟨#[97+k]⟩:=by
 unfold eP;rw[StrLaws.getD_of_getElem? (IM h0 h4 hk)]
theorem sD {c d:Nat} (h:(Sum.inr ⟨#[c]⟩:Key)=.inr ⟨#[d]⟩):c=d:=by
 have e2:(⟨#[c]⟩:Str)=⟨#[d]⟩:=Sum.inr.inj h;have e3:=congrArg ls e2;simp [ls] at e3;exact e3
theorem jB:TT (bI K) (eD K) ["rule"]:=by
 intro vs H Q E h;obtain ⟨a,ws,rfl,hR,q⟩:=h;have h4:=hR.four;have hq:=hR.tp;have hlen:(ws.map V.str).length=ws.length:=length_map _;unfold eD;walk_at "";refine ⟨_,rfl,?_⟩;walk_at "";have k0:(0:Int)<=((ws.map V.str).length:Nat):=by lia
 have k4:(((ws.map V.str).length:Nat):Int)<=4:=by lia
 have hkl:(known ((ws.map V.str).length:Nat)).cps.size=ws.length:=by
  show (known ((ws.map V.str).length:Nat)).length=_;rw[kY k0 k4];lia
 have hinj:∀i j,i<(known ((ws.map V.str).length:Nat)).cps.size->j<(known ((ws.map V.str).length:Nat)).cps.size->eP (known ((ws.map V.str).length:Nat)) i=eP (known ((ws.map V.str).length:Nat)) j->i=j:=λi j hi hj e=>by
  rw[hkl] at hi hj;rw[cC k0 k4 (by lia),cC k0 k4 (by lia)] at e;have:=sD e;lia
 refine ⟨_,_,ws.map V.str,rfl,.inl hq,by rw[hkl,hlen],by rw[hkl];lia,?_,hinj,λd hd=>?_⟩
 ·rw[Array.all_eq_true'];intro c hc;have hc':c∈ls (known ((ws.map V.str).length:Nat)):=by simpa [ls] using hc
  rw[gL k0 k4] at hc';obtain ⟨k,hk,rfl⟩:=mem_map.mp hc';have:=mem_range.mp hk;simp;lia
 refine q d _ (aE hd _) hd ⟨_,aA,λk w hw=>?_,λc hc=>?_⟩
 ·have hl:k<ws.length:=(List.getElem?_eq_some_iff.mp hw).1;unfold iF;rw[<-cC k0 k4 (show k<(((ws.map V.str).length:Nat):Int).toNat by lia),pS hinj (by rw[hkl];exact hl),getElem?_map,hw];rfl
 ·unfold iF cU;rw[List.find?_map];have e:(range (known ((ws.map V.str).length:Nat)).cps.size).find? ((λkv:Key × V=>decide (kv.1=.inr ⟨#[c]⟩))∘λi=>(eP (known ((ws.map V.str).length:Nat)) i,(ws.map V.str)[i]?.getD .non))=none:=by
   refine List.find?_eq_none.mpr λi hi z=>hc ?_;have hi':=mem_range.mp hi;rw[hkl] at hi';have z1:eP (known ((ws.map V.str).length:Nat)) i=.inr ⟨#[c]⟩:=of_decide_eq_true z;rw[cC k0 k4 (by lia)] at z1;have:=sD z1;lia
  rw[e];rfl
noncomputable def mX (K:Fg):Sp:=λvs H Q _=>∃(a:Addr) (ws:List Str) (z:Str),vs=[.ref a,.str z]/\tU K H a ws/\(∀w∈ws,w.length<=100)/\gX ws.length z/\z.length<=100000/\∀H',aC H H'->Q (.str (img ws z)) H'
noncomputable def RU (K:Fg):List (SX K):=
 [set 2 (call "words_by_letter" (bI K) [var 0]),
  ret (sU (cst (.str "")) (comp (ix (var 1) (var 0)) (fX 0) (iU (var 1)) ["sign"] ["word_for"] [2]))]
theorem ZM:TT (mX K) (RU K) ["rule","word","word_for"]:=by
 intro vs H Q E h;obtain ⟨a,ws,z,rfl,hR,hle,hz,hzl,q⟩:=h;unfold RU;walk_at "";refine ⟨a,ws,rfl,hR,λd H1 hS1 _ hd=>?_⟩;walk_at "";intro D hD;refine wI (λc=>.str (aH (wd ws c))) hD (small (by lia)) (λi c H2 Q' hc hS2 fin=>?_) λH2 hS2 hO=>?_
 ·have hcw:=hz c (mem_of_getElem? hc);have hl:c - 97<ws.length:=by lia
  walk_at "";have e:aH (wd ws c)=ws[c - 97]:=by
   unfold wd;rw[List.getElem?_eq_getElem hl];exact QZ _
  have f2:=fin H2 (aC.refl _);rw[e] at f2;exact qJ ((hd.same hS2).get hcw.1 (List.getElem?_eq_getElem hl)) f2
 ·walk_at "";have hb:(((ls z).map λc=>aH (wd ws c)).map (·.length)).sum<=100000 * 100:=by
   refine Nat.le_trans (xT (B:=100) λx hx=>?_) (by rw[length_map,length_map,aN];exact Nat.mul_le_mul_right _ hzl);obtain ⟨y,hy,rfl⟩:=mem_map.mp hx;obtain ⟨c,hc,rfl⟩:=mem_map.mp hy;have hcw:=hz c hc;have hl:c - 97<ws.length:=by lia
   rw[eJ];unfold wd;rw[List.getElem?_eq_getElem hl];show (ls ws[c - 97]).length<=100;rw[aN];exact hle _ (getElem_mem hl)
  refine ⟨(ls z).map λc=>aH (wd ws c),.inl ?_,?_,?_⟩
  ·rw[hO,map_map];rfl
  ·have e:(Str.ofString "").length=0:=by decide+kernel
   rw[e];lia
  ·have e:Txt.join (Str.ofString "") ((ls z).map λc=>aH (wd ws c))=img ws z:=fM (by
    rw[nN,kX,map_map,List.flatMap_def]
    congr 1)
   rw[e];exact q H2 (hS1.trans hS2)
noncomputable def Et (ws:List Str) (z:Str):Nat->Str
 |0=>z
 |k+1=>img ws (Et ws z k)
theorem OJ (hw:∀w∈ws,gX m w) (hz:gX m z):∀k,gX m (Et ws z k)
 |0=>hz
 |_+1=>OM hw
noncomputable instance (m:Nat) (z:Str):Decidable (gX m z):=by unfold gX;infer_instance
noncomputable def Jy (n:Nat) (m:Int):V->Bool
 | .str z=>decide (gX n z)&&decide (1<=z.length/\(z.length:Int)<=m)
 |_=>false
theorem Gg:PySem.W.kitOne K (.type "tuple") (.type "tuple")=some true:=by kernel_rfl
noncomputable def strOf:V->Str
 | .str z=>z
 |_=>⟨#[]⟩
theorem Bs:PySem.W.kitOne K (.type "int") (.type "int")=some true:=by kernel_rfl
theorem Bt:PySem.W.kitOne K (.type "int") (.type "bool")=some false:=by kernel_rfl
theorem Br:PySem.W.kitOne K (.type "list") (.type "list")=some true:=by kernel_rfl
noncomputable def jH (K:Fg):Sp:=λvs H Q _=>∃i:Int,vs=[.int i]/\Q (.bl true) H
noncomputable def lP (K:Fg):List (SX K):=
 [ret (zM (YS (var 0) QH) [pF (YS (var 0) FJ)])]
theorem uC:TT (jH K) (lP K) ["_law_found"]:=by
 intro vs H Q E h;obtain ⟨i,rfl,q⟩:=h;unfold lP;walk_at "";refine ⟨_,_,fP.int i,Bs,?_⟩;walk_at "";refine XQ ?_;walk_at "";refine ⟨_,_,fP.int i,Bt,?_⟩;walk_at "";exact q
noncomputable def cnt (z:Str) (k:Nat):Int:=((ls z).count (97+k):Nat)
noncomputable def bU (n:Nat) (z:Str):List Int:=(range n).map (cnt z)
theorem cY (n:Nat) (z:Str):(bU n z).length=n:=by unfold bU;rw[length_map,length_range]
theorem eW (h:k<n):(bU n z)[k]?=some (cnt z k):=by unfold bU;rw[getElem?_map,getElem?_range h];rfl
noncomputable def dot (xs ys:List Int):Int:=(zipWith (· * ·) xs ys).sum
noncomputable def sg (ds:List Int) (z:Str):Int:=((ls z).map λc=>ds[c - 97]?.getD 0).sum
theorem ET (f g:Nat->Int) (ds:List Int):(zipWith (· * ·) ((range ds.length).map λk=>f k+g k) ds).sum=(zipWith (· * ·) ((range ds.length).map f) ds).sum+(zipWith (· * ·) ((range ds.length).map g) ds).sum:=by
 induction ds generalizing f g with
 |nil=>rfl
 |cons d ds ih=>
  rw[length_cons,List.range_succ_eq_map];simp only [map_cons,map_map,zipWith_cons_cons,sum_cons];have e:=ih (f∘Nat.succ) (g∘Nat.succ);have e1:((λk=>f k+g k)∘Nat.succ)=λk=>(f∘Nat.succ) k+(g∘Nat.succ) k:=rfl;rw[e1,e,Int.add_mul];lia
theorem pO (ds:List Int):(zipWith (· * ·) ((range ds.length).map λ_=>(0:Int)) ds).sum=0:=by
 induction ds with
 |nil=>rfl
 |cons d ds ih=>
  rw[length_cons,List.range_succ_eq_map];simp only [map_cons,map_map,zipWith_cons_cons,sum_cons];have e1:((λ_=>(0:Int))∘Nat.succ)=λ_=>(0:Int):=rfl;rw[e1,ih,Int.zero_mul];rfl
theorem ES (ds:List Int) (j:Nat):(zipWith (· * ·) ((range ds.length).map λk=>if k=j then (1:Int) else 0) ds).sum=ds[j]?.getD 0:=by
 induction ds generalizing j with
 |nil=>rfl
 |cons d ds ih=>
  rw[length_cons,List.range_succ_eq_map];simp only [map_cons,map_map,zipWith_cons_cons,sum_cons];cases j with
  |zero=>
   have e1:((λk=>if k=0 then (1:Int) else 0)∘Nat.succ)=λ_=>(0:Int):=by funext k;simp
   rw[e1,pO];simp
  |succ j=>
   have e1:((λk=>if k=j+1 then (1:Int) else 0)∘Nat.succ)=λk=>if k=j then (1:Int) else 0:=by funext k;simp
   rw[e1,ih j];simp
theorem wC (ds:List Int):∀(l:List Nat),(∀c∈l,97<=c/\c<97+ds.length)->(zipWith (· * ·) ((range ds.length).map λk=>((l.count (97+k):Nat):Int)) ds).sum=(l.map λc=>ds[c - 97]?.getD 0).sum
 |[],_=>by
  have e:((range ds.length).map λk=>(((([]:List Nat).count (97+k):Nat)):Int))=(range ds.length).map λ_=>(0:Int):=map_congr_left λk _=>by simp
  rw[e,pO];rfl
 |c::l,h=>by
  obtain ⟨h1,h2⟩:=h c mem_cons_self;have ih:=wC ds l λd hd=>h d (mem_cons_of_mem _ hd);have e:((range ds.length).map λk=>(((c::l).count (97+k):Nat):Int))=(range ds.length).map λk=>(if k=c - 97 then (1:Int) else 0)+((l.count (97+k):Nat):Int):=by
   refine map_congr_left λk _=>?_;rw[List.count_cons];by_cases hk:k=c - 97
   ·have:c=97+k:=by lia
    rw[if_pos hk,this];simp;lia
   ·have:¬(c=97+k):=by lia
    rw[if_neg hk];simp [this]
  rw[e,ET,ES,ih,map_cons,sum_cons]
theorem oJ (h:gX ds.length z):dot (bU ds.length z) ds=sg ds z:=wC ds (ls z) h
theorem MR (h:gX n z):sg (replicate n 1) z=z.length:=by
 unfold sg;rw[<-aN];have:∀l:List Nat,(∀c∈l,97<=c/\c<97+n)->(l.map λc=>(replicate n (1:Int))[c - 97]?.getD 0).sum=(l.length:Int):=by
  intro l;induction l with
  |nil=>intro _;rfl
  |cons c l ih=>
   intro hl;have hc:=hl c mem_cons_self;rw[map_cons,sum_cons,ih λd hd=>hl d (mem_cons_of_mem _ hd),length_cons];have e:(replicate n (1:Int))[c - 97]?.getD 0=1:=by
    rw[List.getElem?_replicate,if_pos (by lia)];rfl
   rw[e];lia
 exact this (ls z) h
noncomputable def pD (ws:List Str):Nat->List Int
 |0=>replicate ws.length 1
 |t+1=>ws.map (sg (pD ws t))
theorem lW (ws:List Str):∀t,(pD ws t).length=ws.length
 |0=>length_replicate
 |_+1=>length_map _
theorem XN (z:Str) (k:Nat):0<=cnt z k:=by unfold cnt;lia
theorem XO (z:Str) (k:Nat):cnt z k<=z.length:=by
 unfold cnt;have:=List.count_le_length (a:=97+k) (l:=ls z);rw[aN] at this;lia
noncomputable def aJ (ws:List Str) (c:Nat):Bool:=match ws[c - 97]? with
 |some w=>decide (97<=c)&&(decide (1<w.length)&&decide ((ls w)[0]?=some c))
 |none=>false
noncomputable def kP (K:Fg):Sp:=λvs H Q _=>∃(z:Str) (m:Int),vs=[.str z,.int m]/\0<=m/\m<=4/\∀r H',aC H H'->H r=none->H' r=some (.lst ((bU m.toNat z).map V.int))->Q (.ref r) H'
noncomputable def wU (K:Fg):List (SX K):=
 [ret (comp (AN (var 1) (var 0)) (fX 0) (iU (call "letters" (cM K) [var 1])) ["letter"] ["word"] [0])]
theorem FT:TT (kP K) (wU K) ["word","many"]:=by
 intro vs H Q E h;obtain ⟨z,m,rfl,h0,h4,q⟩:=h;unfold wU;walk_at "";refine ⟨m,rfl,?_⟩;walk_at "";intro D hD;refine wI (λc=>.int (((ls z).count c:Nat):Int)) hD (small (by rw[kY h0 h4];lia)) (λi c H1 Q' hc hS fin=>?_) λH1 hS hO=>?_
 ·walk_at "";exact fin H1 (aC.refl _)
 ·refine q D H1 hS hD ?_;rw[hO,show (known m).cps.toList=ls (known m) from rfl,gL h0 h4,map_map];unfold bU;rw[map_map];rfl
noncomputable def EL (H:Hp) (p:Addr) (rs:List Addr) (rows:List (List Int)):Prop:=H p=some (.lst (rs.map V.ref))/\rs.length=rows.length/\∀(i:Nat) (r:Addr) (row:List Int),rs[i]?=some r->rows[i]?=some row->H r=some (.lst (row.map V.int))
theorem EL.same {H H':Hp} {p:Addr} {rs:List Addr} {rows:List (List Int)} (h:EL H p rs rows) (e:aC H H'):EL H' p rs rows:=⟨e _ _ h.1,h.2.1,λi r row a b=>e _ _ (h.2.2 i r row a b)⟩
noncomputable def rowsOf (ws:List Str):List (List Int):=ws.map (bU ws.length)
theorem sG:∀(ys:List V),(∀y∈ys,∃r,y=V.ref r)->∃rs:List Addr,ys=rs.map V.ref
 |[],_=>⟨[],rfl⟩
 |y::ys,h=>by
  obtain ⟨r,rfl⟩:=h y mem_cons_self;obtain ⟨rs,rfl⟩:=sG ys λy hy=>h y (mem_cons_of_mem _ hy);exact ⟨r::rs,rfl⟩
noncomputable def jG (K:Fg):Sp:=λvs H Q _=>∃(a:Addr) (ws:List Str),vs=[.ref a]/\tU K H a ws/\∀p rs H',aC H H'->H p=none->(∀r∈rs,H r=none)->EL H' p rs (rowsOf ws)->Q (.ref p) H'
noncomputable def BN (K:Fg):List (SX K):=
 [ret (comp (call "counts" (kP K) [var 0,len (var 1)]) (fX 0) (iU (var 0)) ["word"] ["rule"] [0])]
theorem MI:TT (jG K) (BN K) ["rule"]:=by
 intro vs H Q E h;obtain ⟨a,ws,rfl,hR,q⟩:=h;have h4:=hR.four;have hlen:(ws.map V.str).length=ws.length:=length_map _;unfold BN;walk_at "";refine RJ hR.tp ?_;intro D hD;refine DV (λi y H1=>∃r w,y=.ref r/\r≠D/\H r=none/\ws[i]?=some w/\H1 r=some (.lst ((bU ws.length w).map V.int))) hR.tp hD (small (by lia)) (λi y H1 H2 hh=>?_) (λi x H1 Q' hx hS hDs fin=>?_) λH1 ys hS hO hl hr=>?_
 ·rintro ⟨r,w,e1,e2,e3,e4,e5⟩;exact ⟨r,w,e1,e2,e3,e4,hh r _ e2 e5⟩
 ·obtain ⟨w,hw,hw2⟩:∃w,ws[i]?=some w/\x=.str w:=by
   rw[getElem?_map] at hx;cases e:ws[i]? with
   |none=>rw[e] at hx;cases hx
   |some w=>rw[e] at hx;exact ⟨w,rfl,(Option.some.inj hx).symm⟩
  subst hw2;have hq1:=aC.seqT hS hR.tp;walk_at "";refine ⟨w,_,rfl,by lia,by lia,λr H2 hS2 hr hr2=>?_⟩;obtain ⟨o,ho⟩:=hDs;rw[hlen,toNat_natCast] at hr2;refine fin (.ref r) H2 hS2 ⟨r,w,rfl,(aB ho hr).symm,?_,hw,hr2⟩;cases e:H r with
  |none=>rfl
  |some o=>rw[hS _ _ e] at hr;cases hr
 ·obtain ⟨rs,rfl⟩:=sG ys λy hy=>by
   obtain ⟨i,hi⟩:=getElem?_of_mem hy;obtain ⟨r,_,e,_⟩:=hr i y hi;exact ⟨r,e⟩
  have hget:∀i r,rs[i]?=some r->H r=none/\∃w,ws[i]?=some w/\H1 r=some (.lst ((bU ws.length w).map V.int)):=λi r hi=>by
   obtain ⟨r',w,e1,_,e3,e4,e5⟩:=hr i (.ref r) (by rw[getElem?_map,hi];rfl);cases e1;exact ⟨e3,w,e4,e5⟩
  refine q D rs H1 hS hD (λr hm=>?_) ⟨hO,?_,λi r row hi hrow=>?_⟩
  ·obtain ⟨i,hi⟩:=getElem?_of_mem hm;exact (hget i r hi).1
  ·unfold rowsOf;rw[length_map,<-hlen,<-hl,length_map]
  ·obtain ⟨_,w,e1,e2⟩:=hget i r hi;unfold rowsOf at hrow;rw[getElem?_map,e1] at hrow;cases hrow;exact e2
noncomputable def Bm:V->V->V
 | .int i,.int j=>.int (i * j)
 |_,_=>.non
theorem rH (f:Int->Int->Int) (g:V->V->V) (hg:∀i j,g (.int i) (.int j)=.int (f i j)):∀xs ys:List Int,zipWith g (xs.map V.int) (ys.map V.int)=(zipWith f xs ys).map V.int
 |[],ys=>rfl
 |x::xs,[]=>rfl
 |x::xs,y::ys=>by
  simp only [map_cons,zipWith_cons_cons,hg,rH f g hg xs ys]
theorem iA {xs:List Int} {i:Nat} {x:V} (h:(xs.map V.int)[i]?=some x):∃k,xs[i]?=some k/\x=.int k:=by
 rw[getElem?_map] at h;cases e:xs[i]? with
 |none=>rw[e] at h;cases h
 |some k=>rw[e] at h;exact ⟨k,rfl,(Option.some.inj h).symm⟩
noncomputable def ZE (xs:List Int):Prop:=∀x∈xs,0<=x/\x<=1000000
noncomputable def fR (K:Fg):Sp:=λvs H Q _=>∃(p r:Addr) (xs ys:List Int),vs=[.ref p,.ref r]/\H p=some (.lst (xs.map V.int))/\H r=some (.lst (ys.map V.int))/\ZE xs/\xs.length<=1000/\∀H',aC H H'->Q (.int (dot xs ys)) H'
noncomputable def gU (K:Fg):List (SX K):=
 [ret (sum (comp (bin .Mult (var 0) (var 1)) (LW [0,1]) (OX (var 0) (var 1)) ["count","size"] [] []))]
theorem mQ:TT (fR K) (gU K) ["row","before"]:=by
 intro vs H Q E h;obtain ⟨p,r,xs,ys,rfl,hp,hr,hF,hl,q⟩:=h;unfold gU;walk_at "";refine yW (aM.of hp) (aM.of hr) ?_;intro D hD;refine wH Bm (aM.of hp) (aM.of hr) hD (small (by rw[length_map];lia)) (λi x y H1 Q' hx hy hS fin=>?_) λH1 hS hO=>?_
 ·obtain ⟨k,hk,rfl⟩:=iA hx;obtain ⟨j,hj,rfl⟩:=iA hy;have:=hF k (mem_of_getElem? hk);walk_at "";exact fin H1 (aC.refl _)
 ·refine ⟨D,zipWith (· * ·) xs ys,rfl,?_,q H1 hS⟩;rw[hO,rH (· * ·) Bm λ_ _=>rfl]
noncomputable def eG (K:Fg):Sp:=λvs H Q _=>∃(p r:Addr) (rs:List Addr) (rows:List (List Int)) (ys:List Int),vs=[.ref p,.ref r]/\EL H p rs rows/\H r=some (.lst (ys.map V.int))/\(∀xs∈rows,ZE xs/\xs.length<=1000)/\rows.length<=1000/\
 ∀t H',aC H H'->H t=none->H' t=some (.lst ((rows.map λxs=>dot xs ys).map V.int))->Q (.ref t) H'
noncomputable def kE (K:Fg):List (SX K):=
 [ret (comp (call "signs_behind" (fR K) [var 0,var 1]) (fX 0) (iU (var 0)) ["row"] ["before"] [1])]
theorem rR:TT (eG K) (kE K) ["rows","before"]:=by
 intro vs H Q E h;obtain ⟨p,r,rs,rows,ys,rfl,hT,hr,hF,hl,q⟩:=h;unfold kE;walk_at "";refine jX (aM.of hT.1) ?_;intro D hD;have hlen:(rs.map V.ref).length=rows.length:=by rw[length_map];exact hT.2.1
 refine DX (λi=>.int ((rows[i]?.map λxs=>dot xs ys).getD 0)) (aM.of hT.1) hD (small (by lia)) (λi x H1 Q' hx hS fin=>?_) λH1 hS hO=>?_
 ·have hi:i<rows.length:=by rw[<-hlen];exact (List.getElem?_eq_some_iff.mp hx).1
  have hi2:i<rs.length:=by rw[hT.2.1];exact hi
  have ex:x=.ref rs[i]:=by
   rw[getElem?_map,List.getElem?_eq_getElem hi2] at hx;exact (Option.some.inj hx).symm
  subst ex;have hF1:=hF _ (getElem_mem hi);rw[List.getElem?_eq_getElem hi] at fin;walk_at "";refine ⟨rs[i],r,rows[i],ys,rfl,hS _ _ (hT.2.2 i _ _ (List.getElem?_eq_getElem hi2) (List.getElem?_eq_getElem hi)),hS _ _ hr,hF1.1,hF1.2,λH2 hS2=>?_⟩;exact fin H2 hS2
 ·refine q D H1 hS hD ?_;rw[hO,hlen];have e:((range rows.length).map λi=>V.int ((rows[i]?.map λxs=>dot xs ys).getD 0))=((range rows.length).map λi=>(rows[i]?.map λxs=>dot xs ys).getD 0).map V.int:=by rw[map_map];rfl
  rw[e,hV]
theorem jZ {α:Type} (x:α):∀n:Nat,(replicate n [x]).flatten=replicate n x
 |0=>rfl
 |n+1=>by rw[replicate_succ,flatten_cons,jZ x n];rfl
theorem oF {n:Nat} {z:Str} (h:z.length<=100000):ZE (bU n z):=λx hx=>by
 unfold bU at hx;obtain ⟨k,_,rfl⟩:=mem_map.mp hx;have h1:=XN z k;have h2:=XO z k;lia
theorem uG {ws:List Str} (hw:∀w∈ws,gX ws.length w) (t:Nat):((rowsOf ws).map λxs=>dot xs (pD ws t))=pD ws (t+1):=by
 unfold rowsOf;rw[map_map];show _=ws.map (sg (pD ws t));refine map_congr_left λw h=>?_;have e:=oJ (ds:=pD ws t) (z:=w) (by rw[lW];exact hw w h);rw[lW] at e;exact e
noncomputable def uL (K:Fg):Sp:=λvs H Q _=>∃(a:Addr) (ws:List Str) (t:Int),vs=[.ref a,.int t]/\tU K H a ws/\(∀w∈ws,gX ws.length w/\w.length<=100000)/\0<=t/\t<=1000000/\
 ∀r H',aC H H'->H r=none->H' r=some (.lst ((pD ws t.toNat).map V.int))->Q (.ref r) H'
noncomputable def BO (K:Fg):List (SX K):=
 [set 2 (call "table" (jG K) [var 0]),
  set 3 (bin .Mult (lst [cst (.int 1)]) (len (var 0))),
  gQ (fX 4) (nZ (var 1) []) [set 3 (call "sizes_once" (eG K) [var 2,var 3])],
  ret (var 3)]
theorem none_of {H H':Hp} {r:Addr} (e:aC H H') (h:H' r=none):H r=none:=by
 cases q:H r with
 |none=>rfl
 |some o=>rw[e _ _ q] at h;cases h
theorem MJ:TT (uL K) (BO K) ["rule","times","rows","made","turn"]:=by
 intro vs H Q E h;obtain ⟨a,ws,t,rfl,hR,hw,h0,ht,q⟩:=h;have h4:=hR.four;have hlen:(ws.map V.str).length=ws.length:=length_map _;unfold BO;walk_at "";refine ⟨a,ws,rfl,hR,λp rs H1 hS1 _ _ hT=>?_⟩;have hq1:=aC.seqT hS1 hR.tp;walk_at "";refine ⟨by show 1<=sizeLine;decide,λl hl=>?_⟩;have s2:=aE hl (.lst [V.int 1]);have hq2:=aC.seqT s2 hq1;walk_at "";refine AX (xs:=[V.int 1]) aA ⟨by lia,by lia⟩ (small (by show 1 * _<=_;lia)) λr hr=>?_;have s3:=aE hr (.lst (replicate (((ws.map V.str).length:Nat):Int).toNat [V.int 1]).flatten);walk_at "";have hrow:∀xs∈rowsOf ws,ZE xs/\xs.length<=1000:=λxs hx=>by
  unfold rowsOf at hx;obtain ⟨w,hm,rfl⟩:=mem_map.mp hx;exact ⟨oF (hw w hm).2,by rw[cY];lia⟩
 refine cV (λi σ H'=>aC H1 H'/\∃(u:Addr) (a4:Option V),H u=none/\H' u=some (.lst ((pD ws i).map V.int))/\σ=[some (.ref a),some (.int t),some (.ref p),some (.ref u),a4])
  ⟨s2.trans s3,r,none,none_of (hS1.trans s2) hr,?_,rfl⟩ (λi σ H' hi hP=>?_) λσ H' hP=>?_
 ·rw[aA,hlen,toNat_natCast,jZ];show _=some (HO.lst ((replicate ws.length (1:Int)).map V.int));rw[List.map_replicate]
 ·obtain ⟨hS,u,a4,hu,hu2,rfl⟩:=hP;walk_at "";refine ⟨p,u,rs,rowsOf ws,pD ws i,rfl,hT.same hS,hu2,hrow,?_,λv H2 hS2 hv hv2=>?_⟩
  ·unfold rowsOf;rw[length_map];lia
  ·rw[uG λw hm=>(hw w hm).1] at hv2;exact ⟨hS.trans hS2,v,_,none_of (hS1.trans hS) hv,hv2,rfl⟩
 ·obtain ⟨hS,u,a4,hu,hu2,rfl⟩:=hP;walk_at "";exact q u H' (hS1.trans hS) hu hu2
theorem xV (w:Str) (c:Nat) (h:1<=w.length):Txt.startswith w ⟨#[c]⟩=decide ((ls w)[0]?=some c):=by
 unfold Txt.startswith;have e:=StrLaws.subAt_one w c 0;rw[Bool.eq_iff_iff,decide_eq_true_iff];show (decide ((⟨#[c]⟩:Str).length<=w.length)&&_)=true↔_;rw[and_eq_true];constructor
 ·rintro ⟨h1,h2⟩;exact e.mp ⟨by simpa using of_decide_eq_true h1,h2⟩
 ·intro z;obtain ⟨h1,h2⟩:=e.mpr z;exact ⟨decide_eq_true h,h2⟩
noncomputable def uM (K:Fg):Sp:=λvs H Q _=>∃(a:Addr) (ws:List Str) (c:Nat),vs=[.ref a,sgn c]/\tU K H a ws/\(∀w∈ws,1<=w.length/\w.length<=100)/\97<=c/\∀H',aC H H'->Q (.bl (aJ ws c)) H'
noncomputable def BP (K:Fg):List (SX K):=
 [set 2 (RE (call "words_by_letter" (bI K) [var 0]) (var 1) (cst (.str ""))),
  ret (zM (cmp .Gt (len (var 2)) (cst (.int 1))) [m_startswith (var 2) (var 1)])]
theorem MK:TT (uM K) (BP K) ["rule","start","word"]:=by
 intro vs H Q E h;obtain ⟨a,ws,c,rfl,hR,hle,hc,q⟩:=h;unfold BP;walk_at "";refine ⟨a,ws,rfl,hR,λd H1 hS1 _ hd=>?_⟩;obtain ⟨kvs,hk,_⟩:=id hd;refine Hb hk ?_;walk_at "";have f:=q H1 hS1;unfold aJ at f;by_cases hl:c - 97<ws.length
 ·have hw:=hle _ (getElem_mem hl);refine JE (hd.get hc (List.getElem?_eq_getElem hl)) ?_;rw[List.getElem?_eq_getElem hl] at f;rw[show (some (V.str ws[c - 97])).getD (V.str (Str.ofString ""))=V.str ws[c - 97] from rfl];walk_at "";refine gN (small (by lia)) ?_;walk_at "";simp only [decide_eq_true hc,Bool.true_and] at f;refine lC (λc1=>?_) λc1=>?_
  ·walk_at "";show Q (.bl (Txt.startswith ws[c - 97] ⟨#[c]⟩)) H1;rw[xV _ _ hw.1];rw[decide_eq_true (show 1<(ws[c - 97]).length by lia),Bool.true_and] at f;exact f
  ·rw[decide_eq_false (show ¬1<(ws[c - 97]).length by lia),Bool.false_and] at f;rw[decide_eq_false c1];exact f
 ·refine JE (hd.miss (by lia)) ?_;rw[List.getElem?_eq_none_iff.mpr (by lia)] at f;rw[show (none:Option V).getD (V.str (Str.ofString ""))=V.str (Str.ofString "") from rfl];walk_at "";refine gN (by decide+kernel) ?_;walk_at "";have e:(Str.ofString "").length=0:=by decide+kernel
  refine lC (λc1=>?_) λc1=>?_
  ·rw[e] at c1;lia
  ·rw[decide_eq_false c1];exact f
theorem vV {E:XS} {σ:St} {H:Hp} {D:Ends} {o i a:EX K} (h:a.t E σ H λx H1=>o.t E σ H1 λy H2=>i.t E σ H2 λz H3=>MW y z x H3 λH4=>D.nx σ H4):(put o i a).t E D σ H:=h
theorem yX {H:Hp} {Q:Hp->Prop} {p:Addr} {xs:List V} {k:Nat} {v:V} (e:H p=some (.lst xs)) (hk:k<xs.length) (h:Q (upd H p (.lst (xs.set k v)))):MW (.ref p) (.int k) v H Q:=
 .inl ⟨p,xs,k,k,rfl,rfl,e,by unfold LZ;rw[if_pos (by lia),if_pos (by lia)];simp,h⟩
theorem MM {ws:List Str} {i:Nat} {x:V} (h:(ws.map V.str)[i]?=some x):∃w,ws[i]?=some w/\x=.str w:=by
 rw[getElem?_map] at h;cases e:ws[i]? with
 |none=>rw[e] at h;cases h
 |some w=>rw[e] at h;exact ⟨w,rfl,(Option.some.inj h).symm⟩
theorem BH (ns:List Int) (lo hi:Option Int):∃ms:List Int,kC (ns.map V.int) lo hi=ms.map V.int/\ms.length<=ns.length:=by
 refine ⟨(ns.drop (HT.cL ns.length 0 lo)).take (HT.cL ns.length ns.length hi - HT.cL ns.length 0 lo),?_,?_⟩
 ·unfold kC;rw[length_map,List.map_take,List.map_drop]
 ·rw[length_take,length_drop];lia
noncomputable def BV (m:List Int) (x:Int) (row:List Int):List Int:=zipWith (·+·) m (row.map (x * ·))
noncomputable def accN (rows:List (List Int)) (ns:List Int):Nat->List Int
 |0=>replicate rows.length 0
 |k+1=>BV (accN rows ns k) (ns[k]?.getD 0) (rows[k]?.getD [])
noncomputable def lO (rows:List (List Int)) (ns:List Int):List Int:=accN rows ns rows.length
noncomputable def zL (rows:List (List Int)) (ns:List Int):Nat->List Int
 |0=>ns
 |t+1=>lO rows (zL rows ns t)
theorem tM {rows:List (List Int)} {ns:List Int} (h:∀r∈rows,r.length=rows.length):∀k,k<=rows.length->(accN rows ns k).length=rows.length
 |0,_=>length_replicate
 |k+1,hk=>by
  show (zipWith _ _ _).length=_;have hk':k<rows.length:=by lia
  rw[length_zipWith,tM h k (by lia),length_map,List.getElem?_eq_getElem hk'];show min _ (rows[k]).length=_;rw[h _ (getElem_mem hk')];lia
theorem BU {rows:List (List Int)} {ns:List Int} (h:∀r∈rows,r.length=rows.length) {j:Nat} (hj:j<rows.length):∀k,k<=rows.length->(accN rows ns k)[j]?=some (((range k).map λi=>(ns[i]?.getD 0) * ((rows[i]?.getD [])[j]?.getD 0)).sum)
 |0,_=>by
  show (replicate rows.length (0:Int))[j]?=_;rw[List.getElem?_replicate,if_pos hj];rfl
 |k+1,hk=>by
  have hk':k<rows.length:=by lia
  have hr:j<(rows[k]).length:=by rw[h _ (getElem_mem hk')];exact hj
  have e1:((rows[k]?.getD []).map ((ns[k]?.getD 0) * ·))[j]?=some ((ns[k]?.getD 0) * (rows[k])[j]):=by
   rw[getElem?_map,List.getElem?_eq_getElem hk'];show Option.map _ (rows[k])[j]?=_;rw[List.getElem?_eq_getElem hr];rfl
  have e2:((rows[k]?.getD [])[j]?.getD 0)=(rows[k])[j]:=by
   rw[List.getElem?_eq_getElem hk'];show (rows[k])[j]?.getD 0=_;rw[List.getElem?_eq_getElem hr];rfl
  show (zipWith _ _ _)[j]?=_;rw[List.getElem?_zipWith,BU h hj k (by lia),e1,range_succ,map_append,List.sum_append];simp only [map_cons,map_nil,sum_cons,List.sum_nil,Int.add_zero,e2]
theorem jP (ws:List Str):∀r∈rowsOf ws,r.length=(rowsOf ws).length:=λr hr=>by
 unfold rowsOf at hr ⊢;obtain ⟨w,_,rfl⟩:=mem_map.mp hr;rw[cY,length_map]
theorem bB (ws:List Str):(rowsOf ws).length=ws.length:=length_map _
theorem CN {ws:List Str} {i:Nat} (h:i<ws.length) (h2:i<(rowsOf ws).length):(rowsOf ws)[i]=bU ws.length ws[i]:=List.getElem_map ..
theorem qV (ws:List Str) (ns:List Int):(lO (rowsOf ws) ns).length=ws.length:=by
 unfold lO;rw[tM (jP ws) _ (Nat.le_refl _),bB]
theorem BX (f g:Nat->Int):∀(n:Nat),(zipWith (· * ·) ((range n).map f) ((range n).map g))=(range n).map λi=>f i * g i:=by
 intro n;rw[List.zipWith_map];induction n generalizing f g with
 |zero=>rfl
 |succ n ih=>
  rw[List.range_succ_eq_map];simp only [zipWith_cons_cons,map_cons,List.zipWith_map,map_map];have e:=ih (f∘Nat.succ) (g∘Nat.succ)
  congr 1
theorem zK {ws:List Str} {z:Str} (hz:gX ws.length z):lO (rowsOf ws) (bU ws.length z)=bU ws.length (img ws z):=by
 refine ext_getElem? λj=>?_;by_cases hj:j<ws.length
 ·unfold lO;rw[BU (jP ws) (by rw[bB];exact hj) _ (Nat.le_refl _),eW hj,bB]
  congr 1
  have e:((range ws.length).map λi=>((bU ws.length z)[i]?.getD 0) * (((rowsOf ws)[i]?.getD [])[j]?.getD 0))=(range ws.length).map λi=>cnt z i * ((ws.map λw=>cnt w j)[i]?.getD 0):=by
   refine map_congr_left λi hi=>?_;have hi':=mem_range.mp hi;unfold rowsOf;rw[eW hi',getElem?_map,getElem?_map,List.getElem?_eq_getElem hi'];show cnt z i * ((bU ws.length ws[i])[j]?.getD 0)=cnt z i * cnt ws[i] j;rw[eW hj];rfl
  have hl:(ws.map λw=>cnt w j).length=ws.length:=length_map _;have d:=oJ (ds:=ws.map λw=>cnt w j) (z:=z) (by rw[hl];exact hz);unfold dot bU at d;rw[hl] at d;have e2:(ws.map λw=>cnt w j)=(range ws.length).map λi=>(ws.map λw=>cnt w j)[i]?.getD 0:=by
   have e3:=hV ws (λw=>cnt w j) 0;rw[<-e3];refine map_congr_left λi hi=>?_;have hi':=mem_range.mp hi;rw[e3,getElem?_map]
  rw[e,<-BX (cnt z) λi=>(ws.map λw=>cnt w j)[i]?.getD 0,<-e2,d];unfold sg cnt;rw[kX];have:∀l:List Nat,(∀c∈l,97<=c/\c<97+ws.length)->(l.map λc=>(ws.map λw=>(((ls w).count (97+j):Nat):Int))[c - 97]?.getD 0).sum=(((l.flatMap (wd ws)).count (97+j):Nat):Int):=by
   intro l;induction l with
   |nil=>intro _;rfl
   |cons c l ih=>
    intro hc;have h1:=hc c mem_cons_self;have hlt:c - 97<ws.length:=by lia
    have e5:wd ws c=ls ws[c - 97]:=by
     unfold wd;rw[List.getElem?_eq_getElem hlt];rfl
    rw[map_cons,sum_cons,ih λd hd=>hc d (mem_cons_of_mem _ hd),List.flatMap_cons,List.count_append,e5,getElem?_map,List.getElem?_eq_getElem hlt];show (((ls ws[c - 97]).count (97+j):Nat):Int)+_=_;lia
  exact this (ls z) hz
 ·rw[List.getElem?_eq_none_iff.mpr (by rw[qV];lia),List.getElem?_eq_none_iff.mpr (by rw[cY];lia)]
theorem wN {ws:List Str} {z:Str} (hw:∀w∈ws,gX ws.length w) (hz:gX ws.length z):∀t,zL (rowsOf ws) (bU ws.length z) t=bU ws.length (Et ws z t)
 |0=>rfl
 |t+1=>by
  show lO (rowsOf ws) (zL (rowsOf ws) (bU ws.length z) t)=_;rw[wN hw hz t,zK (OJ hw hz t)];rfl
theorem tJ {ws:List Str} {ns:List Int} (h:ns.length=ws.length):∀t,(zL (rowsOf ws) ns t).length=ws.length
 |0=>h
 |_+1=>qV ws _
theorem DD {σ:St} {H:Hp} {D:Ends} {p r:Addr} {xs ys:List V} {m n:Nat} {tb:TS} (hp:aM K H p xs) (hr:aM K H r ys) (Pv:Nat->St->Hp->Prop) (h0:Pv 0 σ H) (hk:∀i σ1 H1,Pv i σ1 H1->aC H H1)
  (hs:∀i x y σ1 H1 H2,xs[i]?=some x->ys[i]?=some y->Pv i σ1 H1->aC H1 H2->tb {D with nx:=Pv (i+1),ct:=Pv (i+1),bk:=D.nx} ((σ1.set m (some x)).set n (some y)) H2) (hd:∀σ1 H1,Pv (min xs.length ys.length) σ1 H1->D.nx σ1 H1):
  kJ (El K p r) (LW [m,n]:TX K).g tb D σ H:=by
 refine ⟨λi k σ1 H1=>k=min xs.length ys.length - i/\i<=min xs.length ys.length/\Pv i σ1 H1,⟨_,rfl,zero_le _,h0⟩,?_⟩;rintro i k σ1 H1 ⟨rfl,hi,hP⟩;have hS:=hk i σ1 H1 hP;have hp1:=hS.seq hp;have hr1:=hS.seq hr;by_cases hlt:i<min xs.length ys.length
 ·have l1:i<xs.length:=by lia
  have l2:i<ys.length:=by lia
  refine .inr ⟨⟨xs,ys,xs[i],ys[i],hp1,hr1,List.getElem?_eq_getElem l1,List.getElem?_eq_getElem l2⟩,Pv (i+1),λσ3 H3 q=>⟨min xs.length ys.length - (i+1),by lia,rfl,hlt,q⟩,?_⟩;rintro v H' ⟨a,x,y,ha,rfl,rfl,hx,hy⟩;exact sX (bX.of aA) (hs i x y σ1 H1 _ (hx _ hp1) (hy _ hr1) hP (aE ha _))
 ·have e:i=min xs.length ys.length:=by lia
  subst e;exact .inl ⟨⟨xs,ys,hp1,hr1,by lia⟩,hd σ1 H1 hP⟩
noncomputable def Ed:V->V->V
 | .int i,.int j=>.int (i+j)
 |_,_=>.non
noncomputable def mZ (K:Fg):Sp:=λvs H Q _=>∃(p r:Addr) (xs ys:List Int),vs=[.ref p,.ref r]/\H p=some (.lst (xs.map V.int))/\H r=some (.lst (ys.map V.int))/\xs.length<=1000/\∀t H',aC H H'->H t=none->H' t=some (.lst ((zipWith (·+·) xs ys).map V.int))->Q (.ref t) H'
noncomputable def BQ (K:Fg):List (SX K):=
 [ret (comp (bin .Add (var 0) (var 1)) (LW [0,1]) (OX (var 0) (var 1)) ["left","right"] [] [])]
theorem ML:TT (mZ K) (BQ K) ["one","other"]:=by
 intro vs H Q E h;obtain ⟨p,r,xs,ys,rfl,hp,hr,hl,q⟩:=h;unfold BQ;walk_at "";refine yW (aM.of hp) (aM.of hr) ?_;intro D hD;refine wH Ed (aM.of hp) (aM.of hr) hD (small (by rw[length_map];lia)) (λi x y H1 Q' hx hy hS fin=>?_) λH1 hS hO=>?_
 ·obtain ⟨k,hk,rfl⟩:=iA hx;obtain ⟨j,hj,rfl⟩:=iA hy;walk_at "";exact fin H1 (aC.refl _)
 ·refine q D H1 hS hD ?_;rw[hO,rH (·+·) Ed λ_ _=>rfl]
noncomputable def SR (x:Int):V->V
 | .int j=>.int (x * j)
 |_=>.non
noncomputable def gD (K:Fg):Sp:=λvs H Q _=>∃(p r:Addr) (rs:List Addr) (ws:List Str) (ns:List Int),vs=[.ref p,.ref r]/\EL H p rs (rowsOf ws)/\H r=some (.lst (ns.map V.int))/\ns.length=ws.length/\ws.length<=4/\(∀w∈ws,w.length<=100000)/\
 ∀t H',aC H H'->H t=none->H' t=some (.lst ((lO (rowsOf ws) ns).map V.int))->Q (.ref t) H'
noncomputable def iN (K:Fg):List (SX K):=
 [set 2 (bin .Mult (lst [cst (.int 0)]) (len (var 0))),
  gQ (LW [3,4]) (OX (var 1) (var 0)) [set 2 (call "added" (mZ K) [var 2,comp (bin .Mult (var 1) (var 0)) (fX 0) (iU (var 4)) ["count"] ["number"] [3]])],
  ret (var 2)]
theorem pC:TT (gD K) (iN K) ["rows","numbers","made","number","row"]:=by
 intro vs H Q E h;obtain ⟨p,r,rs,ws,ns,rfl,hT,hr,hl,h4,hw,q⟩:=h;have hrl:(rs.map V.ref).length=ws.length:=by rw[length_map,hT.2.1,bB]
 have hnl:(ns.map V.int).length=ws.length:=by rw[length_map,hl]
 unfold iN;walk_at "";refine ⟨by show 1<=sizeLine;decide,λl hl'=>?_⟩;have s1:=aE hl' (.lst [V.int 0]);have hqq:aM K (upd H l (.lst [V.int 0])) p (rs.map V.ref):=aM.of (s1 _ _ hT.1);walk_at "";refine AX (xs:=[V.int 0]) aA ⟨by lia,by lia⟩ (small (by show 1 * _<=_;lia)) λl2 hl2=>?_;have s2:=aE hl2 (.lst (replicate (((rs.map V.ref).length:Nat):Int).toNat [V.int 0]).flatten);have s12:=s1.trans s2;walk_at "";have gp:=s12 _ _ hT.1;have gr:=s12 _ _ hr;refine yW (aM.of gr) (aM.of gp) ?_;refine DD (aM.of gr) (aM.of gp) (λi σ H'=>aC (upd (upd H l (.lst [V.int 0])) l2 (.lst (replicate (((rs.map V.ref).length:Nat):Int).toNat [V.int 0]).flatten)) H'/\∃(u:Addr) (a3 a4:Option V),H u=none/\H' u=some (.lst ((accN (rowsOf ws) ns i).map V.int))/\σ=[some (.ref p),some (.ref r),some (.ref u),a3,a4])
  ⟨aC.refl _,l2,none,none,none_of s1 hl2,?_,rfl⟩ (λi σ1 H1 hP=>hP.1) (λi x y σ1 H1 H2 hx hy hP hS2=>?_) λσ1 H1 hP=>?_
 ·rw[aA,hrl,toNat_natCast,jZ];show _=some (HO.lst ((replicate (rowsOf ws).length (0:Int)).map V.int));rw[List.map_replicate,bB]
 ·obtain ⟨hS1,u,a3,a4,hu,hu1,rfl⟩:=hP;obtain ⟨k,hk,rfl⟩:=iA hx;have hi:i<ws.length:=by rw[<-hl];exact (List.getElem?_eq_some_iff.mp hk).1
  have hi2:i<rs.length:=by rw[hT.2.1,bB];exact hi
  have hi3:i<(rowsOf ws).length:=by rw[bB];exact hi
  have ey:y=.ref rs[i]:=by
   rw[getElem?_map,List.getElem?_eq_getElem hi2] at hy;exact (Option.some.inj hy).symm
  subst ey;have hrow:H2 rs[i]=some (.lst (((rowsOf ws)[i]).map V.int)):=hS2 _ _ (hS1 _ _ (s12 _ _ (hT.2.2 i _ _ (List.getElem?_eq_getElem hi2) (List.getElem?_eq_getElem hi3))));have hfew:ZE ((rowsOf ws)[i]):=by
   rw[CN hi hi3];exact oF (hw _ (getElem_mem hi))
  have hrowl:((rowsOf ws)[i]).length=ws.length:=by rw[jP ws _ (getElem_mem hi3),bB]
  walk_at "";refine jX (aM.of hrow) ?_;intro D hD;refine KL (SR k) (aM.of hrow) hD (small (by rw[length_map];lia)) (λj x H3 Q' hx3 hS3 fin=>?_) λH3 hS3 hO=>?_
  ·obtain ⟨c,hc,rfl⟩:=iA hx3;have:=hfew c (mem_of_getElem? hc);walk_at "";exact fin H3 (aC.refl _)
  ·walk_at "";have hO2:H3 D=some (.lst ((((rowsOf ws)[i]).map (k * ·)).map V.int)):=by
    rw[hO,map_map,map_map];rfl
   refine ⟨u,D,_,_,rfl,hS3 _ _ (hS2 _ _ hu1),hO2,?_,λt H4 hS4 ht ht4=>?_⟩
   ·rw[tM (jP ws) _ (by lia),bB];lia
   ·have hSS:=(hS1.trans hS2).trans hS3;refine ⟨hSS.trans hS4,t,_,_,none_of (s12.trans hSS) ht,?_,rfl⟩;rw[ht4];show _=some (HO.lst ((BV (accN (rowsOf ws) ns i) (ns[i]?.getD 0) ((rowsOf ws)[i]?.getD [])).map V.int));rw[hk,List.getElem?_eq_getElem hi3];rfl
 ·obtain ⟨hS1,u,a3,a4,hu,hu1,rfl⟩:=hP;walk_at "";refine q u H1 (s12.trans hS1) hu ?_;rw[hu1,hnl,hrl,Nat.min_self];unfold lO;rw[bB]
noncomputable def eR (K:Fg):Sp:=λvs H Q _=>∃(a r:Addr) (ws:List Str) (ns:List Int) (t:Int),vs=[.ref a,.ref r,.int t]/\tU K H a ws/\H r=some (.lst (ns.map V.int))/\ns.length=ws.length/\(∀w∈ws,w.length<=100000)/\0<=t/\t<=1000000/\
 ∀u H',aC H H'->H u=none->H' u=some (.lst ((zL (rowsOf ws) ns t.toNat).map V.int))->Q (.ref u) H'
noncomputable def fV (K:Fg):List (SX K):=
 [set 3 (call "table" (jG K) [var 0]),
  set 4 (listE (var 1)),
  gQ (fX 5) (nZ (var 2) []) [set 4 (call "counts_once" (gD K) [var 3,var 4])],
  ret (var 4)]
theorem lT:TT (eR K) (fV K) ["rule","numbers","times","rows","made","turn"]:=by
 intro vs H Q E h;obtain ⟨a,r,ws,ns,t,rfl,hR,hr,hl,hw,h0,ht,q⟩:=h;unfold fV;walk_at "";refine ⟨a,ws,rfl,hR,λp rs H1 hS1 _ _ hT=>?_⟩;walk_at "";refine ⟨_,.inl (aM.of (hS1 _ _ hr)),λl hl'=>?_⟩;have s2:=aE hl' (.lst (ns.map V.int));walk_at "";refine cV (λi σ H'=>aC H1 H'/\∃(u:Addr) (a5:Option V),H u=none/\H' u=some (.lst ((zL (rowsOf ws) ns i).map V.int))/\σ=[some (.ref a),some (.ref r),some (.int t),some (.ref p),some (.ref u),a5])
  ⟨s2,l,none,none_of hS1 hl',aA,rfl⟩ (λi σ H' hi hP=>?_) λσ H' hP=>?_
 ·obtain ⟨hS,u,a5,hu,hu2,rfl⟩:=hP;walk_at "";refine ⟨p,u,rs,ws,_,rfl,hT.same hS,hu2,tJ hl i,hR.four,hw,λv H2 hS2 hv hv2=>?_⟩;exact ⟨hS.trans hS2,v,_,none_of (hS1.trans hS) hv,hv2,rfl⟩
 ·obtain ⟨hS,u,a5,hu,hu2,rfl⟩:=hP;walk_at "";exact q u H' (hS1.trans hS) hu hu2
theorem zV (h:j<ws.length):∃x,(pD ws k)[j]?=some x:=⟨(pD ws k)[j]'(by rw[lW];exact h),List.getElem?_eq_getElem _⟩
noncomputable def sz (ws:List Str) (k c:Nat):Int:=(pD ws k)[c - 97]?.getD 0
noncomputable def aP (ws:List Str) (k:Nat) (l:List Nat):Int:=(l.map (sz ws k)).sum
theorem lX (h2:c - 97<ws.length):sz ws 0 c=1:=by
 show (replicate ws.length (1:Int))[c - 97]?.getD 0=1;rw[List.getElem?_replicate,if_pos h2];rfl
theorem gY (h2:c - 97<ws.length):sz ws (k+1) c=aP ws k (wd ws c):=by
 show (ws.map (sg (pD ws k)))[c - 97]?.getD 0=_;rw[getElem?_map,List.getElem?_eq_getElem h2];unfold wd;rw[List.getElem?_eq_getElem h2];rfl
structure Ru (ws:List Str):Prop where
 pos:1<=ws.length
 four:ws.length<=4
 isw:∀w∈ws,gX ws.length w
 one:∀w∈ws,1<=w.length
 le:∀w∈ws,w.length<=100
theorem Ru.word (h:Ru ws) (h2:c - 97<ws.length):∃w,ws[c - 97]?=some w/\wd ws c=ls w/\w∈ws:=by
 refine ⟨ws[c - 97],List.getElem?_eq_getElem h2,?_,getElem_mem h2⟩;unfold wd;rw[List.getElem?_eq_getElem h2];rfl
theorem Ru.sign (h:Ru ws) (h2:c - 97<ws.length) (hd:d∈wd ws c):97<=d/\d - 97<ws.length:=by
 obtain ⟨w,_,e,hm⟩:=h.word h2;rw[e] at hd;have:=h.isw w hm d hd;lia
theorem jF (h:∀c∈l,1<=sz ws k c):(l.length:Int)<=aP ws k l:=by
 induction l with
 |nil=>exact Int.le_refl _
 |cons c l ih=>
  have h1:=h c mem_cons_self;have h2:=ih λd hd=>h d (mem_cons_of_mem _ hd);have e:aP ws k (c::l)=sz ws k c+aP ws k l:=by unfold aP;rw[map_cons,sum_cons]
  rw[e,length_cons];lia
theorem FU (h:Ru ws):∀(k c:Nat),c - 97<ws.length->1<=sz ws k c
 |0,c,h2=>by rw[lX h2];exact Int.le_refl _
 |k+1,c,h2=>by
  rw[gY h2];have:=jF (ws:=ws) (k:=k) (l:=wd ws c) λd hd=>FU h k d (h.sign h2 hd).2;obtain ⟨w,_,e,hm⟩:=h.word h2;have h1:=h.one w hm;rw[e,aN] at this;rw[e];lia
noncomputable def bC (ws:List Str) (k:Nat):List Nat->Int->Nat × Int
 |[],x=>(0,x)
 |c::l,x=>if sz ws k c<=x then ((bC ws k l (x - sz ws k c)).1+1,(bC ws k l (x - sz ws k c)).2) else (0,x)
theorem tE:∀(l:List Nat) (x:Int),0<=x->x<aP ws k l->(bC ws k l x).1<l.length/\0<=(bC ws k l x).2/\(∀d,l[(bC ws k l x).1]?=some d->(bC ws k l x).2<sz ws k d)/\(bC ws k l x).2=x - aP ws k (l.take (bC ws k l x).1)
 |[],x,h0,h=>by
  have e:aP ws k []=0:=rfl;rw[e] at h;lia
 |c::l,x,h0,h=>by
  have e:aP ws k (c::l)=sz ws k c+aP ws k l:=by unfold aP;rw[map_cons,sum_cons]
  rw[e] at h;unfold bC;by_cases hc:sz ws k c<=x
  ·rw[if_pos hc];obtain ⟨h1,h2,h3,h4⟩:=tE (ws:=ws) (k:=k) l (x - sz ws k c) (by lia) (by lia);refine ⟨by rw[length_cons];show _+1<_;lia,h2,λd hd=>h3 d (by simpa using hd),?_⟩;show (bC ws k l (x - sz ws k c)).2=x - aP ws k ((c::l).take ((bC ws k l (x - sz ws k c)).1+1));rw[take_succ_cons];have e2:aP ws k (c::l.take (bC ws k l (x - sz ws k c)).1)=sz ws k c+aP ws k (l.take (bC ws k l (x - sz ws k c)).1):=by unfold aP;rw[map_cons,sum_cons]
   rw[e2,h4];lia
  ·rw[if_neg hc];refine ⟨by rw[length_cons];show 0<_;lia,h0,λd hd=>?_,?_⟩
   ·have hd':c=d:=by simpa using hd
    subst hd';show x<_;lia
   ·show x=x - aP ws k ((c::l).take 0);rw[take_zero];have e0:aP ws k []=0:=rfl;rw[e0];lia
theorem vY:∀(l:List Nat) (x:Int) (s:Nat) (d:Nat),s<=(bC ws k l x).1->l[s]?=some d->(s<(bC ws k l x).1↔sz ws k d<=x - aP ws k (l.take s))
 |[],x,s,d,_,hd=>by simp at hd
 |c::l,x,0,d,_,hd=>by
  have hd':c=d:=by simpa using hd
  subst hd';have e0:aP ws k ((c::l).take 0)=0:=rfl;rw[e0];unfold bC;by_cases hc:sz ws k c<=x
  ·rw[if_pos hc];constructor
   ·intro _;lia
   ·intro _;show 0<_+1;lia
  ·rw[if_neg hc];constructor
   ·intro z;exact absurd z (Nat.lt_irrefl 0)
   ·intro z;lia
 |c::l,x,s+1,d,hs,hd=>by
  unfold bC at hs ⊢;by_cases hc:sz ws k c<=x
  ·rw[if_pos hc] at hs ⊢;have ih:=vY (ws:=ws) (k:=k) l (x - sz ws k c) s d (by have:s+1<=(bC ws k l (x - sz ws k c)).1+1:=hs;lia) (by simpa using hd);have e2:aP ws k ((c::l).take (s+1))=sz ws k c+aP ws k (l.take s):=by rw[take_succ_cons];unfold aP;rw[map_cons,sum_cons]
   rw[e2];constructor
   ·intro z;have:=ih.mp (by have:s+1<(bC ws k l (x - sz ws k c)).1+1:=z;lia);lia
   ·intro z;have:=ih.mpr (by lia);show s+1<_+1;lia
  ·rw[if_neg hc] at hs;have:s+1<=0:=hs;lia
noncomputable def cX (ws:List Str):Nat->Nat->Int->List (Nat × Nat)
 |0,_,_=>[]
 |k+1,c,x=>((bC ws k (wd ws c) x).1,(wd ws c)[(bC ws k (wd ws c) x).1]?.getD 0)::cX ws k ((wd ws c)[(bC ws k (wd ws c) x).1]?.getD 0) (bC ws k (wd ws c) x).2
noncomputable def bM (ws:List Str):Nat->Nat->Int->Nat->Nat × Int
 |_,c,x,0=>(c,x)
 |0,c,x,_+1=>(c,x)
 |k+1,c,x,i+1=>bM ws k ((wd ws c)[(bC ws k (wd ws c) x).1]?.getD 0) (bC ws k (wd ws c) x).2 i
theorem bT (ws:List Str):∀k c x,(cX ws k c x).length=k
 |0,_,_=>rfl
 |k+1,c,x=>by show (cX ws k _ _).length+1=_;rw[bT ws k]
noncomputable def Good (ws:List Str) (k c:Nat) (x:Int):Prop:=97<=c/\c - 97<ws.length/\0<=x/\x<sz ws k c
theorem Good.step (h:Ru ws) (g:Good ws (k+1) c x):∃d,(wd ws c)[(bC ws k (wd ws c) x).1]?=some d/\Good ws k d (bC ws k (wd ws c) x).2:=by
 obtain ⟨g1,g2,g3,g4⟩:=g;rw[gY g2] at g4;obtain ⟨h1,h2,h3,h4⟩:=tE (wd ws c) x g3 g4;refine ⟨(wd ws c)[(bC ws k (wd ws c) x).1],List.getElem?_eq_getElem h1,?_⟩;obtain ⟨s1,s2⟩:=h.sign g2 (getElem_mem h1);exact ⟨s1,s2,h2,h3 _ (List.getElem?_eq_getElem h1)⟩
theorem kA (h:Ru ws):∀(k c:Nat) (x:Int) (i:Nat),Good ws k c x->i<=k->Good ws (k - i) (bM ws k c x i).1 (bM ws k c x i).2
 |k,c,x,0,g,_=>by unfold bM;exact g
 |0,c,x,i+1,g,hi=>by lia
 |k+1,c,x,i+1,g,hi=>by
  obtain ⟨d,hd,g'⟩:=g.step h;have e:bM ws (k+1) c x (i+1)=bM ws k d (bC ws k (wd ws c) x).2 i:=by
   show bM ws k ((wd ws c)[(bC ws k (wd ws c) x).1]?.getD 0) (bC ws k (wd ws c) x).2 i=_;rw[hd];rfl
  rw[e,show k+1 - (i+1)=k - i by lia];exact kA h k d _ i g' (by lia)
theorem oE:∀(k c:Nat) (x:Int) (i:Nat),i<k->bM ws k c x (i+1)=((wd ws (bM ws k c x i).1)[(bC ws (k - i - 1) (wd ws (bM ws k c x i).1) (bM ws k c x i).2).1]?.getD 0,(bC ws (k - i - 1) (wd ws (bM ws k c x i).1) (bM ws k c x i).2).2)
 |0,_,_,_,h=>by lia
 |k+1,c,x,0,_=>by
  have e:bM ws (k+1) c x 0=(c,x):=by unfold bM;rfl
  rw[e];show bM ws k _ _ 0=_;unfold bM;cases k<;>rfl
 |k+1,c,x,i+1,h=>by
  have ih:=oE (ws:=ws) k ((wd ws c)[(bC ws k (wd ws c) x).1]?.getD 0) (bC ws k (wd ws c) x).2 i (by lia);show bM ws k _ _ (i+1)=_;rw[ih,show k+1 - (i+1) - 1=k - i - 1 by lia];rfl
theorem tF:∀(k c:Nat) (x:Int) (i:Nat),i<k->(cX ws k c x)[i]?=some ((bC ws (k - i - 1) (wd ws (bM ws k c x i).1) (bM ws k c x i).2).1,(bM ws k c x (i+1)).1)
 |0,_,_,_,h=>by lia
 |k+1,c,x,0,_=>by
  have e:bM ws (k+1) c x 0=(c,x):=by unfold bM;rfl
  rw[e];show some _=some _
  congr 2
  show _=(bM ws k _ _ 0).1;unfold bM;cases k<;>rfl
 |k+1,c,x,i+1,h=>by
  have ih:=tF (ws:=ws) k ((wd ws c)[(bC ws k (wd ws c) x).1]?.getD 0) (bC ws k (wd ws c) x).2 i (by lia);show (cX ws k _ _)[i]?=_;rw[ih,show k+1 - (i+1) - 1=k - i - 1 by lia];rfl
theorem dZ (h:Ru ws) (hc:97<=c) (h2:c - 97<ws.length) (hg:aJ ws c=true):∀k:Nat,(k:Int)+1<=sz ws k c
 |0=>by rw[lX h2];lia
 |k+1=>by
  obtain ⟨w,hw,e,hm⟩:=h.word h2;have hg':=hg;unfold aJ at hg;rw[hw] at hg;simp only [and_eq_true,decide_eq_true_eq] at hg;obtain ⟨_,g1,g2⟩:=hg;rw[gY h2,e];cases hl:ls w with
  |nil=>rw[hl] at g2;simp at g2
  |cons d l=>
   rw[hl] at g2;have hd:d=c:=by simpa using g2
   subst hd;have e2:aP ws k (d::l)=sz ws k d+aP ws k l:=by unfold aP;rw[map_cons,sum_cons]
   have hlen:l.length+1=w.length:=by rw[<-aN,hl];rfl
   have h3:=jF (ws:=ws) (k:=k) (l:=l) λx hx=>FU h k x (h.sign h2 (by rw[e,hl];exact mem_cons_of_mem _ hx)).2;have ih:=dZ h hc h2 hg' k;rw[e2];lia
theorem least [DecidablePred P]:∀{m:Nat},P m->∃k,k<=m/\P k/\∀i,i<k->¬P i
 |0,h=>⟨0,Nat.le_refl _,h,λi hi=>absurd hi (Nat.not_lt_zero _)⟩
 |m+1,h=>by
  by_cases h0:P 0
  ·exact ⟨0,zero_le _,h0,λi hi=>absurd hi (Nat.not_lt_zero _)⟩
  ·obtain ⟨k,h1,h2,h3⟩:=least (P:=λk=>P (k+1)) (m:=m) h;refine ⟨k+1,by lia,h2,λi hi=>?_⟩;cases i with
   |zero=>exact h0
   |succ i=>exact h3 i (by lia)
noncomputable def eF (ws:List Str) (k:Nat):List (List Int):=(range k).map (pD ws)
theorem iP (ws:List Str) (k:Nat):(eF ws k).length=k:=by unfold eF;rw[length_map,length_range]
theorem iQ {ws:List Str} {k i:Nat} (h:i<k):(eF ws k)[i]?=some (pD ws i):=by unfold eF;rw[getElem?_map,getElem?_range h];rfl
theorem uH (ws:List Str) (k:Nat):eF ws (k+1)=eF ws k++[pD ws k]:=by unfold eF;rw[range_succ,map_append];rfl
theorem EL.snoc {H H':Hp} {p r:Addr} {rs:List Addr} {rows:List (List Int)} {row:List Int} (h:EL H p rs rows) (hr:H' r=some (.lst (row.map V.int))) (hp:H' p=some (.lst ((rs++[r]).map V.ref))) (hs:∀b o,b≠p->H b=some o->H' b=some o) (hne:∀x∈rs,x≠p):EL H' p (rs++[r]) (rows++[row]):=by
 refine ⟨hp,by rw[length_append,length_append,h.2.1];rfl,λi x y hx hy=>?_⟩;by_cases hi:i<rs.length
 ·rw[getElem?_append_left hi] at hx;rw[getElem?_append_left (by rw[<-h.2.1];exact hi)] at hy;exact hs _ _ (hne x (mem_of_getElem? hx)) (h.2.2 i x y hx hy)
 ·rw[getElem?_append_right (by lia)] at hx;rw[getElem?_append_right (by rw[<-h.2.1];lia),<-h.2.1] at hy;have e0:i - rs.length=0:=by
   have:=(List.getElem?_eq_some_iff.mp hx).1;simp at this;lia
  rw[e0] at hx hy;have e1:r=x:=by simpa using hx
  have e2:row=y:=by simpa using hy
  subst e1 e2;exact hr
theorem vR {m:Int} (h0:0<=m) (h4:m<=4) {c:Nat} (h1:97<=c) (h2:c - 97<m.toNat):∃r,Builtin.Str.occurrences (known m) ⟨#[c]⟩ 0 (known m).length 1=(c - 97)::r:=by
 have hm:m=0\/m=1\/m=2\/m=3\/m=4:=by lia
 have hc:c=97\/c=98\/c=99\/c=100:=by lia
 rcases hm with rfl|rfl|rfl|rfl|rfl<;>rcases hc with rfl|rfl|rfl|rfl<;>first|exact absurd h2 (by decide)|exact ⟨[],by decide+kernel⟩
noncomputable def bP (K:Fg):Sp:=λvs H Q _=>∃(a:Addr) (ws:List Str) (c:Nat) (n:Int) (k:Nat),vs=[.ref a,sgn c,.int n]/\tU K H a ws/\Ru ws/\97<=c/\c - 97<ws.length/\aJ ws c=true/\k<=400/\n<sz ws k c/\(∀i,i<k->sz ws i c<=n)/\
 ∀p rs H',aC H H'->H p=none->EL H' p rs (eF ws (k+1))->Q (.ref p) H'
theorem AY {E:XS} {σ:St} {H:Hp} {Q:VK} {a:EX K} (h:a.t E σ H λx H1=>MY x H1 Q):(neg a).t E σ H Q:=h
theorem sZ {H:Hp} {Q:VK} {i:Int} (h:Q (.int (-i)) H):MY (.int i) H Q:=h
theorem EK {α:Type} {xs:List α} {v:α} (h:xs[xs.length - 1]?=some v):kL xs (-(1:Int))=some v:=by
 have hl:0<xs.length:=by
  by_cases h0:0<xs.length
  ·exact h0
  ·rw[List.getElem?_eq_none_iff.mpr (by lia)] at h;cases h
 have e:xs=xs.dropLast++[v]:=by
  have hne:xs≠[]:=by intro z;rw[z] at hl;exact absurd hl (Nat.lt_irrefl 0)
  have e1:=List.dropLast_concat_getLast hne;have e2:xs.getLast hne=v:=by
   rw[List.getLast_eq_getElem];rw[List.getElem?_eq_getElem (by lia)] at h;exact Option.some.inj h
  rw[e2] at e1;exact e1.symm
 rw[e];exact LJ _ _
theorem Ru.lens {ws:List Str} (h:Ru ws):∀w∈ws,1<=w.length/\w.length<=100:=λw hw=>⟨h.one w hw,h.le w hw⟩
theorem ZY {ws:List Str} {k c:Nat} (h2:c - 97<ws.length):kL ((pD ws k).map V.int) ((c - 97:Nat):Int)=some (.int (sz ws k c)):=by
 refine cH ?_;obtain ⟨x,hx⟩:=zV (ws:=ws) (k:=k) h2;rw[getElem?_map,hx];unfold sz;rw[hx];rfl
noncomputable def Ih (H:Hp) (p:Addr) (rs:List Addr) (fs:List (Nat × Nat)):Prop:=H p=some (.lst (rs.map V.ref))/\rs.length=fs.length/\∀(i:Nat) (r:Addr) (f:Nat × Nat),rs[i]?=some r->fs[i]?=some f->H r=some (.tup [.int (f.1:Nat),sgn f.2])
noncomputable def SB (H:Hp) (d:Addr) (ws:List Str) (k:Nat):Prop:=∃kvs,H d=some (.dK kvs)/\∀c,97<=c->c - 97<ws.length->cU kvs (.inr ⟨#[c]⟩)=some (.int (sz ws k c))
theorem SB.get {H:Hp} {d:Addr} {ws:List Str} {k c:Nat} (h:SB H d ws k) (h1:97<=c) (h2:c - 97<ws.length):eN H d (sgn c) (some (.int (sz ws k c))):=by
 obtain ⟨kvs,e,f⟩:=h;rw[<-f c h1 h2];exact eN.k (k:=.inr ⟨#[c]⟩) e
noncomputable def cN (K:Fg):Sp:=λvs H Q _=>∃(a:Addr) (ws:List Str) (c:Nat) (n:Int) (k:Nat),vs=[.ref a,sgn c,.int n]/\tU K H a ws/\Ru ws/\aJ ws c=true/\k<=400/\Good ws k c n/\(∀i,i<k->sz ws i c<=n)/\
 ∀p rs H',aC H H'->H p=none->(∀r∈rs,H r=none)->Ih H' p rs (cX ws k c n)->Q (.ref p) H'
theorem xZ {E:XS} {σ:St} {H:Hp} {Q:VK} {a r:Addr} {ws:List Str} {k:Nat} (h0:σ[0]?=some (some (.ref a))) (h8:σ[8]?=some (some (.ref r))) (hR:tU K H a ws) (hr:H r=some (.lst ((pD ws k).map V.int))) (q:∀d H',aC H H'->H d=none->SB H' d ws k->Q (.ref d) H'):
  (PD (call "letters" (cM K) [len (var 0)]) (var 8):EX K).t E σ H Q:=by
 have h4:=hR.four;have hq:=hR.tp;have hlen:(ws.map V.str).length=ws.length:=length_map _;refine JF (JH (BA (RI (AW h0 (nX hq (JJ ⟨_,rfl,AW h8 ?_⟩))))));have k0:(0:Int)<=((ws.map V.str).length:Nat):=by lia
 have k4:(((ws.map V.str).length:Nat):Int)<=4:=by lia
 have hkl:(known ((ws.map V.str).length:Nat)).cps.size=ws.length:=by
  show (known ((ws.map V.str).length:Nat)).length=_;rw[kY k0 k4];lia
 have hinj:∀i j,i<(known ((ws.map V.str).length:Nat)).cps.size->j<(known ((ws.map V.str).length:Nat)).cps.size->eP (known ((ws.map V.str).length:Nat)) i=eP (known ((ws.map V.str).length:Nat)) j->i=j:=λi j hi hj e=>by
  rw[hkl] at hi hj;rw[cC k0 k4 (by lia),cC k0 k4 (by lia)] at e;have:=sD e;lia
 refine ⟨_,_,(pD ws k).map V.int,rfl,.inr (aM.of hr),by rw[hkl,length_map,lW],by rw[hkl];lia,?_,hinj,λd hd=>?_⟩
 ·rw[Array.all_eq_true'];intro c hc;have hc':c∈ls (known ((ws.map V.str).length:Nat)):=by simpa [ls] using hc
  rw[gL k0 k4] at hc';obtain ⟨k,hk,rfl⟩:=mem_map.mp hc';have:=mem_range.mp hk;simp;lia
 refine q d _ (aE hd _) hd ⟨_,aA,λc h1 h2=>?_⟩;obtain ⟨x,hx⟩:=zV (ws:=ws) (k:=k) h2;unfold iF;have ek:=cC k0 k4 (show c - 97<(((ws.map V.str).length:Nat):Int).toNat by lia);have e97:97+(c - 97)=c:=by lia
 rw[e97] at ek;rw[<-ek,pS hinj (by rw[hkl];exact h2),getElem?_map,hx];unfold sz;rw[hx];rfl
noncomputable def Off (p:Addr) (H H':Hp):Prop:=∀b o,b≠p->H b=some o->H' b=some o
theorem Off.trans {p:Addr} {H H1 H2:Hp} (a:Off p H H1) (b:aC H1 H2):Off p H H2:=λc o h e=>b c o (a c o h e)
theorem Off.upd {p:Addr} {H H1:Hp} {o:HO} (a:Off p H H1):Off p H (upd H1 p o):=λc u h e=>by rw[aF h];exact a c u h e
theorem Off.same {p:Addr} {H0 H H1:Hp} (s:aC H0 H) (a:Off p H H1) (hp:H0 p=none):aC H0 H1:=λc o e=>a c o (aB e hp) (s c o e)
theorem TC (n d:Nat) (h:0<n):HT.cL n d (some (-(1:Int)))=n - 1:=by
 show (if (-(1:Int))<0 then ((-(1:Int))+(n:Int)).toNat else min (-(1:Int)).toNat n)=n - 1;rw[if_pos (by decide)];lia
theorem XM {xs:List V} (h:0<xs.length):kC xs none (some (-(1:Int)))=xs.take (xs.length - 1):=by
 unfold kC;rw[HT.nE,TC _ _ h,drop_zero,Nat.sub_zero]
noncomputable def aK (ws:List Str) (l:List Nat):List Nat:=l.flatMap (wd ws)
theorem eS (ws:List Str) (a b:List Nat):aK ws (a++b)=aK ws a++aK ws b:=List.flatMap_append ..
theorem aS (ws:List Str) (c:Nat) (l:List Nat):aK ws (c::l)=wd ws c++aK ws l:=List.flatMap_cons ..
theorem cW (ws:List Str) (z:Str):img ws z=aH (aK ws (ls z)):=rfl
noncomputable def wk (ws:List Str) (c:Nat):Nat->List Nat
 |0=>[c]
 |k+1=>aK ws (wk ws c k)
noncomputable def cI (ws:List Str) (l:List Nat):Prop:=∀c∈l,97<=c/\c - 97<ws.length
theorem cI.img (h:Ru ws) (hl:cI ws l):cI ws (aK ws l):=λc hc=>by
 unfold aK at hc;obtain ⟨d,hd,hcd⟩:=List.mem_flatMap.mp hc;exact h.sign (hl d hd).2 hcd
theorem cI.isW (h:cI ws l):gX ws.length (aH l):=λc hc=>by
 rw[aW] at hc;have:=h c hc;lia
theorem dH (h:Ru ws) (h1:97<=c) (h2:c - 97<ws.length):∀k,cI ws (wk ws c k)
 |0=>λd hd=>by
  have:d=c:=by simpa [wk] using hd
  subst this;exact ⟨h1,h2⟩
 |k+1=>(dH h h1 h2 k).img h
theorem pU (ws:List Str) (k:Nat) (a b:List Nat):aP ws k (a++b)=aP ws k a+aP ws k b:=by unfold aP;rw[map_append,List.sum_append]
theorem iS (ws:List Str) (k c:Nat) (l:List Nat):aP ws k (c::l)=sz ws k c+aP ws k l:=by unfold aP;rw[map_cons,sum_cons]
theorem kN:∀{l:List Nat},cI ws l->aP ws k (aK ws l)=aP ws (k+1) l
 |[],_=>rfl
 |c::l,h=>by
  rw[aS,pU,iS,kN λd hd=>h d (mem_cons_of_mem _ hd),gY (h c mem_cons_self).2]
theorem iR:∀{l:List Nat},cI ws l->aP ws 0 l=l.length
 |[],_=>rfl
 |c::l,h=>by
  rw[iS,lX (h c mem_cons_self).2,iR λd hd=>h d (mem_cons_of_mem _ hd),length_cons];lia
theorem dJ (h:Ru ws) (h1:97<=c) (h2:c - 97<ws.length) (k:Nat):((wk ws c k).length:Int)=sz ws k c:=by
 have key:∀j i,j+i=k->aP ws j (wk ws c i)=sz ws k c:=by
  intro j i;induction i generalizing j with
  |zero=>
   intro e;show aP ws j [c]=_;rw[iS,show j=k by lia];show _+0=_;lia
  |succ i ih=>
   intro e;show aP ws j (aK ws (wk ws c i))=_;rw[kN (dH h h1 h2 i)];exact ih (j+1) (by lia)
 rw[<-key 0 k (by lia),iR (dH h h1 h2 k)]
theorem qK (h:Ru ws) (h2:c - 97<ws.length) (hg:aJ ws c=true):∃t,wd ws c=c::t:=by
 obtain ⟨w,hw,e,_⟩:=h.word h2;unfold aJ at hg;rw[hw] at hg;simp only [and_eq_true,decide_eq_true_eq] at hg;rw[e];cases hl:ls w with
 |nil=>rw[hl] at hg;simp at hg
 |cons d t=>
  rw[hl] at hg;have:d=c:=by simpa using hg.2.2
  subst this;exact ⟨t,rfl⟩
theorem xG (h:Ru ws) (h2:c - 97<ws.length) (hg:aJ ws c=true):∀k,∃t,wk ws c (k+1)=wk ws c k++t
 |0=>by
  obtain ⟨t,e⟩:=qK h h2 hg;refine ⟨t,?_⟩;show aK ws [c]=[c]++t;rw[aS,e];show c::t++[]=_;rw[append_nil];rfl
 |k+1=>by
  obtain ⟨t,e⟩:=xG h h2 hg k;refine ⟨aK ws t,?_⟩;show aK ws (wk ws c (k+1))=aK ws (wk ws c k)++_;rw[e,eS]
theorem rN (h:Ru ws) (h2:c - 97<ws.length) (hg:aJ ws c=true) (k:Nat):∀j,∃t,wk ws c (k+j)=wk ws c k++t
 |0=>⟨[],by rw[append_nil];rfl⟩
 |j+1=>by
  obtain ⟨t,e⟩:=rN h h2 hg k j;obtain ⟨u,f⟩:=xG h h2 hg (k+j);exact ⟨t++u,by rw[show k+(j+1)=(k+j)+1 by lia,f,e,List.append_assoc]⟩
noncomputable def ew (ws:List Str) (c i:Nat):Nat:=(wk ws c i)[i]?.getD 0
theorem xH (h:Ru ws) (h1:97<=c) (h2:c - 97<ws.length) (hg:aJ ws c=true) (hi:i<(wk ws c k).length):(wk ws c k)[i]?=some (ew ws c i):=by
 have li:i<(wk ws c i).length:=by
  have a:=dJ h h1 h2 i;have b:=dZ h h1 h2 hg i;lia
 have key:∀j l,j<=l->i<(wk ws c j).length->(wk ws c l)[i]?=(wk ws c j)[i]?:=λj l hjl hj=>by
  obtain ⟨t,e⟩:=rN h h2 hg j (l - j);rw[show j+(l - j)=l by lia] at e;rw[e,getElem?_append_left hj]
 have e:(wk ws c i)[i]?=some (ew ws c i):=by
  unfold ew;rw[List.getElem?_eq_getElem li];rfl
 by_cases hik:i<=k
 ·rw[key i k hik li,e]
 ·rw[<-key k i (by lia) hi,e]
noncomputable def str (ws:List Str) (c n m:Nat):List Nat:=(range m).map λi=>ew ws c (n+i)
theorem str_len (ws:List Str) (c n m:Nat):(str ws c n m).length=m:=by unfold str;rw[length_map,length_range]
theorem iO (h:Ru ws) (h1:97<=c) (h2:c - 97<ws.length) (hg:aJ ws c=true) (hi:n+m<=(wk ws c k).length):((wk ws c k).drop n).take m=str ws c n m:=by
 refine ext_getElem? λi=>?_;by_cases him:i<m
 ·rw[getElem?_take,if_pos him,getElem?_drop,xH h h1 h2 hg (by lia)];unfold str;rw[getElem?_map,getElem?_range him];rfl
 ·rw[List.getElem?_eq_none_iff.mpr (by rw[length_take];lia),List.getElem?_eq_none_iff.mpr (by rw[str_len];lia)]
theorem zW (h:Ru ws) (h1:97<=c) (h2:c - 97<ws.length) (hg:aJ ws c=true) (hkl:k<=l):sz ws k c<=sz ws l c:=by
 obtain ⟨t,e⟩:=rN h h2 hg k (l - k);rw[show k+(l - k)=l by lia] at e;rw[<-dJ h h1 h2 k,<-dJ h h1 h2 l,e,length_append];lia
theorem qN (h:Ru ws) (hg:aJ ws c=true) (g:Good ws k c n):∀j,cX ws (k+j) c n=replicate j (0,c)++cX ws k c n
 |0=>rfl
 |j+1=>by
  obtain ⟨g1,g2,g3,g4⟩:=id g;obtain ⟨t,e⟩:=qK h g2 hg;have hs:=zW h g1 g2 hg (show k<=k+j by lia);have ef:bC ws (k+j) (wd ws c) n=(0,n):=by
   rw[e];unfold bC;rw[if_neg (by lia)]
  show cX ws ((k+j)+1) c n=_;show ((bC ws (k+j) (wd ws c) n).1,(wd ws c)[(bC ws (k+j) (wd ws c) n).1]?.getD 0)::cX ws (k+j) ((wd ws c)[(bC ws (k+j) (wd ws c) n).1]?.getD 0) (bC ws (k+j) (wd ws c) n).2=_;rw[ef];have e0:(wd ws c)[0]?.getD 0=c:=by rw[e];rfl
  show (0,(wd ws c)[0]?.getD 0)::cX ws (k+j) ((wd ws c)[0]?.getD 0) n=_;rw[e0,qN h hg g j];rfl
theorem Good.more (h:Ru ws) (hg:aJ ws c=true) (g:Good ws k c n) (hkl:k<=l):Good ws l c n:=by
 obtain ⟨g1,g2,g3,g4⟩:=g;exact ⟨g1,g2,g3,Int.lt_of_lt_of_le g4 (zW h g1 g2 hg hkl)⟩
noncomputable def At (ws:List Str) (c:Nat) (k:Nat) (n:Int) (i:Nat) (A B:List Nat):Prop:=wk ws c i=A++(bM ws k c n i).1::B/\aP ws (k - i) A+(bM ws k c n i).2=n
theorem PV:At ws c k n 0 [] []:=by
 have e:bM ws k c n 0=(c,n):=by cases k<;>rfl
 refine ⟨?_,?_⟩
 ·rw[e];rfl
 ·rw[e];show (0:Int)+n=n;lia
theorem PX (h:Ru ws) {A B:List Nat} (g:Good ws k c n) (hi:i<k) (a:At ws c k n i A B):
  ∃st S,(cX ws k c n)[i]?=some (st,(bM ws k c n (i+1)).1)/\st<(wd ws (bM ws k c n i).1).length/\wd ws (bM ws k c n i).1=(wd ws (bM ws k c n i).1).take st++(bM ws k c n (i+1)).1::S/\(wd ws (bM ws k c n i).1).drop st=(bM ws k c n (i+1)).1::S/\At ws c k n (i+1) (aK ws A++(wd ws (bM ws k c n i).1).take st) (S++aK ws B):=by
 have hGi:=kA h k c n i g (by lia);obtain ⟨g1,g2,g3,g4⟩:=id hGi;have eki:k - i=(k - i - 1)+1:=by lia
 rw[eki] at hGi;obtain ⟨d,hd,hGd⟩:=hGi.step h;have hs:=oE (ws:=ws) k c n i hi;have hf:=tF (ws:=ws) k c n i hi;rw[hd] at hs;have e1:(bM ws k c n (i+1)).1=d:=by rw[hs];rfl
 have e2:(bM ws k c n (i+1)).2=(bC ws (k - i - 1) (wd ws (bM ws k c n i).1) (bM ws k c n i).2).2:=by rw[hs]
 rw[eki,gY g2] at g4;obtain ⟨o1,o2,o3,o4⟩:=tE (wd ws (bM ws k c n i).1) (bM ws k c n i).2 g3 g4;obtain ⟨st,hst⟩:∃st,(bC ws (k - i - 1) (wd ws (bM ws k c n i).1) (bM ws k c n i).2).1=st:=⟨_,rfl⟩;rw[hst] at o1 o4 hd hf;have hdrop:(wd ws (bM ws k c n i).1).drop st=d::(wd ws (bM ws k c n i).1).drop (st+1):=by
  rw[List.drop_eq_getElem_cons o1];rw[List.getElem?_eq_getElem o1] at hd;rw[Option.some.inj hd]
 have hw:wd ws (bM ws k c n i).1=(wd ws (bM ws k c n i).1).take st++d::(wd ws (bM ws k c n i).1).drop (st+1):=by
  rw[<-hdrop,take_append_drop]
 have hA:cI ws A:=λx hx=>dH h g.1 g.2.1 i x (by rw[a.1];exact mem_append_left _ hx);refine ⟨st,(wd ws (bM ws k c n i).1).drop (st+1),hf,o1,by rw[e1];exact hw,by rw[e1];exact hdrop,?_,?_⟩
 ·show aK ws (wk ws c i)=_;rw[a.1,eS,aS,e1]
  conv=>lhs;rw[hw]
  simp only [List.append_assoc,List.cons_append]
 ·rw[pU,show k - (i+1)=k - i - 1 by lia,kN hA,<-eki,e2,o4];have:=a.2;lia
theorem XZ (h:Ru ws) {A B:List Nat} (g:Good ws k c n) (a:At ws c k n k A B):(A.length:Int)=n:=by
 have hGk:=kA h k c n k g (Nat.le_refl _);rw[sub_self] at hGk;obtain ⟨g1,g2,g3,g4⟩:=hGk;rw[lX g2] at g4;have hA:cI ws A:=λx hx=>dH h g.1 g.2.1 k x (by rw[a.1];exact mem_append_left _ hx);have:=a.2;rw[sub_self,iR hA] at this;lia
theorem nW (h:Ru ws):∀{l:List Nat},cI ws l->l.length<=(aK ws l).length
 |[],_=>Nat.le_refl _
 |c::l,hl=>by
  have ih:=nW h (l:=l) λd hd=>hl d (mem_cons_of_mem _ hd);obtain ⟨w,_,e,hm⟩:=h.word (hl c mem_cons_self).2;have h1:=h.one w hm;rw[aS,length_append,length_cons,e,aN];lia
theorem window (h:Ru ws) {c st m:Nat} (hl:cI ws (c::l)) (hst:st<(wd ws c).length) (hm:1<=m):((aK ws ((c::l).take m)).drop st).take m=((aK ws (c::l)).drop st).take m:=by
 obtain ⟨m',rfl⟩:∃m',m=m'+1:=⟨m - 1,by lia⟩;have hsplit:c::l=(c::l).take (m'+1)++(c::l).drop (m'+1):=(take_append_drop _ _).symm;by_cases hle:(c::l).length<=m'+1
 ·rw[take_of_length_le hle]
 ·have hlen:st+(m'+1)<=(aK ws ((c::l).take (m'+1))).length:=by
   rw[take_succ_cons,aS,length_append];have h2:=nW h (l:=l.take m') λd hd=>hl d (mem_cons_of_mem _ (mem_of_mem_take hd));rw[length_take] at h2;rw[length_cons] at hle;lia
  conv=>rhs;rw[hsplit,eS]
  rw[List.drop_append_of_le_length (by lia),List.take_append_of_le_length (by rw[length_drop];lia)]
theorem Rl.ru {H:Hp} {a:Addr} {ws:List Str} (h:Rl K H a ws 100):Ru ws:=⟨h.pos,h.four,h.isw,h.one,h.le⟩
noncomputable def Wo (ws:List Str) (i:Nat) (m s:Nat) (lo:Int):Prop:=ws.length=i/\(∀w∈ws,gX m w/\1<=w.length/\w.length<=100/\lo<=w.length)/\∀w,ws[s]?=some w->1<w.length/\(ls w)[0]?=some (97+s)
theorem Wo.snoc {ws:List Str} {i m s:Nat} {lo:Int} {z:Str} (h:Wo ws i m s lo) (hz:gX m z/\1<=z.length/\z.length<=100/\lo<=z.length) (hs:i=s->1<z.length/\(ls z)[0]?=some (97+s)):Wo (ws++[z]) (i+1) m s lo:=by
 obtain ⟨h1,h2,h3⟩:=h;refine ⟨by rw[length_append,h1];rfl,λw hw=>?_,λw hw=>?_⟩
 ·rcases mem_append.mp hw with h|h
  ·exact h2 w h
  ·have e:w=z:=by simpa using h
   subst e;exact hz
 ·by_cases hi:s<ws.length
  ·rw[getElem?_append_left hi] at hw;exact h3 w hw
  ·rw[getElem?_append_right (by lia)] at hw;have e0:s - ws.length=0:=by
    have:=(List.getElem?_eq_some_iff.mp hw).1;simp at this;lia
   rw[e0] at hw;have e1:z=w:=by simpa using hw
   subst e1;exact hs (by lia)
noncomputable def gB (K:Fg):Sp:=λvs H Q _=>∃(a:Addr) (ws:List Str) (c m:Nat),vs=[.ref a,sgn c,.int m]/\Rl K H a ws 100/\97<=c/\c - 97<ws.length/\aJ ws c=true/\m<=1000/\∀H',aC H H'->Q (.str (aH (str ws c 0 m))) H'
noncomputable def iL (K:Fg):List (SX K):=
 [set 3 (var 1),
  ZG (cmp .Lt (len (var 3)) (var 2)) [set 3 (call "_law_image" (fF K) [var 0,var 3])],
  ret (xC (var 3) none (some (var 2)))]
theorem oY:TT (gB K) (iL K) ["_law_rule","_law_start","_law_size","_law_word_here"]:=by
 intro vs H Q E h;obtain ⟨a,ws,c,m,rfl,hR,h1,h2,hg,hm,q⟩:=h;have hU:=hR.ru;unfold iL;walk_at "";refine lL (mG (m:=m) (λj σ H'=>j<=m/\aC H H'/\(m - j=0\/(wk ws c (m - j - 1)).length<m)/\σ=[some (.ref a),some (sgn c),some (.int m),some (.str (aH (wk ws c (m - j))))])
  ⟨Nat.le_refl _,aC.refl _,.inl (sub_self m),by rw[sub_self];rfl⟩ (λj σ H' hW=>?_))
 obtain ⟨hj,hS,hprev,rfl⟩:=hW;have hle:(wk ws c (m - j)).length<=1000000:=by
  rcases hprev with h|h
  ·rw[h];show 1<=1000000;decide
  ·by_cases h0:m - j=0
   ·rw[h0];show 1<=1000000;decide
   ·have e:m - j=(m - j - 1)+1:=by lia
    rw[e];have:=IV (ws:=ws) (z:=aH (wk ws c (m - j - 1))) (B:=100) hU.le;rw[cW,eJ,eJ,aW] at this;show (aK ws (wk ws c (m - j - 1))).length<=_;lia
 have hgl:=dJ hU h1 h2 (m - j);have hgr:=dZ hU h1 h2 hg (m - j);walk_at "";refine gN (small (by rw[eJ];exact hle)) ?_;walk_at "";rw[eJ];refine lC (λhc=>zR ?_) λhc=>?_
 ·have hj0:0<j:=by lia
  walk_at "";refine ⟨a,ws,_,rfl,hR.same hS,(dH hU h1 h2 (m - j)).isW,by rw[eJ];lia,λH2 hS2=>?_⟩;refine ⟨j - 1,by lia,by lia,hS.trans hS2,.inr (by rw[show m - (j - 1) - 1=m - j by lia];lia),?_⟩;rw[cW,aW,show m - (j - 1)=m - j+1 by lia];rfl
 ·walk_at "";refine fT (small (by rw[eJ];exact hle)) ?_;have e:Txt.slice (aH (wk ws c (m - j))) none (some ((m:Nat):Int))=aH (str ws c 0 m):=by
   refine fM ?_;rw[show ls (Txt.slice (aH (wk ws c (m - j))) none (some ((m:Nat):Int)))=(ls (aH (wk ws c (m - j)))).take ((m:Nat):Int).toNat from cF (by lia),aW,aW,toNat_natCast,<-iO hU h1 h2 hg (k:=m - j) (n:=0) (m:=m) (by lia),drop_zero]
  rw[e];exact q _ hS
structure Pl (K:Fg) (H:Hp) (a:Addr) (ws:List Str) (c:Nat) (n:Int):Prop where
 rt:tU K H a ws
 ru:Ru ws
 c1:97<=c
 c2:c - 97<ws.length
 gr:aJ ws c=true
 n0:0<=n
 tn:∃m,m<=400/\n<sz ws m c
theorem Pl.turns {H:Hp} {a:Addr} {ws:List Str} {c:Nat} {n:Int} (h:Pl K H a ws c n):∃k,k<=400/\Good ws k c n/\∀i,i<k->sz ws i c<=n:=by
 obtain ⟨m,hm,hn⟩:=h.tn;obtain ⟨k,h1,h2,h3⟩:=least (P:=λk=>n<sz ws k c) hn;exact ⟨k,by lia,⟨h.c1,h.c2,h.n0,h2⟩,λi hi=>by have:=h3 i hi;lia⟩
theorem Pl.less {H:Hp} {a:Addr} {ws:List Str} {c:Nat} {n m:Int} (h:Pl K H a ws c n) (h0:0<=m) (hm:m<=n):Pl K H a ws c m:=⟨h.rt,h.ru,h.c1,h.c2,h.gr,h0,by
 obtain ⟨k,h1,h2⟩:=h.tn
 exact ⟨k,h1,by lia⟩⟩
noncomputable def bL (K:Fg):Sp:=λvs H Q _=>∃(a:Addr) (ws:List Str) (c n m:Nat),vs=[.ref a,sgn c,.int n,.int m]/\Pl K H a ws c ((n+m - 1:Nat):Int)/\1<=m/\m<=2000/\∀H',aC H H'->Q (.str (aH (str ws c n m))) H'
theorem sT {ws:List Str} (h:Ru ws) {c:Nat} (hg:aJ ws c=true) {k j:Nat} {n:Int} (g:Good ws k c n):replicate j (V.int 0)++(cX ws k c n).map (λf=>V.int (f.1:Nat))=(cX ws (k+j) c n).map λf=>V.int (f.1:Nat):=by
 rw[qN h hg g j,map_append,List.map_replicate];rfl
theorem KO (n:Nat) (a b:List Nat):bU n (aH (a++b))=zipWith (·+·) (bU n (aH a)) (bU n (aH b)):=by
 refine ext_getElem? λi=>?_;by_cases hi:i<n
 ·rw[List.getElem?_zipWith,eW hi,eW hi,eW hi];show some _=some _;unfold cnt;rw[aW,aW,aW,List.count_append]
  congr 1
 ·rw[List.getElem?_eq_none_iff.mpr (by rw[cY];lia),List.getElem?_eq_none_iff.mpr (by rw[length_zipWith,cY];lia)]
theorem KN (n:Nat):bU n (aH [])=replicate n 0:=by
 have e2:cnt (aH [])=λ_=>0:=by
  funext k
  unfold cnt;rw[aW];rfl
 unfold bU;rw[e2,List.map_const',length_range]
noncomputable def Dr (H:Hp) (p:Addr):Prop:=∃xs:List Int,H p=some (.lst (xs.map V.int))/\xs.length<=600/\∀x∈xs,0<=x/\x<2147483629
theorem Dr.same {H H':Hp} {p:Addr} (h:Dr H p) (e:aC H H'):Dr H' p:=by
 obtain ⟨xs,h1,h2⟩:=h;exact ⟨xs,e _ _ h1,h2⟩
theorem Off.refl (p:Addr) (H:Hp):Off p H H:=λ_ _ _ e=>e
theorem Off.trans' {p:Addr} {H H1 H2:Hp} (a:Off p H H1) (b:Off p H1 H2):Off p H H2:=λc o h e=>b c o h (a c o h e)
theorem aC.off {p:Addr} {H H':Hp} (e:aC H H'):Off p H H':=λc o _ h=>e c o h
noncomputable def jJ (K:Fg):Sp:=λvs H Q _=>∃(a:Addr) (ns:List Int),vs=[.ref a]/\aM K H a (ns.map V.int)/\ns.length<=63/\∀p H',aC H H'->H p=none->Dr H' p->Q (.ref p) H'
noncomputable def lR (K:Fg):List (SX K):=
 [set 1 (xC (bin .Add (listE (xC (var 0) none (some (cst (.int 63))))) (lst [cst (.int 0)])) none (some (max2 (cst (.int 1)) (min2 (len (var 0)) (cst (.int 63)))))),
  set 2 (cmp .Eq (bin .Mod (ix (var 1) (cst (.int 0))) (cst (.int 2))) (cst (.int 1))),
  put (var 1) (cst (.int 0)) (bin .FloorDiv (ix (var 1) (cst (.int 0))) (cst (.int 2))),
  set 3 (listE (var 1)),
  set 4 (lst []),
  gQ (fX 5) (nZ (cst (.int 600)) []) [set 6 (bin .Mod (var 5) (len (var 1))),
   set 7 (bin .Mod (ix (var 3) (var 6)) (cst (.int 2147483629))),
   tS (zM (var 2) [cmp .NotIn (ix (var 3) (var 6)) (lst [cst (.int 0),neg (cst (.int 1))])]) [put (var 3) (var 6) (bin .FloorDiv (ix (var 3) (var 6)) (cst (.int 2147483629)))] [set 7 (bin .Mod (bin .Add (bin .Add (bin .Mult (bin .Mod (ix (var 1) (var 6)) (cst (.int 2147483629))) (cst (.int 48271))) (bin .Mult (bin .Mult (cst (.int 7919)) (var 5)) (var 5))) (cst (.int 104729))) (cst (.int 2147483647))),
    set 7 (bin .Mod (bin .Mult (var 7) (var 7)) (cst (.int 2147483629))),
    set 7 (bin .Mod (bin .Mult (bin .Mod (bin .Add (bin .Mult (var 7) (cst (.int 69621))) (bin .Mult (cst (.int 3571)) (var 5))) (cst (.int 2147483563))) (var 7)) (cst (.int 2147483629)))],
   ex (bS (var 4) (var 7))],
  ret (Ac (var 4))]
theorem AA {cs:List Int} {i:Nat} {v:Int}:(cs.map V.int).set i (.int v)=(cs.set i v).map V.int:=(List.map_set ..).symm
theorem lE {cs:List Int} {i:Nat} (h:i<cs.length):kL (cs.map V.int) ((i:Nat):Int)=some (.int cs[i]):=cH (by rw[getElem?_map,List.getElem?_eq_getElem h];rfl)
theorem uF:TT (jJ K) (lR K) ["_law_script","_law_cells","_law_by_digits","_law_left","_law_found","_law_k","_law_at","_law_number"]:=by
 intro vs H Q E h;obtain ⟨a,ns,rfl,hS,h63,q⟩:=h;have hlen:(ns.map V.int).length=ns.length:=length_map _;unfold lR;walk_at "";refine JB hS λp1 hp1=>?_;obtain ⟨ms,hms,hml⟩:=BH ns none (some 63);have hms2:ms.length=ns.length:=by
  have e:=congrArg length hms;rw[length_map] at e;rw[<-e];have e2:=KC (xs:=ns.map V.int) (k:=ns.length) (by rw[hlen];exact Nat.le_refl _);unfold kC;rw[HT.nE,drop_zero,hlen,length_take,hlen];show min (min 63 ns.length - 0) ns.length=ns.length;lia
 rw[hms];have s1:=aE hp1 (.lst (ms.map V.int));walk_at "";refine ⟨_,.inl (aM.of aA),λp2 hp2=>?_⟩;have s2:=aE hp2 (.lst (ms.map V.int));walk_at "";refine ⟨by show 1<=sizeLine;decide,λp3 hp3=>?_⟩;have s3:=aE hp3 (.lst [V.int 0]);refine yZ (s3 _ _ aA) aA (small (by rw[length_map];show ms.length+1<=_;lia)) λp4 hp4=>?_;have e4:ms.map V.int++[V.int 0]=(ms++[0]).map V.int:=by rw[map_append];rfl
 rw[e4];have s4:=aE hp4 (.lst ((ms++[0]).map V.int));have hq4:=s4.seq (s3.seq (s2.seq (s1.seq hS)));walk_at "";refine JB (aM.of aA) λp5 hp5=>?_;obtain ⟨cs,hcs,hcl⟩:=BH (ms++[0]) none (some (max 1 (min (((ns.map V.int).length:Nat):Int) 63)));have hcs2:1<=cs.length/\cs.length<=64:=by
  have e:=congrArg length hcs;have e3:(cs.map V.int).length=cs.length:=length_map _;rw[e3] at e;have hl:((ms++[0]).map V.int).length=ms.length+1:=by rw[length_map,length_append];rfl
  obtain ⟨k,hk⟩:∃k:Nat,max 1 (min (((ns.map V.int).length:Nat):Int) 63)=(k:Int):=⟨(max 1 (min (((ns.map V.int).length:Nat):Int) 63)).toNat,by lia⟩;rw[hk,KC (by rw[hl];lia),length_take,hl] at e;lia
 rw[hcs];have s5:=aE hp5 (.lst (cs.map V.int));have hS05:aC H (upd (upd (upd (upd (upd H p1 (.lst (ms.map V.int))) p2 (.lst (ms.map V.int))) p3 (.lst [V.int 0])) p4 (.lst ((ms++[0]).map V.int))) p5 (.lst (cs.map V.int))):=(((s1.trans s2).trans s3).trans s4).trans s5;have hn5:H p5=none:=none_of (((s1.trans s2).trans s3).trans s4) hp5;walk_at "";have h0:0<cs.length:=by lia
 refine fU (v:=.int cs[0]) (aM.of aA) (lE (i:=0) h0) ?_;walk_at "";obtain ⟨bd,hbd⟩:∃b,decide (cs[0] % 2=1)=b:=⟨_,rfl⟩;rw[hbd];refine vV ?_;walk_at "";refine fU (v:=.int cs[0]) (aM.of aA) (lE (i:=0) h0) ?_;walk_at "";refine yX (k:=0) aA (by rw[length_map];exact h0) ?_;rw[AA,MG];have hcl2:(cs.set 0 (cs[0] / 2)).length=cs.length:=length_set ..;obtain ⟨ds,hds⟩:∃ds,cs.set 0 (cs[0] / 2)=ds:=⟨_,rfl⟩;rw[hds] at hcl2 ⊢;obtain ⟨H6,hH6⟩:∃H6,upd (upd (upd (upd (upd H p1 (.lst (ms.map V.int))) p2 (.lst (ms.map V.int))) p3 (.lst [V.int 0])) p4 (.lst ((ms++[0]).map V.int))) p5 (.lst (ds.map V.int))=H6:=⟨_,rfl⟩;have hp56:H6 p5=some (.lst (ds.map V.int)):=by rw[<-hH6];exact aA
 have hS06:aC H H6:=by rw[<-hH6];exact bQ (((s1.trans s2).trans s3).trans s4) hn5
 rw[hH6];walk_at "";refine ⟨_,.inl (aM.of hp56),λp7 hp7=>?_⟩;have s7:=aE hp7 (.lst (ds.map V.int));walk_at "";refine ⟨zero_le _,λp8 hp8=>?_⟩;have s8:=aE hp8 (.lst []);have n78:p7≠p8:=aB (H:=upd H6 p7 (.lst (ds.map V.int))) aA hp8;have n58:p5≠p8:=aB (s7 _ _ hp56) hp8;have n57:p5≠p7:=aB hp56 hp7;walk_at "";refine cV (λi σ H'=>aC H H'/\H' p5=some (.lst (ds.map V.int))/\(∃ls:List Int,ls.length=ds.length/\H' p7=some (.lst (ls.map V.int)))/\(∃xs:List Int,xs.length=i/\H' p8=some (.lst (xs.map V.int))/\∀x∈xs,0<=x/\x<2147483629)/\
   ∃a5 a6 a7,σ=[some (.ref a),some (.ref p5),some (.bl bd),some (.ref p7),some (.ref p8),a5,a6,a7])
  ⟨(hS06.trans s7).trans s8,s8 _ _ (s7 _ _ hp56),⟨ds,rfl,s8 _ _ aA⟩,⟨[],rfl,aA,λx hx=>nomatch hx⟩,none,none,none,rfl⟩ (λi σ H' hi hP=>?_) λσ H' hP=>?_
 ·obtain ⟨hSH,h5,⟨ls,hll,h7⟩,⟨xs,hxl,h8,hxs⟩,a5,a6,a7,rfl⟩:=hP;have hi6:i<600:=hi;have fin:∀(v:Int) (x5 x6:Option V) (D:Ends) (H2:Hp),aC H H2->H2 p5=some (.lst (ds.map V.int))->(∃ls:List Int,ls.length=ds.length/\H2 p7=some (.lst (ls.map V.int)))->H2 p8=some (.lst (xs.map V.int))->0<=v->v<2147483629->
    D={nx:=λσ3 H3=>aC H H3/\H3 p5=some (.lst (ds.map V.int))/\(∃ls:List Int,ls.length=ds.length/\H3 p7=some (.lst (ls.map V.int)))/\(∃xs:List Int,xs.length=i+1/\H3 p8=some (.lst (xs.map V.int))/\∀x∈xs,0<=x/\x<2147483629)/\
     ∃a5 a6 a7,σ3=[some (.ref a),some (.ref p5),some (.bl bd),some (.ref p7),some (.ref p8),a5,a6,a7],ct:=D.ct,bk:=D.bk,rt:=D.rt}->
    jD ([ex (bS (var 4) (var 7))]:List (SX K)) (λ_=>E) D [some (.ref a),some (.ref p5),some (.bl bd),some (.ref p7),some (.ref p8),x5,x6,some (.int v)] H2:=by
   intro v x5 x6 D H2 g1 g2 g3 g4 g5 g6 hD;rw[hD];walk_at "";refine vW (aM.of g4) ?_;walk_at "";refine cO g4 (by rw[length_map,hxl];exact Nat.lt_of_lt_of_le (show i<1000 by lia) (small (by decide))) ?_;refine ⟨bQ g1 (none_of (hS06.trans s7) hp8),by rw[aF n58];exact g2,?_,⟨xs++[v],by rw[length_append,hxl];rfl,by rw[aA,map_append];rfl,λx hx=>?_⟩,_,_,_,rfl⟩
   ·obtain ⟨ls,e1,e2⟩:=g3;exact ⟨ls,e1,by rw[aF n78];exact e2⟩
   ·rcases mem_append.mp hx with h|h
    ·exact hxs x h
    ·have e:x=v:=by simpa using h
     subst e;exact ⟨g5,g6⟩
  have hq5:aM K H' p5 (ds.map V.int):=aM.of h5;have hdl:(ds.map V.int).length=ds.length:=length_map _;have e0:(0:Int)+(i:Nat)=((i:Nat):Int):=by lia
  walk_at "";rw[e0];have e1:=emod_nonneg ((i:Nat):Int) (show ((((ds.map V.int).length:Nat)):Int)≠0 by lia);have e2:=emod_lt_of_pos ((i:Nat):Int) (show (0:Int)<(((ds.map V.int).length:Nat):Int) by lia);obtain ⟨at',hat⟩:∃k:Nat,((i:Nat):Int) % (((ds.map V.int).length:Nat):Int)=(k:Int):=⟨_,(Int.toNat_of_nonneg e1).symm⟩;rw[hat] at e2;have hk:at'<ds.length:=by lia
  have hk2:at'<ls.length:=by lia
  rw[hat];walk_at "";refine fU (v:=.int ls[at']) (aM.of h7) (lE hk2) ?_;walk_at "";have m1:=emod_nonneg ls[at'] (show (2147483629:Int)≠0 by decide);have m2:=emod_lt_of_pos ls[at'] (show (0:Int)<2147483629 by decide);have other:∀(H2:Hp) (D:Ends) (x7:Option V),aC H H2->H2 p5=some (.lst (ds.map V.int))->(∃ls:List Int,ls.length=ds.length/\H2 p7=some (.lst (ls.map V.int)))->H2 p8=some (.lst (xs.map V.int))->
    D={nx:=jD ([ex (bS (var 4) (var 7))]:List (SX K)) (λ_=>E) {nx:=λσ3 H3=>aC H H3/\H3 p5=some (.lst (ds.map V.int))/\(∃ls:List Int,ls.length=ds.length/\H3 p7=some (.lst (ls.map V.int)))/\(∃xs:List Int,xs.length=i+1/\H3 p8=some (.lst (xs.map V.int))/\∀x∈xs,0<=x/\x<2147483629)/\
     ∃a5 a6 a7,σ3=[some (.ref a),some (.ref p5),some (.bl bd),some (.ref p7),some (.ref p8),a5,a6,a7],ct:=D.ct,bk:=D.bk,rt:=D.rt},ct:=D.ct,bk:=D.bk,rt:=D.rt}->
    jD ([set 7 (bin .Mod (bin .Add (bin .Add (bin .Mult (bin .Mod (ix (var 1) (var 6)) (cst (.int 2147483629))) (cst (.int 48271))) (bin .Mult (bin .Mult (cst (.int 7919)) (var 5)) (var 5))) (cst (.int 104729))) (cst (.int 2147483647))),
    set 7 (bin .Mod (bin .Mult (var 7) (var 7)) (cst (.int 2147483629))),
    set 7 (bin .Mod (bin .Mult (bin .Mod (bin .Add (bin .Mult (var 7) (cst (.int 69621))) (bin .Mult (cst (.int 3571)) (var 5))) (cst (.int 2147483563))) (var 7)) (cst (.int 2147483629)))]:List (SX K)) (λ_=>E) D [some (.ref a),some (.ref p5),some (.bl bd),some (.ref p7),some (.ref p8),some (.int i),some (.int at'),x7] H2:=by
   intro H2 D x7 g1 g2 g3 g4 hD;rw[hD];walk_at "";refine fU (v:=.int ds[at']) (aM.of g2) (lE hk) ?_;walk_at "";refine fin _ _ _ _ _ g1 g2 g3 g4 (emod_nonneg _ (by decide)) (emod_lt_of_pos _ (by decide)) rfl
  cases bd with
  |false=>
   refine oP ?_;refine oP ?_;exact other _ _ _ hSH h5 ⟨ls,hll,h7⟩ h8 rfl
  |true=>
   refine XQ ?_;walk_at "";refine fU (v:=.int ls[at']) (aM.of h7) (lE hk2) ?_;walk_at "";refine AY ?_;walk_at "";refine sZ ?_;walk_at "";refine ⟨by show 2<=sizeLine;decide,λp9 hp9=>?_⟩;have s9:=aE hp9 (.lst [V.int 0,V.int (-1)]);refine sY (aM.of (xs:=[V.int 0,V.int (-1)]) aA) rfl rfl ?_;cases hin:YT (V.int ls[at']) [V.int 0,V.int (-1)] with
   |false=>
    refine XQ ?_;walk_at "";refine vV ?_;walk_at "";refine fU (v:=.int ls[at']) (aM.of (s9 _ _ h7)) (lE hk2) ?_;walk_at "";refine WS ⟨by decide,by decide⟩ ?_;walk_at "";refine yX (s9 _ _ h7) (by rw[length_map];exact hk2) ?_;rw[AA];refine fin _ _ _ _ _ (bQ (hSH.trans s9) (none_of hS06 hp7)) (by rw[aF n57];exact s9 _ _ h5) ⟨_,by rw[length_set];exact hll,aA⟩ (by rw[aF n78.symm];exact s9 _ _ h8) m1 m2 rfl
   |true=>
    refine oP ?_;exact other _ _ _ (hSH.trans s9) (s9 _ _ h5) ⟨ls,hll,s9 _ _ h7⟩ (s9 _ _ h8) rfl
 ·obtain ⟨hSH,h5,_,⟨xs,hxl,h8,hxs⟩,a5,a6,a7,rfl⟩:=hP;walk_at "";refine WG (aM.of h8) λp10 hp10=>?_;refine q p10 _ (hSH.trans (aE hp10 _)) (none_of hSH hp10) ⟨xs.reverse,by rw[aA,List.map_reverse],by rw[length_reverse,hxl];show 600<=600;decide,λx hx=>hxs x (mem_reverse.mp hx)⟩
noncomputable def aV (K:Fg):Sp:=λvs H Q _=>∃p,vs=[.ref p]/\Dr H p/\∀(v:Int) (H':Hp),Off p H H'->Dr H' p->0<=v->v<2147483629->Q (.int v) H'
noncomputable def oV (K:Fg):List (SX K):=
 [tS (cmp .Eq (var 0) (lst [])) [ret (cst (.int 0))] [],
  ret (RC (var 0))]
theorem xR:TT (aV K) (oV K) ["_law_drawn"]:=by
 intro vs H Q E h;obtain ⟨p,rfl,⟨xs,hp,hl,hx⟩,q⟩:=h;unfold oV;walk_at "";refine ⟨zero_le _,λp2 hp2=>?_⟩;have s2:=aE hp2 (.lst []);by_cases h0:xs=[]
 ·subst h0;refine Bx (n:=0) (by decide) ⟨_,_,.inl ⟨s2 _ _ hp,aA⟩,rfl,λi x y hx _=>by simp at hx⟩ ?_;refine XQ ?_;walk_at "";exact q 0 _ (aC.off s2) ⟨[],s2 _ _ hp,by decide,λx hx=>nomatch hx⟩ (by decide) (by decide)
 ·refine RF (s2 _ _ hp) aA (by rw[length_map];intro z;exact h0 (List.eq_nil_of_length_eq_zero z)) ?_;refine oP ?_;have hpos:0<xs.length:=List.length_pos_iff.mpr h0;walk_at "";refine vW (aM.of (s2 _ _ hp)) ?_;walk_at "";have hlast:xs.length - 1<xs.length:=by lia
  refine WK (y:=.int xs[xs.length - 1]) (s2 _ _ hp) (by rw[length_map,getElem?_map,List.getElem?_eq_getElem hlast];rfl) ?_;have hb:=hx _ (getElem_mem hlast);refine q _ _ (Off.upd (aC.off s2)) ⟨xs.dropLast,by rw[aA,List.map_dropLast],by rw[List.length_dropLast];lia,λx hx'=>hx x (List.dropLast_subset xs hx')⟩ hb.1 hb.2
end L2.Na
namespace L2.Na.Pr
open PySem PySem.Spec PyProof.Rows L2 L2.L3
variable {K:Fg}
noncomputable def Jw (K:Fg) (H:Hp) (E:XK):Prop:=∀H',aC H H'->E (.ref (clsAt K "NoStart")) none H'
noncomputable def TG (K:Fg) (m:Int) (H:Hp) (E:XK):Prop:=∀H' dx,aC H H'->H' dx=some (.xd [("most",.int m)])->E (.ref (clsAt K "TooGreat")) (some dx) H'
noncomputable def Ep (K:Fg) (H:Hp) (a:Addr) (ws:List Str) (c:Nat) (n:Int) (E:XK):Prop:=tU K H a ws/\Ru ws/\97<=c/\
 ((aJ ws c=false/\Jw K H E)\/(aJ ws c=true/\c - 97<ws.length/\(∀i,i<=400->sz ws i c<=n)/\TG K 400 H E))
noncomputable def bP (K:Fg):Sp:=λvs H Q E=>L2.Na.bP K vs H Q E\/∃(a:Addr) (ws:List Str) (c:Nat) (n:Int),vs=[.ref a,sgn c,.int n]/\Ep K H a ws c n E
noncomputable def Ab (K:Fg):Sp:=λvs H Q E=>∃(a:Addr) (ws:List Str) (c:Nat) (n:Int) (k:Nat),vs=[.ref a,sgn c,.int n]/\tU K H a ws/\Ru ws/\97<=c/\c - 97<ws.length/\aJ ws c=true/\k<=400/\(∀i,i<k->sz ws i c<=n)/\
 ((n<sz ws k c/\∀p rs H',aC H H'->H p=none->EL H' p rs (eF ws (k+1))->Q (.ref p) H')\/(k=400/\sz ws k c<=n/\TG K 400 H E))
noncomputable def cS (K:Fg):List (SX K):=
 [tS (pF (call "grows" (uM K) [var 0,var 1])) [raiseO "NoStart" (cst (.str "the rule doesn't grow from this letter")) []] [],
  set 3 (call "table" (jG K) [var 0]),
  set 4 (mF (call "letters" (cM K) [len (var 0)]) (var 1)),
  set 5 (lst [call "sizes" (uL K) [var 0,cst (.int 0)]]),
  ZG (cmp .LtE (ix (ix (var 5) (neg (cst (.int 1)))) (var 4)) (var 2)) [tS (cmp .Gt (len (var 5)) (YU "MOST_TURNS" (.int 400))) [yE "TooGreat" "self" "most" "most" (YU "MOST_TURNS" (.int 400))] [],
   ex (bS (var 5) (call "sizes_once" (eG K) [var 3,ix (var 5) (neg (cst (.int 1)))]))],
  ret (var 5)]
theorem pI:∀vs H Q E,bP K vs H Q E->vs.length=3:=by
 rintro vs H Q E (⟨_,_,_,_,_,rfl,_⟩|⟨_,_,_,_,rfl,_⟩)<;>rfl
theorem ZL:TT (Ab K) (cS K) ["rule","start","n","rows","at","made"]:=by
 intro vs H Q E h;obtain ⟨a,ws,c,n,k,rfl,hR,hU,h1,h2,hg,hk,hlt,hor⟩:=h;have h4:=hR.four;have hlen:(ws.map V.str).length=ws.length:=length_map _;have hw:∀w∈ws,gX ws.length w/\w.length<=100000:=λw hm=>⟨hU.isw w hm,by have:=hU.le w hm;lia⟩;unfold cS;walk_at "";refine ⟨a,ws,c,rfl,hR,hU.lens,h1,λH1 hS1=>?_⟩;rw[hg];walk_at "";refine oP ?_;have hR1:=hR.same hS1;walk_at "";refine ⟨a,ws,rfl,hR1,λpT rsT H2 hS2 _ _ hT=>?_⟩;have hR2:=hR1.same hS2;have hq2:=hR2.tp;walk_at "";refine ⟨_,rfl,?_⟩;walk_at "";obtain ⟨rr,hr⟩:=vR (m:=((ws.map V.str).length:Nat)) (by lia) (by lia) h1 (show c - 97<(((ws.map V.str).length:Nat):Int).toNat by lia);refine nY hr ?_;walk_at "";refine ⟨a,ws,0,rfl,hR2,hw,by lia,by lia,λr0 H3 hS3 hr0 hr03=>?_⟩;walk_at "";refine ⟨by show 1<=sizeLine;decide,λp hp=>?_⟩;walk_at "";have hS0:aC H H3:=(hS1.trans hS2).trans hS3;have hTs:=hS2.trans hS3;have hrow:∀xs∈rowsOf ws,ZE xs/\xs.length<=1000:=λxs hx=>by
  unfold rowsOf at hx;obtain ⟨w,hm,rfl⟩:=mem_map.mp hx;exact ⟨oF (hw w hm).2,by rw[cY];lia⟩
 refine mG (m:=k) (λm σ H'=>m<=k/\(∃rs:List Addr,aC H3 H'/\EL H' p rs (eF ws (k - m+1))/\(∀x∈rs,x≠p))/\σ=[some (.ref a),some (sgn c),some (.int n),some (.ref pT),some (.int ((c - 97:Nat):Int)),some (.ref p)])
  ⟨Nat.le_refl _,⟨[r0],aE hp _,⟨aA,by rw[iP,sub_self];rfl,λi x y hx hy=>?_⟩,λx hx=>?_⟩,rfl⟩ (λm σ H' hW=>?_)
 ·have e0:i=0:=by
   have:=(List.getElem?_eq_some_iff.mp hx).1;simp at this;lia
  subst e0;have e1:r0=x:=by simpa using hx
  subst e1;rw[sub_self,iQ (by lia)] at hy;cases hy;exact aE hp _ _ _ hr03
 ·have e1:x=r0:=by simpa using hx
  subst e1;exact aB hr03 hp
 ·obtain ⟨hm,⟨rs,hSs,hTb,hne⟩,rfl⟩:=hW;have hrl:rs.length=k - m+1:=by rw[hTb.2.1,iP]
  obtain ⟨rl,hlast⟩:∃r,rs[k - m]?=some r:=⟨_,List.getElem?_eq_getElem (show k - m<rs.length by lia)⟩;have hrow2:=hTb.2.2 (k - m) _ _ hlast (iQ (by lia));have hat:kL (rs.map V.ref) (-(1:Int))=some (.ref rl):=EK (by rw[length_map,hrl,show k - m+1 - 1=k - m by lia,getElem?_map,hlast];rfl);walk_at "";refine AY ?_;walk_at "";refine sZ ?_;refine fU (aM.of hTb.1) hat ?_;walk_at "";refine fU (aM.of hrow2) (ZY h2) ?_;walk_at "";refine lC (λhc=>zR ?_) λhc=>?_
  ·walk_at "";refine tB (aM.of hTb.1) ?_;walk_at "";refine lC (λhc2=>?_) λhc2=>?_
   ·rw[length_map,hrl] at hc2;have em:m=0:=by lia
    subst em;rw[Nat.sub_zero] at hc;rcases hor with ⟨hn,_⟩|⟨_,_,tg⟩
    ·lia
    walk_at "";refine vU ?_;walk_at "";exact λdx hdx=>tg _ dx ((hS0.trans hSs).trans (aE hdx _)) aA
   rw[length_map,hrl] at hc2;have hm0:0<m:=by
    by_cases h0:0<m
    ·exact h0
    ·have e:m=0:=by lia
     subst e;rw[Nat.sub_zero] at hc;rcases hor with ⟨hn,_⟩|⟨_,_,_⟩<;>lia
   walk_at "";refine vW (aM.of hTb.1) ?_;walk_at "";refine AY ?_;walk_at "";refine sZ ?_;refine fU (aM.of hTb.1) hat ?_;walk_at "";refine ⟨pT,_,rsT,rowsOf ws,pD ws (k - m),rfl,(hT.same hS3).same hSs,hrow2,hrow,?_,λr H4 hS4 hr4 hr42=>?_⟩
   ·rw[bB];lia
   walk_at "";rw[uG hU.isw] at hr42;have hpn:r≠p:=(aB hTb.1 hr4).symm;refine cO (hS4 _ _ hTb.1) (by rw[length_map,hrl];exact Nat.lt_of_lt_of_le (show k - m+1<1000 by lia) (small (by decide))) ?_;refine ⟨m - 1,by lia,by lia,⟨rs++[r],bQ (hSs.trans hS4) hp,?_,λx hx=>?_⟩,rfl⟩
   ·have e:k - (m - 1)+1=(k - m+1)+1:=by lia
    rw[e,uH];refine EL.snoc hTb ?_ ?_ (λb o hb e=>?_) hne
    ·rw[aF hpn];exact hr42
    ·rw[aA,map_append];rfl
    ·rw[aF hb];exact hS4 _ _ e
   ·rcases mem_append.mp hx with h|h
    ·exact hne x h
    ·have e:x=r:=by simpa using h
     subst e;exact hpn
  ·have hm0:m=0:=by
    by_cases h0:m=0
    ·exact h0
    ·have:=hlt (k - m) (by lia);exact absurd this hc
   subst hm0;rw[Nat.sub_zero] at hTb;walk_at "";rw[Nat.sub_zero] at hc;rcases hor with ⟨_,q⟩|⟨_,h,_⟩
   ·exact q p rs H' (hS0.trans hSs) (none_of hS0 hp) hTb
   ·exact absurd h hc
theorem oX:TT (bP K) (cS K) ["rule","start","n","rows","at","made"]:=by
 intro vs H Q E h;rcases h with ⟨a,ws,c,n,k,rfl,hR,hU,h1,h2,hg,hk,hn,hlt,q⟩|⟨a,ws,c,n,rfl,hR,hU,h1,hb⟩
 ·exact ZL _ H Q E ⟨a,ws,c,n,k,rfl,hR,hU,h1,h2,hg,hk,hlt,.inl ⟨hn,q⟩⟩
 rcases hb with ⟨hg,q⟩|⟨hg,h2,hle,tg⟩
 ·unfold cS;walk_at "";refine ⟨a,ws,c,rfl,hR,hU.lens,h1,λH1 hS1=>?_⟩;rw[hg];walk_at "";refine XQ ?_;walk_at "";refine JC ?_;walk_at "";exact ⟨by show 1<=sizeLine;decide,q H1 hS1⟩
 ·exact ZL _ H Q E ⟨a,ws,c,n,400,rfl,hR,hU,h1,h2,hg,Nat.le_refl _,λi hi=>hle i (by lia),.inr ⟨rfl,hle 400 (Nat.le_refl _),tg⟩⟩
noncomputable def cN (K:Fg):Sp:=λvs H Q E=>L2.Na.cN K vs H Q E\/∃(a:Addr) (ws:List Str) (c:Nat) (n:Int),vs=[.ref a,sgn c,.int n]/\Ep K H a ws c n E
noncomputable def lD (K:Fg):List (SX K):=
 [set 3 (call "sizes_until" (bP K) [var 0,var 1,var 2]),
  set 4 (call "words_by_letter" (bI K) [var 0]),
  set 5 (lst []),
  set 6 (var 1),
  set 7 (var 2),
  gQ (fX 8) (Dj (xC (var 3) none (some (neg (cst (.int 1)))))) [set 9 (PD (call "letters" (cM K) [len (var 0)]) (var 8)),
   set 10 (ix (var 4) (var 6)),
   set 11 (cst (.int 0)),
   ZG (cmp .LtE (ix (var 9) (ix (var 10) (var 11))) (var 7)) [set 7 (bin .Sub (var 7) (ix (var 9) (ix (var 10) (var 11)))),
    set 11 (bin .Add (var 11) (cst (.int 1)))],
   set 6 (ix (var 10) (var 11)),
   ex (bS (var 5) (tup [var 11,var 6]))],
  ret (var 5)]
theorem DJ:∀vs H Q E,cN K vs H Q E->vs.length=3:=by
 rintro vs H Q E (⟨_,_,_,_,_,rfl,_⟩|⟨_,_,_,_,rfl,_⟩)<;>rfl
theorem CG:TT (cN K) (lD K) ["rule","start","n","rows","word_for","pairs","letter","left","row","size_of","word","step"]:=by
 intro vs H Q E h;rcases h with h|⟨a,ws,c,n,rfl,hb⟩
 case inr=>
  unfold lD;walk_at "";exact .inr ⟨a,ws,c,n,rfl,hb⟩
 obtain ⟨a,ws,c,n,k,rfl,hR,hU,hg,hk,hG,hlt,q⟩:=h;unfold lD;walk_at "";refine .inl ⟨a,ws,c,n,k,rfl,hR,hU,hG.1,hG.2.1,hg,hk,hG.2.2.2,hlt,λp rs H1 hS1 hp1 hT=>?_⟩;have hrl:rs.length=k+1:=by rw[hT.2.1,iP]
 walk_at "";refine ⟨a,ws,rfl,hR.same hS1,λd H2 hS2 _ hd=>?_⟩;walk_at "";refine ⟨zero_le _,λpl hpl=>?_⟩;have s3:=aE hpl (.lst []);have hS02:=hS1.trans hS2;have hT3:=(hT.same hS2).same s3;walk_at "";refine WI ?_;walk_at "";refine AY ?_;walk_at "";refine sZ ?_;walk_at "";refine JB (aM.of hT3.1) λl hl=>?_;rw[XM (by rw[length_map];lia),length_map,hrl,show k+1 - 1=k by lia];have s4:=aE hl (.lst ((rs.map V.ref).take k));have hlen:((rs.map V.ref).take k).length=k:=by rw[length_take,length_map];lia
 refine WH (aM.of aA) ?_;have hplne:l≠pl:=(aB (H:=upd H2 pl (.lst [])) aA hl).symm;have hpl4:∀H',Off pl (upd (upd H2 pl (.lst [])) l (.lst ((rs.map V.ref).take k))) H'->aC H2 H':=λH' o=>Off.same (s3.trans s4) o hpl;refine II (λi σ H'=>i<=k/\Off pl (upd (upd H2 pl (.lst [])) l (.lst ((rs.map V.ref).take k))) H'/\(∃us:List Addr,Ih H' pl us ((cX ws k c n).take i)/\(∀u∈us,H u=none/\u≠pl))/\
   ∃(a8 a9 a10 a11:Option V),σ=[some (.ref a),some (sgn c),some (.int n),some (.ref p),some (.ref d),some (.ref pl),some (sgn (bM ws k c n i).1),some (.int (bM ws k c n i).2),a8,a9,a10,a11])
  ⟨zero_le _,λ_ _ _ e=>e,⟨[],⟨s4 _ _ aA,rfl,λi r f hr=>by simp at hr⟩,λu hu=>nomatch hu⟩,none,none,none,none,by cases k<;>rfl⟩
  (λi σ H' hP=>aM.of (hP.2.1 l _ hplne aA)) (λi x σ H' hx hP=>?_) λσ H' hP=>?_
 ·obtain ⟨hi,hO,⟨us,hF,hus⟩,a8,a9,a10,a11,rfl⟩:=hP;have hik:i<k:=by
   have:=(List.getElem?_eq_some_iff.mp hx).1;rw[length_reverse,hlen] at this;exact this
  have hki:k - 1 - i<rs.length:=by lia
  have ex:x=.ref rs[k - 1 - i]:=by
   rw[List.getElem?_reverse (by rw[hlen];exact hik),hlen,getElem?_take,if_pos (by lia),getElem?_map,List.getElem?_eq_getElem hki] at hx;exact (Option.some.inj hx).symm
  subst ex;have hS:=hpl4 H' hO;have hrow:H' rs[k - 1 - i]=some (.lst ((pD ws (k - 1 - i)).map V.int)):=hS _ _ (hS2 _ _ (hT.2.2 (k - 1 - i) _ _ (List.getElem?_eq_getElem hki) (iQ (by lia))));have hGi:=kA hU k c n i hG hi;obtain ⟨g1,g2,g3,g4⟩:=id hGi;have eki:k - i=(k - 1 - i)+1:=by lia
  rw[eki] at hGi;obtain ⟨dn,hdn,hGn⟩:=hGi.step hU;obtain ⟨w,hw,hwd,hwm⟩:=hU.word g2;have hsucc:=oE (ws:=ws) k c n i hik;have hfat:=tF (ws:=ws) k c n i hik;rw[show k - i - 1=k - 1 - i by lia] at hsucc hfat;obtain ⟨cl,hcl⟩:∃cl,(bM ws k c n i).1=cl:=⟨_,rfl⟩;obtain ⟨x0,hx0⟩:∃x0,(bM ws k c n i).2=x0:=⟨_,rfl⟩;simp only [hcl,hx0] at hsucc hfat hGn hdn g1 g2 g3 g4 hw hwd;rw[hcl,hx0];obtain ⟨st,hst⟩:∃st,(bC ws (k - 1 - i) (wd ws cl) x0).1=st:=⟨_,rfl⟩;rw[eki,gY g2] at g4;obtain ⟨o1,o2,o3,o4⟩:=tE (wd ws cl) x0 g3 g4;rw[hst] at o1 o4 hdn hfat hsucc;rw[hdn] at hsucc;refine AZ (lL (qI (xZ (K:=K) (a:=a) (r:=rs[k - 1 - i]) rfl rfl (hR.same (hS02.trans hS)) hrow λdz H5 hS5 _ hdz=>?_)));walk_at "";refine qJ (((hd.same hS).same hS5).get g1 hw) ?_;walk_at "";have hwl:=hU.le w hwm;have hlsw:wd ws cl=w.cps.toList:=hwd;refine lL (mG (m:=st) (λm σ H6=>m<=st/\H6=H5/\σ=[some (.ref a),some (sgn c),some (.int n),some (.ref p),some (.ref d),some (.ref pl),some (sgn cl),some (.int (x0 - aP ws (k - 1 - i) ((wd ws cl).take (st - m)))),some (.ref rs[k - 1 - i]),some (.ref dz),some (.str w),some (.int ((st - m:Nat):Int))])
   ⟨Nat.le_refl _,rfl,?_⟩ (λm σ H6 hW=>?_))
  ·rw[sub_self,take_zero];have e0:aP ws (k - 1 - i) []=0:=rfl;rw[e0,Int.sub_zero];rfl
  ·obtain ⟨hm,rfl,rfl⟩:=hW;have hs:st - m<(wd ws cl).length:=by lia
   have hch:(wd ws cl)[st - m]?=some (wd ws cl)[st - m]:=List.getElem?_eq_getElem hs;obtain ⟨sg1,sg2⟩:=hU.sign g2 (getElem_mem hs);have hat:kL w.cps.toList ((st - m:Nat):Int)=some (wd ws cl)[st - m]:=cH (by rw[<-hlsw];exact hch);have hwk:=vY (ws:=ws) (k:=k - 1 - i) (wd ws cl) x0 (st - m) _ (by rw[hst];lia) hch;rw[hst] at hwk;walk_at "";refine jW (small (by lia)) hat ?_;refine qJ (hdz.get sg1 sg2) ?_;walk_at "";refine lC (λhc=>zR ?_) λhc=>?_
   ·have hlt2:=hwk.mpr hc;have hm0:0<m:=by lia
    walk_at "";refine jW (small (by lia)) hat ?_;refine qJ (hdz.get sg1 sg2) ?_;walk_at "";refine ⟨m - 1,by lia,by lia,rfl,?_⟩;have e1:st - (m - 1)=(st - m)+1:=by lia
    have e2:aP ws (k - 1 - i) ((wd ws cl).take (st - m+1))=aP ws (k - 1 - i) ((wd ws cl).take (st - m))+sz ws (k - 1 - i) (wd ws cl)[st - m]:=by
     rw[take_add_one,hch];unfold aP;rw[map_append,List.sum_append];simp
    rw[e1,e2];have e3:((st - m:Nat):Int)+1=((st - m+1:Nat):Int):=by lia
    have e4:x0 - aP ws (k - 1 - i) ((wd ws cl).take (st - m)) - sz ws (k - 1 - i) (wd ws cl)[st - m]=x0 - (aP ws (k - 1 - i) ((wd ws cl).take (st - m))+sz ws (k - 1 - i) (wd ws cl)[st - m]):=by lia
    rw[<-e3,<-e4];rfl
   ·have hm0:m=0:=by
     by_cases h0:m=0
     ·exact h0
     ·exact absurd (hwk.mp (by lia)) hc
    subst hm0;have hat0:kL w.cps.toList ((st:Nat):Int)=some (wd ws cl)[st]:=cH (by rw[<-hlsw];exact List.getElem?_eq_getElem o1);rw[Nat.sub_zero];walk_at "";refine jW (small (by lia)) hat0 ?_;walk_at "";refine vW (aM.of (hS5 _ _ hF.1)) ?_;walk_at "";refine ⟨by show 2<=sizeLine;decide,λt ht=>?_⟩;walk_at "";have s6:=aE ht (.tup [V.int (st:Nat),sgn (wd ws cl)[st]]);have htp:t≠pl:=(aB (hS5 _ _ hF.1) ht).symm;have hdn':(wd ws cl)[st]=dn:=by
     rw[List.getElem?_eq_getElem o1] at hdn;exact Option.some.inj hdn
    have hfl:((cX ws k c n).take i).length=i:=by rw[length_take,bT];lia
    refine cO (s6 _ _ (hS5 _ _ hF.1)) (by rw[length_map,hF.2.1,hfl];exact Nat.lt_of_lt_of_le (show i<1000 by lia) (small (by decide))) ?_;refine ⟨hik,((hO.trans hS5).trans s6).upd,⟨us++[t],⟨by rw[aA,map_append];rfl,?_,λj r f hr hf=>?_⟩,λu hu=>?_⟩,some (.ref rs[k - 1 - i]),some (.ref dz),some (.str w),some (.int st),?_⟩
    ·rw[length_append,hF.2.1,hfl,length_take,bT];show i+1=_;lia
    ·rw[take_add_one,hfat] at hf;by_cases hj:j<us.length
     ·rw[getElem?_append_left hj] at hr;rw[getElem?_append_left (by rw[<-hF.2.1];exact hj)] at hf;have hne:=(hus r (mem_of_getElem? hr)).2;rw[aF hne];exact s6 _ _ (hS5 _ _ (hF.2.2 j r f hr hf))
     ·rw[getElem?_append_right (by lia)] at hr;rw[getElem?_append_right (by rw[<-hF.2.1];lia),<-hF.2.1] at hf;have e0:j - us.length=0:=by
       have:=(List.getElem?_eq_some_iff.mp hr).1;simp at this;lia
      rw[e0] at hr hf;have e1:t=r:=by simpa using hr
      have e2:(st,(bM ws k c n (i+1)).1)=f:=by simpa using hf
      subst e1 e2;rw[aF htp,aA,hsucc,hdn'];rfl
    ·rcases mem_append.mp hu with h|h
     ·exact hus u h
     ·have e:u=t:=by simpa using h
      subst e;exact ⟨none_of (hS02.trans (hS.trans hS5)) ht,htp⟩
    ·rw[hsucc,o4,hdn'];rfl
 ·obtain ⟨hi,hO,⟨us,hF,hus⟩,a8,a9,a10,a11,rfl⟩:=hP;walk_at "";rw[hlen] at hF;rw[take_of_length_le (by rw[bT];exact Nat.le_refl _)] at hF;exact q pl us H' (hS02.trans (hpl4 H' hO)) (none_of hS02 hpl) (λr hr=>(hus r hr).1) hF
noncomputable def bL (K:Fg):Sp:=λvs H Q E=>L2.Na.bL K vs H Q E\/∃(a:Addr) (ws:List Str) (c n m:Nat),vs=[.ref a,sgn c,.int n,.int m]/\1<=m/\Ep K H a ws c ((n+m - 1:Nat):Int) E
noncomputable def fN (K:Fg):List (SX K):=
 [set 4 (call "figures" (cN K) [var 0,var 1,bin .Sub (bin .Add (var 2) (var 3)) (cst (.int 1))]),
  setC 5 (wK none (var 0) (LW [0,1]) (iU (call "figures" (cN K) [var 0,var 1,var 2])) ["step","letter"] [] []),
  set 6 (bin .Mult (lst [cst (.int 0)]) (bin .Sub (len (var 4)) (len (var 5)))),
  set 7 (var 1),
  gQ (fX 8) (iU (bin .Add (var 6) (var 5))) [set 7 (xC (xC (call "put" (mX K) [var 0,var 7]) (some (var 8)) none) none (some (var 3)))],
  ret (xC (var 7) none (some (var 3)))]
theorem sW:∀vs H Q E,bL K vs H Q E->vs.length=4:=by
 rintro vs H Q E (⟨_,_,_,_,_,rfl,_⟩|⟨_,_,_,_,_,rfl,_⟩)<;>rfl
theorem rQ:TT (bL K) (fN K) ["rule","start","n","many","last","steps","ahead","window","step"]:=by
 intro vs H Q E h;rcases h with h|⟨a,ws,c,n,m,rfl,hm1,hb⟩
 case inr=>
  unfold fN;walk_at "";exact .inr ⟨a,ws,c,_,rfl,(show ((n:Nat):Int)+((m:Nat):Int) - 1=((n+m - 1:Nat):Int) by lia)▸hb⟩
 obtain ⟨a,ws,c,n,m,rfl,hP,hm1,hm2,q⟩:=h;have hU:=hP.ru;obtain ⟨kk,hkk,hGG,hltt⟩:=hP.turns;have hP2:Pl K H a ws c ((n:Nat):Int):=hP.less (by lia) (by lia);obtain ⟨k,hk,hG,hlt⟩:=hP2.turns;have hkle:k<=kk:=by
  by_cases h:k<=kk
  ·exact h
  ·have:=hlt kk (by lia);have:=hGG.2.2.2;lia
 have hGn:=hG.more hU hP.gr hkle;unfold fN;walk_at "";refine .inl ⟨a,ws,c,_,kk,rfl,hP.rt,hU,hP.gr,hkk,?_,?_,λp rs H1 hS1 _ _ hF=>?_⟩
 ·rw[show ((n:Nat):Int)+((m:Nat):Int) - 1=((n+m - 1:Nat):Int) by lia];exact hGG
 ·rw[show ((n:Nat):Int)+((m:Nat):Int) - 1=((n+m - 1:Nat):Int) by lia];exact hltt
 have hrl:rs.length=kk:=by rw[hF.2.1,bT]
 walk_at "";refine .inl ⟨a,ws,c,n,k,rfl,hP.rt.same hS1,hU,hP.gr,hk,hG,hlt,λp2 rs2 H2 hS2 _ _ hF2=>?_⟩;have hrl2:rs2.length=k:=by rw[hF2.2.1,bT]
 have hlm:(rs2.map V.ref).length=k:=by rw[length_map,hrl2]
 refine jX (aM.of hF2.1) ?_;intro D hD;have hfi:∀i,i<k->∃f,(cX ws k c n)[i]?=some f:=λi hi=>⟨_,List.getElem?_eq_getElem (by rw[bT];exact hi)⟩;refine KH (λi=>.int ((((cX ws k c n)[i]?.getD (0,0)).1:Nat):Int)) (λi=>.int ((((cX ws k c n)[i]?.getD (0,0)).1:Nat):Int)) (λi=>sgn ((cX ws k c n)[i]?.getD (0,0)).2) (aM.of hF2.1) (λi x hx=>?_) hD (small (by lia)) (λi H3 Q' hi hS3 fin=>?_) λH3 hS3 hO=>?_
 ·have hi:i<rs2.length:=by
   have:=(List.getElem?_eq_some_iff.mp hx).1;rw[length_map] at this;exact this
  rw[getElem?_map,List.getElem?_eq_getElem hi] at hx;obtain ⟨f,hf⟩:=hfi i (by lia);refine ⟨rs2[i],(Option.some.inj hx).symm,?_⟩;rw[hf];exact bX.of (hF2.2.2 i _ f (List.getElem?_eq_getElem hi) hf)
 ·walk_at "";exact fin H3 (aC.refl _)
 have hO':H3 D=some (.lst ((cX ws k c n).map λf=>V.int (f.1:Nat))):=by
  rw[hO,hlm]
  congr 2
  refine ext_getElem? λi=>?_;rw[getElem?_map,getElem?_map];by_cases hi:i<k
  ·obtain ⟨f,hf⟩:=hfi i hi;rw[getElem?_range hi,hf];show some (V.int ((((cX ws k c n)[i]?.getD (0,0)).1:Nat):Int))=_;rw[hf];rfl
  ·rw[List.getElem?_eq_none_iff.mpr (by rw[length_range];lia),List.getElem?_eq_none_iff.mpr (by rw[bT];lia)];rfl
 have hl4:(rs.map V.ref).length=kk:=by rw[length_map,hrl]
 have hl5:((cX ws k c n).map λf=>V.int (f.1:Nat)).length=k:=by rw[length_map,bT]
 have hq4:aM K H3 p (rs.map V.ref):=aM.of ((hS2.trans hS3) _ _ hF.1);have hq5:aM K H3 D ((cX ws k c n).map λf=>V.int (f.1:Nat)):=aM.of hO';walk_at "";refine ⟨by show 1<=sizeLine;decide,λl hl=>?_⟩;have s4:=aE hl (.lst [V.int 0]);walk_at "";refine tB (s4.seq hq4) ?_;walk_at "";refine tB (s4.seq hq5) ?_;walk_at "";rw[hl4,hl5,show ((kk:Nat):Int) - ((k:Nat):Int)=((kk - k:Nat):Int) by lia];refine AX (xs:=[V.int 0]) aA ⟨by lia,by lia⟩ (small (by show 1 * _<=_;lia)) λl2 hl2=>?_;rw[jZ,toNat_natCast];have s5:=aE hl2 (.lst (replicate (kk - k) (V.int 0)));walk_at "";refine yZ aA (s5 _ _ (s4 _ _ hO')) (small (by rw[length_replicate,hl5];lia)) λl3 hl3=>?_;rw[sT hU hP.gr hG,show k+(kk - k)=kk by lia];have s6:=aE hl3 (.lst ((cX ws kk c n).map λf=>V.int (f.1:Nat)));refine jX (aM.of aA) ?_;have hS06:aC H (upd (upd (upd H3 l (.lst [V.int 0])) l2 (.lst (replicate (kk - k) (V.int 0)))) l3 (.lst ((cX ws kk c n).map λf=>V.int (f.1:Nat)))):=(((hS1.trans hS2).trans hS3).trans (s4.trans s5)).trans s6;refine nO (aM.of aA) (λi σ=>i<=kk/\∃A B a8,At ws c kk n i A B/\σ=[some (.ref a),some (sgn c),some (.int n),some (.int m),some (.ref p),some (.ref D),some (.ref l2),some (.str (aH (((bM ws kk c n i).1::B).take m))),a8])
  ⟨zero_le _,[],[],none,PV,?_⟩ (λi x σ1 H7 hx hPi hS7=>?_) λσ1 H7 hPi hS7=>?_
 ·have e:bM ws kk c n 0=(c,((n:Nat):Int)):=by cases kk<;>rfl
  rw[e,take_of_length_le (by show 1<=m;lia)];rfl
 ·obtain ⟨_,A,B,a8,hA,rfl⟩:=hPi;have hi:i<kk:=by
   have:=(List.getElem?_eq_some_iff.mp hx).1;rw[length_map,bT] at this;exact this
  obtain ⟨st,S,hf,hst,hw,hdr,hA'⟩:=PX hU hGn hi hA;have ex:x=.int ((st:Nat):Int):=by
   rw[getElem?_map,hf] at hx;exact (Option.some.inj hx).symm
  subst ex;have hLw:cI ws ((bM ws kk c n i).1::B):=λd hd=>dH hU hP.c1 hP.c2 i d (by rw[hA.1];exact mem_append_right _ hd);have hLt:cI ws (((bM ws kk c n i).1::B).take m):=λd hd=>hLw d (mem_of_mem_take hd);have hwl:(aH (((bM ws kk c n i).1::B).take m)).length<=m:=by rw[eJ,length_take];lia
  walk_at "";refine ⟨a,ws,_,rfl,(hP.rt.same hS06).same hS7,hU.le,hLt.isW,by lia,λH8 hS8=>?_⟩;have hil:=IV (ws:=ws) (z:=aH (((bM ws kk c n i).1::B).take m)) (B:=100) hU.le;have hil2:(img ws (aH (((bM ws kk c n i).1::B).take m))).length<=1000000:=by lia
  have hls:ls (img ws (aH (((bM ws kk c n i).1::B).take m)))=aK ws (((bM ws kk c n i).1::B).take m):=by rw[kX,aW];rfl
  have hge:st<=(img ws (aH (((bM ws kk c n i).1::B).take m))).length:=by
   rw[<-aN,hls];obtain ⟨m',rfl⟩:∃m',m=m'+1:=⟨m - 1,by lia⟩;rw[take_succ_cons,aS,length_append];lia
  walk_at "";refine fT (small hil2) ?_;walk_at "";have hsl:=kQ (img ws (aH (((bM ws kk c n i).1::B).take m))) (some ((st:Nat):Int)) none;refine fT (small (by lia)) ?_;refine ⟨⟨hi,_,_,some (.int st),hA',?_⟩,hS7.trans hS8⟩;have e:Txt.slice (Txt.slice (img ws (aH (((bM ws kk c n i).1::B).take m))) (some ((st:Nat):Int)) none) none (some ((m:Nat):Int))=aH (((bM ws kk c n (i+1)).1::(S++aK ws B)).take m):=by
   refine fM ?_;rw[show ls (Txt.slice (Txt.slice (img ws (aH (((bM ws kk c n i).1::B).take m))) (some ((st:Nat):Int)) none) none (some ((m:Nat):Int)))=(Txt.slice (img ws (aH (((bM ws kk c n i).1::B).take m))) (some ((st:Nat):Int)) none).cps.toList.take ((m:Nat):Int).toNat from cF (by lia)];rw[xY (by lia) (by lia),toNat_natCast,toNat_natCast,aW];show ((ls (img ws (aH (((bM ws kk c n i).1::B).take m)))).drop st).take m=_;rw[hls,window hU hLw hst hm1,aS,List.drop_append_of_le_length (by lia),hdr];rfl
  rw[e];rfl
 ·obtain ⟨_,A,B,a8,hA,rfl⟩:=hPi;rw[length_map,bT] at hA ⊢;have hAl:=XZ hU hGn hA;walk_at "";refine fT (small (by rw[eJ,length_take];lia)) ?_;have e:Txt.slice (aH (((bM ws kk c n kk).1::B).take m)) none (some ((m:Nat):Int))=aH (str ws c n m):=by
   refine fM ?_;rw[show ls (Txt.slice (aH (((bM ws kk c n kk).1::B).take m)) none (some ((m:Nat):Int)))=(aH (((bM ws kk c n kk).1::B).take m)).cps.toList.take ((m:Nat):Int).toNat from cF (by lia)];show (ls (aH (((bM ws kk c n kk).1::B).take m))).take _=_;rw[aW,toNat_natCast,aW,take_take,Nat.min_self];have hwl:=dJ hU hP.c1 hP.c2 kk;have hgg:=hGG.2.2.2;rw[<-iO hU hP.c1 hP.c2 hP.gr (k:=kk) (by lia),hA.1,List.drop_append_of_le_length (by lia),List.drop_of_length_le (by lia)];rfl
  rw[e];exact q _ (hS06.trans hS7)
end L2.Na.Pr
namespace L2.Na
open PySem
noncomputable def fW (ws:List Str) (x:List Nat):List (List Nat):=(range (wd ws (x.headD 0)).length).map λj=>((aK ws x).drop j).take x.length
noncomputable abbrev bF:=List Nat × List Int
noncomputable def bJ (f:List bF):List (List Nat):=f.map (·.1)
noncomputable def bN (f:List bF) (p:bF):List bF:=if p.1∈bJ f then f else f++[p]
noncomputable def chl (ws:List Str) (x:bF):List bF:=(range (wd ws (x.1.headD 0)).length).map λj=>(((aK ws x.1).drop j).take x.1.length,zipWith (·+·) (zL (rowsOf ws) x.2 1) (bU ws.length (aH ((wd ws (x.1.headD 0)).take j))))
noncomputable def aR (ws:List Str) (f0:List bF):Nat->List bF
 |0=>f0
 |i+1=>match (aR ws f0 i)[i]? with
  |some x=>(chl ws x).foldl bN (aR ws f0 i)
  |none=>aR ws f0 i
theorem fK (f g:List bF):bJ (f++g)=bJ f++bJ g:=map_append
theorem hZ (f:List bF):(bJ f).length=f.length:=length_map _
theorem BJ (ws:List Str) (x:bF):bJ (chl ws x)=fW ws x.1:=by
 unfold bJ chl fW;rw[map_map];rfl
theorem LM (f:List bF) (p:bF):∃t,bN f p=f++t:=by
 unfold bN;split
 ·exact ⟨[],(append_nil f).symm⟩
 ·exact ⟨[p],rfl⟩
theorem kI:∀(ps f:List bF),∃t,ps.foldl bN f=f++t
 |[],f=>⟨[],(append_nil f).symm⟩
 |p::ps,f=>by
  obtain ⟨t,e⟩:=LM f p;obtain ⟨u,g⟩:=kI ps (bN f p);exact ⟨t++u,by rw[foldl_cons,g,e,List.append_assoc]⟩
theorem FZ (ws:List Str) (f0:List bF) (i:Nat):∃t,aR ws f0 (i+1)=aR ws f0 i++t:=by
 show ∃t,(match (aR ws f0 i)[i]? with|some x=>(chl ws x).foldl bN (aR ws f0 i)|none=>aR ws f0 i)=_;cases (aR ws f0 i)[i]? with
 |none=>exact ⟨[],(append_nil _).symm⟩
 |some x=>exact kI _ _
theorem dF (ws:List Str) (f0:List bF) (i:Nat):∀k,∃t,aR ws f0 (i+k)=aR ws f0 i++t
 |0=>⟨[],(append_nil _).symm⟩
 |k+1=>by
  obtain ⟨t,e⟩:=dF ws f0 i k;obtain ⟨u,g⟩:=FZ ws f0 (i+k);exact ⟨t++u,by rw[<-Nat.add_assoc,g,e,List.append_assoc]⟩
theorem zX (ws:List Str) (f0:List bF) (h:i<=k):(aR ws f0 i).length<=(aR ws f0 k).length:=by
 obtain ⟨t,e⟩:=dF ws f0 i (k - i);rw[show i+(k - i)=k by lia] at e;rw[e,length_append];lia
theorem mV (ws:List Str) (f0:List bF) (h:(aR ws f0 i).length<=i):∀k,aR ws f0 (i+k)=aR ws f0 i
 |0=>rfl
 |k+1=>by
  have ih:=mV ws f0 h k;show (match (aR ws f0 (i+k))[i+k]? with|some x=>(chl ws x).foldl bN (aR ws f0 (i+k))|none=>aR ws f0 (i+k))=_;rw[ih,List.getElem?_eq_none (by lia)]
structure pN (ws:List Str) (L:Nat) (f:List bF):Prop where
 nd:(bJ f).Nodup
 ok:∀p∈f,p.1.length=L/\cI ws p.1/\p.2.length=ws.length
theorem PZ (h:pN ws L f) (hp:p.1.length=L/\cI ws p.1/\p.2.length=ws.length):pN ws L (bN f p):=by
 unfold bN;split
 ·exact h
 ·rename_i hn;refine ⟨?_,λq hq=>?_⟩
  ·rw[fK];exact List.nodup_append.mpr ⟨h.nd,nodup_cons.mpr ⟨by simp [bJ],List.nodup_nil⟩,λa ha b hb e=>hn (by
    have:b=p.1:=by simpa [bJ] using hb
    rw[<-this,<-e]
    exact ha)⟩
  ·rcases mem_append.mp hq with hq|hq
   ·exact h.ok q hq
   ·have:q=p:=by simpa using hq
    subst this;exact hp
theorem tL:∀{ps f:List bF},pN ws L f->(∀p∈ps,p.1.length=L/\cI ws p.1/\p.2.length=ws.length)->pN ws L (ps.foldl bN f)
 |[],f,h,_=>h
 |p::ps,f,h,hp=>by
  rw[foldl_cons];exact tL (f:=bN f p) (PZ h (hp p (by simp))) λq hq=>hp q (by simp [hq])
theorem AV (hU:Ru ws):∀{l:List Nat},cI ws l->l.length<=(aK ws l).length
 |[],_=>zero_le _
 |c::l,h=>by
  obtain ⟨w,_,e,m⟩:=hU.word (h c (by simp)).2;have:=hU.one w m;rw[<-aN] at this;have ih:=AV hU (l:=l) λd hd=>h d (by simp [hd]);rw[aS,length_append,length_cons,e];lia
theorem gH (hU:Ru ws) (hx:cI ws x) (h1:1<=x.length) (hj:j<(wd ws (x.headD 0)).length):(((aK ws x).drop j).take x.length).length=x.length:=by
 cases x with
 |nil=>simp at h1
 |cons c l=>
  have ih:=AV hU (l:=l) λd hd=>hx d (by simp [hd]);rw[length_take,length_drop,aS,length_append,length_cons];have hj':j<(wd ws c).length:=hj;lia
theorem KU (hU:Ru ws) (hL:1<=L) (hx:x.1.length=L/\cI ws x.1/\x.2.length=ws.length):∀p∈chl ws x,p.1.length=L/\cI ws p.1/\p.2.length=ws.length:=λp hp=>by
 obtain ⟨j,hj,rfl⟩:=mem_map.mp hp;have hj':=mem_range.mp hj;refine ⟨?_,λc hc=>hx.2.1.img hU c (mem_of_mem_drop (mem_of_mem_take hc)),?_⟩
 ·have:=gH hU hx.2.1 (by lia) hj';rw[this];exact hx.1
 ·show (zipWith (·+·) (zL (rowsOf ws) x.2 1) _).length=_;rw[length_zipWith,tJ hx.2.2,cY];lia
theorem fE (hU:Ru ws) (hL:1<=L) {f0:List bF} (h0:pN ws L f0):∀i,pN ws L (aR ws f0 i)
 |0=>h0
 |i+1=>by
  have ih:=fE hU hL h0 i;show pN ws L (match (aR ws f0 i)[i]? with|some x=>(chl ws x).foldl bN (aR ws f0 i)|none=>aR ws f0 i);cases e:(aR ws f0 i)[i]? with
  |none=>exact ih
  |some x=>exact tL ih (KU hU hL (ih.ok x (mem_of_getElem? e)))
noncomputable def PY (f:List (List Nat)) (x:List Nat):List (List Nat):=if x∈f then f else f++[x]
theorem wX (f:List bF) (p:bF):bJ (bN f p)=PY (bJ f) p.1:=by
 unfold bN PY;split
 ·rfl
 ·rw[fK];rfl
noncomputable def nS (f:List bF) (as:List Addr):List (L2.Key × L2.V):=zipWith (λp a=>(Sum.inr (aH p.1),L2.V.ref a)) f as
theorem mE (h:aH x=aH y):x=y:=by
 have:=congrArg ls h;rwa [aW,aW] at this
theorem nQ:∀{f:List bF} {as:List Addr} {x:List Nat},x∉bJ f->L2.cU (nS f as) (Sum.inr (aH x))=none
 |[],as,x,_=>by cases as<;>rfl
 |p::f,[],x,_=>rfl
 |p::f,a::as,x,h=>by
  have h1:¬(Sum.inr (aH p.1):L2.Key)=Sum.inr (aH x):=λe=>h (by
   have:=mE (Sum.inr.inj e)
   rw[<-this]
   exact mem_cons_self)
  show L2.cU ((Sum.inr (aH p.1),L2.V.ref a)::nS f as) _=none;rw[L2.dM h1];exact nQ λz=>h (mem_cons_of_mem _ z)
theorem mI:∀{f:List bF} {as:List Addr} {i:Nat} {p:bF} {a:Addr},(bJ f).Nodup->f[i]?=some p->as[i]?=some a->L2.cU (nS f as) (Sum.inr (aH p.1))=some (.ref a)
 |[],as,i,p,a,_,h,_=>by simp at h
 |q::f,[],i,p,a,_,_,h=>by simp at h
 |q::f,b::as,0,p,a,_,h1,h2=>by
  cases h1;cases h2;exact L2.fZ rfl
 |q::f,b::as,i+1,p,a,nd,h1,h2=>by
  have nd':(q.1::bJ f).Nodup:=nd;obtain ⟨n1,n2⟩:=nodup_cons.mp nd';have hm:p.1∈bJ f:=mem_map.mpr ⟨p,mem_of_getElem? (by simpa using h1),rfl⟩;have ne:¬(Sum.inr (aH q.1):L2.Key)=Sum.inr (aH p.1):=λe=>n1 (by
   have:=mE (Sum.inr.inj e)
   rw[this]
   exact hm)
  show L2.cU ((Sum.inr (aH q.1),L2.V.ref b)::nS f as) _=_;rw[L2.dM ne];exact mI n2 (by simpa using h1) (by simpa using h2)
theorem OD (h:x∉bJ f):L2.putK (nS f as) (Sum.inr (aH x)) v=nS f as++[(Sum.inr (aH x),v)]:=by
 unfold L2.putK;rw[if_neg];rw[L2.jA,nQ h];simp
theorem OE (h:f.length=as.length):nS f as++[(Sum.inr (aH p.1),.ref a)]=nS (f++[p]) (as++[a]):=by
 unfold nS;rw[List.zipWith_append h];rfl
theorem mH (h:f.length=as.length):(nS f as).length=f.length:=by
 unfold nS;rw[length_zipWith];lia
open PySem.Spec PyProof.Rows L2 L2.L3
theorem nA (h:n+j<=z.length):Txt.slice z (some ((n:Nat):Int)) (some ((n:Nat)+(j:Nat):Int))=aH (((ls z).drop n).take j):=by
 rw[show ((n:Nat):Int)+((j:Nat):Int)=(((n+j:Nat)):Int) by lia];refine fM ?_;rw[aW];have e:=beq_iff_eq.mp (slice_closes (x:=z) (i:=((n:Nat):Int)) (j:=(((n+j:Nat)):Int)) ⟨by lia,by lia,by rw[show z.cps.toList.length=z.length from aN z];lia⟩);rw[e];show ((ls z).drop ((n:Nat):Int).toNat).take ((((n+j:Nat)):Int) - ((n:Nat):Int)).toNat=_;rw[toNat_natCast,show ((((n+j:Nat)):Int) - ((n:Nat):Int)).toNat=j by lia]
variable {K:Fg}
noncomputable def dN (K:Fg):Sp:=λvs H Q _=>∃(a:Addr) (ws:List Str) (x:List Nat),vs=[.ref a,.str (aH x)]/\tU K H a ws/\Ru ws/\cI ws x/\1<=x.length/\x.length<=400/\
 ∀p H',aC H H'->H p=none->H' p=some (.lst ((fW ws x).map λy=>V.str (aH y)))->Q (.ref p) H'
noncomputable def eE (K:Fg):List (SX K):=
 [set 2 (call "put" (mX K) [var 0,var 1]),
  ret (comp (xC (var 1) (some (var 0)) (some (bin .Add (var 0) (len (var 2))))) (fX 0) (nZ (len (call "put" (mX K) [var 0,xC (var 1) none (some (cst (.int 1)))])) []) ["place"] ["made","piece"] [2,1])]
theorem iB (hU:Ru ws):∀{l:List Nat},(aK ws l).length<=100 * l.length
 |[]=>zero_le _
 |c::l=>by
  have ih:=iB hU (l:=l);have:(wd ws c).length<=100:=by
   unfold wd;cases e:ws[c - 97]? with
   |none=>exact zero_le _
   |some w=>
    have:=hU.le w (mem_of_getElem? e);rw[<-aN] at this;exact this
  rw[aS,length_append,length_cons];lia
theorem bK (x:List Nat):(aH x).length=x.length:=by rw[<-aN,aW]
theorem qL (h1:1<=x.length):img ws (Txt.slice (aH x) none (some 1))=aH (wd ws (x.headD 0)):=by
 rw[cW]
 congr 1
 show aK ws (Txt.slice (aH x) none (some 1)).cps.toList=_;rw[cF (by decide)];show aK ws ((ls (aH x)).take 1)=_;rw[aW];cases x with
 |nil=>simp at h1
 |cons c l=>
  show aK ws [c]=wd ws c;rw[aS];exact append_nil _
theorem jC:TT (dN K) (eE K) ["rule","piece","made"]:=by
 intro vs H Q E h;obtain ⟨a,ws,x,rfl,hR,hU,hx,h1,h4,q⟩:=h;have hW:gX ws.length (aH x):=hx.isW;have hil:=iB hU (l:=x);have hxl:=bK x;unfold eE;walk_at "";refine ⟨a,ws,aH x,rfl,hR,hU.le,hW,by lia,λH1 s1=>?_⟩;walk_at "";refine fT (small (by lia)) ?_;walk_at "";refine ⟨a,ws,_,rfl,hR.same s1,hU.le,hW.to (by decide),by have:=kQ (aH x) none (some 1);lia,λH2 s2=>?_⟩;rw[qL h1];have hwl:(wd ws (x.headD 0)).length<=100:=by
  have:=iB hU (l:=[x.headD 0]);rw[aS] at this;simpa [aK] using this
 refine gN (small (by rw[bK];lia)) ?_;rw[bK];walk_at "";intro D hD;refine KJ (λj=>V.str (aH (((aK ws x).drop j).take x.length))) hD (small (by lia)) (λj H3 Q' hj s3 fin=>?_) λH3 s3 hO=>?_
 ·rw[toNat_natCast] at hj;rw[show (0:Int)+((j:Nat):Int)=((j:Nat):Int) by lia];walk_at "";refine gN (small (by lia)) ?_;walk_at "";have pl:=gH hU hx h1 hj;rw[length_take,length_drop] at pl;refine fT (small (by rw[cW,bK,aW];lia)) ?_;rw[cW,aW,hxl,nA (by rw[bK];lia),aW];exact fin H3 (aC.refl _)
 ·refine q D H3 ((s1.trans s2).trans s3) (none_of (s1.trans s2) hD) ?_;rw[hO,toNat_natCast];unfold fW;rw[map_map];rfl
end L2.Na
namespace L2.Na.Pr
open PySem PySem.Spec PyProof.Rows L2 L2.L3
variable {K:Fg}
structure ZF (H:Hp) (d:Addr) (as:List Addr) (f:List bF):Prop where
 d:H d=some (.dK (nS f as))
 l:f.length=as.length
 v:∀(i:Nat) (a:Addr) (p:bF),as[i]?=some a->f[i]?=some p->H a=some (.lst (p.2.map V.int))
theorem ZF.same {H H':Hp} {d:Addr} {as:List Addr} {f:List bF} (h:ZF H d as f) (e:aC H H'):ZF H' d as f:=⟨e _ _ h.d,h.l,λi a p x y=>e _ _ (h.v i a p x y)⟩
noncomputable def f0 (ws:List Str) (c L:Nat):List bF:=[(str ws c 0 L,replicate ws.length 0)]
noncomputable def bW (ws:List Str) (c L:Nat):List bF:=aR ws (f0 ws c L) 300
noncomputable def cZ (K:Fg):Sp:=λvs H Q E=>
 (∃(a:Addr) (ws:List Str) (c L:Nat),vs=[.ref a,sgn c,.int (L:Nat)]/\1<=L/\L<=400/\Pl K H a ws c ((0+L - 1:Nat):Int)/\
  ((bW ws c L).length<=300->∀d as H',aC H H'->H d=none->(∀a∈as,H a=none)->ZF H' d as (bW ws c L)->Q (.ref d) H')/\(300<(bW ws c L).length->TG K 300 H E))\/
 ∃(a:Addr) (ws:List Str) (c L:Nat),vs=[.ref a,sgn c,.int (L:Nat)]/\1<=L/\Ep K H a ws c ((0+L - 1:Nat):Int) E
noncomputable def LI (K:Fg):List (SX K):=
 [tS (VD (var 11) (var 5)) [tS (cmp .Eq (len (var 4)) (YU "MOST_PIECES" (.int 300))) [yE "TooGreat" "self" "most" "most" (YU "MOST_PIECES" (.int 300))] [],
         ex (bS (var 4) (var 11)),
     put (var 5) (var 11) (call "added" (mZ K) [var 9,call "counts" (kP K) [xC (var 8) none (some (var 10)),len (var 0)]])] []]
noncomputable def RW (K:Fg):List (SX K):=
 [set 7 (ix (var 4) (var 6)),
   set 8 (call "put" (mX K) [var 0,xC (var 7) none (some (cst (.int 1)))]),
   set 9 (call "counts_behind" (eR K) [var 0,ix (var 5) (var 7),cst (.int 1)]),
   gQ (LW [10,11]) (RN (call "pieces_of_image" (dN K) [var 0,var 7])) (LI K),
   set 6 (bin .Add (var 6) (cst (.int 1)))]
noncomputable def dR (K:Fg):List (SX K):=
 [set 3 (call "stretch_at" (bL K) [var 0,var 1,cst (.int 0),var 2]),
  set 4 (lst [var 3]),
  set 5 (Dw (var 3) (bin .Mult (lst [cst (.int 0)]) (len (var 0)))),
  set 6 (cst (.int 0)),
  ZG (cmp .Lt (var 6) (len (var 4))) (RW K),
  ret (var 5)]
theorem nP:∀vs H Q E,cZ K vs H Q E->vs.length=3:=by
 rintro vs H Q E (⟨_,_,_,_,rfl,_⟩|⟨_,_,_,_,rfl,_⟩)<;>rfl
theorem XG (h:Ru ws) (h1:97<=c) (h2:c - 97<ws.length) (hg:aJ ws c=true) (i:Nat):97<=ew ws c i/\ew ws c i - 97<ws.length:=by
 have li:i<(wk ws c i).length:=by
  have a:=dJ h h1 h2 i;have b:=dZ h h1 h2 hg i;lia
 exact dH h h1 h2 i _ (mem_of_getElem? (xH h h1 h2 hg li))
theorem fD (h:Ru ws) (h1:97<=c) (h2:c - 97<ws.length) (hg:aJ ws c=true) (n m:Nat):cI ws (str ws c n m):=λd hd=>by
 unfold str at hd;obtain ⟨i,_,rfl⟩:=mem_map.mp hd;exact XG h h1 h2 hg _
theorem qP (hU:Ru ws) (h1:97<=c) (h2:c - 97<ws.length) (hg:aJ ws c=true):pN ws L (f0 ws c L):=by
 refine ⟨nodup_cons.mpr ⟨by simp,List.nodup_nil⟩,λp hp=>?_⟩;have:p=(str ws c 0 L,replicate ws.length 0):=by simpa [f0] using hp
 subst this;exact ⟨str_len _ _ _ _,fD hU h1 h2 hg 0 L,length_replicate⟩
structure LU (K:Fg) (H H1:Hp) (R d:Addr) (as:List Addr) (f:List bF):Prop where
 s:aC H H1
 r:H1 R=some (.lst ((bJ f).map λy=>V.str (aH y)))
 dc:ZF H1 d as f
 nw:∀a∈as,H a=none/\a≠R/\a≠d
 l:f.length<=300
theorem LU.upd (h:LU K H H1 R d as f) (nb:H1 b=none):LU K H (upd H1 b o) R d as f:=
 ⟨h.s.trans (aE nb _),aE nb _ _ _ h.r,h.dc.same (aE nb _),h.nw,h.l⟩
theorem CC {ps:List bF} {f:List bF} {j:Nat} {p:bF} (h:ps[j]?=some p):(ps.take (j+1)).foldl bN f=bN ((ps.take j).foldl bN f) p:=by
 rw[take_add_one,h,List.foldl_append];rfl
theorem PM (h:j<(wd ws (x.1.headD 0)).length):(chl ws x)[j]?=some (((aK ws x.1).drop j).take x.1.length,zipWith (·+·) (zL (rowsOf ws) x.2 1) (bU ws.length (aH ((wd ws (x.1.headD 0)).take j)))):=by
 unfold chl;rw[getElem?_map,getElem?_range h];rfl
theorem PL:(chl ws x).length=(wd ws (x.1.headD 0)).length:=by
 unfold chl;rw[length_map,length_range]
theorem yU (nd:(bJ f).Nodup) (l:f.length=as.length):(cU (nS f as) (Sum.inr (aH y))).isSome=decide (y∈bJ f):=by
 by_cases h:y∈bJ f
 ·obtain ⟨p,hp,rfl⟩:=mem_map.mp h;obtain ⟨i,hi⟩:=getElem?_of_mem hp;have hl:i<as.length:=by have:=(List.getElem?_eq_some_iff.mp hi).1;lia
  rw[mI nd hi (List.getElem?_eq_getElem hl),decide_eq_true h];rfl
 ·rw[nQ h,decide_eq_false h];rfl
theorem ZQ {D:Ends} {E:XK} {H H1 H2:Hp} {a R d p b:Addr} {ws:List Str} {L j:Nat} {x:bF} {f:List bF} {as:List Addr} {v1 v2 v3 v6 v7:Option V} (hR:tU K H a ws) (hU:Ru ws) (hx:x.1.length=L/\cI ws x.1/\x.2.length=ws.length) (h1:1<=L) (h4:L<=400) (ok:pN ws L f) (nR:H R=none) (nd:H d=none) (Rd:R≠d)
  (I:LU K H H2 R d as f) (hj:j<(wd ws (x.1.headD 0)).length) (hb:H2 b=some (.lst ((zL (rowsOf ws) x.2 1).map V.int))) (bR:b≠R) (bd:b≠d)
  (big:300<(bN f (((aK ws x.1).drop j).take x.1.length,zipWith (·+·) (zL (rowsOf ws) x.2 1) (bU ws.length (aH ((wd ws (x.1.headD 0)).take j))))).length->TG K 300 H E)
  (q:∀as' H3,(∀c o,c≠R->c≠d->H2 c=some o->H3 c=some o)->LU K H H3 R d as' (bN f (((aK ws x.1).drop j).take x.1.length,zipWith (·+·) (zL (rowsOf ws) x.2 1) (bU ws.length (aH ((wd ws (x.1.headD 0)).take j)))))->D.nx [some (.ref a),v1,v2,v3,some (.ref R),some (.ref d),v6,v7,some (.str (aH (wd ws (x.1.headD 0)))),some (.ref b),some (.int (j:Nat)),some (.str (aH (((aK ws x.1).drop j).take x.1.length)))] H3):
  jD (LI K) (λ_=>E) D [some (.ref a),v1,v2,v3,some (.ref R),some (.ref d),v6,v7,some (.str (aH (wd ws (x.1.headD 0)))),some (.ref b),some (.int (j:Nat)),some (.str (aH (((aK ws x.1).drop j).take x.1.length)))] H2:=by
 have h4w:=hU.four;obtain ⟨y,hy⟩:∃y,y=((aK ws x.1).drop j).take x.1.length:=⟨_,rfl⟩;obtain ⟨cs,hcs⟩:∃cs,cs=zipWith (·+·) (zL (rowsOf ws) x.2 1) (bU ws.length (aH ((wd ws (x.1.headD 0)).take j))):=⟨_,rfl⟩;rw[<-hy,<-hcs] at big q;rw[<-hy];have hwl:(wd ws (x.1.headD 0)).length<=100:=by
  have:=iB hU (l:=[x.1.headD 0]);rw[aS] at this;simpa [aK] using this
 unfold LI;walk_at "";refine IP ?_;walk_at "";refine ⟨d,_,rfl,eN.k (k:=Sum.inr (aH y)) I.dc.d,_,rfl,?_⟩;rw[yU ok.nd I.dc.l];by_cases hm:y∈bJ f
 ·rw[decide_eq_true hm];refine oP ?_;walk_at "";have e:bN f (y,cs)=f:=if_pos hm;rw[e] at q;exact q as H2 (λc o _ _ e=>e) I
 ·rw[decide_eq_false hm];refine XQ ?_;have e:bN f (y,cs)=f++[(y,cs)]:=if_neg hm;rw[e] at q big;have hRl:aM K H2 R ((bJ f).map λy=>V.str (aH y)):=aM.of I.r;have hlen:((bJ f).map λy=>V.str (aH y)).length=f.length:=by rw[length_map,hZ]
  walk_at "";rw[hlen];refine lC (λc=>?_) λc=>?_
  ·walk_at "";refine vU ?_;walk_at "";intro dx ndx;exact big (by rw[length_append];simp;lia) _ dx (I.s.trans (aE ndx _)) aA
  ·have fl:f.length<300:=by have:=I.l;lia
   walk_at "";refine vW hRl ?_;walk_at "";refine cO I.r (Nat.lt_of_lt_of_le (show _<5000 by rw[hlen];lia) (small (by decide))) ?_;walk_at "";refine vV ?_;have k3:∀c o,c≠R->H2 c=some o->(upd H2 R (.lst (((bJ f).map λy=>V.str (aH y))++[V.str (aH y)]))) c=some o:=λc o hc e=>by rw[aF hc];exact e
   have S3:aC H (upd H2 R (.lst (((bJ f).map λy=>V.str (aH y))++[V.str (aH y)]))):=bQ I.s nR;have r3:(upd H2 R (.lst (((bJ f).map λy=>V.str (aH y))++[V.str (aH y)]))) R=some (.lst ((bJ (f++[(y,cs)])).map λy=>V.str (aH y))):=by
    rw[aA,fK,map_append];rfl
   revert k3 S3 r3;generalize upd H2 R (.lst (((bJ f).map λy=>V.str (aH y))++[V.str (aH y)]))=H3;intro k3 S3 r3;walk_at "";have wl:(aH (wd ws (x.1.headD 0))).length=(wd ws (x.1.headD 0)).length:=bK _;refine fT (small (by lia)) ?_;have htp3:=(hR.same S3).tp;walk_at "";refine ⟨_,_,rfl,by lia,by rw[length_map];lia,λr H4 s4 nr hr=>?_⟩;rw[length_map,toNat_natCast] at hr;have esl:Txt.slice (aH (wd ws (x.1.headD 0))) none (some ((j:Nat):Int))=aH ((wd ws (x.1.headD 0)).take j):=by
    refine fM ?_;show (Txt.slice (aH (wd ws (x.1.headD 0))) none (some ((j:Nat):Int))).cps.toList=_;rw[cF (by lia),toNat_natCast,aW];show (ls (aH (wd ws (x.1.headD 0)))).take j=_;rw[aW]
   rw[esl] at hr;walk_at "";refine ⟨b,r,_,_,rfl,s4 _ _ (k3 _ _ bR hb),hr,by rw[tJ hx.2.2];lia,λt H5 s5 nt ht=>?_⟩;rw[<-hcs] at ht;walk_at "";have s45:=s4.trans s5;have hd5:H5 d=some (.dK (nS f as)):=s45 _ _ (k3 _ _ Rd.symm I.dc.d);refine .inr ⟨d,_,rfl,EN.k (k:=Sum.inr (aH y)) hd5 (by rw[mH I.dc.l];exact Nat.lt_of_lt_of_le fl (small (by decide))),?_⟩;rw[OD hm,OE (p:=(y,cs)) I.dc.l];walk_at "";have tR:t≠R:=(aB (s4 _ _ r3) nt).symm;have td:t≠d:=(aB (s4 _ _ (k3 _ _ Rd.symm I.dc.d)) nt).symm;have nt0:H t=none:=none_of (S3.trans s4) nt;refine q (as++[t]) _ (λc o c1 c2 e=>by rw[aF c2];exact s45 _ _ (k3 _ _ c1 e)) ⟨bQ (S3.trans s45) nd,?_,⟨aA,by rw[length_append,length_append,I.dc.l];rfl,λi a' p' g1 g2=>?_⟩,λa' ha'=>?_,by rw[length_append];simp;lia⟩
   ·rw[aF Rd];exact s45 _ _ r3
   ·by_cases hi:i<as.length
    ·rw[getElem?_append_left hi] at g1;rw[getElem?_append_left (by have:=I.dc.l;lia)] at g2;obtain ⟨_,n2,n3⟩:=I.nw a' (mem_of_getElem? g1);rw[aF n3];exact s45 _ _ (k3 _ _ n2 (I.dc.v i a' p' g1 g2))
    ·rw[getElem?_append_right (by lia)] at g1;rw[getElem?_append_right (by have:=I.dc.l;lia)] at g2;have e1:a'=t:=by
      have:=mem_of_getElem? g1;simpa using this
     have e2:p'=(y,cs):=by
      have:=mem_of_getElem? g2;simpa using this
     subst e1 e2;rw[aF td];exact ht
   ·rcases mem_append.mp ha' with h|h
    ·exact I.nw a' h
    ·have:a'=t:=by simpa using h
     subst this;exact ⟨nt0,tR,td⟩
theorem kO (h:(aR ws f i)[i]?=some x):aR ws f (i+1)=(chl ws x).foldl bN (aR ws f i):=by
 show (match (aR ws f i)[i]? with|some x=>(chl ws x).foldl bN (aR ws f i)|none=>aR ws f i)=_;rw[h]
theorem MH (ps f:List bF) (j:Nat):((ps.take j).foldl bN f).length<=(ps.foldl bN f).length:=by
 have e:ps.foldl bN f=(ps.drop j).foldl bN ((ps.take j).foldl bN f):=by rw[<-List.foldl_append,take_append_drop]
 obtain ⟨t,g⟩:=kI (ps.drop j) ((ps.take j).foldl bN f);rw[e,g,length_append];lia
theorem mR:TT (cZ K) (dR K) ["rule","start","length","first","found","ahead","done","piece","word","base","place","met"]:=by
 intro vs H Q E h;rcases h with ⟨a,ws,c,L,rfl,h1,hL4,hP,q,tg⟩|⟨a,ws,c,L,rfl,h1,hB⟩
 ·have hU:=hP.ru;have hR:=hP.rt;have h4:=hU.four;have p1:=hU.pos;have ok0:pN ws L (f0 ws c L):=qP hU hP.c1 hP.c2 hP.gr;have okA:=λi=>fE hU h1 ok0 i;unfold dR;walk_at "";refine .inl ⟨a,ws,c,0,L,rfl,hP,h1,by lia,λH1 s1=>?_⟩;walk_at "";refine ⟨by show 1<=sizeLine;decide,λR nR=>?_⟩;have s2:=aE nR (.lst [V.str (aH (str ws c 0 L))]);walk_at "";refine WU λd nd=>?_;have s3:=aE nd (.dK []);walk_at "";refine ⟨by show 1<=sizeLine;decide,λz nz=>?_⟩;have s4:=aE nz (.lst [V.int 0]);have hS4:=((s1.trans s2).trans s3).trans s4;have htp:=(hR.same hS4).tp;walk_at "";rw[length_map];refine AX (xs:=[V.int 0]) aA ⟨by lia,by lia⟩ (small (by show 1 * _<=_;lia)) λu nu=>?_;rw[toNat_natCast];have er:(replicate ws.length [V.int 0]).flatten=(replicate ws.length (0:Int)).map V.int:=by
   rw[List.map_replicate];induction ws.length with
   |zero=>rfl
   |succ n ih=>rw[replicate_succ,replicate_succ,flatten_cons,ih];rfl
  rw[er];have s5:=aE nu (.lst ((replicate ws.length (0:Int)).map V.int));refine OU (k:=Sum.inr (aH (str ws c 0 L))) (s5 _ _ (s4 _ _ aA)) ?_;have nR0:H R=none:=none_of s1 nR;have nd0:H d=none:=none_of (s1.trans s2) nd;have Rd:R≠d:=aB aA nd;have uR:u≠R:=(aB (s4 _ _ (s3 _ _ aA)) nu).symm;have ud:u≠d:=(aB (s4 _ _ aA) nu).symm;have nu0:H u=none:=none_of hS4 nu;have I0:LU K H (upd (upd (upd (upd (upd H1 R (.lst [V.str (aH (str ws c 0 L))])) d (.dK [])) z (.lst [V.int 0])) u (.lst ((replicate ws.length (0:Int)).map V.int))) d (.dK [(Sum.inr (aH (str ws c 0 L)),V.ref u)])) R d [u] (f0 ws c L):=by
   refine ⟨bQ (hS4.trans s5) nd0,?_,⟨aA,rfl,λi a' p' g1 g2=>?_⟩,λa' ha'=>?_,by show 1<=300;decide⟩
   ·rw[aF Rd];exact s5 _ _ (s4 _ _ (s3 _ _ aA))
   ·match i,g1,g2 with
    |0,g1,g2=>
     cases g1;cases g2;rw[aF ud];exact aA
    |i+1,g1,g2=>simp at g1
   ·have:a'=u:=by simpa using ha'
    subst this;exact ⟨nu0,uR,ud⟩
  revert I0;generalize upd (upd (upd (upd (upd H1 R (.lst [V.str (aH (str ws c 0 L))])) d (.dK [])) z (.lst [V.int 0])) u (.lst ((replicate ws.length (0:Int)).map V.int))) d (.dK [(Sum.inr (aH (str ws c 0 L)),V.ref u)])=H5;intro I0;walk_at "";refine mG (λm σ H2=>∃(i:Nat) (as:List Addr) (b7 b8 b9 b10 b11:Option V),σ=[some (.ref a),some (sgn c),some (.int (L:Nat)),some (.str (aH (str ws c 0 L))),some (.ref R),some (.ref d),some (.int (i:Nat)),b7,b8,b9,b10,b11]/\m=300 - i/\i<=(aR ws (f0 ws c L) i).length/\LU K H H2 R d as (aR ws (f0 ws c L) i)) (m:=300) ⟨0,[u],none,none,none,none,none,rfl,rfl,zero_le _,I0⟩ ?_;rintro m σ H2 ⟨i,as,b7,b8,b9,b10,b11,rfl,rfl,hi,I⟩;have hRl:aM K H2 R ((bJ (aR ws (f0 ws c L) i)).map λy=>V.str (aH y)):=aM.of I.r;have hlen:((bJ (aR ws (f0 ws c L) i)).map λy=>V.str (aH y)).length=(aR ws (f0 ws c L) i).length:=by rw[length_map,hZ]
  walk_at "";rw[hlen];have Il:=I.l;refine lC (λcc=>?_) λcc=>?_
  ·have hil:i<(aR ws (f0 ws c L) i).length:=by lia
   obtain ⟨x,hx⟩:∃x,(aR ws (f0 ws c L) i)[i]?=some x:=⟨_,List.getElem?_eq_getElem hil⟩;have okx:=(okA i).ok x (mem_of_getElem? hx);obtain ⟨ax,hax⟩:∃ax,as[i]?=some ax:=⟨_,List.getElem?_eq_getElem (by have:=I.dc.l;lia)⟩;have hxl:=bK x.1;have hwl:(wd ws (x.1.headD 0)).length<=100:=by
    have:=iB hU (l:=[x.1.headD 0]);rw[aS] at this;simpa [aK] using this
   refine zR ?_;unfold RW;walk_at "";refine fU (v:=.str (aH x.1)) hRl (cH (by unfold bJ;rw[getElem?_map,getElem?_map,hx];rfl)) ?_;walk_at "";refine fT (small (by lia)) ?_;walk_at "";refine ⟨a,ws,_,rfl,hR.same I.s,hU.le,okx.2.1.isW.to (by decide),by have:=kQ (aH x.1) none (some 1);lia,λH3 s3=>?_⟩;rw[qL (by lia)];have I3:LU K H H3 R d as (aR ws (f0 ws c L) i):=⟨I.s.trans s3,s3 _ _ I.r,I.dc.same s3,I.nw,I.l⟩;walk_at "";refine qJ (v:=.ref ax) (by
    have:=eN.k (k:=Sum.inr (aH x.1)) I3.dc.d
    rw[mI (okA i).nd hx hax] at this
    exact this) ?_
   walk_at "";refine ⟨a,ax,ws,_,1,rfl,hR.same I3.s,I3.dc.v i ax x hax hx,okx.2.2,λw hw=>by have:=hU.le w hw;lia,by decide,by decide,λb H4 s4 nb hb=>?_⟩;have I4:LU K H H4 R d as (aR ws (f0 ws c L) i):=⟨I3.s.trans s4,s4 _ _ I3.r,I3.dc.same s4,I3.nw,I3.l⟩;have bR:b≠R:=(aB I3.r nb).symm;have bd:b≠d:=(aB I3.dc.d nb).symm;replace hb:H4 b=some (.lst ((zL (rowsOf ws) x.2 1).map V.int)):=hb;walk_at "";refine WR ?_;walk_at "";refine ⟨a,ws,x.1,rfl,hR.same I4.s,hU,okx.2.1,by lia,by lia,λp H5 s5' np hp=>?_⟩;have I5:LU K H H5 R d as (aR ws (f0 ws c L) i):=⟨I4.s.trans s5',s5' _ _ I4.r,I4.dc.same s5',I4.nw,I4.l⟩;have pR:p≠R:=(aB I4.r np).symm;have pd:p≠d:=(aB I4.dc.d np).symm;walk_at "";refine OT hp ?_;have hpl:((fW ws x.1).map λy=>V.str (aH y)).length=(wd ws (x.1.headD 0)).length:=by unfold fW;rw[length_map,length_map,length_range]
   have i300:i+1<=300:=by lia
   refine DF (xs:=(fW ws x.1).map λy=>V.str (aH y)) (λj σ H6=>∃(as':List Addr) (b10 b11:Option V),σ=[some (.ref a),some (sgn c),some (.int (L:Nat)),some (.str (aH (str ws c 0 L))),some (.ref R),some (.ref d),some (.int (i:Nat)),some (.str (aH x.1)),some (.str (aH (wd ws (x.1.headD 0)))),some (.ref b),b10,b11]/\(∀e o,e≠R->e≠d->H5 e=some o->H6 e=some o)/\LU K H H6 R d as' (((chl ws x).take j).foldl bN (aR ws (f0 ws c L) i)))
    ⟨as,b10,b11,rfl,λe o _ _ g=>g,I5⟩ (λj σ6 H6 ⟨_,_,_,_,kp,_⟩=>kp _ _ pR pd hp) (λj σ6 H6 e o ⟨as',c10,c11,g,kp,J⟩ ne=>⟨as',c10,c11,g,λe' o' n1 n2 g'=>by rw[aF (aB (kp e' o' n1 n2 g') ne)];exact kp e' o' n1 n2 g',J.upd ne⟩) (λj y σ6 H6 hy hP6=>?_) λσ6 H6 hP6=>?_
   ·obtain ⟨as',c10,c11,rfl,kp,J⟩:=hP6;have hj:j<(wd ws (x.1.headD 0)).length:=by have:=(List.getElem?_eq_some_iff.mp hy).1;lia
    have hyv:y=V.str (aH (((aK ws x.1).drop j).take x.1.length)):=by
     unfold fW at hy;rw[getElem?_map,getElem?_map,getElem?_range hj] at hy;exact (Option.some.inj hy).symm
    subst hyv;have ef:=CC (f:=aR ws (f0 ws c L) i) (PM hj);refine ZQ (H1:=H5) (p:=p) hR hU okx h1 hL4 (tL (okA i) λp hp=>KU hU h1 okx p (mem_of_mem_take hp)) nR0 nd0 Rd J hj (kp _ _ bR bd (s5' _ _ hb)) bR bd (λhbig=>tg ?_) λas2 H7 k7 J7=>?_
    ·rw[<-ef] at hbig;have l1:=MH (chl ws x) (aR ws (f0 ws c L) i) (j+1);rw[<-kO hx] at l1;have l2:=zX ws (f0 ws c L) i300;show 300<(aR ws (f0 ws c L) 300).length;lia
    ·refine ⟨as2,_,_,rfl,λe o n1 n2 g=>k7 e o n1 n2 (kp e o n1 n2 g),?_⟩;rw[ef];exact J7
   ·obtain ⟨as',c10,c11,rfl,kp,J⟩:=hP6;rw[hpl,<-PL,take_of_length_le (Nat.le_refl _),<-kO hx] at J;walk_at "";refine ⟨300 - (i+1),by lia,i+1,as',some (.str (aH x.1)),some (.str (aH (wd ws (x.1.headD 0)))),some (.ref b),c10,c11,?_,rfl,?_,J⟩
    ·rw[show ((i:Nat):Int)+1=((i+1:Nat):Int) by lia];rfl
    ·have:=zX ws (f0 ws c L) (show i<=i+1 by lia);lia
  ·walk_at "";have hie:(aR ws (f0 ws c L) i).length<=i:=by lia
   have eA:bW ws c L=aR ws (f0 ws c L) i:=by
    have:=mV ws (f0 ws c L) hie (300 - i);rw[show i+(300 - i)=300 by lia] at this;exact this
   rw[eA] at q;exact q Il d as H2 I.s nd0 (λa' ha'=>(I.nw a' ha').1) I.dc
 ·unfold dR;walk_at "";exact .inr ⟨a,ws,c,0,L,rfl,h1,hB⟩
end L2.Na.Pr
namespace L2.Na.Mx
section
variable {R:Nat->Nat->Prop}
end
section
variable {R:Nat->Nat->Prop} {n:Nat}
end
end L2.Na.Mx
namespace L2.Na
open PySem PySem.Spec PyProof.Rows L2 L2.L3
noncomputable def LO (X:Cx) (p:Addr) (zs:List Str):Heap->Prop:=λh=>dX X.prog X.w (tT X.w) h p zs
theorem iY:∀{vs:List Value} {ss:List Str},StrsAre vs ss->Vals (ss.map V.str) vs
 |_,_,.nil=>.nil
 |_,_,.cons x t h=>.cons ⟨t,rfl⟩ (iY h)
variable {K:Fg}
noncomputable def Gb (a:EX K) (C:Sc):Expr->Bool
 | .Call (.Name y _) [.Call (.Name y2 _) es [] _] [] _=>(C.cm&&pJ C "sorted" y)&&(pJ C "set" y2&&jU [a] C es)
 |_=>false
theorem IE {a:EX K} {C:Sc} {e:Expr} (h:Gb a C e=true):∃y p y2 p2 es q2 q,e=.Call (.Name y p) [.Call (.Name y2 p2) es [] q2] [] q/\C.cm=true/\pJ C "sorted" y=true/\pJ C "set" y2=true/\jU [a] C es=true:=by
 unfold Gb at h;split at h
 ·simp only [and_eq_true] at h;exact ⟨_,_,_,_,_,_,_,rfl,h.1.1,h.1.2,h.2.1,h.2.2⟩
 ·cases h
theorem AU {X:Cx} {z:Str} {kd:Nat} {p1 p2:Pos} {e1:Expr} {t1:TE} (hb:PE X e1 t1) (hs:tP e1) {pins:List (Addr × Obj)} {s:Shared} {σ:St} {H:Hp} {R:V->Hp->Prop} (I:Inv X pins σ H s) (h:t1 σ H R)
  (hR:∀y H1,R y H1->∃a c,y=.int a/\kL z.cps.toList a=some c) (hz:z.length<=sizeLine):
  wpAny (model X.prog X.w) X.A (eval (.Subscript (.Constant (.str z) kd p1) e1 p2) X.env) (λv s'=>∃a c u H1,v=.str ⟨#[c]⟩ u/\kL z.cps.toList a=some c/\s.toks<u/\u<s'.toks/\Inv X pins σ H1 s'/\R (.int a) H1) X.xe s:=by
 refine Subscript_ (Calls.Constant_str ?_);have I1:Inv X pins σ H {s with toks:=s.toks+1}:=I.tok _;refine wpAny_with_toks (n:=s.toks+1) (Nat.le_refl _) (wpAny_mono (hb pins _ σ H R I1 h) (λu s2 ⟨y,H2,I2,r2,q2⟩ ht=>?_) λ_ _ x _=>x);obtain ⟨a,c,rfl,hc⟩:=hR y H2 q2;obtain ⟨t',rfl⟩:=r2;obtain ⟨j,h1,h2,h3,h4,h5⟩:=mL hc;have hl:z.cps.toList.length=z.length:=by simp [Str.length]
 rw[hl] at h1 h4 h5;have hn:=iT;exact tail_any (typeIs_str s2 z _) slot_str_getitem.lookup (getItem_str (c:=c) (by
  have e1:decide (a< -(2 ^ 63:Int))=false:=decide_eq_false (by lia)
  have e2:decide (a>=2 ^ 63)=false:=decide_eq_false (by lia)
  rw[e1,e2,Bool.or_false]) (by rw[h1];simpa using h2) ⟨a,c,s2.toks,H2,rfl,hc,ht,lt_succ_self _,I2.tok _,q2⟩) (hs _ _)
noncomputable def QV (z:Str) (x y1 y2:V) (H:Hp) (Q:VK):Prop:=∃(w:Str) (a b:Int) (c d:Nat),x=.str w/\y1=.int a/\y2=.int b/\kL z.cps.toList a=some c/\kL z.cps.toList b=some d/\c≠d/\w.length<=1000/\Q (.str (Txt.replace w ⟨#[c]⟩ ⟨#[d]⟩)) H
noncomputable def Ge (o:EX K) (z:Str) (i j:EX K) (C:Sc):Expr->Bool
 | .Call (.Attribute l y p) [.Subscript (.Constant (.str z1) _ _) e1 _,.Subscript (.Constant (.str z2) _ _) e2 _] [] p2=>(y=="replace"&&(C.cm&&(p.endLine==p2.line&&(z1==z&&z2==z))))&&(o.m C l&&(i.m C e1&&j.m C e2))
 |_=>false
theorem IF {o:EX K} {z:Str} {i j:EX K} {C:Sc} {e:Expr} (h:Ge o z i j C e=true):∃l p k1 q1 e1 q2 k2 q3 e2 q4 p2,e=.Call (.Attribute l "replace" p) [.Subscript (.Constant (.str z) k1 q1) e1 q2,.Subscript (.Constant (.str z) k2 q3) e2 q4] [] p2/\C.cm=true/\(p.endLine==p2.line)=true/\o.m C l=true/\i.m C e1=true/\j.m C e2=true:=by
 unfold Ge at h;split at h
 ·simp only [and_eq_true] at h;obtain ⟨⟨h1,h2,h3,h4,h5⟩,h6,h7,h8⟩:=h;have e1:=eq_of_beq h1;have e2:=eq_of_beq h4;have e3:=eq_of_beq h5;subst e1 e2 e3;exact ⟨_,_,_,_,_,_,_,_,_,_,_,rfl,h2,h3,h6,h7,h8⟩
 ·cases h
noncomputable def ID (o:EX K) (z:Str) (hz:z.length<=sizeLine) (i j:EX K) (ho:o.s≠.zc:=by intro z;cases z):EX K:=jT (λE σ H Q=>o.t E σ H λx H1=>(∃w:Str,x=.str w)/\i.t E σ H1 λy1 H2=>(∃a c,y1=.int a/\kL z.cps.toList a=some c)/\j.t E σ H2 λy2 H3=>QV z x y1 y2 H3 Q)
 (Ge o z i j) (λR=>o.q R/\((True/\i.q R)/\((True/\j.q R)/\True))) .pl
 (λX C E e hK G hE hq hm=>by
  subst hK
  obtain ⟨l,p,k1,q1,e1,q2,k2,q3,e2,q4,p2,rfl,hcm,hline,ml,m1,m2⟩:=IF hm
  intro pins s σ H Q I h
  refine wpAny_Call_method_late (uS (o.sok C l ml) ho) rfl hline rfl (bO (o.ok X C E l rfl G hE hq.1 ml pins s σ H _ I h) λv s1 ⟨x,H1,I1,r1,z0⟩=>?_)
  obtain ⟨⟨w,rfl⟩,z1⟩:=z0
  obtain ⟨t,rfl⟩:=r1
  refine ⟨"str","str.replace",PySem.F.plainAttrs_str,PySem.F.slot_str_replace,PySem.F.type_str_replace,typeIs_str _ _ _,(λb e=>nomatch e),?_⟩
  refine Calls.callWith_builtin rfl (Calls.evalArgs_plain ?_)
  refine Calls.spliced_cons (bO (AU (i.ok X C E e1 rfl G hE hq.2.1.2 m1) (yA (i.sok C e1 m1)) I1 z1 (λy H1 q=>q.1) hz) λv1 s2 ⟨a,c,u,H2,ev,hc,t1,t2,I2,z2⟩=>?_)
  refine Calls.spliced_cons (bO (AU (j.ok X C E e2 rfl G hE hq.2.2.1.2 m2) (yA (j.sok C e2 m2)) I2 z2.2 (λy H1 q=>?_) hz) λv2 s3 ⟨b,d,u2,H3,ev2,hd,t3,t4,I3,z3⟩=>?_)
  ·obtain ⟨_,_,b,_,d,_,_,e3,_,e5,_⟩:=q
   exact ⟨b,d,e3,e5⟩
  refine Calls.spliced_nil ?_
  subst ev ev2
  obtain ⟨w',a',b',c',d',e1',e2',e3',h1,h2,hne,hw,q⟩:=z3
  cases e1'
  cases e2'
  cases e3'
  rw[hc] at h1
  cases h1
  rw[hd] at h2
  cases h2
  refine SC.replace (show u≠0 from ?_) (show u2≠0 from ?_) (show u≠u2 from ?_) ?_ ?_ λt' k=>⟨.str _,H3,I3.tok _,⟨_,rfl⟩,q⟩
  ·exact ne_of_gt (Nat.lt_of_le_of_lt (zero_le _) t1)
  ·exact ne_of_gt (Nat.lt_of_le_of_lt (zero_le _) t3)
  ·exact ne_of_lt (Nat.lt_trans t2 t3)
  ·have:(⟨#[c]⟩:Str)≠⟨#[d]⟩:=λe=>hne (by
    have e3:=congrArg ls e
    simp [ls] at e3
    exact e3)
   simpa using this
  ·show w.length+(w.length+1) * 1<=16777216
   lia)
 (λC e hm=>by
  obtain ⟨l,p,k1,q1,e1,q2,k2,q3,e2,q4,p2,rfl,_⟩:=IF hm
  exact ⟨rfl,rfl⟩)
noncomputable def GN (X:Cx):List V->Hp->VK->Prop:=λvs H Q=>∃(p0:Addr) (ns:List Str),vs=[.ref p0]/\H p0=some (.lst (ns.map V.str))/\ns.length+1<scanBound/\∀p zs,H p=none->(∀y,y∈zs↔y∈ns)->zs.Nodup->Q (.ref p) (upd H p (.ext (LO X p zs)))
theorem GG (X:Cx) (hc:X.calm=true):bZ X (.type "set") (GN X):=by
 intro pins s σ H xs us Q I r h;obtain ⟨p0,ns,rfl,hp0,hb,q⟩:=h;obtain ⟨u,rfl,ru⟩:=r.one;obtain rfl:u=Value.ref p0:=ru;obtain ⟨hz,its,n1,k1,l1,g1⟩:=I.lstM hp0;have hl:s.heap.IsList p0 its.toArray:=⟨_,g1,rfl,n1,rfl⟩;have hlen:its.length=ns.length:=by rw[<-k1.length,length_map]
 refine yD (ns:=ns) (I.ok.hd hc) hl (by rw[size_toArray];exact hlen) (λi v hi hv=>?_) (by rw[size_toArray,hlen];exact hb) λh' tk zs hS hm kp=>?_
 ·have hi2:i<its.toArray.size:=by rw[size_toArray];lia
  obtain ⟨x,e1,q1⟩:=iZ k1 hi2;rw[getElem?_map,List.getElem?_eq_getElem hi] at e1;cases e1;obtain ⟨t,e⟩:=q1;refine ⟨t,?_⟩;rw[getElem?_pos _ i hi2] at hv;cases hv;exact e
 ·have hg:∃o,h'.get? s.heap.objs.size=some o:=by
   obtain ⟨o,_,_,_,ho,_⟩:=hS;exact ⟨o,ho⟩
  have nd:zs.Nodup:=by
   obtain ⟨_,_,_,_,_,_,_,_,rfl,nd,_⟩:=id hS;exact nd
  exact ⟨.ref _,_,I.laid (t':=tk) (o:=.ext (LO X s.heap.objs.size zs)) kp (Nat.le_refl _) ⟨hS,hg,λh1 h2 x k=>dX.keep x k⟩,rfl,q _ zs I.fresh hm nd⟩
noncomputable def TK (X:Cx):List V->Hp->VK->Prop:=λvs H Q=>∃(p:Addr) (zs:List Str),vs=[.ref p]/\H p=some (.ext (LO X p zs))/\zs.length<=sizeLine/\∀D ss,H D=none->List.Perm ss zs->ss.Nodup->sortedS ss=true->Q (.ref D) (upd H D (.lst (ss.map V.str)))
theorem FY (X:Cx) (hc:X.calm=true):bZ X (.builtin "sorted") (TK X):=by
 intro pins s σ H xs us Q I r h;obtain ⟨p,zs,rfl,hp,h64,q⟩:=h;obtain ⟨u,rfl,ru⟩:=r.one;obtain rfl:u=Value.ref p:=ru;have hS:dX X.prog X.w (tT X.w) s.heap p zs:=(show aY X.prog X.w H s.heap p (.ext (LO X p zs)) from I.hok p _ hp).1;have nd:zs.Nodup:=by
  obtain ⟨_,_,_,_,_,_,_,_,rfl,nd,_⟩:=hS;exact nd
 refine sE (I.ok.hd hc) hS h64 λs' D vs ss e kp le hD hs pm st eg eo=>?_;obtain ⟨h',g',d',tk',os'⟩:=s';have eg':g'=s.gens:=eg;have eo':os'=s.os:=eo;subst eg' eo';have fr:H D=none:=I.hok.fresh le;have I1:Inv X pins σ (upd H D (.lst (ss.map V.str))) {s with heap:=h',toks:=tk'}:=I.laid (t':=tk') (o:=.lst (ss.map V.str)) kp le ⟨by rw[length_map,pm.length_eq];exact h64,vs,e,iY hs,hD⟩;exact ⟨.ref D,_,⟨I1.ok,I1.os,I1.bare,I1.base,I1.loc,I1.cell,I1.free,I1.freeC,I1.pin,I1.hok,I1.len⟩,rfl,q D ss fr pm (pm.nodup_iff.mpr nd) st⟩
noncomputable def QT (x:V) (H:Hp) (Q:VK):Prop:=∃(p:Addr) (ns:List Str),x=.ref p/\H p=some (.lst (ns.map V.str))/\ns.length<=4000/\∀D ss H',aC H H'->H D=none->(∀y,y∈ss↔y∈ns)->ss.Nodup->sortedS ss=true->H' D=some (.lst (ss.map V.str))->Q (.ref D) H'
noncomputable def yF:List V->Hp->VK->Prop
 |[x],H,Q=>QT x H Q
 |_,_,_=>False
theorem DA {zs ns:List Str} (nd:zs.Nodup) (h:∀y,y∈zs↔y∈ns):zs.length<=ns.length:=by
 refine Nodup.length_le_of_subset nd λy hy=>(h y).mp hy
noncomputable def Aa (a:EX K):EX K:=jT (λE=>ZX yF (fB [a] E)) (Gb a) (λR=>sN [a] R/\True) .pl
 (λX C E e hK G hE hq hm=>by
  subst hK
  obtain ⟨y,p,y2,p2,es,q2,q,rfl,hcm,h1,h2,h3⟩:=IE hm
  have e1:=cE h1
  have e2:=cE h2
  subst e1 e2
  obtain ⟨g1,d1⟩:=cD G h1
  obtain ⟨g2,d2⟩:=cD G h2
  have calm:=G.calm hcm
  cases es with
  |nil=>cases h3
  |cons e0 es=>
   intro pins s σ H Q I h
   have inner:PE X (.Call (.Name "set" p2) (e0::es) [] q2) (λσ H Q2=>fB [a] E σ H (λvs H1=>yF vs H1 Q)/\∀vs H1,yF vs H1 Q->GN X vs H1 Q2):=by
    intro pins s σ H Q2 I ⟨k1,k2⟩
    refine wpAny_Call_Name_kw (eK I g2 (G.bl _ (by decide+kernel)) PyProof.Rows.Boot.set ?_ (by decide+kernel) d2)
    exact PyProof.Rows.callWith_type1 (bO (dU G hE [a] (e0::es) hq.1 h3 q2 pins s σ H _ I k1) λus s1 ⟨vs,H1,I1,r1,z1⟩=>GG X calm pins s1 σ H1 vs us Q2 I1 r1 (k2 vs H1 z1)) (aZ (a.sok C e0 (aG h3).1)) (bG [] es (aG h3).2)
   refine vE (FY X calm) g1 (G.bl _ (by decide+kernel)) PyProof.Rows.Boot.sorted (AL inner HE) (by decide+kernel) d1 rfl rfl pins s σ H Q I ⟨h,λvs H1 z1=>?_⟩
   match vs,z1 with
   |[x],⟨p0,ns,ex,hp0,b4,fin⟩=>
    refine ⟨p0,ns,by rw[ex],hp0,by show ns.length+1<4096;lia,λp zs fr hm nd=>?_⟩
    refine ⟨p,zs,rfl,aA,Nat.le_trans (DA nd hm) (Nat.le_trans b4 (by rw[sizeLine_eq];decide)),λD ss frD pm nds st=>?_⟩
    have s1:=aE fr (.ext (LO X p zs))
    exact fin D ss _ (s1.trans (aE frD _)) (none_of s1 frD) (λy=>by rw[pm.mem_iff];exact hm y) nds st aA)
 (λC e hm=>by
  obtain ⟨y,p,y2,p2,es,q2,q,rfl,_⟩:=IE hm
  exact ⟨rfl,rfl⟩)
theorem VZ {E:XS} {σ:St} {H:Hp} {Q:VK} {a:EX K} (h:a.t E σ H λx H1=>QT x H1 Q):(Aa a).t E σ H Q:=h
theorem FX {x y:Str} (h:x.cps.toList=y.cps.toList):x=y:=by
 cases x;cases y
 congr
 exact ext' h
noncomputable def Eh (l:List Str):Prop:=l.Pairwise λa b=>¬b.cps.toList<a.cps.toList
theorem GK:∀(p:Str) (l:List Str),risingS p l=true->Eh (p::l)
 |p,[],_=>List.pairwise_singleton _ _
 |p,x::l,h=>by
  have h:(!ltCps x.cps.toList p.cps.toList&&risingS x l)=true:=h;rw[and_eq_true,not_eq_true',ltCps_eq] at h;have ih:=GK x l h.2;have h1:¬x.cps.toList<p.cps.toList:=of_decide_eq_false h.1;refine pairwise_cons.mpr ⟨λy hy=>?_,ih⟩;rcases mem_cons.mp hy with e|hy
  ·rw[e];exact h1
  ·have h2:=(pairwise_cons.mp ih).1 y hy;exact not_lt.mpr (List.le_trans (not_lt.mp h1) (not_lt.mp h2))
theorem xX {ss:List Str} (h:sortedS ss=true):Eh ss:=by
 cases ss with
 |nil=>exact Pairwise.nil
 |cons x l=>exact GK x l h
theorem uV:∀{ss ns:List Str},ss.Nodup->ns.Nodup->(∀y,y∈ss↔y∈ns)->Eh ss->Eh ns->ss=ns
 |[],[],_,_,_,_,_=>rfl
 |[],y::l,_,_,h,_,_=>nomatch (h y).mpr mem_cons_self
 |y::l,[],_,_,h,_,_=>nomatch (h y).mp mem_cons_self
 |x::l,y::r,n1,n2,h,s1,s2=>by
  have e:x=y:=by
   rcases mem_cons.mp ((h x).mp mem_cons_self) with e|hx
   ·exact e
   ·rcases mem_cons.mp ((h y).mpr mem_cons_self) with e|hy
    ·exact e.symm
    ·have a:=(pairwise_cons.mp s1).1 y hy;have b:=(pairwise_cons.mp s2).1 x hx;exact FX (List.le_antisymm (not_lt.mp a) (not_lt.mp b))
  subst e;have n1':=nodup_cons.mp n1;have n2':=nodup_cons.mp n2;refine congrArg _ (uV n1'.2 n2'.2 (λz=>?_) (pairwise_cons.mp s1).2 (pairwise_cons.mp s2).2);constructor
  ·intro hz;rcases mem_cons.mp ((h z).mp (mem_cons_of_mem _ hz)) with e|g
   ·rw[e] at hz;exact absurd hz n1'.1
   ·exact g
  ·intro hz;rcases mem_cons.mp ((h z).mpr (mem_cons_of_mem _ hz)) with e|g
   ·rw[e] at hz;exact absurd hz n2'.1
   ·exact g
end L2.Na
namespace L2.Na.K41
open PySem PySem.Spec PyProof.Rows L2 L2.L3
section
variable {ws:List Str} (hU:Ru ws)
include hU
end
theorem nM (c d:Nat):∀l:List Nat,c∉l->l.map (λx=>if x=c then d else x)=l
 |[],_=>rfl
 |k::r,h=>by
  have h1:¬k=c:=λe=>h (e▸mem_cons_self);rw[map_cons,if_neg h1,nM c d r λm=>h (mem_cons_of_mem _ m)]
theorem vN (c d:Nat):∀parts:List Str,(∀p∈parts,c∉p.cps.toList)->(Str.join ⟨#[c]⟩ parts).cps.toList.map (λx=>if x=c then d else x)=(Str.join ⟨#[d]⟩ parts).cps.toList
 |[],_=>rfl
 |[p],h=>nM c d _ (h p (mem_singleton.mpr rfl))
 |p::q::r,h=>by
  have ih:=vN c d (q::r) λa ha=>h a (mem_cons_of_mem _ ha);show (p++⟨#[c]⟩++Str.join ⟨#[c]⟩ (q::r)).cps.toList.map _=(p++⟨#[d]⟩++Str.join ⟨#[d]⟩ (q::r)).cps.toList;simp only [Str.cps_append,toList_append,map_append];rw[ih,nM c d _ (h p mem_cons_self)];simp
theorem yS (x:Str) (c d:Nat):ls (Txt.replace x ⟨#[c]⟩ ⟨#[d]⟩)=(ls x).map λa=>if a=c then d else a:=by
 show (Txt.replace x ⟨#[c]⟩ ⟨#[d]⟩).cps.toList=x.cps.toList.map _;rw[StrLaws.replace_one,<-vN c d _ (StrLaws.split_free x c),StrLaws.join_split]
end L2.Na.K41
namespace L2.Na
open PySem L2.Na.K41
end L2.Na
namespace L2.Na.Pr
open PySem L2.Na.K41
theorem wW:∀{ps f:List bF} {p:bF},p∈ps->p.1∈bJ (ps.foldl bN f)
 |[],f,p,h=>by cases h
 |q::ps,f,p,h=>by
  rw[foldl_cons];rcases mem_cons.mp h with rfl|h
  ·obtain ⟨t,e⟩:=kI ps (bN f p);rw[e,fK];refine mem_append_left _ ?_;rw[wX];unfold PY;split
   ·assumption
   ·exact mem_append_right _ mem_cons_self
  ·exact wW h
theorem rE:∀{ps f:List bF} {y:List Nat},y∈bJ (ps.foldl bN f)->y∈bJ f\/y∈bJ ps
 |[],f,y,h=>.inl h
 |q::ps,f,y,h=>by
  rw[foldl_cons] at h;rcases rE h with h|h
  ·rw[wX] at h;unfold PY at h;split at h
   ·exact .inl h
   ·rcases mem_append.mp h with h|h
    ·exact .inl h
    ·exact .inr (by rw[mem_singleton.mp h];exact mem_cons_self)
  ·exact .inr (mem_cons_of_mem _ h)
theorem GA {ws:List Str} {f0:List bF} {i k:Nat} (h:i<=k) {y:List Nat} (hy:y∈bJ (aR ws f0 i)):y∈bJ (aR ws f0 k):=by
 obtain ⟨t,e⟩:=dF ws f0 i (k - i);rw[show i+(k - i)=k by lia] at e;rw[e,fK];exact mem_append_left _ hy
theorem uK {ws:List Str} {f0:List bF} {P:List Nat->Prop} (h0:∀x∈bJ f0,P x) (hs:∀x,P x->∀y∈fW ws x,P y):∀(i:Nat) (x:List Nat),x∈bJ (aR ws f0 i)->P x
 |0,x,h=>h0 x h
 |i+1,x,h=>by
  have ih:=uK h0 hs i;change x∈bJ (match (aR ws f0 i)[i]? with|some x=>(chl ws x).foldl bN (aR ws f0 i)|none=>aR ws f0 i) at h;cases e:(aR ws f0 i)[i]? with
  |none=>rw[e] at h;exact ih x h
  |some z=>
   rw[e] at h;rcases rE h with h|h
   ·exact ih x h
   ·rw[BJ] at h;exact hs z.1 (ih z.1 (mem_map.mpr ⟨z,mem_of_getElem? e,rfl⟩)) x h
section
variable {ws:List Str} {c L:Nat}
theorem oW (h:(bW ws c L).length<=300) {x y:List Nat} (hx:x∈bJ (bW ws c L)) (hy:y∈fW ws x):y∈bJ (bW ws c L):=by
 obtain ⟨p,hp,rfl⟩:=mem_map.mp hx;obtain ⟨i,hi⟩:=getElem?_of_mem hp;have il:i<(bW ws c L).length:=(List.getElem?_eq_some_iff.mp hi).1;have hil:i<(aR ws (f0 ws c L) i).length:=Nat.lt_of_not_le λhn=>by
  have e:=mV ws (f0 ws c L) hn (300 - i);rw[show i+(300 - i)=300 by lia] at e;have:(bW ws c L).length<=i:=by
   show (aR ws (f0 ws c L) 300).length<=i;rw[e];exact hn
  lia
 obtain ⟨t,e⟩:=dF ws (f0 ws c L) i (300 - i);rw[show i+(300 - i)=300 by lia] at e;have hp':(aR ws (f0 ws c L) i)[i]?=some p:=by
  have:(aR ws (f0 ws c L) 300)[i]?=some p:=hi;rw[e,getElem?_append_left hil] at this;exact this
 have h1:y∈bJ (aR ws (f0 ws c L) (i+1)):=by
  rw[kO hp'];rw[<-BJ] at hy;obtain ⟨q,hq,rfl⟩:=mem_map.mp hy;exact wW hq
 exact GA (by lia) h1
section
variable (hU:Ru ws) (hL:1<=L) (h1:97<=c) (h2:c - 97<ws.length) (hg:aJ ws c=true) (h:(bW ws c L).length<=300)
include hU hL h1 h2 hg h
end
end
end L2.Na.Pr
namespace L2.Na
open PySem L2.Na.K41 L2.Na.Pr
theorem sP (h:Ru ws) (h1:97<=c) (h2:c - 97<ws.length) (hg:aJ ws c=true) (hk:n+m<=(wk ws c k).length):
  str ws c (aK ws (str ws c 0 n)).length (aK ws (str ws c n m)).length=aK ws (str ws c n m)/\(aK ws (str ws c 0 n)).length+(aK ws (str ws c n m)).length<=(wk ws c (k+1)).length:=by
 have e1:wk ws c k=str ws c 0 n++(str ws c n m++(wk ws c k).drop (n+m)):=by
  rw[<-iO h h1 h2 hg (k:=k) (n:=0) (m:=n) (by lia),<-iO h h1 h2 hg hk,drop_zero]
  conv=>lhs;rw[<-take_append_drop n (wk ws c k)]
  congr 1
  conv=>lhs;rw[<-take_append_drop m ((wk ws c k).drop n)]
  rw[drop_drop]
 have e2:wk ws c (k+1)=aK ws (str ws c 0 n)++(aK ws (str ws c n m)++aK ws ((wk ws c k).drop (n+m))):=by
  show aK ws (wk ws c k)=_
  conv=>lhs;rw[e1]
  rw[eS,eS]
 have hl:(aK ws (str ws c 0 n)).length+(aK ws (str ws c n m)).length<=(wk ws c (k+1)).length:=by
  rw[e2,length_append,length_append];lia
 refine ⟨?_,hl⟩;rw[<-iO h h1 h2 hg hl,e2,List.drop_append_of_le_length (Nat.le_refl _),List.drop_length,nil_append,List.take_append_of_le_length (Nat.le_refl _),List.take_length]
theorem gZ (ws:List Str) (c n m j l:Nat) (h:j+l<=m):((str ws c n m).drop j).take l=str ws c (n+j) l:=by
 unfold str;refine ext_getElem? λi=>?_;by_cases hi:i<l
 ·rw[getElem?_take,if_pos hi,getElem?_drop,getElem?_map,getElem?_map,getElem?_range (by lia),getElem?_range hi];show some (ew ws c (n+(j+i)))=some (ew ws c (n+j+i));rw[Nat.add_assoc]
 ·rw[List.getElem?_eq_none (by rw[length_take];lia),List.getElem?_eq_none (by rw[length_map,length_range];lia)]
theorem rW (ws:List Str) (c n m l:Nat):str ws c n (m+l)=str ws c n m++str ws c (n+m) l:=by
 have e:=take_append_drop m (str ws c n (m+l));rw[<-e]
 congr 1
 ·have:=gZ ws c n (m+l) 0 m (by lia);rw[drop_zero,Nat.add_zero] at this;exact this
 ·have:=gZ ws c n (m+l) m l (Nat.le_refl _);rw[take_of_length_le (by rw[length_drop,str_len];lia)] at this;exact this
noncomputable def LP (ws:List Str) (c L i:Nat) (p:bF):Prop:=∃n:Nat,p.1=str ws c n L/\p.2=bU ws.length (aH (str ws c 0 n))/\n+L<=(wk ws c (L+i)).length
section
variable {ws:List Str} {c L:Nat}
theorem fD (hU:Ru ws) (h1:97<=c) (h2:c - 97<ws.length) (hg:aJ ws c=true) (hk:n+m<=(wk ws c k).length):cI ws (str ws c n m):=by
 rw[<-iO hU h1 h2 hg hk];exact λd hd=>dH hU h1 h2 k d (mem_of_mem_drop (mem_of_mem_take hd))
theorem LP.more (hU:Ru ws) (h2:c - 97<ws.length) (hg:aJ ws c=true) (h:LP ws c L i p):LP ws c L (i+1) p:=by
 obtain ⟨n,e1,e2,e3⟩:=h;obtain ⟨t,et⟩:=xG hU h2 hg (L+i);refine ⟨n,e1,e2,?_⟩;rw[show L+(i+1)=L+i+1 by lia,et,length_append];lia
theorem LP.chl (hU:Ru ws) (hL:1<=L) (h1:97<=c) (h2:c - 97<ws.length) (hg:aJ ws c=true) (h:LP ws c L i x) (hp:p∈chl ws x):LP ws c L (i+1) p:=by
 obtain ⟨n,e1,e2,e3⟩:=h;obtain ⟨j,hj,rfl⟩:=mem_map.mp hp;have hj:=mem_range.mp hj;obtain ⟨o1,o2⟩:=sP hU h1 h2 hg e3;obtain ⟨o3,_⟩:=sP hU h1 h2 hg (k:=L+i) (n:=0) (m:=n) (by lia);have lx:=fD hU h1 h2 hg e3;have l0:=fD hU h1 h2 hg (k:=L+i) (n:=0) (m:=n) (by lia);have xl:x.1.length=L:=by rw[e1,str_len]
 have pl:=gH hU (by rw[e1];exact lx) (by lia) hj;rw[xl,length_take,length_drop,e1] at pl;have hjl:j+L<=(aK ws (str ws c n L)).length:=by lia
 have o3:str ws c 0 (aK ws (str ws c 0 n)).length=aK ws (str ws c 0 n):=o3;refine ⟨(aK ws (str ws c 0 n)).length+j,?_,?_,?_⟩
 ·show ((aK ws x.1).drop j).take x.1.length=_;rw[xl,e1,<-o1];exact gZ ws c _ _ j L (by rw[<-o1] at hjl;rw[str_len] at hjl;exact hjl)
 ·show zipWith (·+·) (zL (rowsOf ws) x.2 1) (bU ws.length (aH ((wd ws (x.1.headD 0)).take j)))=_;rw[e2,wN hU.isw l0.isW 1];have ei:Et ws (aH (str ws c 0 n)) 1=aH (aK ws (str ws c 0 n)):=by
   show img ws (aH (str ws c 0 n))=_;rw[cW,aW]
  rw[ei,<-L2.Na.KO]
  congr 2
  rw[rW,o3]
  congr 1
  rw[zero_add];have ht:=gZ ws c (aK ws (str ws c 0 n)).length (aK ws (str ws c n L)).length 0 j (by lia);rw[drop_zero,Nat.add_zero,o1] at ht;rw[<-ht];cases hs:str ws c n L with
  |nil=>
   have:=str_len ws c n L;rw[hs] at this;simp at this;lia
  |cons d l=>
   rw[e1,hs] at hj ⊢;rw[aS];exact (List.take_append_of_le_length (le_of_lt hj)).symm
 ·rw[show L+(i+1)=L+i+1 by lia];lia
theorem LP.zero (hU:Ru ws) (h1:97<=c) (h2:c - 97<ws.length) (hg:aJ ws c=true):∀p∈f0 ws c L,LP ws c L 0 p:=λp hp=>by
 have e:p=(str ws c 0 L,replicate ws.length 0):=by simpa [f0] using hp
 rw[e];refine ⟨0,rfl,(L2.Na.KN _).symm,?_⟩;have a:=dJ hU h1 h2 L;have b:=dZ hU h1 h2 hg L;rw[Nat.add_zero];lia
theorem vM:∀(ps g:List bF),p∈ps.foldl bN g->p∈g\/p∈ps
 |[],g,h=>.inl h
 |q::ps,g,h=>by
  rw[foldl_cons] at h;rcases vM ps _ h with h|h
  ·unfold bN at h;split at h
   ·exact .inl h
   ·rcases mem_append.mp h with h|h
    ·exact .inl h
    ·exact .inr (by rw[mem_singleton.mp h];exact mem_cons_self)
  ·exact .inr (mem_cons_of_mem _ h)
theorem mU (hU:Ru ws) (hL:1<=L) (h1:97<=c) (h2:c - 97<ws.length) (hg:aJ ws c=true):∀(i:Nat) (p:bF),p∈aR ws (f0 ws c L) i->LP ws c L i p
 |0,p,hp=>LP.zero hU h1 h2 hg p hp
 |i+1,p,hp=>by
  have ih:=mU hU hL h1 h2 hg i;change p∈(match (aR ws (f0 ws c L) i)[i]? with|some x=>(chl ws x).foldl bN (aR ws (f0 ws c L) i)|none=>aR ws (f0 ws c L) i) at hp;cases e:(aR ws (f0 ws c L) i)[i]? with
  |none=>
   rw[e] at hp;exact (ih p hp).more hU h2 hg
  |some z=>
   rw[e] at hp;rcases vM _ _ hp with h|h
   ·exact (ih p h).more hU h2 hg
   ·exact (ih z (mem_of_getElem? e)).chl hU hL h1 h2 hg h
end
theorem qS:∀xs:List Int,dot xs (replicate xs.length 1)=xs.sum
 |[]=>rfl
 |x::xs=>by
  have ih:=qS xs;unfold dot at ih ⊢;rw[length_cons,replicate_succ,zipWith_cons_cons,sum_cons,sum_cons,ih,Int.mul_one]
theorem EB (h:gX n z):(bU n z).sum=z.length:=by
 have e:=qS (bU n z);rw[cY] at e;have d:=oJ (ds:=replicate n (1:Int)) (z:=z) (by rw[length_replicate];exact h);rw[length_replicate,e,MR h] at d;exact d
theorem NI (hU:Ru ws) (h1:97<=c) (h2:c - 97<ws.length) (hg:aJ ws c=true) (h:LP ws c L i p):∃n:Nat,p.1=str ws c n L/\p.2.sum=(n:Int)/\n+L<=(wk ws c (L+i)).length:=by
 obtain ⟨n,e1,e2,e3⟩:=h;refine ⟨n,e1,?_,e3⟩;rw[e2,EB (fD hU h1 h2 hg (k:=L+i) (n:=0) (m:=n) (by lia)).isW,bK,str_len]
section
variable {ws:List Str} {c L:Nat}
theorem PC (hU:Ru ws) (h1:97<=c) (h2:c - 97<ws.length) (hg:aJ ws c=true) (i:Nat):97<=ew ws c i/\ew ws c i - 97<ws.length:=by
 have li:i<(wk ws c i).length:=by
  have a:=dJ hU h1 h2 i;have b:=dZ hU h1 h2 hg i;lia
 exact dH hU h1 h2 i _ (mem_of_getElem? (xH hU h1 h2 hg li))
theorem rP (hU:Ru ws) (h1:97<=c) (h2:c - 97<ws.length) (hg:aJ ws c=true) (i:Nat):1<=(wd ws (ew ws c i)).length:=by
 obtain ⟨w,_,e,hw⟩:=hU.word (PC hU h1 h2 hg i).2;rw[e,aN];exact hU.one w hw
noncomputable def Fl (ws:List Str) (c n:Nat):Nat:=(aK ws (str ws c 0 n)).length
theorem tQ (n:Nat):Fl ws c (n+1)=Fl ws c n+(wd ws (ew ws c n)).length:=by
 unfold Fl;rw[rW,eS,length_append,zero_add]
 congr 1
 show (aK ws [ew ws c (n+0)]).length=_;rw[aS,Nat.add_zero];show (wd ws (ew ws c n)++[]).length=_;rw[append_nil]
theorem SE (hU:Ru ws) (h1:97<=c) (h2:c - 97<ws.length) (hg:aJ ws c=true):∀n,∃m j,n=Fl ws c m+j/\j<(wd ws (ew ws c m)).length
 |0=>⟨0,0,rfl,rP hU h1 h2 hg 0⟩
 |n+1=>by
  obtain ⟨m,j,e,hj⟩:=SE hU h1 h2 hg n;by_cases h:j+1<(wd ws (ew ws c m)).length
  ·exact ⟨m,j+1,by lia,h⟩
  ·exact ⟨m+1,0,by rw[tQ];lia,rP hU h1 h2 hg (m+1)⟩
theorem SD (hU:Ru ws) (h1:97<=c) (h2:c - 97<ws.length) (hg:aJ ws c=true):∀n,n+2<=Fl ws c (n+1)
 |0=>by
  rw[tQ];have e0:ew ws c 0=c:=rfl;rw[e0];unfold aJ at hg;obtain ⟨w,hw,e,_⟩:=hU.word h2;rw[hw] at hg;rw[e,aN];simp only [and_eq_true,decide_eq_true_eq] at hg;lia
 |n+1=>by
  have ih:=SD hU h1 h2 hg n;have:=rP hU h1 h2 hg (n+1);rw[tQ];lia
theorem uI (n:Nat) (hL:1<=L):(str ws c n L).headD 0=ew ws c n:=by
 obtain ⟨l,rfl⟩:∃l,L=1+l:=⟨L - 1,by lia⟩;rw[rW];rfl
theorem FV (hU:Ru ws) (hL:1<=L) (h1:97<=c) (h2:c - 97<ws.length) (hg:aJ ws c=true) (n j:Nat) (hj:j<(wd ws (ew ws c n)).length):str ws c (Fl ws c n+j) L∈fW ws (str ws c n L):=by
 have e3:n+L<=(wk ws c (n+L)).length:=by
  have a:=dJ hU h1 h2 (n+L);have b:=dZ hU h1 h2 hg (n+L);lia
 obtain ⟨o1,o2⟩:=sP hU h1 h2 hg e3;have lx:=fD hU h1 h2 hg e3;have pl:=gH hU lx (by rw[str_len];exact hL) (j:=j) (by rw[uI n hL];exact hj);rw[str_len,length_take,length_drop] at pl;unfold fW;refine mem_map.mpr ⟨j,mem_range.mpr (by rw[uI n hL];exact hj),?_⟩;rw[str_len,<-o1];exact gZ ws c _ _ j L (by lia)
theorem LL (hU:Ru ws) (hL:1<=L) (h1:97<=c) (h2:c - 97<ws.length) (hg:aJ ws c=true) (hsm:(bW ws c L).length<=300):∀n,str ws c n L∈bJ (bW ws c L):=by
 intro n;induction n using Nat.strongRecOn with
 |_ n ih=>
  by_cases h0:n=0
  ·subst h0;have:=dF ws (f0 ws c L) 0 300;obtain ⟨t,e⟩:=this;rw[zero_add] at e;unfold bW;rw[e,fK];exact mem_append.mpr (.inl (mem_cons_self))
  ·obtain ⟨m,j,e,hj⟩:=SE hU h1 h2 hg n;have hm:m<n:=by
    cases m with
    |zero=>lia
    |succ m=>
     have:=SD hU h1 h2 hg m;lia
   rw[e];exact oW hsm (ih m hm) (FV hU hL h1 h2 hg m j hj)
end
noncomputable def kB:Nat->Nat->List Nat
 |0,_=>[]
 |m+1,v=>kB m (v / 4)++[97+v % 4]
noncomputable def JV (x:List Nat):Nat:=x.foldl (λa d=>4 * a+(d - 97)) 0
noncomputable def Hz (tb:List (List Nat)) (M:Nat) (vs:List Nat):Bool:=vs.all λv=>(range (tb.getD ((kB M v).headD 0 - 97) []).length).all λj=>vs.contains (JV ((((kB M v).flatMap λd=>tb.getD (d - 97) []).drop j).take M))&&decide (kB M (JV ((((kB M v).flatMap λd=>tb.getD (d - 97) []).drop j).take M))=(((kB M v).flatMap λd=>tb.getD (d - 97) []).drop j).take M)
theorem wG:∀(m v:Nat),(kB m v).length=m
 |0,_=>rfl
 |m+1,v=>by
  show (kB m (v / 4)++[97+v % 4]).length=m+1;rw[length_append,wG m];rfl
theorem FC (h:ws.map ls=tb) (d:Nat):wd ws d=tb.getD (d - 97) []:=by
 subst h;unfold wd;rw[getD_eq_getElem?_getD,getElem?_map];cases ws[d - 97]? with
 |none=>rfl
 |some w=>rfl
theorem HJ (h:ws.map ls=tb) (ok:Hz tb M vs=true):∀x∈vs.map (kB M),∀y∈fW ws x,y∈vs.map (kB M):=by
 intro x hx y hy;obtain ⟨v,hv,rfl⟩:=mem_map.mp hx;obtain ⟨j,hj,rfl⟩:=mem_map.mp hy;have e1:=all_eq_true.mp (all_eq_true.mp ok v hv) j (by rw[<-FC h];exact hj);rw[and_eq_true] at e1;have ei:aK ws (kB M v)=(kB M v).flatMap λd=>tb.getD (d - 97) []:=by
  unfold aK;rw[show wd ws=λd=>tb.getD (d - 97) [] from funext (FC h)]
 rw[ei,wG];exact mem_map.mpr ⟨_,List.contains_iff_mem.mp e1.1,of_decide_eq_true e1.2⟩
section
variable {ws:List Str} {c L:Nat}
theorem XC (hU:Ru ws) (hL:1<=L) (h1:97<=c) (h2:c - 97<ws.length) (hg:aJ ws c=true) {g:List (List Nat)} (h0:str ws c 0 L∈g) (hc:∀x∈g,∀y∈fW ws x,y∈g):(bW ws c L).length<=g.length:=by
 rw[<-hZ];refine Nodup.length_le_of_subset (fE hU hL (qP hU h1 h2 hg) 300).nd λx hx=>?_;refine uK (P:=λx=>x∈g) (λy hy=>?_) hc 300 x hx;have e:y=str ws c 0 L:=by simpa [f0,bJ] using hy
 rw[e];exact h0
theorem JR (hU:Ru ws) (hL:1<=L) (hM:L<=M) (h1:97<=c) (h2:c - 97<ws.length) (hg:aJ ws c=true) (hs:(bW ws c M).length<=300):(bW ws c L).length<=300:=by
 refine Nat.le_trans ?_ hs;rw[<-hZ,<-hZ (bW ws c M),<-length_map (f:=λy:List Nat=>y.take L) (as:=bJ (bW ws c M))];refine Nodup.length_le_of_subset (fE hU hL (qP hU h1 h2 hg) 300).nd λx hx=>?_;obtain ⟨p,hp,rfl⟩:=mem_map.mp hx;obtain ⟨n,e1,_,_⟩:=mU hU hL h1 h2 hg 300 p hp;refine mem_map.mpr ⟨str ws c n M,LL hU (by lia) h1 h2 hg hs n,?_⟩;show (str ws c n M).take L=p.1;rw[e1];have:=gZ ws c n M 0 L (by lia);rw[drop_zero,Nat.add_zero] at this;exact this
noncomputable def MB (m:Nat):Nat->List (List Nat)
 |0=>[[]]
 |L+1=>(range m).flatMap λd=>(MB m L).map λx=>(97+d)::x
theorem tX (m:Nat):∀L,(MB m L).length=m ^ L
 |0=>rfl
 |L+1=>by
  show ((range m).flatMap λd=>(MB m L).map λx=>(97+d)::x).length=_;rw[List.length_flatMap];simp only [length_map,tX m L];rw[List.map_const',List.sum_replicate_nat,length_range,Nat.pow_succ,Nat.mul_comm]
theorem tW:∀{x:List Nat},(∀d∈x,97<=d/\d - 97<m)->x∈MB m x.length
 |[],_=>mem_singleton.mpr rfl
 |d::x,h=>by
  obtain ⟨a,b⟩:=h d mem_cons_self;refine List.mem_flatMap.mpr ⟨d - 97,mem_range.mpr b,mem_map.mpr ⟨x,tW λe he=>h e (mem_cons_of_mem _ he),?_⟩⟩;rw[show 97+(d - 97)=d by lia]
theorem OZ (hU:Ru ws) (hL:1<=L) (h1:97<=c) (h2:c - 97<ws.length) (hg:aJ ws c=true):(bW ws c L).length<=ws.length ^ L:=by
 rw[<-hZ,<-tX];refine Nodup.length_le_of_subset (fE hU hL (qP hU h1 h2 hg) 300).nd λx hx=>?_;obtain ⟨p,hp,rfl⟩:=mem_map.mp hx;obtain ⟨l1,l2,_⟩:=(fE hU hL (qP hU h1 h2 hg) 300).ok p hp;show p.1∈_;rw[<-l1];exact tW l2
end
theorem NG (h1:1<=m) (h4:m<=4) (hL:L<=[20,8,5,4].getD (m - 1) 0):m ^ L<=300:=by
 have:m=1\/m=2\/m=3\/m=4:=by lia
 rcases this with rfl|rfl|rfl|rfl
 ·rw[Nat.one_pow];decide
 ·exact Nat.le_trans (Nat.pow_le_pow_right (by decide) hL) (by decide)
 ·exact Nat.le_trans (Nat.pow_le_pow_right (by decide) hL) (by decide)
 ·exact Nat.le_trans (Nat.pow_le_pow_right (by decide) hL) (by decide)
end L2.Na
namespace L2.Na.K25
open PySem PySem.Spec PyProof.Rows L2 L2.L3
variable {K:Fg}
theorem Dr.off {H:Hp} {p D:Addr} {o:HO} (h:Dr H p) (hn:p≠D):Dr (upd H D o) p:=by
 obtain ⟨xs,h1,h2⟩:=h;exact ⟨xs,by rw[aF hn];exact h1,h2⟩
theorem Off.other {p D:Addr} {H H1:Hp} {o:HO} (h:Off p H H1) (hD:H D=none):Off p H (upd H1 D o):=λb u hb e=>by
 rw[aF (aB e hD)];exact h b u hb e
theorem Dr.some {H:Hp} {p:Addr} (h:Dr H p):∃o,H p=Option.some o:=let ⟨_,e,_⟩:=h;⟨_,e⟩
noncomputable def lG (K:Fg):Sp:=λvs H Q _=>∃(p:Addr) (m s:Int),vs=[.ref p,.int m,.int s]/\Dr H p/\1<=m/\m<=4/\0<=s/\s<=1000/\∀(z:Str) (H':Hp),Off p H H'->Dr H' p->gX m.toNat z->z.length=s.toNat->Q (.str z) H'
noncomputable def oS (K:Fg):List (SX K):=
 [ret (sU (cst (.str "")) (comp (ix (cst (.str "abcd")) (bin .Mod (call "_law_next" (aV K) [var 2]) (var 1))) (fX 0) (nZ (var 2) []) ["_law_k"] ["_law_many","_law_drawn"] [1,0]))]
theorem uN {m:Nat}:∀(ys:List V),(∀y∈ys,∃c,y=sgn c/\97<=c/\c<97+m)->∃cs:List Nat,ys=(cs.map λc=>(⟨#[c]⟩:Str)).map V.str/\cs.length=ys.length/\∀c∈cs,97<=c/\c<97+m
 |[],_=>⟨[],rfl,rfl,λc hc=>nomatch hc⟩
 |y::ys,h=>by
  obtain ⟨c,rfl,hc⟩:=h y mem_cons_self;obtain ⟨cs,e,hl,hcs⟩:=uN ys λy hy=>h y (mem_cons_of_mem _ hy);refine ⟨c::cs,by rw[map_cons,map_cons,<-e];rfl,by rw[length_cons,length_cons,hl],λd hd=>?_⟩;rcases mem_cons.mp hd with rfl|hd
  ·exact hc
  ·exact hcs d hd
theorem vZ {α β:Type} (f:α->β):∀l:List α,(l.map λv=>[f v]).flatten=l.map f
 |[]=>rfl
 |a::l=>by rw[map_cons,flatten_cons,vZ f l];rfl
theorem xP:TT (lG K) (oS K) ["_law_drawn","_law_many","_law_size"]:=by
 intro vs H Q E h;obtain ⟨p,m,s,rfl,hp,h1,h4,hs0,hs,q⟩:=h;unfold oS;walk_at "";intro D hD;have hpD:p≠D:=let ⟨o,e⟩:=Dr.some hp;aB e hD;refine DW (λi H1=>Off p H H1/\Dr H1 p) (λi y=>∃c,y=sgn c/\97<=c/\c<97+m.toNat) (small (by lia)) ⟨Off.other (Off.refl p H) hD,Dr.off hp hpD⟩ (λi H1 ys Q' hi hI hO fin=>?_) λH1 ys hI hO hl hr=>?_
 ·walk_at "";refine ⟨p,rfl,hI.2,λv H2 hOff hDr v0 v1=>?_⟩;walk_at "";have e1:=emod_nonneg v (show m≠0 by lia);have e2:=emod_lt_of_pos v (show 0<m by lia);refine jW (by rw[dW];decide) (fO (m:=m) e1 e2 h4) ?_;exact fin _ H2 ⟨_,rfl,by lia,by lia⟩ (hOff D _ hpD.symm hO) λo=>⟨Off.other (Off.trans' hI.1 hOff) hD,Dr.off hDr hpD⟩
 ·walk_at "";obtain ⟨cs,e,hcl,hcs⟩:=uN (m:=m.toNat) ys λy hy=>by
   obtain ⟨i,hi⟩:=getElem?_of_mem hy;exact hr i y hi
  have e0:(Str.ofString "").length=0:=by decide+kernel
  have hsum:((cs.map λc=>(⟨#[c]⟩:Str)).map (·.length)).sum=cs.length:=by
   rw[map_map,show ((λz:Str=>z.length)∘λc=>(⟨#[c]⟩:Str))=λ_=>1 from rfl,List.map_const'];simp
  refine ⟨cs.map λc=>(⟨#[c]⟩:Str),.inl (by rw[hO,e]),by rw[hsum,e0];lia,?_⟩;have hj:ls (Txt.join (Str.ofString "") (cs.map λc=>(⟨#[c]⟩:Str)))=cs:=by
   rw[nN,map_map];show (cs.map λc=>[c]).flatten=_;rw[vZ λc=>c,List.map_id']
  refine q _ H1 hI.1 hI.2 (λc hc=>?_) (by rw[<-aN,hj,hcl,hl]);rw[hj] at hc;exact hcs c hc
noncomputable def gC (K:Fg):Sp:=λvs H Q _=>∃(d:Addr) (m:Int) (s:Nat) (lo hi:Int),vs=[.ref d,.int m,.int s,.int lo,.int hi]/\Dr H d/\1<=m/\m<=4/\(s:Int)<m/\1<=lo/\lo<=hi/\hi<=50/\
 ∀(p:Addr) (ws:List Str) (H':Hp),Off d H H'->Dr H' d->Rl K H' p ws 100->ws.length=m.toNat->(∀w∈ws,lo<=w.length)->aJ ws (97+s)=true->Q (.ref p) H'
noncomputable def iM (K:Fg):List (SX K):=
 [set 5 (lst []),
  gQ (fX 6) (nZ (var 1) []) [set 7 (bin .Add (var 3) (bin .Mod (call "_law_next" (aV K) [var 0]) (bin .Add (bin .Sub (var 4) (var 3)) (cst (.int 1))))),
   set 8 (call "_law_word" (lG K) [var 0,var 1,var 7]),
   tS (cmp .Eq (var 6) (var 2)) [set 8 (xC (bin .Add (ix (cst (.str "abcd")) (var 2)) (var 8)) none (some (max2 (cst (.int 2)) (var 7))))] [],
   ex (bS (var 5) (var 8))],
  ret (xN (var 5))]
theorem oZ:TT (gC K) (iM K) ["_law_drawn","_law_many","_law_start","_law_least","_law_most","_law_words","_law_k","_law_size","_law_word_here"]:=by
 intro vs H Q E h;obtain ⟨d,m,s,lo,hi,rfl,hd,h1,h4,hs,hlo,hlh,hhi,q⟩:=h;unfold iM;walk_at "";refine ⟨zero_le _,λp hp=>?_⟩;have hdp:d≠p:=let ⟨o,e⟩:=Dr.some hd;aB e hp;walk_at "";refine cV (λi σ H'=>Off d H H'/\Dr H' d/\∃(ws:List Str) (a6 a7 a8:Option V),Wo ws i m.toNat s lo/\H' p=some (.lst (ws.map V.str))/\σ=[some (.ref d),some (.int m),some (.int s),some (.int lo),some (.int hi),some (.ref p),a6,a7,a8])
  ⟨Off.other (Off.refl d H) hp,Dr.off hd hdp,[],none,none,none,⟨rfl,(λw hw=>nomatch hw),λw hw=>by simp at hw⟩,aA,rfl⟩ (λi σ H' hi' hP=>?_) λσ H' hP=>?_
 ·obtain ⟨hOf,hDr,ws,a6,a7,a8,hW,hpl,rfl⟩:=hP;have fin:∀(z:Str) (x6 x7:Option V) (D:Ends) (H2:Hp),Off d H H2->Dr H2 d->H2 p=some (.lst (ws.map V.str))->D={nx:=λσ3 H3=>Off d H H3/\Dr H3 d/\∃(ws:List Str) (a6 a7 a8:Option V),Wo ws (i+1) m.toNat s lo/\H3 p=some (.lst (ws.map V.str))/\σ3=[some (.ref d),some (.int m),some (.int s),some (.int lo),some (.int hi),some (.ref p),a6,a7,a8],ct:=D.ct,bk:=D.bk,rt:=D.rt}->
    (gX m.toNat z/\1<=z.length/\z.length<=100/\lo<=z.length)->(i=s->1<z.length/\(ls z)[0]?=some (97+s))->
    jD ([ex (bS (var 5) (var 8))]:List (SX K)) (λ_=>E) D [some (.ref d),some (.int m),some (.int s),some (.int lo),some (.int hi),some (.ref p),x6,x7,some (.str z)] H2:=by
   intro z x6 x7 D H2 f1 f2 f3 hD g1 g2;rw[hD];walk_at "";refine vW (aM.of f3) ?_;walk_at "";refine cO f3 (by rw[length_map,hW.1];exact Nat.lt_of_lt_of_le (show i<100 by lia) (small (by decide))) ?_;exact ⟨Off.other f1 hp,Dr.off f2 hdp,ws++[z],_,_,_,hW.snoc g1 g2,by rw[aA,map_append];rfl,rfl⟩
  walk_at "";refine ⟨d,rfl,hDr,λv H2 hO2 hD2 v0 v1=>?_⟩;have e1:=emod_nonneg v (show hi - lo+1≠0 by lia);have e2:=emod_lt_of_pos v (show 0<hi - lo+1 by lia);walk_at "";refine ⟨d,m,_,rfl,hD2,h1,h4,by lia,by lia,λz H3 hO3 hD3 hz hzl=>?_⟩;have hOH:=Off.trans' hOf (Off.trans' hO2 hO3);have hpl3:=hO3 _ _ hdp.symm (hO2 _ _ hdp.symm hpl);walk_at "";refine lC (λc=>?_) λc=>?_
  ·have es:i=s:=by lia
   walk_at "";refine jW (by rw[dW];decide) (fO (m:=4) (by lia) (by lia) (by lia)) ?_;walk_at "";refine WX (small (by show 1+z.length<=1000000;lia)) ?_;walk_at "";refine fT (small (by rw[len_app];show 1+z.length<=1000000;lia)) ?_;rw[toNat_natCast];obtain ⟨sz,hsz⟩:∃sz,lo+v % (hi - lo+1)=sz:=⟨_,rfl⟩;rw[hsz] at hzl ⊢;have hmx:0<=max 2 sz:=by lia
   have hls:ls (Txt.slice (⟨#[97+s]⟩++z) none (some (max 2 sz)))=((97+s)::ls z).take (max 2 sz).toNat:=by
    rw[show ls (Txt.slice (⟨#[97+s]⟩++z) none (some (max 2 sz)))=(ls (⟨#[97+s]⟩++z)).take (max 2 sz).toNat from cF hmx,IG];rfl
   have hlen:(Txt.slice (⟨#[97+s]⟩++z) none (some (max 2 sz))).length=min (max 2 sz).toNat (z.length+1):=by
    rw[<-aN,hls,length_take,length_cons,aN]
   refine fin _ _ _ _ _ hOH hD3 hpl3 rfl ⟨λx hx=>?_,?_,?_,?_⟩ λ_=>⟨?_,?_⟩
   ·rw[hls] at hx;rcases mem_cons.mp (mem_of_mem_take hx) with h|h
    ·lia
    ·exact hz x h
   ·rw[hlen];lia
   ·rw[hlen];lia
   ·rw[hlen];lia
   ·rw[hlen];lia
   ·rw[hls,getElem?_take,if_pos (by lia)];rfl
  ·refine fin _ _ _ _ _ hOH hD3 hpl3 rfl ⟨hz,by lia,by lia,by lia⟩ λz=>?_;exact absurd (show (0:Int)+(i:Nat)=(s:Int) by lia) c
 ·obtain ⟨hOf,hDr,ws,a6,a7,a8,hW,hpl,rfl⟩:=hP;walk_at "";refine .inl ⟨_,aM.of hpl,λt ht=>?_⟩;obtain ⟨hW1,hW2,hW3⟩:=hW;have hsl:s<ws.length:=by lia
  have hdt:d≠t:=let ⟨o,e⟩:=Dr.some hDr;aB e ht;refine q t ws _ (λb u hb e=>aE ht _ _ _ (hOf b u hb e)) (Dr.off hDr hdt) ⟨aA,by lia,by lia,λw hw=>?_,λw hw=>(hW2 w hw).2.1,λw hw=>(hW2 w hw).2.2.1⟩ hW1 (λw hw=>(hW2 w hw).2.2.2) ?_
  ·rw[hW1];exact (hW2 w hw).1
  ·obtain ⟨g1,g2⟩:=hW3 _ (List.getElem?_eq_getElem hsl);unfold aJ;rw[Nat.add_sub_cancel_left,List.getElem?_eq_getElem hsl];show (decide (97<=97+s)&&(decide (1<(ws[s]).length)&&decide ((ls ws[s])[0]?=some (97+s))))=true;rw[decide_eq_true (show 97<=97+s by lia),decide_eq_true g1,decide_eq_true g2];rfl
noncomputable def jI (K:Fg):Sp:=λvs H Q _=>∃(d:Addr) (w:Int),vs=[.ref d,.int w]/\Dr H d/\0<w/\∀(n:Nat) (H':Hp),Off d H H'->Dr H' d->(n:Int)<w->Q (.int n) H'
noncomputable def lQ (K:Fg):List (SX K):=
 [set 2 (cst (.int 0)),
  gQ (fX 3) (nZ (cst (.int 4)) []) [set 2 (bin .Add (bin .Mult (var 2) (cst (.int 2147483629))) (call "_law_next" (aV K) [var 0]))],
  ret (bin .Mod (var 2) (var 1))]
theorem uD:TT (jI K) (lQ K) ["_law_drawn","_law_wide","_law_number","_law_k"]:=by
 intro vs H Q E h;obtain ⟨d,w,rfl,hd,hw,q⟩:=h;unfold lQ;walk_at "";refine cV (λi σ H'=>Off d H H'/\Dr H' d/\∃(x:Int) (a3:Option V),σ=[some (.ref d),some (.int w),some (.int x),a3]) ⟨Off.refl d H,hd,0,none,rfl⟩ (λi σ H' hi hP=>?_) λσ H' hP=>?_
 ·obtain ⟨hO,hD,x,a3,rfl⟩:=hP;walk_at "";refine ⟨d,rfl,hD,λv H2 hO2 hD2 _ _=>?_⟩;walk_at "";exact ⟨Off.trans' hO hO2,hD2,_,_,rfl⟩
 ·obtain ⟨hO,hD,x,a3,rfl⟩:=hP;have e1:=emod_nonneg x (show w≠0 by lia);have e2:=emod_lt_of_pos x hw;obtain ⟨n,hn⟩:∃n:Nat,x % w=(n:Int):=⟨_,(Int.toNat_of_nonneg e1).symm⟩;walk_at "";rw[hn];exact q n H' hO hD (by lia)
end L2.Na.K25
namespace L2.Na.K31
open PySem L2.Na.K41 L2.Na.Pr
noncomputable def Cd (n:Nat) (x:List Nat):Bool:=x.all λc=>decide (97<=c)&&decide (c<97+n)
noncomputable def okT (tb:List (List Nat)):Bool:=decide (1<=tb.length)&&(decide (tb.length<=4)&&tb.all λw=>Cd tb.length w&&(decide (1<=w.length)&&decide (w.length<=100)))
theorem Ag (h:ws.map ls=tb) (ok:okT tb=true):Ru ws:=by
 unfold okT at ok;simp only [and_eq_true,decide_eq_true_eq] at ok;obtain ⟨h1,h2,h3⟩:=ok;have hl:tb.length=ws.length:=by rw[<-h,length_map]
 have h3':∀w∈ws,Cd ws.length (ls w)=true/\1<=w.length/\w.length<=100:=λw hw=>by
  have:=all_eq_true.mp h3 (ls w) (by rw[<-h];exact mem_map.mpr ⟨w,hw,rfl⟩);rw[hl,aN] at this;simpa using this
 refine ⟨by lia,by lia,λw hw c hc=>?_,λw hw=>(h3' w hw).2.1,λw hw=>(h3' w hw).2.2⟩;have:=all_eq_true.mp (h3' w hw).1 c hc;simpa using this
noncomputable def Hc (tb:List (List Nat)):Bool:=decide (1<(tb.getD 0 []).length)&&decide ((tb.getD 0 [])[0]?=some 97)
theorem Dl (h:ws.map ls=tb) (ok:Hc tb=true):aJ ws 97=true/\97 - 97<ws.length:=by
 subst h;cases ws with
 |nil=>exact absurd ok (by decide)
 |cons w ws=>
  refine ⟨?_,Nat.succ_pos _⟩;unfold Hc at ok;change (decide (1<(ls w).length)&&decide ((ls w)[0]?=some 97))=true at ok;rw[aN] at ok;simp only [and_eq_true,decide_eq_true_eq] at ok;show (decide (97<=97)&&(decide (1<w.length)&&decide ((ls w)[0]?=some 97)))=true;have k2:(ls w)[0]?=some 97:=of_decide_eq_true ok.2;rw[decide_eq_true ok.1,decide_eq_true k2];rfl
noncomputable def MD (tb:List (List Nat)):Nat->List Nat
 |0=>[97]
 |k+1=>(MD tb k).flatMap λd=>tb.getD (d - 97) []
theorem FA (h:ws.map ls=tb):∀k,wk ws 97 k=MD tb k
 |0=>rfl
 |k+1=>by
  show aK ws (wk ws 97 k)=(MD tb k).flatMap λd=>tb.getD (d - 97) [];rw[FA h k];unfold aK;rw[show wd ws=λd=>tb.getD (d - 97) [] from funext (FC h)]
structure Fx (ws:List Str) (M:Nat):Prop where
 ru:Ru ws
 gr:aJ ws 97=true
 c2:97 - 97<ws.length
 few:(bW ws 97 M).length<=300
noncomputable def Hf (tb:List (List Nat)) (M:Nat) (vs:List Nat) (k:Nat):Bool:=okT tb&&(Hc tb&&(Hz tb M vs&&(decide (M<=(MD tb k).length)&&(vs.contains (JV ((MD tb k).take M))&&(decide (kB M (JV ((MD tb k).take M))=(MD tb k).take M)&&(decide (vs.length<=300)&&decide (1<=M)))))))
theorem JM (h:ws.map ls=tb) (ok:Hf tb M vs k=true):Fx ws M:=by
 unfold Hf at ok;simp only [and_eq_true,decide_eq_true_eq] at ok;obtain ⟨a1,a2,a3,a4,a5,a6,a7,a8⟩:=ok;have hU:=Ag h a1;obtain ⟨g1,g2⟩:=Dl h a2;refine ⟨hU,g1,g2,?_⟩;have e0:str ws 97 0 M=(MD tb k).take M:=by
  rw[<-iO hU (by decide) g2 g1 (k:=k) (n:=0) (m:=M) (by rw[FA h];lia),drop_zero,FA h]
 have:=XC hU a8 (by decide) g2 g1 (g:=vs.map (kB M)) (by rw[e0];exact mem_map.mpr ⟨_,List.contains_iff_mem.mp a5,a6⟩) (HJ h a3);rw[length_map] at this;lia
noncomputable def wn (tb:List (List Nat)) (M k N:Nat):List Nat:=((range N).map λi=>JV (((MD tb k).drop i).take M)).eraseDups
theorem iJ {ws:List Str} {tb:List (List Nat)} {M:Nat} (k N:Nat) (h:ws.map ls=tb) (ok:Hf tb M (wn tb M k N) k=true):Fx ws M:=JM h ok
noncomputable abbrev R0:List Str:=[Str.ofString "ab",Str.ofString "a"]
theorem Iz:R0.map ls=[[97,98],[97]]:=by decide+kernel
theorem Jl:Fx R0 20:=iJ 8 21 Iz (by decide+kernel)
noncomputable abbrev R1:List Str:=[Str.ofString "ab",Str.ofString "ba"]
theorem Iy:R1.map ls=[[97,98],[98,97]]:=by decide+kernel
theorem Jk:Fx R1 20:=iJ 7 96 Iy (by decide+kernel)
noncomputable abbrev R2:List Str:=[Str.ofString "aab",Str.ofString "ab"]
theorem Iw:R2.map ls=[[97,97,98],[97,98]]:=by decide+kernel
theorem Jj:Fx R2 20:=iJ 4 21 Iw (by decide+kernel)
noncomputable abbrev R3:List Str:=[Str.ofString "abc",Str.ofString "ac",Str.ofString "b"]
theorem Iu:R3.map ls=[[97,98,99],[97,99],[98]]:=by decide+kernel
theorem Ji:Fx R3 9:=iJ 6 48 Iu (by decide+kernel)
noncomputable abbrev R4:List Str:=[Str.ofString "abb",Str.ofString "ab"]
theorem Ir:R4.map ls=[[97,98,98],[97,98]]:=by decide+kernel
theorem Jh:Fx R4 20:=iJ 4 21 Ir (by decide+kernel)
noncomputable abbrev R5:List Str:=[Str.ofString "abc",Str.ofString "bca",Str.ofString "cab"]
theorem Iq:R5.map ls=[[97,98,99],[98,99,97],[99,97,98]]:=by decide+kernel
theorem Jg:Fx R5 20:=iJ 6 405 Iq (by decide+kernel)
noncomputable abbrev R6:List Str:=[Str.ofString "ab",Str.ofString "cd",Str.ofString "ad",Str.ofString "cb"]
theorem Ip:R6.map ls=[[97,98],[99,100],[97,100],[99,98]]:=by decide+kernel
theorem Jf:Fx R6 12:=iJ 7 64 Ip (by decide+kernel)
noncomputable abbrev R7:List Str:=[Str.ofString "abab",Str.ofString "a"]
theorem Io:R7.map ls=[[97,98,97,98],[97]]:=by decide+kernel
theorem Je:Fx R7 20:=iJ 4 38 Io (by decide+kernel)
noncomputable abbrev R8:List Str:=[Str.ofString "ab",Str.ofString "c",Str.ofString "a"]
theorem Im:R8.map ls=[[97,98],[99],[97]]:=by decide+kernel
theorem Jd:Fx R8 20:=iJ 11 60 Im (by decide+kernel)
noncomputable abbrev R9:List Str:=[Str.ofString "ab",Str.ofString "ca",Str.ofString "cd",Str.ofString "ac"]
theorem Ik:R9.map ls=[[97,98],[99,97],[99,100],[97,99]]:=by decide+kernel
theorem Jc:Fx R9 12:=iJ 6 48 Ik (by decide+kernel)
noncomputable abbrev Ey:List Str:=[Str.ofString "aba",Str.ofString "b"]
theorem Fj:Ey.map ls=[[97,98,97],[98]]:=by decide+kernel
theorem Hh:Fx Ey 20:=JM (vs:=[73300775185,293203100740]) (k:=4) Fj (by decide+kernel)
noncomputable abbrev Ex:List Str:=[Str.ofString "ab",Str.ofString "b"]
theorem Fi:Ex.map ls=[[97,98],[98]]:=by decide+kernel
theorem Hg:Fx Ex 20:=JM (vs:=[91625968981,366503875925]) (k:=19) Fi (by decide+kernel)
noncomputable abbrev FW:List (List Str × Nat):=[(R0,20),(R1,20),(R2,20),(R3,9),(R4,20),(R5,20),(R6,12),(R7,20),(R8,20),(R9,12),(Ey,20),(Ex,20)]
theorem XA {i:Nat} (h:FW[i]?=some p):Fx p.1 p.2/\1<=p.2/\p.2<=20:=by
 have hm:=mem_of_getElem? h;simp only [mem_cons,not_mem_nil,or_false] at hm;rcases hm with rfl|rfl|rfl|rfl|rfl|rfl|rfl|rfl|rfl|rfl|rfl|rfl
 ·exact ⟨Jl,by decide,by decide⟩
 ·exact ⟨Jk,by decide,by decide⟩
 ·exact ⟨Jj,by decide,by decide⟩
 ·exact ⟨Ji,by decide,by decide⟩
 ·exact ⟨Jh,by decide,by decide⟩
 ·exact ⟨Jg,by decide,by decide⟩
 ·exact ⟨Jf,by decide,by decide⟩
 ·exact ⟨Je,by decide,by decide⟩
 ·exact ⟨Jd,by decide,by decide⟩
 ·exact ⟨Jc,by decide,by decide⟩
 ·exact ⟨Hh,by decide,by decide⟩
 ·exact ⟨Hg,by decide,by decide⟩
open PySem.Spec PyProof.Rows L2 L2.L3
theorem sO {α β:Type} {f:α->β}:∀{rs:List β} {z:List α},rs.Perm (z.map f)->∃z':List α,z'.Perm z/\z'.map f=rs:=by
 intro rs z h;generalize hm:z.map f=m at h;induction h generalizing z with
 |nil=>
  cases z with
  |nil=>exact ⟨[],.refl _,rfl⟩
  |cons _ _=>cases hm
 |cons x _ ih=>
  cases z with
  |nil=>cases hm
  |cons a z=>
   cases hm;obtain ⟨z',h1,h2⟩:=ih rfl;exact ⟨a::z',h1.cons a,by rw[map_cons,h2]⟩
 |swap x y l=>
  match z,hm with
  |a::b::z,hm=>
   cases hm;exact ⟨b::a::z,.swap _ _ _,rfl⟩
 |trans h1 h2 ih1 ih2=>
  obtain ⟨z1,p1,e1⟩:=ih2 hm;obtain ⟨z2,p2,e2⟩:=ih1 e1;exact ⟨z2,p2.trans p1,e2⟩
noncomputable def QA (H:Hp) (rs:List Addr) (f:List bF):Prop:=∃g:List bF,g.Perm f/\rs.length=g.length/\(∀(i:Nat) (a:Addr) (p:bF),rs[i]?=some a->g[i]?=some p->H a=some (.tup [.str (aH p.1),.int p.2.sum]))/\g.Pairwise λp q=>So.LX (aH q.1,q.2.sum) (aH p.1,p.2.sum)=false
theorem SQ {H:Hp} {qs rs:List Addr} {f:List bF} (hl:qs.length=f.length) (hq:∀(i:Nat) (a:Addr) (p:bF),qs[i]?=some a->f[i]?=some p->H a=some (.tup [.str (aH p.1),.int p.2.sum])) (hp:rs.Perm qs) (hu:Hl H rs):QA H rs f:=by
 let z:=qs.zip f
 have hz1:z.map (·.1)=qs:=List.map_fst_zip (by lia);have hz2:z.map (·.2)=f:=List.map_snd_zip (by lia);obtain ⟨z',hp1,hp2⟩:∃z':List (Addr × bF),z'.Perm z/\z'.map (·.1)=rs:=by
  have:rs.Perm (z.map (·.1)):=by rw[hz1];exact hp
  exact sO this
 have hmem:∀t∈z',H t.1=some (.tup [.str (aH t.2.1),.int t.2.2.sum]):=λt ht=>by
  obtain ⟨i,hi⟩:=getElem?_of_mem (hp1.mem_iff.mp ht);have h1:qs[i]?=some t.1:=by rw[<-hz1,getElem?_map,hi];rfl
  have h2:f[i]?=some t.2:=by rw[<-hz2,getElem?_map,hi];rfl
  exact hq i t.1 t.2 h1 h2
 refine ⟨z'.map (·.2),by rw[<-hz2];exact hp1.map _,by rw[<-hp2,length_map,length_map],λi a p h1 h2=>?_,?_⟩
 ·rw[<-hp2,getElem?_map] at h1;rw[getElem?_map] at h2;cases e:z'[i]? with
  |none=>rw[e] at h1;cases h1
  |some t=>
   rw[e] at h1 h2;cases h1;cases h2;exact hmem t (mem_of_getElem? e)
 ·rw[<-hp2] at hu;have hu:=pairwise_map.mp hu;refine pairwise_map.mpr (hu.imp_of_mem λ{a b} ha hb g=>?_);exact g _ _ _ _ (hmem a ha) (hmem b hb)
variable {K:Fg}
noncomputable def hJ (K:Fg):Sp:=λvs H Q E=>
 (∃(a:Addr) (ws:List Str) (c L:Nat),vs=[.ref a,sgn c,.int (L:Nat)]/\1<=L/\L<=400/\Pl K H a ws c ((0+L - 1:Nat):Int)/\
  ((bW ws c L).length<=300->∀(r:Addr) (rs:List Addr) (H':Hp),aC H H'->H r=none->H' r=some (.lst (rs.map V.ref))->QA H' rs (bW ws c L)->Q (.ref r) H')/\(300<(bW ws c L).length->Pr.TG K 300 H E))\/
 ∃(a:Addr) (ws:List Str) (c L:Nat),vs=[.ref a,sgn c,.int (L:Nat)]/\1<=L/\Ep K H a ws c ((0+L - 1:Nat):Int) E
noncomputable def XY (K:Fg):List (SX K):=[ret (ZZ (comp (tup [var 0,sum (ix (var 1) (var 0))]) (fX 0) (Dk (var 3)) ["piece"] ["ahead"] [3]))]
noncomputable def wQ (K:Fg):List (SX K):=set 3 (call "counts_ahead" (cZ K) [var 0,var 1,var 2])::XY K
theorem IL:∀vs H Q E,hJ K vs H Q E->vs.length=3:=by
 rintro vs H Q E (⟨_,_,_,_,rfl,_⟩|⟨_,_,_,_,rfl,_⟩)
 ·rfl
 ·rfl
theorem Fm {H0 H:Hp} {Q:VK} {E:XK} {f:List bF} {d:Addr} {as:List Addr} {v0 v1 v2:Option V} (s0:aC H0 H) (nd:H0 d=none) (nn:(bJ f).Nodup) (hl:f.length<=300) (hD:ZF H d as f)
  (q:∀(r:Addr) (rs:List Addr) (H':Hp),aC H0 H'->H0 r=none->H' r=some (.lst (rs.map V.ref))->QA H' rs f->Q (.ref r) H'):
  jD (XY K) (λ_=>E) {nx:=λ_ H'=>Q .non H',rt:=Q} [v0,v1,v2,some (.ref d)] H:=by
 unfold XY;walk_at "";refine VY ?_;walk_at "";refine WT ?_;walk_at "";refine De hD.d λo=>?_;have k2:∀b oo,b≠d->H b=some oo->(upd H d (.frz o (.dK (nS f as)))) b=some oo:=λb oo hb e=>by rw[aF hb];exact e
 have f2:(upd H d (.frz o (.dK (nS f as)))) d=some (.frz o (.dK (nS f as))):=aA;have n2:∀b,(upd H d (.frz o (.dK (nS f as)))) b=none->H0 b=none:=λb hb=>by
  have hbd:b≠d:=λe=>by rw[e,aA] at hb;cases hb
  rw[aF hbd] at hb;exact none_of s0 hb
 have s2:aC H0 (upd H d (.frz o (.dK (nS f as)))):=λb oo e=>k2 b oo (aB e nd) (s0 _ _ e);revert k2 f2 n2 s2;generalize upd H d (.frz o (.dK (nS f as)))=H2;intro k2 f2 n2 s2;intro D nD;have hal:=hD.l;refine wJ (SJ (d:=d) (o:=o) (kvs:=nS f as)) (λi y H1=>∃r p,y=.ref r/\r≠D/\f[i]?=some p/\H1 r=some (.tup [.str (aH p.1),.int p.2.sum])) nD (λH1 hS=>hS _ _ f2) (small (by rw[length_map,mH hal];lia)) (λi y H1 H3 hh=>?_) (λi x H1 Q' hx hS hDs fin=>?_) λH1 ys hS hO hl2 hr=>?_
 ·rintro ⟨r,p,e1,e2,e3,e4⟩;exact ⟨r,p,e1,e2,e3,hh r _ e2 e4⟩
 ·obtain ⟨od,hod⟩:=hDs;have hi:i<f.length:=by
   have:=(List.getElem?_eq_some_iff.mp hx).1;rw[length_map,mH hal] at this;exact this
  have hfi:f[i]?=some f[i]:=List.getElem?_eq_getElem hi;have hai:as[i]?=some (as[i]'(by lia)):=List.getElem?_eq_getElem _;have ev:x=.str (aH f[i].1):=by
   rw[getElem?_map] at hx;unfold nS at hx;rw[List.getElem?_zipWith,hfi,hai] at hx;exact (Option.some.inj hx).symm
  subst ev;have ha:=hD.v i _ _ hai hfi;have ha1:H1 as[i]=some (.lst (f[i].2.map V.int)):=hS _ _ (k2 _ _ (λe=>by rw[e,hD.d] at ha;cases ha) ha);walk_at "";refine qJ (v:=.ref as[i]) (.inl ⟨nS f as,Sum.inr (aH f[i].1),.inr ⟨o,hS _ _ f2⟩,rfl,(mI nn hfi hai).symm⟩) ?_;walk_at "";refine ⟨as[i],_,rfl,ha1,?_⟩;walk_at "";refine ⟨by show 2<=sizeLine;decide,λr nr=>?_⟩;exact fin (.ref r) _ (aE nr _) ⟨r,f[i],rfl,(aB hod nr).symm,hfi,aA⟩
 ·obtain ⟨qs,rfl⟩:=sG ys λy hy=>by
   obtain ⟨i,hi⟩:=getElem?_of_mem hy;obtain ⟨r,_,e1,_⟩:=hr i y hi;exact ⟨r,e1⟩
  rw[length_map,length_map,mH hal] at hl2;have hq1:∀(i:Nat) (a:Addr) (p:bF),qs[i]?=some a->f[i]?=some p->H1 a=some (.tup [.str (aH p.1),.int p.2.sum]):=λi a p h1 h2=>by
   obtain ⟨r',p',e1,_,e3,e4⟩:=hr i (.ref a) (by rw[getElem?_map,h1];rfl);cases e1;rw[h2] at e3;cases e3;exact e4
  refine ⟨D,qs,rfl,hO,λr hrm=>?_,λr rs hp hu nr=>?_⟩
  ·obtain ⟨i,hi⟩:=getElem?_of_mem hrm;obtain ⟨r',p,e1,_,_,e4⟩:=hr i (.ref r) (by rw[getElem?_map,hi];rfl);cases e1;exact ⟨_,_,e4⟩
  ·have s3:=aE nr (.lst (rs.map V.ref));have t1:QA H1 rs f:=SQ hl2 hq1 hp hu;refine q r rs _ ((s2.trans hS).trans s3) (none_of (s2.trans hS) nr) aA ?_;obtain ⟨g,g1,g2,g3,g4⟩:=t1;exact ⟨g,g1,g2,λi a p x y=>s3 _ _ (g3 i a p x y),g4⟩
theorem BS {H:Hp} {a:Addr} {ws:List Str} {c L:Nat} {n:Int} (pl:Pl K H a ws c n) (l1:1<=L):(bJ (bW ws c L)).Nodup:=(fE pl.ru l1 (qP pl.ru pl.c1 pl.c2 pl.gr) 300).nd
theorem FR:TT (hJ K) (wQ K) ["rule","start","length","ahead"]:=by
 intro vs H Q E h;unfold wQ;rcases h with ⟨a,ws,c,L,rfl,l1,l4,pl,q,g⟩|⟨a,ws,c,L,rfl,l1,bd⟩
 ·walk_at "";refine .inl ⟨a,ws,c,L,rfl,l1,l4,pl,λhle d as H1 s1 nd nas hD=>?_,g⟩;have e:=BS pl l1;revert hle hD q e;generalize bW ws c L=f;intro q hle hD e;walk_at "";exact Fm s1 nd e hle hD (q hle)
 ·walk_at "";exact .inr ⟨a,ws,c,L,rfl,l1,bd⟩
noncomputable def iG (K:Fg):Sp:=λvs H Q _=>∃(n:Int) (m:Nat),vs=[.int n,.int (m:Nat)]/\0<=n/\1<=m/\m<=4/\∀(L:Nat) (H':Hp),aC H H'->1<=L->L<=[20,8,5,4].getD (m - 1) 0->Q (.int (L:Nat)) H'
noncomputable def kF (K:Fg):List (SX K):=
 [ret (bin .Add (cst (.int 1)) (bin .Mod (var 0) (ix (lst [cst (.int 20),cst (.int 8),cst (.int 5),cst (.int 4)]) (bin .Sub (var 1) (cst (.int 1))))))]
theorem rT:TT (iG K) (kF K) ["_law_number","_law_many"]:=by
 intro vs H Q E h;obtain ⟨n,m,rfl,n0,m1,m4,q⟩:=h;unfold kF;walk_at "";refine ⟨by show 4<=sizeLine;decide,λl nl=>?_⟩;have s1:=aE nl (.lst [V.int 20,.int 8,.int 5,.int 4]);walk_at "";obtain ⟨d,hd,e1,d1⟩:∃d:Nat,kL [V.int 20,.int 8,.int 5,.int 4] (((m:Nat):Int) - 1)=some (.int (d:Nat))/\d=[20,8,5,4].getD (m - 1) 0/\1<=d:=by
  have:m=1\/m=2\/m=3\/m=4:=by lia
  rcases this with rfl|rfl|rfl|rfl
  ·exact ⟨20,rfl,rfl,by decide⟩
  ·exact ⟨8,rfl,rfl,by decide⟩
  ·exact ⟨5,rfl,rfl,by decide⟩
  ·exact ⟨4,rfl,rfl,by decide⟩
 refine fU (aM.of aA) hd ?_;refine RH (by lia) ?_;walk_at "";have a1:=emod_nonneg n (show ((d:Nat):Int)≠0 by lia);have a2:=emod_lt_of_pos n (show 0<((d:Nat):Int) by lia);obtain ⟨L,hL⟩:∃L:Nat,1+n % ((d:Nat):Int)=(L:Int):=⟨(1+n % ((d:Nat):Int)).toNat,by lia⟩;rw[hL];exact q L _ s1 (by lia) (by rw[<-e1];lia)
noncomputable def eB (K:Fg):Sp:=λvs H Q _=>∃(r:Addr) (rs:List Addr) (f:List bF) (L m:Nat),vs=[.ref r,.int (L:Nat),.int (m:Nat)]/\H r=some (.lst (rs.map V.ref))/\QA H rs f/\1<=f.length/\f.length<=300/\(bJ f).Nodup/\L<=400/\m<=4/\(∀p∈f,p.1.length=L/\(∀c∈p.1,97<=c/\c<97+m)/\0<=p.2.sum)/\∀H',aC H H'->Q (.bl true) H'
noncomputable def RX (K:Fg):List (SX K):=
 [setC 4 (wK none (ix (var 0) (cst (.int 0))) (fX 0) (iU (var 0)) ["_law_pair"] [] []),
  ret (Ia (var 4) (Aa (var 4)))]
noncomputable def eZ (K:Fg):List (SX K):=
 tS (Bb (pF (YS (var 0) FI)) [cmp .Eq (var 0) (lst [])]) [ret (cst (.bl false))] []::
  gQ (fX 3) (iU (var 0)) [tS (Bb (pF (YS (var 3) zS)) [cmp .NotEq (len (var 3)) (cst (.int 2)),pF (YS (ix (var 3) (cst (.int 0))) QG),pF (call "_law_whole" (jH K) [ix (var 3) (cst (.int 1))])]) [ret (cst (.bl false))] [],
   tS (Bb (cmp .NotEq (len (ix (var 3) (cst (.int 0)))) (var 1)) [cmp .Lt (ix (var 3) (cst (.int 1))) (cst (.int 0)),cmp .NotEq (m_strip (ix (var 3) (cst (.int 0))) (xC (cst (.str "abcd")) none (some (var 2)))) (cst (.str ""))]) [ret (cst (.bl false))] []]::RX K
theorem kM:TT (eB K) (eZ K) ["_law_found","_law_length_here","_law_many","_law_pair","_law_names"]:=by
 intro vs H Q E h;obtain ⟨r,rs,f,L,m,rfl,hr,hT,f1,f3,nd,L4,m4,hf,q⟩:=h;obtain ⟨g,gp,gl,gt,gs⟩:=hT;have gf:g.length=f.length:=gp.length_eq;have hg:∀p∈g,p.1.length=L/\(∀c∈p.1,97<=c/\c<97+m)/\0<=p.2.sum:=λp hp=>hf p (gp.mem_iff.mp hp);have hrl:(rs.map V.ref).length=g.length:=by rw[length_map,gl]
 unfold eZ;walk_at "";refine ⟨_,_,fP.lst hr,Br,?_⟩;walk_at "";refine oP ?_;walk_at "";refine ⟨zero_le _,λe0 n0=>?_⟩;have s0:=aE n0 (.lst []);refine RF (s0 _ _ hr) aA (by rw[hrl];show g.length≠0;lia) ?_;refine oP ?_;have hr1:=s0 _ _ hr;have gt1:∀(i:Nat) (a:Addr) (p:bF),rs[i]?=some a->g[i]?=some p->(upd H e0 (.lst [])) a=some (.tup [.str (aH p.1),.int p.2.sum]):=λi a p x y=>s0 _ _ (gt i a p x y);revert s0 hr1 gt1;generalize upd H e0 (.lst [])=H1;intro s0 hr1 gt1;walk_at "";refine jX (aM.of hr1) ?_;refine nO (aM.of hr1) (λ_ σ=>∃b3,σ=[some (.ref r),some (.int (L:Nat)),some (.int (m:Nat)),b3,none]) ⟨none,rfl⟩ (λi x σ H2 hx ⟨b3,e⟩ s2=>?_) λσ H2 ⟨b3,e⟩ s2=>?_
 ·subst e;rw[getElem?_map] at hx;cases ex:rs[i]? with
  |none=>rw[ex] at hx;cases hx
  |some a=>
   rw[ex] at hx;cases hx;have hi:i<g.length:=by
    have:=(List.getElem?_eq_some_iff.mp ex).1;lia
   have hgi:g[i]?=some g[i]:=List.getElem?_eq_getElem hi;have ha:=s2 _ _ (gt1 i a _ ex hgi);obtain ⟨p1,p2,p3⟩:=hg g[i] (getElem_mem hi);have hsq:bX K H2 a [.str (aH g[i].1),.int g[i].2.sum]:=bX.of ha;refine AZ ?_;walk_at "";refine ⟨_,_,fP.tup ha,Gg,?_⟩;walk_at "";refine oP ?_;walk_at "";refine oP ?_;walk_at "";refine gO (v:=.str (aH g[i].1)) hsq rfl ?_;walk_at "";refine ⟨_,_,fP.str _,Gh,?_⟩;walk_at "";refine oP ?_;walk_at "";refine gO (v:=.int g[i].2.sum) hsq rfl ?_;walk_at "";refine ⟨_,rfl,?_⟩;walk_at "";refine oP ?_;walk_at "";refine gO (v:=.str (aH g[i].1)) hsq rfl ?_;walk_at "";refine gN (small (by rw[bK,p1];lia)) ?_;walk_at "";rw[bK,p1,decide_eq_true rfl];refine oP ?_;walk_at "";refine gO (v:=.int g[i].2.sum) hsq rfl ?_;walk_at "";rw[decide_eq_false (show ¬g[i].2.sum<0 by lia)];refine oP ?_;walk_at "";refine OQ ?_;walk_at "";refine gO (v:=.str (aH g[i].1)) hsq rfl ?_;walk_at "";refine fT (by rw[show (Str.ofString "abcd").length=4 by decide+kernel];exact small (by decide)) ?_;walk_at "";refine ⟨small (by rw[bK,p1];lia),?_⟩;have es:Txt.stripChars (aH g[i].1) (Txt.slice (Str.ofString "abcd") none (some ((m:Nat):Int)))=⟨#[]⟩:=CI λd hd=>by
    rw[aW] at hd;have:=p2 d hd;rw[show ls (Txt.slice (Str.ofString "abcd") none (some ((m:Nat):Int)))=(ls (Str.ofString "abcd")).take ((m:Nat):Int).toNat from cF (by lia),show ls (Str.ofString "abcd")=[97,98,99,100] by decide+kernel,toNat_natCast];have hm:m=0\/m=1\/m=2\/m=3\/m=4:=by lia
    have hd2:d=97\/d=98\/d=99\/d=100:=by lia
    rcases hm with rfl|rfl|rfl|rfl|rfl<;>rcases hd2 with rfl|rfl|rfl|rfl<;>first|decide|lia
   rw[es];walk_at "";rw[decide_eq_true (show (⟨#[]⟩:Str)=Str.ofString "" by decide+kernel)];refine oP ?_;walk_at "";exact ⟨⟨_,rfl⟩,s2⟩
 ·subst e;have gt2:∀(i:Nat) (a:Addr) (p:bF),rs[i]?=some a->g[i]?=some p->H2 a=some (.tup [.str (aH p.1),.int p.2.sum]):=λi a p x y=>s2 _ _ (gt1 i a p x y);have hr2:=s2 _ _ hr1;unfold RX;walk_at "";refine jX (aM.of hr2) ?_;intro D nD;refine eV (dB (xs:=rs.map V.ref)) (λi=>V.str (aH (g.getD i ([],[])).1)) nD (λH3 h3=>aM.of (h3 _ _ hr2)) (by rw[hrl];exact small (by lia)) (λi x H3 Q' hx h3 fin=>?_) λH3 h3 hO=>?_
  ·rw[getElem?_map] at hx;cases ex:rs[i]? with
   |none=>rw[ex] at hx;cases hx
   |some a=>
    rw[ex] at hx;cases hx;have hi:i<g.length:=by
     have:=(List.getElem?_eq_some_iff.mp ex).1;lia
    have hgi:g[i]?=some g[i]:=List.getElem?_eq_getElem hi;have ha:=h3 _ _ (gt2 i a _ ex hgi);walk_at "";refine gO (v:=.str (aH g[i].1)) (bX.of ha) rfl ?_;have e:(g.getD i ([],[]))=g[i]:=by rw[getD_eq_getElem?_getD,hgi];rfl
    rw[<-e];exact fin H3 (aC.refl _)
  ·have hO2:H3 D=some (.lst ((g.map λp=>aH p.1).map V.str)):=by
    rw[hO,hrl]
    congr 2
    refine ext_getElem? λi=>?_;by_cases hi:i<g.length
    ·rw[getElem?_map,getElem?_range hi,getElem?_map,getElem?_map,List.getElem?_eq_getElem hi];show some (V.str (aH (g.getD i ([],[])).1))=some (V.str (aH g[i].1));rw[getD_eq_getElem?_getD,List.getElem?_eq_getElem hi];rfl
    ·rw[List.getElem?_eq_none (by rw[length_map,length_range];lia),List.getElem?_eq_none (by rw[length_map,length_map];lia)]
   walk_at "";refine Dc ?_;walk_at "";refine VZ ?_;walk_at "";refine ⟨D,g.map λp=>aH p.1,rfl,hO2,by rw[length_map];lia,λD2 ss H4 s4 n2 hm hn hs h4=>?_⟩;have nd2:(g.map λp=>aH p.1).Nodup:=by
    have h1:(bJ g).Nodup:=by
     unfold bJ at nd ⊢;exact ((gp.map (λp:bF=>p.1)).nodup_iff).mpr nd
    have e:(g.map λp=>aH p.1)=(bJ g).map aH:=by unfold bJ;rw[map_map];rfl
    rw[e];exact Pairwise.map aH (λa b h e=>h (by have:=congrArg ls e;rwa [aW,aW] at this)) h1
   have rg:Eh (g.map λp=>aH p.1):=by
    refine pairwise_map.mpr (gs.imp λ{a b} h=>?_);unfold So.LX at h;dsimp only at h;by_cases e:aH b.1=aH a.1
    ·rw[e];exact List.lt_irrefl _
    ·rw[if_neg e] at h;exact of_decide_eq_false h
   have es:=uV hn nd2 hm (xX hs) rg;rw[es] at h4;refine ⟨D,D2,_,_,λ_=>true,rfl,rfl,.inl ⟨s4 _ _ hO2,h4⟩,rfl,λi x y hx hy=>?_,?_⟩
   ·rw[hx] at hy;cases hy;obtain ⟨z,_,rfl⟩:=mem_map.mp (mem_of_getElem? hx);exact .inl (.inr (.inl ⟨z,z,rfl,rfl,by simp⟩))
   ·rw[show (range ((g.map λp=>aH p.1).map V.str).length).all (λ_=>true)=true from all_eq_true.mpr λ_ _=>rfl];exact q H4 (((s0.trans s2).trans h3).trans s4)
noncomputable def el (p:List Str × Nat):EX K:=lst [tup (p.1.map λw=>cst (.str w)),cst (.int (p.2:Nat))]
noncomputable def Fw (H:Hp) (p:List Str × Nat) (l:Addr):Prop:=∃t,H l=some (.lst [.ref t,.int (p.2:Nat)])/\H t=some (.tup (p.1.map V.str))
theorem Fw.same {H H':Hp} {p:List Str × Nat} {l:Addr} (h:Fw H p l) (e:aC H H'):Fw H' p l:=by
 obtain ⟨t,a,b⟩:=h;exact ⟨t,e _ _ a,e _ _ b⟩
theorem BR {E:XS} {σ:St} {H:Hp}:∀{ws:List Str} {Q:List V->Hp->Prop},Q (ws.map V.str) H->fB (ws.map λw=>(cst (.str w):EX K)) E σ H Q
 |[],_,h=>h
 |w::ws,Q,h=>by
  show fB (ws.map λw=>(cst (.str w):EX K)) E σ H λxs H1=>Q (.str w::xs) H1;exact BR (ws:=ws) h
theorem Gz {E:XS} {σ:St} {H:Hp} {p:List Str × Nat} {Q:VK} (hp:p.1.length<=4) (q:∀l H',aC H H'->Fw H' p l->Q (.ref l) H'):(el p:EX K).t E σ H Q:=by
 unfold el;refine JD ?_;show (tup (p.1.map λw=>cst (.str w)):EX K).t E σ H λx H1=>(cst (.int (p.2:Nat)):EX K).t E σ H1 λy H2=>_;refine RG (BR ⟨small (by rw[length_map];lia),λt nt=>?_⟩);show 2<=sizeLine/\_;refine ⟨small (by decide),λl nl=>?_⟩;refine q l _ ((aE nt _).trans (aE nl _)) ⟨t,aA,?_⟩;rw[aF (aB aA nl)];exact aA
theorem LK {E:XS} {σ:St}:∀{ps:List (List Str × Nat)} {H:Hp} {Q:List V->Hp->Prop},(∀p∈ps,p.1.length<=4)->(∀(ls:List Addr) (H':Hp),aC H H'->ls.length=ps.length->(∀(i:Nat) (l:Addr) (p:List Str × Nat),ls[i]?=some l->ps[i]?=some p->Fw H' p l)->Q (ls.map V.ref) H')->fB (ps.map (el (K:=K))) E σ H Q
 |[],H,_,_,h=>h [] H (aC.refl _) rfl λi l p hl=>by cases hl
 |p::ps,H,Q,hp,h=>by
  show (el p:EX K).t E σ H λx H1=>fB (ps.map (el (K:=K))) E σ H1 λxs H2=>Q (x::xs) H2;refine Gz (hp p mem_cons_self) λl H1 s1 f1=>?_;refine LK (ps:=ps) (λq hq=>hp q (mem_cons_of_mem _ hq)) λls H2 s2 hl hf=>?_;refine h (l::ls) H2 (s1.trans s2) (by rw[length_cons,length_cons,hl]) λi a q ha hq=>?_;cases i with
  |zero=>
   cases ha;cases hq;exact f1.same s2
  |succ i=>exact hf i a q ha hq
structure ZC (H:Hp) (ps:List (List Str × Nat)) (l:Addr) (ls:List Addr):Prop where
 l:H l=some (.lst (ls.map V.ref))
 n:ls.length=ps.length
 f:∀(i:Nat) (a:Addr) (p:List Str × Nat),ls[i]?=some a->ps[i]?=some p->Fw H p a
theorem ZC.same {H H':Hp} {ps:List (List Str × Nat)} {l:Addr} {ls:List Addr} (h:ZC H ps l ls) (e:aC H H'):ZC H' ps l ls:=⟨e _ _ h.l,h.n,λi a p x y=>(h.f i a p x y).same e⟩
theorem RK {E:XS} {σ:St} {H:Hp} {ps:List (List Str × Nat)} {Q:VK} (hp:∀p∈ps,p.1.length<=4) (hn:ps.length<=12) (q:∀(l:Addr) (ls:List Addr) (H':Hp),aC H H'->ZC H' ps l ls->Q (.ref l) H'):(lst (ps.map (el (K:=K)))).t E σ H Q:=by
 refine JD (LK hp λls H1 s1 hl hf=>⟨small (by rw[length_map];lia),λl nl=>?_⟩);have s2:=aE nl (.lst (ls.map V.ref));exact q l ls _ (s1.trans s2) ⟨aA,hl,λi a p x y=>(hf i a p x y).same s2⟩
theorem yY {E:XS} {σ:St} {H:Hp} {ps qs:List (List Str × Nat)} {l:Addr} {ls:List Addr} {k:Nat} {Q:VK} (hσ:σ[k]?=some (some (.ref l))) (h0:ZC H ps l ls) (hp:∀p∈qs,p.1.length<=4) (hn:ps.length+qs.length<=12) (q:∀(l:Addr) (ls:List Addr) (H':Hp),aC H H'->ZC H' (ps++qs) l ls->Q (.ref l) H'):(bin .Add (var k) (lst (qs.map (el (K:=K))))).t E σ H Q:=by
 refine RM ?_;refine AW hσ ?_;refine RK hp (by lia) λl2 ls2 H1 s1 f1=>?_;have f0:=h0.same s1;refine yZ f0.l f1.l (small (by rw[length_map,length_map,f0.n,f1.n];lia)) λr nr=>?_;have s2:=aE nr (.lst (ls.map V.ref++ls2.map V.ref));refine q r (ls++ls2) _ (s1.trans s2) ⟨by rw[aA,map_append],by rw[length_append,length_append,f0.n,f1.n],λi a p x y=>?_⟩;by_cases hi:i<ls.length
 ·rw[getElem?_append_left hi] at x;rw[getElem?_append_left (by have:=f0.n;lia)] at y;exact (f0.f i a p x y).same s2
 ·rw[getElem?_append_right (by lia)] at x;rw[getElem?_append_right (by have:=f0.n;lia),<-f0.n] at y;exact (f1.f _ a p x y).same s2
noncomputable def mY (K:Fg):Sp:=λvs H Q _=>∃n:Int,vs=[.int n]/\0<=n/\∀(l:Addr) (i:Nat) (p:List Str × Nat) (H':Hp),aC H H'->FW[i]?=some p->Fw H' p l->Q (.ref l) H'
noncomputable def rD (K:Fg):List (SX K):=
 [set 1 (lst [lst [tup [cst (.str "ab"),cst (.str "a")],cst (.int 20)],lst [tup [cst (.str "ab"),cst (.str "ba")],cst (.int 20)],lst [tup [cst (.str "aab"),cst (.str "ab")],cst (.int 20)],lst [tup [cst (.str "abc"),cst (.str "ac"),cst (.str "b")],cst (.int 9)]]),
  set 1 (bin .Add (var 1) (lst [lst [tup [cst (.str "abb"),cst (.str "ab")],cst (.int 20)],lst [tup [cst (.str "abc"),cst (.str "bca"),cst (.str "cab")],cst (.int 20)],lst [tup [cst (.str "ab"),cst (.str "cd"),cst (.str "ad"),cst (.str "cb")],cst (.int 12)]])),
  set 1 (bin .Add (var 1) (lst [lst [tup [cst (.str "abab"),cst (.str "a")],cst (.int 20)],lst [tup [cst (.str "ab"),cst (.str "c"),cst (.str "a")],cst (.int 20)]])),
  set 1 (bin .Add (var 1) (lst [lst [tup [cst (.str "ab"),cst (.str "ca"),cst (.str "cd"),cst (.str "ac")],cst (.int 12)],lst [tup [cst (.str "aba"),cst (.str "b")],cst (.int 20)],lst [tup [cst (.str "ab"),cst (.str "b")],cst (.int 20)]])),
  ret (ix (var 1) (bin .Mod (var 0) (cst (.int 12))))]
noncomputable abbrev F1:List (List Str × Nat):=[(R0,20),(R1,20),(R2,20),(R3,9)]
noncomputable abbrev F2:List (List Str × Nat):=[(R4,20),(R5,20),(R6,12)]
noncomputable abbrev F3:List (List Str × Nat):=[(R7,20),(R8,20)]
noncomputable abbrev F4:List (List Str × Nat):=[(R9,12),(Ey,20),(Ex,20)]
noncomputable def RV (K:Fg):List (SX K):=[set 1 (lst (F1.map el)),set 1 (bin .Add (var 1) (lst (F2.map el))),set 1 (bin .Add (var 1) (lst (F3.map el))),set 1 (bin .Add (var 1) (lst (F4.map el))),ret (ix (var 1) (bin .Mod (var 0) (cst (.int 12))))]
theorem XD:rD K=RV K:=rfl
theorem CF:TT (mY K) (rD K) ["_law_number","_law_some"]:=by
 intro vs H Q E h;obtain ⟨n,rfl,n0,q⟩:=h;rw[XD];unfold RV
 (with_reducible refine lL ?_)
 refine qI ?_;refine RK (ps:=F1) (by decide) (by decide) λl1 ls1 H1 s1 f1=>?_
 (with_reducible refine lL ?_)
 refine qI ?_;refine yY (ps:=F1) (qs:=F2) rfl f1 (by decide) (by decide) λl2 ls2 H2 s2 f2=>?_
 (with_reducible refine lL ?_)
 refine qI ?_;refine yY (ps:=F1++F2) (qs:=F3) rfl f2 (by decide) (by decide) λl3 ls3 H3 s3 f3=>?_
 (with_reducible refine lL ?_)
 refine qI ?_;refine yY (ps:=F1++F2++F3) (qs:=F4) rfl f3 (by decide) (by decide) λl4 ls4 H4 s4 f4=>?_;have fl:(F1++F2++F3++F4)=FW:=rfl;rw[fl] at f4;walk_at "";have m0:=emod_nonneg n (show (12:Int)≠0 by decide);have m1:=emod_lt_of_pos n (show (0:Int)<12 by decide);obtain ⟨i,hi⟩:∃i:Nat,n % 12=(i:Int):=⟨(n % 12).toNat,by lia⟩;have hl:ls4.length=12:=f4.n;have hx:ls4[i]?=some (ls4[i]'(by lia)):=List.getElem?_eq_getElem _;have hy:FW[i]?=some (FW[i]'(by show i<12;lia)):=List.getElem?_eq_getElem _;refine fU (aM.of f4.l) (v:=.ref (ls4[i]'(by lia))) (by rw[hi];exact cH (by rw[getElem?_map,hx];rfl)) ?_;exact q _ i _ H4 (((s1.trans s2).trans s3).trans s4) hy (f4.f i _ _ hx hy)
structure KF (K:Fg):Prop where
 n_NoStart:PySem.W.nsIn K mainGlobals "NoStart"=some (some (.ref (clsAt K "NoStart")))
 n_TooGreat:PySem.W.nsIn K mainGlobals "TooGreat"=some (some (.ref (clsAt K "TooGreat")))
 ini:YJ K "TooGreat" "self" "most" "most"
 e_NoStart:YK K "NoStart"
theorem QA.same {H H':Hp} {rs:List Addr} {f:List bF} (h:QA H rs f) (e:∀a y,H a=some (.tup y)->H' a=some (.tup y)):QA H' rs f:=by
 obtain ⟨g,g1,g2,g3,g4⟩:=h;exact ⟨g,g1,g2,λi a p x y=>e _ _ (g3 i a p x y),g4⟩
structure Lw (K:Fg) (H:Hp) (a:Addr) (ws:List Str) (c L:Nat):Prop where
 rl:Rl K H a ws 100
 c1:97<=c
 c2:c - 97<ws.length
 gr:aJ ws c=true
 l1:1<=L
 l20:L<=20
 few:(bW ws c L).length<=300
theorem Lw.same {H H':Hp} {a:Addr} {ws:List Str} {c L:Nat} (h:Lw K H a ws c L) (e:aC H H'):Lw K H' a ws c L:=⟨h.rl.same e,h.c1,h.c2,h.gr,h.l1,h.l20,h.few⟩
theorem Lw.pl {H:Hp} {a:Addr} {ws:List Str} {c L:Nat} (h:Lw K H a ws c L) {n m:Nat} (hm:m<=400) (hn:n+L<=(wk ws c m).length):Pl K H a ws c ((n+L - 1:Nat):Int):=by
 have e:=dJ h.rl.ru h.c1 h.c2 m;have l1:=h.l1;exact ⟨h.rl.rt,h.rl.ru,h.c1,h.c2,h.gr,by lia,m,hm,by lia⟩
theorem Lw.pl0 {H:Hp} {a:Addr} {ws:List Str} {c L:Nat} (h:Lw K H a ws c L):Pl K H a ws c ((0+L - 1:Nat):Int):=by
 have e:=dJ h.rl.ru h.c1 h.c2 L;have b:=dZ h.rl.ru h.c1 h.c2 h.gr L;have:=h.l20;exact h.pl (m:=L) (by lia) (by lia)
theorem Lw.nd {H:Hp} {a:Addr} {ws:List Str} {c L:Nat} (h:Lw K H a ws c L):(bJ (bW ws c L)).Nodup:=BS h.pl0 h.l1
theorem Lw.pc {H:Hp} {a:Addr} {ws:List Str} {c L:Nat} (h:Lw K H a ws c L):∀p∈bW ws c L,∃n:Nat,p.1=str ws c n L/\p.2.sum=(n:Int)/\n+L<=(wk ws c (L+300)).length:=λp hp=>
 NI h.rl.ru h.c1 h.c2 h.gr (mU h.rl.ru h.l1 h.c1 h.c2 h.gr 300 p hp)
theorem Lw.pc2 {H:Hp} {a:Addr} {ws:List Str} {c L:Nat} (h:Lw K H a ws c L):∀p∈bW ws c L,p.1.length=L/\(∀d∈p.1,97<=d/\d<97+ws.length)/\0<=p.2.sum:=λp hp=>by
 obtain ⟨n,e1,e2,e3⟩:=h.pc p hp;refine ⟨by rw[e1,str_len],λd hd=>?_,by lia⟩;rw[e1] at hd;have:=L2.Na.fD h.rl.ru h.c1 h.c2 h.gr e3 d hd;lia
theorem Lw.first {H:Hp} {a:Addr} {ws:List Str} {c L:Nat} (_:Lw K H a ws c L):(str ws c 0 L,replicate ws.length (0:Int))∈bW ws c L:=by
 obtain ⟨t,e⟩:=dF ws (f0 ws c L) 0 300;rw[zero_add] at e;unfold bW;rw[e];exact mem_append.mpr (.inl mem_cons_self)
theorem Lw.one {H:Hp} {a:Addr} {ws:List Str} {c L:Nat} (h:Lw K H a ws c L):1<=(bW ws c L).length:=List.length_pos_of_mem h.first
theorem Lw.ask {H:Hp} {a:Addr} {ws:List Str} {c L:Nat} {Q:VK} {E:XK} (h:Lw K H a ws c L) (q:∀(r:Addr) (rs:List Addr) (H':Hp),aC H H'->H r=none->H' r=some (.lst (rs.map V.ref))->QA H' rs (bW ws c L)->Q (.ref r) H'):hJ K [.ref a,sgn c,.int (L:Nat)] H Q E:=
 .inl ⟨a,ws,c,L,rfl,h.l1,Nat.le_trans h.l20 (by decide),h.pl0,λ_=>q,λhg=>absurd h.few (Nat.not_le.mpr hg)⟩
end L2.Na.K31
namespace L2.Na.K32
open PySem PySem.Spec PyProof.Rows L2 L2.L3 L2.Na.Pr L2.Na.K41
noncomputable def LY (v:bF->V) (f:List bF):List (Key × V):=f.map λp=>(Sum.inr (aH p.1),v p)
theorem vP {v:bF->V}:∀{f:List bF} {x:List Nat},x∉bJ f->cU (LY v f) (Sum.inr (aH x))=none
 |[],x,_=>rfl
 |p::f,x,h=>by
  have h1:¬(Sum.inr (aH p.1):Key)=Sum.inr (aH x):=λe=>h (by
   have:=mE (Sum.inr.inj e)
   rw[<-this]
   exact mem_cons_self)
  show cU ((Sum.inr (aH p.1),v p)::LY v f) _=none;rw[dM h1];exact vP λz=>h (mem_cons_of_mem _ z)
theorem AR {v:bF->V}:∀{f:List bF} {p:bF},(bJ f).Nodup->p∈f->cU (LY v f) (Sum.inr (aH p.1))=some (v p)
 |[],p,_,h=>nomatch h
 |q::f,p,nd,h=>by
  have nd':(q.1::bJ f).Nodup:=nd;obtain ⟨n1,n2⟩:=nodup_cons.mp nd';show cU ((Sum.inr (aH q.1),v q)::LY v f) _=_;rcases mem_cons.mp h with rfl|h
  ·exact fZ rfl
  ·have ne:¬(Sum.inr (aH q.1):Key)=Sum.inr (aH p.1):=λe=>n1 (by
    rw[mE (Sum.inr.inj e)]
    exact mem_map.mpr ⟨p,h,rfl⟩)
   rw[dM ne];exact AR n2 h
theorem OF {v:bF->V} {f:List bF} {p:bF} (h:p.1∉bJ f):putK (LY v f) (Sum.inr (aH p.1)) (v p)=LY v (f++[p]):=by
 unfold putK;rw[if_neg (by rw[jA,vP h];simp)];unfold LY;rw[map_append];rfl
theorem OG {v:bF->V} (f:List bF):(LY v f).length=f.length:=length_map _
theorem NX {g:List bF} (nd:(bJ g).Nodup) {i:Nat} {p:bF} (h:g[i]?=some p):p.1∉bJ (g.take i):=by
 intro hm;obtain ⟨hi,e⟩:=List.getElem?_eq_some_iff.mp h;have e2:bJ g=bJ (g.take i)++bJ (g.drop i):=by rw[<-fK,take_append_drop]
 rw[e2] at nd;refine (pairwise_append.mp nd).2.2 _ hm p.1 ?_ rfl;rw[List.drop_eq_getElem_cons hi,e];exact mem_cons_self
theorem take_one {g:List bF} {i:Nat} {p:bF} (h:g[i]?=some p):g.take (i+1)=g.take i++[p]:=by
 rw[take_add_one,h];rfl
theorem VC {c:Nat} (h1:97<=c) (h2:c<101):∃r,Builtin.Str.occurrences (Str.ofString "abcd") ⟨#[c]⟩ 0 (Str.ofString "abcd").length 1=(c - 97)::r:=nL h1 h2
variable {K:Fg}
noncomputable def iH (K:Fg):Sp:=λvs H Q _=>∃(r a:Addr) (ws:List Str) (g:List bF) (L:Nat),vs=[.ref r,.ref a,.int (L:Nat)]/\Rl K H a ws 100/\H r=some (.lst (g.map λp=>V.str (aH p.1)))/\g.length<=300/\(bJ g).Nodup/\1<=L/\L<=400/\
 (∀p∈g,p.1.length=L/\cI ws p.1)/\(∀x∈bJ g,∀y∈fW ws x,y∈bJ g)/\∀H',aC H H'->Q (.bl true) H'
noncomputable def LH (K:Fg):List (SX K):=
 [gQ (fX 4) (iU (var 0)) [set 5 (call "_law_image" (fF K) [var 1,var 4]),
   gQ (fX 6) (nZ (len (ix (var 1) (mF (cst (.str "abcd")) (ix (var 4) (cst (.int 0)))))) []) [tS (VD (xC (var 5) (some (var 6)) (some (bin .Add (var 6) (var 2)))) (var 3)) [ret (cst (.bl false))] []]],
  ret (cst (.bl true))]
noncomputable def kG (K:Fg):List (SX K):=
 set 3 Hi::
  gQ (fX 4) (iU (var 0)) [put (var 3) (var 4) (cst (.bl true))]::LH K
theorem Dm {g:List bF} {i:Nat} {x:V} (h:(g.map λp=>V.str (aH p.1))[i]?=some x):∃p,g[i]?=some p/\x=.str (aH p.1):=by
 rw[getElem?_map] at h;cases e:g[i]? with
 |none=>rw[e] at h;cases h
 |some p=>
  rw[e] at h;exact ⟨p,rfl,(Option.some.inj h).symm⟩
theorem ZP {H H1:Hp} {Q:VK} {E:XK} {r a d:Addr} {ws:List Str} {g:List bF} {L:Nat} {v4:Option V} (s1:aC H H1) (hR:Rl K H1 a ws 100) (hr:H1 r=some (.lst (g.map λp=>V.str (aH p.1)))) (hd:H1 d=some (.dK (LY (λ_=>.bl true) g))) (nd:(bJ g).Nodup) (l1:1<=L) (l4:L<=400)
  (hg:∀p∈g,p.1.length=L/\cI ws p.1) (hc:∀x∈bJ g,∀y∈fW ws x,y∈bJ g) (q:∀H',aC H H'->Q (.bl true) H'):
  jD (LH K) (λ_=>E) {nx:=λ_ H'=>Q .non H',rt:=Q} [some (.ref r),some (.ref a),some (.int (L:Nat)),some (.ref d),v4,none,none] H1:=by
 unfold LH;walk_at "";refine jX (aM.of hr) ?_;refine nO (aM.of hr) (λ_ σ=>∃b4 b5 b6,σ=[some (.ref r),some (.ref a),some (.int (L:Nat)),some (.ref d),b4,b5,b6]) ⟨_,_,_,rfl⟩ (λi x σ H2 hx ⟨b4,b5,b6,e⟩ s2=>?_) λσ H2 ⟨b4,b5,b6,e⟩ s2=>?_
 ·subst e;obtain ⟨p,hp,rfl⟩:=Dm hx;have hpm:=mem_of_getElem? hp;obtain ⟨pl,pw⟩:=hg p hpm;have hR2:=hR.same s2;have hU:=hR.ru;have hil:=iB hU (l:=p.1);refine AZ ?_;walk_at "";refine ⟨a,ws,aH p.1,rfl,hR2,pw.isW,by rw[bK];lia,λH3 s3=>?_⟩;have hR3:=hR2.same s3;walk_at "";obtain ⟨c,l,ex⟩:∃c l,p.1=c::l:=by
   cases h:p.1 with
   |nil=>rw[h] at pl;simp at pl;lia
   |cons c l=>exact ⟨c,l,rfl⟩
  have hcl:=pw c (by rw[ex];exact mem_cons_self);have hc4:=hR.four;obtain ⟨ro,hro⟩:=VC hcl.1 (by lia);obtain ⟨w,hw,ew,hwm⟩:=hU.word hcl.2;refine jW (k:=c) (by rw[bK];exact small (by lia)) (by
   show kL (ls (aH p.1)) ((0:Nat):Int)=some c
   rw[aW,ex]
   exact cH rfl) ?_
  walk_at "";refine nY hro ?_;refine gO (v:=.str w) hR3.sq (cH (by rw[getElem?_map,hw];rfl)) ?_;have wl:=hU.le w hwm;refine gN (small (by lia)) ?_;walk_at "";have hwd:(wd ws (p.1.headD 0)).length=w.length:=by
   rw[ex];show (wd ws c).length=_;rw[ew,aN]
  refine DE (λ_ σ=>∃b6,σ=[some (.ref r),some (.ref a),some (.int (L:Nat)),some (.ref d),some (.str (aH p.1)),some (.str (img ws (aH p.1))),b6]) ⟨_,rfl⟩ (λj σ H4 hj ⟨b6,e⟩ s4=>?_) λσ H4 ⟨b6,e⟩ s4=>?_
  ·subst e;rw[toNat_natCast] at hj;have e0:(0:Int)+((j:Nat):Int)=((j:Nat):Int):=by lia
   rw[e0];have hj':j<(wd ws (p.1.headD 0)).length:=by lia
   have plen:=gH hU pw (by lia) hj';rw[length_take,length_drop,pl] at plen;walk_at "";refine IP ?_;walk_at "";refine fT (small (by rw[cW,bK,aW];lia)) ?_;rw[cW,aW,nA (by rw[bK];lia),aW];walk_at "";have hd4:=s4 _ _ (s3 _ _ (s2 _ _ hd));have hin:((aK ws p.1).drop j).take L∈bJ g:=hc p.1 (mem_map.mpr ⟨p,hpm,rfl⟩) _ (by
    unfold fW
    exact mem_map.mpr ⟨j,mem_range.mpr hj',by rw[pl]⟩)
   obtain ⟨q',hq',eq'⟩:=mem_map.mp hin;refine ⟨d,_,rfl,eN.k (k:=Sum.inr (aH (((aK ws p.1).drop j).take L))) hd4,?_⟩;have ev:=AR (v:=λ_=>V.bl true) nd hq';rw[eq'] at ev;rw[ev];refine ⟨false,rfl,?_⟩;refine oP ?_;walk_at "";exact ⟨⟨_,rfl⟩,s4⟩
  ·subst e;exact ⟨⟨_,_,_,rfl⟩,(s2.trans s3).trans s4⟩
 ·subst e;walk_at "";exact q H2 (s1.trans s2)
theorem rV:TT (iH K) (kG K) ["_law_names","_law_rule","_law_length_here","_law_told","_law_name","_law_below","_law_step"]:=by
 intro vs H Q E h;obtain ⟨r,a,ws,g,L,rfl,hR,hr,g3,nd,l1,l4,hg,hc,q⟩:=h;unfold kG;walk_at "";intro d ndd;have s0:=aE ndd (.dK []);walk_at "";refine jX (aM.of (s0 _ _ hr)) ?_;refine sV (dB (xs:=g.map λp=>V.str (aH p.1))) (λi σ H'=>aC H H'/\H' d=some (.dK (LY (λ_=>.bl true) (g.take i)))/\∃b4,σ=[some (.ref r),some (.ref a),some (.int (L:Nat)),some (.ref d),b4,none,none])
  ⟨s0,aA,none,rfl⟩ (λi σ H' _ hP=>aM.of (hP.1 _ _ hr)) (λi x σ H' hx hP=>?_) λσ H' hP=>?_
 ·obtain ⟨sH,hd,b4,rfl⟩:=hP;obtain ⟨p,hp,rfl⟩:=Dm hx;walk_at "";refine vV ?_;walk_at "";refine .inr ⟨d,_,rfl,EN.k (k:=.inr (aH p.1)) hd (by rw[OG,length_take];exact Nat.lt_of_lt_of_le (show min i g.length<5000 by lia) (small (by decide))),?_⟩;walk_at "";refine ⟨bQ sH ndd,?_,_,rfl⟩;rw[aA,OF (v:=λ_=>V.bl true) (NX nd hp),take_one hp]
 ·obtain ⟨sH,hd,b4,rfl⟩:=hP;rw[length_map,List.take_length] at hd;exact ZP sH (hR.same sH) (sH _ _ hr) hd nd l1 l4 hg hc q
theorem LN:(Str.ofString "abcd").length<=sizeLine:=by rw[show (Str.ofString "abcd").length=4 from dW];decide
theorem WJ {E:XS} {σ:St} {H:Hp} {Q:VK} {o i j:EX K} {z:Str} {hz:z.length<=sizeLine} {ho:o.s≠.zc} (h:o.t E σ H λx H1=>(∃w:Str,x=.str w)/\i.t E σ H1 λy1 H2=>(∃a c,y1=.int a/\kL z.cps.toList a=some c)/\j.t E σ H2 λy2 H3=>QV z x y1 y2 H3 Q):(ID o z hz i j ho).t E σ H Q:=h
noncomputable def Ho (n s k:Nat) (w v:Str):Prop:=gX n v/\v.length=w.length/\(k=s->v=w)
structure Ra (ws us:List Str) (i s:Nat):Prop where
 n:us.length=i
 w:∀(k:Nat) (v w:Str),us[k]?=some v->ws[k]?=some w->Ho ws.length s k w v
theorem Ra.snoc {ws us:List Str} {i s:Nat} {w v:Str} (h:Ra ws us i s) (hw:ws[i]?=some w) (hv:Ho ws.length s i w v):Ra ws (us++[v]) (i+1) s:=by
 refine ⟨by rw[length_append,h.n];rfl,λk v' w' h1 h2=>?_⟩;by_cases hk:k<us.length
 ·rw[getElem?_append_left hk] at h1;exact h.w k v' w' h1 h2
 ·rw[getElem?_append_right (by lia)] at h1;have hk2:k=i:=by
   have:=(List.getElem?_eq_some_iff.mp h1).1;have:=h.n;simp at *;lia
  subst hk2;rw[hw] at h2;cases h2;rw[h.n,sub_self] at h1;cases h1;exact hv
theorem Ra.get {ws us:List Str} {s:Nat} (h:Ra ws us ws.length s) {v:Str} (hv:v∈us):∃w∈ws,gX ws.length v/\v.length=w.length:=by
 obtain ⟨k,hk⟩:=getElem?_of_mem hv;have hl:k<ws.length:=by
  have:=(List.getElem?_eq_some_iff.mp hk).1;have:=h.n;lia
 obtain ⟨a,b,_⟩:=h.w k v _ hk (List.getElem?_eq_getElem hl);exact ⟨ws[k],getElem_mem hl,a,b⟩
theorem Ra.rl {H H':Hp} {a p:Addr} {ws us:List Str} {s:Nat} (h:Ra ws us ws.length s) (hR:Rl K H a ws 100) (hp:H' p=some (.tup (us.map V.str))):Rl K H' p us 100:=by
 refine ⟨hp,by have:=hR.pos;have:=h.n;lia,by have:=hR.four;have:=h.n;lia,λv hv=>?_,λv hv=>?_,λv hv=>?_⟩
 ·obtain ⟨w,hw,e1,e2⟩:=h.get hv;rw[h.n];exact e1
 ·obtain ⟨w,hw,e1,e2⟩:=h.get hv;rw[e2];exact hR.one w hw
 ·obtain ⟨w,hw,e1,e2⟩:=h.get hv;rw[e2];exact hR.le w hw
theorem Ra.gr {ws us:List Str} {s:Nat} (h:Ra ws us ws.length s) (hs:s<ws.length) (hg:aJ ws (97+s)=true):aJ us (97+s)=true:=by
 have hs2:s<us.length:=by have:=h.n;lia
 obtain ⟨_,_,e⟩:=h.w s us[s] ws[s] (List.getElem?_eq_getElem hs2) (List.getElem?_eq_getElem hs);have e:=e rfl;unfold aJ at hg ⊢;rw[Nat.add_sub_cancel_left,List.getElem?_eq_getElem hs] at hg;rw[Nat.add_sub_cancel_left,List.getElem?_eq_getElem hs2,e];exact hg
noncomputable def lH (K:Fg):Sp:=λvs H Q _=>∃(a:Addr) (ws:List Str) (s:Nat),vs=[.ref a,.int (s:Nat)]/\Rl K H a ws 100/\s<ws.length/\∀(p:Addr) (us:List Str) (H':Hp),aC H H'->H' p=some (.tup (us.map V.str))->Ra ws us ws.length s->Q (.ref p) H'
noncomputable def oU (K:Fg):List (SX K):=
 [set 2 (lst []),
  gQ (fX 3) (nZ (len (var 0)) []) [ex (bS (var 2) (ix (var 0) (var 3))),
   tS (zM (cmp .NotEq (var 3) (var 1)) [cmp .Gt (len (var 0)) (cst (.int 2))]) [put (var 2) (var 3) (ID (ix (var 0) (var 3)) "abcd" LN (var 1) (var 3))] []],
  ret (xN (var 2))]
theorem xQ:TT (lH K) (oU K) ["_law_rule","_law_start","_law_words","_law_k"]:=by
 intro vs H Q E h;obtain ⟨a,ws,s,rfl,hR,hs,q⟩:=h;have hwl:(ws.map V.str).length=ws.length:=length_map _;have h4:=hR.four;unfold oU;walk_at "";refine ⟨zero_le _,λp hp=>?_⟩;have s0:=aE hp (.lst []);walk_at "";refine nX (bX.of (s0 _ _ hR.tp)) ?_;rw[hwl];walk_at "";refine cV (λi σ H'=>aC H H'/\∃(us:List Str) (b3:Option V),Ra ws us i s/\H' p=some (.lst (us.map V.str))/\σ=[some (.ref a),some (.int (s:Nat)),some (.ref p),b3]) ⟨s0,[],none,⟨rfl,λk v w hv=>by cases hv⟩,aA,rfl⟩ (λi σ H' hi hP=>?_) λσ H' hP=>?_
 ·obtain ⟨sH,us,b3,hW,hpl,rfl⟩:=hP;have hwi:i<ws.length:=by lia
  have hw:ws[i]?=some ws[i]:=List.getElem?_eq_getElem hwi;have hwm:ws[i]∈ws:=getElem_mem hwi;have tp:=sH _ _ hR.tp;have e0:(0:Int)+((i:Nat):Int)=((i:Nat):Int):=by lia
  rw[e0];walk_at "";refine vW (aM.of hpl) ?_;walk_at "";refine gO (v:=.str ws[i]) (bX.of tp) (cH (by rw[getElem?_map,hw];rfl)) ?_;walk_at "";refine cO hpl (by rw[length_map,hW.n];exact Nat.lt_of_lt_of_le (show i<100 by lia) (small (by decide))) ?_;have hp2:(upd H' p (.lst (us.map V.str++[V.str ws[i]]))) p=some (.lst ((us++[ws[i]]).map V.str)):=by rw[aA,map_append];rfl
  have s2:aC H (upd H' p (.lst (us.map V.str++[V.str ws[i]]))):=bQ sH hp;revert hp2 s2;generalize upd H' p (.lst (us.map V.str++[V.str ws[i]]))=H2;intro hp2 s2;have tp2:=s2 _ _ hR.tp;walk_at "";have same:Ho ws.length s i ws[i] ws[i]:=⟨hR.isw _ hwm,rfl,λ_=>rfl⟩;have fin:aC H H2/\∃(us':List Str) (b3:Option V),Ra ws us' (i+1) s/\H2 p=some (.lst (us'.map V.str))/\[some (V.ref a),some (.int (s:Nat)),some (.ref p),some (.int (i:Nat))]=[some (.ref a),some (.int (s:Nat)),some (.ref p),b3]:=⟨s2,_,_,hW.snoc hw same,hp2,rfl⟩;by_cases hc:i=s
  ·rw[decide_eq_true (show ((i:Nat):Int)=((s:Nat):Int) by lia)];refine oP ?_;refine oP ?_;walk_at "";exact fin
  ·rw[decide_eq_false (show ¬((i:Nat):Int)=((s:Nat):Int) by lia)];refine XQ ?_;walk_at "";refine nX (bX.of tp2) ?_;rw[hwl];walk_at "";refine lC (λ_=>?_) λ_=>?_
   ·walk_at "";refine vV ?_;refine WJ ?_;walk_at "";refine gO (v:=.str ws[i]) (bX.of tp2) (cH (by rw[getElem?_map,hw];rfl)) ?_;refine ⟨⟨_,rfl⟩,?_⟩;walk_at "";have a1:=fO (r:=((s:Nat):Int)) (m:=4) (by lia) (by lia) (by lia);rw[toNat_natCast] at a1;refine ⟨⟨_,_,rfl,a1⟩,?_⟩;walk_at "";have a2:=fO (r:=((i:Nat):Int)) (m:=4) (by lia) (by lia) (by lia);rw[toNat_natCast] at a2;refine ⟨ws[i],_,_,97+s,97+i,rfl,rfl,rfl,a1,a2,by lia,by have:=hR.le _ hwm;lia,?_⟩;walk_at "";refine yX hp2 (by rw[length_map,length_append,hW.n];exact lt_succ_self _) ?_;walk_at "";have e:=yS ws[i] (97+s) (97+i);have el:(Txt.replace ws[i] ⟨#[97+s]⟩ ⟨#[97+i]⟩).length=ws[i].length:=by rw[<-aN,e,length_map,aN]
    refine ⟨bQ s2 hp,us++[Txt.replace ws[i] ⟨#[97+s]⟩ ⟨#[97+i]⟩],_,hW.snoc hw ⟨λc hcm=>?_,el,λz=>absurd z hc⟩,?_,rfl⟩
    ·rw[e] at hcm;obtain ⟨b,hb',rfl⟩:=mem_map.mp hcm;by_cases z:b=97+s
     ·rw[if_pos z];lia
     ·rw[if_neg z];exact hR.isw _ hwm b hb'
    ·rw[aA,<-List.map_set,List.set_append_right _ _ (by rw[hW.n];exact Nat.le_refl _),hW.n,sub_self];rfl
   ·walk_at "";exact fin
 ·obtain ⟨sH,us,b3,hW,hpl,rfl⟩:=hP;walk_at "";refine .inl ⟨_,aM.of hpl,λt ht=>?_⟩;have hW':Ra ws us ws.length s:=hW;exact q t us _ (sH.trans (aE ht _)) aA hW'
open L2.Na.K31 L2.Na.K25
theorem vT {ws:List Str} (hU:Ru ws) (h2:∀w∈ws,2<=w.length):∀{l:List Nat},cI ws l->2 * l.length<=(aK ws l).length
 |[],_=>zero_le _
 |c::l,h=>by
  have ih:=vT hU h2 (l:=l) λd hd=>h d (mem_cons_of_mem _ hd);obtain ⟨w,hw,e,hm⟩:=hU.word (h c mem_cons_self).2;have:=h2 w hm;rw[aS,length_append,length_cons,e,aN];lia
theorem EZ {ws:List Str} (hU:Ru ws) {c:Nat} (h1:97<=c) (h2:c - 97<ws.length) (hw:∀w∈ws,2<=w.length):∀k,2 ^ k<=(wk ws c k).length
 |0=>Nat.le_refl _
 |k+1=>by
  have ih:=EZ hU h1 h2 hw k;have:=vT hU hw (dH hU h1 h2 k);show _<=(aK ws (wk ws c k)).length;rw[Nat.pow_succ];lia
theorem vS {g:List bF} {x:List Nat} (h:x∈bJ g):YT (.str (aH x)) (g.map λp=>V.str (aH p.1))=true:=by
 obtain ⟨p,hp,rfl⟩:=mem_map.mp h;unfold YT;refine List.any_eq_true.mpr ⟨_,mem_map.mpr ⟨p,hp,rfl⟩,?_⟩;show decide (aH p.1=aH p.1)=true;exact decide_eq_true rfl
theorem oC (g:List bF):(g.map λp=>V.str (aH p.1)).all gR=true:=by
 refine all_eq_true.mpr λv hv=>?_;obtain ⟨p,_,rfl⟩:=mem_map.mp hv;rfl
theorem Dr.ne {H:Hp} {d a:Addr} {xs:List V} (h:Dr H d) (ha:H a=some (.tup xs)):a≠d:=by
 rintro rfl;obtain ⟨ys,e,_⟩:=h;rw[ha] at e;cases e
theorem tN {H H':Hp} {d a:Addr} {ws:List Str} {m:Nat} (h:Rl K H a ws m) (e:Off d H H') (n:a≠d):Rl K H' a ws m:=⟨e _ _ n h.tp,h.pos,h.four,h.isw,h.one,h.le⟩
theorem YI {H H':Hp} {d a:Addr} {ws:List Str} {c L:Nat} (h:Lw K H a ws c L) (e:Off d H H') (n:a≠d):Lw K H' a ws c L:=⟨tN h.rl e n,h.c1,h.c2,h.gr,h.l1,h.l20,h.few⟩
noncomputable def rY (K:Fg):Sp:=λvs H Q _=>∃(a:Addr) (ns:List Int),vs=[.ref a]/\aM K H a (ns.map V.int)/\ns.length<=63/\∀H',Q (.bl true) H'
noncomputable def LC (K:Fg):List (SX K):=
 gQ (fX 10) (nZ (cst (.int 9)) []) [set 11 (call "_law_place" (jI K) [var 1,bin .Pow (cst (.int 10)) (cst (.int 12))]),
   tS (zM (cmp .Eq (var 4) (cst (.int 2))) [cmp .NotIn (call "stretch_at" (Pr.bL K) [var 5,ix (cst (.str "abcd")) (var 3),var 11,var 6]) (var 9)]) [ret (cst (.bl false))] []]::
  [ret (cst (.bl true))]
noncomputable def LD (K:Fg):List (SX K):=
 tS (Bb (cmp .NotIn (call "_law_written" (gB K) [var 5,ix (cst (.str "abcd")) (var 3),var 6]) (var 9)) [pF (call "_law_closed" (iH K) [var 9,var 5,var 6])]) [ret (cst (.bl false))] []::LC K
noncomputable def LF (K:Fg):List (SX K):=
 set 8 (call "pieces" (hJ K) [var 5,ix (cst (.str "abcd")) (var 3),var 6])::
  tS (pF (call "_law_are_pieces" (eB K) [var 8,var 6,var 2])) [ret (cst (.bl false))] []::
  setC 9 (wK none (ix (var 0) (cst (.int 0))) (fX 0) (iU (var 8)) ["_law_pair"] [] [])::LD K
noncomputable def LG (K:Fg):List (SX K):=
 set 6 (call "_law_length" (iG K) [call "_law_next" (aV K) [var 1],var 2])::
  tS (cmp .Eq (bin .Mod (call "_law_next" (aV K) [var 1]) (cst (.int 4))) (cst (.int 0))) [Ae (ZJ [5,7]) (call "_law_few" (mY K) [call "_law_next" (aV K) [var 1]]),
   set 2 (len (var 5)),
   set 3 (cst (.int 0)),
   set 4 (Bn (comp (len (var 0)) (fX 0) (iU (var 5)) ["_law_word_here"] [] [])),
   set 6 (bin .Add (cst (.int 1)) (bin .Mod (call "_law_next" (aV K) [var 1]) (var 7)))] []::LF K
noncomputable def wR (K:Fg):List (SX K):=
 set 1 (call "_law_draws" (jJ K) [var 0])::
  set 2 (bin .Add (cst (.int 1)) (bin .Mod (call "_law_next" (aV K) [var 1]) (cst (.int 4))))::
  set 3 (bin .Mod (call "_law_next" (aV K) [var 1]) (var 2))::
  set 4 (bin .Add (cst (.int 1)) (bin .Mod (call "_law_next" (aV K) [var 1]) (cst (.int 2))))::
  set 5 (call "_law_growing" (K25.gC K) [var 1,var 2,var 3,var 4,cst (.int 6)])::
  tS (cmp .Eq (bin .Mod (call "_law_next" (aV K) [var 1]) (cst (.int 3))) (cst (.int 0))) [set 5 (call "_law_rare" (lH K) [var 5,var 3])] []::LG K
theorem Bq:∀vs H Q E,rY K vs H Q E->vs.length=1:=by
 rintro vs H Q E ⟨_,_,rfl,_⟩;rfl
section
variable {Q:VK} {E:XK} {a d:Addr} {ws:List Str} {s L:Nat} {lo:Int} {v0 v2 v7 v8:Option V}
theorem ZN {H:Hp} {r:Addr} {g:List bF} (h:Lw K H a ws (97+s) L) (hd:Dr H d) (had:a≠d) (hrd:r≠d) (hlo:lo=2->∀w∈ws,2<=w.length) (hr:H r=some (.lst (g.map λp=>V.str (aH p.1)))) (hg:∀n,str ws (97+s) n L∈bJ g) (q:∀H',Q (.bl true) H'):
  jD (LC K) (λ_=>E) {nx:=λ_ H'=>Q .non H',rt:=Q} [v0,some (.ref d),v2,some (.int (s:Nat)),some (.int lo),some (.ref a),some (.int (L:Nat)),v7,v8,some (.ref r),none,none] H:=by
 have s4:=h.rl.four;have sl:=h.c2;unfold LC;walk_at "";refine cV (λ_ σ H'=>Off d H H'/\Dr H' d/\∃b10 b11,σ=[v0,some (.ref d),v2,some (.int (s:Nat)),some (.int lo),some (.ref a),some (.int (L:Nat)),v7,v8,some (.ref r),b10,b11]) ⟨Off.refl _ _,hd,none,none,rfl⟩ (λi σ H1 hi hP=>?_) λσ H1 hP=>?_
 ·obtain ⟨o1,d1,b10,b11,rfl⟩:=hP;walk_at "";refine Cm ⟨by decide,by decide,by decide⟩ ?_;walk_at "";refine ⟨d,_,rfl,d1,by decide,λn H2 o2 d2 hn=>?_⟩;have o02:=Off.trans' o1 o2;walk_at "";have fin:∀H3,aC H2 H3->Off d H H3/\Dr H3 d/\∃b10' b11',[v0,some (.ref d),v2,some (.int (s:Nat)),some (.int lo),some (.ref a),some (.int (L:Nat)),v7,v8,some (.ref r),some (.int (0+(i:Nat))),some (.int (n:Nat))]=[v0,some (.ref d),v2,some (.int (s:Nat)),some (.int lo),some (.ref a),some (.int (L:Nat)),v7,v8,some (.ref r),b10',b11']:=λH3 s3=>⟨Off.trans' o02 (aC.off s3),d2.same s3,_,_,rfl⟩;refine lC (λhc=>?_) λhc=>?_
  ·walk_at "";refine jW (by rw[dW];decide) (fO (m:=4) (by lia) (by lia) (by lia)) ?_;rw[toNat_natCast];walk_at "";have h2:=YI h o02 had;have w50:=EZ h.rl.ru h.c1 h.c2 (hlo hc) 50;refine .inl ⟨a,ws,97+s,n,L,rfl,h2.pl (m:=50) (by decide) (by
    have e50:(2:Nat) ^ 50=1125899906842624:=by decide
    have e12:(10:Int) ^ (12:Int).toNat=1000000000000:=by decide
    have:=h.l20
    lia),h.l1,by have:=h.l20;lia,λH3 s3=>?_⟩
   have hr3:=s3 _ _ (o02 _ _ hrd hr);walk_at "";refine sY (aM.of hr3) rfl (oC g) ?_;rw[vS (hg n)];refine oP ?_;walk_at "";exact fin H3 s3
  ·refine oP ?_;walk_at "";exact fin H2 (aC.refl _)
 ·obtain ⟨o1,d1,b10,b11,rfl⟩:=hP;walk_at "";exact q H1
theorem QI {H:Hp} (h:Lw K H a ws (97+s) L) (hd:Dr H d) (hlo:lo=2->∀w∈ws,2<=w.length) (q:∀H',Q (.bl true) H'):
  jD (LF K) (λ_=>E) {nx:=λ_ H'=>Q .non H',rt:=Q} [v0,some (.ref d),some (.int (ws.length:Nat)),some (.int (s:Nat)),some (.int lo),some (.ref a),some (.int (L:Nat)),v7,none,none,none,none] H:=by
 have s4:=h.rl.four;have sl:=h.c2;have had:a≠d:=Dr.ne hd h.rl.tp;unfold LF;walk_at "";refine jW (by rw[dW];decide) (fO (m:=4) (by lia) (by lia) (by lia)) ?_;rw[toNat_natCast];walk_at "";refine Lw.ask h λr rs H1 s1 nr hr tl=>?_;have h1:=h.same s1;walk_at "";refine ⟨r,rs,bW ws (97+s) L,L,ws.length,rfl,hr,tl,h.one,h.few,h.nd,by have:=h.l20;lia,h.rl.four,h.pc2,λH2 s2=>?_⟩;have h2:=h1.same s2;have hr2:=s2 _ _ hr;obtain ⟨g,gp,gl,gt,gs⟩:=tl.same λb y e=>s2 _ _ e;have hmem:∀{x},x∈bJ g↔x∈bJ (bW ws (97+s) L):=(gp.map (λp:bF=>p.1)).mem_iff;have hgn:∀n,str ws (97+s) n L∈bJ g:=λn=>hmem.mpr (LL h.rl.ru h.l1 h.c1 h.c2 h.gr h.few n);have hgc:∀x∈bJ g,∀y∈fW ws x,y∈bJ g:=λx hx y hy=>hmem.mpr (oW h.few (hmem.mp hx) hy);have hgl:g.length<=300:=by rw[gp.length_eq];exact h.few
 have hgd:(bJ g).Nodup:=((gp.map (λp:bF=>p.1)).nodup_iff).mpr h.nd;have hgp:∀p∈g,p.1.length=L/\cI ws p.1:=λp hp=>by
  obtain ⟨x1,x2,_⟩:=h.pc2 p (gp.mem_iff.mp hp);exact ⟨x1,λc hc=>by have:=x2 c hc;lia⟩
 clear hmem gs gp tl;have hrl:(rs.map V.ref).length=g.length:=by rw[length_map,gl]
 walk_at "";refine oP ?_;walk_at "";refine jX (aM.of hr2) ?_;intro D nD;refine eV (dB (xs:=rs.map V.ref)) (λi=>V.str (aH (g.getD i ([],[])).1)) nD (λH3 h3=>aM.of (h3 _ _ hr2)) (by rw[hrl];exact small (by lia)) (λi x H3 Q' hx h3 fin=>?_) λH3 h3 hO=>?_
 ·rw[getElem?_map] at hx;cases ex:rs[i]? with
  |none=>rw[ex] at hx;cases hx
  |some a'=>
   rw[ex] at hx;cases hx;have hi:i<g.length:=by
    have:=(List.getElem?_eq_some_iff.mp ex).1;lia
   have hgi:g[i]?=some g[i]:=List.getElem?_eq_getElem hi;have ha:=h3 _ _ (gt i a' _ ex hgi);walk_at "";refine gO (v:=.str (aH g[i].1)) (bX.of ha) rfl ?_;have e:(g.getD i ([],[]))=g[i]:=by rw[getD_eq_getElem?_getD,hgi];rfl
   rw[<-e];exact fin H3 (aC.refl _)
 ·have hO2:H3 D=some (.lst (g.map λp=>V.str (aH p.1))):=by
   rw[hO,hrl]
   congr 2
   refine ext_getElem? λi=>?_;by_cases hi:i<g.length
   ·rw[getElem?_map,getElem?_range hi,getElem?_map,List.getElem?_eq_getElem hi];show some (V.str (aH (g.getD i ([],[])).1))=some (V.str (aH g[i].1));rw[getD_eq_getElem?_getD,List.getElem?_eq_getElem hi];rfl
   ·rw[List.getElem?_eq_none (by rw[length_map,length_range];lia),List.getElem?_eq_none (by rw[length_map];lia)]
  have s03:aC H H3:=(s1.trans s2).trans h3;have hL3:=h.same s03;have hd3:=hd.same s03;have nD0:H D=none:=none_of (s1.trans s2) nD;walk_at "";unfold LD;walk_at "";refine jW (by rw[dW];decide) (fO (m:=4) (by lia) (by lia) (by lia)) ?_;rw[toNat_natCast];walk_at "";refine ⟨a,ws,97+s,L,rfl,hL3.rl,h.c1,h.c2,h.gr,by have:=h.l20;lia,λH4 s4'=>?_⟩;have hO4:=s4' _ _ hO2;walk_at "";refine sY (aM.of hO4) rfl (oC g) ?_;rw[vS (hgn 0)];refine oP ?_;walk_at "";refine ⟨D,a,ws,g,L,rfl,(hL3.same s4').rl,hO4,hgl,hgd,h.l1,by have:=h.l20;lia,hgp,hgc,λH5 s5=>?_⟩;walk_at "";refine oP ?_;walk_at "";have hDd:D≠d:=by
   obtain ⟨xs,e,_⟩:=hd;exact (aB e nD0).symm
  exact ZN ((hL3.same s4').same s5) ((hd3.same s4').same s5) had hDd hlo (s5 _ _ hO4) hgn q
theorem QJ {H:Hp} {m:Nat} (m1:1<=m) (m4:m<=4) (hR:Rl K H a ws 100) (hl:ws.length=m) (sm:s<m) (hg:aJ ws (97+s)=true) (hd:Dr H d) (hlo:lo=2->∀w∈ws,2<=w.length) (q:∀H',Q (.bl true) H'):
  jD (LG K) (λ_=>E) {nx:=λ_ H'=>Q .non H',rt:=Q} [v0,some (.ref d),some (.int (m:Nat)),some (.int (s:Nat)),some (.int lo),some (.ref a),none,none,none,none,none,none] H:=by
 have had:a≠d:=Dr.ne hd hR.tp;unfold LG;walk_at "";refine ⟨d,rfl,hd,λv1 H1 o1 d1 v1a v1b=>?_⟩;have hR1:=tN hR o1 had;walk_at "";refine ⟨_,m,rfl,v1a,m1,m4,λL H2 s2 L1 Lm=>?_⟩;have hR2:=hR1.same s2;have d2:=d1.same s2;have L20:L<=20:=by
  have:m=1\/m=2\/m=3\/m=4:=by lia
  rcases this with rfl|rfl|rfl|rfl
  ·exact Lm
  ·exact Nat.le_trans Lm (by decide)
  ·exact Nat.le_trans Lm (by decide)
  ·exact Nat.le_trans Lm (by decide)
 walk_at "";refine ⟨d,rfl,d2,λv3 H3 o3 d3 v3a v3b=>?_⟩;have hR3:=tN hR2 o3 had;walk_at "";refine lC (λhc=>?_) λhc=>?_
 ·walk_at "";refine WC ?_;walk_at "";refine ⟨d,rfl,d3,λv4 H4 o4 d4 v4a v4b=>?_⟩;walk_at "";refine ⟨_,rfl,v4a,λl i pr H5 s5 hi fw=>?_⟩;obtain ⟨fx,M1,M20⟩:=XA hi;obtain ⟨t,hl5,ht5⟩:=fw;have d5:=d4.same s5;refine ON (aM.of hl5) ?_;walk_at "";refine nX (bX.of ht5) ?_;walk_at "";refine WL ?_;walk_at "";refine RJ (bX.of ht5) ?_;intro D nD;have hp4:=fx.ru.four;refine KI (λy=>V.int ((strOf y).length:Nat)) (bX.of ht5) nD (small (by rw[length_map];lia)) (λi y H6 Q' hy s6 fin=>?_) λH6 s6 hO=>?_
  ·obtain ⟨w,hw,rfl⟩:=MM hy;walk_at "";refine gN (small (by have:=fx.ru.le w (mem_of_getElem? hw);lia)) ?_;exact fin H6 (aC.refl _)
  ·have hO2:H6 D=some (.lst ((pr.1.map λw=>((w.length:Nat):Int)).map V.int)):=by
    rw[hO,map_map,map_map];rfl
   refine ⟨_,hO2,λe=>by
    have e1:=congrArg length e
    rw[length_map] at e1
    have e2:=fx.ru.pos
    have e3:([]:List Int).length=0:=rfl
    lia,λmn _ hmn=>?_⟩
   have d6:=d5.same s6;walk_at "";refine ⟨d,rfl,d6,λv7 H7 o7 d7 v7a v7b=>?_⟩;walk_at "";have k0:=emod_nonneg v7 (show ((pr.2:Nat):Int)≠0 by lia);have k1:=emod_lt_of_pos v7 (show (0:Int)<((pr.2:Nat):Int) by lia);obtain ⟨L',hL'⟩:∃L':Nat,1+v7 % ((pr.2:Nat):Int)=(L':Int):=⟨(1+v7 % ((pr.2:Nat):Int)).toNat,by lia⟩;rw[hL',length_map];have ht7:=o7 _ _ (Dr.ne d6 (s6 _ _ ht5)) (s6 _ _ ht5);have hLw:Lw K H7 t pr.1 97 L':=⟨⟨ht7,fx.ru.pos,fx.ru.four,fx.ru.isw,fx.ru.one,fx.ru.le⟩,by decide,fx.c2,fx.gr,by lia,by lia,JR fx.ru (by lia) (by lia) (by decide) fx.c2 fx.gr fx.few⟩;refine QI (s:=0) hLw d7 (λe w hw=>?_) q;have:=hmn ((w.length:Nat):Int) (mem_map.mpr ⟨w,hw,rfl⟩);lia
 ·walk_at "";have hL:Lw K H3 a ws (97+s) L:=⟨hR3,by lia,by lia,hg,L1,L20,Nat.le_trans (OZ hR.ru L1 (by lia) (by lia) hg) (by rw[hl];exact NG m1 m4 Lm)⟩;rw[<-hl];exact QI hL d3 hlo q
end
theorem ZO (_:KF K) (vs:List V) (H:Hp) (Q:VK) (E:XK) (h:rY K vs H Q E):jD (wR K) (λ_=>E) {nx:=λ_ H'=>Q .non H',rt:=Q} (start ["_law_script","_law_drawn","_law_many","_law_start","_law_least","_law_rule","_law_length_here","_law_most","_law_found","_law_names","_law_k","_law_n"] vs) H:=by
 obtain ⟨a,ns,rfl,hS,h63,q⟩:=h;unfold wR;walk_at "";refine ⟨a,ns,rfl,hS,h63,λd H1 s1 nd d1=>?_⟩;walk_at "";refine ⟨d,rfl,d1,λv2 H2 o2 d2 v2a v2b=>?_⟩;walk_at "";obtain ⟨m,hm,m1,m4⟩:∃m:Nat,1+v2 % 4=(m:Int)/\1<=m/\m<=4:=⟨(1+v2 % 4).toNat,by lia,by lia,by lia⟩;rw[hm];refine ⟨d,rfl,d2,λv3 H3 o3 d3 v3a v3b=>?_⟩;walk_at "";have s0:=emod_nonneg v3 (show ((m:Nat):Int)≠0 by lia);have s4:=emod_lt_of_pos v3 (show (0:Int)<((m:Nat):Int) by lia);obtain ⟨s,hs⟩:∃s:Nat,v3 % ((m:Nat):Int)=(s:Int):=⟨_,(Int.toNat_of_nonneg s0).symm⟩;rw[hs] at s0 s4 ⊢;refine ⟨d,rfl,d3,λv4 H4 o4 d4 v4a v4b=>?_⟩;walk_at "";refine ⟨d,_,s,_,6,rfl,d4,by lia,by lia,s4,by lia,by lia,by decide,λp ws H5 o5 d5 hR hl hlo hg=>?_⟩;rw[toNat_natCast] at hl;have hpd:=Dr.ne d5 hR.tp;have hlo2:1+v4 % 2=2->∀w∈ws,2<=w.length:=λe w hw=>by have:=hlo w hw;lia
 walk_at "";refine ⟨d,rfl,d5,λv6 H6 o6 d6 v6a v6b=>?_⟩;have hR6:=tN hR o6 hpd;walk_at "";refine lC (λhc=>?_) λhc=>?_
 ·walk_at "";refine ⟨p,ws,s,rfl,hR6,by lia,λp2 us H7 s7 hp2 ra=>?_⟩;walk_at "";exact QJ m1 m4 (ra.rl hR6 hp2) (by rw[ra.n,hl]) (by lia) (ra.gr (by lia) hg) (d6.same s7) (λe v hv=>by
   obtain ⟨w,hw,_,e2⟩:=ra.get hv
   rw[e2]
   exact hlo2 e w hw) q
 ·walk_at "";exact QJ m1 m4 hR6 hl (by lia) hg d6 hlo2 q
theorem Af (K:Fg) (H:Hp) (a:Addr) (ns:List Int) (kf:KF K) (h:ns.length<=63) (hS:aM K H a (ns.map V.int)):rY K [.ref a] H (λv _=>v=.bl true) λ_ _ _=>False:=⟨a,ns,rfl,hS,h,λ_=>rfl⟩
end L2.Na.K32
namespace L2.Na
open PySem PySem.Spec PyProof.Rows L2 L2.L3
noncomputable def Ig (st:Stmt) (n:Nat) (N:List Str) (b:∀K:Fg,List (SX K)):Prop:=fQ N (N.take n) (aO st)/\(∀K,EO (b K) ⟨N,(aO st).names,true⟩ (bE st)=true)/\
 ∀(x y:Str) (kV doc pm:Value) (an:Option Addr) (cdv ct:Value) (us:List Value),us.length=(N.take n).length->bindArgs (PySem.W.fnOf x y (cR st) (bE st) (aO st) .none kV doc pm an cdv ct) ⟨us,[]⟩=pure ((N.take n).zip us)
theorem Jr {f:FuncData} {ps:List Str} (h:∀a:Value,bindArgs f ⟨[a],[]⟩=pure (ps.zip [a])) (us:List Value) (hl:us.length=1):bindArgs f ⟨us,[]⟩=pure (ps.zip us):=Jv (Z:=λus=>bindArgs f ⟨us,[]⟩=pure (ps.zip us)) h us hl
theorem Jq {f:FuncData} {ps:List Str} (h:∀a b:Value,bindArgs f ⟨[a,b],[]⟩=pure (ps.zip [a,b])) (us:List Value) (hl:us.length=2):bindArgs f ⟨us,[]⟩=pure (ps.zip us):=Ju (Z:=λus=>bindArgs f ⟨us,[]⟩=pure (ps.zip us)) h us hl
theorem Jp {f:FuncData} {ps:List Str} (h:∀a b c:Value,bindArgs f ⟨[a,b,c],[]⟩=pure (ps.zip [a,b,c])) (us:List Value) (hl:us.length=3):bindArgs f ⟨us,[]⟩=pure (ps.zip us):=Jt (Z:=λus=>bindArgs f ⟨us,[]⟩=pure (ps.zip us)) h us hl
theorem Jo {f:FuncData} {ps:List Str} (h:∀a b c d:Value,bindArgs f ⟨[a,b,c,d],[]⟩=pure (ps.zip [a,b,c,d])) (us:List Value) (hl:us.length=4):bindArgs f ⟨us,[]⟩=pure (ps.zip us):=by4 (Z:=λus=>bindArgs f ⟨us,[]⟩=pure (ps.zip us)) h us hl
theorem Jn {f:FuncData} {ps:List Str} (h:∀a b c d e:Value,bindArgs f ⟨[a,b,c,d,e],[]⟩=pure (ps.zip [a,b,c,d,e])) (us:List Value) (hl:us.length=5):bindArgs f ⟨us,[]⟩=pure (ps.zip us):=Js (Z:=λus=>bindArgs f ⟨us,[]⟩=pure (ps.zip us)) h us hl
section
variable {K:Fg} {P:Program} {w:World} {h base:Heap} {mg:Str->Option Value}
theorem dn (X:K.In h) (G:h.Ns mainGlobals mg) (bl:∀x∈oQ,mg x=none) (k:Nat) {x:Str} {st:Stmt} {sp:Sp} {n:Nat} {N:List Str} {b:∀K:Fg,List (SX K)} (F:FD K x st) (o:Ig st n N b) (len:∀vs H Q E,sp vs H Q E->vs.length=(N.take n).length)
  (t:∀vs H Q E,sp vs H Q E->jD (b K) (λ_=>E) {nx:=λ_ H'=>Q .non H',rt:=Q} (start N vs) H) (hq:∀A,dA k A->GU (b K) ⟨P,w,K,mg,base,A⟩):YN P w K mg base (k+1) x sp:=
 Dv F X G bl (b K) o.1 (o.2.1 K) (o.2.2 x x) len t hq
theorem YN.a {j k:Nat} {x:Str} {sp:Sp} {A:Around} (D:YN P w K mg base j x sp) (hr:dA k A) (h:j<=k:=by decide):FnAt ⟨P,w,K,mg,base,A⟩ x sp:=D.at hr h
end
end L2.Na
local macro_rules | `(tactic| walk_at "l") => `(tactic| (intro vs H Q E h; first | (obtain ⟨_, e, _⟩ := h; subst e; rfl) | (obtain ⟨_, _, e, _⟩ := h; subst e; rfl) | (obtain ⟨_, _, _, e, _⟩ := h; subst e; rfl) | (obtain ⟨_, _, _, _, e, _⟩ := h; subst e; rfl) | (obtain ⟨_, _, _, _, _, e, _⟩ := h; subst e; rfl) | (obtain ⟨_, _, _, _, _, _, e, _⟩ := h; subst e; rfl) | (obtain ⟨_, _, _, _, _, _, _, e, _⟩ := h; subst e; rfl) | (obtain ⟨_, _, _, _, _, _, _, _, e, _⟩ := h; subst e; rfl) | (obtain ⟨_, _, _, _, _, _, _, _, _, e, _⟩ := h; subst e; rfl) | (obtain ⟨_, _, _, _, _, _, _, _, _, _, e, _⟩ := h; subst e; rfl) | (obtain ⟨_, _, _, _, _, _, _, _, _, _, _, e, _⟩ := h; subst e; rfl)))
local macro_rules | `(tactic| walk_at "o") => `(tactic| (refine ⟨⟨rfl, rfl, rfl, by decide +kernel, rfl, by decide +kernel, by decide +kernel⟩, fun K => by kernel_rfl, ?_⟩; intro x y kV doc pm an cdv ct us hl; first | exact L2.Na.Jr (fun _ => by exact rfl) us hl | exact L2.Na.Jq (fun _ _ => by exact rfl) us hl | exact L2.Na.Jp (fun _ _ _ => by exact rfl) us hl | exact L2.Na.Jo (fun _ _ _ _ => by exact rfl) us hl | exact L2.Na.Jn (fun _ _ _ _ _ => by exact rfl) us hl | exact L2.Na.bz6 (fun _ _ _ _ _ _ => by exact rfl) us hl))
local macro_rules | `(tactic| walk_at "f") => `(tactic| first
 | (refine' L2.Na.Dt ?a1 ?a2 ?a3 ?a4; (case a1 => k_is); (case a2 => k_is); (case a3 => k_is); (case a4 => k_is))
 | (refine' L2.Na.WY ?a1; (case a1 => k_is))
 | (refine' L2.Na.WZ ?a1; (case a1 => k_is))
 | (refine' L2.Na.iniO_mk ?a1 ?a2 ?a3 ?a4 ?a5 ?a6 ?a7 ?a8; (case a1 => k_is); (case a2 => k_is); (case a3 => k_is); (case a4 => k_is); (case a5 => k_is); (case a6 => k_is); (case a7 => k_is); (case a8 => k_is)))
local macro_rules | `(tactic| walk_at "e") => `(tactic| first | kernel_rfl | k_is)
local macro_rules | `(tactic| walk_at "k") => `(tactic| first
 | kernel_rfl
 | k_is
 | (show PySem.W.findIn _ _ _ = _; walk_at "e")
 | exact ⟨by walk_at "e", by walk_at "e"⟩
 | (refine' L2.Na.YJ.mk ?i1 ?i2 ?i3 ?i4 ?i5; (case i1 => walk_at "e"); (case i2 => walk_at "e"); (case i3 => walk_at "e"); (case i4 => walk_at "e"); (case i5 => (refine' L2.Na.VW ?z1 ?z2 ?z3 ?z4 ?z5 ?z6 ?z7 ?z8; (case z1 => k_is); (case z2 => k_is); (case z3 => k_is); (case z4 => k_is); (case z5 => exact ⟨rfl, rfl, rfl⟩); (case z6 => exact ⟨rfl, rfl⟩); (case z7 => exact ⟨rfl, rfl, by decide⟩); (case z8 => exact fun s u v X => PySem.W.kp_binds X (fun S => by kernel_rfl)))))
 | (refine' L2.Na.XF.mk ?x1 ?x2 ?x3 ?x4 ?x5 ?x6; (case x1 => walk_at "e"); (case x2 => walk_at "e"); (case x3 => walk_at "e"); (case x4 => walk_at "e"); (case x5 => intro od; walk_at "e"); (case x6 => walk_at "e"))
 | (refine' L2.Fd.mk ?x1 ?x2 ?x3 ?x4; (case x1 => walk_at "e"); (case x2 => walk_at "e"); (case x3 => walk_at "e"); (case x4 => walk_at "e")))
local macro_rules | `(tactic| walk_at "q") => `(tactic| (intro A hr; repeat' first | exact trivial | exact L2.Na.YN.a (by assumption) hr | refine ⟨?_, ?_⟩))
namespace L2.Na.K32
open PySem PySem.Spec PyProof.Rows L2 L2.L3 L2.Na
open L2.Na.K31 (KF)
noncomputable def top (i:Nat):Stmt:=pw_neveragain_k32_whole_pieces_closed.main.body.getD i (.Pass ⟨0,0,0,0⟩)
theorem vG:Ig (top 36) 2 ["_law_rule","_law_word_here","_law_found","_law_sign"] gW:=by walk_at "o"
theorem TB:fQ ["_law_script","_law_drawn","_law_many","_law_start","_law_least","_law_rule","_law_length_here","_law_most","_law_found","_law_names","_law_k","_law_n"] ["_law_script"] (aO (top 44)):=⟨rfl,rfl,rfl,by decide+kernel,rfl,by decide+kernel,by decide+kernel⟩
theorem Bo (K:Fg):EO (wR K) ⟨["_law_script","_law_drawn","_law_many","_law_start","_law_least","_law_rule","_law_length_here","_law_most","_law_found","_law_names","_law_k","_law_n"],(aO (top 44)).names,true⟩ (bE (top 44))=true:=by kernel_rfl
theorem Ec {K:Fg} {P:Program} {w:World} {h base:Heap} {mg:Str->Option Value} (X:K.In h) (G:h.Ns mainGlobals mg) (bl:∀x∈oQ,mg x=none) (F34:FD K "_law_draws" (top 31)) (F36:FD K "_law_next" (top 32)) (F37:FD K "_law_word" (top 33)) (F13:FD K "_law_growing" (top 34)) (F20:FD K "_law_length" (top 39)) (F46:FD K "letters" (top 2)) (F50:FD K "counts" (top 4)) (F57:FD K "table" (top 5)) (F3:FD K "words_by_letter" (top 18)) (F58:FD K "grows" (top 21)) (F10:FD K "signs_behind" (top 10)) (F25:FD K "sizes_once" (top 9)) (F54:FD K "sizes" (top 7)) (F12:FD K "sizes_until" (top 24)) (F47:FD K "figures" (top 22)) (F60:FD K "put" (top 17)) (F26:FD K "stretch_at" (top 23)) (F52:FD K "added" (top 11)) (F18:FD K "counts_once" (top 8)) (F7:FD K "counts_behind" (top 6)) (F1:FD K "pieces_of_image" (top 29)) (F11:FD K "counts_ahead" (top 28)) (F48:FD K "pieces" (top 27)) (F38:FD K "_law_rare" (top 42)) (F42:FD K "_law_few" (top 43)) (F29:FD K "_law_whole" (top 38)) (F5:FD K "_law_are_pieces" (top 40)) (F33:FD K "_law_place" (top 35)) (F31:FD K "_law_image" (top 36)) (F19:FD K "_law_written" (top 37)) (F22:FD K "_law_closed" (top 41)) (k_LETTERS:GC K "LETTERS" (.str "abcd")) (k_MOST_PIECES:GC K "MOST_PIECES" (.int 300)) (k_MOST_TURNS:GC K "MOST_TURNS" (.int 400)) (kf:KF K) (A:Around) (hr:dA 9 A):GU (wR K) ⟨P,w,K,mg,base,A⟩:=by
 have d:=@dn K P w h base mg X G bl;have r_NoStart:=PySem.W.mg_of X G kf.n_NoStart;have r_TooGreat:=PySem.W.mg_of X G kf.n_TooGreat;have D35:=d 0 (n:=1) F34 (by walk_at "o") (by walk_at "l") uF (by walk_at "q");have D40:=d 0 (n:=1) F36 (by walk_at "o") (by walk_at "l") xR (by walk_at "q");have D39:=d 1 (n:=3) F37 (by walk_at "o") (by walk_at "l") L2.Na.K25.xP (by walk_at "q");have D16:=d 2 (n:=5) F13 (by walk_at "o") (by walk_at "l") L2.Na.K25.oZ (by walk_at "q");have D23:=d 0 (n:=2) F20 (by walk_at "o") (by walk_at "l") L2.Na.K31.rT (by walk_at "q");have D44:=d 0 (n:=1) F46 (by walk_at "o") (by walk_at "l") CD λA hr=>⟨⟨(vX X G k_LETTERS),tI,tI⟩,tI⟩;have D49:=d 1 (n:=2) F50 (by walk_at "o") (by walk_at "l") FT (by walk_at "q");have D55:=d 2 (n:=1) F57 (by walk_at "o") (by walk_at "l") MI (by walk_at "q");have D0:=d 1 (n:=1) F3 (by walk_at "o") (by walk_at "l") jB (by walk_at "q");have D56:=d 2 (n:=2) F58 (by walk_at "o") (by walk_at "l") MK (by walk_at "q");have D8:=d 0 (n:=2) F10 (by walk_at "o") (by walk_at "l") mQ (by walk_at "q");have D21:=d 1 (n:=2) F25 (by walk_at "o") (by walk_at "l") rR (by walk_at "q");have D59:=d 3 (n:=2) F54 (by walk_at "o") (by walk_at "l") MJ (by walk_at "q");have D17:=d 4 (n:=3) F12 (by walk_at "o") L2.Na.Pr.pI L2.Na.Pr.oX λA hr=>⟨⟨⟨D56.a hr,⟨tI,⟨tI,tI⟩⟩⟩,⟨⟨⟨r_NoStart,kf.e_NoStart⟩,⟨tI,tI⟩⟩,tI⟩,tI⟩,⟨⟨D55.a hr,⟨tI,tI⟩⟩,⟨⟨⟨D44.a hr,⟨⟨tI,tI⟩,tI⟩⟩,⟨tI,tI⟩⟩,⟨⟨⟨D59.a hr,⟨tI,⟨tI,tI⟩⟩⟩,tI⟩,⟨⟨⟨⟨⟨tI,tI⟩,tI⟩,tI⟩,⟨⟨⟨⟨tI,tI⟩,(vX X G k_MOST_TURNS)⟩,⟨⟨⟨r_TooGreat,kf.ini,_,hr⟩,(vX X G k_MOST_TURNS)⟩,tI⟩,tI⟩,⟨⟨tI,⟨⟨D21.a hr,⟨tI,⟨⟨tI,tI⟩,tI⟩⟩⟩,tI⟩⟩,tI⟩⟩⟩,⟨tI,tI⟩⟩⟩⟩⟩⟩;have D43:=d 5 (n:=3) F47 (by walk_at "o") L2.Na.Pr.DJ L2.Na.Pr.CG (by walk_at "q");have D61:=d 2 (n:=2) F60 (by walk_at "o") (by walk_at "l") ZM (by walk_at "q");have D24:=d 6 (n:=4) F26 (by walk_at "o") L2.Na.Pr.sW L2.Na.Pr.rQ (by walk_at "q");have D53:=d 0 (n:=2) F52 (by walk_at "o") (by walk_at "l") ML (by walk_at "q");have D14:=d 1 (n:=2) F18 (by walk_at "o") (by walk_at "l") pC (by walk_at "q");have D6:=d 3 (n:=3) F7 (by walk_at "o") (by walk_at "l") lT (by walk_at "q");have D2:=d 3 (n:=2) F1 (by walk_at "o") (by walk_at "l") jC (by walk_at "q");have D9:=d 7 (n:=3) F11 (by walk_at "o") L2.Na.Pr.nP L2.Na.Pr.mR λA hr=>⟨⟨D24.a hr,⟨tI,⟨tI,⟨tI,⟨tI,tI⟩⟩⟩⟩⟩,⟨⟨tI,tI⟩,⟨⟨tI,⟨⟨tI,tI⟩,⟨tI,tI⟩⟩⟩,⟨tI,⟨⟨⟨tI,⟨tI,tI⟩⟩,⟨⟨tI,tI⟩,⟨⟨D61.a hr,⟨tI,⟨⟨tI,tI,tI⟩,tI⟩⟩⟩,⟨⟨D6.a hr,⟨tI,⟨⟨tI,tI⟩,⟨tI,tI⟩⟩⟩⟩,⟨⟨⟨⟨D2.a hr,⟨tI,⟨tI,tI⟩⟩⟩,tI⟩,⟨⟨⟨tI,tI⟩,⟨⟨⟨⟨tI,tI⟩,(vX X G k_MOST_PIECES)⟩,⟨⟨⟨r_TooGreat,kf.ini,_,hr⟩,(vX X G k_MOST_PIECES)⟩,tI⟩,tI⟩,⟨⟨tI,⟨tI,tI⟩⟩,⟨⟨tI,tI,⟨D53.a hr,⟨tI,⟨⟨D49.a hr,⟨⟨tI,tI,tI⟩,⟨⟨tI,tI⟩,tI⟩⟩⟩,tI⟩⟩⟩⟩,tI⟩⟩⟩,tI⟩,tI⟩⟩,⟨⟨tI,tI⟩,tI⟩⟩⟩⟩⟩⟩,⟨tI,tI⟩⟩⟩⟩⟩⟩;have D51:=d 8 (n:=3) F48 (by walk_at "o") L2.Na.K31.IL L2.Na.K31.FR (by walk_at "q");have D41:=d 0 (n:=2) F38 (by walk_at "o") (by walk_at "l") xQ (by walk_at "q");have D45:=d 0 (n:=1) F42 (by walk_at "o") (by walk_at "l") L2.Na.K31.CF (by walk_at "q");have D30:=d 0 (n:=1) F29 (by walk_at "o") (by walk_at "l") uC (by walk_at "q");have D4:=d 1 (n:=3) F5 (by walk_at "o") (by walk_at "l") L2.Na.K31.kM (by walk_at "q");have D32:=d 1 (n:=2) F33 (by walk_at "o") (by walk_at "l") L2.Na.K25.uD (by walk_at "q");have D28:=d 0 F31 vG (by walk_at "l") uE (by walk_at "q");have D15:=d 1 (n:=3) F19 (by walk_at "o") (by walk_at "l") oY (by walk_at "q");have D27:=d 1 (n:=3) F22 (by walk_at "o") (by walk_at "l") rV (by walk_at "q");exact ⟨⟨D35.a hr,⟨tI,tI⟩⟩,⟨⟨tI,⟨⟨D40.a hr,⟨tI,tI⟩⟩,tI⟩⟩,⟨⟨⟨D40.a hr,⟨tI,tI⟩⟩,tI⟩,⟨⟨tI,⟨⟨D40.a hr,⟨tI,tI⟩⟩,tI⟩⟩,⟨⟨D16.a hr,⟨tI,⟨tI,⟨tI,⟨tI,⟨tI,tI⟩⟩⟩⟩⟩⟩,⟨⟨⟨⟨⟨D40.a hr,⟨tI,tI⟩⟩,tI⟩,tI⟩,⟨⟨D41.a hr,⟨tI,⟨tI,tI⟩⟩⟩,tI⟩,tI⟩,⟨⟨D23.a hr,⟨⟨D40.a hr,⟨tI,tI⟩⟩,⟨tI,tI⟩⟩⟩,⟨⟨⟨⟨⟨D40.a hr,⟨tI,tI⟩⟩,tI⟩,tI⟩,⟨⟨D45.a hr,⟨⟨D40.a hr,⟨tI,tI⟩⟩,tI⟩⟩,⟨⟨tI,tI⟩,⟨tI,⟨⟨⟨tI,⟨tI,tI⟩,tI⟩,tI⟩,⟨⟨tI,⟨⟨D40.a hr,⟨tI,tI⟩⟩,tI⟩⟩,tI⟩⟩⟩⟩⟩,tI⟩,⟨⟨D51.a hr,⟨tI,⟨⟨tI,tI⟩,⟨tI,tI⟩⟩⟩⟩,⟨⟨⟨D4.a hr,⟨tI,⟨tI,⟨tI,tI⟩⟩⟩⟩,⟨tI,tI⟩,tI⟩,⟨⟨tI,⟨tI,tI⟩,tI⟩,⟨⟨⟨⟨⟨D15.a hr,⟨tI,⟨⟨tI,tI⟩,⟨tI,tI⟩⟩⟩⟩,tI⟩,⟨⟨D27.a hr,⟨tI,⟨tI,⟨tI,tI⟩⟩⟩⟩,tI⟩⟩,⟨tI,tI⟩,tI⟩,⟨⟨⟨tI,tI⟩,⟨⟨D32.a hr,⟨tI,⟨⟨tI,tI⟩,tI⟩⟩⟩,⟨⟨⟨⟨tI,tI⟩,⟨⟨⟨D24.a hr,⟨tI,⟨⟨tI,tI⟩,⟨tI,⟨tI,tI⟩⟩⟩⟩⟩,tI⟩,tI⟩⟩,⟨tI,tI⟩,tI⟩,tI⟩⟩⟩,⟨tI,tI⟩⟩⟩⟩⟩⟩⟩⟩⟩⟩⟩⟩⟩⟩
end L2.Na.K32
namespace L2.Hd
open PySem PySem.Calls PyProof.Rows PySem.W
open L2 (cR bE aO)
open L2.Na.K32 (top)
theorem q0:(pw_neveragain_k32_whole_pieces_closed.main.body.length==45)=true:=by k_qdec
noncomputable def env (p:Program):Env:={scope:=p.main.scope,locals:=mainNs,globals:=mainNs,cells:=[],code:=.ref 13,frame:=some 14}
noncomputable def cd (p:Program):Code:=.body (behindTheImports p) (env p)
noncomputable abbrev p0:Pos:=⟨0,0,0,0⟩
noncomputable abbrev p1:Pos:=⟨198,0,223,15⟩
noncomputable abbrev B:List Frame:=[topFrame p0]
noncomputable def toT (s:Shared):SharedT:=⟨(s.heap.objs.toList.foldl (λ(a:BT × Nat) o=>(a.1.ins a.2 o,a.2+1)) (BT.nil,0)).1,s.heap.objs.size,s.heap.life,s.gens,s.drawn,s.toks,s.os⟩
noncomputable def prA (x:Option (Shared × Thread)):SharedT:=match x with
 |some (s,_)=>toT s
 |none=>⟨BT.nil,0,{},#[],boot_drawn,0,{}⟩
noncomputable def prS (x:Option (Flow × SharedT × Code × Pos)):SharedT:=match x with
 |some (_,s,_)=>s
 |none=>⟨BT.nil,0,{},#[],boot_drawn,0,{}⟩
noncomputable abbrev ann:Option Value:=some (.ref 6)
noncomputable def goA (tb:String->Option Builtin) (p:Program) (w:World) (os:OsState):Option (Shared × Thread):=topGo tb p w 11 ann 12 ⟨boot_heap w.params,#[],boot_drawn,boot_toks,os⟩ (topStub p)
noncomputable def goB (tb:String->Option Builtin) (p:Program) (w:World) (os:OsState):Option (Flow × SharedT × Code × Pos):=segRunT tb p w 11 ann 1 1698 (prA (goA tb p w os)) (piecesOf (behindTheImports p) (env p) (cd p) p0 B)
theorem l1:(λ(w:World) (os:OsState)=>goA treeTable pw_neveragain_k32_whole_pieces_closed w os)=λw os=>some ((prA (goA treeTable pw_neveragain_k32_whole_pieces_closed w os)).abs,Thread.mk (denote treeTable (cd pw_neveragain_k32_whole_pieces_closed)) (cd pw_neveragain_k32_whole_pieces_closed) p0 B):=by
 unfold goA;rw[PySem.W.Fast.te15667345088766844465,PySem.W.Fast.te14364793385576792824,PySem.W.Fast.te11892475500146522536,PySem.W.Fast.te9528648249320336386];kernel_rfl
theorem l2:(λ(w:World) (os:OsState)=>segRun treeTable pw_neveragain_k32_whole_pieces_closed w 11 ann 1 1 (prA (goA treeTable pw_neveragain_k32_whole_pieces_closed w os)).abs (blockOf (behindTheImports pw_neveragain_k32_whole_pieces_closed) (env pw_neveragain_k32_whole_pieces_closed) (cd pw_neveragain_k32_whole_pieces_closed) p0 B))=λw os=>some (.next,(prA (goA treeTable pw_neveragain_k32_whole_pieces_closed w os)).abs,cd pw_neveragain_k32_whole_pieces_closed,p0):=by
 unfold goA;rw[PySem.W.Fast.te15667345088766844465,PySem.W.Fast.te14364793385576792824,PySem.W.Fast.te14374325043358763698,PySem.W.Fast.te9528648249320336386];kernel_rfl
theorem l3:(λ(w:World) (os:OsState)=>goB treeTable pw_neveragain_k32_whole_pieces_closed w os)=λw os=>some (.next,prS (goB treeTable pw_neveragain_k32_whole_pieces_closed w os),cd pw_neveragain_k32_whole_pieces_closed,p1):=by
 unfold goB goA;rw[PySem.W.Fast.te10110043849684766642,PySem.W.Fast.te15667345088766844465,PySem.W.Fast.te14364793385576792824,PySem.W.Fast.te9528648249320336386];kernel_rfl
theorem l4:(λ(w:World) (os:OsState)=>topRun treeTable pw_neveragain_k32_whole_pieces_closed w 11 ann 2 (prS (goB treeTable pw_neveragain_k32_whole_pieces_closed w os)).abs ⟨doneF .next,cd pw_neveragain_k32_whole_pieces_closed,p1,B⟩)=λw os=>some (prS (goB treeTable pw_neveragain_k32_whole_pieces_closed w os)).abs:=by
 unfold goB goA;rw[PySem.W.Fast.te14082659384304107361,PySem.W.Fast.te10110043849684766642,PySem.W.Fast.te15667345088766844465,PySem.W.Fast.te14364793385576792824,PySem.W.Fast.te9528648249320336386];kernel_rfl
noncomputable def dk (P:Params) (x:Str) (n:Nat) (v:Value):DictEntry:={hash:=PyData.keyHash P x,key:=.str x n,val:=v}
noncomputable def tp (a:Array Value):Obj:={cls:=.type "tuple",data:=.seq a}
noncomputable def fo (x:Str) (i:Nat) (m:Value) (c:Nat):Obj:={cls:=.type "function",data:=.func {name:=x,qualname:=x,params:=cR (top i),body:=.stmts (bE (top i)),scope:=aO (top i),globals:=3,closure:=[],defaults:=.none,kwdefaults:=.none,pyModule:=m,code:=.ref c}}
noncomputable def cx (x y:Str) (n:Nat) (L a:Int) (r:Nat) (u v:Value) (z t:Nat):Obj:={cls:=.type "code",data:=.fields #[.str x n,.str y (n+1),.str "/claim/cut.py" (n+2),.int L 0,.int a 0,.int 0 0,.int 0 0,.int 3 0,.ref r,.bool true,.int 181 0,.ref (r+1),.none,u,v,.ref z,.int t 0,.int L 0,.str "/claim/cut.py" (t+1)]}
noncomputable def cb (x y:Str) (n:Nat) (L a:Int) (r t:Nat):Obj:=cx x y n L a r .none .none (r+2) t
noncomputable def co (x y:Str) (n:Nat) (L a:Int) (r t:Nat):Obj:=cx x y n L a r (.ref (r+2)) (.ref (r+3)) (r+4) t
noncomputable def K:Params->Frag:=λP=>
 (nat_lit 2,{cls:=.none,data:=Data.dict #[]})::
 (nat_lit 3,{cls:=.type "dict",data:=Data.dict #[dk P "__name__" 165 (.str "law_neveragain_k32_whole_pieces_closed" 418),dk P "__doc__" 166 .none,dk P "__package__" 167 .none,dk P "__loader__" 168 (.builtin "__main__.__loader__#opaque"),dk P "__spec__" 169 .none,dk P "__annotations__" 170 (.ref 6),dk P "__builtins__" 171 (.ref 4),dk P "__file__" 173 (.str "/claim/cut.py" 172),dk P "__cached__" 174 .none,dk P "LETTERS" 190 (.str "abcd" 189),dk P "letters" 197 (.ref 21),dk P "counts" 205 (.ref 26),dk P "table" 211 (.ref 31),dk P "counts_behind" 223 (.ref 38),dk P "sizes" 234 (.ref 45),dk P "counts_once" 240 (.ref 50),dk P "sizes_once" 246 (.ref 55),dk P "signs_behind" 252 (.ref 60),dk P "added" 258 (.ref 65),dk P "WordError" 278 (.ref 75),dk P "NoStart" 294 (.ref 88),dk P "TooGreat" 319 (.ref 108),dk P "put" 327 (.ref 115),dk P "words_by_letter" 334 (.ref 122),dk P "MOST_TURNS" 338 (.int 400 337),dk P "grows" 347 (.ref 129),dk P "figures" 365 (.ref 136),dk P "stretch_at" 371 (.ref 141),dk P "sizes_until" 383 (.ref 148),dk P "MOST_PIECES" 387 (.int 300 386),dk P "pieces" 393 (.ref 153),dk P "counts_ahead" 411 (.ref 160),dk P "pieces_of_image" 417 (.ref 165),dk P "_law_draws" 433 (.ref 172),dk P "_law_next" 440 (.ref 179),dk P "_law_word" 446 (.ref 184),dk P "_law_growing" 461 (.ref 191),dk P "_law_place" 471 (.ref 198),dk P "_law_image" 481 (.ref 205),dk P "_law_written" 491 (.ref 212),dk P "_law_whole" 498 (.ref 219),dk P "_law_length" 506 (.ref 226),dk P "_law_are_pieces" 512 (.ref 231),dk P "_law_closed" 525 (.ref 238),dk P "_law_rare" 535 (.ref 245),dk P "_law_few" 543 (.ref 252),dk P "law" 549 (.ref 257)] 47})::
 (nat_lit 15,tp #[])::
 (nat_lit 17,tp #[.str "many" 194])::
 (nat_lit 18,tp #[])::
 (nat_lit 20,co "letters" "letters" 191 3 1 15 195)::
 (nat_lit 21,fo "letters" 2 (.str "neveragain.words" 187) 20)::
 (nat_lit 22,tp #[])::
 (nat_lit 25,cb "counts" "counts" 200 6 2 22 203)::
 (nat_lit 26,fo "counts" 4 (.str "neveragain.counts" 198) 25)::
 (nat_lit 27,tp #[])::
 (nat_lit 30,cb "table" "table" 206 8 1 27 209)::
 (nat_lit 31,fo "table" 5 (.str "neveragain.counts" 198) 30)::
 (nat_lit 32,tp #[])::
 (nat_lit 34,tp #[.str "rule" 215,.str "numbers" 216,.str "times" 217,.str "rows" 218,.str "made" 219,.str "turn" 220])::
 (nat_lit 35,tp #[])::
 (nat_lit 37,co "counts_behind" "counts_behind" 212 10 3 32 221)::
 (nat_lit 38,fo "counts_behind" 6 (.str "neveragain.counts" 198) 37)::
 (nat_lit 39,tp #[])::
 (nat_lit 41,tp #[.str "rule" 227,.str "times" 228,.str "rows" 229,.str "made" 230,.str "turn" 231])::
 (nat_lit 42,tp #[])::
 (nat_lit 44,co "sizes" "sizes" 224 16 2 39 232)::
 (nat_lit 45,fo "sizes" 7 (.str "neveragain.counts" 198) 44)::
 (nat_lit 46,tp #[])::
 (nat_lit 49,cb "counts_once" "counts_once" 235 22 2 46 238)::
 (nat_lit 50,fo "counts_once" 8 (.str "neveragain.counts" 198) 49)::
 (nat_lit 51,tp #[])::
 (nat_lit 54,cb "sizes_once" "sizes_once" 241 27 2 51 244)::
 (nat_lit 55,fo "sizes_once" 9 (.str "neveragain.counts" 198) 54)::
 (nat_lit 56,tp #[])::
 (nat_lit 59,cb "signs_behind" "signs_behind" 247 29 2 56 250)::
 (nat_lit 60,fo "signs_behind" 10 (.str "neveragain.counts" 198) 59)::
 (nat_lit 61,tp #[])::
 (nat_lit 64,cb "added" "added" 253 31 2 61 256)::
 (nat_lit 65,fo "added" 11 (.str "neveragain.counts" 198) 64)::
 (nat_lit 66,tp #[.type "ValueError"])::
 (nat_lit 73,tp #[])::
 (nat_lit 74,{cls:=.type "dict",data:=Data.dict #[dk P "__module__" 268 (.str "neveragain.errors" 259),dk P "__firstlineno__" 272 (.int 34 271),dk P "__static_attributes__" 273 (.ref 73),dk P "__weakref__" 275 (.ref 76),dk P "__doc__" 276 .none] 3})::
 (nat_lit 75,{cls:=.type "type",data:=Data.cls {name:="WordError",bases:=[.type "ValueError"],mro:=[.ref 75,.type "ValueError",.type "Exception",.type "BaseException",.type "object"],ns:=74,qualname:="WordError",subclasses:=[.ref 88,.ref 108]},slots:=#[some (.ref 66),none,some (.str "WordError" 261),some (.str "WordError" 269),some (.builtin "ValueError.__new__"),some (.bool true)]})::
 (nat_lit 76,{cls:=.type "getset_descriptor",data:=Data.fields #[.str "__weakref__" 274,.ref 75,.builtin "ExceptionGroup.__weakref__",.none]})::
 (nat_lit 79,tp #[.ref 75])::
 (nat_lit 86,tp #[])::
 (nat_lit 87,{cls:=.type "dict",data:=Data.dict #[dk P "__module__" 286 (.str "neveragain.errors" 259),dk P "__firstlineno__" 290 (.int 36 289),dk P "__static_attributes__" 291 (.ref 86),dk P "__doc__" 292 .none] 2})::
 (nat_lit 88,{cls:=.type "type",data:=Data.cls {name:="NoStart",bases:=[.ref 75],mro:=[.ref 88,.ref 75,.type "ValueError",.type "Exception",.type "BaseException",.type "object"],ns:=87,qualname:="NoStart"},slots:=#[some (.ref 79),none,some (.str "NoStart" 279),some (.str "NoStart" 287),some (.builtin "ValueError.__new__"),some (.bool true)]})::
 (nat_lit 91,tp #[.ref 75])::
 (nat_lit 98,tp #[.none])::
 (nat_lit 99,tp #[])::
 (nat_lit 101,tp #[.str "self" 310,.str "most" 311])::
 (nat_lit 102,tp #[])::
 (nat_lit 104,co "__init__" "TooGreat.__init__" 307 40 2 99 312)::
 (nat_lit 105,{cls:=.type "function",data:=Data.func {name:="__init__",qualname:="TooGreat.__init__",params:={posonlyargs:=[],args:=[{arg:="self",annotation:=none,pos:={line:=40,col:=17,endLine:=40,endCol:=21}},{arg:="most",annotation:=none,pos:={line:=40,col:=23,endLine:=40,endCol:=27}}],vararg:=none,kwonlyargs:=[],kw_defaults:=[],kwarg:=none,defaults:=[Expr.Constant Const.none 0 {line:=40,col:=28,endLine:=40,endCol:=32}]},body:=FuncBody.stmts [Stmt.Assign [(Expr.Name "self" {line:=41,col:=8,endLine:=41,endCol:=12}).Attribute "most" {line:=41,col:=8,endLine:=41,endCol:=17}] (Expr.Name "most" {line:=41,col:=20,endLine:=41,endCol:=24}) {line:=41,col:=8,endLine:=41,endCol:=24}],scope:={kind:=ScopeKind.function,names:=[("self",NameKind.local),("most",NameKind.local)],isGenerator:=false,isCoroutine:=false},globals:=3,closure:=[],defaults:=.ref 98,kwdefaults:=.none,pyModule:=.str "neveragain.errors" 259,code:=.ref 104}})::
 (nat_lit 106,tp #[.str "most" 315])::
 (nat_lit 107,{cls:=.type "dict",data:=Data.dict #[dk P "__module__" 302 (.str "neveragain.errors" 259),dk P "__firstlineno__" 306 (.int 38 305),dk P "__init__" 314 (.ref 105),dk P "__static_attributes__" 316 (.ref 106),dk P "__doc__" 317 .none] 2})::
 (nat_lit 108,{cls:=.type "type",data:=Data.cls {name:="TooGreat",bases:=[.ref 75],mro:=[.ref 108,.ref 75,.type "ValueError",.type "Exception",.type "BaseException",.type "object"],ns:=107,qualname:="TooGreat"},slots:=#[some (.ref 91),none,some (.str "TooGreat" 295),some (.str "TooGreat" 303),some (.builtin "ValueError.__new__"),some (.bool true)]})::
 (nat_lit 111,tp #[])::
 (nat_lit 114,cb "put" "put" 322 43 2 111 325)::
 (nat_lit 115,fo "put" 17 (.str "neveragain.rules" 320) 114)::
 (nat_lit 116,tp #[])::
 (nat_lit 118,tp #[.str "rule" 331])::
 (nat_lit 119,tp #[])::
 (nat_lit 121,co "words_by_letter" "words_by_letter" 328 46 1 116 332)::
 (nat_lit 122,fo "words_by_letter" 18 (.str "neveragain.rules" 320) 121)::
 (nat_lit 123,tp #[])::
 (nat_lit 125,tp #[.str "rule" 342,.str "start" 343,.str "word" 344])::
 (nat_lit 126,tp #[])::
 (nat_lit 128,co "grows" "grows" 339 50 2 123 345)::
 (nat_lit 129,fo "grows" 21 (.str "neveragain.places" 335) 128)::
 (nat_lit 130,tp #[])::
 (nat_lit 132,tp #[.str "rule" 351,.str "start" 352,.str "n" 353,.str "rows" 354,.str "word_for" 355,.str "pairs" 356,.str "letter" 357,.str "left" 358,.str "row" 359,.str "size_of" 360,.str "word" 361,.str "step" 362])::
 (nat_lit 133,tp #[])::
 (nat_lit 135,co "figures" "figures" 348 53 3 130 363)::
 (nat_lit 136,fo "figures" 22 (.str "neveragain.places" 335) 135)::
 (nat_lit 137,tp #[])::
 (nat_lit 140,cb "stretch_at" "stretch_at" 366 69 4 137 369)::
 (nat_lit 141,fo "stretch_at" 23 (.str "neveragain.places" 335) 140)::
 (nat_lit 142,tp #[])::
 (nat_lit 144,tp #[.str "rule" 375,.str "start" 376,.str "n" 377,.str "rows" 378,.str "at" 379,.str "made" 380])::
 (nat_lit 145,tp #[])::
 (nat_lit 147,co "sizes_until" "sizes_until" 372 77 3 142 381)::
 (nat_lit 148,fo "sizes_until" 24 (.str "neveragain.places" 335) 147)::
 (nat_lit 149,tp #[])::
 (nat_lit 152,cb "pieces" "pieces" 388 90 3 149 391)::
 (nat_lit 153,fo "pieces" 27 (.str "neveragain.pieces" 384) 152)::
 (nat_lit 154,tp #[])::
 (nat_lit 156,tp #[.str "rule" 397,.str "start" 398,.str "length" 399,.str "first" 400,.str "found" 401,.str "ahead" 402,.str "done" 403,.str "piece" 404,.str "word" 405,.str "base" 406,.str "place" 407,.str "met" 408])::
 (nat_lit 157,tp #[])::
 (nat_lit 159,co "counts_ahead" "counts_ahead" 394 93 3 154 409)::
 (nat_lit 160,fo "counts_ahead" 28 (.str "neveragain.pieces" 384) 159)::
 (nat_lit 161,tp #[])::
 (nat_lit 164,cb "pieces_of_image" "pieces_of_image" 412 110 2 161 415)::
 (nat_lit 165,fo "pieces_of_image" 29 (.str "neveragain.pieces" 384) 164)::
 (nat_lit 166,tp #[])::
 (nat_lit 168,tp #[.str "_law_script" 423,.str "_law_cells" 424,.str "_law_by_digits" 425,.str "_law_left" 426,.str "_law_found" 427,.str "_law_k" 428,.str "_law_at" 429,.str "_law_number" 430])::
 (nat_lit 169,tp #[])::
 (nat_lit 171,co "_law_draws" "_law_draws" 420 114 1 166 431)::
 (nat_lit 172,fo "_law_draws" 31 (.str "law_neveragain_k32_whole_pieces_closed" 418) 171)::
 (nat_lit 173,tp #[])::
 (nat_lit 175,tp #[.str "_law_drawn" 437])::
 (nat_lit 176,tp #[])::
 (nat_lit 178,co "_law_next" "_law_next" 434 131 1 173 438)::
 (nat_lit 179,fo "_law_next" 32 (.str "law_neveragain_k32_whole_pieces_closed" 418) 178)::
 (nat_lit 180,tp #[])::
 (nat_lit 183,cb "_law_word" "_law_word" 441 135 3 180 444)::
 (nat_lit 184,fo "_law_word" 33 (.str "law_neveragain_k32_whole_pieces_closed" 418) 183)::
 (nat_lit 185,tp #[])::
 (nat_lit 187,tp #[.str "_law_drawn" 450,.str "_law_many" 451,.str "_law_start" 452,.str "_law_least" 453,.str "_law_most" 454,.str "_law_words" 455,.str "_law_k" 456,.str "_law_size" 457,.str "_law_word_here" 458])::
 (nat_lit 188,tp #[])::
 (nat_lit 190,co "_law_growing" "_law_growing" 447 137 5 185 459)::
 (nat_lit 191,fo "_law_growing" 34 (.str "law_neveragain_k32_whole_pieces_closed" 418) 190)::
 (nat_lit 192,tp #[])::
 (nat_lit 194,tp #[.str "_law_drawn" 465,.str "_law_wide" 466,.str "_law_number" 467,.str "_law_k" 468])::
 (nat_lit 195,tp #[])::
 (nat_lit 197,co "_law_place" "_law_place" 462 146 2 192 469)::
 (nat_lit 198,fo "_law_place" 35 (.str "law_neveragain_k32_whole_pieces_closed" 418) 197)::
 (nat_lit 199,tp #[])::
 (nat_lit 201,tp #[.str "_law_rule" 475,.str "_law_word_here" 476,.str "_law_found" 477,.str "_law_sign" 478])::
 (nat_lit 202,tp #[])::
 (nat_lit 204,co "_law_image" "_law_image" 472 151 2 199 479)::
 (nat_lit 205,fo "_law_image" 36 (.str "law_neveragain_k32_whole_pieces_closed" 418) 204)::
 (nat_lit 206,tp #[])::
 (nat_lit 208,tp #[.str "_law_rule" 485,.str "_law_start" 486,.str "_law_size" 487,.str "_law_word_here" 488])::
 (nat_lit 209,tp #[])::
 (nat_lit 211,co "_law_written" "_law_written" 482 156 3 206 489)::
 (nat_lit 212,fo "_law_written" 37 (.str "law_neveragain_k32_whole_pieces_closed" 418) 211)::
 (nat_lit 213,tp #[])::
 (nat_lit 215,tp #[.str "_law_found" 495])::
 (nat_lit 216,tp #[])::
 (nat_lit 218,co "_law_whole" "_law_whole" 492 161 1 213 496)::
 (nat_lit 219,fo "_law_whole" 38 (.str "law_neveragain_k32_whole_pieces_closed" 418) 218)::
 (nat_lit 220,tp #[])::
 (nat_lit 222,tp #[.str "_law_number" 502,.str "_law_many" 503])::
 (nat_lit 223,tp #[])::
 (nat_lit 225,co "_law_length" "_law_length" 499 163 2 220 504)::
 (nat_lit 226,fo "_law_length" 39 (.str "law_neveragain_k32_whole_pieces_closed" 418) 225)::
 (nat_lit 227,tp #[])::
 (nat_lit 230,cb "_law_are_pieces" "_law_are_pieces" 507 165 3 227 510)::
 (nat_lit 231,fo "_law_are_pieces" 40 (.str "law_neveragain_k32_whole_pieces_closed" 418) 230)::
 (nat_lit 232,tp #[])::
 (nat_lit 234,tp #[.str "_law_names" 516,.str "_law_rule" 517,.str "_law_length_here" 518,.str "_law_told" 519,.str "_law_name" 520,.str "_law_below" 521,.str "_law_step" 522])::
 (nat_lit 235,tp #[])::
 (nat_lit 237,co "_law_closed" "_law_closed" 513 175 3 232 523)::
 (nat_lit 238,fo "_law_closed" 41 (.str "law_neveragain_k32_whole_pieces_closed" 418) 237)::
 (nat_lit 239,tp #[])::
 (nat_lit 241,tp #[.str "_law_rule" 529,.str "_law_start" 530,.str "_law_words" 531,.str "_law_k" 532])::
 (nat_lit 242,tp #[])::
 (nat_lit 244,co "_law_rare" "_law_rare" 526 185 2 239 533)::
 (nat_lit 245,fo "_law_rare" 42 (.str "law_neveragain_k32_whole_pieces_closed" 418) 244)::
 (nat_lit 246,tp #[])::
 (nat_lit 248,tp #[.str "_law_number" 539,.str "_law_some" 540])::
 (nat_lit 249,tp #[])::
 (nat_lit 251,co "_law_few" "_law_few" 536 192 1 246 541)::
 (nat_lit 252,fo "_law_few" 43 (.str "law_neveragain_k32_whole_pieces_closed" 418) 251)::
 (nat_lit 253,tp #[])::
 (nat_lit 256,cb "law" "law" 544 198 1 253 547)::
 (nat_lit 257,fo "law" 44 (.str "law_neveragain_k32_whole_pieces_closed" 418) 256)::[]
noncomputable def ads:List Addr:=[2,3,15,17,18,20,21,22,25,26,27,30,31,32,34,35,37,38,39,41,42,44,45,46,49,50,51,54,55,56,59,60,61,64,65,66,73,74,75,76,79,86,87,88,91,98,99,101,102,104,105,106,107,108,111,114,115,116,118,119,121,122,123,125,126,128,129,130,132,133,135,136,137,140,141,142,144,145,147,148,149,152,153,154,156,157,159,160,161,164,165,166,168,169,171,172,173,175,176,178,179,180,183,184,185,187,188,190,191,192,194,195,197,198,199,201,202,204,205,206,208,209,211,212,213,215,216,218,219,220,222,223,225,226,227,230,231,232,234,235,237,238,239,241,242,244,245,246,248,249,251,252,253,256,257]
noncomputable def q (p:Program):Program:=view p [1,2,4,5,6,7,8,9,10,11,13,14,15,17,18,20,21,22,23,24,26,27,28,29,31,32,33,34,35,36,37,38,39,40,41,42,43,44]
noncomputable abbrev fin (w:World) (os:OsState):Shared:=(prS (goB treeTable pw_neveragain_k32_whole_pieces_closed w os)).abs
theorem run (w:World) (os:OsState):topRun treeTable pw_neveragain_k32_whole_pieces_closed w 11 ann (12+(1+(1698+2))) ⟨boot_heap w.params,#[],boot_drawn,boot_toks,os⟩ (topStub pw_neveragain_k32_whole_pieces_closed)=some (fin w os):=by
 refine go_top (congrFun (congrFun l1 w) os) (piece_block (congrFun (congrFun l2 w) os) ?_);have h:=piece_app (rest:=[]) (segRun_of (congrFun (congrFun l3 w) os)) (piece_nil (congrFun (congrFun l4 w) os));rw[append_nil] at h;exact h
theorem k1:(λ(w:World) (os:OsState)=>ads.map (fin w os).heap.get?)=λw _=>(K w.params).map λp=>some p.2:=by
 unfold fin goB goA;rw[PySem.W.Fast.te10110043849684766642,PySem.W.Fast.te15667345088766844465,PySem.W.Fast.te14364793385576792824,PySem.W.Fast.te9528648249320336386];kernel_rfl
theorem k2:(λ(w:World) (os:OsState)=>staticsOk (importedModules pw_neveragain_k32_whole_pieces_closed.main.body) (boot_heap w.params) (fin w os).heap&&namesBound pw_neveragain_k32_whole_pieces_closed (fin w os).heap&&gensDone (fin w os)&&laidKept (boot_heap w.params) (fin w os).heap)=λ_ _=>true:=by
 unfold fin goB goA;rw[PySem.W.Fast.te10110043849684766642,PySem.W.Fast.te15667345088766844465,PySem.W.Fast.te14364793385576792824,PySem.W.Fast.te9528648249320336386];kernel_rfl
theorem left_run {p v:Program} {lo:List Str} {X:Shared->Bool} {α:Type} {f:Shared->α} {g:World->α} {N:Nat} {H:Params->Heap} {gs:Array GenState} {d:Drawn} {k m M:Nat} {an:Option Value} {z:World->OsState->Shared}
  (ho:∀w:World,(fencedOpening treeTable p w N).map (λs=>(s.heap,s.gens,s.drawn,s.toks))=some (H w.params,gs,d,k))
  (hs:∀w:World,((H w.params).isNs mainGlobals&&gs.size==0,(H w.params).objs.size,(H w.params).nsMap mainGlobals "__annotations__")=(true,m,an))
  (hr:∀w os,topRun treeTable p w m an M ⟨H w.params,gs,d,k,os⟩ (topStub p)=some (z w os)) (hM:M<=N)
  (h1:∀w os,(staticsOk (importedModules p.main.body) (H w.params) (z w os).heap&&namesBound p (z w os).heap&&gensDone (z w os)&&laidKept (H w.params) (z w os).heap)=true)
  (h2:∀w os,openSeen v lo (importedModules p.main.body) X true (z w os)=openGood v lo) (h3:∀w os,f (z w os)=g w):LeftO p v lo X f g N:=by
 intro w;have a:=ho w;cases e:fencedOpening treeTable p w N with
 |none=>rw[e] at a;cases a
 |some s=>
  rw[e] at a;obtain ⟨hh,hg,hd,hk,os⟩:=s;have b:=Option.some.inj a;have b1:hh=H w.params:=congrArg (·.1) b;have b2:hg=gs:=congrArg (·.2.1) b;have b3:hd=d:=congrArg (·.2.2.1) b;have b4:hk=k:=congrArg (·.2.2.2) b;subst b1 b2 b3 b4;have s1:=congrArg (·.1) (hs w);have s2:=congrArg (·.2.1) (hs w);have s3:=congrArg (·.2.2) (hs w);have r:=topRun_mono (N - M) _ _ _ _ (hr w os);rw[Nat.add_sub_cancel' hM] at r;have t:topFrom treeTable p w N ⟨H w.params,hg,hd,hk,os⟩=some (z w os):=by
   simp only [topFrom];dsimp only at s1 s2 s3;rw[s1,s2,s3,r];simp only [Option.bind,h1 w os]
  simp only [openEnds,e,Option.bind];show (topFrom treeTable p w N _).map _=_;rw[t];exact congrArg some (Prod.ext (h2 w os) (h3 w os))
theorem k3:(λ(w:World) (os:OsState)=>openSeen (q pw_neveragain_k32_whole_pieces_closed) ["TooGreat"] (importedModules pw_neveragain_k32_whole_pieces_closed.main.body) (λs=>xlAt (q pw_neveragain_k32_whole_pieces_closed) [] s&&recOk (RowW.records (OpenRow.toRowW PySem.Challenge.rw_neveragain_k32_whole_pieces_closed.row)) s) true (fin w os))=λ_ _=>openGood (q pw_neveragain_k32_whole_pieces_closed) ["TooGreat"]:=by
 unfold fin goB goA;rw[PySem.W.Fast.te4187177175401517315,PySem.W.Fast.te10110043849684766642,PySem.W.Fast.te15667345088766844465,PySem.W.Fast.te14364793385576792824,PySem.W.Fast.te9528648249320336386];kernel_rfl
theorem k4:(λ(w:World)=>((boot_heap w.params).isNs mainGlobals&&(#[]:Array GenState).size==0,(boot_heap w.params).objs.size,(boot_heap w.params).nsMap mainGlobals "__annotations__"))=λ_=>(true,11,ann):=by kernel_rfl
theorem k5:opening pw_neveragain_k32_whole_pieces_closed=plainProg pw_neveragain_k32_whole_pieces_closed.main.scope.names:=by kernel_rfl
theorem k6:(λs=>fenceModules? pw_neveragain_k32_whole_pieces_closed s)=λs=>some s:=by kernel_rfl
theorem left:LeftO pw_neveragain_k32_whole_pieces_closed (q pw_neveragain_k32_whole_pieces_closed) ["TooGreat"] (λs=>xlAt (q pw_neveragain_k32_whole_pieces_closed) [] s&&recOk (RowW.records (OpenRow.toRowW PySem.Challenge.rw_neveragain_k32_whole_pieces_closed.row)) s) (λs=>ads.map s.heap.get?) (λw=>(K w.params).map λp=>some p.2) 1740:=
 left_run (boot_open k5 (by decide) (λs=>congrFun k6 s)) (λw=>congrFun k4 w) run (by decide) (λw os=>congrFun (congrFun k2 w) os) (λw os=>congrFun (congrFun k3 w) os) (λw os=>congrFun (congrFun k1 w) os)
theorem he (P:Params):ads=(K P).map (·.1):=by kernel_rfl
end L2.Hd
open PySem PySem.W PyProof.Rows
set_option maxRecDepth 100000 in
set_option maxHeartbeats 0 in
theorem PySem.Challenge.cw_neveragain_k32_whole_pieces_closed_holds : PySem.Challenge.rw_neveragain_k32_whole_pieces_closed.Holds := by
 w_on;o_law
 refine holds_open (q:=L2.Hd.q PySem.Challenge.pw_neveragain_k32_whole_pieces_closed) (loose:=["TooGreat"]) (XP:=XL (L2.Hd.q PySem.Challenge.pw_neveragain_k32_whole_pieces_closed) [])
  (Yf:=Hook.obs (kHook L2.Hd.K L2.Hd.ads L2.Hd.he)) (Ya:=Hook.val (kHook L2.Hd.K L2.Hd.ads L2.Hd.he))
  (YP:=Hook.says (kHook L2.Hd.K L2.Hd.ads L2.Hd.he)) (N:=1740) L2.Hd.left (Hook.of (kHook L2.Hd.K L2.Hd.ads L2.Hd.he))
  (Hook.keeps (kHook L2.Hd.K L2.Hd.ads L2.Hd.he)) (λs e=>xl_of s (Bool.and_eq_true_iff.mp e).1) XL.keeps (by rfl) (by rfl) (by rfl)
  (λs e=>recFacts_of (Bool.and_eq_true_iff.mp e).2) (by rfl) (by assumption) (by decide+kernel)
  ⟨rfl,rfl,rfl,rfl,rfl,by decide+kernel⟩ ?hw ?hc
 case hw=>w_witness2
 k_fill
 refine L2.Na.OC (KF:=L2.Na.K31.KF) (l:=PySem.Challenge.rw_neveragain_k32_whole_pieces_closed) (k:=9) (x:="_law_script") (sp:=L2.Na.K32.rY) rfl rfl ⟨rfl,by decide,by decide⟩ (λw h Y=>PySem.W.kIn_of Y) ?KF rfl L2.Na.K32.wR L2.Na.K32.TB L2.Na.K32.Bo (λ_ _ _ _ _ _ _=>rfl) (λ_=>L2.Na.K32.Bq) (λ_ kf=>L2.Na.K32.ZO kf) ?F ?Q L2.Na.K32.Af
 case KF=>
  intro w;constructor<;>walk_at "k"
 case F=>
  intro w h KX;refine ⟨?a,?b⟩
  case a=>walk_at "f"
  case b=>
   unfold L2.Na.oQ;refine ⟨?_,?_,?_,?_,?_,?_,?_,?_,?_,?_,?_,?_,?_,?_,?_,?_,?_,?_,?_,?_,?_,?_,L2.tI⟩<;>k_is
 case Q=>
  intro w mg h base kf KX G bl A hr;refine' L2.Na.K32.Ec KX G bl ?_ ?_ ?_ ?_ ?_ ?_ ?_ ?_ ?_ ?_ ?_ ?_ ?_ ?_ ?_ ?_ ?_ ?_ ?_ ?_ ?_ ?_ ?_ ?_ ?_ ?_ ?_ ?_ ?_ ?_ ?_ ?_ ?_ ?_ kf A hr<;>walk_at "f"
#print axioms PySem.Challenge.cw_neveragain_k32_whole_pieces_closed_holds
