import PyProof.Rows.All
import Wide.All
import OpenK.AllK
import Wide.FinOn
import Lean
import PyProof.EqAt
import PyProof.EqKinds
import PyProof.TupleCall
import PyProof.AttrMissSeq
import KE.KDictOf
import KE.KSortTup
import PySem.Challenge.RW_neveragain_k42_distance_stands
set_option genSizeOf false
set_option bootstrap.genMatcherCode false
set_option compiler.extract_closed false
open List (Nodup Pairwise Perm all_cons all_eq_true any_cons any_eq_true any_map append_nil drop_zero ext_getElem? filter_cons find?_cons flatten_cons foldl foldl_append foldl_cons forIn_cons forIn_nil getD_eq_getElem?_getD getElem?_append_left getElem?_append_right getElem?_drop getElem?_eq_getElem getElem?_map getElem?_of_mem getElem?_range getElem?_take getElem?_zipWith getElem_mem length_append length_cons length_drop length_map length_nil length_range length_replicate length_reverse length_take length_zipWith lookup_cons lookup_cons_self map_append map_congr_left map_cons map_map map_nil mem_append mem_append_left mem_append_right mem_cons mem_cons_of_mem mem_cons_self mem_filter mem_filterMap mem_flatMap mem_map mem_of_getElem? mem_of_mem_drop mem_of_mem_take mem_range mem_singleton nodup_cons not_mem_nil pairwise_cons range range' range_succ range_succ_eq_map replicate replicate_succ size_toArray sum_cons take_add_one take_append_drop take_length take_of_length_le take_zero zipWith zipWith_cons_cons)
open Nat (le_of_eq le_of_lt le_of_not_lt le_succ le_trans lt_irrefl lt_of_not_le lt_succ_self lt_trans mod_lt ne_of_gt ne_of_lt pow_succ sub_self zero_add zero_le)
open Bool (and_eq_true false_eq_true or_eq_true)
open Int (emod_lt_of_pos emod_nonneg toNat toNat_natCast)
open Array (length_toList size_eq_one_iff)
open PySem.Heap (DictOf ExtBut SameBut get?_push_of_some get?_push_size get?_update_other get?_update_self lt_size)
noncomputable abbrev L2.Fg:=PySem.W.Frag
theorem L2.tI:True:=True.intro
set_option Elab.async false
set_option linter.all false
set_option maxRecDepth 100000
set_option maxHeartbeats 4000000
namespace L2
open PySem PySem.Spec PyProof.Rows
noncomputable abbrev Key:=Sum Int Str
noncomputable def kU:Key->Value->Bool
 | .inl k,v=>Value.isInt k v
 | .inr x,v=>Value.isStrOf x v
noncomputable def Kt (w:World):Key->Int
 | .inl k=>hashInt k
 | .inr x=>hashStr w x
theorem bB:∀{k:Key} {v:Value},kU k v=true->(∃i t,k=Sum.inl i/\v=Value.int i t)\/(∃x t,k=Sum.inr x/\v=Value.str x t)
 | .inl i,v,h=>by
  obtain ⟨t,e⟩:=Value.isInt_shape (k:=i) (v:=v) h;exact .inl ⟨i,t,rfl,e⟩
 | .inr x,v,h=>by
  obtain ⟨t,e⟩:=Value.isStrOf_shape (x:=x) (v:=v) h;exact .inr ⟨x,t,rfl,e⟩
theorem GW (i:Int) (t:Tok):kU (.inl i) (.int i t)=true:=by simp [kU,Value.isInt]
theorem sT (x:Str) (t:Tok):kU (.inr x) (.str x t)=true:=by simp [kU,Value.isStrOf]
theorem ZT (a b:Int):decide ((Sum.inl a:Key)=Sum.inl b)=(a==b):=by
 by_cases e:a=b
 ·subst e;simp
 ·have h:¬(Sum.inl a:Key)=Sum.inl b:=λq=>e (Sum.inl.inj q);rw[decide_eq_false h];exact (beq_eq_false_iff_ne.mpr e).symm
theorem ZQ (a b:Str):decide ((Sum.inr a:Key)=Sum.inr b)=decide (a=b):=by
 by_cases e:a=b
 ·subst e;simp
 ·have h:¬(Sum.inr a:Key)=Sum.inr b:=λq=>e (Sum.inr.inj q);rw[decide_eq_false h,decide_eq_false e]
theorem ZS (a:Int) (b:Str):decide ((Sum.inl a:Key)=Sum.inr b)=false:=decide_eq_false (λq=>nomatch q)
theorem ZR (a:Str) (b:Int):decide ((Sum.inr a:Key)=Sum.inl b)=false:=decide_eq_false (λq=>nomatch q)
noncomputable def aU (prog:Program) (w:World):PySem.KeyKind prog w Key where
 is:=kU
 hash:=Kt w
 inj:=λv a b ha hb=>by
  rcases bB ha with ⟨i,t,rfl,rfl⟩|⟨x,t,rfl,rfl⟩
  ·rcases bB hb with ⟨j,u,rfl,e⟩|⟨y,u,rfl,e⟩
   ·injection e with e1 _;rw[e1]
   ·exact nomatch e
  ·rcases bB hb with ⟨j,u,rfl,e⟩|⟨y,u,rfl,e⟩
   ·exact nomatch e
   ·injection e with e1 _;rw[e1]
 byValue:=λk v h=>by
  rcases bB h with ⟨i,t,rfl,rfl⟩|⟨x,t,rfl,rfl⟩<;>rfl
 pyHash:=λhv h=>by
  rcases bB hv with ⟨i,t,rfl,rfl⟩|⟨x,t,rfl,rfl⟩
  ·exact wpAny_pyHash_int h
  ·exact wpAny_pyHash_str h
 eqBool:=λhu hv h=>by
  rcases bB hu with ⟨i,t,rfl,rfl⟩|⟨x,t,rfl,rfl⟩
  ·rcases bB hv with ⟨j,u,rfl,rfl⟩|⟨y,u,rfl,rfl⟩
   ·rw[ZT] at h;exact wpAny_eqBool_int h
   ·rw[ZS] at h;exact SeqAt.EqAt.int_str i t y u _ _ _ _ h
  ·rcases bB hv with ⟨j,u,rfl,rfl⟩|⟨y,u,rfl,rfl⟩
   ·rw[ZR] at h;exact SeqAt.EqAt.str_int x t j u _ _ _ _ h
   ·rw[ZQ] at h;exact wpAny_eqBool_str h
 «strs»:=λk x t v h=>by
  rcases bB h with ⟨i,u,rfl,e⟩|⟨y,u,rfl,e⟩
  ·exact nomatch e
  ·injection e with e1 _
   subst e1;cases v<;>rfl
theorem yS (prog:Program) (w:World) (i:Int) (t:Tok):(aU prog w).is (.inl i) (.int i t)=true:=GW i t
theorem yR (prog:Program) (w:World) (x:Str) (t:Tok):(aU prog w).is (.inr x) (.str x t)=true:=sT x t
inductive V where
 |non|bl (b:Bool)|int (i:Int)|str (x:Str)|byt (b:Array UInt8)|flt (b:UInt64)|ref (a:Addr)|ty (n:String)
 deriving DecidableEq
noncomputable def RelV:V->Value->Prop
 | .non,u=>u=Value.none
 | .bl b,u=>u=Value.bool b
 | .int i,u=>∃t,u=Value.int i t
 | .str x,u=>∃t,u=Value.str x t
 | .byt b,u=>∃t,u=Value.bytes b t
 | .flt b,u=>∃t,u=Value.float b t
 | .ref a,u=>u=Value.ref a
 | .ty n,u=>u=Value.type n
noncomputable abbrev Vals:List V->List Value->Prop:=Paired RelV
theorem Vals.length {xs:List V} {us:List Value} (r:Vals xs us):xs.length=us.length:=Paired.length r
theorem Vals.get:∀{xs:List V} {us:List Value} {i:Nat} {x:V},Vals xs us->xs[i]?=some x->∃u,us[i]?=some u/\RelV x u
 |_,_,_,_,.nil,e=>by simp at e
 |_,_,0,_,.cons r _,e=>by simp at e;subst e;exact ⟨_,rfl,r⟩
 |_,_,i+1,x,.cons _ t,e=>by
  obtain ⟨u,h1,h2⟩:=Vals.get (i:=i) (x:=x) t (by simpa using e);exact ⟨u,by simpa using h1,h2⟩
theorem Vals.set {x:V} {u:Value} (r:RelV x u):∀{xs:List V} {us:List Value} (i:Nat),Vals xs us->Vals (xs.set i x) (us.set i u)
 |_,_,_,.nil=>.nil
 |_,_,0,.cons _ t=>.cons r t
 |_,_,i+1,.cons q t=>.cons q (Vals.set r i t)
theorem Vals.append:∀{xs ys:List V} {us ws:List Value},Vals xs us->Vals ys ws->Vals (xs++ys) (us++ws)
 |_,_,_,_,.nil,s=>s
 |_,_,_,_,.cons r t,s=>.cons r (Vals.append t s)
theorem Vals.take:∀{xs:List V} {us:List Value} (n:Nat),Vals xs us->Vals (xs.take n) (us.take n)
 |_,_,0,_=>.nil
 |_,_,_+1,.nil=>.nil
 |_,_,n+1,.cons r t=>.cons r (Vals.take n t)
theorem Vals.drop:∀{xs:List V} {us:List Value} (n:Nat),Vals xs us->Vals (xs.drop n) (us.drop n)
 |_,_,0,r=>r
 |_,_,_+1,.nil=>.nil
 |_,_,n+1,.cons _ t=>Vals.drop n t
noncomputable def iW:Option V->Option Value->Prop
 |some v,some u=>RelV v u
 |none,none=>True
 |_,_=>False
noncomputable def KV {κ:Type}:List (κ × V)->List (κ × Value)->Prop:=Paired λ(p:κ × V) (q:κ × Value)=>p.1=q.1/\RelV p.2 q.2
noncomputable def kV:Key->V
 | .inl i=>.int i
 | .inr x=>.str x
inductive HO where
  
 |lst (xs:List V)
  
 |tup (xs:List V)
  
 |dK (kvs:List (Key × V))|dT (kvs:List (List Key × V))
  
 |set (S:Int->Bool) (n:Nat)
  
 |ins (C dx:Addr) (fs:List (Str × V))
  
 |own (x:Addr)
  
 |xd (fs:List (Str × V))
  
 |met (f x:Addr)
  
 |rng (lo hi:Int)
  
 |frz (o:Obj) (u:HO)
  
 |tbl (ps:Array Value)
  
 |ext (φ:Heap->Prop)
noncomputable abbrev Hp:=Addr->Option HO
noncomputable def upd (H:Hp) (a:Addr) (o:HO):Hp:=λb=>if b=a then some o else H b
theorem aA:upd H a o a=some o:=by unfold upd;rw[if_pos rfl]
theorem aF (h:b≠a):upd H a o b=H b:=by unfold upd;rw[if_neg h]
theorem nL:upd (upd H a o) a u=upd H a u:=by
 funext b;unfold upd;split<;>rfl
theorem Ff {H:Hp} {a b:Addr} {o u:HO} (h:H a=some o) (h':H b=some u) (d:o≠u):a≠b:=by
 intro e;subst e;rw[h] at h';exact d (Option.some.inj h')
theorem aB {H:Hp} {a b:Addr} {o:HO} (h:H a=some o) (h':H b=none):a≠b:=by
 intro e;subst e;rw[h] at h';cases h'
section
variable (P:Program) (w:World)
noncomputable def aY (H:Hp) (h:Heap) (a:Addr):HO->Prop
 | .lst xs=>xs.length<=sizeLine/\∃(its:List Value) (n:Nat),Vals xs its/\h.get? a=some {cls:=.type "list",data:=.seq its.toArray n}
 | .tup xs=>xs.length<=sizeLine/\∃its:List Value,Vals xs its/\IsTup h a its.toArray
 | .dK kvs=>kvs.length<=sizeLine/\(a==sysModules)=false/\∃vs,KV kvs vs/\h.DictOf (aU P w) a vs
 | .dT kvs=>kvs.length<=sizeLine/\(a==sysModules)=false/\∃xs:List (List Key × Addr × Value),
   Paired (λ(p:List Key × V) (q:List Key × Addr × Value)=>p.1=q.1/\H q.2.1=some (.tup (p.1.map kV))/\RelV p.2 q.2.2) kvs xs/\
   ∃o es ep,h.get? a=some o/\o.ExactDict/\o.data=.dict es ep/\es.toList=xs.map (entryOfKey (tupleKind (aU P w)))/\(xs.map (·.1)).Nodup
 | .set S n=>h.SetOf (intKind P w) a S n
 | .ins C dx fs=>H dx=some (.own a)/\fs.length<=1000/\dx≠a/\h.get? a=some (PySem.W.instObj C dx)/\
   ∃mA,h.Ns1 dx mA/\(∀f,iW (fs.lookup f) (mA f))/\PySem.Within mA (fs.map (·.1))
 | .own _=>∃o,h.get? a=some o
 | .xd fs=>∃mA,h.Ns1 a mA/\∀f,iW (fs.lookup f) (mA f)
 | .rng lo hi=>∃t u v,h.get? a=some {cls:=.type "range",data:=.fields #[.int lo t,.int hi u,.int 1 v]}
 | .frz o u=>h.get? a=some o/\aY H h a u
 | .tbl ps=>h.get? a=some {cls:=.none,data:=.fields ps}
 | .met f x=>h.get? a=some (PySem.W.methodObj (.ref f) (.ref x))
 | .ext φ=>φ h/\(∃o,h.get? a=some o)/\∀h1 h2:Heap,φ h1->(∀o,h1.get? a=some o->h2.get? a=some o)->φ h2
noncomputable def eG (H:Hp) (h:Heap):Prop:=∀a o,H a=some o->aY P w H h a o
end
section
variable {P:Program} {w:World} {H H':Hp} {h h':Heap} {a:Addr} {o:HO}
theorem aY.lt (x:aY P w H h a o):a<h.objs.size:=by
 cases o with
 |lst xs=>obtain ⟨_,_,_,_,e⟩:=x;exact lt_size e
 |tup xs=>obtain ⟨_,_,_,p⟩:=x;exact p.lt
 |dK kvs=>obtain ⟨_,_,_,_,o,_,_,e,_⟩:=x;exact lt_size e
 |dT kvs=>obtain ⟨_,_,_,_,o,_,_,e,_⟩:=x;exact lt_size e
 |set S n=>obtain ⟨o,_,_,_,e,_⟩:=x;exact lt_size e
 |ins C dx fs=>obtain ⟨_,_,_,e,_⟩:=x;exact lt_size e
 |own y=>obtain ⟨_,e⟩:=x;exact lt_size e
 |xd fs=>obtain ⟨_,⟨_,_,_,e,_⟩,_⟩:=x;exact lt_size e
 |rng lo hi=>obtain ⟨_,_,_,e⟩:=x;exact lt_size e
 |frz ob u=>obtain ⟨e,_⟩:=x;exact lt_size e
 |tbl ps=>exact lt_size (show h.get? a=some _ from x)
 |met f y=>exact lt_size (show h.get? a=some _ from x)
 |ext φ=>obtain ⟨_,⟨_,e⟩,_⟩:=x;exact lt_size e
theorem Paired.mapP:∀{l₁:List α} {l₂:List β},Paired F l₁ l₂->(∀a b,F a b->G a b)->Paired G l₁ l₂
 |_,_,.nil,_=>.nil
 |_,_,.cons r t,f=>.cons (f _ _ r) (Paired.mapP t f)
theorem aY.stay (x:aY P w H h a o) (k:∀b u,(b=a\/H b=some (.own a))->h.get? b=some u->h'.get? b=some u)
  (ho:∀b,H b=some (.own a)->H' b=some (.own a)) (ht:∀b xs,H b=some (.tup xs)->H' b=some (.tup xs)):aY P w H' h' a o:=by
 induction o with
 |lst xs=>obtain ⟨z,its,n,r,e⟩:=x;exact ⟨z,its,n,r,k _ _ (.inl rfl) e⟩
 |tup xs=>obtain ⟨z,its,r,ob,e,c⟩:=x;exact ⟨z,its,r,ob,k _ _ (.inl rfl) e,c⟩
 |dK kvs=>obtain ⟨z,y,vs,r,ob,es,ep,e,c⟩:=x;exact ⟨z,y,vs,r,ob,es,ep,k _ _ (.inl rfl) e,c⟩
 |dT kvs=>
  obtain ⟨z,y,xs,r,ob,es,ep,e,c⟩:=x;exact ⟨z,y,xs,Paired.mapP r λp q z=>⟨z.1,ht _ _ z.2.1,z.2.2⟩,ob,es,ep,k _ _ (.inl rfl) e,c⟩
 |set S n=>obtain ⟨ob,es,ep,t,e,c⟩:=x;exact ⟨ob,es,ep,t,k _ _ (.inl rfl) e,c⟩
 |ins C dx fs=>
  obtain ⟨d,z,ne,e,mA,⟨od,es,ep,e2,c⟩,r⟩:=x;exact ⟨ho _ d,z,ne,k _ _ (.inl rfl) e,mA,⟨od,es,ep,k _ _ (.inr d) e2,c⟩,r⟩
 |own y=>obtain ⟨ob,e⟩:=x;exact ⟨ob,k _ _ (.inl rfl) e⟩
 |xd fs=>obtain ⟨mA,⟨od,es,ep,e,c⟩,r⟩:=x;exact ⟨mA,⟨od,es,ep,k _ _ (.inl rfl) e,c⟩,r⟩
 |rng lo hi=>obtain ⟨t,u,v,e⟩:=x;exact ⟨t,u,v,k _ _ (.inl rfl) e⟩
 |frz ob u ih=>obtain ⟨e,q⟩:=x;exact ⟨k _ _ (.inl rfl) e,ih q⟩
 |tbl ps=>
  have e:h.get? a=some {cls:=.none,data:=.fields ps}:=x;show h'.get? a=some {cls:=.none,data:=.fields ps};exact k a _ (.inl rfl) e
 |met f y=>
  have e:h.get? a=some (PySem.W.methodObj (.ref f) (.ref y)):=x;show h'.get? a=some (PySem.W.methodObj (.ref f) (.ref y));exact k a _ (.inl rfl) e
 |ext φ=>obtain ⟨p,⟨o,e⟩,st⟩:=x;exact ⟨st _ _ p λo q=>k _ _ (.inl rfl) q,⟨o,k _ _ (.inl rfl) e⟩,st⟩
theorem eG.lt (x:eG P w H h) (e:H a=some o):a<h.objs.size:=(x a o e).lt
theorem eG.fresh (x:eG P w H h) (e:h.objs.size<=a):H a=none:=by
 cases q:H a with
 |none=>rfl
 |some u=>exact absurd (Nat.lt_of_lt_of_le (x.lt q) e) (lt_irrefl _)
theorem eG.kept (x:eG P w H h) (k:∀b u,h.get? b=some u->h'.get? b=some u):eG P w H h':=λa o e=>
 (x a o e).stay (λb u _ q=>k b u q) (λ_ q=>q) λ_ _ q=>q
theorem eG.laid (x:eG P w H h) (k:∀b u,h.get? b=some u->h'.get? b=some u) (hp:h.objs.size<=a) (new:aY P w (upd H a o) h' a o):eG P w (upd H a o) h':=λb u e=>by
 have hn:=x.fresh hp;by_cases hb:b=a
 ·subst hb;rw[aA] at e;cases e;exact new
 ·rw[aF hb] at e;exact (x b u e).stay (λc v _ q=>k c v q) (λc q=>by rw[aF (aB q hn)];exact q) λc xs q=>by rw[aF (aB q hn)];exact q
end
noncomputable def Rd (H:Hp) (a:Addr) (u:HO):Prop:=H a=some u\/∃o,H a=some (.frz o u)
theorem Rd.ok {P:Program} {w:World} {H:Hp} {h:Heap} {a:Addr} {u:HO} (r:Rd H a u) (x:eG P w H h):aY P w H h a u:=by
 rcases r with r|⟨o,r⟩
 ·exact x a u r
 ·obtain ⟨_,q⟩:=x a _ r;exact q
noncomputable def Ja:Option HO->Prop
 |some (.lst _)=>True
 |some (.dK _)=>True
 |some (.dT _)=>True
 |some (.set _ _)=>True
 |some (.ins _ _ _)=>True
 |some (.ext _)=>True
 |_=>False
section
variable {P:Program} {w:World} {H:Hp} {h h':Heap} {x e:Addr} {o':HO}
theorem eG.write (ok:eG P w H h) (mu:Ja (H x)) (he:e=x\/H e=some (.own x)) (k:∀b u,b≠e->h.get? b=some u->h'.get? b=some u) (heo:∃u,h'.get? e=some u)
  (new:aY P w (upd H x o') h' x o'):eG P w (upd H x o') h':=λb u q=>by
 have nown:∀c y,H c=some (.own y)->c≠x:=λc y r z=>by subst z;rw[r] at mu;exact mu
 have ntup:∀c xs,H c=some (.tup xs)->c≠x:=λc xs r z=>by subst z;rw[r] at mu;exact mu
 by_cases hb:b=x
 ·subst hb;rw[aA] at q;cases q;exact new
 ·rw[aF hb] at q;by_cases hbe:b=e
  ·have q':H b=some (.own x):=by
    rcases he with z|z
    ·exact absurd (hbe.trans z) hb
    ·rw[hbe];exact z
   rw[q] at q';cases q';obtain ⟨v,hv⟩:=heo;exact ⟨v,by rw[hbe];exact hv⟩
  ·refine (ok b u q).stay (λc v hc r=>k c v ?_ r) (λc r=>by rw[aF (nown c b r)];exact r) λc xs r=>by rw[aF (ntup c xs r)];exact r
   rcases hc with rfl|hc
   ·exact hbe
   ·rintro rfl;rcases he with z|z
    ·exact nown c b hc z
    ·rw[hc] at z;cases z;exact hb rfl
end
structure Un (fs ex:List Addr) (H H':Hp) (h h':Heap):Prop where
 keep:∀b o,h.get? b=some o->H b=none->b∉fs->b∉ex->h'.get? b=some o
 slot:∀b o,h.get? b=some o->H b=none->b∈fs->b∉ex->∃sl,h'.get? b=some {o with slots:=sl}
 free:∀b o,h.get? b=some o->H b=none->b∉ex->H' b=none
 there:∀b o,h.get? b=some o->b∉ex->∃o',h'.get? b=some o'
 tups:∀b xs,H b=some (.tup xs)->H' b=some (.tup xs)
 frzs:∀b o u,H b=some (.frz o u)->H' b=some (.frz o u)
 tbls:∀b ps,H b=some (.tbl ps)->∃more,H' b=some (.tbl (ps++more))
section
variable {fs fs' ex ex':List Addr} {H H1 H2:Hp} {h h1 h2 h':Heap} {a x e:Addr} {o:HO}
theorem Un.any (u:Un fs ex H H1 h h1) {b:Addr} {ob:Obj} (q:h.get? b=some ob) (n:H b=none) (hx:b∉ex):∃sl,h1.get? b=some {ob with slots:=sl}:=by
 by_cases hb:b∈fs
 ·exact u.slot b ob q n hb hx
 ·exact ⟨ob.slots,u.keep b ob q n hb hx⟩
theorem Un.kept (k:∀b u,h.get? b=some u->h'.get? b=some u):Un fs ex H H h h':=
 ⟨λb ob q _ _ _=>k b ob q,λb ob q _ _ _=>⟨ob.slots,k b ob q⟩,λ_ _ _ n _=>n,λb ob q _=>⟨ob,k b ob q⟩,λ_ _ q=>q,λ_ _ _ q=>q,λ_ ps q=>⟨#[],by rw[q];simp⟩⟩
theorem Un.refl:Un fs ex H H h h:=Un.kept λ_ _ q=>q
theorem Un.laid (k:∀b u,h.get? b=some u->h'.get? b=some u) (hp:h.objs.size<=a) (hn:H a=none):Un fs ex H (upd H a o) h h' where
 keep:=λb u q _ _ _=>k b u q
 slot:=λb u q _ _ _=>⟨u.slots,k b u q⟩
 free:=λb u q n _=>by rw[aF (ne_of_lt (Nat.lt_of_lt_of_le (lt_size q) hp))];exact n
 there:=λb u q _=>⟨u,k b u q⟩
 tups:=λb xs q=>by rw[aF (aB q hn)];exact q
 frzs:=λb u xs q=>by rw[aF (aB q hn)];exact q
 tbls:=λb ps q=>⟨#[],by rw[aF (aB q hn),q];simp⟩
theorem Un.write (mu:Ja (H x)) (he:e=x\/H e=some (.own x)) (k:∀b u,b≠e->h.get? b=some u->h'.get? b=some u) (heo:∃u,h'.get? e=some u):Un fs ex H (upd H x o) h h':=by
 have hx:∀b,H b=none->b≠x:=λb n z=>by subst z;rw[n] at mu;exact mu
 have hb:∀b,H b=none->b≠e:=λb n z=>by
  subst z;rcases he with r|r
  ·exact hx b n r
  ·rw[n] at r;cases r
 have hm:∀b u,H b=some u->¬Ja (some u)->b≠x:=λb u q nm z=>by subst z;rw[q] at mu;exact nm mu
 refine ⟨λb u q n _ _=>k b u (hb b n) q,λb u q n _ _=>⟨u.slots,k b u (hb b n) q⟩,λb u q n _=>by rw[aF (hx b n)];exact n,λb u q _=>?_,
  λb xs q=>by rw[aF (hm b _ q λz=>z)];exact q,λb u xs q=>by rw[aF (hm b _ q λz=>z)];exact q,λb ps q=>⟨#[],by rw[aF (hm b _ q λz=>z),q];simp⟩⟩
 by_cases hbe:b=e
 ·subst hbe;exact heo
 ·exact ⟨u,k b u hbe q⟩
end
noncomputable def Jh (h:Heap) (H:Hp):List Addr:=(range h.objs.size).filter λa=>(H a).isSome
noncomputable def wB (h:Heap) (H:Hp):Heap:=PySem.W.hideAll h (Jh h H)
theorem HC (h:Heap) (H:Hp):(wB h H).objs.size=h.objs.size:=PySem.W.hideAll_size _ _
theorem NB (e:h.get? b=some o) (n:H b=none):(wB h H).get? b=some o:=
 PySem.W.hideAll_get _ e λhm=>by
  have q:(H b).isSome=true:=(mem_filter.mp hm).2;rw[n] at q;simp at q
theorem RV (e:(wB h H).get? b=some o):h.get? b=some o/\H b=none:=by
 have e':h.get? b=some o:=PySem.W.of_hideAll (Jh h H) e;refine ⟨e',?_⟩;cases q:H b with
 |none=>rfl
 |some x=>
  have hm:b∈Jh h H:=mem_filter.mpr ⟨mem_range.mpr (lt_size e'),by simp [q]⟩;have z:(wB h H).get? b=none:=PySem.W.hideAll_none (Jh h H) hm;rw[z] at e;cases e
structure Mod (K:Fg) (mg:Str->Option Value) (base:Heap):Prop where
 kin:K.In base
 glob:base.Ns mainGlobals mg
 blt:∃mb,base.Ns builtinsNs mb/\∀x:Str,x≠"__name__"->mb x=bootBuiltins x
 nolimit:base.NoLimit
structure Cx where
 prog:Program
 w:World
 K:Fg
 mg:Str->Option Value
 base:Heap
 A:Around
 N:List Str
 s₀:Shared
 H₀:Hp
 env:Env
 outer:List Env
 stack:List Env
 ex:List Addr
 fn:Str->Bool
 calm:Bool
 pn:List (Addr × Obj)
 xe:Value->Shared->Prop
noncomputable def fV (l:List Env):List Addr:=l.filterMap (·.frame)
noncomputable abbrev Cx.fs (X:Cx):List Addr:=fV X.outer
noncomputable def Jn (sc:Scope) (x:Str):Prop:=sc.names.lookup x=some .local\/sc.names.lookup x=some .cell\/sc.names.lookup x=some .free
noncomputable def Loc (sc:Scope) (x:Str):Prop:=sc.names.lookup x=some .local\/sc.names.lookup x=some .cell
noncomputable def Look (env:Env) (h:Heap) (m:Str->Option Value) (x:Str) (u:Value):Prop:=
 (env.kindOf x=some .local/\m x=some u)\/((env.kindOf x=some .cell\/env.kindOf x=some .free)/\∃c,env.cells.lookup x=some c/\h.IsCell c (some u))
structure Cx.Ok (X:Cx):Prop where
 mod:Mod X.K X.mg X.base
 kind:X.env.scope.kind=.function
 glob:X.env.globals=mainGlobals
 blt:X.env.builtins=builtinsNs
 above:X.s₀.heap.objs.size<=X.env.locals
 inj:∀x y c,X.env.cells.lookup x=some c->X.env.cells.lookup y=some c->x=y
 has:∀x,(X.env.kindOf x=some .cell\/X.env.kindOf x=some .free)->∃c,X.env.cells.lookup x=some c
 cab:∀x c,X.fn x=true->X.env.cells.lookup x=some c->X.s₀.heap.objs.size<=c
 hd:X.calm=true->X.A.handled=none
 frames:X.A.frames=some X.stack
 stk:X.stack=X.outer\/(X.stack=X.env::X.outer/\X.env.frame=some X.env.locals)
 exf:∀b∈X.ex,b≠X.env.locals/\∀x c,X.env.cells.lookup x=some c->c≠b
 bs:∀b o,X.base.get? b=some o->X.s₀.heap.get? b=some o/\X.H₀ b=none
 bsz:X.base.objs.size<=X.s₀.heap.objs.size
 noex:∀b o,X.base.get? b=some o->b∉X.ex
 exfs:∀b∈X.ex,b∉X.fs
 funs:X.s₀.heap.FunFrames X.base X.outer
 frf:∀b∈X.fs,X.H₀ b=none
structure Inv (X:Cx) (pins:List (Addr × Obj)) (σ:List (Option V)) (H:Hp) (s:Shared):Prop where
 ok:X.Ok
 os:s.os=X.s₀.os
 bare:AllBare s.gens
 base:Un X.fs X.ex X.H₀ H X.s₀.heap s.heap
 loc:∃m,s.heap.Ns X.env.locals m/\∀(i:Nat) (x:Str) (v:V),X.N[i]?=some x->σ[i]?=some (some v)->Jn X.env.scope x->∃u,RelV v u/\Look X.env s.heap m x u
 cell:∀x c,X.env.cells.lookup x=some c->∃v,s.heap.IsCell c v
 free:H X.env.locals=none
 freeC:∀x c,X.env.cells.lookup x=some c->H c=none
 pin:∀p∈X.pn++pins,s.heap.get? p.1=some p.2/\H p.1=none/\p.1≠X.env.locals/\p.1∉X.fs/\∀v,p.2.data≠.cell v
 hok:eG X.prog X.w H s.heap
 len:σ.length=X.N.length
section
variable {X:Cx} {pins:List (Addr × Obj)} {σ:List (Option V)} {H H':Hp} {s:Shared} {h':Heap}
theorem Cx.Ok.nofr (ok:X.Ok) (e:X.base.get? b=some o):b∉X.fs:=λhb=>by
 have:=(ok.funs.mem hb).1;rw[e] at this;cases this
theorem Inv.bs (I:Inv X pins σ H s):∀b o,X.base.get? b=some o->s.heap.get? b=some o/\H b=none:=λb o e=>
 ⟨I.base.keep b o (I.ok.bs b o e).1 (I.ok.bs b o e).2 (I.ok.nofr e) (I.ok.noex b o e),I.base.free b o (I.ok.bs b o e).1 (I.ok.bs b o e).2 (I.ok.noex b o e)⟩
theorem Inv.bk (I:Inv X pins σ H s):∀b o,X.base.get? b=some o->s.heap.get? b=some o:=λb o e=>(I.bs b o e).1
theorem Inv.mod (I:Inv X pins σ H s):Mod X.K X.mg X.base:=I.ok.mod
theorem Inv.kIn (I:Inv X pins σ H s):X.K.In s.heap:=I.ok.mod.kin.keeps I.bk
theorem Inv.nolimit (I:Inv X pins σ H s):s.heap.NoLimit:=I.ok.mod.nolimit.keeps I.bk
theorem Inv.lt (I:Inv X pins σ H s):X.env.locals<s.heap.objs.size:=let ⟨_,hn,_⟩:=I.loc;hn.lt
theorem Inv.sz (I:Inv X pins σ H s):X.s₀.heap.objs.size<=s.heap.objs.size:=le_trans I.ok.above (le_of_lt I.lt)
theorem Inv.nofs (I:Inv X pins σ H s) (h:s.heap.objs.size<=a):a∉X.fs:=λhb=>by
 obtain ⟨_,o,ho,_⟩:=I.ok.funs.mem hb;exact absurd (Nat.lt_of_lt_of_le (lt_size ho) (le_trans I.sz h)) (lt_irrefl _)
theorem Inv.cne (I:Inv X pins σ H s):∀x c,X.env.cells.lookup x=some c->c≠X.env.locals:=λx c e z=>by
 obtain ⟨v,o,ho,hd⟩:=I.cell x c e;obtain ⟨m,⟨o',es,ep,ho',hd',_⟩,_⟩:=I.loc;rw[z,ho'] at ho;cases ho;rw[hd'] at hd;cases hd
theorem Inv.funs (I:Inv X pins σ H s):s.heap.FunFrames X.base X.outer:=by
 have all:∀(l:List Env),(∀b∈fV l,b∈X.fs)->X.s₀.heap.FunFrames X.base l->s.heap.FunFrames X.base l:=by
  intro l;induction l with
  |nil=>intro _ _;trivial
  |cons env r ih=>
   intro hs hl;obtain ⟨hk,⟨L,o,hf,hn,ho,hd⟩,hr⟩:=hl;have hL:L∈X.fs:=hs L (by unfold fV;rw[List.filterMap_cons,hf];exact mem_cons_self);obtain ⟨sl,e⟩:=I.base.slot L o ho (I.ok.frf L hL) hL λz=>I.ok.exfs L z hL;exact ⟨hk,⟨L,_,hf,hn,e,hd⟩,ih (λb hb=>hs b (by unfold fV;rw[List.filterMap_cons,hf];exact mem_cons_of_mem _ hb)) hr⟩
 exact all X.outer (λ_ hb=>hb) I.ok.funs
theorem Inv.stack (I:Inv X pins σ H s):s.heap.FunFrames X.base X.stack:=by
 rcases I.ok.stk with e|⟨e,hf⟩
 ·rw[e];exact I.funs
 ·rw[e];obtain ⟨m,hn,_⟩:=I.loc;refine .cons (by rw[I.ok.kind];decide) hf hn ?_ I.funs;exact Heap.get?_none_of_le (le_trans I.ok.bsz I.ok.above)
theorem Inv.stkSub (I:Inv X pins σ H s):∀b∈fV X.stack,b∈X.env.locals::X.fs:=λb hb=>by
 rcases I.ok.stk with e|⟨e,hf⟩
 ·rw[e] at hb;exact mem_cons_of_mem _ hb
 ·rw[e] at hb;unfold fV at hb;rw[List.filterMap_cons,hf] at hb;exact hb
theorem Inv.stkFree (I:Inv X pins σ H s):∀b∈fV X.stack,H b=none:=λb hb=>by
 rcases mem_cons.mp (I.stkSub b hb) with e|hb
 ·rw[e];exact I.free
 ·obtain ⟨_,o,ho,_⟩:=I.ok.funs.mem hb;exact I.base.free b o ho (I.ok.frf b hb) λz=>I.ok.exfs b z hb
theorem Inv.step {g':Array GenState} {t':Nat} {d':Drawn} {ch:List Addr} (I:Inv X pins σ H s)
  (hch:∀b∈ch,(b∈X.ex\/X.s₀.heap.objs.size<=b)/\b≠X.env.locals/\(∀x c,X.env.cells.lookup x=some c->c≠b)/\∀p∈X.pn++pins,p.1≠b)
  (keep:∀b o,b≠X.env.locals->b∉X.fs->b∉ch->s.heap.get? b=some o->H b=none->h'.get? b=some o)
  (slot:∀b o,b≠X.env.locals->b∈X.fs->b∉ch->s.heap.get? b=some o->H b=none->∃sl,h'.get? b=some {o with slots:=sl}) (free:∀b o,b∉ch->s.heap.get? b=some o->H b=none->H' b=none)
  (there:∀b o,b∉ch->s.heap.get? b=some o->∃o',h'.get? b=some o')
  (tups:∀b xs,H b=some (.tup xs)->H' b=some (.tup xs)) (frzs:∀b o u,H b=some (.frz o u)->H' b=some (.frz o u)) (tbls:∀b ps,H b=some (.tbl ps)->∃more,H' b=some (.tbl (ps++more)))
  (ns:∀m,s.heap.Ns X.env.locals m->h'.Ns X.env.locals m) (hok:eG X.prog X.w H' h') (hg:AllBare g'):
  Inv X pins σ H' {s with heap:=h',gens:=g',drawn:=d',toks:=t'}:=by
 have neL:∀b o,X.s₀.heap.get? b=some o->b≠X.env.locals:=λb o e=>ne_of_lt (Nat.lt_of_lt_of_le (lt_size e) I.ok.above);have neC:∀b o,X.s₀.heap.get? b=some o->b∉X.ex->b∉ch:=λb o e hx hb=>by
  rcases (hch b hb).1 with z|z
  ·exact hx z
  ·exact absurd (Nat.lt_of_lt_of_le (lt_size e) z) (lt_irrefl _)
 have cellK:∀x c,X.env.cells.lookup x=some c->∀v,s.heap.IsCell c v->h'.IsCell c v:=λx c e v ⟨o,ho,hd⟩=>by
  have nch:c∉ch:=λz=>(hch c z).2.2.1 x c e rfl;by_cases hc:c∈X.fs
  ·obtain ⟨sl,q⟩:=slot c o (I.cne x c e) hc nch ho (I.freeC x c e);exact ⟨_,q,hd⟩
  ·exact ⟨o,keep c o (I.cne x c e) hc nch ho (I.freeC x c e),hd⟩
 refine ⟨I.ok,I.os,hg,⟨λb o e n hb hx=>?_,λb o e n hb hx=>?_,λb o e n hx=>?_,λb o e hx=>?_,λb xs e=>tups b xs (I.base.tups b xs e),λb o xs e=>frzs b o xs (I.base.frzs b o xs e),λb ps e=>?_⟩,?_,λx c e=>?_,?_,λx c e=>?_,λp hp=>?_,hok,I.len⟩
 ·exact keep b o (neL b o e) hb (neC b o e hx) (I.base.keep b o e n hb hx) (I.base.free b o e n hx)
 ·obtain ⟨sl,e1⟩:=I.base.slot b o e n hb hx;obtain ⟨sl',e2⟩:=slot b _ (neL b o e) hb (neC b o e hx) e1 (I.base.free b o e n hx);exact ⟨sl',e2⟩
 ·obtain ⟨o',e1⟩:=I.base.there b o e hx;exact free b o' (neC b o e hx) e1 (I.base.free b o e n hx)
 ·obtain ⟨o',e1⟩:=I.base.there b o e hx;exact there b o' (neC b o e hx) e1
 ·obtain ⟨m1,e1⟩:=I.base.tbls b ps e;obtain ⟨m2,e2⟩:=tbls b _ e1;exact ⟨m1++m2,by rw[e2,Array.append_assoc]⟩
 ·obtain ⟨m,hn,hl⟩:=I.loc;refine ⟨m,ns m hn,λi x v e1 e2 e3=>?_⟩;obtain ⟨u,r,l⟩:=hl i x v e1 e2 e3;refine ⟨u,r,?_⟩;rcases l with l|⟨k,c,e,z⟩
  ·exact .inl l
  ·exact .inr ⟨k,c,e,cellK x c e _ z⟩
 ·obtain ⟨v,z⟩:=I.cell x c e;exact ⟨v,cellK x c e v z⟩
 ·obtain ⟨m,⟨o,_,_,ho,_⟩,_⟩:=I.loc;exact free _ o (λz=>(hch _ z).2.1 rfl) ho I.free
 ·obtain ⟨v,o,ho,hd⟩:=I.cell x c e;exact free c o (λz=>(hch c z).2.2.1 x c e rfl) ho (I.freeC x c e)
 ·obtain ⟨e,n,ne,nf,d⟩:=I.pin p hp;have nch:p.1∉ch:=λz=>(hch p.1 z).2.2.2 p hp rfl;exact ⟨keep p.1 p.2 ne nf nch e n,free p.1 p.2 nch e n,ne,nf,d⟩
theorem Inv.un {t':Nat} (I:Inv X pins σ H s) (u:Un X.fs [] H H' s.heap h') (hok:eG X.prog X.w H' h'):Inv X pins σ H' {s with heap:=h',toks:=t'}:=by
 obtain ⟨m,⟨o,es,ep,ho,r⟩,_⟩:=id I.loc;obtain ⟨sl,hL⟩:=u.any ho I.free (by simp);exact I.step (g':=s.gens) (d':=s.drawn) (ch:=[]) (λ_ z=>nomatch z) (λb o _ hb _ e n=>u.keep b o e n hb (by simp)) (λb o _ hb _ e n=>u.slot b o e n hb (by simp)) (λb o _ e n=>u.free b o e n (by simp)) (λb o _ e=>u.there b o e (by simp)) u.tups u.frzs u.tbls (λm' hm=>by
  obtain ⟨o',es',ep',ho',r'⟩:=hm
  rw[ho] at ho';cases ho'
  exact ⟨_,es',ep',hL,r'⟩) hok I.bare
theorem Inv.call {g':Array GenState} {t':Nat} {d':Drawn} {ch:List Addr} (I:Inv X pins σ H s) (u:Un (fV X.stack) ch H H' s.heap h') (hok:eG X.prog X.w H' h') (hg:AllBare g')
  (hch:∀b∈ch,(b∈X.ex\/X.s₀.heap.objs.size<=b)/\b≠X.env.locals/\(∀x c,X.env.cells.lookup x=some c->c≠b)/\∀p∈X.pn++pins,p.1≠b):
  Inv X pins σ H' {s with heap:=h',gens:=g',drawn:=d',toks:=t'}:=by
 obtain ⟨m,⟨o,es,ep,ho,r⟩,_⟩:=id I.loc;obtain ⟨sl,hL⟩:=u.any ho I.free λz=>(hch _ z).2.1 rfl;exact I.step (ch:=ch) hch (λb o hL hb hc e n=>u.keep b o e n (λz=>(mem_cons.mp (I.stkSub b z)).elim hL hb) hc) (λb o _ _ hc e n=>u.any e n hc) (λb o hc e n=>u.free b o e n hc) (λb o hc e=>u.there b o e hc) u.tups u.frzs u.tbls (λm' hm=>by
  obtain ⟨o',es',ep',ho',r'⟩:=hm
  rw[ho] at ho';cases ho'
  exact ⟨_,es',ep',hL,r'⟩) hok hg
theorem Inv.turned {t':Nat} {it:Addr} (I:Inv X pins σ H s) (k:∀b o,b≠it->s.heap.get? b=some o->h'.get? b=some o) (hn:H it=none) (hL:it≠X.env.locals)
  (h1:it∈X.ex\/X.s₀.heap.objs.size<=it) (h2:∀x c,X.env.cells.lookup x=some c->c≠it) (h3:∀p∈X.pn++pins,p.1≠it):Inv X pins σ H {s with heap:=h',toks:=t'}:=by
 have nit:∀b u,H b=some u->b≠it:=λb u e z=>by rw[z,hn] at e;cases e
 refine I.step (g':=s.gens) (d':=s.drawn) (ch:=[it]) (λb hb=>?_) (λb o _ _ hc e _=>k b o (λz=>hc (by simp [z])) e) (λb o _ _ hc e _=>⟨o.slots,k b o (λz=>hc (by simp [z])) e⟩) (λ_ _ _ _ n=>n)
  (λb o hc e=>⟨o,k b o (λz=>hc (by simp [z])) e⟩) (λ_ _ e=>e) (λ_ _ _ e=>e) (λb ps e=>⟨#[],by rw[e];simp⟩) (λm hm=>?_) (λb u e=>?_) I.bare
 ·have e:b=it:=by simpa using hb
  subst e;exact ⟨h1,hL,h2,h3⟩
 ·obtain ⟨o,es,ep,ho,r⟩:=hm;exact ⟨o,es,ep,k _ o (Ne.symm hL) ho,r⟩
 ·refine (I.hok b u e).stay (λc v hc q=>k c v ?_ q) (λ_ q=>q) λ_ _ q=>q;rcases hc with z|z
  ·rw[z];exact nit b u e
  ·exact nit c _ z
theorem Inv.tok (I:Inv X pins σ H s) (t:Nat):Inv X pins σ H {s with toks:=t}:=I.un (h':=s.heap) (t':=t) Un.refl I.hok
theorem Inv.kept {t':Nat} (I:Inv X pins σ H s) (k:∀b u,s.heap.get? b=some u->h'.get? b=some u):Inv X pins σ H {s with heap:=h',toks:=t'}:=I.un (Un.kept k) (I.hok.kept k)
theorem Inv.laid {a:Addr} {o:HO} {t':Nat} (I:Inv X pins σ H s) (k:∀b u,s.heap.get? b=some u->h'.get? b=some u) (hp:s.heap.objs.size<=a) (new:aY X.prog X.w (upd H a o) h' a o):
  Inv X pins σ (upd H a o) {s with heap:=h',toks:=t'}:=I.un (Un.laid k hp (I.hok.fresh hp)) (I.hok.laid k hp new)
theorem Inv.write (I:Inv X pins σ H s) (mu:Ja (H x)) (he:e=x\/H e=some (.own x)) (k:∀b u,b≠e->s.heap.get? b=some u->h'.get? b=some u) (heo:∃u,h'.get? e=some u)
  (new:aY X.prog X.w (upd H x o) h' x o):Inv X pins σ (upd H x o) {s with heap:=h',toks:=t'}:=I.un (Un.write mu he k heo) (I.hok.write mu he k heo new)
theorem Inv.pins_of (I:Inv X pins σ H s) (h:∀p∈pins',s.heap.get? p.1=some p.2/\H p.1=none/\p.1≠X.env.locals/\p.1∉X.fs/\∀v,p.2.data≠.cell v):Inv X pins' σ H s:=
 ⟨I.ok,I.os,I.bare,I.base,I.loc,I.cell,I.free,I.freeC,λp hp=>(mem_append.mp hp).elim (λz=>I.pin p (mem_append_left _ z)) (h p),I.hok,I.len⟩
theorem yP {N:List Str} (hN:N.Nodup) {i j:Nat} {x:Str} (a:N[i]?=some x) (b:N[j]?=some x):i=j:=by
 obtain ⟨h1,e1⟩:=List.getElem?_eq_some_iff.mp a;obtain ⟨h2,e2⟩:=List.getElem?_eq_some_iff.mp b;exact (List.getElem_inj hN).mp (e1.trans e2.symm)
theorem sI (I:Inv X pins σ H s) (hN:X.N.Nodup) (hi:X.N[i]?=some x) (hx:Loc X.env.scope x) (r:RelV v u)
  (h:∀s',Inv X pins (σ.set i (some v)) H s'->(∃a,SameBut a s.heap s'.heap/\(a=X.env.locals\/X.env.cells.lookup x=some a))->Q () s') (hf:X.fn x=true\/X.env.scope.names.lookup x=some .local:=by first|exact .inl rfl|exact .inr rfl|assumption):wpAny M A (storeName X.env x u) Q E s:=by
 obtain ⟨m,hn,hl⟩:=id I.loc;have hcls:(X.env.scope.kind==.class || (X.env.scope.kind==.module&&X.env.locals != X.env.globals))=false:=by rw[I.ok.kind];rfl
 have hiσ:i<σ.length:=by rw[I.len];exact (List.getElem?_eq_some_iff.mp hi).1
 have cne:=I.cne;have tracked:∀{a:Addr} {h':Heap},(∃o,s.heap.get? a=some o/\H a=none)->SameBut a s.heap h'->eG X.prog X.w H h':=λ{a h'} ha hs b ob e=>by
  obtain ⟨_,_,hfree⟩:=ha;refine (I.hok b ob e).stay (λc w' hc q=>(hs.2 c ?_).trans q) (λ_ q=>q) λ_ _ q=>q;rintro rfl;rcases hc with rfl|hc
  ·rw[hfree] at e;cases e
  ·rw[hfree] at hc;cases hc
 rcases hx with hk|hk
 ·refine wpAny_storeName_local hk hn (λh' hn' hs=>?_) hcls;obtain ⟨oL,_,_,hoL,_⟩:=id hn;refine h _ ⟨I.ok,I.os,I.bare,⟨λb o e n hb hx=>?_,λb o e n hb hx=>?_,I.base.free,λb o e hx=>?_,I.base.tups,I.base.frzs,I.base.tbls⟩,⟨_,hn',λj y v' e1 e2 e3=>?_⟩,λy c e=>?_,I.free,I.freeC,λp hp=>?_,tracked ⟨oL,hoL,I.free⟩ hs,by simpa using I.len⟩ ⟨_,hs,.inl rfl⟩
  ·exact (hs.2 b (ne_of_lt (Nat.lt_of_lt_of_le (lt_size e) I.ok.above))).trans (I.base.keep b o e n hb hx)
  ·obtain ⟨sl,e1⟩:=I.base.slot b o e n hb hx;exact ⟨sl,(hs.2 b (ne_of_lt (Nat.lt_of_lt_of_le (lt_size e) I.ok.above))).trans e1⟩
  ·obtain ⟨o',e1⟩:=I.base.there b o e hx;exact ⟨o',(hs.2 b (ne_of_lt (Nat.lt_of_lt_of_le (lt_size e) I.ok.above))).trans e1⟩
  ·by_cases hj:j=i
   ·subst hj;rw[hi] at e1;cases e1;rw[List.getElem?_set_self hiσ] at e2;cases e2;exact ⟨u,r,.inl ⟨hk,by simp⟩⟩
   ·rw[List.getElem?_set_ne (Ne.symm hj)] at e2;obtain ⟨u',r',q⟩:=hl j y v' e1 e2 e3;refine ⟨u',r',?_⟩;rcases q with ⟨k,e⟩|⟨k,c,e,z⟩
    ·refine .inl ⟨k,?_⟩;have:y≠x:=λe=>hj (yP hN e1 (e▸hi));simp [this,e]
    ·exact .inr ⟨k,c,e,z.sameBut hs (cne y c e)⟩
  ·obtain ⟨w',z⟩:=I.cell y c e;exact ⟨w',z.sameBut hs (cne y c e)⟩
  ·obtain ⟨e,n,ne,nf,d⟩:=I.pin p hp;exact ⟨(hs.2 p.1 ne).trans e,n,ne,nf,d⟩
 ·have hfn:X.fn x=true:=by
   rcases hf with z|z
   ·exact z
   ·rw[z] at hk;cases hk
  obtain ⟨c,hc⟩:=I.ok.has x (.inl hk);obtain ⟨w',z⟩:=I.cell x c hc;refine wpAny_storeName_cell I.ok.kind hk hc z (λh' hc' hs=>?_);obtain ⟨oc,hoc,hocd⟩:=id z;refine h {s with heap:=h'} ⟨I.ok,I.os,I.bare,⟨λb o e n hb hx=>?_,λb o e n hb hx=>?_,I.base.free,λb o e hx=>?_,I.base.tups,I.base.frzs,I.base.tbls⟩,⟨m,hn.sameBut hs (Ne.symm (cne x c hc)),λj y v' e1 e2 e3=>?_⟩,λy c' e=>?_,I.free,I.freeC,λp hp=>?_,tracked ⟨oc,hoc,I.freeC x c hc⟩ hs,by simpa using I.len⟩ ⟨c,hs,.inr hc⟩
  ·exact (hs.2 b (ne_of_lt (Nat.lt_of_lt_of_le (lt_size e) (I.ok.cab x c hfn hc)))).trans (I.base.keep b o e n hb hx)
  ·obtain ⟨sl,e1⟩:=I.base.slot b o e n hb hx;exact ⟨sl,(hs.2 b (ne_of_lt (Nat.lt_of_lt_of_le (lt_size e) (I.ok.cab x c hfn hc)))).trans e1⟩
  ·obtain ⟨o',e1⟩:=I.base.there b o e hx;exact ⟨o',(hs.2 b (ne_of_lt (Nat.lt_of_lt_of_le (lt_size e) (I.ok.cab x c hfn hc)))).trans e1⟩
  ·by_cases hj:j=i
   ·subst hj;rw[hi] at e1;cases e1;rw[List.getElem?_set_self hiσ] at e2;cases e2;exact ⟨u,r,.inr ⟨.inl hk,c,hc,hc'⟩⟩
   ·rw[List.getElem?_set_ne (Ne.symm hj)] at e2;obtain ⟨u',r',q⟩:=hl j y v' e1 e2 e3;refine ⟨u',r',?_⟩;rcases q with q|⟨k,c',e,z'⟩
    ·exact .inl q
    ·refine .inr ⟨k,c',e,z'.sameBut hs ?_⟩;rintro rfl;exact hj (yP hN e1 (I.ok.inj _ _ _ e hc▸hi))
  ·by_cases hcc:c'=c
   ·subst hcc;exact ⟨_,hc'⟩
   ·obtain ⟨w2,z2⟩:=I.cell y c' e;exact ⟨w2,z2.sameBut hs hcc⟩
  ·obtain ⟨e,n,ne,nf,d⟩:=I.pin p hp;refine ⟨(hs.2 p.1 ?_).trans e,n,ne,nf,d⟩;intro q;rw[q,hoc] at e;have q':oc=p.2:=Option.some.inj e;exact d w' (by rw[<-q'];exact hocd)
theorem xP {M:Model} {A:Around} {E:Value->Shared->Prop} {i:Nat} {x:Str} {v:V} {u:Value} {Q:Unit->Shared->Prop} (I:Inv X pins σ H s) (hN:X.N.Nodup) (hi:X.N[i]?=some x) (hx:Loc X.env.scope x) (r:RelV v u)
  (h:∀s',Inv X pins (σ.set i (some v)) H s'->Q () s') (hf:X.fn x=true\/X.env.scope.names.lookup x=some .local:=by first|exact .inl rfl|exact .inr rfl|assumption):wpAny M A (storeName X.env x u) Q E s:=
 sI I hN hi hx r (λs' I' _=>h s' I') hf
theorem Inv.call' (I:Inv X pins σ H s) (ho:s'.os=s.os) (u:Un (fV X.stack) ch H H' s.heap s'.heap) (hok:eG X.prog X.w H' s'.heap) (hg:AllBare s'.gens)
  (hch:∀b∈ch,(b∈X.ex\/X.s₀.heap.objs.size<=b)/\b≠X.env.locals/\(∀x c,X.env.cells.lookup x=some c->c≠b)/\∀p∈X.pn++pins,p.1≠b):Inv X pins σ H' s':=by
 obtain ⟨h',g',d',t',o'⟩:=s';have e:o'=s.os:=ho;subst e;exact I.call (g':=g') (t':=t') (d':=d') u hok hg hch
end
noncomputable abbrev XK:=Value->Option Addr->Hp->Prop
noncomputable abbrev St:=List (Option V)
noncomputable abbrev VK:=V->Hp->Prop
noncomputable abbrev TE:=St->Hp->VK->Prop
noncomputable abbrev TT:=St->Hp->(Bool->Hp->Prop)->Prop
noncomputable abbrev TA:=St->Hp->(List V->Hp->Prop)->Prop
structure Ends where
 nx:St->Hp->Prop
 rt:VK
 bk:St->Hp->Prop:=λ_ _=>False
 ct:St->Hp->Prop:=λ_ _=>False
noncomputable abbrev TS:=Ends->St->Hp->Prop
noncomputable def EP (X:Cx) (pins:List (Addr × Obj)) (σ:St) (Q:VK) (u:Value) (s':Shared):Prop:=∃v H',Inv X pins σ H' s'/\RelV v u/\Q v H'
noncomputable def TP (X:Cx) (pins:List (Addr × Obj)) (σ:St) (Q:Bool->Hp->Prop) (b:Bool) (s':Shared):Prop:=∃H',Inv X pins σ H' s'/\Q b H'
noncomputable def AP (X:Cx) (pins:List (Addr × Obj)) (σ:St) (Q:List V->Hp->Prop) (us:List Value) (s':Shared):Prop:=∃vs H',Inv X pins σ H' s'/\Vals vs us/\Q vs H'
noncomputable def SP (X:Cx) (pins:List (Addr × Obj)) (D:Ends) (f:Flow) (s':Shared):Prop:=
 match f with
 | .next=>∃σ' H',Inv X pins σ' H' s'/\D.nx σ' H'
 | .brk=>∃σ' H',Inv X pins σ' H' s'/\D.bk σ' H'
 | .cont=>∃σ' H',Inv X pins σ' H' s'/\D.ct σ' H'
 | .ret u=>∃v σ' H',Inv X pins σ' H' s'/\RelV v u/\D.rt v H'
noncomputable def PE (X:Cx) (e:Expr) (t:TE):Prop:=
 ∀(pins:List (Addr × Obj)) (s:Shared) (σ:St) (H:Hp) (Q:VK),Inv X pins σ H s->t σ H Q->wpAny (model X.prog X.w) X.A (eval e X.env) (EP X pins σ Q) X.xe s
noncomputable def PT (X:Cx) (e:Expr) (t:TT):Prop:=
 ∀(pins:List (Addr × Obj)) (s:Shared) (σ:St) (H:Hp) (Q:Bool->Hp->Prop),Inv X pins σ H s->t σ H Q->wpAny (model X.prog X.w) X.A (isTrue e X.env (eval e X.env)) (TP X pins σ Q) X.xe s
noncomputable def PW (X:Cx) (e:Expr) (t:TT):Prop:=
 ∀(whole:Sem Value) (pins:List (Addr × Obj)) (s:Shared) (σ:St) (H:Hp) (Q:Bool->Hp->Prop),Inv X pins σ H s->t σ H Q->wpAny (model X.prog X.w) X.A (isTrue e X.env whole) (TP X pins σ Q) X.xe s
theorem PW.pt {X:Cx} {e:Expr} {t:TT} (h:PW X e t):PT X e t:=h _
noncomputable def PA (X:Cx) (es:List Expr) (t:TA):Prop:=
 ∀(pos:Pos) (pins:List (Addr × Obj)) (s:Shared) (σ:St) (H:Hp) (Q:List V->Hp->Prop),Inv X pins σ H s->t σ H Q->wpAny (model X.prog X.w) X.A (spliced (backTo pos (starEach es X.env))) (AP X pins σ Q) X.xe s
noncomputable def PS (X:Cx) (st:Stmt) (t:TS):Prop:=
 ∀(pins:List (Addr × Obj)) (s:Shared) (σ:St) (H:Hp) (D:Ends),Inv X pins σ H s->t D σ H->wpAny (model X.prog X.w) X.A (exec st X.env) (SP X pins D) X.xe s
noncomputable def Bu (X:Cx) (st:List Stmt) (t:TS):Prop:=
 ∀(pins:List (Addr × Obj)) (s:Shared) (σ:St) (H:Hp) (D:Ends),Inv X pins σ H s->t D σ H->wpAny (model X.prog X.w) X.A (execs st X.env) (SP X pins D) X.xe s
theorem bT {α:Type} {t:Sem α} {Q Q':α->Shared->Prop} {M:Model} {A:Around} {E:Value->Shared->Prop} {s:Shared} (h:wpAny M A t Q E s) (hQ:∀a s,Q a s->Q' a s):wpAny M A t Q' E s:=wpAny_mono h hQ λ_ _ x=>x
section
variable {X:Cx}
noncomputable def Kb (i:Nat):TE:=λσ H Q=>∃v,σ[i]?=some (some v)/\Q v H
noncomputable def tC (v:V):TE:=λ_ H Q=>Q v H
theorem YO (hN:X.N[i]?=some x) (hv:Jn X.env.scope x) (hd:(x==("__debug__":Str))=false:=by decide) (hcd:(x==("__classdict__":Str))=false:=by decide):PE X (.Name x pos) (Kb i):=by
 intro pins s σ H Q I h;obtain ⟨v,e,h⟩:=h;obtain ⟨m,hn,hl⟩:=I.loc;obtain ⟨u,r,l⟩:=hl i x v hN e hv;have fin:EP X pins σ Q u s:=⟨v,H,I,r,h⟩;rcases l with ⟨hk,hm⟩|⟨hk,c,hc,hcell⟩
 ·exact wpAny_Name (wpAny_loadName_local I.ok.kind hk hn hm fin) hd
 ·rcases hk with hk|hk
  ·exact wpAny_Name (wpAny_loadName_cell I.ok.kind hk hc hcell fin) hd
  ·exact wpAny_Name (wpAny_loadName_free I.ok.kind hk hc hcell fin hcd) hd
theorem YV {i j pos}:PE X (.Constant (.int i) j pos) (tC (.int i)):=λ_ _ _ H _ I h=>wpAny_Constant_int ⟨.int i,H,I.tok _,⟨_,rfl⟩,h⟩
theorem Ep {b j pos}:PE X (.Constant (.bool b) j pos) (tC (.bl b)):=λ_ _ _ H _ I h=>Constant_bool ⟨.bl b,H,I,rfl,h⟩
theorem YT {j pos}:PE X (.Constant .none j pos) (tC .non):=λ_ _ _ H _ I h=>Constant_none ⟨.non,H,I,rfl,h⟩
theorem YR {x j pos}:PE X (.Constant (.str x) j pos) (tC (.str x)):=λ_ _ _ H _ I h=>Calls.Constant_str ⟨.str x,H,I.tok _,⟨_,rfl⟩,h⟩
noncomputable def Gl (X:Cx) (x:Str):Prop:=X.env.kindOf x=some .globalImplicit
theorem jB {E:Value->Shared->Prop} {pins:List (Addr × Obj)} {s:Shared} {σ:St} {H:Hp} {x:Str} {u:Value} {pos:Pos} {Q:Value->Shared->Prop} (I:Inv X pins σ H s) (hg:Gl X x) (hm:X.mg x=some u) (h:Q u s)
  (hd:(x==("__debug__":Str))=false:=by decide):wpAny (model X.prog X.w) X.A (eval (.Name x pos) X.env) Q E s:=
 Calls.Name_function_global I.ok.kind hg (Calls.loadGlobal_global (by rw[I.ok.glob];exact I.mod.glob.keeps I.bk) hm h) hd
theorem fM {E:Value->Shared->Prop} {pins:List (Addr × Obj)} {s:Shared} {σ:St} {H:Hp} {x:Str} {u:Value} {pos:Pos} {Q:Value->Shared->Prop} (I:Inv X pins σ H s) (hg:Gl X x) (hm:X.mg x=none) (hv:bootBuiltins x=some u) (h:Q u s)
  (hn:x≠"__name__":=by decide) (hd:(x==("__debug__":Str))=false:=by decide):wpAny (model X.prog X.w) X.A (eval (.Name x pos) X.env) Q E s:=by
 obtain ⟨mb,h1,h2⟩:=I.mod.blt;exact Calls.Name_function_global I.ok.kind hg (Calls.loadGlobal_builtin (by rw[I.ok.glob];exact I.mod.glob.keeps I.bk) hm (by rw[I.ok.blt];exact h1.keeps I.bk) ((h2 x hn).trans hv) h) hd
theorem RF (hg:Gl X x) (hm:X.mg x=some u) (r:RelV v u) (hd:(x==("__debug__":Str))=false:=by decide):PE X (.Name x pos) (tC v):=
 λ_ _ _ H _ I h=>jB I hg hm ⟨v,H,I,r,h⟩ hd
theorem RH (hg:Gl X x) (hm:X.mg x=none) (hv:bootBuiltins x=some u) (r:RelV v u) (hn:x≠"__name__":=by decide) (hd:(x==("__debug__":Str))=false:=by decide):PE X (.Name x pos) (tC v):=
 λ_ _ _ H _ I h=>fM I hg hm hv ⟨v,H,I,r,h⟩ hn hd
variable {a b:Expr} {ta tb:TE} {pos:Pos}
variable {tA tB':TT} {rest:List Expr}
noncomputable def Kd (t:TT):TT:=λσ H Q=>t σ H λc H1=>Q (!c) H1
theorem QX (ha:PT X a tA):PW X (.BoolOp .And [a] pos) tA:=by
 intro wh pins s σ H Q I h;refine isTrue_and (bT (ha pins s σ H Q I h) λc s1 e=>?_);cases c with
 |true=>exact isTrue_and_nil e
 |false=>exact e
theorem YE (ha:PT X a tA):PW X (.BoolOp .Or [a] pos) tA:=by
 intro wh pins s σ H Q I h;refine isTrue_or (bT (ha pins s σ H Q I h) λc s1 e=>?_);cases c with
 |false=>exact isTrue_or_nil e
 |true=>exact e
theorem YH (ha:PT X a tA):PT X (.UnaryOp .Not a pos) (Kd tA):=by
 intro pins s σ H Q I h;exact isTrue_not (ha pins s σ H (λc H1=>Q (!c) H1) I h)
theorem YS {op} (h:PE X a t):PE X (.BoolOp op [a] pos) t:=λpins s σ H Q I hw=>BoolOp_one (h pins s σ H Q I hw)
end
noncomputable def aR (K:Fg) (H:Hp) (a:Addr) (xs:List V):Prop:=
 Rd H a (.lst xs)\/
  ∃(o:Obj) (its:Array Value) (n:Nat),K.lookup a=some o/\o.cls=.type "list"/\o.dict=none/\o.data=.seq its n/\its.size<=sizeLine/\Vals xs its.toList
noncomputable def cZ (K:Fg) (H:Hp) (a:Addr) (xs:List V):Prop:=
 Rd H a (.tup xs)\/
  ∃(o:Obj) (its:Array Value) (n:Nat),K.lookup a=some o/\o.cls=.type "tuple"/\o.data=.seq its n/\its.size<=sizeLine/\Vals xs its.toList
noncomputable def Lu:Value->Option V
 | .none=>some .non
 | .bool b=>some (.bl b)
 | .int i _=>some (.int i)
 | .str x _=>some (.str x)
 | .bytes b _=>some (.byt b)
 | .float b _=>some (.flt b)
 | .ref a=>some (.ref a)
 | .type n=>some (.ty n)
 |_=>none
theorem RelV.abs (r:RelV x u):Lu u=some x:=by
 cases x with
 |non=>cases r;rfl
 |bl _=>cases r;rfl
 |int _=>obtain ⟨t,rfl⟩:=r;rfl
 |str _=>obtain ⟨t,rfl⟩:=r;rfl
 |byt _=>obtain ⟨t,rfl⟩:=r;rfl
 |flt _=>obtain ⟨t,rfl⟩:=r;rfl
 |ref _=>cases r;rfl
 |ty _=>cases r;rfl
theorem RelV.inj {x y:V} {u:Value} (r:RelV x u) (q:RelV y u):x=y:=Option.some.inj (r.abs.symm.trans q.abs)
theorem Vals.inj:∀{xs ys:List V} {us:List Value},Vals xs us->Vals ys us->xs=ys
 |_,_,_,.nil,.nil=>rfl
 |_,_,_,.cons r t,.cons r' t'=>by rw[r.inj r',Vals.inj t t']
section
variable {X:Cx} {pins:List (Addr × Obj)} {σ:St} {H:Hp} {s:Shared} {a:Addr} {xs ys:List V}
theorem aR.of {K:Fg} (h:H a=some (.lst xs)):aR K H a xs:=.inl (.inl h)
theorem cZ.of {K:Fg} (h:H a=some (.tup xs)):cZ K H a xs:=.inl (.inl h)
theorem Inv.list (I:Inv X pins σ H s) (h:aR X.K H a xs):∃its:List Value,Vals xs its/\PlainL s.heap a its.toArray/\xs.length<=sizeLine:=by
 rcases h with h|⟨o,its,n,hk,hc,hd,hs,hz,r⟩
 ·obtain ⟨z,its,n,r,e⟩:=h.ok I.hok;exact ⟨its,r,⟨_,n,e,rfl,rfl,rfl⟩,z⟩
 ·refine ⟨its.toList,r,⟨o,n,I.kIn a o hk,hc,hd,by simpa using hs⟩,?_⟩;have e:=r.length;simp only [length_toList] at e;lia
theorem Inv.tuple (I:Inv X pins σ H s) (h:cZ X.K H a xs):∃its:List Value,Vals xs its/\IsTup s.heap a its.toArray/\xs.length<=sizeLine:=by
 rcases h with h|⟨o,its,n,hk,hc,hs,hz,r⟩
 ·obtain ⟨z,its,r,p⟩:=h.ok I.hok;exact ⟨its,r,p,z⟩
 ·refine ⟨its.toList,r,⟨o,I.kIn a o hk,hc,n,by simpa using hs⟩,?_⟩;have e:=r.length;simp only [length_toList] at e;lia
theorem Inv.list_inj (I:Inv X pins σ H s) (h:aR X.K H a xs) (h':aR X.K H a ys):xs=ys:=by
 obtain ⟨its,r,⟨o,n,e,_,_,d⟩,_⟩:=I.list h;obtain ⟨its',r',⟨o',n',e',_,_,d'⟩,_⟩:=I.list h';rw[e] at e';cases e';rw[d] at d';injection d' with d1 _
 have:its=its':=by simpa using congrArg Array.toList d1
 subst this;exact r.inj r'
theorem Inv.tuple_inj (I:Inv X pins σ H s) (h:cZ X.K H a xs) (h':cZ X.K H a ys):xs=ys:=by
 obtain ⟨its,r,⟨o,e,_,n,d⟩,_⟩:=I.tuple h;obtain ⟨its',r',⟨o',e',_,n',d'⟩,_⟩:=I.tuple h';rw[e] at e';cases e';rw[d] at d';injection d' with d1 _
 have:its=its':=by simpa using congrArg Array.toList d1
 subst this;exact r.inj r'
end
section
variable {X:Cx} {pins:List (Addr × Obj)} {σ:St} {H:Hp} {s:Shared} {E:Value->Shared->Prop}
end
section
variable {X:Cx} {st:Stmt} {rest:List Stmt} {t u:TS} {e:Expr} {te:TE} {pos:Pos}
noncomputable def VH:TS:=λD σ H=>D.nx σ H
noncomputable def Dh (t u:TS):TS:=λD σ H=>t {D with nx:=u D} σ H
theorem QY:Bu X [] VH:=λ_ _ σ H _ I h=>wpAny_execs_nil ⟨σ,H,I,h⟩
theorem KA (h1:PS X st t) (h2:Bu X rest u):Bu X (st::rest) (Dh t u):=by
 intro pins s σ H D I h;refine wpAny_execs_cons (bT (h1 pins s σ H {D with nx:=u D} I h) λf s1 q=>?_);cases f with
 |next=>
  obtain ⟨σ',H',I',q⟩:=q;exact h2 pins s1 σ' H' D I' q
 |ret v=>exact q
 |brk=>exact q
 |cont=>exact q
theorem Inv.quiet {pins:List (Addr × Obj)} {σ:St} {H:Hp} {s:Shared} (I:Inv X pins σ H s):interactive X.env=false:=by simp [interactive,I.ok.kind]
noncomputable def Dm (te:TE):TS:=λD σ H=>te σ H λ_ H1=>D.nx σ H1
theorem QZ (he:PE X e te) (hs:swapsWith e none pos.line X.env=pure false:=by rfl):PS X (.Expr e pos) (Dm te):=by
 intro pins s σ H D I h;exact wpAny_Expr_any (bT (he pins s σ H _ I h) λv s1 ⟨x,H1,I1,r1,q1⟩=>⟨σ,H1,I1,q1⟩) I.quiet hs
noncomputable def Kc (te:TE):TS:=λD σ H=>te σ H D.rt
theorem YI (he:PE X e te):PS X (.Return (some e) pos) (Kc te):=by
 intro pins s σ H D I h;exact wpAny_Return_some (bT (he pins s σ H _ I h) λv s1 ⟨x,H1,I1,r1,q1⟩=>⟨x,σ,H1,I1,r1,q1⟩)
noncomputable def JI:TS:=λ_ _ _=>False
theorem KD:PS X st JI:=λ_ _ _ _ _ _ h=>h.elim
end
noncomputable abbrev TG:=V->St->Hp->(St->Hp->Prop)->Prop
noncomputable abbrev UY:=List V->St->Hp->(St->Hp->Prop)->Prop
noncomputable def PG (X:Cx) (target:Expr) (t:TG):Prop:=
 ∀(pins:List (Addr × Obj)) (s:Shared) (σ:St) (H:Hp) (v:V) (u:Value) (Q:St->Hp->Prop),Inv X pins σ H s->RelV v u->t v σ H Q->
  wpAny (model X.prog X.w) X.A (assign target X.env u) (λ_ s'=>∃σ' H',Inv X pins σ' H' s'/\Q σ' H') X.xe s
noncomputable def Cn (X:Cx) (ts:List Expr) (t:UY):Prop:=
 ∀(pins:List (Addr × Obj)) (s:Shared) (σ:St) (H:Hp) (vs:List V) (us:List Value) (Q:St->Hp->Prop),Inv X pins σ H s->Vals vs us->t vs σ H Q->
  wpAny (model X.prog X.w) X.A (assignInOrder ((assignEach ts X.env).map (·.2)) us) (λ_ s'=>∃σ' H',Inv X pins σ' H' s'/\Q σ' H') X.xe s
noncomputable abbrev Bs:=V->V->V->Hp->(Hp->Prop)->Prop
noncomputable def Bv (X:Cx) (t:Bs):Prop:=
 ∀(pins:List (Addr × Obj)) (s:Shared) (σ:St) (H:Hp) (o i v:V) (ov iv u:Value) (Q:Hp->Prop),Inv X pins σ H s->RelV o ov->RelV i iv->RelV v u->t o i v H Q->
  wpAny (model X.prog X.w) X.A (setItem ov iv u) (λ_ s'=>∃H',Inv X pins σ H' s'/\Q H') X.xe s
section
variable {X:Cx} {pos:Pos}
noncomputable def EE (i:Nat):TG:=λv σ H Q=>Q (σ.set i (some v)) H
theorem DM (hN:X.N.Nodup) (hi:X.N[i]?=some x) (hx:Loc X.env.scope x) (hf:X.fn x=true\/X.env.scope.names.lookup x=some .local:=by first|exact .inl rfl|exact .inr rfl|assumption):PG X (.Name x pos) (EE i):=by
 intro pins s σ H v u Q I r h;exact wpAny_assign_Name (xP I hN hi hx r (λs' I'=>⟨_,H,I',h⟩) hf)
noncomputable def Hs:UY:=λvs σ H Q=>vs=[]/\Q σ H
noncomputable def WH (t:TG) (u:UY):UY:=λvs σ H Q=>∃v r,vs=v::r/\t v σ H λσ' H'=>u r σ' H' Q
theorem RE:Cn X [] Hs:=by
 intro pins s σ H vs us Q I r h;obtain ⟨e,h⟩:=h;subst e;cases r;exact assignInOrder_nil ⟨σ,H,I,h⟩
theorem KJ {e:Expr} {es:List Expr} {t:TG} {u:UY} (h1:PG X e t) (h2:Cn X es u)
  (hs:(assignEach (e::es) X.env).map (·.2)=assign e X.env::(assignEach es X.env).map (·.2):=by rfl):Cn X (e::es) (WH t u):=by
 intro pins s σ H vs us Q I r h;obtain ⟨v,vr,e1,h⟩:=h;subst e1;cases r with
 |cons r rr=>
  rw[hs];refine assignInOrder_cons (bT (h1 pins s σ H _ _ _ I r h) λ_ s1 ⟨σ1,H1,I1,q1⟩=>?_);exact h2 pins s1 σ1 H1 _ _ Q I1 rr q1
noncomputable def Hr (K:Fg) (n:Nat) (t:UY):TG:=λv σ H Q=>∃a xs,v=.ref a/\cZ K H a xs/\xs.length=n/\t xs σ H Q
theorem YL (hc:X.calm=true) (h:Cn X es t)
  (hn:(assignEach es X.env).length=n:=by rfl) (hst:(assignEach es X.env).findIdx? (·.1)=none:=by rfl):PG X (.Tuple es k pos) (Hr X.K n t):=by
 intro pins s σ H v u Q I r hw;obtain ⟨a,xs,e1,hq,hl,hw⟩:=hw;subst e1;cases r;obtain ⟨its,rv,ht,hz⟩:=I.tuple hq;refine assign_Tuple_tuple (I.ok.hd hc) ht (by simp [hn,<-hl,rv.length]) hst λh' hx=>?_;have I1:Inv X pins σ H {s with heap:=h'}:=I.kept (t':=s.toks) λb o e=>hx b o (ne_of_lt (lt_size e)) e;exact h pins _ σ H xs _ Q I1 (by simpa using rv) hw
noncomputable def Ln (to ti:TE) (t:Bs):TG:=λv σ H Q=>to σ H λo H1=>ti σ H1 λi H2=>t o i v H2 λH3=>Q σ H3
theorem YM {o i:Expr} {to ti:TE} {t:Bs} (ho:PE X o to) (hi:PE X i ti) (hs:Bv X t)
  (ha:∀v,assign (.Subscript o i pos) X.env v=(do
   let ov <-holding [v] (eval o X.env)
   let iv <-holding [v,ov] (eval i X.env)
   standAt pos
   holding [v,ov,iv] (setItem ov iv v)
   release [v,ov,iv] []):=by intro _;rfl):PG X (.Subscript o i pos) (Ln to ti t):=by
 intro pins s σ H v u Q I r h;rw[ha];refine wpAny_bind (wpAny_holding (bT (ho pins s σ H _ I h) λov s1 ⟨x,H1,I1,r1,q1⟩=>?_));refine wpAny_bind (wpAny_holding (bT (hi pins s1 σ H1 _ I1 q1) λiv s2 ⟨y,H2,I2,r2,q2⟩=>?_));refine wpAny_bind (wpAny_standAt (wpAny_bind (wpAny_holding (bT (hs pins s2 σ H2 x y v ov iv u _ I2 r1 r2 r q2) λ_ s3 ⟨H3,I3,q3⟩=>?_))));exact wpAny_release ⟨σ,H3,I3,q3⟩
noncomputable def XH (te:TE) (g:TG):TS:=λD σ H=>te σ H λx H1=>g x σ H1 D.nx
theorem KG {tg e:Expr} {te:TE} {g:TG} (he:PE X e te) (hg:PG X tg g) (hs:swapsWithSole [tg] e pos.line X.env=pure false:=by rfl) (hw:swappedStores [tg] e X.env=pure none:=by rfl)
  (h1:(assignEach [tg] X.env).map (·.2)=[assign tg X.env]:=by rfl):PS X (.Assign [tg] e pos) (XH te g):=by
 intro pins s σ H D I h;refine wpAny_Assign_stores (bT (he pins s σ H _ I h) λv s1 ⟨x,H1,I1,r1,q1⟩=>?_) hs hw;rw[h1];exact bT (hg pins s1 σ H1 x v _ I1 r1 q1) λ_ s2 q=>q
theorem KC {i:Nat} {x:Str} {e:Expr} {te:TE} {pos':Pos} (hN:X.N.Nodup) (hi:X.N[i]?=some x) (hx:Loc X.env.scope x) (he:PE X e te) (hs:swapsWith e (some (.Name x pos')) pos.line X.env=pure false:=by rfl) (hf:X.fn x=true\/X.env.scope.names.lookup x=some .local:=by first|exact .inl rfl|exact .inr rfl|assumption):
  PS X (.Assign [.Name x pos'] e pos) (XH te (EE i)):=by
 intro pins s σ H D I h;refine wpAny_Assign_Name (bT (he pins s σ H _ I h) λv s1 ⟨y,H1,I1,r1,q1⟩=>?_) hs;exact xP I1 hN hi hx r1 (λs2 I2=>⟨_,H1,I2,q1⟩) hf
end
section
variable {X:Cx} {pos:Pos}
end
structure It where
 go:Nat->Hp->Prop
 yld:Nat->Hp->V->Hp->Prop
 stop:Nat->Hp->Prop
noncomputable def mJ (X:Cx) (pins:List (Addr × Obj)) (H:Hp) (b:Addr):Prop:=
 H b=none/\b≠X.env.locals/\b∉X.fs/\(b∈X.ex\/X.s₀.heap.objs.size<=b)/\(∀x c,X.env.cells.lookup x=some c->c≠b)/\∀p∈X.pn++pins,p.1≠b
theorem Inv.fpOk {X:Cx} {pins:List (Addr × Obj)} {σ:St} {H H':Hp} {s:Shared} {b:Addr} (I:Inv X pins σ H s) (hb:s.heap.objs.size<=b) (hn:H' b=none):mJ X pins H' b:=by
 refine ⟨hn,ne_of_gt (Nat.lt_of_lt_of_le I.lt hb),I.nofs hb,.inr (le_trans I.sz hb),λx c e z=>?_,λp hp z=>?_⟩
 ·obtain ⟨v,q⟩:=I.cell x c e;exact absurd (Nat.lt_of_lt_of_le q.lt (by rw[z];exact hb)) (lt_irrefl _)
 ·exact absurd (Nat.lt_of_lt_of_le (lt_size (I.pin p hp).1) (by rw[z];exact hb)) (lt_irrefl _)
structure Turn (P:Program) (w:World) (K:Fg) (tg:Expr) (J:It) (fp:List Addr) (it:Addr) (tn:Nat->Heap->Prop):Prop where
 mem:it∈fp
 obj:∀i h,tn i h->∀b∈fp,∃o,h.get? b=some o/\∀v,o.data≠.cell v
 keep:∀i h h',tn i h->(∀b∈fp,∀o,h.get? b=some o->h'.get? b=some o)->tn i h'
 item:∀(X:Cx),X.prog=P->X.w=w->X.K=K->X.calm=true->∀(i:Nat) (pins:List (Addr × Obj)) (s:Shared) (σ:St) (H:Hp) (E:Value->Shared->Prop),Inv X pins σ H s->(∀b∈fp,mJ X pins H b)->tn i s.heap->J.go i H->
  wpAny (model P w) X.A (pyNext (.ref it)) (λr s1=>∃u,r=some u/\
   wpAny (model P w) X.A (letOwnedTupleGo tg (.ref it) u) (λ_ s2=>∃x H',Inv X pins σ H' s2/\RelV x u/\J.yld i H x H'/\tn (i+1) s2.heap/\∀b∈fp,H' b=none) E s1) E s
 done:∀(X:Cx),X.prog=P->X.w=w->X.K=K->X.calm=true->∀(i:Nat) (pins:List (Addr × Obj)) (s:Shared) (σ:St) (H:Hp) (E:Value->Shared->Prop),Inv X pins σ H s->(∀b∈fp,mJ X pins H b)->tn i s.heap->J.stop i H->
  wpAny (model P w) X.A (pyNext (.ref it)) (λr s1=>r=none/\Inv X pins σ H s1) E s
 self:∀(A:Around) (i:Nat) (s:Shared) (Q:Value->Shared->Prop) (E:Value->Shared->Prop),tn i s.heap->Q (.ref it) s->wpAny (model P w) A (pyIter (.ref it)) Q E s
noncomputable abbrev TI:=St->Hp->(It->Hp->Prop)->Prop
noncomputable def Iz (X:Cx) (pins:List (Addr × Obj)) (σ:St) (tg:Expr) (R:It->Hp->Prop) (itv:Value) (s2:Shared):Prop:=
 ∃(it:Addr) (fp:List Addr) (tn:Nat->Heap->Prop) (J:It) (H':Hp),itv=.ref it/\Inv X pins σ H' s2/\Turn X.prog X.w X.K tg J fp it tn/\tn 0 s2.heap/\(∀b∈fp,mJ X pins H' b)/\R J H'
noncomputable def PI (X:Cx) (tg iter:Expr) (wi:TI):Prop:=
 ∀(pins:List (Addr × Obj)) (s:Shared) (σ:St) (H:Hp) (R:It->Hp->Prop),Inv X pins σ H s->wi σ H R->
  wpAny (model X.prog X.w) X.A (eval iter X.env) (λv s1=>wpAny (model X.prog X.w) X.A (pyIter v) (Iz X pins σ tg R) X.xe s1) X.xe s
theorem qI (ho:s.heap.get? it=some o) (hc:o.cls=.type n) (hd:o.data=.fields vs)
  (hn:["enumerate","zip","dict_itemiterator","dict_reverseitemiterator","odict_iterator","itertools.zip_longest","itertools.pairwise"].contains n=false) (hQ:Q () s):wpAny M A (letOwnedTupleGo tg (.ref it) u) Q E s:=by
 unfold letOwnedTupleGo;cases tg<;>first
  |exact wpAny_pure hQ
  | (cases u<;>first
    |exact wpAny_pure hQ
    | (refine wpAny_bind (wpAny_load ho ?_)
       rw[hc,hd]
       show wpAny M A (if (["enumerate","zip","dict_itemiterator","dict_reverseitemiterator","odict_iterator","itertools.zip_longest","itertools.pairwise"].contains n&&vs[0]?==some (rawInt _))=true then _ else _) Q E s
       rw[if_neg (by intro h;rw[hn,Bool.false_and] at h;cases h)]
       exact wpAny_pure hQ))
noncomputable def UZ (K:Fg) (a:Addr):It:=
 ⟨λi H=>∃xs x,aR K H a xs/\xs[i]?=some x,λi H x H'=>H'=H/\∀xs,aR K H a xs->xs[i]?=some x,λi H=>∃xs,aR K H a xs/\xs.length<=i⟩
noncomputable def Jf (K:Fg) (a:Addr):It:=
 ⟨λi H=>∃xs x,cZ K H a xs/\xs[i]?=some x,λi H x H'=>H'=H/\∀xs,cZ K H a xs->xs[i]?=some x,λi H=>∃xs,cZ K H a xs/\xs.length<=i⟩
noncomputable def OZ (lo:Int) (n:Nat):It:=⟨λi _=>i<n,λi H x H'=>H'=H/\x=.int (lo+i),λi _=>n<=i⟩
theorem FC {P:Program} {w:World} {K:Fg} {tg:Expr} (a it:Addr):Turn P w K tg (UZ K a) [it] it (λi h=>h.IsListIter it a i) where
 mem:=by simp
 obj:=λi h st b hb=>by
  have e:b=it:=by simpa using hb
  subst e;obtain ⟨o,e,c,d⟩:=st;exact ⟨o,e,λv z=>by rw[d] at z;cases z⟩
 keep:=λi h h' st k=>st.at λo e=>k it (by simp) o e
 item:=by
  intro X hP hw hK hc i pins s σ H E I hf st hg;subst hP hw hK;obtain ⟨xs,x,hq,hx⟩:=hg;obtain ⟨its,rv,p,hz⟩:=I.list hq;obtain ⟨u,hu,ru⟩:=rv.get hx;obtain ⟨f0,f1,f2,f3,f4,f5⟩:=hf it (by simp);refine wpAny_pyNext_list_item st p.isList (x:=u) (by simpa using hu) λh' st' sb=>?_;have I1:Inv X pins σ H {s with heap:=h'}:=I.turned (t':=s.toks) (λb o hb e=>(sb.2 b hb).trans e) f0 f1 f3 f4 f5;obtain ⟨o,e,c,d⟩:=id st';exact ⟨u,rfl,qI (s:={s with heap:=h'}) e c d (by decide) ⟨x,H,I1,ru,⟨rfl,λys hy=>by rw[I.list_inj hy hq];exact hx⟩,st',λb hb=>(hf b hb).1⟩⟩
 done:=by
  intro X hP hw hK hc i pins s σ H E I hf st hg;subst hP hw hK;obtain ⟨xs,hq,hx⟩:=hg;obtain ⟨its,rv,p,hz⟩:=I.list hq;obtain ⟨f0,f1,f2,f3,f4,f5⟩:=hf it (by simp);have hl:=rv.length;exact wpAny_pyNext_list_end (I.ok.hd hc) st p.isList (by simp;lia) λh' eb=>⟨rfl,I.turned (t':=s.toks) (λb o hb e=>eb b o hb e) f0 f1 f3 f4 f5⟩
 self:=λ_ _ _ _ _ st h=>wpAny_pyIter_listiter st h
theorem AN {P:Program} {w:World} {K:Fg} {tg:Expr} (a it:Addr):Turn P w K tg (Jf K a) [it] it (λi h=>h.IsTupleIter it a i) where
 mem:=by simp
 obj:=λi h st b hb=>by
  have e:b=it:=by simpa using hb
  subst e;obtain ⟨o,e,c,d⟩:=st;exact ⟨o,e,λv z=>by rw[d] at z;cases z⟩
 keep:=λi h h' st k=>st.at λo e=>k it (by simp) o e
 item:=by
  intro X hP hw hK hc i pins s σ H E I hf st hg;subst hP hw hK;obtain ⟨xs,x,hq,hx⟩:=hg;obtain ⟨its,rv,p,hz⟩:=I.tuple hq;obtain ⟨u,hu,ru⟩:=rv.get hx;obtain ⟨f0,f1,f2,f3,f4,f5⟩:=hf it (by simp);refine wpAny_pyNext_tuple_item st (show s.heap.IsTuple a its.toArray from p) (x:=u) (by simpa using hu) λh' st' sb=>?_;have I1:Inv X pins σ H {s with heap:=h'}:=I.turned (t':=s.toks) (λb o hb e=>(sb.2 b hb).trans e) f0 f1 f3 f4 f5;obtain ⟨o,e,c,d⟩:=id st';exact ⟨u,rfl,qI (s:={s with heap:=h'}) e c d (by decide) ⟨x,H,I1,ru,⟨rfl,λys hy=>by rw[I.tuple_inj hy hq];exact hx⟩,st',λb hb=>(hf b hb).1⟩⟩
 done:=by
  intro X hP hw hK hc i pins s σ H E I hf st hg;subst hP hw hK;obtain ⟨xs,hq,hx⟩:=hg;obtain ⟨its,rv,p,hz⟩:=I.tuple hq;obtain ⟨f0,f1,f2,f3,f4,f5⟩:=hf it (by simp);have hl:=rv.length;exact wpAny_pyNext_tuple_end (I.ok.hd hc) st (show s.heap.IsTuple a its.toArray from p) (by simp;lia) λh' eb=>⟨rfl,I.turned (t':=s.toks) (λb o hb e=>eb b o hb e) f0 f1 f3 f4 f5⟩
 self:=λ_ _ _ _ _ st h=>wpAny_pyIter_tupleiter st h
theorem AO {P:Program} {w:World} {K:Fg} {tg:Expr} (it:Addr) (lo:Int) (n:Nat):Turn P w K tg (OZ lo n) [it] it (λi h=>IsRangeIter h it (lo+(i:Nat) * 1) ((n:Int) - (i:Nat)) 1) where
 mem:=by simp
 obj:=λi h st b hb=>by
  have e:b=it:=by simpa using hb
  subst e;exact ⟨_,st,λv z=>by
   have z':Data.fields _=Data.cell v:=z
   cases z'⟩
 keep:=λi h h' st k=>k it (by simp) _ st
 item:=by
  intro X hP hw hK hc i pins s σ H E I hf st hg;subst hP hw hK;obtain ⟨f0,f1,f2,f3,f4,f5⟩:=hf it (by simp);have W:=Walks.range (prog:=X.prog) (w:=X.w) (I.ok.hd hc) it lo 1 n;refine W.item i s _ _ hg st λv h' tk hv st' kk=>?_;obtain ⟨t,rfl⟩:=hv;have I1:Inv X pins σ H {s with heap:=h',toks:=tk}:=I.turned (λb o hb e=>kk b o (by simpa using hb) e) f0 f1 f3 f4 f5;refine ⟨_,rfl,qI (s:={s with heap:=h',toks:=tk}) (n:="range_iterator") st' rfl rfl (by decide) ⟨.int (lo+i),H,I1,⟨t,?_⟩,⟨rfl,rfl⟩,st',λb hb=>(hf b hb).1⟩⟩;rw[Int.mul_one]
 done:=by
  intro X hP hw hK hc i pins s σ H E I hf st hg;subst hP hw hK;obtain ⟨f0,f1,f2,f3,f4,f5⟩:=hf it (by simp);exact wpAny_pyNext_range_end (I.ok.hd hc) st (by have:n<=i:=hg;lia) λh' eb=>⟨rfl,I.turned (t':=s.toks) (λb o hb e=>eb b o hb e) f0 f1 f3 f4 f5⟩
 self:=λ_ _ _ _ _ st h=>wpAny_pyIter_rangeiter st h
section
variable {X:Cx} {tg:Expr}
theorem yC {pins:List (Addr × Obj)} {σ:St} {H:Hp} {s:Shared} {R:It->Hp->Prop} {E:Value->Shared->Prop} {lo hi:Int} {t u v:Tok} {tk:Nat} (I:Inv X pins σ H s) (h1:-(2 ^ 62)<=lo) (h2:lo<2 ^ 62) (h3:-(2 ^ 62)<=hi) (h4:hi<2 ^ 62)
  (q:R (OZ lo (hi - lo).toNat) H):wpAny (model X.prog X.w) X.A (pyIter (.ref s.heap.objs.size)) (Iz X pins σ tg R) E {s with heap:=s.heap.push {cls:=.type "range",data:=.fields #[.int lo t,.int hi u,.int 1 v]},toks:=tk}:=by
 refine wpAny_pyIter_range (IsRange.new ..) (small_one h1 h2 h3 h4) ?_;have I1:Inv X pins σ H {s with heap:=s.heap.push {cls:=.type "range",data:=.fields #[.int lo t,.int hi u,.int 1 v]},toks:=tk}:=I.kept λb o e=>get?_push_of_some _ e;refine ⟨(s.heap.push {cls:=.type "range",data:=.fields #[.int lo t,.int hi u,.int 1 v]}).objs.size,[(s.heap.push {cls:=.type "range",data:=.fields #[.int lo t,.int hi u,.int 1 v]}).objs.size],_,_,H,rfl,
  I1.kept (t':=tk) λb o e=>get?_push_of_some _ e,AO _ lo (hi - lo).toNat,?_,λb hb=>?_,q⟩
 ·have e1:lo+((0:Nat):Int) * 1=lo:=by simp
  have e2:(((hi - lo).toNat:Nat):Int) - ((0:Nat):Int)=Builtin.Range.rangeSize lo hi 1:=by rw[rangeSize_one];split<;>lia
  show IsRangeIter _ _ (lo+((0:Nat):Int) * 1) ((((hi - lo).toNat:Nat):Int) - ((0:Nat):Int)) 1;rw[e1,e2];exact get?_push_size _ rfl
 ·have e:b=(s.heap.push {cls:=.type "range",data:=.fields #[.int lo t,.int hi u,.int 1 v]}).objs.size:=by simpa using hb
  subst e;exact I1.fpOk (Nat.le_refl _) (I1.hok.fresh (Nat.le_refl _))
noncomputable def Dk (wi:TI) (g:TG) (tb:TS):TS:=λD σ H=>wi σ H λJ H1=>∃W:Nat->Nat->St->Hp->Prop,(∃m,W 0 m σ H1)/\∀i m σ H,W i m σ H->
 (J.stop i H/\D.nx σ H)\/(J.go i H/\∃N:St->Hp->Prop,(∀σ' H',N σ' H'->∃m',m'<m/\W (i+1) m' σ' H')/\∀x H',J.yld i H x H'->g x σ H' λσ2 H2=>tb {D with nx:=N,ct:=N,bk:=D.nx} σ2 H2)
noncomputable def pI (fp:List Addr) (h:Heap):List (Addr × Obj):=fp.filterMap λb=>(h.get? b).map λo=>(b,o)
theorem gP {fp:List Addr} {h:Heap} {b:Addr} {o:Obj} (hb:b∈fp) (e:h.get? b=some o):(b,o)∈pI fp h:=mem_filterMap.mpr ⟨b,hb,by rw[e];rfl⟩
theorem GG (hp:p∈pI fp h):p.1∈fp/\h.get? p.1=some p.2:=by
 obtain ⟨b,hb,e⟩:=mem_filterMap.mp hp;cases q:h.get? b with
 |none=>rw[q] at e;cases e
 |some o=>
  rw[q] at e;have e':(b,o)=p:=Option.some.inj e;subst e';exact ⟨hb,q⟩
theorem Inv.pinned {pins:List (Addr × Obj)} {σ:St} {H:Hp} {s:Shared} {fp:List Addr} (I:Inv X pins σ H s) (hf:∀b∈fp,mJ X pins H b) (ho:∀b∈fp,∃o,s.heap.get? b=some o/\∀v,o.data≠.cell v):Inv X (pins++pI fp s.heap) σ H s:=
 I.pins_of λp hp=>(mem_append.mp hp).elim (λz=>I.pin p (mem_append_right _ z)) λz=>by
  obtain ⟨hb,e⟩:=GG z;obtain ⟨f0,f1,f2,_⟩:=hf p.1 hb;obtain ⟨o,e',d⟩:=ho p.1 hb;rw[e] at e';cases e';exact ⟨e,f0,f1,f2,d⟩
theorem Inv.unpinned {pins pl:List (Addr × Obj)} {σ:St} {H:Hp} {s:Shared} (I:Inv X (pins++pl) σ H s):Inv X pins σ H s:=I.pins_of λp hp=>I.pin p (mem_append_right _ (mem_append_left _ hp))
theorem YJ {iter:Expr} {body:List Stmt} {wi:TI} {g:TG} {tb:TS} {pos:Pos} (hp:PassesOwn (model X.prog X.w) X.A X.env X.xe) (hc:X.calm=true) (hi:PI X tg iter wi) (hg:PG X tg g) (hb:Bu X body tb)
  (hs:∀x,foldedSetIterable iter X.env x=pure x:=by intro _;rfl):PS X (.For tg iter body [] pos) (Dk wi g tb):=by
 intro pins s σ H D I h;refine wpAny_For (bT (hi pins s σ H _ I h) λv s1 h1=>bT h1 λitv s2 h2=>?_) hs;obtain ⟨it,fp,tn,J,H2,e,I2,T,st2,f2,W,⟨m0,w0⟩,turn⟩:=h2;subst e;have stat:∀{H':Hp},(∀b∈fp,H' b=none)->∀b∈fp,mJ X pins H' b:=λhn b hb=>⟨hn b hb,(f2 b hb).2⟩;refine codeAny_forLoop_any (λn s'=>∃i σ' H',Inv X pins σ' H' s'/\tn i s'.heap/\(∀b∈fp,H' b=none)/\W i n σ' H') ?_ m0 ⟨0,σ,H2,I2,st2,λb hb=>(f2 b hb).1,w0⟩;rintro n s3 ⟨i,σ3,H3,I3,st3,fr3,w3⟩;rcases turn i n σ3 H3 w3 with ⟨stop,qn⟩|⟨go,N,hN,step⟩
 ·refine wpAny_passesOwn hp (bT (T.done X rfl rfl rfl hc i pins s3 σ3 H3 X.xe I3 (stat fr3) st3 stop) λr s4 ⟨hr,I4⟩=>?_);subst hr;exact wpAny_execs_nil ⟨σ3,H3,I4,qn⟩
 ·refine wpAny_passesOwn hp (bT (T.item X rfl rfl rfl hc i pins s3 σ3 H3 X.xe I3 (stat fr3) st3 go) λr s4 ⟨u,hr,h4⟩=>?_);subst hr;refine wpAny_passesOwn hp (bT h4 λ_ s5 ⟨x,H5,I5,r5,y5,st5,fr5⟩=>?_);have I5':=I5.pinned (stat fr5) (T.obj _ _ st5);refine wpAny_passesOwn hp (bT (hg _ s5 σ3 H5 x u _ I5' r5 (step x H5 y5)) λ_ s6 ⟨σ6,H6,I6,q6⟩=>?_);refine wpAny_passesOwn hp (bT (hb _ s6 σ6 H6 _ I6 q6) λf s7 q7=>?_);have again:∀{σ7:St} {H7:Hp},Inv X (pins++pI fp s5.heap) σ7 H7 s7->N σ7 H7->∃m,m<n/\∃i σ' H',Inv X pins σ' H' s7/\tn i s7.heap/\(∀b∈fp,H' b=none)/\W i m σ' H':=λ{σ7 H7} I7 n7=>by
   obtain ⟨m',hm,w7⟩:=hN σ7 H7 n7;refine ⟨m',hm,i+1,σ7,H7,I7.unpinned,T.keep _ _ _ st5 λb hb o e=>(I7.pin (b,o) (mem_append_right _ (mem_append_right _ (gP hb e)))).1,λb hb=>?_,w7⟩;obtain ⟨o,e,d⟩:=T.obj _ _ st5 b hb;exact (I7.pin (b,o) (mem_append_right _ (mem_append_right _ (gP hb e)))).2.1
  cases f with
  |next=>obtain ⟨σ7,H7,I7,n7⟩:=q7;exact again I7 n7
  |cont=>obtain ⟨σ7,H7,I7,n7⟩:=q7;exact again I7 n7
  |brk=>obtain ⟨σ7,H7,I7,q7⟩:=q7;exact ⟨σ7,H7,I7.unpinned,q7⟩
  |ret v=>obtain ⟨x7,σ7,H7,I7,r7,q7⟩:=q7;exact ⟨x7,σ7,H7,I7.unpinned,r7,q7⟩
end
theorem HE {lo:Int} {n:Nat} {g:TG} {tb:TS} {D:Ends} {σ:St} {H:Hp} (Pv:Nat->St->Hp->Prop) (h0:Pv 0 σ H)
  (hs:∀i σ H,i<n->Pv i σ H->g (.int (lo+i)) σ H λσ2 H2=>tb {D with nx:=Pv (i+1),ct:=Pv (i+1),bk:=D.nx} σ2 H2) (hd:∀σ H,Pv n σ H->D.nx σ H):
  ∃W:Nat->Nat->St->Hp->Prop,(∃m,W 0 m σ H)/\∀i m σ H,W i m σ H->
   ((OZ lo n).stop i H/\D.nx σ H)\/((OZ lo n).go i H/\∃N:St->Hp->Prop,(∀σ' H',N σ' H'->∃m',m'<m/\W (i+1) m' σ' H')/\∀x H',(OZ lo n).yld i H x H'->g x σ H' λσ2 H2=>tb {D with nx:=N,ct:=N,bk:=D.nx} σ2 H2):=by
 refine ⟨λi m σ H=>m=n - i/\i<=n/\Pv i σ H,⟨n,by simp,zero_le _,h0⟩,?_⟩;rintro i m σ H ⟨rfl,hi,p⟩;by_cases hlt:i<n
 ·refine .inr ⟨hlt,Pv (i+1),λσ' H' p'=>⟨n - (i+1),by lia,rfl,hlt,p'⟩,λx H' y=>?_⟩;obtain ⟨e,y⟩:=y;subst e y;exact hs i σ _ hlt p
 ·have e:i=n:=by lia
  subst e;exact .inl ⟨Nat.le_refl _,hd σ H p⟩
noncomputable abbrev R2:=V->V->Hp->VK->Prop
noncomputable def gI (X:Cx) (f:Value->Value->Sem Value) (r:R2):Prop:=
 ∀(pins:List (Addr × Obj)) (s:Shared) (σ:St) (H:Hp) (x y:V) (v u:Value) (Q:VK),Inv X pins σ H s->RelV x v->RelV y u->r x y H Q->
  wpAny (model X.prog X.w) X.A (f v u) (EP X pins σ Q) X.xe s
noncomputable def Lw (X:Cx) (f:Value->Sem Value) (r:V->Hp->VK->Prop):Prop:=
 ∀(pins:List (Addr × Obj)) (s:Shared) (σ:St) (H:Hp) (x:V) (v:Value) (Q:VK),Inv X pins σ H s->RelV x v->r x H Q->
  wpAny (model X.prog X.w) X.A (f v) (EP X pins σ Q) X.xe s
noncomputable def bZ (X:Cx) (f:Value) (r:List V->Hp->VK->Prop):Prop:=
 ∀(pins:List (Addr × Obj)) (s:Shared) (σ:St) (H:Hp) (xs:List V) (us:List Value) (Q:VK),Inv X pins σ H s->Vals xs us->r xs H Q->
  wpAny (model X.prog X.w) X.A (call f us) (EP X pins σ Q) X.xe s
noncomputable def Iw (X:Cx) (r:V->Hp->(Bool->Hp->Prop)->Prop):Prop:=
 ∀(pins:List (Addr × Obj)) (s:Shared) (σ:St) (H:Hp) (x:V) (v:Value) (Q:Bool->Hp->Prop),Inv X pins σ H s->RelV x v->r x H Q->
  wpAny (model X.prog X.w) X.A (truthy v) (TP X pins σ Q) X.xe s
noncomputable def XE (r:R2) (ta tb:TE):TE:=λσ H Q=>ta σ H λx H1=>tb σ H1 λy H2=>r x y H2 Q
noncomputable def Mb (r:V->Hp->VK->Prop) (ta:TE):TE:=λσ H Q=>ta σ H λx H1=>r x H1 Q
noncomputable def rI (C:Int->Int->Prop) (g:Int->Int->V):R2:=λx y H Q=>∃i j,x=.int i/\y=.int j/\C i j/\Q (g i j) H
noncomputable def VR (g:Int->Int->V):R2:=λx y H Q=>∃i j,x=.int i/\y=.int j/\Q (g i j) H
noncomputable def rU (g:Int->V):V->Hp->VK->Prop:=λx H Q=>∃i,x=.int i/\Q (g i) H
section
variable {X:Cx} {a b c:Expr} {ta tb tc:TE} {pos:Pos}
theorem Bo (ha:PE X a ta) (hb:PE X b tb) {pins:List (Addr × Obj)} {s:Shared} {σ:St} {H:Hp} {R:V->V->Hp->Prop} (I:Inv X pins σ H s)
  (h:ta σ H λx H1=>tb σ H1 λy H2=>R x y H2) {Q:Value->Shared->Prop} {f:Value->Value->Sem Value}
  (hf:∀v u s2 x y H2,Inv X pins σ H2 s2->RelV x v->RelV y u->R x y H2->wpAny (model X.prog X.w) X.A (f v u) Q X.xe s2):
  wpAny (model X.prog X.w) X.A (eval a X.env) (λv s₁=>wpAny (model X.prog X.w) X.A (eval b X.env) (λu s₂=>wpAny (model X.prog X.w) X.A (f v u) Q X.xe s₂) X.xe s₁) X.xe s:=by
 refine bT (ha pins s σ H _ I h) λv s1 ⟨x,H1,I1,r1,q1⟩=>?_;refine bT (hb pins s1 σ H1 _ I1 q1) λu s2 ⟨y,H2,I2,r2,q2⟩=>?_;exact hf v u s2 x y H2 I2 r1 r2 q2
theorem En (ho:gI X (binaryOp op) r) (ha:PE X a ta) (hb:PE X b tb):PE X (.BinOp a op b pos) (XE r ta tb):=by
 intro pins s σ H Q I h;exact wpAny_BinOp (Bo ha hb I h λv u s2 x y H2 I2 rx ry q=>ho pins s2 σ H2 x y v u Q I2 rx ry q)
theorem Em {op:UnaryOp} {r:V->Hp->VK->Prop} (ho:Lw X (unaryOp op) r) (ha:PE X a ta):PE X (.UnaryOp op a pos) (Mb r ta):=by
 intro pins s σ H Q I h;exact UnaryOp_ (bT (ha pins s σ H _ I h) λv s1 ⟨x,H1,I1,r1,q1⟩=>ho pins s1 σ H1 x v Q I1 r1 q1)
theorem Ji {f:Value->Value->Sem Value} {C:Int->Int->Prop} {g:Int->Int->Int}
  (rule:∀(i j:Int) (t u:Tok) (s:Shared) (Q:Value->Shared->Prop) (E:Value->Shared->Prop),C i j->Q (.int (g i j) s.toks) {s with toks:=s.toks+1}->wpAny (model X.prog X.w) X.A (f (.int i t) (.int j u)) Q E s):
  gI X f (rI C λi j=>.int (g i j)):=by
 intro pins s σ H x y v u Q I rx ry h;obtain ⟨i,j,rfl,rfl,hc,q⟩:=h;obtain ⟨t,rfl⟩:=rx;obtain ⟨t',rfl⟩:=ry;exact rule i j t t' s _ _ hc ⟨.int (g i j),H,I.tok _,⟨_,rfl⟩,q⟩
theorem Ez {f:Value->Value->Sem Value} {g:Int->Int->Int}
  (rule:∀(i j:Int) (t u:Tok) (s:Shared) (Q:Value->Shared->Prop) (E:Value->Shared->Prop),Q (.int (g i j) s.toks) {s with toks:=s.toks+1}->wpAny (model X.prog X.w) X.A (f (.int i t) (.int j u)) Q E s):
  gI X f (VR λi j=>.int (g i j)):=by
 intro pins s σ H x y v u Q I rx ry h;obtain ⟨i,j,rfl,rfl,q⟩:=h;obtain ⟨t,rfl⟩:=rx;obtain ⟨t',rfl⟩:=ry;exact rule i j t t' s _ _ ⟨.int (g i j),H,I.tok _,⟨_,rfl⟩,q⟩
theorem RU {f:Value->Value->Sem Value} {g:Int->Int->Bool}
  (rule:∀(i j:Int) (t u:Tok) (s:Shared) (Q:Value->Shared->Prop) (E:Value->Shared->Prop),Q (.bool (g i j)) s->wpAny (model X.prog X.w) X.A (f (.int i t) (.int j u)) Q E s):
  gI X f (VR λi j=>.bl (g i j)):=by
 intro pins s σ H x y v u Q I rx ry h;obtain ⟨i,j,rfl,rfl,q⟩:=h;obtain ⟨t,rfl⟩:=rx;obtain ⟨t',rfl⟩:=ry;exact rule i j t t' s _ _ ⟨.bl (g i j),H,I,rfl,q⟩
noncomputable def Lz (i j:Int):Prop:=0<j/\j<1073741824
noncomputable def VB (i j:Int):Prop:=0<=j/\j<=1000000/\i.natAbs<2 ^ 64
noncomputable def Ce (i j:Int):Prop:=(-(2 ^ 64)<i/\i<2 ^ 64)\/(-(2 ^ 64)<j/\j<2 ^ 64)
theorem Ce.ok {i j:Int} (h:Ce i j):IntMulOk i j:=by
 rcases h with ⟨h1,h2⟩|⟨h1,h2⟩
 ·exact .of_left (intBits_le_64 h1 h2)
 ·exact .of_right (intBits_le_64 h1 h2)
theorem ZM:gI X (binaryOp .Add) (VR λi j=>.int (i+j)):=Ez λ_ _ _ _ _ _ _ q=>add_int q
theorem ZA:gI X (binaryOp .Sub) (VR λi j=>.int (i - j)):=Ez λ_ _ _ _ _ _ _ q=>sub_int q
theorem ZG:gI X (binaryOp .Mod) (rI (λ_ j=>0<j) λi j=>.int (i % j)):=Ji λi j _ _ _ _ _ hc q=>by
 have h1:(0:Int)<j:=hc;exact mod_int' (by lia) (by rw[Int.fmod_eq_emod_of_nonneg i (by lia)];exact q)
theorem Mm {f:Value->Sem Value} {g:Int->Int}
  (rule:∀(i:Int) (t:Tok) (s:Shared) (Q:Value->Shared->Prop) (E:Value->Shared->Prop),Q (.int (g i) s.toks) {s with toks:=s.toks+1}->wpAny (model X.prog X.w) X.A (f (.int i t)) Q E s):
  Lw X f (rU λi=>.int (g i)):=by
 intro pins s σ H x v Q I rx h;obtain ⟨i,rfl,q⟩:=h;obtain ⟨t,rfl⟩:=rx;exact rule i t s _ _ ⟨.int (g i),H,I.tok _,⟨_,rfl⟩,q⟩
theorem WY:Lw X (unaryOp .USub) (rU λi=>.int (-i)):=Mm λ_ _ _ _ _ q=>neg_int q
theorem GF:gI X (binaryOp .Add) (λx y H Q=>∃i k,x=.int i/\y=.bl k/\Q (.int (i+b2i k)) H):=by
 intro pins s σ H x y v u Q I rx ry h;obtain ⟨i,k,rfl,rfl,q⟩:=h;obtain ⟨t,rfl⟩:=rx;cases ry;exact add_int_bool ⟨.int (i+b2i k),H,I.tok _,⟨_,rfl⟩,q⟩
end
noncomputable def QT:V->V->Bool
 | .non,.non=>true| .non,.int _=>true| .int _,.non=>true| .non,.bl _=>true| .bl _,.non=>true| .non,.str _=>true| .str _,.non=>true
 | .int _,.int _=>true| .bl _,.bl _=>true| .str _,.str _=>true| .byt _,.byt _=>true
 | .int _,.str _=>true| .str _,.int _=>true| .bl _,.str _=>true| .str _,.bl _=>true
 |_,_=>false
noncomputable def Mz:R2:=λx y H Q=>QT x y=true/\Q (.bl (decide (x=y))) H
noncomputable def My:R2:=λx y H Q=>QT x y=true/\Q (.bl (!decide (x=y))) H
theorem EI:decide (V.int i=V.int j)=(i==j):=by
 rw[Bool.eq_iff_iff];simp
theorem NR:decide (V.bl i=V.bl j)=(i==j):=by
 rw[Bool.eq_iff_iff];simp
theorem EH:decide (V.str i=V.str j)=(i==j):=by
 rw[Bool.eq_iff_iff];simp
theorem EJ:decide (V.byt i=V.byt j)=(i.toList==j.toList):=by
 rw[Bool.eq_iff_iff];cases i;cases j;simp
section
variable {X:Cx} {a b c:Expr} {ta tb tc:TE} {pos:Pos}
theorem aQ (I:Inv X pins σ H s) (q:Q (.bl k) H) (e:k=k'):EP X pins σ Q (.bool k') s:=by
 subst e;exact ⟨.bl k,H,I,rfl,q⟩
theorem Ey:gI X (compareOp .Eq) Mz:=by
 intro pins s σ H x y v u Q I rx ry h;obtain ⟨hs,q⟩:=h;cases x with
 |non=>
  cases rx;cases y with
  |non=>cases ry;exact PySem.EqNone.eq_none_none (aQ I q (by simp))
  |bl j=>cases ry;exact PySem.EqNone.eq_none_bool (aQ I q (by simp))
  |int j=>obtain ⟨t',rfl⟩:=ry;exact PySem.EqNone.eq_none_int (aQ I q (by simp))
  |str j=>obtain ⟨t',rfl⟩:=ry;exact PySem.EqNone.eq_none_str (aQ I q (by simp))
  |_=>exact absurd (show false=true from hs) Bool.false_ne_true
 |bl i=>
  cases rx;cases y with
  |non=>cases ry;exact PySem.EqNone.eq_bool_none (aQ I q (by simp))
  |bl j=>cases ry;exact eq_bool (aQ I q NR)
  |str j=>obtain ⟨t',rfl⟩:=ry;exact PySem.EqMixed.eq_bool_str (aQ I q (by simp))
  |_=>exact absurd (show false=true from hs) Bool.false_ne_true
 |int i=>
  obtain ⟨t,rfl⟩:=rx;cases y with
  |non=>cases ry;exact PySem.EqNone.eq_int_none (aQ I q (by simp))
  |int j=>obtain ⟨t',rfl⟩:=ry;exact eq_int (aQ I q EI)
  |str j=>obtain ⟨t',rfl⟩:=ry;exact PySem.EqMixed.eq_int_str (aQ I q (by simp))
  |_=>exact absurd (show false=true from hs) Bool.false_ne_true
 |str i=>
  obtain ⟨t,rfl⟩:=rx;cases y with
  |non=>cases ry;exact PySem.EqNone.eq_str_none (aQ I q (by simp))
  |bl j=>cases ry;exact PySem.EqMixed.eq_str_bool (aQ I q (by simp))
  |int j=>obtain ⟨t',rfl⟩:=ry;exact PySem.EqMixed.eq_str_int (aQ I q (by simp))
  |str j=>obtain ⟨t',rfl⟩:=ry;exact eq_str (aQ I q EH)
  |_=>exact absurd (show false=true from hs) Bool.false_ne_true
 |byt i=>
  obtain ⟨t,rfl⟩:=rx;cases y with
  |byt j=>obtain ⟨t',rfl⟩:=ry;exact PySem.W.eq_bytes (aQ I q EJ)
  |_=>exact absurd (show false=true from hs) Bool.false_ne_true
 |_=>cases y<;>exact absurd (show false=true from hs) Bool.false_ne_true
theorem Es:gI X (compareOp .NotEq) My:=by
 intro pins s σ H x y v u Q I rx ry h;obtain ⟨hs,q⟩:=h;cases x with
 |non=>
  cases rx;cases y with
  |non=>cases ry;exact PySem.EqNone.ne_none_none (aQ I q (by simp))
  |bl j=>cases ry;exact PySem.EqNone.ne_none_bool (aQ I q (by simp))
  |int j=>obtain ⟨t',rfl⟩:=ry;exact PySem.EqNone.ne_none_int (aQ I q (by simp))
  |str j=>obtain ⟨t',rfl⟩:=ry;exact PySem.EqNone.ne_none_str (aQ I q (by simp))
  |_=>exact absurd (show false=true from hs) Bool.false_ne_true
 |bl i=>
  cases rx;cases y with
  |non=>cases ry;exact PySem.EqNone.ne_bool_none (aQ I q (by simp))
  |bl j=>cases ry;exact ne_bool (aQ I q (congrArg not NR))
  |str j=>obtain ⟨t',rfl⟩:=ry;exact PySem.EqMixed.ne_bool_str (aQ I q (by simp))
  |_=>exact absurd (show false=true from hs) Bool.false_ne_true
 |int i=>
  obtain ⟨t,rfl⟩:=rx;cases y with
  |non=>cases ry;exact PySem.EqNone.ne_int_none (aQ I q (by simp))
  |int j=>obtain ⟨t',rfl⟩:=ry;exact ne_int (aQ I q (congrArg not EI))
  |str j=>obtain ⟨t',rfl⟩:=ry;exact PySem.EqMixed.ne_int_str (aQ I q (by simp))
  |_=>exact absurd (show false=true from hs) Bool.false_ne_true
 |str i=>
  obtain ⟨t,rfl⟩:=rx;cases y with
  |non=>cases ry;exact PySem.EqNone.ne_str_none (aQ I q (by simp))
  |bl j=>cases ry;exact PySem.EqMixed.ne_str_bool (aQ I q (by simp))
  |int j=>obtain ⟨t',rfl⟩:=ry;exact PySem.EqMixed.ne_str_int (aQ I q (by simp))
  |str j=>obtain ⟨t',rfl⟩:=ry;exact ne_str (aQ I q (congrArg not EH))
  |_=>exact absurd (show false=true from hs) Bool.false_ne_true
 |byt i=>
  obtain ⟨t,rfl⟩:=rx;cases y with
  |byt j=>obtain ⟨t',rfl⟩:=ry;exact PySem.W.ne_bytes (aQ I q (congrArg not EJ))
  |_=>exact absurd (show false=true from hs) Bool.false_ne_true
 |_=>cases y<;>exact absurd (show false=true from hs) Bool.false_ne_true
theorem Et:gI X (compareOp .Lt) (VR λi j=>.bl (decide (i<j))):=RU λ_ _ _ _ _ _ _ q=>lt_int q
theorem Eu:gI X (compareOp .LtE) (VR λi j=>.bl (decide (i<=j))):=RU λ_ _ _ _ _ _ _ q=>le_int q
theorem Ew:gI X (compareOp .Gt) (VR λi j=>.bl (decide (j<i))):=RU λ_ _ _ _ _ _ _ q=>gt_int q
theorem Ex:gI X (compareOp .GtE) (VR λi j=>.bl (decide (j<=i))):=RU λ_ _ _ _ _ _ _ q=>ge_int q
theorem GB:gI X (compareOp .In) (λx y H Q=>∃i j,x=.str i/\y=.str j/\Q (.bl (!(Builtin.Str.occurrences j i 0 j.length 1).isEmpty)) H):=by
 intro pins s σ H x y v u Q I rx ry h;obtain ⟨i,j,rfl,rfl,q⟩:=h;obtain ⟨t,rfl⟩:=rx;obtain ⟨t',rfl⟩:=ry;exact in_str (aQ I q rfl)
theorem ZH:gI X (compareOp .Is) (λx y H Q=>y=.non/\Q (.bl (decide (x=.non))) H):=by
 intro pins s σ H x y v u Q I rx ry h;obtain ⟨rfl,q⟩:=h;cases ry;refine is_none_gen (aQ I q ?_);cases x<;>first
  | (cases rx;rfl)
  | (obtain ⟨t,rfl⟩:=rx;rfl)
theorem RN:gI X (compareOp .IsNot) (λx y H Q=>y=.non/\Q (.bl (!decide (x=.non))) H):=by
 intro pins s σ H x y v u Q I rx ry h;obtain ⟨rfl,q⟩:=h;cases ry;refine isnot_none_gen (aQ I q ?_);cases x<;>first
  | (cases rx;rfl)
  | (obtain ⟨t,rfl⟩:=rx;rfl)
theorem DN (ho:gI X (compareOp op) r) (ha:PE X a ta) (hb:PE X b tb) (hm:behindInMarks op b=false):PE X (.Compare a [op] [b] pos) (XE r ta tb):=by
 intro pins s σ H Q I h;exact wpAny_Compare1 (Bo ha hb I h λv u s2 x y H2 I2 rx ry q=>ho pins s2 σ H2 x y v u Q I2 rx ry q) hm
noncomputable def Br (K:Fg) (x:V) (H:Hp) (k:Bool):Prop:=
 match x with
 | .non=>k=false
 | .bl b=>k=b
 | .int i=>k=(i != 0)
 | .str y=>y.length<=sizeLine/\k=((y.length:Int) != 0)
 | .byt y=>y.size<=sizeLine/\k=((y.size:Int) != 0)
 | .ref p=>(∃xs,aR K H p xs/\k=!xs.isEmpty)\/(∃xs,cZ K H p xs/\k=!xs.isEmpty)\/∃kvs,H p=some (.dK kvs)/\k=!kvs.isEmpty
 |_=>False
theorem BU {κ:Type} {kvs:List (κ × V)} {vs:List (κ × Value)} (r:KV kvs vs):(!vs.isEmpty)=!kvs.isEmpty:=by
 cases r<;>rfl
theorem pZ {xs:List V} {its:List Value} (r:Vals xs its):(!its.toArray.isEmpty)=!xs.isEmpty:=by
 cases r<;>simp
theorem lZ:(sizeLine:Nat)<2 ^ 63:=by rw[sizeLine_eq];decide
theorem XB:Iw X (λx H Q=>∃k,Br X.K x H k/\Q k H):=by
 intro pins s σ H x v Q I rx h;obtain ⟨k,e,q⟩:=h;have hl:=lZ;have hs:sizeLine=16777216:=sizeLine_eq;cases x with
 |non=>
  cases rx;have e':k=false:=e;subst e';exact truthy_none ⟨H,I,q⟩
 |bl b=>
  cases rx;have e':k=b:=e;subst e';exact wpAny_truthy_bool ⟨H,I,q⟩
 |int i=>
  obtain ⟨t,rfl⟩:=rx;have e':k=(i != 0):=e;subst e';exact PySem.P.truthy_int ⟨H,I,q⟩
 |str y=>
  obtain ⟨t,rfl⟩:=rx;obtain ⟨hy,e'⟩:y.length<=sizeLine/\k=((y.length:Int) != 0):=e;subst e';exact PySem.P.truthy_str (by lia) ⟨H,I.tok _,q⟩
 |byt y=>
  obtain ⟨t,rfl⟩:=rx;obtain ⟨hy,e'⟩:y.size<=sizeLine/\k=((y.size:Int) != 0):=e;subst e';exact PySem.W.truthy_bytes (by lia) ⟨H,I.tok _,q⟩
 |ref p=>
  cases rx;have e':(∃xs,aR X.K H p xs/\k=!xs.isEmpty)\/(∃xs,cZ X.K H p xs/\k=!xs.isEmpty)\/∃kvs,H p=some (.dK kvs)/\k=!kvs.isEmpty:=e;rcases e' with ⟨xs,hx,e'⟩|⟨xs,hx,e'⟩|⟨kvs,hx,e'⟩
  ·subst e';obtain ⟨its,r,pl,hz⟩:=I.list hx;have hlen:=r.length;exact wpAny_truthy_list pl.isList (by simp only [size_toArray];lia) ⟨H,I.tok _,by rw[pZ r];exact q⟩
  ·subst e';obtain ⟨its,r,pl,hz⟩:=I.tuple hx;have hlen:=r.length;exact truthy_tuple pl (by simp only [size_toArray];lia) ⟨H,I.tok _,by rw[pZ r];exact q⟩
  ·subst e';obtain ⟨hz,hS,vs,r,m⟩:kvs.length<=sizeLine/\(p==sysModules)=false/\∃vs,KV kvs vs/\s.heap.DictOf (aU X.prog X.w) p vs:=I.hok p _ hx;have hlen:kvs.length=vs.length:=Paired.length r;exact wpAny_truthy_dict hS m (by lia) ⟨H,I.tok _,by rw[BU r];exact q⟩
 |_=>exact (show False from e).elim
theorem BE:gI X (binaryOp .Add) (λx y H Q=>∃i j,x=.str i/\y=.str j/\i.length+j.length<=sizeLine/\Q (.str (i++j)) H):=by
 intro pins s σ H x y v u Q I rx ry h;obtain ⟨i,j,rfl,rfl,hz,q⟩:=h;obtain ⟨t,rfl⟩:=rx;obtain ⟨t',rfl⟩:=ry;exact add_str (λt' tk=>⟨.str (i++j),H,I.tok _,⟨_,rfl⟩,q⟩) hz
theorem vals1 (r:Vals [x] us):∃u,us=[u]/\RelV x u:=by
 cases r with
 |cons r1 r2=>cases r2;exact ⟨_,rfl,r1⟩
theorem vals2 (r:Vals [x,y] us):∃u w',us=[u,w']/\RelV x u/\RelV y w':=by
 cases r with
 |cons r1 r2=>
  cases r2 with
  |cons r3 r4=>cases r4;exact ⟨_,_,rfl,r1,r3⟩
theorem HU (hc:X.calm=true):bZ X (.builtin "min") (λxs H Q=>∃i j,xs=[.int i,.int j]/\Q (.int (if j<i then j else i)) H):=by
 intro pins s σ H xs us Q I r h;obtain ⟨i,j,rfl,q⟩:=h;obtain ⟨u,w',rfl,⟨t,rfl⟩,⟨t',rfl⟩⟩:=vals2 r;refine min_two_ints (I.ok.hd hc) λh' tk k=>⟨_,H,I.kept k,?_,q⟩;by_cases hj:j<i
 ·rw[if_pos hj,if_pos hj];exact ⟨_,rfl⟩
 ·rw[if_neg hj,if_neg hj];exact ⟨_,rfl⟩
noncomputable def Jc (K:Fg) (x:V) (H:Hp) (n:Nat):Prop:=
 match x with
 | .str y=>y.length<=sizeLine/\n=y.length
 | .byt y=>y.size<=sizeLine/\n=y.size
 | .ref p=>(∃xs,aR K H p xs/\n=xs.length)\/∃xs,cZ K H p xs/\n=xs.length
 |_=>False
theorem zW:bZ X (.builtin "len") (λxs H Q=>∃x n,xs=[x]/\Jc X.K x H n/\Q (.int n) H):=by
 intro pins s σ H xs us Q I r h;obtain ⟨x,n,rfl,e,q⟩:=h;obtain ⟨u,rfl,rx⟩:=vals1 r;have hl:=lZ;have hs:sizeLine=16777216:=sizeLine_eq;cases x with
 |str y=>
  obtain ⟨t,rfl⟩:=rx;obtain ⟨hy,e'⟩:y.length<=sizeLine/\n=y.length:=e;subst e';exact len_str (by lia) ⟨.int _,H,I.tok _,⟨_,rfl⟩,q⟩
 |byt y=>
  obtain ⟨t,rfl⟩:=rx;obtain ⟨hy,e'⟩:y.size<=sizeLine/\n=y.size:=e;subst e';exact PySem.W.len_bytes (by lia) ⟨.int _,H,I.tok _,⟨_,rfl⟩,q⟩
 |ref p=>
  cases rx;have e':(∃xs,aR X.K H p xs/\n=xs.length)\/∃xs,cZ X.K H p xs/\n=xs.length:=e;rcases e' with ⟨xs,hx,e'⟩|⟨xs,hx,e'⟩
  ·subst e';obtain ⟨its,r',pl,hz⟩:=I.list hx;have hlen:=r'.length;exact Calls.call_len_list pl.isList (by simp only [size_toArray];lia) ⟨.int xs.length,H,I.tok _,⟨_,by simp only [size_toArray];rw[hlen]⟩,q⟩
  ·subst e';obtain ⟨its,r',pl,hz⟩:=I.tuple hx;have hlen:=r'.length;exact len_tuple pl (by simp only [size_toArray];lia) ⟨.int xs.length,H,I.tok _,⟨_,by simp only [size_toArray];rw[hlen]⟩,q⟩
 |_=>exact (show False from e).elim
end
structure IA (h:Heap) (x dx C:Addr) (mA:Str->Option Value):Prop where
 obj:h.get? x=some (PySem.W.instObj C dx)
 ns:h.Ns1 dx mA
 ne:dx≠x
theorem GR {h:Heap} {dx:Addr} {mA:Str->Option Value} (n:h.Ns1 dx mA):∃od,h.get? dx=some od/\∀name,PySem.W.lookIn name od=some (mA name):=by
 obtain ⟨o,es,ep,ho,hd,hk,_,hm⟩:=n;refine ⟨o,ho,λname=>?_⟩;have e:=hm name;unfold nsFind findBy at e;rw[<-Array.find?_toList] at e;unfold PySem.W.lookIn;rw[hd];dsimp only;split
 ·rename_i y q;rw[q] at e;exact congrArg some e
 ·rename_i q;rw[q] at e;have a:es.toList.any (·.refKey)=false:=by
   rw[List.any_eq_false];intro y hy;obtain ⟨z,t,hkey⟩:=hk y (Array.mem_toList_iff.mp hy);simp [DictEntry.refKey,hkey]
  have a':¬es.toList.any (·.refKey)=true:=by rw[a];exact Bool.false_ne_true
  rw[if_neg a'];exact congrArg some e
theorem IA.look (I:IA h x dx C mA):∃od,PySem.W.InstAt h x (PySem.W.instObj C dx) C (some od)/\∀name,PySem.W.lookIn name od=some (mA name):=
 let ⟨od,ho,hl⟩:=GR I.ns
 ⟨od,⟨I.obj,rfl,rfl,ho⟩,hl⟩
section
variable {prog:Program} {w:World} {A:Around} {E:Value->Shared->Prop} {s:Shared} {K:Fg} {x dx C f:Addr} {mA:Str->Option Value} {name:Str} {v:Value}
theorem get_map (X:K.In s.heap) (I:IA s.heap x dx C mA) (hg:PySem.W.plainGet K C name=true) (hh:PySem.W.hasDictIn K C=true)
  (ha:PySem.W.findIn K (.ref C) name=some none) (hv:mA name=some v) (hv':PySem.W.handedIn v=true) (h:Q v {s with toks:=s.toks+1}):
  wpAny (model prog w) A (getAttr (.ref x) name expr) Q E s:=by
 obtain ⟨od,J,hl⟩:=I.look;exact PySem.W.get_value X J (PySem.W.plainGet_of hg).1 (PySem.W.findObj_own hh ha rfl (by rw[hl,hv])) hv' h
theorem QP (X:K.In s.heap) (I:IA s.heap x dx C mA)
  (hs:PySem.W.findIn K (.ref C) "__setattr__"=some (some (.builtin "object.__setattr__"))) (hp:PySem.W.plainOver K C=true) (ht:PySem.W.takerIn K C name=some none) (hh:PySem.W.hasDictIn K C=true)
  (hw:PySem.Within mA ns) (hsz:ns.length<=sizeLine)
  (h:∀h',IA h' x dx C (λy=>if y=name then some v else mA y)->SameBut dx s.heap h'->Q () {s with heap:=h',toks:=s.toks+2}):
  wpAny (model prog w) A (setAttr (.ref x) name v) Q E s:=by
 obtain ⟨od,J,hl⟩:=I.look;refine PySem.W.set_plain X J hs (PySem.W.osa_open (s:={s with toks:=s.toks+1}) (r:=none) X J hp ht λb=>?_);obtain ⟨cd,hc,hd'⟩:=PySem.W.any_some hh;have hx:s.heap.get? x=some ⟨.ref C,some dx,.plain,#[]⟩:=I.obj;refine wpAny_bind (wpAny_pure (wpAny_bind (wpAny_bind (wpAny_loadPart hx (wpAny_bind (PySem.W.Looks.here (s:={s with toks:=s.toks+1}) (PySem.W.looks_clsIn X hc) ?_))))));rw[hd'];refine wpAny_pure (a:=some dx) (wpAny_bind (wpAny_pure (wpAny_bind ?_)));refine wpAny_nsSet1 (s:={s with toks:=s.toks+1}) I.ns λh' hn2 hs2=>?_;obtain ⟨oD,esD,epD,hoD,hdD,hcD⟩:=hn2.count (PySem.Within.cons name v hw);refine wpAny_bind (wpAny_lookBehind hoD (by rw[hdD];exact pastItsLine_dict (le_trans hcD (by rw[length_cons];lia))) ?_);exact wpAny_pure (h _ ⟨(hs2.2 _ (Ne.symm I.ne)).trans I.obj,hn2,I.ne⟩ hs2)
theorem LR (X:K.In s.heap) (hm:PySem.W.makesIn K C=true)
  (hi:PySem.W.findIn K (.ref C) "__init__"=some (some (.ref f))) (hf:PySem.W.typeIn K (.ref f)=some (.type "function"))
  (h:codeAny (model prog w) (A.under (.builtin "type.__call__" ⟨.ref C::vs,kw⟩)) (.call (.ref f) ⟨.ref (s.heap.objs.size+1)::vs,kw⟩) (PySem.W.InitBack (s.heap.objs.size+1) R)
   {s with heap:=(s.heap.push PySem.W.emptyDict).push (PySem.W.instObj C s.heap.objs.size)}):
  codeAny (model prog w) A (.call (.ref C) ⟨vs,kw⟩) R s:=by
 obtain ⟨hh,g,d,t,os⟩:=s;exact PySem.W.make_core (PySem.W.makes_of X hm) (PySem.W.looks_findIn X hi) (λself=>PySem.W.bind_fn X self hf) (.inl rfl) h
end
noncomputable def iG (f:Str) (v:V):List (Str × V)->List (Str × V)
 |[]=>[(f,v)]
 | (g,x)::r=>if g=f then (g,v)::r else (g,x)::iG f v r
theorem mP (f g:Str) (v:V):∀fs:List (Str × V),(iG f v fs).lookup g=if g=f then some v else fs.lookup g
 |[]=>by
  show List.lookup g [(f,v)]=_;by_cases h:g=f
  ·have hb:(g==f)=true:=beq_iff_eq.mpr h;simp only [List.lookup,hb,if_pos h]
  ·have hb:(g==f)=false:=beq_eq_false_iff_ne.mpr h;simp only [List.lookup,hb,if_neg h]
 | (k,x)::r=>by
  have ih:=mP f g v r;rw[show iG f v ((k,x)::r)=(if k=f then (k,v)::r else (k,x)::iG f v r) from rfl];by_cases hk:k=f
  ·rw[if_pos hk];by_cases h:g=k
   ·have hb:(g==k)=true:=beq_iff_eq.mpr h;simp only [List.lookup,hb,if_pos (h.trans hk)]
   ·have hb:(g==k)=false:=beq_eq_false_iff_ne.mpr h;simp only [List.lookup,hb,if_neg (λe:g=f=>h (e.trans hk.symm))]
  ·rw[if_neg hk];by_cases h:g=k
   ·have hb:(g==k)=true:=beq_iff_eq.mpr h;simp only [List.lookup,hb,if_neg (λe:g=f=>hk (h.symm.trans e))]
   ·have hb:(g==k)=false:=beq_eq_false_iff_ne.mpr h;simp only [List.lookup,hb];exact ih
theorem mB (f:Str) (v:V):∀fs:List (Str × V),f∈(iG f v fs).map (·.1)/\∀g,g∈fs.map (·.1)->g∈(iG f v fs).map (·.1)
 |[]=>⟨by simp [iG],λg h=>by simp at h⟩
 | (k,x)::r=>by
  obtain ⟨i1,i2⟩:=mB f v r;rw[show iG f v ((k,x)::r)=(if k=f then (k,v)::r else (k,x)::iG f v r) from rfl];by_cases hk:k=f
  ·rw[if_pos hk];subst hk;exact ⟨by simp,λg h=>by simpa using h⟩
  ·rw[if_neg hk];refine ⟨?_,λg h=>?_⟩
   ·rw[map_cons];exact mem_cons_of_mem _ i1
   ·rw[map_cons] at h ⊢;rcases mem_cons.mp h with e|e
    ·exact mem_cons.mpr (.inl e)
    ·exact mem_cons_of_mem _ (i2 g e)
theorem mQ (f:Str) (v:V):∀fs:List (Str × V),(iG f v fs).length<=fs.length+1
 |[]=>by simp [iG]
 | (k,x)::r=>by
  have ih:=mQ f v r;rw[show iG f v ((k,x)::r)=(if k=f then (k,v)::r else (k,x)::iG f v r) from rfl];by_cases hk:k=f
  ·rw[if_pos hk,length_cons,length_cons];lia
  ·rw[if_neg hk,length_cons,length_cons];lia
theorem iW.some_of (r:iW (some v) o):∃u,o=some u/\RelV v u:=by
 cases o with
 |none=>exact (show False from r).elim
 |some u=>exact ⟨u,rfl,r⟩
theorem HD (r:RelV v u):PySem.W.handedIn u=true:=by
 cases v with
 |non=>cases (show u=Value.none from r);rfl
 |bl b=>cases (show u=Value.bool b from r);rfl
 |int i=>obtain ⟨t,e⟩:=(show ∃t,u=Value.int i t from r);cases e;rfl
 |str x=>obtain ⟨t,e⟩:=(show ∃t,u=Value.str x t from r);cases e;rfl
 |byt b=>obtain ⟨t,e⟩:=(show ∃t,u=Value.bytes b t from r);cases e;rfl
 |flt b=>obtain ⟨t,e⟩:=(show ∃t,u=Value.float b t from r);cases e;rfl
 |ref a=>cases (show u=Value.ref a from r);rfl
 |ty n=>cases (show u=Value.type n from r);rfl
section
variable {P:Program} {w:World} {H H':Hp} {h h':Heap} {a C dx:Addr} {fs fs':List (Str × V)}
theorem vR (hok:eG P w H h) (e:H a=some (.ins C dx fs)):∃mA,IA h a dx C mA/\(∀f,iW (fs.lookup f) (mA f))/\PySem.Within mA (fs.map (·.1))/\fs.length<=1000/\H dx=some (.own a):=by
 obtain ⟨d,z,ne,ob,mA,n,r,q⟩:=(show aY P w H h a (.ins C dx fs) from hok a _ e);exact ⟨mA,⟨ob,n,ne⟩,r,q,z,d⟩
end
structure IC (K:Fg) (C:Addr):Prop where
 pg:PySem.W.plainGet K C Str.empty=true
 hd:PySem.W.hasDictIn K C=true
 po:PySem.W.plainOver K C=true
 sa:PySem.W.findIn K (.ref C) "__setattr__"=some (some (.builtin "object.__setattr__"))
theorem IC.get {K:Fg} {C:Addr} (c:IC K C) (f:Str):PySem.W.plainGet K C f=true:=c.pg
noncomputable def bS (K:Fg) (C:Addr) (f:Str):Prop:=PySem.W.findIn K (.ref C) f=some none
theorem bS.taker {K:Fg} {C:Addr} {f:Str} (n:bS K C f):PySem.W.takerIn K C f=some none:=by
 unfold PySem.W.takerIn;rw[show PySem.W.findIn K (.ref C) f=some none from n];rfl
section
variable {X:Cx} {pins:List (Addr × Obj)} {σ:St} {H:Hp} {s:Shared} {a C dx:Addr} {fs:List (Str × V)} {f:Str} {v:V} {A:Around} {E:Value->Shared->Prop}
theorem CB {b:Bool} {Q:Value->Shared->Prop} (I:Inv X pins σ H s) (e:H a=some (.ins C dx fs)) (c:IC X.K C) (n:bS X.K C f) (l:fs.lookup f=some v)
  (h:∀u s',Inv X pins σ H s'->RelV v u->Q u s'):wpAny (model X.prog X.w) A (getAttr (.ref a) f b) Q E s:=by
 obtain ⟨mA,O,r,_,_,_⟩:=vR I.hok e;obtain ⟨u,hu,ru⟩:=iW.some_of (v:=v) (o:=mA f) (by rw[<-l];exact r f);exact get_map I.kIn O (c.get f) c.hd n hu (HD ru) (h u _ (I.tok _) ru)
theorem AZ {y:V} {u:Value} {Q:Unit->Shared->Prop} (I:Inv X pins σ H s) (e:H a=some (.ins C dx fs)) (c:IC X.K C) (n:bS X.K C f) (hl:fs.length<1000) (ry:RelV y u)
  (h:∀s',Inv X pins σ (upd H a (.ins C dx (iG f y fs))) s'->Q () s'):wpAny (model X.prog X.w) A (setAttr (.ref a) f u) Q E s:=by
 obtain ⟨mA,O,r,wi,_,ho⟩:=vR I.hok e;have hz:(fs.map (·.1)).length<=sizeLine:=by rw[length_map,sizeLine_eq];lia
 refine QP I.kIn O c.sa c.po n.taker c.hd wi hz λh' O' sb=>h _ ?_;have hd:∃o,h'.get? dx=some o:=let ⟨o,_,_,e',_⟩:=O'.ns;⟨o,e'⟩;refine I.write (x:=a) (e:=dx) (by rw[e];exact tI) (.inr ho) (λb q hb z=>(sb.2 b hb).trans z) hd ?_;refine ⟨by rw[aF O.ne];exact ho,?_,O.ne,O'.obj,_,O'.ns,λg=>?_,λg hg=>?_⟩
 ·have:=mQ f y fs;lia
 ·show iW ((iG f y fs).lookup g) (if g=f then some u else mA g);rw[mP];by_cases q:g=f
  ·rw[if_pos q,if_pos q];exact ry
  ·rw[if_neg q,if_neg q];exact r g
 ·by_cases q:g=f
  ·rw[q];exact (mB f y fs).1
  ·refine (mB f y fs).2 g (wi g λz=>hg ?_);show (if g=f then some u else mA g)=none;rw[if_neg q];exact z
theorem Inv.made (I:Inv X pins σ H s):Inv X pins σ (upd (upd H s.heap.objs.size (.own (s.heap.objs.size+1))) (s.heap.objs.size+1) (.ins C s.heap.objs.size []))
  {s with heap:=(s.heap.push PySem.W.emptyDict).push (PySem.W.instObj C s.heap.objs.size)}:=by
 have e1:(s.heap.push PySem.W.emptyDict).get? s.heap.objs.size=some PySem.W.emptyDict:=get?_push_size s.heap rfl;have e2:((s.heap.push PySem.W.emptyDict).push (PySem.W.instObj C s.heap.objs.size)).get? (s.heap.objs.size+1)=some (PySem.W.instObj C s.heap.objs.size):=by
  have:=get?_push_size (s.heap.push PySem.W.emptyDict) (o:=PySem.W.instObj C s.heap.objs.size) rfl;rwa [Heap.size_push] at this
 have e3:(s.heap.push PySem.W.emptyDict).Ns s.heap.objs.size (λ_=>none):=⟨PySem.W.emptyDict,#[],_,e1,rfl,(λe he=>absurd he (by simp)),λ_=>rfl⟩;have I1:=I.laid (a:=s.heap.objs.size) (o:=.own (s.heap.objs.size+1)) (h':=s.heap.push PySem.W.emptyDict) (t':=s.toks) (λb u q=>get?_push_of_some _ q) (Nat.le_refl _) ⟨_,e1⟩;refine I1.laid (a:=s.heap.objs.size+1) (o:=.ins C s.heap.objs.size []) (t':=s.toks) (λb u q=>get?_push_of_some _ q) (le_of_eq (Heap.size_push _ _)) ?_;have ne:s.heap.objs.size≠s.heap.objs.size+1:=ne_of_lt (lt_succ_self _);refine ⟨by rw[aF ne,aA],zero_le _,ne,e2,λ_=>none,(Heap.Ns1.of_empty e3).at λo q=>get?_push_of_some _ q,λ_=>tI,λy hy=>absurd rfl hy⟩
theorem US {prog:Program} {w:World} {env:Env} {e:Expr} {f:Str} {pos:Pos} {s:Shared} {Q:Value->Shared->Prop} (hb:attributeBase e f env (eval e env)=eval e env)
  (h:wpAny (model prog w) A (eval e env) (λo s₁=>wpAny (model prog w) A (getAttr o f true) Q E s₁) E s):wpAny (model prog w) A (eval (.Attribute e f pos) env) Q E s:=
 Attribute_any_ h (by rw[arm_eval_Attribute,hb])
end
noncomputable def Dl (K:Fg) (ta:TE) (f:Str):TE:=λσ H Q=>ta σ H λx H1=>∃a C dx fs v,x=.ref a/\H1 a=some (.ins C dx fs)/\IC K C/\bS K C f/\fs.lookup f=some v/\Q v H1
noncomputable def Dx (K:Fg) (ta tv:TE) (f:Str):TS:=λD σ H=>tv σ H λy H1=>ta σ H1 λx H2=>∃a C dx fs,x=.ref a/\H2 a=some (.ins C dx fs)/\IC K C/\bS K C f/\fs.length<1000/\
 D.nx σ (upd H2 a (.ins C dx (iG f y fs)))
section
variable {X:Cx} {o e value:Expr} {f:Str} {pos pos' tpos:Pos} {ta tv:TE}
theorem YW (he:PE X e ta) (hb:attributeBase e f X.env (eval e X.env)=eval e X.env):PE X (.Attribute e f pos) (Dl X.K ta f):=by
 intro pins s σ H Q I h;refine US hb (bT (he pins s σ H _ I h) λu s1 ⟨x,H1,I1,rx,a,C,dx,fs,v,ex,ea,c,n,l,q⟩=>?_);subst ex;obtain rfl:u=Value.ref a:=rx;exact CB I1 ea c n l λu' s2 I2 ru=>⟨v,H1,I2,ru,q⟩
theorem YK (ha:PE X o ta) (hv:PE X value tv) (hs:swapsWith value (some (.Attribute o f pos')) pos.line X.env=pure false):PS X (.Assign [.Attribute o f pos'] value pos) (Dx X.K ta tv f):=by
 intro pins s σ H D I h;refine plainObj_wpAny_Assign_Attribute (bT (hv pins s σ H _ I h) λu s1 ⟨y,H1,I1,ry,q⟩=>bT (ha pins s1 σ H1 _ I1 q) λov s2 ⟨x,H2,I2,rx,a,C,dx,fs,ex,ea,c,n,l,q2⟩=>?_) hs;subst ex;obtain rfl:ov=Value.ref a:=rx;exact AZ I2 ea c n l ry λs3 I3=>⟨σ,_,I3,q2⟩
end
section
variable {X:Cx} {pins:List (Addr × Obj)} {σ:St} {H:Hp} {s:Shared} {A:Around} {E:Value->Shared->Prop} {Q:Value->Shared->Prop} {c:Value} {b:Bool}
inductive iV (K:Fg) (H:Hp):V->Value->Prop where
 |non:iV K H .non (.type "NoneType")
 |bl (x:Bool):iV K H (.bl x) (.type "bool")
 |int (i:Int):iV K H (.int i) (.type "int")
 |str (x:Str):iV K H (.str x) (.type "str")
 |flt (x:UInt64):iV K H (.flt x) (.type "float")
 |lst {a:Addr} {xs:List V} (e:H a=some (.lst xs)):iV K H (.ref a) (.type "list")
 |frz {a:Addr} {o:Obj} {xs:List V} (e:H a=some (.frz o (.lst xs))):iV K H (.ref a) (.type "list")
 |tup {a:Addr} {xs:List V} (e:H a=some (.tup xs)):iV K H (.ref a) (.type "tuple")
 |dK {a:Addr} {kvs:List (Key × V)} (e:H a=some (.dK kvs)):iV K H (.ref a) (.type "dict")
 |dT {a:Addr} {kvs:List (List Key × V)} (e:H a=some (.dT kvs)):iV K H (.ref a) (.type "dict")
 |ins {a C dx:Addr} {fs:List (Str × V)} (e:H a=some (.ins C dx fs)) (cl:IC K C) (ha:PySem.W.findIn K (.ref C) "__class__"=some (some (.builtin "object.__class__")))
   (hn:PySem.W.specialIn K (.builtin "object.__class__") "__get__"=some (some (.builtin "getset_descriptor.__get__"))) (htk:PySem.W.takesIn K (.builtin "object.__class__")=some true)
   (hm:PySem.W.mroIn K C (.type "object")=some true):iV K H (.ref a) (.ref C)
theorem GX (I:Inv X pins σ H s) (rx:RelV x u) (ty:iV X.K H x t) (e:PySem.W.kitOne X.K t c=some b) (h:∀tk,Q (.bool b) {s with toks:=tk}):
  wpAny (model X.prog X.w) A (call (.builtin "isinstance") [u,c]) Q E s:=by
 cases ty with
 |non=>cases (show u=Value.none from rx);exact PySem.W.kia_one PySem.W.kitx_none I.kIn tI e (λz=>nomatch z) h
 |bl y=>cases (show u=Value.bool y from rx);exact PySem.W.kia_one PySem.W.kitx_bool I.kIn tI e (λz=>nomatch z) h
 |int i=>obtain ⟨t,q⟩:=(show ∃t,u=Value.int i t from rx);cases q;exact PySem.W.kia_one PySem.W.kitx_int I.kIn tI e (λz=>nomatch z) h
 |str y=>obtain ⟨t,q⟩:=(show ∃t,u=Value.str y t from rx);cases q;exact PySem.W.kia_one PySem.W.kitx_str I.kIn tI e (λz=>nomatch z) h
 |flt y=>obtain ⟨t,q⟩:=(show ∃t,u=Value.float y t from rx);cases q;exact PySem.W.kia_one PySem.W.kitx_float I.kIn tI e (λz=>nomatch z) h
 |@lst a xs ea=>
  cases (show u=Value.ref a from rx);obtain ⟨_,_,n,_,h1⟩:=(show aY X.prog X.w H s.heap a (.lst xs) from I.hok a _ ea);exact PySem.W.kia_one PySem.W.kitx_list I.kIn ⟨_,h1,rfl⟩ e (λz=>nomatch z) h
 |@frz a ob xs ea=>
  cases (show u=Value.ref a from rx);obtain ⟨_,_,_,n,_,h1⟩:=(show aY X.prog X.w H s.heap a (.frz ob (.lst xs)) from I.hok a _ ea);exact PySem.W.kia_one PySem.W.kitx_list I.kIn ⟨_,h1,rfl⟩ e (λz=>nomatch z) h
 |@tup a xs ea=>
  cases (show u=Value.ref a from rx);obtain ⟨_,_,_,p⟩:=(show aY X.prog X.w H s.heap a (.tup xs) from I.hok a _ ea);obtain ⟨o,h1,h2,_⟩:=p;exact PySem.W.kia_one PySem.W.kitx_tuple I.kIn ⟨o,h1,h2⟩ e (λz=>nomatch z) h
 |@dK a kvs ea=>
  cases (show u=Value.ref a from rx);obtain ⟨_,_,vs,_,p⟩:=(show aY X.prog X.w H s.heap a (.dK kvs) from I.hok a _ ea);obtain ⟨o,es,ep,h1,h2,_⟩:=p;exact PySem.W.kia_one PySem.W.kitx_dict I.kIn ⟨o,h1,h2.1⟩ e (λz=>nomatch z) h
 |@dT a kvs ea=>
  cases (show u=Value.ref a from rx);obtain ⟨_,_,xs,_,o,es,ep,h1,h2,_⟩:=(show aY X.prog X.w H s.heap a (.dT kvs) from I.hok a _ ea);exact PySem.W.kia_one PySem.W.kitx_dict I.kIn ⟨o,h1,h2.1⟩ e (λz=>nomatch z) h
 |@ins a C dx fs ea cl ha hn htk hm=>
  cases (show u=Value.ref a from rx);obtain ⟨mA,O,_⟩:=vR I.hok ea;obtain ⟨od,J,_⟩:=O.look;exact PySem.W.kia_one (PySem.W.kitx_own (cl.get _) cl.hd ha hn htk hm) I.kIn J e (λz=>nomatch z) h
end
structure cG (k:Nat) (A:Around):Prop where
 hd:A.handled=none
 dp:A.depth+3 * k+5<recursionLimit
 un:A.units+16 * k+200<cLine
theorem cG.mono (r:cG k A) (h:j<=k):cG j A:=⟨r.hd,by have:=r.dp;lia,by have:=r.un;lia⟩
theorem cG.deeper (r:cG (k+1) A) (env:Env):cG k (A.deeper env):=
 ⟨r.hd,by have:=r.dp;show A.depth+1+3 * k+5<_;lia,by have:=r.un;show A.units+3+16 * k+200<_;lia⟩
theorem pO {A:Around} {C:Addr} {us:List Value} {kw:List (Str × Value)}:(A.under (.builtin "type.__call__" ⟨.ref C::us,kw⟩)).depth=A.depth+1:=by
 first|rfl|simp [Around.under,Code.weight,Code.isCreation,Code.isGuard,Code.isCaller,Code.frames,Code.isFrame,guardIds]
theorem BO {A:Around} {C:Addr} {us:List Value} {kw:List (Str × Value)}:(A.under (.builtin "type.__call__" ⟨.ref C::us,kw⟩)).units=A.units+1:=by
 first|rfl|simp [Around.under,Code.cUnits,Code.frames,Code.isFrame]
theorem cG.make (r:cG (k+1) A) (C:Addr) (us:List Value) (kw:List (Str × Value)):cG k (A.under (.builtin "type.__call__" ⟨.ref C::us,kw⟩)):=
 ⟨r.hd,by have:=r.dp;rw[pO];lia,by have:=r.un;rw[BO];lia⟩
theorem cG.depth (r:cG k A):A.depth<recursionLimit:=by have:=r.dp;lia
theorem cG.units (r:cG k A):A.units+64<cLine:=by have:=r.un;lia
noncomputable def Di:TA:=λ_ H Q=>Q [] H
noncomputable def VJ (ta:TE) (tr:TA):TA:=λσ H Q=>ta σ H λx H1=>tr σ H1 λxs H2=>Q (x::xs) H2
section
variable {X:Cx} {e:Expr} {es:List Expr} {te:TE} {t:TA} {pos:Pos}
theorem KP:PA X [] Di:=λ_ _ _ _ H Q I h=>Calls.spliced_nil ⟨[],H,I,.nil,h⟩
theorem DO (ha:PE X e te) (hr:PA X es t) (hs:starEach (e::es) X.env=(false,eval e X.env)::starEach es X.env:=by rfl):PA X (e::es) (VJ te t):=by
 intro pos pins s σ H Q I h;rw[hs];show wpAny _ _ (spliced ((false,eval e X.env)::backTo pos (starEach es X.env))) _ _ s;refine Calls.spliced_cons (bT (ha pins s σ H _ I h) λu s1 ⟨x,H1,I1,r1,q1⟩=>?_);exact bT (hr pos pins s1 σ H1 _ I1 q1) λus s2 ⟨xs,H2,I2,r2,q2⟩=>⟨x::xs,H2,I2,.cons r1 r2,q2⟩
noncomputable def Dg (t:TA):TE:=λσ H Q=>t σ H λxs H1=>xs.length<=sizeLine/\∀p,H1 p=none->Q (.ref p) (upd H1 p (.tup xs))
noncomputable def Dj (t:TA):TE:=λσ H Q=>t σ H λxs H1=>xs.length<=sizeLine/\∀p,H1 p=none->Q (.ref p) (upd H1 p (.lst xs))
theorem YQ {x1} (h:PA X es t):PE X (.Tuple es x1 pos) (Dg t):=by
 intro pins s σ H Q I hq;refine wpAny_Tuple_spliced (bT (h pos pins s σ H _ I hq) λus s1 ⟨xs,H1,I1,r,z,q⟩=>⟨by rw[<-r.length];exact z,?_⟩);have hf:H1 s1.heap.objs.size=none:=I1.hok.fresh (Nat.le_refl _);refine ⟨.ref s1.heap.objs.size,upd H1 s1.heap.objs.size (.tup xs),I1.laid (t':=s1.toks) (λb u e=>get?_push_of_some _ e) (Nat.le_refl _) ?_,rfl,q _ hf⟩;exact ⟨z,us,r,⟨_,get?_push_size _ rfl,rfl,_,rfl⟩⟩
theorem YU (h:PA X es t):PE X (.List es pos) (Dj t):=by
 intro pins s σ H Q I hq;refine wpAny_List_spliced (bT (h pos pins s σ H _ I hq) λus s1 ⟨xs,H1,I1,r,z,q⟩=>⟨by rw[<-r.length];exact z,?_⟩);have hf:H1 s1.heap.objs.size=none:=I1.hok.fresh (Nat.le_refl _);refine ⟨.ref s1.heap.objs.size,upd H1 s1.heap.objs.size (.lst xs),I1.laid (t':=s1.toks) (λb u e=>get?_push_of_some _ e) (Nat.le_refl _) ?_,rfl,q _ hf⟩;exact ⟨z,us,0,r,get?_push_size _ rfl⟩
end
noncomputable abbrev Sp:=List V->Hp->VK->XK->Prop
noncomputable abbrev PK:=List Env->Hp->Shared->XK->Value->Shared->Prop
structure CU (P:Program) (w:World) (K:Fg) (mg:Str->Option Value) (base:Heap) (A:Around) (outer:List Env) (s:Shared) (H:Hp):Prop where
 frames:A.frames=some outer
 mod:Mod K mg base
 bs:∀b o,base.get? b=some o->s.heap.get? b=some o/\H b=none
 bsz:base.objs.size<=s.heap.objs.size
 funs:s.heap.FunFrames base outer
 frf:∀b∈fV outer,H b=none
 hok:eG P w H s.heap
 bare:AllBare s.gens
noncomputable def CE (outer:List Env) (P:Program) (w:World) (H:Hp) (s:Shared) (Q:VK) (u:Value) (s':Shared):Prop:=
 ∃v H',s'.os=s.os/\AllBare s'.gens/\Un (fV outer) [] H H' s.heap s'.heap/\eG P w H' s'.heap/\RelV v u/\Q v H'
noncomputable def CR (CX:PK) (outer:List Env) (P:Program) (w:World) (H:Hp) (s:Shared) (Q:VK) (E:XK) (r:Result) (s':Shared):Prop:=
 match r with
 | .ok (.ret u)=>CE outer P w H s Q u s'
 | .ok _=>False
 | .error e=>CX outer H s E e s'
structure sC (P:Program) (w:World) (K:Fg) (mg:Str->Option Value) (base:Heap) (CX:PK) (k:Nat) (f:Addr) (fd:FuncData) (ps:List Str) (sp:Sp):Prop where
 len:∀vs H Q E,sp vs H Q E->vs.length=ps.length
 run:∀(A:Around) (outer:List Env) (s:Shared) (H:Hp) (args:Args) (us:List Value) (vs:List V) (Q:VK) (E:XK),cG k A->CU P w K mg base A outer s H->BindsTo s fd args (ps.zip us)->Vals vs us->sp vs H Q E->
  codeAny (model P w) A (.call (.ref f) args) (CR CX outer P w H s Q E) s
theorem CU.make {P:Program} {w:World} {K:Fg} {mg:Str->Option Value} {base:Heap} {A:Around} {outer:List Env} {s:Shared} {H:Hp} (e:CU P w K mg base A outer s H) (C:Addr) (us:List Value) (kw:List (Str × Value)):
  CU P w K mg base (A.under (.builtin "type.__call__" ⟨.ref C::us,kw⟩)) outer s H:=⟨by first|exact e.frames|(simpa [Around.under,Code.envs,Code.isFrame,pushEnvs] using e.frames),e.mod,e.bs,e.bsz,e.funs,e.frf,e.hok,e.bare⟩
section
variable {X:Cx} {pins:List (Addr × Obj)} {σ:St} {H:Hp} {s s':Shared}
theorem Inv.env0 (I:Inv X pins σ H s):CU X.prog X.w X.K X.mg X.base X.A X.stack s H:=
 ⟨I.ok.frames,I.ok.mod,I.bs,le_trans I.ok.bsz I.sz,I.stack,I.stkFree,I.hok,I.bare⟩
theorem Inv.after (I:Inv X pins σ H s) (h:CE X.stack X.prog X.w H s Q u s'):EP X pins σ Q u s':=by
 obtain ⟨v,H',os,bare,un,hok,r,q⟩:=h;obtain ⟨hh,g,d,t,os'⟩:=s';obtain rfl:os'=s.os:=os;exact ⟨v,H',I.call (h':=hh) (g':=g) (d':=d) (t':=t) (ch:=[]) un hok bare (λb z=>absurd z (by simp)),r,q⟩
end
noncomputable def Binds (K:Fg) (fd:FuncData) (ps:List Str) (ds:List Value):Prop:=
 ∀(s:Shared) (us:List Value),K.In s.heap->(us++ds).length=ps.length->BindsTo s fd ⟨us,[]⟩ (ps.zip (us++ds))
theorem Binds.all {K:Fg} {fd:FuncData} {ps:List Str} (h:∀us:List Value,us.length=ps.length->bindArgs fd ⟨us,[]⟩=pure (ps.zip us)):Binds K fd ps []:=λs us _ hl=>by
 rw[append_nil] at hl ⊢;exact .of_eq (h us hl)
noncomputable def Passes (CX:PK) (X:Cx) (E:XK):Prop:=∀(pins:List (Addr × Obj)) (σ:St) (H:Hp) (s:Shared) (e:Value) (s':Shared),Inv X pins σ H s->CX X.stack H s E e s'->X.xe e s'
section
variable {X:Cx} {CX:PK} {k:Nat} {f C:Addr} {fd:FuncData} {ps:List Str} {sp:Sp} {dvs:List V} {ds:List Value} {E:XK} {x m:Str} {p pos apos:Pos} {e o:Expr} {es:List Expr} {ta:TE} {t:TA}
structure Mk (K:Fg) (C f:Addr):Prop where
 makes:PySem.W.makesIn K C=true
 init:PySem.W.findIn K (.ref C) "__init__"=some (some (.ref f))
 fn:PySem.W.isFn K (.ref f)=true
 kp:PySem.W.keepIn K (.ref C)=true
end
section
variable {X:Cx} {CX:PK} {k:Nat} {f C:Addr} {fd:FuncData} {ps ks:List Str} {sp:Sp} {E:XK} {x m:Str} {p pos apos kpos:Pos} {e o:Expr} {es:List Expr} {kws:List Keyword} {te ta:TE} {t tk:TA} {nm:Option Str}
variable {g:List Value->List Value->List Value} {gV:List V->List V->List V}
end
structure eC (N P:List Str) (sc:Scope):Prop where
 kind:sc.kind=.function
 co:sc.isCoroutine=false
 gen:sc.isGenerator=false
 nd:N.Nodup
 pre:N.take P.length=P
 par:∀x∈P,sc.names.lookup x=some .local\/sc.names.lookup x=some .cell
 nofree:∀y∈sc.names,y.2≠.free
theorem tL {kindOf:Str->Option NameKind} {x:Str}:∀{binds:List (Str × Value)} {m:Str->Option Value},(∀v,(x,v)∉binds)->bindL kindOf binds m x=m x
 |[],_,_=>rfl
 | (n,v)::r,m,h=>by
  unfold bindL;rw[tL λw hw=>h w (mem_cons_of_mem _ hw)];split
  ·have:x≠n:=by rintro rfl;exact h v mem_cons_self
   simp [this]
  ·rfl
theorem tN {kindOf:Str->Option NameKind} {x:Str}:∀{binds:List (Str × Value)} {m:Str->Option Value},(∀v,(x,v)∉binds)->bindC kindOf binds m x=m x
 |[],_,_=>rfl
 | (n,v)::r,m,h=>by
  unfold bindC;rw[tN λw hw=>h w (mem_cons_of_mem _ hw)];split
  ·rfl
  ·have:x≠n:=by rintro rfl;exact h v mem_cons_self
   simp [this]
theorem tM {kindOf:Str->Option NameKind} {x:Str} {v:Value}:∀{P:List Str} {vs:List Value} {i:Nat} {m:Str->Option Value},P.Nodup->P[i]?=some x->vs[i]?=some v->kindOf x=some .local->
  bindL kindOf (P.zip vs) m x=some v
 |[],_,_,_,_,h,_,_=>by simp at h
 |_::_,[],_,_,_,_,h,_=>by simp at h
 |p::P,w::vs,0,m,nd,h1,h2,hk=>by
  simp at h1 h2;subst h1;subst h2;show bindL kindOf ((p,w)::P.zip vs) m p=_;unfold bindL;rw[tL λv hv=>(nodup_cons.mp nd).1 (List.of_mem_zip hv).1,if_pos hk];simp
 |p::P,w::vs,i+1,m,nd,h1,h2,hk=>by
  show bindL kindOf ((p,w)::P.zip vs) m x=_;unfold bindL;exact tM (i:=i) (nodup_cons.mp nd).2 (by simpa using h1) (by simpa using h2) hk
theorem tP {kindOf:Str->Option NameKind} {x:Str} {v:Value}:∀{P:List Str} {vs:List Value} {i:Nat} {m:Str->Option Value},P.Nodup->P[i]?=some x->vs[i]?=some v->kindOf x≠some .local->
  bindC kindOf (P.zip vs) m x=some v
 |[],_,_,_,_,h,_,_=>by simp at h
 |_::_,[],_,_,_,_,h,_=>by simp at h
 |p::P,w::vs,0,m,nd,h1,h2,hk=>by
  simp at h1 h2;subst h1;subst h2;show bindC kindOf ((p,w)::P.zip vs) m p=_;unfold bindC;rw[tN λv hv=>(nodup_cons.mp nd).1 (List.of_mem_zip hv).1,if_neg hk];simp
 |p::P,w::vs,i+1,m,nd,h1,h2,hk=>by
  show bindC kindOf ((p,w)::P.zip vs) m x=_;unfold bindC;exact tP (i:=i) (nodup_cons.mp nd).2 (by simpa using h1) (by simpa using h2) hk
noncomputable def start (N:List Str) (vs:List V):St:=vs.map some++replicate (N.length - vs.length) none
noncomputable def rY (CX:PK) (P:Program) (w:World) (K:Fg) (mg:Str->Option Value) (base:Heap) (N:List Str) (qual:Str) (scope:Scope) (f:Addr) (cd:Value) (A:Around) (outer:List Env) (s:Shared) (H:Hp) (E:XK):Cx where
 prog:=P
 w:=w
 K:=K
 mg:=mg
 base:=base
 A:=A.deeper (envOfC qual scope s.heap.objs.size f cd)
 N:=N
 s₀:=s
 H₀:=H
 env:=envOfC qual scope s.heap.objs.size f cd
 outer:=outer
 stack:=envOfC qual scope s.heap.objs.size f cd::outer
 ex:=[]
 calm:=true
 fn:=λ_=>true
 pn:=[]
 xe:=λe s'=>wpAny (model P w) (A.deeper (envOfC qual scope s.heap.objs.size f cd)) (leaving (envOfC qual scope s.heap.objs.size f cd) e) (λ_ s''=>CX outer H s E e s'') (λe' s''=>CX outer H s E e' s'') s'
theorem qT {sc:Scope} {n:Nat} {x:Str} (h:sc.names.lookup x=some .cell):∃c,(cellsFrom n sc.names []).lookup x=some c:=by
 have q:=PySem.W.cellsFrom_some sc.names n [] (.inl h);exact Option.isSome_iff_exists.mp q
theorem GY {CX:PK} {P:Program} {w:World} {K:Fg} {mg:Str->Option Value} {base:Heap} {N ps:List Str} {qual:Str} {scope:Scope} {f:Addr} {cd:Value} {A:Around} {outer:List Env} {s s1:Shared} {H:Hp} {E:XK} {us:List Value} {vs:List V}
  (S:eC N ps scope) (hd:A.handled=none) (e0:CU P w K mg base A outer s H) (hl:vs.length=ps.length) (r:Vals vs us)
  (x:InCallC s s.heap.objs.size (bindL (envOfC qual scope s.heap.objs.size f cd).kindOf (ps.zip us) λ_=>none) (cellsFrom (s.heap.objs.size+1) scope.names []) (bindC (envOfC qual scope s.heap.objs.size f cd).kindOf (ps.zip us) λ_=>none) s1):
  Inv (rY CX P w K mg base N qual scope f cd A outer s H E) [] (start N vs) H s1:=by
 have hpl:ps.length<=N.length:=by have:=congrArg List.length S.pre;rw[length_take] at this;lia
 obtain ⟨h1,tk,rfl,hk⟩:=x.done;have noA:∀b:Addr,b∉(rY CX P w K mg base N qual scope f cd A outer s H E).ex:=λb z=>absurd (show b∈([]:List Addr) from z) (by simp);refine ⟨⟨e0.mod,S.kind,rfl,rfl,Nat.le_refl _,λy z c h1 h2=>?_,λy hy=>?_,λy c _ h=>?_,λ_=>hd,Around.frames_deeper e0.frames,.inr ⟨rfl,rfl⟩,λb z=>absurd z (noA b),e0.bs,e0.bsz,λb _ _=>noA b,λb z=>absurd z (noA b),e0.funs,e0.frf⟩,
  rfl,e0.bare,Un.kept hk,⟨_,x.toInCall.ns,λi y v h1 h2 h3=>?_⟩,λy c h=>⟨_,x.cell y c h⟩,e0.hok.fresh (Nat.le_refl _),λy c h=>?_,λp hp=>absurd (show p∈([]:List (Addr × Obj)) from hp) (by simp),e0.hok.kept hk,?_⟩
 ·exact name_of_addr x.apart (PySem.mem_of_lookup h1) (PySem.mem_of_lookup h2)
 ·have hy:scope.names.lookup y=some .cell\/scope.names.lookup y=some .free:=hy;rcases hy with hy|hy
  ·exact qT hy
  ·exact absurd rfl (S.nofree _ (PySem.mem_of_lookup hy))
 ·exact le_of_lt (x.above y c (PySem.mem_of_lookup h))
 ·have hi:i<vs.length:=by
   unfold start at h2;by_cases hi:i<vs.length
   ·exact hi
   ·rw[getElem?_append_right (by simpa using hi)] at h2;rw[List.getElem?_replicate] at h2;split at h2<;>cases h2
  have ha:vs[i]?=some v:=by
   unfold start at h2;rw[getElem?_append_left (by simpa using hi),getElem?_map] at h2;cases e:vs[i]? with
   |none=>rw[e] at h2;cases h2
   |some a=>rw[e] at h2;cases h2;rfl
  obtain ⟨u,hu,rv⟩:=r.get ha;have hp:ps[i]?=some y:=by
   rw[<-S.pre,List.getElem?_take_of_lt (by lia)];exact h1
  have ndP:ps.Nodup:=by rw[<-S.pre];exact S.nd.sublist (List.take_sublist _ _)
  refine ⟨u,rv,?_⟩;rcases S.par y (mem_of_getElem? hp) with k|k
  ·exact .inl ⟨k,tM ndP hp hu k⟩
  ·obtain ⟨c,e⟩:=qT (n:=s.heap.objs.size+1) k;refine .inr ⟨.inl k,c,e,?_⟩;have q:=x.cell y c e;rw[tP ndP hp hu (by show scope.names.lookup y≠_;rw[k];decide)] at q;exact q
 ·exact e0.hok.fresh (le_of_lt (x.above y c (PySem.mem_of_lookup h)))
 ·unfold start;show _=N.length;rw[length_append,length_map,length_replicate];lia
theorem Hw {CX:PK} {P:Program} {w:World} {K:Fg} {mg:Str->Option Value} {base:Heap} {k:Nat} {f:Addr} {name qual:Str} {params:Arguments} {body:List Stmt} {scope:Scope} {dV kV doc pm cdv ct oc:Value} {an od:Option Addr}
  {osl:Array (Option Value)} {N ps:List Str} {sp:Sp} (lk:K.lookup f=some ⟨oc,od,.func (PySem.W.fnOf name qual params body scope dV kV doc pm an cdv ct),osl⟩) (hcd:PySem.W.codeIn K cdv qual=true) (S:eC N ps scope)
  (len:∀vs H Q E,sp vs H Q E->vs.length=ps.length)
  (hbody:∀(A:Around) (outer:List Env) (s:Shared) (H:Hp) (vs:List V) (Q:VK) (E:XK),cG k (A.deeper (envOfC qual scope s.heap.objs.size f cdv))->sp vs H Q E->
   ∃t,Bu (rY CX P w K mg base N qual scope f cdv A outer s H E) body t/\t {nx:=λ_ H'=>Q .non H',rt:=Q} (start N vs) H):
  sC P w K mg base CX (k+1) f (PySem.W.fnOf name qual params body scope dV kV doc pm an cdv ct) ps sp:=by
 refine ⟨len,λA outer s H args us vs Q E hr e0 hb r hsp=>?_⟩;have hl:=len _ _ _ _ hsp;have KX:K.In s.heap:=e0.mod.kin.keeps λb o e=>(e0.bs b o e).1;have lim:s.heap.NoLimit:=e0.mod.nolimit.keeps λb o e=>(e0.bs b o e).1;have hkind:∀y∈ps.zip us,scope.names.lookup y.1=some .local\/(scope.names.lookup y.1=some .cell/\((cellsFrom (s.heap.objs.size+1) scope.names []).lookup y.1).isSome=true):=λ⟨n,v⟩ hy=>by
  rcases S.par n (List.of_mem_zip hy).1 with q|q
  ·exact .inl q
  ·exact .inr ⟨q,PySem.W.cellsFrom_some _ _ _ (.inl q)⟩
 refine codeAny_call_function hr.depth (KX _ _ lk) rfl S.co S.gen rfl (PySem.W.codeRec_of KX hcd) (hb _ _ _ _ ?_);refine wpAny_newFunctionEnv_cells S.kind hkind λenv he s1 x=>?_;subst he;refine ⟨lim.keeps x.toInCall.keep,codeAny_func ?_⟩;obtain ⟨t,ht,hq⟩:=hbody A outer s H vs Q E (hr.deeper _) hsp;have I:Inv (rY CX P w K mg base N qual scope f cdv A outer s H E) [] (start N vs) H s1:=GY S hr.hd e0 hl r x;refine wpAny_mono (ht [] s1 (start N vs) H _ I hq) (λfl s' hs=>?_) λe s' hs=>hs;have fin:∀{σ':St} {H':Hp} {v:V} {u:Value},Inv (rY CX P w K mg base N qual scope f cdv A outer s H E) [] σ' H' s'->RelV v u->Q v H'->CE outer P w H s Q u s':=
  λ{σ' H' v u} J rv q=>⟨v,H',J.os,J.bare,J.base,J.hok,rv,q⟩
 cases fl with
 |ret u=>
  obtain ⟨v,σ',H',J,rv,q⟩:=hs;exact fin J rv q
 |next=>
  obtain ⟨σ',H',J,q⟩:=hs;exact fin (v:=V.non) (u:=Value.none) J rfl q
 |brk=>
  obtain ⟨_,_,_,q⟩:=hs;exact False.elim q
 |cont=>
  obtain ⟨_,_,_,q⟩:=hs;exact False.elim q
section
variable {X:Cx} {x:Str} {p pos:Pos} {e:Expr} {es:List Expr} {t:TA} {id T:String} {r:List V->Hp->VK->Prop}
noncomputable def Dn (r:List V->Hp->VK->Prop) (t:TA):TE:=λσ H Q=>t σ H λvs H1=>r vs H1 Q
theorem yI (hc:bZ X (.builtin id) r) (hg:Gl X x) (hm:X.mg x=none) (hv:bootBuiltins x=some (.builtin id)) (ha:PA X (e::es) t) (hn:x≠"__name__":=by decide) (hdb:(x==("__debug__":Str))=false:=by decide)
  (he:starEach (e::es) X.env=(false,eval e X.env)::starEach es X.env:=by rfl) (hpl:(backTo pos (starEach es X.env)).any (·.1)=false:=by rfl):PE X (.Call (.Name x p) (e::es) [] pos) (Dn r t):=by
 intro pins s σ H Q I h;refine wpAny_Call_Name_kw (fM I hg hm hv ?_ hn hdb);exact PyProof.Rows.callWith_builtin1 (bT (ha pos pins s σ H _ I h) λus s1 ⟨vs,H1,I1,r1,q1⟩=>hc pins s1 σ H1 vs us Q I1 r1 q1) he hpl
theorem FZ (hc:bZ X (.type T) r) (hg:Gl X x) (hm:X.mg x=none) (hv:bootBuiltins x=some (.type T)) (ha:PA X (e::es) t) (hn:x≠"__name__":=by decide) (hdb:(x==("__debug__":Str))=false:=by decide)
  (he:starEach (e::es) X.env=(false,eval e X.env)::starEach es X.env:=by rfl) (hpl:(backTo pos (starEach es X.env)).any (·.1)=false:=by rfl):PE X (.Call (.Name x p) (e::es) [] pos) (Dn r t):=by
 intro pins s σ H Q I h;refine wpAny_Call_Name_kw (fM I hg hm hv ?_ hn hdb);exact PyProof.Rows.callWith_type1 (bT (ha pos pins s σ H _ I h) λus s1 ⟨vs,H1,I1,r1,q1⟩=>hc pins s1 σ H1 vs us Q I1 r1 q1) he hpl
end
end L2
namespace HT
open PySem PyProof.Rows
section
open PySem.SeqAt
open PySem.AutoSeq1 (wpAny_loadPart')
open PySem.MeetsSeq PySem.MeetsSeq2 PySem.MeetsSeq3
end
section
variable {prog:Program} {w:World} {A:Around} {E:Value->Shared->Prop} {s:Shared}
theorem UP (ht:IsTup s.heap t vs.toArray) (hb:IsTup s.heap b ws.toArray) (hv:vs≠[])
  (h1:ws=[]->Q (.ref t) s) (h2:ws≠[]->Q (.ref s.heap.objs.size) {s with heap:=s.heap.push {cls:=.type "tuple",data:=.seq (vs++ws).toArray}})
  (hsz:vs.length+ws.length<=sizeLine):wpAny (model prog w) A (binaryOp .Add (.ref t) (.ref b)) Q E s:=by
 obtain ⟨⟨cls,dd,data,sl⟩,ho,hc,n,hd⟩:=id ht;obtain ⟨⟨cls2,dd2,data2,sl2⟩,ho2,hc2,n2,hd2⟩:=id hb;simp only at hc hd hc2 hd2;subst hc hd hc2 hd2;have e:vs.toArray++ws.toArray=(vs++ws).toArray:=by simp
 by_cases hw:ws=[]
 ·exact concat_meets ⟨_,ho,rfl⟩ ⟨_,ho2,rfl⟩ noFill_tuple_add seq_tuple_add PySem.F.slot_tuple_add PySem.F.entry_tuple_add (PySem.F.args_tuple_add_2 _ _)
   (tuple_addW1 t b vs.toArray ws.toArray n n2 dd dd2 sl sl2 (by simpa using hv) (by simp [hw])) ⟨ho,ho2,h1 hw⟩
 ·refine concat_meets ⟨_,ho,rfl⟩ ⟨_,ho2,rfl⟩ noFill_tuple_add seq_tuple_add PySem.F.slot_tuple_add PySem.F.entry_tuple_add (PySem.F.args_tuple_add_2 _ _)
   (tuple_addW2 t b vs.toArray ws.toArray n n2 dd dd2 sl sl2 (by simpa using hv) (by simpa using hw) (by rw[size_toArray,size_toArray];exact hsz)) ⟨ho,ho2,?_⟩
  rw[e];exact h2 hw
noncomputable def dJ (n d:Nat):Option Int->Nat
 |none=>d
 |some v=>if v<0 then (v+(n:Int)).toNat else min v.toNat n
theorem JQ (n d:Nat):dJ n d none=d:=rfl
theorem XT (n d:Nat) (hd:d<=n) (o:Option Int):dJ n d o<=n:=by
 cases o with
 |none=>exact hd
 |some v=>
  show (if v<0 then (v+(n:Int)).toNat else min v.toNat n)<=n;by_cases hv:v<0
  ·rw[if_pos hv];lia
  ·rw[if_neg hv];exact Nat.min_le_right _ _
theorem EM (v:Int) (n d:Nat):(if v<0 then max (v+(n:Int)) 0 else min v (n:Int))=((dJ n d (some v):Nat):Int):=by
 show (if v<0 then max (v+(n:Int)) 0 else min v (n:Int))=(((if v<0 then (v+(n:Int)).toNat else min v.toNat n):Nat):Int);by_cases hv:v<0
 ·simp only [if_pos hv];lia
 ·simp only [if_neg hv];lia
theorem CQ (lo hi:Option Int) (n:Nat):Builtin.Slice.sliceAdjust lo hi 1 (n:Int)=(((dJ n 0 lo:Nat):Int),((dJ n n hi:Nat):Int)):=by
 have h1:¬((1:Int)<0):=by lia
 unfold Builtin.Slice.sliceAdjust;simp only [h1,if_false];refine Prod.ext ?_ ?_
 ·cases lo with
  |none=>rfl
  |some v=>exact EM v n 0
 ·cases hi with
  |none=>rfl
  |some v=>exact EM v n n
theorem BC (i j:Nat):Builtin.Slice.slicePlaces (i:Int) (j:Int) 1=j - i:=by
 unfold Builtin.Slice.slicePlaces;have h1:(1:Int)>0:=by lia
 simp only [h1,if_true,Int.ediv_one];split<;>lia
theorem pB (p:IsPart v o) (h:Q o s):wpAny (model prog w) A (Builtin.Slice.slicePartIndex v) Q E s:=by
 cases p with
 |none=>exact slicePart_none h
 |int i t=>exact slicePart_int h
theorem lR {sl:Addr} {vl vu:Value} {lo hi:Option Int} {n:Nat} {Q:Int × Int × Nat->Shared->Prop} (hs:s.heap.IsSliceOf sl vl vu .none) (pl:IsPart vl lo) (pu:IsPart vu hi)
  (h:Q (((dJ n 0 lo:Nat):Int),1,dJ n n hi - dJ n 0 lo) s):wpAny (model prog w) A (Builtin.Slice.sliceApplied (.ref sl) (pure (n:Int))) Q E s:=by
 obtain ⟨os,hos,hcs,hds⟩:=id hs;unfold Builtin.Slice.sliceApplied Builtin.Slice.sliceFields;refine wpAny_bind (wpAny_bind (wpAny_field hos hds (x:=vl) rfl (wpAny_bind (wpAny_field hos hds (x:=vu) rfl (wpAny_bind (wpAny_field hos hds (x:=.none) rfl (wpAny_pure ?_)))))));refine wpAny_bind (slicePart_none ?_);show wpAny _ _ (if ((1:Int)==0)=true then _ else _) _ _ s;rw[if_neg (by decide)];refine wpAny_bind (pB pl (wpAny_bind (pB pu (wpAny_bind (wpAny_pure ?_)))));show wpAny _ _ (match Builtin.Slice.sliceAdjust lo hi 1 (n:Int) with|(lo,hi)=>pure (lo,(1:Int),Builtin.Slice.slicePlaces lo hi 1)) _ _ s;rw[CQ lo hi n];show wpAny _ _ (pure (((dJ n 0 lo:Nat):Int),(1:Int),Builtin.Slice.slicePlaces ((dJ n 0 lo:Nat):Int) ((dJ n n hi:Nat):Int) 1)) _ _ s;rw[BC];exact wpAny_pure h
theorem KI (xs:Array Value) (i k:Nat):((range k).filterMap λ(m:Nat)=>xs[((i:Int)+(m:Int) * 1).toNat]?).toArray=((xs.toList.drop i).take k).toArray:=by
 have e:(λ(m:Nat)=>xs[((i:Int)+(m:Int) * 1).toNat]?)=λm=>xs[i+m]?:=by
  funext m
  have:((i:Int)+(m:Int) * 1).toNat=i+m:=by lia
  rw[this]
 rw[e];have:=pick_run xs i k;rw[List.filterMap_map] at this;have e2:((λx=>xs[x]?)∘λx=>i+x)=λm=>xs[i+m]?:=rfl;rw[e2] at this;rw[this]
theorem kX {t sl:Addr} {items:Array Value} {vl vu:Value} {lo hi:Option Int} {Q:Value->Shared->Prop} (ht:IsTup s.heap t items) (hs:s.heap.IsSliceOf sl vl vu .none) (pl:IsPart vl lo) (pu:IsPart vu hi)
  (hw:¬(dJ items.size 0 lo=0/\dJ items.size items.size hi=items.size))
  (h:Q (.ref s.heap.objs.size) {s with heap:=s.heap.push {cls:=.type "tuple",data:=.seq ((items.toList.drop (dJ items.size 0 lo)).take (dJ items.size items.size hi - dJ items.size 0 lo)).toArray}})
  (hsz:items.size<=sizeLine):wpAny (model prog w) A (getItem (.ref t) (.ref sl)) Q E s:=by
 have htake:sizeOk (.seq ((items.toList.drop (dJ items.size 0 lo)).take (dJ items.size items.size hi - dJ items.size 0 lo)).toArray):=by
  show ((items.toList.drop (dJ items.size 0 lo)).take (dJ items.size items.size hi - dJ items.size 0 lo)).toArray.size<=sizeLine;rw[size_toArray,length_take,length_drop,length_toList];lia
 have hj:dJ items.size items.size hi<=items.size:=XT _ _ (Nat.le_refl _) hi;obtain ⟨os,hos,hcs,hds⟩:=id hs;have hTs:s.TypeIs (.ref sl) "slice":=⟨os,hos,hcs⟩;unfold getItem
 try with_reducible refine wpAny_holding ?_
 first|refine wpAny_bind (wpAny_pure ?_)|skip
 refine wpAny_bind (wpAny_sequenceKey ht.typeIs (by decide) ?_);refine wpAny_bind (wpAny_callSpecial?_slot (name:=Str.ofString "__getitem__") ht.typeIs PyProof.Rows.slot_tuple_getitem
  (wpAny_call_entry PyProof.Rows.slot_tuple_getitem ht.typeIs entry_tuple_getitem ?_ (args_tuple_getitem _ _)))
 show wpAny _ _ (Builtin.Tuple.tupleItemsOf (.ref t) >>=_) _ _ s;refine wpAny_bind (tupleItemsOf_ ht ?_);refine wpAny_bind (wpAny_typeOf hTs ?_);rw[if_pos (by decide)];refine wpAny_bind (lR hs pl pu ?_);have hno:¬((((dJ items.size 0 lo:Nat):Int)==0&&(1:Int)==1&&(dJ items.size items.size hi - dJ items.size 0 lo)==items.size)=true):=by
  intro q;rw[and_eq_true,and_eq_true] at q;have q1:((dJ items.size 0 lo:Nat):Int)=0:=eq_of_beq q.1.1;have q2:dJ items.size items.size hi - dJ items.size 0 lo=items.size:=eq_of_beq q.2;exact hw ⟨by lia,by lia⟩
 show wpAny _ _ (if (((dJ items.size 0 lo:Nat):Int)==0&&(1:Int)==1&&(dJ items.size items.size hi - dJ items.size 0 lo)==items.size)=true then _ else _) _ _ s;rw[if_neg hno,KI]
 first
  |exact wpAny_bind (m:=Builtin.Tuple.tupleExact _) (wpAny_newObj_type (wpAny_pure ⟨_,rfl,wpAny_pure h⟩) htake)
  |exact wpAny_bind (m:=Builtin.Tuple.tupleExact _) (wpAny_newObj_type (wpAny_bind (wpAny_pure (wpAny_pure ⟨_,rfl,wpAny_pure h⟩))) htake)
  |exact wpAny_bind (wpAny_bind (m:=Builtin.Tuple.tupleExact _) (wpAny_newObj_type (wpAny_pure (wpAny_pure ⟨_,rfl,wpAny_pure h⟩)) htake))
  |exact wpAny_bind (wpAny_bind (m:=Builtin.Tuple.tupleExact _) (wpAny_newObj_type (wpAny_pure ⟨_,rfl,wpAny_pure h⟩) htake))
end
end HT
namespace L2
open PySem PySem.Spec PyProof.Rows
noncomputable abbrev TO:=St->Hp->(Option Int->Hp->Prop)->Prop
noncomputable def PO (X:Cx) (e:Option Expr) (t:TO):Prop:=
 ∀(pins:List (Addr × Obj)) (s:Shared) (σ:St) (H:Hp) (Q:Option Int->Hp->Prop),Inv X pins σ H s->t σ H Q->
  wpAny (model X.prog X.w) X.A (evalPart e X.env) (λu s'=>∃o H',Inv X pins σ H' s'/\IsPart u o/\Q o H') X.xe s
noncomputable def DA:TO:=λ_ H Q=>Q none H
theorem intsAre_of:∀{us:List Value},Vals (ns.map V.int) us->IntsAre us ns:=by
 induction ns with
 |nil=>intro us r;rw[map_nil] at r;cases r;exact .nil
 |cons n ns ih=>
  intro us r;rw[map_cons] at r;cases r with
  |cons r1 r2=>
   obtain ⟨t,e⟩:=r1;subst e;exact .cons n t (ih r2)
section
variable {X:Cx} {e:Expr} {te:TE} {lo hi:Option Expr} {tl th:TO} {pos p2:Pos}
theorem RC:PO X none DA:=by
 intro pins s σ H Q I h;rw[evalPart_none];exact wpAny_pure ⟨none,H,I,.none,h⟩
noncomputable def Iy (X:Cx) (r:V->Option Int->Option Int->Hp->VK->Prop):Prop:=
 ∀(pins:List (Addr × Obj)) (s:Shared) (σ:St) (H:Hp) (x:V) (v vl vu:Value) (lo hi:Option Int) (sl:Addr) (Q:VK),Inv X pins σ H s->RelV x v->s.heap.IsSliceOf sl vl vu .none->IsPart vl lo->IsPart vu hi->r x lo hi H Q->
  ∃T id,typeLookup (.type T) "__getitem__"=pure (some (.builtin id))/\s.TypeIs v T/\wpAny (model X.prog X.w) X.A (getItem v (.ref sl)) (EP X pins σ Q) X.xe s
noncomputable def Mc (r:V->Option Int->Option Int->Hp->VK->Prop) (te:TE) (tl th:TO):TE:=λσ H Q=>te σ H λx H1=>tl σ H1 λl H2=>th σ H2 λu H3=>r x l u H3 Q
theorem KL (hr:Iy X r) (he:PE X e te) (hl:PO X lo tl) (hu:PO X hi th):PE X (.Subscript e (.Slice lo hi none p2) pos) (Mc r te tl th):=by
 intro pins s σ H Q I h;refine Subscript_ (bT (he pins s σ H _ I h) λv s1 ⟨x,H1,I1,r1,q1⟩=>?_);refine wpAny_Slice (bT (hl pins s1 σ H1 _ I1 q1) λvl s2 ⟨l,H2,I2,pl,q2⟩=>bT (hu pins s2 σ H2 _ I2 q2) λvu s3 ⟨u,H3,I3,pu,q3⟩=>?_);rw[evalPart_none];refine wpAny_pure ?_;have I4:Inv X pins σ H3 {s3 with heap:=s3.heap.push {cls:=.type "slice",data:=.fields #[vl,vu,.none]}}:=I3.kept (t':=s3.toks) λb ob q=>get?_push_of_some _ q;obtain ⟨T,id,hT,ht,hg⟩:=hr pins {s3 with heap:=s3.heap.push {cls:=.type "slice",data:=.fields #[vl,vu,.none]}} σ H3 x v vl vu l u s3.heap.objs.size Q I4 r1 (Heap.IsSliceOf.new ..) pl pu q3;show wpAny (model X.prog X.w) X.A (subscriptTail e (.Slice lo hi none p2) v (.ref s3.heap.objs.size)) (EP X pins σ Q) X.xe {s3 with heap:=s3.heap.push {cls:=.type "slice",data:=.fields #[vl,vu,.none]}};exact tail_any (ops:=[.ref s3.heap.objs.size,v]) ht hT hg (by with_unfolding_all rfl)
noncomputable def wH (xs:List V) (lo hi:Option Int):List V:=(xs.drop (HT.dJ xs.length 0 lo)).take (HT.dJ xs.length xs.length hi - HT.dJ xs.length 0 lo)
theorem mV (xs:List V) (lo hi:Option Int):(wH xs lo hi).length<=xs.length:=by
 unfold wH;rw[length_take,length_drop];lia
noncomputable def Ea (K:Fg):V->Option Int->Option Int->Hp->VK->Prop:=λx lo hi H Q=>∃a xs,x=.ref a/\cZ K H a xs/\
 ¬(HT.dJ xs.length 0 lo=0/\HT.dJ xs.length xs.length hi=xs.length)/\∀p,H p=none->Q (.ref p) (upd H p (.tup (wH xs lo hi)))
theorem XJ:Iy X (Ea X.K):=by
 intro pins s σ H x v vl vu lo hi sl Q I rx hs pl pu h;obtain ⟨a,xs,rfl,hx,hw,q⟩:=h;cases rx;obtain ⟨its,r,ht,hz⟩:=I.tuple hx;have hlen:its.toArray.size=xs.length:=by rw[size_toArray];exact r.length.symm
 refine ⟨"tuple",_,PyProof.Rows.slot_tuple_getitem.lookup,ht.typeIs,?_⟩;refine HT.kX ht hs pl pu (by rw[hlen];exact hw) ?_ (by rw[hlen];exact hz);rw[hlen];refine ⟨.ref s.heap.objs.size,_,I.laid (t':=s.toks) (o:=.tup (wH xs lo hi)) (λb ob q=>get?_push_of_some _ q) (Nat.le_refl _) ?_,rfl,q _ (I.hok.fresh (Nat.le_refl _))⟩;exact ⟨le_trans (mV xs lo hi) hz,_,(r.drop (HT.dJ xs.length 0 lo)).take (HT.dJ xs.length xs.length hi - HT.dJ xs.length 0 lo),IsTup.new _ _⟩
noncomputable def VT (K:Fg):R2:=λx y H Q=>∃a b xs ys,x=.ref a/\y=.ref b/\cZ K H a xs/\cZ K H b ys/\xs≠[]/\xs.length+ys.length<=sizeLine/\
 (ys=[]->Q (.ref a) H)/\(ys≠[]->∀p,H p=none->Q (.ref p) (upd H p (.tup (xs++ys))))
theorem Vals.nil_iff (r:Vals xs us):us=[]↔xs=[]:=by
 cases r with
 |nil=>simp
 |cons _ _=>simp
theorem RT:gI X (binaryOp .Add) (VT X.K):=by
 intro pins s σ H x y v u Q I rx ry h;obtain ⟨a,b,xs,ys,rfl,rfl,ha,hb,hx,hz,q1,q2⟩:=h;cases rx;cases ry;obtain ⟨its,r1,p1,_⟩:=I.tuple ha;obtain ⟨its2,r2,p2,_⟩:=I.tuple hb;refine HT.UP p1 p2 (λz=>hx (r1.nil_iff.mp z)) (λz=>⟨.ref a,H,I,rfl,q1 (r2.nil_iff.mp z)⟩) (λz=>?_) (by rw[<-r1.length,<-r2.length];exact hz);refine ⟨.ref s.heap.objs.size,_,I.laid (t':=s.toks) (o:=.tup (xs++ys)) (λb ob q=>get?_push_of_some _ q) (Nat.le_refl _) ?_,rfl,q2 (λw=>z (r2.nil_iff.mpr w)) _ (I.hok.fresh (Nat.le_refl _))⟩;exact ⟨by rw[length_append];exact hz,_,r1.append r2,IsTup.new _ _⟩
end
noncomputable def TB (n:Nat) (i:Int):Option Nat:=if 0<=i then (if i<n then some i.toNat else none) else if -(n:Int)<=i then some (i+n).toNat else none
noncomputable def rE {α:Type} (xs:List α) (i:Int):Option α:=(TB xs.length i).bind λj=>xs[j]?
theorem DV (h:TB n i=some j):seqIndex? i n=some j/\j<n/\-(n:Int)<=i/\i<n:=by
 unfold TB at h;by_cases h0:0<=i
 ·rw[if_pos h0] at h;by_cases h1:i<n
  ·rw[if_pos h1] at h;have e:i.toNat=j:=Option.some.inj h;exact ⟨by rw[seqIndex_of h0 h1,e],by lia,by lia,h1⟩
  ·rw[if_neg h1] at h;cases h
 ·rw[if_neg h0] at h;by_cases h1:-(n:Int)<=i
  ·rw[if_pos h1] at h;have e:(i+n).toNat=j:=Option.some.inj h;exact ⟨by rw[seqIndex_neg (by lia) h1,e],by lia,h1,by lia⟩
  ·rw[if_neg h1] at h;cases h
theorem wV {α:Type} {xs:List α} {i:Int} {v:α} (h:rE xs i=some v):∃j,seqIndex? i xs.length=some j/\xs[j]?=some v/\j<xs.length/\-(xs.length:Int)<=i/\i<xs.length:=by
 unfold rE at h;cases e:TB xs.length i with
 |none=>rw[e] at h;cases h
 |some j=>
  rw[e] at h;obtain ⟨h1,h2,h3,h4⟩:=DV e;exact ⟨j,h1,h,h2,h3,h4⟩
theorem gU {α:Type} {xs:List α} {j:Nat} {v:α} (h:xs[j]?=some v):rE xs (j:Int)=some v:=by
 have hj:j<xs.length:=(List.getElem?_eq_some_iff.mp h).1;have e:TB xs.length (j:Int)=some j:=by
  unfold TB;rw[if_pos (by lia),if_pos (by lia)];simp
 unfold rE;rw[e];exact h
theorem OR (xs:List α) (v:α):rE (xs++[v]) (-1)=some v:=by
 have hl:(xs++[v]).length=xs.length+1:=by simp
 have e:TB (xs++[v]).length (-1)=some xs.length:=by
  unfold TB;rw[hl,if_neg (by decide),if_pos (by lia)]
  congr 1
  lia
 unfold rE;rw[e];show (xs++[v])[xs.length]?=some v;simp
noncomputable def EW (b:Expr):Prop:=∀o i,subscripted b false o i=operate [o,i] (getItem o i)
noncomputable def Cp (X:Cx) (r:R2):Prop:=
 ∀(value slice:Expr) (pins:List (Addr × Obj)) (s:Shared) (σ:St) (H:Hp) (x y:V) (v u:Value) (Q:VK),Inv X pins σ H s->RelV x v->RelV y u->r x y H Q->
  subscripted slice false v u=operate [v,u] (getItem v u)->wpAny (model X.prog X.w) X.A (subscriptTail value slice v u) (EP X pins σ Q) X.xe s
noncomputable def Bx (X:Cx) (id:String) (r:V->List V->Hp->VK->Prop):Prop:=
 ∀(pins:List (Addr × Obj)) (s:Shared) (σ:St) (H:Hp) (x:V) (xs:List V) (v:Value) (us:List Value) (Q:VK),Inv X pins σ H s->RelV x v->Vals xs us->r x xs H Q->
  wpAny (model X.prog X.w) X.A (call (.builtin id) (v::us)) (EP X pins σ Q) X.xe s
section
variable {X:Cx} {a b:Expr} {ta tb:TE} {pos:Pos}
theorem Eo (hr:Cp X r) (ha:PE X a ta) (hb:PE X b tb) (hs:EW b):PE X (.Subscript a b pos) (XE r ta tb):=by
 intro pins s σ H Q I h;exact Subscript_ (Bo ha hb I h λv u s2 x y H2 I2 rx ry q=>hr a b pins s2 σ H2 x y v u Q I2 rx ry q (hs _ _))
noncomputable def Eg (K:Fg):R2:=λx y H Q=>∃p xs i v,x=.ref p/\y=.int i/\aR K H p xs/\rE xs i=some v/\Q v H
noncomputable def Ef (K:Fg):R2:=λx y H Q=>∃p xs i v,x=.ref p/\y=.int i/\cZ K H p xs/\rE xs i=some v/\Q v H
noncomputable def Kj:R2:=λx y H Q=>∃z i c,x=.str z/\y=.int i/\z.length<=sizeLine/\rE z.cps.toList i=some c/\Q (.str ⟨#[c]⟩) H
theorem SW:Cp X (Eg X.K):=by
 intro value slice pins s σ H x y v u Q I rx ry h hs;obtain ⟨p,xs,i,z,rfl,rfl,hq,he,q⟩:=h;cases rx;obtain ⟨t,rfl⟩:=ry;obtain ⟨its,r,pl,hz⟩:=I.list hq;obtain ⟨j,h1,h2,h3,h4,h5⟩:=wV he;obtain ⟨w,ew,rw'⟩:=r.get h2;have hl:=r.length;have hn:=lZ;have fin:EP X pins σ Q w s:=⟨z,H,I,rw',q⟩;by_cases h0:0<=i
 ·have hj:i.toNat=j:=by
   rw[seqIndex_of h0 h5] at h1;exact Option.some.inj h1
  exact item_listR pl.isList h0 (by lia) (by rw[hj];simpa using ew) fin hs
 ·have hj:(i+(its.toArray.size:Int)).toNat=j:=by
   rw[seqIndex_neg (by lia) h4] at h1;rw[size_toArray,<-hl];exact Option.some.inj h1
  exact subscriptTail_builtinR (x:=w) pl.isList.typeIs slot_list_getitem.lookup
   (wpAny_getItem_list_neg (Q:=λr s'=>r=w/\EP X pins σ Q r s') pl.isList (by lia) (by rw[size_toArray]<;>lia) (by lia) (by rw[hj];simpa using ew) ⟨rfl,fin⟩) hs
theorem ZX:Cp X (Ef X.K):=by
 intro value slice pins s σ H x y v u Q I rx ry h hs;obtain ⟨p,xs,i,z,rfl,rfl,hq,he,q⟩:=h;cases rx;obtain ⟨t,rfl⟩:=ry;obtain ⟨its,r,pl,hz⟩:=I.tuple hq;obtain ⟨j,h1,h2,h3,h4,h5⟩:=wV he;obtain ⟨w,ew,rw'⟩:=r.get h2;have hl:=r.length;have hn:=lZ;have fin:EP X pins σ Q w s:=⟨z,H,I,rw',q⟩;exact subscriptTail_builtinR (x:=w) pl.typeIs slot_tuple_getitem.lookup
  (getItem_tuple (j:=j) (Q:=λr s'=>r=w/\EP X pins σ Q r s') pl (by lia) (by lia) (by rw[size_toArray,<-hl];exact h1) (by simpa using ew) ⟨rfl,fin⟩) hs
theorem ZY:Cp X Kj:=by
 intro value slice pins s σ H x y v u Q I rx ry h hs;obtain ⟨z,i,c,rfl,rfl,hz,he,q⟩:=h;obtain ⟨t,rfl⟩:=rx;obtain ⟨t',rfl⟩:=ry;obtain ⟨j,h1,h2,h3,h4,h5⟩:=wV he;have hl:z.cps.toList.length=z.length:=by simp [Str.length]
 rw[hl] at h1 h4 h5;have hn:=lZ;exact tail_any (typeIs_str s z t) slot_str_getitem.lookup (getItem_str (c:=c) (by
  have e1:decide (i< -(2 ^ 63:Int))=false:=decide_eq_false (by lia)
  have e2:decide (i>=2 ^ 63)=false:=decide_eq_false (by lia)
  rw[e1,e2,Bool.or_false]) (by rw[h1];simpa using h2) ⟨.str ⟨#[c]⟩,H,I.tok _,⟨_,rfl⟩,q⟩) hs
theorem BN (its:List Value) (n j:Nat) (u:Value):Obj.mapSeq (·.setIfInBounds j u) {cls:=.type "list",data:=.seq its.toArray n}={cls:=.type "list",data:=.seq (its.set j u).toArray n}:=by
 simp [Obj.mapSeq]
theorem Inv.lst {pins:List (Addr × Obj)} {σ:St} {H:Hp} {s:Shared} {p:Addr} {xs:List V} (I:Inv X pins σ H s) (h:H p=some (.lst xs)):
  ∃(its:List Value) (n:Nat),Vals xs its/\s.heap.get? p=some {cls:=.type "list",data:=.seq its.toArray n}/\xs.length<=sizeLine:=by
 obtain ⟨z,its,n,r,e⟩:=I.hok p _ h;exact ⟨its,n,r,e,z⟩
theorem Inv.lstUpd {pins:List (Addr × Obj)} {σ:St} {H:Hp} {s:Shared} {p:Addr} {xs ys:List V} {its its':List Value} {n n':Nat} {f:Obj->Obj} (I:Inv X pins σ H s) (h:H p=some (.lst xs))
  (ho:s.heap.get? p=some {cls:=.type "list",data:=.seq its.toArray n}) (hf:f {cls:=.type "list",data:=.seq its.toArray n}={cls:=.type "list",data:=.seq its'.toArray n'}) (r:Vals ys its') (hz:ys.length<=sizeLine) (t:Nat):
  Inv X pins σ (upd H p (.lst ys)) {s with heap:=s.heap.update p f,toks:=t}:=by
 have e:(s.heap.update p f).get? p=some {cls:=.type "list",data:=.seq its'.toArray n'}:=by
  rw[get?_update_self f ho (by rw[hf]<;>rfl),hf]
 refine I.write (x:=p) (e:=p) (by rw[h];trivial) (.inl rfl) (λb u hb q=>(get?_update_other _ _ (Ne.symm hb)).trans q) ⟨_,e⟩ ?_;exact ⟨hz,its',n',r,e⟩
noncomputable def VQ:V->V->V->Hp->(Hp->Prop)->Prop:=λo i v H Q=>∃p xs k j,o=.ref p/\i=.int k/\H p=some (.lst xs)/\TB xs.length k=some j/\Q (upd H p (.lst (xs.set j v)))
theorem set_list:Bv X VQ:=by
 intro pins s σ H o i v ov iv u Q I ro ri rv h;obtain ⟨p,xs,k,j,rfl,rfl,hp,hj,q⟩:=h;cases ro;obtain ⟨t,rfl⟩:=ri;obtain ⟨its,n,r,ho,hz⟩:=I.lst hp;obtain ⟨h1,h2,h3,h4⟩:=DV hj;have hl:=r.length;have hn:=lZ;have I':Inv X pins σ (upd H p (.lst (xs.set j v))) {s with heap:=s.heap.update p (Obj.mapSeq (·.setIfInBounds j u))}:=
  I.lstUpd hp ho (BN its n j u) (r.set rv j) (by rw[List.length_set];exact hz) s.toks
 by_cases h0:0<=k
 ·have hk:k.toNat=j:=by
   rw[seqIndex_of h0 h4] at h1;exact Option.some.inj h1
  exact PySem.W.ki_setAt ho h0 (by lia) (by rw[size_toArray,<-hl];exact h4) (by rw[hk];exact ⟨_,I',q⟩)
 ·have hk:(k+(its.toArray.size:Int)).toNat=j:=by
   rw[seqIndex_neg (by lia) h3] at h1;rw[size_toArray,<-hl];exact Option.some.inj h1
  exact PySem.W.ki_setBack ho (by lia) (by rw[size_toArray,<-hl];exact h3) (by lia) (by rw[hk];exact ⟨_,I',q⟩)
theorem uM (lo hi:Option Int) (n:Nat):(sliceBounds lo hi none n).1=((HT.dJ n 0 lo:Nat):Int)/\(sliceBounds lo hi none n).2.1=((HT.dJ n n hi:Nat):Int)/\(sliceBounds lo hi none n).2.2=1:=by
 refine ⟨?_,?_,rfl⟩
 ·cases lo with
  |none=>simp [sliceBounds,HT.dJ]
  |some i=>
   simp only [sliceBounds,HT.dJ,Option.getD_none,show (1:Int)>0 by decide,if_true];by_cases h:i<0
   ·simp only [h,if_true]<;>lia
   ·simp only [h,if_false]<;>lia
 ·cases hi with
  |none=>simp [sliceBounds,HT.dJ]
  |some i=>
   simp only [sliceBounds,HT.dJ,Option.getD_none,show (1:Int)>0 by decide,if_true];by_cases h:i<0
   ·simp only [h,if_true]<;>lia
   ·simp only [h,if_false]<;>lia
theorem rM (its:List Value) (lo hi:Option Int):slicePick its.toArray lo hi none=((its.drop (HT.dJ its.length 0 lo)).take (HT.dJ its.length its.length hi - HT.dJ its.length 0 lo)).toArray:=by
 obtain ⟨h1,h2,h3⟩:=uM lo hi its.toArray.size;unfold slicePick;rw[h1,h2,h3];simp only [sliceRange_one,pick_run,size_toArray]<;>rfl
noncomputable def Eb (K:Fg):V->Option Int->Option Int->Hp->VK->Prop:=λx lo hi H Q=>∃a xs,x=.ref a/\aR K H a xs/\∀p,H p=none->Q (.ref p) (upd H p (.lst (wH xs lo hi)))
theorem QJ:Iy X (Eb X.K):=by
 intro pins s σ H x v vl vu lo hi sl Q I rx hs pl pu h;obtain ⟨a,xs,rfl,hx,q⟩:=h;cases rx;obtain ⟨its,r,ht,hz⟩:=I.list hx;have hlen:=r.length;refine ⟨"list",_,slot_list_getitem.lookup,ht.isList.typeIs,?_⟩;refine wpAny_getItem_list_slice ht.isList hs pl pu .none (by simp) ?_ (by rw[size_toArray]<;>lia);rw[rM,<-hlen];refine ⟨.ref s.heap.objs.size,_,I.laid (t':=s.toks) (o:=.lst (wH xs lo hi)) (λb ob q=>get?_push_of_some _ q) (Nat.le_refl _) ?_,rfl,q _ (I.hok.fresh (Nat.le_refl _))⟩;exact ⟨le_trans (mV xs lo hi) hz,_,0,(r.drop (HT.dJ xs.length 0 lo)).take (HT.dJ xs.length xs.length hi - HT.dJ xs.length 0 lo),get?_push_size _ rfl⟩
noncomputable def iN:V->Bool
 | .non=>true
 | .bl _=>true
 | .int _=>true
 | .str _=>true
 |_=>false
noncomputable def WJ:V->V->Bool
 | .non,.non=>true
 | .bl a,.bl b=>a==b
 | .bl a,.int b=>(if a then 1 else 0)==b
 | .int a,.bl b=>a==(if b then 1 else 0)
 | .int a,.int b=>a==b
 | .str a,.str b=>a==b
 |_,_=>false
theorem Bd (ry:RelV y u) (rx:RelV x v) (fy:iN y=true) (fx:iN x=true):SeqAt.EqAt A s u v (WJ y x):=by
 cases y with
 |non=>
  cases ry;cases x with
  |non=>cases rx;exact SeqAt.EqAt.same _
  |bl b=>cases rx;exact SeqAt.EqAt.none_bool b
  |int b=>obtain ⟨t,rfl⟩:=rx;exact SeqAt.EqAt.none_int b t
  |str b=>obtain ⟨t,rfl⟩:=rx;exact SeqAt.EqAt.none_str b t
  |_=>exact absurd (show false=true from fx) Bool.false_ne_true
 |bl a=>
  cases ry;cases x with
  |non=>cases rx;exact SeqAt.EqAt.bool_none a
  |bl b=>cases rx;exact SeqAt.EqAt.bool_bool a b
  |int b=>obtain ⟨t,rfl⟩:=rx;exact SeqAt.EqAt.bool_int a b t
  |str b=>obtain ⟨t,rfl⟩:=rx;exact SeqAt.EqAt.bool_str a b t
  |_=>exact absurd (show false=true from fx) Bool.false_ne_true
 |int a=>
  obtain ⟨t',rfl⟩:=ry;cases x with
  |non=>cases rx;exact SeqAt.EqAt.int_none a t'
  |bl b=>cases rx;exact SeqAt.EqAt.int_bool a t' b
  |int b=>obtain ⟨t,rfl⟩:=rx;exact SeqAt.EqAt.int_int a t' b t
  |str b=>obtain ⟨t,rfl⟩:=rx;exact SeqAt.EqAt.int_str a t' b t
  |_=>exact absurd (show false=true from fx) Bool.false_ne_true
 |str a=>
  obtain ⟨t',rfl⟩:=ry;cases x with
  |non=>cases rx;exact SeqAt.EqAt.str_none a t'
  |bl b=>cases rx;exact SeqAt.EqAt.str_bool a t' b
  |int b=>obtain ⟨t,rfl⟩:=rx;exact SeqAt.EqAt.str_int a t' b t
  |str b=>obtain ⟨t,rfl⟩:=rx;exact SeqAt.EqAt.str_str a t' b t
  |_=>exact absurd (show false=true from fx) Bool.false_ne_true
 |_=>exact absurd (show false=true from fy) Bool.false_ne_true
noncomputable def CG (x:V) (u:Value):Bool:=match u with
 | .none=>WJ .non x
 | .bool b=>WJ (.bl b) x
 | .int i _=>WJ (.int i) x
 | .str z _=>WJ (.str z) x
 |_=>false
theorem NM (r:RelV y u) (f:iN y=true):CG x u=WJ y x:=by
 cases y with
 |non=>cases r;rfl
 |bl b=>cases r;rfl
 |int i=>obtain ⟨t,rfl⟩:=r;rfl
 |str z=>obtain ⟨t,rfl⟩:=r;rfl
 |_=>exact absurd (show false=true from f) Bool.false_ne_true
theorem lE:∀{xs:List V} {us:List Value},Vals xs us->xs.all iN=true->us.any (CG x)=xs.any λy=>WJ y x
 |_,_,.nil,_=>rfl
 |y::xs,u::us,.cons r t,f=>by
  rw[all_cons,and_eq_true] at f;rw[any_cons,any_cons,NM r f.1,lE t f.2]
theorem iH (rx:RelV x v) (fx:iN x=true):∀{xs:List V} {us:List Value},Vals xs us->xs.all iN=true->∀u∈us,SeqAt.EqAt A s u v (CG x u)
 |_,_,.nil,_=>λu hu=>by cases hu
 |y::xs,u::us,.cons r t,f=>λu' hu=>by
  rw[all_cons,and_eq_true] at f;rcases mem_cons.mp hu with rfl|hu
  ·rw[NM r f.1];exact Bd r rx f.1 fx
  ·exact iH rx fx t f.2 u' hu
noncomputable def Ge (x:V) (xs:List V):Bool:=xs.any λy=>WJ y x
noncomputable def Kl (K:Fg) (neg:Bool):R2:=λx y H Q=>∃p xs,y=.ref p/\(aR K H p xs\/cZ K H p xs)/\iN x=true/\xs.all iN=true/\Q (.bl (if neg then !Ge x xs else Ge x xs)) H
theorem GD:gI X (compareOp .In) (Kl X.K false):=by
 intro pins s σ H x y v u Q I rx ry h;obtain ⟨p,xs,rfl,hq,fx,fs,q⟩:=h;cases ry;rcases hq with hq|hq
 ·obtain ⟨its,r,pl,hz⟩:=I.list hq;refine SeqAt.in_listAt (CG x) pl.isList (λw hw=>iH rx fx r fs w (by simpa using hw)) ⟨.bl _,H,I,rfl,?_⟩;rw[show its.toArray.any (CG x)=its.any (CG x) by simp,lE r fs];exact q
 ·obtain ⟨its,r,pl,hz⟩:=I.tuple hq;refine SeqAt.in_tupleAt (CG x) pl (λw hw=>iH rx fx r fs w (by simpa using hw)) ⟨.bl _,H,I,rfl,?_⟩;rw[show its.toArray.any (CG x)=its.any (CG x) by simp,lE r fs];exact q
theorem vA:gI X (compareOp .NotIn) (Kl X.K true):=by
 intro pins s σ H x y v u Q I rx ry h;obtain ⟨p,xs,rfl,hq,fx,fs,q⟩:=h;cases ry;rcases hq with hq|hq
 ·obtain ⟨its,r,pl,hz⟩:=I.list hq;refine SeqAt.notIn_listAt (CG x) pl.isList (λw hw=>iH rx fx r fs w (by simpa using hw)) ⟨.bl _,H,I,rfl,?_⟩;rw[show its.toArray.any (CG x)=its.any (CG x) by simp,lE r fs];exact q
 ·obtain ⟨its,r,pl,hz⟩:=I.tuple hq;refine SeqAt.notIn_tupleAt (CG x) pl (λw hw=>iH rx fx r fs w (by simpa using hw)) ⟨.bl _,H,I,rfl,?_⟩;rw[show its.toArray.any (CG x)=its.any (CG x) by simp,lE r fs];exact q
theorem uZ:gI X (compareOp .NotIn) (λx y H Q=>∃i j,x=.str i/\y=.str j/\Q (.bl (!(!(Builtin.Str.occurrences j i 0 j.length 1).isEmpty))) H):=by
 intro pins s σ H x y v u Q I rx ry h;obtain ⟨i,j,rfl,rfl,q⟩:=h;obtain ⟨t,rfl⟩:=rx;obtain ⟨t',rfl⟩:=ry;exact notIn_str ⟨.bl _,H,I,rfl,q⟩
theorem wK:bZ X (.type "list") (λxs H Q=>∃p ys,xs=[.ref p]/\(aR X.K H p ys\/cZ X.K H p ys)/\∀l,H l=none->Q (.ref l) (upd H l (.lst ys))):=by
 intro pins s σ H xs us Q I r h;obtain ⟨p,ys,rfl,hq,q⟩:=h;obtain ⟨u,rfl,rx⟩:=vals1 r;cases rx;have fin:∀(its:List Value),Vals ys its->ys.length<=sizeLine->∀(h':Heap) (c':Nat),(∀b o',s.heap.get? b=some o'->h'.get? b=some o')->
   h'.get? s.heap.objs.size=some {cls:=.type "list",dict:=none,data:=.seq its.toArray c',slots:=#[]}->EP X pins σ Q (.ref s.heap.objs.size) {s with heap:=h'}:=λits r' hz h' c' kp e=>
  ⟨.ref s.heap.objs.size,_,I.laid (t':=s.toks) kp (Nat.le_refl _) (show aY X.prog X.w _ h' _ (.lst ys) from ⟨hz,its,c',r',e⟩),rfl,q _ (I.hok.fresh (Nat.le_refl _))⟩
 rcases hq with hq|hq
 ·obtain ⟨its,r',pl,hz⟩:=I.list hq;have hlen:=r'.length;obtain ⟨o,ho,hc,n,hd⟩:=pl.isList;exact call_list_seq p (.inl rfl) ho hc hd (λh' c' kp e=>fin its r' hz h' c' kp e) (by simp only [size_toArray]<;>lia)
 ·obtain ⟨its,r',pl,hz⟩:=I.tuple hq;have hlen:=r'.length;obtain ⟨o,ho,hc,n,hd⟩:=pl;exact call_list_seq p (.inr rfl) ho hc hd (λh' c' kp e=>fin its r' hz h' c' kp e) (by simp only [size_toArray]<;>lia)
theorem jN:bZ X (.type "tuple") (λxs H Q=>∃p ys,xs=[.ref p]/\((aR X.K H p ys/\∀l,H l=none->Q (.ref l) (upd H l (.tup ys)))\/(cZ X.K H p ys/\Q (.ref p) H))):=by
 intro pins s σ H xs us Q I r h;obtain ⟨p,ys,rfl,h⟩:=h;obtain ⟨u,rfl,rx⟩:=vals1 r;cases rx;rcases h with ⟨hq,q⟩|⟨hq,q⟩
 ·obtain ⟨its,r',pl,hz⟩:=I.list hq;have hlen:=r'.length;refine call_tuple_list pl.isList (λh' kp=>?_) (by simp only [size_toArray]<;>lia);have I1:Inv X pins σ H {s with heap:=h'}:=I.kept (t':=s.toks) kp;have I2:Inv X pins σ (upd H h'.objs.size (.tup ys)) {s with heap:=h'.push {cls:=.type "tuple",data:=.seq its.toArray}}:=
   I1.laid (t':=s.toks) (λb o e=>get?_push_of_some _ e) (Nat.le_refl _) (show aY X.prog X.w _ _ _ (.tup ys) from ⟨hz,its,r',IsTup.new _ _⟩)
  exact ⟨.ref h'.objs.size,_,I2,rfl,q _ (I1.hok.fresh (Nat.le_refl _))⟩
 ·obtain ⟨its,r',pl,hz⟩:=I.tuple hq;exact call_tuple_same pl ⟨.ref p,H,I,rfl,q⟩
noncomputable def Jw (K:Fg) (T:String) (x:V) (H:Hp):Prop:=match x with
 | .str _=>T="str"
 | .int _=>T="int"
 | .ref p=>(T="list"/\∃xs,aR K H p xs)\/(T="tuple"/\∃o,K.lookup p=some o/\o.cls=.type "tuple"/\o.dict=none)\/
   (T="dict"/\((∃kvs,H p=some (.dK kvs))\/∃kvs,H p=some (.dT kvs)))\/(T="set"/\∃S n,H p=some (.set S n))
 |_=>False
theorem IU (I:Inv X pins σ H s) (r:RelV x v) (ty:Jw X.K T x H):
  s.TypeIs v T/\∀a,v=.ref a->∃ob,s.heap.get? a=some ob/\ob.dict=none:=by
 cases x with
 |str z=>
  obtain ⟨t,rfl⟩:=r;cases (show T="str" from ty);exact ⟨typeIs_str s z t,λ_ e=>nomatch e⟩
 |int i=>
  obtain ⟨t,rfl⟩:=r;cases (show T="int" from ty);exact ⟨typeIs_int s i t,λ_ e=>nomatch e⟩
 |ref p=>
  cases r;rcases ty with ⟨rfl,xs,hq⟩|⟨rfl,o,hk,hc,hd⟩|⟨rfl,hk⟩|⟨rfl,S,n,hk⟩
  ·obtain ⟨its,_,pl,_⟩:=I.list hq;refine ⟨pl.isList.typeIs,λa e=>?_⟩;cases e;obtain ⟨o,n,e,c,hd,_⟩:=pl;exact ⟨o,e,hd⟩
  ·refine ⟨⟨o,I.kIn p o hk,hc⟩,λa e=>?_⟩;cases e;exact ⟨o,I.kIn _ o hk,hd⟩
  ·have z:∃o,s.heap.get? p=some o/\o.ExactDict:=by
    rcases hk with ⟨kvs,hk⟩|⟨kvs,hk⟩
    ·obtain ⟨_,_,_,_,o,_,_,e,ex,_⟩:=I.hok p _ hk;exact ⟨o,e,ex⟩
    ·obtain ⟨_,_,_,_,o,_,_,e,ex,_⟩:=I.hok p _ hk;exact ⟨o,e,ex⟩
   obtain ⟨o,e,ex⟩:=z;refine ⟨⟨o,e,ex.1⟩,λa e2=>?_⟩;cases e2;exact ⟨o,e,ex.2.1⟩
  ·obtain ⟨o,_,_,_,e,ex,_⟩:=I.hok p _ hk;refine ⟨⟨o,e,ex.1⟩,λa e2=>?_⟩;cases e2;exact ⟨o,e,ex.2.1⟩
 |_=>exact False.elim ty
variable {o e:Expr} {es:List Expr} {to:TE} {t:TA} {name:Str} {apos cpos:Pos} {T id:String} {r:V->List V->Hp->VK->Prop}
end
noncomputable def By (X:Cx) (id:String) (r:V->List V->Hp->VK->Prop):Prop:=
 ∀(pins:List (Addr × Obj)) (s:Shared) (σ:St) (H:Hp) (x:V) (xs:List V) (v:Value) (us:List Value) (Q:VK),Inv X pins σ H s->RelV x v->Vals xs us->r x xs H Q->
  wpAny (model X.prog X.w) X.A (call (.builtin id) (v::us)) (EP X pins σ Q) X.xe s
theorem Vals.one:∀{x:V} {us:List Value},Vals [x] us->∃u,us=[u]/\RelV x u
 |_,_,.cons r .nil=>⟨_,rfl,r⟩
theorem Vals.two:∀{x y:V} {us:List Value},Vals [x,y] us->∃u v,us=[u,v]/\RelV x u/\RelV y v
 |_,_,_,.cons r (.cons q .nil)=>⟨_,_,rfl,r,q⟩
theorem Vals.rep (h:Vals xs us):∀k:Nat,Vals (replicate k xs).flatten (replicate k us).flatten
 |0=>.nil
 |k+1=>by
  rw[replicate_succ,replicate_succ,flatten_cons,flatten_cons];exact Vals.append h (Vals.rep h k)
theorem foldl_rep (its:List Value):∀(k:Nat) (acc:List Value),
  foldl (λx1 x2=>x1++x2) acc.toArray (replicate k its.toArray)=(acc++(replicate k its).flatten).toArray
 |0,acc=>by simp
 |k+1,acc=>by
  have e:acc.toArray++its.toArray=(acc++its).toArray:=by simp
  have e2:(acc++its)++(replicate k its).flatten=acc++(replicate (k+1) its).flatten:=by
   rw[replicate_succ,flatten_cons,List.append_assoc]
  rw[<-e2,<-foldl_rep its k (acc++its),<-e,replicate_succ,foldl_cons]
section
variable {X:Cx} {pins:List (Addr × Obj)} {σ:St} {H:Hp} {s:Shared} {l b:Addr} {xs ys zs:List V}
theorem Inv.lset {its its':List Value} {n:Nat} {f:Array Value->Array Value} {t':Nat} (I:Inv X pins σ H s) (hH:H l=some (.lst xs))
  (e:s.heap.get? l=some {cls:=.type "list",data:=.seq its.toArray n}) (hf:f its.toArray=its'.toArray) (hv:Vals ys its') (hz:ys.length<=sizeLine):
  Inv X pins σ (upd H l (.lst ys)) {s with heap:=s.heap.update l (Obj.mapSeq f),toks:=t'}:=by
 have q:=PySem.IsL.update e f;rw[hf] at q;refine I.write (x:=l) (e:=l) (by rw[hH];exact trivial) (.inl rfl) (λb' u hb hu=>(get?_update_other s.heap (Obj.mapSeq f) (Ne.symm hb)).trans hu) ⟨_,q⟩ ?_;exact ⟨hz,its',_,hv,q⟩
theorem Inv.lnew (I:Inv X pins σ H s) (hv:Vals ys its) (hz:ys.length<=sizeLine):
  Inv X pins σ (upd H s.heap.objs.size (.lst ys)) {s with heap:=s.heap.push {cls:=.type "list",data:=.seq its.toArray},toks:=t'}:=
 I.laid (λ_ _ q=>get?_push_of_some _ q) (Nat.le_refl _) ⟨hz,its,0,hv,get?_push_size _ rfl⟩
theorem Inv.fresh (I:Inv X pins σ H s):H s.heap.objs.size=none:=I.hok.fresh (Nat.le_refl _)
theorem Inv.lstM (I:Inv X pins σ H s) (hH:H l=some (.lst xs)):xs.length<=sizeLine/\∃(its:List Value) (n:Nat),Vals xs its/\xs.length=its.length/\s.heap.get? l=some {cls:=.type "list",data:=.seq its.toArray n}:=by
 obtain ⟨z,its,n,r,e⟩:=I.hok l _ hH;exact ⟨z,its,n,r,r.length,e⟩
theorem LG (h:n<=sizeLine):Builtin.List.listTooLong n=false:=by
 unfold Builtin.List.listTooLong;exact decide_eq_false (by lia)
end
section
variable {X:Cx}
noncomputable def nW:V->List V->Hp->VK->Prop:=λx vs H Q=>∃l xs y,x=.ref l/\vs=[y]/\H l=some (.lst xs)/\xs.length<sizeLine/\Q .non (upd H l (.lst (xs++[y])))
theorem sR:By X "list.append" nW:=by
 intro pins s σ H x vs v us Q I rx rv h;obtain ⟨l,xs,y,rfl,rfl,hH,hz,q⟩:=h;cases rx;obtain ⟨u,rfl,ru⟩:=rv.one;obtain ⟨z,its,n,r,hl,e⟩:=I.lstM hH;refine call_meets F.slot_list_append ⟨_,e,rfl⟩ F.entry_list_append (F.args_list_append_2 _ _) (PySem.list_append l its.toArray n u (by rw[size_toArray];lia)) ⟨e,?_⟩;refine ⟨.non,_,I.lset (its':=its++[u]) hH e (by simp) (r.append (.cons ru .nil)) ?_,rfl,q⟩;rw[length_append,List.length_singleton];lia
noncomputable def Ek:R2:=λx y H Q=>∃l b xs zs,x=.ref l/\y=.ref b/\H l=some (.lst xs)/\H b=some (.lst zs)/\xs.length+zs.length<=sizeLine/\∀p,H p=none->Q (.ref p) (upd H p (.lst (xs++zs)))
theorem ZL:gI X (binaryOp .Add) Ek:=by
 intro pins s σ H x y v u Q I rx ry h;obtain ⟨l,b,xs,zs,rfl,rfl,hH,hB,hz,q⟩:=h;cases rx;cases ry;obtain ⟨z,its,n,r,hl,e⟩:=I.lstM hH;obtain ⟨z2,its2,n2,r2,hl2,e2⟩:=I.lstM hB;refine PySem.P.add_list e e2 ?_ (by rw[size_toArray,size_toArray];lia);have ea:its.toArray++its2.toArray=(its++its2).toArray:=by simp
 rw[ea];exact ⟨.ref _,_,I.lnew (t':=s.toks) (r.append r2) (by rw[length_append];lia),rfl,q _ I.fresh⟩
noncomputable def Ec:R2:=λx y H Q=>∃l k xs,x=.ref l/\y=.int k/\H l=some (.lst xs)/\-(2 ^ 63)<=k/\k<2 ^ 63/\xs.length * k.toNat<=sizeLine/\
 ∀p,H p=none->Q (.ref p) (upd H p (.lst (replicate k.toNat xs).flatten))
theorem len_rep (xs:List α) (k:Nat):(replicate k xs).flatten.length=k * xs.length:=by
 induction k with
 |zero=>simp
 |succ k ih=>rw[replicate_succ,flatten_cons,length_append,ih,Nat.succ_mul,Nat.add_comm]
theorem ZC:gI X (binaryOp .Mult) Ec:=by
 intro pins s σ H x y v u Q I rx ry h;obtain ⟨l,k,xs,rfl,rfl,hH,h1,h2,hz,q⟩:=h;cases rx;obtain ⟨t,rfl⟩:=ry;obtain ⟨z,its,n,r,hl,e⟩:=I.lstM hH;have hlen:its.toArray.size * k.toNat<=sizeLine:=by rw[size_toArray,<-hl];exact hz
 have hcap:¬its.toArray.size * k.toNat>(2 ^ 63 - 1) / 8:=by
  have:(sizeLine:Nat)<=(2 ^ 63 - 1) / 8:=by decide
  lia
 have hfit:¬(!Builtin.List.listFitsIndex k)=true:=by
  rw[fitsIndex_both h1 h2];exact Bool.false_ne_true
 have hlong:¬Builtin.List.listTooLong (its.toArray.size * k.toNat)=true:=by
  rw[LG hlen];exact Bool.false_ne_true
 have hnew:foldl (λx1 x2=>x1++x2) #[] (replicate (if its.toArray.isEmpty=true then 0 else k.toNat) its.toArray)=(replicate k.toNat its).flatten.toArray:=by
  have f0:∀m:Nat,foldl (λx1 x2=>x1++x2) #[] (replicate m its.toArray)=(replicate m its).flatten.toArray:=λm=>by
   have:=foldl_rep its m [];rw[List.nil_append] at this;exact this
  rw[f0];cases its with
  |nil=>simp
  |cons a r'=>rw[if_neg (by simp)]
 refine wpAny_binaryOp_repeat_ref (T:="list") (U:="int") (by decide) ⟨_,e,rfl⟩ (λs'=>typeIs_int s' k t) noFill_list_mul F.fills_int_mul F.slot_int_rmul repeat_list F.slot_int_index.lookup
  (call_meets F.slot_int_rmul (typeIs_int s k t) F.entry_int_rmul (F.args_int_rmul_2 _ _) (int___rmul___int_list k t l its.toArray n)
   ⟨e,rfl,⟨_,e,rfl⟩,call_meets F.slot_list_mul ⟨_,e,rfl⟩ F.entry_list_mul (F.args_list_mul_2 _ _) (AutoListH.list___mul___list_int_3 l its.toArray n k t hfit hcap hlong) ⟨e,?_⟩⟩)
 rw[hnew];exact ⟨.ref _,_,I.lnew (t':=s.toks) (r.rep k.toNat) (by rw[len_rep,Nat.mul_comm];exact hz),rfl,q _ I.fresh⟩
end
section
variable {prog:Program} {w:World} {A:Around} {E:Value->Shared->Prop} {s:Shared}
end
section
variable {X:Cx}
end
end L2
namespace Att
open PySem PySem.W PySem.Calls PyProof.Rows
theorem nH:∀(ns:List Int) (vs:List Value),WellAll P h vs (ns.map WData.int)->IntsAre vs ns:=by
 intro ns;induction ns with
 |nil=>
  intro vs w;rw[map_nil] at w;cases w;exact .nil
 |cons n ns ih=>
  intro vs w;rw[map_cons] at w;cases w with
  |cons a b=>
   cases a;exact .cons _ _ (ih _ b)
theorem FO {l:OpenLaw} {n:Nat} (hn:l.most=some n) {P:Params} {h:Heap} {args:List WData} {vals:List Value}
  (hpre:l.row.toRowW.claim.pre args=true) (hwl:WellAll P h vals args):
  ∃a vs ns,vals=[Value.ref a]/\args=[WData.list (ns.map WData.int)]/\h.get? a=some {cls:=.type "list",data:=.seq vs.toArray}/\IntsAre vs ns/\ns.length<=n:=by
 have hsh:WShape.hasAll [] args [.list .int]=true:=(pre_splitW hpre).1;have hc:l.pre.holds [] {args:=args}=true:=(pre_splitW hpre).2;obtain ⟨d,r,rfl,h1,h2⟩:=hasAllW_cons hsh;obtain rfl:=hasAllW_nil h2;obtain ⟨xs,rfl,h3⟩:=hasW_list h1;obtain ⟨ns,rfl⟩:=items_int h3;have hlen:ns.length<=n:=by
  unfold OpenLaw.pre at hc;have h4:(WTm.not (.lt (.lit (.int (n:Int))) (.len (.arg 0)))).holds [] {args:=[.list (ns.map .int)]}=true:=by
   have h4:=(holds_andW hc).1;rw[hn] at h4;exact h4
  have h5:=condW_of h4 (w_not (w_lt w_lit (w_len_list (w_arg rfl))));rw[length_map] at h5;refine le_of_not_lt λq=>?_;have q':(n:Int)<((ns.length:Nat):Int):=by lia
  first
   | (rw[decide_eq_true q'] at h5;exact absurd h5 (by decide))
   | (simp at h5;lia)
 cases hwl with
 |cons w1 w2=>
  cases w2;cases w1 with
  |list ho hall=>exact ⟨_,_,ns,rfl,rfl,ho,nH ns _ hall,hlen⟩
theorem FV (l:OpenLaw) (args:List WData):l.row.toRowW.claim.post args (.bool true) args=true:=
 postW_of (r:=l.row.toRowW) (X:=(true==true))
  (show WShape.has [] (.bool true) .bool=true by first|rfl|decide|simp [WShape.has,WShape.arms,WShape.armsAll])
  (show (WTm.eq .res (.lit (.bool true))).value [] {args:=args,res:=some (.bool true),after:=args}=some (.bool (true==true)) from w_eq_bool (w_res rfl) w_lit) rfl
theorem zZ {l:OpenLaw} {n:Nat} {q:Program} {loose:List Str} {XP:(Str->Option Value)->Heap->Prop} {YP:World->Heap->Prop} {d:DefRec}
  (hn:l.most=some n) (hdf:d.params.defaults=[])
  (call:∀(w:World) (s₀ s₁:Shared) (mg mb:Str->Option Value) (fa:Addr) (o:Obj) (pm cd doc:Value) (a:Addr) (vs:List Value) (ns:List Int),
   Ground q loose [] XP w s₀ mg mb s₁.heap->YP w s₁.heap->
   s₁.heap.get? fa=some o->o.data=.func (docDef d.name d.params d.body d.scope pm cd doc)->s₁.heap.CodeRec cd d.name->mg d.name=some (.ref fa)->
   s₁.heap.get? a=some {cls:=.type "list",data:=.seq vs.toArray}->IntsAre vs ns->ns.length<=n->s₁.gens=#[]->
   codeAny (model l.prog w) callerA (.call (.ref fa) ⟨[.ref a],[]⟩) (λr s'=>r=.ok (.ret (.bool true))/\OldK s₁.heap s'.heap/\s'.os=s₁.os/\AllBare s'.gens) s₁):
  WalkO q loose XP YP l.row.toRowW d [] (λf vs=>PySem.call f vs):=by
 intro w s₀ s₁ mg mb G Y fa o pm cd doc dV kV ho hd hcd hD hmg hg args vals as hpre hlay hrd hwl hlo;obtain rfl:dV=.none:=Dflts.none hD hdf;obtain rfl:kV=.none:=Dflts.noKw hD;obtain ⟨a,vs,ns,rfl,rfl,hobj,hints,hlen⟩:=FO hn hpre hwl;refine enter_call (codeAny_mono (call w s₀ s₁ mg mb fa o pm cd doc a vs ns G Y ho (fd_plain hd) hcd hmg hobj hints hlen hg) λr s' hq=>?_);obtain ⟨rfl,h2,h3,h4⟩:=hq;exact ⟨.inl ⟨.bool true,.bool true,[],rfl,λ_=>rfl,.bool true,FV l _,λ_=>⟨Pairwise.nil,λ_ hm=>(nomatch hm)⟩⟩,h2,h3,h4⟩
section
variable {prog:Program} {w:World} {A:Around} {E:Value->Shared->Prop} {s:Shared} {K:Frag}
theorem UR
  (X:K.In s.heap) (hlim:s.heap.NoLimit) (ho:K.lookup f=some ⟨oc,od,.func (fnOf name qual params body scope dV kV doc pm an cdv ct),osl⟩) (hcd:codeIn K cdv qual=true) (hroom:A.depth<recursionLimit)
  (hbind:BindsTo s (fnOf name qual params body scope dV kV doc pm an cdv ct) args binds)
  (hkind:(binds.all λy=>scope.names.lookup y.1==some .local || scope.names.lookup y.1==some .cell)=true)
  (h:∀s₁,InCallC s s.heap.objs.size (bindL (envOfC qual scope s.heap.objs.size f cdv).kindOf binds λ_=>none) (cellsFrom (s.heap.objs.size+1) scope.names [])
    (bindC (envOfC qual scope s.heap.objs.size f cdv).kindOf binds λ_=>none) s₁->
   wpAny (model prog w) (A.deeper (envOfC qual scope s.heap.objs.size f cdv)) (execs body (envOfC qual scope s.heap.objs.size f cdv))
    (λfl s'=>R (.ok (.ret (match fl with| .ret v=>v|_=>.none))) s')
    (λe s'=>wpAny (model prog w) (A.deeper (envOfC qual scope s.heap.objs.size f cdv)) (leaving (envOfC qual scope s.heap.objs.size f cdv) e) (λ_ s''=>R (.error e) s'') (λe' s''=>R (.error e') s'') s') s₁)
  (hco:scope.isCoroutine=false) (hgen:scope.isGenerator=false) (hk:scope.kind=.function):codeAny (model prog w) A (.call (.ref f) args) R s:=by
 refine codeAny_call_function hroom (X _ _ ho) rfl hco hgen rfl (codeRec_of X hcd) (hbind _ _ _ _ ?_);refine wpAny_newFunctionEnv_cells hk (kindsX hkind _) λenv he s₁ x=>?_;subst he;exact ⟨hlim.keeps x.toInCall.keep,codeAny_func (h s₁ x)⟩
end
end Att
namespace L2
open PySem PySem.Spec PyProof.Rows
theorem sE:∀{vs:List Value} {ns:List Int},IntsAre vs ns->Vals (ns.map V.int) vs
 |_,_,.nil=>.nil
 |_,_,.cons n t h=>.cons ⟨t,rfl⟩ (sE h)
noncomputable def Bw (H:Hp):Prop:=∀b,H b=none\/∃o xs,H b=some (.frz o (.lst xs))
theorem MB {P:Program} {w:World} {K:Fg} {mg mb:Str->Option Value} {CX:PK} {k:Nat} {fa a:Addr} {fd:FuncData} {x:Str} {sp:Sp} {s₁:Shared} {vs:List Value} {ns:List Int}
  (KX:K.In s₁.heap) (hns:s₁.heap.Ns mainGlobals mg) (hb:s₁.heap.Ns builtinsNs mb) (hbb:∀x:Str,x≠"__name__"->mb x=bootBuiltins x) (hlim:s₁.heap.NoLimit) (hg:s₁.gens=#[])
  (ha:s₁.heap.get? a=some {cls:=.type "list",data:=.seq vs.toArray}) (hi:IntsAre vs ns) (hl:ns.length<=sizeLine) (hr:cG k callerA)
  (F:∀base:Heap,K.In base->base.Ns mainGlobals mg->sC P w K mg base CX k fa fd [x] sp) (hbind:∀(s:Shared) (u:Value),BindsTo s fd ⟨[u],[]⟩ [(x,u)])
  (hsp:∀H:Hp,Bw H->aR K H a (ns.map V.int)->sp [.ref a] H (λv _=>v=.bl true) λ_ _ _=>False)
  (hCX:∀H e s',CX [] H s₁ (λ_ _ _=>False) e s'->False):
  codeAny (model P w) callerA (.call (.ref fa) ⟨[.ref a],[]⟩) (λr s'=>r=.ok (.ret (.bool true))/\OldK s₁.heap s'.heap/\s'.os=s₁.os/\AllBare s'.gens) s₁:=by
 have rv:=sE hi;have lenV:=hi.length;have core:∀H:Hp,Bw H->aR K H a (ns.map V.int)->eG P w H s₁.heap->(∀b,H b≠none->b=a)->(H a≠none->K.lookup a=none)->
   codeAny (model P w) callerA (.call (.ref fa) ⟨[.ref a],[]⟩) (λr s'=>r=.ok (.ret (.bool true))/\OldK s₁.heap s'.heap/\s'.os=s₁.os/\AllBare s'.gens) s₁:=by
  intro H hO hS hok hA hK;have base_of:∀{b:Addr} {o:Obj},s₁.heap.get? b=some o->H b=none->(wB s₁.heap H).get? b=some o:=λe n=>NB e n;have noA:∀{b:Addr} {o:Obj} {es:Array DictEntry} {ep:Nat},s₁.heap.get? b=some o->o.data=.dict es ep->H b=none:=λ{b o es ep} e d=>by
   cases q:H b with
   |none=>rfl
   |some u=>
    have e':b=a:=hA b (by rw[q];simp);subst e';rw[ha] at e;cases e;have d':Data.seq vs.toArray _=Data.dict es ep:=d;cases d'
  have nsK:∀{b:Addr} {m:Str->Option Value},s₁.heap.Ns b m->(wB s₁.heap H).Ns b m:=λ{b m} ⟨o,es,ep,e,d,r⟩=>⟨o,es,ep,base_of e (noA e d),d,r⟩;have hKb:K.In (wB s₁.heap H):=λb o e=>base_of (KX b o e) (by
   cases q:H b with
   |none=>rfl
   |some u=>
    have e':b=a:=hA b (by rw[q];simp)
    subst e'
    rw[hK (by rw[q];simp)] at e;cases e)
  have hM:Mod K mg (wB s₁.heap H):=⟨hKb,nsK hns,⟨mb,nsK hb,hbb⟩,let ⟨mc,h1,h2⟩:=hlim;⟨mc,nsK h1,h2⟩⟩;have e0:CU P w K mg (wB s₁.heap H) callerA [] s₁ H:=⟨rfl,hM,λb o e=>RV e,le_of_eq (HC _ _),trivial,λb hb=>absurd (show b∈([]:List Addr) from hb) (by simp),hok,.of_eq hg⟩;refine codeAny_mono ((F _ hKb (nsK hns)).run callerA [] s₁ H ⟨[.ref a],[]⟩ [.ref a] [.ref a] _ _ hr e0 (hbind s₁ (.ref a)) (.cons rfl .nil) (hsp H hO hS)) λr s' h=>?_;cases r with
  |error e=>exact (hCX H e s' h).elim
  |ok fl=>
   cases fl with
   |next=>exact False.elim h
   |brk=>exact False.elim h
   |cont=>exact False.elim h
   |ret u=>
    obtain ⟨v,H',os,bare,un,hok',r',q⟩:=h;have q':v=.bl true:=q;subst q';obtain rfl:u=Value.bool true:=r';refine ⟨rfl,OldK.of_keep λb o e=>?_,os,bare⟩;cases q:H b with
    |none=>exact un.keep b o e q (by intro z;exact absurd (show b∈([]:List Addr) from z) (by simp)) (by simp)
    |some u=>
     rcases hO b with z|⟨ob,xs,z⟩
     ·rw[q] at z;cases z
     ·have z2:=un.frzs b ob _ z;obtain ⟨e1,_⟩:=hok b _ z;obtain ⟨e2,_⟩:=hok' b _ z2;rw[e] at e1;cases e1;exact e2
 cases hk:K.lookup a with
 |some o=>
  have e:=KX a o hk;rw[ha] at e;cases e;refine core (λ_=>none) (λ_=>.inl rfl) (.inr ⟨_,vs.toArray,_,hk,rfl,rfl,rfl,by rw[size_toArray,lenV];exact hl,by simpa using rv⟩) (λb u z=>by have z':(none:Option HO)=some u:=z;cases z') (λb z=>absurd rfl z) λz=>absurd rfl z
 |none=>
  refine core (λb=>if b=a then some (.frz {cls:=.type "list",data:=.seq vs.toArray} (.lst (ns.map V.int))) else none) (λb=>?_) (.inl (.inr ⟨{cls:=.type "list",data:=.seq vs.toArray},if_pos rfl⟩)) (λb u z=>?_) (λb z=>?_) λ_=>hk
  ·by_cases hb:b=a
   ·exact .inr ⟨_,_,if_pos hb⟩
   ·exact .inl (if_neg hb)
  ·by_cases hb:b=a
   ·have z':=(if_pos hb).symm.trans z;cases z';subst hb;exact ⟨ha,by rw[length_map];exact hl,vs,_,rv,ha⟩
   ·have z':=(if_neg hb).symm.trans z;cases z'
  ·by_cases hb:b=a
   ·exact hb
   ·exact absurd (if_neg hb) z
theorem PU {l:PySem.W.OpenLaw} {n k:Nat} {q:Program} {loose:List Str} {XP:(Str->Option Value)->Heap->Prop} {YP:World->Heap->Prop} {d:DefRec} {K:Params->Fg} {CX:World->PK} {sp:World->Sp} {x:Str}
  (hn:l.most=some n) (hn2:n<=sizeLine) (hdf:d.params.defaults=[]) (hr:cG k callerA)
  (hY:∀(w:World) (h:Heap),YP w h->(K w.params).In h)
  (F:∀(w:World) (mg:Str->Option Value) (fa:Addr) (h:Heap),(K w.params).In h->h.Ns mainGlobals mg->mg d.name=some (.ref fa)->
   ∃fd:FuncData,(∀(s:Shared) (u:Value),BindsTo s fd ⟨[u],[]⟩ [(x,u)])/\
    ∀base:Heap,(K w.params).In base->base.Ns mainGlobals mg->sC l.prog w (K w.params) mg base (CX w) k fa fd [x] (sp w))
  (hsp:∀(w:World) (H:Hp) (a:Addr) (ns:List Int),ns.length<=n->Bw H->aR (K w.params) H a (ns.map V.int)->sp w [.ref a] H (λv _=>v=.bl true) λ_ _ _=>False)
  (hCX:∀(w:World) (H:Hp) (s:Shared) (e:Value) (s':Shared),CX w [] H s (λ_ _ _=>False) e s'->False):
  PySem.W.WalkO q loose XP YP l.row.toRowW d [] (λf vs=>PySem.call f vs):=by
 refine Att.zZ hn hdf λw s₀ s₁ mg mb fa o pm cd doc a vs ns G Y ho hd hcd hmg hobj hints hlen hg=>?_;have KX:=hY w _ Y;obtain ⟨fd,hb,hF⟩:=F w mg fa _ KX G.T.g hmg;exact MB KX G.T.g G.T.b G.T.builtins G.T.nolimit hg hobj hints (le_trans hlen hn2) hr hF hb (λH hO hS=>hsp w H a ns hlen hO hS) λH e s'=>hCX w H s₁ e s'
noncomputable def cJ (s:Stmt):Arguments:=match s with
 | .FunctionDef _ a _ _ _ _ _ _ _ _=>a
 |_=>{posonlyargs:=[],args:=[],vararg:=none,kwonlyargs:=[],kw_defaults:=[],kwarg:=none,defaults:=[]}
noncomputable def aZ (s:Stmt):List Stmt:=match s with
 | .FunctionDef _ _ b _ _ _ _ _ _ _=>b
 |_=>[]
noncomputable def aM (s:Stmt):Scope:=match s with
 | .FunctionDef _ _ _ _ _ _ sc _ _ _=>sc
 |_=>{kind:=.function,names:=[],isGenerator:=false,isCoroutine:=false}
noncomputable abbrev E0:XK:=λ_ _ _=>False
structure Cs (K:Fg) (x qual:Str) (st:Stmt) (f:Addr) (fd:FuncData):Prop where
 ex:∃(oc:Value) (od:Option Addr) (kV doc pm:Value) (an:Option Addr) (cdv ct:Value) (osl:Array (Option Value)),
  fd=PySem.W.fnOf x qual (cJ st) (aZ st) (aM st) .none kV doc pm an cdv ct/\K.lookup f=some ⟨oc,od,.func fd,osl⟩/\PySem.W.codeIn K cdv qual=true
 kp:PySem.W.keepIn K (.ref f)=true
section
variable {P:Program} {w:World} {K:Fg} {mg:Str->Option Value} {base:Heap}
theorem Cs.binds {x qual:Str} {st:Stmt} {f:Addr} {fd:FuncData} {ps:List Str} (F:Cs K x qual st f fd)
  (h:∀(kV doc pm:Value) (an:Option Addr) (cdv ct:Value) (us:List Value),us.length=ps.length->bindArgs (PySem.W.fnOf x qual (cJ st) (aZ st) (aM st) .none kV doc pm an cdv ct) ⟨us,[]⟩=pure (ps.zip us)):Binds K fd ps []:=by
 obtain ⟨oc,od,kV,doc,pm,an,cdv,ct,osl,rfl,lk,hcd⟩:=F.ex;exact .all (h kV doc pm an cdv ct)
theorem ND {x qual:Str} {st:Stmt} {f:Addr} {oc:Value} {od an:Option Addr} {osl:Array (Option Value)} {kV doc pm cdv ct:Value} (l:K.lookup f=some ⟨oc,od,.func (PySem.W.fnOf x qual (cJ st) (aZ st) (aM st) .none kV doc pm an cdv ct),osl⟩)
  (c:PySem.W.codeIn K cdv qual=true) (k:PySem.W.keepIn K (.ref f)=true):Cs K x qual st f (PySem.W.fnOf x qual (cJ st) (aZ st) (aM st) .none kV doc pm an cdv ct):=⟨⟨oc,od,kV,doc,pm,an,cdv,ct,osl,rfl,l,c⟩,k⟩
end
theorem FK (h:n<=1000):n<sizeLine:=Nat.lt_of_le_of_lt h (by decide)
section
variable {X:Cx}
end
noncomputable def aC (H H':Hp):Prop:=∀b o,H b=some o->H' b=some o
theorem aC.refl (H:Hp):aC H H:=λ_ _ h=>h
theorem aC.trans (a:aC H H1) (b:aC H1 H2):aC H H2:=λc o h=>b c o (a c o h)
theorem aC.seq {K:Fg} {H H':Hp} {a:Addr} {xs:List V} (e:aC H H') (h:aR K H a xs):aR K H' a xs:=by
 rcases h with (h|⟨o,h⟩)|h
 ·exact .inl (.inl (e _ _ h))
 ·exact .inl (.inr ⟨o,e _ _ h⟩)
 ·exact .inr h
section
variable {κ:Type} [DecidableEq κ]
noncomputable def dG (kvs:List (κ × V)) (k:κ):Option V:=(kvs.find? λkv=>decide (kv.1=k)).map (·.2)
noncomputable def putK (kvs:List (κ × V)) (k:κ) (v:V):List (κ × V):=
 if (kvs.any λkv=>decide (kv.1=k))=true then kvs.map (λkv=>if kv.1=k then (kv.1,v) else kv) else kvs++[(k,v)]
theorem hZ {p:κ × V} {r:List (κ × V)} {k:κ} (e:p.1=k):dG (p::r) k=some p.2:=by simp [dG,find?_cons,e]
theorem fX {p:κ × V} {r:List (κ × V)} {k:κ} (e:¬p.1=k):dG (p::r) k=dG r k:=by simp [dG,find?_cons,e]
theorem jZ (k:κ):∀kvs:List (κ × V),(kvs.any λkv=>decide (kv.1=k))=(dG kvs k).isSome
 |[]=>rfl
 |p::r=>by
  rw[any_cons];by_cases e:p.1=k
  ·simp only [hZ e,decide_eq_true e,Bool.true_or,Option.isSome_some]
  ·rw[fX e,decide_eq_false e,Bool.false_or];exact jZ k r
theorem iJ (kvs:List (κ × V)) (k:κ) (v:V):(putK kvs k v).length<=kvs.length+1:=by
 unfold putK;split
 ·rw[length_map];lia
 ·rw[length_append,length_cons,length_nil];lia
theorem iW.isSome_eq (r:iW o u):o.isSome=u.isSome:=by
 cases o with
 |none=>cases u with
  |none=>rfl
  |some _=>exact (show False from r).elim
 |some _=>cases u with
  |none=>exact (show False from r).elim
  |some _=>rfl
theorem iW.getD (r:iW o u) (rd:RelV d d'):RelV (o.getD d) (u.getD d'):=by
 cases o with
 |none=>cases u with
  |none=>exact rd
  |some _=>exact (show False from r).elim
 |some _=>cases u with
  |none=>exact (show False from r).elim
  |some _=>exact r
theorem KV.val (r:KV kvs vs) (k:κ):iW (dG kvs k) (valueAt vs k):=by
 unfold KV at r;induction r with
 |nil=>exact tI
 |@cons p q ps qs h t ih=>
  obtain ⟨h1,h2⟩:=h;by_cases e:p.1=k
  ·have e':q.1=k:=h1.symm.trans e;have b:valueAt (q::qs) k=some q.2:=by simp [valueAt,find?_cons,e']
   rw[hZ e,b];exact h2
  ·have e':¬q.1=k:=λz=>e (h1.trans z);have b:valueAt (q::qs) k=valueAt qs k:=by simp [valueAt,find?_cons,e']
   rw[fX e,b];exact ih
theorem KV.any {kvs:List (κ × V)} {vs:List (κ × Value)} (r:KV kvs vs) (k:κ):(kvs.any λkv=>decide (kv.1=k))=vs.any λkv=>decide (kv.1=k):=by
 unfold KV at r;induction r with
 |nil=>rfl
 |cons h t ih=>rw[any_cons,any_cons,ih,h.1]
theorem KV.repl (r:KV kvs vs) (k:κ) (ry:RelV y u):
  KV (kvs.map λkv=>if kv.1=k then (kv.1,y) else kv) (vs.map λkv=>if kv.1=k then (kv.1,u) else kv):=by
 unfold KV at r ⊢;induction r with
 |nil=>exact .nil
 |@cons p q ps qs h t ih=>
  rw[map_cons,map_cons];refine .cons ?_ ih;obtain ⟨h1,h2⟩:=h;by_cases e:p.1=k
  ·rw[if_pos e,if_pos (h1.symm.trans e)];exact ⟨h1,ry⟩
  ·rw[if_neg e,if_neg (λz=>e (h1.trans z))];exact ⟨h1,h2⟩
theorem KV.put (r:KV kvs vs) (k:κ) (ry:RelV y u):KV (putK kvs k y) (stored vs k u):=by
 unfold putK stored;rw[r.any k];by_cases e:(vs.any λkv=>decide (kv.1=k))=true
 ·rw[if_pos e,if_pos e];exact r.repl k ry
 ·rw[if_neg e,if_neg e];exact Paired.snoc r ⟨rfl,ry⟩
theorem KV.keys {kvs:List (κ × V)} {vs:List (κ × Value)} (r:KV kvs vs):kvs.map (·.1)=vs.map (·.1):=by
 unfold KV at r;induction r with
 |nil=>rfl
 |cons h t ih=>rw[map_cons,map_cons,ih,h.1]
theorem KV.length {kvs:List (κ × V)} {vs:List (κ × Value)} (r:KV kvs vs):kvs.length=vs.length:=Paired.length r
end
theorem pW (r:RelV (kV k) u):(aU P w).is k u=true:=by
 cases k with
 |inl i=>obtain ⟨t,e⟩:=(show ∃t,u=Value.int i t from r);subst e;exact yS P w i t
 |inr x=>obtain ⟨t,e⟩:=(show ∃t,u=Value.str x t from r);subst e;exact yR P w x t
theorem sU:∀{ks:List Key} {us:List Value},Vals (ks.map kV) us->ItemsAre (aU P w) ks us
 |[],_,r=>by rw[map_nil] at r;cases r;exact .nil
 |k::ks,_,r=>by
  rw[map_cons] at r;cases r with
  |cons h t=>exact .cons (pW h) (sU t)
noncomputable abbrev KT (H:Hp):List (List Key × V)->List (List Key × Addr × Value)->Prop:=Paired λp q=>p.1=q.1/\H q.2.1=some (.tup (p.1.map kV))/\RelV p.2 q.2.2
theorem KT.val (r:KT H kvs xs) (k:List Key):iW (dG kvs k) ((atKey xs k).map (·.2)):=by
 induction r with
 |nil=>exact tI
 |@cons p q ps qs h t ih=>
  obtain ⟨h1,_,h2⟩:=h;by_cases e:p.1=k
  ·have e':q.1=k:=h1.symm.trans e;have b:atKey (q::qs) k=some q.2:=by simp [atKey,find?_cons,e']
   rw[hZ e,b];exact h2
  ·have e':¬q.1=k:=λz=>e (h1.trans z);have b:atKey (q::qs) k=atKey qs k:=by simp [atKey,find?_cons,e']
   rw[fX e,b];exact ih
theorem KT.repl (r:KT H kvs xs) (k:List Key) (ry:RelV y u):
  KT H (kvs.map λkv=>if kv.1=k then (kv.1,y) else kv) (xs.map (putAt k u)):=by
 induction r with
 |nil=>exact .nil
 |@cons p q ps qs h t ih=>
  rw[map_cons,map_cons];refine .cons ?_ ih;obtain ⟨h1,h2,h3⟩:=h;unfold putAt;by_cases e:p.1=k
  ·rw[if_pos e,if_pos (h1.symm.trans e)];exact ⟨h1,h2,ry⟩
  ·rw[if_neg e,if_neg (λz=>e (h1.trans z))];exact ⟨h1,h2,h3⟩
theorem KT.put (r:KT H kvs xs) (k:List Key) (hb:H b=some (.tup (k.map kV))) (ry:RelV y u):
  KT H (putK kvs k y) (storedH xs k b u):=by
 have e:(kvs.any λkv=>decide (kv.1=k))=(atKey xs k).isSome:=by
  rw[jZ,(r.val k).isSome_eq,Option.isSome_map]
 unfold putK storedH;rw[e];by_cases q:(atKey xs k).isSome=true
 ·rw[if_pos q,if_pos q];exact r.repl k ry
 ·rw[if_neg q,if_neg q];exact Paired.snoc r ⟨rfl,hb,ry⟩
theorem KT.keeps (r:KT H kvs xs) (ht:∀b ys,H b=some (.tup ys)->H' b=some (.tup ys)):KT H' kvs xs:=
 Paired.mapP r λ_ _ z=>⟨z.1,ht _ _ z.2.1,z.2.2⟩
section
variable {P:Program} {w:World} {H:Hp} {h:Heap} {a:Addr}
theorem VO (ok:eG P w H h) (e:Rd H a u):aY P w H h a u:=e.ok ok
theorem tH (ok:eG P w H h) (e:Rd H a (.dK kvs)):kvs.length<=sizeLine/\(a==sysModules)=false/\∃vs,KV kvs vs/\h.DictOf (aU P w) a vs:=
 show aY P w H h a (.dK kvs) from VO ok e
theorem EF (ok:eG P w H h) (e:H a=some (.dK kvs)):kvs.length<=sizeLine/\(a==sysModules)=false/\∃vs,KV kvs vs/\h.DictOf (aU P w) a vs:=tH ok (.inl e)
theorem pV (ok:eG P w H h) (e:H a=some (.tup (ks.map kV))):(tupleKind (aU P w)).is h ks a:=by
 obtain ⟨_,its,r,o,h1,h2,n,h3⟩:=(show aY P w H h a (.tup (ks.map kV)) from ok a _ e);exact ⟨o,its.toArray,n,h1,h2,h3,by simpa using sU r⟩
theorem zN (ok:eG P w H h) (e:Rd H a (.dT kvs)):kvs.length<=sizeLine/\(a==sysModules)=false/\
  ∃xs,KT H kvs xs/\h.DictOfH (tupleKind (aU P w)) a xs:=by
 obtain ⟨z,y,xs,r,o,es,ep,h1,h2,h3,h4,h5⟩:=(show aY P w H h a (.dT kvs) from VO ok e);refine ⟨z,y,xs,r,o,es,ep,h1,h2,h3,h4,λx hx=>?_,h5⟩;have all:∀{l:List (List Key × V)} {m:List (List Key × Addr × Value)},KT H l m->∀x∈m,(tupleKind (aU P w)).is h x.1 x.2.1:=by
  intro l m q;induction q with
  |nil=>intro x hx;exact nomatch hx
  |@cons p q ps qs hq t ih=>
   intro x hx;rcases mem_cons.mp hx with e|hx
   ·subst e;exact pV ok (by rw[<-hq.1];exact hq.2.1)
   ·exact ih x hx
 exact all r x hx
theorem Ia (ok:eG P w H h) (e:H a=some (.dT kvs)):kvs.length<=sizeLine/\(a==sysModules)=false/\
  ∃xs,KT H kvs xs/\h.DictOfH (tupleKind (aU P w)) a xs:=zN ok (.inl e)
end
noncomputable def eY (H:Hp) (a:Addr) (y:V) (r:Option V):Prop:=
 (∃kvs k,Rd H a (.dK kvs)/\y=kV k/\r=dG kvs k)\/∃kvs k b,Rd H a (.dT kvs)/\y=.ref b/\H b=some (.tup (k.map kV))/\r=dG kvs k
noncomputable def PH (H:Hp) (a:Addr) (y v:V) (H':Hp):Prop:=
 (∃kvs k,H a=some (.dK kvs)/\y=kV k/\kvs.length<sizeLine/\H'=upd H a (.dK (putK kvs k v)))\/
 ∃kvs k b,H a=some (.dT kvs)/\y=.ref b/\H b=some (.tup (k.map kV))/\kvs.length<sizeLine/\H'=upd H a (.dT (putK kvs k v))
theorem eY.k {H:Hp} {a:Addr} {kvs:List (Key × V)} {k:Key} (e:H a=some (.dK kvs)):eY H a (kV k) (dG kvs k):=.inl ⟨kvs,k,.inl e,rfl,rfl⟩
theorem PH.k {H:Hp} {a:Addr} {kvs:List (Key × V)} {k:Key} {v:V} (e:H a=some (.dK kvs)) (hl:kvs.length<sizeLine):PH H a (kV k) v (upd H a (.dK (putK kvs k v))):=.inl ⟨kvs,k,e,rfl,hl,rfl⟩
section
variable {X:Cx} {pins:List (Addr × Obj)} {σ:St} {H:Hp} {s:Shared} {a:Addr} {y v:V} {u r:Value} {o:Option V} {A:Around} {E:Value->Shared->Prop}
theorem Inv.big (I:Inv X pins σ H s):sysModules<s.heap.objs.size:=by
 have h:mainGlobals<s.heap.objs.size:=(I.mod.glob.keeps I.bk).lt;exact lt_trans (by decide) h
theorem HJ (hu:A.units+1<cLine) (I:Inv X pins σ H s) (g:eY H a y (some v)) (ry:RelV y u) (h:∀w' s',Inv X pins σ H s'->RelV v w'->Q w' s'):
  wpAny (model X.prog X.w) A (getItem (.ref a) u) Q E s:=by
 rcases g with ⟨kvs,k,e,ey,l⟩|⟨kvs,k,b,e,ey,eb,l⟩
 ·subst ey;obtain ⟨z,hd,vs,rel,dd⟩:=tH I.hok e;obtain ⟨w',hw,rw'⟩:=iW.some_of (v:=v) (o:=valueAt vs k) (by rw[l];exact rel.val k);exact wpAny_getItem_of (pW ry) dd.mapOf hw (h w' _ (I.tok _) rw')
 ·subst ey;cases (show u=Value.ref b from ry);obtain ⟨z,hd,xs,rel,dd⟩:=zN I.hok e;obtain ⟨w',hw,rw'⟩:=iW.some_of (v:=v) (o:=(atKey xs k).map (·.2)) (by rw[l];exact rel.val k);obtain ⟨p,hp,hp2⟩:=Option.map_eq_some_iff.mp hw;refine wpAny_getItem_heap (tupleKind_room_in1 hu) (pV I.hok eb) dd hp ?_;rw[hp2];exact h w' _ (I.tok _) rw'
theorem UM (hu:A.units+1<cLine) (I:Inv X pins σ H s) (g:eY H a y o) (ry:RelV y u) (h:∀s',Inv X pins σ H s'->Q (.bool (!o.isSome)) s'):
  wpAny (model X.prog X.w) A (compareOp .NotIn u (.ref a)) Q E s:=by
 rcases g with ⟨kvs,k,e,ey,l⟩|⟨kvs,k,b,e,ey,eb,l⟩
 ·subst ey;obtain ⟨z,hd,vs,rel,dd⟩:=tH I.hok e;refine wpAny_notIn_of (pW ry) hd dd.mapOf ?_;rw[<-(rel.val k).isSome_eq,<-l];exact h _ (I.tok _)
 ·subst ey;cases (show u=Value.ref b from ry);obtain ⟨z,hd,xs,rel,dd⟩:=zN I.hok e;refine wpAny_notIn_heap (tupleKind_room_in1 hu) (pV I.hok eb) hd dd ?_;have q:=(rel.val k).isSome_eq;rw[Option.isSome_map] at q;rw[<-q,<-l];exact h _ (I.tok _)
theorem oB (I:Inv X pins σ H s) (mu:Ja (H a)) (hs:SameBut a s.heap h') (he:∃q,h'.get? a=some q) (new:aY X.prog X.w (upd H a ob) h' a ob):
  Inv X pins σ (upd H a ob) {s with heap:=h',toks:=t'}:=
 I.write (x:=a) (e:=a) mu (.inl rfl) (λb q hb z=>(hs.2 b hb).trans z) he new
theorem NO (z:kvs.length<=sizeLine) (hd:(a==sysModules)=false) (rel:KV kvs vs) (dd:h'.DictOf (aU P w) a vs):
  aY P w H' h' a (.dK kvs):=⟨z,hd,vs,rel,dd⟩
theorem HI (hu:A.units+1<cLine) (I:Inv X pins σ H s) (g:PH H a y v H') (ry:RelV y u) (rv:RelV v r) (h:∀s',Inv X pins σ H' s'->Q () s'):
  wpAny (model X.prog X.w) A (setItem (.ref a) u r) Q E s:=by
 rcases g with ⟨kvs,k,e,ey,l,eH⟩|⟨kvs,k,b,e,ey,eb,l,eH⟩
 ·subst ey eH;obtain ⟨z,hd,vs,rel,dd⟩:=EF I.hok e;have hz:vs.length<=sizeLine:=by rw[<-rel.length];exact z
  have hl:(putK kvs k v).length<=sizeLine:=by have:=iJ kvs k v;lia
  refine wpAny_setItem_pairs (hsz:=hz) (pW ry) dd λh' dd' hs=>h _ ?_;have he:∃q,h'.get? a=some q:=let ⟨q,_,_,hq,_⟩:=dd';⟨q,hq⟩;exact oB I (by rw[e];exact tI) hs he (NO hl hd (rel.put k rv) dd')
 ·subst ey eH;cases (show u=Value.ref b from ry);obtain ⟨z,hd,xs,rel,dd⟩:=Ia I.hok e;have hz:xs.length<=sizeLine:=by rw[<-Paired.length rel];exact z
  have hl:(putK kvs k v).length<=sizeLine:=by have:=iJ kvs k v;lia
  refine wpAny_setItem_heap (hsz:=hz) (tupleKind_room_in1 hu) (pV I.hok eb) dd λh' dd' hs=>h _ ?_;obtain ⟨q,es,ep,hq,h2,h3,h4,_,h5⟩:=dd';refine oB I (by rw[e];exact tI) hs ⟨q,hq⟩ ⟨hl,hd,_,(rel.put k eb rv).keeps λc ys ec=>?_,q,es,ep,hq,h2,h3,h4,h5⟩;rw[aF (Ff ec e (λz=>nomatch z))];exact ec
end
section
variable {X:Cx} {pins:List (Addr × Obj)} {σ:St} {H:Hp} {s:Shared} {a:Addr} {kvs:List (Key × V)} {k:Key} {u:Value} {A:Around} {E:Value->Shared->Prop}
theorem Ig (I:Inv X pins σ H s) (e:Rd H a (.dK kvs)) (h:∀t s',Inv X pins σ H s'->Q (.int kvs.length t) s'):wpAny (model X.prog X.w) A (call (.builtin "len") [.ref a]) Q E s:=by
 obtain ⟨z,hd,vs,rel,dd⟩:=tH I.hok e;refine call_len_dict hd dd (by rw[<-rel.length];rw[sizeLine_eq] at z;lia) ?_;rw[<-rel.length];exact h _ _ (I.tok _)
end
theorem zP (I:Inv X pins σ H s) (g:eY H a y o):s.TypeIs (.ref a) "dict":=by
 rcases g with ⟨kvs,k,e,_,_⟩|⟨kvs,k,b,e,_,_,_⟩
 ·obtain ⟨_,_,vs,_,dd⟩:=tH I.hok e;exact dd.typeIs
 ·obtain ⟨_,_,xs,_,dd⟩:=zN I.hok e;exact dd.typeIs
section
variable {X:Cx} {o i e value:Expr} {pos pos' tpos:Pos} {td ty tv:TE}
end
theorem NP (h:Heap) (hb:sysModules<h.objs.size):aY P w H (h.push {cls:=.type "dict",data:=.dict #[]}) h.objs.size (.dK []):=
 ⟨zero_le _,beq_eq_false_iff_ne.mpr (Ne.symm (ne_of_lt hb)),[],.nil,DictOf.new h⟩
section
variable {X:Cx} {pos:Pos}
end
noncomputable def AU:List (TE × TE)->St->Hp->(List (V × V)->Hp->Prop)->Prop
 |[],_,H,Q=>Q [] H
 | (tk,tv)::r,σ,H,Q=>tk σ H λx H1=>tv σ H1 λy H2=>AU r σ H2 λps H3=>Q ((x,y)::ps) H3
noncomputable abbrev VV:List (V × V)->List (Value × Value)->Prop:=Paired λp q=>RelV p.1 q.1/\RelV p.2 q.2
noncomputable def Jq (X:Cx) (pos:Pos) (keys:List (Option Expr)) (values:List Expr) (trs:List (TE × TE)):Prop:=
 ∀(pins:List (Addr × Obj)) (s:Shared) (σ:St) (H:Hp) (Q:List (V × V)->Hp->Prop),Inv X pins σ H s->AU trs σ H Q->
  wpAny (model X.prog X.w) X.A (evalPairs (pairTrees keys values X.env pos)) (λvs s'=>∃ps H',Inv X pins σ H' s'/\VV ps vs/\Q ps H') X.xe s
theorem RA:Jq X pos [] [] []:=λpins s σ H Q I h=>pairTrees_nil_walk ⟨[],H,I,.nil,h⟩
theorem KH (hk:PE X k tk) (hv:PE X v tv) (hr:Jq X pos ks vs trs):
  Jq X pos (some k::ks) (v::vs) ((tk,tv)::trs):=λpins s σ H Q I h=>
 pairTrees_cons_walk (bT (hk pins s σ H _ I h) λu s1 ⟨x,H1,I1,rx,q1⟩=>bT (hv pins s1 σ H1 _ I1 q1) λw2 s2 ⟨y,H2,I2,ry,q2⟩=>
  bT (hr pins s2 σ H2 _ I2 q2) λws s3 ⟨ps,H3,I3,rel,q3⟩=>⟨(x,y)::ps,H3,I3,.cons ⟨rx,ry⟩ rel,q3⟩)
noncomputable def eQ (kvs more:List (Key × V)):List (Key × V):=more.foldl (λacc kv=>putK acc kv.1 kv.2) kvs
theorem KV.merge:∀{more:List (Key × V)} {rs:List (Key × Value)} {kvs:List (Key × V)} {vs:List (Key × Value)},KV more rs->KV kvs vs->KV (eQ kvs more) (merged vs rs):=by
 intro more rs kvs vs r;unfold KV at r;induction r generalizing kvs vs with
 |nil=>intro q;exact q
 |@cons p q ps qs h t ih=>
  intro r0;have e:KV (putK kvs p.1 p.2) (stored vs q.1 q.2):=by
   have:=r0.put p.1 h.2;rw[<-h.1];exact this
  exact ih e
theorem fL:∀(more kvs:List (Key × V)),(eQ kvs more).length<=kvs.length+more.length
 |[],kvs=>by show kvs.length<=kvs.length+0;lia
 |p::r,kvs=>by
  have h1:=fL r (putK kvs p.1 p.2);have h2:=iJ kvs p.1 p.2;show (eQ (putK kvs p.1 p.2) r).length<=_;rw[length_cons];lia
theorem qU:∀{kvs:List (Key × V)} {ws:List (Value × Value)},VV (kvs.map λkv=>(kV kv.1,kv.2)) ws->∃rs,Carries (aU P w) ws rs/\KV kvs rs
 |[],_,r=>by rw[map_nil] at r;cases r;exact ⟨[],tI,.nil⟩
 |p::kvs,_,r=>by
  rw[map_cons] at r;cases r with
  |@cons a b as bs h t=>
   obtain ⟨rs,c,q⟩:=qU (P:=P) (w:=w) t;obtain ⟨b1,b2⟩:=b;exact ⟨(p.1,b2)::rs,⟨pW h.1,rfl,c⟩,.cons ⟨rfl,h.2⟩ q⟩
noncomputable def VI (trs:List (TE × TE)):TE:=λσ H Q=>∀p,H p=none->AU trs σ (upd H p (.dK [])) λps H2=>H2 p=some (.dK [])/\∃kvs:List (Key × V),ps=kvs.map (λkv=>(kV kv.1,kv.2))/\kvs.length<=15/\Q (.ref p) (upd H2 p (.dK (eQ [] kvs)))
theorem RG (h:Jq X pos keys values trs) (hall:keys.all (·.isSome)=true) (hl:keys.length=values.length) (h0:keys≠[])
  (h15:keys.length<=15):PE X (.Dict keys values pos) (VI trs):=by
 intro pins s σ H Q I q;have hn:=I.hok.fresh (Nat.le_refl s.heap.objs.size);have I1:=I.laid (a:=s.heap.objs.size) (o:=.dK []) (h':=s.heap.push {cls:=.type "dict",data:=.dict #[]}) (t':=s.toks) (λ_ _ q=>get?_push_of_some _ q) (Nat.le_refl _) (NP s.heap I.big);refine wpAny_Dict_walk (knd:=aU X.prog X.w) hall hl h0 h15 (bT (h pins _ σ _ _ I1 (q _ hn)) λws s2 ⟨ps,H2,I2,rel,e,kvs,ep,lk,q2⟩=>?_);subst ep;obtain ⟨rs,c,rk⟩:=qU (P:=X.prog) (w:=X.w) rel;obtain ⟨z,hd,vs0,r0,dd⟩:=EF I2.hok e;cases r0;refine ⟨rs,c,dd,λh' dd' hs=>⟨.ref s.heap.objs.size,_,?_,rfl,q2⟩⟩;have hz:(eQ [] kvs).length<=sizeLine:=by
  have h1:=fL kvs [];rw[length_nil] at h1;rw[sizeLine_eq];lia
 have he:∃q,h'.get? s.heap.objs.size=some q:=let ⟨q,_,_,hq,_⟩:=dd';⟨q,hq⟩;exact oB I2 (by rw[e];exact tI) hs he (NO hz hd (rk.merge .nil) dd')
section
variable {X:Cx} {pins:List (Addr × Obj)} {σ:St} {H:Hp} {s:Shared} {a:Addr} {y d:V} {u r:Value} {o:Option V} {A:Around} {E:Value->Shared->Prop}
theorem Bh (hu:A.units+1<cLine) (I:Inv X pins σ H s) (g:eY H a y o) (ry:RelV y u) (rd:RelV d r) (h:∀w' s',Inv X pins σ H s'->RelV (o.getD d) w'->Q w' s'):
  wpAny (model X.prog X.w) A (call (.builtin "dict.get") [.ref a,u,r]) Q E s:=by
 rcases g with ⟨kvs,k,e,ey,l⟩|⟨kvs,k,b,e,ey,eb,l⟩
 ·subst ey;obtain ⟨z,hd,vs,rel,dd⟩:=tH I.hok e;refine call_meetsIn PySem.F.slot_dict_get dd.typeIs PySem.F.entry_dict_get (PySem.F.args_dict_get_3 _ _ _) (meets_dict_get_default (aU X.prog X.w) a (pW ry) hd r) ⟨_,dd.mapOf,h _ _ (I.tok _) ?_⟩;rw[l];exact (rel.val k).getD rd
 ·subst ey;cases (show u=Value.ref b from ry);obtain ⟨z,hd,xs,rel,dd⟩:=zN I.hok e;refine call_meetsIn PySem.F.slot_dict_get dd.typeIs PySem.F.entry_dict_get (PySem.F.args_dict_get_3 _ _ _) (meetsH_dict_get_default (tupleKind (aU X.prog X.w)) a b hd r) ⟨tupleKind_room_in1 hu,k,xs,pV I.hok eb,dd,h _ _ (I.tok _) ?_⟩;rw[l];exact (rel.val k).getD rd
end
section
variable {X:Cx} {o e f:Expr} {apos cpos:Pos} {td ty tx:TE}
end
section
variable {X:Cx} {pins:List (Addr × Obj)} {σ:St} {H:Hp} {s:Shared} {a:Addr} {kvs:List (Key × V)} {A:Around} {E:Value->Shared->Prop}
end
section
variable {X:Cx} {pins:List (Addr × Obj)} {σ:St} {H:Hp} {s:Shared} {a:Addr} {y:V} {u:Value} {A:Around} {E:Value->Shared->Prop}
end
end L2
namespace L2.Na
open PySem PySem.Spec PyProof.Rows
theorem BP (t:SetTable) (es:Array (Int × Value)) (h:Int) (x:Value):(layNew t es h x).2.1.led=t.led:=by
 unfold layNew;split
 ·show (SetTable.orStandIn _ _).led=_;unfold SetTable.orStandIn;split<;>rfl
 ·rfl
theorem pD (t:SetTable) (es:Array (Int × Value)) (m:Nat):(relayAll t es m).2.1.led=t.led/\(t.plain=false->(relayAll t es m).2.1.plain=false):=by
 unfold relayAll;split
 ·rename_i t' order he;have ht:t'.led=t.led/\t'.plain=t.plain:=by
   unfold SetTable.relaid SetTable.laid at he;cases hl:SetTable.layClean (SetTable.sizeAbove m - 1) (es.map (·.1)) with
   |none=>rw[hl] at he;cases he
   |some owner=>
    rw[hl] at he;cases he;exact ⟨rfl,rfl⟩
  dsimp only;split
  ·exact ⟨ht.1,λz=>ht.2.trans z⟩
  ·exact ⟨rfl,λ_=>rfl⟩
 ·exact ⟨rfl,λ_=>rfl⟩
noncomputable def cD (es:Array (Int × Value)):List Str:=es.toList.map λe=>PyProof.Rows.strOf e.2
noncomputable def eW (prog:Program) (w:World) (bt:Bool) (h:Heap) (a:Addr) (zs:List Str):Prop:=
 ∃(o:Obj) (es:Array (Int × Value)) (ep:Nat) (t:SetTable),h.get? a=some o/\o.ExactSet/\o.data=.set es ep t/\ElemsOf (PySem.strKind prog w) es.toList/\cD es=zs/\zs.Nodup/\es.size<scanBound/\t.fits es.size=true/\t.led=(!bt)/\(es.size≠0->t.plain=false)
section
variable {prog:Program} {w:World} {A:Around} {E:Value->Shared->Prop} {s:Shared} {bt:Bool} {a:Addr}
theorem eW.keep (hS:eW prog w bt h a zs) (k:∀o,h.get? a=some o->h'.get? a=some o):eW prog w bt h' a zs:=by
 obtain ⟨o,es,ep,t,ho,r⟩:=hS;exact ⟨o,es,ep,t,k o ho,r⟩
theorem DH {h:Heap} {o:Obj} {es es':Array (Int × Value)} {ep:Nat} {t t':SetTable} (ho:h.get? a=some o) (hd:o.data=.set es ep t):(h.update a (Obj.putSet es' t')).get? a=some {o with data:=.set es' (ep+1) t'}:=by
 have z:=get?_update_self (Obj.putSet es' t') ho (by rw[putSet_of es' t' hd];rfl);rwa [putSet_of es' t' hd] at z
theorem zM {es:Array (Int × Value)} (hel:ElemsOf (PySem.strKind prog w) es.toList) {e:Int × Value} (he:e∈es.toList) (x:Str):(PySem.strKind prog w).is x e.2=true↔PyProof.Rows.strOf e.2=x:=by
 obtain ⟨⟨k,hk,_⟩,_⟩:=hel e he;obtain ⟨u,hu⟩:=Value.isStrOf_shape hk;constructor
 ·intro h;obtain ⟨u',hu'⟩:=Value.isStrOf_shape (show Value.isStrOf x e.2=true from h);rw[hu'];rfl
 ·intro h;rw[hu] at h;have e1:k=x:=h;rw[<-e1];exact hk
theorem sM {g:Bool->Sem Unit} (hg:∀(b:Bool) (s₁:Shared) (Q':Unit->Shared->Prop),Q' () s₁->wpAny (model prog w) A (g b) Q' E s₁)
  {o:Obj} {es es1:Array (Int × Value)} {ep:Nat} {t t2:SetTable} (ho:s.heap.get? a=some o) (hex:o.ExactSet) (hd:o.data=.set es ep t) (hel:ElemsOf (PySem.strKind prog w) es1.toList) (nd:(cD es1).Nodup)
  (hb:es1.size<scanBound) (hf:t2.fits es1.size=true) (hl:t2.led=!bt) (hp:t2.plain=false) {wd:Bool} {R:Option Bool->Shared->Prop}
  (h:∀h' zs,SameBut a s.heap h'->eW prog w bt h' a zs->Perm zs (cD es1)->R (some true) {s with heap:=h'}):
  wpAny (model prog w) A (do
    storeSet a es1 t2
    if (!wd&&t2.tooFull)=true then do
      g (relayAll t2 es1 (SetTable.grown es1.size)).2.2
      storeSet a (relayAll t2 es1 (SetTable.grown es1.size)).1 (relayAll t2 es1 (SetTable.grown es1.size)).2.1
      pure (some true)
     else pure (some true)) R E s:=by
 refine wpAny_bind (wpAny_storeSet_of ho hd ?_ (fits_of_scanBound hb));have g1:=DH (es':=es1) (t':=t2) ho hd;have sb1:=SameBut.update s.heap a (Obj.putSet es1 t2);split
 ·obtain ⟨l3,p3⟩:=pD t2 es1 (SetTable.grown es1.size);have pm:=relayAll_perm t2 es1 (SetTable.grown es1.size);have f3:=relayAll_fits t2 es1 (SetTable.grown es1.size);revert l3 p3 pm f3;generalize relayAll t2 es1 (SetTable.grown es1.size)=r;obtain ⟨es2,t3,gv⟩:=r;intro l3 p3 pm f3;have sz:es2.size=es1.size:=by rw[<-length_toList,<-length_toList];exact pm.length_eq
  have pk:Perm (cD es2) (cD es1):=pm.map _;refine wpAny_bind (hg _ _ _ ?_);refine wpAny_bind (wpAny_storeSet_of g1 rfl ?_ (fits_of_scanBound (by show es2.size<scanBound;rw[sz];exact hb)));refine wpAny_pure (h _ (cD es2) (sb1.trans (SameBut.update _ a _)) ?_ pk);exact ⟨_,es2,_,t3,DH g1 rfl,hex,rfl,hel.perm pm,rfl,pk.nodup_iff.mpr nd,by rw[sz];exact hb,f3,l3.trans hl,λ_=>p3 hp⟩
 ·exact wpAny_pure (h _ (cD es1) sb1 ⟨_,es1,_,t2,g1,hex,rfl,hel,rfl,nd,hb,hf,hl,λ_=>hp⟩ (Perm.refl _))
theorem JO {zs:List Str} {x:Str} {tk:Tok} {Q:Bool->Shared->Prop} (hS:eW prog w bt s.heap a zs) (hroom:zs.length+1<scanBound)
  (h:∀h' zs' b,SameBut a s.heap h'->eW prog w bt h' a zs'->(∀y,y∈zs'↔y∈zs\/y=x)->zs'.length<=zs.length+1->Q b {s with heap:=h',toks:=s.toks+1}):
  wpAny (model prog w) A (setAdd a (.str x tk)) Q E s:=by
 obtain ⟨o,es,ep,t,ho,hex,hd,hel,rfl,nd,hb,hf,hl,hp⟩:=hS;have hlen:(cD es).length=es.size:=by unfold cD;rw[length_map,length_toList]
 have hkey:(PySem.strKind prog w).is x (.str x tk)=true:=by show Value.isStrOf x (.str x tk)=true;simp [Value.isStrOf]
 have hsc:(Value.str x tk).scannable=true:=rfl;unfold setAdd;refine wpAny_holding (wpAny_bind ((PySem.strKind prog w).pyHash hkey ?_));unfold setAddHashed setAddHashedIn;refine wpAny_holding (wpAny_bind (wpAny_setState_of (s:={s with toks:=s.toks+1}) ho hd hf ?_));dsimp only;rw[byScan_of hsc hb hel];simp only [↓reduceIte];unfold setAddByScan;refine wpAny_bind (wpAny_bind (wpAny_rule (wpAny_bind (wpAny_setScan_of (s:={s with toks:=s.toks+1}) hkey ho hd hf hel ?_))));cases hr:List.findIdx? (λe=>(PySem.strKind prog w).is x e.2) es.toList with
 |some j=>
  dsimp only;obtain ⟨hj,hpj,_⟩:=List.findIdx?_eq_some_iff_getElem.mp hr;have hm:x∈cD es:=mem_map.mpr ⟨_,getElem_mem hj,(zM hel (getElem_mem hj) x).mp hpj⟩;refine wpAny_pure (wpAny_pure ?_);exact h s.heap (cD es) _ (SameBut.refl a s.heap) ⟨o,es,ep,t,ho,hex,hd,hel,rfl,nd,hb,hf,hl,hp⟩ (λy=>⟨.inl,λz=>z.elim id λe=>e▸hm⟩) (le_succ _)
 |none=>
  dsimp only;have hn:x∉cD es:=λz=>by
   obtain ⟨e,he,hx⟩:=mem_map.mp z;have:=List.findIdx?_eq_none_iff.mp hr e he;rw[(zM hel he x).mpr hx] at this;cases this
  have pm:=layNew_perm t es ((PySem.strKind prog w).hash x) (.str x tk);have ft:=layNew_fits t es ((PySem.strKind prog w).hash x) (.str x tk);have ld:=BP t es ((PySem.strKind prog w).hash x) (.str x tk);revert pm ft ld;generalize layNew t es ((PySem.strKind prog w).hash x) (.str x tk)=L;obtain ⟨es1,t1,wd,gv⟩:=L;intro pm ft ld;dsimp only at pm ft ld ⊢;rw[Array.toList_push] at pm;have el1:=(hel.push hkey hsc).perm pm;have pk:Perm (cD es1) (cD es++[x]):=by
   have:=pm.map λe:Int × Value=>PyProof.Rows.strOf e.2;rw[map_append] at this;exact this
  have nd1:(cD es1).Nodup:=pk.nodup_iff.mpr (List.nodup_append.mpr ⟨nd,by simp,λu hu v hv e=>by
   have:v=x:=by simpa using hv
   rw[this] at e
   exact hn (e▸hu)⟩)
  have sz1:es1.size=es.size+1:=by rw[<-length_toList,pm.length_eq,length_append,length_toList];rfl
  have hb1:es1.size<scanBound:=by rw[sz1,<-hlen];exact hroom
  have fin:∀h' zs',SameBut a s.heap h'->eW prog w bt h' a zs'->Perm zs' (cD es1)->Q true {s with heap:=h',toks:=s.toks+1}:=λh' zs' sb hS' pz=>by
   refine h h' zs' true sb hS' (λy=>?_) ?_
   ·rw[(pz.trans pk).mem_iff,mem_append];simp
   ·rw[(pz.trans pk).length_eq,length_append];exact Nat.le_refl _
  have hgw:∀(b:Bool) (s₁:Shared) (Q':Unit->Shared->Prop),Q' () s₁->wpAny (model prog w) A (match b with|true=>rule "set.scan.the-table-gave-way"|false=>pure ()) Q' E s₁:=
   λb s₁ Q' hq=>by cases b<;>first|exact wpAny_pure hq|exact wpAny_rule hq
  refine wpAny_bind (hgw _ _ _ ?_);split
  ·refine wpAny_bind ?_;rw[hashByValue_scannable 8 hsc];refine wpAny_pure ?_;refine sM (s:={s with toks:=s.toks+1}) (t2:={t1 with plain:=false}) hgw ho hex hd el1 nd1 hb1 (SetTable.fits_plain_off ft) (ld.trans hl) rfl λh' zs' sb hS' pz=>?_;exact wpAny_pure (fin h' zs' sb hS' pz)
  ·rename_i hpl;refine wpAny_bind (wpAny_pure ?_);simp only [↓reduceIte];refine sM (s:={s with toks:=s.toks+1}) (t2:=t1) hgw ho hex hd el1 nd1 hb1 ft (ld.trans hl) (by simpa using hpl) λh' zs' sb hS' pz=>?_;exact wpAny_pure (fin h' zs' sb hS' pz)
end
noncomputable abbrev xB (w:World):Bool:=w.params.followText "set-order"
noncomputable def gO (w:World):Obj:={cls:=.type "set",dict:=none,data:=.set #[] 0 (.fresh 0 0 (!xB w))}
section
variable {prog:Program} {w:World} {A:Around} {E:Value->Shared->Prop} {s:Shared}
theorem JN (e:h.get? a=some (gO w)):eW prog w (xB w) h a []:=
 ⟨_,#[],0,_,e,⟨rfl,rfl,rfl⟩,rfl,λx hx=>by simp at hx,rfl,List.nodup_nil,by decide,by rfl,rfl,λz=>absurd rfl z⟩
theorem HP (x:Value) (h:Q (.ref s.heap.objs.size) {s with heap:=s.heap.push (gO w)}):
  codeAny (model prog w) A (.call (.builtin "set.__new__") ⟨[.type "set",x],[]⟩) (wants Q E) s:=by
 refine codeAny_of_tree ?_;show wpAny _ A.in1 (do checkBuiltinCall "set.__new__" ⟨[.type "set",x],[]⟩;again (.builtin "set.__new__" ⟨[.type "set",x],[]⟩)) _ _ s;refine wpAny_bind (wpAny_of_eq (PySem.F.newCall_set_1 x) (wpAny_pure ⟨plainId_quiet PySem.F.plain_set_new _,codeAny_builtin PySem.F.entry_set_new ?_⟩));rw[Around.under_plainId PySem.F.plain_set_new _];unfold Builtin.«set.__new__» Builtin.Frozenset.newClass;have sub:=sub_set_self;obtain ⟨hp,g,d,tk,os⟩:=s;dsimp only
 wp_walk
 refine wpAny_askSetting (wpAny_pure ?_);dsimp only;simp only [newObj];refine wpAny_bind (wpAny_alloc (wpAny_pure (wpAny_pure ?_)));exact h
variable {R:Result->Shared->Prop} {I:Addr} {fp wr:List Addr} {G:Array GenState->Array GenState->Prop} {n:Nat} {P:Nat->Value->Prop} {St:Nat->Shared->Prop} {bt:Bool}
theorem FA (W:WalksS prog w A.in1 I fp wr G n P St) (S:Addr) (hSf:S∉fp) (val:Nat->Str) (hval:∀i v,P i v->∃t,v=.str (val i) t) (hb:n+1<scanBound):
  ∀(k i:Nat) (s:Shared) (zs:List Str),n - i=k->i<=n->St i s->eW prog w bt s.heap S zs->(∀y,y∈zs↔∃j,j<i/\val j=y)->zs.length<=i->
   (∀s' zs',Moved (S::wr) G s s'->eW prog w bt s'.heap S zs'->(∀y,y∈zs'↔∃j,j<n/\val j=y)->R (.ok (.ret .none)) s')->
   codeAny (model prog w) A (.builtin "set.update.loop" ⟨[.ref S,.ref I],[]⟩) R s:=by
 have hSw:S∉wr:=λh=>hSf (W.sub _ h);have up:∀b∈wr,b∈S::wr:=λb hb=>mem_cons_of_mem _ hb;intro k;induction k with
 |zero=>
  intro i s zs hk hi st hS hm _ fin;have e:i=n:=by lia
  subst e;refine codeAny_builtin PyProof.Rows.F.entry_set_update_loop ?_;rw[Around.under_plainId PyProof.Rows.F.plain_set_update_loop _];show wpAny _ A.in1 (pyNext (.ref I) >>=_) _ _ s;refine wpAny_bind (W.done s _ _ st λs' mv=>?_);show wpAny _ A.in1 (ret Value.none) _ _ s';exact wpAny_pure (fin s' zs (mv.mono up) (hS.keep λo ho=>mv.heap S o hSw ho) hm)
 |succ k ih=>
  intro i s zs hk hi st hS hm hl fin;have lt:i<n:=by lia
  refine codeAny_builtin PyProof.Rows.F.entry_set_update_loop ?_;rw[Around.under_plainId PyProof.Rows.F.plain_set_update_loop _];show wpAny _ A.in1 (pyNext (.ref I) >>=_) _ _ s;refine wpAny_bind (W.item i s _ _ lt st λv s1 hP st1 mv=>?_);obtain ⟨t,rfl⟩:=hval i v hP;have hS1:eW prog w bt s1.heap S zs:=hS.keep λo ho=>mv.heap S o hSw ho;show wpAny _ A.in1 (holding [Value.str (val i) t] (setAdd S (.str (val i) t)) >>=_) _ _ s1;refine wpAny_bind (wpAny_holding (JO hS1 (by lia) λh2 zs2 b sb hS2 hm2 hl2=>?_));refine wpAny_pure ⟨plainId_quiet PyProof.Rows.F.plain_set_update_loop _,ih (i+1) _ zs2 (by lia) lt (W.frame _ s1 _ _ st1 (le_succ _) λb hb o e=>?_) hS2 (λy=>?_) (by lia) λs3 zs3 mv3 hS3 hm3=>?_⟩
  ·rw[sb.2 b (λh:b=S=>hSf (by rw[<-h];exact hb))];exact e
  ·rw[hm2 y,hm y];constructor
   ·rintro (⟨j,hj,rfl⟩|rfl)
    ·exact ⟨j,by lia,rfl⟩
    ·exact ⟨i,by lia,rfl⟩
   ·rintro ⟨j,hj,rfl⟩;by_cases e:j=i
    ·rw[e];exact .inr rfl
    ·exact .inl ⟨j,by lia,rfl⟩
  ·refine fin s3 zs3 (Moved.trans W.gtrans ((mv.mono up).then_heap (le_succ _) λb o hb e=>?_) mv3) hS3 hm3;rw[sb.2 b (λh:b=S=>hb (by rw[h];exact mem_cons_self))];exact e
end
section
variable {prog:Program} {w:World} {A:Around} {E:Value->Shared->Prop} {s:Shared}
set_option maxHeartbeats 3200000 in
theorem FN (hh:A.handled=none) (hb:z.cps.size+1<scanBound)
  (h:∀(h':Heap) (tk:Nat) (zs:List Str),eW prog w (xB w) h' s.heap.objs.size zs->(∀y,y∈zs↔∃c∈z.cps.toList,y=⟨#[c]⟩)->
   (∀b o,s.heap.get? b=some o->h'.get? b=some o)->Q (.ref s.heap.objs.size) {s with heap:=h',toks:=tk}):
  wpAny (model prog w) A (call (.type "set") [.str z t]) Q E s:=by
 obtain ⟨c,tl,hmro⟩:=PySem.F.called_set.mro;have hmade:=PySem.F.called_set.made;have hsub:=PySem.F.called_set.sub;refine wpAny_call (codeAny_of_tree ?_);show wpAny _ _ (callAny (.type "set") _) _ _ _;refine wpAny_pure ⟨Code.quiet_builtin _ (by decide+kernel),codeAny_builtin PySem.F.entry_type_call ?_⟩;rw[Around.under_plain (weight_type_call_type "set" [.str z t] []) rfl];have h1:=PySem.F.called_set.notType;have h2:=PySem.F.called_set.canCreate;have hct:=PySem.F.typeCall_set_1 (.str z t)
 repeat (any_goals (first|assumption|wp_step))
 refine codeAny_mono (HP (.str z t) (E:=E) (Q:=λob s1=>ob=.ref s.heap.objs.size/\s1={s with heap:=s.heap.push (gO w)}) ⟨rfl,rfl⟩) λr s1 hr=>?_;cases r with
 |error e=>exact hr
 |ok fl=>
  cases fl with
  |ret ob=>
   obtain ⟨rfl,rfl⟩:=hr;have hS:(s.heap.push (gO w)).get? s.heap.objs.size=some (gO w):=get?_push_size _ rfl;have hT:Shared.TypeIs {s with heap:=s.heap.push (gO w)} (.ref s.heap.objs.size) "set":=⟨_,hS,rfl⟩;have hli:=PySem.F.called_set.init.lookup;have hbi:=PySem.F.called_set.init.bind (.ref s.heap.objs.size)
   repeat (any_goals (first|assumption|wp_step))
   refine codeAny_mono (codeAny_call_builtin (R:=wants (λr s2=>r=.none/\∃h' tk zs,s2={s with heap:=h',toks:=tk}/\eW prog w (xB w) h' s.heap.objs.size zs/\(∀y,y∈zs↔∃c∈z.cps.toList,y=⟨#[c]⟩)/\
     (∀b o,s.heap.get? b=some o->h'.get? b=some o)) E) PySem.F.called_set.init.plain PySem.F.entry_set_init (check_set_init_1 hT ?_)) λr2 s2 hr2=>?_
   ·unfold Builtin.«set.__init__» noKeywords Builtin.Frozenset.updateFrom;have a1:isSubtype (.type "str") (.type "set")=pure false:=by rw[isSubtype_type];kernel_rfl
    have a2:isSubtype (.type "str") (.type "frozenset")=pure false:=by rw[isSubtype_type];kernel_rfl
    have a3:(Value.type "str"==Value.type "dict")=false:=by decide
    generalize hPI:pyIter=PI
    wp_walk
    subst hPI;refine wpAny_pyIter_str λo St W st=>?_;refine wpAny_bind (wpAny_runValue ?_);have hne:s.heap.objs.size≠(s.heap.push (gO w)).objs.size:=by rw[Heap.size_push];exact ne_of_lt (lt_succ_self _)
    have hh3:A.in1.in1.in1.handled=none:=by simp [hh]
    have hval:∀(i:Nat) (v:Value),SignAt z i v->∃t,v=.str ((λi=>(⟨#[z.cps.getD i 0]⟩:Str)) i) t:=λi v hv=>by
     obtain ⟨c,u,hc,rfl⟩:=hv;exact ⟨u,by simp [Array.getD_eq_getD_getElem?,hc]⟩
    refine FA (bt:=xB w) ((W _ hh3).toS) s.heap.objs.size (by simpa using hne) (λi=>(⟨#[z.cps.getD i 0]⟩:Str)) hval hb (z.cps.size - 0) 0 _ [] (by lia) (zero_le _) st
     (JN (get?_push_of_some _ hS)) (λy=>by simp) (Nat.le_refl _) λs' zs mv hS' hm=>?_
    obtain ⟨h',g',d',tk',os'⟩:=s';have eg:g'=s.gens:=mv.gens;have ed:d'=s.drawn:=mv.drawn;have eo:os'=s.os:=mv.os;subst eg ed eo;show wpAny _ _ _ _ _ _;refine wpAny_pure ?_;show wpAny _ _ (ret Value.none) _ _ _;refine wpAny_pure ⟨rfl,h',tk',zs,rfl,hS',λy=>?_,λb o e=>?_⟩
    ·rw[hm y];constructor
     ·rintro ⟨j,hj,rfl⟩;exact ⟨z.cps[j],by simp,by simp [Array.getD_eq_getD_getElem?,hj]⟩
     ·rintro ⟨c,hc,rfl⟩;obtain ⟨j,hj,e⟩:=List.getElem_of_mem hc;exact ⟨j,by simpa using hj,by simp [Array.getD_eq_getD_getElem?,show j<z.cps.size by simpa using hj] at e ⊢;exact e⟩
    ·have b1:=lt_size e;refine mv.heap b o (by rw[Heap.size_push];simp only [mem_cons,not_mem_nil,or_false,not_or];exact ⟨ne_of_lt b1,ne_of_lt (Nat.lt_succ_of_lt b1)⟩) (get?_push_of_some _ (get?_push_of_some _ e))
   ·cases r2 with
    |error e=>exact hr2
    |ok fl2=>
     cases fl2 with
     |ret r=>
      obtain ⟨rfl,h',tk,zs,rfl,q1,q2,q3⟩:=hr2
      repeat (any_goals (first|assumption|wp_step))
      exact h _ _ zs q1 q2 q3
     |_=>exact hr2.elim
  |_=>exact hr.elim
end
theorem aS:Slot "set_iterator" "__next__" "set_iterator.__next__":=
 .of (owner:="set_iterator") (n:="__next__") (by rw[typeLookup_type,builtinLookup_eq_fast];kernel_rfl) (by decide+kernel) (by decide+kernel) (by decide+kernel)
  (by first|exact .inl (by decide+kernel)|exact .inr (by decide+kernel)) (by rw[isSubtype_type];kernel_rfl)
theorem dF:entryFor table "set_iterator.__next__"=some Builtin.«set_iterator.__next__»:=entryFor_of_fast (by kernel_rfl)
theorem eB (a:Value):argsOk "set_iterator.__next__" ⟨[a],[]⟩:=by unfold argsOk;kernel_rfl
theorem kI:Slot "set_iterator" "__iter__" "set_iterator.__iter__":=
 .of (owner:="set_iterator") (n:="__iter__") (by rw[typeLookup_type,builtinLookup_eq_fast];kernel_rfl) (by decide+kernel) (by decide+kernel) (by decide+kernel)
  (by first|exact .inl (by decide+kernel)|exact .inr (by decide+kernel)) (by rw[isSubtype_type];kernel_rfl)
theorem rX:entryFor table "set_iterator.__iter__"=some Builtin.«dict_keyiterator.__iter__»:=
 entryFor_alias (id':="dict_keyiterator.__iter__") (by kernel_rfl) rfl (by decide+kernel) (by kernel_rfl)
theorem wW (a:Value):argsOk "set_iterator.__iter__" ⟨[a],[]⟩:=by unfold argsOk;kernel_rfl
theorem qN:entryFor table "set.__iter__"=some Builtin.«frozenset.__iter__»:=
 entryFor_alias (id':="frozenset.__iter__") (by kernel_rfl) rfl (by decide+kernel) (by kernel_rfl)
noncomputable def cY (h:Heap) (it:Addr) (first:Value) (i:Nat) (a:Addr) (n ep:Nat):Prop:=∃o,h.get? it=some o/\o.cls=.type "set_iterator"/\o.data=.fields #[first,.int i 0,.ref a,.int n 0,.int ep 0]
section
variable {prog:Program} {w:World} {A:Around} {E:Value->Shared->Prop} {s:Shared} {it a:Addr} {i n ep:Nat} {o:Obj} {es:Array (Int × Value)} {t:SetTable}
theorem cY.type (h:cY s.heap it first i a n ep):s.TypeIs (.ref it) "set_iterator":=by
 obtain ⟨o,ho,hc,_⟩:=h;exact ⟨o,ho,hc⟩
theorem uN (hit:cY s.heap it first i a n ep) (h:Q (.ref it) s):wpAny (model prog w) A (pyIter (.ref it)) Q E s:=by
 refine wpAny_pyIter_slot hit.type kI (wpAny_call_entry kI hit.type rX ?_ (wW _));show wpAny _ _ (ret (.ref it)) _ _ s;exact wpAny_pure ⟨_,rfl,"set_iterator",_,hit.type,aS.lookup,h⟩
theorem xU {slot nx:Nat} (hit:cY s.heap it (.int slot 0) i a n ep) (ho:s.heap.get? a=some o) (hd:o.data=.set es ep t) (hf:t.fits es.size=true) (hn:es.size=n)
  (hx:∀(A:Around) (E:Value->Shared->Prop) (Q':Option (Value × Nat)->Shared->Prop),Q' (some (x,nx)) s->wpAny (model prog w) A (setNext a slot i ep) Q' E s)
  (h:∀h',cY h' it (.int nx 0) (i+1) a n ep->SameBut it s.heap h'->Q (some x) {s with heap:=h'}):wpAny (model prog w) A (pyNext (.ref it)) Q E s:=by
 obtain ⟨oi,hoi,hci,hdi⟩:=id hit;unfold pyNext;refine wpAny_bind (wpAny_attempt (wpAny_callSpecial?_slot (name:=Str.ofString "__next__") hit.type aS (wpAny_call_entry aS hit.type dF ?_ (eB _))));show wpAny _ _ (fieldsOf (.ref it) >>=_) _ _ s;refine wpAny_bind (wpAny_fieldsOf hoi hdi ?_);show wpAny _ _ (setEntries a >>=_) _ _ s;refine wpAny_bind (wpAny_setEntries_of ho hd hf ?_);rw[if_neg (by simp [hn])];show wpAny _ _ (setNext a (toNat (slot:Nat)) (toNat (i:Nat)) (toNat (ep:Nat)) >>=_) _ _ s;rw[toNat_natCast,toNat_natCast,toNat_natCast];refine wpAny_bind (hx _ _ _ ?_);dsimp only;refine wpAny_bind (wpAny_setField hoi hdi (by simp) ?_);have g1:=get?_update_self (Obj.mapFields (·.setIfInBounds 0 (rawInt nx))) hoi (Obj.isFreed_of_fields (Obj.data_mapFields hdi _));have d1:=Obj.data_mapFields hdi (·.setIfInBounds 0 (rawInt nx));refine wpAny_bind (wpAny_setField g1 d1 (by simp) ?_);have g2:=get?_update_self (Obj.mapFields (·.setIfInBounds 1 (rawInt ((i:Int)+1)))) g1 (Obj.isFreed_of_fields (Obj.data_mapFields d1 _));have d2:=Obj.data_mapFields d1 (·.setIfInBounds 1 (rawInt ((i:Int)+1)));refine wpAny_pure ⟨x,rfl,wpAny_pure (h _ ⟨_,g2,(Obj.cls_mapFields ..).trans ((Obj.cls_mapFields ..).trans hci),?_⟩ ((SameBut.update ..).trans (SameBut.update ..)))⟩;rw[d2];simp [rawInt]
theorem JL {m p:Nat} {hx:Int} (hit:cY s.heap it (.ref tp) i a n ep) (ho:s.heap.get? a=some o) (hd:o.data=.set es ep t) (hf:t.fits es.size=true) (hn:es.size=n)
  (hot:s.heap.get? tp=some ot) (hdt:ot.data=.seq ps m) (hp:ps[i]?=some (.int p u)) (he:es[p]?=some (hx,x))
  (h:∀h',cY h' it (.ref tp) (i+1) a n ep->SameBut it s.heap h'->Q (some x) {s with heap:=h'}):wpAny (model prog w) A (pyNext (.ref it)) Q E s:=by
 obtain ⟨oi,hoi,hci,hdi⟩:=id hit;unfold pyNext;refine wpAny_bind (wpAny_attempt (wpAny_callSpecial?_slot (name:=Str.ofString "__next__") hit.type aS (wpAny_call_entry aS hit.type dF ?_ (eB _))));show wpAny _ _ (fieldsOf (.ref it) >>=_) _ _ s;refine wpAny_bind (wpAny_fieldsOf hoi hdi ?_);show wpAny _ _ (setEntries a >>=_) _ _ s;refine wpAny_bind (wpAny_setEntries_of ho hd hf ?_);rw[if_neg (by simp [hn])];show wpAny _ _ (seqItems? (.ref tp) >>=_) _ _ s;refine wpAny_bind (wpAny_seqItems hot hdt ?_);dsimp only;rw[toNat_natCast,hp];dsimp only;rw[toNat_natCast,toNat_natCast];unfold setNextDrawn;refine wpAny_bind (wpAny_bind (wpAny_setState_of ho hd hf ?_));dsimp only;rw[if_neg (by simp)];rw[he];refine wpAny_pure ?_;refine wpAny_bind (wpAny_setField hoi hdi (by simp) ?_);have g2:=get?_update_self (Obj.mapFields (·.setIfInBounds 1 (rawInt ((i:Int)+1)))) hoi (Obj.isFreed_of_fields (Obj.data_mapFields hdi _));have d2:=Obj.data_mapFields hdi (·.setIfInBounds 1 (rawInt ((i:Int)+1)));refine wpAny_pure ⟨x,rfl,wpAny_pure (h _ ⟨_,g2,(Obj.cls_mapFields ..).trans hci,?_⟩ (SameBut.update ..))⟩;rw[d2];simp [rawInt]
theorem DG {slot:Nat} (hh:A.handled=none) (hit:cY s.heap it (.int slot 0) i a n ep) (ho:s.heap.get? a=some o) (hd:o.data=.set es ep t) (hf:t.fits es.size=true) (hn:es.size=n)
  (hx:∀(A:Around) (E:Value->Shared->Prop) (Q':Option (Value × Nat)->Shared->Prop),Q' none s->wpAny (model prog w) A (setNext a slot i ep) Q' E s)
  (h:∀h',ExtBut it s.heap h'->Q none {s with heap:=h'}):wpAny (model prog w) A (pyNext (.ref it)) Q E s:=by
 obtain ⟨oi,hoi,hci,hdi⟩:=id hit;unfold pyNext;refine wpAny_bind (wpAny_attempt (wpAny_callSpecial?_slot (name:=Str.ofString "__next__") hit.type aS (wpAny_call_entry aS hit.type dF ?_ (eB _))));show wpAny _ _ (fieldsOf (.ref it) >>=_) _ _ s;refine wpAny_bind (wpAny_fieldsOf hoi hdi ?_);show wpAny _ _ (setEntries a >>=_) _ _ s;refine wpAny_bind (wpAny_setEntries_of ho hd hf ?_);rw[if_neg (by simp [hn])];show wpAny _ _ (setNext a (toNat (slot:Nat)) (toNat (i:Nat)) (toNat (ep:Nat)) >>=_) _ _ s;rw[toNat_natCast,toNat_natCast,toNat_natCast];refine wpAny_bind (hx _ _ _ ?_);dsimp only;refine wpAny_bind (wpAny_setField hoi hdi (by simp) ?_);show wpAny _ _ (newExc (.type "StopIteration") [] >>=_) _ _ _;refine wpAny_bind ?_;simp only [newExc,newTuple];refine wpAny_bind (wpAny_newObj_type ?_ (by size_fits));refine wpAny_bind (m:=firstArgMember _ _) (wpAny_of_eq (a:=Value.none) (by first|rfl|(simp only [firstArgMember];rfl)) ?_);refine wpAny_newObj_type ?_ (by size_fits);simp only [raiseNew];refine wpAny_bind (wpAny_handled ?_)
 first|rw[show A.in1.handled=none from hh]|rw[hh]
 refine wpAny_bind (wpAny_pure (wpAny_throw ?_));refine wpAny_bind (wpAny_isInstance (T:="StopIteration") (b:=true) ⟨_,get?_push_size _ rfl,rfl⟩ isSubtype_stop ?_);exact wpAny_pure (h _ (((SameBut.update ..).extBut.push _).push _))
theorem QM (hh:A.handled=none) (hit:cY s.heap it (.ref tp) i a n ep) (ho:s.heap.get? a=some o) (hd:o.data=.set es ep t) (hf:t.fits es.size=true) (hn:es.size=n)
  (hot:s.heap.get? tp=some ot) (hdt:ot.data=.seq ps m) (hp:ps[i]?=none)
  (h:∀h',ExtBut it s.heap h'->Q none {s with heap:=h'}):wpAny (model prog w) A (pyNext (.ref it)) Q E s:=by
 obtain ⟨oi,hoi,hci,hdi⟩:=id hit;unfold pyNext;refine wpAny_bind (wpAny_attempt (wpAny_callSpecial?_slot (name:=Str.ofString "__next__") hit.type aS (wpAny_call_entry aS hit.type dF ?_ (eB _))));show wpAny _ _ (fieldsOf (.ref it) >>=_) _ _ s;refine wpAny_bind (wpAny_fieldsOf hoi hdi ?_);show wpAny _ _ (setEntries a >>=_) _ _ s;refine wpAny_bind (wpAny_setEntries_of ho hd hf ?_);rw[if_neg (by simp [hn])];show wpAny _ _ (seqItems? (.ref tp) >>=_) _ _ s;refine wpAny_bind (wpAny_seqItems hot hdt ?_);dsimp only;rw[toNat_natCast,hp];dsimp only;refine wpAny_bind (wpAny_setField hoi hdi (by simp) ?_);have g1:=get?_update_self (Obj.mapFields (·.setIfInBounds 0 (rawInt 0))) hoi (Obj.isFreed_of_fields (Obj.data_mapFields hdi _));have d1:=Obj.data_mapFields hdi (·.setIfInBounds 0 (rawInt 0));refine wpAny_bind (wpAny_setField g1 d1 (by simp) ?_);show wpAny _ _ (newExc (.type "StopIteration") [] >>=_) _ _ _;refine wpAny_bind ?_;simp only [newExc,newTuple];refine wpAny_bind (wpAny_newObj_type ?_ (by size_fits));refine wpAny_bind (m:=firstArgMember _ _) (wpAny_of_eq (a:=Value.none) (by first|rfl|(simp only [firstArgMember];rfl)) ?_);refine wpAny_newObj_type ?_ (by size_fits);simp only [raiseNew];refine wpAny_bind (wpAny_handled ?_)
 first|rw[show A.in1.handled=none from hh]|rw[hh]
 refine wpAny_bind (wpAny_pure (wpAny_throw ?_));refine wpAny_bind (wpAny_isInstance (T:="StopIteration") (b:=true) ⟨_,get?_push_size _ rfl,rfl⟩ isSubtype_stop ?_);exact wpAny_pure (h _ ((((SameBut.update ..).trans (SameBut.update ..)).extBut.push _).push _))
end
section
variable {prog:Program} {w:World} {A:Around} {E:Value->Shared->Prop} {s:Shared}
theorem CJ (hn:n≠0) (h:∀i d,i<n->Q i {s with drawn:=d}):wpAny (model prog w) A (choose src n) Q E s:=λΓ p hΓ=>by
 unfold choose;rw[Sem.wp_choose];exact ⟨hn,h _ _ (mod_lt _ (Nat.pos_of_ne_zero hn))⟩
theorem jR:∀{l:List α} {i:Nat} (h:i<l.length),Perm (l[i]::l.eraseIdx i) l
 |_::_,0,_=>Perm.refl _
 |x::l,i+1,h=>(Perm.swap ..).trans ((jR (l:=l) (i:=i) (by simpa using h)).cons x)
theorem tG:∀(n:Nat) (xs:List α) (s:Shared) (Q:List α->Shared->Prop),xs.length=n->(∀ys d,Perm ys xs->Q ys {s with drawn:=d})->wpAny (model prog w) A (drawOrder n xs) Q E s
 |0,xs,s,Q,hl,h=>by
  have e:xs=[]:=List.eq_nil_of_length_eq_zero hl;subst e;exact wpAny_pure (h [] s.drawn (Perm.refl _))
 |n+1,[],s,Q,hl,h=>nomatch hl
 |n+1,x::xs,s,Q,hl,h=>by
  unfold drawOrder;refine wpAny_bind (CJ (by simp) λi d hi=>?_);rw[getElem?_eq_getElem hi];dsimp only;refine wpAny_bind (tG n _ _ _ (by rw[List.length_eraseIdx_of_lt hi];simpa using hl) λys d' hp=>?_);exact wpAny_pure (h _ d' ((Perm.cons _ hp).trans (jR hi)))
theorem DL (next:Nat->Nat):∀(f k:Nat) (left:List α) (out:Array α),left.length=f->Perm (pickOrder.go next f k left out).toList (out.toList++left)
 |0,k,left,out,hl=>by
  have e:left=[]:=List.eq_nil_of_length_eq_zero hl;subst e;unfold pickOrder.go;rw[append_nil]
 |f+1,k,left,out,hl=>by
  unfold pickOrder.go;have hi:next k % left.length<left.length:=mod_lt _ (by lia);rw[getElem?_eq_getElem hi];dsimp only;refine (DL next f (k+1) _ _ (by rw[List.length_eraseIdx_of_lt hi];lia)).trans ?_;rw[Array.toList_push,List.append_assoc];exact (Perm.refl _).append (jR hi)
theorem lU (next:Nat->Nat) (xs:Array α):Perm (pickOrder next xs).toList xs.toList:=by
 unfold pickOrder;exact DL next _ _ _ _ (by simp)
variable {a:Addr} {o:Obj} {es:Array (Int × Value)} {ep:Nat} {t:SetTable}
theorem jE (h:Q (xB w) s):wpAny (model prog w) A setsByText Q E s:=by
 unfold setsByText;exact wpAny_bind (wpAny_askSetting (wpAny_pure h))
theorem xZ (ho:s.heap.get? a=some o) (hd:o.data=.set es ep t) (hf:t.fits es.size=true) (h:Q (!xB w&&(!t.plain&&decide (es.size>1))) s):wpAny (model prog w) A (setDrawn a) Q E s:=by
 unfold setDrawn;refine wpAny_bind (wpAny_setState_of ho hd hf ?_);dsimp only;refine wpAny_bind (jE ?_);exact wpAny_pure h
theorem kL (bt:xB w=true) (ho:s.heap.get? a=some o) (hd:o.data=.set es ep t) (hf:t.fits es.size=true)
  (h:Q (((pickOrder (w.params.setOrder a ep) es)[i]?).map λe=>(e.2,slot)) s):wpAny (model prog w) A (setNext a slot i ep) Q E s:=by
 unfold setNext;refine wpAny_bind (wpAny_setState_of ho hd hf ?_);dsimp only;refine wpAny_bind (jE ?_);rw[bt];simp only [↓reduceIte,bne_self_eq_false,false_eq_true];refine wpAny_bind ?_;unfold setWalk;refine wpAny_bind (wpAny_setState_of ho hd hf ?_);dsimp only;refine wpAny_bind (jE ?_);rw[bt];simp only [↓reduceIte];exact wpAny_bind (wpAny_askSetting (wpAny_pure (wpAny_pure h)))
theorem kM (bt:xB w=false) (h1:es.size<=1) (hl:t.led=true) (ho:s.heap.get? a=some o) (hd:o.data=.set es ep t) (hf:t.fits es.size=true)
  (h:Q (match es[SetTable.below t.place slot]?,t.place[SetTable.below t.place slot]? with
   |some (_,x),some j=>some (x,j+1)
   |_,_=>none) s):wpAny (model prog w) A (setNext a slot i ep) Q E s:=by
 obtain ⟨mk,pl,dm,fg,ld,mv,pn⟩:=t;cases hl;have hz:decide (es.size>1)=false:=decide_eq_false (by lia);unfold setNext;refine wpAny_bind (wpAny_setState_of ho hd hf ?_);dsimp only;refine wpAny_bind (jE ?_);rw[bt];simp only [false_eq_true,↓reduceIte];split
 ·rename_i hc;have hc':(!pn&&decide (es.size>1))=true:=hc;rw[hz,Bool.and_false] at hc';cases hc'
 ·exact wpAny_bind (wpAny_of_eq (a:=()) rfl (wpAny_pure h))
end
section
variable {prog:Program} {w:World} {A:Around} {I a:Addr} {o:Obj} {es:Array (Int × Value)} {ep:Nat} {t:SetTable}
theorem cY.keep (hI:cY h it first i a n ep) (k:∀o,h.get? it=some o->h'.get? it=some o):cY h' it first i a n ep:=by
 obtain ⟨o,ho,r⟩:=hI;exact ⟨o,k o ho,r⟩
theorem EZ (bt:xB w=true) (hh:A.handled=none) (hne:a≠I) (hd:o.data=.set es ep t) (hf:t.fits es.size=true):
  Walks prog w A I [I,a] [I] es.size (λi v=>((pickOrder (w.params.setOrder a ep) es).toList.map (·.2))[i]?=some v) (λi h=>cY h I (.int (0:Nat) 0) i a es.size ep/\h.get? a=some o) where
 sub:=λb hb=>by simp at hb;simp [hb]
 frame:=λ_ _ _ st hk=>⟨st.1.keep λo e=>hk I (by simp) o e,hk a (by simp) o st.2⟩
 item:=λi s Q E hi st hQ=>by
  have hl:(pickOrder (w.params.setOrder a ep) es).size=es.size:=by
   rw[<-length_toList,(lU _ es).length_eq,length_toList]
  have hi':i<(pickOrder (w.params.setOrder a ep) es).size:=by lia
  refine xU (x:=(pickOrder (w.params.setOrder a ep) es)[i].2) (nx:=0) st.1 st.2 hd hf rfl (λA' E' Q' q=>kL bt st.2 hd hf (by simpa [hi'] using q)) λh' hit' hs'=>?_;exact hQ _ h' s.toks (by simp [hi']) ⟨hit',by rw[hs'.2 a hne];exact st.2⟩ λb o hb e=>hs'.extBut b o (λh=>hb (by simp [h])) e
 done:=λs Q E st hQ=>by
  have hl:(pickOrder (w.params.setOrder a ep) es).size=es.size:=by
   rw[<-length_toList,(lU _ es).length_eq,length_toList]
  exact DG hh st.1 st.2 hd hf rfl (λA' E' Q' q=>kL bt st.2 hd hf (by rw[Array.getElem?_eq_none (by lia)];exact q)) λh' he'=>hQ h' s.toks λb o hb e=>he' b o (λh=>hb (by simp [h])) e
 self:=λi s Q E st hQ=>uN st.1 hQ
noncomputable def slotAt (t:SetTable):Nat->Nat
 |0=>0
 |_+1=>t.place.getD 0 0+1
theorem tQ (j:Nat):SetTable.below #[j] 0=0/\SetTable.below #[j] (j+1)=1:=by
 constructor<;>simp [SetTable.below,SetTable.below.go]
theorem IP (bt:xB w=false) (h1:es.size<=1) (hl:t.led=true) (hh:A.handled=none) (hne:a≠I) (hd:o.data=.set es ep t) (hf:t.fits es.size=true):
  Walks prog w A I [I,a] [I] es.size (λi v=>(es.toList.map (·.2))[i]?=some v) (λi h=>cY h I (.int (slotAt t i:Nat) 0) i a es.size ep/\h.get? a=some o) where
 sub:=λb hb=>by simp at hb;simp [hb]
 frame:=λ_ _ _ st hk=>⟨st.1.keep λo e=>hk I (by simp) o e,hk a (by simp) o st.2⟩
 item:=λi s Q E hi st hQ=>by
  have i0:i=0:=by lia
  subst i0;have hpl:t.place.size=es.size:=by
   simp only [SetTable.fits,and_eq_true,beq_iff_eq] at hf;exact hf.1
  obtain ⟨j,hj⟩:∃j,t.place=#[j]:=size_eq_one_iff.mp (by lia);obtain ⟨e,he⟩:∃e,es=#[e]:=size_eq_one_iff.mp (by lia);refine xU (x:=e.2) (nx:=j+1) st.1 st.2 hd hf rfl (λA' E' Q' q=>kM bt h1 hl st.2 hd hf (by
   show Q' (match es[SetTable.below t.place 0]?,t.place[SetTable.below t.place 0]? with
    |some (_,x),some j=>some (x,j+1)
    |_,_=>none) s
   rw[hj,(tQ j).1,he]
   exact q)) λh' hit' hs'=>?_
  refine hQ _ h' s.toks (by simp [he]) ⟨?_,by rw[hs'.2 a hne];exact st.2⟩ λb o hb e=>hs'.extBut b o (λh=>hb (by simp [h])) e;have:slotAt t (0+1)=j+1:=by unfold slotAt;rw[hj];rfl
  rw[this];exact hit'
 done:=λs Q E st hQ=>by
  have hpl:t.place.size=es.size:=by
   simp only [SetTable.fits,and_eq_true,beq_iff_eq] at hf;exact hf.1
  refine DG hh st.1 st.2 hd hf rfl (λA' E' Q' q=>kM bt h1 hl st.2 hd hf ?_) λh' he'=>hQ h' s.toks λb o hb e=>he' b o (λh=>hb (by simp [h])) e;by_cases h0:es.size=0
  ·rw[Array.getElem?_eq_none (show es.size<=_ by lia)];exact q
  ·obtain ⟨j,hj⟩:∃j,t.place=#[j]:=size_eq_one_iff.mp (by lia);obtain ⟨e,he⟩:∃e,es=#[e]:=size_eq_one_iff.mp (by lia);have:slotAt t es.size=j+1:=by rw[he];unfold slotAt;rw[hj];rfl
   rw[this,hj,(tQ j).2,he];exact q
 self:=λi s Q E st hQ=>uN st.1 hQ
theorem NI {α β:Type} {f:α->Option β} {d:β}:∀(l:List α),(∀x∈l,(f x).isSome=true)->l.filterMap f=l.map λx=>(f x).getD d
 |[],_=>rfl
 |x::l,h=>by
  obtain ⟨y,hy⟩:=Option.isSome_iff_exists.mp (h x mem_cons_self);rw[List.filterMap_cons_some hy,map_cons,NI l λz hz=>h z (mem_cons_of_mem _ hz),hy];rfl
theorem AM (hh:A.handled=none) (hne:a≠I) (hnt:tp≠I) (hd:o.data=.set es ep t) (hf:t.fits es.size=true) (hdt:ot.data=.seq (ord.map λ(i:Nat)=>rawInt i).toArray m) (hp:Perm ord (range es.size)):
  Walks prog w A I [I,a,tp] [I] es.size (λi v=>(ord.filterMap λp=>es[p]?.map (·.2))[i]?=some v) (λi h=>cY h I (.ref tp) i a es.size ep/\h.get? a=some o/\h.get? tp=some ot) where
 sub:=λb hb=>by simp at hb;simp [hb]
 frame:=λ_ _ _ st hk=>⟨st.1.keep λo e=>hk I (by simp) o e,hk a (by simp) o st.2.1,hk tp (by simp) ot st.2.2⟩
 item:=λi s Q E hi st hQ=>by
  have hl:ord.length=es.size:=by rw[hp.length_eq,length_range]
  have hlt:∀p∈ord,p<es.size:=λp hp'=>mem_range.mp (hp.mem_iff.mp hp');have hi':i<ord.length:=by lia
  have hpi:=hlt _ (getElem_mem hi');have hfm:ord.filterMap (λp=>es[p]?.map (·.2))=ord.map λp=>(es[p]?.map (·.2)).getD .none:=NI _ λp hp'=>by simp [hlt p hp']
  refine JL (x:=es[ord[i]].2) (hx:=es[ord[i]].1) (p:=ord[i]) (u:=0) st.1 st.2.1 hd hf rfl st.2.2 hdt (by simp [hi',rawInt]) (by simp [hpi]) λh' hit' hs'=>?_;exact hQ _ h' s.toks (by rw[hfm];simp [hi',hpi]) ⟨hit',by rw[hs'.2 a hne];exact st.2.1,by rw[hs'.2 tp hnt];exact st.2.2⟩ λb o hb e=>hs'.extBut b o (λh=>hb (by simp [h])) e
 done:=λs Q E st hQ=>by
  have hl:ord.length=es.size:=by rw[hp.length_eq,length_range]
  exact QM hh st.1 st.2.1 hd hf rfl st.2.2 hdt (by simp [hl]) λh' he'=>hQ h' s.toks λb o hb e=>he' b o (λh=>hb (by simp [h])) e
 self:=λi s Q E st hQ=>uN st.1 hQ
end
section
variable {prog:Program} {w:World} {A:Around} {E:Value->Shared->Prop} {s:Shared}
theorem hX (hel:ElemsOf (PySem.strKind prog w) es.toList) (hp:Perm ys (es.toList.map (·.2))):ys.length=(cD es).length/\StrsAre ys (ys.map PyProof.Rows.strOf)/\Perm (ys.map PyProof.Rows.strOf) (cD es):=by
 refine ⟨by rw[hp.length_eq];unfold cD;rw[length_map,length_map],strsAre_map ys λv hv=>?_,?_⟩
 ·obtain ⟨e,he,rfl⟩:=mem_map.mp (hp.mem_iff.mp hv);obtain ⟨⟨k,hk,_⟩,_⟩:=hel e he;obtain ⟨u,hu⟩:=Value.isStrOf_shape hk;exact ⟨k,u,hu⟩
 ·have:=hp.map PyProof.Rows.strOf;rw[map_map] at this;exact this
theorem FL (hS:eW prog w (xB w) s.heap a zs)
  (h:∀(I:Addr) (s':Shared) (fp:List Addr) (ys:List Value) (St:Nat->Heap->Prop),(∀A':Around,A'.handled=none->Walks prog w A' I fp [I] zs.length (λi v=>ys[i]?=some v) St)->St 0 s'.heap->
   (∀b o,s.heap.get? b=some o->s'.heap.get? b=some o)->s.heap.objs.size<=I->(∀b∈fp,b=a\/s.heap.objs.size<=b)->ys.length=zs.length->StrsAre ys (ys.map PyProof.Rows.strOf)->Perm (ys.map PyProof.Rows.strOf) zs->
   s'.gens=s.gens->s'.os=s.os->s'.toks=s.toks->Q (.ref I) s'):
  wpAny (model prog w) A (pyIter (.ref a)) Q E s:=by
 obtain ⟨o,es,ep,t,ho,hex,hd,hel,rfl,nd,hb,hf,hl,hp⟩:=hS;have hT:s.TypeIs (.ref a) "set":=⟨o,ho,hex.1⟩;have hlen:(cD es).length=es.size:=by unfold cD;rw[length_map,length_toList]
 have alt:a<s.heap.objs.size:=lt_size ho;refine wpAny_pyIter_slot hT PySem.F.slot_set_iter (wpAny_call_entry PySem.F.slot_set_iter hT qN ?_ (PySem.F.args_set_iter_1 _));unfold Builtin.«frozenset.__iter__» Builtin.Frozenset.slot0 slotArgs;simp only [List.isEmpty_nil,Bool.not_true,false_eq_true,↓reduceIte,bind_assoc,length_nil,bne_self_eq_false];unfold Builtin.Frozenset.addrOf Builtin.Frozenset.sizeOf;refine wpAny_bind (wpAny_pure ?_)
 try dsimp only
 refine wpAny_bind (wpAny_pure ?_);refine wpAny_bind (wpAny_bind (wpAny_setEntries_of ho hd hf (wpAny_pure ?_)));refine wpAny_bind (xZ ho hd hf ?_);split
 ·refine wpAny_bind (tG es.size (range es.size) s _ length_range λord d hpo=>?_);have hol:ord.length=es.size:=by rw[hpo.length_eq,length_range]
  refine wpAny_bind (wpAny_newTuple ?_ (by rw[length_map,hol];exact fits_of_scanBound hb));refine wpAny_bind (wpAny_setEpoch_of (get?_push_of_some _ ho) hd hf ?_);refine wpAny_bind (wpAny_newObj_type ?_);refine wpAny_pure ⟨_,rfl,"set_iterator",_,⟨_,get?_push_size _ rfl,rfl⟩,aS.lookup,?_⟩;have pm:Perm (ord.filterMap λp=>es[p]?.map (·.2)) (es.toList.map (·.2)):=by
   have z:=hpo.filterMap λp=>es[p]?.map (·.2);rw[<-List.map_filterMap,<-List.map_filterMap,filterMap_getElem?_range] at z;rwa [<-List.map_filterMap]
  obtain ⟨q1,q2,q3⟩:=hX hel pm;refine h (s.heap.push ({cls:=.type "tuple",data:=.seq (ord.map λ(i:Nat)=>rawInt i).toArray}:Obj)).objs.size _ [(s.heap.push ({cls:=.type "tuple",data:=.seq (ord.map λ(i:Nat)=>rawInt i).toArray}:Obj)).objs.size,a,s.heap.objs.size] _ (λi h=>cY h (s.heap.push ({cls:=.type "tuple",data:=.seq (ord.map λ(i:Nat)=>rawInt i).toArray}:Obj)).objs.size (.ref s.heap.objs.size) i a es.size ep/\h.get? a=some o/\h.get? s.heap.objs.size=some ({cls:=.type "tuple",data:=.seq (ord.map λ(i:Nat)=>rawInt i).toArray}:Obj)) (λA' hh'=>?_) ⟨⟨_,get?_push_size _ rfl,rfl,rfl⟩,get?_push_of_some _ (get?_push_of_some _ ho),get?_push_of_some _ (get?_push_size _ rfl)⟩ (λb o e=>get?_push_of_some _ (get?_push_of_some _ e)) ?_ (λb hb'=>?_) q1 q2 q3 rfl rfl rfl
  ·rw[hlen];exact AM hh' (by rw[Heap.size_push];exact ne_of_lt (Nat.lt_succ_of_lt alt)) (by rw[Heap.size_push];exact ne_of_lt (lt_succ_self _)) hd hf rfl hpo
  ·rw[Heap.size_push];exact le_succ _
  ·rcases mem_cons.mp hb' with rfl|hb'
   ·exact .inr (by rw[Heap.size_push];exact le_succ _)
   ·rcases mem_cons.mp hb' with rfl|hb'
    ·exact .inl rfl
    ·rw[mem_singleton.mp hb'];exact .inr (Nat.le_refl _)
 ·rename_i hc;refine wpAny_bind (wpAny_pure ?_);refine wpAny_bind (wpAny_setEpoch_of ho hd hf ?_);refine wpAny_bind (wpAny_newObj_type ?_);refine wpAny_pure ⟨_,rfl,"set_iterator",_,⟨_,get?_push_size _ rfl,rfl⟩,aS.lookup,?_⟩;have fps:∀b∈[s.heap.objs.size,a],b=a\/s.heap.objs.size<=b:=λb hb'=>by
   rcases mem_cons.mp hb' with rfl|hb'
   ·exact .inr (Nat.le_refl _)
   ·exact .inl (mem_singleton.mp hb')
  cases bt:xB w with
  |true=>
   obtain ⟨q1,q2,q3⟩:=hX hel ((lU (w.params.setOrder a ep) es).map (·.2));refine h s.heap.objs.size _ [s.heap.objs.size,a] _ (λi h=>cY h s.heap.objs.size (.int (0:Nat) 0) i a es.size ep/\h.get? a=some o) (λA' hh'=>?_) ⟨⟨_,get?_push_size _ rfl,rfl,rfl⟩,get?_push_of_some _ ho⟩ (λb o e=>get?_push_of_some _ e) (Nat.le_refl _) fps q1 q2 q3 rfl rfl rfl;rw[hlen];exact EZ bt hh' (ne_of_lt alt) hd hf
  |false=>
   have h1:es.size<=1:=by
    rw[bt] at hc;by_cases z:es.size<=1
    ·exact z
    ·rw[hp (by lia),decide_eq_true (show es.size>1 by lia)] at hc;exact absurd rfl hc
   obtain ⟨q1,q2,q3⟩:=hX hel (Perm.refl _);refine h s.heap.objs.size _ [s.heap.objs.size,a] _ (λi h=>cY h s.heap.objs.size (.int (slotAt t i:Nat) 0) i a es.size ep/\h.get? a=some o) (λA' hh'=>?_) ⟨⟨_,get?_push_size _ rfl,rfl,rfl⟩,get?_push_of_some _ ho⟩ (λb o e=>get?_push_of_some _ e) (Nat.le_refl _) fps q1 q2 q3 rfl rfl rfl;rw[hlen];exact IP bt h1 (by rw[hl,bt];rfl) hh' (ne_of_lt alt) hd hf
end
section
variable {prog:Program} {w:World} {A:Around} {E:Value->Shared->Prop} {s:Shared}
theorem JM (hT:s.TypeIs (.ref a) "set") (h:Q false s):wpAny (model prog w) A (Builtin.List.listLengthHint (.ref a)) Q E s:=by
 unfold Builtin.List.listLengthHint;refine wpAny_bind (wpAny_specialOf hT PySem.F.slot_set_len.lookup ?_);generalize hid:("set.__len__":String)=id0
 wp_delta
 rw[show splitId id0=some ("set","__len__") from by subst hid;decide+kernel];subst hid;refine wpAny_bind (wpAny_isInstance (b:=true) hT (by rw[isSubtype_type];kernel_rfl) ?_);refine wpAny_ite_split (λz=>absurd z (by decide)) (λ_=>?_);refine wpAny_ite_split (λ_=>?_) (λz=>absurd (by decide+kernel) z);exact wpAny_bind (wpAny_typeOf hT (wpAny_pure h))
theorem eW.type (hS:eW prog w bt s.heap a zs):s.TypeIs (.ref a) "set":=by
 obtain ⟨o,_,_,_,ho,hex,_⟩:=hS;exact ⟨o,ho,hex.1⟩
theorem uS (hh:A.handled=none) (hS:eW prog w (xB w) s.heap a zs) (hn:zs.length<=sizeLine)
  (h:∀(s':Shared) (ys:List Value),(∀b o,s.heap.get? b=some o->s'.heap.get? b=some o)->s.heap.objs.size<=s'.heap.objs.size->StrsAre ys (ys.map PyProof.Rows.strOf)->Perm (ys.map PyProof.Rows.strOf) zs->s'.gens=s.gens->s'.os=s.os->Q ys s'):
  wpAny (model prog w) A (collect (.ref a)) Q E s:=by
 have alt:a<s.heap.objs.size:=by
  obtain ⟨o,_,_,_,ho,_⟩:=hS;exact lt_size ho
 unfold collect;refine wpAny_bind (wpAny_runValue (codeAny_builtin entry_proto_collect' ?_));rw[Around.under_plainId PySem.F.plain_proto_collect _];show wpAny _ A.in1 (newList [] >>=λl=>again (.builtin "list.__iadd__" ⟨[l,.ref a],[]⟩)) _ _ s;refine wpAny_bind (wpAny_newObj_type ?_);refine wpAny_pure ⟨plainId_quiet PySem.F.plain_list_iadd _,codeAny_builtin entry_list_iadd' ?_⟩;rw[Around.under_plainId PySem.F.plain_list_iadd _];have g1:(s.heap.push {cls:=.type "list",data:=.seq ([]:List Value).toArray}).get? s.heap.objs.size=some {cls:=.type "list",data:=.seq #[]}:=get?_push_size _ rfl;have hS1:eW prog w (xB w) (s.heap.push {cls:=.type "list",data:=.seq ([]:List Value).toArray}) a zs:=hS.keep λo e=>get?_push_of_some _ e;show wpAny _ A.in1 (Builtin.List.listExtendWith (.ref s.heap.objs.size) (.ref a) (.ref s.heap.objs.size)) _ _ _;unfold Builtin.List.listExtendWith;refine wpAny_bind (wpAny_typeOf (T:="set") hS1.type ?_);have n1:Builtin.List.listSameRef (.ref s.heap.objs.size) (.ref a)=false:=by simp [Builtin.List.listSameRef,ne_of_gt alt]
 have n2:(Value.type "set"==Value.type "list")=false:=by decide
 have n3:(Value.type "set"==Value.type "tuple")=false:=by decide
 simp only [n1,n2,n3,Bool.or_false,false_eq_true,if_false];refine wpAny_bind (FL (s:={s with heap:=s.heap.push {cls:=.type "list",data:=.seq ([]:List Value).toArray}}) hS1 λI s2 fp ys St W st kp hI hfp q1 q2 q3 eg eo et=>?_);have g2:=kp _ _ g1;have hI1:s.heap.objs.size<I:=by
  have:(s.heap.push {cls:=.type "list",data:=.seq ([]:List Value).toArray}).objs.size<=I:=hI;rw[Heap.size_push] at this;exact this
 have hSf:s.heap.objs.size∉fp:=λz=>by
  rcases hfp _ z with e|e
  ·exact absurd e (ne_of_gt alt)
  ·have e':(s.heap.push {cls:=.type "list",data:=.seq ([]:List Value).toArray}).objs.size<=s.heap.objs.size:=e;rw[Heap.size_push] at e';exact absurd e' (Nat.not_le.mpr (lt_succ_self _))
 have hh2:A.in1.handled=none:=by simp [hh]
 have key:∀(h:Heap) (c:Nat),St 0 h->(∀b o,b≠s.heap.objs.size->s2.heap.get? b=some o->h.get? b=some o)->h.get? s.heap.objs.size=some {cls:=.type "list",data:=.seq #[] c}->
   codeAny (model prog w) A (.builtin "list.extend.loop" ⟨[.ref s.heap.objs.size,.ref I,.ref s.heap.objs.size],[]⟩) (λr s'=>match r with
    | .ok (.ret v)=>wpAny (model prog w) A (match v with
     | .ref a=>do
      let o <-load a
      match o.data with
      | .seq xs _=>pure xs.toList
      |_=>unsupported "internal:collect"
     |_=>unsupported "internal:collect") Q E s'
    | .ok _=>False
    | .error e=>E e s') {s2 with heap:=h}:=λh3 c st3 k3 g3=>by
  refine codeAny_extend_loopS ((W _ hh2).toS) hn s.heap.objs.size hSf (.ref s.heap.objs.size) zs.length 0 _ #[] c rfl (zero_le _) st3 g3 (ItemsOf.nil _) λs4 acc c4 mv g4 ac=>?_;dsimp only;refine wpAny_bind (wpAny_load g4 ?_);dsimp only;have ea:acc.toList=ys:=by
   refine ext_getElem? λj=>?_;by_cases hj:j<acc.size
   ·have z:=ac.2 j acc[j] (by simp [hj]);rw[z];simp [hj]
   ·have e1:acc.size=zs.length:=ac.1;rw[List.getElem?_eq_none (by simpa using hj),List.getElem?_eq_none (by lia)]
  rw[ea];refine wpAny_pure (h s4 ys (λb o e=>?_) (le_of_lt (lt_size g4)) q2 q3 (mv.gens.trans eg) (mv.os.trans eo));have b1:=lt_size e;refine mv.heap b o (by simp only [mem_cons,not_mem_nil,or_false,not_or];exact ⟨ne_of_lt b1,ne_of_lt (lt_trans b1 hI1)⟩) (k3 b o (ne_of_lt b1) (kp b o (get?_push_of_some _ e)))
 refine wpAny_bind (wpAny_holding (JM (eW.type (hS1.keep λo e=>kp _ _ e)) ?_));refine wpAny_ite_split (λ_=>?_) (λ_=>wpAny_pure ⟨plainId_quiet PySem.F.plain_extend_loop _,key _ _ st (λb o _ e=>e) g2⟩);refine wpAny_bind (wpAny_rule ?_);refine wpAny_bind ?_;show wpAny _ _ (updateSeq s.heap.objs.size (·.push .none) >>=λ_=>updateSeq s.heap.objs.size (·.pop)) _ _ _;refine wpAny_bind (wpAny_updateSeq g2 rfl ?_);have g5:=get?_update_self (Obj.mapSeq (·.push Value.none)) g2 rfl;refine wpAny_updateSeq (hz:=by seq_fits) g5 rfl ?_;have g6:=get?_update_self (Obj.mapSeq (·.pop)) g5 rfl;have oth:∀b o,b≠s.heap.objs.size->s2.heap.get? b=some o->((s2.heap.update s.heap.objs.size (Obj.mapSeq (·.push Value.none))).update s.heap.objs.size (Obj.mapSeq (·.pop))).get? b=some o:=λb o hb e=>
  (get?_update_other _ _ (Ne.symm hb)).trans ((get?_update_other _ _ (Ne.symm hb)).trans e)
 exact wpAny_pure ⟨plainId_quiet PySem.F.plain_extend_loop _,key _ _ ((W _ hh2).frame 0 _ _ st λb hb o e=>oth b o (λz=>hSf (z▸hb)) e) oth g6⟩
end
section
variable {prog:Program} {w:World} {A:Around} {E:Value->Shared->Prop} {s:Shared}
theorem xY (hh:A.handled=none) (hS:eW prog w (xB w) s.heap a zs) (h64:zs.length<64)
  (h:∀(s':Shared) (D:Addr) (vs:List Value) (ss:List Str) (e:Nat),(∀b o,s.heap.get? b=some o->s'.heap.get? b=some o)->s.heap.objs.size<=D->s'.heap.get? D=some (seqObj "list" vs.toArray e)->StrsAre vs ss->Perm ss zs->sortedS ss=true->
   s'.gens=s.gens->s'.os=s.os->Q (.ref D) s'):wpAny (model prog w) A (call (.builtin "sorted") [.ref a]) Q E s:=by
 have hn:zs.length<=sizeLine:=by rw[sizeLine_eq];lia
 refine Calls.call_function_entry kind_sorted plain_sorted entry_sorted (args_sorted1 _) ?_;unfold Builtin.«sorted»;refine wpAny_bind (m:=checkCount "sorted" 1 1 _) (wpAny_pure ?_);refine wpAny_bind (uS (A:=A.in1) (by simp [hh]) hS hn λs1 ys k1 le q2 q3 eg eo=>?_);have hl:ys.length=zs.length:=by rw[<-q3.length_eq,length_map]
 refine wpAny_bind (wpAny_newList ?_ (by rw[hl];exact hn));have hoL:(s1.heap.push (seqObj "list" ys.toArray 0)).get? s1.heap.objs.size=some (seqObj "list" ys.toArray 0):=get?_push_size _ rfl;show wpAny _ _ _ _ _ {s1 with heap:=s1.heap.push (seqObj "list" ys.toArray 0)};refine wpAny_bind (wpAny_holding (wpAny_call_entry slot_list_sort ⟨_,hoL,rfl⟩ entry_list_sort (list_sort_treeK strKind_oneLt hoL q2.keysOf (λv₁ v₂ rest e=>keyKind_strs (by rw[<-e];exact q2)) (by lia) λst' a1 a2=>⟨_,rfl,?_⟩) (args_list_sort _)));obtain ⟨ss,b1,b2,b3⟩:=sorted_out_str q2 a1 a2;obtain ⟨e,he⟩:=sortedHeap_at (out:=(arrOf st').map (·.2)) hoL;refine wpAny_pure ⟨_,rfl,h _ s1.heap.objs.size ((arrOf st').map (·.2)).toList ss e (λb o z=>?_) le ?_ b1 (b2.trans q3) b3 eg eo⟩
 ·have lt:=lt_size (k1 b o z);show (sortedHeap _ _ _ _).get? b=some o;rw[sortedHeap_old (ne_of_lt lt) (by rw[Heap.size_push];exact Nat.lt_succ_of_lt lt)];exact get?_push_of_some _ (k1 b o z)
 ·rw[Array.toArray_toList];exact he
end
end L2.Na
namespace L2.L3
open PySem PySem.Spec PyProof.Rows
noncomputable def sgn (c:Nat):V:=.str ⟨#[c]⟩
noncomputable def Cq (z:Str):It:=⟨λi _=>i<z.cps.size,λi H x H'=>H'=H/\∃c,z.cps[i]?=some c/\x=sgn c,λi _=>z.cps.size<=i⟩
theorem IY {P:Program} {w:World} {K:Fg} {tg:Expr} (z:Str) (t:Tok) (it:Addr) (T:String) (hT:T="str_ascii_iterator"\/T="str_iterator"):
  Turn P w K tg (Cq z) [it] it (λi h=>h.IsStrIter it T z t i) where
 mem:=by simp
 obj:=λi h st b hb=>by
  have e:b=it:=by simpa using hb
  subst e;obtain ⟨o,e,c,d⟩:=st;exact ⟨o,e,λv z=>by rw[d] at z;cases z⟩
 keep:=λi h h' st k=>by
  obtain ⟨o,e,c,d⟩:=st;exact ⟨o,k it (by simp) o e,c,d⟩
 item:=by
  intro X hP hw hK hc i pins s σ H E I hf st hg;subst hP hw hK;obtain ⟨f0,f1,f2,f3,f4,f5⟩:=hf it (by simp);have hi:i<z.cps.size:=hg;rcases hT with rfl|rfl
  ·refine wpAny_pyNext_ascii_item st (c:=z.cps[i]) (by simp [hi]) λh' st' sb=>?_;have I1:Inv X pins σ H {s with heap:=h',toks:=s.toks+1}:=I.turned (λb o hb e=>(sb.2 b hb).trans e) f0 f1 f3 f4 f5;obtain ⟨o,e,c,d⟩:=id st';exact ⟨_,rfl,qI (s:={s with heap:=h',toks:=s.toks+1}) e c d (by decide) ⟨sgn z.cps[i],H,I1,⟨_,rfl⟩,⟨rfl,_,by simp [hi],rfl⟩,st',λb hb=>(hf b hb).1⟩⟩
  ·refine wpAny_pyNext_wide_item st (c:=z.cps[i]) (by simp [hi]) λh' st' sb=>?_;have I1:Inv X pins σ H {s with heap:=h',toks:=s.toks+1}:=I.turned (λb o hb e=>(sb.2 b hb).trans e) f0 f1 f3 f4 f5;obtain ⟨o,e,c,d⟩:=id st';exact ⟨_,rfl,qI (s:={s with heap:=h',toks:=s.toks+1}) e c d (by decide) ⟨sgn z.cps[i],H,I1,⟨_,rfl⟩,⟨rfl,_,by simp [hi],rfl⟩,st',λb hb=>(hf b hb).1⟩⟩
 done:=by
  intro X hP hw hK hc i pins s σ H E I hf st hg;subst hP hw hK;obtain ⟨f0,f1,f2,f3,f4,f5⟩:=hf it (by simp);have hi:z.cps.size<=i:=hg;rcases hT with rfl|rfl
  ·exact wpAny_pyNext_ascii_end (I.ok.hd hc) st (by simp [hi]) λh' eb=>⟨rfl,I.turned (t':=s.toks) (λb o hb e=>eb b o hb e) f0 f1 f3 f4 f5⟩
  ·exact wpAny_pyNext_wide_end (I.ok.hd hc) st (by simp [hi]) λh' eb=>⟨rfl,I.turned (t':=s.toks) (λb o hb e=>eb b o hb e) f0 f1 f3 f4 f5⟩
 self:=λ_ _ _ _ _ st h=>by
  rcases hT with rfl|rfl
  ·exact wpAny_pyIter_striter_ascii st h
  ·exact wpAny_pyIter_striter_wide st h
structure Yl (J:It) (P:Hp->Prop) (items:List V):Prop where
 go:∀i H,P H->i<items.length->J.go i H
 yld:∀i H x H',P H->i<items.length->J.yld i H x H'->H'=H/\items[i]?=some x
 stop:∀H,P H->J.stop items.length H
theorem dU {K:Fg} {a:Addr} {xs:List V}:Yl (UZ K a) (λH=>aR K H a xs) xs where
 go:=λi H p h=>⟨xs,xs[i],p,by simp [h]⟩
 yld:=λi H x H' p _ h=>⟨h.1,h.2 xs p⟩
 stop:=λH p=>⟨xs,p,Nat.le_refl _⟩
theorem WU {K:Fg} {a:Addr} {xs:List V}:Yl (Jf K a) (λH=>cZ K H a xs) xs where
 go:=λi H p h=>⟨xs,xs[i],p,by simp [h]⟩
 yld:=λi H x H' p _ h=>⟨h.1,h.2 xs p⟩
 stop:=λH p=>⟨xs,p,Nat.le_refl _⟩
noncomputable def FQ (lo:Int) (n:Nat):List V:=(range n).map λi=>.int (lo+(i:Nat))
theorem iE (lo:Int) (n:Nat):(FQ lo n).length=n:=by unfold FQ;rw[length_map,length_range]
theorem JR {lo:Int} {n i:Nat} (h:(FQ lo n)[i]?=some x):i<n/\x=.int (lo+(i:Nat)):=by
 unfold FQ at h;rw[getElem?_map] at h;by_cases hi:i<n
 ·rw[getElem?_range hi] at h;exact ⟨hi,(Option.some.inj h).symm⟩
 ·rw[List.getElem?_eq_none_iff.mpr (by rw[length_range];lia)] at h;cases h
theorem WV {lo:Int} {n:Nat}:Yl (OZ lo n) (λ_=>True) (FQ lo n) where
 go:=λi H _ h=>by rw[iE] at h;exact h
 yld:=λi H x H' _ hi h=>⟨h.1,by
  have e:x=.int (lo+(i:Nat)):=h.2
  rw[iE] at hi
  rw[e]
  unfold FQ
  rw[getElem?_map,getElem?_range hi]
  rfl⟩
 stop:=λH _=>by rw[iE];exact Nat.le_refl _
noncomputable def jH (z:Str):List V:=z.cps.toList.map sgn
theorem eM (z:Str):(jH z).length=z.cps.size:=by unfold jH;rw[length_map,length_toList]
theorem II:Yl (Cq z) (λ_=>True) (jH z) where
 go:=λi H _ h=>by rw[eM] at h;exact h
 yld:=λi H x H' _ hi h=>by
  obtain ⟨e,c,h1,h2⟩:=h;refine ⟨e,?_⟩;unfold jH;rw[getElem?_map,h2];have q:z.cps.toList[i]?=some c:=by simpa using h1
  rw[q];rfl
 stop:=λH _=>by rw[eM];exact Nat.le_refl _
theorem NG {J:It} {P:Hp->Prop} {xs:List V} {g:TG} {tb:TS} {D:Ends} {σ:St} {H:Hp} (Y:Yl J P xs) (Pv:Nat->St->Hp->Prop) (h0:Pv 0 σ H) (hl:∀i σ H,i<=xs.length->Pv i σ H->P H)
  (hs:∀i x σ H,xs[i]?=some x->Pv i σ H->g x σ H λσ2 H2=>tb {D with nx:=Pv (i+1),ct:=Pv (i+1),bk:=D.nx} σ2 H2) (hd:∀σ H,Pv xs.length σ H->D.nx σ H):
  ∃W:Nat->Nat->St->Hp->Prop,(∃m,W 0 m σ H)/\∀i m σ H,W i m σ H->
   (J.stop i H/\D.nx σ H)\/(J.go i H/\∃N:St->Hp->Prop,(∀σ' H',N σ' H'->∃m',m'<m/\W (i+1) m' σ' H')/\∀x H',J.yld i H x H'->g x σ H' λσ2 H2=>tb {D with nx:=N,ct:=N,bk:=D.nx} σ2 H2):=by
 refine ⟨λi m σ H=>m=xs.length - i/\i<=xs.length/\Pv i σ H,⟨xs.length,by simp,zero_le _,h0⟩,?_⟩;rintro i m σ H ⟨rfl,hi,p⟩;have q:=hl i σ H hi p;by_cases hlt:i<xs.length
 ·refine .inr ⟨Y.go i H q hlt,Pv (i+1),λσ' H' p'=>⟨xs.length - (i+1),by lia,rfl,hlt,p'⟩,λx H' y=>?_⟩;obtain ⟨e,hx⟩:=Y.yld i H x H' q hlt y;subst e;exact hs i x σ H' hx p
 ·have e:i=xs.length:=by lia
  subst e;exact .inl ⟨Y.stop H q,hd σ H p⟩
theorem NH {J:It} {P:Hp->Prop} {xs:List V} {g:TG} {tb:TS} {D:Ends} {σ:St} {H:Hp} (Y:Yl J P xs) (hP:∀H',aC H H'->P H') (S:Nat->St->Prop) (h0:S 0 σ)
  (hs:∀i x σ1 H1,xs[i]?=some x->S i σ1->aC H H1->g x σ1 H1 λσ2 H2=>tb {D with nx:=λσ3 H3=>S (i+1) σ3/\aC H H3,ct:=λσ3 H3=>S (i+1) σ3/\aC H H3,bk:=D.nx} σ2 H2) (hd:∀σ1 H1,S xs.length σ1->aC H H1->D.nx σ1 H1):
  ∃W:Nat->Nat->St->Hp->Prop,(∃m,W 0 m σ H)/\∀i m σ H,W i m σ H->
   (J.stop i H/\D.nx σ H)\/(J.go i H/\∃N:St->Hp->Prop,(∀σ' H',N σ' H'->∃m',m'<m/\W (i+1) m' σ' H')/\∀x H',J.yld i H x H'->g x σ H' λσ2 H2=>tb {D with nx:=N,ct:=N,bk:=D.nx} σ2 H2):=
 NG Y (λi σ1 H1=>S i σ1/\aC H H1) ⟨h0,aC.refl _⟩ (λ_ _ H1 _ p=>hP H1 p.2) (λi x σ1 H1 hx p=>hs i x σ1 H1 hx p.1 p.2) λσ1 H1 p=>hd σ1 H1 p.1 p.2
noncomputable def zV (names:List (Str × NameKind)) (env:Env):List (Str × Addr):=((names.filter λx=>x.2==.free).filterMap λx=>(env.cells.lookup x.1).map λc=>(x.1,c)).reverse
theorem NY (h:(x,c)∈zV names env):env.cells.lookup x=some c:=by
 obtain ⟨y,hy,e⟩:=mem_filterMap.mp (List.mem_reverse.mp h);cases q:env.cells.lookup y.1 with
 |none=>rw[q] at e;cases e
 |some d=>
  rw[q] at e;have e':(y.1,d)=(x,c):=Option.some.inj e;cases e';exact q
theorem mW (h:(zV names env).lookup x=some c):env.cells.lookup x=some c:=NY (PySem.mem_of_lookup h)
theorem NZ (h:names.lookup x=some .free) (e:env.cells.lookup x=some c):(zV names env).lookup x=some c:=by
 have hm:(x,c)∈zV names env:=List.mem_reverse.mpr (mem_filterMap.mpr ⟨(x,.free),mem_filter.mpr ⟨PySem.mem_of_lookup h,rfl⟩,by rw[e];rfl⟩);cases q:(zV names env).lookup x with
 |none=>
  have z:=List.lookup_eq_none_iff.mp q _ hm;simp at z
 |some d=>
  have z:=mW q;rw[e] at z;exact z.symm
theorem kP {env:Env}:∀{names:List (Str × NameKind)} {x:Str},env.scope.kind=.function->names.lookup x=some .free->env.kindOf x=some .cell->
  (names.map λ(n,k)=>if (k==NameKind.free&&env.scope.kind==.function&&env.kindOf n==some .cell) then (n,NameKind.cell) else (n,k)).lookup x=some .cell
 |[],_,_,h,_=>by simp at h
 | (n,k)::r,x,hk,h,hc=>by
  by_cases hx:x=n
  ·subst hx;rw[lookup_cons_self] at h;cases h;rw[map_cons];dsimp only;rw[if_pos (by rw[hk,hc];rfl)];exact lookup_cons_self
  ·have hb:(x==n)=false:=beq_eq_false_iff_ne.mpr hx;rw[lookup_cons,hb] at h;have ih:=kP (names:=r) hk h hc;rw[map_cons];dsimp only;by_cases c:(k==NameKind.free&&env.scope.kind==.function&&env.kindOf n==some .cell)=true
   ·rw[if_pos c,lookup_cons,hb];exact ih
   ·rw[if_neg c,lookup_cons,hb];exact ih
theorem gN {env:Env}:∀{names:List (Str × NameKind)} {x:Str} {k:NameKind},(names.map λ(n,k)=>if (k==NameKind.free&&env.scope.kind==.function&&env.kindOf n==some .cell) then (n,NameKind.cell) else (n,k)).lookup x=some k->
  names.lookup x=some k\/(k=.cell/\names.lookup x=some .free)
 |[],_,_,h=>by simp at h
 | (n,k')::r,x,k,h=>by
  rw[map_cons] at h;dsimp only at h;by_cases hx:x=n
  ·subst hx;rw[lookup_cons_self];by_cases c:(k'==NameKind.free&&env.scope.kind==.function&&env.kindOf x==some .cell)=true
   ·rw[if_pos c,lookup_cons_self] at h;cases h;have z:k'=.free:=by
     rw[and_eq_true,and_eq_true] at c;exact beq_iff_eq.mp c.1.1
    exact .inr ⟨rfl,by rw[z]⟩
   ·rw[if_neg c,lookup_cons_self] at h;exact .inl h
  ·have hb:(x==n)=false:=beq_eq_false_iff_ne.mpr hx;have h':(r.map λ(n,k)=>if (k==NameKind.free&&env.scope.kind==.function&&env.kindOf n==some .cell) then (n,NameKind.cell) else (n,k)).lookup x=some k:=by
    by_cases c:(k'==NameKind.free&&env.scope.kind==.function&&env.kindOf n==some .cell)=true
    ·rw[if_pos c,lookup_cons,hb] at h;exact h
    ·rw[if_neg c,lookup_cons,hb] at h;exact h
   rw[lookup_cons,hb];exact gN h'
theorem bK:∀(names:List (Str × NameKind)) (n:Nat) (acc:List (Str × Addr)),cellsFrom n names acc=cellsFrom n names []++acc
 |[],_,_=>rfl
 | (name,kind)::r,n,acc=>by
  unfold cellsFrom;split
  ·rw[bK r (n+1) ((name,n)::acc),bK r (n+1) [(name,n)],List.append_assoc];rfl
  ·exact bK r n acc
theorem fP:∀(names:List (Str × NameKind)) (n:Nat) {x:Str} {c:Addr},(x,c)∈cellsFrom n names []->(x,NameKind.cell)∈names
 |[],_,_,_,h=>nomatch h
 | (name,kind)::r,n,x,c,h=>by
  unfold cellsFrom at h;split at h
  ·rename_i hk;rw[bK] at h;rcases mem_append.mp h with h|h
   ·exact mem_cons_of_mem _ (fP r _ h)
   ·have e:=mem_singleton.mp h;have e1:x=name:=congrArg Prod.fst e;have e2:kind=NameKind.cell:=eq_of_beq hk;rw[e1,e2];exact mem_cons_self
  ·exact mem_cons_of_mem _ (fP r _ h)
noncomputable def lD (sc:Scope) (C:Addr) (env:Env):List (Str × Addr):=cellsFrom (C+1) sc.names (zV sc.names env)
theorem iP (h:(lD sc C env).lookup x=some c):(x,c)∈cellsFrom (C+1) sc.names []\/env.cells.lookup x=some c:=by
 unfold lD at h;rw[bK,List.lookup_append] at h;cases q:(cellsFrom (C+1) sc.names []).lookup x with
 |some d=>
  rw[q] at h;have e:d=c:=Option.some.inj h;subst e;exact .inl (PySem.mem_of_lookup q)
 |none=>
  rw[q] at h;exact .inr (mW h)
theorem HW (hx:sc.names.lookup x=some .cell) (h:(lD sc C env).lookup x=some c):(x,c)∈cellsFrom (C+1) sc.names []:=by
 obtain ⟨d,q⟩:=qT (n:=C+1) hx;unfold lD at h;rw[bK,List.lookup_append,q] at h;have e:d=c:=Option.some.inj h;subst e;exact PySem.mem_of_lookup q
theorem qX (hown:∀y∈sc.names,y.2=.cell->sc.names.lookup y.1=some .cell) (hx:sc.names.lookup x=some .free) (e:env.cells.lookup x=some c):(lD sc C env).lookup x=some c:=by
 unfold lD;rw[bK,List.lookup_append];cases q:(cellsFrom (C+1) sc.names []).lookup x with
 |some d=>
  have z:=hown _ (fP _ _ (PySem.mem_of_lookup q)) rfl;have z':sc.names.lookup x=some .cell:=z;rw[hx] at z';cases z'
 |none=>exact NZ hx e
theorem KQ (h:Heap) (ob:Obj) (sc:Scope):CellsOk (pushCells (h.push ob) sc.names) (h.objs.size+1) (cellsFrom (h.objs.size+1) sc.names []):=by
 have ok:=cellsFrom_ok sc.names (h.push ob) (h.objs.size+1) [] ⟨λ_ _ hm=>(nomatch hm),Pairwise.nil⟩ (by rw[Heap.size_push];exact Nat.le_refl _);rwa [Heap.size_push] at ok
theorem tZ {M:Model} {A:Around} {E:Value->Shared->Prop} {s:Shared} {scope:Scope} {globals:Addr} {closure:List (Str × Addr)} {qual:Str} {func:Option Addr} {code:Value} {outer:Env} {builtins:Addr} {Q:Env->Shared->Prop}
  (hQ:Q (newEnv scope s.heap.objs.size globals (cellsFrom (s.heap.objs.size+1) scope.names closure) qual func code (some outer) builtins) {s with heap:=pushCells (s.heap.push {cls:=.type "dict",data:=.dict #[]}) scope.names}):
  wpAny M A (newFunctionEnv scope globals closure [] qual func code (some outer) builtins) Q E s:=by
 simp only [newFunctionEnv,Option.isSome_some,if_true];refine wpAny_bind (wpAny_alloc ?_);refine wpAny_bind (wpAny_layCells _ (λname kind cells=>by cases hkc:kind==NameKind.cell<;>simp [hkc]) _ _ _ _ ?_);rw[show ({s with heap:=s.heap.push {cls:=.type "dict",data:=.dict #[]}}:Shared).heap.objs.size=s.heap.objs.size+1 from Heap.size_push ..];refine wpAny_bind ?_;rw[forIn_nil];exact wpAny_pure (wpAny_pure hQ)
noncomputable def HX (X:Cx) (N:List Str) (sc:Scope) (C:Addr) (s₀:Shared) (H₀:Hp) (ex:List Addr):Cx:=
 {X with N:=N,s₀:=s₀,H₀:=H₀,env:=compEnvC sc (lD sc C X.env) C X.env,outer:=X.stack,ex:=ex,fn:=λx=>sc.names.lookup x==some .cell,pn:=[],xe:=λ_ _=>False}
inductive ID (X:Cx) (sc:Scope):List Str->List Nat->Prop
 |nil:ID X sc [] []
 |cons {x:Str} {i:Nat} {xs:List Str} {is:List Nat} (hN:X.N[i]?=some x) (hk:X.env.kindOf x=some .cell) (hf:sc.names.lookup x=some .free) (t:ID X sc xs is):ID X sc (x::xs) (i::is)
theorem ID.length:∀{xs:List Str} {is:List Nat},ID X sc xs is->xs.length=is.length
 |_,_,.nil=>rfl
 |_,_,.cons _ _ _ t=>by rw[length_cons,length_cons,ID.length t]
theorem ID.get {X:Cx} {sc:Scope}:∀{xs:List Str} {is:List Nat} {j:Nat} {x:Str},ID X sc xs is->xs[j]?=some x->∃i,is[j]?=some i/\X.N[i]?=some x/\X.env.kindOf x=some .cell/\sc.names.lookup x=some .free
 |_,_,_,_,.nil,e=>by simp at e
 |_,_,0,_,.cons hN hk hf _,e=>by
  have e':=Option.some.inj e;subst e';exact ⟨_,rfl,hN,hk,hf⟩
 |_,_,j+1,x,.cons _ _ _ t,e=>by
  obtain ⟨i,h1,h2⟩:=ID.get (j:=j) (x:=x) t (by simpa using e);exact ⟨i,by simpa using h1,h2⟩
noncomputable def fQ (is:List Nat) (σ:St):St:=is.map λi=>(σ[i]?).join
noncomputable def HS (n:Nat) (is:List Nat) (σ:St):St:=replicate n none++fQ is σ
theorem Un.but (u:Un fs ex H H1 h h1) (hs:SameBut C h1 h2) (hC:h.objs.size<=C):Un fs ex H H1 h h2:=by
 have ne:∀b o,h.get? b=some o->b≠C:=λb o e=>ne_of_lt (Nat.lt_of_lt_of_le (lt_size e) hC);refine ⟨λb o q n hb hx=>(hs.2 b (ne b o q)).trans (u.keep b o q n hb hx),λb o q n hb hx=>?_,u.free,λb o q hx=>?_,u.tups,u.frzs,u.tbls⟩
 ·obtain ⟨sl,e⟩:=u.slot b o q n hb hx;exact ⟨sl,(hs.2 b (ne b o q)).trans e⟩
 ·obtain ⟨o',e⟩:=u.there b o q hx;exact ⟨o',(hs.2 b (ne b o q)).trans e⟩
theorem eG.but (k:eG P w H h) (hs:SameBut C h h') (hn:H C=none):eG P w H h':=λb ob e=>by
 refine (k b ob e).stay (λc w' hc q=>(hs.2 c ?_).trans q) (λ_ q=>q) λ_ _ q=>q;rintro rfl;rcases hc with rfl|hc
 ·rw[hn] at e;cases e
 ·rw[hn] at hc;cases hc
section
variable {X:Cx} {pins:List (Addr × Obj)} {σ:St} {H:Hp} {s:Shared}
theorem Bl (I:Inv X pins σ H s) {N:List Str} {sc:Scope} {ex:List Addr} (hkind:sc.kind=.function) (hown:∀y∈sc.names,y.2=.cell->sc.names.lookup y.1=some .cell) (hfr:(sc.names.all λy=>y.2 != .free || X.env.kindOf y.1==some .cell)=true)
  (hex:∀b∈ex,mJ X pins H b) (hob:∀b∈ex,∃o,s.heap.get? b=some o):(HX X N sc s.heap.objs.size s H ex).Ok:=by
 have oc:=KQ s.heap {cls:=.type "dict",data:=.dict #[]} sc;have lo:∀{x c},(x,c)∈cellsFrom (s.heap.objs.size+1) sc.names []->s.heap.objs.size<c:=λhm=>(oc.empty _ _ hm).2;have hi:∀{x c},X.env.cells.lookup x=some c->c<s.heap.objs.size:=λe=>by
  obtain ⟨v,o,e',_⟩:=I.cell _ _ e;exact lt_size e'
 refine ⟨I.ok.mod,hkind,I.ok.glob,I.ok.blt,Nat.le_refl _,λx y c h1 h2=>?_,λx h=>?_,λx c hf h=>?_,I.ok.hd,I.ok.frames,.inl rfl,λb hb=>⟨?_,λx c h=>?_⟩,I.bs,le_trans I.ok.bsz I.sz,λb o e hb=>?_,λb hb hf=>?_,I.stack,I.stkFree⟩
 ·rcases iP h1 with h1|h1<;>rcases iP h2 with h2|h2
  ·exact PySem.name_of_addr oc.apart h1 h2
  ·exact absurd (hi h2) (Nat.lt_asymm (lo h1))
  ·exact absurd (hi h1) (Nat.lt_asymm (lo h2))
  ·exact I.ok.inj x y c h1 h2
 ·have fr:sc.names.lookup x=some .free->∃c,(lD sc s.heap.objs.size X.env).lookup x=some c:=λq=>by
   have z:=all_eq_true.mp hfr _ (PySem.mem_of_lookup q);have z':(X.env.kindOf x==some .cell)=true:=z;obtain ⟨c,e⟩:=I.ok.has x (.inl (beq_iff_eq.mp z'));exact ⟨c,qX hown q e⟩
  rcases h with h|h
  ·rcases gN (show (sc.names.map λ(n,k)=>if (k==NameKind.free&&X.env.scope.kind==.function&&X.env.kindOf n==some .cell) then (n,NameKind.cell) else (n,k)).lookup x=some .cell from h) with q|⟨_,q⟩
   ·exact Option.isSome_iff_exists.mp (PySem.W.cellsFrom_some sc.names _ _ (.inl q))
   ·exact fr q
  ·rcases gN (show (sc.names.map λ(n,k)=>if (k==NameKind.free&&X.env.scope.kind==.function&&X.env.kindOf n==some .cell) then (n,NameKind.cell) else (n,k)).lookup x=some .free from h) with q|⟨q,_⟩
   ·exact fr q
   ·cases q
 ·have hx:sc.names.lookup x=some .cell:=eq_of_beq hf;exact le_of_lt (lo (HW hx h))
 ·obtain ⟨o,e⟩:=hob b hb;exact ne_of_lt (lt_size e)
 ·rcases iP h with h|h
  ·obtain ⟨o,e⟩:=hob b hb;exact ne_of_gt (lt_trans (lt_size e) (lo h))
  ·exact (hex b hb).2.2.2.2.1 x c h
 ·obtain ⟨_,_,_,q,_⟩:=hex b hb;rcases q with q|q
  ·exact I.ok.noex b o e q
  ·exact absurd (Nat.lt_of_lt_of_le (lt_size (I.ok.bs b o e).1) q) (lt_irrefl _)
 ·obtain ⟨_,n1,n2,_⟩:=hex b hb;rcases mem_cons.mp (I.stkSub b hf) with z|z
  ·exact n1 z
  ·exact n2 z
theorem HV (I:Inv X pins σ H s) (hkind:sc.kind=.function) (hown:∀y∈sc.names,y.2=.cell->sc.names.lookup y.1=some .cell) (hfr:(sc.names.all λy=>y.2 != .free || X.env.kindOf y.1==some .cell)=true)
  (hcap:ID X sc caps is) (hex:∀b∈ex,mJ X pins H b) (hob:∀b∈ex,∃o,s.heap.get? b=some o) (hn:h1.Ns s.heap.objs.size m0) (hk:∀b o,s.heap.get? b=some o->h1.get? b=some o) (oc:CellsOk h1 (s.heap.objs.size+1) (cellsFrom (s.heap.objs.size+1) sc.names [])):
  Inv (HX X (own++caps) sc s.heap.objs.size s H ex) [] (HS own.length is σ) H {s with heap:=h1,toks:=tk}:=by
 refine ⟨Bl I hkind hown hfr hex hob,rfl,I.bare,Un.kept hk,⟨m0,hn,λi x v e1 e2 _=>?_⟩,λx c h=>?_,I.hok.fresh (Nat.le_refl _),λx c h=>(iP h).elim (λh=>I.hok.fresh (le_of_lt (oc.empty _ _ h).2)) λh=>I.freeC x c h,λp hp=>absurd (show p∈([]:List (Addr × Obj)) from hp) (by simp),I.hok.kept hk,?_⟩
 ·have e1':(own++caps)[i]?=some x:=e1;by_cases hi:i<own.length
  ·unfold HS at e2;rw[getElem?_append_left (by rw[length_replicate];exact hi),List.getElem?_replicate,if_pos hi] at e2;cases e2
  ·rw[getElem?_append_right (by lia)] at e1';unfold HS at e2;rw[getElem?_append_right (by rw[length_replicate];lia),length_replicate] at e2;obtain ⟨i',q1,q2,q3,q4⟩:=hcap.get e1';unfold fQ at e2;rw[getElem?_map,q1] at e2;have e2':(σ[i']?).join=some v:=Option.some.inj e2;have e3:σ[i']?=some (some v):=by
    cases z:σ[i']? with
    |none=>rw[z] at e2';cases e2'
    |some w=>
     rw[z] at e2';have e4:w=some v:=e2';rw[e4]
   obtain ⟨m,_,hl⟩:=I.loc;obtain ⟨u,r,l⟩:=hl i' x v q2 e3 (.inr (.inl q3));refine ⟨u,r,?_⟩;rcases l with ⟨z,_⟩|⟨_,c,z1,o,z2,z3⟩
   ·rw[q3] at z;cases z
   ·refine .inr ⟨.inl ?_,c,qX hown q4 z1,o,hk _ _ z2,z3⟩;exact kP I.ok.kind q4 q3
 ·rcases iP h with h|h
  ·exact ⟨none,(oc.empty _ _ h).1⟩
  ·obtain ⟨v,o,e,d⟩:=I.cell x c h;exact ⟨v,o,hk _ _ e,d⟩
 ·show (HS own.length is σ).length=(own++caps).length;unfold HS fQ;rw[length_append,length_append,length_replicate,length_map,hcap.length]
end
section
variable {X:Cx}
noncomputable def Kh:V->Option Int->Option Int->Hp->VK->Prop:=λx lo hi H Q=>∃z,x=.str z/\z.length<=sizeLine/\Q (.str (Txt.slice z lo hi)) H
theorem XM:Iy X Kh:=by
 intro pins s σ H x v vl vu lo hi sl Q I rx hs pl pu h;obtain ⟨z,rfl,hz,q⟩:=h;obtain ⟨t,rfl⟩:=rx;have fin:∀lo hi:Option Int,Q (.str (Txt.slice z lo hi)) H->(Txt.slice z lo hi).length<=sizeLine/\∀t' k,EP X pins σ Q (.str (Txt.slice z lo hi) t') {s with toks:=k}:=λlo hi q=>
  ⟨le_trans (Txt.slice_le z _ _) hz,λt' k=>⟨.str _,H,I.tok k,⟨t',rfl⟩,q⟩⟩
 refine ⟨"str",_,F.slot_str_getitem.lookup,typeIs_str _ _ _,?_⟩;cases pl with
 |none=>
  cases pu with
  |none=>exact wpAny_getItem_str_slice (l:=none) (u:=none) (st:=none) hs rfl (post_val_or_str (fin none none q))
  |int j t2=>exact wpAny_getItem_str_slice (l:=none) (u:=some (j,t2)) (st:=none) hs rfl (post_val_or_str (fin none (some j) q))
 |int i t1=>
  cases pu with
  |none=>exact wpAny_getItem_str_slice (l:=some (i,t1)) (u:=none) (st:=none) hs rfl (post_val_or_str (fin (some i) none q))
  |int j t2=>exact wpAny_getItem_str_slice (l:=some (i,t1)) (u:=some (j,t2)) (st:=none) hs rfl (post_val_or_str (fin (some i) (some j) q))
theorem cR (h0:0<=j):(Txt.slice z none (some j)).cps.toList=z.cps.toList.take j.toNat:=by
 have hl:z.cps.toList.length=z.length:=by simp [Str.length]
 by_cases h:j<=z.length
 ·have e:=beq_iff_eq.mp (slice_closes_to (x:=z) (j:=j) ⟨h0,by rw[hl];exact h⟩);rw[e];simp
 ·have e:=beq_iff_eq.mp (slice_closes_to (x:=z) (j:=(z.length:Int)) ⟨by lia,by rw[hl];exact Int.le_refl _⟩);rw[slice_to_beyond (by lia),e];show List.take ((z.length:Int) - 0).toNat (z.cps.toList.drop 0)=_;rw[drop_zero,take_of_length_le (by lia),take_of_length_le (by lia)]
theorem gM (h0:0<=i) (h1:i<=z.length):(Txt.slice z (some i) none).cps.toList=z.cps.toList.drop i.toNat:=by
 have hl:z.cps.toList.length=z.length:=by simp [Str.length]
 rw[slice_from_eq (b:=(z.length:Int)) h0 h1 rfl];show (z.cps.toList.drop i.toNat).take ((z.length:Int) - i).toNat=_;rw[take_of_length_le (by rw[length_drop];lia)]
theorem lQ (z:Str) (lo hi:Option Int):(Txt.slice z lo hi).length<=z.length:=Txt.slice_le z lo hi
noncomputable def Kk (K:Fg):List V->Hp->VK->Prop:=λxs H Q=>∃x n t b,xs=[x,.ty n]/\iV K H x t/\PySem.W.kitOne K t (.type n)=some b/\Q (.bl b) H
theorem OE:bZ X (.builtin "isinstance") (Kk X.K):=by
 intro pins s σ H xs us Q I rv h;obtain ⟨x,n,t,b,rfl,ty,k,q⟩:=h;obtain ⟨u,w',rfl,rx,ry⟩:=rv.two;cases (show w'=Value.type n from ry);exact GX I rx ty k λtk=>⟨.bl b,H,I.tok tk,rfl,q⟩
theorem oH (h:∀i v,P i v->v=.bool (tr i)):TruthOf prog w A P tr:=by
 intro i v s Q E hP hQ;rw[h i v hP];exact wpAny_pure hQ
noncomputable def YC (K:Fg):List V->Hp->VK->Prop:=λxs H Q=>∃(p:Addr) (bs:List Bool),xs=[.ref p]/\H p=some (.lst (bs.map V.bl))/\Q (.bl (bs.all id)) H
theorem OG (hc:X.calm=true):bZ X (.builtin "all") (YC X.K):=by
 intro pins s σ H xs us Q I rv h;obtain ⟨p,bs,rfl,hp,q⟩:=h;obtain ⟨u,rfl,ru⟩:=rv.one;cases (show u=Value.ref p from ru);obtain ⟨z,its,n,r,hl,e⟩:=I.lstM hp;have hlt:p<s.heap.objs.size:=lt_size e;have isl:s.heap.IsList p its.toArray:=⟨_,e,rfl,n,rfl⟩;refine call_all_walk ?_;refine wpAny_pyIter_list isl ?_;have hitm:∀(i:Nat) (v:Value),its.toArray[i]?=some v->v=Value.bool (bs.getD i true):=λi v hv=>by
  have hv':its[i]?=some v:=by simpa using hv
  have hi:i<its.length:=(List.getElem?_eq_some_iff.mp hv').1;have hib:i<bs.length:=by rw[length_map] at hl;lia
  have hb:(bs.map V.bl)[i]?=some (V.bl bs[i]):=by rw[getElem?_map,getElem?_eq_getElem hib];rfl
  obtain ⟨u',h1,h2⟩:=r.get hb;rw[hv'] at h1;cases h1;rw[getD_eq_getElem?_getD,getElem?_eq_getElem hib];exact h2
 refine ⟨s.heap.objs.size,_,_,_,_,_,λi=>bs.getD i true,rfl,Walks.list (A:=X.A.in1) (I.ok.hd hc) _ p (ne_of_lt hlt) its.toArray,⟨⟨_,get?_push_size _ rfl,rfl,rfl⟩,isl.at λo e=>get?_push_of_some _ e⟩,oH hitm,λh' tk hk=>?_⟩;have I1:Inv X pins σ H {s with heap:=h',toks:=tk}:=by
  have I0:Inv X pins σ H {s with heap:=s.heap.push {cls:=.type "list_iterator",data:=.fields #[.ref p,.int 0 0]}}:=I.kept (t':=s.toks) λb o e=>get?_push_of_some _ e;obtain ⟨f0,f1,f2,f3,f4,f5⟩:=I.fpOk (H':=H) (Nat.le_refl _) (I.hok.fresh (Nat.le_refl _));exact I0.turned (t':=tk) (λb o hb e=>hk b o (by simpa using hb) e) f0 f1 f3 f4 f5
 refine ⟨.bl _,H,I1,rfl,?_⟩;have ea:(range its.toArray.size).all (λi=>bs.getD i true)=bs.all id:=by
  rw[size_toArray,<-hl,length_map];rw[Bool.eq_iff_iff,all_eq_true,all_eq_true];constructor
  ·intro h b hb;obtain ⟨i,hi,rfl⟩:=List.mem_iff_getElem.mp hb;have q:=h i (mem_range.mpr hi);rw[getD_eq_getElem?_getD,getElem?_eq_getElem hi] at q;exact q
  ·intro h i hi;have hi:=mem_range.mp hi;rw[getD_eq_getElem?_getD,getElem?_eq_getElem hi];exact h _ (getElem_mem hi)
 rw[ea];exact q
end
noncomputable def NT:Const->Option V
 | .none=>some .non
 | .bool b=>some (.bl b)
 | .int i=>some (.int i)
 | .str x=>some (.str x)
 |_=>none
theorem FY (h:NT c=some v):PE X (.Constant c j pos) (tC v):=by
 cases c with
 |none=>cases h;exact YT
 |bool b=>cases h;exact Ep
 |int i=>cases h;exact YV
 |str x=>cases h;exact YR
 |_=>cases h
theorem aE (h:H p=none) (o:HO):aC H (upd H p o):=λb u q=>by rw[aF (aB q h)];exact q
theorem OJ (I:Inv X pins σ H s):sysModules<s.heap.objs.size:=by
 have h:mainGlobals<s.heap.objs.size:=(I.mod.glob.keeps I.bk).lt;exact lt_trans (by decide) h
end L2.L3
namespace ZD
open PySem PySem.Spec PyProof.Rows
section
variable {prog:Program} {w:World} {A:Around} {E:Value->Shared->Prop} {s:Shared}
theorem alive {α:Type} {M:Model} {a:Addr} {o:Obj} {k:Option Obj->Sem α} {Q:α->Shared->Prop} (ho:s.heap.get? a=some o) (h:wpAny M A (k (some o)) Q E s):wpAny M A (.loadIfAlive a k) Q E s:=λΓ p hi=>by
 rw[Sem.wp_loadIfAlive,ho];exact h Γ p hi
theorem LI (hit:s.heap.IsTupleIter it t i) (ht:s.heap.IsTuple t items) (hx:items[i]?=some x)
  (hQ:∀h',h'.IsTupleIter it t (i+1)->SameBut it s.heap h'->Q x {s with heap:=h'}):wpAny (model prog w) A (Builtin.SmallTypes.nextOf (.ref it)) Q E s:=by
 obtain ⟨oi,hoi,hci,hdi⟩:=id hit;obtain ⟨ot,hot,_,nt,hdt⟩:=ht;unfold Builtin.SmallTypes.nextOf;refine wpAny_bind (wpAny_callSpecial?_slot (name:=Str.ofString "__next__") hit.typeIs F.slot_tuple_iterator_next
  (wpAny_call_entry F.slot_tuple_iterator_next hit.typeIs F.entry_tuple_iterator_next ?_ (F.args_tuple_iterator_next_1 _)))
 show wpAny _ _ (field (.ref it) 0 >>=_) _ _ s;refine wpAny_bind (wpAny_field hoi hdi (x:=.ref t) rfl ?_);show wpAny _ _ (if (Value.ref t==Value.none)=true then _ else _) _ _ s;rw[if_neg (show ¬((Value.ref t==Value.none)=true) from Bool.false_ne_true)];show wpAny _ _ (field (.ref it) 1 >>=_) _ _ s;refine wpAny_bind (wpAny_field hoi hdi (x:=.int i 0) rfl ?_);show wpAny _ _ (seqItems? (.ref t) >>=_) _ _ s;refine wpAny_bind (wpAny_seqItems hot hdt ?_);simp only [toNat_natCast,hx];refine wpAny_bind (wpAny_setField hoi hdi (by simp) (wpAny_pure ⟨x,rfl,wpAny_pure (hQ _ ?_ (SameBut.update ..))⟩));exact ⟨_,get?_update_self _ hoi (Obj.isFreed_of_fields (Obj.data_mapFields hdi _)),(Obj.cls_mapFields ..).trans hci,by
  rw[Obj.data_mapFields hdi];simp [rawInt]⟩
structure cY (h:Heap) (it:Addr) (x:Str) (t:Tok) (i:Nat):Prop where
 ex:∃T:String,(T="str_ascii_iterator"\/T="str_iterator")/\h.IsStrIter it T x t i
theorem cY.at' {h h':Heap} {it:Addr} {x:Str} {t:Tok} {i:Nat} (z:cY h it x t i) (k:∀o,h.get? it=some o->h'.get? it=some o):cY h' it x t i:=by
 obtain ⟨T,hT,o,e,r⟩:=z.ex;exact ⟨T,hT,o,k o e,r⟩
theorem cY.lt {h:Heap} {it:Addr} {x:Str} {t:Tok} {i:Nat} (z:cY h it x t i):it<h.objs.size:=by
 obtain ⟨T,hT,o,e,r⟩:=z.ex;exact lt_size e
theorem DP {it:Addr} {x:Str} {t:Tok} {i c:Nat} {Q:Value->Shared->Prop} (hit:cY s.heap it x t i) (hx:x.cps[i]?=some c)
  (hQ:∀h' u tk,cY h' it x t (i+1)->SameBut it s.heap h'->Q (.str ⟨#[c]⟩ u) {s with heap:=h',toks:=tk}):wpAny (model prog w) A (Builtin.SmallTypes.nextOf (.ref it)) Q E s:=by
 obtain ⟨T,hT,z⟩:=hit.ex;rcases hT with rfl|rfl
 ·exact wpAny_nextOf_ascii_item z hx λh' z' sb=>hQ h' _ _ ⟨_,.inl rfl,z'⟩ sb
 ·exact wpAny_nextOf_wide_item z hx λh' z' sb=>hQ h' _ _ ⟨_,.inr rfl,z'⟩ sb
theorem mM {it:Addr} {x:Str} {t:Tok} {i:Nat} {Q:Value->Shared->Prop} (hh:A.handled=none) (hit:cY s.heap it x t i) (hx:x.cps[i]?=none)
  (hE:∀h' e,ExtBut it s.heap h'->(∃o,h'.get? e=some o/\o.cls=.type "StopIteration")->E (.ref e) {s with heap:=h'}):wpAny (model prog w) A (Builtin.SmallTypes.nextOf (.ref it)) Q E s:=by
 obtain ⟨T,hT,z⟩:=hit.ex;rcases hT with rfl|rfl
 ·exact wpAny_nextOf_ascii_end hh z hx hE
 ·exact wpAny_nextOf_wide_end hh z hx hE
noncomputable def PB (h:Heap) (i2 t:Addr) (items:Array Value) (k:Nat):Prop:=(h.IsTupleIter i2 t k/\h.IsTuple t items)\/(h.IsListIter i2 t k/\h.IsList t items)
theorem PB.at {h h':Heap} {i2 t:Addr} {items:Array Value} {k:Nat} (z:PB h i2 t items k) (k1:∀o,h.get? i2=some o->h'.get? i2=some o) (k2:∀o,h.get? t=some o->h'.get? t=some o):PB h' i2 t items k:=by
 rcases z with ⟨a,o,e,r⟩|⟨a,o,e,r⟩
 ·exact .inl ⟨a.at k1,o,k2 _ e,r⟩
 ·exact .inr ⟨a.at k1,o,k2 _ e,r⟩
theorem PB.lt {h:Heap} {i2 t:Addr} {items:Array Value} {k:Nat} (z:PB h i2 t items k):i2<h.objs.size:=by
 rcases z with ⟨⟨o,e,_⟩,_⟩|⟨⟨o,e,_⟩,_⟩
 ·exact lt_size e
 ·exact lt_size e
theorem PB.ltT (z:PB h i2 t items k):t<h.objs.size:=by
 rcases z with ⟨_,o,e,_⟩|⟨_,o,e,_⟩
 ·exact lt_size e
 ·exact lt_size e
theorem yQ {i2 t:Addr} {k:Nat} {items:Array Value} {x:Value} {Q:Value->Shared->Prop} (z:PB s.heap i2 t items k) (ht:t≠i2) (hx:items[k]?=some x)
  (hQ:∀h',PB h' i2 t items (k+1)->SameBut i2 s.heap h'->Q x {s with heap:=h'}):wpAny (model prog w) A (Builtin.SmallTypes.nextOf (.ref i2)) Q E s:=by
 rcases z with ⟨a,b⟩|⟨a,b⟩
 ·exact LI a b hx λh' j sb=>hQ h' (.inl ⟨j,let ⟨o,e,r⟩:=b;⟨o,sb.extBut _ _ ht e,r⟩⟩) sb
 ·exact wpAny_nextOf_list_item a b hx λh' j sb=>hQ h' (.inr ⟨j,let ⟨o,e,r⟩:=b;⟨o,sb.extBut _ _ ht e,r⟩⟩) sb
noncomputable def rZ (f0 f1:Value) (TI TO:Addr):Obj:={cls:=.type "zip",dict:=none,data:=.fields #[f0,f1,.bool false,.ref TI,.ref TO],slots:=#[]}
structure Apart (z TI TO i1 i2 t:Addr):Prop where
 TIz:TI≠z
 TOz:TO≠z
 i1z:i1≠z
 i2z:i2≠z
 TITO:TI≠TO
 TIi1:TI≠i1
 TIi2:TI≠i2
 TOi1:TO≠i1
 TOi2:TO≠i2
 i12:i1≠i2
 tz:t≠z
 tTO:t≠TO
 ti1:t≠i1
 ti2:t≠i2
structure AH (h:Heap) (z TI TO i1 i2 t:Addr) (x:Str) (tk:Tok) (items:Array Value) (k:Nat):Prop where
 zip:∃f0 f1,h.get? z=some (rZ f0 f1 TI TO)/\(f0=.none\/∃a o,f0=rawInt (a:Nat)/\h.get? a=some o/\a≠z/\a≠TO/\a≠i1/\a≠i2)
 pTI:IsPair h TI (.ref i1) (.ref i2)
 pTO:∃a b,IsPair h TO a b
 s1:cY h i1 x tk k
 s2:PB h i2 t items k
theorem AH.keep (y:AH h z TI TO i1 i2 t x tk items k) (kp:∀b o,h.get? b=some o->h'.get? b=some o):AH h' z TI TO i1 i2 t x tk items k:=by
 obtain ⟨⟨f0,f1,e,r⟩,p1,⟨a,b,p2⟩,s1,s2⟩:=y;refine ⟨⟨f0,f1,kp _ _ e,?_⟩,kp _ _ p1,⟨a,b,kp _ _ p2⟩,s1.at' λo=>kp _ o,s2.at (λo=>kp _ o) λo=>kp _ o⟩;rcases r with r|⟨a,o,r1,r2,r3⟩
 ·exact .inl r
 ·exact .inr ⟨a,o,r1,kp _ _ r2,r3⟩
theorem IH {z TI TO i1 i2 t:Addr} {x:Str} {tk:Tok} {items:Array Value} {k c:Nat} {y:Value} {Q:Value->Shared->Prop} (D:Apart z TI TO i1 i2 t) (S:AH s.heap z TI TO i1 i2 t x tk items k) (hx:x.cps[k]?=some c) (hy:items[k]?=some y)
  (hQ:∀h' T u tk',AH h' z TI TO i1 i2 t x tk items (k+1)->IsPair h' T (.str ⟨#[c]⟩ u) y->s.heap.objs.size<=T->(∀b o,b≠z->b≠TO->b≠i1->b≠i2->s.heap.get? b=some o->h'.get? b=some o)->Q (.ref T) {s with heap:=h',toks:=tk'}):
  wpAny (model prog w) A (Builtin.«zip.__next__» ⟨[.ref z],[]⟩) (λfin s'=>∃v,fin=.done (.ret v)/\Q v s') E s:=by
 obtain ⟨⟨f0,f1,hz,hf⟩,hTI,⟨a,b,hTO⟩,h1,h2⟩:=S;show wpAny _ _ (field (.ref z) 2 >>=_) _ _ _;refine wpAny_bind (wpAny_field hz rfl (x:=.bool false) rfl ?_);show wpAny _ _ (field (.ref z) 3 >>=_) _ _ _;refine wpAny_bind (wpAny_field hz rfl (x:=.ref TI) rfl ?_);refine wpAny_bind (wpAny_seqItems hTI rfl ?_);show wpAny _ _ (Builtin.SmallTypes.ownedTupleIsFree (.ref z) >>=_) _ _ _;refine wpAny_bind ?_;unfold Builtin.SmallTypes.ownedTupleIsFree;rcases hf with rfl|⟨q,oq,rfl,hq,q1,q2,q3,q4⟩
 ·refine wpAny_bind (wpAny_field hz rfl (x:=.none) rfl (wpAny_pure ?_));simp only [if_true];refine wpAny_bind (wpAny_rule ?_);refine wpAny_bind (wpAny_field hz rfl (x:=.ref TO) rfl ?_);refine wpAny_bind (wpAny_setField_rec hz (by simp) λg1 z1 b1=>?_);replace z1:g1.get? z=some (rZ .ellipsis f1 TI TO):=z1;refine wpAny_bind ?_;simp only [List.zipIdx_cons,List.zipIdx_nil,forIn_cons,forIn_nil];refine wpAny_bind (wpAny_bind (wpAny_onRaise ?_));show wpAny _ _ (Builtin.SmallTypes.nextOf (.ref i1) >>=_) _ _ _;refine wpAny_bind (DP (h1.at' λo e=>b1.extBut _ _ D.i1z e) hx λg2 u tk2 i2' b2=>wpAny_pure ?_);have o2:IsPair g2 TO a b:=b2.extBut _ _ D.TOi1 (b1.extBut _ _ D.TOz hTO);refine wpAny_bind (wpAny_seqItems o2 rfl ?_);refine wpAny_bind (wpAny_updateSeq_pair o2 λg3 o3 b3=>?_);replace o3:IsPair g3 TO (.str ⟨#[c]⟩ u) b:=o3;refine wpAny_bind (wpAny_letGo (wpAny_pure ?_));refine wpAny_bind (wpAny_bind (wpAny_onRaise ?_));show wpAny _ _ (Builtin.SmallTypes.nextOf (.ref i2) >>=_) _ _ _;have up3:∀c o,c≠z->c≠TO->c≠i1->s.heap.get? c=some o->g3.get? c=some o:=λc o c1 c2 c3 e=>b3.extBut _ _ c2 (b2.extBut _ _ c3 (b1.extBut _ _ c1 e));refine wpAny_bind (yQ (h2.at (λo e=>up3 _ _ D.i2z D.TOi2.symm D.i12.symm e) λo e=>up3 _ _ D.tz D.tTO D.ti1 e) D.ti2 hy λg4 j4 b4=>wpAny_pure ?_);have o4:IsPair g4 TO (.str ⟨#[c]⟩ u) b:=b4.extBut _ _ D.TOi2 o3;refine wpAny_bind (wpAny_seqItems o4 rfl ?_);refine wpAny_bind (wpAny_updateSeq_pair o4 λg5 o5 b5=>?_);replace o5:IsPair g5 TO (.str ⟨#[c]⟩ u) y:=o5;refine wpAny_bind (wpAny_letGo (wpAny_pure (wpAny_pure ?_)));refine wpAny_bind (wpAny_seqItems o5 rfl ?_);refine wpAny_bind (wpAny_newTuple ?_);have sz:g5.objs.size=s.heap.objs.size:=by rw[b5.1,b4.1,b3.1,b2.1,b1.1]
  have z5:g5.get? z=some (rZ .ellipsis f1 TI TO):=b5.extBut _ _ D.TOz.symm (b4.extBut _ _ D.i2z.symm (b3.extBut _ _ D.TOz.symm (b2.extBut _ _ D.i1z.symm z1)));have up5:∀c o,c≠z->c≠TO->c≠i1->c≠i2->s.heap.get? c=some o->g5.get? c=some o:=λc o c1 c2 c3 c4 e=>b5.extBut _ _ c2 (b4.extBut _ _ c4 (up3 c o c1 c2 c3 e));have s5:cY g5 i1 x tk (k+1):=i2'.at' λo e=>b5.extBut _ _ D.TOi1.symm (b4.extBut _ _ D.i12 (b3.extBut _ _ D.TOi1.symm e));have j5:PB g5 i2 t items (k+1):=j4.at (λo e=>b5.extBut _ _ D.TOi2.symm e) λo e=>b5.extBut _ _ D.tTO e;show wpAny _ _ (Builtin.SmallTypes.ownedTupleHandOut (.ref z) (.ref g5.objs.size) >>=_) _ _ _;refine wpAny_bind ?_;unfold Builtin.SmallTypes.ownedTupleHandOut;have z6:(g5.push {cls:=.type "tuple",data:=.seq #[.str ⟨#[c]⟩ u,y]}).get? z=some (rZ .ellipsis f1 TI TO):=get?_push_of_some _ z5;refine wpAny_bind (wpAny_setField_rec z6 (by simp) λg7 z7 b7=>?_);replace z7:g7.get? z=some (rZ (rawInt g5.objs.size) f1 TI TO):=z7;refine wpAny_setField_rec z7 (by simp) λg8 z8 b8=>?_;replace z8:g8.get? z=some (rZ (rawInt g5.objs.size) (.bool false) TI TO):=z8;have up:∀c o,c≠z->g5.get? c=some o->g8.get? c=some o:=λc o c1 e=>b8.extBut _ _ c1 (b7.extBut _ _ c1 (get?_push_of_some _ e));have zlt:z<g5.objs.size:=lt_size z5;have T8:IsPair g8 g5.objs.size (.str ⟨#[c]⟩ u) y:=b8.extBut _ _ (ne_of_gt zlt) (b7.extBut _ _ (ne_of_gt zlt) (get?_push_size _ rfl));refine wpAny_pure ⟨_,rfl,?_⟩;refine hQ g8 g5.objs.size u tk2 ⟨⟨_,_,z8,.inr ⟨g5.objs.size,_,rfl,T8,ne_of_gt zlt,ne_of_gt (lt_size o5),ne_of_gt s5.lt,?_⟩⟩,up _ _ D.TIz (up5 _ _ D.TIz D.TITO D.TIi1 D.TIi2 hTI),⟨_,_,up _ _ D.TOz o5⟩,s5.at' λo e=>up _ _ D.i1z e,j5.at (λo e=>up _ _ D.i2z e) λo e=>up _ _ D.tz e⟩ T8 (le_of_eq sz.symm) λc o c1 c2 c3 c4 e=>up c o c1 (up5 c o c1 c2 c3 c4 e);exact ne_of_gt j5.lt
 ·refine wpAny_bind (wpAny_field hz rfl (x:=rawInt (q:Nat)) rfl ?_);show wpAny _ _ (loadIfAlive ((q:Int)).toNat >>=_) _ _ _;refine wpAny_bind ?_;unfold loadIfAlive;refine alive (o:=oq) (by simpa using hq) (wpAny_pure ?_);simp only [Option.isNone_some,false_eq_true,if_false];refine wpAny_bind (wpAny_field hz rfl (x:=f1) rfl ?_);refine wpAny_mono (Q:=λr s'=>r=false/\∃g1 f1',s'={s with heap:=g1}/\g1.get? z=some (rZ (rawInt (q:Nat)) f1' TI TO)/\SameBut z s.heap g1) ?_ (λr s' hr=>?_) (λ_ _ e=>e)
  ·by_cases hb:(f1 != Value.bool true)=true
   ·rw[if_pos hb];exact wpAny_bind (wpAny_setField_rec hz (by simp) λg1 z1 b1=>wpAny_pure ⟨rfl,g1,.bool true,rfl,z1,b1⟩)
   ·rw[if_neg hb];exact wpAny_pure ⟨rfl,s.heap,f1,rfl,hz,.refl ..⟩
  obtain ⟨rfl,g1,f1',rfl,z1,b1⟩:=hr;simp only [false_eq_true,if_false];refine wpAny_bind ?_;simp only [List.forIn_toArray,forIn_cons,forIn_nil];refine wpAny_bind (wpAny_bind (wpAny_holding ?_));show wpAny _ _ (Builtin.SmallTypes.nextOf (.ref i1) >>=_) _ _ _;refine wpAny_bind (DP (h1.at' λo e=>b1.extBut _ _ D.i1z e) hx λg2 u tk2 i2' b2=>wpAny_pure ?_);refine wpAny_pure ?_;refine wpAny_bind (wpAny_bind (wpAny_holding ?_));show wpAny _ _ (Builtin.SmallTypes.nextOf (.ref i2) >>=_) _ _ _;have up2:∀c o,c≠z->c≠i1->s.heap.get? c=some o->g2.get? c=some o:=λc o c1 c3 e=>b2.extBut _ _ c3 (b1.extBut _ _ c1 e);refine wpAny_bind (yQ (h2.at (λo e=>up2 _ _ D.i2z D.i12.symm e) λo e=>up2 _ _ D.tz D.ti1 e) D.ti2 hy λg4 j4 b4=>wpAny_pure ?_);refine wpAny_pure (wpAny_pure ?_);refine wpAny_bind (wpAny_newTuple (hsz:=by show 2<=sizeLine;decide) ?_);have up4:∀c o,c≠z->c≠i1->c≠i2->s.heap.get? c=some o->g4.get? c=some o:=λc o c1 c3 c4 e=>b4.extBut _ _ c4 (up2 c o c1 c3 e);have sz:g4.objs.size=s.heap.objs.size:=by rw[b4.1,b2.1,b1.1]
  have z4:g4.get? z=some (rZ (rawInt (q:Nat)) f1' TI TO):=b4.extBut _ _ D.i2z.symm (b2.extBut _ _ D.i1z.symm z1);refine wpAny_pure ⟨_,rfl,?_⟩;refine hQ _ g4.objs.size u tk2 ⟨⟨_,_,get?_push_of_some _ z4,.inr ⟨q,oq,rfl,get?_push_of_some _ (up4 _ _ q1 q3 q4 hq),q1,q2,q3,q4⟩⟩,get?_push_of_some _ (up4 _ _ D.TIz D.TIi1 D.TIi2 hTI),⟨_,_,get?_push_of_some _ (up4 _ _ D.TOz D.TOi1 D.TOi2 hTO)⟩,
   i2'.at' λo e=>get?_push_of_some _ (b4.extBut _ _ D.i12 e),j4.at (λo e=>get?_push_of_some _ e) λo e=>get?_push_of_some _ e⟩ (get?_push_size _ rfl) (le_of_eq sz.symm) λc o c1 c2 c3 c4 e=>get?_push_of_some _ (up4 c o c1 c3 c4 e)
theorem PQ {z TI TO i1 i2 t:Addr} {x:Str} {tk:Tok} {items:Array Value} {k:Nat} {Q:Fin->Shared->Prop} (hh:A.handled=none) (D:Apart z TI TO i1 i2 t) (S:AH s.heap z TI TO i1 i2 t x tk items k) (hx:x.cps[k]?=none)
  (hE:∀h' e,(∀b o,b≠z->b≠TO->b≠i1->b≠i2->s.heap.get? b=some o->h'.get? b=some o)->(∃o,h'.get? e=some o/\o.cls=.type "StopIteration")->E (.ref e) {s with heap:=h'}):
  wpAny (model prog w) A (Builtin.«zip.__next__» ⟨[.ref z],[]⟩) Q E s:=by
 obtain ⟨⟨f0,f1,hz,hf⟩,hTI,⟨a,b,hTO⟩,h1,h2⟩:=S;show wpAny _ _ (field (.ref z) 2 >>=_) _ _ _;refine wpAny_bind (wpAny_field hz rfl (x:=.bool false) rfl ?_);show wpAny _ _ (field (.ref z) 3 >>=_) _ _ _;refine wpAny_bind (wpAny_field hz rfl (x:=.ref TI) rfl ?_);refine wpAny_bind (wpAny_seqItems hTI rfl ?_);show wpAny _ _ (Builtin.SmallTypes.ownedTupleIsFree (.ref z) >>=_) _ _ _;refine wpAny_bind ?_;unfold Builtin.SmallTypes.ownedTupleIsFree;rcases hf with rfl|⟨q,oq,rfl,hq,q1,q2,q3,q4⟩
 ·refine wpAny_bind (wpAny_field hz rfl (x:=.none) rfl (wpAny_pure ?_));simp only [if_true];refine wpAny_bind (wpAny_rule ?_);refine wpAny_bind (wpAny_field hz rfl (x:=.ref TO) rfl ?_);refine wpAny_bind (wpAny_setField_rec hz (by simp) λg1 z1 b1=>?_);replace z1:g1.get? z=some (rZ .ellipsis f1 TI TO):=z1;refine wpAny_bind ?_;simp only [List.zipIdx_cons,List.zipIdx_nil,forIn_cons,forIn_nil];refine wpAny_bind (wpAny_bind (wpAny_onRaise ?_));show wpAny _ _ (Builtin.SmallTypes.nextOf (.ref i1) >>=_) _ _ _;refine wpAny_bind (mM hh (h1.at' λo e=>b1.extBut _ _ D.i1z e) hx λg2 e b2 he=>?_);obtain ⟨oe,hoe,hce⟩:=he;have z2:g2.get? z=some (rZ .ellipsis f1 TI TO):=b2 _ _ D.i1z.symm z1;have ne:e≠z:=λy=>by
   subst y;rw[z2] at hoe;cases hoe;have c':(Value.type "zip")=.type "StopIteration":=hce;simp at c'
  exact wpAny_setField_rec z2 (by simp) λg3 _ b3=>hE g3 e (λc o c1 _ c3 _ y=>b3.extBut _ _ c1 (b2 _ _ c3 (b1.extBut _ _ c1 y))) ⟨oe,b3.extBut _ _ ne hoe,hce⟩
 ·refine wpAny_bind (wpAny_field hz rfl (x:=rawInt (q:Nat)) rfl ?_);show wpAny _ _ (loadIfAlive ((q:Int)).toNat >>=_) _ _ _;refine wpAny_bind ?_;unfold loadIfAlive;refine alive (o:=oq) (by simpa using hq) (wpAny_pure ?_);simp only [Option.isNone_some,false_eq_true,if_false];refine wpAny_bind (wpAny_field hz rfl (x:=f1) rfl ?_);refine wpAny_mono (Q:=λr s'=>r=false/\∃g1,s'={s with heap:=g1}/\SameBut z s.heap g1) ?_ (λr s' hr=>?_) (λ_ _ e=>e)
  ·by_cases hb:(f1 != Value.bool true)=true
   ·rw[if_pos hb];exact wpAny_bind (wpAny_setField_rec hz (by simp) λg1 z1 b1=>wpAny_pure ⟨rfl,g1,rfl,b1⟩)
   ·rw[if_neg hb];exact wpAny_pure ⟨rfl,s.heap,rfl,.refl ..⟩
  obtain ⟨rfl,g1,rfl,b1⟩:=hr;simp only [false_eq_true,if_false];refine wpAny_bind ?_;simp only [List.forIn_toArray,forIn_cons,forIn_nil];refine wpAny_bind (wpAny_bind (wpAny_holding ?_));show wpAny _ _ (Builtin.SmallTypes.nextOf (.ref i1) >>=_) _ _ _;exact wpAny_bind (mM hh (h1.at' λo e=>b1.extBut _ _ D.i1z e) hx λg2 e b2 he=>hE g2 e (λc o c1 _ c3 _ y=>b2 _ _ c3 (b1.extBut _ _ c1 y)) he)
theorem QW (D:Apart z TI TO i1 i2 t) (S:AH s.heap z TI TO i1 i2 t x tk items k) (hx:x.cps[k]?=some c) (hy:items[k]?=some y)
  (hQ:∀h' T u tk',AH h' z TI TO i1 i2 t x tk items (k+1)->IsPair h' T (.str ⟨#[c]⟩ u) y->s.heap.objs.size<=T->(∀b o,b≠z->b≠TO->b≠i1->b≠i2->s.heap.get? b=some o->h'.get? b=some o)->Q (some (.ref T)) {s with heap:=h',toks:=tk'}):
  wpAny (model prog w) A (pyNext (.ref z)) Q E s:=by
 have hT:s.TypeIs (.ref z) "zip":=let ⟨_,_,e,_⟩:=S.zip;⟨_,e,rfl⟩;unfold pyNext;exact wpAny_bind (wpAny_attempt (wpAny_callSpecial?_slot (name:=Str.ofString "__next__") hT F.slot_zip_next
  (wpAny_call_entry F.slot_zip_next hT F.entry_zip_next (IH D S hx hy λh' T u tk' a1 a2 a3 a4=>wpAny_pure (hQ h' T u tk' a1 a2 a3 a4)) (F.args_zip_next_1 _))))
theorem YD (hh:A.handled=none) (D:Apart z TI TO i1 i2 t) (S:AH s.heap z TI TO i1 i2 t x tk items k) (hx:x.cps[k]?=none)
  (hQ:∀h',(∀b o,b≠z->b≠TO->b≠i1->b≠i2->s.heap.get? b=some o->h'.get? b=some o)->Q none {s with heap:=h'}):wpAny (model prog w) A (pyNext (.ref z)) Q E s:=by
 have hT:s.TypeIs (.ref z) "zip":=let ⟨_,_,e,_⟩:=S.zip;⟨_,e,rfl⟩;unfold pyNext;refine wpAny_bind (wpAny_attempt (wpAny_callSpecial?_slot (name:=Str.ofString "__next__") hT F.slot_zip_next
  (wpAny_call_entry F.slot_zip_next hT F.entry_zip_next (PQ hh D S hx λh' e hk he=>?_) (F.args_zip_next_1 _))))
 obtain ⟨o,ho,hc⟩:=he;refine wpAny_bind (wpAny_isInstance (T:="StopIteration") (b:=true) ⟨o,ho,hc⟩ isSubtype_stop ?_);exact wpAny_pure (hQ _ hk)
end
theorem NN:entryFor table "zip.__getattribute__"=some Builtin.«object.__getattribute__»:=
 entryFor_alias (id':="object.__getattribute__") (by kernel_rfl) (by decide+kernel) (by decide+kernel) (by kernel_rfl)
theorem SE:typeLookup (.type "zip") "keys"=pure none:=by rw[typeLookup_type,builtinLookup_eq_fast];kernel_rfl
theorem BK:typeLookup (.type "zip") "__getattr__"=pure none:=by rw[typeLookup_type,builtinLookup_eq_fast];kernel_rfl
theorem BM (a:Addr) (vs:Array Value) (name:Str) (u:Tok) (hmiss:typeLookup (.type "zip") name=pure none) (hname:(["__module__","__name__","__qualname__","__doc__","__annotations__"]:List Str).contains name=false) (hsz:name.length+100<=sizeLine):
  Meets (Builtin.«object.__getattribute__» ⟨[.ref a,.str name u],[]⟩) (λA R s=>s.heap.get? a=some {cls:=.type "zip",dict:=none,data:=.fields vs,slots:=#[]}/\raisesAttr (.ref a) name A R s):=
 Meets.of_wp λprog w A R s hs=>by
  obtain ⟨hp,g,d,tk,os⟩:=s;obtain ⟨hx,hs⟩:=hs;have hT:(⟨hp,g,d,tk,os⟩:Shared).TypeIs (.ref a) "zip":=⟨_,hx,rfl⟩;unfold Builtin.«object.__getattribute__»
  repeat (any_goals (first|assumption|wp_step))
  simp only [hname,false_eq_true,if_false]
  repeat (any_goals (first|assumption|wp_step))
  exact wpAny_raiseAttrError hs.1 hs.2 (attrMsg_fits (by decide+kernel) hsz)
section
variable {prog:Program} {w:World} {A:Around} {E:Value->Shared->Prop} {s:Shared}
theorem vF (hx:s.heap.get? a=some {cls:=.type "zip",dict:=none,data:=.fields vs,slots:=#[]}) (hA:A.handled=none)
  (h:∀h' tk,(∀b o,s.heap.get? b=some o->h'.get? b=some o)->Q none {s with heap:=h',toks:=tk}):wpAny (model prog w) A (getAttr? (.ref a) "keys") Q E s:=by
 obtain ⟨hp,g,d,tk,os⟩:=s;have hT:∀tk',(⟨hp,g,d,tk',os⟩:Shared).TypeIs (.ref a) "zip":=λ_=>⟨_,hx,rfl⟩;have f1:=sub_AttributeError;have f3:=F.slot_zip_getattribute.lookup;have f4:=F.slot_zip_getattribute.bind (.ref a);have f5:=BK;unfold getAttr? getAttrBy? getAttrBy
 repeat (any_goals (first|assumption|exact hT _|((with_reducible show wpAny _ _ (call (Value.builtin "zip.__getattribute__") _ _) _ _ _);refine call_meets F.slot_zip_getattribute (hT _) NN (F.args_zip_getattribute_2 _ _) (BM a vs "keys" _ SE (by decide+kernel) (by decide+kernel)) ⟨hx,hA,λh' tk' e hx'=>?_⟩)|wp_step))
 obtain ⟨t',u',he⟩:=hx'.there;show wpAny _ _ (getattributeRaised _ _ _ _ _ _ _) _ _ _;unfold getattributeRaised
 repeat (any_goals (first|assumption|wp_step))
 exact h _ _ hx'.keeps
end
end ZD
namespace ZD
open PySem PySem.Spec PyProof.Rows
theorem gQ:entryFor table "dict.update.loop"=some Builtin.«dict.update.loop»:=entryFor_of_tree (by kernel_rfl)
theorem bX:plainId "dict.update.loop"=true:=by decide+kernel
noncomputable def storeAll {K:Type} [DecidableEq K] (kk:Nat->K) (items:Array Value):Nat->Nat->List (K × Value)->List (K × Value)
 |0,_,kvs=>kvs
 |n+1,k,kvs=>storeAll kk items n (k+1) (stored kvs (kk k) (items[k]?.getD .none))
theorem AV {K:Type} [DecidableEq K] (kvs:List (K × Value)) (k:K) (v:Value):(stored kvs k v).length<=kvs.length+1:=by
 unfold stored;split
 ·simp
 ·simp
theorem AH.but (y:AH h z TI TO i1 i2 t x tk items k) (sb:SameBut d h h') (d1:d≠z) (d2:d≠TO) (d3:d≠i1) (d4:d≠i2) (d5:d≠TI) (d6:d≠t) (ob:∃o,h'.get? d=some o):
  AH h' z TI TO i1 i2 t x tk items k:=by
 obtain ⟨⟨f0,f1,e,r⟩,p1,⟨a,b,p2⟩,s1,s2⟩:=y;refine ⟨⟨f0,f1,sb.extBut _ _ d1.symm e,?_⟩,sb.extBut _ _ d5.symm p1,⟨a,b,sb.extBut _ _ d2.symm p2⟩,s1.at' λo e=>sb.extBut _ _ d3.symm e,s2.at (λo e=>sb.extBut _ _ d4.symm e) λo e=>sb.extBut _ _ d6.symm e⟩;rcases r with r|⟨a,o,r1,r2,r3⟩
 ·exact .inl r
 ·by_cases ha:a=d
  ·obtain ⟨o',e'⟩:=ob;exact .inr ⟨a,o',r1,by rw[ha];exact e',r3⟩
  ·exact .inr ⟨a,o,r1,sb.extBut _ _ ha r2,r3⟩
section
variable {prog:Program} {w:World} {A:Around} {K:Type} [DecidableEq K] {knd:KeyKind prog w K} {R:Result->Shared->Prop} {d z TI TO i1 i2 t:Addr} {x:Str} {tk:Tok} {items:Array Value}
theorem IQ (hk:∀i c u,x.cps[i]?=some c->knd.is (kk i) (.str ⟨#[c]⟩ u)=true) (D:Apart z TI TO i1 i2 t) (hh:A.handled=none) (d1:d≠z) (d2:d≠TO) (d3:d≠i1) (d4:d≠i2) (d5:d≠TI) (d6:d≠t) (hsz:x.cps.size=items.size) (hle:x.cps.size<=1000):
  ∀(n k:Nat) (j:Int) (s:Shared) (kvs:List (K × Value)),k+n=x.cps.size->AH s.heap z TI TO i1 i2 t x tk items k->s.heap.DictOf knd d kvs->kvs.length<=k->
   (∀h' tk',h'.DictOf knd d (storeAll kk items n k kvs)->(∀b o,b≠z->b≠TO->b≠i1->b≠i2->b≠d->s.heap.get? b=some o->h'.get? b=some o)->R (.ok (.ret .none)) {s with heap:=h',toks:=tk'})->
   codeAny (model prog w) A (.builtin "dict.update.loop" ⟨[.ref d,.ref z,rawInt j,.none],[]⟩) R s:=by
 intro n;induction n with
 |zero=>
  intro k j s kvs hkn S hd hl hR;refine codeAny_builtin gQ ?_;rw[Around.under_plainId bX _];show wpAny _ A.in1 (pyNext (.ref z) >>=_) _ _ s;refine wpAny_bind (YD hh D S (by simp;lia) λh' hk'=>?_);show wpAny _ _ (Builtin.Dict.addKeywords d [] >>=_) _ _ _;refine wpAny_bind (wpAny_pure (wpAny_pure ?_));exact hR h' s.toks (let ⟨o,es,ep,ho,r⟩:=hd;⟨o,es,ep,hk' d o d1 d2 d3 d4 ho,r⟩) λb o b1 b2 b3 b4 _ e=>hk' b o b1 b2 b3 b4 e
 |succ n ih=>
  intro k j s kvs hkn S hd hl hR;have hkx:k<x.cps.size:=by lia
  have hx:x.cps[k]?=some x.cps[k]:=by simp [hkx]
  have hy:items[k]?=some items[k]:=by simp
  refine codeAny_builtin gQ ?_;rw[Around.under_plainId bX _];show wpAny _ A.in1 (pyNext (.ref z) >>=_) _ _ s;refine wpAny_bind (QW D S hx hy λh' T u tk' S' pT hT hk'=>?_);refine wpAny_bind (wpAny_holding ?_);have hTy:(⟨h',s.gens,s.drawn,tk',s.os⟩:Shared).TypeIs (.ref T) "tuple":=⟨_,pT,rfl⟩;refine wpAny_bind (wpAny_tryCatch ?_);unfold Builtin.Dict.pairItems;refine wpAny_bind (wpAny_typeOf hTy ?_);rw[if_pos (by decide)];refine wpAny_bind (wpAny_seqItems (s:=⟨h',s.gens,s.drawn,tk',s.os⟩) pT rfl (wpAny_pure ?_));show wpAny _ _ (holding [.str ⟨#[x.cps[k]]⟩ u,items[k]] (dictSet d (.str ⟨#[x.cps[k]]⟩ u) items[k])) _ _ _;have hd':h'.DictOf knd d kvs:=let ⟨o,es,ep,ho,r⟩:=hd;⟨o,es,ep,hk' d o d1 d2 d3 d4 ho,r⟩;refine wpAny_holding (wpAny_dictSet_pairs (s:=⟨h',s.gens,s.drawn,tk',s.os⟩) (hk k _ u hx) hd' (λh2 hd2 sb=>?_) (le_of_lt (Nat.lt_of_le_of_lt (show kvs.length<=1000 by lia) (by decide))));refine wpAny_pure ⟨plainId_quiet bX _,?_⟩;have ob:∃o,h2.get? d=some o:=let ⟨o,_,_,ho,_⟩:=hd2;⟨o,ho⟩;refine ih (k+1) (j+1) _ _ (by lia) (S'.but sb d1 d2 d3 d4 d5 d6 ob) hd2 ?_ (λh3 tk3 hd3 hk3=>?_)
  ·have:=AV kvs (kk k) items[k];lia
  ·have e:storeAll kk items (n+1) k kvs=storeAll kk items n (k+1) (stored kvs (kk k) items[k]):=by
    show storeAll kk items n (k+1) (stored kvs (kk k) (items[k]?.getD .none))=_;rw[hy];rfl
   refine hR h3 tk3 (by rw[e];exact hd3) λb o b1 b2 b3 b4 b5 eb=>hk3 b o b1 b2 b3 b4 b5 (sb.extBut b o b5 (hk' b o b1 b2 b3 b4 eb))
end
end ZD
namespace ZD
open PySem PySem.Spec PyProof.Rows
noncomputable abbrev zA (h:Heap) (x:Str) (tk:Tok):Heap:=h.push {cls:=.type "str_ascii_iterator",data:=.fields #[.str x tk,.int 0 0]}
noncomputable abbrev zB (T:String) (h:Heap) (x:Str) (tk:Tok) (t:Addr):Heap:=(zA h x tk).push {cls:=.type T,data:=.fields #[.ref t,.int 0 0]}
noncomputable abbrev zC (T:String) (h:Heap) (x:Str) (tk:Tok) (t:Addr):Heap:=(zB T h x tk t).push {cls:=.type "tuple",data:=.seq #[.ref h.objs.size,.ref (zA h x tk).objs.size]}
noncomputable abbrev zD (T:String) (h:Heap) (x:Str) (tk:Tok) (t:Addr):Heap:=(zC T h x tk t).push {cls:=.type "tuple",data:=.seq #[.none,.none]}
noncomputable abbrev zE (T:String) (h:Heap) (x:Str) (tk:Tok) (t:Addr):Heap:=(zD T h x tk t).push {cls:=.type "zip",data:=.fields #[.none,.bool false,.bool false,.ref (zB T h x tk t).objs.size,.ref (zC T h x tk t).objs.size]}
theorem GO (x:Str) (tk:Tok) (t:Addr) (items:Array Value) (ha:x.cps.all (·<128)=true):
  Meets (Builtin.«zip.__new__» ⟨[.type "zip",.str x tk,.ref t],[]⟩) (λ_ R s=>s.heap.IsTuple t items/\R (.ok (.ret (.ref (zD "tuple_iterator" s.heap x tk t).objs.size))) {s with heap:=zE "tuple_iterator" s.heap x tk t}):=
 .of_wp λprog w A R s h=>by
  obtain ⟨hp,g,d,tks,os⟩:=s;obtain ⟨ht,h⟩:=h;have hsub:=sub_zip;have hT:Heap.IsTuple (Shared.heap ⟨hp.push {cls:=.type "str_ascii_iterator",data:=.fields #[.str x tk,.int 0 0]},g,d,tks,os⟩) t items:=let ⟨o,e,r⟩:=ht;⟨o,get?_push_of_some _ e,r⟩
  wp_walk using wpAny_pyIter_ascii (t:=tk) ha,wpAny_pyIter_tuple hT
  exact ⟨_,rfl,h⟩
theorem BL (x:Str) (tk:Tok) (t:Addr) (items:Array Value) (ha:x.cps.all (·<128)=true):
  Meets (Builtin.«zip.__new__» ⟨[.type "zip",.str x tk,.ref t],[]⟩) (λ_ R s=>s.heap.IsList t items/\R (.ok (.ret (.ref (zD "list_iterator" s.heap x tk t).objs.size))) {s with heap:=zE "list_iterator" s.heap x tk t}):=
 .of_wp λprog w A R s h=>by
  obtain ⟨hp,g,d,tks,os⟩:=s;obtain ⟨ht,h⟩:=h;have hsub:=sub_zip;have hT:Heap.IsList (Shared.heap ⟨hp.push {cls:=.type "str_ascii_iterator",data:=.fields #[.str x tk,.int 0 0]},g,d,tks,os⟩) t items:=let ⟨o,e,r⟩:=ht;⟨o,get?_push_of_some _ e,r⟩
  wp_walk using wpAny_pyIter_ascii (t:=tk) ha,wpAny_pyIter_list hT
  exact ⟨_,rfl,h⟩
section
variable {prog:Program} {w:World} {A:Around} {E:Value->Shared->Prop} {s:Shared}
theorem IG (T:String) (hT:T="tuple_iterator"\/T="list_iterator") {x:Str} {tk:Tok} {t:Addr} {items:Array Value} {Q:Value->Shared->Prop} (ht:(T="tuple_iterator"/\s.heap.IsTuple t items)\/(T="list_iterator"/\s.heap.IsList t items))
  (h:∀h',AH h' (s.heap.objs.size+4) (s.heap.objs.size+2) (s.heap.objs.size+3) s.heap.objs.size (s.heap.objs.size+1) t x tk items 0->h'.objs.size=s.heap.objs.size+5->(∀c o,s.heap.get? c=some o->h'.get? c=some o)->Q (.ref (s.heap.objs.size+4)) {s with heap:=h'}):
  ({s with heap:=zE T s.heap x tk t}:Shared).TypeIs (.ref (zD T s.heap x tk t).objs.size) "zip"/\Q (.ref (zD T s.heap x tk t).objs.size) {s with heap:=zE T s.heap x tk t}:=by
 have z1:(zA s.heap x tk).objs.size=s.heap.objs.size+1:=Heap.size_push ..;have z2:(zB T s.heap x tk t).objs.size=s.heap.objs.size+2:=by rw[Heap.size_push,z1]
 have z3:(zC T s.heap x tk t).objs.size=s.heap.objs.size+3:=by rw[Heap.size_push,z2]
 have z4:(zD T s.heap x tk t).objs.size=s.heap.objs.size+4:=by rw[Heap.size_push,z3]
 have z5:(zE T s.heap x tk t).objs.size=s.heap.objs.size+5:=by rw[Heap.size_push,z4]
 have g5:(zE T s.heap x tk t).get? (zD T s.heap x tk t).objs.size=some _:=get?_push_size _ rfl;have g4:(zE T s.heap x tk t).get? (zC T s.heap x tk t).objs.size=some _:=get?_push_of_some _ (get?_push_size _ rfl);have g3:(zE T s.heap x tk t).get? (zB T s.heap x tk t).objs.size=some _:=get?_push_of_some _ (get?_push_of_some _ (get?_push_size _ rfl));have g2:(zE T s.heap x tk t).get? (zA s.heap x tk).objs.size=some _:=get?_push_of_some _ (get?_push_of_some _ (get?_push_of_some _ (get?_push_size _ rfl)));have g1:(zE T s.heap x tk t).get? s.heap.objs.size=some _:=get?_push_of_some _ (get?_push_of_some _ (get?_push_of_some _ (get?_push_of_some _ (get?_push_size _ rfl))));have up:∀c o,s.heap.get? c=some o->(zE T s.heap x tk t).get? c=some o:=λc o y=>get?_push_of_some _ (get?_push_of_some _ (get?_push_of_some _ (get?_push_of_some _ (get?_push_of_some _ y))));rw[z2,z3,z4] at g5;rw[z1,z2] at g3;rw[z3] at g4;rw[z1] at g2;rw[z4];refine ⟨⟨_,g5,rfl⟩,h _ ⟨⟨_,_,g5,.inl rfl⟩,g3,⟨_,_,g4⟩,⟨_,.inl rfl,_,g1,rfl,rfl⟩,?_⟩ z5 up⟩;rcases ht with ⟨rfl,o,e,r⟩|⟨rfl,o,e,r⟩
 ·exact .inl ⟨⟨_,g2,rfl,rfl⟩,o,up _ _ e,r⟩
 ·exact .inr ⟨⟨_,g2,rfl,rfl⟩,o,up _ _ e,r⟩
theorem OC (ha:x.cps.all (·<128)=true) (ht:s.heap.IsTuple t items\/s.heap.IsList t items)
  (h:∀h',AH h' (s.heap.objs.size+4) (s.heap.objs.size+2) (s.heap.objs.size+3) s.heap.objs.size (s.heap.objs.size+1) t x tk items 0->h'.objs.size=s.heap.objs.size+5->(∀c o,s.heap.get? c=some o->h'.get? c=some o)->Q (.ref (s.heap.objs.size+4)) {s with heap:=h'}):
  wpAny (model prog w) A (call (.type "zip") [.str x tk,.ref t]) Q E s:=by
 rcases ht with ht|ht
 ·exact callType_new F.called_zip (by decide) (F.typeCall_zip_2 _ _) (F.newCall_zip_2 _ _) (λobj=>F.args_object_init_3 obj _ _) F.entry_zip_new (GO x tk t items ha) ⟨ht,IG "tuple_iterator" (.inl rfl) (.inl ⟨rfl,ht⟩) h⟩
 ·exact callType_new F.called_zip (by decide) (F.typeCall_zip_2 _ _) (F.newCall_zip_2 _ _) (λobj=>F.args_object_init_3 obj _ _) F.entry_zip_new (BL x tk t items ha) ⟨ht,IG "list_iterator" (.inr rfl) (.inr ⟨rfl,ht⟩) h⟩
theorem apart_new {n t:Nat} (h:t<n):Apart (n+4) (n+2) (n+3) n (n+1) t:=by
 constructor<;>(intro (e:(_:Nat)=_);lia)
end
end ZD
namespace ZD
open PySem PySem.Spec PyProof.Rows
section
variable {prog:Program} {w:World} {A:Around} {E:Value->Shared->Prop} {s:Shared}
theorem zQ {K:Type} [DecidableEq K] {knd:KeyKind prog w K} {z TI TO i1 i2 t:Addr} {x:Str} {tk:Tok} {items:Array Value} {kk:Nat->K} {Q:Value->Shared->Prop} (hk:∀i c u,x.cps[i]?=some c->knd.is (kk i) (.str ⟨#[c]⟩ u)=true) (D:Apart z TI TO i1 i2 t) (hh:A.handled=none)
  (hsz:x.cps.size=items.size) (hle:x.cps.size<=1000) (S:AH s.heap z TI TO i1 i2 t x tk items 0)
  (h:∀h' d tk',s.heap.objs.size<=d->h'.DictOf knd d (storeAll kk items x.cps.size 0 [])->(∀b o,b≠z->b≠TO->b≠i1->b≠i2->s.heap.get? b=some o->h'.get? b=some o)->Q (.ref d) {s with heap:=h',toks:=tk'}):
  wpAny (model prog w) A (call (.type "dict") [.ref z]) Q E s:=by
 refine callType_codes (Q₁:=λobj s₁=>obj=.ref s.heap.objs.size/\s₁={s with heap:=s.heap.push {cls:=.type "dict",data:=.dict #[]}}) F.kt_called_dict (F.kt_typeCall_dict_1 _) F.entry_dict_init (kt_code_dict_new _ ⟨rfl,rfl⟩) ?_;rintro obj s₁ ⟨rfl,rfl⟩;have hnew:(s.heap.push {cls:=.type "dict",data:=.dict #[]}).DictOf knd s.heap.objs.size []:=DictOf.new s.heap;have S1:=S.keep (h':=s.heap.push {cls:=.type "dict",data:=.dict #[]}) λb o e=>get?_push_of_some _ e;refine ⟨hnew.typeIs,F.args_dict_init_2 _ _,?_⟩;unfold Builtin.«dict.__init__»;refine wpAny_bind ?_;unfold Builtin.Dict.selfAndRest;refine wpAny_bind (wpAny_notOrdered_dict hnew.typeIs ?_);show wpAny _ _ (pure (s.heap.objs.size,[Value.ref z])) _ _ _;refine wpAny_pure ?_;show wpAny _ _ (Builtin.Dict.updateFrom "dict.__init__" s.heap.objs.size (.ref z) [] .none) _ _ _;unfold Builtin.Dict.updateFrom;obtain ⟨f0,f1,ez,_⟩:=S1.zip;have hTz:(⟨s.heap.push {cls:=.type "dict",data:=.dict #[]},s.gens,s.drawn,s.toks,s.os⟩:Shared).TypeIs (.ref z) "zip":=⟨_,ez,rfl⟩;refine wpAny_bind (wpAny_typeOf hTz ?_);rw[if_pos (by decide)];refine wpAny_bind (vF ez hh λh1 tk1 k1=>?_);simp only [Option.isNone_none,if_true];refine wpAny_bind (wpAny_rule ?_);have S2:=S1.keep k1;obtain ⟨f0',f1',ez2,_⟩:=id S2.zip;have hT2:(⟨h1,s.gens,s.drawn,tk1,s.os⟩:Shared).TypeIs (.ref z) "zip":=⟨_,ez2,rfl⟩;have lt:∀{b:Addr} {o:Obj},s.heap.get? b=some o->s.heap.objs.size≠b:=λe=>ne_of_gt (lt_size e);obtain ⟨⟨g0,g1,e0,_⟩,e1,⟨pa,pb,e2⟩,s1,s2⟩:=id S;refine wpAny_bind ?_;refine wpAny_pyIter_slot hT2 F.slot_zip_iter (wpAny_call_entry F.slot_zip_iter hT2 F.entry_zip_iter ?_ (F.args_zip_iter_1 _));show wpAny _ _ (ret (.ref z)) _ _ _;refine wpAny_pure ⟨_,rfl,"zip",_,hT2,F.slot_zip_next.lookup,?_⟩;refine wpAny_pure ⟨plainId_quiet bX _,?_⟩;have hd1:h1.DictOf knd s.heap.objs.size []:=let ⟨o,es,ep,ho,r⟩:=hnew;⟨o,es,ep,k1 _ o ho,r⟩;refine IQ (A:=A.in1) hk D hh (lt e0) (lt e2) (ne_of_gt s1.lt) (ne_of_gt s2.lt) (lt e1) (ne_of_gt s2.ltT) hsz hle x.cps.size 0 0 ⟨h1,s.gens,s.drawn,tk1,s.os⟩ [] (by lia) S2 hd1 (zero_le _) λh2 tk2 hd2 hk2=>?_;refine ⟨rfl,?_⟩;exact h h2 _ tk2 (Nat.le_refl _) hd2 λb o b1 b2 b3 b4 e=>hk2 b o b1 b2 b3 b4 (lt e).symm (k1 b o (get?_push_of_some _ e))
end
end ZD
namespace L2.L3
open PySem PySem.Spec PyProof.Rows
section
variable {X:Cx}
theorem oQ:∀{us:List Value},Vals (ys.map V.str) us->StrsAre us ys:=by
 induction ys with
 |nil=>intro us r;rw[map_nil] at r;cases r;exact .nil
 |cons y ys ih=>
  intro us r;rw[map_cons] at r;cases r with
  |cons r1 r2=>
   obtain ⟨t,e⟩:=r1;subst e;exact .cons y t (ih r2)
noncomputable def rJoin:V->List V->Hp->VK->Prop:=λx vs H Q=>∃(z:Str) (p:Addr) (ys:List Str),x=.str z/\vs=[.ref p]/\H p=some (.lst (ys.map V.str))/\(ys.map (·.length)).sum+ys.length * z.length<=16777216/\Q (.str (Txt.join z ys)) H
theorem SH:By X "str.join" rJoin:=by
 intro pins s σ H x vs v us Q I rx rv h;obtain ⟨z,p,ys,rfl,rfl,hp,hok,q⟩:=h;obtain ⟨t,rfl⟩:=rx;obtain ⟨u,rfl,ru⟩:=rv.one;cases (show u=Value.ref p from ru);obtain ⟨hz,its,n,r,hl,e⟩:=I.lstM hp;have isl:s.heap.IsList p its.toArray:=⟨_,e,rfl,n,rfl⟩;exact join_list isl (oQ r) hok λt' k=>⟨.str _,H,I.tok k,⟨t',rfl⟩,q⟩
noncomputable def XX (K:Fg):V->List V->Hp->VK->Prop:=λx vs H Q=>∃(z:Str) (p:Addr) (ys:List Str),x=.str z/\vs=[.ref p]/\cZ K H p (ys.map V.str)/\(ys.map (·.length)).sum+ys.length * z.length<=16777216/\Q (.str (Txt.join z ys)) H
theorem LK:By X "str.join" (XX X.K):=by
 intro pins s σ H x vs v us Q I rx rv h;obtain ⟨z,p,ys,rfl,rfl,hp,hok,q⟩:=h;obtain ⟨t,rfl⟩:=rx;obtain ⟨u,rfl,ru⟩:=rv.one;cases (show u=Value.ref p from ru);obtain ⟨its,r,ht,hz⟩:=I.tuple hp;exact join_tuple ht (oQ r) hok λt' k=>⟨.str _,H,I.tok k,⟨t',rfl⟩,q⟩
noncomputable def YA:V->List V->Hp->VK->Prop:=λx vs H Q=>∃(z y:Str),x=.str z/\vs=[.str y]/\Q (.int (Txt.count z y)) H
theorem LN:By X "str.count" YA:=by
 intro pins s σ H x vs v us Q I rx rv h;obtain ⟨z,y,rfl,rfl,q⟩:=h;obtain ⟨t,rfl⟩:=rx;obtain ⟨u,rfl,ru⟩:=rv.one;obtain ⟨t2,rfl⟩:=ru;exact SC.count ⟨.int _,H,I.tok _,⟨_,rfl⟩,q⟩
noncomputable def XY:V->List V->Hp->VK->Prop:=λx vs H Q=>∃(z y:Str) (i:Nat) (rest:List Nat),x=.str z/\vs=[.str y]/\Builtin.Str.occurrences z y 0 z.length 1=i::rest/\Q (.int i) H
theorem LL:By X "str.index" XY:=by
 intro pins s σ H x vs v us Q I rx rv h;obtain ⟨z,y,i,rest,rfl,rfl,ho,q⟩:=h;obtain ⟨t,rfl⟩:=rx;obtain ⟨u,rfl,ru⟩:=rv.one;obtain ⟨t2,rfl⟩:=ru;exact SC.index ho ⟨.int _,H,I.tok _,⟨_,rfl⟩,q⟩
noncomputable def XU:List V->Hp->VK->Prop:=λxs H Q=>∃(p:Addr) (ns:List Int),xs=[.ref p]/\H p=some (.lst (ns.map V.int))/\Q (.int ns.sum) H
theorem OD (hc:X.calm=true):bZ X (.builtin "sum") XU:=by
 intro pins s σ H xs us Q I rv h;obtain ⟨p,ns,rfl,hp,q⟩:=h;obtain ⟨u,rfl,ru⟩:=rv.one;cases (show u=Value.ref p from ru);obtain ⟨hz,its,n,r,hl,e⟩:=I.lstM hp;have isl:s.heap.IsList p its.toArray:=⟨_,e,rfl,n,rfl⟩;have hi:=intsAre_of r;have hn:numsOf its=ns:=hi.numsOf;obtain ⟨ys,ey⟩:=hi.allInts.items;have en:numsOf its=numsOf (intItems ys).toList:=by rw[<-ey]
 rw[ey] at isl;refine sum_intListG (I.ok.hd hc) isl λh' tk t' hk=>⟨.int ns.sum,H,I.kept (t':=tk) hk,⟨t',?_⟩,q⟩;rw[preSum_eq,take_of_length_le (by simp),<-hn,en,nums_intItems]
theorem stored_new {K:Type} [DecidableEq K] {kvs:List (K × Value)} {k:K} {v:Value} (h:∀p∈kvs,p.1≠k):stored kvs k v=kvs++[(k,v)]:=by
 unfold stored;rw[if_neg];intro z;obtain ⟨p,hp,e⟩:=any_eq_true.mp z;exact h p hp (of_decide_eq_true e)
theorem iB {K:Type} [DecidableEq K] {kk:Nat->K} {items:Array Value}:∀(n k:Nat),(∀i j,i<k+n->j<k+n->kk i=kk j->i=j)->
  ZD.storeAll kk items n k ((range k).map λi=>(kk i,items[i]?.getD .none))=(range (k+n)).map λi=>(kk i,items[i]?.getD .none)
 |0,k,_=>rfl
 |n+1,k,hi=>by
  show ZD.storeAll kk items n (k+1) (stored _ (kk k) (items[k]?.getD .none))=_;rw[stored_new]
  ·have ih:=iB (kk:=kk) (items:=items) n (k+1) (λi j a b=>hi i j (by lia) (by lia));rw[range_succ,map_append] at ih;rw[show k+(n+1)=k+1+n by lia];exact ih
  ·intro p hp;obtain ⟨i,hm,rfl⟩:=mem_map.mp hp;have hlt:=mem_range.mp hm;intro e;have:=hi i k (by lia) (by lia) e;lia
theorem pJ {α β γ:Type} {R:β->γ->Prop} {f:α->β} {g:α->γ}:∀(l:List α),(∀a∈l,R (f a) (g a))->Paired R (l.map f) (l.map g)
 |[],_=>.nil
 |a::l,h=>.cons (h a mem_cons_self) (pJ l λb hb=>h b (mem_cons_of_mem _ hb))
noncomputable def fW (x:Str) (i:Nat):Key:=.inr ⟨#[x.cps.getD i 0]⟩
noncomputable def jJ (x:Str) (ws:List V):List (Key × V):=(range x.cps.size).map λi=>(fW x i,ws[i]?.getD .non)
noncomputable def Md (K:Fg) (ta:TA):TE:=λσ H Q=>ta σ H λvs H1=>∃(x:Str) (t:Addr) (ws:List V),vs=[.str x,.ref t]/\(cZ K H1 t ws\/aR K H1 t ws)/\x.cps.size=ws.length/\x.cps.size<=1000/\x.cps.all (·<128)=true/\(∀i j,i<x.cps.size->j<x.cps.size->fW x i=fW x j->i=j)/\
 ∀d,H1 d=none->Q (.ref d) (upd H1 d (.dK (jJ x ws)))
theorem Be {pins:List (Addr × Obj)} {σ:St} {H:Hp} {s:Shared} {Q:VK} {x:Str} {tk:Tok} {t:Addr} {ws:List V} (hc:X.calm=true) (I:Inv X pins σ H s) (ht:cZ X.K H t ws\/aR X.K H t ws) (hl:x.cps.size=ws.length) (hle:x.cps.size<=1000) (ha:x.cps.all (·<128)=true)
  (hinj:∀i j,i<x.cps.size->j<x.cps.size->fW x i=fW x j->i=j) (q:∀d,H d=none->Q (.ref d) (upd H d (.dK (jJ x ws)))):
  wpAny (model X.prog X.w) X.A (call (.type "zip") [.str x tk,.ref t]) (λz s1=>wpAny (model X.prog X.w) X.A (call (.type "dict") [z]) (EP X pins σ Q) X.xe s1) X.xe s:=by
 obtain ⟨its,r,it,hlt⟩:∃its:List Value,Vals ws its/\(s.heap.IsTuple t its.toArray\/s.heap.IsList t its.toArray)/\t<s.heap.objs.size:=by
  rcases ht with ht|ht
  ·obtain ⟨its,r,it,hz⟩:=I.tuple ht;exact ⟨its,r,.inl it,let ⟨o,e,_⟩:=it;lt_size e⟩
  ·obtain ⟨its,r,it,hz⟩:=I.list ht;exact ⟨its,r,.inr it.isList,let ⟨o,n,e,_⟩:=it;lt_size e⟩
 have hlen:ws.length=its.length:=r.length;refine ZD.OC ha it λh1 S1 sz1 k1=>?_;refine ZD.zQ (s:={s with heap:=h1}) (knd:=aU X.prog X.w) (kk:=fW x) (λi c u hx=>?_) (ZD.apart_new hlt) (I.ok.hd hc) (by rw[hl,hlen,size_toArray]) hle S1 λh2 d tk2 hd hdict k2=>?_
 ·show kU (.inr ⟨#[x.cps.getD i 0]⟩) (.str ⟨#[c]⟩ u)=true;have e:x.cps.getD i 0=c:=by
   rw[Array.getD_eq_getD_getElem?,hx];rfl
  rw[e];exact sT _ _
 ·have hd':s.heap.objs.size<=d:=by
   have:h1.objs.size<=d:=hd;lia
  have kept:∀b o,s.heap.get? b=some o->h2.get? b=some o:=λb o e=>by
   have lb:b<s.heap.objs.size:=lt_size e;exact k2 b o (ne_of_lt (Nat.lt_add_right _ lb)) (ne_of_lt (Nat.lt_add_right _ lb)) (ne_of_lt lb) (ne_of_lt (Nat.lt_add_right _ lb)) (k1 b o e)
  have e0:=iB (kk:=fW x) (items:=its.toArray) x.cps.size 0 (λi j a b=>hinj i j (by lia) (by lia));have e1:ZD.storeAll (fW x) its.toArray x.cps.size 0 []=(range x.cps.size).map λi=>(fW x i,its.toArray[i]?.getD .none):=by
   rw[show 0+x.cps.size=x.cps.size by lia] at e0;exact e0
  rw[e1] at hdict;have hrel:KV (jJ x ws) ((range x.cps.size).map λi=>(fW x i,its.toArray[i]?.getD .none)):=by
   refine pJ _ λi hi=>⟨rfl,?_⟩;have hi':=mem_range.mp hi;have hw:ws[i]?=some (ws[i]'(by lia)):=getElem?_eq_getElem (by lia);obtain ⟨u,hu,ru⟩:=r.get hw;have hu':its.toArray[i]?=some u:=by simpa using hu
   show RelV (ws[i]?.getD .non) (its.toArray[i]?.getD .none);rw[hw,hu'];exact ru
  refine ⟨.ref d,upd H d (.dK (jJ x ws)),?_,rfl,q d (I.hok.fresh hd')⟩;refine I.laid (t':=tk2) kept hd' ⟨?_,beq_eq_false_iff_ne.mpr (Ne.symm (ne_of_lt (Nat.lt_of_lt_of_le (OJ I) hd'))),_,hrel,hdict⟩;show (jJ x ws).length<=sizeLine;unfold jJ;rw[length_map,length_range];exact le_of_lt (FK hle)
theorem BD (hc:X.calm=true) (hgd:Gl X "dict") (hmd:X.mg "dict"=none) (hgz:Gl X "zip") (hmz:X.mg "zip"=none) (ha:PA X [a,b] ta)
  (hs:starEach [a,b] X.env=(false,eval a X.env)::starEach [b] X.env:=by rfl) (hpl:(backTo pos2 (starEach [b] X.env)).any (·.1)=false:=by rfl)
  (hs1:starEach [.Call (.Name "zip" p2) [a,b] [] pos2] X.env=(false,eval (.Call (.Name "zip" p2) [a,b] [] pos2) X.env)::starEach [] X.env:=by rfl) (hpl1:(backTo pos1 (starEach [] X.env)).any (·.1)=false:=by rfl):
  PE X (.Call (.Name "dict" p1) [.Call (.Name "zip" p2) [a,b] [] pos2] [] pos1) (Md X.K ta):=by
 intro pins s σ H Q I h;refine wpAny_Call_Name_kw (fM I hgd hmd PyProof.Rows.Boot.dict ?_ (by decide) (by decide));refine PyProof.Rows.callWith_type1 ?_ hs1 hpl1;rw[hs1];show wpAny _ _ (spliced ((false,eval (.Call (.Name "zip" p2) [a,b] [] pos2) X.env)::backTo pos1 (starEach [] X.env))) _ _ s;refine Calls.spliced_cons ?_;refine bT (Q:=λz s1=>wpAny (model X.prog X.w) X.A (call (.type "dict") [z]) (EP X pins σ Q) X.xe s1) ?_ λz s1 hz=>Calls.spliced_nil hz;refine wpAny_Call_Name_kw (fM I hgz hmz PyProof.Rows.Boot.zip ?_ (by decide) (by decide));refine PyProof.Rows.callWith_type1 (bT (ha pos2 pins s σ H _ I h) λus s1 ⟨vs,H1,I1,r1,q1⟩=>?_) hs hpl;obtain ⟨x,t,ws,rfl,ht,hl,hle,hasc,hinj,q⟩:=q1;obtain ⟨u,v,rfl,ru,rv⟩:=r1.two;obtain ⟨tk,rfl⟩:=ru;cases (show v=Value.ref t from rv);exact Be hc I1 ht hl hle hasc hinj q
theorem sF {n:Nat} {key:Nat->Key} {f:Nat->V} {j:Nat} (hinj:∀i j,i<n->j<n->key i=key j->i=j) (hj:j<n):dG ((range n).map λi=>(key i,f i)) (key j)=some (f j):=by
 unfold dG;rw[List.find?_map];have e:(range n).find? ((λkv:Key × V=>decide (kv.1=key j))∘λi=>(key i,f i))=some j:=by
  cases q:(range n).find? ((λkv:Key × V=>decide (kv.1=key j))∘λi=>(key i,f i)) with
  |none=>
   have z:=List.find?_eq_none.mp q j (mem_range.mpr hj);simp at z
  |some i=>
   have z1:=mem_range.mp (List.mem_of_find?_eq_some q);have z2:=List.find?_some q;have z3:key i=key j:=of_decide_eq_true z2;rw[hinj i j z1 hj z3]
 rw[e];rfl
end
section
variable {X:Cx} {pins:List (Addr × Obj)} {σ:St} {H:Hp} {s:Shared}
theorem Inv.but (I:Inv X pins σ H s) (hs:SameBut C s.heap h') (hC:X.s₀.heap.objs.size<=C) (hL:X.env.locals≠C) (hcl:∀x c,X.env.cells.lookup x=some c->c≠C) (hp:∀p∈X.pn++pins,p.1≠C) (hn:H C=none):
  Inv X pins σ H {s with heap:=h'}:=by
 have kp:∀b o,b≠C->s.heap.get? b=some o->h'.get? b=some o:=λb o hb e=>(hs.2 b hb).trans e;obtain ⟨m,hm,hl⟩:=I.loc;have cells:∀c v,c≠C->s.heap.IsCell c v->h'.IsCell c v:=λc v hc ⟨o,e,d⟩=>⟨o,kp _ _ hc e,d⟩;refine ⟨I.ok,I.os,I.bare,Un.but I.base hs hC,⟨m,hm.sameBut hs hL,λi x v e1 e2 e3=>?_⟩,λx c e=>?_,I.free,I.freeC,λp hpp=>⟨kp _ _ (hp p hpp) (I.pin p hpp).1,(I.pin p hpp).2⟩,eG.but I.hok hs hn,I.len⟩
 ·obtain ⟨u,r,l⟩:=hl i x v e1 e2 e3;refine ⟨u,r,?_⟩;rcases l with l|⟨hk,c,hc,hcell⟩
  ·exact .inl l
  ·exact .inr ⟨hk,c,hc,cells c _ (hcl x c hc) hcell⟩
 ·obtain ⟨v,hv⟩:=I.cell x c e;exact ⟨v,cells c v (hcl x c e) hv⟩
theorem wI (Iv:Nat->Shared->Prop)
  (turn:∀n s,Iv n s->wpAny (model prog w) A (pyNext it) (λr s1=>match r with
   |none=>R (.ok .next) s1
   |some v=>wpAny (model prog w) A (letOwnedTupleGo target it v) (λ_ s1'=>wpAny (model prog w) A (assign target env v) (λ_ s2=>
     wpAny (model prog w) A (forIn ifs true λc r=>if r=true then do let ok <-isTrue c env (eval c env);pure (ForInStep.yield ok) else pure (ForInStep.yield r)) (λok s3=>
      if ok=true then wpAny (model prog w) A (eval elt env) (λx s4=>wpAny (model prog w) A (call (.builtin "list.append") [acc,x]) (λ_ s5=>∃m,m<n/\Iv m s5) (notedBy (model prog w) A env λe s'=>R (.error e) s') s4) (notedBy (model prog w) A env λe s'=>R (.error e) s') s3
      else ∃m,m<n/\Iv m s3) (notedBy (model prog w) A env λe s'=>R (.error e) s') s2)
     (notedBy (model prog w) A env λe s'=>R (.error e) s') s1') (notedBy (model prog w) A env λe s'=>R (.error e) s') s1) (notedBy (model prog w) A env λe s'=>R (.error e) s') s)
  (n:Nat) (h:Iv n s):codeAny (model prog w) A (.compLoop (.ListComp elt [⟨target,iter,ifs,0⟩] scope pos) 0 it acc env) R s:=by
 refine codeAny_loop rfl Iv (λn s hI=>?_) n h;show wpAny _ _ ((compTurn (.ListComp elt [⟨target,iter,ifs,0⟩] scope pos) 0 it acc env).onRaise (λx=>do noteFrame x env;theTreesLotGoes x)) _ _ s;refine wpAny_noted ?_;rw[compTurn_list];refine wpAny_bind (wpAny_standAt (wpAny_bind (wpAny_mono (turn n s hI) (λr s1 h1=>?_) λ_ _ h'=>h')));cases r with
 |none=>exact wpAny_pure h1
 |some v=>
  refine wpAny_bind (wpAny_mono h1 (λ_ s1' h1'=>wpAny_bind (wpAny_mono h1' (λ_ s2 h2=>wpAny_bind (wpAny_mono h2 (λok s3 h3=>?_) λ_ _ h'=>h')) λ_ _ h'=>h')) λ_ _ h'=>h');cases ok with
  |true=>
   rw[if_pos rfl] at h3 ⊢;exact wpAny_bind (wpAny_bind (wpAny_mono h3 (λx s4 h4=>wpAny_bind (wpAny_mono h4 (λ_ s5 h5=>wpAny_pure (wpAny_pure ⟨rfl,h5⟩)) λ_ _ h'=>h')) λ_ _ h'=>h'))
  |false=>
   rw[if_neg Bool.false_ne_true] at h3 ⊢
   first
    |exact wpAny_pure ⟨rfl,h3⟩
    |exact wpAny_bind (wpAny_pure (wpAny_pure ⟨rfl,h3⟩))
inductive tW (X:Cx):List Expr->TT->Prop
 |nil:tW X [] (λ_ H Q=>Q true H)
 |one {c:Expr} {t:TT} (h:PT X c t):tW X [c] t
theorem tW.run (T:tW X ifs t) (I:Inv X pins σ H s) (h:t σ H QB):
  wpAny (model X.prog X.w) X.A (forIn ifs true λc r=>if r=true then do let ok <-isTrue c X.env (eval c X.env);pure (ForInStep.yield ok) else pure (ForInStep.yield r)) (TP X pins σ QB) X.xe s:=by
 cases T with
 |nil=>exact wpAny_tests_nil ⟨H,I,h⟩
 |one hc=>exact wpAny_tests_one (hc pins s σ H QB I h)
noncomputable def aV (J:It) (g:TG) (tc:TT) (te:TE) (n:Nat) (is:List Nat) (σ:St) (D:Addr) (H1:Hp) (Q:VK):Prop:=∃W:Nat->Nat->St->Hp->Prop,(∃m,W 0 m (HS n is σ) (upd H1 D (.lst [])))/\
 ∀i m σ' H,W i m σ' H->(J.stop i H/\Q (.ref D) H)\/(J.go i H/\∀x H',J.yld i H x H'->g x σ' H' λσ2 H2=>tc σ2 H2 λb H3=>
  (b=true->te σ2 H3 λy H4=>∃xs,H4 D=some (.lst xs)/\xs.length<sizeLine/\∃m',m'<m/\W (i+1) m' σ2 (upd H4 D (.lst (xs++[y]))))/\(b=false->∃m',m'<m/\W (i+1) m' σ2 H3))
noncomputable def oO (wi:TI) (g:TG) (tc:TT) (te:TE) (n:Nat) (is:List Nat):TE:=λσ H Q=>wi σ H λJ H1=>∀D,H1 D=none->aV J g tc te n is σ D H1 Q
theorem HM (use:Option (Value->Sem Unit)) (hc:X.calm=true) (hi:PI X target iter wi)
  (hg:∀C s₀ H₀ ex,PG (HX X (own++caps) sc C s₀ H₀ ex) target g) (ht:∀C s₀ H₀ ex,tW (HX X (own++caps) sc C s₀ H₀ ex) ifs tc) (he:∀C s₀ H₀ ex,PE (HX X (own++caps) sc C s₀ H₀ ex) elt te) (hcap:ID X sc caps is)
  (hkind:sc.kind=.function) (hown:∀y∈sc.names,y.2=.cell->sc.names.lookup y.1=some .cell) (hfr:(sc.names.all λy=>y.2 != .free || X.env.kindOf y.1==some .cell)=true)
  (hclos:closureFor sc X.env=pure (zV sc.names X.env)) (hnames:∀y∈sc.names,y.2=.local->sc.names.lookup y.1=some .local)
  (hs:∀x,foldedSetIterable iter X.env x=pure x) (I:Inv X pins σ H s) (h:oO wi g tc te own.length is σ H Q)
  (fin:∀(D C:Addr) (H':Hp) (s':Shared) (m:Str->Option Value),Inv X pins σ H' s'->s'.heap.Ns C m->H' C=none->X.s₀.heap.objs.size<=C->X.env.locals≠C->(∀x c,X.env.cells.lookup x=some c->c≠C)->(∀p∈X.pn++pins,p.1≠C)->Q (.ref D) H'->
   compPost (model X.prog X.w) X.A X.xe use QQ (.ref D) C (.ok .next) s'):
  wpAny (model X.prog X.w) X.A (comprehension (.ListComp elt [⟨target,iter,ifs,0⟩] sc pos) sc X.env pos2 (newList []) false (eval iter X.env) use) QQ X.xe s:=by
 refine wpAny_comprehension_free (use:=use) rfl hs hclos hkind hnames ?_;refine bT (hi pins s σ H _ I h) λv s1 h1=>bT h1 λitv s2 h2=>?_;obtain ⟨it,fp,tn,J,H2,e,I2,T,st2,f2,q2⟩:=h2;subst e;have ob2:∀b∈fp,∃o,s2.heap.get? b=some o:=λb hb=>let ⟨o,e,_⟩:=T.obj _ _ st2 b hb;⟨o,e⟩;refine wpAny_newObj_type (tZ ?_);have hns₁:(pushCells ((s2.heap.push {cls:=.type "list",data:=.seq ([]:List Value).toArray}).push {cls:=.type "dict",data:=.dict #[]}) sc.names).Ns (s2.heap.push {cls:=.type "list",data:=.seq ([]:List Value).toArray}).objs.size (λ_=>none):=(Heap.Ns.new _ (.type "dict")).keeps (pushCells_keeps _ _);have oc₁:=KQ (s2.heap.push {cls:=.type "list",data:=.seq ([]:List Value).toArray}) {cls:=.type "dict",data:=.dict #[]} sc;have hk₁:∀b o,(s2.heap.push {cls:=.type "list",data:=.seq ([]:List Value).toArray}).get? b=some o->(pushCells ((s2.heap.push {cls:=.type "list",data:=.seq ([]:List Value).toArray}).push {cls:=.type "dict",data:=.dict #[]}) sc.names).get? b=some o:=λb o e=>pushCells_keeps _ _ b o (get?_push_of_some _ e);generalize hh₁:pushCells ((s2.heap.push {cls:=.type "list",data:=.seq ([]:List Value).toArray}).push {cls:=.type "dict",data:=.dict #[]}) sc.names=h₁ at hns₁ oc₁ hk₁;have I3:=I2.lnew (its:=[]) (ys:=[]) (t':=s2.toks) .nil (zero_le _);have hD:H2 s2.heap.objs.size=none:=I2.hok.fresh (Nat.le_refl _);obtain ⟨W,⟨m0,w0⟩,turn⟩:=q2 s2.heap.objs.size hD;have f3:∀b∈fp,mJ X pins (upd H2 s2.heap.objs.size (.lst [])) b:=λb hb=>by
  obtain ⟨o,e⟩:=ob2 b hb;exact ⟨by rw[aF (ne_of_lt (lt_size e))];exact (f2 b hb).1,(f2 b hb).2⟩
 have hk3:=hk₁;have ob3:∀b∈fp,∃o,(s2.heap.push {cls:=.type "list",data:=.seq ([]:List Value).toArray}).get? b=some o:=λb hb=>by
  obtain ⟨o,e⟩:=ob2 b hb;exact ⟨o,get?_push_of_some _ e⟩
 have I4:=HV (own:=own) I3 hkind hown hfr hcap f3 ob3 (tk:=s2.toks) hns₁ hk3 oc₁;have st4:tn 0 h₁:=T.keep 0 s2.heap h₁ st2 λb hb o e=>hk3 b o (get?_push_of_some _ e);have stat:∀{H':Hp},(∀b∈fp,H' b=none)->∀b∈fp,mJ (HX X (own++caps) sc (s2.heap.push {cls:=.type "list",data:=.seq ([]:List Value).toArray}).objs.size {s2 with heap:=s2.heap.push {cls:=.type "list",data:=.seq ([]:List Value).toArray}} (upd H2 s2.heap.objs.size (.lst [])) fp) [] H' b:=λ{H'} hn b hb=>by
  obtain ⟨o,e⟩:=ob3 b hb;refine ⟨hn b hb,ne_of_lt (lt_size e),I4.ok.exfs b hb,.inl hb,(I4.ok.exf b hb).2,λp hp=>absurd (show p∈([]:List (Addr × Obj)) from hp) (by simp)⟩
 have loop:∀s4:Shared,s4={s2 with heap:=h₁}->
   codeAny (model X.prog X.w) X.A (.compLoop (.ListComp elt [⟨target,iter,ifs,0⟩] sc pos) 0 (.ref it) (.ref s2.heap.objs.size) (compEnvC sc (lD sc (s2.heap.push {cls:=.type "list",data:=.seq ([]:List Value).toArray}).objs.size X.env) (s2.heap.push {cls:=.type "list",data:=.seq ([]:List Value).toArray}).objs.size X.env))
    (compPost (model X.prog X.w) X.A X.xe use QQ (.ref s2.heap.objs.size) (s2.heap.push {cls:=.type "list",data:=.seq ([]:List Value).toArray}).objs.size) s4:=by
  rintro s4 rfl;refine wI (λn s'=>∃i σ' H',Inv (HX X (own++caps) sc (s2.heap.push {cls:=.type "list",data:=.seq ([]:List Value).toArray}).objs.size {s2 with heap:=s2.heap.push {cls:=.type "list",data:=.seq ([]:List Value).toArray}} (upd H2 s2.heap.objs.size (.lst [])) fp) [] σ' H' s'/\tn i s'.heap/\(∀b∈fp,H' b=none)/\W i n σ' H') ?_ m0
   ⟨0,_,_,I4,st4,λb hb=>(f3 b hb).1,w0⟩
  rintro n s5 ⟨i,σ5,H5,I5,st5,fr5,w5⟩;rcases turn i n σ5 H5 w5 with ⟨stop,qn⟩|⟨go,step⟩
  ·refine wpAny_mono (T.done (HX X (own++caps) sc _ _ _ fp) rfl rfl rfl hc i [] s5 σ5 H5 (λ_ _=>False) I5 (stat fr5) st5 stop) (λr s6 ⟨hr,I6⟩=>?_) λ_ _ z=>z.elim;subst hr;obtain ⟨m,hn,_⟩:=I6.loc;have IX:Inv X pins σ H5 s6:=I3.call' (s':=s6) I6.os I6.base I6.hok I6.bare (ch:=fp) λb hb=>by
    obtain ⟨_,n1,_,n3,n4,n5⟩:=f3 b hb;exact ⟨n3,n1,n4,n5⟩
   have lt3:∀{b:Addr} {o:Obj},(s2.heap.push {cls:=.type "list",data:=.seq ([]:List Value).toArray}).get? b=some o->b≠(s2.heap.push {cls:=.type "list",data:=.seq ([]:List Value).toArray}).objs.size:=λe=>ne_of_lt (lt_size e);refine fin _ _ H5 s6 m IX hn I6.free I3.sz (ne_of_lt I3.lt) (λx c e=>?_) (λp hp=>lt3 (I3.pin p hp).1) qn;obtain ⟨v,o,e',_⟩:=I3.cell x c e;exact lt3 e'
  ·refine wpAny_mono (T.item (HX X (own++caps) sc _ _ _ fp) rfl rfl rfl hc i [] s5 σ5 H5 (λ_ _=>False) I5 (stat fr5) st5 go) (λr s6 ⟨u,hr,h6⟩=>?_) λ_ _ z=>z.elim;subst hr;refine wpAny_mono h6 (λ_ s7 ⟨x,H7,I7,r7,y7,st7,fr7⟩=>?_) λ_ _ z=>z.elim;have I7':=I7.pinned (stat fr7) (T.obj _ _ st7);refine wpAny_mono (hg _ _ _ _ _ s7 σ5 H7 x u _ I7' r7 (step x H7 y7)) (λ_ s8 ⟨σ8,H8,I8,q8⟩=>?_) λ_ _ z=>z.elim;refine wpAny_mono ((ht _ _ _ _).run I8 q8) (λb s8' ⟨H8',I8',q8'⟩=>?_) λ_ _ z=>z.elim;have back:∀{σ9:St} {H9:Hp} {s9:Shared},Inv (HX X (own++caps) sc (s2.heap.push {cls:=.type "list",data:=.seq ([]:List Value).toArray}).objs.size {s2 with heap:=s2.heap.push {cls:=.type "list",data:=.seq ([]:List Value).toArray}} (upd H2 s2.heap.objs.size (.lst [])) fp) ([]++pI fp s7.heap) σ9 H9 s9->tn (i+1) s9.heap/\∀b∈fp,H9 b=none:=λ{σ9 H9 s9} I9=>
    ⟨T.keep _ _ _ st7 λb hb o e=>(I9.pin (b,o) (mem_append_right _ (mem_append_right _ (gP hb e)))).1,λb hb=>by
     obtain ⟨o,e,d⟩:=T.obj _ _ st7 b hb
     exact (I9.pin (b,o) (mem_append_right _ (mem_append_right _ (gP hb e)))).2.1⟩
   cases b with
   |false=>
    rw[if_neg Bool.false_ne_true];obtain ⟨m',hm,w9⟩:=q8'.2 rfl;exact ⟨m',hm,i+1,σ8,_,I8'.unpinned,(back I8').1,(back I8').2,w9⟩
   |true=>
    rw[if_pos rfl];refine wpAny_mono (he _ _ _ _ _ s8' σ8 H8' _ I8' (q8'.1 rfl)) (λyv s9 ⟨y,H9,I9,r9,xs,hx,hz,m',hm,w9⟩=>?_) λ_ _ z=>z.elim;refine wpAny_mono (sR (X:=HX X (own++caps) sc _ _ _ fp) _ s9 σ8 H9 (.ref s2.heap.objs.size) [y] (.ref s2.heap.objs.size) [yv] (λv Hn=>v=.non/\Hn=upd H9 s2.heap.objs.size (.lst (xs++[y]))) I9 rfl (.cons r9 .nil) ⟨_,xs,y,rfl,rfl,hx,hz,rfl,rfl⟩)
     (λv s10 ⟨v10,H10,I10,r10,q10⟩=>?_) λ_ _ z=>z.elim
    obtain ⟨_,rfl⟩:=q10;exact ⟨m',hm,i+1,σ8,_,I10.unpinned,(back I10).1,(back I10).2,w9⟩
 exact codeAny_compStart_list (loop _ rfl) (T.self _ 0 _ _ _ st4 (loop _ rfl))
end
end L2.L3
namespace L2.Na
open PySem PySem.Spec PyProof.Rows L2 L2.L3
theorem Inv.turnedN {X:Cx} {pins:List (Addr × Obj)} {σ:St} {H:Hp} {s:Shared} {h':Heap} {t':Nat} {fp:List Addr} (I:Inv X pins σ H s) (k:∀b o,b∉fp->s.heap.get? b=some o->h'.get? b=some o) (hf:∀b∈fp,mJ X pins H b):Inv X pins σ H {s with heap:=h',toks:=t'}:=by
 have nit:∀b u,H b=some u->b∉fp:=λb u e z=>by rw[(hf b z).1] at e;cases e
 refine I.step (g':=s.gens) (d':=s.drawn) (ch:=fp) (λb hb=>?_) (λb o _ _ hc e _=>k b o hc e) (λb o _ _ hc e _=>⟨o.slots,k b o hc e⟩) (λ_ _ _ _ n=>n)
  (λb o hc e=>⟨o,k b o hc e⟩) (λ_ _ e=>e) (λ_ _ _ e=>e) (λb ps e=>⟨#[],by rw[e];simp⟩) (λm hm=>?_) (λb u e=>?_) I.bare
 ·obtain ⟨_,hL,_,h1,h2,h3⟩:=hf b hb;exact ⟨h1,hL,h2,h3⟩
 ·obtain ⟨o,es,ep,ho,r⟩:=hm;exact ⟨o,es,ep,k _ o (λz=>(hf _ z).2.1 rfl) ho,r⟩
 ·refine (I.hok b u e).stay (λc v hc q=>k c v ?_ q) (λ_ q=>q) λ_ _ q=>q;rcases hc with z|z
  ·rw[z];exact nit b u e
  ·exact nit c _ z
noncomputable def Jd (K:Fg) (a b:Addr):It:=
 ⟨λi H=>∃xs ys x y,aR K H a xs/\aR K H b ys/\xs[i]?=some x/\ys[i]?=some y,
  λi H v H'=>∃p x y,H p=none/\v=.ref p/\H'=upd H p (.tup [x,y])/\(∀xs,aR K H a xs->xs[i]?=some x)/\∀ys,aR K H b ys->ys[i]?=some y,
  λi H=>∃xs ys,aR K H a xs/\aR K H b ys/\(xs.length<=i\/ys.length<=i)⟩
structure CS (z TI TO i1 i2:Addr):Prop where
 TIz:TI≠z
 TOz:TO≠z
 i1z:i1≠z
 i2z:i2≠z
 TITO:TI≠TO
 TIi1:TI≠i1
 TIi2:TI≠i2
 TOi1:TO≠i1
 TOi2:TO≠i2
 i12:i1≠i2
theorem iO {h:Heap} {a b:Addr} {o u:Obj} {m n:String} (e1:h.get? a=some o) (e2:h.get? b=some u) (c1:o.cls=.type m) (c2:u.cls=.type n) (hn:m≠n):a≠b:=λz=>by
 subst z;rw[e1] at e2;cases e2;rw[c1] at c2;exact hn (by simpa using c2)
noncomputable def Iu (z TI TO i1 i2 a b:Addr) (i:Nat) (h:Heap):Prop:=IsZip h z TI TO .none/\IsPair h TI (.ref i1) (.ref i2)/\(∃u v,IsPair h TO u v)/\h.IsListIter i1 a i/\h.IsListIter i2 b i
theorem Iu.apart {z TI TO i1 i2 a b:Addr} {i:Nat} {h:Heap} {xs ys:Array Value} (Z:CS z TI TO i1 i2) (t:Iu z TI TO i1 i2 a b i h) (h1:h.IsList a xs) (h2:h.IsList b ys):ZipApart z TI TO i1 i2 a b:=by
 obtain ⟨hz,_,⟨u,v,hTO⟩,⟨o1,e1,c1,_⟩,⟨o2,e2,c2,_⟩⟩:=t;obtain ⟨oa,ea,ca,_⟩:=h1;obtain ⟨ob,eb,cb,_⟩:=h2;exact ⟨Z.TIz,Z.TOz,Z.i1z,Z.i2z,Z.TITO,Z.TIi1,Z.TIi2,Z.TOi1,Z.TOi2,Z.i12,
  iO ea hz ca rfl (by decide),iO ea hTO ca rfl (by decide),iO ea e1 ca c1 (by decide),iO ea e2 ca c2 (by decide),
  iO eb hz cb rfl (by decide),iO eb hTO cb rfl (by decide),iO eb e1 cb c1 (by decide),iO eb e2 cb c2 (by decide)⟩
theorem IW {P:Program} {w:World} {K:Fg} {elts:List Expr} {k:Nat} {pos:Pos} (a b z TI TO i1 i2:Addr) (Z:CS z TI TO i1 i2):Turn P w K (.Tuple elts k pos) (Jd K a b) [z,TI,TO,i1,i2] z (Iu z TI TO i1 i2 a b) where
 mem:=by simp
 obj:=λi h st c hc=>by
  obtain ⟨hz,hTI,⟨u,v,hTO⟩,⟨o1,e1,c1,d1⟩,⟨o2,e2,c2,d2⟩⟩:=st;simp only [mem_cons,not_mem_nil,or_false] at hc;rcases hc with rfl|rfl|rfl|rfl|rfl
  ·exact ⟨_,hz,λ_ q=>by have q':Data.fields _=Data.cell _:=q;cases q'⟩
  ·exact ⟨_,hTI,λ_ q=>by have q':Data.seq _=Data.cell _:=q;cases q'⟩
  ·exact ⟨_,hTO,λ_ q=>by have q':Data.seq _=Data.cell _:=q;cases q'⟩
  ·exact ⟨_,e1,λ_ q=>by rw[d1] at q;cases q⟩
  ·exact ⟨_,e2,λ_ q=>by rw[d2] at q;cases q⟩
 keep:=λi h h' st kp=>by
  obtain ⟨hz,hTI,⟨u,v,hTO⟩,l1,l2⟩:=st;exact ⟨kp z (by simp) _ hz,kp TI (by simp) _ hTI,⟨u,v,kp TO (by simp) _ hTO⟩,l1.at λo e=>kp i1 (by simp) o e,l2.at λo e=>kp i2 (by simp) o e⟩
 item:=by
  intro X hP hw hK hc i pins s σ H E I hf st hg;subst hP hw hK;obtain ⟨xs,ys,x,y,hqa,hqb,hx,hy⟩:=hg;obtain ⟨ia,ra,pa,_⟩:=I.list hqa;obtain ⟨ib,rb,pb,_⟩:=I.list hqb;obtain ⟨u,hu,ru⟩:=ra.get hx;obtain ⟨v,hv,rv⟩:=rb.get hy;have D:=Iu.apart Z st pa.isList pb.isList;obtain ⟨hz,hTI,⟨u0,v0,hTO⟩,l1,l2⟩:=st;refine wpAny_pyNext_zip_item D hz hTI hTO l1 l2 pa.isList pb.isList (x:=u) (y:=v) (by simpa using hu) (by simpa using hv) λh' a1 a2 a3 a4 a5 a6 hk=>?_;refine ⟨_,rfl,?_⟩;refine wpAny_letOwnedTupleGo_zip (s:={s with heap:=h'}) a1 λh2 z2 sb=>?_;have fr:H s.heap.objs.size=none:=I.hok.fresh (Nat.le_refl _);have zlt:z<s.heap.objs.size:=lt_size hz;have k2:∀c o,c∉[z,TI,TO,i1,i2]->s.heap.get? c=some o->h2.get? c=some o:=λc o hc' e=>by
   simp only [mem_cons,not_mem_nil,or_false,not_or] at hc';exact sb.extBut _ _ hc'.1 (hk c o hc'.1 hc'.2.2.1 hc'.2.2.2.1 hc'.2.2.2.2 e)
  have T2:IsPair h2 s.heap.objs.size u v:=sb.extBut _ _ (ne_of_gt zlt) a5;have ne:∀c∈[z,TI,TO,i1,i2],c≠s.heap.objs.size:=λc hc'=>by
   obtain ⟨o,e⟩:∃o,s.heap.get? c=some o:=by
    simp only [mem_cons,not_mem_nil,or_false] at hc';obtain ⟨o1,e1,_⟩:=l1;obtain ⟨o2,e2,_⟩:=l2;rcases hc' with rfl|rfl|rfl|rfl|rfl
    ·exact ⟨_,hz⟩
    ·exact ⟨_,hTI⟩
    ·exact ⟨_,hTO⟩
    ·exact ⟨_,e1⟩
    ·exact ⟨_,e2⟩
   exact ne_of_lt (lt_size e)
  have I0:Inv X pins σ (upd H s.heap.objs.size (.tup [x,y])) {s with heap:=s.heap.push {cls:=.type "tuple",data:=.seq #[u,v]}}:=
   I.laid (t':=s.toks) (λc o e=>get?_push_of_some _ e) (Nat.le_refl _) (show aY X.prog X.w _ _ _ (.tup [x,y]) from ⟨by show 2<=sizeLine;decide,[u,v],.cons ru (.cons rv .nil),IsTup.new _ _⟩)
  have hf':∀c∈[z,TI,TO,i1,i2],mJ X pins (upd H s.heap.objs.size (.tup [x,y])) c:=λc hc'=>⟨by rw[aF (ne c hc')];exact (hf c hc').1,(hf c hc').2⟩;have I1:Inv X pins σ (upd H s.heap.objs.size (.tup [x,y])) {s with heap:=h2}:=Inv.turnedN (s:={s with heap:=s.heap.push {cls:=.type "tuple",data:=.seq #[u,v]}}) (t':=s.toks) I0 (λc o hc' e=>by
   rcases Heap.get?_push_cases e with ⟨hcs,ho⟩|e
   ·subst hcs ho
    exact T2
   ·exact k2 c o hc' e) hf'
  exact ⟨.ref s.heap.objs.size,_,I1,rfl,⟨_,x,y,fr,rfl,rfl,λxs' h'=>by rw[I.list_inj h' hqa];exact hx,λys' h'=>by rw[I.list_inj h' hqb];exact hy⟩,
   ⟨z2,sb.extBut _ _ Z.TIz (hk _ _ Z.TIz Z.TITO Z.TIi1 Z.TIi2 hTI),⟨_,_,sb.extBut _ _ Z.TOz a2⟩,a3.at λo e=>sb.extBut _ _ Z.i1z e,a4.at λo e=>sb.extBut _ _ Z.i2z e⟩,λc hc'=>(hf' c hc').1⟩
 done:=by
  intro X hP hw hK hc i pins s σ H E I hf st hg;subst hP hw hK;obtain ⟨xs,ys,hqa,hqb,hx⟩:=hg;obtain ⟨ia,ra,pa,_⟩:=I.list hqa;obtain ⟨ib,rb,pb,_⟩:=I.list hqb;have D:=Iu.apart Z st pa.isList pb.isList;obtain ⟨hz,hTI,⟨u0,v0,hTO⟩,l1,l2⟩:=st;have n1:=ra.length;have n2:=rb.length;refine wpAny_pyNext_zip_end (I.ok.hd hc) D hz hTI hTO l1 l2 pa.isList pb.isList (by rcases hx with hx|hx;exact .inl (by simp;lia);exact .inr (by simp;lia)) λh' hk=>⟨rfl,Inv.turnedN (t':=s.toks) I (λc o hc' e=>?_) hf⟩;simp only [mem_cons,not_mem_nil,or_false,not_or] at hc';exact hk c o hc'.1 hc'.2.2.1 hc'.2.2.2.1 hc'.2.2.2.2 e
 self:=λ_ _ _ _ _ st h=>wpAny_pyIter_zip st.1 h
end L2.Na
namespace L2.L3
open PySem PySem.Spec PyProof.Rows L2 PySem.SeqAt
noncomputable def Eqv:Nat->Hp->V->V->Prop
 |0,_,x,y=>(∃i,x=.int i/\y=.int i)\/(∃z,x=.str z/\y=.str z)\/(x=.non/\y=.non)
 |n+1,H,x,y=>Eqv n H x y\/∃p q xs ys,x=.ref p/\y=.ref q/\((H p=some (.lst xs)/\H q=some (.lst ys))\/(H p=some (.tup xs)/\H q=some (.tup ys)))/\xs.length=ys.length/\∀(i:Nat) (x y:V),xs[i]?=some x->ys[i]?=some y->Eqv n H x y
section
variable {X:Cx} {pins:List (Addr × Obj)} {σ:St} {H:Hp} {s:Shared}
theorem all_true (n:Nat):(range n).all (λ_=>true)=true:=all_eq_true.mpr λ_ _=>rfl
theorem CW (r:Vals xs us) (h:j<us.toArray.size):∃x,xs[j]?=some x/\RelV x us.toArray[j]:=by
 have hj:j<us.length:=by simpa using h
 have hx:j<xs.length:=by rw[r.length];exact hj
 obtain ⟨u,h1,h2⟩:=r.get (getElem?_eq_getElem hx);have e:us.toArray[j]=u:=by
  rw[getElem?_eq_getElem hj] at h1;simpa using Option.some.inj h1
 exact ⟨xs[j],getElem?_eq_getElem hx,by rw[e];exact h2⟩
theorem eF (r1:Vals xs us) (r2:Vals ys vs) (hi:∀(i:Nat) (x y:V),xs[i]?=some x->ys[i]?=some y->Eqv n H x y)
  (ih:∀(x y:V) (u v:Value),Eqv n H x y->RelV x u->RelV y v->EqAt A s u v true):∀j (h1:j<us.toArray.size) (h2:j<vs.toArray.size),EqAt A s us.toArray[j] vs.toArray[j] ((λ_=>true) j):=λj h1 h2=>by
 obtain ⟨x,e1,q1⟩:=CW r1 h1;obtain ⟨y,e2,q2⟩:=CW r2 h2;exact ih x y _ _ (hi j x y e1 e2) q1 q2
theorem jS (I:Inv X pins σ H s):∀(n:Nat) (A:Around) (x y:V) (u v:Value),A.units+n<cLine->Eqv n H x y->RelV x u->RelV y v->EqAt A s u v true
 |0,A,x,y,u,v,hu,h,r1,r2=>by
  rcases h with ⟨i,rfl,rfl⟩|⟨z,rfl,rfl⟩|⟨rfl,rfl⟩
  ·obtain ⟨t,rfl⟩:=r1;obtain ⟨t2,rfl⟩:=r2;have e:=EqAt.int_int (A:=A) (s:=s) i t i t2;rwa [beq_self_eq_true] at e
  ·obtain ⟨t,rfl⟩:=r1;obtain ⟨t2,rfl⟩:=r2;have e:=EqAt.str_str (A:=A) (s:=s) z t z t2;rwa [beq_self_eq_true] at e
  ·cases r1;cases r2;exact EqAt.same _
 |n+1,A,x,y,u,v,hu,.inl h,r1,r2=>jS I n A x y u v (by lia) h r1 r2
 |n+1,A,x,y,u,v,hu,.inr ⟨p,q,xs,ys,e1,e2,hh,hl,hi⟩,r1,r2=>by
  subst e1 e2;cases r1;cases r2;by_cases e:p=q
  ·subst e;exact EqAt.same _
  refine EqAt.of_refs e ?_;have hu1:A.in1.units+n<cLine:=by show A.units+1+n<cLine;lia
  rcases hh with ⟨h1,h2⟩|⟨h1,h2⟩
  ·obtain ⟨_,its,n1,k1,l1,g1⟩:=I.lstM h1;obtain ⟨_,its2,n2,k2,l2,g2⟩:=I.lstM h2;have z:=RcAt.lists (A:=A) (e:=λ_=>true) (⟨_,g1,rfl,n1,rfl⟩:s.heap.IsList p its.toArray) (⟨_,g2,rfl,n2,rfl⟩:s.heap.IsList q its2.toArray) (by rw[size_toArray,size_toArray];lia) (by lia)
    (eF k1 k2 hi λx y u v=>jS I n A.in1 x y u v hu1)
   rwa [all_true] at z
  ·obtain ⟨its,k1,p1,_⟩:=I.tuple (cZ.of h1);obtain ⟨its2,k2,p2,_⟩:=I.tuple (cZ.of h2);have z:=RcAt.tuples (A:=A) (e:=λ_=>true) (show s.heap.IsTuple p its.toArray from p1) (show s.heap.IsTuple q its2.toArray from p2) (by lia)
    (eF k1 k2 hi λx y u v=>jS I n A.in1 x y u v hu1)
   have e3:its.toArray.size=its2.toArray.size:=by rw[size_toArray,size_toArray,<-k1.length,<-k2.length];exact hl
   rwa [all_true,e3,beq_self_eq_true,Bool.true_and] at z
noncomputable def PF (n:Nat) (H:Hp) (p q:Addr):Prop:=∃xs ys,((H p=some (.lst xs)/\H q=some (.lst ys))\/(H p=some (.tup xs)/\H q=some (.tup ys)))/\xs.length=ys.length/\∀(i:Nat) (x y:V),xs[i]?=some x->ys[i]?=some y->Eqv n H x y
noncomputable def Ej:R2:=λx y H Q=>∃p q n,x=.ref p/\y=.ref q/\n<=40/\PF n H p q/\Q (.bl true) H
noncomputable def Ee:R2:=λx y H Q=>∃p q n,x=.ref p/\y=.ref q/\n<=40/\PF n H p q/\Q (.bl false) H
theorem ZK (hu:X.A.units+64<cLine):gI X (compareOp .Eq) Ej:=by
 intro pins s σ H x y v u Q I rx ry h;obtain ⟨p,q,n,rfl,rfl,hn,⟨xs,ys,hh,hl,hi⟩,qq⟩:=h;cases rx;cases ry;have hu1:X.A.in1.units+n<cLine:=by show X.A.units+1+n<cLine;lia
 rcases hh with ⟨h1,h2⟩|⟨h1,h2⟩
 ·obtain ⟨_,its,n1,k1,l1,g1⟩:=I.lstM h1;obtain ⟨_,its2,n2,k2,l2,g2⟩:=I.lstM h2;have z:=RcAt.lists (A:=X.A) (e:=λ_=>true) (⟨_,g1,rfl,n1,rfl⟩:s.heap.IsList p its.toArray) (⟨_,g2,rfl,n2,rfl⟩:s.heap.IsList q its2.toArray) (by rw[size_toArray,size_toArray];lia) (by lia)
   (eF k1 k2 hi λx y u v=>jS I n X.A.in1 x y u v hu1)
  rw[all_true] at z;exact z X.prog X.w X.xe _ ⟨.bl true,H,I,rfl,qq⟩
 ·obtain ⟨its,k1,p1,_⟩:=I.tuple (cZ.of h1);obtain ⟨its2,k2,p2,_⟩:=I.tuple (cZ.of h2);have z:=RcAt.tuples (A:=X.A) (e:=λ_=>true) (show s.heap.IsTuple p its.toArray from p1) (show s.heap.IsTuple q its2.toArray from p2) (by lia)
   (eF k1 k2 hi λx y u v=>jS I n X.A.in1 x y u v hu1)
  have e3:its.toArray.size=its2.toArray.size:=by rw[size_toArray,size_toArray,<-k1.length,<-k2.length];exact hl
  rw[all_true,e3,beq_self_eq_true,Bool.true_and] at z;exact z X.prog X.w X.xe _ ⟨.bl true,H,I,rfl,qq⟩
noncomputable def Ei:R2:=λx y H Q=>∃p q xs ys,x=.ref p/\y=.ref q/\H p=some (.lst xs)/\H q=some (.lst ys)/\xs.length≠ys.length/\Q (.bl false) H
theorem ZJ (hu:X.A.units+64<cLine):gI X (compareOp .Eq) Ei:=by
 intro pins s σ H x y v u Q I rx ry h;obtain ⟨p,q,xs,ys,rfl,rfl,h1,h2,hl,qq⟩:=h;cases rx;cases ry;obtain ⟨_,its,n1,k1,l1,g1⟩:=I.lstM h1;obtain ⟨_,its2,n2,k2,l2,g2⟩:=I.lstM h2;have hne:(its.toArray.size != its2.toArray.size)=true:=by
  rw[size_toArray,size_toArray,<-l1,<-l2];exact bne_iff_ne.mpr hl
 exact RcAt.lists_lengths (A:=X.A) (⟨_,g1,rfl,n1,rfl⟩:s.heap.IsList p its.toArray) (⟨_,g2,rfl,n2,rfl⟩:s.heap.IsList q its2.toArray) hne (by lia) X.prog X.w X.xe _ ⟨.bl false,H,I,rfl,qq⟩
theorem ZF (hu:X.A.units+64<cLine):gI X (compareOp .NotEq) Ee:=by
 intro pins s σ H x y v u Q I rx ry h;obtain ⟨p,q,n,rfl,rfl,hn,⟨xs,ys,hh,hl,hi⟩,qq⟩:=h;cases rx;cases ry;have hu1:X.A.in1.units+n<cLine:=by show X.A.units+1+n<cLine;lia
 rcases hh with ⟨h1,h2⟩|⟨h1,h2⟩
 ·obtain ⟨_,its,n1,k1,l1,g1⟩:=I.lstM h1;obtain ⟨_,its2,n2,k2,l2,g2⟩:=I.lstM h2;have z:=RcNeAt.lists (A:=X.A) (e:=λ_=>true) (⟨_,g1,rfl,n1,rfl⟩:s.heap.IsList p its.toArray) (⟨_,g2,rfl,n2,rfl⟩:s.heap.IsList q its2.toArray) (by rw[size_toArray,size_toArray];lia) (by lia)
   (eF k1 k2 hi λx y u v=>jS I n X.A.in1 x y u v hu1)
  rw[all_true] at z;exact z X.prog X.w X.xe _ ⟨.bl false,H,I,rfl,qq⟩
 ·obtain ⟨its,k1,p1,_⟩:=I.tuple (cZ.of h1);obtain ⟨its2,k2,p2,_⟩:=I.tuple (cZ.of h2);have z:=RcNeAt.tuples (A:=X.A) (e:=λ_=>true) (show s.heap.IsTuple p its.toArray from p1) (show s.heap.IsTuple q its2.toArray from p2) (by lia)
   (eF k1 k2 hi λx y u v=>jS I n X.A.in1 x y u v hu1)
  have e3:its.toArray.size=its2.toArray.size:=by rw[size_toArray,size_toArray,<-k1.length,<-k2.length];exact hl
  rw[all_true,e3,beq_self_eq_true,Bool.true_and] at z;exact z X.prog X.w X.xe _ ⟨.bl false,H,I,rfl,qq⟩
noncomputable def Ed:R2:=λx y H Q=>∃p q xs ys,x=.ref p/\y=.ref q/\H p=some (.lst xs)/\H q=some (.lst ys)/\xs.length≠ys.length/\Q (.bl true) H
theorem ZE (hu:X.A.units+64<cLine):gI X (compareOp .NotEq) Ed:=by
 intro pins s σ H x y v u Q I rx ry h;obtain ⟨p,q,xs,ys,rfl,rfl,h1,h2,hl,qq⟩:=h;cases rx;cases ry;obtain ⟨_,its,n1,k1,l1,g1⟩:=I.lstM h1;obtain ⟨_,its2,n2,k2,l2,g2⟩:=I.lstM h2;have hne:(its.toArray.size != its2.toArray.size)=true:=by
  rw[size_toArray,size_toArray,<-l1,<-l2];exact bne_iff_ne.mpr hl
 exact RcNeAt.lists_lengths (A:=X.A) (⟨_,g1,rfl,n1,rfl⟩:s.heap.IsList p its.toArray) (⟨_,g2,rfl,n2,rfl⟩:s.heap.IsList q its2.toArray) hne (by lia) X.prog X.w X.xe _ ⟨.bl true,H,I,rfl,qq⟩
noncomputable def JZ (K:Fg):R2:=λx y H Q=>∃a b ys,x=.ref a/\y=.ref b/\cZ K H a []/\cZ K H b ys/\Q (.ref b) H
theorem KU:gI X (binaryOp .Add) (JZ X.K):=by
 intro pins s σ H x y v u Q I rx ry h;obtain ⟨a,b,ys,rfl,rfl,ha,hb,q⟩:=h;cases rx;cases ry;obtain ⟨its,r1,p1,_⟩:=I.tuple ha;obtain ⟨its2,r2,p2,_⟩:=I.tuple hb;have e:its=[]:=r1.nil_iff.mpr rfl;subst e;obtain ⟨⟨cls,dd,data,sl⟩,ho,hc,n,hd⟩:=id p1;obtain ⟨⟨cls2,dd2,data2,sl2⟩,ho2,hc2,n2,hd2⟩:=id p2;simp only at hc hd hc2 hd2;subst hc hd hc2 hd2;exact concat_meets ⟨_,ho,rfl⟩ ⟨_,ho2,rfl⟩ noFill_tuple_add seq_tuple_add PySem.F.slot_tuple_add PySem.F.entry_tuple_add (PySem.F.args_tuple_add_2 _ _)
  (tuple_addW0 a b [].toArray its2.toArray n n2 dd dd2 sl sl2 rfl) ⟨ho,ho2,⟨.ref b,H,I,rfl,q⟩⟩
noncomputable def WT (z:Str) (k:Int):Prop:=0<=k/\k<2 ^ 31/\z.length * k.toNat<=sizeLine
theorem RP:gI X (binaryOp .Mult) (λx y H Q=>∃i k,x=.str i/\y=.int k/\WT i k/\Q (.str (Txt.mul i k)) H):=by
 intro pins s σ H x y v u Q I rx ry h;obtain ⟨i,k,rfl,rfl,⟨h1,h2,h3⟩,q⟩:=h;obtain ⟨t,rfl⟩:=rx;obtain ⟨t',rfl⟩:=ry;have e1:(decide (k< -(2 ^ 63:Int)) || decide (k>=2 ^ 63))=false:=by
  rw[decide_eq_false (by lia),decide_eq_false (by lia)];rfl
 have hs:(sizeLine:Nat)<=2 ^ 40:=by rw[sizeLine_eq];decide
 refine SB.mul ⟨e1,λg1 _ c=>?_,λg1 _=>?_⟩ (λt' tk=>⟨.str (Txt.mul i k),H,I.tok _,⟨_,rfl⟩,q⟩)
 ·have c1:(2 ^ 63 - 1) / k<(i.length:Int):=c;have c2:¬(i.length:Int)<=(2 ^ 63 - 1) / k:=by lia
  refine c2 ((Int.le_ediv_iff_mul_le (by lia)).mpr ?_);have e:((i.length * k.toNat:Nat):Int)=(i.length:Int) * k:=by rw[Int.natCast_mul,Int.toNat_of_nonneg (by lia)]
  lia
 ·show decide _=false;exact decide_eq_false (by lia)
noncomputable def Jt (i j:Int):Prop:=0<=j/\(Builtin.Int.intBits i:Int) * j<=2 ^ 27
theorem VB.pw (h:VB i j):Jt i j:=by
 obtain ⟨h0,h1,h2⟩:=h;refine ⟨h0,?_⟩;have hb:Builtin.Int.intBits i<=64:=PyProof.Rows.intBits_le h2;have:(Builtin.Int.intBits i:Int) * j<=64 * j:=Int.mul_le_mul_of_nonneg_right (by lia) h0;lia
noncomputable def Ly (_ j:Int):Prop:=0<j/\j<2 ^ 64
theorem KS:gI X (binaryOp .FloorDiv) (rI Ly λi j=>.int (i / j)):=Ji λi j _ _ _ _ _ hc q=>by
 have h1:(0:Int)<j:=hc.1;have h2:j<2 ^ 64:=hc.2;refine floordiv_int (by lia) (by rw[Int.fdiv_eq_ediv_of_nonneg i (by lia)];exact q) (.inl (PyProof.noPylong_of_log2 ?_));have h3:j.natAbs.log2<64:=(Nat.log2_lt (by lia)).mpr (by lia);lia
theorem RQ:gI X (binaryOp .Mult) (rI IntMulOk λi j=>.int (i * j)):=Ji λ_ _ _ _ _ _ _ hc q=>mul_int q hc
theorem RM:gI X (binaryOp .Pow) (rI Jt λi j=>.int (i ^ j.toNat)):=Ji λ_ _ _ _ _ _ _ hc q=>pow_int hc.1 hc.2 q
end
end L2.L3
namespace L2.Na
open PySem PySem.Spec PyProof.Rows L2 L2.L3
theorem qQ (o:Obj) (f:Array Value->Array Value):(o.mapFields f).dict=o.dict:=by
 unfold Obj.mapFields;split<;>rfl
noncomputable def Mi (h B:Heap) (e:Addr) (c:Value) (dx:Option Addr) (fl:Value):Prop:=
 ∃oe vs T oT ts,h.get? e=some oe/\oe.cls=c/\oe.dict=dx/\oe.data=.fields vs/\vs[1]?=some (.ref T)/\B.get? T=none/\T≠e/\h.get? T=some oT/\oT.data=.fields ts/\ts[3]?=some fl
structure Lv (B:Heap) (l:List Env) (e:Addr) (c:Value) (dx:Option Addr) (fl:Value) (h h':Heap):Prop where
 stay:B.StaysIn h'
 frames:h'.FunFrames B l
 tr:Mi h' B e c dx fl
 slots:h.UpToSlots h'
structure lG (B:Heap) (l:List Env) (e:Addr) (c:Value) (dx:Option Addr) (fl:Value) (h:Heap):Prop where
 stay:B.StaysIn h
 new:B.get? e=none
 frames:h.FunFrames B l
 tr:Mi h B e c dx fl
section
variable {M:Model} {A:Around} {E:Value->Shared->Prop} {s:Shared} {B:Heap} {env:Env} {outer:List Env} {L e:Addr} {Q:Unit->Shared->Prop}
theorem CD (fr:A.frames=some (env::outer)) (ff:s.heap.FunFrames B (env::outer)) (ef:env.frame=some L) (ef2:env2.frame=some L)
  (h:∀h',Heap.SlotsOnly ((env::outer).filterMap (·.frame)) s.heap h'->R (.ref L) {s with heap:=h'}):wpAny M A (PySem.frameOf env2) R E s:=by
 unfold PySem.frameOf;refine wpAny_bind (wpAny_frameEnvs fr ?_);have hdw:((env::outer).dropWhile λx=>x.frame != env2.frame)=env::outer:=by simp [List.dropWhile,ef,ef2]
 rw[hdw];unfold frameObject;refine wpAny_bind (wpAny_bind (wpAny_readyFrames_fun ff λh₁ hs₁=>wpAny_pure ?_));rw[ef];exact wpAny_pure (h h₁ hs₁)
theorem tF (fr:A.frames=some (env::outer)) (ff:s.heap.FunFrames B (env::outer)) (ef:env.frame=some L) (ef2:env2.frame=some L) (eo:s.heap.get? e=some oe) (st:B.StaysIn s.heap)
  (en:B.get? e=none) (dt:oe.data=.fields vs) (sz:1<vs.size) (k:∀g,Lv B (env::outer) e oe.cls oe.dict (rawInt L) s.heap g->Q () {s with heap:=g}):
  wpAny M A (do let a <-frameOf env2;let pl <-entryPlaceOf L nx;let b <-EntryCells.newEntry hd0 a .none (rawInt L) .none pl;setField (.ref e) 1 b) Q E s:=by
 have nf:e∉(env::outer).filterMap (·.frame):=λm=>by
  obtain ⟨_,o,ho,n⟩:=ff.mem m;rw[eo] at ho;cases ho;exact n vs dt
 refine wpAny_bind (CD fr ff ef ef2 λg1 s1=>wpAny_bind (wpAny_entryPlaceOf λpl ip=>?_));unfold EntryCells.newEntry newFields;refine wpAny_bind (wpAny_newObj_type ?_ (ip.sizeOk5 _ _ _ _ _));have e1:g1.get? e=some oe:=by rw[s1.2.1 e nf];exact eo
 have b1:B.StaysIn g1:=λb o q=>by
  rw[s1.2.1 b λm=>by rw[(ff.mem m).1] at q;cases q];exact st b o q
 generalize ho:({cls:=.type "traceback",dict:=none,data:=.fields ([hd0,.ref L,.none,rawInt L,.none]++(if pl.isEmpty then replicate 6 Value.none else pl)).toArray}:Obj)=ot;have od:ot.data=.fields ([hd0,.ref L,.none,rawInt L,.none]++(if pl.isEmpty then replicate 6 Value.none else pl)).toArray:=by rw[<-ho]
 have of3:([hd0,.ref L,.none,rawInt L,.none]++(if pl.isEmpty then replicate 6 Value.none else pl)).toArray[3]?=some (rawInt L):=by simp
 have onf:ot.isFreed=false:=Obj.isFreed_of_fields od;have e2:(g1.push ot).get? e=some oe:=get?_push_of_some _ e1;have ne:g1.objs.size≠e:=ne_of_gt (lt_size e1);refine wpAny_setField e2 dt sz (k _ ?_);have d3:(oe.mapFields (·.setIfInBounds 1 (Value.ref g1.objs.size))).data=.fields (vs.setIfInBounds 1 (Value.ref g1.objs.size)):=Obj.data_mapFields dt _;have e3:((g1.push ot).update e (Obj.mapFields (·.setIfInBounds 1 (Value.ref g1.objs.size)))).get? e=some (oe.mapFields (·.setIfInBounds 1 (Value.ref g1.objs.size))):=get?_update_self _ e2 (Obj.isFreed_of_fields d3);have kp:∀b o,b≠e->g1.get? b=some o->((g1.push ot).update e (Obj.mapFields (·.setIfInBounds 1 (Value.ref g1.objs.size)))).get? b=some o:=λb o hb q=>by
  rw[get?_update_other _ _ hb.symm];exact get?_push_of_some _ q
 have nr:∀b o,s.heap.get? b=some o->(∀ws,o.data≠.fields ws)->b≠e:=λb o q n z=>by
  subst z;rw[eo] at q;cases q;exact n vs dt
 refine ⟨λb o q=>kp b o (λz=>by rw[z,en] at q;cases q) (b1 b o q),ff.of_keeps λb o q n=>?_,⟨_,_,g1.objs.size,ot,_,e3,Obj.cls_mapFields _ _,qQ _ _,d3,by simp [sz],b1.fresh,ne,?_,od,of3⟩,λb o q n=>?_⟩
 ·obtain ⟨sl,z⟩:=s1.2.2 b o q;exact ⟨_,kp b _ (nr b o q n) z,rfl⟩
 ·rw[get?_update_other _ _ ne.symm];exact get?_push_size g1 onf
 ·obtain ⟨sl,z⟩:=s1.2.2 b o q;exact ⟨sl,kp b _ (nr b o q n) z⟩
theorem LC (fr:A.frames=some (env::outer)) (ff:s.heap.FunFrames B (env::outer)) (ef:env.frame=some L) (ef2:env2.frame=some L) (eo:s.heap.get? e=some oe) (st:B.StaysIn s.heap)
  (en:B.get? e=none) (dt:oe.data=.fields vs) (v1:vs[1]?=some .none) (k:∀g,lG B (env::outer) e oe.cls oe.dict (rawInt L) g->s.heap.UpToSlots g->Q () {s with heap:=g}):wpAny M A (noteFrame (.ref e) env2) Q E s:=by
 unfold noteFrame;simp only [ef2];refine wpAny_bind (wpAny_field eo dt v1 ?_);rw[if_neg (show ¬((Value.none != Value.none)=true) by decide)];exact tF fr ff ef ef2 eo st en dt (Array.getElem?_eq_some_iff.mp v1).1 λg w=>k g ⟨w.stay,en,w.frames,w.tr⟩ w.slots
theorem LF (fr:A.frames=some (env::outer)) (ef:env.frame=some L) (ef2:env2.frame=some L) (F:lG B (env::outer) e c dx fl s.heap)
  (k:∀g fl',lG B (env::outer) e c dx fl' g->s.heap.UpToSlots g->Q () {s with heap:=g}):wpAny M A (noteFrame (.ref e) env2) Q E s:=by
 have F0:=F;obtain ⟨st,en,ff,oe,vs,T,oT,ts,eo,rfl,rfl,dt,v1,nT,ne,eT,dT,t3⟩:=F;unfold noteFrame;simp only [ef2];refine wpAny_bind (wpAny_field eo dt v1 ?_);rw[if_pos (show (Value.ref T != Value.none)=true by simp)];refine wpAny_bind (wpAny_field eT dT t3 ?_);by_cases hfl:(fl==rawInt L)=true
 ·rw[if_pos hfl];exact wpAny_pure (k s.heap fl F0 (Heap.UpToSlots.refl _))
 rw[if_neg hfl];refine wpAny_bind (wpAny_setField eT dT (Array.getElem?_eq_some_iff.mp t3).1 ?_);have ot:∀b,b≠T->(s.heap.update T (Obj.mapFields (·.setIfInBounds 3 Value.none))).get? b=s.heap.get? b:=λb hb=>get?_update_other _ _ hb.symm;have nr:∀b o,s.heap.get? b=some o->(∀ws,o.data≠.fields ws)->b≠T:=λb o q n z=>by
  subst z;rw[eT] at q;cases q;exact n ts dT
 refine tF (s:={s with heap:=s.heap.update T (Obj.mapFields (·.setIfInBounds 3 Value.none))}) fr (ff.of_keeps λb o q n=>⟨o,by rw[ot b (nr b o q n)];exact q,rfl⟩) ef ef2 (by show (s.heap.update T _).get? e=_;rw[ot e ne.symm];exact eo)
  (λb o q=>by show (s.heap.update T _).get? b=_;rw[ot b λz=>by rw[z,nT] at q;cases q];exact st b o q) en dt (Array.getElem?_eq_some_iff.mp v1).1 λg w=>k g _ ⟨w.stay,en,w.frames,w.tr⟩ λb o q n=>w.slots b o (by rw[ot b (nr b o q n)];exact q) n
theorem LQ (fo:Option Addr) (F:lG B l e c dx fl s.heap) (k:∀g,lG B l e c dx (fo.elim Value.none λf=>rawInt f) g->s.heap.UpToSlots g->Q () {s with heap:=g}):wpAny M A (setFlight (.ref e) fo) Q E s:=by
 obtain ⟨st,en,ff,oe,vs,T,oT,ts,eo,hc,hx,dt,v1,nT,ne,eT,dT,t3⟩:=F;have ot:∀b,b≠T->(s.heap.update T (Obj.mapFields (·.setIfInBounds 3 (fo.elim Value.none λf=>rawInt f)))).get? b=s.heap.get? b:=λb hb=>get?_update_other _ _ hb.symm;have nr:∀b o,s.heap.get? b=some o->(∀ws,o.data≠.fields ws)->b≠T:=λb o q n z=>by
  subst z;rw[eT] at q;cases q;exact n ts dT
 have s3:=(Array.getElem?_eq_some_iff.mp t3).1;unfold setFlight;refine wpAny_bind (wpAny_field eo dt v1 ?_);rw[if_pos (show (Value.ref T != Value.none)=true by simp)];refine wpAny_setField eT dT s3 (k _ ⟨λb o q=>?_,en,ff.of_keeps λb o q n=>⟨o,by rw[ot b (nr b o q n)];exact q,rfl⟩,oe,vs,T,_,_,by rw[ot e ne.symm];exact eo,hc,hx,dt,v1,nT,ne,get?_update_self _ eT (Obj.isFreed_of_fields (Obj.data_mapFields dT _)),Obj.data_mapFields dT _,by simp [s3]⟩
  λb o q n=>⟨o.slots,by rw[ot b (nr b o q n)];exact q⟩)
 rw[ot b λz=>by rw[z,nT] at q;cases q];exact st b o q
theorem yX (F:lG B l e c dx fl s.heap) (k:∀g,lG B l e c dx .none g->s.heap.UpToSlots g->Q () {s with heap:=g}):wpAny M A (setFlight (.ref e) none) Q E s:=LQ none F k
theorem lG.tail (F:lG B (env::outer) e c dx fl h):lG B outer e c dx fl h:=⟨F.stay,F.new,F.frames.2.2,F.tr⟩
theorem leave_new (fr:A.frames=some (env::outer)) (ff:s.heap.FunFrames B (env::outer)) (ef:env.frame=some L) (eo:s.heap.get? e=some oe) (st:B.StaysIn s.heap)
  (en:B.get? e=none) (dt:oe.data=.fields vs) (v1:vs[1]?=some .none) (k:∀g,lG B outer e oe.cls oe.dict .none g->s.heap.UpToSlots g->Q () {s with heap:=g}):wpAny M A (leaving env (.ref e)) Q E s:=by
 unfold leaving;exact wpAny_bind (LC fr ff ef ef eo st en dt v1 λg F u=>yX F λg2 F2 u2=>k g2 F2.tail (u.trans u2))
theorem GU (fr:A.frames=some (env::outer)) (ef:env.frame=some L) (F:lG B (env::outer) e c dx fl s.heap)
  (k:∀g,lG B outer e c dx .none g->s.heap.UpToSlots g->Q () {s with heap:=g}):wpAny M A (leaving env (.ref e)) Q E s:=by
 unfold leaving;exact wpAny_bind (LF fr ef ef F λg _ F1 u=>yX F1 λg2 F2 u2=>k g2 F2.tail (u.trans u2))
end
noncomputable def tY (P:Program) (w:World):PK:=λouter H s E ev s'=>∃(e:Addr) (c:Value) (dx:Option Addr) (H':Hp) (B:Heap),ev=.ref e/\s'.os=s.os/\AllBare s'.gens/\Un (fV outer) [] H H' s.heap s'.heap/\eG P w H' s'.heap/\
 (∃fl,lG B outer e c dx fl s'.heap)/\(∀b o,s.heap.get? b=some o->b∉fV outer->∃u,B.get? b=some u)/\(∀b o,H' b=some o->∃u,B.get? b=some u)/\E c dx H'
theorem tY.no (h:tY P w outer H s E0 ev s'):False:=by
 obtain ⟨_,_,_,_,_,_,_,_,_,_,_,_,_,z⟩:=h;exact z
theorem oJ (x:aY P w H h a o):∃u,h.get? a=some u:=by
 induction o with
 |lst xs=>obtain ⟨_,_,_,_,e⟩:=x;exact ⟨_,e⟩
 |tup xs=>obtain ⟨_,_,_,u,e,_⟩:=x;exact ⟨_,e⟩
 |dK kvs=>obtain ⟨_,_,_,_,o,_,_,e,_⟩:=x;exact ⟨_,e⟩
 |dT kvs=>obtain ⟨_,_,_,_,o,_,_,e,_⟩:=x;exact ⟨_,e⟩
 |set S n=>obtain ⟨o,_,_,_,e,_⟩:=x;exact ⟨_,e⟩
 |ins C dx fs=>obtain ⟨_,_,_,e,_⟩:=x;exact ⟨_,e⟩
 |own y=>exact x
 |xd fs=>obtain ⟨_,⟨_,_,_,e,_⟩,_⟩:=x;exact ⟨_,e⟩
 |rng lo hi=>obtain ⟨_,_,_,e⟩:=x;exact ⟨_,e⟩
 |frz ob u _=>exact ⟨_,x.1⟩
 |tbl ps=>exact ⟨_,x⟩
 |met f y=>exact ⟨_,x⟩
 |ext φ=>exact x.2.1
section
variable {P:Program} {w:World} {K:Fg} {mg:Str->Option Value} {base:Heap} {N:List Str} {qual:Str} {scope:Scope} {f:Addr} {cd:Value} {A:Around} {outer:List Env} {s:Shared} {H:Hp} {E:XK}
theorem NA {H':Hp} {h g B:Heap} (x:eG P w H' h) (c2:∀b o,H' b=some o->∃u,B.get? b=some u) (s1:B.StaysIn h) (s2:B.StaysIn g):eG P w H' g:=λb o q=>
 (x b o q).stay (λb' u' hb' q'=>by
  obtain ⟨u,hu⟩:∃u,B.get? b'=some u:=by
   rcases hb' with rfl|hb'
   ·exact c2 _ _ q
   ·exact c2 _ _ hb'
  have z:=s1 _ _ hu
  rw[q'] at z
  cases z
  exact s2 _ _ hu) (λ_ z=>z) λ_ _ z=>z
theorem KN:Passes (tY P w) (rY (tY P w) P w K mg base N qual scope f cd A outer s H E) E:=by
 intro pins σ H1 s1 ev s' I hc;obtain ⟨e,c,dx,H',B,rfl,os,bare,un,hok,⟨fl,F⟩,c1,c2,hE⟩:=hc;have un':Un (fV (envOfC qual scope s.heap.objs.size f cd::outer)) [] H1 H' s1.heap s'.heap:=un;have I0:Un (fV outer) [] H H1 s.heap s1.heap:=I.base;have nl:∀b o,s.heap.get? b=some o->b∉fV outer->b∉fV (envOfC qual scope s.heap.objs.size f cd::outer):=λb o q hb z=>by
  have z':b=s.heap.objs.size\/b∈fV outer:=by simpa [fV,envOfC] using z
  rcases z' with z'|z'
  ·exact absurd (lt_size q) (by rw[z'];exact lt_irrefl _)
  ·exact hb z'
 have fs:∀b,b∈fV outer->b∈fV (envOfC qual scope s.heap.objs.size f cd::outer):=λb z=>by
  have:b=s.heap.objs.size\/b∈fV outer:=.inr z;simpa [fV,envOfC] using this
 show wpAny _ _ (leaving _ (.ref e)) _ _ s';refine GU (L:=s.heap.objs.size) I.ok.frames rfl F λg F2 u=>?_;have bg:∀b o,s'.heap.get? b=some o->(∃u,B.get? b=some u)->g.get? b=some o:=λb o q ⟨v,hv⟩=>by
  have z:=F.stay _ _ hv;rw[q] at z;cases z;exact F2.stay _ _ hv
 have c1':∀b o,s.heap.get? b=some o->b∉fV outer->∃u,B.get? b=some u:=λb o q hb=>by
  obtain ⟨o1,q1⟩:=I0.there b o q (by simp);exact c1 b o1 q1 (nl b o q hb)
 have slot:∀b o,s.heap.get? b=some o->H b=none->b∈fV outer->∃sl,g.get? b=some {o with slots:=sl}:=λb o q n hb=>by
  obtain ⟨sl,q1⟩:=I0.slot b o q n hb (by simp);obtain ⟨sl2,q2⟩:=un'.slot b _ q1 (I0.free b o q n (by simp)) (fs b hb) (by simp);have nf:∀ws,o.data≠.fields ws:=by
   obtain ⟨_,o',q',n'⟩:=(show s.heap.FunFrames base outer from I.ok.funs).mem hb;rw[q] at q';cases q';exact n'
  obtain ⟨sl3,q3⟩:=u b _ q2 nf;exact ⟨sl3,q3⟩
 refine ⟨e,c,dx,H',B,rfl,os.trans I.os,bare,⟨λb o q n hb _=>?_,λb o q n hb _=>slot b o q n hb,λb o q n _=>?_,λb o q _=>?_,λb xs q=>un.tups b xs (I0.tups b xs q),λb o xs q=>un.frzs b o xs (I0.frzs b o xs q),λb ps q=>?_⟩,NA hok c2 F.stay F2.stay,⟨_,F2⟩,c1',c2,hE⟩
 ·exact bg b o (un'.keep b o (I0.keep b o q n hb (by simp)) (I0.free b o q n (by simp)) (nl b o q hb) (by simp)) (c1' b o q hb)
 ·obtain ⟨o1,q1⟩:=I0.there b o q (by simp);exact un'.free b o1 q1 (I0.free b o q n (by simp)) (by simp)
 ·by_cases hb:b∈fV outer
  ·obtain ⟨sl,z⟩:=slot b o q (I.ok.frf b hb) hb;exact ⟨_,z⟩
  ·obtain ⟨v,hv⟩:=c1' b o q hb;exact ⟨v,F2.stay _ _ hv⟩
 ·obtain ⟨m1,e1⟩:=I0.tbls b ps q;obtain ⟨m2,e2⟩:=un.tbls b _ e1;exact ⟨m1++m2,by rw[e2,Array.append_assoc]⟩
theorem LS (I:Inv (rY (tY P w) P w K mg base N qual scope f cd A outer s H E) pins σ H1 s1)
  (eo:s1.heap.get? e=some oe) (dt:oe.data=.fields vs) (v1:vs[1]?=some .none) (en:H1 e=none) (e0:∀b o,s.heap.get? b=some o->b≠e) (hE:E oe.cls oe.dict H1):
  (rY (tY P w) P w K mg base N qual scope f cd A outer s H E).xe (.ref e) s1:=by
 have I0:Un (fV outer) [] H H1 s.heap s1.heap:=I.base;have ff:s1.heap.FunFrames base (envOfC qual scope s.heap.objs.size f cd::outer):=I.stack;have nl:∀b o,s.heap.get? b=some o->b∉fV outer->b∉fV (envOfC qual scope s.heap.objs.size f cd::outer):=λb o q hb z=>by
  have z':b=s.heap.objs.size\/b∈fV outer:=by simpa [fV,envOfC] using z
  rcases z' with z'|z'
  ·exact absurd (lt_size q) (by rw[z'];exact lt_irrefl _)
  ·exact hb z'
 have ne:e∉fV (envOfC qual scope s.heap.objs.size f cd::outer):=λz=>by
  obtain ⟨_,o,q,n⟩:=ff.mem z;rw[eo] at q;cases q;exact n vs dt
 have hid:∀{b o},(PySem.W.hideAll s1.heap (e::fV (envOfC qual scope s.heap.objs.size f cd::outer))).get? b=some o->s1.heap.get? b=some o:=λq=>PySem.W.of_hideAll _ q;have has:∀{b o},s1.heap.get? b=some o->b≠e->b∉fV (envOfC qual scope s.heap.objs.size f cd::outer)->(PySem.W.hideAll s1.heap (e::fV (envOfC qual scope s.heap.objs.size f cd::outer))).get? b=some o:=
  λq h1 h2=>PySem.W.hideAll_get _ q (by simp only [mem_cons,not_or];exact ⟨h1,h2⟩)
 have ff2:s1.heap.FunFrames (PySem.W.hideAll s1.heap (e::fV (envOfC qual scope s.heap.objs.size f cd::outer))) (envOfC qual scope s.heap.objs.size f cd::outer):=
  PySem.W.funFrames_hide ff λenv' he' a ha=>mem_cons_of_mem _ (mem_filterMap.mpr ⟨env',he',ha⟩)
 show wpAny _ _ (leaving _ (.ref e)) _ _ s1;refine leave_new (L:=s.heap.objs.size) I.ok.frames ff2 rfl eo (λb o q=>hid q) (PySem.W.hideAll_none _ (by simp)) dt v1 λg F2 u=>?_;have c1':∀b o,s.heap.get? b=some o->b∉fV outer->∃u,(PySem.W.hideAll s1.heap (e::fV (envOfC qual scope s.heap.objs.size f cd::outer))).get? b=some u:=λb o q hb=>by
  obtain ⟨o1,q1⟩:=I0.there b o q (by simp);exact ⟨o1,has q1 (e0 b o q) (nl b o q hb)⟩
 have c2:∀b o,H1 b=some o->∃u,(PySem.W.hideAll s1.heap (e::fV (envOfC qual scope s.heap.objs.size f cd::outer))).get? b=some u:=λb o q=>by
  obtain ⟨o1,q1⟩:∃o1,s1.heap.get? b=some o1:=oJ (I.hok b o q);refine ⟨o1,has q1 (λz=>by rw[z,en] at q;cases q) λz=>?_⟩;have:=I.stkFree b z;rw[q] at this;cases this
 have slot:∀b o,s.heap.get? b=some o->H b=none->b∈fV outer->∃sl,g.get? b=some {o with slots:=sl}:=λb o q n hb=>by
  obtain ⟨sl,q1⟩:=I0.slot b o q n hb (by simp);have nf:∀ws,o.data≠.fields ws:=by
   obtain ⟨_,o',q',n'⟩:=(show s.heap.FunFrames base outer from I.ok.funs).mem hb;rw[q] at q';cases q';exact n'
  obtain ⟨sl3,q3⟩:=u b _ q1 nf;exact ⟨sl3,q3⟩
 refine ⟨e,oe.cls,oe.dict,H1,_,rfl,I.os,I.bare,⟨λb o q n hb _=>?_,λb o q n hb _=>slot b o q n hb,λb o q n _=>I0.free b o q n (by simp),λb o q _=>?_,I0.tups,I0.frzs,I0.tbls⟩,NA I.hok c2 (λb o q=>hid q) F2.stay,⟨_,F2⟩,c1',c2,hE⟩
 ·exact F2.stay _ _ (has (I0.keep b o q n hb (by simp)) (e0 b o q) (nl b o q hb))
 ·by_cases hb:b∈fV outer
  ·obtain ⟨sl,z⟩:=slot b o q (I.ok.frf b hb) hb;exact ⟨_,z⟩
  ·obtain ⟨v,hv⟩:=c1' b o q hb;exact ⟨v,F2.stay _ _ hv⟩
end
theorem ff {P:Prop} (h:false=true):P:=nomatch h
noncomputable abbrev XS:=St->XK
noncomputable abbrev E0:XS:=λ_ _ _ _=>False
noncomputable def nI:List Str:=["len","range","sum","all","any","min","max","sorted","isinstance","list","tuple","int","str","bool","dict","zip","set","abs","enumerate","reversed","divmod","ValueError"]
structure Rt where
 P:Program
 w:World
 K:Fg
 mg:Str->Option Value
 base:Heap
 A:Around
noncomputable def dX (X:Cx):Rt:=⟨X.prog,X.w,X.K,X.mg,X.base,X.A⟩
noncomputable def FnAt (R:Rt) (x:Str) (sp:Sp):Prop:=∃(k:Nat) (f:Addr) (fd:FuncData) (ps:List Str),cG k R.A/\sC R.P R.w R.K R.mg R.base (tY R.P R.w) k f fd ps sp/\Binds R.K fd ps []/\PySem.W.keepIn R.K (.ref f)=true/\R.mg x=some (.ref f)
noncomputable def Jg (R:Rt) (x:Str) (v:V):Prop:=∃u,R.mg x=some u/\RelV v u
inductive Fb where
 |all
 |own (l:List Str)
 |hot
noncomputable def Fb.of:Bool->Fb
 |true=>.all
 |false=>.own []
noncomputable instance:Coe Bool Fb:=⟨Fb.of⟩
structure Sc where
 N:List Str
 nm:List (Str × NameKind)
 fo:Fb
noncomputable def Sc.fb (C:Sc):Bool:=match C.fo with
 | .all=>true
 | .own _=>false
 | .hot=>true
noncomputable def Sc.cm (C:Sc):Bool:=match C.fo with
 | .hot=>false
 |_=>true
noncomputable def Sc.ow (C:Sc):List Str:=match C.fo with
 | .all=>[]
 | .own l=>l
 | .hot=>[]
structure Gd (X:Cx) (C:Sc):Prop where
 N:X.N=C.N
 nm:X.env.scope.names=C.nm
 nd:C.N.Nodup
 calm:C.cm=true->X.calm=true
 bl:∀x∈nI,X.mg x=none
 hu:X.A.units+64<cLine
 fb:C.fb=true->∀x,X.fn x=true
 top:C.fb=true->X.stack=X.env::X.outer/\X.env.frame=some X.env.locals
 ow:∀x∈C.ow,X.fn x=true
structure tU (X:Cx) (E:XS):Prop where
 pass:∀(pins:List (Addr × Obj)) (σ:St) (H:Hp) (s:Shared) (ev:Value) (s':Shared),Inv X pins σ H s->tY X.prog X.w X.stack H s (E σ) ev s'->X.xe ev s'
 made:∀(pins:List (Addr × Obj)) (σ:St) (H H':Hp) (s s':Shared) (e:Addr) (oe:Obj) (vs:Array Value),Inv X pins σ H s->s'.os=s.os->AllBare s'.gens->Un (fV X.stack) [] H H' s.heap s'.heap->eG X.prog X.w H' s'.heap->s.heap.get? e=none->H' e=none->
  s'.heap.get? e=some oe->oe.data=.fields vs->vs[1]?=some .none->E σ oe.cls oe.dict H'->X.xe (.ref e) s'
 own:PassesOwn (model X.prog X.w) X.A X.env X.xe
inductive Bt where
 |pl|cp|zc
 deriving DecidableEq
noncomputable def gY:Expr->Option Bt
 | .Starred ..=>none
 | .Slice ..=>none
 | .Set ..=>none
 | .SetComp ..=>none
 | .DictComp ..=>none
 | .GeneratorExp ..=>none
 | .ListComp ..=>some .cp
 | .Call (.Name _ _) [] [] _=>some .zc
 |_=>some .pl
noncomputable def xF:Expr->Bool
 | .UnaryOp .Not _ _=>false
 | .BoolOp ..=>false
 | .IfExp ..=>false
 | .Compare ..=>false
 |_=>true
section
variable {e b o:Expr} {es:List Expr} {env:Env} {s:Bt}
theorem aX (h:gY e=some s):starEach (e::es) env=(false,eval e env)::starEach es env:=by
 cases e<;>first|rfl|cases h
theorem kJ {tgt:Option Expr} {line:Nat} (h:gY e=some s) (hs:s≠.cp):swapsWith e tgt line env=pure false:=by
 cases e with
 |ListComp a b c d=>exact absurd (Option.some.inj h).symm hs
 |SetComp a b c d=>cases h
 |DictComp a b c d=>cases h
 |_=>rfl
theorem XN (h:gY b=some s):EW b:=by
 cases b with
 |Slice a b c d=>cases h
 |_=>exact λ_ _=>rfl
theorem kK {op:CmpOp} (h:gY b=some s):behindInMarks op b=false:=by
 cases b with
 |Set a b c=>cases h
 |_=>rfl
theorem xW (h:gY e=some s) (x:Value):foldedSetIterable e env x=pure x:=by
 cases e with
 |Set a b c=>cases h
 |_=>rfl
theorem xX {attr:Str} {w:Sem Value} (h:gY o=some s) (hs:s≠.zc):attributeBase o attr env w=w:=by
 cases o with
 |Call f a k p=>
  cases f with
  |Name x q=>
   cases a with
   |nil=>
    cases k with
    |nil=>exact absurd (Option.some.inj h).symm hs
    |cons _ _=>rfl
   |cons _ _=>rfl
  |_=>rfl
 |_=>rfl
theorem XA (h:xF e=true) (whole:Sem Value):isTrue e env whole=(do let v <-whole;standAt e.pos;holding [v] (truthy v)):=by
 cases e with
 |UnaryOp op x p=>
  cases op with
  |Not=>cases h
  |_=>rfl
 |BoolOp a b c=>cases h
 |IfExp a b c d=>cases h
 |Compare a b c d=>cases h
 |_=>rfl
end
noncomputable def br (b:Bool) (A B:Prop):Prop:=(b=true->A)/\(b=false->B)
theorem PL {A B:Prop} (h:A):br true A B:=⟨λ_=>h,λz=>nomatch z⟩
theorem AG {A B:Prop} (h:B):br false A B:=⟨λz=>(nomatch z),λ_=>h⟩
theorem jI {c A B:Prop} [Decidable c] (h1:c->A) (h2:¬c->B):br (decide c) A B:=⟨λz=>h1 (of_decide_eq_true z),λz=>h2 (of_decide_eq_false z)⟩
noncomputable def rN (K:Fg) (x:V) (H:Hp) (Q:Bool->Hp->Prop):Prop:=match x with
 | .bl b=>Q b H
 | .non=>Q false H
 | .int i=>Q (i != 0) H
 | .str y=>y.length<=sizeLine/\Q ((y.length:Int) != 0) H
 | .ref p=>∃k,Br K (.ref p) H k/\Q k H
 |_=>False
theorem QV {K:Fg} {x:V} {H:Hp} {Q:Bool->Hp->Prop} (h:rN K x H Q):∃k,Br K x H k/\Q k H:=by
 cases x with
 |bl b=>exact ⟨b,rfl,h⟩
 |non=>exact ⟨false,rfl,h⟩
 |int i=>exact ⟨_,rfl,h⟩
 |str y=>exact ⟨_,⟨h.1,rfl⟩,h.2⟩
 |ref p=>exact h
 |byt _=>exact h.elim
 |flt _=>exact h.elim
 |ty _=>exact h.elim
theorem nM {X:Cx}:Iw X (rN X.K):=λpins s σ H x v Q I rx h=>XB pins s σ H x v Q I rx (QV h)
noncomputable def XC (K:Fg) (t:TE):TT:=λσ H Q=>t σ H λx H'=>rN K x H' Q
theorem YG {X:Cx} {a:Expr} {ta:TE} (ha:PE X a ta) (he:xF a=true):PT X a (XC X.K ta):=by
 intro pins s σ H Q I h;exact isTrue_plain (bT (ha pins s σ H _ I h) λv s1 ⟨x,H1,I1,r1,q1⟩=>nM pins s1 σ H1 x v Q I1 r1 q1) (XA he _)
theorem PE.imp {X:Cx} {e:Expr} {t t':TE} (h:PE X e t) (f:∀σ H Q,t' σ H Q->t σ H Q):PE X e t':=λpins s σ H Q I q=>h pins s σ H Q I (f σ H Q q)
structure EX (K:Fg) where
 t:XS->TE
 tt:XS->TT
 m:Sc->Expr->Bool
 q:Rt->Prop
 s:Bt
 ok:∀(X:Cx) (C:Sc) (E:XS) (e:Expr),X.K=K->Gd X C->tU X E->q (dX X)->m C e=true->PE X e (t E)
 okT:∀(X:Cx) (C:Sc) (E:XS) (e:Expr),X.K=K->Gd X C->tU X E->q (dX X)->m C e=true->PT X e (tt E)
 sok:∀(C:Sc) (e:Expr),m C e=true->gY e=some s
noncomputable def SJ {K:Fg} (t:XS->TE) (m:Sc->Expr->Bool) (q:Rt->Prop) (s:Bt)
  (ok:∀(X:Cx) (C:Sc) (E:XS) (e:Expr),X.K=K->Gd X C->tU X E->q (dX X)->m C e=true->PE X e (t E))
  (sok:∀(C:Sc) (e:Expr),m C e=true->gY e=some s) (hT:∀(C:Sc) (e:Expr),m C e=true->xF e=true):EX K:=
 ⟨t,λE=>XC K (t E),m,q,s,ok,λX C E e hK G hE hq hm=>by subst hK;exact YG (ok X C E e rfl G hE hq hm) (hT C e hm),sok⟩
noncomputable def nG {K:Fg} (t:XS->TE) (m:Sc->Expr->Bool) (q:Rt->Prop) (s:Bt)
  (ok:∀(X:Cx) (C:Sc) (E:XS) (e:Expr),X.K=K->Gd X C->tU X E->q (dX X)->m C e=true->PE X e (t E))
  (both:∀(C:Sc) (e:Expr),m C e=true->gY e=some s/\xF e=true):EX K:=SJ t m q s ok (λC e h=>(both C e h).1) λC e h=>(both C e h).2
section
variable {K:Fg}
noncomputable def tV (i:Nat):TE:=λσ H Q=>match σ[i]? with
 |some (some v)=>Q v H
 |_=>False
noncomputable def Cu:Option NameKind->Bool
 |some .local=>true
 |some .cell=>true
 |some .free=>true
 |_=>false
theorem PV {sc:Scope} {x:Str} (h:Cu (sc.names.lookup x)=true):Jn sc x:=by
 unfold Jn;cases e:sc.names.lookup x with
 |none=>rw[e] at h;cases h
 |some k=>
  cases k with
  |«local»=>exact .inl rfl
  |cell=>exact .inr (.inl rfl)
  |free=>exact .inr (.inr rfl)
  |globalExplicit=>rw[e] at h;cases h
  |globalImplicit=>rw[e] at h;cases h
theorem lV {x y:Str} (h:(x != y)=true):(x==y)=false:=by
 cases e:x==y with
 |false=>rfl
 |true=>rw[bne,e] at h;cases h
noncomputable def var (i:Nat):EX K:=nG (λ_=>tV i)
 (λC e=>match e with
  | .Name x _=>C.N[i]?==some x&&(Cu (C.nm.lookup x)&&(x != "__debug__"&&x != "__classdict__"))
  |_=>false) (λ_=>True) .pl
 (λX C E e hK G hE hq hm=>by
  cases e with
  |Name x p=>
   simp only [and_eq_true] at hm
   obtain ⟨h1,h2,h3,h4⟩:=hm
   refine PE.imp (YO (i:=i) (by rw[G.N];exact eq_of_beq h1) (PV (by rw[G.nm];exact h2)) (lV h3) (lV h4)) λσ H Q h=>?_
   unfold tV at h
   split at h
   ·exact ⟨_,by assumption,h⟩
   ·exact h.elim
  |_=>exact ff hm)
 (λC e hm=>by cases e with|Name x p=>exact ⟨rfl,rfl⟩|_=>exact ff hm)
noncomputable def cst (v:V):EX K:=nG (λ_=>tC v)
 (λ_ e=>match e with
  | .Constant c _ _=>decide (NT c=some v)
  |_=>false) (λ_=>True) .pl
 (λX C E e hK G hE hq hm=>by
  cases e with
  |Constant c k p=>exact FY (of_decide_eq_true hm)
  |_=>exact ff hm)
 (λC e hm=>by cases e with|Constant c k p=>exact ⟨rfl,rfl⟩|_=>exact ff hm)
noncomputable def rD (C:Sc) (x y:Str):Bool:=y==x&&(C.nm.lookup x==some .globalImplicit&&x != "__debug__")
theorem cC {C:Sc} {x y:Str} (h:rD C x y=true):y=x:=by
 unfold rD at h;simp only [and_eq_true] at h;exact eq_of_beq h.1
theorem cB {X:Cx} {C:Sc} {x y:Str} (G:Gd X C) (h:rD C x y=true):Gl X x/\(x==("__debug__":Str))=false:=by
 unfold rD at h;simp only [and_eq_true] at h;obtain ⟨_,h2,h3⟩:=h;exact ⟨by show X.env.scope.names.lookup x=_;rw[G.nm];exact eq_of_beq h2,lV h3⟩
noncomputable def As (x:Str) (v:V):EX K:=nG (λ_=>tC v)
 (λC e=>match e with
  | .Name y _=>rD C x y
  |_=>false) (λR=>Jg R x v) .pl
 (λX C E e hK G hE hq hm=>by
  cases e with
  |Name y p=>
   obtain ⟨u,h1,h2⟩:=hq
   have e:=cC hm
   subst e
   obtain ⟨g,d⟩:=cB G hm
   exact RF g h1 h2 d
  |_=>exact ff hm)
 (λC e hm=>by cases e with|Name x p=>exact ⟨rfl,rfl⟩|_=>exact ff hm)
noncomputable def Lr (x:Str) (T:String) (hb:bootBuiltins x=some (.type T)) (hi:x∈nI) (hn:x≠"__name__"):EX K:=nG (λ_=>tC (.ty T))
 (λC e=>match e with
  | .Name y _=>rD C x y
  |_=>false) (λ_=>True) .pl
 (λX C E e hK G hE hq hm=>by
  cases e with
  |Name y p=>
   have e:=cC hm
   subst e
   obtain ⟨g,d⟩:=cB G hm
   exact RH g (G.bl _ hi) hb rfl hn d
  |_=>exact ff hm)
 (λC e hm=>by cases e with|Name x p=>exact ⟨rfl,rfl⟩|_=>exact ff hm)
noncomputable def UE (f:Int->Int->Hp->(V->Hp->Prop)->Prop):R2:=λx y H Q=>match x with
 | .int i=>(match y with
  | .int j=>f i j H Q
  |_=>False)
 |_=>False
theorem iM {f:Int->Int->Hp->(V->Hp->Prop)->Prop} {x y:V} {H:Hp} {Q:V->Hp->Prop} (h:UE f x y H Q):∃i j,x=.int i/\y=.int j/\f i j H Q:=by
 cases x with
 |int i=>cases y with
  |int j=>exact ⟨i,j,rfl,rfl,h⟩
  |_=>exact False.elim h
 |_=>exact False.elim h
noncomputable def Kn (K:Fg):R2:=λx y H Q=>match x with
 | .int i=>(match y with
  | .int j=>Q (.int (i+j)) H
  | .bl k=>Q (.int (i+b2i k)) H
  |_=>False)
 | .str a=>(match y with
  | .str b=>a.length+b.length<=sizeLine/\Q (.str (a++b)) H
  |_=>False)
 | .ref a=>(match y with
  | .ref b=>Ek (.ref a) (.ref b) H Q\/VT K (.ref a) (.ref b) H Q\/JZ K (.ref a) (.ref b) H Q
  |_=>False)
 |_=>False
noncomputable def Ki:R2:=λx y H Q=>match y with
 | .int j=>(match x with
  | .int i=>IntMulOk i j/\Q (.int (i * j)) H
  | .ref a=>Ec (.ref a) (.int j) H Q
  | .str a=>WT a j/\Q (.str (Txt.mul a j)) H
  |_=>False)
 |_=>False
noncomputable def lT (K:Fg):Operator->R2
 | .Add=>Kn K
 | .Sub=>UE λi j H Q=>Q (.int (i - j)) H
 | .Mult=>Ki
 | .FloorDiv=>UE λi j H Q=>Ly i j/\Q (.int (i / j)) H
 | .Mod=>UE λi j H Q=>0<j/\Q (.int (i % j)) H
 | .Pow=>UE λi j H Q=>Jt i j/\Q (.int (i ^ j.toNat)) H
 |_=>λ_ _ _ _=>False
theorem Bn {X:Cx} (op:Operator):gI X (binaryOp op) (lT X.K op):=by
 intro pins s σ H x y v u Q I rx ry h;cases op with
 |Add=>
  cases x with
  |int i=>cases y with
   |int j=>exact ZM pins s σ H _ _ v u Q I rx ry ⟨_,_,rfl,rfl,h⟩
   |bl k=>exact GF pins s σ H _ _ v u Q I rx ry ⟨_,_,rfl,rfl,h⟩
   |_=>exact False.elim h
  |str a=>cases y with
   |str b=>exact BE pins s σ H _ _ v u Q I rx ry ⟨_,_,rfl,rfl,h.1,h.2⟩
   |_=>exact False.elim h
  |ref a=>cases y with
   |ref b=>
    rcases h with h|h|h
    ·exact ZL pins s σ H _ _ v u Q I rx ry h
    ·exact RT pins s σ H _ _ v u Q I rx ry h
    ·exact KU pins s σ H _ _ v u Q I rx ry h
   |_=>exact False.elim h
  |_=>exact False.elim h
 |Sub=>exact ZA pins s σ H _ _ v u Q I rx ry (iM (f:=λi j H Q=>Q (.int (i - j)) H) h)
 |Mult=>
  cases y with
  |int j=>cases x with
   |int i=>exact RQ pins s σ H _ _ v u Q I rx ry ⟨_,_,rfl,rfl,h.1,h.2⟩
   |ref a=>exact ZC pins s σ H _ _ v u Q I rx ry h
   |str a=>exact RP pins s σ H _ _ v u Q I rx ry ⟨_,_,rfl,rfl,h.1,h.2⟩
   |_=>exact False.elim h
  |_=>exact False.elim h
 |FloorDiv=>exact KS pins s σ H _ _ v u Q I rx ry (iM (f:=λi j H Q=>Ly i j/\Q (.int (i / j)) H) h)
 |Mod=>exact ZG pins s σ H _ _ v u Q I rx ry (iM (f:=λi j H Q=>0<j/\Q (.int (i % j)) H) h)
 |Pow=>exact RM pins s σ H _ _ v u Q I rx ry (iM (f:=λi j H Q=>Jt i j/\Q (.int (i ^ j.toNat)) H) h)
 |_=>exact False.elim h
noncomputable def bin (op:Operator) (a b:EX K):EX K:=nG (λE=>XE (lT K op) (a.t E) (b.t E))
 (λC e=>match e with
  | .BinOp l o r _=>decide (o=op)&&(a.m C l&&b.m C r)
  |_=>false) (λR=>a.q R/\b.q R) .pl
 (λX C E e hK G hE hq hm=>by
  subst hK
  cases e with
  |BinOp l o r p=>
   simp only [and_eq_true] at hm
   obtain ⟨h1,h2,h3⟩:=hm
   have e:=of_decide_eq_true h1
   subst e
   exact En (Bn _) (a.ok X C E l rfl G hE hq.1 h2) (b.ok X C E r rfl G hE hq.2 h3)
  |_=>exact ff hm)
 (λC e hm=>by cases e with|BinOp l o r p=>exact ⟨rfl,rfl⟩|_=>exact ff hm)
noncomputable def FT:V->Hp->VK->Prop
 | .int i,H,Q=>Q (.int (-i)) H
 |_,_,_=>False
noncomputable def neg (a:EX K):EX K:=SJ (λE=>Mb FT (a.t E))
 (λC e=>match e with
  | .UnaryOp .USub l _=>a.m C l
  |_=>false) a.q .pl
 (λX C E e hK G hE hq hm=>by
  cases e with
  |UnaryOp o l p=>
   cases o with
   |USub=>
    refine Em (λpins s σ H x v Q I rx h=>?_) (a.ok X C E l hK G hE hq hm)
    unfold FT at h
    split at h
    ·exact WY pins s σ H _ v Q I rx ⟨_,rfl,h⟩
    ·exact h.elim
   |_=>exact ff hm
  |_=>exact ff hm)
 (λC e hm=>by cases e with|UnaryOp o l p=>rfl|_=>exact ff hm)
 (λC e hm=>by cases e with|UnaryOp o l p=>(cases o with|USub=>rfl|_=>exact ff hm)|_=>exact ff hm)
theorem ZI {X:Cx}:gI X (compareOp .Is) (λx y H Q=>∃c d,x=.bl c/\y=.bl d/\Q (.bl (c==d)) H):=by
 intro pins s σ H x y v u Q I rx ry h;obtain ⟨c,d,rfl,rfl,q⟩:=h;cases (show v=Value.bool c from rx);cases (show u=Value.bool d from ry);exact is_bool ⟨.bl _,H,I,rfl,q⟩
theorem GA {X:Cx}:gI X (compareOp .IsNot) (λx y H Q=>∃c d,x=.bl c/\y=.bl d/\Q (.bl (c != d)) H):=by
 intro pins s σ H x y v u Q I rx ry h;obtain ⟨c,d,rfl,rfl,q⟩:=h;cases (show v=Value.bool c from rx);cases (show u=Value.bool d from ry);exact isnot_bool ⟨.bl _,H,I,rfl,q⟩
noncomputable def Me (f:Bool->Bool):R2:=λx y H Q=>match y with
 | .non=>Q (.bl (f (decide (x=.non)))) H
 | .bl d=>(match x with
  | .bl c=>Q (.bl (f (c==d))) H
  |_=>False)
 |_=>False
noncomputable def Eh (K:Fg) (n:Bool) (f:Bool->Bool):R2:=λx y H Q=>match y with
 | .ref b=>Kl K n x (.ref b) H Q
 | .str j=>(match x with
  | .str i=>Q (.bl (f (!(Builtin.Str.occurrences j i 0 j.length 1).isEmpty))) H
  |_=>False)
 |_=>False
noncomputable def gE (K:Fg):CmpOp->R2
 | .Eq=>λx y H Q=>(QT x y=true/\Q (.bl (decide (x=y))) H)\/Ej x y H Q\/Ei x y H Q
 | .NotEq=>λx y H Q=>(QT x y=true/\Q (.bl (!decide (x=y))) H)\/Ee x y H Q\/Ed x y H Q
 | .Lt=>UE λi j H Q=>Q (.bl (decide (i<j))) H
 | .LtE=>UE λi j H Q=>Q (.bl (decide (i<=j))) H
 | .Gt=>UE λi j H Q=>Q (.bl (decide (j<i))) H
 | .GtE=>UE λi j H Q=>Q (.bl (decide (j<=i))) H
 | .Is=>Me λb=>b
 | .IsNot=>Me λb=>!b
 | .In=>Eh K false λb=>b
 | .NotIn=>Eh K true λb=>!b
theorem NX {X:Cx} (hu:X.A.units+64<cLine) (op:CmpOp):gI X (compareOp op) (gE X.K op):=by
 intro pins s σ H x y v u Q I rx ry h;cases op with
 |Eq=>
  rcases h with h|h|h
  ·exact Ey pins s σ H _ _ v u Q I rx ry h
  ·exact ZK hu pins s σ H _ _ v u Q I rx ry h
  ·exact ZJ hu pins s σ H _ _ v u Q I rx ry h
 |NotEq=>
  rcases h with h|h|h
  ·exact Es pins s σ H _ _ v u Q I rx ry h
  ·exact ZF hu pins s σ H _ _ v u Q I rx ry h
  ·exact ZE hu pins s σ H _ _ v u Q I rx ry h
 |Lt=>exact Et pins s σ H _ _ v u Q I rx ry (iM (f:=λi j H Q=>Q (.bl (decide (i<j))) H) h)
 |LtE=>exact Eu pins s σ H _ _ v u Q I rx ry (iM (f:=λi j H Q=>Q (.bl (decide (i<=j))) H) h)
 |Gt=>exact Ew pins s σ H _ _ v u Q I rx ry (iM (f:=λi j H Q=>Q (.bl (decide (j<i))) H) h)
 |GtE=>exact Ex pins s σ H _ _ v u Q I rx ry (iM (f:=λi j H Q=>Q (.bl (decide (j<=i))) H) h)
 |Is=>
  cases y with
  |non=>exact ZH pins s σ H _ _ v u Q I rx ry ⟨rfl,h⟩
  |bl d=>cases x with
   |bl c=>exact ZI pins s σ H _ _ v u Q I rx ry ⟨_,_,rfl,rfl,h⟩
   |_=>exact False.elim h
  |_=>exact False.elim h
 |IsNot=>
  cases y with
  |non=>exact RN pins s σ H _ _ v u Q I rx ry ⟨rfl,h⟩
  |bl d=>cases x with
   |bl c=>exact GA pins s σ H _ _ v u Q I rx ry ⟨_,_,rfl,rfl,h⟩
   |_=>exact False.elim h
  |_=>exact False.elim h
 |In=>
  cases y with
  |ref b=>exact GD pins s σ H _ _ v u Q I rx ry h
  |str j=>cases x with
   |str i=>exact GB pins s σ H _ _ v u Q I rx ry ⟨_,_,rfl,rfl,h⟩
   |_=>exact False.elim h
  |_=>exact False.elim h
 |NotIn=>
  cases y with
  |ref b=>exact vA pins s σ H _ _ v u Q I rx ry h
  |str j=>cases x with
   |str i=>exact uZ pins s σ H _ _ v u Q I rx ry ⟨_,_,rfl,rfl,h⟩
   |_=>exact False.elim h
  |_=>exact False.elim h
noncomputable def bV (Q:Bool->Hp->Prop):V->Hp->Prop
 | .bl b,H=>Q b H
 |_,_=>False
noncomputable def rB (r:R2):V->V->Hp->(Bool->Hp->Prop)->Prop:=λx y H Q=>r x y H (bV Q)
theorem Ij {z:V} {H:Hp} {Q:Bool->Hp->Prop} (h:bV Q z H):∃b,z=.bl b/\Q b H:=by
 cases z with
 |bl b=>exact ⟨b,rfl,h⟩
 |_=>exact h.elim
noncomputable def cmp (op:CmpOp) (a b:EX K):EX K where
 t:=λE=>XE (gE K op) (a.t E) (b.t E)
 tt:=λE σ H Q=>a.t E σ H λx H1=>b.t E σ H1 λy H2=>rB (gE K op) x y H2 Q
 m:=λC e=>match e with
  | .Compare l [o] [r] _=>decide (o=op)&&(a.m C l&&b.m C r)
  |_=>false
 q:=λR=>a.q R/\b.q R
 s:=.pl
 ok:=λX C E e hK G hE hq hm=>by
  subst hK;cases e with
  |Compare l os rs p=>
   match os,rs,hm with
   |[o],[r],hm=>
    simp only [and_eq_true] at hm;obtain ⟨h1,h2,h3⟩:=hm;have e:=of_decide_eq_true h1;subst e;exact DN (NX G.hu _) (a.ok X C E l rfl G hE hq.1 h2) (b.ok X C E r rfl G hE hq.2 h3) (kK (b.sok C r h3))
  |_=>exact ff hm
 okT:=λX C E e hK G hE hq hm=>by
  subst hK;cases e with
  |Compare l os rs p=>
   match os,rs,hm with
   |[o],[r],hm=>
    simp only [and_eq_true] at hm;obtain ⟨h1,h2,h3⟩:=hm;have e:=of_decide_eq_true h1;subst e;intro pins s σ H Q I hw;refine wpAny_isTrue_Compare1 (bT (a.ok X C E l rfl G hE hq.1 h2 pins s σ H _ I hw) λv s1 ⟨x,H1,I1,r1,q1⟩=>bT (b.ok X C E r rfl G hE hq.2 h3 pins s1 σ H1 _ I1 q1) λu s2 ⟨y,H2,I2,r2,q2⟩=>
     bT (NX G.hu _ pins s2 σ H2 x y v u _ I2 r1 r2 q2) λc s3 ⟨z,H3,I3,r3,q3⟩=>?_) (kK (b.sok C r h3))
    obtain ⟨d,rfl,q⟩:=Ij q3;cases r3;exact wpAny_truthy_bool ⟨H3,I3,q⟩
  |_=>exact ff hm
 sok:=λC e hm=>by cases e with|Compare l o r p=>rfl|_=>exact ff hm
noncomputable def yO (a:EX K):EX K where
 t:=λE σ H Q=>a.t E σ H λx H1=>rN K x H1 λb H2=>Q (.bl (!b)) H2
 tt:=λE σ H Q=>a.tt E σ H λb H1=>Q (!b) H1
 m:=λC e=>match e with
  | .UnaryOp .Not l _=>a.m C l
  |_=>false
 q:=a.q
 s:=.pl
 ok:=λX C E e hK G hE hq hm=>by
  subst hK;cases e with
  |UnaryOp o l p=>
   cases o with
   |Not=>
    intro pins s σ H Q I h;refine UnaryOp_ (bT (a.ok X C E l rfl G hE hq hm pins s σ H _ I h) λv s1 ⟨x,H1,I1,r1,q1⟩=>?_);exact not_of (bT (nM pins s1 σ H1 x v _ I1 r1 q1) λb s2 ⟨H2,I2,q2⟩=>⟨.bl (!b),H2,I2,rfl,q2⟩)
   |_=>exact ff hm
  |_=>exact ff hm
 okT:=λX C E e hK G hE hq hm=>by
  cases e with
  |UnaryOp o l p=>
   cases o with
   |Not=>exact YH (a.okT X C E l hK G hE hq hm)
   |_=>exact ff hm
  |_=>exact ff hm
 sok:=λC e hm=>by cases e with|UnaryOp o l p=>rfl|_=>exact ff hm
noncomputable def xK (K:Fg) (op:BoolOp) (E:XS):TE->List (EX K)->TE
 |t,[]=>t
 |t,y::ys=>λσ H Q=>t σ H λx H1=>rN K x H1 λb H2=>match op with
  | .And=>br b (xK K op E (y.t E) ys σ H2 Q) (Q x H2)
  | .Or=>br b (Q x H2) (xK K op E (y.t E) ys σ H2 Q)
noncomputable def oP (K:Fg) (op:BoolOp) (E:XS):TT->List (EX K)->TT
 |t,[]=>t
 |t,y::ys=>λσ H Q=>t σ H λb H1=>match op with
  | .And=>br b (oP K op E (y.tt E) ys σ H1 Q) (Q false H1)
  | .Or=>br b (Q true H1) (oP K op E (y.tt E) ys σ H1 Q)
noncomputable def jX:List (EX K)->Sc->List Expr->Bool
 |[],_,[]=>true
 |x::xs,C,e::es=>x.m C e&&jX xs C es
 |_,_,_=>false
noncomputable def sQ:List (EX K)->Rt->Prop
 |[],_=>True
 |x::xs,R=>x.q R/\sQ xs R
theorem OI {X:Cx} {C:Sc} {E:XS} {pos:Pos} (op:BoolOp) (G:Gd X C) (hE:tU X E):∀(xs:List (EX X.K)) (e:Expr) (es:List Expr) (t:TE),PE X e t->sQ xs (dX X)->jX xs C es=true->PE X (.BoolOp op (e::es) pos) (xK X.K op E t xs)
 |[],e,[],t,he,_,_=>YS he
 |[],e,_::_,t,he,_,hm=>nomatch hm
 |x::xs,e,[],t,he,_,hm=>nomatch hm
 |x::xs,e,e2::es,t,he,hq,hm=>by
  have hm':(x.m C e2&&jX xs C es)=true:=hm;simp only [and_eq_true] at hm';have h2:=OI (pos:=pos) op G hE xs e2 es (x.t E) (x.ok X C E e2 rfl G hE hq.1 hm'.1) hq.2 hm'.2;cases op with
  |And=>
   intro pins s σ H Q I h;refine BoolOp_and (bT (he pins s σ H _ I h) λv s1 ⟨y,H1,I1,r1,q1⟩=>?_);refine bT (nM pins s1 σ H1 y v _ I1 r1 q1) λb s2 ⟨H2,I2,q2⟩=>?_;cases b with
   |true=>exact h2 pins s2 σ H2 Q I2 (q2.1 rfl)
   |false=>exact ⟨y,H2,I2,r1,q2.2 rfl⟩
  |Or=>
   intro pins s σ H Q I h;refine BoolOp_or (bT (he pins s σ H _ I h) λv s1 ⟨y,H1,I1,r1,q1⟩=>?_);refine bT (nM pins s1 σ H1 y v _ I1 r1 q1) λb s2 ⟨H2,I2,q2⟩=>?_;cases b with
   |true=>exact ⟨y,H2,I2,r1,q2.1 rfl⟩
   |false=>exact h2 pins s2 σ H2 Q I2 (q2.2 rfl)
theorem ER {X:Cx} {C:Sc} {E:XS} {pos:Pos} (op:BoolOp) (G:Gd X C) (hE:tU X E):∀(xs:List (EX X.K)) (e:Expr) (es:List Expr) (t:TT),PT X e t->sQ xs (dX X)->jX xs C es=true->PW X (.BoolOp op (e::es) pos) (oP X.K op E t xs)
 |[],e,[],t,he,_,_=>by
  cases op with
  |And=>exact QX he
  |Or=>exact YE he
 |[],e,_::_,t,he,_,hm=>nomatch hm
 |x::xs,e,[],t,he,_,hm=>nomatch hm
 |x::xs,e,e2::es,t,he,hq,hm=>by
  have hm':(x.m C e2&&jX xs C es)=true:=hm;simp only [and_eq_true] at hm';have h2:=ER (pos:=pos) op G hE xs e2 es (x.tt E) (x.okT X C E e2 rfl G hE hq.1 hm'.1) hq.2 hm'.2;cases op with
  |And=>
   intro wh pins s σ H Q I h;refine isTrue_and (bT (he pins s σ H _ I h) λb s1 ⟨H1,I1,q1⟩=>?_);cases b with
   |true=>exact h2 wh pins s1 σ H1 Q I1 (q1.1 rfl)
   |false=>exact ⟨H1,I1,q1.2 rfl⟩
  |Or=>
   intro wh pins s σ H Q I h;refine isTrue_or (bT (he pins s σ H _ I h) λb s1 ⟨H1,I1,q1⟩=>?_);cases b with
   |true=>exact ⟨H1,I1,q1.1 rfl⟩
   |false=>exact h2 wh pins s1 σ H1 Q I1 (q1.2 rfl)
noncomputable def Mh (op:BoolOp) (x:EX K) (xs:List (EX K)):EX K where
 t:=λE=>xK K op E (x.t E) xs
 tt:=λE=>oP K op E (x.tt E) xs
 m:=λC e=>match e with
  | .BoolOp o (l::ls) _=>decide (o=op)&&(x.m C l&&jX xs C ls)
  |_=>false
 q:=λR=>x.q R/\sQ xs R
 s:=.pl
 ok:=λX C E e hK G hE hq hm=>by
  subst hK;cases e with
  |BoolOp o ls p=>
   cases ls with
   |nil=>cases hm
   |cons l ls=>
    simp only [and_eq_true] at hm;obtain ⟨h1,h2,h3⟩:=hm;have e:=of_decide_eq_true h1;subst e;exact OI _ G hE xs l ls _ (x.ok X C E l rfl G hE hq.1 h2) hq.2 h3
  |_=>exact ff hm
 okT:=λX C E e hK G hE hq hm=>by
  subst hK;cases e with
  |BoolOp o ls p=>
   cases ls with
   |nil=>cases hm
   |cons l ls=>
    simp only [and_eq_true] at hm;obtain ⟨h1,h2,h3⟩:=hm;have e:=of_decide_eq_true h1;subst e;exact (ER _ G hE xs l ls _ (x.okT X C E l rfl G hE hq.1 h2) hq.2 h3).pt
  |_=>exact ff hm
 sok:=λC e hm=>by cases e with|BoolOp o l p=>rfl|_=>exact ff hm
noncomputable def CO (x:EX K) (xs:List (EX K)):EX K:=Mh .And x xs
noncomputable def Ko (x:EX K) (xs:List (EX K)):EX K:=Mh .Or x xs
end
section
variable {K:Fg}
noncomputable def fY:List (EX K)->XS->TA
 |[],_=>Di
 |x::xs,E=>VJ (x.t E) (fY xs E)
theorem aG {x:EX K} {xs:List (EX K)} {C:Sc} {e:Expr} {es:List Expr} (h:jX (x::xs) C (e::es)=true):x.m C e=true/\jX xs C es=true:=by
 have h':(x.m C e&&jX xs C es)=true:=h;simpa only [and_eq_true] using h'
theorem dR {X:Cx} {C:Sc} {E:XS} (G:Gd X C) (hE:tU X E):∀(xs:List (EX X.K)) (es:List Expr),sQ xs (dX X)->jX xs C es=true->PA X es (fY xs E)
 |[],[],_,_=>KP
 |[],_::_,_,hm=>nomatch hm
 |_::_,[],_,hm=>nomatch hm
 |x::xs,e::es,hq,hm=>DO (x.ok X C E e rfl G hE hq.1 (aG hm).1) (dR G hE xs es hq.2 (aG hm).2) (aX (x.sok C e (aG hm).1))
theorem bH {C:Sc} {env:Env} {pos:Pos}:∀(xs:List (EX K)) (es:List Expr),jX xs C es=true->(backTo pos (starEach es env)).any (·.1)=false
 |[],[],_=>rfl
 |[],_::_,hm=>nomatch hm
 |_::_,[],hm=>nomatch hm
 |x::xs,e::es,hm=>by
  rw[aX (x.sok C e (aG hm).1)];show (false || (backTo pos (starEach es env)).any (·.1))=false;rw[bH xs es (aG hm).2];rfl
theorem as_none {C:Sc} {env:Env} {pos:Pos}:∀(xs:List (EX K)) (es:List Expr),jX xs C es=true->(backTo pos (starEach es env)).all (λx=>!x.1)=true
 |[],[],_=>rfl
 |[],_::_,hm=>nomatch hm
 |_::_,[],hm=>nomatch hm
 |x::xs,e::es,hm=>by
  rw[aX (x.sok C e (aG hm).1)];show (true&&(backTo pos (starEach es env)).all (λx=>!x.1))=true;rw[as_none xs es (aG hm).2];rfl
noncomputable def Kg:List (EX K)->Bt
 |[]=>.zc
 |_=>.pl
theorem uO {C:Sc} {y:Str} {p q:Pos}:∀(xs:List (EX K)) (es:List Expr),jX xs C es=true->gY (.Call (.Name y p) es [] q)=some (Kg xs)
 |[],[],_=>rfl
 |[],_::_,hm=>nomatch hm
 |_::_,[],hm=>nomatch hm
 |_::_,_::_,_=>rfl
noncomputable def XG (sp:Sp) (E:XS) (t:TA):TE:=λσ H Q=>t σ H λvs H1=>sp vs H1 Q (E σ)
theorem DJ {X:Cx} {E:XS} {k:Nat} {f:Addr} {fd:FuncData} {ps:List Str} {sp:Sp} {pins:List (Addr × Obj)} {σ:St} {H1:Hp} {s1:Shared} {Q1:VK} {us:List Value} {vs:List V} (hE:tU X E) (F:sC X.prog X.w X.K X.mg X.base (tY X.prog X.w) k f fd ps sp)
  (room:cG k X.A) (bd:Binds X.K fd ps []) (I1:Inv X pins σ H1 s1) (rl:Vals vs us) (pr:sp vs H1 Q1 (E σ)):wpAny (model X.prog X.w) X.A (PySem.call (.ref f) us) (EP X pins σ Q1) X.xe s1:=by
 have ln:(us++[]).length=ps.length:=by rw[append_nil,<-rl.length];exact F.len _ _ _ _ pr
 have b:=bd s1 us I1.kIn ln;rw[append_nil] at b;refine wpAny_call (codeAny_mono (F.run X.A X.stack s1 H1 ⟨us,[]⟩ us vs Q1 (E σ) room I1.env0 b rl pr) λres s2 fin=>?_);cases res with
 |error ev=>exact hE.pass pins σ H1 s1 ev s2 I1 fin
 |ok fl=>
  cases fl with
  |ret v=>exact I1.after fin
  |next=>exact fin.elim
  |brk=>exact fin.elim
  |cont=>exact fin.elim
noncomputable def call (x:Str) (sp:Sp) (as:List (EX K)):EX K:=SJ (λE=>XG sp E (fY as E))
 (λC e=>match e with
  | .Call (.Name y _) es [] _=>rD C x y&&jX as C es
  |_=>false) (λR=>FnAt R x sp/\sQ as R) (Kg as)
 (λX C E e hK G hE hq hm=>by
  subst hK
  cases e with
  |Call f es ks p=>
   cases f with
   |Name y py=>
    cases ks with
    |nil=>
     simp only [and_eq_true] at hm
     obtain ⟨h1,h2⟩:=hm
     have e:=cC h1
     subst e
     obtain ⟨g,d⟩:=cB G h1
     obtain ⟨⟨k,f,fd,ps,hr,F,hb,kp,hg⟩,hqa⟩:=hq
     cases as with
     |nil=>
      cases es with
      |nil=>
       intro pins s σ H Q I h
       exact wpAny_Call_Name_kw (jB I g hg (PySem.W.callWith_K0 I.kIn kp (DJ (us:=[]) hE F hr hb I .nil h)) d)
      |cons _ _=>cases h2
     |cons a as=>
      cases es with
      |nil=>cases h2
      |cons e es=>
       intro pins s σ H Q I h
       exact wpAny_Call_Name_kw (jB I g hg (PySem.W.callWith_K (h₀:=X.base) I.ok.mod.kin kp (bT (dR G hE (a::as) (e::es) hqa h2 p pins s σ H _ I h) λus s1 ⟨vs,H1,I1,r,q⟩=>⟨I1.kIn,DJ hE F hr hb I1 r q⟩) (aX (a.sok C e (aG h2).1)) (bH as es (aG h2).2)) d)
    |cons _ _=>cases hm
   |_=>exact ff hm
  |_=>exact ff hm)
 (λC e hm=>by
  cases e with
  |Call f es ks p=>
   cases f with
   |Name y py=>
    cases ks with
    |nil=>
     simp only [and_eq_true] at hm
     exact uO as es hm.2
    |cons _ _=>cases hm
   |_=>exact ff hm
  |_=>exact ff hm)
 (λC e hm=>by cases e with|Call f es ks p=>rfl|_=>exact ff hm)
noncomputable def Cm (x:Str) (id:String) (r:List V->Hp->VK->Prop) (ok:∀X:Cx,X.K=K->X.calm=true->X.A.units+64<cLine->bZ X (.builtin id) r) (hb:bootBuiltins x=some (.builtin id)) (hi:x∈nI) (hn:x≠"__name__") (a:EX K) (as:List (EX K)):EX K:=
 SJ (λE=>Dn r (fY (a::as) E))
 (λC e=>match e with
  | .Call (.Name y _) es [] _=>(C.cm&&rD C x y)&&jX (a::as) C es
  |_=>false) (λR=>sQ (a::as) R) .pl
 (λX C E e hK G hE hq hm=>by
  subst hK
  cases e with
  |Call f es ks p=>
   cases f with
   |Name y py=>
    cases ks with
    |nil=>
     simp only [and_eq_true] at hm
     obtain ⟨⟨hcm,h1⟩,h2⟩:=hm
     have e:=cC h1
     subst e
     obtain ⟨g,d⟩:=cB G h1
     cases es with
     |nil=>cases h2
     |cons e es=>exact yI (ok X rfl (G.calm hcm) G.hu) g (G.bl _ hi) hb (dR G hE (a::as) (e::es) hq h2) hn d (aX (a.sok C e (aG h2).1)) (bH as es (aG h2).2)
    |cons _ _=>cases hm
   |_=>exact ff hm
  |_=>exact ff hm)
 (λC e hm=>by
  cases e with
  |Call f es ks p=>
   cases f with
   |Name y py=>
    cases ks with
    |nil=>
     simp only [and_eq_true] at hm
     exact uO (a::as) es hm.2
    |cons _ _=>cases hm
   |_=>exact ff hm
  |_=>exact ff hm)
 (λC e hm=>by cases e with|Call f es ks p=>rfl|_=>exact ff hm)
noncomputable def Ik (x:Str) (T:String) (r:List V->Hp->VK->Prop) (ok:∀X:Cx,X.K=K->X.calm=true->X.A.units+64<cLine->bZ X (.type T) r) (hb:bootBuiltins x=some (.type T)) (hi:x∈nI) (hn:x≠"__name__") (a:EX K) (as:List (EX K)):EX K:=
 SJ (λE=>Dn r (fY (a::as) E))
 (λC e=>match e with
  | .Call (.Name y _) es [] _=>(C.cm&&rD C x y)&&jX (a::as) C es
  |_=>false) (λR=>sQ (a::as) R) .pl
 (λX C E e hK G hE hq hm=>by
  subst hK
  cases e with
  |Call f es ks p=>
   cases f with
   |Name y py=>
    cases ks with
    |nil=>
     simp only [and_eq_true] at hm
     obtain ⟨⟨hcm,h1⟩,h2⟩:=hm
     have e:=cC h1
     subst e
     obtain ⟨g,d⟩:=cB G h1
     cases es with
     |nil=>cases h2
     |cons e es=>exact FZ (ok X rfl (G.calm hcm) G.hu) g (G.bl _ hi) hb (dR G hE (a::as) (e::es) hq h2) hn d (aX (a.sok C e (aG h2).1)) (bH as es (aG h2).2)
    |cons _ _=>cases hm
   |_=>exact ff hm
  |_=>exact ff hm)
 (λC e hm=>by
  cases e with
  |Call f es ks p=>
   cases f with
   |Name y py=>
    cases ks with
    |nil=>
     simp only [and_eq_true] at hm
     exact uO (a::as) es hm.2
    |cons _ _=>cases hm
   |_=>exact ff hm
  |_=>exact ff hm)
 (λC e hm=>by cases e with|Call f es ks p=>rfl|_=>exact ff hm)
noncomputable def BB (K:Fg):List V->Hp->VK->Prop
 |[.str z],H,Q=>z.length<=sizeLine/\Q (.int z.length) H
 |[.ref a],H,Q=>(∃n,Jc K (.ref a) H n/\Q (.int n) H)\/∃kvs,H a=some (.dK kvs)/\Q (.int kvs.length) H
 |_,_,_=>False
theorem OH {X:Cx}:bZ X (.builtin "len") (λxs H Q=>∃a kvs,xs=[V.ref a]/\H a=some (.dK kvs)/\Q (.int kvs.length) H):=by
 intro pins s σ H xs us Q I r h;obtain ⟨a,kvs,rfl,ha,q⟩:=h;obtain ⟨u,rfl,ru⟩:=vals1 r;cases ru;exact Ig I (.inl ha) λt s' I'=>⟨.int kvs.length,H,I',⟨t,rfl⟩,q⟩
theorem ZP (X:Cx):bZ X (.builtin "len") (BB X.K):=by
 intro pins s σ H xs us Q I r h;unfold BB at h;split at h
 ·exact zW pins s σ H _ us Q I r ⟨_,_,rfl,⟨h.1,rfl⟩,h.2⟩
 ·rcases h with ⟨n,h1,h2⟩|⟨kvs,h1,h2⟩
  ·exact zW pins s σ H _ us Q I r ⟨_,n,rfl,h1,h2⟩
  ·exact OH pins s σ H _ us Q I r ⟨_,kvs,rfl,h1,h2⟩
 ·exact h.elim
noncomputable def len (a:EX K):EX K:=Cm "len" "len" (BB K) (λX hK _ _=>by subst hK;exact ZP X) PySem.boot_len (by decide+kernel) (by decide+kernel) a []
noncomputable def sum (a:EX K):EX K:=Cm "sum" "sum" XU (λX hK hc _=>OD hc) PyProof.Rows.Boot.sum (by decide+kernel) (by decide+kernel) a []
noncomputable def Iq (a:EX K):EX K:=Cm "all" "all" (YC K) (λX hK hc _=>by subst hK;exact OG hc) PyProof.Rows.Boot.all (by decide+kernel) (by decide+kernel) a []
noncomputable def yF:List V->Hp->VK->Prop
 |[.int i,.int j],H,Q=>Q (.int (min i j)) H
 |_,_,_=>False
theorem ZO {X:Cx} (hc:X.calm=true):bZ X (.builtin "min") yF:=by
 intro pins s σ H xs us Q I r h;unfold yF at h;split at h
 ·rename_i i j;refine HU hc pins s σ H _ us Q I r ⟨i,j,rfl,?_⟩;have e:(if j<i then j else i)=min i j:=by split<;>lia
  rw[e];exact h
 ·exact h.elim
noncomputable def min2 (a b:EX K):EX K:=Cm "min" "min" yF (λX hK hc _=>ZO hc) PyProof.Rows.Boot.min (by decide+kernel) (by decide+kernel) a [b]
noncomputable def DK (K:Fg):List V->Hp->VK->Prop
 |[x,.ty n],H,Q=>∃t b,iV K H x t/\PySem.W.kitOne K t (.type n)=some b/\Q (.bl b) H
 |_,_,_=>False
theorem ZZ (X:Cx):bZ X (.builtin "isinstance") (DK X.K):=by
 intro pins s σ H xs us Q I r h;unfold DK at h;split at h
 ·obtain ⟨t,b,h1,h2,h3⟩:=h;exact OE pins s σ H _ us Q I r ⟨_,_,t,b,rfl,h1,h2,h3⟩
 ·exact h.elim
noncomputable def Jl (a b:EX K):EX K:=Cm "isinstance" "isinstance" (DK K) (λX hK _ _=>by subst hK;exact ZZ X) PyProof.Rows.Boot.isinstance (by decide+kernel) (by decide+kernel) a [b]
noncomputable def VF:EX K:=Lr "int" "int" PyProof.Rows.Boot.int (by decide+kernel) (by decide+kernel)
noncomputable def IV:EX K:=Lr "bool" "bool" PyProof.Rows.Boot.bool (by decide+kernel) (by decide+kernel)
noncomputable def CY:EX K:=Lr "tuple" "tuple" PyProof.Rows.Boot.tuple (by decide+kernel) (by decide+kernel)
noncomputable def nQ (K:Fg):List V->Hp->VK->Prop
 |[.ref p],H,Q=>∃ys,(aR K H p ys\/cZ K H p ys)/\∀l,H l=none->Q (.ref l) (upd H l (.lst ys))
 |_,_,_=>False
theorem SM (X:Cx):bZ X (.type "list") (nQ X.K):=by
 intro pins s σ H xs us Q I r h;unfold nQ at h;split at h
 ·obtain ⟨ys,h1,h2⟩:=h;exact wK pins s σ H _ us Q I r ⟨_,ys,rfl,h1,h2⟩
 ·exact h.elim
noncomputable def listE (a:EX K):EX K:=Ik "list" "list" (nQ K) (λX hK _ _=>by subst hK;exact SM X) PyProof.Rows.Boot.list (by decide+kernel) (by decide+kernel) a []
noncomputable def uU (K:Fg):List V->Hp->VK->Prop
 |[.ref p],H,Q=>(∃ys,aR K H p ys/\∀l,H l=none->Q (.ref l) (upd H l (.tup ys)))\/∃ys,cZ K H p ys/\Q (.ref p) H
 |_,_,_=>False
theorem JB (X:Cx):bZ X (.type "tuple") (uU X.K):=by
 intro pins s σ H xs us Q I r h;unfold uU at h;split at h
 ·rcases h with ⟨ys,h1,h2⟩|⟨ys,h1,h2⟩
  ·exact jN pins s σ H _ us Q I r ⟨_,ys,rfl,.inl ⟨h1,h2⟩⟩
  ·exact jN pins s σ H _ us Q I r ⟨_,ys,rfl,.inr ⟨h1,h2⟩⟩
 ·exact h.elim
noncomputable def JC (a:EX K):EX K:=Ik "tuple" "tuple" (uU K) (λX hK _ _=>by subst hK;exact JB X) PyProof.Rows.Boot.tuple (by decide+kernel) (by decide+kernel) a []
theorem YX {X:Cx} {o:Expr} {es:List Expr} {to:TE} {name:Str} {apos cpos:Pos} {T id:String} {r:V->List V->Hp->VK->Prop} {RR:V->St->Hp->VK->Prop} {C:Sc} {E:XS} {xs:List (EX X.K)}
  (pa:PlainAttrs T) (slot:Slot T name id) (hty:typeOf (.builtin id)=pure (.type "method_descriptor")) (hm:Bx X id r) (ho:PE X o to) (ha:PA X es (fY xs E))
  (hR:∀x σ H Q,RR x σ H Q->Jw X.K T x H/\fY xs E σ H λys H2=>r x ys H2 Q)
  (hbase:attributeBase o name X.env (eval o X.env)=eval o X.env) (hx:jX xs C es=true) (h30:es.length<30) (hline:(apos.endLine==cpos.line)=true):
  PE X (.Call (.Attribute o name apos) es [] cpos) (λσ H Q=>to σ H λx H1=>RR x σ H1 Q):=by
 intro pins s σ H Q I h;cases es with
 |nil=>
  refine wpAny_Call_method0_late hbase hline (bT (ho pins s σ H _ I h) λv s1 ⟨x,H1,I1,r1,q0⟩=>?_);obtain ⟨ty,q1⟩:=hR x σ H1 Q q0;obtain ⟨h1,h2⟩:=IU I1 r1 ty;cases xs with
  |nil=>exact ⟨T,id,pa,slot,hty,h1,h2,Calls.callWith_builtin rfl (PySem.evalArgs_none (hm pins s1 σ H1 x [] v [] Q I1 r1 .nil q1))⟩
  |cons _ _=>cases hx
 |cons e es=>
  cases xs with
  |nil=>cases hx
  |cons a as=>
   have hs:=aX (env:=X.env) (es:=es) (a.sok C e (aG hx).1);have hplain:=bH (env:=X.env) (pos:=cpos) as es (aG hx).2;have hfew:((backTo cpos (starEach (e::es) X.env)).all (λx=>!x.1)&&(backToKw cpos (keywordEach [] X.env)).all (λx=>x.1.isSome)
     &&decide ((e::es).length+([]:List Keyword).length+(if ([]:List Keyword).isEmpty then 0 else 1)<30))=true:=by
    rw[as_none (env:=X.env) (pos:=cpos) (a::as) (e::es) hx];have h30':(e::es).length+([]:List Keyword).length+(if ([]:List Keyword).isEmpty then 0 else 1)<30:=h30;rw[decide_eq_true h30'];rfl
   refine wpAny_Call_method_late hbase hfew hline rfl (bT (ho pins s σ H _ I h) λv s1 ⟨x,H1,I1,r1,q0⟩=>?_);obtain ⟨ty,q1⟩:=hR x σ H1 Q q0;obtain ⟨h1,h2⟩:=IU I1 r1 ty;refine ⟨T,id,pa,slot,hty,h1,h2,?_⟩;have hA:=ha cpos pins s1 σ H1 _ I1 q1;rw[hs] at hA ⊢;refine Calls.callWith_builtin (by show (false || (backTo cpos (starEach es X.env)).any (·.1))=false;rw[hplain]<;>rfl) (Calls.evalArgs_plain ?_);exact bT hA λus s2 ⟨vs,H2,I2,r2,q2⟩=>hm pins s2 σ H2 x vs v us Q I2 r1 r2 q2
noncomputable def LP (name:Str) (T id:String) (r:V->List V->Hp->VK->Prop) (RR:TA->V->St->Hp->VK->Prop) (pa:PlainAttrs T) (slot:Slot T name id) (hty:typeOf (.builtin id)=pure (.type "method_descriptor")) (ok:∀X:Cx,X.K=K->X.calm=true->X.A.units+64<cLine->Bx X id r)
  (hR:∀t x σ H Q,RR t x σ H Q->Jw K T x H/\t σ H λys H2=>r x ys H2 Q) (o:EX K) (ho:o.s≠.zc) (as:List (EX K)):EX K:=SJ (λE σ H Q=>o.t E σ H λx H1=>RR (fY as E) x σ H1 Q)
 (λC e=>match e with
  | .Call (.Attribute l y p) es [] p2=>(y==name&&(C.cm&&(p.endLine==p2.line&&decide (es.length<30))))&&(o.m C l&&jX as C es)
  |_=>false) (λR=>o.q R/\sQ as R) .pl
 (λX C E e hK G hE hq hm=>by
  subst hK
  cases e with
  |Call f es ks p=>
   cases f with
   |Attribute l y py=>
    cases ks with
    |nil=>
     simp only [and_eq_true] at hm
     obtain ⟨⟨h1,hcm,h2,h3⟩,h4,h5⟩:=hm
     have e:=eq_of_beq h1
     subst e
     exact YX pa slot hty (ok X rfl (G.calm hcm) G.hu) (o.ok X C E l rfl G hE hq.1 h4) (dR G hE as es hq.2 h5) (hR _) (xX (o.sok C l h4) ho) h5 (of_decide_eq_true h3) h2
    |cons _ _=>cases hm
   |_=>exact ff hm
  |_=>exact ff hm)
 (λC e hm=>by
  cases e with
  |Call f es ks p=>
   cases f with
   |Attribute l y py=>rfl
   |_=>exact ff hm
  |_=>exact ff hm)
 (λC e hm=>by cases e with|Call f es ks p=>rfl|_=>exact ff hm)
noncomputable def RS (r:Str->List V->Hp->VK->Prop) (t:TA):V->St->Hp->VK->Prop
 | .str z,σ,H,Q=>t σ H λys H2=>r z ys H2 Q
 |_,_,_,_=>False
noncomputable def rS (r:Str->List V->Hp->VK->Prop):V->List V->Hp->VK->Prop
 | .str z,ys,H,Q=>r z ys H Q
 |_,_,_,_=>False
noncomputable def yT (name:Str) (id:String) (r:Str->List V->Hp->VK->Prop) (slot:Slot "str" name id) (hty:typeOf (.builtin id)=pure (.type "method_descriptor")) (ok:∀X:Cx,X.K=K->X.calm=true->X.A.units+64<cLine->Bx X id (rS r)) (o:EX K) (ho:o.s≠.zc) (as:List (EX K)):EX K:=
 LP name "str" id (rS r) (RS r) PySem.F.plainAttrs_str slot hty ok (λt x σ H Q h=>by
  cases x with
  |str z=>exact ⟨rfl,h⟩
  |_=>exact h.elim) o ho as
noncomputable def RL (K:Fg) (r:V->List V->Hp->VK->Prop) (t:TA):V->St->Hp->VK->Prop
 | .ref p,σ,H,Q=>(∃xs,aR K H p xs)/\t σ H λys H2=>r (.ref p) ys H2 Q
 |_,_,_,_=>False
noncomputable def Fh (name:Str) (id:String) (r:V->List V->Hp->VK->Prop) (slot:Slot "list" name id) (hty:typeOf (.builtin id)=pure (.type "method_descriptor")) (ok:∀X:Cx,X.K=K->X.calm=true->X.A.units+64<cLine->Bx X id r) (o:EX K) (ho:o.s≠.zc) (as:List (EX K)):EX K:=
 LP name "list" id r (RL K r) PySem.F.plainAttrs_list slot hty ok (λt x σ H Q h=>by
  cases x with
  |ref p=>exact ⟨.inl ⟨rfl,h.1⟩,h.2⟩
  |_=>exact h.elim) o ho as
theorem SY {X:Cx} (hu:X.A.units+1<cLine):Cp X (λx y H Q=>∃a v,x=.ref a/\eY H a y (some v)/\Q v H):=by
 intro value slice pins s σ H x y v u Q I rx ry h hs;obtain ⟨a,z,rfl,g,q⟩:=h;obtain rfl:v=Value.ref a:=rx;exact tail_any (zP I g) PySem.F.slot_dict_getitem.lookup (HJ hu I g ry λw' s3 I3 rw'=>⟨z,H,I3,rw',q⟩) hs
noncomputable def yG (K:Fg):R2
 | .str z,.int i,H,Q=>z.length<=sizeLine/\∃c,rE z.cps.toList i=some c/\Q (sgn c) H
 | .ref a,y,H,Q=>Eg K (.ref a) y H Q\/Ef K (.ref a) y H Q\/∃v,eY H a y (some v)/\Q v H
 |_,_,_,_=>False
theorem Fz {X:Cx} (hu:X.A.units+1<cLine):Cp X (yG X.K):=by
 intro value slice pins s σ H x y v u Q I rx ry h hs;unfold yG at h;split at h
 ·obtain ⟨h1,c,h2,h3⟩:=h;exact ZY value slice pins s σ H _ _ v u Q I rx ry ⟨_,_,c,rfl,rfl,h1,h2,h3⟩ hs
 ·rcases h with h|h|⟨z,h,q⟩
  ·exact SW value slice pins s σ H _ _ v u Q I rx ry h hs
  ·exact ZX value slice pins s σ H _ _ v u Q I rx ry h hs
  ·exact SY hu value slice pins s σ H _ _ v u Q I rx ry ⟨_,z,rfl,h,q⟩ hs
 ·exact h.elim
noncomputable def ix (a b:EX K):EX K:=nG (λE=>XE (yG K) (a.t E) (b.t E))
 (λC e=>match e with
  | .Subscript l r _=>a.m C l&&b.m C r
  |_=>false) (λR=>a.q R/\b.q R) .pl
 (λX C E e hK G hE hq hm=>by
  subst hK
  cases e with
  |Subscript l r p=>
   simp only [and_eq_true] at hm
   exact Eo (Fz (by have:=G.hu;lia)) (a.ok X C E l rfl G hE hq.1 hm.1) (b.ok X C E r rfl G hE hq.2 hm.2) (XN (b.sok C r hm.2))
  |_=>exact ff hm)
 (λC e hm=>by cases e with|Subscript l r p=>exact ⟨rfl,rfl⟩|_=>exact ff hm)
noncomputable def rO (QO:Option Int->Hp->Prop):V->Hp->Prop
 | .int i,H=>QO (some i) H
 |_,_=>False
noncomputable def tO (E:XS):Option (EX K)->TO
 |none=>DA
 |some x=>λσ H Q=>x.t E σ H (rO Q)
noncomputable def mO:Option (EX K)->Sc->Option Expr->Bool
 |none,_,none=>true
 |some x,C,some e=>x.m C e
 |_,_,_=>false
noncomputable def qO:Option (EX K)->Rt->Prop
 |none,_=>True
 |some x,R=>x.q R
theorem Fd {X:Cx} {C:Sc} {E:XS} (G:Gd X C) (hE:tU X E):∀(o:Option (EX X.K)) (e:Option Expr),qO o (dX X)->mO o C e=true->PO X e (tO E o)
 |none,none,_,_=>RC
 |none,some _,_,hm=>nomatch hm
 |some _,none,_,hm=>nomatch hm
 |some x,some e,hq,hm=>by
  intro pins s σ H Q I hw;rw[evalPart_some];refine bT (x.ok X C E e rfl G hE hq hm pins s σ H _ I hw) λu s1 ⟨y,H1,I1,r1,q1⟩=>?_;cases y with
  |int i=>
   obtain ⟨t,rfl⟩:=r1;exact ⟨some i,H1,I1,.int i t,q1⟩
  |_=>exact q1.elim
noncomputable def FR (K:Fg):V->Option Int->Option Int->Hp->VK->Prop
 | .str z,lo,hi,H,Q=>z.length<=sizeLine/\Q (.str (Txt.slice z lo hi)) H
 | .ref a,lo,hi,H,Q=>Eb K (.ref a) lo hi H Q\/Ea K (.ref a) lo hi H Q
 |_,_,_,_,_=>False
theorem Dt {X:Cx}:Iy X (FR X.K):=by
 intro pins s σ H x v vl vu lo hi sl Q I rx hs pl pu h;unfold FR at h;split at h
 ·exact XM pins s σ H _ v vl vu _ _ sl Q I rx hs pl pu ⟨_,rfl,h.1,h.2⟩
 ·rcases h with h|h
  ·exact QJ pins s σ H _ v vl vu _ _ sl Q I rx hs pl pu h
  ·exact XJ pins s σ H _ v vl vu _ _ sl Q I rx hs pl pu h
 ·exact h.elim
noncomputable def xA (a:EX K) (lo hi:Option (EX K)):EX K:=nG (λE=>Mc (FR K) (a.t E) (tO E lo) (tO E hi))
 (λC e=>match e with
  | .Subscript l (.Slice x y none _) _=>a.m C l&&(mO lo C x&&mO hi C y)
  |_=>false) (λR=>a.q R/\qO lo R/\qO hi R) .pl
 (λX C E e hK G hE hq hm=>by
  subst hK
  cases e with
  |Subscript l r p=>
   cases r with
   |Slice x y z p2=>
    cases z with
    |none=>
     simp only [and_eq_true] at hm
     exact KL Dt (a.ok X C E l rfl G hE hq.1 hm.1) (Fd G hE lo x hq.2.1 hm.2.1) (Fd G hE hi y hq.2.2 hm.2.2)
    |some _=>cases hm
   |_=>exact ff hm
  |_=>exact ff hm)
 (λC e hm=>by cases e with|Subscript l r p=>exact ⟨rfl,rfl⟩|_=>exact ff hm)
noncomputable def lst (as:List (EX K)):EX K:=nG (λE=>Dj (fY as E))
 (λC e=>match e with
  | .List es _=>jX as C es
  |_=>false) (λR=>sQ as R) .pl
 (λX C E e hK G hE hq hm=>by
  subst hK
  cases e with
  |List es p=>exact YU (dR G hE as es hq hm)
  |_=>exact ff hm)
 (λC e hm=>by cases e with|List es p=>exact ⟨rfl,rfl⟩|_=>exact ff hm)
noncomputable def tup (as:List (EX K)):EX K:=nG (λE=>Dg (fY as E))
 (λC e=>match e with
  | .Tuple es _ _=>jX as C es
  |_=>false) (λR=>sQ as R) .pl
 (λX C E e hK G hE hq hm=>by
  subst hK
  cases e with
  |Tuple es k p=>exact YQ (dR G hE as es hq hm)
  |_=>exact ff hm)
 (λC e hm=>by cases e with|Tuple es k p=>exact ⟨rfl,rfl⟩|_=>exact ff hm)
end
section
variable {K:Fg}
theorem xV {e t:Expr} {line:Nat} {env:Env} {s:Bt} (h:gY e=some s) (hs:s≠.cp):swapsWithSole [t] e line env=pure false:=kJ (tgt:=some t) h hs
structure IX (K:Fg) where
 t:XS->TI
 tm:Expr->Bool
 m:Sc->Expr->Bool
 q:Rt->Prop
 ok:∀(X:Cx) (C:Sc) (E:XS) (tg e:Expr),X.K=K->Gd X C->tU X E->q (dX X)->tm tg=true->m C e=true->PI X tg e (t E)
 fs:∀(C:Sc) (e:Expr) (env:Env) (x:Value),m C e=true->foldedSetIterable e env x=pure x
noncomputable def pG (K:Fg):V->Hp->(It->Hp->Prop)->Prop
 | .str z,H,R=>R (Cq z) H
 | .ref a,H,R=>((∃xs,aR K H a xs)/\R (UZ K a) H)\/((∃xs,cZ K H a xs)/\R (Jf K a) H)
 |_,_,_=>False
theorem MF {X:Cx} {tg:Expr} {pins:List (Addr × Obj)} {s1:Shared} {σ:St} {H1:Hp} {x:V} {v:Value} {R:It->Hp->Prop} (I1:Inv X pins σ H1 s1) (r1:RelV x v) (q1:pG X.K x H1 R):
  wpAny (model X.prog X.w) X.A (pyIter v) (Iz X pins σ tg R) X.xe s1:=by
 unfold pG at q1;split at q1
 ·rename_i z;obtain ⟨t,rfl⟩:=r1;have fin:∀T:String,(T="str_ascii_iterator"\/T="str_iterator")->Iz X pins σ tg R (.ref s1.heap.objs.size) {s1 with heap:=s1.heap.push {cls:=.type T,data:=.fields #[.str z t,.int 0 0]}}:=λT hT=>by
   refine ⟨s1.heap.objs.size,[s1.heap.objs.size],_,_,H1,rfl,I1.kept (t':=s1.toks) λb o e=>get?_push_of_some _ e,IY z t _ T hT,⟨_,get?_push_size _ rfl,rfl,rfl⟩,λb hb=>?_,q1⟩;have e:b=s1.heap.objs.size:=by simpa using hb
   subst e;exact I1.fpOk (Nat.le_refl _) (I1.hok.fresh (Nat.le_refl _))
  cases ha:z.cps.all (·<128) with
  |true=>exact wpAny_pyIter_ascii ha (fin _ (.inl rfl))
  |false=>exact wpAny_pyIter_wide ha (fin _ (.inr rfl))
 ·rename_i a;cases (show v=Value.ref a from r1);rcases q1 with ⟨⟨xs,hq⟩,q⟩|⟨⟨xs,hq⟩,q⟩
  ·obtain ⟨its,rv,p,hz⟩:=I1.list hq;refine wpAny_pyIter_list p.isList ?_;refine ⟨s1.heap.objs.size,[s1.heap.objs.size],_,_,H1,rfl,I1.kept (t':=s1.toks) λb o e=>get?_push_of_some _ e,FC a _,⟨_,get?_push_size _ rfl,rfl,rfl⟩,λb hb=>?_,q⟩;have e:b=s1.heap.objs.size:=by simpa using hb
   subst e;exact I1.fpOk (Nat.le_refl _) (I1.hok.fresh (Nat.le_refl _))
  ·obtain ⟨its,rv,p,hz⟩:=I1.tuple hq;refine wpAny_pyIter_tuple (show s1.heap.IsTuple a its.toArray from p) ?_;refine ⟨s1.heap.objs.size,[s1.heap.objs.size],_,_,H1,rfl,I1.kept (t':=s1.toks) λb o e=>get?_push_of_some _ e,AN a _,⟨_,get?_push_size _ rfl,rfl,rfl⟩,λb hb=>?_,q⟩;have e:b=s1.heap.objs.size:=by simpa using hb
   subst e;exact I1.fpOk (Nat.le_refl _) (I1.hok.fresh (Nat.le_refl _))
 ·exact q1.elim
noncomputable def iL (a:EX K):IX K where
 t:=λE σ H R=>a.t E σ H λx H1=>pG K x H1 R
 tm:=λ_=>true
 m:=a.m
 q:=a.q
 ok:=λX C E tg e hK G hE hq _ hm=>by
  subst hK;intro pins s σ H R I h;exact bT (a.ok X C E e rfl G hE hq hm pins s σ H _ I h) λv s1 ⟨x,H1,I1,r1,q1⟩=>MF I1 r1 q1
 fs:=λC e env x hm=>xW (a.sok C e hm) x
noncomputable def JW:List V->Hp->(It->Hp->Prop)->Prop
 |[.int j],H,R=>(-(2 ^ 62)<=j/\j<2 ^ 62)/\R (OZ 0 j.toNat) H
 |[.int i,.int j],H,R=>(-(2 ^ 62)<=i/\i<2 ^ 62/\-(2 ^ 62)<=j/\j<2 ^ 62)/\R (OZ i (j - i).toNat) H
 |_,_,_=>False
noncomputable def BZ (a:EX K) (as:List (EX K)):IX K where
 t:=λE σ H R=>fY (a::as) E σ H λvs H1=>JW vs H1 R
 tm:=λ_=>true
 m:=λC e=>match e with
  | .Call (.Name y _) es [] _=>rD C "range" y&&jX (a::as) C es
  |_=>false
 q:=λR=>sQ (a::as) R
 ok:=λX C E tg e hK G hE hq _ hm=>by
  subst hK;cases e with
  |Call f es ks p=>
   cases f with
   |Name y py=>
    cases ks with
    |nil=>
     simp only [and_eq_true] at hm;obtain ⟨h1,h2⟩:=hm;have e:=cC h1;subst e;obtain ⟨g,d⟩:=cB G h1;cases es with
     |nil=>cases h2
     |cons e es=>
      intro pins s σ H R I h;refine Call_ (fM I g (G.bl _ (by decide+kernel)) boot_range (PyProof.Rows.callWith_type1 (bT (dR G hE (a::as) (e::es) hq h2 p pins s σ H _ I h) λus s1 ⟨vs,H1,I1,r1,q1⟩=>?_) (aX (a.sok C e (aG h2).1)) (bH as es (aG h2).2)));replace q1:JW vs H1 R:=q1;unfold JW at q1;split at q1
      ·cases r1 with
       |cons r rr=>
        cases rr;obtain ⟨t,rfl⟩:=r;exact call_range_1 (yC I1 (by lia) (by lia) q1.1.1 q1.1.2 (by simpa using q1.2))
      ·cases r1 with
       |cons r rr=>
        cases rr with
        |cons r' rr=>
         cases rr;obtain ⟨t,rfl⟩:=r;obtain ⟨t',rfl⟩:=r';exact call_range_2 (yC I1 q1.1.1 q1.1.2.1 q1.1.2.2.1 q1.1.2.2.2 q1.2)
      ·exact q1.elim
    |cons _ _=>cases hm
   |_=>exact ff hm
  |_=>exact ff hm
 fs:=λC e env x hm=>by cases e with|Call f es ks p=>rfl|_=>exact ff hm
noncomputable def JT (K:Fg):List V->Hp->(It->Hp->Prop)->Prop
 |[.ref p,.ref q],H,R=>((∃xs,aR K H p xs)/\∃ys,aR K H q ys)/\R (Jd K p q) H
 |_,_,_=>False
noncomputable def UD (a b:EX K):IX K where
 t:=λE σ H R=>fY [a,b] E σ H λvs H1=>JT K vs H1 R
 tm:=λe=>match e with
  | .Tuple _ _ _=>true
  |_=>false
 m:=λC e=>match e with
  | .Call (.Name y _) es [] _=>rD C "zip" y&&jX [a,b] C es
  |_=>false
 q:=λR=>sQ [a,b] R
 ok:=λX C E tg e hK G hE hq ht hm=>by
  subst hK;cases tg with
  |Tuple ts tk tp=>
   cases e with
   |Call f es ks p=>
    cases f with
    |Name y py=>
     cases ks with
     |nil=>
      simp only [and_eq_true] at hm;obtain ⟨h1,h2⟩:=hm;have e:=cC h1;subst e;obtain ⟨g,d⟩:=cB G h1;cases es with
      |nil=>cases h2
      |cons e es=>
       intro pins s σ H R I h;refine Call_ (fM I g (G.bl _ (by decide+kernel)) boot_zip (PyProof.Rows.callWith_type1 (bT (dR G hE [a,b] (e::es) hq h2 p pins s σ H _ I h) λus s1 ⟨vs,H1,I1,r1,q1⟩=>?_) (aX (a.sok C e (aG h2).1)) (bH [b] es (aG h2).2)));replace q1:JT X.K vs H1 R:=q1;unfold JT at q1;split at q1
       ·rename_i p1 p2;cases r1 with
        |cons r rr=>
         cases rr with
         |cons r' rr=>
          cases rr;cases r;cases r';obtain ⟨⟨⟨xs,hx⟩,ys,hy⟩,q⟩:=q1;obtain ⟨ia,ra,pa,_⟩:=I1.list hx;obtain ⟨ib,rb,pb,_⟩:=I1.list hy;refine call_zip_2 pa.isList pb.isList λh' z1 z2 z3 z4 z5 z6 kp=>?_;refine wpAny_pyIter_zip (s:={s1 with heap:=h'}) z1 ?_;have Z:CS (s1.heap.objs.size+4) (s1.heap.objs.size+2) (s1.heap.objs.size+3) s1.heap.objs.size (s1.heap.objs.size+1):=by constructor<;>simp<;>lia
          have big:∀c∈[s1.heap.objs.size+4,s1.heap.objs.size+2,s1.heap.objs.size+3,s1.heap.objs.size,s1.heap.objs.size+1],s1.heap.objs.size<=c:=by
           intro c hc;simp only [mem_cons,not_mem_nil,or_false] at hc;lia
          exact ⟨_,[s1.heap.objs.size+4,s1.heap.objs.size+2,s1.heap.objs.size+3,s1.heap.objs.size,s1.heap.objs.size+1],_,_,H1,rfl,I1.kept (t':=s1.toks) kp,IW p1 p2 _ _ _ _ _ Z,⟨z1,z2,⟨_,_,z3⟩,z4,z5⟩,λc hc=>I1.fpOk (big c hc) (I1.hok.fresh (big c hc)),q⟩
       ·exact q1.elim
     |cons _ _=>cases hm
    |_=>exact ff hm
   |_=>exact ff hm
  |_=>cases ht
 fs:=λC e env x hm=>by cases e with|Call f es ks p=>rfl|_=>exact ff hm
structure TX (K:Fg) where
 g:TG
 m:Sc->Expr->Bool
 ok:∀(X:Cx) (C:Sc) (e:Expr),X.K=K->Gd X C->m C e=true->PG X e g
noncomputable def QG (C:Sc) (i:Nat) (x:Str):Bool:=C.N[i]?==some x&&(C.nm.lookup x==some .local || (C.nm.lookup x==some .cell&&(C.fb || C.ow.contains x)))
theorem uJ {X:Cx} {C:Sc} {i:Nat} {x:Str} (G:Gd X C) (h:QG C i x=true):X.N[i]?=some x/\Loc X.env.scope x/\(X.fn x=true\/X.env.scope.names.lookup x=some .local):=by
 unfold QG at h;simp only [and_eq_true,or_eq_true] at h;obtain ⟨h1,h2⟩:=h;refine ⟨by rw[G.N];exact eq_of_beq h1,?_,?_⟩
 ·rcases h2 with h2|⟨h2,_⟩
  ·exact .inl (by rw[G.nm];exact eq_of_beq h2)
  ·exact .inr (by rw[G.nm];exact eq_of_beq h2)
 ·rcases h2 with h2|⟨_,h2⟩
  ·exact .inr (by rw[G.nm];exact eq_of_beq h2)
  ·rcases h2 with h2|h2
   ·exact .inl (G.fb h2 x)
   ·exact .inl (G.ow x (List.contains_iff_mem.mp h2))
noncomputable def jA (i:Nat):TX K where
 g:=EE i
 m:=λC e=>match e with
  | .Name x _=>QG C i x
  |_=>false
 ok:=λX C e hK G hm=>by
  cases e with
  |Name x p=>
   obtain ⟨h1,h2,h3⟩:=uJ G hm;exact DM (by rw[G.N];exact G.nd) h1 h2 h3
  |_=>exact ff hm
noncomputable def Jm:List Nat->UY
 |[]=>Hs
 |i::is=>WH (EE i) (Jm is)
noncomputable def Fj:List Nat->Sc->List Expr->Bool
 |[],_,[]=>true
 |i::is,C,.Name x _::es=>QG C i x&&Fj is C es
 |_,_,_=>false
theorem LB {X:Cx} {C:Sc} (G:Gd X C):∀(is:List Nat) (es:List Expr),Fj is C es=true->Cn X es (Jm is)/\(assignEach es X.env).length=is.length/\(assignEach es X.env).findIdx? (·.1)=none
 |[],[],_=>⟨RE,rfl,rfl⟩
 |[],_::_,hm=>nomatch hm
 |_::_,[],hm=>nomatch hm
 |i::is,e::es,hm=>by
  cases e with
  |Name x p=>
   have hm':(QG C i x&&Fj is C es)=true:=hm;simp only [and_eq_true] at hm';obtain ⟨h1,h2,h3⟩:=LB G is es hm'.2;obtain ⟨g1,g2,g3⟩:=uJ G hm'.1;refine ⟨KJ (DM (by rw[G.N];exact G.nd) g1 g2 g3) h1 rfl,?_,?_⟩
   ·show (assignEach es X.env).length+1=is.length+1;rw[h2]
   ·show List.findIdx? (·.1) ((false,assign (.Name x p) X.env)::assignEach es X.env)=none;rw[List.findIdx?_cons,h3];rfl
  |_=>exact nomatch hm
noncomputable def IT (is:List Nat):TX K where
 g:=Hr K is.length (Jm is)
 m:=λC e=>match e with
  | .Tuple es _ _=>C.cm&&Fj is C es
  |_=>false
 ok:=λX C e hK G hm=>by
  subst hK;cases e with
  |Tuple es k p=>
   simp only [and_eq_true] at hm;obtain ⟨h1,h2,h3⟩:=LB G is es hm.2;exact YL (G.calm hm.1) h1 h2 h3
  |_=>exact ff hm
structure SX (K:Fg) where
 t:XS->TS
 m:Sc->Stmt->Bool
 q:Rt->Prop
 ok:∀(X:Cx) (C:Sc) (E:XS) (s:Stmt),X.K=K->Gd X C->tU X E->q (dX X)->m C s=true->PS X s (t E)
noncomputable def lJ:List (SX K)->XS->TS
 |[],_=>VH
 |s::ss,E=>Dh (s.t E) (lJ ss E)
noncomputable def DS:List (SX K)->Sc->List Stmt->Bool
 |[],_,[]=>true
 |s::ss,C,e::es=>s.m C e&&DS ss C es
 |_,_,_=>false
noncomputable def IB:List (SX K)->Rt->Prop
 |[],_=>True
 |s::ss,R=>s.q R/\IB ss R
theorem sJ {X:Cx} {C:Sc} {E:XS} (G:Gd X C) (hE:tU X E):∀(xs:List (SX X.K)) (es:List Stmt),IB xs (dX X)->DS xs C es=true->Bu X es (lJ xs E)
 |[],[],_,_=>QY
 |[],_::_,_,hm=>nomatch hm
 |_::_,[],_,hm=>nomatch hm
 |x::xs,e::es,hq,hm=>by
  have hm':(x.m C e&&DS xs C es)=true:=hm;simp only [and_eq_true] at hm';exact KA (x.ok X C E e rfl G hE hq.1 hm'.1) (sJ G hE xs es hq.2 hm'.2)
noncomputable def set (i:Nat) (a:EX K):SX K where
 t:=λE D σ H=>a.t E σ H λx H1=>D.nx (σ.set i (some x)) H1
 m:=λC s=>match s with
  | .Assign [.Name x _] e _=>decide (a.s≠.cp)&&(QG C i x&&a.m C e)
  |_=>false
 q:=a.q
 ok:=λX C E s hK G hE hq hm=>by
  split at hm
  ·rename_i x px e p;simp only [and_eq_true] at hm;obtain ⟨h1,h2,h3⟩:=hm;obtain ⟨g1,g2,g3⟩:=uJ G h2;exact KC (by rw[G.N];exact G.nd) g1 g2 (a.ok X C E e hK G hE hq h3) (kJ (a.sok C e h3) (of_decide_eq_true h1)) g3
  ·cases hm
noncomputable def XO (tg:TX K) (a:EX K):SX K where
 t:=λE=>XH (a.t E) tg.g
 m:=λC s=>match s with
  | .Assign [.Tuple ts k p'] e _=>(match e with| .Tuple ..=>false|_=>true)&&(decide (a.s≠.cp)&&(tg.m C (.Tuple ts k p')&&a.m C e))
  |_=>false
 q:=a.q
 ok:=λX C E s hK G hE hq hm=>by
  split at hm
  ·rename_i ts k p' e p;simp only [and_eq_true] at hm;obtain ⟨h0,h1,h2,h3⟩:=hm;refine KG (a.ok X C E e hK G hE hq h3) (tg.ok X C _ hK G h2) (xV (a.sok C e h3) (of_decide_eq_true h1)) ?_ rfl;cases e with
   |Tuple _ _ _=>cases h0
   |_=>rfl
  ·cases hm
noncomputable def XW (o i v:V) (H:Hp) (Q:Hp->Prop):Prop:=VQ o i v H Q\/∃a H',o=.ref a/\PH H a i v H'/\Q H'
theorem YF {X:Cx} (hu:X.A.units+1<cLine):Bv X XW:=by
 intro pins s σ H o i v ov iv u Q I ro ri rv h;rcases h with h|⟨a,H',rfl,g,q⟩
 ·exact set_list pins s σ H o i v ov iv u Q I ro ri rv h
 ·obtain rfl:ov=Value.ref a:=ro;exact HI hu I g ri rv λs4 I4=>⟨H',I4,q⟩
noncomputable def put (o i a:EX K):SX K where
 t:=λE D σ H=>a.t E σ H λx H1=>o.t E σ H1 λy H2=>i.t E σ H2 λz H3=>XW y z x H3 λH4=>D.nx σ H4
 m:=λC s=>match s with
  | .Assign [.Subscript l r _] e _=>decide (a.s≠.cp)&&((match r with| .Slice ..=>false|_=>true)&&(o.m C l&&(i.m C r&&a.m C e)))
  |_=>false
 q:=λR=>o.q R/\i.q R/\a.q R
 ok:=λX C E s hK G hE hq hm=>by
  split at hm
  ·rename_i l r p' e p;simp only [and_eq_true] at hm;obtain ⟨h1,h0,h2,h3,h4⟩:=hm;refine KG (a.ok X C E e hK G hE hq.2.2 h4) (YM (o.ok X C E l hK G hE hq.1 h2) (i.ok X C E r hK G hE hq.2.1 h3) (YF (by have:=G.hu;lia)) ?_) (xV (a.sok C e h4) (of_decide_eq_true h1)) ?_ rfl
   ·intro v;cases r with
    |Slice _ _ _ _=>cases h0
    |_=>rfl
   ·cases e<;>rfl
  ·cases hm
noncomputable def ex (a:EX K):SX K where
 t:=λE D σ H=>a.t E σ H λ_ H1=>D.nx σ H1
 m:=λC s=>match s with
  | .Expr e _=>decide (a.s≠.cp)&&a.m C e
  |_=>false
 q:=a.q
 ok:=λX C E s hK G hE hq hm=>by
  cases s with
  |Expr e p=>
   simp only [and_eq_true] at hm;exact QZ (a.ok X C E e hK G hE hq hm.2) (kJ (a.sok C e hm.2) (of_decide_eq_true hm.1))
  |_=>exact ff hm
noncomputable def ret (a:EX K):SX K where
 t:=λE D σ H=>a.t E σ H D.rt
 m:=λC s=>match s with
  | .Return (some e) _=>a.m C e
  |_=>false
 q:=a.q
 ok:=λX C E s hK G hE hq hm=>by
  cases s with
  |Return o p=>
   cases o with
   |some e=>exact YI (a.ok X C E e hK G hE hq hm)
   |none=>cases hm
  |_=>exact ff hm
noncomputable def rW (c:EX K) (t f:List (SX K)):SX K where
 t:=λE D σ H=>c.tt E σ H λb H1=>br b (lJ t E D σ H1) (lJ f E D σ H1)
 m:=λC s=>match s with
  | .If e x y _=>c.m C e&&(DS t C x&&DS f C y)
  |_=>false
 q:=λR=>c.q R/\IB t R/\IB f R
 ok:=λX C E s hK G hE hq hm=>by
  subst hK;cases s with
  |If e x y p=>
   simp only [and_eq_true] at hm;obtain ⟨h1,h2,h3⟩:=hm;intro pins s σ H D I h;refine wpAny_If (bT (c.okT X C E e rfl G hE hq.1 h1 pins s σ H _ I h) λd s1 ⟨H1,I1,q1⟩=>?_);cases d with
   |true=>exact sJ G hE t x hq.2.1 h2 pins s1 σ H1 D I1 (q1.1 rfl)
   |false=>exact sJ G hE f y hq.2.2 h3 pins s1 σ H1 D I1 (q1.2 rfl)
  |_=>exact ff hm
noncomputable def mE (tg:TX K) (it:IX K) (b:List (SX K)):SX K where
 t:=λE=>Dk (it.t E) tg.g (lJ b E)
 m:=λC s=>match s with
  | .For x e y [] _=>(C.cm&&it.tm x)&&(tg.m C x&&(it.m C e&&DS b C y))
  |_=>false
 q:=λR=>it.q R/\IB b R
 ok:=λX C E s hK G hE hq hm=>by
  subst hK;cases s with
  |For x e y z p=>
   cases z with
   |nil=>
    simp only [and_eq_true] at hm;obtain ⟨⟨hcm,h0⟩,h1,h2,h3⟩:=hm;exact YJ hE.own (G.calm hcm) (it.ok X C E x e rfl G hE hq.1 h0 h2) (tg.ok X C x rfl G h1) (sJ G hE b y hq.2 h3) (λv=>it.fs C e X.env v h2)
   |cons _ _=>cases hm
  |_=>exact ff hm
noncomputable def Ma (c:TT) (tb:TS):TS:=λD σ H=>∃W:Nat->St->Hp->Prop,(∃m,W m σ H)/\∀m σ H,W m σ H->
 c σ H λb H1=>br b (∃N:St->Hp->Prop,(∀σ' H',N σ' H'->∃m',m'<m/\W m' σ' H')/\tb {D with nx:=N,ct:=N,bk:=D.nx} σ H1) (D.nx σ H1)
theorem El {X:Cx} {c:Expr} {body:List Stmt} {tc:TT} {tb:TS} {pos:Pos} (hp:PassesOwn (model X.prog X.w) X.A X.env X.xe) (hc:PT X c tc) (hb:Bu X body tb):PS X (.While c body [] pos) (Ma tc tb):=by
 intro pins s σ H D I h;obtain ⟨W,⟨m0,w0⟩,turn⟩:=h;refine wpAny_While (codeAny_whileLoop (λn s'=>∃σ' H',Inv X pins σ' H' s'/\W n σ' H') ?_ m0 ⟨σ,H,I,w0⟩);rintro n s1 ⟨σ1,H1,I1,w1⟩;refine wpAny_passesOwn hp (bT (hc pins s1 σ1 H1 _ I1 (turn n σ1 H1 w1)) λb s2 ⟨H2,I2,q2⟩=>?_);cases b with
 |true=>
  obtain ⟨N,hN,q2⟩:=q2.1 rfl;rw[if_pos rfl];refine wpAny_passesOwn hp (bT (hb pins s2 σ1 H2 _ I2 q2) λf s3 q3=>?_);cases f with
  |next=>
   obtain ⟨σ3,H3,I3,n3⟩:=q3;obtain ⟨m',hm,w3⟩:=hN σ3 H3 n3;exact ⟨m',hm,σ3,H3,I3,w3⟩
  |cont=>
   obtain ⟨σ3,H3,I3,n3⟩:=q3;obtain ⟨m',hm,w3⟩:=hN σ3 H3 n3;exact ⟨m',hm,σ3,H3,I3,w3⟩
  |brk=>exact q3
  |ret v=>exact q3
 |false=>
  rw[if_neg Bool.false_ne_true];exact wpAny_execs_nil ⟨σ1,H2,I2,q2.2 rfl⟩
noncomputable def Cg (c:EX K) (b:List (SX K)):SX K where
 t:=λE=>Ma (c.tt E) (lJ b E)
 m:=λC s=>match s with
  | .While e y [] _=>c.m C e&&DS b C y
  |_=>false
 q:=λR=>c.q R/\IB b R
 ok:=λX C E s hK G hE hq hm=>by
  subst hK;cases s with
  |While e y z p=>
   cases z with
   |nil=>
    simp only [and_eq_true] at hm;exact El hE.own (c.okT X C E e rfl G hE hq.1 hm.1) (sJ G hE b y hq.2 hm.2)
   |cons _ _=>cases hm
  |_=>exact ff hm
noncomputable def Kp:SX K where
 t:=λ_=>JI
 m:=λ_ _=>true
 q:=λ_=>True
 ok:=λX C E s hK G hE hq hm=>KD
noncomputable def sN (nm names:List (Str × NameKind)):List (Str × NameKind):=names.map λ(n,k)=>if (k==NameKind.free&&nm.lookup n==some .cell) then (n,NameKind.cell) else (n,k)
noncomputable def UQ (C:Sc) (sc:Scope):List Str->List Nat->Bool
 |[],[]=>true
 |x::xs,i::is=>(C.N[i]?==some x&&(C.nm.lookup x==some .cell&&sc.names.lookup x==some .free))&&UQ C sc xs is
 |_,_=>false
theorem EO {X:Cx} {C:Sc} {sc:Scope} (G:Gd X C):∀(xs:List Str) (is:List Nat),UQ C sc xs is=true->ID X sc xs is
 |[],[],_=>.nil
 |[],_::_,h=>nomatch h
 |_::_,[],h=>nomatch h
 |x::xs,i::is,h=>by
  have h':((C.N[i]?==some x&&(C.nm.lookup x==some .cell&&sc.names.lookup x==some .free))&&UQ C sc xs is)=true:=h;simp only [and_eq_true] at h';obtain ⟨⟨h1,h2,h3⟩,h4⟩:=h';exact .cons (by rw[G.N];exact eq_of_beq h1) (by show X.env.scope.names.lookup x=_;rw[G.nm];exact eq_of_beq h2) (eq_of_beq h3) (EO G xs is h4)
noncomputable def WL (C:Sc) (sc:Scope) (own caps:List Str) (is:List Nat):Bool:=
 (decide (sc.kind=.function)&&decide (own++caps).Nodup)&&((sc.names.all λy=>y.2 != .cell || sc.names.lookup y.1==some .cell)&&((sc.names.all λy=>y.2 != .free || C.nm.lookup y.1==some .cell)&&((sc.names.all λy=>y.2 != .local || sc.names.lookup y.1==some .local)&&UQ C sc caps is)))
theorem tJ (env:Env):∀(names:List (Str × NameKind)) (acc:List (Str × Addr)),(∀y∈names,y.2=.free->∃c,env.cells.lookup y.1=some c)->
  (forIn names acc (λ(x:Str × NameKind) (r:List (Str × Addr))=>(if (x.2==NameKind.free)=true then (do let c <-cellOf env x.1;pure (ForInStep.yield ((x.1,c)::r))) else pure (ForInStep.yield r):Sem (ForInStep (List (Str × Addr))))))=
   (pure (((names.filter λx=>x.2==.free).filterMap λx=>(env.cells.lookup x.1).map λc=>(x.1,c)).reverse++acc):Sem (List (Str × Addr)))
 |[],acc,_=>rfl
 | (n,k)::r,acc,h=>by
  have ih:=λacc'=>tJ env r acc' λy hy=>h y (mem_cons_of_mem _ hy);rw[forIn_cons];cases hk:(k==NameKind.free) with
  |false=>
   rw[if_neg Bool.false_ne_true];have e:((n,k)::r).filter (λx=>x.2==NameKind.free)=r.filter (λx=>x.2==NameKind.free):=by rw[filter_cons,if_neg (by show ¬(k==NameKind.free)=true;rw[hk];exact Bool.false_ne_true)]
   rw[e];exact ih acc
  |true=>
   rw[if_pos rfl];obtain ⟨c,hc⟩:=h (n,k) mem_cons_self (eq_of_beq hk);have e:((n,k)::r).filter (λx=>x.2==NameKind.free)=(n,k)::r.filter (λx=>x.2==NameKind.free):=by rw[filter_cons,if_pos (by show (k==NameKind.free)=true;exact hk)]
   have hcell:cellOf env n=pure c:=by
    unfold cellOf;rw[hc]
   rw[e,List.filterMap_cons,hcell];have hc':(env.cells.lookup n)=some c:=hc;simp only [hc',Option.map_some,List.reverse_cons,List.append_assoc,List.singleton_append];exact ih ((n,c)::acc)
theorem UN {X:Cx} {sc:Scope} (ok:X.Ok) (hfr:(sc.names.all λy=>y.2 != .free || X.env.kindOf y.1==some .cell)=true):closureFor sc X.env=pure (zV sc.names X.env):=by
 have h:=tJ X.env sc.names [] λy hy hf=>by
  have z:=all_eq_true.mp hfr y hy;simp only [or_eq_true] at z;rcases z with z|z
  ·rw[hf] at z;cases z
  ·exact ok.has y.1 (.inl (eq_of_beq z))
 rw[append_nil] at h;have h3:closureFor sc X.env=(forIn sc.names ([]:List (Str × Addr)) (λ(x:Str × NameKind) (r:List (Str × Addr))=>(if (x.2==NameKind.free)=true then (do let c <-cellOf X.env x.1;pure (ForInStep.yield ((x.1,c)::r))) else pure (ForInStep.yield r):Sem (ForInStep (List (Str × Addr))))) >>=λr=>pure r):=rfl;rw[h3,h];rfl
noncomputable def KR (names:List (Str × NameKind)):List Str:=(names.filter λy=>names.lookup y.1==some .cell).map (·.1)
theorem Bm {X:Cx} {C:Sc} {own caps:List Str} {sc:Scope} {Ca:Addr} {s₀:Shared} {H₀:Hp} {ex:List Addr} (G:Gd X C) (hcm:C.cm=true) (hk:X.env.scope.kind=.function) (hnd:(own++caps).Nodup):Gd (HX X (own++caps) sc Ca s₀ H₀ ex) ⟨own++caps,sN C.nm sc.names,.own (KR sc.names)⟩ where
 N:=rfl
 nm:=by
  show (sc.names.map λ(n,k)=>if (k==NameKind.free&&X.env.scope.kind==.function&&X.env.kindOf n==some .cell) then (n,NameKind.cell) else (n,k))=sN C.nm sc.names;unfold sN;rw[hk];show (sc.names.map λ(n,k)=>if (k==NameKind.free&&true&&X.env.scope.names.lookup n==some NameKind.cell) then (n,NameKind.cell) else (n,k))=_;rw[G.nm];simp only [Bool.and_true]
 nd:=hnd
 calm:=λ_=>G.calm hcm
 bl:=G.bl
 top:=λz=>nomatch z
 hu:=G.hu
 fb:=λh=>nomatch h
 ow:=λx hx=>by
  obtain ⟨y,hy,rfl⟩:=mem_map.mp (show x∈KR sc.names from hx);exact (mem_filter.mp hy).2
theorem Cw {X:Cx} (h:X.xe=λ_ _=>False):tU X E0:=⟨λ_ _ _ _ _ _ _ z=>(tY.no z).elim,λ_ _ _ _ _ _ _ _ _ _ _ _ _ _ _ _ _ _ _ z=>z.elim,by rw[h];exact PassesOwn.never⟩
structure Ju (K:Fg) where
 t:XS->TE
 m:Sc->Expr->Bool
 q:Rt->Prop
 sok:∀(C:Sc) (e:Expr),m C e=true->gY e=some .cp/\xF e=true
 ok:∀(X:Cx) (C:Sc) (E:XS) (e:Expr),X.K=K->Gd X C->tU X E->q (dX X)->m C e=true->PE X e (t E)
 okS:∀(X:Cx) (C:Sc) (E:XS) (i:Nat) (x:Str) (p' pos:Pos) (e:Expr),X.K=K->Gd X C->tU X E->q (dX X)->m C e=true->QG C i x=true->PS X (.Assign [.Name x p'] e pos) (λD σ H=>t E σ H λv H1=>D.nx (σ.set i (some v)) H1)
noncomputable def cT (c:Option (EX K)):TT:=match c with
 |none=>λ_ H Q=>Q true H
 |some c=>c.tt E0
noncomputable def mC (c:Option (EX K)) (C:Sc) (ifs:List Expr):Bool:=match c,ifs with
 |none,[]=>true
 |some c,[e]=>c.m C e
 |_,_=>false
noncomputable def qC (c:Option (EX K)) (R:Rt):Prop:=match c with
 |none=>True
 |some c=>c.q R
theorem JD {X:Cx} {C:Sc} (G:Gd X C) (hE:tU X E0):∀(c:Option (EX X.K)) (ifs:List Expr),qC c (dX X)->mC c C ifs=true->tW X ifs (cT c)
 |none,[],_,_=>.nil
 |none,_::_,_,hm=>nomatch hm
 |some _,[],_,hm=>nomatch hm
 |some c,[e],hq,hm=>.one (c.okT X C E0 e rfl G hE hq hm)
 |some _,_::_::_,_,hm=>nomatch hm
noncomputable def Cj (c:Option (EX K)) (elt:EX K) (tg:TX K) (it:IX K) (own caps:List Str) (is:List Nat) (C:Sc) (e:Expr):Bool:=match e with
 | .ListComp l [⟨x,y,ifs,asy⟩] sc _=>((C.cm&&decide (asy=0))&&it.tm x)&&(WL C sc own caps is&&(it.m C y&&(tg.m ⟨own++caps,sN C.nm sc.names,.own (KR sc.names)⟩ x&&(mC c ⟨own++caps,sN C.nm sc.names,.own (KR sc.names)⟩ ifs&&elt.m ⟨own++caps,sN C.nm sc.names,.own (KR sc.names)⟩ l))))
 |_=>false
theorem NS {X:Cx} {C:Sc} {E:XS} {e:Expr} {c:Option (EX X.K)} {elt:EX X.K} {tg:TX X.K} {it:IX X.K} {own caps:List Str} {is:List Nat} (G:Gd X C) (hE:tU X E) (hq:it.q (dX X)/\elt.q (dX X)/\qC c (dX X)) (hm:Cj c elt tg it own caps is C e=true):
  ∃l x y ifs sc p,e=.ListComp l [⟨x,y,ifs,0⟩] sc p/\∀(use:Option (Value->Sem Unit)) (p2:Pos) (pins:List (Addr × Obj)) (s:Shared) (σ:St) (H:Hp) (Q:VK) (QQ:Value->Shared->Prop),Inv X pins σ H s->oO (it.t E) tg.g (cT c) (elt.t E0) own.length is σ H Q->
   (∀(D C:Addr) (H':Hp) (s':Shared) (m:Str->Option Value),Inv X pins σ H' s'->s'.heap.Ns C m->H' C=none->X.s₀.heap.objs.size<=C->X.env.locals≠C->(∀x c,X.env.cells.lookup x=some c->c≠C)->(∀p∈X.pn++pins,p.1≠C)->Q (.ref D) H'->
    compPost (model X.prog X.w) X.A X.xe use QQ (.ref D) C (.ok .next) s')->
   wpAny (model X.prog X.w) X.A (comprehension (.ListComp l [⟨x,y,ifs,0⟩] sc p) sc X.env p2 (newList []) false (eval y X.env) use) QQ X.xe s:=by
 unfold Cj at hm;cases e with
 |ListComp l gs sc p=>
  match gs,hm with
  |[⟨x,y,ifs,asy⟩],hm=>
   simp only [and_eq_true] at hm;obtain ⟨⟨⟨hcm,h1⟩,h0⟩,h2,h3,h4,h6,h5⟩:=hm;have e1:=of_decide_eq_true h1;subst e1;unfold WL at h2;simp only [and_eq_true] at h2;obtain ⟨⟨k1,k2⟩,k3,k4,k5,k6⟩:=h2;have k4':(sc.names.all λy=>y.2 != .free || X.env.kindOf y.1==some .cell)=true:=by
    show (sc.names.all λy=>y.2 != .free || X.env.scope.names.lookup y.1==some .cell)=true;rw[G.nm];exact k4
   refine ⟨l,x,y,ifs,sc,p,rfl,λuse p2 pins s σ H Q QQ I h fin=>?_⟩;have hg:=λCa s₀ H₀ ex=>Bm (own:=own) (caps:=caps) (sc:=sc) (Ca:=Ca) (s₀:=s₀) (H₀:=H₀) (ex:=ex) G hcm I.ok.kind (of_decide_eq_true k2);refine HM (own:=own) (caps:=caps) (is:=is) use (G.calm hcm) (it.ok X C E x y rfl G hE hq.1 h0 h3) (λCa s₀ H₀ ex=>tg.ok _ _ x rfl (hg Ca s₀ H₀ ex) h4)
    (λCa s₀ H₀ ex=>JD (X:=HX X (own++caps) sc Ca s₀ H₀ ex) (hg Ca s₀ H₀ ex) (Cw rfl) c ifs hq.2.2 h6) (λCa s₀ H₀ ex=>elt.ok _ _ E0 l rfl (hg Ca s₀ H₀ ex) (Cw rfl) hq.2.1 h5) (EO G caps is k6) (of_decide_eq_true k1)
    (λz hz=>?_) k4' (UN I.ok k4') (λz hz hl=>?_) (λv=>it.fs C y X.env v h3) I h fin
   ·have:=all_eq_true.mp k3 z hz;simp only [or_eq_true] at this;intro hl;rcases this with q|q
    ·rw[hl] at q;cases q
    ·exact eq_of_beq q
   ·have:=all_eq_true.mp k5 z hz;simp only [or_eq_true] at this;rcases this with q|q
    ·rw[hl] at q;cases q
    ·exact eq_of_beq q
 |_=>exact ff hm
theorem WK {X:Cx} {C:Sc} {E:XS} {e:Expr} {c:Option (EX X.K)} {elt:EX X.K} {tg:TX X.K} {it:IX X.K} {own caps:List Str} {is:List Nat} (G:Gd X C) (hE:tU X E) (hq:it.q (dX X)/\elt.q (dX X)/\qC c (dX X)) (hm:Cj c elt tg it own caps is C e=true):
  PE X e (oO (it.t E) tg.g (cT c) (elt.t E0) own.length is):=by
 obtain ⟨l,x,y,ifs,sc,p,rfl,R⟩:=NS G hE hq hm;intro pins s σ H Q I h;rw[eval_ListComp];refine R none _ pins s σ H Q _ I h λD C H' s' m I' hn hC h1 h2 h3 h4 q=>?_;exact ⟨m,hn,λh' hs'=>⟨.ref D,H',Inv.but I' hs' h1 h2 h3 h4 hC,rfl,q⟩⟩
theorem Ih {X:Cx} {C:Sc} {E:XS} {e:Expr} {i:Nat} {nm:Str} {p' pos:Pos} {c:Option (EX X.K)} {elt:EX X.K} {tg:TX X.K} {it:IX X.K} {own caps:List Str} {is:List Nat} (G:Gd X C) (hE:tU X E) (hq:it.q (dX X)/\elt.q (dX X)/\qC c (dX X)) (hm:Cj c elt tg it own caps is C e=true) (hst:QG C i nm=true):
  PS X (.Assign [.Name nm p'] e pos) (λD σ H=>oO (it.t E) tg.g (cT c) (elt.t E0) own.length is σ H λv H1=>D.nx (σ.set i (some v)) H1):=by
 have P:=WK G hE hq hm;obtain ⟨g1,g2,g3⟩:=uJ G hst;have nd:X.N.Nodup:=by rw[G.N];exact G.nd
 obtain ⟨l,x,y,ifs,sc,p,rfl,R⟩:=NS G hE hq hm;obtain ⟨b,hb⟩:∃b:Bool,swapsWith (.ListComp l [⟨x,y,ifs,0⟩] sc p) (some (.Name nm p')) pos.line X.env=pure b:=⟨_,rfl⟩;cases b with
 |false=>exact KC nd g1 g2 P hb g3
 |true=>
  intro pins s σ H D I h;rw[exec_Assign_Name_used _ _ _ _ hb];refine wpAny_bind (wpAny_standAt (wpAny_bind ?_));show wpAny _ _ (do let _ <-comprehension (.ListComp l [⟨x,y,ifs,0⟩] sc p) sc X.env _ (newList []) false (eval y X.env) (some (assign (.Name nm p') X.env))) _ _ s;refine wpAny_bind (wpAny_mono (R (some (assign (.Name nm p') X.env)) _ pins s σ H _ (λ_ s'=>SP X pins D .next s') I h λA C H' s' m I' hn hC h1 h2 h3 h4 q=>?_) (λ_ s' hq=>wpAny_pure (wpAny_pure hq)) λ_ _ z=>z);show wpAny _ _ (assign (.Name nm p') X.env (.ref A)) _ _ s';refine wpAny_assign_Name (sI I' nd g1 g2 (v:=.ref A) rfl (λs'' I'' ⟨a,sb,ha⟩=>?_) g3);have hne:C≠a:=by
   rcases ha with ha|ha
   ·rw[ha];exact h2.symm
   ·exact (h3 _ _ ha).symm
  exact ⟨m,hn.sameBut sb hne,λh' hs'=>⟨_,H',Inv.but I'' hs' h1 h2 h3 h4 hC,q⟩⟩
noncomputable def EK (c:Option (EX K)) (elt:EX K) (tg:TX K) (it:IX K) (own caps:List Str) (is:List Nat):Ju K where
 t:=λE=>oO (it.t E) tg.g (cT c) (elt.t E0) own.length is
 m:=Cj c elt tg it own caps is
 q:=λR=>it.q R/\elt.q R/\qC c R
 sok:=λC e hm=>by
  unfold Cj at hm;cases e with
  |ListComp l gs sc p=>exact ⟨rfl,rfl⟩
  |_=>exact ff hm
 ok:=λX C E e hK G hE hq hm=>by subst hK;exact WK G hE hq hm
 okS:=λX C E i x p' pos e hK G hE hq hm hst=>by subst hK;exact Ih G hE hq hm hst
noncomputable def Nm (c:Ju K):EX K:=SJ c.t c.m c.q .cp c.ok (λC e hm=>(c.sok C e hm).1) (λC e hm=>(c.sok C e hm).2)
noncomputable def setC (i:Nat) (c:Ju K):SX K where
 t:=λE D σ H=>c.t E σ H λv H1=>D.nx (σ.set i (some v)) H1
 m:=λC s=>match s with
  | .Assign [.Name x _] e _=>QG C i x&&c.m C e
  |_=>false
 q:=c.q
 ok:=λX C E s hK G hE hq hm=>by
  split at hm
  ·rename_i x px e p;simp only [and_eq_true] at hm;exact c.okS X C E i x _ p e hK G hE hq hm.2 hm.1
  ·cases hm
noncomputable def comp (elt:EX K) (tg:TX K) (it:IX K) (own caps:List Str) (is:List Nat):EX K:=Nm (EK none elt tg it own caps is)
noncomputable def Cd (P:Program) (w:World) (K:Fg) (mg:Str->Option Value) (base:Heap) (k:Nat) (x:Str) (sp:Sp):Prop:=
 ∃(f:Addr) (fd:FuncData) (ps:List Str),sC P w K mg base (tY P w) k f fd ps sp/\Binds K fd ps []/\PySem.W.keepIn K (.ref f)=true/\mg x=some (.ref f)
theorem Cd.at {P:Program} {w:World} {mg:Str->Option Value} {base:Heap} {j k:Nat} {x:Str} {sp:Sp} {A:Around} (D:Cd P w K mg base j x sp) (hr:cG k A) (h:j<=k):FnAt ⟨P,w,K,mg,base,A⟩ x sp:=by
 obtain ⟨f,fd,ps,F,hb,kp,hg⟩:=D;exact ⟨j,f,fd,ps,hr.mono h,F,hb,kp,hg⟩
theorem CH {P:Program} {w:World} {mg:Str->Option Value} {base:Heap} {x qual:Str} {st:Stmt} {f:Addr} {fd:FuncData} {N ps:List Str} {k:Nat} {sp:Sp} (F:Cs K x qual st f fd) (b:List (SX K)) (S:eC N ps (aM st))
  (hm:DS b ⟨N,(aM st).names,true⟩ (aZ st)=true) (bl:∀x∈nI,mg x=none) (hq:∀A,cG k A->IB b ⟨P,w,K,mg,base,A⟩) (len:∀vs H Q E,sp vs H Q E->vs.length=ps.length)
  (h:∀vs H Q E,sp vs H Q E->lJ b (λ_=>E) {nx:=λ_ H'=>Q .non H',rt:=Q} (start N vs) H):sC P w K mg base (tY P w) (k+1) f fd ps sp:=by
 obtain ⟨oc,od,kV,doc,pm,an,cdv,ct,osl,rfl,lk,hcd⟩:=F.ex;refine Hw lk hcd S len λA outer s H vs Q E hr hsp=>?_;have G:Gd (rY (tY P w) P w K mg base N qual (aM st) f cdv A outer s H E) ⟨N,(aM st).names,true⟩:=⟨rfl,rfl,S.nd,λ_=>rfl,bl,hr.units,λ_ _=>rfl,λ_=>⟨rfl,rfl⟩,λ_ h=>nomatch h⟩;have T:tU (rY (tY P w) P w K mg base N qual (aM st) f cdv A outer s H E) (λ_=>E):=⟨λpins σ H1 s1 ev s' I z=>KN pins σ H1 s1 ev s' I z,λ_ _ _ _ _ _ e _ _ I o1 b1 u1 k1 n1 en eo dt v1 z=>LS (I.call' o1 u1 k1 b1 λb y=>absurd y (by simp)) eo dt v1 en (λb o q y=>by obtain ⟨v,hv⟩:=I.base.there b o q (λy=>nomatch y);rw[y,n1] at hv;cases hv) z,PassesOwn.leaving⟩;exact ⟨_,sJ G T b (aZ st) (hq _ hr) hm,h vs H Q E hsp⟩
end
noncomputable abbrev ls (z:Str):List Nat:=z.cps.toList
noncomputable def aH (l:List Nat):Str:=⟨l.toArray⟩
theorem aO (l:List Nat):ls (aH l)=l:=by simp [ls,aH]
theorem aP (z:Str):(ls z).length=z.length:=by show z.cps.toList.length=z.cps.size;simp
theorem eP (l:List Nat):(aH l).length=l.length:=by rw[<-aP,aO]
theorem cN {a b:Str} (h:ls a=ls b):a=b:=by
 cases a;cases b;simp only [ls] at h
 congr 1
 exact Array.toList_inj.mp h
theorem VU (z:Str):aH (ls z)=z:=cN (aO _)
theorem lY (a b:Str):ls (a++b)=ls a++ls b:=by
 show (a.cps++b.cps).toList=a.cps.toList++b.cps.toList;simp
theorem len_app (a b:Str):(a++b).length=a.length+b.length:=by rw[<-aP,lY,length_append,aP,aP]
theorem qJ (g:Array Nat):∀(r:List Str) (acc:Array Nat),(r.foldl (λacc p=>acc++g++p.cps) acc).toList=acc.toList++(r.map λp=>g.toList++p.cps.toList).flatten
 |[],acc=>by simp
 |p::r,acc=>by
  rw[foldl_cons,qJ g r];simp [List.append_assoc]
theorem pP (ys:List Str):ls (Txt.join (Str.ofString "") ys)=(ys.map ls).flatten:=by
 have e:(Str.ofString "").cps=#[]:=by decide+kernel
 cases ys with
 |nil=>decide+kernel
 |cons y r=>
  show ((r.foldl (λacc p=>acc++(Str.ofString "").cps++p.cps) y.cps)).toList=_;rw[e,qJ];simp
theorem fK (x:Str) (c lim:Nat):∀(l:List Nat) (st:Array Nat × Nat),(∀i∈l,st.snd<=i)->l.Pairwise (·<·)->st.fst.size+l.length<=lim->
  (forIn l st (StrLaws.occBody x ⟨#[c]⟩ x.length lim)).run.fst.size=st.fst.size+(l.filter λi=>decide (x.cps.toList[i]?=some c)).length
 |[],st,_,_,_=>by simp
 |a::l,st,hf,hp,hl=>by
  rw[forIn_cons];have ha:st.snd<=a:=hf a mem_cons_self;rw[length_cons] at hl;have hp':=pairwise_cons.mp hp;unfold StrLaws.occBody;by_cases hc:x.cps.toList[a]?=some c
  ·have h1:=(StrLaws.subAt_one x c a).mpr hc;rw[if_pos ⟨⟨⟨by lia,ha⟩,h1.1⟩,h1.2⟩];have ih:=fK x c lim l (st.fst.push a,a+(⟨#[c]⟩:Str).length) (λi hi=>by
    have:=hp'.1 i hi
    show a+1<=i
    lia) hp'.2 (by rw[Array.size_push];lia)
   show (forIn l (st.fst.push a,a+(⟨#[c]⟩:Str).length) (StrLaws.occBody x ⟨#[c]⟩ x.length lim)).run.fst.size=_;rw[ih,filter_cons,if_pos (decide_eq_true hc),length_cons,Array.size_push];lia
  ·rw[if_neg (λh=>hc ((StrLaws.subAt_one x c a).mp ⟨h.1.2,h.2⟩))];have ih:=fK x c lim l (st.fst,st.snd) (λi hi=>hf i (mem_cons_of_mem _ hi)) hp'.2 (by show st.fst.size+l.length<=lim;lia);show (forIn l (st.fst,st.snd) (StrLaws.occBody x ⟨#[c]⟩ x.length lim)).run.fst.size=_;rw[ih,filter_cons,if_neg (by rw[decide_eq_false hc];exact Bool.false_ne_true)]
theorem tD (c:Nat):∀(l:List Nat) (k:Nat),((range' k (l.length+1)).filter λi=>decide (l[i - k]?=some c)).length=l.count c
 |[],k=>by simp [range']
 |a::l,k=>by
  have e:range' k ((a::l).length+1)=k::range' (k+1) (l.length+1):=by rw[length_cons,List.range'_succ]
  rw[e,filter_cons];have ih:=tD c l (k+1);have e2:((range' (k+1) (l.length+1)).filter λi=>decide ((a::l)[i - k]?=some c))=((range' (k+1) (l.length+1)).filter λi=>decide (l[i - (k+1)]?=some c)):=by
   refine List.filter_congr λi hi=>?_;have hi':=List.mem_range'_1.mp hi;have:i - k=(i - (k+1))+1:=by lia
   rw[this,List.getElem?_cons_succ]
  have e3:(a::l)[k - k]?=some a:=by rw[sub_self];rfl
  rw[e2,e3,List.count_cons];by_cases hc:a=c
  ·subst hc;rw[if_pos (decide_eq_true rfl),length_cons,ih];simp
  ·rw[if_neg (by simp [hc]),ih];simp [hc]
theorem HK (x:Str) (c:Nat):Txt.count x ⟨#[c]⟩=((ls x).count c:Int):=by
 unfold Txt.count;rw[StrLaws.occ_eq,length_toList,Nat.sub_zero];rw[fK x c (x.length+1) _ _ (λi hi=>zero_le _) List.pairwise_lt_range' (by simp)];have h:=tD c (ls x) 0;rw[aP] at h;simp only [Nat.sub_zero] at h;simp only [size_toArray,length_nil,zero_add];rw[<-h]
noncomputable def eX (m:Nat) (z:Str):Prop:=∀c∈ls z,97<=c/\c<97+m
theorem eX.app {m:Nat} {a b:Str} (ha:eX m a) (hb:eX m b):eX m (a++b):=λc hc=>by
 rw[lY] at hc;rcases mem_append.mp hc with h|h
 ·exact ha c h
 ·exact hb c h
theorem eX.sgn {m c:Nat} (h:97<=c) (l:c<97+m):eX m ⟨#[c]⟩:=λd hd=>by
 have:d=c:=by simpa [ls] using hd
 subst this;exact ⟨h,l⟩
theorem eX.nil {m:Nat}:eX m (Str.ofString ""):=λc hc=>by
 have e:ls (Str.ofString "")=[]:=by decide+kernel
 rw[e] at hc;cases hc
theorem eX.of_ls {m:Nat} {z y:Str} (h:eX m z) (e:∀c∈ls y,c∈ls z):eX m y:=λc hc=>h c (e c hc)
noncomputable def wd (ws:List Str) (c:Nat):List Nat:=ls (ws[c - 97]?.getD ⟨#[]⟩)
noncomputable def img (ws:List Str) (z:Str):Str:=aH ((ls z).flatMap (wd ws))
theorem jQ (ws:List Str) (z:Str):ls (img ws z)=(ls z).flatMap (wd ws):=aO _
theorem DX {ws:List Str} {z:Str} {m:Nat} (hw:∀w∈ws,eX m w):eX m (img ws z):=λc hc=>by
 rw[jQ] at hc;obtain ⟨d,_,h2⟩:=mem_flatMap.mp hc;unfold wd at h2;cases e:ws[d - 97]? with
 |none=>rw[e] at h2;simp [ls] at h2
 |some w=>rw[e] at h2;exact hw w (mem_of_getElem? e) c h2
theorem uI {l:List Nat} {B:Nat} (h:∀x∈l,x<=B):l.sum<=l.length * B:=by
 induction l with
 |nil=>simp
 |cons a l ih=>
  have h1:=h a mem_cons_self;have h2:=ih λx hx=>h x (mem_cons_of_mem _ hx);rw[sum_cons,length_cons,Nat.add_mul,Nat.one_mul];lia
theorem BW {ws:List Str} {z:Str} {B:Nat} (h:∀w∈ws,w.length<=B):(img ws z).length<=z.length * B:=by
 rw[<-aP,jQ,List.length_flatMap,<-aP z];refine le_trans (uI (B:=B) λx hx=>?_) (by rw[length_map];exact Nat.le_refl _);obtain ⟨c,hc,rfl⟩:=mem_map.mp hx;unfold wd;cases e:ws[c - 97]? with
 |none=>simp [ls]
 |some w=>rw[show (some w).getD ⟨#[]⟩=w from rfl,aP];exact h w (mem_of_getElem? e)
section
variable {K:Fg}
theorem LO {X:Cx} {id:String} {r:Str->List V->Hp->VK->Prop} {r':V->List V->Hp->VK->Prop} (h:By X id r') (f:∀z ys H Q,r z ys H Q->r' (.str z) ys H Q):Bx X id (rS r):=by
 intro pins s σ H x xs v us Q I rx rs q;cases x with
 |str z=>exact h pins s σ H _ xs v us Q I rx rs (f z xs H Q q)
 |_=>exact q.elim
noncomputable def uW (K:Fg):Str->List V->Hp->VK->Prop
 |z,[.ref p],H,Q=>∃ys:List Str,(H p=some (.lst (ys.map V.str))\/cZ K H p (ys.map V.str))/\(ys.map (·.length)).sum+ys.length * z.length<=16777216/\Q (.str (Txt.join z ys)) H
 |_,_,_,_=>False
noncomputable def vH (o a:EX K) (ho:o.s≠.zc:=by intro z;cases z):EX K:=yT "join" "str.join" (uW K) PySem.F.slot_str_join PySem.F.type_str_join (λX hK _ _=>by
 subst hK
 intro pins s σ H x xs v us Q I rx rs q
 cases x with
 |str z=>
  have q':uW X.K z xs H Q:=q
  unfold uW at q'
  split at q'
  ·obtain ⟨ys,h1|h1,h2,h3⟩:=q'
   ·exact SH pins s σ H _ _ v us Q I rx rs ⟨_,_,ys,rfl,rfl,h1,h2,h3⟩
   ·exact LK pins s σ H _ _ v us Q I rx rs ⟨_,_,ys,rfl,rfl,h1,h2,h3⟩
  ·exact q'.elim
 |_=>exact q.elim) o ho [a]
noncomputable def nV:Str->List V->Hp->VK->Prop
 |z,[.str y],H,Q=>Q (.int (Txt.count z y)) H
 |_,_,_,_=>False
noncomputable def DR (o a:EX K) (ho:o.s≠.zc:=by intro z;cases z):EX K:=yT "count" "str.count" nV PySem.F.slot_str_count PySem.F.type_str_count (λX hK _ _=>LO LN (λz ys H Q h=>by
 unfold nV at h
 split at h
 ·exact ⟨_,_,rfl,rfl,h⟩
 ·exact h.elim)) o ho [a]
noncomputable def nS:Str->List V->Hp->VK->Prop
 |z,[.str y],H,Q=>∃(i:Nat) (rest:List Nat),Builtin.Str.occurrences z y 0 z.length 1=i::rest/\Q (.int i) H
 |_,_,_,_=>False
noncomputable def vI (o a:EX K) (ho:o.s≠.zc:=by intro z;cases z):EX K:=yT "index" "str.index" nS PySem.F.slot_str_index PySem.F.type_str_index (λX hK _ _=>LO LL (λz ys H Q h=>by
 unfold nS at h
 split at h
 ·obtain ⟨i,rest,h1,h2⟩:=h
  exact ⟨_,_,i,rest,rfl,rfl,h1,h2⟩
 ·exact h.elim)) o ho [a]
noncomputable def gF (o a:EX K) (ho:o.s≠.zc:=by intro z;cases z):EX K:=Fh "append" "list.append" nW PySem.F.slot_list_append PySem.F.type_list_append (λX hK _ _=>sR) o ho [a]
noncomputable def UK (a b:EX K):EX K:=SJ (λE=>Md K (fY [a,b] E))
 (λC e=>match e with
  | .Call (.Name y _) [.Call (.Name z _) es [] _] [] _=>(C.cm&&rD C "dict" y)&&(rD C "zip" z&&jX [a,b] C es)
  |_=>false) (λR=>sQ [a,b] R) .pl
 (λX C E e hK G hE hq hm=>by
  subst hK
  split at hm
  ·rename_i y py z pz es p2 p
   ·simp only [and_eq_true] at hm
    obtain ⟨⟨hcm,h1⟩,h2,h3⟩:=hm
    have e:=cC h1
    have e2:=cC h2
    subst e e2
    match es,h3 with
    |[],h3=>exact nomatch h3
    |[x],h3=>exact nomatch (aG h3).2
    |x::y::z::r,h3=>exact nomatch (aG (aG h3).2).2
    |[x,y],h3=>
     have s1:=aX (env:=X.env) (es:=[y]) (a.sok C x (aG h3).1)
     have s2:=aX (env:=X.env) (es:=[]) (b.sok C y (aG (aG h3).2).1)
     exact BD (G.calm hcm) (cB G h1).1 (G.bl _ (by decide+kernel)) (cB G h2).1 (G.bl _ (by decide+kernel)) (dR G hE [a,b] [x,y] hq h3)
      s1 (bH [b] [y] (aG h3).2)
  ·cases hm)
 (λC e hm=>by
  split at hm
  ·rfl
  ·cases hm)
 (λC e hm=>by cases e with|Call f es ks p=>rfl|_=>exact ff hm)
section
variable {E:XS} {σ:St} {H:Hp} {Q:VK} {D:Ends} {QB:Bool->Hp->Prop} {QL:List V->Hp->Prop} {v:V} {i j:Int} {n:Nat} {a b c:EX K} {as:List (EX K)} {ss:List (SX K)} {s:SX K} {op:Operator} {co:CmpOp} {x:Str} {sp:Sp}
theorem MM {tg:TX K} (h:a.t E σ H λx H1=>tg.g x σ H1 D.nx):(XO tg a).t E D σ H:=h
theorem mU (h:s.t E {D with nx:=lJ ss E D} σ H):lJ (s::ss) E D σ H:=h
theorem Gs (h:D.nx σ H):lJ ([]:List (SX K)) E D σ H:=h
theorem sW (h:a.t E σ H λx H1=>D.nx (σ.set n (some x)) H1):(set n a).t E D σ H:=h
theorem Gk (h:a.t E σ H D.rt):(ret a).t E D σ H:=h
theorem Lh (h:a.t E σ H λ_ H1=>D.nx σ H1):(ex a).t E D σ H:=h
theorem Le {t f:List (SX K)} (h:c.tt E σ H λb H1=>br b (lJ t E D σ H1) (lJ f E D σ H1)):(rW c t f).t E D σ H:=h
theorem zG (e:σ[n]?=some (some v)) (h:Q v H):(var n:EX K).t E σ H Q:=by
 show tV n σ H Q;unfold tV;rw[e];exact h
theorem zJ (h:Q v H):(cst v:EX K).t E σ H Q:=h
theorem Ha (h:Q v H):(As x v:EX K).t E σ H Q:=h
theorem WE (h:a.t E σ H λx H1=>b.t E σ H1 λy H2=>lT K op x y H2 Q):(bin op a b).t E σ H Q:=h
theorem EA (h:Q (.int (i+j)) H):lT K .Add (.int i) (.int j) H Q:=h
theorem VZ (h:Q (.int (i - j)) H):lT K .Sub (.int i) (.int j) H Q:=h
theorem Gu (c:Ce i j) (h:Q (.int (i * j)) H):lT K .Mult (.int i) (.int j) H Q:=⟨c.ok,h⟩
theorem Ag (c:IntMulOk i j) (h:Q (.int (i * j)) H):lT K .Mult (.int i) (.int j) H Q:=⟨c,h⟩
theorem Hg (c:Lz i j) (h:Q (.int (i / j)) H):lT K .FloorDiv (.int i) (.int j) H Q:=⟨⟨c.1,by have:=c.2;lia⟩,h⟩
theorem WA (c:0<j) (h:Q (.int (i % j)) H):lT K .Mod (.int i) (.int j) H Q:=⟨c,h⟩
theorem Gq (c:VB i j) (h:Q (.int (i ^ j.toNat)) H):lT K .Pow (.int i) (.int j) H Q:=⟨L2.L3.VB.pw c,h⟩
theorem wA {y z:Str} (c:y.length+z.length<=sizeLine) (h:Q (.str (y++z)) H):lT K .Add (.str y) (.str z) H Q:=⟨c,h⟩
theorem Hi (h:a.t E σ H λx H1=>b.t E σ H1 λy H2=>gE K co x y H2 Q):(cmp co a b).t E σ H Q:=h
theorem Fv (h:a.t E σ H λx H1=>b.t E σ H1 λy H2=>rB (gE K co) x y H2 QB):(cmp co a b).tt E σ H QB:=h
theorem Lf (h:Q (.bl (decide (j<i))) H):gE K .Gt (.int i) (.int j) H Q:=h
theorem Lg (h:Q (.bl (decide (j<=i))) H):gE K .GtE (.int i) (.int j) H Q:=h
theorem dI:decide (V.int i=V.int j)=decide (i=j):=decide_eq_decide.mpr ⟨λz=>V.int.inj z,λz=>by rw[z]⟩
theorem dS {y z:Str}:decide (V.str y=V.str z)=decide (y=z):=decide_eq_decide.mpr ⟨λe=>V.str.inj e,λe=>by rw[e]⟩
theorem He {y z:Str} (h:Q (.bl (decide (y=z))) H):gE K .Eq (.str y) (.str z) H Q:=.inl ⟨rfl,by rw[dS];exact h⟩
theorem Gz (h:Q (.bl (decide (v=.non))) H):gE K .Is v .non H Q:=h
theorem ME (h:QB (decide (v=.non)) H):rB (gE K .Is) v .non H QB:=h
theorem BR (h:QB (!decide (v=.non)) H):rB (gE K .IsNot) v .non H QB:=h
theorem Kx (h:QB (decide (i<j)) H):rB (gE K .Lt) (.int i) (.int j) H QB:=h
theorem Ky (h:QB (decide (i<=j)) H):rB (gE K .LtE) (.int i) (.int j) H QB:=h
theorem Kz (h:QB (decide (j<i)) H):rB (gE K .Gt) (.int i) (.int j) H QB:=h
theorem La (h:QB (decide (i=j)) H):rB (gE K .Eq) (.int i) (.int j) H QB:=.inl ⟨rfl,by show QB _ H;rw[dI];exact h⟩
theorem Kw (h:QB (!decide (i=j)) H):rB (gE K .NotEq) (.int i) (.int j) H QB:=.inl ⟨rfl,by show QB _ H;rw[dI];exact h⟩
theorem Ft {y z:Str} (h:QB (!decide (y=z)) H):rB (gE K .NotEq) (.str y) (.str z) H QB:=.inl ⟨rfl,by show QB _ H;rw[dS];exact h⟩
theorem VY (e:a.tt E=XC K (a.t E)) (h:a.t E σ H λx H1=>rN K x H1 QB):a.tt E σ H QB:=by rw[e];exact h
theorem Fs (h:a.tt E σ H λb H1=>QB (!b) H1):(yO a).tt E σ H QB:=h
theorem Gr (h:a.t E σ H λx H1=>rN K x H1 λb H2=>Q (.bl (!b)) H2):(yO a).t E σ H Q:=h
theorem MK {k:Bool} (h:QB k H):rN K (.bl k) H QB:=h
theorem Hj (h:a.t E σ H λx H1=>rN K x H1 λk H2=>br k (xK K .And E (b.t E) as σ H2 Q) (Q x H2)):(CO a (b::as)).t E σ H Q:=h
theorem Fy (h:a.tt E σ H λk H1=>br k (oP K .And E (b.tt E) as σ H1 QB) (QB false H1)):(CO a (b::as)).tt E σ H QB:=h
theorem Kv (h:a.tt E σ H λk H1=>br k (QB true H1) (oP K .Or E (b.tt E) as σ H1 QB)):(Ko a (b::as)).tt E σ H QB:=h
theorem Ap {bo:BoolOp} {t:TE} (h:t σ H Q):xK K bo E t [] σ H Q:=h
theorem ZW {bo:BoolOp} {t:TT} (h:t σ H QB):oP K bo E t [] σ H QB:=h
theorem Ao {t:TE} (h:t σ H λx H1=>rN K x H1 λk H2=>br k (xK K .And E (b.t E) as σ H2 Q) (Q x H2)):xK K .And E t (b::as) σ H Q:=h
theorem oA (h:a.t E σ H λx H1=>fY as E σ H1 λxs H2=>QL (x::xs) H2):fY (a::as) E σ H QL:=h
theorem vZ (h:QL [] H):fY ([]:List (EX K)) E σ H QL:=h
theorem MY (h:fY as E σ H λvs H1=>sp vs H1 Q (E σ)):(call x sp as).t E σ H Q:=h
theorem WC (h:a.t E σ H λx H1=>BB K [x] H1 Q):(len a).t E σ H Q:=h
theorem fO {z:Str} (c:z.length<=sizeLine) (h:Q (.int z.length) H):BB K [.str z] H Q:=⟨c,h⟩
theorem vX {p:Addr} {xs:List V} (c:aR K H p xs) (h:Q (.int xs.length) H):BB K [.ref p] H Q:=.inl ⟨_,.inl ⟨xs,c,rfl⟩,h⟩
theorem MS {p:Addr} {xs:List V} (c:cZ K H p xs) (h:Q (.int xs.length) H):BB K [.ref p] H Q:=.inl ⟨_,.inr ⟨xs,c,rfl⟩,h⟩
theorem Gg (h:a.t E σ H λx H1=>XU [x] H1 Q):(sum a).t E σ H Q:=h
theorem Hk (h:a.t E σ H λx H1=>YC K [x] H1 Q):(Iq a).t E σ H Q:=h
theorem Gv (h:a.t E σ H λx H1=>b.t E σ H1 λy H2=>yF [x,y] H2 Q):(min2 a b).t E σ H Q:=h
theorem Ah (h:Q (.int (min i j)) H):yF [.int i,.int j] H Q:=h
theorem Gy (h:a.t E σ H λx H1=>b.t E σ H1 λy H2=>DK K [x,y] H2 Q):(Jl a b).t E σ H Q:=h
theorem TL (h:Q (.ty "int") H):(VF:EX K).t E σ H Q:=h
theorem MH (h:Q (.ty "bool") H):(IV:EX K).t E σ H Q:=h
theorem HA (h:Q (.ty "tuple") H):(CY:EX K).t E σ H Q:=h
theorem TR (h:a.t E σ H λx H1=>nQ K [x] H1 Q):(listE a).t E σ H Q:=h
theorem MI (h:a.t E σ H λx H1=>uU K [x] H1 Q):(JC a).t E σ H Q:=h
theorem Ld (h:a.t E σ H λx H1=>b.t E σ H1 λy H2=>yG K x y H2 Q):(ix a b).t E σ H Q:=h
theorem qF {z:Str} {k:Nat} (c:z.length<=sizeLine) (e:rE z.cps.toList i=some k) (h:Q (sgn k) H):yG K (.str z) (.int i) H Q:=⟨c,k,e,h⟩
theorem qG {p:Addr} {xs:List V} (c:aR K H p xs) (e:rE xs i=some v) (h:Q v H):yG K (.ref p) (.int i) H Q:=.inl ⟨p,xs,i,v,rfl,rfl,c,e,h⟩
theorem sX {p:Addr} {xs:List V} (c:cZ K H p xs) (e:rE xs i=some v) (h:Q v H):yG K (.ref p) (.int i) H Q:=.inr (.inl ⟨p,xs,i,v,rfl,rfl,c,e,h⟩)
theorem iK {p:Addr} {y:V} (c:eY H p y (some v)) (h:Q v H):yG K (.ref p) y H Q:=.inr (.inr ⟨v,c,h⟩)
theorem Gh {lo hi:Option (EX K)} (h:a.t E σ H λx H1=>tO E lo σ H1 λl H2=>tO E hi σ H2 λu H3=>FR K x l u H3 Q):(xA a lo hi).t E σ H Q:=h
theorem Lc {QO:Option Int->Hp->Prop} (h:QO none H):tO E (none:Option (EX K)) σ H QO:=h
theorem Lb {QO:Option Int->Hp->Prop} (h:a.t E σ H (rO QO)):tO E (some a) σ H QO:=h
theorem Gm {QO:Option Int->Hp->Prop} (h:QO (some i) H):rO QO (.int i) H:=h
theorem dQ {z:Str} {lo hi:Option Int} (c:z.length<=sizeLine) (h:Q (.str (Txt.slice z lo hi)) H):FR K (.str z) lo hi H Q:=⟨c,h⟩
theorem Gi {p:Addr} {xs:List V} {lo hi:Option Int} (c:aR K H p xs) (h:∀q,H q=none->Q (.ref q) (upd H q (.lst (wH xs lo hi)))):FR K (.ref p) lo hi H Q:=.inl ⟨p,xs,rfl,c,h⟩
theorem MQ (h:fY as E σ H λxs H1=>xs.length<=sizeLine/\∀p,H1 p=none->Q (.ref p) (upd H1 p (.lst xs))):(lst as).t E σ H Q:=h
theorem MJ (h:fY as E σ H λxs H1=>xs.length<=sizeLine/\∀p,H1 p=none->Q (.ref p) (upd H1 p (.tup xs))):(tup as).t E σ H Q:=h
theorem Ai {ho:a.s≠.zc} (h:a.t E σ H λx H1=>RS (uW K) (fY [b] E) x σ H1 Q):(vH a b ho).t E σ H Q:=h
theorem UB {ho:a.s≠.zc} (h:a.t E σ H λx H1=>RS nV (fY [b] E) x σ H1 Q):(DR a b ho).t E σ H Q:=h
theorem TV {ho:a.s≠.zc} (h:a.t E σ H λx H1=>RS nS (fY [b] E) x σ H1 Q):(vI a b ho).t E σ H Q:=h
theorem MZ {ho:a.s≠.zc} (h:a.t E σ H λx H1=>RL K nW (fY [b] E) x σ H1 Q):(gF a b ho).t E σ H Q:=h
theorem Lj {r:Str->List V->Hp->VK->Prop} {t:TA} {z:Str} (h:t σ H λys H2=>r z ys H2 Q):RS r t (.str z) σ H Q:=h
theorem HB {r:V->List V->Hp->VK->Prop} {t:TA} {p:Addr} {xs:List V} (c:aR K H p xs) (h:t σ H λys H2=>r (.ref p) ys H2 Q):RL K r t (.ref p) σ H Q:=⟨⟨xs,c⟩,h⟩
theorem MW {z:Str} {k:Nat} (h:Q (.int (((ls z).count k:Nat):Int)) H):nV z [sgn k] H Q:=by
 show Q (.int (Txt.count z ⟨#[k]⟩)) H;rw[HK];exact h
theorem zI {z y:Str} {k:Nat} {r:List Nat} (e:Builtin.Str.occurrences z y 0 z.length 1=k::r) (h:Q (.int k) H):nS z [.str y] H Q:=⟨k,r,e,h⟩
theorem eE {p:Addr} {xs:List V} {y:V} (e:H p=some (.lst xs)) (c:xs.length<sizeLine) (h:Q .non (upd H p (.lst (xs++[y])))):nW (.ref p) [y] H Q:=⟨p,xs,y,rfl,rfl,e,c,h⟩
noncomputable def mY (J:It) (g:TG) (tb:TS) (D:Ends) (σ:St) (H:Hp):Prop:=∃W:Nat->Nat->St->Hp->Prop,(∃m,W 0 m σ H)/\∀i m σ H,W i m σ H->
 (J.stop i H/\D.nx σ H)\/(J.go i H/\∃N:St->Hp->Prop,(∀σ' H',N σ' H'->∃m',m'<m/\W (i+1) m' σ' H')/\∀x H',J.yld i H x H'->g x σ H' λσ2 H2=>tb {D with nx:=N,ct:=N,bk:=D.nx} σ2 H2)
theorem Hc {tg:TX K} {it:IX K} {bd:List (SX K)} (h:it.t E σ H λJ H1=>mY J tg.g (lJ bd E) D σ H1):(mE tg it bd).t E D σ H:=h
theorem Gj {R:It->Hp->Prop} (h:fY (a::as) E σ H λvs H1=>JW vs H1 R):(BZ a as).t E σ H R:=h
theorem Ad {R:It->Hp->Prop} (c:-(2 ^ 62)<=j/\j<2 ^ 62) (h:R (OZ 0 j.toNat) H):JW [.int j] H R:=⟨c,h⟩
theorem Gf {R:It->Hp->Prop} (h:fY [a,b] E σ H λvs H1=>JT K vs H1 R):(UD a b).t E σ H R:=h
theorem vW {R:It->Hp->Prop} {p r:Addr} {xs ys:List V} (c:aR K H p xs) (d:aR K H r ys) (h:R (Jd K p r) H):JT K [.ref p,.ref r] H R:=⟨⟨⟨xs,c⟩,ys,d⟩,h⟩
theorem Aj {R:It->Hp->Prop} (h:a.t E σ H λx H1=>pG K x H1 R):(iL a).t E σ H R:=h
theorem Gx {R:It->Hp->Prop} {z:Str} (h:R (Cq z) H):pG K (.str z) H R:=h
theorem gZ {R:It->Hp->Prop} {p:Addr} {xs:List V} (c:aR K H p xs) (h:R (UZ K p) H):pG K (.ref p) H R:=.inl ⟨⟨xs,c⟩,h⟩
theorem Gw {R:It->Hp->Prop} {p:Addr} {xs:List V} (c:cZ K H p xs) (h:R (Jf K p) H):pG K (.ref p) H R:=.inr ⟨⟨xs,c⟩,h⟩
theorem nY {J:It} {P:Hp->Prop} {xs:List V} {g:TG} {tb:TS} (Y:Yl J P xs) (Pv:Nat->St->Hp->Prop) (h0:Pv 0 σ H) (hl:∀i σ H,i<=xs.length->Pv i σ H->P H)
  (hs:∀i x σ H,xs[i]?=some x->Pv i σ H->g x σ H λσ2 H2=>tb {D with nx:=Pv (i+1),ct:=Pv (i+1),bk:=D.nx} σ2 H2) (hd:∀σ H,Pv xs.length σ H->D.nx σ H):mY J g tb D σ H:=NG Y Pv h0 hl hs hd
theorem iI {lo:Int} {k:Nat} {g:TG} {tb:TS} (Pv:Nat->St->Hp->Prop) (h0:Pv 0 σ H)
  (hs:∀i σ H,i<k->Pv i σ H->g (.int (lo+(i:Nat))) σ H λσ2 H2=>tb {D with nx:=Pv (i+1),ct:=Pv (i+1),bk:=D.nx} σ2 H2) (hd:∀σ H,Pv k σ H->D.nx σ H):mY (OZ lo k) g tb D σ H:=HE Pv h0 hs hd
theorem LV {z:Str} {g:TG} {tb:TS} (Pv:Nat->St->Hp->Prop) (h0:Pv 0 σ H)
  (hs:∀i k σ H,z.cps.toList[i]?=some k->Pv i σ H->g (sgn k) σ H λσ2 H2=>tb {D with nx:=Pv (i+1),ct:=Pv (i+1),bk:=D.nx} σ2 H2) (hd:∀σ H,Pv z.cps.toList.length σ H->D.nx σ H):mY (Cq z) g tb D σ H:=by
 refine nY II Pv h0 (λ_ _ _ _ _=>trivial) (λi x σ1 H1 hx hp=>?_) (λσ1 H1 hp=>hd σ1 H1 ?_)
 ·unfold jH at hx;rw[getElem?_map] at hx;cases e:z.cps.toList[i]? with
  |none=>rw[e] at hx;cases hx
  |some k=>
   rw[e] at hx;have hx':sgn k=x:=Option.some.inj hx;subst hx';exact hs i k σ1 H1 e hp
 ·rw[eM] at hp;rw[length_toList];exact hp
theorem DZ {QS:St->Hp->Prop} (h:QS (σ.set n (some v)) H):(jA n:TX K).g v σ H QS:=h
theorem MV (h:a.t E σ H λx H1=>b.t E σ H1 λy H2=>∃(z:Str) (t:Addr) (ws:List V),[x,y]=[V.str z,.ref t]/\(cZ K H2 t ws\/aR K H2 t ws)/\z.cps.size=ws.length/\z.cps.size<=1000/\z.cps.all (·<128)=true/\(∀i j,i<z.cps.size->j<z.cps.size->fW z i=fW z j->i=j)/\
 ∀d,H2 d=none->Q (.ref d) (upd H2 d (.dK (jJ z ws)))):(UK a b).t E σ H Q:=h
theorem LX {p:Addr} {xs:List V} {g:TG} {tb:TS} (hp:aR K H p xs) (S:Nat->St->Prop) (h0:S 0 σ)
  (hs:∀i x σ1 H1,xs[i]?=some x->S i σ1->aC H H1->g x σ1 H1 λσ2 H2=>tb {D with nx:=λσ3 H3=>S (i+1) σ3/\aC H H3,ct:=λσ3 H3=>S (i+1) σ3/\aC H H3,bk:=D.nx} σ2 H2) (hd:∀σ1 H1,S xs.length σ1->aC H H1->D.nx σ1 H1):
  mY (UZ K p) g tb D σ H:=NH (dU (xs:=xs)) (λH' e=>e.seq hp) S h0 hs hd
theorem qE {QS:St->Hp->Prop} {k l:Nat} {p:Addr} {x y:V} (c:cZ K H p [x,y]) (h:QS ((σ.set k (some x)).set l (some y)) H):(IT [k,l]:TX K).g (.ref p) σ H QS:=
 ⟨p,[x,y],rfl,c,rfl,x,[y],rfl,y,[],rfl,rfl,h⟩
theorem HN {J:It} {P:Hp->Prop} {items:List V} (Y:Yl J P items) {tc:TT} {te:TE} {is:List Nat} {D:Addr} (keep:Nat->Bool) (f:Nat->V) (hD:H D=none) (hP:∀H1,aC H H1->P H1) (hz:items.length<=sizeLine)
  (test:∀(i:Nat) (x:V) (H1:Hp) (QB:Bool->Hp->Prop),items[i]?=some x->aC H H1->(∀H2,aC H1 H2->QB (keep i) H2)->tc (some x::fQ is σ) H1 QB)
  (step:∀(i:Nat) (x:V) (H1:Hp) (Q':VK),items[i]?=some x->keep i=true->aC H H1->(∀H3,aC H1 H3->Q' (f i) H3)->te (some x::fQ is σ) H1 Q')
  (fin:∀H1,aC H H1->H1 D=some (.lst (((range items.length).filter keep).map f))->Q (.ref D) H1):aV J (jA 0:TX K).g tc te 1 is σ D H Q:=by
 have hn:∀i,(((range i).filter keep).map f).length<=i:=λi=>by
  rw[length_map];exact le_trans (List.length_filter_le _ _) (by rw[length_range];exact Nat.le_refl _)
 refine ⟨λi m σ' H1=>m=items.length - i/\i<=items.length/\(∃a,σ'=a::fQ is σ)/\aC H H1/\H1 D=some (.lst (((range i).filter keep).map f)),⟨items.length,by simp,zero_le _,⟨none,rfl⟩,λb o e=>by rw[aF (aB e hD)];exact e,aA⟩,?_⟩;rintro i m σ' H1 ⟨rfl,hi,⟨a,rfl⟩,hS,hO⟩;have p:=hP H1 hS;by_cases hlt:i<items.length
 ·refine .inr ⟨Y.go i H1 p hlt,λx H' hy=>?_⟩;obtain ⟨e,hx⟩:=Y.yld i H1 x H' p hlt hy;subst e;show tc (some x::fQ is σ) H' _;refine test i x H' _ hx hS λH2 s2=>⟨λhk=>?_,λhk=>?_⟩
  ·refine step i x H2 _ hx hk (hS.trans s2) λH3 s3=>?_;refine ⟨_,s3 _ _ (s2 _ _ hO),Nat.lt_of_le_of_lt (hn i) (Nat.lt_of_lt_of_le hlt hz),items.length - (i+1),by lia,rfl,hlt,⟨_,rfl⟩,λb o q=>?_,?_⟩
   ·rw[aF (aB q hD)];exact s3 _ _ (s2 _ _ (hS b o q))
   ·rw[aA,range_succ,List.filter_append,map_append,filter_cons,if_pos hk];rfl
  ·refine ⟨items.length - (i+1),by lia,rfl,hlt,⟨_,rfl⟩,hS.trans s2,?_⟩;rw[s2 _ _ hO,range_succ,List.filter_append,filter_cons,if_neg (by rw[hk];exact Bool.false_ne_true),List.filter_nil,append_nil]
 ·have e:i=items.length:=by lia
  subst e;exact .inl ⟨Y.stop H1 p,fin H1 hS hO⟩
theorem filter_all {α:Type} (l:List α):(l.filter λ_=>true)=l:=List.filter_eq_self.mpr λ_ _=>rfl
theorem lC {J:It} {P:Hp->Prop} {items:List V} (Y:Yl J P items) {te:TE} {is:List Nat} {D:Addr} (f:Nat->V) (hD:H D=none) (hP:∀H1,aC H H1->P H1) (hz:items.length<=sizeLine)
  (step:∀(i:Nat) (x:V) (H1:Hp) (Q':VK),items[i]?=some x->aC H H1->(∀H3,aC H1 H3->Q' (f i) H3)->te (some x::fQ is σ) H1 Q')
  (fin:∀H1,aC H H1->H1 D=some (.lst ((range items.length).map f))->Q (.ref D) H1):aV J (jA 0:TX K).g (cT (none:Option (EX K))) te 1 is σ D H Q:=
 HN Y (λ_=>true) f hD hP hz (λ_ _ _ _ _ _ q=>q _ (aC.refl _)) (λi x H1 Q' hx _ hS q=>step i x H1 Q' hx hS q) λH1 hS hO=>fin H1 hS (by rw[filter_all] at hO;exact hO)
theorem NV {lo:Int} {m:Nat} {te:TE} {is:List Nat} {D:Addr} (f:Nat->V) (hD:H D=none) (hz:m<=sizeLine)
  (step:∀(i:Nat) (H1:Hp) (Q':VK),i<m->aC H H1->(∀H3,aC H1 H3->Q' (f i) H3)->te (some (.int (lo+(i:Nat)))::fQ is σ) H1 Q')
  (fin:∀H1,aC H H1->H1 D=some (.lst ((range m).map f))->Q (.ref D) H1):aV (OZ lo m) (jA 0:TX K).g (cT (none:Option (EX K))) te 1 is σ D H Q:=by
 refine lC WV f hD (λ_ _=>trivial) (by rw[iE];exact hz) (λi x H1 Q' hx hS q=>?_) (λH1 hS hO=>fin H1 hS (by rw[iE] at hO;exact hO));obtain ⟨hi,rfl⟩:=JR hx;exact step i H1 Q' hi hS q
theorem iY {α β:Type} (l:List α) (f:α->β) (d:β):((range l.length).map λi=>(l[i]?.map f).getD d)=l.map f:=by
 refine ext_getElem? λi=>?_;rw[getElem?_map,getElem?_map];by_cases hi:i<l.length
 ·rw[getElem?_range hi];show some ((l[i]?.map f).getD d)=l[i]?.map f;rw[getElem?_eq_getElem hi];rfl
 ·rw[List.getElem?_eq_none_iff.mpr (by rw[length_range];lia),List.getElem?_eq_none_iff.mpr (by lia)];rfl
theorem CI {J:It} {P:Hp->Prop} {xs:List V} (Y:Yl J P xs) {te:TE} {is:List Nat} {D:Addr} (f:V->V) (hD:H D=none) (hP:∀H1,aC H H1->P H1) (hz:xs.length<=sizeLine)
  (step:∀(i:Nat) (x:V) (H1:Hp) (Q':VK),xs[i]?=some x->aC H H1->(∀H3,aC H1 H3->Q' (f x) H3)->te (some x::fQ is σ) H1 Q')
  (fin:∀H1,aC H H1->H1 D=some (.lst (xs.map f))->Q (.ref D) H1):aV J (jA 0:TX K).g (cT (none:Option (EX K))) te 1 is σ D H Q:=by
 refine lC Y (λi=>(xs[i]?.map f).getD .non) hD hP hz (λi x H1 Q' hx hS q=>?_) λH1 hS hO=>fin H1 hS (by rw[iY] at hO;exact hO);rw[hx] at q;exact step i x H1 Q' hx hS q
theorem zS {z:Str} {te:TE} {is:List Nat} {D:Addr} (f:Nat->V) (hD:H D=none) (hz:z.length<=sizeLine)
  (step:∀(i c:Nat) (H1:Hp) (Q':VK),z.cps.toList[i]?=some c->aC H H1->(∀H3,aC H1 H3->Q' (f c) H3)->te (some (sgn c)::fQ is σ) H1 Q')
  (fin:∀H1,aC H H1->H1 D=some (.lst (z.cps.toList.map f))->Q (.ref D) H1):aV (Cq z) (jA 0:TX K).g (cT (none:Option (EX K))) te 1 is σ D H Q:=by
 refine lC II (λi=>(z.cps.toList[i]?.map f).getD .non) hD (λ_ _=>trivial) (by rw[eM];exact hz) (λi x H1 Q' hx hS q=>?_) λH1 hS hO=>fin H1 hS (by
  rw[show (jH z).length=z.cps.toList.length by rw[eM];simp,iY] at hO;exact hO)
 unfold jH at hx;rw[getElem?_map] at hx;cases e:z.cps.toList[i]? with
 |none=>rw[e] at hx;cases hx
 |some c=>
  rw[e] at hx q;have hx':sgn c=x:=Option.some.inj hx;subst hx';exact step i c H1 Q' e hS q
theorem xS {p:Addr} {xs:List V} (hp:cZ K H p xs) (H1:Hp) (hS:aC H H1):cZ K H1 p xs:=by
 rcases hp with (h|⟨o,h⟩)|h
 ·exact .inl (.inl (hS _ _ h))
 ·exact .inl (.inr ⟨o,hS _ _ h⟩)
 ·exact .inr h
theorem NW {p:Addr} {xs:List V} {te:TE} {is:List Nat} {D:Addr} (f:V->V) (hp:aR K H p xs) (hD:H D=none) (hz:xs.length<=sizeLine)
  (step:∀(i:Nat) (x:V) (H1:Hp) (Q':VK),xs[i]?=some x->aC H H1->(∀H3,aC H1 H3->Q' (f x) H3)->te (some x::fQ is σ) H1 Q')
  (fin:∀H1,aC H H1->H1 D=some (.lst (xs.map f))->Q (.ref D) H1):aV (UZ K p) (jA 0:TX K).g (cT (none:Option (EX K))) te 1 is σ D H Q:=CI (dU (xs:=xs)) f hD (λH1 hS=>hS.seq hp) hz step fin
theorem UC {elt:EX K} {c:Option (EX K)} {tg:TX K} {it:IX K} {own caps:List Str} {is:List Nat} (h:it.t E σ H λJ H1=>∀D,H1 D=none->aV J tg.g (cT c) (elt.t E0) own.length is σ D H1 Q):(EK c elt tg it own caps is).t E σ H Q:=h
theorem An {elt:EX K} {tg:TX K} {it:IX K} {own caps:List Str} {is:List Nat} (h:it.t E σ H λJ H1=>∀D,H1 D=none->aV J tg.g (cT (none:Option (EX K))) (elt.t E0) own.length is σ D H1 Q):(comp elt tg it own caps is).t E σ H Q:=h
theorem Ac {c:Ju K} (h:c.t E σ H λx H1=>D.nx (σ.set n (some x)) H1):(setC n c).t E D σ H:=h
end
end
noncomputable def FD (K:Fg) (x:Str) (st:Stmt):Prop:=∃(f:Addr) (fd:FuncData),Cs K x x st f fd/\PySem.W.nsIn K mainGlobals x=some (some (.ref f))
theorem Hy {K:Fg} {x:Str} {st:Stmt} {f:Addr} {oc:Value} {od an:Option Addr} {osl:Array (Option Value)} {kV doc pm cdv ct:Value} (a:PySem.W.nsIn K mainGlobals x=some (some (.ref f)))
  (l:K.lookup f=some ⟨oc,od,.func (PySem.W.fnOf x x (cJ st) (aZ st) (aM st) .none kV doc pm an cdv ct),osl⟩) (c:PySem.W.codeIn K cdv x=true) (k:PySem.W.keepIn K (.ref f)=true):FD K x st:=⟨f,_,ND l c k,a⟩
noncomputable def Cf (K:Fg):List Str->Prop
 |[]=>True
 |x::xs=>PySem.W.nsIn K mainGlobals x=some none/\Cf K xs
theorem all_none {K:Fg} {h:Heap} {mg:Str->Option Value} (X:K.In h) (G:h.Ns mainGlobals mg):∀{xs:List Str},Cf K xs->∀x∈xs,mg x=none
 |[],_,_,hx=>nomatch hx
 |y::ys,z,x,hx=>by
  rcases mem_cons.mp hx with rfl|hx
  ·exact PySem.W.mg_none_of X G z.1
  ·exact all_none X G z.2 x hx
noncomputable def GC (K:Fg) (x:Str) (v:V):Prop:=∃u,PySem.W.nsIn K mainGlobals x=some (some u)/\RelV v u
theorem sZ {K:Fg} {h:Heap} {mg:Str->Option Value} {P:Program} {w:World} {base:Heap} {A:Around} {x:Str} {v:V} (X:K.In h) (G:h.Ns mainGlobals mg) (c:GC K x v):Jg ⟨P,w,K,mg,base,A⟩ x v:=by
 obtain ⟨u,h1,h2⟩:=c;exact ⟨u,PySem.W.mg_of X G h1,h2⟩
theorem Au {K:Fg} {x z:Str} {t:Tok} (h:PySem.W.nsIn K mainGlobals x=some (some (.str z t))):GC K x (.str z):=⟨_,h,t,rfl⟩
theorem Av {K:Fg} {x:Str} {i:Int} {t:Tok} (h:PySem.W.nsIn K mainGlobals x=some (some (.int i t))):GC K x (.int i):=⟨_,h,t,rfl⟩
section
variable {K:Fg} {P:Program} {w:World} {h base:Heap} {mg:Str->Option Value} {x:Str} {st:Stmt} {N ps:List Str} {k:Nat} {sp:Sp}
theorem Ic (F:FD K x st) (X:K.In h) (G:h.Ns mainGlobals mg) (bl:∀x∈nI,mg x=none) (b:List (SX K)) (S:eC N ps (aM st)) (hm:DS b ⟨N,(aM st).names,true⟩ (aZ st)=true)
  (hb:∀(kV doc pm:Value) (an:Option Addr) (cdv ct:Value) (us:List Value),us.length=ps.length->bindArgs (PySem.W.fnOf x x (cJ st) (aZ st) (aM st) .none kV doc pm an cdv ct) ⟨us,[]⟩=pure (ps.zip us))
  (len:∀vs H Q E,sp vs H Q E->vs.length=ps.length) (t:∀vs H Q E,sp vs H Q E->lJ b (λ_=>E) {nx:=λ_ H'=>Q .non H',rt:=Q} (start N vs) H) (hq:∀A,cG k A->IB b ⟨P,w,K,mg,base,A⟩):Cd P w K mg base (k+1) x sp:=by
 obtain ⟨f,fd,F,a⟩:=F;exact ⟨f,fd,ps,CH F b S hm bl hq len t,F.binds hb,F.kp,PySem.W.mg_of X G a⟩
end
theorem Nw {Z:List Value->Prop} (h:∀a:Value,Z [a]) (us:List Value) (hl:us.length=1):Z us:=match us,hl with|[_],_=>h _
theorem Nv {Z:List Value->Prop} (h:∀a b:Value,Z [a,b]) (us:List Value) (hl:us.length=2):Z us:=match us,hl with|[_,_],_=>h _ _
theorem Nu {Z:List Value->Prop} (h:∀a b c:Value,Z [a,b,c]) (us:List Value) (hl:us.length=3):Z us:=match us,hl with|[_,_,_],_=>h _ _ _
theorem by4 {Z:List Value->Prop} (h:∀a b c d:Value,Z [a,b,c,d]) (us:List Value) (hl:us.length=4):Z us:=match us,hl with|[_,_,_,_],_=>h _ _ _ _
theorem Nt {Z:List Value->Prop} (h:∀a b c d e f:Value,Z [a,b,c,d,e,f]) (us:List Value) (hl:us.length=6):Z us:=match us,hl with|[_,_,_,_,_,_],_=>h _ _ _ _ _ _
noncomputable def clsAt (K:Fg) (x:Str):Addr:=match PySem.W.nsIn K mainGlobals x with
 |some (some (.ref C))=>C
 |_=>0
noncomputable abbrev kS:List Value:=[.type "ValueError",.type "Exception",.type "BaseException",.type "object"]
structure Cc (K:Fg) (x:Str):Prop where
 at_:PySem.W.nsIn K mainGlobals x=some (some (.ref (clsAt K x)))
 exc:PySem.W.excIn K (clsAt K x) kS "ValueError.__new__"=true
section
variable {K:Fg}
theorem UH {x:Str} {h:Heap} (k:Cc K x) (X:K.In h):∃bm N nm q bs hdct sn sub ab col dd k0 k1 k2 k3 k5 mN,h.get? (clsAt K x)=some (excClassObj nm q (clsAt K x) N bs bm hdct sn sub ab col dd k0 k1 k2 k3 k5 "ValueError.__new__")/\h.Ns N mN/\mN "__init__"=none/\OwnTail h kS bm:=by
 have q:=k.exc;generalize clsAt K x=C at q;unfold PySem.W.excIn at q;split at q
 ·rename_i dd cd sl ho;split at q
  ·rename_i C' bm k0 k1 k2 k3 n k5 hm hs;simp only [and_eq_true,beq_iff_eq,Bool.not_eq_true'] at q;obtain ⟨⟨⟨⟨⟨rfl,rfl⟩,hdel⟩,ht⟩,hok⟩,hni⟩:=q;obtain ⟨nm,bs,mro,ns,qn,hd,sn,sub,ab,col,del⟩:=cd;obtain ⟨l⟩:=sl;dsimp only at hm hs hdel hok hni;subst hm hdel hs;exact ⟨bm,ns,nm,qn,bs,hd,sn,sub,ab,col,dd,k0,k1,k2,k3,k5,_,X _ _ ho,.of_isNs (PySem.W.isNs_of_in X hok),PySem.W.nsMap_none_of_in X hok hni,PySem.W.tail_of_in X ht⟩
  ·cases q
 ·cases q
noncomputable def raiseO (x:Str) (a:EX K) (as:List (EX K)):SX K where
 t:=λE _ σ H=>fY (a::as) E σ H λvs H1=>vs.length<=sizeLine/\E σ (.ref (clsAt K x)) none H1
 m:=λC s=>match s with
  | .Raise (some (.Call (.Name y _) es [] _)) none _=>(C.cm&&rD C x y)&&jX (a::as) C es
  |_=>false
 q:=λR=>(R.mg x=some (.ref (clsAt K x))/\Cc K x)/\sQ (a::as) R
 ok:=λX C E s hK G hE hq hm=>by
  subst hK;split at hm
  ·rename_i y py es p pos;simp only [and_eq_true] at hm;obtain ⟨⟨hcm,h1⟩,h2⟩:=hm;have e:=cC h1;subst e;obtain ⟨g,d⟩:=cB G h1;obtain ⟨⟨hg,ek⟩,hqa⟩:=hq;cases es with
   |nil=>cases h2
   |cons e es=>
    intro pins s σ H D I h;have st:=aX (env:=X.env) (es:=es) (a.sok C e (aG h2).1);have pl:=bH (env:=X.env) (pos:=p) as es (aG h2).2;obtain ⟨bm,N,nm,q,bs,hdct,sn,sub,ab,col,dd,k0,k1,k2,k3,k5,mN,hC,hN,hni,T⟩:=UH ek I.ok.mod.kin;refine wpAny_Raise_call_subT (C:=clsAt X.K y) (nm:=nm) (q:=q) (N:=N) (bs:=bs) (bm:=bm) (hdct:=hdct) (sn:=sn) (sub:=sub) (ab:=ab) (col:=col) (dd:=dd) (k0:=k0) (k1:=k1) (k2:=k2) (k3:=k3) (k5:=k5)
     PySem.F.excBase_ValueError (mN:=mN) (T.hasType PySem.F.excBase_ValueError.hasBase) (I.ok.hd (G.calm hcm)) (by rw[st];exact pl) hni (jB I g hg ⟨rfl,?_⟩ d)
    have ev:=dR G hE (a::as) (e::es) hqa h2 p pins s σ H _ I h;rw[st] at ev ⊢;refine Calls.evalArgs_plain (wpAny_mono ev (λus s1 z=>?_) λ_ _ z=>z);obtain ⟨vs,H1,I1,r1,ln,w1⟩:=z;refine ⟨rfl,by rw[<-r1.length];exact ln,I1.bk _ _ hC,hN.keeps I1.bk,T.keeps I1.bk,λh' e' mk=>?_⟩;obtain ⟨t,eo,_,_⟩:=mk.there;refine hE.made pins σ H1 H1 s1 {s1 with heap:=h'} e' _ _ I1 rfl I1.bare (Un.kept mk.keeps) (I1.hok.kept mk.keeps) mk.new ?_ eo rfl rfl w1;cases hh:H1 e' with
    |none=>rfl
    |some o=>
     obtain ⟨u,hu⟩:=oJ (I1.hok e' o hh);rw[mk.new] at hu;cases hu
  ·cases hm
end
section
variable {X:Cx} {pins:List (Addr × Obj)} {σ:St} {H1 H':Hp} {s1 s':Shared} {B g:Heap} {e:Addr} {c fl:Value} {dx:Option Addr}
end
section
variable {X:Cx} {pins:List (Addr × Obj)} {σ:St} {H:Hp} {s:Shared} {M:Model} {A:Around} {E:Value->Shared->Prop} {Q:Unit->Shared->Prop}
end
section
variable {X:Cx} {pins pins':List (Addr × Obj)} {σ:St} {H:Hp} {s:Shared} {W:Value->Shared->Prop}
end
section
variable {K:Fg}
end
open PySem.W
section
variable {prog:Program} {w:World} {A:Around} {E:Value->Shared->Prop} {s:Shared} {K:Frag} {x D:Addr} {ox:Obj} {od:Option Obj} {name:Str}
end
theorem SQ {KF:Fg->Prop} {l:PySem.W.OpenLaw} {q:Program} {loose:List Str} {XP:(Str->Option Value)->Heap->Prop} {YP:World->Heap->Prop} {d:DefRec} {K:Params->Fg} {st:Stmt} {N:List Str} {k:Nat} {x:Str} {sp:Fg->Sp} (hn:l.most=some 63) (hdf:d.params.defaults=[]) (hr:cG (k+1) callerA)
  (hY:∀(w:World) (h:Heap),YP w h->(K w.params).In h) (hK:∀w:World,KF (K w.params)) (hd:d.name="law") (b:∀K:Fg,List (SX K)) (S:eC N [x] (aM st)) (hm:∀K,DS (b K) ⟨N,(aM st).names,true⟩ (aZ st)=true)
  (hb:∀(kV doc pm:Value) (an:Option Addr) (cdv ct:Value) (u:Value),bindArgs (PySem.W.fnOf "law" "law" (cJ st) (aZ st) (aM st) .none kV doc pm an cdv ct) ⟨[u],[]⟩=pure [(x,u)])
  (len:∀K vs H Q E,sp K vs H Q E->vs.length=1) (t:∀K,KF K->∀vs H Q E,sp K vs H Q E->lJ (b K) (λ_=>E) {nx:=λ_ H'=>Q .non H',rt:=Q} (start N vs) H)
  (F:∀(w:World) (h:Heap),(K w.params).In h->FD (K w.params) "law" st/\Cf (K w.params) nI)
  (hq:∀(w:World) (mg:Str->Option Value) (h base:Heap),KF (K w.params)->(K w.params).In h->h.Ns mainGlobals mg->(∀x∈nI,mg x=none)->∀A,cG k A->IB (b (K w.params)) ⟨l.prog,w,K w.params,mg,base,A⟩)
  (hsp:∀(K:Fg) (H:Hp) (a:Addr) (ns:List Int),KF K->ns.length<=63->aR K H a (ns.map V.int)->sp K [.ref a] H (λv _=>v=.bl true) λ_ _ _=>False):
  PySem.W.WalkO q loose XP YP l.row.toRowW d [] (λf vs=>PySem.call f vs):=by
 refine L2.PU (n:=63) (k:=k+1) (x:=x) (CX:=λw=>tY l.prog w) (sp:=λw=>sp (K w.params)) hn (by decide) hdf hr hY (λw mg fa h KX G hmg=>?_) (λw H a ns hl _ hS=>hsp _ H a ns (hK w) hl hS) λ_ _ _ _ _ z=>tY.no z;obtain ⟨⟨f,fd,Fn,a⟩,bl⟩:=F w h KX;rw[hd] at hmg;have e:=hmg.symm.trans (PySem.W.mg_of KX G a);cases e;refine ⟨fd,λs u=>?_,λbase _ _=>?_⟩
 ·obtain ⟨oc,od,kV,doc,pm,an,cdv,ct,osl,rfl,lk,hcd⟩:=Fn.ex;exact .of_eq (hb kV doc pm an cdv ct u)
 ·exact CH Fn (b (K w.params)) S (hm _) (all_none KX G bl) (hq w mg h base (hK w) KX G (all_none KX G bl)) (λvs H Q E z=>len _ vs H Q E z) (t _ (hK w))
section
variable {prog:Program} {w:World} {A:Around} {E:Value->Shared->Prop} {h:Heap} {g:Array GenState} {d:Drawn} {t:Nat} {os:OsState}
variable {nm q:Str} {C N:Addr} {bs bm bmB:List Value} {hdct:Bool} {sn:List Str} {sub:List Value} {ab:Bool} {col:Option Bool} {dd:Option Addr} {k0 k1 k2 k3 k5:Option Value} {B newId initId:String}
theorem mZ (F:ExcBaseFacts B newId initId bmB) (T:OwnTail h bmB bm) {mN:Str->Option Value} {rest:List Value} {fI:Addr} {oI:Obj} {Q:Fin->Shared->Prop}
  (hC:h.get? C=some (excClassObj nm q C N bs bm hdct sn sub ab col dd k0 k1 k2 k3 k5 newId)) (hn:h.Ns N mN) (hi:mN "__init__"=some (.ref fI)) (hfI:h.get? fI=some oI) (hfc:oI.cls=.type "function")
  (hq:∀h' e,Heap.MadeExcOf h h' e (.ref C) rest->wpAny (model prog w) A (PySem.call (.ref fI) (.ref e::rest)) (λr s'=>r=.none/\Q (.done (.ret (.ref e))) s') E ⟨h',g,d,t,os⟩) (hrest:rest.length<=sizeLine):
  wpAny (model prog w) A (Builtin.«type.__call__» ⟨.ref C::rest,[]⟩) Q E ⟨h,g,d,t,os⟩:=by
 repeat (first|with_reducible refine wpAny_loadPart_at hC ?_|with_reducible refine wpAny_madeBy_exc hC ?_|wp_step)
 refine codeAny_call_builtin_code (Code.quiet_builtin _ F.quiet) (wpAny_check_new_subT F T hC ?_);refine codeAny_exc_new_subT F T hC ?_ hrest;show wpAny _ _ _ _ _ _;have kp:∀b o,h.get? b=some o->((h.push {cls:=.type "tuple",data:=.seq rest.toArray}).push {cls:=.ref C,data:=.fields #[.ref h.objs.size,.none,.none,.none,.bool false,.none]}).get? b=some o:=λb o e=>get?_push_of_some _ (get?_push_of_some _ e);have hget:((h.push {cls:=.type "tuple",data:=.seq rest.toArray}).push {cls:=.ref C,data:=.fields #[.ref h.objs.size,.none,.none,.none,.bool false,.none]}).get? (h.objs.size+1)=some ({cls:=.ref C,data:=.fields #[.ref h.objs.size,.none,.none,.none,.bool false,.none]}:Obj):=by heap_get
 have hcC:(Value.ref C::bm).contains (.ref C)=true:=by simp
 have hC₁:=kp _ _ hC;unfold isInstance
 repeat (first|with_reducible refine wpAny_loadPart_at hget ?_|(with_reducible refine wpAny_isSubtype_exc hC₁ ?_;rw[hcC])|wp_step)
 show wpAny _ _ (typeLookup (.ref C) _) _ _ _;refine wpAny_typeLookup_tail hC₁ (hn.keeps kp) (T.keeps kp) F.mroIs F.init.lookup ?_;rw[hi];refine wpAny_holding (wpAny_bind ?_);unfold bindSpecial;refine wpAny_bind (wpAny_typeOf (T:="function") ⟨_,kp _ _ hfI,hfc⟩ ?_);rw[if_pos (by decide)];refine wpAny_pure (wpAny_bind (wpAny_mono (hq _ (h.objs.size+1) ⟨kp,Heap.get?_none_of_le (le_succ _),h.objs.size,hget,Heap.get?_none_of_le (Nat.le_refl _),?_⟩) (λr s' hr=>?_) λ_ _ x=>x))
 ·exact get?_push_of_some _ (Heap.get?_push_at rfl rfl)
 ·obtain ⟨rfl,hQ⟩:=hr
  wp_walk
  exact hQ
theorem CL (F:ExcBaseFacts B newId initId bmB) (T:OwnTail h bmB bm) {mN:Str->Option Value} {rest:List Value} {fI:Addr} {oI:Obj} {Q:Value->Shared->Prop}
  (hC:h.get? C=some (excClassObj nm q C N bs bm hdct sn sub ab col dd k0 k1 k2 k3 k5 newId)) (hn:h.Ns N mN) (hi:mN "__init__"=some (.ref fI)) (hfI:h.get? fI=some oI) (hfc:oI.cls=.type "function")
  (hq:∀h' e,Heap.MadeExcOf h h' e (.ref C) rest->
   wpAny (model prog w) (A.under (.builtin "type.__call__" ⟨.ref C::rest,[]⟩)) (PySem.call (.ref fI) (.ref e::rest)) (λr s'=>r=.none/\Q (.ref e) s') E ⟨h',g,d,t,os⟩) (hrest:rest.length<=sizeLine):
  wpAny (model prog w) A (PySem.call (.ref C) rest) Q E ⟨h,g,d,t,os⟩:=by
 have f1:=tc_lookup;have f2:=tc_bind (.ref C);have hT:(⟨h,g,d,t,os⟩:Shared).TypeIs (.ref C) "type":=⟨_,hC,rfl⟩;refine wpAny_call (codeAny_of_tree ?_);show wpAny _ _ (callAny (.ref C) _) _ _ _
 repeat (any_goals (first|assumption|with_reducible refine wpAny_loadPart_at hC ?_|wp_step))
 refine ⟨rfl,?_⟩;refine codeAny_call_builtin_at (Code.quiet_builtin _ (by decide+kernel)) entry_typeCall (wpAny_check_type_call_sub hC (mZ (hrest:=hrest) F T hC hn hi hfI hfc λh' e hm=>?_));exact hq h' e hm
end
section
variable {prog:Program} {w:World} {A:Around} {E:Value->Shared->Prop} {s:Shared} {env:Env}
variable {nm q:Str} {C N:Addr} {bs bm bmB:List Value} {hdct:Bool} {sn:List Str} {sub:List Value} {ab:Bool} {col:Option Bool} {dd:Option Addr} {k0 k1 k2 k3 k5:Option Value} {B newId initId:String}
theorem eN {M:Model} {A:Around} {E:Value->Shared->Prop} {x:Sem Value} {Q:Flow->Shared->Prop} (hbase:bm.contains (.type "BaseException")=true) (hh:A.handled=none)
  (h:wpAny M A x (λv s₁=>∃e oe,v=.ref e/\s₁.heap.get? C=some (excClassObj nm q C N bs bm hdct sn sub ab col dd k0 k1 k2 k3 k5 newId)/\s₁.heap.get? e=some oe/\oe.cls=.ref C/\(∃vs,oe.data=.fields vs/\vs[1]?=some .none)/\E (.ref e) s₁) E s):
  wpAny M A (raiseStmt env (some x) none) Q E s:=by
 have hcB:(Value.ref C::bm).contains (.type "BaseException")=true:=by rw[List.contains_cons,hbase,Bool.or_true]
 unfold raiseStmt;refine wpAny_bind (wpAny_mono h (λv s₁ h₁=>?_) λ_ _ x=>x);obtain ⟨e,⟨oc,od,odt,osl⟩,rfl,hC,he,hc,⟨vs,hv,v1⟩,hE⟩:=h₁;dsimp only at hc hv;subst hc hv;obtain ⟨hp,g,d,tk,os⟩:=s₁
 repeat (first|with_reducible refine wpAny_loadPart_at he ?_|with_reducible refine wpAny_loadPart_at hC ?_|(with_reducible refine wpAny_isSubtype_exc hC ?_;rw[hcB])|wp_step)
 rw[v1];refine wpAny_pure ?_;rw[if_neg (show ¬((Value.none != Value.none)=true) by decide)];exact wpAny_pure (wpAny_raiseNew_none hh hE)
theorem yD (F:ExcBaseFacts B newId initId bmB) {mN:Str->Option Value} {x:Str} {np cpos pos:Pos} {args:List Expr} {Q:Flow->Shared->Prop} {fI:Addr}
  (hbase:bm.contains (.type "BaseException")=true) (hh:A.handled=none) (hplain:(backTo cpos (starEach args env)).any (·.1)=false) (hi:mN "__init__"=some (.ref fI))
  (h:wpAny (model prog w) A (eval (.Name x np) env) (λf s₁=>f=.ref C/\wpAny (model prog w) A (evalArgs (.ref C) true (backTo cpos (starEach args env)) [])
   (λa s₂=>a.kw=[]/\a.pos.length<=sizeLine/\s₂.heap.get? C=some (excClassObj nm q C N bs bm hdct sn sub ab col dd k0 k1 k2 k3 k5 newId)/\s₂.heap.Ns N mN/\OwnTail s₂.heap bmB bm/\(∃oI,s₂.heap.get? fI=some oI/\oI.cls=.type "function")/\
    ∀h' e,Heap.MadeExcOf s₂.heap h' e (.ref C) a.pos->wpAny (model prog w) (A.under (.builtin "type.__call__" ⟨.ref C::a.pos,[]⟩)) (PySem.call (.ref fI) (.ref e::a.pos)) (λr s'=>r=.none/\s'.heap.get? C=some (excClassObj nm q C N bs bm hdct sn sub ab col dd k0 k1 k2 k3 k5 newId)/\
     (∃oe vs,s'.heap.get? e=some oe/\oe.cls=.ref C/\oe.data=.fields vs/\vs[1]?=some .none)/\E (.ref e) s') E {s₂ with heap:=h'}) E s₁) E s):
  wpAny (model prog w) A (exec (.Raise (some (.Call (.Name x np) args [] cpos)) none pos) env) Q E s:=by
 rw[arm_exec_Raise]
 first
  |refine wpAny_bind (wpAny_standAt (eN (C:=C) (nm:=nm) (q:=q) (N:=N) (bs:=bs) (bm:=bm) (hdct:=hdct) (sn:=sn) (sub:=sub) (ab:=ab) (col:=col) (dd:=dd) (k0:=k0) (k1:=k1) (k2:=k2) (k3:=k3) (k5:=k5) (newId:=newId) hbase hh (wpAny_bind (wpAny_mono (wpAny_Call_ofName (wpAny_mono h (λf s₁ h₁=>?_) λ_ _ x=>x)) (λv s₃ h₃=>wpAny_bind (wpAny_standAt (wpAny_pure h₃))) λ_ _ x=>x))))
  | (simp only [evalOpt,Option.map];refine wpAny_bind (wpAny_standAt (eN (C:=C) (nm:=nm) (q:=q) (N:=N) (bs:=bs) (bm:=bm) (hdct:=hdct) (sn:=sn) (sub:=sub) (ab:=ab) (col:=col) (dd:=dd) (k0:=k0) (k1:=k1) (k2:=k2) (k3:=k3) (k5:=k5) (newId:=newId) hbase hh (wpAny_bind (wpAny_mono (wpAny_Call_ofName (wpAny_mono h (λf s₁ h₁=>?_) λ_ _ x=>x)) (λv s₃ h₃=>wpAny_bind (wpAny_standAt (wpAny_pure h₃))) λ_ _ x=>x)))))
  | (refine wpAny_bind (wpAny_standAt (eN (C:=C) (nm:=nm) (q:=q) (N:=N) (bs:=bs) (bm:=bm) (hdct:=hdct) (sn:=sn) (sub:=sub) (ab:=ab) (col:=col) (dd:=dd) (k0:=k0) (k1:=k1) (k2:=k2) (k3:=k3) (k5:=k5) (newId:=newId) hbase hh ?_));refine wpAny_bind (wpAny_mono (wpAny_Call_ofName (wpAny_mono h (λf s₁ h₁=>?_) λ_ _ x=>x)) (λv s₃ h₃=>wpAny_bind (wpAny_standAt (wpAny_pure h₃))) λ_ _ x=>x))
 obtain ⟨rfl,h₁⟩:=h₁;unfold callWith;refine wpAny_bind (wpAny_holding (wpAny_mono h₁ (λa s₂ h₂=>wpAny_bind (wpAny_standAt ?_)) λ_ _ x=>x));obtain ⟨apos,akw⟩:=a;obtain ⟨hkw,hlen,hC,hn,T,⟨oI,hfI,hfc⟩,h₂⟩:=h₂;obtain rfl:akw=[]:=hkw;obtain ⟨hp,g,d,tk,os⟩:=s₂;simp only [hplain];refine wpAny_bind (wpAny_keeperOf_exc hC ?_);refine wpAny_bind (CL (hrest:=hlen) F T hC hn hi hfI hfc λh' e hm=>wpAny_mono (h₂ h' e hm) (λr s' z=>⟨z.1,wpAny_bind (wpAny_holding (wpAny_point (wpAny_pure ?_)))⟩) λ_ _ z=>z);obtain ⟨_,z1,⟨oe,vs,z2,z3,z4,z6⟩,z5⟩:=z;exact ⟨e,oe,rfl,z1,z2,z3,⟨vs,z4,z6⟩,z5⟩
end
open Builtin Builtin.ObjectAttr
section
variable {prog:Program} {w:World} {A:Around} {E:Value->Shared->Prop} {h:Heap} {g:Array GenState} {d:Drawn} {t:Nat} {os:OsState} {K:Fg}
variable {nm q:Str} {C N e:Addr} {bs bm:List Value} {sn:List Str} {sub:List Value} {ab:Bool} {col:Option Bool} {dd:Option Addr} {k0 k1 k2 k3 k5:Option Value} {newId:String} {fld:Str} {v:Value} {oe:Obj}
theorem yA (self:Value) {tl:List Value} (T:OwnTail h kS tl):refuseLoop self "__setattr__" tl=pure ():=by
 induction T with
 |base=>exact F.store_ValueError.passes self
 |own _ _ _ _ ih=>rw[refuseLoop_ref];exact ih
theorem DT {M:Model} {c:Value} {n:Str} {r:Option Value} {Q:Option Value->Shared->Prop} (X:K.In h) (e:PySem.W.findIn K c n=some r) (hq:Q r ⟨h,g,d,t,os⟩):wpAny M A (typeLookup c n) Q E ⟨h,g,d,t,os⟩:=
 PySem.W.looks_findIn X e _ _ _ _ (λ_ _ z=>z) hq
theorem HR {M:Model} {nameV:Value} {Q:Unit->Shared->Prop} (hC:h.get? C=some (excClassObj nm q C N bs bm true sn sub ab col dd k0 k1 k2 k3 k5 newId)) (T:OwnTail h kS bm)
  (he:h.get? e=some oe) (hc:oe.cls=.ref C) (hq:Q () ⟨h,g,d,t,os⟩):wpAny M A (checkBuiltinCall "object.__setattr__" ⟨[.ref e,nameV,v],[]⟩) Q E ⟨h,g,d,t,os⟩:=by
 have SF:=F.store_ValueError;have hcB:(Value.ref C::bm).contains (.type "object")=true:=by rw[List.contains_cons,T.hasType SF.hasOwner,Bool.or_true]
 have ha:=SF.args (.ref e) nameV v;simp only [checkBuiltinCall,SF.kind,SF.split];refine wpAny_bind ?_;unfold isInstance
 repeat (first|(with_reducible refine wpAny_loadPart_at he ?_;rw[hc])|(with_reducible refine wpAny_isSubtype_exc hC ?_;rw[hcB])|wp_step)
 first
  |exact hq
  |cases hsig:Manifest.signature? "object.__setattr__" with
   |none=>exact wpAny_pure hq
   |some sig=>
    simp only [argsOk,hsig] at ha;have h2:Bind.checkArgs "object.__setattr__" sig ⟨[.ref e,nameV,v],[]⟩=pure ():=ha;show wpAny M A (Bind.checkArgs "object.__setattr__" sig ⟨[.ref e,nameV,v],[]⟩) Q E _;rw[h2];exact wpAny_pure hq
theorem HH {tk:Tok} {Q:PySem.Fin->Shared->Prop} (X:K.In h) (hC:h.get? C=some (excClassObj nm q C N bs bm true sn sub ab col dd k0 k1 k2 k3 k5 newId)) (T:OwnTail h kS bm)
  (hfl:PySem.W.findIn K (.ref C) fld=some none) (he:h.get? e=some oe) (hc:oe.cls=.ref C) (hdn:oe.dict=none) (hnc:∀c,oe.data≠.cls c)
  (hq:∀h' tk' dx,(∀b o,b≠e->h.get? b=some o->h'.get? b=some o)->h.get? dx=none->dx≠e->h'.get? e=some {cls:=oe.cls,dict:=some dx,data:=oe.data,slots:=oe.slots}->
   h'.Ns1 dx (λy=>if y=fld then some v else none)->Q (.done (.ret .none)) ⟨h',g,d,tk',os⟩):
  wpAny (model prog w) A (Builtin.«object.__setattr__» ⟨[.ref e,.str fld tk,v],[]⟩) Q E ⟨h,g,d,t,os⟩:=by
 have hpass:=yA (.ref e) T;unfold Builtin.«object.__setattr__»
 repeat (first|rw[refuse_eq]|(rw[refuseLoop_ref,hpass])|(with_reducible refine wpAny_loadPart_at he ?_;rw[hc])|with_reducible refine wpAny_mroOf_exc hC ?_|(with_reducible refine DT X hfl ?_)|wp_step)
 rw[hdn,if_neg (by simp [typeHasDict])];split
 ·rename_i hcd;cases hcd
 split
 ·rename_i c hcd;exact absurd hcd (hnc c)
 ·have hx₁:(h.push {cls:=.type "dict",data:=.dict #[]}).get? e=some oe:=get?_push_of_some _ he;have hxs:e≠h.objs.size:=ne_of_lt (lt_size he);refine wpAny_bind (wpAny_alloc' ?_);refine wpAny_bind (wpAny_update' hx₁ ?_);refine wpAny_pure ?_;have hgd:((h.push {cls:=.type "dict",data:=.dict #[]}).update e λo=>{cls:=o.cls,dict:=some h.objs.size,data:=o.data,slots:=o.slots}).get? h.objs.size
    =some ({cls:=.type "dict",data:=.dict #[]}:Obj):=(Heap.get?_update_ne _ _ _ _ hxs.symm).trans (Heap.get?_push_at rfl rfl)
  have hnd:((h.push {cls:=.type "dict",data:=.dict #[]}).update e λo=>{cls:=o.cls,dict:=some h.objs.size,data:=o.data,slots:=o.slots}).Ns h.objs.size (λ_=>none):=
   ⟨_,#[],_,hgd,rfl,λe he=>absurd he (by simp),λ_=>rfl⟩
  show wpAny _ _ (storeInDict h.objs.size (.str fld tk) fld v) _ _ _;unfold storeInDict newKeyGuard;refine wpAny_bind (wpAny_pure (wpAny_bind (wpAny_nsSet1 (Heap.Ns1.of_empty hnd) λh' hn' hs=>?_)));obtain ⟨oD,esD,epD,hoD,hdD,hcD⟩:=hn'.count (Within.cons fld v Within.nil);refine wpAny_bind (wpAny_lookBehind hoD (by rw[hdD];exact pastItsLine_dict (le_trans hcD (by rw[length_cons,length_nil,sizeLine_eq];lia))) ?_)
  wp_walk
  refine hq h' _ h.objs.size (λb ob hbx hb=>?_) (Heap.get?_none_of_le (Nat.le_refl _)) hxs.symm ?_ hn'
  ·exact (hs.2 b (ne_of_lt (lt_size hb))).trans ((Heap.get?_update_ne _ _ _ _ hbx).trans (get?_push_of_some _ hb))
  ·refine (hs.2 e hxs).trans (get?_update_self _ hx₁ ?_);have hfr:=(Heap.get?_some_iff.mp he).2;obtain ⟨oc,od,odt,osl⟩:=oe;cases odt<;>first|rfl|exact hfr
theorem FI {Q:Unit->Shared->Prop} (X:K.In h) (hC:h.get? C=some (excClassObj nm q C N bs bm true sn sub ab col dd k0 k1 k2 k3 k5 newId)) (T:OwnTail h kS bm)
  (hsa:PySem.W.findIn K (.ref C) "__setattr__"=some (some (.builtin "object.__setattr__"))) (hfl:PySem.W.findIn K (.ref C) fld=some none)
  (he:h.get? e=some oe) (hc:oe.cls=.ref C) (hdn:oe.dict=none) (hnc:∀c,oe.data≠.cls c)
  (hq:∀h' tk' dx,(∀b o,b≠e->h.get? b=some o->h'.get? b=some o)->h.get? dx=none->dx≠e->h'.get? e=some {cls:=oe.cls,dict:=some dx,data:=oe.data,slots:=oe.slots}->
   h'.Ns1 dx (λy=>if y=fld then some v else none)->Q () ⟨h',g,d,tk',os⟩):
  wpAny (model prog w) A (setAttr (.ref e) fld v) Q E ⟨h,g,d,t,os⟩:=by
 have SF:=F.store_ValueError;have f3:=SF.slot.bind (.ref e);unfold setAttr callSpecial? specialOf
 repeat (any_goals (first|assumption|(with_reducible refine wpAny_loadPart_at he ?_;rw[hc])|(with_reducible refine DT X hsa ?_)|wp_step))
 refine codeAny_call_builtin SF.slot.plain SF.entry (HR hC T he hc (HH X hC T hfl he hc hdn hnc λh' tk' dx q1 q2 q3 q4 q5=>?_))
 repeat (any_goals (first|assumption|wp_step))
 exact hq h' tk' dx q1 q2 q3 q4 q5
end
noncomputable def PC (K:Fg) (f:Addr) (slf prm fld:Str):Prop:=
 ∃(name qual:Str) (params:Arguments) (scope:Scope) (dV kV doc pm cdv ct:Value) (an od:Option Addr) (osl:Array (Option Value)) (p1 p2 p3 p4:Pos),
  K.lookup f=some ⟨.type "function",od,.func (PySem.W.fnOf name qual params [.Assign [.Attribute (.Name slf p1) fld p2] (.Name prm p3) p4] scope dV kV doc pm an cdv ct),osl⟩/\PySem.W.codeIn K cdv qual=true/\
  (scope.kind=.function/\scope.isCoroutine=false/\scope.isGenerator=false)/\(scope.names.lookup slf=some .local/\scope.names.lookup prm=some .local)/\((slf==("__debug__":Str))=false/\(prm==("__debug__":Str))=false/\slf≠prm)/\
  ∀(s:Shared) (u v:Value),K.In s.heap->PySem.BindsTo s (PySem.W.fnOf name qual params [.Assign [.Attribute (.Name slf p1) fld p2] (.Name prm p3) p4] scope dV kV doc pm an cdv ct) ⟨[u,v],[]⟩ [(slf,u),(prm,v)]
section
variable {prog:Program} {w:World} {A:Around} {E:Value->Shared->Prop} {s:Shared} {K:Fg}
variable {nm q:Str} {C N e f:Addr} {bs bm:List Value} {sn:List Str} {sub:List Value} {ab:Bool} {col:Option Bool} {dd:Option Addr} {k0 k1 k2 k3 k5:Option Value} {newId:String} {slf prm fld:Str} {v:Value} {oe:Obj}
theorem MG {Q:Value->Shared->Prop} (X:K.In s.heap) (I:PC K f slf prm fld) (hlim:s.heap.NoLimit) (hroom:A.depth<recursionLimit)
  (hC:s.heap.get? C=some (excClassObj nm q C N bs bm true sn sub ab col dd k0 k1 k2 k3 k5 newId)) (T:OwnTail s.heap kS bm)
  (hsa:PySem.W.findIn K (.ref C) "__setattr__"=some (some (.builtin "object.__setattr__"))) (hfl:PySem.W.findIn K (.ref C) fld=some none)
  (he:s.heap.get? e=some oe) (hc:oe.cls=.ref C) (hdn:oe.dict=none) (hnc:∀c,oe.data≠.cls c)
  (hq:∀h' tk' dx,(∀b o,b≠e->s.heap.get? b=some o->h'.get? b=some o)->s.heap.get? dx=none->dx≠e->h'.get? e=some {cls:=oe.cls,dict:=some dx,data:=oe.data,slots:=oe.slots}->
   h'.Ns1 dx (λy=>if y=fld then some v else none)->Q .none {s with heap:=h',toks:=tk'}):
  wpAny (model prog w) A (PySem.call (.ref f) [.ref e,v]) Q E s:=by
 obtain ⟨name,qual,params,scope,dV,kV,doc,pm,cdv,ct,an,od,osl,p1,p2,p3,p4,ho,hcd,⟨hk,hco,hgen⟩,⟨l1,l2⟩,⟨d1,d2,ne⟩,hb⟩:=I;refine wpAny_call (Att.UR X hlim ho hcd hroom (hb s (.ref e) v X) ?_ (λs₁ x=>?_) hco hgen hk)
 ·simp [l1,l2]
 have k1:(envOfC qual scope s.heap.objs.size f cdv).kindOf slf=some .local:=l1;have k2:(envOfC qual scope s.heap.objs.size f cdv).kindOf prm=some .local:=l2;have m1:bindL (envOfC qual scope s.heap.objs.size f cdv).kindOf [(slf,.ref e),(prm,v)] (λ_=>none) slf=some (.ref e):=by simp [bindL,k1,k2,ne]
 have m2:bindL (envOfC qual scope s.heap.objs.size f cdv).kindOf [(slf,.ref e),(prm,v)] (λ_=>none) prm=some v:=by simp [bindL,k1,k2]
 refine wpAny_execs_cons (plainObj_wpAny_Assign_Attribute (NameLC (s₀:=s) (env:=envOfC qual scope s.heap.objs.size f cdv) x hk k2 m2 (NameLC (s₀:=s) (env:=envOfC qual scope s.heap.objs.size f cdv) x hk k1 m1 ?_ d1) d2) rfl);obtain ⟨h₁,tk,rfl,kp⟩:=x.done;have kp':∀b o,s.heap.get? b=some o->h₁.get? b=some o:=kp;obtain ⟨h0,g,dr,t0,os⟩:=s;refine FI (X.keeps kp') (kp' _ _ hC) (T.keeps kp') hsa hfl (kp' _ _ he) hc hdn hnc λh' tk' dx q1 q2 q3 q4 q5=>wpAny_execs_nil ?_;exact hq h' tk' dx (λb o hb eo=>q1 b o hb (kp' b o eo)) (by
  cases z:h0.get? dx with
  |none=>rfl
  |some o=>rw[kp' _ _ z] at q2;cases q2) q3 q4 q5
end
noncomputable def Bb (K:Fg) (C f:Addr):Bool:=match K.lookup C with
 |some ⟨.type "type",_,.cls cd,sl⟩=>(match cd.mro,sl.toList with
  | .ref C'::bm,[_,_,_,_,some (.builtin n),_]=>C'==C&&n=="ValueError.__new__"&&!cd.hasDel&&PySem.W.tailIn K kS bm&&PySem.W.nsOkIn K cd.ns&&(PySem.W.nsIn K cd.ns "__init__"==some (some (.ref f))&&cd.hasDict)
  |_,_=>false)
 |_=>false
noncomputable def yY (K:Fg) (x:Str):Addr:=match PySem.W.findIn K (.ref (clsAt K x)) "__init__" with
 |some (some (.ref f))=>f
 |_=>0
structure Cb (K:Fg) (x slf prm fld:Str):Prop where
 at_:PySem.W.nsIn K mainGlobals x=some (some (.ref (clsAt K x)))
 exc:Bb K (clsAt K x) (yY K x)=true
 sa:PySem.W.findIn K (.ref (clsAt K x)) "__setattr__"=some (some (.builtin "object.__setattr__"))
 fl:PySem.W.findIn K (.ref (clsAt K x)) fld=some none
 fn:PC K (yY K x) slf prm fld
section
variable {K:Fg}
theorem BJ {h:Heap} {N:Addr} {mg:Str->Option Value} {n:Str} {v:Value} (X:K.In h) (G:h.Ns N mg) (e:PySem.W.nsIn K N n=some (some v)):mg n=some v:=by
 obtain ⟨o,es,ep,ho,hd,_,hf⟩:=G;unfold PySem.W.nsIn at e;split at e
 ·rename_i c d es' n' sl q;have z:=X _ _ q;rw[ho] at z;cases z;cases hd;split at e
  ·rename_i en he;cases e;rw[<-hf];unfold nsFind findBy;rw[<-Array.find?_toList,he];rfl
  ·split at e<;>cases e
 ·cases e
theorem TF {C f:Addr} {h:Heap} (q:Bb K C f=true) (X:K.In h):∃bm N nm q bs sn sub ab col dd k0 k1 k2 k3 k5 mN,h.get? C=some (excClassObj nm q C N bs bm true sn sub ab col dd k0 k1 k2 k3 k5 "ValueError.__new__")/\h.Ns N mN/\mN "__init__"=some (.ref f)/\OwnTail h kS bm:=by
 unfold Bb at q;split at q
 ·rename_i dd cd sl ho;split at q
  ·rename_i C' bm k0 k1 k2 k3 n k5 hm hs;simp only [and_eq_true,beq_iff_eq,Bool.not_eq_true'] at q;obtain ⟨⟨⟨⟨⟨rfl,rfl⟩,hdel⟩,ht⟩,hok⟩,hni,hhd⟩:=q;obtain ⟨nm,bs,mro,ns,qn,hd,sn,sub,ab,col,del⟩:=cd;obtain ⟨l⟩:=sl;dsimp only at hm hs hdel hok hni hhd;subst hm hdel hs hhd;exact ⟨bm,ns,nm,qn,bs,sn,sub,ab,col,dd,k0,k1,k2,k3,k5,_,X _ _ ho,.of_isNs (PySem.W.isNs_of_in X hok),BJ X (.of_isNs (PySem.W.isNs_of_in X hok)) hni,PySem.W.tail_of_in X ht⟩
  ·cases q
 ·cases q
theorem Un.laid' {fs ex:List Addr} {H:Hp} {h h':Heap} {a:Addr} {o:HO} (k:∀b u,h.get? b=some u->h'.get? b=some u) (hp:h.get? a=none) (hn:H a=none):Un fs ex H (upd H a o) h h' where
 keep:=λb u q _ _ _=>k b u q
 slot:=λb u q _ _ _=>⟨u.slots,k b u q⟩
 free:=λb u q n _=>by rw[aF (λz=>by rw[z,hp] at q;cases q)];exact n
 there:=λb u q _=>⟨u,k b u q⟩
 tups:=λb xs q=>by rw[aF (aB q hn)];exact q
 frzs:=λb u xs q=>by rw[aF (aB q hn)];exact q
 tbls:=λb ps q=>⟨#[],by rw[aF (aB q hn),q];simp⟩
theorem eG.none_of {P:Program} {w:World} {H:Hp} {h:Heap} {a:Addr} (x:eG P w H h) (e:h.get? a=none):H a=none:=by
 cases q:H a with
 |none=>rfl
 |some o=>
  obtain ⟨u,hu⟩:=oJ (x a o q);rw[e] at hu;cases hu
theorem eG.laid' {P:Program} {w:World} {H:Hp} {h h':Heap} {a:Addr} {o:HO} (x:eG P w H h) (k:∀b u,h.get? b=some u->h'.get? b=some u) (hn:H a=none) (new:aY P w (upd H a o) h' a o):eG P w (upd H a o) h':=λb u e=>by
 by_cases hb:b=a
 ·subst hb;rw[aA] at e;cases e;exact new
 ·rw[aF hb] at e;exact (x b u e).stay (λc v _ q=>k c v q) (λc q=>by rw[aF (aB q hn)];exact q) λc xs q=>by rw[aF (aB q hn)];exact q
noncomputable def one (P:V->Hp->Prop):List V->Hp->Prop
 |[v],H=>P v H
 |_,_=>False
theorem ZN {P:V->Hp->Prop} {vs:List V} {H:Hp} (h:one P vs H):∃v,vs=[v]/\P v H:=by
 cases vs with
 |nil=>exact h.elim
 |cons x xs=>
  cases xs with
  |nil=>exact ⟨x,rfl,h⟩
  |cons _ _=>exact h.elim
noncomputable def BA (x slf prm fld:Str) (a:EX K):SX K where
 t:=λE _ σ H=>a.t E σ H λv H1=>∀dx,H1 dx=none->E σ (.ref (clsAt K x)) (some dx) (upd H1 dx (.xd [(fld,v)]))
 m:=λC s=>match s with
  | .Raise (some (.Call (.Name y _) es [] _)) none _=>(C.cm&&rD C x y)&&jX [a] C es
  |_=>false
 q:=λR=>(R.mg x=some (.ref (clsAt K x))/\Cb K x slf prm fld/\∃k,cG k R.A)/\a.q R
 ok:=λX C E s hK G hE hq hm=>by
  subst hK;split at hm
  ·rename_i y py es p pos;simp only [and_eq_true] at hm;obtain ⟨⟨hcm,h1⟩,h2⟩:=hm;have e:=cC h1;subst e;obtain ⟨g,d⟩:=cB G h1;obtain ⟨⟨hg,ek,kk,rm⟩,hqa⟩:=hq;cases es with
   |nil=>cases h2
   |cons e es=>
    intro pins s σ H D I h;have st:=aX (env:=X.env) (es:=es) (a.sok C e (aG h2).1);have pl:=bH (env:=X.env) (pos:=p) [] es (aG h2).2;obtain ⟨bm,N,nm,q,bs,sn,sub,ab,col,dd,k0,k1,k2,k3,k5,mN,hC,hN,hi,T⟩:=TF ek.exc I.ok.mod.kin;refine yD (C:=clsAt X.K y) (nm:=nm) (q:=q) (N:=N) (bs:=bs) (bm:=bm) (hdct:=true) (sn:=sn) (sub:=sub) (ab:=ab) (col:=col) (dd:=dd) (k0:=k0) (k1:=k1) (k2:=k2) (k3:=k3) (k5:=k5)
     PySem.F.excBase_ValueError (mN:=mN) (T.hasType PySem.F.excBase_ValueError.hasBase) (I.ok.hd (G.calm hcm)) (by rw[st];exact pl) hi (jB I g hg ⟨rfl,?_⟩ d)
    have ev:=dR G hE [a] (e::es) (show sQ [a] (dX X) from ⟨hqa,trivial⟩) h2 p pins s σ H (one λv H1=>∀dx,H1 dx=none->E σ (.ref (clsAt X.K y)) (some dx) (upd H1 dx (.xd [(fld,v)]))) I h;rw[st] at ev ⊢;refine Calls.evalArgs_plain (wpAny_mono ev (λus s1 z=>?_) λ_ _ z=>z);obtain ⟨vs,H1,I1,r1,w1⟩:=z;obtain ⟨v,rfl,w1⟩:=ZN w1;obtain ⟨u,rfl,r2⟩:=r1.one;obtain ⟨name,qual,params,scope,dV,kV,doc,pm,cdv,ct,an,od,osl,p1,p2,p3,p4,ho,_⟩:=ek.fn;refine ⟨rfl,by simp [sizeLine_eq],I1.bk _ _ hC,hN.keeps I1.bk,T.keeps I1.bk,⟨_,I1.kIn _ _ ho,rfl⟩,λh' e' mk=>?_⟩;obtain ⟨t,eo,_,_⟩:=mk.there;have kp:∀b o,s1.heap.get? b=some o->h'.get? b=some o:=mk.keeps;refine MG (s:={s1 with heap:=h'}) (I1.kIn.keeps kp) ek.fn (I1.nolimit.keeps kp) ?_ (kp _ _ (I1.bk _ _ hC)) ((T.keeps I1.bk).keeps kp) ek.sa ek.fl eo rfl rfl (λc z=>by cases z) λh2 tk dx q1 q2 q3 q4 q5=>?_
    ·rw[pO];have z:X.A.depth+3 * kk+5<recursionLimit:=rm.dp;lia
    have q1':∀b o,s1.heap.get? b=some o->h2.get? b=some o:=λb o z=>q1 b o (λy=>by rw[y,mk.new] at z;cases z) (kp b o z);have n1:s1.heap.get? dx=none:=by
     cases z:s1.heap.get? dx with
     |none=>rfl
     |some o=>rw[kp _ _ z] at q2;cases q2
    have n2:=eG.none_of I1.hok n1;refine ⟨rfl,q1' _ _ (I1.bk _ _ hC),⟨_,_,q4,rfl,rfl,rfl⟩,?_⟩;refine hE.made pins σ H1 _ s1 {s1 with heap:=h2,toks:=tk} e' _ _ I1 rfl I1.bare (Un.laid' q1' n1 n2) (eG.laid' I1.hok q1' n2 ?_) mk.new ?_ q4 rfl rfl (w1 dx n2)
    ·refine ⟨_,q5,λf=>?_⟩;by_cases hf:f=fld
     ·subst hf;simp [iW];exact r2
     ·have hb:(f==fld)=false:=beq_eq_false_iff_ne.mpr hf;simp [hb,hf,iW,List.lookup]
    ·rw[aF q3.symm];exact eG.none_of I1.hok mk.new
  ·cases hm
end
section
variable {K:Fg} {X:Cx} {pins:List (Addr × Obj)} {σ:St} {H:Hp} {s:Shared}
theorem Aa {x slf prm fld name qual:Str} {C f:Addr} {params:Arguments} {scope:Scope} {dV kV doc pm cdv ct:Value} {an od:Option Addr} {osl:Array (Option Value)} {p1 p2 p3 p4:Pos}
  (h1:PySem.W.nsIn K mainGlobals x=some (some (.ref C))) (h2:PySem.W.findIn K (.ref C) "__init__"=some (some (.ref f)))
  (l:K.lookup f=some ⟨.type "function",od,.func (PySem.W.fnOf name qual params [.Assign [.Attribute (.Name slf p1) fld p2] (.Name prm p3) p4] scope dV kV doc pm an cdv ct),osl⟩) (c:PySem.W.codeIn K cdv qual=true)
  (s:scope.kind=.function/\scope.isCoroutine=false/\scope.isGenerator=false) (n:scope.names.lookup slf=some .local/\scope.names.lookup prm=some .local) (d:(slf==("__debug__":Str))=false/\(prm==("__debug__":Str))=false/\slf≠prm)
  (b:∀(s:Shared) (u v:Value),K.In s.heap->PySem.BindsTo s (PySem.W.fnOf name qual params [.Assign [.Attribute (.Name slf p1) fld p2] (.Name prm p3) p4] scope dV kV doc pm an cdv ct) ⟨[u,v],[]⟩ [(slf,u),(prm,v)]):PC K (yY K x) slf prm fld:=by
 have e1:clsAt K x=C:=by unfold clsAt;rw[h1]
 have e2:yY K x=f:=by unfold yY;rw[e1,h2]
 rw[e2];exact ⟨name,qual,params,scope,dV,kV,doc,pm,cdv,ct,an,od,osl,p1,p2,p3,p4,l,c,s,n,d,b⟩
end
section
variable {K:Fg}
section
variable {E:XS} {σ:St} {H:Hp} {Q:VK} {a b:EX K} {D:Ends}
theorem zH {x slf prm fld:Str} (h:a.t E σ H λv H1=>∀dx,H1 dx=none->E σ (.ref (clsAt K x)) (some dx) (upd H1 dx (.xd [(fld,v)]))):(BA x slf prm fld a).t E D σ H:=h
theorem MN {x:Str} {as:List (EX K)} (h:fY (a::as) E σ H λvs H1=>vs.length<=sizeLine/\E σ (.ref (clsAt K x)) none H1):(raiseO x a as).t E D σ H:=h
end
end
open PySem.Builtin PySem.Builtin.Str
section
variable {K:Fg}
noncomputable def iF:Str->List V->Hp->VK->Prop
 |z,[.str y],H,Q=>Q (.bl (Txt.startswith z y)) H
 |_,_,_,_=>False
theorem GL {X:Cx}:Bx X "str.startswith" (rS iF):=by
 intro pins s σ H x xs v us Q I rx rs q;cases x with
 |str z=>
  have q':iF z xs H Q:=q;unfold iF at q';split at q'
  ·obtain ⟨t,rfl⟩:=rx;obtain ⟨u,rfl,ru⟩:=rs.one;obtain ⟨t2,rfl⟩:=ru;exact SC.startswith ⟨.bl _,H,I,rfl,q'⟩
  ·exact q'.elim
 |_=>exact q.elim
noncomputable def m_startswith (o a:EX K) (ho:o.s≠.zc:=by intro z;cases z):EX K:=yT "startswith" "str.startswith" iF PySem.F.slot_str_startswith PySem.F.type_str_startswith (λ_ _ _ _=>GL) o ho [a]
noncomputable def RD (r:V->List V->Hp->VK->Prop) (t:TA):V->St->Hp->VK->Prop
 | .ref p,σ,H,Q=>(∃kvs,H p=some (.dK kvs))/\t σ H λys H2=>r (.ref p) ys H2 Q
 |_,_,_,_=>False
noncomputable def sP:V->List V->Hp->VK->Prop
 | .ref a,[y,d],H,Q=>∃o,eY H a y o/\Q (o.getD d) H
 |_,_,_,_=>False
theorem SI {X:Cx} (hu:X.A.units+1<cLine):Bx X "dict.get" sP:=by
 intro pins s σ H x xs v us Q I rx rs q;unfold sP at q;split at q
 ·obtain ⟨o,g,q⟩:=q;obtain ⟨u,w',rfl,r1,r2⟩:=rs.two;cases rx;exact Bh hu I g r1 r2 λw' s' I' rw'=>⟨_,H,I',rw',q⟩
 ·exact q.elim
noncomputable def VW (o a b:EX K) (ho:o.s≠.zc:=by intro z;cases z):EX K:=LP "get" "dict" "dict.get" sP (RD sP) PySem.F.plainAttrs_dict PySem.F.slot_dict_get PySem.F.type_dict_get (λX _ _ hu=>SI (by lia)) (λt x σ H Q h=>by
  cases x with
  |ref p=>exact ⟨.inr (.inr (.inl ⟨rfl,.inl h.1⟩)),h.2⟩
  |_=>exact h.elim) o ho [a,b]
section
variable {E:XS} {σ:St} {H:Hp} {Q:VK} {D:Ends} {QB:Bool->Hp->Prop} {v:V} {i j:Int} {n:Nat} {a b c:EX K}
theorem ML {ho:a.s≠.zc} (h:a.t E σ H λx H1=>RS iF (fY [b] E) x σ H1 Q):(m_startswith a b ho).t E σ H Q:=h
theorem Hb {ho:a.s≠.zc} (h:a.t E σ H λx H1=>RD sP (fY [b,c] E) x σ H1 Q):(VW a b c ho).t E σ H Q:=h
theorem Lk {r:V->List V->Hp->VK->Prop} {t:TA} {p:Addr} {kvs:List (Key × V)} (c:H p=some (.dK kvs)) (h:t σ H λys H2=>r (.ref p) ys H2 Q):RD r t (.ref p) σ H Q:=⟨⟨kvs,c⟩,h⟩
theorem MT {p:Addr} {y d:V} {o:Option V} (g:eY H p y o) (h:Q (o.getD d) H):sP (.ref p) [y,d] H Q:=⟨o,g,h⟩
theorem TN {p:Addr} {x:V} {xs:List V} (c:aR K H p xs) (f1:iN x=true) (f2:xs.all iN=true) (h:QB (!Ge x xs) H):rB (gE K .NotIn) x (.ref p) H QB:=by
 cases x<;>first|exact ⟨p,xs,rfl,.inl c,f1,f2,h⟩|cases f1
theorem Hf {p q:Addr} {n:Nat} (hn:n<=40) (e:PF n H p q) (h:Q (.bl true) H):gE K .Eq (.ref p) (.ref q) H Q:=.inr (.inl ⟨p,q,n,rfl,rfl,hn,e,h⟩)
theorem Fu {p q:Addr} {n:Nat} (hn:n<=40) (e:PF n H p q) (h:QB false H):rB (gE K .NotEq) (.ref p) (.ref q) H QB:=.inr (.inl ⟨p,q,n,rfl,rfl,hn,e,h⟩)
theorem MX {p q:Addr} {xs ys:List V} (h1:H p=some (.lst xs)) (h2:H q=some (.lst ys)) (hz:xs.length+ys.length<=sizeLine) (h:∀r,H r=none->Q (.ref r) (upd H r (.lst (xs++ys)))):lT K .Add (.ref p) (.ref q) H Q:=
 .inl ⟨p,q,xs,ys,rfl,rfl,h1,h2,hz,h⟩
theorem DY {p:Addr} {xs:List V} {k:Int} (h1:H p=some (.lst xs)) (h2:-(2 ^ 63)<=k/\k<2 ^ 63) (hz:xs.length * k.toNat<=sizeLine) (h:∀r,H r=none->Q (.ref r) (upd H r (.lst (replicate k.toNat xs).flatten))):lT K .Mult (.ref p) (.int k) H Q:=
 ⟨p,k,xs,rfl,rfl,h1,h2.1,h2.2,hz,h⟩
theorem qR {p r:Addr} {xs ys:List V} {te:TE} {is:List Nat} {D:Addr} (f:V->V->V) (hp:aR K H p xs) (hr:aR K H r ys) (hD:H D=none) (hz:xs.length<=sizeLine)
  (step:∀(i:Nat) (x y:V) (H1:Hp) (Q':VK),xs[i]?=some x->ys[i]?=some y->aC H H1->(∀H3,aC H1 H3->Q' (f x y) H3)->te (some x::some y::fQ is σ) H1 Q')
  (fin:∀H1,aC H H1->H1 D=some (.lst (zipWith f xs ys))->Q (.ref D) H1):aV (Jd K p r) (IT [0,1]:TX K).g (cT (none:Option (EX K))) te 2 is σ D H Q:=by
 refine ⟨λi m σ' H1=>m=min xs.length ys.length - i/\i<=min xs.length ys.length/\(∃a b,σ'=a::b::fQ is σ)/\aC H H1/\H1 D=some (.lst ((zipWith f xs ys).take i)),⟨_,rfl,zero_le _,⟨none,none,rfl⟩,λb o e=>by rw[aF (aB e hD)];exact e,by rw[aA,take_zero]⟩,?_⟩;rintro i m σ' H1 ⟨rfl,hi,⟨a,b,rfl⟩,hS,hO⟩;have hp1:=hS.seq hp;have hr1:=hS.seq hr;by_cases hlt:i<min xs.length ys.length
 ·have l1:i<xs.length:=by lia
  have l2:i<ys.length:=by lia
  refine .inr ⟨⟨xs,ys,xs[i],ys[i],hp1,hr1,getElem?_eq_getElem l1,getElem?_eq_getElem l2⟩,?_⟩;rintro v H' ⟨t,x,y,ht,rfl,rfl,hx,hy⟩;have hx1:=hx _ hp1;have hy1:=hy _ hr1;have s1:aC H1 (upd H1 t (.tup [x,y])):=λc o e=>by rw[aF (aB e ht)];exact e
  refine qE (cZ.of aA) ?_;refine ⟨λ_=>?_,λz=>nomatch z⟩;refine step i x y _ _ hx1 hy1 (hS.trans s1) λH3 s3=>?_;refine ⟨_,s3 _ _ (s1 _ _ hO),?_,min xs.length ys.length - (i+1),by lia,rfl,hlt,⟨_,_,rfl⟩,λc o q=>?_,?_⟩
  ·rw[length_take];lia
  ·rw[aF (aB q hD)];exact s3 _ _ (s1 _ _ (hS c o q))
  ·rw[aA,take_add_one,getElem?_zipWith,hx1,hy1];rfl
 ·have e:i=min xs.length ys.length:=by lia
  subst e;refine .inl ⟨⟨xs,ys,hp1,hr1,by lia⟩,fin H1 hS ?_⟩;rw[hO,take_of_length_le (by rw[length_zipWith];exact Nat.le_refl _)]
end
end
section
variable {K:Fg} {σ:St} {H:Hp} {Q:VK}
theorem qS {J:It} {P:Hp->Prop} {items:List V} (Y:Yl J P items) {te:TE} {is:List Nat} {D:Addr} (R:Nat->V->Hp->Prop) (hD:H D=none) (hP:∀H1,aC H H1->P H1) (hz:items.length<=sizeLine)
  (mono:∀i y H1 H2,(∀b o,b≠D->H1 b=some o->H2 b=some o)->R i y H1->R i y H2)
  (step:∀(i:Nat) (x:V) (H1:Hp) (Q':VK),items[i]?=some x->aC H H1->(∃o,H1 D=some o)->(∀y H3,aC H1 H3->R i y H3->Q' y H3)->te (some x::fQ is σ) H1 Q')
  (fin:∀H1 ys,aC H H1->H1 D=some (.lst ys)->ys.length=items.length->(∀i y,ys[i]?=some y->R i y H1)->Q (.ref D) H1):aV J (jA 0:TX K).g (cT (none:Option (EX K))) te 1 is σ D H Q:=by
 refine ⟨λi m σ' H1=>m=items.length - i/\i<=items.length/\(∃a,σ'=a::fQ is σ)/\aC H H1/\∃ys:List V,H1 D=some (.lst ys)/\ys.length=i/\∀j y,ys[j]?=some y->R j y H1,⟨items.length,by simp,zero_le _,⟨none,rfl⟩,λb o e=>by rw[aF (aB e hD)];exact e,[],aA,rfl,λj y z=>by simp at z⟩,?_⟩;rintro i m σ' H1 ⟨rfl,hi,⟨a,rfl⟩,hS,ys,hO,hl,hr⟩;have p:=hP H1 hS;by_cases hlt:i<items.length
 ·refine .inr ⟨Y.go i H1 p hlt,λx H' hy=>?_⟩;obtain ⟨e,hx⟩:=Y.yld i H1 x H' p hlt hy;subst e;refine ⟨λ_=>?_,λz=>nomatch z⟩;refine step i x H' _ hx hS ⟨_,hO⟩ λy H3 s3 hy3=>?_;refine ⟨ys,s3 _ _ hO,by rw[hl];lia,items.length - (i+1),by lia,rfl,hlt,⟨_,rfl⟩,λb o q=>?_,ys++[y],aA,by rw[length_append,hl];rfl,λj y' hj=>?_⟩
  ·rw[aF (aB q hD)];exact s3 _ _ (hS b o q)
  ·by_cases hj2:j<ys.length
   ·rw[getElem?_append_left hj2] at hj;exact mono j y' H' _ (λb o hb q=>by rw[aF hb];exact s3 _ _ q) (hr j y' hj)
   ·rw[getElem?_append_right (by lia)] at hj;have e0:j - ys.length=0:=by
     have:=(List.getElem?_eq_some_iff.mp hj).1;simp at this;lia
    rw[e0] at hj;have e1:y=y':=by simpa using hj
    subst e1;have e2:j=i:=by lia
    subst e2;exact mono j y H3 _ (λb o hb q=>by rw[aF hb];exact q) hy3
 ·have e:i=items.length:=by lia
  subst e;exact .inl ⟨Y.stop H1 p,fin H1 ys hS hO hl hr⟩
theorem HL {p:Addr} {xs:List V} {te:TE} {is:List Nat} {D:Addr} (R:Nat->V->Hp->Prop) (hp:cZ K H p xs) (hD:H D=none) (hz:xs.length<=sizeLine)
  (mono:∀i y H1 H2,(∀b o,b≠D->H1 b=some o->H2 b=some o)->R i y H1->R i y H2)
  (step:∀(i:Nat) (x:V) (H1:Hp) (Q':VK),xs[i]?=some x->aC H H1->(∃o,H1 D=some o)->(∀y H3,aC H1 H3->R i y H3->Q' y H3)->te (some x::fQ is σ) H1 Q')
  (fin:∀H1 ys,aC H H1->H1 D=some (.lst ys)->ys.length=xs.length->(∀i y,ys[i]?=some y->R i y H1)->Q (.ref D) H1):aV (Jf K p) (jA 0:TX K).g (cT (none:Option (EX K))) te 1 is σ D H Q:=qS (WU (xs:=xs)) R hD (xS hp) hz mono step fin
theorem jD {p:Addr} {xs:List V} {te:TE} {is:List Nat} {D:Addr} (f:Nat->V) (hp:aR K H p xs) (hD:H D=none) (hz:xs.length<=sizeLine)
  (step:∀(i:Nat) (x:V) (H1:Hp) (Q':VK),xs[i]?=some x->aC H H1->(∀H3,aC H1 H3->Q' (f i) H3)->te (some x::fQ is σ) H1 Q')
  (fin:∀H1,aC H H1->H1 D=some (.lst ((range xs.length).map f))->Q (.ref D) H1):aV (UZ K p) (jA 0:TX K).g (cT (none:Option (EX K))) te 1 is σ D H Q:=lC (dU (xs:=xs)) f hD (λH1 hS=>hS.seq hp) hz step fin
end
noncomputable def Je (K:Fg) (a:Addr) (n:Nat):It:=
 ⟨λi H=>i<n/\∃xs x,aR K H a xs/\xs[n - 1 - i]?=some x,λi H x H'=>H'=H/\∀xs,aR K H a xs->xs[n - 1 - i]?=some x,λi _=>i=n⟩
theorem IZ {P:Program} {w:World} {K:Fg} {tg:Expr} (a it:Addr) (n:Nat):Turn P w K tg (Je K a n) [it] it (λi h=>h.IsRevIter it a ((n:Int) - 1 - (i:Int))) where
 mem:=by simp
 obj:=λi h st b hb=>by
  have e:b=it:=by simpa using hb
  subst e;obtain ⟨o,e,c,d⟩:=st;exact ⟨o,e,λv z=>by rw[d] at z;cases z⟩
 keep:=λi h h' st k=>st.at λo e=>k it (by simp) o e
 item:=by
  intro X hP hw hK hc i pins s σ H E I hf st hg;subst hP hw hK;obtain ⟨hi,xs,x,hq,hx⟩:=hg;obtain ⟨its,rv,p,hz⟩:=I.list hq;obtain ⟨u,hu,ru⟩:=rv.get hx;obtain ⟨f0,f1,f2,f3,f4,f5⟩:=hf it (by simp);have e:(n:Int) - 1 - (i:Int)=((n - 1 - i:Nat):Int):=by lia
  rw[e] at st;refine wpAny_pyNext_rev_item st p.isList (x:=u) (by simpa using hu) λh' st' sb=>?_;have I1:Inv X pins σ H {s with heap:=h'}:=I.turned (t':=s.toks) (λb o hb e=>(sb.2 b hb).trans e) f0 f1 f3 f4 f5;have e2:((n - 1 - i:Nat):Int) - 1=(n:Int) - 1 - ((i+1:Nat):Int):=by lia
  rw[e2] at st';obtain ⟨o,e,c,d⟩:=id st';exact ⟨u,rfl,qI (s:={s with heap:=h'}) e c d (by decide) ⟨x,H,I1,ru,⟨rfl,λys hy=>by rw[I.list_inj hy hq];exact hx⟩,st',λb hb=>(hf b hb).1⟩⟩
 done:=by
  intro X hP hw hK hc i pins s σ H E I hf st hg;subst hP hw hK;have hg:i=n:=hg;subst hg;obtain ⟨f0,f1,f2,f3,f4,f5⟩:=hf it (by simp);have e:(i:Int) - 1 - (i:Int)=-1:=by lia
  rw[e] at st;exact wpAny_pyNext_rev_end (I.ok.hd hc) st λh' eb=>⟨rfl,I.turned (t':=s.toks) (λb o hb e=>eb b o hb e) f0 f1 f3 f4 f5⟩
 self:=λ_ _ _ _ _ st h=>wpAny_pyIter_revIter st h
theorem WW {K:Fg} {a:Addr} {xs:List V}:Yl (Je K a xs.length) (λH=>aR K H a xs) xs.reverse where
 go:=λi H p h=>by
  rw[length_reverse] at h;exact ⟨h,xs,xs[xs.length - 1 - i],p,getElem?_eq_getElem (by lia)⟩
 yld:=λi H x H' p hi h=>⟨h.1,by
  rw[length_reverse] at hi
  rw[List.getElem?_reverse hi]
  exact h.2 xs p⟩
 stop:=λH p=>by
  show xs.reverse.length=xs.length;exact length_reverse
section
variable {K:Fg}
noncomputable def yE (K:Fg):List V->Hp->(It->Hp->Prop)->Prop
 |[.ref p],H,R=>∃xs,aR K H p xs/\R (Je K p xs.length) H
 |_,_,_=>False
noncomputable def Hl (a:EX K):IX K where
 t:=λE σ H R=>fY [a] E σ H λvs H1=>yE K vs H1 R
 tm:=λ_=>true
 m:=λC e=>match e with
  | .Call (.Name y _) es [] _=>rD C "reversed" y&&jX [a] C es
  |_=>false
 q:=λR=>sQ [a] R
 ok:=λX C E tg e hK G hE hq _ hm=>by
  subst hK;cases e with
  |Call f es ks p=>
   cases f with
   |Name y py=>
    cases ks with
    |nil=>
     simp only [and_eq_true] at hm;obtain ⟨h1,h2⟩:=hm;have e:=cC h1;subst e;obtain ⟨g,d⟩:=cB G h1;cases es with
     |nil=>cases h2
     |cons e es=>
      intro pins s σ H R I h;refine Call_ (fM I g (G.bl _ (by decide+kernel)) PyProof.Rows.Boot.reversed (PyProof.Rows.callWith_type1 (bT (dR G hE [a] (e::es) hq h2 p pins s σ H _ I h) λus s1 ⟨vs,H1,I1,r1,q1⟩=>?_) (aX (a.sok C e (aG h2).1)) (bH [] es (aG h2).2)));replace q1:yE X.K vs H1 R:=q1;unfold yE at q1;split at q1
      ·rename_i p1;obtain ⟨u,rfl,ru⟩:=r1.one;cases ru;obtain ⟨xs,hx,q⟩:=q1;obtain ⟨ia,ra,pa,_⟩:=I1.list hx;refine call_reversed_list pa.isList ?_;have hl:((ia.toArray.size:Nat):Int) - 1=(xs.length:Int) - 1 - ((0:Nat):Int):=by rw[size_toArray,<-ra.length];lia
       have st:({s1 with heap:=s1.heap.push (revObj p1 ((ia.toArray.size:Int) - 1))}:Shared).heap.IsRevIter s1.heap.objs.size p1 ((xs.length:Int) - 1 - ((0:Nat):Int)):=⟨_,get?_push_size _ rfl,rfl,by rw[<-hl];rfl⟩;refine wpAny_pyIter_revIter st ?_;refine ⟨s1.heap.objs.size,[s1.heap.objs.size],_,_,H1,rfl,I1.kept (t':=s1.toks) λb o e=>get?_push_of_some _ e,IZ p1 _ xs.length,st,λb hb=>?_,q⟩;have e:b=s1.heap.objs.size:=by simpa using hb
       subst e;exact I1.fpOk (Nat.le_refl _) (I1.hok.fresh (Nat.le_refl _))
      ·exact q1.elim
    |cons _ _=>cases hm
   |_=>exact ff hm
  |_=>exact ff hm
 fs:=λC e env x hm=>by cases e with|Call f es ks p=>rfl|_=>exact ff hm
section
variable {E:XS} {σ:St} {H:Hp} {Q:VK} {D:Ends} {a c:EX K} {bd:List (SX K)}
theorem Af {R:It->Hp->Prop} (h:a.t E σ H λx H1=>yE K [x] H1 R):(Hl a).t E σ H R:=h
theorem Ae {R:It->Hp->Prop} {p:Addr} {xs:List V} (c:aR K H p xs) (h:R (Je K p xs.length) H):yE K [.ref p] H R:=⟨xs,c,h⟩
theorem LW {p:Addr} {xs:List V} {g:TG} {tb:TS} (Pv:Nat->St->Hp->Prop) (h0:Pv 0 σ H) (hl:∀i σ H,Pv i σ H->aR K H p xs)
  (hs:∀i x σ H,xs.reverse[i]?=some x->Pv i σ H->g x σ H λσ2 H2=>tb {D with nx:=Pv (i+1),ct:=Pv (i+1),bk:=D.nx} σ2 H2) (hd:∀σ H,Pv xs.length σ H->D.nx σ H):mY (Je K p xs.length) g tb D σ H:=
 nY WW Pv h0 (λi σ H _ q=>hl i σ H q) hs (λσ H q=>hd σ H (by rw[length_reverse] at q;exact q))
theorem kT (W:Nat->St->Hp->Prop) {m:Nat} (h0:W m σ H)
  (hs:∀m σ H,W m σ H->c.tt E σ H λb H1=>br b (∃N:St->Hp->Prop,(∀σ' H',N σ' H'->∃m',m'<m/\W m' σ' H')/\lJ bd E {D with nx:=N,ct:=N,bk:=D.nx} σ H1) (D.nx σ H1)):(Cg c bd).t E D σ H:=⟨W,⟨m,h0⟩,hs⟩
theorem xE {W:Nat->St->Hp->Prop} {m:Nat} {tb:TS} (h:tb {D with nx:=λσ' H'=>∃m',m'<m/\W m' σ' H',ct:=λσ' H'=>∃m',m'<m/\W m' σ' H',bk:=D.nx} σ H):
  ∃N:St->Hp->Prop,(∀σ' H',N σ' H'->∃m',m'<m/\W m' σ' H')/\tb {D with nx:=N,ct:=N,bk:=D.nx} σ H:=⟨_,λ_ _ z=>z,h⟩
end
end
noncomputable def TT {K:Fg} (sp:Sp) (b:List (SX K)) (N:List Str):Prop:=∀(vs:List V) (H:Hp) (Q:VK) (E:XK),sp vs H Q E->lJ b (λ_=>E) {nx:=λ_ H'=>Q .non H',rt:=Q} (start N vs) H
end L2.Na
set_option compiler.extract_closed false
set_option hygiene false in
local macro_rules | `(tactic| walk_at "t") => `(tactic| (with_reducible first | refine L2.Na.mU ?_ | refine L2.Na.Gs ?_ | refine L2.Na.sW ?_ | refine L2.Na.Gk ?_ | refine L2.Na.Lh ?_ | refine L2.Na.Le ?_ | refine L2.Na.zJ ?_ | refine L2.Na.Ha ?_ | refine L2.Na.WE ?_ | refine L2.Na.MY ?_ | refine L2.Na.oA ?_ | refine L2.Na.vZ ?_ | refine L2.Na.EA ?_ | refine L2.Na.VZ ?_ | refine L2.Na.Hi ?_ | refine L2.Na.Fv ?_ | refine L2.Na.Lf ?_ | refine L2.Na.Lg ?_ | refine L2.Na.He ?_ | refine L2.Na.Gz ?_ | refine L2.Na.Kx ?_ | refine L2.Na.Ky ?_ | refine L2.Na.Kz ?_ | refine L2.Na.La ?_ | refine L2.Na.Kw ?_ | refine L2.Na.Ft ?_ | refine L2.Na.Fs ?_ | refine L2.Na.Gr ?_ | refine L2.Na.MK ?_ | refine L2.Na.Hj ?_ | refine L2.Na.Fy ?_ | refine L2.Na.Kv ?_ | refine L2.Na.Ap ?_ | refine L2.Na.ZW ?_ | refine L2.Na.Ao ?_ | refine L2.Na.WC ?_ | refine L2.Na.Gg ?_ | refine L2.Na.Hk ?_ | refine L2.Na.Gv ?_ | refine L2.Na.Ah ?_ | refine L2.Na.Gy ?_ | refine L2.Na.TL ?_ | refine L2.Na.MH ?_ | refine L2.Na.HA ?_ | refine L2.Na.MV ?_ | refine L2.Na.TR ?_ | refine L2.Na.MI ?_ | refine L2.Na.Ld ?_ | refine L2.Na.Gh ?_ | refine L2.Na.Lc ?_ | refine L2.Na.Lb ?_ | refine L2.Na.Gm ?_ | refine L2.Na.MQ ?_ | refine L2.Na.MJ ?_ | refine L2.Na.Ai ?_ | refine L2.Na.UB ?_ | refine L2.Na.TV ?_ | refine L2.Na.MZ ?_ | refine L2.Na.Lj ?_ | refine L2.Na.ME ?_ | refine L2.Na.BR ?_ | refine L2.Na.MW ?_ | refine L2.Na.Hc ?_ | refine L2.Na.Gj ?_ | refine L2.Na.Aj ?_ | refine L2.Na.Gx ?_ | refine L2.Na.An ?_ | refine L2.Na.UC ?_ | refine L2.Na.Ac ?_ | refine L2.Na.DZ ?_ | refine L2.Na.ML ?_ | refine L2.Na.Hb ?_ | refine L2.Na.Gf ?_))
local macro_rules | `(tactic| walk_at "s") => `(tactic| first
 | ((with_reducible refine L2.Na.zG (v := ?v) ?h1 ?_); (case h1 => exact rfl))
 | walk_at "t"
 | ((with_reducible refine L2.Na.Gu ?h1 ?_); (case h1 => first | exact Or.inl ⟨by omega, by omega⟩ | exact Or.inr ⟨by omega, by omega⟩))
 | ((with_reducible refine L2.Na.Hg ?h1 ?_); (case h1 => exact ⟨by omega, by omega⟩))
 | ((with_reducible refine L2.Na.WA ?h1 ?_); (case h1 => omega))
 | ((with_reducible refine L2.Na.Ad ?h1 ?_); (case h1 => exact ⟨by omega, by omega⟩))
 | ((with_reducible refine L2.Na.vX (xs := ?xs) ?h1 ?_); (case h1 => assumption))
 | ((with_reducible refine L2.Na.MS (xs := ?xs) ?h1 ?_); (case h1 => assumption))
 | ((with_reducible refine L2.Na.VY ?h1 ?_); (case h1 => rfl)))
local macro_rules | `(tactic| walk_at "") => `(tactic| repeat (walk_at "s"))
namespace L2.Na
open PySem PySem.Spec PyProof.Rows L2 L2.L3
section
variable {K:Fg} {σ:St} {H:Hp} {Q:VK}
theorem NU {p:Addr} {xs:List V} {te:TE} {is:List Nat} {D:Addr} (f U W:Nat->V) (hp:aR K H p xs) (hx:∀(i:Nat) (x:V),xs[i]?=some x->∃t,x=.ref t/\cZ K H t [U i,W i]) (hD:H D=none) (hz:xs.length<=sizeLine)
  (step:∀(i:Nat) (H1:Hp) (Q':VK),i<xs.length->aC H H1->(∀H3,aC H1 H3->Q' (f i) H3)->te (some (U i)::some (W i)::fQ is σ) H1 Q')
  (fin:∀H1,aC H H1->H1 D=some (.lst ((range xs.length).map f))->Q (.ref D) H1):aV (UZ K p) (IT [0,1]:TX K).g (cT (none:Option (EX K))) te 2 is σ D H Q:=by
 refine ⟨λi m σ' H1=>m=xs.length - i/\i<=xs.length/\(∃a b,σ'=a::b::fQ is σ)/\aC H H1/\H1 D=some (.lst ((range i).map f)),⟨xs.length,by simp,zero_le _,⟨none,none,rfl⟩,λb o e=>by rw[aF (aB e hD)];exact e,aA⟩,?_⟩;rintro i m σ' H1 ⟨rfl,hi,⟨a,b,rfl⟩,hS,hO⟩;have hp1:=hS.seq hp;by_cases hlt:i<xs.length
 ·refine .inr ⟨(dU (xs:=xs)).go i H1 hp1 hlt,λx H' hy=>?_⟩;obtain ⟨e,hx1⟩:=(dU (xs:=xs)).yld i H1 x H' hp1 hlt hy;subst e;obtain ⟨t,rfl,ht⟩:=hx i x hx1;refine qE (xS ht _ hS) ?_;refine ⟨λ_=>?_,λz=>nomatch z⟩;refine step i H' _ hlt hS λH3 s3=>?_;refine ⟨_,s3 _ _ hO,by rw[length_map,length_range];lia,xs.length - (i+1),by lia,rfl,hlt,⟨_,_,rfl⟩,λb o q=>?_,?_⟩
  ·rw[aF (aB q hD)];exact s3 _ _ (hS b o q)
  ·rw[aA,range_succ,map_append];rfl
 ·have e:i=xs.length:=by lia
  subst e;exact .inl ⟨(dU (xs:=xs)).stop H1 hp1,fin H1 hS hO⟩
end
end L2.Na
namespace PySem
namespace F
end F
section
variable {prog:Program} {w:World} {A:Around} {E:Value->Shared->Prop} {s:Shared}
end
end PySem
namespace L2.Na
open PySem PySem.Spec PyProof.Rows L2 L2.L3
section
variable {K:Fg}
section
variable {E:XS} {σ:St} {H:Hp} {a:EX K}
end
end
noncomputable def Jr (d:Addr) (o:Obj) (kvs:List (Key × V)):It:=⟨λi H=>H d=some (.frz o (.dK kvs))/\i<kvs.length,λi H x H'=>H'=H/\∃kv,kvs[i]?=some kv/\x=kV kv.1,λi H=>H d=some (.frz o (.dK kvs))/\i=kvs.length⟩
theorem MD {k:Key} {u:Value} (h:kU k u=true):RelV (kV k) u:=by
 rcases bB h with ⟨i,t,rfl,rfl⟩|⟨x,t,rfl,rfl⟩
 ·exact ⟨t,rfl⟩
 ·exact ⟨t,rfl⟩
theorem NF {P:Program} {w:World} {H:Hp} {h:Heap} {d:Addr} {o:Obj} {kvs:List (Key × V)} {es:Array DictEntry} {ep:Nat} (hok:eG P w H h) (hH:H d=some (.frz o (.dK kvs))) (ho:o.data=.dict es ep):
  ∃vs,KV kvs vs/\h.DictAt (aU P w) d vs ep:=by
 obtain ⟨hg,hk⟩:=(show aY P w H h d (.frz o (.dK kvs)) from hok d _ hH);obtain ⟨z,hsm,vs,rel,o',es',ep',ho',r1,r2,r3⟩:=(show aY P w H h d (.dK kvs) from hk);rw[hg] at ho';cases ho';rw[ho] at r2;cases r2;exact ⟨vs,rel,o,es,hg,r1,ho,r3⟩
theorem JA {P:Program} {w:World} {K:Fg} {tg:Expr} (d it:Addr) (o:Obj) (kvs:List (Key × V)) (es:Array DictEntry) (ep:Nat) (ho:o.data=.dict es ep):Turn P w K tg (Jr d o kvs) [it] it (λi h=>h.IsKeyIter it d i kvs.length ep) where
 mem:=by simp
 obj:=λi h st b hb=>by
  have e:b=it:=by simpa using hb
  subst e;obtain ⟨o,e,c,d⟩:=st;exact ⟨o,e,λv z=>by rw[d] at z;cases z⟩
 keep:=λi h h' st k=>st.at λo e=>k it (by simp) o e
 item:=by
  intro X hP hw hK hc i pins s σ H E I hf st hg;subst hP hw hK;obtain ⟨f0,f1,f2,f3,f4,f5⟩:=hf it (by simp);obtain ⟨hH,hi⟩:=hg;obtain ⟨vs,rel,dd⟩:=NF I.hok hH ho;have hl:vs.length=kvs.length:=(KV.length rel).symm;have hk:=KV.keys rel;have hx:vs[i]?=some (vs[i]'(by lia)):=getElem?_eq_getElem (by lia);rw[<-hl] at st;refine wpAny_pyNext_dict_item (k:=(vs[i]'(by lia)).1) (v:=(vs[i]'(by lia)).2) st dd hx λkey h' hkey hit' hs'=>?_;have I1:Inv X pins σ H {s with heap:=h',toks:=s.toks}:=I.turned (λb o hb e=>(hs'.2 b hb).trans e) f0 f1 f3 f4 f5;have ek:(kvs[i]'hi).1=(vs[i]'(by lia)).1:=by
   have e1:(kvs.map (·.1))[i]?=(vs.map (·.1))[i]?:=by rw[hk]
   rw[getElem?_map,getElem?_map,hx,getElem?_eq_getElem hi] at e1;exact Option.some.inj e1
  rw[hl] at hit';obtain ⟨o2,e2,c2,d2⟩:=id hit';exact ⟨_,rfl,qI (s:={s with heap:=h',toks:=s.toks}) e2 c2 d2 (by decide) ⟨kV (kvs[i]'hi).1,H,I1,by rw[ek];exact MD hkey,⟨rfl,_,getElem?_eq_getElem hi,rfl⟩,hit',λb hb=>(hf b hb).1⟩⟩
 done:=by
  intro X hP hw hK hc i pins s σ H E I hf st hg;subst hP hw hK;obtain ⟨f0,f1,f2,f3,f4,f5⟩:=hf it (by simp);obtain ⟨hH,hi⟩:=hg;obtain ⟨vs,rel,dd⟩:=NF I.hok hH ho;have hl:vs.length=kvs.length:=(KV.length rel).symm;rw[<-hl] at st;exact wpAny_pyNext_dict_end (I.ok.hd hc) st dd (List.getElem?_eq_none_iff.mpr (by lia)) λh' eb=>⟨rfl,I.turned (t':=s.toks) (λb o hb e=>eb b o hb e) f0 f1 f3 f4 f5⟩
 self:=λ_ _ _ _ _ st h=>wpAny_pyIter_keyiter st h
theorem WX {d:Addr} {o:Obj} {kvs:List (Key × V)}:Yl (Jr d o kvs) (λH=>H d=some (.frz o (.dK kvs))) (kvs.map λkv=>kV kv.1) where
 go:=λi H p h=>⟨p,by rw[length_map] at h;exact h⟩
 yld:=λi H x H' p hi h=>by
  obtain ⟨e,kv,h1,h2⟩:=h;refine ⟨e,?_⟩;rw[getElem?_map,h1,h2];rfl
 stop:=λH p=>⟨p,length_map _⟩
section
variable {K:Fg}
noncomputable def JY:V->Hp->(It->Hp->Prop)->Prop
 | .ref d,H,R=>∃kvs,H d=some (.dK kvs)/\∀o,R (Jr d o kvs) (upd H d (.frz o (.dK kvs)))
 |_,_,_=>False
theorem UL {X:Cx} {tg:Expr} {pins:List (Addr × Obj)} {s1:Shared} {σ:St} {H1:Hp} {x:V} {v:Value} {R:It->Hp->Prop} (I1:Inv X pins σ H1 s1) (r1:RelV x v) (q1:JY x H1 R):
  wpAny (model X.prog X.w) X.A (pyIter v) (Iz X pins σ tg R) X.xe s1:=by
 unfold JY at q1;split at q1
 ·rename_i d;cases (show v=Value.ref d from r1);obtain ⟨kvs,hH,q⟩:=q1;obtain ⟨z,hsm,vs,rel,dd⟩:=EF I1.hok hH;obtain ⟨o,es,ep,ho,hd1,hd2,hd3⟩:=id dd;have I2:Inv X pins σ (upd H1 d (.frz o (.dK kvs))) {s1 with heap:=s1.heap,toks:=s1.toks}:=oB I1 (by rw[hH];trivial) ⟨rfl,λb _=>rfl⟩ ⟨o,ho⟩ ⟨ho,z,hsm,vs,rel,dd⟩;refine wpAny_pyIter_dict hsm ⟨o,es,ho,hd1,hd2,hd3⟩ ?_;have hl:vs.length=kvs.length:=(KV.length rel).symm;rw[hl];refine ⟨s1.heap.objs.size,[s1.heap.objs.size],_,_,upd H1 d (.frz o (.dK kvs)),rfl,I2.kept (t':=s1.toks) λb o e=>get?_push_of_some _ e,JA d _ o kvs es ep hd2,⟨_,get?_push_size _ rfl,rfl,rfl⟩,λb hb=>?_,q o⟩;have e:b=s1.heap.objs.size:=by simpa using hb
  subst e;exact I2.fpOk (Nat.le_refl _) (I2.hok.fresh (Nat.le_refl _))
 ·exact q1.elim
noncomputable def Hm (a:EX K):IX K where
 t:=λE σ H R=>a.t E σ H λx H1=>JY x H1 R
 tm:=λ_=>true
 m:=a.m
 q:=a.q
 ok:=λX C E tg e hK G hE hq _ hm=>by
  subst hK;intro pins s σ H R I h;exact bT (a.ok X C E e rfl G hE hq hm pins s σ H _ I h) λv s1 ⟨x,H1,I1,r1,q1⟩=>UL I1 r1 q1
 fs:=λC e env x hm=>xW (a.sok C e hm) x
theorem Al {E:XS} {σ:St} {H:Hp} {a:EX K} {R:It->Hp->Prop} (h:a.t E σ H λx H1=>JY x H1 R):(Hm a).t E σ H R:=h
theorem Hh {H:Hp} {d:Addr} {kvs:List (Key × V)} {R:It->Hp->Prop} (h:H d=some (.dK kvs)) (q:∀o,R (Jr d o kvs) (upd H d (.frz o (.dK kvs)))):JY (.ref d) H R:=⟨kvs,h,q⟩
noncomputable def Lq (op:CmpOp) (r:R2) (hr:∀X:Cx,X.K=K->X.A.units+64<cLine->gI X (compareOp op) r) (a b:EX K):EX K where
 t:=λE=>XE r (a.t E) (b.t E)
 tt:=λE σ H Q=>a.t E σ H λx H1=>b.t E σ H1 λy H2=>r x y H2 λv H3=>∃c,v=.bl c/\Q c H3
 m:=λC e=>match e with
  | .Compare l [o] [r] _=>decide (o=op)&&(a.m C l&&b.m C r)
  |_=>false
 q:=λR=>a.q R/\b.q R
 s:=.pl
 ok:=λX C E e hK G hE hq hm=>by
  subst hK;cases e with
  |Compare l os rs p=>
   match os,rs,hm with
   |[o],[r'],hm=>
    simp only [and_eq_true] at hm;obtain ⟨h1,h2,h3⟩:=hm;have e:=of_decide_eq_true h1;subst e;exact DN (hr X rfl G.hu) (a.ok X C E l rfl G hE hq.1 h2) (b.ok X C E r' rfl G hE hq.2 h3) (kK (b.sok C r' h3))
  |_=>exact ff hm
 okT:=λX C E e hK G hE hq hm=>by
  subst hK;cases e with
  |Compare l os rs p=>
   match os,rs,hm with
   |[o],[r'],hm=>
    simp only [and_eq_true] at hm;obtain ⟨h1,h2,h3⟩:=hm;have e:=of_decide_eq_true h1;subst e;intro pins s σ H Q I hw;refine wpAny_isTrue_Compare1 (bT (a.ok X C E l rfl G hE hq.1 h2 pins s σ H _ I hw) λv s1 ⟨x,H1,I1,r1,q1⟩=>bT (b.ok X C E r' rfl G hE hq.2 h3 pins s1 σ H1 _ I1 q1) λu s2 ⟨y,H2,I2,r2,q2⟩=>
     bT (hr X rfl G.hu pins s2 σ H2 x y v u _ I2 r1 r2 q2) λc s3 ⟨z,H3,I3,r3,q3⟩=>?_) (kK (b.sok C r' h3))
    obtain ⟨d,rfl,q⟩:=q3;cases r3;exact wpAny_truthy_bool ⟨H3,I3,q⟩
  |_=>exact ff hm
 sok:=λC e hm=>by cases e with|Compare l o r p=>rfl|_=>exact ff hm
section
variable {E:XS} {σ:St} {H:Hp} {a b:EX K}
end
end
open PySem.SeqAt
section
variable {X:Cx} {pins:List (Addr × Obj)} {σ:St} {H:Hp} {s:Shared}
end
section
variable {K:Fg}
variable {E:XS} {σ:St} {H:Hp} {a b:EX K}
end
section
noncomputable def Ht (K:Fg) (n:Nat) (t:UY):TG:=λv σ H Q=>∃a xs,v=.ref a/\aR K H a xs/\xs.length=n/\t xs σ H Q
theorem YN {X:Cx} {pos:Pos} {es:List Expr} {k:Nat} {t:UY} {n:Nat} (hc:X.calm=true) (h:Cn X es t)
  (hn:(assignEach es X.env).length=n) (hst:(assignEach es X.env).findIdx? (·.1)=none):PG X (.Tuple es k pos) (Ht X.K n t):=by
 intro pins s σ H v u Q I r hw;obtain ⟨a,xs,e1,hq,hl,hw⟩:=hw;subst e1;cases r;obtain ⟨its,rv,⟨o,m,g1,g2,g3,g4⟩,hz⟩:=I.list hq;have ht:s.heap.IsList a its.toArray:=⟨o,g1,g2,m,g4⟩;have hsz:(assignEach es X.env).length=its.toArray.size:=by simp [hn,<-hl,rv.length]
 rw[assign_Tuple];refine wpAny_bind (wpAny_standAt ?_);unfold unpack;rw[hsz,hst];refine wpAny_bind (wpAny_holding (PySem.W.kun_itemsOf (I.ok.hd hc) ht λh' hx=>?_));have I1:Inv X pins σ H {s with heap:=h'}:=I.kept (t':=s.toks) λb o e=>hx b o (ne_of_lt (lt_size e)) e;exact h pins _ σ H xs _ Q I1 (by simpa using rv) hw
variable {K:Fg}
noncomputable def Cv (is:List Nat):TX K where
 g:=Ht K is.length (Jm is)
 m:=λC e=>match e with
  | .Tuple es _ _=>C.cm&&Fj is C es
  |_=>false
 ok:=λX C e hK G hm=>by
  subst hK;cases e with
  |Tuple es k p=>
   simp only [and_eq_true] at hm;obtain ⟨h1,h2,h3⟩:=LB G is es hm.2;exact YN (G.calm hm.1) h1 h2 h3
  |_=>exact ff hm
theorem TK {σ:St} {H:Hp} {QS:St->Hp->Prop} {k l:Nat} {p:Addr} {x y:V} (c:aR K H p [x,y]) (h:QS ((σ.set k (some x)).set l (some y)) H):(Cv [k,l]:TX K).g (.ref p) σ H QS:=
 ⟨p,[x,y],rfl,c,rfl,x,[y],rfl,y,[],rfl,rfl,h⟩
end
section
variable {X:Cx}
noncomputable def XZ:V->List V->Hp->VK->Prop:=λx vs H Q=>∃(z y:Str) (i:Int),x=.str z/\vs=[.str y,.int i]/\Q (.int (Txt.find3 z y i)) H
theorem LM:By X "str.find" XZ:=by
 intro pins s σ H x vs v us Q I rx rv h;obtain ⟨z,y,i,rfl,rfl,q⟩:=h;obtain ⟨t,rfl⟩:=rx
 match us,rv with
 |[u1,u2],.cons ra (.cons rb .nil)=>
  obtain ⟨t1,rfl⟩:=ra;obtain ⟨t2,rfl⟩:=rb;exact SC.find3 ⟨.int _,H,I.tok _,⟨_,rfl⟩,q⟩
end
section
variable {K:Fg}
noncomputable def Km:Str->List V->Hp->VK->Prop
 |z,[.str y],H,Q=>Q (.int (Txt.find z y)) H
 |_,_,_,_=>False
noncomputable def nU:Str->List V->Hp->VK->Prop
 |z,[.str y,.int i],H,Q=>Q (.int (Txt.find3 z y i)) H
 |_,_,_,_=>False
noncomputable def DQ (o a b:EX K) (ho:o.s≠.zc:=by intro z;cases z):EX K:=yT "find" "str.find" nU PySem.F.slot_str_find PySem.F.type_str_find (λX hK _ _=>LO LM (λz ys H Q h=>by
 unfold nU at h
 split at h
 ·exact ⟨_,_,_,rfl,rfl,h⟩
 ·exact h.elim)) o ho [a,b]
end
section
variable {K:Fg}
noncomputable def Ie (a b:EX K):EX K:=nG (λE=>VI [(a.t E,b.t E)])
 (λC e=>match e with
  | .Dict [some k] [v] _=>a.m C k&&b.m C v
  |_=>false) (λR=>a.q R/\b.q R) .pl
 (λX C E e hK G hE hq hm=>by
  subst hK
  cases e with
  |Dict ks vs p=>
   match ks,vs,hm with
   |[some k],[v],hm=>
    simp only [and_eq_true] at hm
    exact RG (KH (a.ok X C E k rfl G hE hq.1 hm.1) (b.ok X C E v rfl G hE hq.2 hm.2) RA) rfl rfl (by simp) (by show 1<=15;decide)
  |_=>exact ff hm)
 (λC e hm=>by cases e with|Dict es k p=>exact ⟨rfl,rfl⟩|_=>exact ff hm)
noncomputable def JX:R2:=λy x H Q=>∃a o,x=.ref a/\eY H a y o/\Q (.bl (!o.isSome)) H
theorem RO {X:Cx} (hu:X.A.units+64<cLine):gI X (compareOp .NotIn) JX:=by
 intro pins s σ H y x v u Q I ry rx h;obtain ⟨a,o,rfl,g,q⟩:=h;cases (show u=Value.ref a from rx);exact UM (by lia) I g ry λs' I'=>⟨.bl (!o.isSome),H,I',rfl,q⟩
noncomputable def Fe (a b:EX K):EX K:=Lq .NotIn JX (λ_ _ hu=>RO hu) a b
noncomputable def YB (K:Fg):List V->Hp->VK->Prop:=λxs H Q=>∃(p:Addr) (bs:List Bool),xs=[.ref p]/\H p=some (.lst (bs.map V.bl))/\Q (.bl (bs.any id)) H
theorem OF {X:Cx} (hc:X.calm=true):bZ X (.builtin "any") (YB X.K):=by
 intro pins s σ H xs us Q I rv h;obtain ⟨p,bs,rfl,hp,q⟩:=h;obtain ⟨u,rfl,ru⟩:=rv.one;cases (show u=Value.ref p from ru);obtain ⟨z,its,n,r,hl,e⟩:=I.lstM hp;have hlt:p<s.heap.objs.size:=lt_size e;have isl:s.heap.IsList p its.toArray:=⟨_,e,rfl,n,rfl⟩;refine call_any_walk ?_;refine wpAny_pyIter_list isl ?_;have hitm:∀(i:Nat) (v:Value),its.toArray[i]?=some v->v=Value.bool (bs.getD i true):=λi v hv=>by
  have hv':its[i]?=some v:=by simpa using hv
  have hi:i<its.length:=(List.getElem?_eq_some_iff.mp hv').1;have hib:i<bs.length:=by rw[length_map] at hl;lia
  have hb:(bs.map V.bl)[i]?=some (V.bl bs[i]):=by rw[getElem?_map,getElem?_eq_getElem hib];rfl
  obtain ⟨u',h1,h2⟩:=r.get hb;rw[hv'] at h1;cases h1;rw[getD_eq_getElem?_getD,getElem?_eq_getElem hib];exact h2
 refine ⟨s.heap.objs.size,_,_,_,_,_,λi=>bs.getD i true,rfl,Walks.list (A:=X.A.in1) (I.ok.hd hc) _ p (ne_of_lt hlt) its.toArray,⟨⟨_,get?_push_size _ rfl,rfl,rfl⟩,isl.at λo e=>get?_push_of_some _ e⟩,oH hitm,λh' tk hk=>?_⟩;have I1:Inv X pins σ H {s with heap:=h',toks:=tk}:=by
  have I0:Inv X pins σ H {s with heap:=s.heap.push {cls:=.type "list_iterator",data:=.fields #[.ref p,.int 0 0]}}:=I.kept (t':=s.toks) λb o e=>get?_push_of_some _ e;obtain ⟨f0,f1,f2,f3,f4,f5⟩:=I.fpOk (H':=H) (Nat.le_refl _) (I.hok.fresh (Nat.le_refl _));exact I0.turned (t':=tk) (λb o hb e=>hk b o (by simpa using hb) e) f0 f1 f3 f4 f5
 refine ⟨.bl _,H,I1,rfl,?_⟩;have ea:(range its.toArray.size).any (λi=>bs.getD i true)=bs.any id:=by
  rw[size_toArray,<-hl,length_map];rw[Bool.eq_iff_iff,any_eq_true,any_eq_true];constructor
  ·rintro ⟨i,hi,q⟩;have hi':=mem_range.mp hi;rw[getD_eq_getElem?_getD,getElem?_eq_getElem hi'] at q;exact ⟨bs[i],getElem_mem hi',q⟩
  ·rintro ⟨b,hb,q⟩;obtain ⟨i,hi,rfl⟩:=List.mem_iff_getElem.mp hb;exact ⟨i,mem_range.mpr hi,by rw[getD_eq_getElem?_getD,getElem?_eq_getElem hi];exact q⟩
 rw[ea];exact q
noncomputable def Io (a:EX K):EX K:=Cm "any" "any" (YB K) (λX hK hc _=>by subst hK;exact OF hc) PyProof.Rows.Boot.any (by decide+kernel) (by decide+kernel) a []
section
variable {E:XS} {σ:St} {H:Hp} {Q:VK} {QB:Bool->Hp->Prop} {a b:EX K}
noncomputable def VS (p:Addr) (x y:V) (H2:Hp) (Q:VK):Prop:=H2 p=some (.dK [])/\∃kvs:List (Key × V),[(x,y)]=kvs.map (λkv=>(kV kv.1,kv.2))/\kvs.length<=15/\Q (.ref p) (upd H2 p (.dK (eQ [] kvs)))
theorem Am (h:∀p,H p=none->a.t E σ (upd H p (.dK [])) λx H1=>b.t E σ H1 λy H2=>VS p x y H2 Q):(Ie a b).t E σ H Q:=h
theorem UA {p:Addr} {k:Key} {y:V} (h1:H p=some (.dK [])) (h:Q (.ref p) (upd H p (.dK [(k,y)]))):VS p (kV k) y H Q:=⟨h1,[(k,y)],rfl,(by show 1<=15;decide),h⟩
theorem ZV (h:a.t E σ H λx H1=>b.t E σ H1 λy H2=>JX x y H2 λv H3=>∃c,v=.bl c/\QB c H3):(Fe a b).tt E σ H QB:=h
theorem Aq (h:a.t E σ H λx H1=>YB K [x] H1 Q):(Io a).t E σ H Q:=h
end
end
end L2.Na
namespace LD
open PySem
section
variable {prog:Program} {w:World} {K:Type} [DecidableEq K] {knd:KeyKind prog w K} {A:Around} {E:Value->Shared->Prop} {s:Shared}
theorem NK {R:Result->Shared->Prop} (hh:A.handled=none) {d:Addr} {kvs:List (K × Value)} {ep:Nat} (hsm:(d==sysModules)=false) (hm:s.heap.DictAt knd d kvs ep) (S:Addr) (hSd:S≠d) (res:Value) (c₀:Nat) (hS:s.heap.get? S=some {cls:=.type "list",data:=.seq #[] c₀})
  (hR:∀h' tk acc' c',(∀b o,b≠S->s.heap.get? b=some o->h'.get? b=some o)->h'.get? S=some {cls:=.type "list",dict:=none,data:=.seq acc' c',slots:=#[]}->
   ItemsOf (λi v=>∃k x,kvs[i]?=some (k,x)/\knd.is k v=true) acc' kvs.length->R (.ok (.ret res)) {s with heap:=h',toks:=tk}) (hn:kvs.length<=sizeLine):
  wpAny (model prog w) A.in1 (Builtin.List.listExtendWith (.ref S) (.ref d) res)
   (λfin s'=>match fin with| .done f=>R (.ok f) s'| .again c'=>c'.quiet=true/\codeAny (model prog w) A c' R s') (λe s'=>R (.error e) s') s:=by
 have hT:s.TypeIs (.ref d) "dict":=hm.dictOf.typeIs;have hSI:S≠s.heap.objs.size:=ne_of_lt (lt_size hS);have hdI:d≠s.heap.objs.size:=by
  obtain ⟨o,es,ho,_⟩:=hm;exact ne_of_lt (lt_size ho)
 have hSf:S∉[s.heap.objs.size,d]:=λhm'=>by
  rcases mem_cons.mp hm' with h|h
  ·exact hSI h
  ·exact hSd (by simpa using h)
 unfold Builtin.List.listExtendWith;refine wpAny_bind (wpAny_typeOf hT ?_);have h1:Builtin.List.listSameRef (.ref S) (.ref d)=false:=by simp [Builtin.List.listSameRef,hSd]
 have h2:(Value.type "dict"==Value.type "list")=false:=by decide
 have h3:(Value.type "dict"==Value.type "tuple")=false:=by decide
 simp only [h1,h2,h3,Bool.or_false,false_eq_true,if_false];refine wpAny_bind (wpAny_pyIter_dict hsm hm ?_);refine wpAny_bind (wpAny_holding ?_);have hm1:(s.heap.push {cls:=.type "dict_keyiterator",data:=.fields #[.ref d,.int 0 0,.int kvs.length 0,.int ep 0]}).DictAt knd d kvs ep:=hm.at' λo e=>get?_push_of_some _ e;have hT1:({s with heap:=s.heap.push {cls:=.type "dict_keyiterator",data:=.fields #[.ref d,.int 0 0,.int kvs.length 0,.int ep 0]}}:Shared).TypeIs (.ref d) "dict":=DictOf.typeIs (s:={s with heap:=s.heap.push {cls:=.type "dict_keyiterator",data:=.fields #[.ref d,.int 0 0,.int kvs.length 0,.int ep 0]}}) hm1.dictOf;unfold Builtin.List.listLengthHint;refine wpAny_bind (wpAny_specialOf hT1 F.slot_dict_len.lookup ?_)
 wp_delta
 refine wpAny_bind (wpAny_isInstance (T:="dict") (b:=true) hT1 (by rw[isSubtype_type];kernel_rfl) ?_);show wpAny _ _ (typeOf (Value.ref d) >>=_) _ _ _;refine wpAny_bind (wpAny_typeOf hT1 ?_);refine wpAny_pure ?_;rw[if_pos (by decide)];refine wpAny_bind (wpAny_rule ?_);refine wpAny_bind ?_;show wpAny _ A.in1 (updateSeq S (·.push .none) >>=λ_=>updateSeq S (·.pop)) _ _ _;have hS1:(s.heap.push {cls:=.type "dict_keyiterator",data:=.fields #[.ref d,.int 0 0,.int kvs.length 0,.int ep 0]}).get? S=some {cls:=.type "list",data:=.seq #[] c₀}:=get?_push_of_some _ hS;refine wpAny_bind (wpAny_updateSeq hS1 rfl ?_);have hS₂:=get?_update_self (Obj.mapSeq (·.push Value.none)) hS1 rfl;refine wpAny_updateSeq (hz:=by seq_fits) hS₂ rfl ?_;have hS₃:=get?_update_self (Obj.mapSeq (·.pop)) hS₂ rfl;have oth:∀b o,b≠S->(s.heap.push {cls:=.type "dict_keyiterator",data:=.fields #[.ref d,.int 0 0,.int kvs.length 0,.int ep 0]}).get? b=some o->(((s.heap.push {cls:=.type "dict_keyiterator",data:=.fields #[.ref d,.int 0 0,.int kvs.length 0,.int ep 0]}).update S (Obj.mapSeq (·.push Value.none))).update S (Obj.mapSeq (·.pop))).get? b=some o:=
  λb o hb e=>(get?_update_other _ _ (Ne.symm hb)).trans ((get?_update_other _ _ (Ne.symm hb)).trans e)
 have hit:(s.heap.push {cls:=.type "dict_keyiterator",data:=.fields #[.ref d,.int 0 0,.int kvs.length 0,.int ep 0]}).IsKeyIter s.heap.objs.size d 0 kvs.length ep:=⟨_,get?_push_size _ rfl,rfl,rfl⟩;refine wpAny_pure ⟨plainId_quiet F.plain_extend_loop _,codeAny_extend_loopS (Walks.dictKeys (A:=A.in1) (knd:=knd) hh s.heap.objs.size d hdI kvs ep).toS hn _ hSf _ kvs.length 0 _ _ _ rfl (zero_le _)
  ⟨hit.at λo e=>oth _ o (Ne.symm hSI) e,hm1.at' λo e=>oth _ o (Ne.symm hSd) e⟩ hS₃ (ItemsOf.nil _) λs' acc' c' hm' hS' hacc=>?_⟩
 rw[Moved.eq_with hm'];refine hR s'.heap s'.toks acc' c' (λb ob hb e=>hm'.heap b ob (λhmem=>?_) (oth b ob hb (get?_push_of_some _ e))) hS' hacc;rcases mem_cons.mp hmem with e'|hmem
 ·exact hb e'
 ·exact absurd (lt_size e) (by rw[mem_singleton.mp hmem];exact lt_irrefl _)
theorem GZ {R:Result->Shared->Prop} (hh:A.handled=none) {d:Addr} {kvs:List (K × Value)} {ep:Nat} (hsm:(d==sysModules)=false) (hm:s.heap.DictAt knd d kvs ep) (S:Addr) (hSd:S≠d) (hS:s.heap.get? S=some {cls:=.type "list",data:=.seq #[]})
  (hR:∀h' tk acc' c',(∀b o,b≠S->s.heap.get? b=some o->h'.get? b=some o)->h'.get? S=some {cls:=.type "list",dict:=none,data:=.seq acc' c',slots:=#[]}->
   ItemsOf (λi v=>∃k x,kvs[i]?=some (k,x)/\knd.is k v=true) acc' kvs.length->R (.ok (.ret .none)) {s with heap:=h',toks:=tk}) (hn:kvs.length<=sizeLine):
  wpAny (model prog w) A.in1 (Builtin.«list.__init__» ⟨[.ref S,.ref d],[]⟩)
   (λfin s'=>match fin with| .done f=>R (.ok f) s'| .again c'=>c'.quiet=true/\codeAny (model prog w) A c' R s') (λe s'=>R (.error e) s') s:=by
 show wpAny _ _ (do let old <-Builtin.List.listItems (.ref S);Builtin.List.listUpdate (.ref S) (λ_=>#[]);letGo old.toList.reverse;Builtin.List.listExtendWith (.ref S) (.ref d) .none) _ _ s;refine wpAny_bind ?_;unfold Builtin.List.listItems;refine wpAny_bind (wpAny_seqItems hS rfl (wpAny_pure ?_));show wpAny _ _ (updateSeq S (λ_=>#[]) >>=λ_=>letGo (#[]:Array Value).toList.reverse >>=λ_=>Builtin.List.listExtendWith (.ref S) (.ref d) .none) _ _ s;refine wpAny_bind (wpAny_updateSeq hS rfl ?_);have hS₂:=get?_update_self (Obj.mapSeq (λ_=>(#[]:Array Value))) hS rfl;have oth:∀b o,b≠S->s.heap.get? b=some o->(s.heap.update S (Obj.mapSeq (λ_=>(#[]:Array Value)))).get? b=some o:=
  λb o hb e=>(get?_update_other _ _ (Ne.symm hb)).trans e
 refine wpAny_bind (wpAny_letGo ?_);refine NK (s:={s with heap:=s.heap.update S (Obj.mapSeq (λ_=>(#[]:Array Value)))}) hh hsm (hm.at' λo e=>oth _ o (Ne.symm hSd) e) S hSd .none _ hS₂ (λh' tk acc' c' hk hS' hacc=>?_) hn;exact hR h' tk acc' c' (λb o hb e=>hk b o hb (oth b o hb e)) hS' hacc
theorem qV {Q:Value->Shared->Prop} (hh:A.handled=none) {d:Addr} {kvs:List (K × Value)} {ep:Nat} (hsm:(d==sysModules)=false) (hm:s.heap.DictAt knd d kvs ep)
  (hQ:∀h' tk acc' c',(∀b o,s.heap.get? b=some o->h'.get? b=some o)->
   h'.get? s.heap.objs.size=some {cls:=.type "list",dict:=none,data:=.seq acc' c',slots:=#[]}->ItemsOf (λi v=>∃k x,kvs[i]?=some (k,x)/\knd.is k v=true) acc' kvs.length->Q (.ref s.heap.objs.size) {s with heap:=h',toks:=tk}) (hn:kvs.length<=sizeLine):
  wpAny (model prog w) A (call (.type "list") [.ref d]) Q E s:=by
 refine callType_codes (Q₁:=λobj s₁=>obj=.ref s.heap.objs.size/\s₁={s with heap:=s.heap.push {cls:=.type "list",data:=.seq #[]}}) F.called_list (F.typeCall_list_1 _) F.entry_list_init
  (code_list_new _ ⟨rfl,rfl⟩) λobj s₁ h₁=>?_
 obtain ⟨rfl,rfl⟩:=h₁;have hS:(s.heap.push {cls:=.type "list",data:=.seq #[]}).get? s.heap.objs.size=some {cls:=.type "list",data:=.seq #[]}:=get?_push_size _ rfl;have hdI:s.heap.objs.size≠d:=by
  obtain ⟨o,es,ho,_⟩:=hm;exact (ne_of_lt (lt_size ho)).symm
 refine ⟨⟨_,hS,rfl⟩,F.args_list_init_2 _ _,GZ (s:={s with heap:=s.heap.push {cls:=.type "list",data:=.seq #[]}}) (A:=A.in1) hh hsm (hm.at' λo e=>get?_push_of_some _ e) _ hdI hS (λh' tk acc' c' hk hS' hacc=>?_) hn⟩;exact ⟨rfl,hQ h' tk acc' c' (λb o e=>hk b o (ne_of_lt (lt_size e)) (get?_push_of_some _ e)) hS' hacc⟩
end
end LD
namespace L2.Na
open PySem PySem.Spec PyProof.Rows L2 L2.L3
section
variable {K:Fg}
noncomputable def pF:List V->Hp->VK->Prop
 |[.ref d],H,Q=>∃kvs,H d=some (.dK kvs)/\∀l,H l=none->Q (.ref l) (upd H l (.lst (kvs.map λkv=>kV kv.1)))
 |_,_,_=>False
theorem mK:∀{xs:List V} {us:List Value},xs.length=us.length->(∀(i:Nat) (x:V) (u:Value),xs[i]?=some x->us[i]?=some u->RelV x u)->Vals xs us
 |[],[],_,_=>.nil
 |[],_::_,h,_=>by simp at h
 |_::_,[],h,_=>by simp at h
 |x::xs,u::us,h,g=>.cons (g 0 x u rfl rfl) (mK (by simpa using h) λi y v a b=>g (i+1) y v (by simpa using a) (by simpa using b))
theorem LZ (X:Cx) (hc:X.calm=true):bZ X (.type "list") pF:=by
 intro pins s σ H xs us Q I r h;unfold pF at h;split at h
 ·rename_i d;obtain ⟨kvs,hd,q⟩:=h;obtain ⟨u,rfl,r1⟩:=r.one;cases r1;obtain ⟨z,hsm,vs,rel,dd⟩:=EF I.hok hd;obtain ⟨o,es,ep,ho,hd1,hd2,hd3⟩:=id dd;have hl:vs.length=kvs.length:=(KV.length rel).symm;have hk:=KV.keys rel;refine LD.qV (knd:=aU X.prog X.w) (I.ok.hd hc) hsm (kvs:=vs) (ep:=ep) ⟨o,es,ho,hd1,hd2,hd3⟩ (λh' tk acc' c' kp hS hI=>?_) (by rw[hl];exact z);have hv:Vals (kvs.map λkv=>kV kv.1) acc'.toList:=mK (by
   have h1:acc'.size=vs.length:=hI.1
   have h2:acc'.toList.length=acc'.size:=length_toList
   rw[h2,h1,hl,length_map]) λi x u hx hu=>by
   have hu':acc'[i]?=some u:=by rw[<-Array.getElem?_toList];exact hu
   obtain ⟨k,v,h1,h2⟩:=hI.2 i u hu';have e1:(kvs.map (·.1))[i]?=(vs.map (·.1))[i]?:=by rw[hk]
   rw[getElem?_map,getElem?_map,h1] at e1;rw[getElem?_map] at hx;cases e:kvs[i]? with
   |none=>rw[e] at hx;cases hx
   |some kv=>
    rw[e] at hx e1;cases hx;have:kv.1=k:=Option.some.inj e1;show RelV (kV kv.1) u;rw[this];exact MD h2
  refine ⟨.ref s.heap.objs.size,_,I.laid (a:=s.heap.objs.size) (o:=.lst (kvs.map λkv=>kV kv.1)) (t':=tk) kp (Nat.le_refl _) ⟨by rw[length_map];exact z,acc'.toList,c',hv,hS⟩,rfl,q _ (I.hok.fresh (Nat.le_refl _))⟩
 ·exact h.elim
noncomputable def VX (a:EX K):EX K:=Ik "list" "list" pF (λX _ hc _=>LZ X hc) PyProof.Rows.Boot.list (by decide+kernel) (by decide+kernel) a []
theorem TU {E:XS} {σ:St} {H:Hp} {Q:VK} {a:EX K} (h:a.t E σ H λx H1=>pF [x] H1 Q):(VX a).t E σ H Q:=h
theorem MR {H:Hp} {Q:VK} {d:Addr} {kvs:List (Key × V)} (h:H d=some (.dK kvs)) (q:∀l,H l=none->Q (.ref l) (upd H l (.lst (kvs.map λkv=>kV kv.1)))):pF [.ref d] H Q:=⟨kvs,h,q⟩
end
end L2.Na
namespace LD
open PySem PySem.Spec PyProof.Rows
theorem vK:typeLookup (.type "list") "keys"=pure none:=by rw[typeLookup_type,builtinLookup_eq_fast];kernel_rfl
section
variable {prog:Program} {w:World} {A:Around} {K:Type} [DecidableEq K] {knd:KeyKind prog w K} {E:Value->Shared->Prop}
noncomputable def jG (knd:KeyKind prog w K) (h:Heap) (l:Addr) (items:Array Value) (ps:List (K × Value)):Prop:=
 h.IsList l items/\items.size=ps.length/\∀(i:Nat) (v:Value) (p:K × Value),items[i]?=some v->ps[i]?=some p->∃T key,v=.ref T/\h.IsTuple T #[key,p.2]/\knd.is p.1 key=true
theorem jG.at {h h':Heap} {l:Addr} {items:Array Value} {ps:List (K × Value)} (z:jG knd h l items ps) {N:List Addr} (kp:∀b o,b∉N->h.get? b=some o->h'.get? b=some o) (hl:l∉N) (hT:∀(i:Nat) (T:Addr),items[i]?=some (.ref T)->T∉N):jG knd h' l items ps:=by
 obtain ⟨a,b,c⟩:=z;refine ⟨a.at λo e=>kp _ o hl e,b,λi v p h1 h2=>?_⟩;obtain ⟨T,key,rfl,⟨o,e,r⟩,k⟩:=c i v p h1 h2;exact ⟨T,key,rfl,⟨o,kp _ _ (hT i T h1) e,r⟩,k⟩
theorem IS {R:Result->Shared->Prop} {d it l:Addr} {items:Array Value} {ps:List (K × Value)} (hh:A.handled=none) (d1:d≠it) (d2:d≠l) (d3:it≠l) (hd4:∀(i:Nat) (T:Addr),items[i]?=some (.ref T)->T≠d/\T≠it) (hle:ps.length<=1000):
  ∀(n k:Nat) (j:Int) (s:Shared),k+n=ps.length->jG knd s.heap l items ps->s.heap.IsListIter it l k->s.heap.DictOf knd d (merged [] (ps.take k))->
   (∀h' tk',h'.DictOf knd d (merged [] ps)->(∀b o,b≠it->b≠d->s.heap.get? b=some o->h'.get? b=some o)->R (.ok (.ret .none)) {s with heap:=h',toks:=tk'})->
   codeAny (model prog w) A (.builtin "dict.update.loop" ⟨[.ref d,.ref it,rawInt j,.none],[]⟩) R s:=by
 intro n;induction n with
 |zero=>
  intro k j s hkn S hit hd hR;refine codeAny_builtin ZD.gQ ?_;rw[Around.under_plainId ZD.bX _];show wpAny _ A.in1 (pyNext (.ref it) >>=_) _ _ s;have hsz:=S.2.1;refine wpAny_bind (wpAny_pyNext_list_end hh hit S.1 (by simp;lia) λh' hk'=>?_);show wpAny _ _ (Builtin.Dict.addKeywords d [] >>=_) _ _ _;refine wpAny_bind (wpAny_pure (wpAny_pure ?_));rw[take_of_length_le (by lia)] at hd;exact hR h' s.toks (hd.extBut hk' d1) λb o b1 _ e=>hk' b o b1 e
 |succ n ih=>
  intro k j s hkn S hit hd hR;have hsz:=S.2.1;have hki:k<items.size:=by lia
  have hx:items[k]?=some items[k]:=by simp [hki]
  have hp:ps[k]?=some (ps[k]'(by lia)):=getElem?_eq_getElem (by lia);obtain ⟨T,key,ev,hT,hkey⟩:=S.2.2 k _ _ hx hp;have hxT:items[k]?=some (.ref T):=by rw[hx,ev]
  refine codeAny_builtin ZD.gQ ?_;rw[Around.under_plainId ZD.bX _];show wpAny _ A.in1 (pyNext (.ref it) >>=_) _ _ s;refine wpAny_bind (wpAny_pyNext_list_item hit S.1 hxT λh' hit' sb'=>?_);refine wpAny_bind (wpAny_holding ?_);obtain ⟨o,e,hc,nn,hdt⟩:=hT;have e':h'.get? T=some o:=sb'.extBut _ _ (hd4 k T hxT).2 e;have hTy:({s with heap:=h'}:Shared).TypeIs (.ref T) "tuple":=⟨_,e',hc⟩;refine wpAny_bind (wpAny_tryCatch ?_);unfold Builtin.Dict.pairItems;refine wpAny_bind (wpAny_typeOf hTy ?_);rw[if_pos (by decide)];refine wpAny_bind (wpAny_seqItems (s:={s with heap:=h'}) e' hdt (wpAny_pure ?_));show wpAny _ _ (holding [key,(ps[k]'(by lia)).2] (dictSet d key (ps[k]'(by lia)).2)) _ _ _;have hd':h'.DictOf knd d (merged [] (ps.take k)):=hd.sameBut sb' d1;have ml:=merged_length_le ([]:List (K × Value)) (ps.take k);rw[length_nil,length_take] at ml;refine wpAny_holding (wpAny_dictSet_pairs (s:={s with heap:=h'}) hkey hd' (λh2 hd2 sb=>?_) (le_of_lt (Nat.lt_of_le_of_lt (show _<=1000 by lia) (by decide))));refine wpAny_pure ⟨plainId_quiet ZD.bX _,?_⟩;replace sb:SameBut d h' h2:=sb;rw[<-merged_take_succ [] ps k _ hp] at hd2;have kp:∀b o,b∉[it,d]->s.heap.get? b=some o->h2.get? b=some o:=λb o hb e=>by
   simp only [mem_cons,not_mem_nil,or_false,not_or] at hb;exact sb.extBut b o hb.2 (sb'.extBut b o hb.1 e)
  refine ih (k+1) (j+1) _ (by lia) (S.at kp (by simp [d2.symm,d3.symm]) λi T' hT'=>by
   have:=hd4 i T' hT'
   simp [this.1,this.2]) (hit'.at λo e=>sb.extBut _ _ d1.symm e) hd2 λh3 tk3 hd3 hk3=>?_
  exact hR h3 tk3 hd3 λb o b1 b2 e=>hk3 b o b1 b2 (kp b o (by simp [b1,b2]) e)
theorem LH {s:Shared} {l:Addr} {items:Array Value} {n:Nat} {Q:Option Value->Shared->Prop} (hx:s.heap.get? l=some {cls:=.type "list",dict:=none,data:=.seq items n,slots:=#[]}) (hA:A.handled=none)
  (h:∀h' tk,(∀b o,s.heap.get? b=some o->h'.get? b=some o)->Q none {s with heap:=h',toks:=tk}):wpAny (model prog w) A (getAttr? (.ref l) "keys") Q E s:=by
 obtain ⟨hp,g,d,tk,os⟩:=s;have hT:∀tk',(⟨hp,g,d,tk',os⟩:Shared).TypeIs (.ref l) "list":=λ_=>⟨_,hx,rfl⟩;have f1:=sub_AttributeError;have f3:=F.slot_list_getattribute.lookup;have f4:=F.slot_list_getattribute.bind (.ref l);have f5:=am_list_getattr_none;unfold getAttr? getAttrBy? getAttrBy
 repeat (any_goals (first|assumption|exact hT _|((with_reducible show wpAny _ _ (call (Value.builtin "list.__getattribute__") _ _) _ _ _);refine call_meets F.slot_list_getattribute (hT _) am_entry_list_getattribute (F.args_list_getattribute_2 _ _) (meets_getattribute_miss_list l items n #[] "keys" _ vK (by decide+kernel) (by decide+kernel)) ⟨hx,hA,λh' tk' e hx'=>?_⟩)|wp_step))
 obtain ⟨t',u',he⟩:=hx'.there;show wpAny _ _ (getattributeRaised _ _ _ _ _ _ _) _ _ _;unfold getattributeRaised
 repeat (any_goals (first|assumption|wp_step))
 exact h _ _ hx'.keeps
theorem wG {s:Shared} {l:Addr} {items:Array Value} {nn:Nat} {ps:List (K × Value)} {Q:Value->Shared->Prop} (hh:A.handled=none) (hle:ps.length<=1000) (hx:s.heap.get? l=some {cls:=.type "list",dict:=none,data:=.seq items nn,slots:=#[]}) (S:jG knd s.heap l items ps)
  (h:∀h' tk',h'.DictOf knd s.heap.objs.size (merged [] ps)->(∀b o,s.heap.get? b=some o->h'.get? b=some o)->Q (.ref s.heap.objs.size) {s with heap:=h',toks:=tk'}):
  wpAny (model prog w) A (call (.type "dict") [.ref l]) Q E s:=by
 refine callType_codes (Q₁:=λobj s₁=>obj=.ref s.heap.objs.size/\s₁={s with heap:=s.heap.push {cls:=.type "dict",data:=.dict #[]}}) F.kt_called_dict (F.kt_typeCall_dict_1 _) F.entry_dict_init (kt_code_dict_new _ ⟨rfl,rfl⟩) ?_;rintro obj s₁ ⟨rfl,rfl⟩;have hnew:(s.heap.push {cls:=.type "dict",data:=.dict #[]}).DictOf knd s.heap.objs.size []:=DictOf.new s.heap;have hx1:(s.heap.push {cls:=.type "dict",data:=.dict #[]}).get? l=some {cls:=.type "list",dict:=none,data:=.seq items nn,slots:=#[]}:=get?_push_of_some _ hx;refine ⟨hnew.typeIs,F.args_dict_init_2 _ _,?_⟩;unfold Builtin.«dict.__init__»;refine wpAny_bind ?_;unfold Builtin.Dict.selfAndRest;refine wpAny_bind (wpAny_notOrdered_dict hnew.typeIs ?_);show wpAny _ _ (pure (s.heap.objs.size,[Value.ref l])) _ _ _;refine wpAny_pure ?_;show wpAny _ _ (Builtin.Dict.updateFrom "dict.__init__" s.heap.objs.size (.ref l) [] .none) _ _ _;unfold Builtin.Dict.updateFrom;have hTz:(⟨s.heap.push {cls:=.type "dict",data:=.dict #[]},s.gens,s.drawn,s.toks,s.os⟩:Shared).TypeIs (.ref l) "list":=⟨_,hx1,rfl⟩;refine wpAny_bind (wpAny_typeOf hTz ?_);rw[if_pos (by decide)];refine wpAny_bind (LH hx1 hh λh1 tk1 k1=>?_);simp only [Option.isNone_none,if_true];refine wpAny_bind (wpAny_rule ?_);have k01:∀b o,s.heap.get? b=some o->h1.get? b=some o:=λb o e=>k1 b o (get?_push_of_some _ e);have hx2:h1.get? l=some {cls:=.type "list",dict:=none,data:=.seq items nn,slots:=#[]}:=k01 _ _ hx;have isl:h1.IsList l items:=⟨_,hx2,rfl,nn,rfl⟩;have hd1:h1.DictOf knd s.heap.objs.size []:=let ⟨o,es,ep,ho,r⟩:=hnew;⟨o,es,ep,k1 _ o ho,r⟩;have S1:jG knd h1 l items ps:=S.at (N:=[]) (λb o _ e=>k01 b o e) (by simp) (λ_ _ _=>by simp);have n1:s.heap.objs.size<h1.objs.size:=by
  obtain ⟨o,es,ep,ho,r⟩:=hd1;exact lt_size ho
 have ltl:l<s.heap.objs.size:=lt_size hx;have ltT:∀(i:Nat) (T:Addr),items[i]?=some (.ref T)->T<s.heap.objs.size:=λi T hT=>by
  have hi:i<ps.length:=by rw[<-S.2.1];exact (Array.getElem?_eq_some_iff.mp hT).1
  obtain ⟨T',key,e,⟨o,eo,_⟩,_⟩:=S.2.2 i _ _ hT (getElem?_eq_getElem hi);cases e;exact lt_size eo
 refine wpAny_bind (wpAny_pyIter_list (s:=⟨h1,s.gens,s.drawn,tk1,s.os⟩) isl ?_);refine wpAny_pure ⟨plainId_quiet ZD.bX _,?_⟩;have k12:∀b o,h1.get? b=some o->(h1.push {cls:=.type "list_iterator",data:=.fields #[.ref l,.int 0 0]}).get? b=some o:=λb o e=>get?_push_of_some _ e;refine IS (A:=A.in1) (knd:=knd) (it:=h1.objs.size) (d:=s.heap.objs.size) hh (ne_of_lt n1) (ne_of_gt ltl) (ne_of_gt (lt_trans ltl n1)) (λi T hT=>⟨ne_of_lt (ltT i T hT),ne_of_lt (lt_trans (ltT i T hT) n1)⟩) hle ps.length 0 0 _ (by lia)
  (S1.at (N:=[]) (λb o _ e=>k12 b o e) (by simp) (λ_ _ _=>by simp)) ⟨_,get?_push_size _ rfl,rfl,rfl⟩ (by rw[take_zero];exact hd1.push _) λh2 tk2 hd2 hk2=>?_
 refine ⟨rfl,?_⟩;exact h h2 tk2 hd2 λb o e=>hk2 b o (ne_of_lt (lt_trans (lt_size e) n1)) (ne_of_lt (lt_size e)) (k12 b o (k01 b o e))
end
end LD
namespace L2.Na
open PySem PySem.Spec PyProof.Rows L2 L2.L3
section
variable {K:Fg}
structure Mj (H:Hp) (l:Addr) (qs:List Addr) (kvs:List (Key × V)):Prop where
 l:H l=some (.lst (qs.map V.ref))
 n:qs.length=kvs.length
 p:∀(i:Nat) (q:Addr) (kv:Key × V),qs[i]?=some q->kvs[i]?=some kv->H q=some (.tup [kV kv.1,kv.2])
noncomputable def uX:List V->Hp->VK->Prop
 |[.ref l],H,Q=>∃qs kvs,Mj H l qs kvs/\kvs.length<=1000/\∀d,H d=none->Q (.ref d) (upd H d (.dK (eQ [] kvs)))
 |_,_,_=>False
theorem DU {H:Hp} {h:Heap} {P:Program} {w:World} (hok:eG P w H h) {l:Addr}:∀{qs:List Addr} {kvs:List (Key × V)},qs.length=kvs.length->(∀(i:Nat) (q:Addr) (kv:Key × V),qs[i]?=some q->kvs[i]?=some kv->H q=some (.tup [kV kv.1,kv.2]))->
  ∃rs:List (Key × Value),KV kvs rs/\∀(i:Nat) (q:Addr) (p:Key × Value),qs[i]?=some q->rs[i]?=some p->∃key,h.IsTuple q #[key,p.2]/\kU p.1 key=true
 |[],[],_,_=>⟨[],.nil,λi q p h=>by simp at h⟩
 |[],_::_,h,_=>by simp at h
 |_::_,[],h,_=>by simp at h
 |q::qs,kv::kvs,hl,hp=>by
  obtain ⟨rs,r1,r2⟩:=DU hok (l:=l) (qs:=qs) (kvs:=kvs) (by simpa using hl) λi q' kv' a b=>hp (i+1) q' kv' (by simpa using a) (by simpa using b);obtain ⟨z,its,rel,ht⟩:=(show aY P w H h q (.tup [kV kv.1,kv.2]) from hok q _ (hp 0 q kv rfl rfl));obtain ⟨u1,u2,rfl,ru1,ru2⟩:=rel.two;refine ⟨(kv.1,u2)::rs,.cons ⟨rfl,ru2⟩ r1,λi q' p' a b=>?_⟩;cases i with
  |zero=>
   cases a;cases b;exact ⟨u1,ht,pW (P:=P) (w:=w) ru1⟩
  |succ i=>exact r2 i q' p' (by simpa using a) (by simpa using b)
theorem NQ (X:Cx) (hc:X.calm=true):bZ X (.type "dict") uX:=by
 intro pins s σ H xs us Q I r h;unfold uX at h;split at h
 ·rename_i l;obtain ⟨qs,kvs,hP,hle,q⟩:=h;obtain ⟨u,rfl,r1⟩:=r.one;cases r1;obtain ⟨z,its,n,rv,hl,eo⟩:=I.lstM hP.l;obtain ⟨rs,rk,hT⟩:=DU I.hok (l:=l) hP.n hP.p;have rl:rs.length=kvs.length:=(KV.length rk).symm;have il:its.length=qs.length:=by rw[<-hl,length_map]
  refine LD.wG (knd:=aU X.prog X.w) (ps:=rs) (I.ok.hd hc) (by lia) eo ⟨⟨_,eo,rfl,n,rfl⟩,by rw[size_toArray,il,hP.n,rl],λi v p h1 h2=>?_⟩ λh' tk' dd kp=>?_
  ·have h1':its[i]?=some v:=by simpa using h1
   have hi:i<qs.length:=by rw[<-il];exact (List.getElem?_eq_some_iff.mp h1').1
   have hq:(qs.map V.ref)[i]?=some (V.ref qs[i]):=by rw[getElem?_map,getElem?_eq_getElem hi];rfl
   obtain ⟨u',g1,g2⟩:=rv.get hq;rw[h1'] at g1;cases g1;obtain ⟨key,t1,t2⟩:=hT i qs[i] p (getElem?_eq_getElem hi) h2;exact ⟨qs[i],key,g2,t1,t2⟩
  ·have hm:=fL kvs [];rw[length_nil] at hm;exact ⟨.ref s.heap.objs.size,_,I.laid (a:=s.heap.objs.size) (o:=.dK (eQ [] kvs)) (t':=tk') kp (Nat.le_refl _) ⟨by rw[sizeLine_eq];lia,beq_eq_false_iff_ne.mpr (ne_of_gt I.big),_,rk.merge .nil,dd⟩,rfl,q _ (I.hok.fresh (Nat.le_refl _))⟩
 ·exact h.elim
noncomputable def EG (a:EX K):EX K:=Ik "dict" "dict" uX (λX _ hc _=>NQ X hc) PyProof.Rows.Boot.dict (by decide+kernel) (by decide+kernel) a []
theorem vY {E:XS} {σ:St} {H:Hp} {Q:VK} {a:EX K} (h:a.t E σ H λx H1=>uX [x] H1 Q):(EG a).t E σ H Q:=h
end
noncomputable def Jb (R:Rt) (x:Str) (sp:Sp):Prop:=∃(k:Nat) (f:Addr) (fd:FuncData) (ps:List Str),cG (k+1) R.A/\sC R.P R.w R.K R.mg R.base (tY R.P R.w) k f fd ps sp/\Binds R.K fd ps []/\Mk R.K (clsAt R.K x) f/\R.mg x=some (.ref (clsAt R.K x))
theorem QU {X:Cx} {C f:Addr} {k:Nat} {fd:FuncData} {ps:List Str} {sp:Sp} {pins:List (Addr × Obj)} {σ:St} {H:Hp} {s:Shared} {Q:VK} {us:List Value} {vs:List V} (M:Mk X.K C f) (F:sC X.prog X.w X.K X.mg X.base (tY X.prog X.w) k f fd ps sp) (hr:cG (k+1) X.A) (hb:Binds X.K fd ps [])
  (I:Inv X pins σ H s) (r:Vals vs us) (h:∀x dx,H x=none->H dx=none->dx≠x->sp (.ref x::vs) (upd (upd H dx (.own x)) x (.ins C dx [])) (λv H2=>v=.non/\Q (.ref x) H2) λ_ _ _=>False):
  wpAny (model X.prog X.w) X.A (PySem.call (.ref C) us) (EP X pins σ Q) X.xe s:=by
 have hq:=h (s.heap.objs.size+1) s.heap.objs.size (I.hok.fresh (le_succ _)) (I.hok.fresh (Nat.le_refl _)) (ne_of_lt (lt_succ_self _));have I2:=Inv.made (C:=C) I;have r2:Vals (V.ref (s.heap.objs.size+1)::vs) (Value.ref (s.heap.objs.size+1)::us):=.cons rfl r;have hl:(Value.ref (s.heap.objs.size+1)::us++[]).length=ps.length:=by
  have e:=r2.length;rw[F.len _ _ _ _ hq] at e;rw[append_nil];exact e.symm
 have b:=hb _ (Value.ref (s.heap.objs.size+1)::us) I2.kIn hl;rw[append_nil] at b;refine wpAny_call (LR (f:=f) I.kIn M.makes M.init (beq_iff_eq.mp M.fn) (codeAny_mono (F.run _ X.stack _ _ ⟨Value.ref (s.heap.objs.size+1)::us,[]⟩ (Value.ref (s.heap.objs.size+1)::us) _ _ _ (hr.make C us [])
  (I2.env0.make C us []) b r2 hq) λr s' hq'=>?_))
 cases r with
 |error e=>exact (tY.no hq').elim
 |ok fl=>
  cases fl with
  |ret u=>
   obtain ⟨v,H',I3,rv,ev,q3⟩:=I2.after hq';subst ev;exact ⟨rv,⟨V.ref (s.heap.objs.size+1),H',I3,rfl,q3⟩⟩
  |next=>exact False.elim hq'
  |brk=>exact False.elim hq'
  |cont=>exact False.elim hq'
section
variable {K:Fg}
noncomputable def Ke (C:Addr) (sp:Sp) (t:TA):TE:=λσ H Q=>t σ H λvs H1=>∀x dx,H1 x=none->H1 dx=none->dx≠x->sp (.ref x::vs) (upd (upd H1 dx (.own x)) x (.ins C dx [])) (λv H2=>v=.non/\Q (.ref x) H2) λ_ _ _=>False
noncomputable def Jj (x:Str) (sp:Sp) (a:EX K) (as:List (EX K)):EX K:=SJ (λE=>Ke (clsAt K x) sp (fY (a::as) E))
 (λC e=>match e with
  | .Call (.Name y _) es [] _=>rD C x y&&jX (a::as) C es
  |_=>false) (λR=>Jb R x sp/\sQ (a::as) R) (Kg (a::as))
 (λX C E e hK G hE hq hm=>by
  subst hK
  cases e with
  |Call f es ks p=>
   cases f with
   |Name y py=>
    cases ks with
    |nil=>
     simp only [and_eq_true] at hm
     obtain ⟨h1,h2⟩:=hm
     have e:=cC h1
     subst e
     obtain ⟨g,d⟩:=cB G h1
     obtain ⟨⟨k,f,fd,ps,hr,F,hb,M,hg⟩,hqa⟩:=hq
     cases es with
     |nil=>cases h2
     |cons e es=>
      intro pins s σ H Q I h
      exact wpAny_Call_Name_kw (jB I g hg (PySem.W.callWith_K (h₀:=X.base) I.ok.mod.kin M.kp (bT (dR G hE (a::as) (e::es) hqa h2 p pins s σ H _ I h) λus s1 ⟨vs,H1,I1,r,q⟩=>⟨I1.kIn,QU M F hr hb I1 r q⟩) (aX (a.sok C e (aG h2).1)) (bH as es (aG h2).2)) d)
    |cons _ _=>cases hm
   |_=>exact ff hm
  |_=>exact ff hm)
 (λC e hm=>by
  cases e with
  |Call f es ks p=>
   cases f with
   |Name y py=>
    cases ks with
    |nil=>
     simp only [and_eq_true] at hm
     exact uO (a::as) es hm.2
    |cons _ _=>cases hm
   |_=>exact ff hm
  |_=>exact ff hm)
 (λC e hm=>by cases e with|Call f es ks p=>rfl|_=>exact ff hm)
noncomputable def fld (a:EX K) (f:Str) (ha:a.s≠.zc:=by intro z;cases z):EX K:=nG (λE=>Dl K (a.t E) f)
 (λC e=>match e with
  | .Attribute o g _=>decide (g=f)&&a.m C o
  |_=>false) a.q .pl
 (λX C E e hK G hE hq hm=>by
  subst hK
  cases e with
  |Attribute o g p=>
   simp only [and_eq_true] at hm
   have e:=of_decide_eq_true hm.1
   subst e
   exact YW (a.ok X C E o rfl G hE hq hm.2) (xX (a.sok C o hm.2) ha)
  |_=>exact ff hm)
 (λC e hm=>by cases e with|Attribute o g p=>exact ⟨rfl,rfl⟩|_=>exact ff hm)
noncomputable def kN (o:EX K) (f:Str) (a:EX K):SX K where
 t:=λE=>Dx K (o.t E) (a.t E) f
 m:=λC s=>match s with
  | .Assign [.Attribute l g _] e _=>decide (a.s≠.cp)&&(decide (g=f)&&(o.m C l&&a.m C e))
  |_=>false
 q:=λR=>o.q R/\a.q R
 ok:=λX C E s hK G hE hq hm=>by
  subst hK;split at hm
  ·rename_i l g p' e p;simp only [and_eq_true] at hm;obtain ⟨h1,h2,h3,h4⟩:=hm;have e:=of_decide_eq_true h2;subst e;exact YK (o.ok X C E l rfl G hE hq.1 h3) (a.ok X C E _ rfl G hE hq.2 h4) (kJ (a.sok C _ h4) (of_decide_eq_true h1))
  ·cases hm
section
variable {E:XS} {σ:St} {H:Hp} {Q:VK} {D:Ends} {a o:EX K} {as:List (EX K)}
theorem MP {x:Str} {sp:Sp} (h:fY (a::as) E σ H λvs H1=>∀x' dx,H1 x'=none->H1 dx=none->dx≠x'->sp (.ref x'::vs) (upd (upd H1 dx (.own x')) x' (.ins (clsAt K x) dx [])) (λv H2=>v=.non/\Q (.ref x') H2) λ_ _ _=>False):(Jj x sp a as).t E σ H Q:=h
noncomputable def FU (K:Fg) (f:Str) (x:V) (H:Hp) (Q:VK):Prop:=∃a C dx fs v,x=.ref a/\H a=some (.ins C dx fs)/\IC K C/\bS K C f/\fs.lookup f=some v/\Q v H
theorem cO {f:Str} {ha:a.s≠.zc} (h:a.t E σ H λx H1=>FU K f x H1 Q):(fld a f ha).t E σ H Q:=h
noncomputable def sO (K:Fg) (f:Str) (y x:V) (H:Hp) (Q:Hp->Prop):Prop:=∃a C dx fs,x=.ref a/\H a=some (.ins C dx fs)/\IC K C/\bS K C f/\fs.length<1000/\Q (upd H a (.ins C dx (L2.iG f y fs)))
theorem fN {f:Str} (h:a.t E σ H λy H1=>o.t E σ H1 λx H2=>sO K f y x H2 λH3=>D.nx σ H3):(kN o f a).t E D σ H:=h
end
noncomputable def Bz (K:Fg) (x qual:Str) (st:Stmt):Prop:=∃(f:Addr) (fd:FuncData),Cs K "__init__" qual st f fd/\Mk K (clsAt K x) f
theorem TH {x qual:Str} {st:Stmt} {C f:Addr} {oc:Value} {od an:Option Addr} {osl:Array (Option Value)} {kV doc pm cdv ct:Value} (h1:PySem.W.nsIn K mainGlobals x=some (some (.ref C))) (h2:PySem.W.findIn K (.ref C) "__init__"=some (some (.ref f)))
  (l:K.lookup f=some ⟨oc,od,.func (PySem.W.fnOf "__init__" qual (cJ st) (aZ st) (aM st) .none kV doc pm an cdv ct),osl⟩) (c:PySem.W.codeIn K cdv qual=true) (k:PySem.W.keepIn K (.ref f)=true)
  (m:PySem.W.makesIn K C=true) (n:PySem.W.isFn K (.ref f)=true) (kp:PySem.W.keepIn K (.ref C)=true):Bz K x qual st:=by
 have e1:clsAt K x=C:=by unfold clsAt;rw[h1]
 exact ⟨f,_,ND l c k,by rw[e1];exact ⟨m,h2,n,kp⟩⟩
noncomputable def Js (P:Program) (w:World) (K:Fg) (mg:Str->Option Value) (base:Heap) (k:Nat) (x:Str) (sp:Sp):Prop:=
 ∃(f:Addr) (fd:FuncData) (ps:List Str),sC P w K mg base (tY P w) k f fd ps sp/\Binds K fd ps []/\Mk K (clsAt K x) f/\mg x=some (.ref (clsAt K x))
theorem Js.at {P:Program} {w:World} {mg:Str->Option Value} {base:Heap} {j k:Nat} {x:Str} {sp:Sp} {A:Around} (D:Js P w K mg base j x sp) (hr:cG k A) (h:j+1<=k):Jb ⟨P,w,K,mg,base,A⟩ x sp:=by
 obtain ⟨f,fd,ps,F,hb,M,hg⟩:=D;exact ⟨j,f,fd,ps,hr.mono h,F,hb,M,hg⟩
theorem Bg {P:Program} {w:World} {mg:Str->Option Value} {base:Heap} {k:Nat} {x qual:Str} {st:Stmt} {sp:Sp} {N ps:List Str} (F:Bz K x qual st) (hg:mg x=some (.ref (clsAt K x))) (bl:∀x∈nI,mg x=none) (b:List (SX K)) (S:eC N ps (aM st)) (hm:DS b ⟨N,(aM st).names,true⟩ (aZ st)=true)
  (hb:∀(kV doc pm:Value) (an:Option Addr) (cdv ct:Value) (us:List Value),us.length=ps.length->bindArgs (PySem.W.fnOf "__init__" qual (cJ st) (aZ st) (aM st) .none kV doc pm an cdv ct) ⟨us,[]⟩=pure (ps.zip us))
  (len:∀vs H Q E,sp vs H Q E->vs.length=ps.length) (t:∀vs H Q E,sp vs H Q E->lJ b (λ_=>E) {nx:=λ_ H'=>Q .non H',rt:=Q} (start N vs) H) (hq:∀A,cG k A->IB b ⟨P,w,K,mg,base,A⟩):Js P w K mg base (k+1) x sp:=by
 obtain ⟨f,fd,F,M⟩:=F;exact ⟨f,fd,ps,CH F b S hm bl hq len t,F.binds hb,M,hg⟩
end
noncomputable def VA (a:Addr):It:=
 ⟨λi H=>∃xs x,H a=some (.lst xs)/\xs[i]?=some x,
  λi H v H'=>∃p x,H p=none/\v=.ref p/\H'=upd H p (.tup [.int (i:Nat),x])/\∀xs,H a=some (.lst xs)->xs[i]?=some x,
  λi H=>∃xs,H a=some (.lst xs)/\xs.length<=i⟩
noncomputable def Nz (e it a:Addr) (i:Nat) (h:Heap):Prop:=(∃old,IsEnum h e it ((i:Nat):Int) old)/\h.IsListIter it a i
theorem FE {P:Program} {w:World} {K:Fg} {elts:List Expr} {k:Nat} {pos:Pos} (a e it:Addr) (hei:e≠it):Turn P w K (.Tuple elts k pos) (VA a) [e,it] e (Nz e it a) where
 mem:=by simp
 obj:=λi h st c hc=>by
  obtain ⟨⟨old,he⟩,⟨o1,e1,c1,d1⟩⟩:=st;simp only [mem_cons,not_mem_nil,or_false] at hc;rcases hc with rfl|rfl
  ·exact ⟨_,he,λ_ q=>by have q':Data.fields _=Data.cell _:=q;cases q'⟩
  ·exact ⟨_,e1,λ_ q=>by rw[d1] at q;cases q⟩
 keep:=λi h h' st kp=>by
  obtain ⟨⟨old,he⟩,l1⟩:=st;exact ⟨⟨old,kp e (by simp) _ he⟩,l1.at λo q=>kp it (by simp) o q⟩
 item:=by
  intro X hP hw hK hc i pins s σ H E I hf st hg;subst hP hw hK;obtain ⟨xs,x,hqa,hx⟩:=hg;obtain ⟨z,its,n,r,hl,eo⟩:=I.lstM hqa;obtain ⟨u,hu,ru⟩:=r.get hx;obtain ⟨⟨old,he⟩,l1⟩:=st;have hla:s.heap.IsList a its.toArray:=⟨_,eo,rfl,n,rfl⟩;refine wpAny_pyNext_enum_item he l1 hla (x:=u) (by simpa using hu) hei λh' a1 a2 a3 a4 hk=>?_;refine ⟨_,rfl,?_⟩;refine wpAny_letOwnedTupleGo_enum (s:={s with heap:=h',toks:=s.toks+1}) a1 λh2 z2 sb=>?_;have fr:H s.heap.objs.size=none:=I.hok.fresh (Nat.le_refl _);have zlt:e<s.heap.objs.size:=lt_size he;have k2:∀c o,c∉[e,it]->s.heap.get? c=some o->h2.get? c=some o:=λc o hc' q=>by
   simp only [mem_cons,not_mem_nil,or_false,not_or] at hc';exact sb.extBut _ _ hc'.1 (hk c o hc'.1 hc'.2 q)
  have T2:h2.get? s.heap.objs.size=some {cls:=.type "tuple",data:=.seq #[.int i s.toks,u]}:=sb.extBut _ _ (ne_of_gt zlt) a3;have ne:∀c∈[e,it],c≠s.heap.objs.size:=λc hc'=>by
   obtain ⟨o,q⟩:∃o,s.heap.get? c=some o:=by
    simp only [mem_cons,not_mem_nil,or_false] at hc';obtain ⟨o1,e1,_⟩:=l1;rcases hc' with rfl|rfl
    ·exact ⟨_,he⟩
    ·exact ⟨_,e1⟩
   exact ne_of_lt (lt_size q)
  have I0:Inv X pins σ (upd H s.heap.objs.size (.tup [.int (i:Nat),x])) {s with heap:=s.heap.push {cls:=.type "tuple",data:=.seq #[.int i s.toks,u]},toks:=s.toks+1}:=
   I.laid (t':=s.toks+1) (λc o q=>get?_push_of_some _ q) (Nat.le_refl _) (show aY X.prog X.w _ _ _ (.tup [.int (i:Nat),x]) from ⟨by show 2<=sizeLine;decide,[.int i s.toks,u],.cons ⟨_,rfl⟩ (.cons ru .nil),IsTup.new _ _⟩)
  have hf':∀c∈[e,it],mJ X pins (upd H s.heap.objs.size (.tup [.int (i:Nat),x])) c:=λc hc'=>⟨by rw[aF (ne c hc')];exact (hf c hc').1,(hf c hc').2⟩;have I1:Inv X pins σ (upd H s.heap.objs.size (.tup [.int (i:Nat),x])) {s with heap:=h2,toks:=s.toks+1}:=Inv.turnedN (s:={s with heap:=s.heap.push {cls:=.type "tuple",data:=.seq #[.int i s.toks,u]},toks:=s.toks+1}) (t':=s.toks+1) I0 (λc o hc' q=>by
   rcases Heap.get?_push_cases q with ⟨hcs,ho⟩|q
   ·subst hcs ho
    exact T2
   ·exact k2 c o hc' q) hf'
  exact ⟨.ref s.heap.objs.size,_,I1,rfl,⟨_,x,fr,rfl,rfl,λxs' h'=>by rw[hqa] at h';cases h';exact hx⟩,
   ⟨⟨_,by rw[show ((i+1:Nat):Int)=(i:Int)+1 by lia];exact z2⟩,a2.at λo q=>sb.extBut _ _ hei.symm q⟩,λc hc'=>(hf' c hc').1⟩
 done:=by
  intro X hP hw hK hc i pins s σ H E I hf st hg;subst hP hw hK;obtain ⟨xs,hqa,hx⟩:=hg;obtain ⟨z,its,n,r,hl,eo⟩:=I.lstM hqa;obtain ⟨⟨old,he⟩,l1⟩:=st;have n1:=r.length;have hla:s.heap.IsList a its.toArray:=⟨_,eo,rfl,n,rfl⟩;refine wpAny_pyNext_enum_end (I.ok.hd hc) he l1 hla (by simp;lia) λh' hk=>⟨rfl,Inv.turnedN (t':=s.toks) I (λc o hc' q=>?_) hf⟩;simp only [mem_cons,not_mem_nil,or_false,not_or] at hc';exact hk c o hc'.2 q
 self:=λ_ _ _ _ _ st h=>by
  obtain ⟨⟨old,he⟩,_⟩:=st;exact wpAny_pyIter_enum he h
section
variable {K:Fg}
noncomputable def pH:List V->Hp->(It->Hp->Prop)->Prop
 |[.ref p],H,R=>(∃xs,H p=some (.lst xs))/\R (VA p) H
 |_,_,_=>False
noncomputable def WG (a:EX K):IX K where
 t:=λE σ H R=>fY [a] E σ H λvs H1=>pH vs H1 R
 tm:=λe=>match e with
  | .Tuple _ _ _=>true
  |_=>false
 m:=λC e=>match e with
  | .Call (.Name y _) es [] _=>rD C "enumerate" y&&jX [a] C es
  |_=>false
 q:=λR=>sQ [a] R
 ok:=λX C E tg e hK G hE hq ht hm=>by
  subst hK;cases tg with
  |Tuple ts tk tp=>
   cases e with
   |Call f es ks p=>
    cases f with
    |Name y py=>
     cases ks with
     |nil=>
      simp only [and_eq_true] at hm;obtain ⟨h1,h2⟩:=hm;have e:=cC h1;subst e;obtain ⟨g,d⟩:=cB G h1;cases es with
      |nil=>cases h2
      |cons e es=>
       intro pins s σ H R I h;refine Call_ (fM I g (G.bl _ (by decide+kernel)) boot_enumerate (PyProof.Rows.callWith_type1 (bT (dR G hE [a] (e::es) hq h2 p pins s σ H _ I h) λus s1 ⟨vs,H1,I1,r1,q1⟩=>?_) (aX (a.sok C e (aG h2).1)) (bH [] es (aG h2).2)));replace q1:pH vs H1 R:=q1;unfold pH at q1;split at q1
       ·rename_i p1;cases r1 with
        |cons r rr=>
         cases rr;cases r;obtain ⟨⟨xs,hx⟩,q⟩:=q1;obtain ⟨z,its,n,r,hl,eo⟩:=I1.lstM hx;refine call_enumerate_1 eo λh' z1 z2 z3 kp=>?_;refine wpAny_pyIter_enum (s:={s1 with heap:=h'}) z1 ?_;have big:∀c∈[s1.heap.objs.size+1,s1.heap.objs.size],s1.heap.objs.size<=c:=by
          intro c hc;simp only [mem_cons,not_mem_nil,or_false] at hc;lia
         exact ⟨_,[s1.heap.objs.size+1,s1.heap.objs.size],_,_,H1,rfl,I1.kept (t':=s1.toks) kp,FE p1 _ _ (Nat.succ_ne_self _),⟨⟨_,z1⟩,z2⟩,λc hc=>I1.fpOk (big c hc) (I1.hok.fresh (big c hc)),q⟩
       ·exact q1.elim
     |cons _ _=>cases hm
    |_=>exact ff hm
   |_=>exact ff hm
  |_=>cases ht
 fs:=λC e env x hm=>by cases e with|Call f es ks p=>rfl|_=>exact ff hm
section
variable {E:XS} {σ:St} {H:Hp} {D:Ends} {Q:VK} {QB:Bool->Hp->Prop} {a b c:EX K}
theorem Ak {R:It->Hp->Prop} (h:fY [a] E σ H λvs H1=>pH vs H1 R):(WG a).t E σ H R:=h
theorem TZ {R:It->Hp->Prop} {p:Addr} {xs:List V} (c:H p=some (.lst xs)) (h:R (VA p) H):pH [.ref p] H R:=⟨⟨xs,c⟩,h⟩
theorem GQ {p:Addr} {xs:List V} {m n:Nat} {tb:TS} (Pv:Nat->St->Hp->Prop) (h0:Pv 0 σ H) (hk:∀i σ1 H1,Pv i σ1 H1->H1 p=some (.lst xs))
  (hw:∀i σ1 H1 a o,Pv i σ1 H1->H1 a=none->Pv i σ1 (upd H1 a o))
  (hs:∀i x σ1 H1,xs[i]?=some x->Pv i σ1 H1->tb {D with nx:=Pv (i+1),ct:=Pv (i+1),bk:=D.nx} ((σ1.set m (some (.int (i:Nat)))).set n (some x)) H1) (hd:∀σ1 H1,Pv xs.length σ1 H1->D.nx σ1 H1):
  mY (VA p) (IT [m,n]:TX K).g tb D σ H:=by
 refine ⟨λi k σ1 H1=>k=xs.length - i/\i<=xs.length/\Pv i σ1 H1,⟨_,rfl,zero_le _,h0⟩,?_⟩;rintro i k σ1 H1 ⟨rfl,hi,s1⟩;have hp1:=hk _ _ _ s1;by_cases hlt:i<xs.length
 ·refine .inr ⟨⟨xs,xs[i],hp1,getElem?_eq_getElem hlt⟩,Pv (i+1),λσ3 H3 q=>⟨xs.length - (i+1),by lia,rfl,hlt,q⟩,?_⟩;rintro v H' ⟨a,x,ha,rfl,rfl,hx⟩;exact qE (cZ.of aA) (hs i x σ1 _ (hx _ hp1) (hw _ _ _ _ _ s1 ha))
 ·have e:i=xs.length:=by lia
  subst e;exact .inl ⟨⟨xs,hp1,Nat.le_refl _⟩,hd σ1 H1 s1⟩
end
end
section
variable {K:Fg}
theorem oG:∀{xs:List V} {us:List Value},xs.length=us.length->(∀(i:Nat) (x:V) (u:Value),xs[i]?=some x->us[i]?=some u->RelV x u)->Vals xs us
 |[],[],_,_=>.nil
 |[],_::_,h,_=>by simp at h
 |_::_,[],h,_=>by simp at h
 |x::xs,u::us,h,g=>.cons (g 0 x u rfl rfl) (oG (by simpa using h) λi y v a b=>g (i+1) y v (by simpa using a) (by simpa using b))
noncomputable def uV:List V->Hp->VK->Prop
 |[.str z],H,Q=>z.length<=sizeLine/\∀l,H l=none->Q (.ref l) (upd H l (.lst (jH z)))
 |_,_,_=>False
theorem LY (X:Cx) (hc:X.calm=true):bZ X (.type "list") uV:=by
 intro pins s σ H xs us Q I r h;unfold uV at h;split at h
 ·rename_i z;obtain ⟨hz,q⟩:=h;obtain ⟨u,rfl,r1⟩:=r.one;obtain ⟨t,rfl⟩:=r1;refine call_list_str (I.ok.hd hc) z t (λh' tk acc' c' kp hS hI=>?_) hz;have hv:Vals (jH z) acc'.toList:=oG (by rw[eM,length_toList];exact hI.1.symm) λi x u hx hu=>by
   have hu':acc'[i]?=some u:=by rw[<-Array.getElem?_toList];exact hu
   obtain ⟨c,tu,hc,rfl⟩:=hI.2 i u hu';have hc':z.cps.toList[i]?=some c:=by rw[Array.getElem?_toList];exact hc
   unfold jH at hx;rw[getElem?_map,hc'] at hx;cases hx;exact ⟨tu,rfl⟩
  refine ⟨.ref s.heap.objs.size,_,I.laid (a:=s.heap.objs.size) (o:=.lst (jH z)) (t':=tk) kp (Nat.le_refl _) ⟨by rw[eM];exact hz,acc'.toList,c',hv,hS⟩,rfl,q _ (I.hok.fresh (Nat.le_refl _))⟩
 ·exact h.elim
noncomputable def listS (a:EX K):EX K:=Ik "list" "list" uV (λX _ hc _=>LY X hc) PyProof.Rows.Boot.list (by decide+kernel) (by decide+kernel) a []
theorem TQ {E:XS} {σ:St} {H:Hp} {Q:VK} {a:EX K} (h:a.t E σ H λx H1=>uV [x] H1 Q):(listS a).t E σ H Q:=h
end
section
variable {K:Fg}
noncomputable def fA (K:Fg):Sp:=λvs H Q _=>∃(a:Addr) (ns:List Int) (k:Int),vs=[.ref a,.int k]/\aR K H a (ns.map V.int)/\0<=k/\∀v:Int,Q (.int v) H
noncomputable def jV (K:Fg):List (SX K):=
 [rW (cmp .Lt (var 1) (len (var 0))) [ret (ix (var 0) (var 1))] [],
  ret (cst (.int 0))]
theorem OS {ns:List Int} {k:Int} (h0:0<=k) (h:k<ns.length):∃v:Int,rE (ns.map V.int) k=some (.int v):=by
 have hk:k.toNat<ns.length:=by lia
 have ek:k=((k.toNat:Nat):Int):=by lia
 have z:rE (ns.map V.int) ((k.toNat:Nat):Int)=some (.int ns[k.toNat]):=gU (by rw[getElem?_map,getElem?_eq_getElem hk]<;>rfl);rw[<-ek] at z;exact ⟨_,z⟩
theorem AR:TT (fA K) (jV K) ["_law_script","_law_k"]:=by
 intro vs H Q E h;obtain ⟨a,ns,k,rfl,hS,h0,q⟩:=h;unfold jV;walk_at "";refine jI (λc=>?_) λc=>?_
 ·rw[length_map] at c;obtain ⟨v,hv⟩:=OS h0 c;walk_at "";exact qG hS hv (q v)
 ·walk_at "";exact q 0
noncomputable def dW (K:Fg):Sp:=λvs H Q _=>∃c k:Int,vs=[.int c,.int k]/\0<=k/\k<=1000/\∀v:Int,0<=v->v<2147483587->Q (.int v) H
noncomputable def iS (K:Fg):List (SX K):=
 [set 2 (bin .Mod (bin .Add (bin .Add (bin .Mult (bin .Mod (var 0) (cst (.int 2147483647))) (cst (.int 69621))) (bin .Mult (bin .Mult (cst (.int 104659)) (var 1)) (var 1))) (cst (.int 7877))) (cst (.int 2147483647))),
  ret (bin .Mod (bin .Mult (var 2) (var 2)) (cst (.int 2147483587)))]
theorem xI:TT (dW K) (iS K) ["_law_cell_here","_law_k","_law_number"]:=by
 intro vs H Q E h;obtain ⟨c,k,rfl,h0,h1,q⟩:=h;unfold iS;walk_at "";exact q _ (emod_nonneg _ (by decide)) (emod_lt_of_pos _ (by decide))
noncomputable abbrev AD:Str:=Str.ofString "abcd"
theorem iU:AD.length=4:=by decide+kernel
theorem AB:AD.cps.toList=[97,98,99,100]:=by decide+kernel
theorem small {n:Nat} (h:n<=1000000):n<=sizeLine:=le_trans h (by rw[sizeLine_eq];decide)
theorem oF {r m:Int} (h0:0<=r) (hm:r<m) (h4:m<=4):rE AD.cps.toList r=some (97+r.toNat):=by
 have:r=0\/r=1\/r=2\/r=3:=by lia
 rw[AB];rcases this with rfl|rfl|rfl|rfl<;>rfl
noncomputable def mL (K:Fg):Sp:=λvs H Q _=>∃n m s:Int,vs=[.int n,.int m,.int s]/\1<=m/\m<=4/\0<=s/\s<=1000/\∀z:Str,eX m.toNat z->z.length=s.toNat->Q (.str z) H
noncomputable def jU (K:Fg):List (SX K):=
 [set 3 (cst (.str "")),
  mE (jA 4) (BZ (var 2) []) [set 0 (bin .Mod (bin .Mult (bin .Add (bin .Add (var 0) (var 4)) (cst (.int 3))) (cst (.int 48271))) (cst (.int 2147483647))),
   set 3 (bin .Add (var 3) (ix (cst (.str "abcd")) (bin .Mod (bin .FloorDiv (var 0) (cst (.int 64))) (var 1))))],
  ret (var 3)]
theorem AQ:TT (mL K) (jU K) ["_law_number","_law_many","_law_size","_law_word_here","_law_k"]:=by
 intro vs H Q E h;obtain ⟨n,m,s,rfl,h1,h4,hs0,hs,q⟩:=h;unfold jU;walk_at "";refine iI (λi σ H'=>H'=H/\∃(n':Int) (z:Str) (a4:Option V),eX m.toNat z/\z.length=i/\σ=[some (.int n'),some (.int m),some (.int s),some (.str z),a4]) ⟨rfl,n,_,none,eX.nil,by decide+kernel,rfl⟩ (λi σ H' hi hp=>?_) λσ H' hp=>?_
 ·obtain ⟨rfl,n',z,a4,hz,hl,rfl⟩:=hp;walk_at "";refine qF (by rw[iU];decide) (oF (emod_nonneg _ (by lia)) (emod_lt_of_pos _ (by lia)) h4) ?_;refine wA (small (by show z.length+1<=1000000;lia)) ?_;refine ⟨rfl,_,_,_,eX.app hz (eX.sgn (by lia) ?_),by rw[len_app,hl];rfl,rfl⟩;have:=emod_lt_of_pos ((n'+(0+(i:Nat))+3) * 48271 % 2147483647 / 64) (show (0:Int)<m by lia);have:=emod_nonneg ((n'+(0+(i:Nat))+3) * 48271 % 2147483647 / 64) (show m≠0 by lia);lia
 ·obtain ⟨rfl,n',z,a4,hz,hl,rfl⟩:=hp;walk_at "";exact q z hz hl
structure Rl (K:Fg) (H:Hp) (a:Addr) (ws:List Str) (most:Nat):Prop where
 tp:H a=some (.tup (ws.map V.str))
 pos:1<=ws.length
 four:ws.length<=4
 isw:∀w∈ws,eX ws.length w
 one:∀w∈ws,1<=w.length
 le:∀w∈ws,w.length<=most
theorem aC.seqT {H H':Hp} {a:Addr} {xs:List V} (e:aC H H') (h:cZ K H a xs):cZ K H' a xs:=by
 rcases h with (h|⟨o,h⟩)|h
 ·exact .inl (.inl (e _ _ h))
 ·exact .inl (.inr ⟨o,e _ _ h⟩)
 ·exact .inr h
theorem Rl.sq {H:Hp} {a:Addr} {ws:List Str} {m:Nat} (h:Rl K H a ws m):cZ K H a (ws.map V.str):=cZ.of h.tp
theorem Rl.same {H H':Hp} {a:Addr} {ws:List Str} {m:Nat} (h:Rl K H a ws m) (e:aC H H'):Rl K H' a ws m:=⟨e _ _ h.tp,h.pos,h.four,h.isw,h.one,h.le⟩
theorem gD {H0 H:Hp} {p:Addr} {o:HO} (e:aC H0 H) (hp:H0 p=none):aC H0 (upd H p o):=λb u q=>by rw[aF (aB q hp)];exact e b u q
theorem eX.to {m:Nat} {z:Str} {k:Int} (h:eX m z) (h0:0<=k):eX m (Txt.slice z none (some k)):=h.of_ls λc hc=>by
 rw[show ls (Txt.slice z none (some k))=(ls z).take k.toNat from cR h0] at hc;exact mem_of_mem_take hc
theorem eX.from {m:Nat} {z:Str} {k:Int} (h:eX m z) (h0:0<=k) (h1:k<=z.length):eX m (Txt.slice z (some k) none):=h.of_ls λc hc=>by
 rw[show ls (Txt.slice z (some k) none)=(ls z).drop k.toNat from gM h0 h1] at hc;exact mem_of_mem_drop hc
theorem BF {c:Nat} (h1:97<=c) (h2:c<101):∃r,Builtin.Str.occurrences AD ⟨#[c]⟩ 0 AD.length 1=(c - 97)::r:=by
 have:c=97\/c=98\/c=99\/c=100:=by lia
 rcases this with rfl|rfl|rfl|rfl
 ·exact ⟨[],by decide+kernel⟩
 ·exact ⟨[],by decide+kernel⟩
 ·exact ⟨[],by decide+kernel⟩
 ·exact ⟨[],by decide+kernel⟩
noncomputable def kH (K:Fg):Sp:=λvs H Q _=>∃(a:Addr) (ws:List Str) (z:Str),vs=[.ref a,.str z]/\Rl K H a ws 100/\eX ws.length z/\z.length<=20000/\∀H',aC H H'->Q (.str (img ws z)) H'
noncomputable def iT (K:Fg):List (SX K):=
 [set 2 (lst []),
  mE (jA 3) (iL (var 1)) [ex (gF (var 2) (ix (var 0) (vI (cst (.str "abcd")) (var 3))))],
  ret (vH (cst (.str "")) (var 2))]
theorem xJ:TT (kH K) (iT K) ["_law_rule_here","_law_word_here","_law_found","_law_sign"]:=by
 intro vs H Q E h;obtain ⟨a,ws,z,rfl,hR,hz,hzl,q⟩:=h;unfold iT;walk_at "";refine ⟨zero_le _,λp hp=>?_⟩;walk_at "";have hn:(ls z).length<=20000:=by rw[aP];exact hzl
 have hw:∀i c,(ls z)[i]?=some c->∃w,ws[c - 97]?=some w/\w∈ws/\97<=c/\c<101:=λi c hc=>by
  have h:=hz c (mem_of_getElem? hc);have h4:=hR.four;have hl:c - 97<ws.length:=by lia
  exact ⟨ws[c - 97],getElem?_eq_getElem hl,getElem_mem hl,h.1,by lia⟩
 refine LV (λi σ H'=>aC H H'/\i<=(ls z).length/\∃(a3:Option V),H' p=some (.lst (((ls z).take i).map λc=>V.str (aH (wd ws c))))/\σ=[some (.ref a),some (.str z),some (.ref p),a3])
  ⟨aE hp _,zero_le _,none,aA,rfl⟩ (λi c σ H' hc hP=>?_) λσ H' hP=>?_
 ·obtain ⟨hSm,hi,a3,hpl,rfl⟩:=hP;obtain ⟨w,hw1,hw2,hc1,hc2⟩:=hw i c hc;obtain ⟨r,hr⟩:=BF hc1 hc2;have hilt:=(List.getElem?_eq_some_iff.mp hc).1;walk_at "";refine HB (aR.of hpl) ?_;walk_at "";refine zI hr ?_;refine sX (v:=.str w) (aC.seqT hSm hR.sq) (gU (by rw[getElem?_map,hw1];rfl)) ?_;walk_at "";refine eE hpl (by rw[length_map,length_take];exact Nat.lt_of_lt_of_le (show min i (ls z).length<100000 by lia) (small (by decide))) ?_;refine ⟨gD hSm hp,hilt,_,?_,rfl⟩;rw[aA,take_add_one,hc,map_append];have e:aH (wd ws c)=w:=by unfold wd;rw[hw1];exact VU w
  show some (HO.lst (_++[V.str w]))=some (HO.lst (_++[V.str (aH (wd ws c))]));rw[e]
 ·obtain ⟨hSm,hi,a3,hpl,rfl⟩:=hP;walk_at "";have hb:(((ls z).map λc=>aH (wd ws c)).map (·.length)).sum<=20000 * 100:=by
   refine le_trans (uI (B:=100) λx hx=>?_) (by rw[length_map,length_map];exact Nat.mul_le_mul_right _ hn);obtain ⟨y,hy,rfl⟩:=mem_map.mp hx;obtain ⟨c,hc,rfl⟩:=mem_map.mp hy;obtain ⟨i,hi'⟩:=getElem?_of_mem hc;obtain ⟨w,hw1,hw2,_⟩:=hw i c hi';rw[eP];unfold wd;rw[hw1];show (ls w).length<=100;rw[aP];exact hR.le w hw2
  refine ⟨(ls z).map λc=>aH (wd ws c),.inl ?_,?_,?_⟩
  ·rw[hpl,take_length,map_map];rfl
  ·have e:(Str.ofString "").length=0:=by decide+kernel
   rw[e];lia
  ·have e:Txt.join (Str.ofString "") ((ls z).map λc=>aH (wd ws c))=img ws z:=cN (by
    rw[pP,jQ,map_map,List.flatMap_def]
    congr 1)
   rw[e];exact q H' hSm
end
section
variable {K:Fg}
noncomputable def known (m:Int):Str:=Txt.slice AD none (some m)
theorem dM {m:Int} (h0:0<=m) (h4:m<=4):ls (known m)=(range m.toNat).map (97+·):=by
 unfold known;rw[show ls (Txt.slice AD none (some m))=AD.cps.toList.take m.toNat from cR h0,AB];have:m=0\/m=1\/m=2\/m=3\/m=4:=by lia
 rcases this with rfl|rfl|rfl|rfl|rfl<;>rfl
theorem jC {m:Int} (h0:0<=m) (h4:m<=4):(known m).length=m.toNat:=by rw[<-aP,dM h0 h4,length_map,length_range]
theorem MC {m:Int} (h0:0<=m) (h4:m<=4) {k:Nat} (hk:k<m.toNat):(known m).cps.toList[k]?=some (97+k):=by
 rw[show (known m).cps.toList=ls (known m) from rfl,dM h0 h4,getElem?_map,getElem?_range hk];rfl
noncomputable def cM (K:Fg):Sp:=λvs H Q _=>∃m:Int,vs=[.int m]/\Q (.str (known m)) H
noncomputable def mF (K:Fg):List (SX K):=
 [ret (xA (As "LETTERS" (.str "abcd")) none (some (var 0)))]
theorem FF:TT (cM K) (mF K) ["many"]:=by
 intro vs H Q E h;obtain ⟨m,rfl,q⟩:=h;unfold mF;walk_at "";exact dQ (by rw[iU];decide) q
noncomputable def WB (H:Hp) (d:Addr) (ws:List Str):Prop:=∃kvs,H d=some (.dK kvs)/\(∀k w,ws[k]?=some w->dG kvs (.inr ⟨#[97+k]⟩)=some (.str w))/\∀c,¬(97<=c/\c<97+ws.length)->dG kvs (.inr ⟨#[c]⟩)=none
theorem WB.same {H H':Hp} {d:Addr} {ws:List Str} (h:WB H d ws) (e:aC H H'):WB H' d ws:=by
 obtain ⟨kvs,h1,h2,h3⟩:=h;exact ⟨kvs,e _ _ h1,h2,h3⟩
theorem WB.get {H:Hp} {d:Addr} {ws:List Str} (h:WB H d ws) {c:Nat} {w:Str} (hc:97<=c) (hw:ws[c - 97]?=some w):eY H d (sgn c) (some (.str w)):=by
 obtain ⟨kvs,h1,h2,_⟩:=h;have e:=h2 (c - 97) w hw;have:97+(c - 97)=c:=by lia
 rw[this] at e;rw[<-e];exact eY.k (k:=.inr ⟨#[c]⟩) h1
theorem WB.miss {H:Hp} {d:Addr} {ws:List Str} (h:WB H d ws) {c:Nat} (hc:¬(97<=c/\c<97+ws.length)):eY H d (sgn c) none:=by
 obtain ⟨kvs,h1,_,h3⟩:=h;rw[<-h3 c hc];exact eY.k (k:=.inr ⟨#[c]⟩) h1
structure tX (K:Fg) (H:Hp) (a:Addr) (ws:List Str):Prop where
 tp:cZ K H a (ws.map V.str)
 pos:1<=ws.length
 four:ws.length<=4
theorem tX.same {H H':Hp} {a:Addr} {ws:List Str} (h:tX K H a ws) (e:aC H H'):tX K H' a ws:=⟨aC.seqT e h.tp,h.pos,h.four⟩
theorem Rl.rt {H:Hp} {a:Addr} {ws:List Str} {m:Nat} (h:Rl K H a ws m):tX K H a ws:=⟨h.sq,h.pos,h.four⟩
noncomputable def bM (K:Fg):Sp:=λvs H Q _=>∃(a:Addr) (ws:List Str),vs=[.ref a]/\tX K H a ws/\∀d H',aC H H'->H d=none->WB H' d ws->Q (.ref d) H'
noncomputable def cV (K:Fg):List (SX K):=
 [ret (UK (call "letters" (cM K) [len (var 0)]) (var 0))]
theorem cK {m:Int} (h0:0<=m) (h4:m<=4) {k:Nat} (hk:k<m.toNat):fW (known m) k=.inr ⟨#[97+k]⟩:=by
 unfold fW;rw[StrLaws.getD_of_getElem? (MC h0 h4 hk)]
theorem uQ {c d:Nat} (h:(Sum.inr ⟨#[c]⟩:Key)=.inr ⟨#[d]⟩):c=d:=by
 have e2:(⟨#[c]⟩:Str)=⟨#[d]⟩:=Sum.inr.inj h;have e3:=congrArg ls e2;simp [ls] at e3;exact e3
theorem kA:TT (bM K) (cV K) ["rule"]:=by
 intro vs H Q E h;obtain ⟨a,ws,rfl,hR,q⟩:=h;have h4:=hR.four;have hq:=hR.tp;have hlen:(ws.map V.str).length=ws.length:=length_map _;unfold cV;walk_at "";refine ⟨_,rfl,?_⟩;walk_at "";have k0:(0:Int)<=((ws.map V.str).length:Nat):=by lia
 have k4:(((ws.map V.str).length:Nat):Int)<=4:=by lia
 have hkl:(known ((ws.map V.str).length:Nat)).cps.size=ws.length:=by
  show (known ((ws.map V.str).length:Nat)).length=_;rw[jC k0 k4];lia
 have hinj:∀i j,i<(known ((ws.map V.str).length:Nat)).cps.size->j<(known ((ws.map V.str).length:Nat)).cps.size->fW (known ((ws.map V.str).length:Nat)) i=fW (known ((ws.map V.str).length:Nat)) j->i=j:=λi j hi hj e=>by
  rw[hkl] at hi hj;rw[cK k0 k4 (by lia),cK k0 k4 (by lia)] at e;have:=uQ e;lia
 refine ⟨_,_,ws.map V.str,rfl,.inl hq,by rw[hkl,hlen],by rw[hkl];lia,?_,hinj,λd hd=>?_⟩
 ·rw[Array.all_eq_true'];intro c hc;have hc':c∈ls (known ((ws.map V.str).length:Nat)):=by simpa [ls] using hc
  rw[dM k0 k4] at hc';obtain ⟨k,hk,rfl⟩:=mem_map.mp hc';have:=mem_range.mp hk;simp;lia
 refine q d _ (aE hd _) hd ⟨_,aA,λk w hw=>?_,λc hc=>?_⟩
 ·have hl:k<ws.length:=(List.getElem?_eq_some_iff.mp hw).1;unfold jJ;rw[<-cK k0 k4 (show k<(((ws.map V.str).length:Nat):Int).toNat by lia),sF hinj (by rw[hkl];exact hl),getElem?_map,hw];rfl
 ·unfold jJ dG;rw[List.find?_map];have e:(range (known ((ws.map V.str).length:Nat)).cps.size).find? ((λkv:Key × V=>decide (kv.1=.inr ⟨#[c]⟩))∘λi=>(fW (known ((ws.map V.str).length:Nat)) i,(ws.map V.str)[i]?.getD .non))=none:=by
   refine List.find?_eq_none.mpr λi hi z=>hc ?_;have hi':=mem_range.mp hi;rw[hkl] at hi';have z1:fW (known ((ws.map V.str).length:Nat)) i=.inr ⟨#[c]⟩:=of_decide_eq_true z;rw[cK k0 k4 (by lia)] at z1;have:=uQ z1;lia
  rw[e];rfl
noncomputable def lM (K:Fg):Sp:=λvs H Q _=>∃(a:Addr) (ws:List Str) (z:Str),vs=[.ref a,.str z]/\tX K H a ws/\(∀w∈ws,w.length<=100)/\eX ws.length z/\z.length<=100000/\∀H',aC H H'->Q (.str (img ws z)) H'
noncomputable def OK (K:Fg):List (SX K):=
 [set 2 (call "words_by_letter" (bM K) [var 0]),
  ret (vH (cst (.str "")) (comp (ix (var 1) (var 0)) (jA 0) (iL (var 1)) ["sign"] ["word_for"] [2]))]
theorem Cz:TT (lM K) (OK K) ["rule","word","word_for"]:=by
 intro vs H Q E h;obtain ⟨a,ws,z,rfl,hR,hle,hz,hzl,q⟩:=h;unfold OK;walk_at "";refine ⟨a,ws,rfl,hR,λd H1 hS1 _ hd=>?_⟩;walk_at "";intro D hD;refine zS (λc=>.str (aH (wd ws c))) hD (small (by lia)) (λi c H2 Q' hc hS2 fin=>?_) λH2 hS2 hO=>?_
 ·have hcw:=hz c (mem_of_getElem? hc);have hl:c - 97<ws.length:=by lia
  walk_at "";have e:aH (wd ws c)=ws[c - 97]:=by
   unfold wd;rw[getElem?_eq_getElem hl];exact VU _
  have f2:=fin H2 (aC.refl _);rw[e] at f2;exact iK ((hd.same hS2).get hcw.1 (getElem?_eq_getElem hl)) f2
 ·walk_at "";have hb:(((ls z).map λc=>aH (wd ws c)).map (·.length)).sum<=100000 * 100:=by
   refine le_trans (uI (B:=100) λx hx=>?_) (by rw[length_map,length_map,aP];exact Nat.mul_le_mul_right _ hzl);obtain ⟨y,hy,rfl⟩:=mem_map.mp hx;obtain ⟨c,hc,rfl⟩:=mem_map.mp hy;have hcw:=hz c hc;have hl:c - 97<ws.length:=by lia
   rw[eP];unfold wd;rw[getElem?_eq_getElem hl];show (ls ws[c - 97]).length<=100;rw[aP];exact hle _ (getElem_mem hl)
  refine ⟨(ls z).map λc=>aH (wd ws c),.inl ?_,?_,?_⟩
  ·rw[hO,map_map];rfl
  ·have e:(Str.ofString "").length=0:=by decide+kernel
   rw[e];lia
  ·have e:Txt.join (Str.ofString "") ((ls z).map λc=>aH (wd ws c))=img ws z:=cN (by
    rw[pP,jQ,map_map,List.flatMap_def]
    congr 1)
   rw[e];exact q H2 (hS1.trans hS2)
end
noncomputable def Ga (ws:List Str) (z:Str):Nat->Str
 |0=>z
 |k+1=>img ws (Ga ws z k)
theorem TC {ws:List Str} {z:Str} {m:Nat} (hw:∀w∈ws,eX m w) (hz:eX m z):∀k,eX m (Ga ws z k)
 |0=>hz
 |_+1=>DX hw
section
variable {K:Fg}
end
section
variable {K:Fg}
noncomputable instance (m:Nat) (z:Str):Decidable (eX m z):=by unfold eX;infer_instance
theorem Ku:PySem.W.kitOne K (.type "tuple") (.type "tuple")=some true:=by kernel_rfl
end
section
variable {K:Fg}
theorem Fo:PySem.W.kitOne K (.type "int") (.type "int")=some true:=by kernel_rfl
theorem Fq:PySem.W.kitOne K (.type "int") (.type "bool")=some false:=by kernel_rfl
noncomputable def gL (K:Fg):Sp:=λvs H Q _=>∃i:Int,vs=[.int i]/\Q (.bl true) H
noncomputable def iQ (K:Fg):List (SX K):=
 [ret (CO (Jl (var 0) VF) [yO (Jl (var 0) IV)])]
theorem xG:TT (gL K) (iQ K) ["_law_found"]:=by
 intro vs H Q E h;obtain ⟨i,rfl,q⟩:=h;unfold iQ;walk_at "";refine ⟨_,_,iV.int i,Fo,?_⟩;walk_at "";refine PL ?_;walk_at "";refine ⟨_,_,iV.int i,Fq,?_⟩;walk_at "";exact q
end
noncomputable def cnt (z:Str) (k:Nat):Int:=((ls z).count (97+k):Nat)
noncomputable def bJ (n:Nat) (z:Str):List Int:=(range n).map (cnt z)
theorem eS (n:Nat) (z:Str):(bJ n z).length=n:=by unfold bJ;rw[length_map,length_range]
theorem gH {n:Nat} {z:Str} {k:Nat} (h:k<n):(bJ n z)[k]?=some (cnt z k):=by unfold bJ;rw[getElem?_map,getElem?_range h];rfl
noncomputable def dot (xs ys:List Int):Int:=(zipWith (· * ·) xs ys).sum
noncomputable def sg (ds:List Int) (z:Str):Int:=((ls z).map λc=>ds[c - 97]?.getD 0).sum
theorem IF (f g:Nat->Int) (ds:List Int):(zipWith (· * ·) ((range ds.length).map λk=>f k+g k) ds).sum=(zipWith (· * ·) ((range ds.length).map f) ds).sum+(zipWith (· * ·) ((range ds.length).map g) ds).sum:=by
 induction ds generalizing f g with
 |nil=>rfl
 |cons d ds ih=>
  rw[length_cons,range_succ_eq_map];simp only [map_cons,map_map,zipWith_cons_cons,sum_cons];have e:=ih (f∘Nat.succ) (g∘Nat.succ);have e1:((λk=>f k+g k)∘Nat.succ)=λk=>(f∘Nat.succ) k+(g∘Nat.succ) k:=rfl;rw[e1,e,Int.add_mul];lia
theorem sD (ds:List Int):(zipWith (· * ·) ((range ds.length).map λ_=>(0:Int)) ds).sum=0:=by
 induction ds with
 |nil=>rfl
 |cons d ds ih=>
  rw[length_cons,range_succ_eq_map];simp only [map_cons,map_map,zipWith_cons_cons,sum_cons];have e1:((λ_=>(0:Int))∘Nat.succ)=λ_=>(0:Int):=rfl;rw[e1,ih,Int.zero_mul];rfl
theorem IE (ds:List Int) (j:Nat):(zipWith (· * ·) ((range ds.length).map λk=>if k=j then (1:Int) else 0) ds).sum=ds[j]?.getD 0:=by
 induction ds generalizing j with
 |nil=>rfl
 |cons d ds ih=>
  rw[length_cons,range_succ_eq_map];simp only [map_cons,map_map,zipWith_cons_cons,sum_cons];cases j with
  |zero=>
   have e1:((λk=>if k=0 then (1:Int) else 0)∘Nat.succ)=λ_=>(0:Int):=by funext k;simp
   rw[e1,sD];simp
  |succ j=>
   have e1:((λk=>if k=j+1 then (1:Int) else 0)∘Nat.succ)=λk=>if k=j then (1:Int) else 0:=by funext k;simp
   rw[e1,ih j];simp
theorem zO (ds:List Int):∀(l:List Nat),(∀c∈l,97<=c/\c<97+ds.length)->(zipWith (· * ·) ((range ds.length).map λk=>((l.count (97+k):Nat):Int)) ds).sum=(l.map λc=>ds[c - 97]?.getD 0).sum
 |[],_=>by
  have e:((range ds.length).map λk=>(((([]:List Nat).count (97+k):Nat)):Int))=(range ds.length).map λ_=>(0:Int):=map_congr_left λk _=>by simp
  rw[e,sD];rfl
 |c::l,h=>by
  obtain ⟨h1,h2⟩:=h c mem_cons_self;have ih:=zO ds l λd hd=>h d (mem_cons_of_mem _ hd);have e:((range ds.length).map λk=>(((c::l).count (97+k):Nat):Int))=(range ds.length).map λk=>(if k=c - 97 then (1:Int) else 0)+((l.count (97+k):Nat):Int):=by
   refine map_congr_left λk _=>?_;rw[List.count_cons];by_cases hk:k=c - 97
   ·have:c=97+k:=by lia
    rw[if_pos hk,this];simp;lia
   ·have:¬(c=97+k):=by lia
    rw[if_neg hk];simp [this]
  rw[e,IF,IE,ih,map_cons,sum_cons]
theorem qP {ds:List Int} {z:Str} (h:eX ds.length z):dot (bJ ds.length z) ds=sg ds z:=zO ds (ls z) h
noncomputable def iA (ws:List Str):Nat->List Int
 |0=>replicate ws.length 1
 |t+1=>ws.map (sg (iA ws t))
theorem gJ (ws:List Str):∀t,(iA ws t).length=ws.length
 |0=>length_replicate
 |_+1=>length_map _
theorem Bj (z:Str) (k:Nat):0<=cnt z k:=by unfold cnt;lia
theorem Bk (z:Str) (k:Nat):cnt z k<=z.length:=by
 unfold cnt;have:=List.count_le_length (a:=97+k) (l:=ls z);rw[aP] at this;lia
noncomputable def aK (ws:List Str) (c:Nat):Bool:=match ws[c - 97]? with
 |some w=>decide (97<=c)&&(decide (1<w.length)&&decide ((ls w)[0]?=some c))
 |none=>false
section
variable {K:Fg}
noncomputable def lO (K:Fg):Sp:=λvs H Q _=>∃(z:Str) (m:Int),vs=[.str z,.int m]/\0<=m/\m<=4/\∀r H',aC H H'->H r=none->H' r=some (.lst ((bJ m.toNat z).map V.int))->Q (.ref r) H'
noncomputable def rA (K:Fg):List (SX K):=
 [ret (comp (DR (var 1) (var 0)) (jA 0) (iL (call "letters" (cM K) [var 1])) ["letter"] ["word"] [0])]
theorem JH:TT (lO K) (rA K) ["word","many"]:=by
 intro vs H Q E h;obtain ⟨z,m,rfl,h0,h4,q⟩:=h;unfold rA;walk_at "";refine ⟨m,rfl,?_⟩;walk_at "";intro D hD;refine zS (λc=>.int (((ls z).count c:Nat):Int)) hD (small (by rw[jC h0 h4];lia)) (λi c H1 Q' hc hS fin=>?_) λH1 hS hO=>?_
 ·walk_at "";exact fin H1 (aC.refl _)
 ·refine q D H1 hS hD ?_;rw[hO,show (known m).cps.toList=ls (known m) from rfl,dM h0 h4,map_map];unfold bJ;rw[map_map];rfl
noncomputable def HZ (H:Hp) (p:Addr) (rs:List Addr) (rows:List (List Int)):Prop:=H p=some (.lst (rs.map V.ref))/\rs.length=rows.length/\∀(i:Nat) (r:Addr) (row:List Int),rs[i]?=some r->rows[i]?=some row->H r=some (.lst (row.map V.int))
theorem HZ.same {H H':Hp} {p:Addr} {rs:List Addr} {rows:List (List Int)} (h:HZ H p rs rows) (e:aC H H'):HZ H' p rs rows:=⟨e _ _ h.1,h.2.1,λi r row a b=>e _ _ (h.2.2 i r row a b)⟩
noncomputable def rowsOf (ws:List Str):List (List Int):=ws.map (bJ ws.length)
theorem nP:∀(ys:List V),(∀y∈ys,∃r,y=V.ref r)->∃rs:List Addr,ys=rs.map V.ref
 |[],_=>⟨[],rfl⟩
 |y::ys,h=>by
  obtain ⟨r,rfl⟩:=h y mem_cons_self;obtain ⟨rs,rfl⟩:=nP ys λy hy=>h y (mem_cons_of_mem _ hy);exact ⟨r::rs,rfl⟩
noncomputable def kF (K:Fg):Sp:=λvs H Q _=>∃(a:Addr) (ws:List Str),vs=[.ref a]/\tX K H a ws/\∀p rs H',aC H H'->H p=none->(∀r∈rs,H r=none)->HZ H' p rs (rowsOf ws)->Q (.ref p) H'
noncomputable def wN (K:Fg):List (SX K):=
 [ret (comp (call "counts" (lO K) [var 0,len (var 1)]) (jA 0) (iL (var 0)) ["word"] ["rule"] [0])]
theorem PZ:TT (kF K) (wN K) ["rule"]:=by
 intro vs H Q E h;obtain ⟨a,ws,rfl,hR,q⟩:=h;have h4:=hR.four;have hlen:(ws.map V.str).length=ws.length:=length_map _;unfold wN;walk_at "";refine Gw hR.tp ?_;intro D hD;refine HL (λi y H1=>∃r w,y=.ref r/\r≠D/\H r=none/\ws[i]?=some w/\H1 r=some (.lst ((bJ ws.length w).map V.int))) hR.tp hD (small (by lia)) (λi y H1 H2 hh=>?_) (λi x H1 Q' hx hS hDs fin=>?_) λH1 ys hS hO hl hr=>?_
 ·rintro ⟨r,w,e1,e2,e3,e4,e5⟩;exact ⟨r,w,e1,e2,e3,e4,hh r _ e2 e5⟩
 ·obtain ⟨w,hw,hw2⟩:∃w,ws[i]?=some w/\x=.str w:=by
   rw[getElem?_map] at hx;cases e:ws[i]? with
   |none=>rw[e] at hx;cases hx
   |some w=>rw[e] at hx;exact ⟨w,rfl,(Option.some.inj hx).symm⟩
  subst hw2;have hq1:=aC.seqT hS hR.tp;walk_at "";refine ⟨w,_,rfl,by lia,by lia,λr H2 hS2 hr hr2=>?_⟩;obtain ⟨o,ho⟩:=hDs;rw[hlen,toNat_natCast] at hr2;refine fin (.ref r) H2 hS2 ⟨r,w,rfl,(aB ho hr).symm,?_,hw,hr2⟩;cases e:H r with
  |none=>rfl
  |some o=>rw[hS _ _ e] at hr;cases hr
 ·obtain ⟨rs,rfl⟩:=nP ys λy hy=>by
   obtain ⟨i,hi⟩:=getElem?_of_mem hy;obtain ⟨r,_,e,_⟩:=hr i y hi;exact ⟨r,e⟩
  have hget:∀i r,rs[i]?=some r->H r=none/\∃w,ws[i]?=some w/\H1 r=some (.lst ((bJ ws.length w).map V.int)):=λi r hi=>by
   obtain ⟨r',w,e1,_,e3,e4,e5⟩:=hr i (.ref r) (by rw[getElem?_map,hi];rfl);cases e1;exact ⟨e3,w,e4,e5⟩
  refine q D rs H1 hS hD (λr hm=>?_) ⟨hO,?_,λi r row hi hrow=>?_⟩
  ·obtain ⟨i,hi⟩:=getElem?_of_mem hm;exact (hget i r hi).1
  ·unfold rowsOf;rw[length_map,<-hlen,<-hl,length_map]
  ·obtain ⟨_,w,e1,e2⟩:=hget i r hi;unfold rowsOf at hrow;rw[getElem?_map,e1] at hrow;cases hrow;exact e2
noncomputable def SG:V->V->V
 | .int i,.int j=>.int (i * j)
 |_,_=>.non
theorem nJ (f:Int->Int->Int) (g:V->V->V) (hg:∀i j,g (.int i) (.int j)=.int (f i j)):∀xs ys:List Int,zipWith g (xs.map V.int) (ys.map V.int)=(zipWith f xs ys).map V.int
 |[],ys=>rfl
 |x::xs,[]=>rfl
 |x::xs,y::ys=>by
  simp only [map_cons,zipWith_cons_cons,hg,nJ f g hg xs ys]
theorem fD {xs:List Int} {i:Nat} {x:V} (h:(xs.map V.int)[i]?=some x):∃k,xs[i]?=some k/\x=.int k:=by
 rw[getElem?_map] at h;cases e:xs[i]? with
 |none=>rw[e] at h;cases h
 |some k=>rw[e] at h;exact ⟨k,rfl,(Option.some.inj h).symm⟩
noncomputable def Ct (xs:List Int):Prop:=∀x∈xs,0<=x/\x<=1000000
noncomputable def bN (K:Fg):Sp:=λvs H Q _=>∃(p r:Addr) (xs ys:List Int),vs=[.ref p,.ref r]/\H p=some (.lst (xs.map V.int))/\H r=some (.lst (ys.map V.int))/\Ct xs/\xs.length<=1000/\∀H',aC H H'->Q (.int (dot xs ys)) H'
noncomputable def aT (K:Fg):List (SX K):=
 [ret (sum (comp (bin .Mult (var 0) (var 1)) (IT [0,1]) (UD (var 0) (var 1)) ["count","size"] [] []))]
theorem eJ:TT (bN K) (aT K) ["row","before"]:=by
 intro vs H Q E h;obtain ⟨p,r,xs,ys,rfl,hp,hr,hF,hl,q⟩:=h;unfold aT;walk_at "";refine vW (aR.of hp) (aR.of hr) ?_;intro D hD;refine qR SG (aR.of hp) (aR.of hr) hD (small (by rw[length_map];lia)) (λi x y H1 Q' hx hy hS fin=>?_) λH1 hS hO=>?_
 ·obtain ⟨k,hk,rfl⟩:=fD hx;obtain ⟨j,hj,rfl⟩:=fD hy;have:=hF k (mem_of_getElem? hk);walk_at "";exact fin H1 (aC.refl _)
 ·refine ⟨D,zipWith (· * ·) xs ys,rfl,?_,q H1 hS⟩;rw[hO,nJ (· * ·) SG λ_ _=>rfl]
noncomputable def fJ (K:Fg):Sp:=λvs H Q _=>∃(p r:Addr) (rs:List Addr) (rows:List (List Int)) (ys:List Int),vs=[.ref p,.ref r]/\HZ H p rs rows/\H r=some (.lst (ys.map V.int))/\(∀xs∈rows,Ct xs/\xs.length<=1000)/\rows.length<=1000/\
 ∀t H',aC H H'->H t=none->H' t=some (.lst ((rows.map λxs=>dot xs ys).map V.int))->Q (.ref t) H'
noncomputable def gR (K:Fg):List (SX K):=
 [ret (comp (call "signs_behind" (bN K) [var 0,var 1]) (jA 0) (iL (var 0)) ["row"] ["before"] [1])]
theorem uE:TT (fJ K) (gR K) ["rows","before"]:=by
 intro vs H Q E h;obtain ⟨p,r,rs,rows,ys,rfl,hT,hr,hF,hl,q⟩:=h;unfold gR;walk_at "";refine gZ (aR.of hT.1) ?_;intro D hD;have hlen:(rs.map V.ref).length=rows.length:=by rw[length_map];exact hT.2.1
 refine jD (λi=>.int ((rows[i]?.map λxs=>dot xs ys).getD 0)) (aR.of hT.1) hD (small (by lia)) (λi x H1 Q' hx hS fin=>?_) λH1 hS hO=>?_
 ·have hi:i<rows.length:=by rw[<-hlen];exact (List.getElem?_eq_some_iff.mp hx).1
  have hi2:i<rs.length:=by rw[hT.2.1];exact hi
  have ex:x=.ref rs[i]:=by
   rw[getElem?_map,getElem?_eq_getElem hi2] at hx;exact (Option.some.inj hx).symm
  subst ex;have hF1:=hF _ (getElem_mem hi);rw[getElem?_eq_getElem hi] at fin;walk_at "";refine ⟨rs[i],r,rows[i],ys,rfl,hS _ _ (hT.2.2 i _ _ (getElem?_eq_getElem hi2) (getElem?_eq_getElem hi)),hS _ _ hr,hF1.1,hF1.2,λH2 hS2=>?_⟩;exact fin H2 hS2
 ·refine q D H1 hS hD ?_;rw[hO,hlen];have e:((range rows.length).map λi=>V.int ((rows[i]?.map λxs=>dot xs ys).getD 0))=((range rows.length).map λi=>(rows[i]?.map λxs=>dot xs ys).getD 0).map V.int:=by rw[map_map];rfl
  rw[e,iY]
theorem kZ {α:Type} (x:α):∀n:Nat,(replicate n [x]).flatten=replicate n x
 |0=>rfl
 |n+1=>by rw[replicate_succ,flatten_cons,kZ x n];rfl
theorem qM {n:Nat} {z:Str} (h:z.length<=100000):Ct (bJ n z):=λx hx=>by
 unfold bJ at hx;obtain ⟨k,_,rfl⟩:=mem_map.mp hx;have h1:=Bj z k;have h2:=Bk z k;lia
theorem xM {ws:List Str} (hw:∀w∈ws,eX ws.length w) (t:Nat):((rowsOf ws).map λxs=>dot xs (iA ws t))=iA ws (t+1):=by
 unfold rowsOf;rw[map_map];show _=ws.map (sg (iA ws t));refine map_congr_left λw h=>?_;have e:=qP (ds:=iA ws t) (z:=w) (by rw[gJ];exact hw w h);rw[gJ] at e;exact e
noncomputable def oW (K:Fg):Sp:=λvs H Q _=>∃(a:Addr) (ws:List Str) (t:Int),vs=[.ref a,.int t]/\tX K H a ws/\(∀w∈ws,eX ws.length w/\w.length<=100000)/\0<=t/\t<=1000000/\
 ∀r H',aC H H'->H r=none->H' r=some (.lst ((iA ws t.toNat).map V.int))->Q (.ref r) H'
noncomputable def wO (K:Fg):List (SX K):=
 [set 2 (call "table" (kF K) [var 0]),
  set 3 (bin .Mult (lst [cst (.int 1)]) (len (var 0))),
  mE (jA 4) (BZ (var 1) []) [set 3 (call "sizes_once" (fJ K) [var 2,var 3])],
  ret (var 3)]
theorem none_of {H H':Hp} {r:Addr} (e:aC H H') (h:H' r=none):H r=none:=by
 cases q:H r with
 |none=>rfl
 |some o=>rw[e _ _ q] at h;cases h
theorem QA:TT (oW K) (wO K) ["rule","times","rows","made","turn"]:=by
 intro vs H Q E h;obtain ⟨a,ws,t,rfl,hR,hw,h0,ht,q⟩:=h;have h4:=hR.four;have hlen:(ws.map V.str).length=ws.length:=length_map _;unfold wO;walk_at "";refine ⟨a,ws,rfl,hR,λp rs H1 hS1 _ _ hT=>?_⟩;have hq1:=aC.seqT hS1 hR.tp;walk_at "";refine ⟨by show 1<=sizeLine;decide,λl hl=>?_⟩;have s2:=aE hl (.lst [V.int 1]);have hq2:=aC.seqT s2 hq1;walk_at "";refine DY (xs:=[V.int 1]) aA ⟨by lia,by lia⟩ (small (by show 1 * _<=_;lia)) λr hr=>?_;have s3:=aE hr (.lst (replicate (((ws.map V.str).length:Nat):Int).toNat [V.int 1]).flatten);walk_at "";have hrow:∀xs∈rowsOf ws,Ct xs/\xs.length<=1000:=λxs hx=>by
  unfold rowsOf at hx;obtain ⟨w,hm,rfl⟩:=mem_map.mp hx;exact ⟨qM (hw w hm).2,by rw[eS];lia⟩
 refine iI (λi σ H'=>aC H1 H'/\∃(u:Addr) (a4:Option V),H u=none/\H' u=some (.lst ((iA ws i).map V.int))/\σ=[some (.ref a),some (.int t),some (.ref p),some (.ref u),a4])
  ⟨s2.trans s3,r,none,none_of (hS1.trans s2) hr,?_,rfl⟩ (λi σ H' hi hP=>?_) λσ H' hP=>?_
 ·rw[aA,hlen,toNat_natCast,kZ];show _=some (HO.lst ((replicate ws.length (1:Int)).map V.int));rw[List.map_replicate]
 ·obtain ⟨hS,u,a4,hu,hu2,rfl⟩:=hP;walk_at "";refine ⟨p,u,rs,rowsOf ws,iA ws i,rfl,hT.same hS,hu2,hrow,?_,λv H2 hS2 hv hv2=>?_⟩
  ·unfold rowsOf;rw[length_map];lia
  ·rw[xM λw hm=>(hw w hm).1] at hv2;exact ⟨hS.trans hS2,v,_,none_of (hS1.trans hS) hv,hv2,rfl⟩
 ·obtain ⟨hS,u,a4,hu,hu2,rfl⟩:=hP;walk_at "";exact q u H' (hS1.trans hS) hu hu2
end
section
variable {K:Fg}
theorem AW (w:Str) (c:Nat) (h:1<=w.length):Txt.startswith w ⟨#[c]⟩=decide ((ls w)[0]?=some c):=by
 unfold Txt.startswith;have e:=StrLaws.subAt_one w c 0;rw[Bool.eq_iff_iff,decide_eq_true_iff];show (decide ((⟨#[c]⟩:Str).length<=w.length)&&_)=true↔_;rw[and_eq_true];constructor
 ·rintro ⟨h1,h2⟩;exact e.mp ⟨by simpa using of_decide_eq_true h1,h2⟩
 ·intro z;obtain ⟨h1,h2⟩:=e.mpr z;exact ⟨decide_eq_true h,h2⟩
noncomputable def oY (K:Fg):Sp:=λvs H Q _=>∃(a:Addr) (ws:List Str) (c:Nat),vs=[.ref a,sgn c]/\tX K H a ws/\(∀w∈ws,1<=w.length/\w.length<=100)/\97<=c/\∀H',aC H H'->Q (.bl (aK ws c)) H'
noncomputable def wR (K:Fg):List (SX K):=
 [set 2 (VW (call "words_by_letter" (bM K) [var 0]) (var 1) (cst (.str ""))),
  ret (CO (cmp .Gt (len (var 2)) (cst (.int 1))) [m_startswith (var 2) (var 1)])]
theorem QD:TT (oY K) (wR K) ["rule","start","word"]:=by
 intro vs H Q E h;obtain ⟨a,ws,c,rfl,hR,hle,hc,q⟩:=h;unfold wR;walk_at "";refine ⟨a,ws,rfl,hR,λd H1 hS1 _ hd=>?_⟩;obtain ⟨kvs,hk,_⟩:=id hd;refine Lk hk ?_;walk_at "";have f:=q H1 hS1;unfold aK at f;by_cases hl:c - 97<ws.length
 ·have hw:=hle _ (getElem_mem hl);refine MT (hd.get hc (getElem?_eq_getElem hl)) ?_;rw[getElem?_eq_getElem hl] at f;rw[show (some (V.str ws[c - 97])).getD (V.str (Str.ofString ""))=V.str ws[c - 97] from rfl];walk_at "";refine fO (small (by lia)) ?_;walk_at "";simp only [decide_eq_true hc,Bool.true_and] at f;refine jI (λc1=>?_) λc1=>?_
  ·walk_at "";show Q (.bl (Txt.startswith ws[c - 97] ⟨#[c]⟩)) H1;rw[AW _ _ hw.1];rw[decide_eq_true (show 1<(ws[c - 97]).length by lia),Bool.true_and] at f;exact f
  ·rw[decide_eq_false (show ¬1<(ws[c - 97]).length by lia),Bool.false_and] at f;rw[decide_eq_false c1];exact f
 ·refine MT (hd.miss (by lia)) ?_;rw[List.getElem?_eq_none_iff.mpr (by lia)] at f;rw[show (none:Option V).getD (V.str (Str.ofString ""))=V.str (Str.ofString "") from rfl];walk_at "";refine fO (by decide+kernel) ?_;walk_at "";have e:(Str.ofString "").length=0:=by decide+kernel
  refine jI (λc1=>?_) λc1=>?_
  ·rw[e] at c1;lia
  ·rw[decide_eq_false c1];exact f
end
section
variable {K:Fg}
theorem Gn {E:XS} {σ:St} {H:Hp} {D:Ends} {o i a:EX K} (h:a.t E σ H λx H1=>o.t E σ H1 λy H2=>i.t E σ H2 λz H3=>XW y z x H3 λH4=>D.nx σ H4):(put o i a).t E D σ H:=h
end
section
variable {K:Fg}
noncomputable def EV (m:List Int) (x:Int) (row:List Int):List Int:=zipWith (·+·) m (row.map (x * ·))
noncomputable def accN (rows:List (List Int)) (ns:List Int):Nat->List Int
 |0=>replicate rows.length 0
 |k+1=>EV (accN rows ns k) (ns[k]?.getD 0) (rows[k]?.getD [])
noncomputable def mX (rows:List (List Int)) (ns:List Int):List Int:=accN rows ns rows.length
noncomputable def zX (rows:List (List Int)) (ns:List Int):Nat->List Int
 |0=>ns
 |t+1=>mX rows (zX rows ns t)
theorem wY {rows:List (List Int)} {ns:List Int} (h:∀r∈rows,r.length=rows.length):∀k,k<=rows.length->(accN rows ns k).length=rows.length
 |0,_=>length_replicate
 |k+1,hk=>by
  show (zipWith _ _ _).length=_;have hk':k<rows.length:=by lia
  rw[length_zipWith,wY h k (by lia),length_map,getElem?_eq_getElem hk'];show min _ (rows[k]).length=_;rw[h _ (getElem_mem hk')];lia
theorem EU {rows:List (List Int)} {ns:List Int} (h:∀r∈rows,r.length=rows.length) {j:Nat} (hj:j<rows.length):∀k,k<=rows.length->(accN rows ns k)[j]?=some (((range k).map λi=>(ns[i]?.getD 0) * ((rows[i]?.getD [])[j]?.getD 0)).sum)
 |0,_=>by
  show (replicate rows.length (0:Int))[j]?=_;rw[List.getElem?_replicate,if_pos hj];rfl
 |k+1,hk=>by
  have hk':k<rows.length:=by lia
  have hr:j<(rows[k]).length:=by rw[h _ (getElem_mem hk')];exact hj
  have e1:((rows[k]?.getD []).map ((ns[k]?.getD 0) * ·))[j]?=some ((ns[k]?.getD 0) * (rows[k])[j]):=by
   rw[getElem?_map,getElem?_eq_getElem hk'];show Option.map _ (rows[k])[j]?=_;rw[getElem?_eq_getElem hr];rfl
  have e2:((rows[k]?.getD [])[j]?.getD 0)=(rows[k])[j]:=by
   rw[getElem?_eq_getElem hk'];show (rows[k])[j]?.getD 0=_;rw[getElem?_eq_getElem hr];rfl
  show (zipWith _ _ _)[j]?=_;rw[getElem?_zipWith,EU h hj k (by lia),e1,range_succ,map_append,List.sum_append];simp only [map_cons,map_nil,sum_cons,List.sum_nil,Int.add_zero,e2]
theorem kO (ws:List Str):∀r∈rowsOf ws,r.length=(rowsOf ws).length:=λr hr=>by
 unfold rowsOf at hr ⊢;obtain ⟨w,_,rfl⟩:=mem_map.mp hr;rw[eS,length_map]
theorem bC (ws:List Str):(rowsOf ws).length=ws.length:=length_map _
theorem FP {ws:List Str} {i:Nat} (h:i<ws.length) (h2:i<(rowsOf ws).length):(rowsOf ws)[i]=bJ ws.length ws[i]:=List.getElem_map ..
theorem tK (ws:List Str) (ns:List Int):(mX (rowsOf ws) ns).length=ws.length:=by
 unfold mX;rw[wY (kO ws) _ (Nat.le_refl _),bC]
theorem EY (f g:Nat->Int):∀(n:Nat),(zipWith (· * ·) ((range n).map f) ((range n).map g))=(range n).map λi=>f i * g i:=by
 intro n;rw[List.zipWith_map];induction n generalizing f g with
 |zero=>rfl
 |succ n ih=>
  rw[range_succ_eq_map];simp only [zipWith_cons_cons,map_cons,List.zipWith_map,map_map];have e:=ih (f∘Nat.succ) (g∘Nat.succ)
  congr 1
theorem CM {ws:List Str} {z:Str} (hz:eX ws.length z):mX (rowsOf ws) (bJ ws.length z)=bJ ws.length (img ws z):=by
 refine ext_getElem? λj=>?_;by_cases hj:j<ws.length
 ·unfold mX;rw[EU (kO ws) (by rw[bC];exact hj) _ (Nat.le_refl _),gH hj,bC]
  congr 1
  have e:((range ws.length).map λi=>((bJ ws.length z)[i]?.getD 0) * (((rowsOf ws)[i]?.getD [])[j]?.getD 0))=(range ws.length).map λi=>cnt z i * ((ws.map λw=>cnt w j)[i]?.getD 0):=by
   refine map_congr_left λi hi=>?_;have hi':=mem_range.mp hi;unfold rowsOf;rw[gH hi',getElem?_map,getElem?_map,getElem?_eq_getElem hi'];show cnt z i * ((bJ ws.length ws[i])[j]?.getD 0)=cnt z i * cnt ws[i] j;rw[gH hj];rfl
  have hl:(ws.map λw=>cnt w j).length=ws.length:=length_map _;have d:=qP (ds:=ws.map λw=>cnt w j) (z:=z) (by rw[hl];exact hz);unfold dot bJ at d;rw[hl] at d;have e2:(ws.map λw=>cnt w j)=(range ws.length).map λi=>(ws.map λw=>cnt w j)[i]?.getD 0:=by
   have e3:=iY ws (λw=>cnt w j) 0;rw[<-e3];refine map_congr_left λi hi=>?_;have hi':=mem_range.mp hi;rw[e3,getElem?_map]
  rw[e,<-EY (cnt z) λi=>(ws.map λw=>cnt w j)[i]?.getD 0,<-e2,d];unfold sg cnt;rw[jQ];have:∀l:List Nat,(∀c∈l,97<=c/\c<97+ws.length)->(l.map λc=>(ws.map λw=>(((ls w).count (97+j):Nat):Int))[c - 97]?.getD 0).sum=(((l.flatMap (wd ws)).count (97+j):Nat):Int):=by
   intro l;induction l with
   |nil=>intro _;rfl
   |cons c l ih=>
    intro hc;have h1:=hc c mem_cons_self;have hlt:c - 97<ws.length:=by lia
    have e5:wd ws c=ls ws[c - 97]:=by
     unfold wd;rw[getElem?_eq_getElem hlt];rfl
    rw[map_cons,sum_cons,ih λd hd=>hc d (mem_cons_of_mem _ hd),List.flatMap_cons,List.count_append,e5,getElem?_map,getElem?_eq_getElem hlt];show (((ls ws[c - 97]).count (97+j):Nat):Int)+_=_;lia
  exact this (ls z) hz
 ·rw[List.getElem?_eq_none_iff.mpr (by rw[tK];lia),List.getElem?_eq_none_iff.mpr (by rw[eS];lia)]
theorem qW {ws:List Str} {z:Str} (hw:∀w∈ws,eX ws.length w) (hz:eX ws.length z):∀t,zX (rowsOf ws) (bJ ws.length z) t=bJ ws.length (Ga ws z t)
 |0=>rfl
 |t+1=>by
  show mX (rowsOf ws) (zX (rowsOf ws) (bJ ws.length z) t)=_;rw[qW hw hz t,CM (TC hw hz t)];rfl
theorem wL {ws:List Str} {ns:List Int} (h:ns.length=ws.length):∀t,(zX (rowsOf ws) ns t).length=ws.length
 |0=>h
 |_+1=>tK ws _
theorem GP {σ:St} {H:Hp} {D:Ends} {p r:Addr} {xs ys:List V} {m n:Nat} {tb:TS} (hp:aR K H p xs) (hr:aR K H r ys) (Pv:Nat->St->Hp->Prop) (h0:Pv 0 σ H) (hk:∀i σ1 H1,Pv i σ1 H1->aC H H1)
  (hs:∀i x y σ1 H1 H2,xs[i]?=some x->ys[i]?=some y->Pv i σ1 H1->aC H1 H2->tb {D with nx:=Pv (i+1),ct:=Pv (i+1),bk:=D.nx} ((σ1.set m (some x)).set n (some y)) H2) (hd:∀σ1 H1,Pv (min xs.length ys.length) σ1 H1->D.nx σ1 H1):
  mY (Jd K p r) (IT [m,n]:TX K).g tb D σ H:=by
 refine ⟨λi k σ1 H1=>k=min xs.length ys.length - i/\i<=min xs.length ys.length/\Pv i σ1 H1,⟨_,rfl,zero_le _,h0⟩,?_⟩;rintro i k σ1 H1 ⟨rfl,hi,hP⟩;have hS:=hk i σ1 H1 hP;have hp1:=hS.seq hp;have hr1:=hS.seq hr;by_cases hlt:i<min xs.length ys.length
 ·have l1:i<xs.length:=by lia
  have l2:i<ys.length:=by lia
  refine .inr ⟨⟨xs,ys,xs[i],ys[i],hp1,hr1,getElem?_eq_getElem l1,getElem?_eq_getElem l2⟩,Pv (i+1),λσ3 H3 q=>⟨min xs.length ys.length - (i+1),by lia,rfl,hlt,q⟩,?_⟩;rintro v H' ⟨a,x,y,ha,rfl,rfl,hx,hy⟩;exact qE (cZ.of aA) (hs i x y σ1 H1 _ (hx _ hp1) (hy _ hr1) hP (aE ha _))
 ·have e:i=min xs.length ys.length:=by lia
  subst e;exact .inl ⟨⟨xs,ys,hp1,hr1,by lia⟩,hd σ1 H1 hP⟩
noncomputable def Ir:V->V->V
 | .int i,.int j=>.int (i+j)
 |_,_=>.non
noncomputable def oZ (K:Fg):Sp:=λvs H Q _=>∃(p r:Addr) (xs ys:List Int),vs=[.ref p,.ref r]/\H p=some (.lst (xs.map V.int))/\H r=some (.lst (ys.map V.int))/\xs.length<=1000/\∀t H',aC H H'->H t=none->H' t=some (.lst ((zipWith (·+·) xs ys).map V.int))->Q (.ref t) H'
noncomputable def wU (K:Fg):List (SX K):=
 [ret (comp (bin .Add (var 0) (var 1)) (IT [0,1]) (UD (var 0) (var 1)) ["left","right"] [] [])]
theorem QE:TT (oZ K) (wU K) ["one","other"]:=by
 intro vs H Q E h;obtain ⟨p,r,xs,ys,rfl,hp,hr,hl,q⟩:=h;unfold wU;walk_at "";refine vW (aR.of hp) (aR.of hr) ?_;intro D hD;refine qR Ir (aR.of hp) (aR.of hr) hD (small (by rw[length_map];lia)) (λi x y H1 Q' hx hy hS fin=>?_) λH1 hS hO=>?_
 ·obtain ⟨k,hk,rfl⟩:=fD hx;obtain ⟨j,hj,rfl⟩:=fD hy;walk_at "";exact fin H1 (aC.refl _)
 ·refine q D H1 hS hD ?_;rw[hO,nJ (·+·) Ir λ_ _=>rfl]
noncomputable def XD (x:Int):V->V
 | .int j=>.int (x * j)
 |_=>.non
noncomputable def iD (K:Fg):Sp:=λvs H Q _=>∃(p r:Addr) (rs:List Addr) (ws:List Str) (ns:List Int),vs=[.ref p,.ref r]/\HZ H p rs (rowsOf ws)/\H r=some (.lst (ns.map V.int))/\ns.length=ws.length/\ws.length<=4/\(∀w∈ws,w.length<=100000)/\
 ∀t H',aC H H'->H t=none->H' t=some (.lst ((mX (rowsOf ws) ns).map V.int))->Q (.ref t) H'
noncomputable def fT (K:Fg):List (SX K):=
 [set 2 (bin .Mult (lst [cst (.int 0)]) (len (var 0))),
  mE (IT [3,4]) (UD (var 1) (var 0)) [set 2 (call "added" (oZ K) [var 2,comp (bin .Mult (var 1) (var 0)) (jA 0) (iL (var 4)) ["count"] ["number"] [3]])],
  ret (var 2)]
theorem rL:TT (iD K) (fT K) ["rows","numbers","made","number","row"]:=by
 intro vs H Q E h;obtain ⟨p,r,rs,ws,ns,rfl,hT,hr,hl,h4,hw,q⟩:=h;have hrl:(rs.map V.ref).length=ws.length:=by rw[length_map,hT.2.1,bC]
 have hnl:(ns.map V.int).length=ws.length:=by rw[length_map,hl]
 unfold fT;walk_at "";refine ⟨by show 1<=sizeLine;decide,λl hl'=>?_⟩;have s1:=aE hl' (.lst [V.int 0]);have hqq:aR K (upd H l (.lst [V.int 0])) p (rs.map V.ref):=aR.of (s1 _ _ hT.1);walk_at "";refine DY (xs:=[V.int 0]) aA ⟨by lia,by lia⟩ (small (by show 1 * _<=_;lia)) λl2 hl2=>?_;have s2:=aE hl2 (.lst (replicate (((rs.map V.ref).length:Nat):Int).toNat [V.int 0]).flatten);have s12:=s1.trans s2;walk_at "";have gp:=s12 _ _ hT.1;have gr:=s12 _ _ hr;refine vW (aR.of gr) (aR.of gp) ?_;refine GP (aR.of gr) (aR.of gp) (λi σ H'=>aC (upd (upd H l (.lst [V.int 0])) l2 (.lst (replicate (((rs.map V.ref).length:Nat):Int).toNat [V.int 0]).flatten)) H'/\∃(u:Addr) (a3 a4:Option V),H u=none/\H' u=some (.lst ((accN (rowsOf ws) ns i).map V.int))/\σ=[some (.ref p),some (.ref r),some (.ref u),a3,a4])
  ⟨aC.refl _,l2,none,none,none_of s1 hl2,?_,rfl⟩ (λi σ1 H1 hP=>hP.1) (λi x y σ1 H1 H2 hx hy hP hS2=>?_) λσ1 H1 hP=>?_
 ·rw[aA,hrl,toNat_natCast,kZ];show _=some (HO.lst ((replicate (rowsOf ws).length (0:Int)).map V.int));rw[List.map_replicate,bC]
 ·obtain ⟨hS1,u,a3,a4,hu,hu1,rfl⟩:=hP;obtain ⟨k,hk,rfl⟩:=fD hx;have hi:i<ws.length:=by rw[<-hl];exact (List.getElem?_eq_some_iff.mp hk).1
  have hi2:i<rs.length:=by rw[hT.2.1,bC];exact hi
  have hi3:i<(rowsOf ws).length:=by rw[bC];exact hi
  have ey:y=.ref rs[i]:=by
   rw[getElem?_map,getElem?_eq_getElem hi2] at hy;exact (Option.some.inj hy).symm
  subst ey;have hrow:H2 rs[i]=some (.lst (((rowsOf ws)[i]).map V.int)):=hS2 _ _ (hS1 _ _ (s12 _ _ (hT.2.2 i _ _ (getElem?_eq_getElem hi2) (getElem?_eq_getElem hi3))));have hfew:Ct ((rowsOf ws)[i]):=by
   rw[FP hi hi3];exact qM (hw _ (getElem_mem hi))
  have hrowl:((rowsOf ws)[i]).length=ws.length:=by rw[kO ws _ (getElem_mem hi3),bC]
  walk_at "";refine gZ (aR.of hrow) ?_;intro D hD;refine NW (XD k) (aR.of hrow) hD (small (by rw[length_map];lia)) (λj x H3 Q' hx3 hS3 fin=>?_) λH3 hS3 hO=>?_
  ·obtain ⟨c,hc,rfl⟩:=fD hx3;have:=hfew c (mem_of_getElem? hc);walk_at "";exact fin H3 (aC.refl _)
  ·walk_at "";have hO2:H3 D=some (.lst ((((rowsOf ws)[i]).map (k * ·)).map V.int)):=by
    rw[hO,map_map,map_map];rfl
   refine ⟨u,D,_,_,rfl,hS3 _ _ (hS2 _ _ hu1),hO2,?_,λt H4 hS4 ht ht4=>?_⟩
   ·rw[wY (kO ws) _ (by lia),bC];lia
   ·have hSS:=(hS1.trans hS2).trans hS3;refine ⟨hSS.trans hS4,t,_,_,none_of (s12.trans hSS) ht,?_,rfl⟩;rw[ht4];show _=some (HO.lst ((EV (accN (rowsOf ws) ns i) (ns[i]?.getD 0) ((rowsOf ws)[i]?.getD [])).map V.int));rw[hk,getElem?_eq_getElem hi3];rfl
 ·obtain ⟨hS1,u,a3,a4,hu,hu1,rfl⟩:=hP;walk_at "";refine q u H1 (s12.trans hS1) hu ?_;rw[hu1,hnl,hrl,Nat.min_self];unfold mX;rw[bC]
noncomputable def gB (K:Fg):Sp:=λvs H Q _=>∃(a r:Addr) (ws:List Str) (ns:List Int) (t:Int),vs=[.ref a,.ref r,.int t]/\tX K H a ws/\H r=some (.lst (ns.map V.int))/\ns.length=ws.length/\(∀w∈ws,w.length<=100000)/\0<=t/\t<=1000000/\
 ∀u H',aC H H'->H u=none->H' u=some (.lst ((zX (rowsOf ws) ns t.toNat).map V.int))->Q (.ref u) H'
noncomputable def dO (K:Fg):List (SX K):=
 [set 3 (call "table" (kF K) [var 0]),
  set 4 (listE (var 1)),
  mE (jA 5) (BZ (var 2) []) [set 4 (call "counts_once" (iD K) [var 3,var 4])],
  ret (var 4)]
theorem nB:TT (gB K) (dO K) ["rule","numbers","times","rows","made","turn"]:=by
 intro vs H Q E h;obtain ⟨a,r,ws,ns,t,rfl,hR,hr,hl,hw,h0,ht,q⟩:=h;unfold dO;walk_at "";refine ⟨a,ws,rfl,hR,λp rs H1 hS1 _ _ hT=>?_⟩;walk_at "";refine ⟨_,.inl (aR.of (hS1 _ _ hr)),λl hl'=>?_⟩;have s2:=aE hl' (.lst (ns.map V.int));walk_at "";refine iI (λi σ H'=>aC H1 H'/\∃(u:Addr) (a5:Option V),H u=none/\H' u=some (.lst ((zX (rowsOf ws) ns i).map V.int))/\σ=[some (.ref a),some (.ref r),some (.int t),some (.ref p),some (.ref u),a5])
  ⟨s2,l,none,none_of hS1 hl',aA,rfl⟩ (λi σ H' hi hP=>?_) λσ H' hP=>?_
 ·obtain ⟨hS,u,a5,hu,hu2,rfl⟩:=hP;walk_at "";refine ⟨p,u,rs,ws,_,rfl,hT.same hS,hu2,wL hl i,hR.four,hw,λv H2 hS2 hv hv2=>?_⟩;exact ⟨hS.trans hS2,v,_,none_of (hS1.trans hS) hv,hv2,rfl⟩
 ·obtain ⟨hS,u,a5,hu,hu2,rfl⟩:=hP;walk_at "";exact q u H' (hS1.trans hS) hu hu2
end
theorem DB {ws:List Str} {k j:Nat} (h:j<ws.length):∃x,(iA ws k)[j]?=some x:=⟨(iA ws k)[j]'(by rw[gJ];exact h),getElem?_eq_getElem _⟩
noncomputable def sz (ws:List Str) (k c:Nat):Int:=(iA ws k)[c - 97]?.getD 0
noncomputable def aN (ws:List Str) (k:Nat) (l:List Nat):Int:=(l.map (sz ws k)).sum
theorem nN {ws:List Str} {c:Nat} (h2:c - 97<ws.length):sz ws 0 c=1:=by
 show (replicate ws.length (1:Int))[c - 97]?.getD 0=1;rw[List.getElem?_replicate,if_pos h2];rfl
theorem eZ {ws:List Str} {k c:Nat} (h2:c - 97<ws.length):sz ws (k+1) c=aN ws k (wd ws c):=by
 show (ws.map (sg (iA ws k)))[c - 97]?.getD 0=_;rw[getElem?_map,getElem?_eq_getElem h2];unfold wd;rw[getElem?_eq_getElem h2];rfl
structure Ru (ws:List Str):Prop where
 pos:1<=ws.length
 four:ws.length<=4
 isw:∀w∈ws,eX ws.length w
 one:∀w∈ws,1<=w.length
 le:∀w∈ws,w.length<=100
theorem Ru.word {ws:List Str} (h:Ru ws) {c:Nat} (h2:c - 97<ws.length):∃w,ws[c - 97]?=some w/\wd ws c=ls w/\w∈ws:=by
 refine ⟨ws[c - 97],getElem?_eq_getElem h2,?_,getElem_mem h2⟩;unfold wd;rw[getElem?_eq_getElem h2];rfl
theorem Ru.sign {ws:List Str} (h:Ru ws) {c d:Nat} (h2:c - 97<ws.length) (hd:d∈wd ws c):97<=d/\d - 97<ws.length:=by
 obtain ⟨w,_,e,hm⟩:=h.word h2;rw[e] at hd;have:=h.isw w hm d hd;lia
theorem kC {ws:List Str} {k:Nat} {l:List Nat} (h:∀c∈l,1<=sz ws k c):(l.length:Int)<=aN ws k l:=by
 induction l with
 |nil=>exact Int.le_refl _
 |cons c l ih=>
  have h1:=h c mem_cons_self;have h2:=ih λd hd=>h d (mem_cons_of_mem _ hd);have e:aN ws k (c::l)=sz ws k c+aN ws k l:=by unfold aN;rw[map_cons,sum_cons]
  rw[e,length_cons];lia
theorem uH {ws:List Str} (h:Ru ws):∀(k c:Nat),c - 97<ws.length->1<=sz ws k c
 |0,c,h2=>by rw[nN h2];exact Int.le_refl _
 |k+1,c,h2=>by
  rw[eZ h2];have:=kC (ws:=ws) (k:=k) (l:=wd ws c) λd hd=>uH h k d (h.sign h2 hd).2;obtain ⟨w,_,e,hm⟩:=h.word h2;have h1:=h.one w hm;rw[e,aP] at this;rw[e];lia
noncomputable def bD (ws:List Str) (k:Nat):List Nat->Int->Nat × Int
 |[],x=>(0,x)
 |c::l,x=>if sz ws k c<=x then ((bD ws k l (x - sz ws k c)).1+1,(bD ws k l (x - sz ws k c)).2) else (0,x)
theorem wC {ws:List Str} {k:Nat}:∀(l:List Nat) (x:Int),0<=x->x<aN ws k l->(bD ws k l x).1<l.length/\0<=(bD ws k l x).2/\(∀d,l[(bD ws k l x).1]?=some d->(bD ws k l x).2<sz ws k d)/\(bD ws k l x).2=x - aN ws k (l.take (bD ws k l x).1)
 |[],x,h0,h=>by
  have e:aN ws k []=0:=rfl;rw[e] at h;lia
 |c::l,x,h0,h=>by
  have e:aN ws k (c::l)=sz ws k c+aN ws k l:=by unfold aN;rw[map_cons,sum_cons]
  rw[e] at h;unfold bD;by_cases hc:sz ws k c<=x
  ·rw[if_pos hc];obtain ⟨h1,h2,h3,h4⟩:=wC (ws:=ws) (k:=k) l (x - sz ws k c) (by lia) (by lia);refine ⟨by rw[length_cons];show _+1<_;lia,h2,λd hd=>h3 d (by simpa using hd),?_⟩;show (bD ws k l (x - sz ws k c)).2=x - aN ws k ((c::l).take ((bD ws k l (x - sz ws k c)).1+1));rw[List.take_succ_cons];have e2:aN ws k (c::l.take (bD ws k l (x - sz ws k c)).1)=sz ws k c+aN ws k (l.take (bD ws k l (x - sz ws k c)).1):=by unfold aN;rw[map_cons,sum_cons]
   rw[e2,h4];lia
  ·rw[if_neg hc];refine ⟨by rw[length_cons];show 0<_;lia,h0,λd hd=>?_,?_⟩
   ·have hd':c=d:=by simpa using hd
    subst hd';show x<_;lia
   ·show x=x - aN ws k ((c::l).take 0);rw[take_zero];have e0:aN ws k []=0:=rfl;rw[e0];lia
theorem zK {ws:List Str} {k:Nat}:∀(l:List Nat) (x:Int) (s:Nat) (d:Nat),s<=(bD ws k l x).1->l[s]?=some d->(s<(bD ws k l x).1↔sz ws k d<=x - aN ws k (l.take s))
 |[],x,s,d,_,hd=>by simp at hd
 |c::l,x,0,d,_,hd=>by
  have hd':c=d:=by simpa using hd
  subst hd';have e0:aN ws k ((c::l).take 0)=0:=rfl;rw[e0];unfold bD;by_cases hc:sz ws k c<=x
  ·rw[if_pos hc];constructor
   ·intro _;lia
   ·intro _;show 0<_+1;lia
  ·rw[if_neg hc];constructor
   ·intro z;exact absurd z (lt_irrefl 0)
   ·intro z;lia
 |c::l,x,s+1,d,hs,hd=>by
  unfold bD at hs ⊢;by_cases hc:sz ws k c<=x
  ·rw[if_pos hc] at hs ⊢;have ih:=zK (ws:=ws) (k:=k) l (x - sz ws k c) s d (by have:s+1<=(bD ws k l (x - sz ws k c)).1+1:=hs;lia) (by simpa using hd);have e2:aN ws k ((c::l).take (s+1))=sz ws k c+aN ws k (l.take s):=by rw[List.take_succ_cons];unfold aN;rw[map_cons,sum_cons]
   rw[e2];constructor
   ·intro z;have:=ih.mp (by have:s+1<(bD ws k l (x - sz ws k c)).1+1:=z;lia);lia
   ·intro z;have:=ih.mpr (by lia);show s+1<_+1;lia
  ·rw[if_neg hc] at hs;have:s+1<=0:=hs;lia
noncomputable def dN (ws:List Str):Nat->Nat->Int->List (Nat × Nat)
 |0,_,_=>[]
 |k+1,c,x=>((bD ws k (wd ws c) x).1,(wd ws c)[(bD ws k (wd ws c) x).1]?.getD 0)::dN ws k ((wd ws c)[(bD ws k (wd ws c) x).1]?.getD 0) (bD ws k (wd ws c) x).2
noncomputable def bQ (ws:List Str):Nat->Nat->Int->Nat->Nat × Int
 |_,c,x,0=>(c,x)
 |0,c,x,_+1=>(c,x)
 |k+1,c,x,i+1=>bQ ws k ((wd ws c)[(bD ws k (wd ws c) x).1]?.getD 0) (bD ws k (wd ws c) x).2 i
theorem bY (ws:List Str):∀k c x,(dN ws k c x).length=k
 |0,_,_=>rfl
 |k+1,c,x=>by show (dN ws k _ _).length+1=_;rw[bY ws k]
noncomputable def Good (ws:List Str) (k c:Nat) (x:Int):Prop:=97<=c/\c - 97<ws.length/\0<=x/\x<sz ws k c
theorem Good.step {ws:List Str} (h:Ru ws) {k c:Nat} {x:Int} (g:Good ws (k+1) c x):∃d,(wd ws c)[(bD ws k (wd ws c) x).1]?=some d/\Good ws k d (bD ws k (wd ws c) x).2:=by
 obtain ⟨g1,g2,g3,g4⟩:=g;rw[eZ g2] at g4;obtain ⟨h1,h2,h3,h4⟩:=wC (wd ws c) x g3 g4;refine ⟨(wd ws c)[(bD ws k (wd ws c) x).1],getElem?_eq_getElem h1,?_⟩;obtain ⟨s1,s2⟩:=h.sign g2 (getElem_mem h1);exact ⟨s1,s2,h2,h3 _ (getElem?_eq_getElem h1)⟩
theorem lA {ws:List Str} (h:Ru ws):∀(k c:Nat) (x:Int) (i:Nat),Good ws k c x->i<=k->Good ws (k - i) (bQ ws k c x i).1 (bQ ws k c x i).2
 |k,c,x,0,g,_=>by unfold bQ;exact g
 |0,c,x,i+1,g,hi=>by lia
 |k+1,c,x,i+1,g,hi=>by
  obtain ⟨d,hd,g'⟩:=g.step h;have e:bQ ws (k+1) c x (i+1)=bQ ws k d (bD ws k (wd ws c) x).2 i:=by
   show bQ ws k ((wd ws c)[(bD ws k (wd ws c) x).1]?.getD 0) (bD ws k (wd ws c) x).2 i=_;rw[hd];rfl
  rw[e,show k+1 - (i+1)=k - i by lia];exact lA h k d _ i g' (by lia)
theorem qK {ws:List Str}:∀(k c:Nat) (x:Int) (i:Nat),i<k->bQ ws k c x (i+1)=((wd ws (bQ ws k c x i).1)[(bD ws (k - i - 1) (wd ws (bQ ws k c x i).1) (bQ ws k c x i).2).1]?.getD 0,(bD ws (k - i - 1) (wd ws (bQ ws k c x i).1) (bQ ws k c x i).2).2)
 |0,_,_,_,h=>by lia
 |k+1,c,x,0,_=>by
  have e:bQ ws (k+1) c x 0=(c,x):=by unfold bQ;rfl
  rw[e];show bQ ws k _ _ 0=_;unfold bQ;cases k<;>rfl
 |k+1,c,x,i+1,h=>by
  have ih:=qK (ws:=ws) k ((wd ws c)[(bD ws k (wd ws c) x).1]?.getD 0) (bD ws k (wd ws c) x).2 i (by lia);show bQ ws k _ _ (i+1)=_;rw[ih,show k+1 - (i+1) - 1=k - i - 1 by lia];rfl
theorem wF {ws:List Str}:∀(k c:Nat) (x:Int) (i:Nat),i<k->(dN ws k c x)[i]?=some ((bD ws (k - i - 1) (wd ws (bQ ws k c x i).1) (bQ ws k c x i).2).1,(bQ ws k c x (i+1)).1)
 |0,_,_,_,h=>by lia
 |k+1,c,x,0,_=>by
  have e:bQ ws (k+1) c x 0=(c,x):=by unfold bQ;rfl
  rw[e];show some _=some _
  congr 2
  show _=(bQ ws k _ _ 0).1;unfold bQ;cases k<;>rfl
 |k+1,c,x,i+1,h=>by
  have ih:=wF (ws:=ws) k ((wd ws c)[(bD ws k (wd ws c) x).1]?.getD 0) (bD ws k (wd ws c) x).2 i (by lia);show (dN ws k _ _)[i]?=_;rw[ih,show k+1 - (i+1) - 1=k - i - 1 by lia];rfl
theorem cH {ws:List Str} (h:Ru ws) {c:Nat} (hc:97<=c) (h2:c - 97<ws.length) (hg:aK ws c=true):∀k:Nat,(k:Int)+1<=sz ws k c
 |0=>by rw[nN h2];lia
 |k+1=>by
  obtain ⟨w,hw,e,hm⟩:=h.word h2;have hg':=hg;unfold aK at hg;rw[hw] at hg;simp only [and_eq_true,decide_eq_true_eq] at hg;obtain ⟨_,g1,g2⟩:=hg;rw[eZ h2,e];cases hl:ls w with
  |nil=>rw[hl] at g2;simp at g2
  |cons d l=>
   rw[hl] at g2;have hd:d=c:=by simpa using g2
   subst hd;have e2:aN ws k (d::l)=sz ws k d+aN ws k l:=by unfold aN;rw[map_cons,sum_cons]
   have hlen:l.length+1=w.length:=by rw[<-aP,hl];rfl
   have h3:=kC (ws:=ws) (k:=k) (l:=l) λx hx=>uH h k x (h.sign h2 (by rw[e,hl];exact mem_cons_of_mem _ hx)).2;have ih:=cH h hc h2 hg' k;rw[e2];lia
theorem least {P:Nat->Prop} [DecidablePred P]:∀{m:Nat},P m->∃k,k<=m/\P k/\∀i,i<k->¬P i
 |0,h=>⟨0,Nat.le_refl _,h,λi hi=>absurd hi (Nat.not_lt_zero _)⟩
 |m+1,h=>by
  by_cases h0:P 0
  ·exact ⟨0,zero_le _,h0,λi hi=>absurd hi (Nat.not_lt_zero _)⟩
  ·obtain ⟨k,h1,h2,h3⟩:=least (P:=λk=>P (k+1)) (m:=m) h;refine ⟨k+1,by lia,h2,λi hi=>?_⟩;cases i with
   |zero=>exact h0
   |succ i=>exact h3 i (by lia)
section
variable {K:Fg}
noncomputable def fH (ws:List Str) (k:Nat):List (List Int):=(range k).map (iA ws)
theorem jO (ws:List Str) (k:Nat):(fH ws k).length=k:=by unfold fH;rw[length_map,length_range]
theorem jP {ws:List Str} {k i:Nat} (h:i<k):(fH ws k)[i]?=some (iA ws i):=by unfold fH;rw[getElem?_map,getElem?_range h];rfl
theorem xN (ws:List Str) (k:Nat):fH ws (k+1)=fH ws k++[iA ws k]:=by unfold fH;rw[range_succ,map_append];rfl
theorem HZ.snoc {H H':Hp} {p r:Addr} {rs:List Addr} {rows:List (List Int)} {row:List Int} (h:HZ H p rs rows) (hr:H' r=some (.lst (row.map V.int))) (hp:H' p=some (.lst ((rs++[r]).map V.ref))) (hs:∀b o,b≠p->H b=some o->H' b=some o) (hne:∀x∈rs,x≠p):HZ H' p (rs++[r]) (rows++[row]):=by
 refine ⟨hp,by rw[length_append,length_append,h.2.1];rfl,λi x y hx hy=>?_⟩;by_cases hi:i<rs.length
 ·rw[getElem?_append_left hi] at hx;rw[getElem?_append_left (by rw[<-h.2.1];exact hi)] at hy;exact hs _ _ (hne x (mem_of_getElem? hx)) (h.2.2 i x y hx hy)
 ·rw[getElem?_append_right (by lia)] at hx;rw[getElem?_append_right (by rw[<-h.2.1];lia),<-h.2.1] at hy;have e0:i - rs.length=0:=by
   have:=(List.getElem?_eq_some_iff.mp hx).1;simp at this;lia
  rw[e0] at hx hy;have e1:r=x:=by simpa using hx
  have e2:row=y:=by simpa using hy
  subst e1 e2;exact hr
theorem yZ {m:Int} (h0:0<=m) (h4:m<=4) {c:Nat} (h1:97<=c) (h2:c - 97<m.toNat):∃r,Builtin.Str.occurrences (known m) ⟨#[c]⟩ 0 (known m).length 1=(c - 97)::r:=by
 have hm:m=0\/m=1\/m=2\/m=3\/m=4:=by lia
 have hc:c=97\/c=98\/c=99\/c=100:=by lia
 rcases hm with rfl|rfl|rfl|rfl|rfl<;>rcases hc with rfl|rfl|rfl|rfl<;>first|exact absurd h2 (by decide)|exact ⟨[],by decide+kernel⟩
noncomputable def bW (K:Fg):Sp:=λvs H Q _=>∃(a:Addr) (ws:List Str) (c:Nat) (n:Int) (k:Nat),vs=[.ref a,sgn c,.int n]/\tX K H a ws/\Ru ws/\97<=c/\c - 97<ws.length/\aK ws c=true/\k<=400/\n<sz ws k c/\(∀i,i<k->sz ws i c<=n)/\
 ∀p rs H',aC H H'->H p=none->HZ H' p rs (fH ws (k+1))->Q (.ref p) H'
theorem MO {E:XS} {σ:St} {H:Hp} {Q:VK} {a:EX K} (h:a.t E σ H λx H1=>FT x H1 Q):(neg a).t E σ H Q:=h
theorem BX {H:Hp} {Q:VK} {i:Int} (h:Q (.int (-i)) H):FT (.int i) H Q:=h
theorem HY {α:Type} {xs:List α} {v:α} (h:xs[xs.length - 1]?=some v):rE xs (-(1:Int))=some v:=by
 have hl:0<xs.length:=by
  by_cases h0:0<xs.length
  ·exact h0
  ·rw[List.getElem?_eq_none_iff.mpr (by lia)] at h;cases h
 have e:xs=xs.dropLast++[v]:=by
  have hne:xs≠[]:=by intro z;rw[z] at hl;exact absurd hl (lt_irrefl 0)
  have e1:=List.dropLast_concat_getLast hne;have e2:xs.getLast hne=v:=by
   rw[List.getLast_eq_getElem];rw[getElem?_eq_getElem (by lia)] at h;exact Option.some.inj h
  rw[e2] at e1;exact e1.symm
 rw[e];exact OR _ _
theorem Ru.lens {ws:List Str} (h:Ru ws):∀w∈ws,1<=w.length/\w.length<=100:=λw hw=>⟨h.one w hw,h.le w hw⟩
theorem Dq {ws:List Str} {k c:Nat} (h2:c - 97<ws.length):rE ((iA ws k).map V.int) ((c - 97:Nat):Int)=some (.int (sz ws k c)):=by
 refine gU ?_;obtain ⟨x,hx⟩:=DB (ws:=ws) (k:=k) h2;rw[getElem?_map,hx];unfold sz;rw[hx];rfl
noncomputable def Ml (H:Hp) (p:Addr) (rs:List Addr) (fs:List (Nat × Nat)):Prop:=H p=some (.lst (rs.map V.ref))/\rs.length=fs.length/\∀(i:Nat) (r:Addr) (f:Nat × Nat),rs[i]?=some r->fs[i]?=some f->H r=some (.tup [.int (f.1:Nat),sgn f.2])
noncomputable def SB (H:Hp) (d:Addr) (ws:List Str) (k:Nat):Prop:=∃kvs,H d=some (.dK kvs)/\∀c,97<=c->c - 97<ws.length->dG kvs (.inr ⟨#[c]⟩)=some (.int (sz ws k c))
theorem SB.get {H:Hp} {d:Addr} {ws:List Str} {k c:Nat} (h:SB H d ws k) (h1:97<=c) (h2:c - 97<ws.length):eY H d (sgn c) (some (.int (sz ws k c))):=by
 obtain ⟨kvs,e,f⟩:=h;rw[<-f c h1 h2];exact eY.k (k:=.inr ⟨#[c]⟩) e
noncomputable def dC (K:Fg):Sp:=λvs H Q _=>∃(a:Addr) (ws:List Str) (c:Nat) (n:Int) (k:Nat),vs=[.ref a,sgn c,.int n]/\tX K H a ws/\Ru ws/\aK ws c=true/\k<=400/\Good ws k c n/\(∀i,i<k->sz ws i c<=n)/\
 ∀p rs H',aC H H'->H p=none->(∀r∈rs,H r=none)->Ml H' p rs (dN ws k c n)->Q (.ref p) H'
theorem AY {E:XS} {σ:St} {H:Hp} {Q:VK} {a r:Addr} {ws:List Str} {k:Nat} (h0:σ[0]?=some (some (.ref a))) (h8:σ[8]?=some (some (.ref r))) (hR:tX K H a ws) (hr:H r=some (.lst ((iA ws k).map V.int))) (q:∀d H',aC H H'->H d=none->SB H' d ws k->Q (.ref d) H'):
  (UK (call "letters" (cM K) [len (var 0)]) (var 8):EX K).t E σ H Q:=by
 have h4:=hR.four;have hq:=hR.tp;have hlen:(ws.map V.str).length=ws.length:=length_map _;refine MV (MY (oA (WC (zG h0 (MS hq (vZ ⟨_,rfl,zG h8 ?_⟩))))));have k0:(0:Int)<=((ws.map V.str).length:Nat):=by lia
 have k4:(((ws.map V.str).length:Nat):Int)<=4:=by lia
 have hkl:(known ((ws.map V.str).length:Nat)).cps.size=ws.length:=by
  show (known ((ws.map V.str).length:Nat)).length=_;rw[jC k0 k4];lia
 have hinj:∀i j,i<(known ((ws.map V.str).length:Nat)).cps.size->j<(known ((ws.map V.str).length:Nat)).cps.size->fW (known ((ws.map V.str).length:Nat)) i=fW (known ((ws.map V.str).length:Nat)) j->i=j:=λi j hi hj e=>by
  rw[hkl] at hi hj;rw[cK k0 k4 (by lia),cK k0 k4 (by lia)] at e;have:=uQ e;lia
 refine ⟨_,_,(iA ws k).map V.int,rfl,.inr (aR.of hr),by rw[hkl,length_map,gJ],by rw[hkl];lia,?_,hinj,λd hd=>?_⟩
 ·rw[Array.all_eq_true'];intro c hc;have hc':c∈ls (known ((ws.map V.str).length:Nat)):=by simpa [ls] using hc
  rw[dM k0 k4] at hc';obtain ⟨k,hk,rfl⟩:=mem_map.mp hc';have:=mem_range.mp hk;simp;lia
 refine q d _ (aE hd _) hd ⟨_,aA,λc h1 h2=>?_⟩;obtain ⟨x,hx⟩:=DB (ws:=ws) (k:=k) h2;unfold jJ;have ek:=cK k0 k4 (show c - 97<(((ws.map V.str).length:Nat):Int).toNat by lia);have e97:97+(c - 97)=c:=by lia
 rw[e97] at ek;rw[<-ek,sF hinj (by rw[hkl];exact h2),getElem?_map,hx];unfold sz;rw[hx];rfl
noncomputable def Off (p:Addr) (H H':Hp):Prop:=∀b o,b≠p->H b=some o->H' b=some o
theorem Off.trans {p:Addr} {H H1 H2:Hp} (a:Off p H H1) (b:aC H1 H2):Off p H H2:=λc o h e=>b c o (a c o h e)
theorem Off.upd {p:Addr} {H H1:Hp} {o:HO} (a:Off p H H1):Off p H (upd H1 p o):=λc u h e=>by rw[aF h];exact a c u h e
theorem Off.same {p:Addr} {H0 H H1:Hp} (s:aC H0 H) (a:Off p H H1) (hp:H0 p=none):aC H0 H1:=λc o e=>a c o (aB e hp) (s c o e)
theorem XR (n d:Nat) (h:0<n):HT.dJ n d (some (-(1:Int)))=n - 1:=by
 show (if (-(1:Int))<0 then ((-(1:Int))+(n:Int)).toNat else min (-(1:Int)).toNat n)=n - 1;rw[if_pos (by decide)];lia
theorem Bi {xs:List V} (h:0<xs.length):wH xs none (some (-(1:Int)))=xs.take (xs.length - 1):=by
 unfold wH;rw[HT.JQ,XR _ _ h,drop_zero,Nat.sub_zero]
end
noncomputable def aI (ws:List Str) (l:List Nat):List Nat:=l.flatMap (wd ws)
theorem cU (ws:List Str) (a b:List Nat):aI ws (a++b)=aI ws a++aI ws b:=List.flatMap_append ..
theorem aL (ws:List Str) (c:Nat) (l:List Nat):aI ws (c::l)=wd ws c++aI ws l:=List.flatMap_cons ..
theorem eR (ws:List Str) (z:Str):img ws z=aH (aI ws (ls z)):=rfl
noncomputable def wk (ws:List Str) (c:Nat):Nat->List Nat
 |0=>[c]
 |k+1=>aI ws (wk ws c k)
noncomputable def bI (ws:List Str) (l:List Nat):Prop:=∀c∈l,97<=c/\c - 97<ws.length
theorem bI.img {ws:List Str} (h:Ru ws) {l:List Nat} (hl:bI ws l):bI ws (aI ws l):=λc hc=>by
 unfold aI at hc;obtain ⟨d,hd,hcd⟩:=mem_flatMap.mp hc;exact h.sign (hl d hd).2 hcd
theorem bI.isW {ws:List Str} {l:List Nat} (h:bI ws l):eX ws.length (aH l):=λc hc=>by
 rw[aO] at hc;have:=h c hc;lia
theorem fF {ws:List Str} (h:Ru ws) {c:Nat} (h1:97<=c) (h2:c - 97<ws.length):∀k,bI ws (wk ws c k)
 |0=>λd hd=>by
  have:d=c:=by simpa [wk] using hd
  subst this;exact ⟨h1,h2⟩
 |k+1=>(fF h h1 h2 k).img h
theorem sH (ws:List Str) (k:Nat) (a b:List Nat):aN ws k (a++b)=aN ws k a+aN ws k b:=by unfold aN;rw[map_append,List.sum_append]
theorem dB (ws:List Str) (k c:Nat) (l:List Nat):aN ws k (c::l)=sz ws k c+aN ws k l:=by unfold aN;rw[map_cons,sum_cons]
theorem iX {ws:List Str} {k:Nat}:∀{l:List Nat},bI ws l->aN ws k (aI ws l)=aN ws (k+1) l
 |[],_=>rfl
 |c::l,h=>by
  rw[aL,sH,dB,iX λd hd=>h d (mem_cons_of_mem _ hd),eZ (h c mem_cons_self).2]
theorem gK {ws:List Str}:∀{l:List Nat},bI ws l->aN ws 0 l=l.length
 |[],_=>rfl
 |c::l,h=>by
  rw[dB,nN (h c mem_cons_self).2,gK λd hd=>h d (mem_cons_of_mem _ hd),length_cons];lia
theorem cP {ws:List Str} (h:Ru ws) {c:Nat} (h1:97<=c) (h2:c - 97<ws.length) (k:Nat):((wk ws c k).length:Int)=sz ws k c:=by
 have key:∀j i,j+i=k->aN ws j (wk ws c i)=sz ws k c:=by
  intro j i;induction i generalizing j with
  |zero=>
   intro e;show aN ws j [c]=_;rw[dB,show j=k by lia];show _+0=_;lia
  |succ i ih=>
   intro e;show aN ws j (aI ws (wk ws c i))=_;rw[iX (fF h h1 h2 i)];exact ih (j+1) (by lia)
 rw[<-key 0 k (by lia),gK (fF h h1 h2 k)]
theorem sY {ws:List Str} (h:Ru ws) {c:Nat} (h2:c - 97<ws.length) (hg:aK ws c=true):∃t,wd ws c=c::t:=by
 obtain ⟨w,hw,e,_⟩:=h.word h2;unfold aK at hg;rw[hw] at hg;simp only [and_eq_true,decide_eq_true_eq] at hg;rw[e];cases hl:ls w with
 |nil=>rw[hl] at hg;simp at hg
 |cons d t=>
  rw[hl] at hg;have:d=c:=by simpa using hg.2.2
  subst this;exact ⟨t,rfl⟩
theorem AK {ws:List Str} (h:Ru ws) {c:Nat} (h2:c - 97<ws.length) (hg:aK ws c=true):∀k,∃t,wk ws c (k+1)=wk ws c k++t
 |0=>by
  obtain ⟨t,e⟩:=sY h h2 hg;refine ⟨t,?_⟩;show aI ws [c]=[c]++t;rw[aL,e];show c::t++[]=_;rw[append_nil];rfl
 |k+1=>by
  obtain ⟨t,e⟩:=AK h h2 hg k;refine ⟨aI ws t,?_⟩;show aI ws (wk ws c (k+1))=aI ws (wk ws c k)++_;rw[e,cU]
theorem nK {ws:List Str} (h:Ru ws) {c:Nat} (h2:c - 97<ws.length) (hg:aK ws c=true) (k:Nat):∀j,∃t,wk ws c (k+j)=wk ws c k++t
 |0=>⟨[],by rw[append_nil];rfl⟩
 |j+1=>by
  obtain ⟨t,e⟩:=nK h h2 hg k j;obtain ⟨u,f⟩:=AK h h2 hg (k+j);exact ⟨t++u,by rw[show k+(j+1)=(k+j)+1 by lia,f,e,List.append_assoc]⟩
noncomputable def ew (ws:List Str) (c i:Nat):Nat:=(wk ws c i)[i]?.getD 0
theorem AL {ws:List Str} (h:Ru ws) {c:Nat} (h1:97<=c) (h2:c - 97<ws.length) (hg:aK ws c=true) {k i:Nat} (hi:i<(wk ws c k).length):(wk ws c k)[i]?=some (ew ws c i):=by
 have li:i<(wk ws c i).length:=by
  have a:=cP h h1 h2 i;have b:=cH h h1 h2 hg i;lia
 have key:∀j l,j<=l->i<(wk ws c j).length->(wk ws c l)[i]?=(wk ws c j)[i]?:=λj l hjl hj=>by
  obtain ⟨t,e⟩:=nK h h2 hg j (l - j);rw[show j+(l - j)=l by lia] at e;rw[e,getElem?_append_left hj]
 have e:(wk ws c i)[i]?=some (ew ws c i):=by
  unfold ew;rw[getElem?_eq_getElem li];rfl
 by_cases hik:i<=k
 ·rw[key i k hik li,e]
 ·rw[<-key k i (by lia) hi,e]
noncomputable def str (ws:List Str) (c n m:Nat):List Nat:=(range m).map λi=>ew ws c (n+i)
theorem str_len (ws:List Str) (c n m:Nat):(str ws c n m).length=m:=by unfold str;rw[length_map,length_range]
theorem fG {ws:List Str} (h:Ru ws) {c:Nat} (h1:97<=c) (h2:c - 97<ws.length) (hg:aK ws c=true) {k n m:Nat} (hi:n+m<=(wk ws c k).length):((wk ws c k).drop n).take m=str ws c n m:=by
 refine ext_getElem? λi=>?_;by_cases him:i<m
 ·rw[getElem?_take,if_pos him,getElem?_drop,AL h h1 h2 hg (by lia)];unfold str;rw[getElem?_map,getElem?_range him];rfl
 ·rw[List.getElem?_eq_none_iff.mpr (by rw[length_take];lia),List.getElem?_eq_none_iff.mpr (by rw[str_len];lia)]
theorem DC {ws:List Str} (h:Ru ws) {c:Nat} (h1:97<=c) (h2:c - 97<ws.length) (hg:aK ws c=true) {k l:Nat} (hkl:k<=l):sz ws k c<=sz ws l c:=by
 obtain ⟨t,e⟩:=nK h h2 hg k (l - k);rw[show k+(l - k)=l by lia] at e;rw[<-cP h h1 h2 k,<-cP h h1 h2 l,e,length_append];lia
theorem tE {ws:List Str} (h:Ru ws) {c:Nat} (hg:aK ws c=true) {k:Nat} {n:Int} (g:Good ws k c n):∀j,dN ws (k+j) c n=replicate j (0,c)++dN ws k c n
 |0=>rfl
 |j+1=>by
  obtain ⟨g1,g2,g3,g4⟩:=id g;obtain ⟨t,e⟩:=sY h g2 hg;have hs:=DC h g1 g2 hg (show k<=k+j by lia);have ef:bD ws (k+j) (wd ws c) n=(0,n):=by
   rw[e];unfold bD;rw[if_neg (by lia)]
  show dN ws ((k+j)+1) c n=_;show ((bD ws (k+j) (wd ws c) n).1,(wd ws c)[(bD ws (k+j) (wd ws c) n).1]?.getD 0)::dN ws (k+j) ((wd ws c)[(bD ws (k+j) (wd ws c) n).1]?.getD 0) (bD ws (k+j) (wd ws c) n).2=_;rw[ef];have e0:(wd ws c)[0]?.getD 0=c:=by rw[e];rfl
  show (0,(wd ws c)[0]?.getD 0)::dN ws (k+j) ((wd ws c)[0]?.getD 0) n=_;rw[e0,tE h hg g j];rfl
theorem Good.more {ws:List Str} (h:Ru ws) {c:Nat} (hg:aK ws c=true) {k l:Nat} {n:Int} (g:Good ws k c n) (hkl:k<=l):Good ws l c n:=by
 obtain ⟨g1,g2,g3,g4⟩:=g;exact ⟨g1,g2,g3,Int.lt_of_lt_of_le g4 (DC h g1 g2 hg hkl)⟩
noncomputable def At (ws:List Str) (c:Nat) (k:Nat) (n:Int) (i:Nat) (A B:List Nat):Prop:=wk ws c i=A++(bQ ws k c n i).1::B/\aN ws (k - i) A+(bQ ws k c n i).2=n
theorem UT {ws:List Str} {c k:Nat} {n:Int}:At ws c k n 0 [] []:=by
 have e:bQ ws k c n 0=(c,n):=by cases k<;>rfl
 refine ⟨?_,?_⟩
 ·rw[e];rfl
 ·rw[e];show (0:Int)+n=n;lia
theorem UU {ws:List Str} (h:Ru ws) {c k:Nat} {n:Int} {i:Nat} {A B:List Nat} (g:Good ws k c n) (hi:i<k) (a:At ws c k n i A B):
  ∃st S,(dN ws k c n)[i]?=some (st,(bQ ws k c n (i+1)).1)/\st<(wd ws (bQ ws k c n i).1).length/\wd ws (bQ ws k c n i).1=(wd ws (bQ ws k c n i).1).take st++(bQ ws k c n (i+1)).1::S/\(wd ws (bQ ws k c n i).1).drop st=(bQ ws k c n (i+1)).1::S/\At ws c k n (i+1) (aI ws A++(wd ws (bQ ws k c n i).1).take st) (S++aI ws B):=by
 have hGi:=lA h k c n i g (by lia);obtain ⟨g1,g2,g3,g4⟩:=id hGi;have eki:k - i=(k - i - 1)+1:=by lia
 rw[eki] at hGi;obtain ⟨d,hd,hGd⟩:=hGi.step h;have hs:=qK (ws:=ws) k c n i hi;have hf:=wF (ws:=ws) k c n i hi;rw[hd] at hs;have e1:(bQ ws k c n (i+1)).1=d:=by rw[hs];rfl
 have e2:(bQ ws k c n (i+1)).2=(bD ws (k - i - 1) (wd ws (bQ ws k c n i).1) (bQ ws k c n i).2).2:=by rw[hs]
 rw[eki,eZ g2] at g4;obtain ⟨o1,o2,o3,o4⟩:=wC (wd ws (bQ ws k c n i).1) (bQ ws k c n i).2 g3 g4;obtain ⟨st,hst⟩:∃st,(bD ws (k - i - 1) (wd ws (bQ ws k c n i).1) (bQ ws k c n i).2).1=st:=⟨_,rfl⟩;rw[hst] at o1 o4 hd hf;have hdrop:(wd ws (bQ ws k c n i).1).drop st=d::(wd ws (bQ ws k c n i).1).drop (st+1):=by
  rw[List.drop_eq_getElem_cons o1];rw[getElem?_eq_getElem o1] at hd;rw[Option.some.inj hd]
 have hw:wd ws (bQ ws k c n i).1=(wd ws (bQ ws k c n i).1).take st++d::(wd ws (bQ ws k c n i).1).drop (st+1):=by
  rw[<-hdrop,take_append_drop]
 have hA:bI ws A:=λx hx=>fF h g.1 g.2.1 i x (by rw[a.1];exact mem_append_left _ hx);refine ⟨st,(wd ws (bQ ws k c n i).1).drop (st+1),hf,o1,by rw[e1];exact hw,by rw[e1];exact hdrop,?_,?_⟩
 ·show aI ws (wk ws c i)=_;rw[a.1,cU,aL,e1]
  conv=>lhs;rw[hw]
  simp only [List.append_assoc,List.cons_append]
 ·rw[sH,show k - (i+1)=k - i - 1 by lia,iX hA,<-eki,e2,o4];have:=a.2;lia
theorem Bq {ws:List Str} (h:Ru ws) {c k:Nat} {n:Int} {A B:List Nat} (g:Good ws k c n) (a:At ws c k n k A B):(A.length:Int)=n:=by
 have hGk:=lA h k c n k g (Nat.le_refl _);rw[sub_self] at hGk;obtain ⟨g1,g2,g3,g4⟩:=hGk;rw[nN g2] at g4;have hA:bI ws A:=λx hx=>fF h g.1 g.2.1 k x (by rw[a.1];exact mem_append_left _ hx);have:=a.2;rw[sub_self,gK hA] at this;lia
theorem qB {ws:List Str} (h:Ru ws):∀{l:List Nat},bI ws l->l.length<=(aI ws l).length
 |[],_=>Nat.le_refl _
 |c::l,hl=>by
  have ih:=qB h (l:=l) λd hd=>hl d (mem_cons_of_mem _ hd);obtain ⟨w,_,e,hm⟩:=h.word (hl c mem_cons_self).2;have h1:=h.one w hm;rw[aL,length_append,length_cons,e,aP];lia
theorem window {ws:List Str} (h:Ru ws) {c st m:Nat} {l:List Nat} (hl:bI ws (c::l)) (hst:st<(wd ws c).length) (hm:1<=m):((aI ws ((c::l).take m)).drop st).take m=((aI ws (c::l)).drop st).take m:=by
 obtain ⟨m',rfl⟩:∃m',m=m'+1:=⟨m - 1,by lia⟩;have hsplit:c::l=(c::l).take (m'+1)++(c::l).drop (m'+1):=(take_append_drop _ _).symm;by_cases hle:(c::l).length<=m'+1
 ·rw[take_of_length_le hle]
 ·have hlen:st+(m'+1)<=(aI ws ((c::l).take (m'+1))).length:=by
   rw[List.take_succ_cons,aL,length_append];have h2:=qB h (l:=l.take m') λd hd=>hl d (mem_cons_of_mem _ (mem_of_mem_take hd));rw[length_take] at h2;rw[length_cons] at hle;lia
  conv=>rhs;rw[hsplit,cU]
  rw[List.drop_append_of_le_length (by lia),List.take_append_of_le_length (by rw[length_drop];lia)]
section
variable {K:Fg}
theorem Rl.ru {H:Hp} {a:Addr} {ws:List Str} (h:Rl K H a ws 100):Ru ws:=⟨h.pos,h.four,h.isw,h.one,h.le⟩
noncomputable def eK (K:Fg):Sp:=λvs H Q _=>∃(a:Addr) (ws:List Str) (c m:Nat),vs=[.ref a,sgn c,.int m]/\Rl K H a ws 100/\97<=c/\c - 97<ws.length/\aK ws c=true/\m<=1000/\∀H',aC H H'->Q (.str (aH (str ws c 0 m))) H'
noncomputable def fR (K:Fg):List (SX K):=
 [set 3 (var 1),
  Cg (cmp .Lt (len (var 3)) (var 2)) [set 3 (call "_law_image" (kH K) [var 0,var 3])],
  ret (xA (var 3) none (some (var 2)))]
theorem rJ:TT (eK K) (fR K) ["_law_rule","_law_start","_law_size","_law_word_here"]:=by
 intro vs H Q E h;obtain ⟨a,ws,c,m,rfl,hR,h1,h2,hg,hm,q⟩:=h;have hU:=hR.ru;unfold fR;walk_at "";refine mU (kT (m:=m) (λj σ H'=>j<=m/\aC H H'/\(m - j=0\/(wk ws c (m - j - 1)).length<m)/\σ=[some (.ref a),some (sgn c),some (.int m),some (.str (aH (wk ws c (m - j))))])
  ⟨Nat.le_refl _,aC.refl _,.inl (sub_self m),by rw[sub_self];rfl⟩ (λj σ H' hW=>?_))
 obtain ⟨hj,hS,hprev,rfl⟩:=hW;have hle:(wk ws c (m - j)).length<=1000000:=by
  rcases hprev with h|h
  ·rw[h];show 1<=1000000;decide
  ·by_cases h0:m - j=0
   ·rw[h0];show 1<=1000000;decide
   ·have e:m - j=(m - j - 1)+1:=by lia
    rw[e];have:=BW (ws:=ws) (z:=aH (wk ws c (m - j - 1))) (B:=100) hU.le;rw[eR,eP,eP,aO] at this;show (aI ws (wk ws c (m - j - 1))).length<=_;lia
 have hgl:=cP hU h1 h2 (m - j);have hgr:=cH hU h1 h2 hg (m - j);walk_at "";refine fO (small (by rw[eP];exact hle)) ?_;walk_at "";rw[eP];refine jI (λhc=>xE ?_) λhc=>?_
 ·have hj0:0<j:=by lia
  walk_at "";refine ⟨a,ws,_,rfl,hR.same hS,(fF hU h1 h2 (m - j)).isW,by rw[eP];lia,λH2 hS2=>?_⟩;refine ⟨j - 1,by lia,by lia,hS.trans hS2,.inr (by rw[show m - (j - 1) - 1=m - j by lia];lia),?_⟩;rw[eR,aO,show m - (j - 1)=m - j+1 by lia];rfl
 ·walk_at "";refine dQ (small (by rw[eP];exact hle)) ?_;have e:Txt.slice (aH (wk ws c (m - j))) none (some ((m:Nat):Int))=aH (str ws c 0 m):=by
   refine cN ?_;rw[show ls (Txt.slice (aH (wk ws c (m - j))) none (some ((m:Nat):Int)))=(ls (aH (wk ws c (m - j)))).take ((m:Nat):Int).toNat from cR (by lia),aO,aO,toNat_natCast,<-fG hU h1 h2 hg (k:=m - j) (n:=0) (m:=m) (by lia),drop_zero]
  rw[e];exact q _ hS
end
section
variable {K:Fg}
structure Pl (K:Fg) (H:Hp) (a:Addr) (ws:List Str) (c:Nat) (n:Int):Prop where
 rt:tX K H a ws
 ru:Ru ws
 c1:97<=c
 c2:c - 97<ws.length
 gr:aK ws c=true
 n0:0<=n
 tn:∃m,m<=400/\n<sz ws m c
theorem Pl.turns {H:Hp} {a:Addr} {ws:List Str} {c:Nat} {n:Int} (h:Pl K H a ws c n):∃k,k<=400/\Good ws k c n/\∀i,i<k->sz ws i c<=n:=by
 obtain ⟨m,hm,hn⟩:=h.tn;obtain ⟨k,h1,h2,h3⟩:=least (P:=λk=>n<sz ws k c) hn;exact ⟨k,by lia,⟨h.c1,h.c2,h.n0,h2⟩,λi hi=>by have:=h3 i hi;lia⟩
theorem Pl.less {H:Hp} {a:Addr} {ws:List Str} {c:Nat} {n m:Int} (h:Pl K H a ws c n) (h0:0<=m) (hm:m<=n):Pl K H a ws c m:=⟨h.rt,h.ru,h.c1,h.c2,h.gr,h0,by
 obtain ⟨k,h1,h2⟩:=h.tn
 exact ⟨k,h1,by lia⟩⟩
noncomputable def bO (K:Fg):Sp:=λvs H Q _=>∃(a:Addr) (ws:List Str) (c n m:Nat),vs=[.ref a,sgn c,.int n,.int m]/\Pl K H a ws c ((n+m - 1:Nat):Int)/\1<=m/\m<=2000/\∀H',aC H H'->Q (.str (aH (str ws c n m))) H'
theorem vG {ws:List Str} (h:Ru ws) {c:Nat} (hg:aK ws c=true) {k j:Nat} {n:Int} (g:Good ws k c n):replicate j (V.int 0)++(dN ws k c n).map (λf=>V.int (f.1:Nat))=(dN ws (k+j) c n).map λf=>V.int (f.1:Nat):=by
 rw[tE h hg g j,map_append,List.map_replicate];rfl
theorem zU (n:Nat) (a b:List Nat):bJ n (aH (a++b))=zipWith (·+·) (bJ n (aH a)) (bJ n (aH b)):=by
 refine ext_getElem? λi=>?_;by_cases hi:i<n
 ·rw[getElem?_zipWith,gH hi,gH hi,gH hi];show some _=some _;unfold cnt;rw[aO,aO,aO,List.count_append]
  congr 1
 ·rw[List.getElem?_eq_none_iff.mpr (by rw[eS];lia),List.getElem?_eq_none_iff.mpr (by rw[length_zipWith,eS];lia)]
theorem zT (n:Nat):bJ n (aH [])=replicate n 0:=by
 have e2:cnt (aH [])=λ_=>0:=by
  funext k
  unfold cnt;rw[aO];rfl
 unfold bJ;rw[e2,List.map_const',length_range]
end
end L2.Na
namespace L2.Na.Pr
open PySem PySem.Spec PyProof.Rows L2 L2.L3
section
variable {K:Fg}
noncomputable def Ny (K:Fg) (H:Hp) (E:XK):Prop:=∀H',aC H H'->E (.ref (clsAt K "NoStart")) none H'
noncomputable def TG (K:Fg) (m:Int) (H:Hp) (E:XK):Prop:=∀H' dx,aC H H'->H' dx=some (.xd [("most",.int m)])->E (.ref (clsAt K "TooGreat")) (some dx) H'
noncomputable def Jv (K:Fg) (H:Hp) (a:Addr) (ws:List Str) (c:Nat) (n:Int) (E:XK):Prop:=tX K H a ws/\Ru ws/\97<=c/\
 ((aK ws c=false/\Ny K H E)\/(aK ws c=true/\c - 97<ws.length/\(∀i,i<=400->sz ws i c<=n)/\TG K 400 H E))
noncomputable def bW (K:Fg):Sp:=λvs H Q E=>L2.Na.bW K vs H Q E\/∃(a:Addr) (ws:List Str) (c:Nat) (n:Int),vs=[.ref a,sgn c,.int n]/\Jv K H a ws c n E
noncomputable def Ds (K:Fg):Sp:=λvs H Q E=>∃(a:Addr) (ws:List Str) (c:Nat) (n:Int) (k:Nat),vs=[.ref a,sgn c,.int n]/\tX K H a ws/\Ru ws/\97<=c/\c - 97<ws.length/\aK ws c=true/\k<=400/\(∀i,i<k->sz ws i c<=n)/\
 ((n<sz ws k c/\∀p rs H',aC H H'->H p=none->HZ H' p rs (fH ws (k+1))->Q (.ref p) H')\/(k=400/\sz ws k c<=n/\TG K 400 H E))
noncomputable def cF (K:Fg):List (SX K):=
 [rW (yO (call "grows" (oY K) [var 0,var 1])) [raiseO "NoStart" (cst (.str "the rule doesn't grow from this letter")) []] [],
  set 3 (call "table" (kF K) [var 0]),
  set 4 (vI (call "letters" (cM K) [len (var 0)]) (var 1)),
  set 5 (lst [call "sizes" (oW K) [var 0,cst (.int 0)]]),
  Cg (cmp .LtE (ix (ix (var 5) (neg (cst (.int 1)))) (var 4)) (var 2)) [rW (cmp .Gt (len (var 5)) (As "MOST_TURNS" (.int 400))) [BA "TooGreat" "self" "most" "most" (As "MOST_TURNS" (.int 400))] [],
   ex (gF (var 5) (call "sizes_once" (fJ K) [var 3,ix (var 5) (neg (cst (.int 1)))]))],
  ret (var 5)]
theorem rV:∀vs H Q E,bW K vs H Q E->vs.length=3:=by
 rintro vs H Q E (⟨_,_,_,_,_,rfl,_⟩|⟨_,_,_,_,rfl,_⟩)<;>rfl
theorem Cy:TT (Ds K) (cF K) ["rule","start","n","rows","at","made"]:=by
 intro vs H Q E h;obtain ⟨a,ws,c,n,k,rfl,hR,hU,h1,h2,hg,hk,hlt,hor⟩:=h;have h4:=hR.four;have hlen:(ws.map V.str).length=ws.length:=length_map _;have hw:∀w∈ws,eX ws.length w/\w.length<=100000:=λw hm=>⟨hU.isw w hm,by have:=hU.le w hm;lia⟩;unfold cF;walk_at "";refine ⟨a,ws,c,rfl,hR,hU.lens,h1,λH1 hS1=>?_⟩;rw[hg];walk_at "";refine AG ?_;have hR1:=hR.same hS1;walk_at "";refine ⟨a,ws,rfl,hR1,λpT rsT H2 hS2 _ _ hT=>?_⟩;have hR2:=hR1.same hS2;have hq2:=hR2.tp;walk_at "";refine ⟨_,rfl,?_⟩;walk_at "";obtain ⟨rr,hr⟩:=yZ (m:=((ws.map V.str).length:Nat)) (by lia) (by lia) h1 (show c - 97<(((ws.map V.str).length:Nat):Int).toNat by lia);refine zI hr ?_;walk_at "";refine ⟨a,ws,0,rfl,hR2,hw,by lia,by lia,λr0 H3 hS3 hr0 hr03=>?_⟩;walk_at "";refine ⟨by show 1<=sizeLine;decide,λp hp=>?_⟩;walk_at "";have hS0:aC H H3:=(hS1.trans hS2).trans hS3;have hTs:=hS2.trans hS3;have hrow:∀xs∈rowsOf ws,Ct xs/\xs.length<=1000:=λxs hx=>by
  unfold rowsOf at hx;obtain ⟨w,hm,rfl⟩:=mem_map.mp hx;exact ⟨qM (hw w hm).2,by rw[eS];lia⟩
 refine kT (m:=k) (λm σ H'=>m<=k/\(∃rs:List Addr,aC H3 H'/\HZ H' p rs (fH ws (k - m+1))/\(∀x∈rs,x≠p))/\σ=[some (.ref a),some (sgn c),some (.int n),some (.ref pT),some (.int ((c - 97:Nat):Int)),some (.ref p)])
  ⟨Nat.le_refl _,⟨[r0],aE hp _,⟨aA,by rw[jO,sub_self];rfl,λi x y hx hy=>?_⟩,λx hx=>?_⟩,rfl⟩ (λm σ H' hW=>?_)
 ·have e0:i=0:=by
   have:=(List.getElem?_eq_some_iff.mp hx).1;simp at this;lia
  subst e0;have e1:r0=x:=by simpa using hx
  subst e1;rw[sub_self,jP (by lia)] at hy;cases hy;exact aE hp _ _ _ hr03
 ·have e1:x=r0:=by simpa using hx
  subst e1;exact aB hr03 hp
 ·obtain ⟨hm,⟨rs,hSs,hTb,hne⟩,rfl⟩:=hW;have hrl:rs.length=k - m+1:=by rw[hTb.2.1,jO]
  obtain ⟨rl,hlast⟩:∃r,rs[k - m]?=some r:=⟨_,getElem?_eq_getElem (show k - m<rs.length by lia)⟩;have hrow2:=hTb.2.2 (k - m) _ _ hlast (jP (by lia));have hat:rE (rs.map V.ref) (-(1:Int))=some (.ref rl):=HY (by rw[length_map,hrl,show k - m+1 - 1=k - m by lia,getElem?_map,hlast];rfl);walk_at "";refine MO ?_;walk_at "";refine BX ?_;refine qG (aR.of hTb.1) hat ?_;walk_at "";refine qG (aR.of hrow2) (Dq h2) ?_;walk_at "";refine jI (λhc=>xE ?_) λhc=>?_
  ·walk_at "";refine vX (aR.of hTb.1) ?_;walk_at "";refine jI (λhc2=>?_) λhc2=>?_
   ·rw[length_map,hrl] at hc2;have em:m=0:=by lia
    subst em;rw[Nat.sub_zero] at hc;rcases hor with ⟨hn,_⟩|⟨_,_,tg⟩
    ·lia
    walk_at "";refine zH ?_;walk_at "";exact λdx hdx=>tg _ dx ((hS0.trans hSs).trans (aE hdx _)) aA
   rw[length_map,hrl] at hc2;have hm0:0<m:=by
    by_cases h0:0<m
    ·exact h0
    ·have e:m=0:=by lia
     subst e;rw[Nat.sub_zero] at hc;rcases hor with ⟨hn,_⟩|⟨_,_,_⟩<;>lia
   walk_at "";refine HB (aR.of hTb.1) ?_;walk_at "";refine MO ?_;walk_at "";refine BX ?_;refine qG (aR.of hTb.1) hat ?_;walk_at "";refine ⟨pT,_,rsT,rowsOf ws,iA ws (k - m),rfl,(hT.same hS3).same hSs,hrow2,hrow,?_,λr H4 hS4 hr4 hr42=>?_⟩
   ·rw[bC];lia
   walk_at "";rw[xM hU.isw] at hr42;have hpn:r≠p:=(aB hTb.1 hr4).symm;refine eE (hS4 _ _ hTb.1) (by rw[length_map,hrl];exact Nat.lt_of_lt_of_le (show k - m+1<1000 by lia) (small (by decide))) ?_;refine ⟨m - 1,by lia,by lia,⟨rs++[r],gD (hSs.trans hS4) hp,?_,λx hx=>?_⟩,rfl⟩
   ·have e:k - (m - 1)+1=(k - m+1)+1:=by lia
    rw[e,xN];refine HZ.snoc hTb ?_ ?_ (λb o hb e=>?_) hne
    ·rw[aF hpn];exact hr42
    ·rw[aA,map_append];rfl
    ·rw[aF hb];exact hS4 _ _ e
   ·rcases mem_append.mp hx with h|h
    ·exact hne x h
    ·have e:x=r:=by simpa using h
     subst e;exact hpn
  ·have hm0:m=0:=by
    by_cases h0:m=0
    ·exact h0
    ·have:=hlt (k - m) (by lia);exact absurd this hc
   subst hm0;rw[Nat.sub_zero] at hTb;walk_at "";rw[Nat.sub_zero] at hc;rcases hor with ⟨_,q⟩|⟨_,h,_⟩
   ·exact q p rs H' (hS0.trans hSs) (none_of hS0 hp) hTb
   ·exact absurd h hc
theorem rH:TT (bW K) (cF K) ["rule","start","n","rows","at","made"]:=by
 intro vs H Q E h;rcases h with ⟨a,ws,c,n,k,rfl,hR,hU,h1,h2,hg,hk,hn,hlt,q⟩|⟨a,ws,c,n,rfl,hR,hU,h1,hb⟩
 ·exact Cy _ H Q E ⟨a,ws,c,n,k,rfl,hR,hU,h1,h2,hg,hk,hlt,.inl ⟨hn,q⟩⟩
 rcases hb with ⟨hg,q⟩|⟨hg,h2,hle,tg⟩
 ·unfold cF;walk_at "";refine ⟨a,ws,c,rfl,hR,hU.lens,h1,λH1 hS1=>?_⟩;rw[hg];walk_at "";refine PL ?_;walk_at "";refine MN ?_;walk_at "";exact ⟨by show 1<=sizeLine;decide,q H1 hS1⟩
 ·exact Cy _ H Q E ⟨a,ws,c,n,400,rfl,hR,hU,h1,h2,hg,Nat.le_refl _,λi hi=>hle i (by lia),.inr ⟨rfl,hle 400 (Nat.le_refl _),tg⟩⟩
noncomputable def dC (K:Fg):Sp:=λvs H Q E=>L2.Na.dC K vs H Q E\/∃(a:Addr) (ws:List Str) (c:Nat) (n:Int),vs=[.ref a,sgn c,.int n]/\Jv K H a ws c n E
noncomputable def jF (K:Fg):List (SX K):=
 [set 3 (call "sizes_until" (bW K) [var 0,var 1,var 2]),
  set 4 (call "words_by_letter" (bM K) [var 0]),
  set 5 (lst []),
  set 6 (var 1),
  set 7 (var 2),
  mE (jA 8) (Hl (xA (var 3) none (some (neg (cst (.int 1)))))) [set 9 (UK (call "letters" (cM K) [len (var 0)]) (var 8)),
   set 10 (ix (var 4) (var 6)),
   set 11 (cst (.int 0)),
   Cg (cmp .LtE (ix (var 9) (ix (var 10) (var 11))) (var 7)) [set 7 (bin .Sub (var 7) (ix (var 9) (ix (var 10) (var 11)))),
    set 11 (bin .Add (var 11) (cst (.int 1)))],
   set 6 (ix (var 10) (var 11)),
   ex (gF (var 5) (tup [var 11,var 6]))],
  ret (var 5)]
theorem GV:∀vs H Q E,dC K vs H Q E->vs.length=3:=by
 rintro vs H Q E (⟨_,_,_,_,_,rfl,_⟩|⟨_,_,_,_,rfl,_⟩)<;>rfl
theorem FH:TT (dC K) (jF K) ["rule","start","n","rows","word_for","pairs","letter","left","row","size_of","word","step"]:=by
 intro vs H Q E h;rcases h with h|⟨a,ws,c,n,rfl,hb⟩
 case inr=>
  unfold jF;walk_at "";exact .inr ⟨a,ws,c,n,rfl,hb⟩
 obtain ⟨a,ws,c,n,k,rfl,hR,hU,hg,hk,hG,hlt,q⟩:=h;unfold jF;walk_at "";refine .inl ⟨a,ws,c,n,k,rfl,hR,hU,hG.1,hG.2.1,hg,hk,hG.2.2.2,hlt,λp rs H1 hS1 hp1 hT=>?_⟩;have hrl:rs.length=k+1:=by rw[hT.2.1,jO]
 walk_at "";refine ⟨a,ws,rfl,hR.same hS1,λd H2 hS2 _ hd=>?_⟩;walk_at "";refine ⟨zero_le _,λpl hpl=>?_⟩;have s3:=aE hpl (.lst []);have hS02:=hS1.trans hS2;have hT3:=(hT.same hS2).same s3;walk_at "";refine Af ?_;walk_at "";refine MO ?_;walk_at "";refine BX ?_;walk_at "";refine Gi (aR.of hT3.1) λl hl=>?_;rw[Bi (by rw[length_map];lia),length_map,hrl,show k+1 - 1=k by lia];have s4:=aE hl (.lst ((rs.map V.ref).take k));have hlen:((rs.map V.ref).take k).length=k:=by rw[length_take,length_map];lia
 refine Ae (aR.of aA) ?_;have hplne:l≠pl:=(aB (H:=upd H2 pl (.lst [])) aA hl).symm;have hpl4:∀H',Off pl (upd (upd H2 pl (.lst [])) l (.lst ((rs.map V.ref).take k))) H'->aC H2 H':=λH' o=>Off.same (s3.trans s4) o hpl;refine LW (λi σ H'=>i<=k/\Off pl (upd (upd H2 pl (.lst [])) l (.lst ((rs.map V.ref).take k))) H'/\(∃us:List Addr,Ml H' pl us ((dN ws k c n).take i)/\(∀u∈us,H u=none/\u≠pl))/\
   ∃(a8 a9 a10 a11:Option V),σ=[some (.ref a),some (sgn c),some (.int n),some (.ref p),some (.ref d),some (.ref pl),some (sgn (bQ ws k c n i).1),some (.int (bQ ws k c n i).2),a8,a9,a10,a11])
  ⟨zero_le _,λ_ _ _ e=>e,⟨[],⟨s4 _ _ aA,rfl,λi r f hr=>by simp at hr⟩,λu hu=>nomatch hu⟩,none,none,none,none,by cases k<;>rfl⟩
  (λi σ H' hP=>aR.of (hP.2.1 l _ hplne aA)) (λi x σ H' hx hP=>?_) λσ H' hP=>?_
 ·obtain ⟨hi,hO,⟨us,hF,hus⟩,a8,a9,a10,a11,rfl⟩:=hP;have hik:i<k:=by
   have:=(List.getElem?_eq_some_iff.mp hx).1;rw[length_reverse,hlen] at this;exact this
  have hki:k - 1 - i<rs.length:=by lia
  have ex:x=.ref rs[k - 1 - i]:=by
   rw[List.getElem?_reverse (by rw[hlen];exact hik),hlen,getElem?_take,if_pos (by lia),getElem?_map,getElem?_eq_getElem hki] at hx;exact (Option.some.inj hx).symm
  subst ex;have hS:=hpl4 H' hO;have hrow:H' rs[k - 1 - i]=some (.lst ((iA ws (k - 1 - i)).map V.int)):=hS _ _ (hS2 _ _ (hT.2.2 (k - 1 - i) _ _ (getElem?_eq_getElem hki) (jP (by lia))));have hGi:=lA hU k c n i hG hi;obtain ⟨g1,g2,g3,g4⟩:=id hGi;have eki:k - i=(k - 1 - i)+1:=by lia
  rw[eki] at hGi;obtain ⟨dn,hdn,hGn⟩:=hGi.step hU;obtain ⟨w,hw,hwd,hwm⟩:=hU.word g2;have hsucc:=qK (ws:=ws) k c n i hik;have hfat:=wF (ws:=ws) k c n i hik;rw[show k - i - 1=k - 1 - i by lia] at hsucc hfat;obtain ⟨cl,hcl⟩:∃cl,(bQ ws k c n i).1=cl:=⟨_,rfl⟩;obtain ⟨x0,hx0⟩:∃x0,(bQ ws k c n i).2=x0:=⟨_,rfl⟩;simp only [hcl,hx0] at hsucc hfat hGn hdn g1 g2 g3 g4 hw hwd;rw[hcl,hx0];obtain ⟨st,hst⟩:∃st,(bD ws (k - 1 - i) (wd ws cl) x0).1=st:=⟨_,rfl⟩;rw[eki,eZ g2] at g4;obtain ⟨o1,o2,o3,o4⟩:=wC (wd ws cl) x0 g3 g4;rw[hst] at o1 o4 hdn hfat hsucc;rw[hdn] at hsucc;refine DZ (mU (sW (AY (K:=K) (a:=a) (r:=rs[k - 1 - i]) rfl rfl (hR.same (hS02.trans hS)) hrow λdz H5 hS5 _ hdz=>?_)));walk_at "";refine iK (((hd.same hS).same hS5).get g1 hw) ?_;walk_at "";have hwl:=hU.le w hwm;have hlsw:wd ws cl=w.cps.toList:=hwd;refine mU (kT (m:=st) (λm σ H6=>m<=st/\H6=H5/\σ=[some (.ref a),some (sgn c),some (.int n),some (.ref p),some (.ref d),some (.ref pl),some (sgn cl),some (.int (x0 - aN ws (k - 1 - i) ((wd ws cl).take (st - m)))),some (.ref rs[k - 1 - i]),some (.ref dz),some (.str w),some (.int ((st - m:Nat):Int))])
   ⟨Nat.le_refl _,rfl,?_⟩ (λm σ H6 hW=>?_))
  ·rw[sub_self,take_zero];have e0:aN ws (k - 1 - i) []=0:=rfl;rw[e0,Int.sub_zero];rfl
  ·obtain ⟨hm,rfl,rfl⟩:=hW;have hs:st - m<(wd ws cl).length:=by lia
   have hch:(wd ws cl)[st - m]?=some (wd ws cl)[st - m]:=getElem?_eq_getElem hs;obtain ⟨QN,sg2⟩:=hU.sign g2 (getElem_mem hs);have hat:rE w.cps.toList ((st - m:Nat):Int)=some (wd ws cl)[st - m]:=gU (by rw[<-hlsw];exact hch);have hwk:=zK (ws:=ws) (k:=k - 1 - i) (wd ws cl) x0 (st - m) _ (by rw[hst];lia) hch;rw[hst] at hwk;walk_at "";refine qF (small (by lia)) hat ?_;refine iK (hdz.get QN sg2) ?_;walk_at "";refine jI (λhc=>xE ?_) λhc=>?_
   ·have hlt2:=hwk.mpr hc;have hm0:0<m:=by lia
    walk_at "";refine qF (small (by lia)) hat ?_;refine iK (hdz.get QN sg2) ?_;walk_at "";refine ⟨m - 1,by lia,by lia,rfl,?_⟩;have e1:st - (m - 1)=(st - m)+1:=by lia
    have e2:aN ws (k - 1 - i) ((wd ws cl).take (st - m+1))=aN ws (k - 1 - i) ((wd ws cl).take (st - m))+sz ws (k - 1 - i) (wd ws cl)[st - m]:=by
     rw[take_add_one,hch];unfold aN;rw[map_append,List.sum_append];simp
    rw[e1,e2];have e3:((st - m:Nat):Int)+1=((st - m+1:Nat):Int):=by lia
    have e4:x0 - aN ws (k - 1 - i) ((wd ws cl).take (st - m)) - sz ws (k - 1 - i) (wd ws cl)[st - m]=x0 - (aN ws (k - 1 - i) ((wd ws cl).take (st - m))+sz ws (k - 1 - i) (wd ws cl)[st - m]):=by lia
    rw[<-e3,<-e4];rfl
   ·have hm0:m=0:=by
     by_cases h0:m=0
     ·exact h0
     ·exact absurd (hwk.mp (by lia)) hc
    subst hm0;have hat0:rE w.cps.toList ((st:Nat):Int)=some (wd ws cl)[st]:=gU (by rw[<-hlsw];exact getElem?_eq_getElem o1);rw[Nat.sub_zero];walk_at "";refine qF (small (by lia)) hat0 ?_;walk_at "";refine HB (aR.of (hS5 _ _ hF.1)) ?_;walk_at "";refine ⟨by show 2<=sizeLine;decide,λt ht=>?_⟩;walk_at "";have s6:=aE ht (.tup [V.int (st:Nat),sgn (wd ws cl)[st]]);have htp:t≠pl:=(aB (hS5 _ _ hF.1) ht).symm;have hdn':(wd ws cl)[st]=dn:=by
     rw[getElem?_eq_getElem o1] at hdn;exact Option.some.inj hdn
    have hfl:((dN ws k c n).take i).length=i:=by rw[length_take,bY];lia
    refine eE (s6 _ _ (hS5 _ _ hF.1)) (by rw[length_map,hF.2.1,hfl];exact Nat.lt_of_lt_of_le (show i<1000 by lia) (small (by decide))) ?_;refine ⟨hik,((hO.trans hS5).trans s6).upd,⟨us++[t],⟨by rw[aA,map_append];rfl,?_,λj r f hr hf=>?_⟩,λu hu=>?_⟩,some (.ref rs[k - 1 - i]),some (.ref dz),some (.str w),some (.int st),?_⟩
    ·rw[length_append,hF.2.1,hfl,length_take,bY];show i+1=_;lia
    ·rw[take_add_one,hfat] at hf;by_cases hj:j<us.length
     ·rw[getElem?_append_left hj] at hr;rw[getElem?_append_left (by rw[<-hF.2.1];exact hj)] at hf;have hne:=(hus r (mem_of_getElem? hr)).2;rw[aF hne];exact s6 _ _ (hS5 _ _ (hF.2.2 j r f hr hf))
     ·rw[getElem?_append_right (by lia)] at hr;rw[getElem?_append_right (by rw[<-hF.2.1];lia),<-hF.2.1] at hf;have e0:j - us.length=0:=by
       have:=(List.getElem?_eq_some_iff.mp hr).1;simp at this;lia
      rw[e0] at hr hf;have e1:t=r:=by simpa using hr
      have e2:(st,(bQ ws k c n (i+1)).1)=f:=by simpa using hf
      subst e1 e2;rw[aF htp,aA,hsucc,hdn'];rfl
    ·rcases mem_append.mp hu with h|h
     ·exact hus u h
     ·have e:u=t:=by simpa using h
      subst e;exact ⟨none_of (hS02.trans (hS.trans hS5)) ht,htp⟩
    ·rw[hsucc,o4,hdn'];rfl
 ·obtain ⟨hi,hO,⟨us,hF,hus⟩,a8,a9,a10,a11,rfl⟩:=hP;walk_at "";rw[hlen] at hF;rw[take_of_length_le (by rw[bY];exact Nat.le_refl _)] at hF;exact q pl us H' (hS02.trans (hpl4 H' hO)) (none_of hS02 hpl) (λr hr=>(hus r hr).1) hF
noncomputable def bO (K:Fg):Sp:=λvs H Q E=>L2.Na.bO K vs H Q E\/∃(a:Addr) (ws:List Str) (c n m:Nat),vs=[.ref a,sgn c,.int n,.int m]/\1<=m/\Jv K H a ws c ((n+m - 1:Nat):Int) E
noncomputable def dZ (K:Fg):List (SX K):=
 [set 4 (call "figures" (dC K) [var 0,var 1,bin .Sub (bin .Add (var 2) (var 3)) (cst (.int 1))]),
  setC 5 (EK none (var 0) (IT [0,1]) (iL (call "figures" (dC K) [var 0,var 1,var 2])) ["step","letter"] [] []),
  set 6 (bin .Mult (lst [cst (.int 0)]) (bin .Sub (len (var 4)) (len (var 5)))),
  set 7 (var 1),
  mE (jA 8) (iL (bin .Add (var 6) (var 5))) [set 7 (xA (xA (call "put" (lM K) [var 0,var 7]) (some (var 8)) none) none (some (var 3)))],
  ret (xA (var 7) none (some (var 3)))]
theorem vL:∀vs H Q E,bO K vs H Q E->vs.length=4:=by
 rintro vs H Q E (⟨_,_,_,_,_,rfl,_⟩|⟨_,_,_,_,_,rfl,_⟩)<;>rfl
theorem uD:TT (bO K) (dZ K) ["rule","start","n","many","last","steps","ahead","window","step"]:=by
 intro vs H Q E h;rcases h with h|⟨a,ws,c,n,m,rfl,hm1,hb⟩
 case inr=>
  unfold dZ;walk_at "";exact .inr ⟨a,ws,c,_,rfl,(show ((n:Nat):Int)+((m:Nat):Int) - 1=((n+m - 1:Nat):Int) by lia)▸hb⟩
 obtain ⟨a,ws,c,n,m,rfl,hP,hm1,hm2,q⟩:=h;have hU:=hP.ru;obtain ⟨kk,hkk,hGG,hltt⟩:=hP.turns;have hP2:Pl K H a ws c ((n:Nat):Int):=hP.less (by lia) (by lia);obtain ⟨k,hk,hG,hlt⟩:=hP2.turns;have hkle:k<=kk:=by
  by_cases h:k<=kk
  ·exact h
  ·have:=hlt kk (by lia);have:=hGG.2.2.2;lia
 have hGn:=hG.more hU hP.gr hkle;unfold dZ;walk_at "";refine .inl ⟨a,ws,c,_,kk,rfl,hP.rt,hU,hP.gr,hkk,?_,?_,λp rs H1 hS1 _ _ hF=>?_⟩
 ·rw[show ((n:Nat):Int)+((m:Nat):Int) - 1=((n+m - 1:Nat):Int) by lia];exact hGG
 ·rw[show ((n:Nat):Int)+((m:Nat):Int) - 1=((n+m - 1:Nat):Int) by lia];exact hltt
 have hrl:rs.length=kk:=by rw[hF.2.1,bY]
 walk_at "";refine .inl ⟨a,ws,c,n,k,rfl,hP.rt.same hS1,hU,hP.gr,hk,hG,hlt,λp2 rs2 H2 hS2 _ _ hF2=>?_⟩;have hrl2:rs2.length=k:=by rw[hF2.2.1,bY]
 have hlm:(rs2.map V.ref).length=k:=by rw[length_map,hrl2]
 refine gZ (aR.of hF2.1) ?_;intro D hD;have hfi:∀i,i<k->∃f,(dN ws k c n)[i]?=some f:=λi hi=>⟨_,getElem?_eq_getElem (by rw[bY];exact hi)⟩;refine NU (λi=>.int ((((dN ws k c n)[i]?.getD (0,0)).1:Nat):Int)) (λi=>.int ((((dN ws k c n)[i]?.getD (0,0)).1:Nat):Int)) (λi=>sgn ((dN ws k c n)[i]?.getD (0,0)).2) (aR.of hF2.1) (λi x hx=>?_) hD (small (by lia)) (λi H3 Q' hi hS3 fin=>?_) λH3 hS3 hO=>?_
 ·have hi:i<rs2.length:=by
   have:=(List.getElem?_eq_some_iff.mp hx).1;rw[length_map] at this;exact this
  rw[getElem?_map,getElem?_eq_getElem hi] at hx;obtain ⟨f,hf⟩:=hfi i (by lia);refine ⟨rs2[i],(Option.some.inj hx).symm,?_⟩;rw[hf];exact cZ.of (hF2.2.2 i _ f (getElem?_eq_getElem hi) hf)
 ·walk_at "";exact fin H3 (aC.refl _)
 have hO':H3 D=some (.lst ((dN ws k c n).map λf=>V.int (f.1:Nat))):=by
  rw[hO,hlm]
  congr 2
  refine ext_getElem? λi=>?_;rw[getElem?_map,getElem?_map];by_cases hi:i<k
  ·obtain ⟨f,hf⟩:=hfi i hi;rw[getElem?_range hi,hf];show some (V.int ((((dN ws k c n)[i]?.getD (0,0)).1:Nat):Int))=_;rw[hf];rfl
  ·rw[List.getElem?_eq_none_iff.mpr (by rw[length_range];lia),List.getElem?_eq_none_iff.mpr (by rw[bY];lia)];rfl
 have hl4:(rs.map V.ref).length=kk:=by rw[length_map,hrl]
 have hl5:((dN ws k c n).map λf=>V.int (f.1:Nat)).length=k:=by rw[length_map,bY]
 have hq4:aR K H3 p (rs.map V.ref):=aR.of ((hS2.trans hS3) _ _ hF.1);have hq5:aR K H3 D ((dN ws k c n).map λf=>V.int (f.1:Nat)):=aR.of hO';walk_at "";refine ⟨by show 1<=sizeLine;decide,λl hl=>?_⟩;have s4:=aE hl (.lst [V.int 0]);walk_at "";refine vX (s4.seq hq4) ?_;walk_at "";refine vX (s4.seq hq5) ?_;walk_at "";rw[hl4,hl5,show ((kk:Nat):Int) - ((k:Nat):Int)=((kk - k:Nat):Int) by lia];refine DY (xs:=[V.int 0]) aA ⟨by lia,by lia⟩ (small (by show 1 * _<=_;lia)) λl2 hl2=>?_;rw[kZ,toNat_natCast];have s5:=aE hl2 (.lst (replicate (kk - k) (V.int 0)));walk_at "";refine MX aA (s5 _ _ (s4 _ _ hO')) (small (by rw[length_replicate,hl5];lia)) λl3 hl3=>?_;rw[vG hU hP.gr hG,show k+(kk - k)=kk by lia];have s6:=aE hl3 (.lst ((dN ws kk c n).map λf=>V.int (f.1:Nat)));refine gZ (aR.of aA) ?_;have hS06:aC H (upd (upd (upd H3 l (.lst [V.int 0])) l2 (.lst (replicate (kk - k) (V.int 0)))) l3 (.lst ((dN ws kk c n).map λf=>V.int (f.1:Nat)))):=(((hS1.trans hS2).trans hS3).trans (s4.trans s5)).trans s6;refine LX (aR.of aA) (λi σ=>i<=kk/\∃A B a8,At ws c kk n i A B/\σ=[some (.ref a),some (sgn c),some (.int n),some (.int m),some (.ref p),some (.ref D),some (.ref l2),some (.str (aH (((bQ ws kk c n i).1::B).take m))),a8])
  ⟨zero_le _,[],[],none,UT,?_⟩ (λi x σ1 H7 hx hPi hS7=>?_) λσ1 H7 hPi hS7=>?_
 ·have e:bQ ws kk c n 0=(c,((n:Nat):Int)):=by cases kk<;>rfl
  rw[e,take_of_length_le (by show 1<=m;lia)];rfl
 ·obtain ⟨_,A,B,a8,hA,rfl⟩:=hPi;have hi:i<kk:=by
   have:=(List.getElem?_eq_some_iff.mp hx).1;rw[length_map,bY] at this;exact this
  obtain ⟨st,S,hf,hst,hw,hdr,hA'⟩:=UU hU hGn hi hA;have ex:x=.int ((st:Nat):Int):=by
   rw[getElem?_map,hf] at hx;exact (Option.some.inj hx).symm
  subst ex;have hLw:bI ws ((bQ ws kk c n i).1::B):=λd hd=>fF hU hP.c1 hP.c2 i d (by rw[hA.1];exact mem_append_right _ hd);have hLt:bI ws (((bQ ws kk c n i).1::B).take m):=λd hd=>hLw d (mem_of_mem_take hd);have hwl:(aH (((bQ ws kk c n i).1::B).take m)).length<=m:=by rw[eP,length_take];lia
  walk_at "";refine ⟨a,ws,_,rfl,(hP.rt.same hS06).same hS7,hU.le,hLt.isW,by lia,λH8 hS8=>?_⟩;have hil:=BW (ws:=ws) (z:=aH (((bQ ws kk c n i).1::B).take m)) (B:=100) hU.le;have hil2:(img ws (aH (((bQ ws kk c n i).1::B).take m))).length<=1000000:=by lia
  have hls:ls (img ws (aH (((bQ ws kk c n i).1::B).take m)))=aI ws (((bQ ws kk c n i).1::B).take m):=by rw[jQ,aO];rfl
  have hge:st<=(img ws (aH (((bQ ws kk c n i).1::B).take m))).length:=by
   rw[<-aP,hls];obtain ⟨m',rfl⟩:∃m',m=m'+1:=⟨m - 1,by lia⟩;rw[List.take_succ_cons,aL,length_append];lia
  walk_at "";refine dQ (small hil2) ?_;walk_at "";have hsl:=lQ (img ws (aH (((bQ ws kk c n i).1::B).take m))) (some ((st:Nat):Int)) none;refine dQ (small (by lia)) ?_;refine ⟨⟨hi,_,_,some (.int st),hA',?_⟩,hS7.trans hS8⟩;have e:Txt.slice (Txt.slice (img ws (aH (((bQ ws kk c n i).1::B).take m))) (some ((st:Nat):Int)) none) none (some ((m:Nat):Int))=aH (((bQ ws kk c n (i+1)).1::(S++aI ws B)).take m):=by
   refine cN ?_;rw[show ls (Txt.slice (Txt.slice (img ws (aH (((bQ ws kk c n i).1::B).take m))) (some ((st:Nat):Int)) none) none (some ((m:Nat):Int)))=(Txt.slice (img ws (aH (((bQ ws kk c n i).1::B).take m))) (some ((st:Nat):Int)) none).cps.toList.take ((m:Nat):Int).toNat from cR (by lia)];rw[gM (by lia) (by lia),toNat_natCast,toNat_natCast,aO];show ((ls (img ws (aH (((bQ ws kk c n i).1::B).take m)))).drop st).take m=_;rw[hls,window hU hLw hst hm1,aL,List.drop_append_of_le_length (by lia),hdr];rfl
  rw[e];rfl
 ·obtain ⟨_,A,B,a8,hA,rfl⟩:=hPi;rw[length_map,bY] at hA ⊢;have hAl:=Bq hU hGn hA;walk_at "";refine dQ (small (by rw[eP,length_take];lia)) ?_;have e:Txt.slice (aH (((bQ ws kk c n kk).1::B).take m)) none (some ((m:Nat):Int))=aH (str ws c n m):=by
   refine cN ?_;rw[show ls (Txt.slice (aH (((bQ ws kk c n kk).1::B).take m)) none (some ((m:Nat):Int)))=(aH (((bQ ws kk c n kk).1::B).take m)).cps.toList.take ((m:Nat):Int).toNat from cR (by lia)];show (ls (aH (((bQ ws kk c n kk).1::B).take m))).take _=_;rw[aO,toNat_natCast,aO,List.take_take,Nat.min_self];have hwl:=cP hU hP.c1 hP.c2 kk;have hgg:=hGG.2.2.2;rw[<-fG hU hP.c1 hP.c2 hP.gr (k:=kk) (by lia),hA.1,List.drop_append_of_le_length (by lia),List.drop_of_length_le (by lia)];rfl
  rw[e];exact q _ (hS06.trans hS7)
end
end L2.Na.Pr
namespace L2.Na
open PySem PySem.Spec PyProof.Rows L2 L2.L3
noncomputable def OX (X:Cx) (p:Addr) (zs:List Str):Heap->Prop:=λh=>eW X.prog X.w (xB X.w) h p zs
noncomputable def VP (X:Cx):List V->Hp->VK->Prop:=λvs H Q=>∃z:Str,vs=[.str z]/\z.cps.size+1<scanBound/\∀p zs,H p=none->(∀y,y∈zs↔∃c∈ls z,y=⟨#[c]⟩)->zs.Nodup->Q (.ref p) (upd H p (.ext (OX X p zs)))
theorem QR (X:Cx) (hc:X.calm=true):bZ X (.type "set") (VP X):=by
 intro pins s σ H xs us Q I r h;obtain ⟨z,rfl,hb,q⟩:=h;obtain ⟨u,rfl,ru⟩:=r.one;obtain ⟨t,rfl⟩:=ru;refine FN (I.ok.hd hc) hb λh' tk zs hS hm kp=>?_;have hg:∃o,h'.get? s.heap.objs.size=some o:=by
  obtain ⟨o,_,_,_,ho,_⟩:=hS;exact ⟨o,ho⟩
 have nd:zs.Nodup:=by
  obtain ⟨_,_,_,_,_,_,_,_,rfl,nd,_⟩:=id hS;exact nd
 exact ⟨.ref _,_,I.laid (t':=tk) (o:=.ext (OX X s.heap.objs.size zs)) kp (Nat.le_refl _) ⟨hS,hg,λh1 h2 x k=>eW.keep x k⟩,rfl,q _ zs I.fresh hm nd⟩
noncomputable def Dz (X:Cx):List V->Hp->VK->Prop:=λvs H Q=>∃(p:Addr) (zs:List Str),vs=[.ref p]/\H p=some (.ext (OX X p zs))/\zs.length<64/\∀D ss,H D=none->Perm ss zs->ss.Nodup->sortedS ss=true->Q (.ref D) (upd H D (.lst (ss.map V.str)))
theorem jY:∀{vs:List Value} {ss:List Str},StrsAre vs ss->Vals (ss.map V.str) vs
 |_,_,.nil=>.nil
 |_,_,.cons x t h=>.cons ⟨t,rfl⟩ (jY h)
theorem QI (X:Cx) (hc:X.calm=true):bZ X (.builtin "sorted") (Dz X):=by
 intro pins s σ H xs us Q I r h;obtain ⟨p,zs,rfl,hp,h64,q⟩:=h;obtain ⟨u,rfl,ru⟩:=r.one;obtain rfl:u=Value.ref p:=ru;have hS:eW X.prog X.w (xB X.w) s.heap p zs:=(show aY X.prog X.w H s.heap p (.ext (OX X p zs)) from I.hok p _ hp).1;have nd:zs.Nodup:=by
  obtain ⟨_,_,_,_,_,_,_,_,rfl,nd,_⟩:=hS;exact nd
 refine xY (I.ok.hd hc) hS h64 λs' D vs ss e kp le hD hs pm st eg eo=>?_;obtain ⟨h',g',d',tk',os'⟩:=s';have eg':g'=s.gens:=eg;have eo':os'=s.os:=eo;subst eg' eo';have fr:H D=none:=I.hok.fresh le;have hl:ss.length<64:=by rw[pm.length_eq];exact h64
 have I1:Inv X pins σ (upd H D (.lst (ss.map V.str))) {s with heap:=h',toks:=tk'}:=I.laid (t':=tk') (o:=.lst (ss.map V.str)) kp le ⟨by rw[length_map,sizeLine_eq];lia,vs,e,jY hs,hD⟩;exact ⟨.ref D,_,⟨I1.ok,I1.os,I1.bare,I1.base,I1.loc,I1.cell,I1.free,I1.freeC,I1.pin,I1.hok,I1.len⟩,rfl,q D ss fr pm (pm.nodup_iff.mpr nd) st⟩
noncomputable def lets (l:List Nat):List Nat:=[97,98,99,100].filter λc=>decide (c∈l)
theorem MA {l:List Nat} (hl:∀c∈l,97<=c/\c<101) (c:Nat):c∈lets l↔c∈l:=by
 unfold lets;rw[mem_filter];constructor
 ·intro h;exact of_decide_eq_true h.2
 ·intro h;have:=hl c h;refine ⟨?_,decide_eq_true h⟩;have:c=97\/c=98\/c=99\/c=100:=by lia
  rcases this with rfl|rfl|rfl|rfl<;>simp
theorem BV:∀{l m:List Nat},l.Pairwise (·<·)->m.Pairwise (·<·)->(∀c,c∈l↔c∈m)->l=m
 |[],[],_,_,_=>rfl
 |[],c::m,_,_,h=>absurd ((h c).mpr mem_cons_self) not_mem_nil
 |c::l,[],_,_,h=>absurd ((h c).mp mem_cons_self) not_mem_nil
 |c::l,d::m,hl,hm,h=>by
  have h1:=pairwise_cons.mp hl;have h2:=pairwise_cons.mp hm;have e:c=d:=by
   rcases mem_cons.mp ((h c).mp mem_cons_self) with e|e
   ·exact e
   ·rcases mem_cons.mp ((h d).mpr mem_cons_self) with e'|e'
    ·exact e'.symm
    ·have:=h2.1 c e;have:=h1.1 d e';lia
  subst e;rw[BV h1.2 h2.2 λx=>?_];constructor
  ·intro hx;rcases mem_cons.mp ((h x).mp (mem_cons_of_mem _ hx)) with e|e
   ·have:=h1.1 x hx;lia
   ·exact e
  ·intro hx;rcases mem_cons.mp ((h x).mpr (mem_cons_of_mem _ hx)) with e|e
   ·have:=h2.1 x hx;lia
   ·exact e
theorem yW (l:List Nat):(lets l).Pairwise (·<·):=Pairwise.filter _ (by decide)
theorem pC:∀(p:Nat) (cs:List Nat),risingS ⟨#[p]⟩ (cs.map λc=>(⟨#[c]⟩:Str))=true->(p::cs).Nodup->(p::cs).Pairwise (·<·)
 |p,[],_,_=>pairwise_cons.mpr ⟨(λ_ h=>absurd h not_mem_nil),Pairwise.nil⟩
 |p,c::cs,h,nd=>by
  have h':(!ltCps [c] [p]&&risingS ⟨#[c]⟩ (cs.map λc=>(⟨#[c]⟩:Str)))=true:=h;rw[and_eq_true] at h';have n1:=nodup_cons.mp nd;have ih:=pC c cs h'.2 n1.2;have hle:¬c<p:=λz=>by
   have lt:ltCps [c] [p]=true:=by rw[ltCps_eq];exact decide_eq_true (List.Lex.rel z)
   have h1:=h'.1;rw[lt] at h1;cases h1
  have hne:p≠c:=λe=>n1.1 (by rw[e];exact mem_cons_self);refine pairwise_cons.mpr ⟨λx hx=>?_,ih⟩;rcases mem_cons.mp hx with rfl|hx
  ·lia
  ·have:=(pairwise_cons.mp ih).1 x hx;lia
theorem xQ {ss:List Str} {l:List Nat} (hl:∀c∈l,97<=c/\c<101) (hm:∀y,y∈ss↔∃c∈l,y=⟨#[c]⟩) (nd:ss.Nodup) (st:sortedS ss=true):ss=(lets l).map λc=>(⟨#[c]⟩:Str):=by
 obtain ⟨cs,rfl⟩:∃cs:List Nat,ss=cs.map λc=>(⟨#[c]⟩:Str):=by
  refine ⟨ss.map λy=>y.cps.toList.headD 0,?_⟩;rw[map_map]
  conv=>lhs;rw[<-List.map_id ss]
  refine map_congr_left λy hy=>?_;obtain ⟨c,_,rfl⟩:=(hm y).mp hy;rfl
 have inj:∀a b:Nat,(⟨#[a]⟩:Str)=⟨#[b]⟩->a=b:=λa b e=>by
  have e3:=congrArg ls e;simp [ls] at e3;exact e3
 have nd':cs.Nodup:=by
  have:=List.pairwise_map.mp (show Pairwise (·≠·) (cs.map λc=>(⟨#[c]⟩:Str)) from nd);exact this.imp λh e=>h (by rw[e])
 have inc:cs.Pairwise (·<·):=by
  cases cs with
  |nil=>exact Pairwise.nil
  |cons p cs=>exact pC p cs st nd'
 rw[BV inc (yW l) λc=>?_];rw[MA hl];constructor
 ·intro h;obtain ⟨d,hd,e⟩:=(hm ⟨#[c]⟩).mp (mem_map.mpr ⟨c,h,rfl⟩);rw[inj _ _ e];exact hd
 ·intro h;obtain ⟨d,hd,e⟩:=mem_map.mp ((hm ⟨#[c]⟩).mpr ⟨c,h,rfl⟩);rw[<-inj _ _ e];exact hd
theorem zL {zs:List Str} {l:List Nat} (hl:∀c∈l,97<=c/\c<101) (hm:∀y,y∈zs↔∃c∈l,y=⟨#[c]⟩) (nd:zs.Nodup):zs.length<64:=by
 have sub:zs ⊆ [97,98,99,100].map λc=>(⟨#[c]⟩:Str):=λy hy=>by
  obtain ⟨c,hc,rfl⟩:=(hm y).mp hy;have:=hl c hc;have:c=97\/c=98\/c=99\/c=100:=by lia
  rcases this with rfl|rfl|rfl|rfl<;>simp
 have:zs.length<=4:=Nodup.length_le_of_subset nd sub;lia
noncomputable def JU (x:V) (H:Hp) (Q:VK):Prop:=∃z:Str,x=.str z/\z.length<=4000/\(∀c∈ls z,97<=c/\c<101)/\∀D H',aC H H'->H D=none->H' D=some (.lst ((lets (ls z)).map sgn))->Q (.ref D) H'
section
variable {K:Fg}
noncomputable def Ks (a:EX K) (C:Sc):Expr->Bool
 | .Call (.Name y _) [.Call (.Name y2 _) es [] _] [] _=>(C.cm&&rD C "sorted" y)&&(rD C "set" y2&&jX [a] C es)
 |_=>false
theorem LU {a:EX K} {C:Sc} {e:Expr} (h:Ks a C e=true):∃y p y2 p2 es q2 q,e=.Call (.Name y p) [.Call (.Name y2 p2) es [] q2] [] q/\C.cm=true/\rD C "sorted" y=true/\rD C "set" y2=true/\jX [a] C es=true:=by
 unfold Ks at h;split at h
 ·simp only [and_eq_true] at h;exact ⟨_,_,_,_,_,_,_,rfl,h.1.1,h.1.2,h.2.1,h.2.2⟩
 ·cases h
noncomputable def JV:List V->Hp->VK->Prop
 |[x],H,Q=>JU x H Q
 |_,_,_=>False
noncomputable def Dr (a:EX K):EX K:=nG (λE=>Dn JV (fY [a] E)) (Ks a) (λR=>sQ [a] R/\True) .pl
 (λX C E e hK G hE hq hm=>by
  subst hK
  obtain ⟨y,p,y2,p2,es,q2,q,rfl,hcm,h1,h2,h3⟩:=LU hm
  have e1:=cC h1
  have e2:=cC h2
  subst e1 e2
  obtain ⟨g1,d1⟩:=cB G h1
  obtain ⟨g2,d2⟩:=cB G h2
  have calm:=G.calm hcm
  cases es with
  |nil=>cases h3
  |cons e0 es=>
   intro pins s σ H Q I h
   have inner:PE X (.Call (.Name "set" p2) (e0::es) [] q2) (λσ H Q2=>fY [a] E σ H (λvs H1=>JV vs H1 Q)/\∀vs H1,JV vs H1 Q->VP X vs H1 Q2):=by
    intro pins s σ H Q2 I ⟨k1,k2⟩
    refine wpAny_Call_Name_kw (fM I g2 (G.bl _ (by decide+kernel)) PyProof.Rows.Boot.set ?_ (by decide+kernel) d2)
    exact PyProof.Rows.callWith_type1 (bT (dR G hE [a] (e0::es) hq.1 h3 q2 pins s σ H _ I k1) λus s1 ⟨vs,H1,I1,r1,z1⟩=>QR X calm pins s1 σ H1 vs us Q2 I1 r1 (k2 vs H1 z1)) (aX (a.sok C e0 (aG h3).1)) (bH [] es (aG h3).2)
   refine yI (QI X calm) g1 (G.bl _ (by decide+kernel)) PyProof.Rows.Boot.sorted (DO inner KP) (by decide+kernel) d1 rfl rfl pins s σ H Q I ⟨h,λvs H1 z1=>?_⟩
   match vs,z1 with
   |[x],⟨z,ez,b4,hl,fin⟩=>
    refine ⟨z,by rw[ez],?_,λp zs fr hm nd=>?_⟩
    ·have:z.cps.size=z.length:=rfl
     show z.cps.size+1<4096
     lia
    ·refine ⟨p,zs,rfl,aA,zL hl hm nd,λD ss frD pm nds st=>?_⟩
     have es':=xQ hl (λy=>by rw[pm.mem_iff];exact hm y) nds st
     have s1:=aE fr (.ext (OX X p zs))
     refine fin D _ (s1.trans (aE frD _)) (none_of s1 frD) ?_
     rw[aA,es',map_map]
     rfl)
 (λC e hm=>by
  obtain ⟨y,p,y2,p2,es,q2,q,rfl,_⟩:=LU hm
  exact ⟨rfl,rfl⟩)
theorem Ab {E:XS} {σ:St} {H:Hp} {Q:VK} {a:EX K} (h:a.t E σ H λx H1=>JU x H1 Q):(Dr a).t E σ H Q:=h
theorem TM {H:Hp} {Q:VK} {z:Str} (h1:z.length<=4000) (h2:∀c∈ls z,97<=c/\c<101) (h:∀D H',aC H H'->H D=none->H' D=some (.lst ((lets (ls z)).map sgn))->Q (.ref D) H'):JU (.str z) H Q:=⟨z,rfl,h1,h2,h⟩
end
end L2.Na
namespace L2.Na.Mx
noncomputable def rF (R:Nat->Nat->Prop):Nat->Nat->Nat->Prop
 |0,i,j=>i=j
 |k+1,i,j=>∃m,R i m/\rF R k m j
section
variable {R:Nat->Nat->Prop}
theorem rF.add:∀{a b i m j:Nat},rF R a i m->rF R b m j->rF R (a+b) i j
 |0,b,i,m,j,h,g=>by have e:i=m:=h;subst e;rw[zero_add];exact g
 |a+1,b,i,m,j,⟨l,h1,h2⟩,g=>by rw[show a+1+b=(a+b)+1 by lia];exact ⟨l,h1,rF.add h2 g⟩
theorem rF.cut:∀{a b i j:Nat},rF R (a+b) i j->∃m,rF R a i m/\rF R b m j
 |0,b,i,j,h=>⟨i,rfl,by rw[zero_add] at h;exact h⟩
 |a+1,b,i,j,h=>by
  rw[show a+1+b=(a+b)+1 by lia] at h;obtain ⟨l,h1,h2⟩:=h;obtain ⟨m,h3,h4⟩:=rF.cut h2;exact ⟨m,⟨l,h1,h3⟩,h4⟩
end
section
variable {R:Nat->Nat->Prop} {n:Nat}
noncomputable def Full (R:Nat->Nat->Prop) (n k:Nat):Prop:=∀i j,i<n->j<n->rF R k i j
end
end L2.Na.Mx
namespace L2.Na.K41
open PySem PySem.Spec PyProof.Rows L2 L2.L3
noncomputable def Rw (ws:List Str) (i j:Nat):Prop:=∃w,ws[i]?=some w/\97+j∈ls w
noncomputable def hs (ws:List Str):Nat->Nat->List Nat
 |0,i=>[97+i]
 |k+1,i=>lets ((hs ws k i).flatMap (wd ws))
theorem SO {ns:List Nat} {c:Nat} (h:c∈lets ns):c∈ns/\97<=c/\c<101:=by
 unfold lets at h;rw[mem_filter] at h;refine ⟨of_decide_eq_true h.2,?_⟩;have:=h.1;simp at this;lia
theorem TJ {ns:List Nat} {c:Nat} (h:c∈ns) (h1:97<=c) (h4:c<101):c∈lets ns:=by
 unfold lets;rw[mem_filter];refine ⟨?_,decide_eq_true h⟩;have:c=97\/c=98\/c=99\/c=100:=by lia
 rcases this with rfl|rfl|rfl|rfl<;>simp
section
variable {ws:List Str} (hU:Ru ws)
include hU
theorem OY {i j:Nat} (h:Rw ws i j):j<ws.length:=by
 obtain ⟨w,hw,hj⟩:=h;have:=hU.isw w (mem_of_getElem? hw) _ hj;lia
theorem pE:∀{k i j:Nat},i<ws.length->Mx.rF (Rw ws) k i j->j<ws.length
 |0,i,j,hi,h=>by have e:i=j:=h;exact e▸hi
 |k+1,i,j,hi,⟨m,h1,h2⟩=>pE (OY hU h1) h2
theorem qH:∀(k i c:Nat),i<ws.length->(c∈hs ws k i↔97<=c/\Mx.rF (Rw ws) k i (c - 97))
 |0,i,c,_=>by
  show c∈[97+i]↔97<=c/\i=c - 97;rw[mem_singleton];lia
 |k+1,i,c,hi=>by
  have h4:=hU.four;show c∈lets ((hs ws k i).flatMap (wd ws))↔_;have wdm:∀d,97<=d->d - 97<ws.length->∀e,e∈wd ws d↔97<=e/\Rw ws (d - 97) (e - 97):=λd h1 h2 e=>by
   unfold wd;rw[getElem?_eq_getElem h2];constructor
   ·intro he;have b:=hU.isw _ (getElem_mem h2) e he;exact ⟨b.1,ws[d - 97],getElem?_eq_getElem h2,by rw[show 97+(e - 97)=e by lia];exact he⟩
   ·rintro ⟨he,w,hw,hm⟩;rw[getElem?_eq_getElem h2] at hw;cases hw;rw[show 97+(e - 97)=e by lia] at hm;exact hm
  constructor
  ·intro h;obtain ⟨d,hd,hc⟩:=mem_flatMap.mp (SO h).1;obtain ⟨d1,d2⟩:=(qH k i d hi).mp hd;have dl:=pE hU hi d2;obtain ⟨c1,c2⟩:=(wdm d d1 dl c).mp hc;exact ⟨c1,Mx.rF.add d2 (b:=1) ⟨c - 97,c2,rfl⟩⟩
  ·rintro ⟨c1,h⟩;obtain ⟨m,g1,m2,g2,g3⟩:=Mx.rF.cut (a:=k) (b:=1) h;have e3:m2=c - 97:=g3;subst e3;have ml:=pE hU hi g1;have cl:=OY hU g2;refine TJ (mem_flatMap.mpr ⟨97+m,(qH k i (97+m) hi).mpr ⟨by lia,by rw[show 97+m - 97=m by lia];exact g1⟩,(wdm (97+m) (by lia) (by lia) c).mpr ⟨c1,?_⟩⟩) c1 (by lia);rw[show 97+m - 97=m by lia];exact g2
omit hU in
theorem Ar:∀(k i:Nat),(hs ws k i).Pairwise (·<·)
 |0,i=>List.pairwise_singleton _ _
 |k+1,i=>yW _
theorem EB {k:Nat}:(∀i,i<ws.length->hs ws k i=(range ws.length).map (97+·))↔Mx.Full (Rw ws) ws.length k:=by
 constructor
 ·intro h i j hi hj;have z:97+j∈hs ws k i:=by rw[h i hi];exact mem_map.mpr ⟨j,mem_range.mpr hj,rfl⟩
  have:=((qH hU k i (97+j) hi).mp z).2;rwa [show 97+j - 97=j by lia] at this
 ·intro h i hi;refine BV (Ar k i) (List.pairwise_map.mpr (List.pairwise_lt_range.imp λz=>by lia)) λc=>?_;rw[qH hU k i c hi];constructor
  ·rintro ⟨c1,c2⟩;exact mem_map.mpr ⟨c - 97,mem_range.mpr (pE hU hi c2),by lia⟩
  ·intro hc;obtain ⟨j,hj,rfl⟩:=mem_map.mp hc;exact ⟨by lia,by rw[show 97+j - 97=j by lia];exact h i j hi (mem_range.mp hj)⟩
omit hU in
end
noncomputable def LJ (ws:List Str):Bool:=(range ws.length).all λi=>decide (hs ws 10 i=(range ws.length).map (97+·))
theorem yV (l:List Nat):(lets l).length<=4:=by
 unfold lets;exact le_trans (List.length_filter_le _ _) (by decide)
section
variable {K:Fg}
noncomputable def jK (K:Fg):Sp:=λvs H Q _=>∃z:Str,vs=[.str z]/\z.length<=4000/\(∀c∈ls z,97<=c/\c<101)/\∀H',aC H H'->Q (.str (aH (lets (ls z)))) H'
noncomputable def gS (K:Fg):List (SX K):=
 [ret (vH (cst (.str "")) (Dr (var 0)))]
theorem uF:TT (jK K) (gS K) ["word"]:=by
 intro vs H Q E h;obtain ⟨z,rfl,h1,h2,q⟩:=h;unfold gS;walk_at "";refine Ab ?_;walk_at "";refine TM h1 h2 λD H1 hS nD hD=>?_;walk_at "";have l4:=yV (ls z);have hb:(((lets (ls z)).map λc=>(⟨#[c]⟩:Str)).map (·.length)).sum<=4 * 1:=by
  refine le_trans (uI (B:=1) λx hx=>?_) (by rw[length_map,length_map];exact Nat.mul_le_mul_right _ l4);obtain ⟨y,hy,rfl⟩:=mem_map.mp hx;obtain ⟨c,_,rfl⟩:=mem_map.mp hy;exact Nat.le_refl _
 refine ⟨(lets (ls z)).map λc=>(⟨#[c]⟩:Str),.inl ?_,?_,?_⟩
 ·rw[hD,map_map];rfl
 ·have e:(Str.ofString "").length=0:=by decide+kernel
  rw[e];lia
 ·have e:Txt.join (Str.ofString "") ((lets (ls z)).map λc=>(⟨#[c]⟩:Str))=aH (lets (ls z)):=cN (by
   rw[pP,aO,map_map]
   have:∀l:List Nat,(l.map (ls∘λc=>(⟨#[c]⟩:Str))).flatten=l:=by
    intro l
    induction l with
    |nil=>rfl
    |cons c l ih=>rw[map_cons,flatten_cons,ih];rfl
   exact this _)
  rw[e];exact q H1 hS
noncomputable def xT (K:Fg):Sp:=λvs H Q _=>∃(a:Addr) (ws:List Str),vs=[.ref a]/\tX K H a ws/\Ru ws/\∀H',aC H H'->Q (.bl (LJ ws)) H'
noncomputable def wQ (K:Fg):List (SX K):=
 [set 1 (call "letters" (cM K) [len (var 0)]),
  set 2 (listS (var 1)),
  mE (jA 3) (BZ (As "ENOUGH_TURNS" (.int 10)) []) [setC 2 (EK none (call "letters_in" (jK K) [call "put" (lM K) [var 1,var 0]]) (jA 0) (iL (var 2)) ["word"] ["rule"] [0])],
  ret (Iq (comp (cmp .Eq (var 0) (var 1)) (jA 0) (iL (var 2)) ["word"] ["known"] [1]))]
theorem Ho {ws:List Str} (hU:Ru ws) {k i:Nat} (hi:i<ws.length):(hs ws k i).length<=4/\∀c∈hs ws k i,97<=c/\c<97+ws.length:=by
 refine ⟨?_,λc hc=>?_⟩
 ·cases k with
  |zero=>exact (by decide:1<=4)
  |succ k=>exact yV _
 ·obtain ⟨h1,h2⟩:=(qH hU k i c hi).mp hc;have:=pE hU hi h2;lia
theorem OU {α:Type} (f:α->Bool):∀l:List α,(l.map f).all id=l.all f
 |[]=>rfl
 |x::l=>by rw[map_cons,all_cons,all_cons,OU f l];rfl
theorem QC:TT (xT K) (wQ K) ["rule","known","held","turn"]:=by
 intro vs H Q E h;obtain ⟨a,ws,rfl,hR,hU,q⟩:=h;have hq:=hR.tp;have h4:=hR.four;have hlen:(ws.map V.str).length=ws.length:=length_map _;have k0:(0:Int)<=((ws.length:Nat):Int):=by lia
 have k4:((ws.length:Nat):Int)<=4:=by lia
 unfold wQ;walk_at "";rw[hlen];refine ⟨_,rfl,?_⟩;walk_at "";refine TQ ?_;walk_at "";refine ⟨small (by rw[jC k0 k4];lia),λl nl=>?_⟩;have hl0:(upd H l (.lst (jH (known ((ws.length:Nat):Int))))) l=some (.lst ((range ws.length).map λi=>V.str (aH (hs ws 0 i)))):=by
  rw[aA];have e:jH (known ((ws.length:Nat):Int))=(range ws.length).map λi=>V.str (aH (hs ws 0 i)):=by
   unfold jH;rw[show (known ((ws.length:Nat):Int)).cps.toList=ls (known ((ws.length:Nat):Int)) from rfl,dM k0 k4,map_map,toNat_natCast];rfl
  rw[e]
 have s0:=aE nl (.lst (jH (known ((ws.length:Nat):Int))));revert hl0 s0;generalize upd H l (.lst (jH (known ((ws.length:Nat):Int))))=H0;intro hl0 s0;walk_at "";refine iI (λk σ H'=>aC H H'/\∃(r:Addr) (a3:Option V),H' r=some (.lst ((range ws.length).map λi=>V.str (aH (hs ws k i))))/\σ=[some (.ref a),some (.str (known ((ws.length:Nat):Int))),some (.ref r),a3])
  ⟨s0,l,none,hl0,rfl⟩ (λk σ H' hk hP=>?_) λσ H' hP=>?_
 ·obtain ⟨hS,r,a3,hr,rfl⟩:=hP;walk_at "";refine gZ (aR.of hr) ?_;intro D hD;refine jD (λi=>V.str (aH (hs ws (k+1) i))) (aR.of hr) hD (small (by rw[length_map,length_range];lia)) (λi x H1 Q' hx hS1 fin=>?_) λH1 hS1 hO=>?_
  ·have hi:i<ws.length:=by
    have:=(List.getElem?_eq_some_iff.mp hx).1;rw[length_map,length_range] at this;exact this
   have ex:x=V.str (aH (hs ws k i)):=by
    rw[getElem?_map,getElem?_range hi] at hx;exact (Option.some.inj hx).symm
   subst ex;obtain ⟨g1,g2⟩:=Ho hU (k:=k) hi;have hw:eX ws.length (aH (hs ws k i)):=λc hc=>by rw[aO] at hc;exact g2 c hc
   have hwl:(aH (hs ws k i)).length<=4:=by rw[eP];exact g1
   walk_at "";refine ⟨a,ws,_,rfl,(hR.same hS).same hS1,hU.le,hw,by lia,λH2 hS2=>?_⟩;walk_at "";have il:(img ws (aH (hs ws k i))).length<=4 * 100:=le_trans (BW hU.le) (Nat.mul_le_mul_right _ hwl);have iw:=DX (z:=aH (hs ws k i)) hU.isw;refine ⟨_,rfl,by lia,λc hc=>by have:=iw c hc;lia,λH3 hS3=>?_⟩;have:=fin H3 (hS2.trans hS3);have e:lets (ls (img ws (aH (hs ws k i))))=hs ws (k+1) i:=by rw[jQ,aO];rfl
   rw[e];exact this
  ·refine ⟨hS.trans hS1,D,_,?_,rfl⟩;rw[hO,length_map,length_range]
 ·obtain ⟨hS,r,a3,hr,rfl⟩:=hP;walk_at "";refine gZ (aR.of hr) ?_;intro D hD;refine jD (λi=>V.bl (decide (hs ws 10 i=(range ws.length).map (97+·)))) (aR.of hr) hD (small (by rw[length_map,length_range];lia)) (λi x H1 Q' hx hS1 fin=>?_) λH1 hS1 hO=>?_
  ·have hi:i<ws.length:=by
    have:=(List.getElem?_eq_some_iff.mp hx).1;rw[length_map,length_range] at this;exact this
   have ex:x=V.str (aH (hs ws 10 i)):=by
    rw[getElem?_map,getElem?_range hi] at hx;exact (Option.some.inj hx).symm
   subst ex;walk_at "";have:=fin H1 (aC.refl _);have e:decide (aH (hs ws 10 i)=known ((ws.length:Nat):Int))=decide (hs ws 10 i=(range ws.length).map (97+·)):=decide_eq_decide.mpr ⟨λe=>by
    have e2:=congrArg ls e
    rw[aO,dM k0 k4,toNat_natCast] at e2
    exact e2,λe=>cN (by rw[aO,dM k0 k4,toNat_natCast];exact e)⟩
   rw[e];exact this
  ·refine ⟨D,(range ws.length).map λi=>decide (hs ws 10 i=(range ws.length).map (97+·)),rfl,?_,?_⟩
   ·rw[hO,length_map,length_range,map_map];rfl
   ·have z:=q H1 (hS.trans hS1);unfold LJ at z;rw[OU];exact z
end
end L2.Na.K41
namespace L2.Na
open PySem
noncomputable def bU (ws:List Str) (x:List Nat):List (List Nat):=(range (wd ws (x.headD 0)).length).map λj=>((aI ws x).drop j).take x.length
noncomputable abbrev bL:=List Nat × List Int
noncomputable def bG (f:List bL):List (List Nat):=f.map (·.1)
noncomputable def bE (f:List bL) (p:bL):List bL:=if p.1∈bG f then f else f++[p]
noncomputable def chl (ws:List Str) (x:bL):List bL:=(range (wd ws (x.1.headD 0)).length).map λj=>(((aI ws x.1).drop j).take x.1.length,zipWith (·+·) (zX (rowsOf ws) x.2 1) (bJ ws.length (aH ((wd ws (x.1.headD 0)).take j))))
noncomputable def aJ (ws:List Str) (f0:List bL):Nat->List bL
 |0=>f0
 |i+1=>match (aJ ws f0 i)[i]? with
  |some x=>(chl ws x).foldl bE (aJ ws f0 i)
  |none=>aJ ws f0 i
theorem fC (f g:List bL):bG (f++g)=bG f++bG g:=map_append
theorem fB (f:List bL):(bG f).length=f.length:=length_map _
theorem oC (ws:List Str) (x:bL):bG (chl ws x)=bU ws x.1:=by
 unfold bG chl bU;rw[map_map];rfl
theorem OV (f:List bL) (p:bL):∃t,bE f p=f++t:=by
 unfold bE;split
 ·exact ⟨[],(append_nil f).symm⟩
 ·exact ⟨[p],rfl⟩
theorem lF:∀(ps f:List bL),∃t,ps.foldl bE f=f++t
 |[],f=>⟨[],(append_nil f).symm⟩
 |p::ps,f=>by
  obtain ⟨t,e⟩:=OV f p;obtain ⟨u,g⟩:=lF ps (bE f p);exact ⟨t++u,by rw[foldl_cons,g,e,List.append_assoc]⟩
theorem JK (ws:List Str) (f0:List bL) (i:Nat):∃t,aJ ws f0 (i+1)=aJ ws f0 i++t:=by
 show ∃t,(match (aJ ws f0 i)[i]? with|some x=>(chl ws x).foldl bE (aJ ws f0 i)|none=>aJ ws f0 i)=_;cases (aJ ws f0 i)[i]? with
 |none=>exact ⟨[],(append_nil _).symm⟩
 |some x=>exact lF _ _
theorem eD (ws:List Str) (f0:List bL) (i:Nat):∀k,∃t,aJ ws f0 (i+k)=aJ ws f0 i++t
 |0=>⟨[],(append_nil _).symm⟩
 |k+1=>by
  obtain ⟨t,e⟩:=eD ws f0 i k;obtain ⟨u,g⟩:=JK ws f0 (i+k);exact ⟨t++u,by rw[<-Nat.add_assoc,g,e,List.append_assoc]⟩
theorem DD (ws:List Str) (f0:List bL) {i k:Nat} (h:i<=k):(aJ ws f0 i).length<=(aJ ws f0 k).length:=by
 obtain ⟨t,e⟩:=eD ws f0 i (k - i);rw[show i+(k - i)=k by lia] at e;rw[e,length_append];lia
theorem iC (ws:List Str) (f0:List bL) {i:Nat} (h:(aJ ws f0 i).length<=i):∀k,aJ ws f0 (i+k)=aJ ws f0 i
 |0=>rfl
 |k+1=>by
  have ih:=iC ws f0 h k;show (match (aJ ws f0 (i+k))[i+k]? with|some x=>(chl ws x).foldl bE (aJ ws f0 (i+k))|none=>aJ ws f0 (i+k))=_;rw[ih,List.getElem?_eq_none (by lia)]
structure sA (ws:List Str) (L:Nat) (f:List bL):Prop where
 nd:(bG f).Nodup
 ok:∀p∈f,p.1.length=L/\bI ws p.1/\p.2.length=ws.length
theorem UX {ws:List Str} {L:Nat} {f:List bL} {p:bL} (h:sA ws L f) (hp:p.1.length=L/\bI ws p.1/\p.2.length=ws.length):sA ws L (bE f p):=by
 unfold bE;split
 ·exact h
 ·rename_i hn;refine ⟨?_,λq hq=>?_⟩
  ·rw[fC];exact List.nodup_append.mpr ⟨h.nd,nodup_cons.mpr ⟨by simp [bG],List.nodup_nil⟩,λa ha b hb e=>hn (by
    have:b=p.1:=by simpa [bG] using hb
    rw[<-this,<-e]
    exact ha)⟩
  ·rcases mem_append.mp hq with hq|hq
   ·exact h.ok q hq
   ·have:q=p:=by simpa using hq
    subst this;exact hp
theorem wX {ws:List Str} {L:Nat}:∀{ps f:List bL},sA ws L f->(∀p∈ps,p.1.length=L/\bI ws p.1/\p.2.length=ws.length)->sA ws L (ps.foldl bE f)
 |[],f,h,_=>h
 |p::ps,f,h,hp=>by
  rw[foldl_cons];exact wX (f:=bE f p) (UX h (hp p (by simp))) λq hq=>hp q (by simp [hq])
theorem vV {ws:List Str} (hU:Ru ws):∀{l:List Nat},bI ws l->l.length<=(aI ws l).length
 |[],_=>zero_le _
 |c::l,h=>by
  obtain ⟨w,_,e,m⟩:=hU.word (h c (by simp)).2;have:=hU.one w m;rw[<-aP] at this;have ih:=vV hU (l:=l) λd hd=>h d (by simp [hd]);rw[aL,length_append,length_cons,e];lia
theorem cS {ws:List Str} (hU:Ru ws) {x:List Nat} (hx:bI ws x) (h1:1<=x.length) {j:Nat} (hj:j<(wd ws (x.headD 0)).length):(((aI ws x).drop j).take x.length).length=x.length:=by
 cases x with
 |nil=>simp at h1
 |cons c l=>
  have ih:=vV hU (l:=l) λd hd=>hx d (by simp [hd]);rw[length_take,length_drop,aL,length_append,length_cons];have hj':j<(wd ws c).length:=hj;lia
theorem OA {ws:List Str} (hU:Ru ws) {L:Nat} (hL:1<=L) {x:bL} (hx:x.1.length=L/\bI ws x.1/\x.2.length=ws.length):∀p∈chl ws x,p.1.length=L/\bI ws p.1/\p.2.length=ws.length:=λp hp=>by
 obtain ⟨j,hj,rfl⟩:=mem_map.mp hp;have hj':=mem_range.mp hj;refine ⟨?_,λc hc=>hx.2.1.img hU c (mem_of_mem_drop (mem_of_mem_take hc)),?_⟩
 ·have:=cS hU hx.2.1 (by lia) hj';rw[this];exact hx.1
 ·show (zipWith (·+·) (zX (rowsOf ws) x.2 1) _).length=_;rw[length_zipWith,wL hx.2.2,eS];lia
theorem cQ {ws:List Str} (hU:Ru ws) {L:Nat} (hL:1<=L) {f0:List bL} (h0:sA ws L f0):∀i,sA ws L (aJ ws f0 i)
 |0=>h0
 |i+1=>by
  have ih:=cQ hU hL h0 i;show sA ws L (match (aJ ws f0 i)[i]? with|some x=>(chl ws x).foldl bE (aJ ws f0 i)|none=>aJ ws f0 i);cases e:(aJ ws f0 i)[i]? with
  |none=>exact ih
  |some x=>exact wX ih (OA hU hL (ih.ok x (mem_of_getElem? e)))
noncomputable def UW (f:List (List Nat)) (x:List Nat):List (List Nat):=if x∈f then f else f++[x]
theorem AA (f:List bL) (p:bL):bG (bE f p)=UW (bG f) p.1:=by
 unfold bE UW;split
 ·rfl
 ·rw[fC];rfl
noncomputable def mR (f:List bL) (as:List Addr):List (L2.Key × L2.V):=zipWith (λp a=>(Sum.inr (aH p.1),L2.V.ref a)) f as
theorem nX {x y:List Nat} (h:aH x=aH y):x=y:=by
 have:=congrArg ls h;rwa [aO,aO] at this
theorem pS:∀{f:List bL} {as:List Addr} {x:List Nat},x∉bG f->L2.dG (mR f as) (Sum.inr (aH x))=none
 |[],as,x,_=>by cases as<;>rfl
 |p::f,[],x,_=>rfl
 |p::f,a::as,x,h=>by
  have h1:¬(Sum.inr (aH p.1):L2.Key)=Sum.inr (aH x):=λe=>h (by
   have:=nX (Sum.inr.inj e)
   rw[<-this]
   exact mem_cons_self)
  show L2.dG ((Sum.inr (aH p.1),L2.V.ref a)::mR f as) _=none;rw[L2.fX h1];exact pS λz=>h (mem_cons_of_mem _ z)
theorem nZ:∀{f:List bL} {as:List Addr} {i:Nat} {p:bL} {a:Addr},(bG f).Nodup->f[i]?=some p->as[i]?=some a->L2.dG (mR f as) (Sum.inr (aH p.1))=some (.ref a)
 |[],as,i,p,a,_,h,_=>by simp at h
 |q::f,[],i,p,a,_,_,h=>by simp at h
 |q::f,b::as,0,p,a,_,h1,h2=>by
  cases h1;cases h2;exact L2.hZ rfl
 |q::f,b::as,i+1,p,a,nd,h1,h2=>by
  have nd':(q.1::bG f).Nodup:=nd;obtain ⟨n1,n2⟩:=nodup_cons.mp nd';have hm:p.1∈bG f:=mem_map.mpr ⟨p,mem_of_getElem? (by simpa using h1),rfl⟩;have ne:¬(Sum.inr (aH q.1):L2.Key)=Sum.inr (aH p.1):=λe=>n1 (by
   have:=nX (Sum.inr.inj e)
   rw[this]
   exact hm)
  show L2.dG ((Sum.inr (aH q.1),L2.V.ref b)::mR f as) _=_;rw[L2.fX ne];exact nZ n2 (by simpa using h1) (by simpa using h2)
theorem SS {f:List bL} {as:List Addr} {x:List Nat} {v:L2.V} (h:x∉bG f):L2.putK (mR f as) (Sum.inr (aH x)) v=mR f as++[(Sum.inr (aH x),v)]:=by
 unfold L2.putK;rw[if_neg];rw[L2.jZ,pS h];simp
theorem SV {f:List bL} {as:List Addr} {p:bL} {a:Addr} (h:f.length=as.length):mR f as++[(Sum.inr (aH p.1),.ref a)]=mR (f++[p]) (as++[a]):=by
 unfold mR;rw[List.zipWith_append h];rfl
theorem vM {f:List bL} {as:List Addr} (h:f.length=as.length):(mR f as).length=f.length:=by
 unfold mR;rw[length_zipWith];lia
open PySem.Spec PyProof.Rows L2 L2.L3
theorem pA {z:Str} {n j:Nat} (h:n+j<=z.length):Txt.slice z (some ((n:Nat):Int)) (some ((n:Nat)+(j:Nat):Int))=aH (((ls z).drop n).take j):=by
 rw[show ((n:Nat):Int)+((j:Nat):Int)=(((n+j:Nat)):Int) by lia];refine cN ?_;rw[aO];have e:=beq_iff_eq.mp (slice_closes (x:=z) (i:=((n:Nat):Int)) (j:=(((n+j:Nat)):Int)) ⟨by lia,by lia,by rw[show z.cps.toList.length=z.length from aP z];lia⟩);rw[e];show ((ls z).drop ((n:Nat):Int).toNat).take ((((n+j:Nat)):Int) - ((n:Nat):Int)).toNat=_;rw[toNat_natCast,show ((((n+j:Nat)):Int) - ((n:Nat):Int)).toNat=j by lia]
section
variable {K:Fg}
noncomputable def cL (K:Fg):Sp:=λvs H Q _=>∃(a:Addr) (ws:List Str) (x:List Nat),vs=[.ref a,.str (aH x)]/\tX K H a ws/\Ru ws/\bI ws x/\1<=x.length/\x.length<=400/\
 ∀p H',aC H H'->H p=none->H' p=some (.lst ((bU ws x).map λy=>V.str (aH y)))->Q (.ref p) H'
noncomputable def cW (K:Fg):List (SX K):=
 [set 2 (call "put" (lM K) [var 0,var 1]),
  ret (comp (xA (var 1) (some (var 0)) (some (bin .Add (var 0) (len (var 2))))) (jA 0) (BZ (len (call "put" (lM K) [var 0,xA (var 1) none (some (cst (.int 1)))])) []) ["place"] ["made","piece"] [2,1])]
theorem fE {ws:List Str} (hU:Ru ws):∀{l:List Nat},(aI ws l).length<=100 * l.length
 |[]=>zero_le _
 |c::l=>by
  have ih:=fE hU (l:=l);have:(wd ws c).length<=100:=by
   unfold wd;cases e:ws[c - 97]? with
   |none=>exact zero_le _
   |some w=>
    have:=hU.le w (mem_of_getElem? e);rw[<-aP] at this;exact this
  rw[aL,length_append,length_cons];lia
theorem bF (x:List Nat):(aH x).length=x.length:=by rw[<-aP,aO]
theorem tB {ws:List Str} {x:List Nat} (h1:1<=x.length):img ws (Txt.slice (aH x) none (some 1))=aH (wd ws (x.headD 0)):=by
 rw[eR]
 congr 1
 show aI ws (Txt.slice (aH x) none (some 1)).cps.toList=_;rw[cR (by decide)];show aI ws ((ls (aH x)).take 1)=_;rw[aO];cases x with
 |nil=>simp at h1
 |cons c l=>
  show aI ws [c]=wd ws c;rw[aL];exact append_nil _
theorem kB:TT (cL K) (cW K) ["rule","piece","made"]:=by
 intro vs H Q E h;obtain ⟨a,ws,x,rfl,hR,hU,hx,h1,h4,q⟩:=h;have hW:eX ws.length (aH x):=hx.isW;have hil:=fE hU (l:=x);have hxl:=bF x;unfold cW;walk_at "";refine ⟨a,ws,aH x,rfl,hR,hU.le,hW,by lia,λH1 s1=>?_⟩;walk_at "";refine dQ (small (by lia)) ?_;walk_at "";refine ⟨a,ws,_,rfl,hR.same s1,hU.le,hW.to (by decide),by have:=lQ (aH x) none (some 1);lia,λH2 s2=>?_⟩;rw[tB h1];have hwl:(wd ws (x.headD 0)).length<=100:=by
  have:=fE hU (l:=[x.headD 0]);rw[aL] at this;simpa [aI] using this
 refine fO (small (by rw[bF];lia)) ?_;rw[bF];walk_at "";intro D hD;refine NV (λj=>V.str (aH (((aI ws x).drop j).take x.length))) hD (small (by lia)) (λj H3 Q' hj s3 fin=>?_) λH3 s3 hO=>?_
 ·rw[toNat_natCast] at hj;rw[show (0:Int)+((j:Nat):Int)=((j:Nat):Int) by lia];walk_at "";refine fO (small (by lia)) ?_;walk_at "";have pl:=cS hU hx h1 hj;rw[length_take,length_drop] at pl;refine dQ (small (by rw[eR,bF,aO];lia)) ?_;rw[eR,aO,hxl,pA (by rw[bF];lia),aO];exact fin H3 (aC.refl _)
 ·refine q D H3 ((s1.trans s2).trans s3) (none_of (s1.trans s2) hD) ?_;rw[hO,toNat_natCast];unfold bU;rw[map_map];rfl
end
end L2.Na
namespace L2.Na.Pr
open PySem PySem.Spec PyProof.Rows L2 L2.L3
section
variable {K:Fg}
structure WS (H:Hp) (d:Addr) (as:List Addr) (f:List bL):Prop where
 d:H d=some (.dK (mR f as))
 l:f.length=as.length
 v:∀(i:Nat) (a:Addr) (p:bL),as[i]?=some a->f[i]?=some p->H a=some (.lst (p.2.map V.int))
theorem WS.same {H H':Hp} {d:Addr} {as:List Addr} {f:List bL} (h:WS H d as f) (e:aC H H'):WS H' d as f:=⟨e _ _ h.d,h.l,λi a p x y=>e _ _ (h.v i a p x y)⟩
noncomputable def f0 (ws:List Str) (c L:Nat):List bL:=[(str ws c 0 L,replicate ws.length 0)]
noncomputable def aW (ws:List Str) (c L:Nat):List bL:=aJ ws (f0 ws c L) 300
noncomputable def cI (K:Fg):Sp:=λvs H Q E=>
 (∃(a:Addr) (ws:List Str) (c L:Nat),vs=[.ref a,sgn c,.int (L:Nat)]/\1<=L/\L<=400/\Pl K H a ws c ((0+L - 1:Nat):Int)/\
  ((aW ws c L).length<=300->∀d as H',aC H H'->H d=none->(∀a∈as,H a=none)->WS H' d as (aW ws c L)->Q (.ref d) H')/\(300<(aW ws c L).length->TG K 300 H E))\/
 ∃(a:Addr) (ws:List Str) (c L:Nat),vs=[.ref a,sgn c,.int (L:Nat)]/\1<=L/\Jv K H a ws c ((0+L - 1:Nat):Int) E
noncomputable def OP (K:Fg):List (SX K):=
 [rW (Fe (var 11) (var 5)) [rW (cmp .Eq (len (var 4)) (As "MOST_PIECES" (.int 300))) [BA "TooGreat" "self" "most" "most" (As "MOST_PIECES" (.int 300))] [],
         ex (gF (var 4) (var 11)),
     put (var 5) (var 11) (call "added" (oZ K) [var 9,call "counts" (lO K) [xA (var 8) none (some (var 10)),len (var 0)]])] []]
noncomputable def WO (K:Fg):List (SX K):=
 [set 7 (ix (var 4) (var 6)),
   set 8 (call "put" (lM K) [var 0,xA (var 7) none (some (cst (.int 1)))]),
   set 9 (call "counts_behind" (gB K) [var 0,ix (var 5) (var 7),cst (.int 1)]),
   mE (IT [10,11]) (WG (call "pieces_of_image" (cL K) [var 0,var 7])) (OP K),
   set 6 (bin .Add (var 6) (cst (.int 1)))]
noncomputable def cX (K:Fg):List (SX K):=
 [set 3 (call "stretch_at" (bO K) [var 0,var 1,cst (.int 0),var 2]),
  set 4 (lst [var 3]),
  set 5 (Ie (var 3) (bin .Mult (lst [cst (.int 0)]) (len (var 0)))),
  set 6 (cst (.int 0)),
  Cg (cmp .Lt (var 6) (len (var 4))) (WO K),
  ret (var 5)]
theorem pQ:∀vs H Q E,cI K vs H Q E->vs.length=3:=by
 rintro vs H Q E (⟨_,_,_,_,rfl,_⟩|⟨_,_,_,_,rfl,_⟩)<;>rfl
theorem Bc {ws:List Str} (h:Ru ws) {c:Nat} (h1:97<=c) (h2:c - 97<ws.length) (hg:aK ws c=true) (i:Nat):97<=ew ws c i/\ew ws c i - 97<ws.length:=by
 have li:i<(wk ws c i).length:=by
  have a:=cP h h1 h2 i;have b:=cH h h1 h2 hg i;lia
 exact fF h h1 h2 i _ (mem_of_getElem? (AL h h1 h2 hg li))
theorem dE {ws:List Str} (h:Ru ws) {c:Nat} (h1:97<=c) (h2:c - 97<ws.length) (hg:aK ws c=true) (n m:Nat):bI ws (str ws c n m):=λd hd=>by
 unfold str at hd;obtain ⟨i,_,rfl⟩:=mem_map.mp hd;exact Bc h h1 h2 hg _
theorem jM {ws:List Str} {c L:Nat} (hU:Ru ws) (h1:97<=c) (h2:c - 97<ws.length) (hg:aK ws c=true):sA ws L (f0 ws c L):=by
 refine ⟨nodup_cons.mpr ⟨by simp,List.nodup_nil⟩,λp hp=>?_⟩;have:p=(str ws c 0 L,replicate ws.length 0):=by simpa [f0] using hp
 subst this;exact ⟨str_len _ _ _ _,dE hU h1 h2 hg 0 L,length_replicate⟩
structure PJ (K:Fg) (H H1:Hp) (R d:Addr) (as:List Addr) (f:List bL):Prop where
 s:aC H H1
 r:H1 R=some (.lst ((bG f).map λy=>V.str (aH y)))
 dc:WS H1 d as f
 nw:∀a∈as,H a=none/\a≠R/\a≠d
 l:f.length<=300
theorem PJ.upd {H H1:Hp} {R d:Addr} {as:List Addr} {f:List bL} {b:Addr} {o:HO} (h:PJ K H H1 R d as f) (nb:H1 b=none):PJ K H (upd H1 b o) R d as f:=
 ⟨h.s.trans (aE nb _),aE nb _ _ _ h.r,h.dc.same (aE nb _),h.nw,h.l⟩
theorem sG {ps:List bL} {f:List bL} {j:Nat} {p:bL} (h:ps[j]?=some p):(ps.take (j+1)).foldl bE f=bE ((ps.take j).foldl bE f) p:=by
 rw[take_add_one,h,foldl_append];rfl
theorem wJ {ws:List Str} {x:bL} {j:Nat} (h:j<(wd ws (x.1.headD 0)).length):(chl ws x)[j]?=some (((aI ws x.1).drop j).take x.1.length,zipWith (·+·) (zX (rowsOf ws) x.2 1) (bJ ws.length (aH ((wd ws (x.1.headD 0)).take j)))):=by
 unfold chl;rw[getElem?_map,getElem?_range h];rfl
theorem EN {ws:List Str} {x:bL}:(chl ws x).length=(wd ws (x.1.headD 0)).length:=by
 unfold chl;rw[length_map,length_range]
theorem BS {f:List bL} {as:List Addr} {y:List Nat} (nd:(bG f).Nodup) (l:f.length=as.length):(dG (mR f as) (Sum.inr (aH y))).isSome=decide (y∈bG f):=by
 by_cases h:y∈bG f
 ·obtain ⟨p,hp,rfl⟩:=mem_map.mp h;obtain ⟨i,hi⟩:=getElem?_of_mem hp;have hl:i<as.length:=by have:=(List.getElem?_eq_some_iff.mp hi).1;lia
  rw[nZ nd hi (getElem?_eq_getElem hl),decide_eq_true h];rfl
 ·rw[pS h,decide_eq_false h];rfl
theorem Df {D:Ends} {E:XK} {H H1 H2:Hp} {a R d p b:Addr} {ws:List Str} {L j:Nat} {x:bL} {f:List bL} {as:List Addr} {v1 v2 v3 v6 v7:Option V} (hR:tX K H a ws) (hU:Ru ws) (hx:x.1.length=L/\bI ws x.1/\x.2.length=ws.length) (h1:1<=L) (h4:L<=400) (ok:sA ws L f) (nR:H R=none) (nd:H d=none) (Rd:R≠d)
  (I:PJ K H H2 R d as f) (hj:j<(wd ws (x.1.headD 0)).length) (hb:H2 b=some (.lst ((zX (rowsOf ws) x.2 1).map V.int))) (bR:b≠R) (bd:b≠d)
  (big:300<(bE f (((aI ws x.1).drop j).take x.1.length,zipWith (·+·) (zX (rowsOf ws) x.2 1) (bJ ws.length (aH ((wd ws (x.1.headD 0)).take j))))).length->TG K 300 H E)
  (q:∀as' H3,(∀c o,c≠R->c≠d->H2 c=some o->H3 c=some o)->PJ K H H3 R d as' (bE f (((aI ws x.1).drop j).take x.1.length,zipWith (·+·) (zX (rowsOf ws) x.2 1) (bJ ws.length (aH ((wd ws (x.1.headD 0)).take j)))))->D.nx [some (.ref a),v1,v2,v3,some (.ref R),some (.ref d),v6,v7,some (.str (aH (wd ws (x.1.headD 0)))),some (.ref b),some (.int (j:Nat)),some (.str (aH (((aI ws x.1).drop j).take x.1.length)))] H3):
  lJ (OP K) (λ_=>E) D [some (.ref a),v1,v2,v3,some (.ref R),some (.ref d),v6,v7,some (.str (aH (wd ws (x.1.headD 0)))),some (.ref b),some (.int (j:Nat)),some (.str (aH (((aI ws x.1).drop j).take x.1.length)))] H2:=by
 have h4w:=hU.four;obtain ⟨y,hy⟩:∃y,y=((aI ws x.1).drop j).take x.1.length:=⟨_,rfl⟩;obtain ⟨cs,hcs⟩:∃cs,cs=zipWith (·+·) (zX (rowsOf ws) x.2 1) (bJ ws.length (aH ((wd ws (x.1.headD 0)).take j))):=⟨_,rfl⟩;rw[<-hy,<-hcs] at big q;rw[<-hy];have hwl:(wd ws (x.1.headD 0)).length<=100:=by
  have:=fE hU (l:=[x.1.headD 0]);rw[aL] at this;simpa [aI] using this
 unfold OP;walk_at "";refine ZV ?_;walk_at "";refine ⟨d,_,rfl,eY.k (k:=Sum.inr (aH y)) I.dc.d,_,rfl,?_⟩;rw[BS ok.nd I.dc.l];by_cases hm:y∈bG f
 ·rw[decide_eq_true hm];refine AG ?_;walk_at "";have e:bE f (y,cs)=f:=if_pos hm;rw[e] at q;exact q as H2 (λc o _ _ e=>e) I
 ·rw[decide_eq_false hm];refine PL ?_;have e:bE f (y,cs)=f++[(y,cs)]:=if_neg hm;rw[e] at q big;have hRl:aR K H2 R ((bG f).map λy=>V.str (aH y)):=aR.of I.r;have hlen:((bG f).map λy=>V.str (aH y)).length=f.length:=by rw[length_map,fB]
  walk_at "";rw[hlen];refine jI (λc=>?_) λc=>?_
  ·walk_at "";refine zH ?_;walk_at "";intro dx ndx;exact big (by rw[length_append];simp;lia) _ dx (I.s.trans (aE ndx _)) aA
  ·have fl:f.length<300:=by have:=I.l;lia
   walk_at "";refine HB hRl ?_;walk_at "";refine eE I.r (Nat.lt_of_lt_of_le (show _<5000 by rw[hlen];lia) (small (by decide))) ?_;walk_at "";refine Gn ?_;have k3:∀c o,c≠R->H2 c=some o->(upd H2 R (.lst (((bG f).map λy=>V.str (aH y))++[V.str (aH y)]))) c=some o:=λc o hc e=>by rw[aF hc];exact e
   have S3:aC H (upd H2 R (.lst (((bG f).map λy=>V.str (aH y))++[V.str (aH y)]))):=gD I.s nR;have r3:(upd H2 R (.lst (((bG f).map λy=>V.str (aH y))++[V.str (aH y)]))) R=some (.lst ((bG (f++[(y,cs)])).map λy=>V.str (aH y))):=by
    rw[aA,fC,map_append];rfl
   revert k3 S3 r3;generalize upd H2 R (.lst (((bG f).map λy=>V.str (aH y))++[V.str (aH y)]))=H3;intro k3 S3 r3;walk_at "";have wl:(aH (wd ws (x.1.headD 0))).length=(wd ws (x.1.headD 0)).length:=bF _;refine dQ (small (by lia)) ?_;have htp3:=(hR.same S3).tp;walk_at "";refine ⟨_,_,rfl,by lia,by rw[length_map];lia,λr H4 s4 nr hr=>?_⟩;rw[length_map,toNat_natCast] at hr;have esl:Txt.slice (aH (wd ws (x.1.headD 0))) none (some ((j:Nat):Int))=aH ((wd ws (x.1.headD 0)).take j):=by
    refine cN ?_;show (Txt.slice (aH (wd ws (x.1.headD 0))) none (some ((j:Nat):Int))).cps.toList=_;rw[cR (by lia),toNat_natCast,aO];show (ls (aH (wd ws (x.1.headD 0)))).take j=_;rw[aO]
   rw[esl] at hr;walk_at "";refine ⟨b,r,_,_,rfl,s4 _ _ (k3 _ _ bR hb),hr,by rw[wL hx.2.2];lia,λt H5 s5 nt ht=>?_⟩;rw[<-hcs] at ht;walk_at "";have s45:=s4.trans s5;have hd5:H5 d=some (.dK (mR f as)):=s45 _ _ (k3 _ _ Rd.symm I.dc.d);refine .inr ⟨d,_,rfl,PH.k (k:=Sum.inr (aH y)) hd5 (by rw[vM I.dc.l];exact Nat.lt_of_lt_of_le fl (small (by decide))),?_⟩;rw[SS hm,SV (p:=(y,cs)) I.dc.l];walk_at "";have tR:t≠R:=(aB (s4 _ _ r3) nt).symm;have td:t≠d:=(aB (s4 _ _ (k3 _ _ Rd.symm I.dc.d)) nt).symm;have nt0:H t=none:=none_of (S3.trans s4) nt;refine q (as++[t]) _ (λc o c1 c2 e=>by rw[aF c2];exact s45 _ _ (k3 _ _ c1 e)) ⟨gD (S3.trans s45) nd,?_,⟨aA,by rw[length_append,length_append,I.dc.l];rfl,λi a' p' g1 g2=>?_⟩,λa' ha'=>?_,by rw[length_append];simp;lia⟩
   ·rw[aF Rd];exact s45 _ _ r3
   ·by_cases hi:i<as.length
    ·rw[getElem?_append_left hi] at g1;rw[getElem?_append_left (by have:=I.dc.l;lia)] at g2;obtain ⟨_,n2,n3⟩:=I.nw a' (mem_of_getElem? g1);rw[aF n3];exact s45 _ _ (k3 _ _ n2 (I.dc.v i a' p' g1 g2))
    ·rw[getElem?_append_right (by lia)] at g1;rw[getElem?_append_right (by have:=I.dc.l;lia)] at g2;have e1:a'=t:=by
      have:=mem_of_getElem? g1;simpa using this
     have e2:p'=(y,cs):=by
      have:=mem_of_getElem? g2;simpa using this
     subst e1 e2;rw[aF td];exact ht
   ·rcases mem_append.mp ha' with h|h
    ·exact I.nw a' h
    ·have:a'=t:=by simpa using h
     subst this;exact ⟨nt0,tR,td⟩
theorem gA {ws:List Str} {f:List bL} {i:Nat} {x:bL} (h:(aJ ws f i)[i]?=some x):aJ ws f (i+1)=(chl ws x).foldl bE (aJ ws f i):=by
 show (match (aJ ws f i)[i]? with|some x=>(chl ws x).foldl bE (aJ ws f i)|none=>aJ ws f i)=_;rw[h]
theorem PX (ps f:List bL) (j:Nat):((ps.take j).foldl bE f).length<=(ps.foldl bE f).length:=by
 have e:ps.foldl bE f=(ps.drop j).foldl bE ((ps.take j).foldl bE f):=by rw[<-foldl_append,take_append_drop]
 obtain ⟨t,g⟩:=lF (ps.drop j) ((ps.take j).foldl bE f);rw[e,g,length_append];lia
theorem oN:TT (cI K) (cX K) ["rule","start","length","first","found","ahead","done","piece","word","base","place","met"]:=by
 intro vs H Q E h;rcases h with ⟨a,ws,c,L,rfl,h1,hL4,hP,q,tg⟩|⟨a,ws,c,L,rfl,h1,hB⟩
 ·have hU:=hP.ru;have hR:=hP.rt;have h4:=hU.four;have p1:=hU.pos;have ok0:sA ws L (f0 ws c L):=jM hU hP.c1 hP.c2 hP.gr;have okA:=λi=>cQ hU h1 ok0 i;unfold cX;walk_at "";refine .inl ⟨a,ws,c,0,L,rfl,hP,h1,by lia,λH1 s1=>?_⟩;walk_at "";refine ⟨by show 1<=sizeLine;decide,λR nR=>?_⟩;have s2:=aE nR (.lst [V.str (aH (str ws c 0 L))]);walk_at "";refine Am λd nd=>?_;have s3:=aE nd (.dK []);walk_at "";refine ⟨by show 1<=sizeLine;decide,λz nz=>?_⟩;have s4:=aE nz (.lst [V.int 0]);have hS4:=((s1.trans s2).trans s3).trans s4;have htp:=(hR.same hS4).tp;walk_at "";rw[length_map];refine DY (xs:=[V.int 0]) aA ⟨by lia,by lia⟩ (small (by show 1 * _<=_;lia)) λu nu=>?_;rw[toNat_natCast];have er:(replicate ws.length [V.int 0]).flatten=(replicate ws.length (0:Int)).map V.int:=by
   rw[List.map_replicate];induction ws.length with
   |zero=>rfl
   |succ n ih=>rw[replicate_succ,replicate_succ,flatten_cons,ih];rfl
  rw[er];have s5:=aE nu (.lst ((replicate ws.length (0:Int)).map V.int));refine UA (k:=Sum.inr (aH (str ws c 0 L))) (s5 _ _ (s4 _ _ aA)) ?_;have nR0:H R=none:=none_of s1 nR;have nd0:H d=none:=none_of (s1.trans s2) nd;have Rd:R≠d:=aB aA nd;have uR:u≠R:=(aB (s4 _ _ (s3 _ _ aA)) nu).symm;have ud:u≠d:=(aB (s4 _ _ aA) nu).symm;have nu0:H u=none:=none_of hS4 nu;have I0:PJ K H (upd (upd (upd (upd (upd H1 R (.lst [V.str (aH (str ws c 0 L))])) d (.dK [])) z (.lst [V.int 0])) u (.lst ((replicate ws.length (0:Int)).map V.int))) d (.dK [(Sum.inr (aH (str ws c 0 L)),V.ref u)])) R d [u] (f0 ws c L):=by
   refine ⟨gD (hS4.trans s5) nd0,?_,⟨aA,rfl,λi a' p' g1 g2=>?_⟩,λa' ha'=>?_,by show 1<=300;decide⟩
   ·rw[aF Rd];exact s5 _ _ (s4 _ _ (s3 _ _ aA))
   ·match i,g1,g2 with
    |0,g1,g2=>
     cases g1;cases g2;rw[aF ud];exact aA
    |i+1,g1,g2=>simp at g1
   ·have:a'=u:=by simpa using ha'
    subst this;exact ⟨nu0,uR,ud⟩
  revert I0;generalize upd (upd (upd (upd (upd H1 R (.lst [V.str (aH (str ws c 0 L))])) d (.dK [])) z (.lst [V.int 0])) u (.lst ((replicate ws.length (0:Int)).map V.int))) d (.dK [(Sum.inr (aH (str ws c 0 L)),V.ref u)])=H5;intro I0;walk_at "";refine kT (λm σ H2=>∃(i:Nat) (as:List Addr) (b7 b8 b9 b10 b11:Option V),σ=[some (.ref a),some (sgn c),some (.int (L:Nat)),some (.str (aH (str ws c 0 L))),some (.ref R),some (.ref d),some (.int (i:Nat)),b7,b8,b9,b10,b11]/\m=300 - i/\i<=(aJ ws (f0 ws c L) i).length/\PJ K H H2 R d as (aJ ws (f0 ws c L) i)) (m:=300) ⟨0,[u],none,none,none,none,none,rfl,rfl,zero_le _,I0⟩ ?_;rintro m σ H2 ⟨i,as,b7,b8,b9,b10,b11,rfl,rfl,hi,I⟩;have hRl:aR K H2 R ((bG (aJ ws (f0 ws c L) i)).map λy=>V.str (aH y)):=aR.of I.r;have hlen:((bG (aJ ws (f0 ws c L) i)).map λy=>V.str (aH y)).length=(aJ ws (f0 ws c L) i).length:=by rw[length_map,fB]
  walk_at "";rw[hlen];have Il:=I.l;refine jI (λcc=>?_) λcc=>?_
  ·have hil:i<(aJ ws (f0 ws c L) i).length:=by lia
   obtain ⟨x,hx⟩:∃x,(aJ ws (f0 ws c L) i)[i]?=some x:=⟨_,getElem?_eq_getElem hil⟩;have okx:=(okA i).ok x (mem_of_getElem? hx);obtain ⟨ax,hax⟩:∃ax,as[i]?=some ax:=⟨_,getElem?_eq_getElem (by have:=I.dc.l;lia)⟩;have hxl:=bF x.1;have hwl:(wd ws (x.1.headD 0)).length<=100:=by
    have:=fE hU (l:=[x.1.headD 0]);rw[aL] at this;simpa [aI] using this
   refine xE ?_;unfold WO;walk_at "";refine qG (v:=.str (aH x.1)) hRl (gU (by unfold bG;rw[getElem?_map,getElem?_map,hx];rfl)) ?_;walk_at "";refine dQ (small (by lia)) ?_;walk_at "";refine ⟨a,ws,_,rfl,hR.same I.s,hU.le,okx.2.1.isW.to (by decide),by have:=lQ (aH x.1) none (some 1);lia,λH3 s3=>?_⟩;rw[tB (by lia)];have I3:PJ K H H3 R d as (aJ ws (f0 ws c L) i):=⟨I.s.trans s3,s3 _ _ I.r,I.dc.same s3,I.nw,I.l⟩;walk_at "";refine iK (v:=.ref ax) (by
    have:=eY.k (k:=Sum.inr (aH x.1)) I3.dc.d
    rw[nZ (okA i).nd hx hax] at this
    exact this) ?_
   walk_at "";refine ⟨a,ax,ws,_,1,rfl,hR.same I3.s,I3.dc.v i ax x hax hx,okx.2.2,λw hw=>by have:=hU.le w hw;lia,by decide,by decide,λb H4 s4 nb hb=>?_⟩;have I4:PJ K H H4 R d as (aJ ws (f0 ws c L) i):=⟨I3.s.trans s4,s4 _ _ I3.r,I3.dc.same s4,I3.nw,I3.l⟩;have bR:b≠R:=(aB I3.r nb).symm;have bd:b≠d:=(aB I3.dc.d nb).symm;replace hb:H4 b=some (.lst ((zX (rowsOf ws) x.2 1).map V.int)):=hb;walk_at "";refine Ak ?_;walk_at "";refine ⟨a,ws,x.1,rfl,hR.same I4.s,hU,okx.2.1,by lia,by lia,λp H5 s5' np hp=>?_⟩;have I5:PJ K H H5 R d as (aJ ws (f0 ws c L) i):=⟨I4.s.trans s5',s5' _ _ I4.r,I4.dc.same s5',I4.nw,I4.l⟩;have pR:p≠R:=(aB I4.r np).symm;have pd:p≠d:=(aB I4.dc.d np).symm;walk_at "";refine TZ hp ?_;have hpl:((bU ws x.1).map λy=>V.str (aH y)).length=(wd ws (x.1.headD 0)).length:=by unfold bU;rw[length_map,length_map,length_range]
   have i300:i+1<=300:=by lia
   refine GQ (xs:=(bU ws x.1).map λy=>V.str (aH y)) (λj σ H6=>∃(as':List Addr) (b10 b11:Option V),σ=[some (.ref a),some (sgn c),some (.int (L:Nat)),some (.str (aH (str ws c 0 L))),some (.ref R),some (.ref d),some (.int (i:Nat)),some (.str (aH x.1)),some (.str (aH (wd ws (x.1.headD 0)))),some (.ref b),b10,b11]/\(∀e o,e≠R->e≠d->H5 e=some o->H6 e=some o)/\PJ K H H6 R d as' (((chl ws x).take j).foldl bE (aJ ws (f0 ws c L) i)))
    ⟨as,b10,b11,rfl,λe o _ _ g=>g,I5⟩ (λj σ6 H6 ⟨_,_,_,_,kp,_⟩=>kp _ _ pR pd hp) (λj σ6 H6 e o ⟨as',c10,c11,g,kp,J⟩ ne=>⟨as',c10,c11,g,λe' o' n1 n2 g'=>by rw[aF (aB (kp e' o' n1 n2 g') ne)];exact kp e' o' n1 n2 g',J.upd ne⟩) (λj y σ6 H6 hy hP6=>?_) λσ6 H6 hP6=>?_
   ·obtain ⟨as',c10,c11,rfl,kp,J⟩:=hP6;have hj:j<(wd ws (x.1.headD 0)).length:=by have:=(List.getElem?_eq_some_iff.mp hy).1;lia
    have hyv:y=V.str (aH (((aI ws x.1).drop j).take x.1.length)):=by
     unfold bU at hy;rw[getElem?_map,getElem?_map,getElem?_range hj] at hy;exact (Option.some.inj hy).symm
    subst hyv;have ef:=sG (f:=aJ ws (f0 ws c L) i) (wJ hj);refine Df (H1:=H5) (p:=p) hR hU okx h1 hL4 (wX (okA i) λp hp=>OA hU h1 okx p (mem_of_mem_take hp)) nR0 nd0 Rd J hj (kp _ _ bR bd (s5' _ _ hb)) bR bd (λhbig=>tg ?_) λas2 H7 k7 J7=>?_
    ·rw[<-ef] at hbig;have l1:=PX (chl ws x) (aJ ws (f0 ws c L) i) (j+1);rw[<-gA hx] at l1;have l2:=DD ws (f0 ws c L) i300;show 300<(aJ ws (f0 ws c L) 300).length;lia
    ·refine ⟨as2,_,_,rfl,λe o n1 n2 g=>k7 e o n1 n2 (kp e o n1 n2 g),?_⟩;rw[ef];exact J7
   ·obtain ⟨as',c10,c11,rfl,kp,J⟩:=hP6;rw[hpl,<-EN,take_of_length_le (Nat.le_refl _),<-gA hx] at J;walk_at "";refine ⟨300 - (i+1),by lia,i+1,as',some (.str (aH x.1)),some (.str (aH (wd ws (x.1.headD 0)))),some (.ref b),c10,c11,?_,rfl,?_,J⟩
    ·rw[show ((i:Nat):Int)+1=((i+1:Nat):Int) by lia];rfl
    ·have:=DD ws (f0 ws c L) (show i<=i+1 by lia);lia
  ·walk_at "";have hie:(aJ ws (f0 ws c L) i).length<=i:=by lia
   have eA:aW ws c L=aJ ws (f0 ws c L) i:=by
    have:=iC ws (f0 ws c L) hie (300 - i);rw[show i+(300 - i)=300 by lia] at this;exact this
   rw[eA] at q;exact q Il d as H2 I.s nd0 (λa' ha'=>(I.nw a' ha').1) I.dc
 ·unfold cX;walk_at "";exact .inr ⟨a,ws,c,0,L,rfl,h1,hB⟩
end
end L2.Na.Pr
namespace L2.Na
open PySem L2.Na.K41
noncomputable def bA (ws:List Str):Nat->List Nat->List Nat
 |0,l=>l
 |k+1,l=>bA ws k (aI ws l)
theorem cE (ws:List Str):∀(k:Nat) (a b:List Nat),bA ws k (a++b)=bA ws k a++bA ws k b
 |0,_,_=>rfl
 |k+1,a,b=>by
  show bA ws k (aI ws (a++b))=bA ws k (aI ws a)++bA ws k (aI ws b);rw[cU,cE ws k]
theorem qA (ws:List Str):∀k,bA ws k []=[]
 |0=>rfl
 |k+1=>qA ws k
theorem zF {ws:List Str} (hU:Ru ws):∀(k:Nat) {l:List Nat},bI ws l->bI ws (bA ws k l)
 |0,_,h=>h
 |k+1,_,h=>zF hU k (h.img hU)
theorem vU {ws:List Str} (hU:Ru ws):∀(k:Nat) {l:List Nat},bI ws l->l.length<=(bA ws k l).length
 |0,_,_=>Nat.le_refl _
 |k+1,l,h=>le_trans (vV hU h) (vU hU k (h.img hU))
theorem sV (ws:List Str):∀(k:Nat) (l:List Nat),bA ws (k+1) l=aI ws (bA ws k l)
 |0,_=>rfl
 |k+1,l=>sV ws k (aI ws l)
noncomputable def CV (ws:List Str):Nat->List Nat->List Nat->Prop
 |0,x,y=>x=y
 |k+1,x,y=>∃z,z∈bU ws x/\CV ws k z y
theorem CV.add {ws:List Str}:∀{a b:Nat} {x y z:List Nat},CV ws a x y->CV ws b y z->CV ws (a+b) x z
 |0,b,x,y,z,h,g=>by have e:x=y:=h;subst e;rw[zero_add];exact g
 |a+1,b,x,y,z,⟨u,h1,h2⟩,g=>by rw[show a+1+b=(a+b)+1 by lia];exact ⟨u,h1,CV.add h2 g⟩
theorem uC {α:Type} {a b:List α} {n q L:Nat} (h:b=a.take n) (hl:q+L<=b.length):(b.drop q).take L=(a.drop q).take L:=by
 subst h;rw[length_take] at hl;refine ext_getElem? λi=>?_;rw[getElem?_take,getElem?_take];by_cases hi:i<L
 ·rw[if_pos hi,if_pos hi,getElem?_drop,getElem?_drop,getElem?_take,if_pos (by lia)]
 ·rw[if_neg hi,if_neg hi]
theorem uY {α:Type} {a b t:List α} {q L:Nat} (h:a=b++t) (hl:q+L<=b.length):(b.drop q).take L=(a.drop q).take L:=
 uC (n:=b.length) (by rw[h,List.take_left'];rfl) hl
theorem CK {ws:List Str} (hU:Ru ws) {L:Nat} (hL:1<=L):∀(t:Nat) (c:Nat) (l:List Nat) (q:Nat),bI ws (c::l)->(c::l).length=L->q<(bA ws t [c]).length->CV ws t (c::l) (((bA ws t (c::l)).drop q).take L)
 |0,c,l,q,hx,hl,hq=>by
  have e:q=0:=by
   have:q<1:=hq;lia
  subst e;show c::l=((c::l).drop 0).take L;rw[drop_zero,take_of_length_le (by lia)]
 |t+1,c,l,q,hx,hl,hq=>by
  have hc:bI ws [c]:=λd hd=>hx d (by simp at hd;simp [hd]);have hw:bI ws (wd ws c):=by
   have:=hc.img hU;rw[aL] at this;simpa [aI] using this
  have e1:aI ws [c]=wd ws c:=by rw[aL];simp [aI]
  have key:∀(v:List Nat) (q:Nat),bI ws v->q<(bA ws t v).length->∃j d q',v[j]?=some d/\q'<(bA ws t [d]).length/\q=(bA ws t (v.take j)).length+q':=by
   intro v;induction v with
   |nil=>
    intro q _ h;rw[qA] at h;simp at h
   |cons d v ih=>
    intro q hv h;by_cases h1:q<(bA ws t [d]).length
    ·refine ⟨0,d,q,rfl,h1,?_⟩;simp [qA]
    ·have e:bA ws t (d::v)=bA ws t [d]++bA ws t v:=cE ws t [d] v;rw[e,length_append] at h;obtain ⟨j,d',q',g1,g2,g3⟩:=ih (q - (bA ws t [d]).length) (λz hz=>hv z (by simp [hz])) (by lia);refine ⟨j+1,d',q',by simpa using g1,g2,?_⟩;have e2:bA ws t ((d::v).take (j+1))=bA ws t [d]++bA ws t (v.take j):=cE ws t [d] (v.take j);rw[e2,length_append];lia
  have hq':q<(bA ws t (wd ws c)).length:=by rw[<-e1];exact hq
  obtain ⟨j,d,q',g1,g2,g3⟩:=key (wd ws c) q hw hq';have hj:j<(wd ws c).length:=(List.getElem?_eq_some_iff.mp g1).1;obtain ⟨x',hx'⟩:∃x',x'=((aI ws (c::l)).drop j).take (c::l).length:=⟨_,rfl⟩;have pl:=cS hU (x:=c::l) hx (by lia) (j:=j) hj;rw[<-hx'] at pl;have hxl:bI ws x':=λz hz=>by
   rw[hx'] at hz;exact hx.img hU z (mem_of_mem_drop (mem_of_mem_take hz))
  have hd0:x'[0]?=some d:=by
   rw[hx',getElem?_take,if_pos (by lia),getElem?_drop,Nat.add_zero,aL,getElem?_append_left hj];exact g1
  obtain ⟨l',rfl⟩:∃l',x'=d::l':=by
   cases x' with
   |nil=>simp at hd0
   |cons a l'=>
    have:a=d:=by simpa using hd0
    exact ⟨l',by rw[this]⟩
  have hlen:(d::l').length=L:=by rw[pl];exact hl
  have ih:=CK hU hL t d l' q' hxl hlen g2;refine ⟨d::l',mem_map.mpr ⟨j,mem_range.mpr hj,hx'.symm⟩,?_⟩;have e3:((bA ws t (d::l')).drop q').take L=((bA ws (t+1) (c::l)).drop q).take L:=by
   obtain ⟨rest,a1⟩:∃rest,(aI ws (c::l)).drop j=(d::l')++rest:=⟨((aI ws (c::l)).drop j).drop (c::l).length,by rw[hx',take_append_drop]⟩;have a2:aI ws (c::l)=(wd ws c).take j++((d::l')++rest):=by
    rw[<-a1,aL,List.drop_append_of_le_length (by lia),<-List.append_assoc,take_append_drop]
   have a3:bA ws (t+1) (c::l)=bA ws t ((wd ws c).take j)++(bA ws t (d::l')++bA ws t rest):=by
    show bA ws t (aI ws (c::l))=_;rw[a2,cE,cE]
   rw[a3,g3,<-List.drop_drop,List.drop_left];refine uY rfl ?_;have b1:bA ws t (d::l')=bA ws t [d]++bA ws t l':=cE ws t [d] l';have b2:=vU hU t (l:=l') λz hz=>hxl z (by simp [hz]);rw[b1,length_append];have:l'.length+1=L:=by simpa using hlen
   lia
  rw[<-e3];exact ih
theorem JS {ws:List Str} (hU:Ru ws):∀{k i j:Nat},i<ws.length->Mx.rF (Rw ws) k i j->97+j∈bA ws k [97+i]
 |0,i,j,_,h=>by
  have e:i=j:=h;subst e;exact mem_cons_self
 |k+1,i,j,hi,⟨m,h1,h2⟩=>by
  have hm:=OY hU h1;have ih:=JS hU hm h2;obtain ⟨w,hw,hin⟩:=h1;show 97+j∈bA ws k (aI ws [97+i]);have e1:aI ws [97+i]=ls w:=by
   rw[aL];show wd ws (97+i)++[]=_;rw[append_nil];unfold wd;rw[show 97+i - 97=i by lia,hw];rfl
  rw[e1];obtain ⟨a,b,hab⟩:=List.append_of_mem hin;rw[hab,cE];refine mem_append_right _ ?_;have:bA ws k ((97+m)::b)=bA ws k [97+m]++bA ws k b:=cE ws k [97+m] b;rw[this];exact mem_append_left _ ih
theorem vT (ws:List Str) (c:Nat):∀k,bA ws k [c]=wk ws c k
 |0=>rfl
 |k+1=>by rw[sV,vT ws c k];rfl
theorem HQ {ws:List Str} (hU:Ru ws) {c L:Nat} (hL:1<=L) (h1:97<=c) (h2:c - 97<ws.length) (hg:aK ws c=true) {l:List Nat} (hx:bI ws (c::l)) (hl:(c::l).length=L):CV ws L (c::l) (str ws c 0 L):=by
 have a:=cP hU h1 h2 L;have b:=cH hU h1 h2 hg L;have hlen:L<=(wk ws c L).length:=by lia
 have h:=CK hU hL L c l 0 hx hl (by rw[vT];lia);have e:bA ws L (c::l)=wk ws c L++bA ws L l:=by rw[<-vT];exact cE ws L [c] l
 rw[e,<-uY (b:=wk ws c L) rfl (by lia),fG hU h1 h2 hg (by lia)] at h;exact h
theorem UO {ws:List Str} (hU:Ru ws) (hm:LJ ws=true) {c L:Nat} (hL:1<=L) (h1:97<=c) (h2:c - 97<ws.length) (hg:aK ws c=true) {x:List Nat} (hx:bI ws x) (hl:x.length=L):CV ws (10+L) x (str ws c 0 L):=by
 cases x with
 |nil=>simp at hl;lia
 |cons a l=>
  have ha:=hx a (by simp);have hF:Mx.Full (Rw ws) ws.length 10:=(EB hU).mp λi hi=>by
   unfold LJ at hm;exact of_decide_eq_true (all_eq_true.mp hm i (mem_range.mpr hi))
  have hin:=JS hU ha.2 (hF (a - 97) (c - 97) ha.2 h2);rw[show 97+(a - 97)=a by lia,show 97+(c - 97)=c by lia] at hin;obtain ⟨q,hq,he⟩:=List.mem_iff_getElem.mp hin;have hc:=CK hU hL 10 a l q hx hl hq;have hxk:bI ws (bA ws 10 (a::l)):=zF hU 10 hx;have e1:bA ws 10 (a::l)=bA ws 10 [a]++bA ws 10 l:=cE ws 10 [a] l;have hge:=vU hU 10 (l:=l) λz hz=>hx z (by simp [hz]);have hl1:l.length+1=L:=by simpa using hl
  obtain ⟨y,hy⟩:∃y,y=((bA ws 10 (a::l)).drop q).take L:=⟨_,rfl⟩;rw[<-hy] at hc;have yl:y.length=L:=by
   rw[hy,length_take,length_drop,e1,length_append];lia
  have y0:y[0]?=some c:=by
   rw[hy,getElem?_take,if_pos (by lia),getElem?_drop,Nat.add_zero,e1,getElem?_append_left hq,getElem?_eq_getElem hq,he]
  have yL:bI ws y:=λz hz=>by
   rw[hy] at hz;exact hxk z (mem_of_mem_drop (mem_of_mem_take hz))
  cases y with
  |nil=>simp at y0
  |cons b l2=>
   have:b=c:=by simpa using y0
   subst this;exact CV.add hc (HQ hU hL h1 h2 hg yL yl)
end L2.Na
namespace L2.Na.Pr
open PySem L2.Na.K41
theorem rC:∀{ps f:List bL} {p:bL},p∈ps->p.1∈bG (ps.foldl bE f)
 |[],f,p,h=>by cases h
 |q::ps,f,p,h=>by
  rw[foldl_cons];rcases mem_cons.mp h with rfl|h
  ·obtain ⟨t,e⟩:=lF ps (bE f p);rw[e,fC];refine mem_append_left _ ?_;rw[AA];unfold UW;split
   ·assumption
   ·exact mem_append_right _ mem_cons_self
  ·exact rC h
theorem mH:∀{ps f:List bL} {y:List Nat},y∈bG (ps.foldl bE f)->y∈bG f\/y∈bG ps
 |[],f,y,h=>.inl h
 |q::ps,f,y,h=>by
  rw[foldl_cons] at h;rcases mH h with h|h
  ·rw[AA] at h;unfold UW at h;split at h
   ·exact .inl h
   ·rcases mem_append.mp h with h|h
    ·exact .inl h
    ·exact .inr (by rw[mem_singleton.mp h];exact mem_cons_self)
  ·exact .inr (mem_cons_of_mem _ h)
theorem kD {ws:List Str} {f0:List bL} {i k:Nat} (h:i<=k) {y:List Nat} (hy:y∈bG (aJ ws f0 i)):y∈bG (aJ ws f0 k):=by
 obtain ⟨t,e⟩:=eD ws f0 i (k - i);rw[show i+(k - i)=k by lia] at e;rw[e,fC];exact mem_append_left _ hy
theorem oR {ws:List Str} {f0:List bL} {P:List Nat->Prop} (h0:∀x∈bG f0,P x) (hs:∀x,P x->∀y∈bU ws x,P y):∀(i:Nat) (x:List Nat),x∈bG (aJ ws f0 i)->P x
 |0,x,h=>h0 x h
 |i+1,x,h=>by
  have ih:=oR h0 hs i;change x∈bG (match (aJ ws f0 i)[i]? with|some x=>(chl ws x).foldl bE (aJ ws f0 i)|none=>aJ ws f0 i) at h;cases e:(aJ ws f0 i)[i]? with
  |none=>rw[e] at h;exact ih x h
  |some z=>
   rw[e] at h;rcases mH h with h|h
   ·exact ih x h
   ·rw[oC] at h;exact hs z.1 (ih z.1 (mem_map.mpr ⟨z,mem_of_getElem? e,rfl⟩)) x h
section
variable {ws:List Str} {c L:Nat}
theorem dD (h:(aW ws c L).length<=300) {x y:List Nat} (hx:x∈bG (aW ws c L)) (hy:y∈bU ws x):y∈bG (aW ws c L):=by
 obtain ⟨p,hp,rfl⟩:=mem_map.mp hx;obtain ⟨i,hi⟩:=getElem?_of_mem hp;have il:i<(aW ws c L).length:=(List.getElem?_eq_some_iff.mp hi).1;have hil:i<(aJ ws (f0 ws c L) i).length:=lt_of_not_le λhn=>by
  have e:=iC ws (f0 ws c L) hn (300 - i);rw[show i+(300 - i)=300 by lia] at e;have:(aW ws c L).length<=i:=by
   show (aJ ws (f0 ws c L) 300).length<=i;rw[e];exact hn
  lia
 obtain ⟨t,e⟩:=eD ws (f0 ws c L) i (300 - i);rw[show i+(300 - i)=300 by lia] at e;have hp':(aJ ws (f0 ws c L) i)[i]?=some p:=by
  have:(aJ ws (f0 ws c L) 300)[i]?=some p:=hi;rw[e,getElem?_append_left hil] at this;exact this
 have h1:y∈bG (aJ ws (f0 ws c L) (i+1)):=by
  rw[gA hp'];rw[<-oC] at hy;obtain ⟨q,hq,rfl⟩:=mem_map.mp hy;exact rC hq
 exact kD (by lia) h1
theorem tS:str ws c 0 L∈bG (aW ws c L):=kD (i:=0) (zero_le _) (by simp [aJ,f0,bG])
theorem part_short (hU:Ru ws) {x:List Nat} (hL:1<=L) (hx:bI ws x) (hl:x.length=L+1) {j:Nat} (hj:j<(wd ws (x.headD 0)).length):((aI ws x).drop j).take L∈bU ws (x.take L):=by
 have hh:(x.take L).headD 0=x.headD 0:=by
  cases x with
  |nil=>simp at hl
  |cons a l=>
   cases L with
   |zero=>lia
   |succ L=>rfl
 have tl:(x.take L).length=L:=by rw[length_take];lia
 have hx2:bI ws (x.take L):=λd hd=>hx d (mem_of_mem_take hd);have pl:=cS hU hx2 (by lia) (j:=j) (by rw[hh];exact hj);rw[length_take,length_drop,tl] at pl;refine mem_map.mpr ⟨j,mem_range.mpr (by rw[hh];exact hj),?_⟩;rw[tl];refine uY (t:=aI ws (x.drop L)) ?_ (by lia);rw[<-cU,take_append_drop]
section
variable (hU:Ru ws) (hL:1<=L) (h1:97<=c) (h2:c - 97<ws.length) (hg:aK ws c=true) (h:(aW ws c L).length<=300)
include hU hL h1 h2 hg h
theorem HG:str ws c 1 L∈bG (aW ws c L):=by
 refine dD h tS ?_;have a:=cP hU h1 h2 L;have b:=cH hU h1 h2 hg L;have hl:L<=(wk ws c L).length:=by lia
 have e0:str ws c 0 L=(wk ws c L).take L:=by
  have:=fG hU h1 h2 hg (k:=L) (n:=0) (m:=L) (by lia);rw[drop_zero] at this;exact this.symm
 have hS:bI ws (str ws c 0 L):=dE hU h1 h2 hg 0 L;have hd:(str ws c 0 L).headD 0=c:=by
  obtain ⟨t,e⟩:=nK hU h2 hg 0 L;rw[zero_add] at e;rw[e0,e];cases L with
  |zero=>lia
  |succ L=>rfl
 have w2:1<(wd ws c).length:=by
  obtain ⟨w,hw,e,_⟩:=hU.word h2;unfold aK at hg;rw[hw] at hg;simp only [and_eq_true,decide_eq_true_eq] at hg;rw[e,aP];exact hg.2.1
 have pl:=cS hU hS (by rw[str_len];exact hL) (j:=1) (by rw[hd];exact w2);rw[length_take,length_drop,str_len] at pl;refine mem_map.mpr ⟨1,mem_range.mpr (by rw[hd];exact w2),?_⟩;rw[str_len];have e1:wk ws c (L+1)=aI ws (str ws c 0 L)++aI ws ((wk ws c L).drop L):=by
  show aI ws (wk ws c L)=_;rw[e0,<-cU,take_append_drop]
 rw[uY e1 (by lia)];refine fG hU h1 h2 hg ?_;have a':=cP hU h1 h2 (L+1);have b':=cH hU h1 h2 hg (L+1);lia
theorem GS (i:Nat):∀z,z∈bG (aJ ws (f0 ws c (L+1)) i)->(z.length=L+1/\bI ws z)/\z.take L∈bG (aW ws c L)/\z.drop 1∈bG (aW ws c L):=by
 refine oR (P:=λz=>(z.length=L+1/\bI ws z)/\z.take L∈bG (aW ws c L)/\z.drop 1∈bG (aW ws c L)) (λx hx=>?_) (λx ⟨⟨xl,xL⟩,hp,hs⟩ y hy=>?_) i
 ·have:x=str ws c 0 (L+1):=by simpa [f0,bG] using hx
  subst this;refine ⟨⟨str_len _ _ _ _,dE hU h1 h2 hg 0 (L+1)⟩,?_,?_⟩
  ·have:(str ws c 0 (L+1)).take L=str ws c 0 L:=by
    unfold str;rw[<-List.map_take,List.take_range,Nat.min_eq_left (by lia)]
   rw[this];exact tS
  ·have:(str ws c 0 (L+1)).drop 1=str ws c 1 L:=by
    unfold str;rw[range_succ_eq_map,map_cons,List.drop_succ_cons,drop_zero,map_map];refine map_congr_left λk _=>?_;show ew ws c (0+(k+1))=ew ws c (1+k)
    congr 1
    lia
   rw[this];exact HG hU hL h1 h2 hg h
 ·obtain ⟨j,hj,rfl⟩:=mem_map.mp hy;have hj':=mem_range.mp hj;have pl:=cS hU xL (by lia) hj';refine ⟨⟨by rw[pl];exact xl,λd hd=>xL.img hU d (mem_of_mem_drop (mem_of_mem_take hd))⟩,?_,?_⟩
  ·rw[List.take_take,xl,Nat.min_eq_left (by lia)];exact dD h hp (part_short hU hL xL xl hj')
  ·rw[xl,List.drop_take,List.drop_drop,show L+1 - 1=L by lia];by_cases c1:j+1<(wd ws (x.headD 0)).length
   ·exact dD h hp (part_short hU hL xL xl c1)
   ·cases x with
    |nil=>simp at xl
    |cons a l=>
     have ej:j+1=(wd ws a).length:=by
      have:j<(wd ws a).length:=hj';have:¬j+1<(wd ws a).length:=c1;lia
     rw[aL,ej,List.drop_left];refine dD h hs (x:=l) ?_;have ll:l.length=L:=by simpa using xl
     refine mem_map.mpr ⟨0,mem_range.mpr ?_,by rw[drop_zero,ll]⟩;cases l with
     |nil=>simp at ll;lia
     |cons b l=>
      obtain ⟨w,_,e,m⟩:=hU.word (xL b (by simp)).2;have:=hU.one w m;show 0<(wd ws b).length;rw[e,aP];lia
end
end
noncomputable def bt (ws:List Str) (p:List Nat):Nat->List Nat->Bool
 |0,x=>decide (x=p)
 |t+1,x=>(bU ws x).any (bt ws p t)
theorem CN {ws:List Str} {p:List Nat}:∀{t:Nat} {x:List Nat},bt ws p t x=true↔CV ws t x p
 |0,x=>by
  show decide (x=p)=true↔x=p;exact decide_eq_true_iff
 |t+1,x=>by
  show (bU ws x).any (bt ws p t)=true↔∃z,z∈bU ws x/\CV ws t z p;rw[any_eq_true];exact ⟨λ⟨z,h1,h2⟩=>⟨z,h1,CN.mp h2⟩,λ⟨z,h1,h2⟩=>⟨z,h1,CN.mpr h2⟩⟩
theorem AI {a b:Int}:∀{xs ys:List Int},(∀x∈xs,0<=x/\x<=a)->(∀y∈ys,0<=y/\y<=b)->∀z∈zipWith (·+·) xs ys,0<=z/\z<=a+b
 |[],ys,_,_,z,hz=>by simp at hz
 |x::xs,[],_,_,z,hz=>by simp at hz
 |x::xs,y::ys,h1,h2,z,hz=>by
  rw[zipWith_cons_cons] at hz;rcases mem_cons.mp hz with rfl|hz
  ·have p:=h1 x (by simp);have q:=h2 y (by simp);lia
  ·exact AI (λx hx=>h1 x (by simp [hx])) (λy hy=>h2 y (by simp [hy])) z hz
theorem OW {rows:List (List Int)} {ns:List Int} {M:Int} (hM:0<=M) (hr:∀r∈rows,∀x∈r,0<=x/\x<=100) (hn:∀x∈ns,0<=x/\x<=M):∀k,∀v∈accN rows ns k,0<=v/\v<=(k:Int) * (100 * M)
 |0,v,hv=>by
  have:v=0:=List.eq_of_mem_replicate hv;subst this;simp
 |k+1,v,hv=>by
  have hx:0<=ns[k]?.getD 0/\ns[k]?.getD 0<=M:=by
   cases e:ns[k]? with
   |none=>exact ⟨by decide,hM⟩
   |some x=>exact hn x (mem_of_getElem? e)
  have h2:∀y∈(rows[k]?.getD []).map ((ns[k]?.getD 0) * ·),0<=y/\y<=100 * M:=λy hy=>by
   obtain ⟨c,hc,rfl⟩:=mem_map.mp hy;have hc':0<=c/\c<=100:=by
    cases e:rows[k]? with
    |none=>rw[e] at hc;simp at hc
    |some r=>rw[e] at hc;exact hr r (mem_of_getElem? e) c hc
   refine ⟨Int.mul_nonneg hx.1 hc'.1,?_⟩
   calc (ns[k]?.getD 0) * c<=M * c:=Int.mul_le_mul_of_nonneg_right hx.2 hc'.1
    _<=M * 100:=Int.mul_le_mul_of_nonneg_left hc'.2 hM
    _=100 * M:=Int.mul_comm _ _
  have:=AI (OW hM hr hn k) h2 v hv;have e:((k+1:Nat):Int) * (100 * M)=(k:Int) * (100 * M)+100 * M:=by
   rw[show ((k+1:Nat):Int)=(k:Int)+1 by lia,Int.add_mul,Int.one_mul]
  rw[e];exact this
theorem EL {ws:List Str} {z:Str} (h:z.length<=100):∀x∈bJ ws.length z,0<=x/\x<=100:=λx hx=>by
 unfold bJ at hx;obtain ⟨k,_,rfl⟩:=mem_map.mp hx;have a:=List.count_le_length (a:=97+k) (l:=ls z);rw[aP] at a;show 0<=(((ls z).count (97+k):Nat):Int)/\(((ls z).count (97+k):Nat):Int)<=100;lia
theorem oU {ws:List Str} (hU:Ru ws) {f:List bL} (h0:∀p∈f,∀x∈p.2,0<=x/\x<=1):∀(i:Nat) (p:bL),p∈aJ ws f i->∀x∈p.2,0<=x/\x<=(500 ^ i:Nat)
 |0,p,hp,x,hx=>h0 p hp x hx
 |i+1,p,hp,x,hx=>by
  have ih:=oU hU h0 i;have hm:((500 ^ i:Nat):Int)<=((500 ^ (i+1):Nat):Int):=by
   rw[pow_succ];lia
  have old:p∈aJ ws f i->0<=x/\x<=((500 ^ (i+1):Nat):Int):=λh=>by
   have:=ih p h x hx;lia
  have key:∀(ps g:List bL),p∈ps.foldl bE g->p∈g\/p∈ps:=by
   intro ps;induction ps with
   |nil=>intro g h;exact .inl h
   |cons q ps ihp=>
    intro g h;rw[foldl_cons] at h;rcases ihp _ h with h|h
    ·unfold bE at h;split at h
     ·exact .inl h
     ·rcases mem_append.mp h with h|h
      ·exact .inl h
      ·exact .inr (by rw[mem_singleton.mp h];exact mem_cons_self)
    ·exact .inr (mem_cons_of_mem _ h)
  change p∈(match (aJ ws f i)[i]? with|some x=>(chl ws x).foldl bE (aJ ws f i)|none=>aJ ws f i) at hp;cases e:(aJ ws f i)[i]? with
  |none=>rw[e] at hp;exact old hp
  |some z=>
   rw[e] at hp;rcases key _ _ hp with h|h
   ·exact old h
   ·obtain ⟨j,_,rfl⟩:=mem_map.mp h;have hz:=ih z (mem_of_getElem? e);have hr:∀r∈rowsOf ws,∀x∈r,0<=x/\x<=100:=λr hr=>by
     unfold rowsOf at hr;obtain ⟨w,hw,rfl⟩:=mem_map.mp hr;exact EL (hU.le w hw)
    have hb:∀v∈zX (rowsOf ws) z.2 1,0<=v/\v<=400 * ((500 ^ i:Nat):Int):=λv hv=>by
     have hv':v∈accN (rowsOf ws) z.2 (rowsOf ws).length:=hv;have a:=OW (M:=((500 ^ i:Nat):Int)) (by lia) hr hz (rowsOf ws).length v hv';have h4:=hU.four;have rl:(rowsOf ws).length=ws.length:=length_map _;have:(((rowsOf ws).length:Nat):Int) * (100 * ((500 ^ i:Nat):Int))<=4 * (100 * ((500 ^ i:Nat):Int)):=Int.mul_le_mul_of_nonneg_right (by lia) (by lia);lia
    have hwl:((wd ws (z.1.headD 0)).take j).length<=100:=by
     have:=fE hU (l:=[z.1.headD 0]);rw[aL] at this;have w:(wd ws (z.1.headD 0)).length<=100:=by simpa [aI] using this
     rw[length_take];lia
    have hc:=EL (ws:=ws) (z:=aH ((wd ws (z.1.headD 0)).take j)) (by rw[bF];exact hwl);have:=AI hb hc x hx;have p5:1<=500 ^ i:=Nat.one_le_pow _ _ (by decide);have e5:((500 ^ (i+1):Nat):Int)=500 * ((500 ^ i:Nat):Int):=by rw[pow_succ];lia
    rw[e5];lia
theorem Hz {ws:List Str} {c L:Nat}:∀p∈f0 ws c L,∀x∈p.2,0<=x/\x<=1:=λp hp x hx=>by
 have:p=(str ws c 0 L,replicate ws.length 0):=by simpa [f0] using hp
 subst this;have:=List.eq_of_mem_replicate hx;lia
theorem VC {ws:List Str} (hU:Ru ws) (c:Nat):∀k,(wk ws c k).length<=100 ^ k
 |0=>Nat.le_refl _
 |k+1=>by
  have a:=fE hU (l:=wk ws c k);have b:=VC hU c k;show (aI ws (wk ws c k)).length<=_;rw[pow_succ];lia
theorem yB {ws:List Str} {c L:Nat}:∀(i:Nat) (x:List Nat),x∈bG (aJ ws (f0 ws c L) i)->∃t,t<=i/\CV ws t (str ws c 0 L) x
 |0,x,h=>⟨0,Nat.le_refl _,by
  have:x=str ws c 0 L:=by simpa [aJ,f0,bG] using h
  exact this.symm⟩
 |i+1,x,h=>by
  have ih:=yB (ws:=ws) (c:=c) (L:=L) i;change x∈bG (match (aJ ws (f0 ws c L) i)[i]? with|some x=>(chl ws x).foldl bE (aJ ws (f0 ws c L) i)|none=>aJ ws (f0 ws c L) i) at h;cases e:(aJ ws (f0 ws c L) i)[i]? with
  |none=>
   rw[e] at h;obtain ⟨t,h1,h2⟩:=ih x h;exact ⟨t,by lia,h2⟩
  |some z=>
   rw[e] at h;rcases mH h with h|h
   ·obtain ⟨t,h1,h2⟩:=ih x h;exact ⟨t,by lia,h2⟩
   ·rw[oC] at h;obtain ⟨t,h1,h2⟩:=ih z.1 (mem_map.mpr ⟨z,mem_of_getElem? e,rfl⟩);exact ⟨t+1,by lia,CV.add h2 ⟨x,h,rfl⟩⟩
theorem Ii {ws:List Str} (hU:Ru ws) (hm:LJ ws=true) {c L:Nat} (hL:1<=L) (h1:97<=c) (h2:c - 97<ws.length) (hg:aK ws c=true) {p:List Nat} (hp:p∈bG (aW ws c L)):∃T,T<=310+L/\∀x∈bG (aW ws c L),bt ws p T x=true:=by
 obtain ⟨t,tl,ht⟩:=yB 300 p hp;refine ⟨10+L+t,by lia,λx hx=>CN.mpr (CV.add ?_ ht)⟩;obtain ⟨q,hq,rfl⟩:=mem_map.mp hx;obtain ⟨ql,qL,_⟩:=(cQ hU hL (jM hU h1 h2 hg) 300).ok q hq;exact UO hU hm hL h1 h2 hg qL ql
end L2.Na.Pr
namespace L2.Na
open PySem L2.Na.K41 L2.Na.Pr
theorem iZ {ws:List Str} (h:Ru ws) {c:Nat} (h1:97<=c) (h2:c - 97<ws.length) (hg:aK ws c=true) {k n m:Nat} (hk:n+m<=(wk ws c k).length):
  str ws c (aI ws (str ws c 0 n)).length (aI ws (str ws c n m)).length=aI ws (str ws c n m)/\(aI ws (str ws c 0 n)).length+(aI ws (str ws c n m)).length<=(wk ws c (k+1)).length:=by
 have e1:wk ws c k=str ws c 0 n++(str ws c n m++(wk ws c k).drop (n+m)):=by
  rw[<-fG h h1 h2 hg (k:=k) (n:=0) (m:=n) (by lia),<-fG h h1 h2 hg hk,drop_zero]
  conv=>lhs;rw[<-take_append_drop n (wk ws c k)]
  congr 1
  conv=>lhs;rw[<-take_append_drop m ((wk ws c k).drop n)]
  rw[List.drop_drop]
 have e2:wk ws c (k+1)=aI ws (str ws c 0 n)++(aI ws (str ws c n m)++aI ws ((wk ws c k).drop (n+m))):=by
  show aI ws (wk ws c k)=_
  conv=>lhs;rw[e1]
  rw[cU,cU]
 have hl:(aI ws (str ws c 0 n)).length+(aI ws (str ws c n m)).length<=(wk ws c (k+1)).length:=by
  rw[e2,length_append,length_append];lia
 refine ⟨?_,hl⟩;rw[<-fG h h1 h2 hg hl,e2,List.drop_append_of_le_length (Nat.le_refl _),List.drop_length,List.nil_append,List.take_append_of_le_length (Nat.le_refl _),take_length]
theorem cA (ws:List Str) (c n m j l:Nat) (h:j+l<=m):((str ws c n m).drop j).take l=str ws c (n+j) l:=by
 unfold str;refine ext_getElem? λi=>?_;by_cases hi:i<l
 ·rw[getElem?_take,if_pos hi,getElem?_drop,getElem?_map,getElem?_map,getElem?_range (by lia),getElem?_range hi];show some (ew ws c (n+(j+i)))=some (ew ws c (n+j+i));rw[Nat.add_assoc]
 ·rw[List.getElem?_eq_none (by rw[length_take];lia),List.getElem?_eq_none (by rw[length_map,length_range];lia)]
theorem nO (ws:List Str) (c n m l:Nat):str ws c n (m+l)=str ws c n m++str ws c (n+m) l:=by
 have e:=take_append_drop m (str ws c n (m+l));rw[<-e]
 congr 1
 ·have:=cA ws c n (m+l) 0 m (by lia);rw[drop_zero,Nat.add_zero] at this;exact this
 ·have:=cA ws c n (m+l) m l (Nat.le_refl _);rw[take_of_length_le (by rw[length_drop,str_len];lia)] at this;exact this
noncomputable def PN (ws:List Str) (c L i:Nat) (p:bL):Prop:=∃n:Nat,p.1=str ws c n L/\p.2=bJ ws.length (aH (str ws c 0 n))/\n+L<=(wk ws c (L+i)).length
section
variable {ws:List Str} {c L:Nat}
theorem dE (hU:Ru ws) (h1:97<=c) (h2:c - 97<ws.length) (hg:aK ws c=true) {k n m:Nat} (hk:n+m<=(wk ws c k).length):bI ws (str ws c n m):=by
 rw[<-fG hU h1 h2 hg hk];exact λd hd=>fF hU h1 h2 k d (mem_of_mem_drop (mem_of_mem_take hd))
theorem PN.more (hU:Ru ws) (h2:c - 97<ws.length) (hg:aK ws c=true) {i:Nat} {p:bL} (h:PN ws c L i p):PN ws c L (i+1) p:=by
 obtain ⟨n,e1,e2,e3⟩:=h;obtain ⟨t,et⟩:=AK hU h2 hg (L+i);refine ⟨n,e1,e2,?_⟩;rw[show L+(i+1)=L+i+1 by lia,et,length_append];lia
theorem PN.chl (hU:Ru ws) (hL:1<=L) (h1:97<=c) (h2:c - 97<ws.length) (hg:aK ws c=true) {i:Nat} {x p:bL} (h:PN ws c L i x) (hp:p∈chl ws x):PN ws c L (i+1) p:=by
 obtain ⟨n,e1,e2,e3⟩:=h;obtain ⟨j,hj,rfl⟩:=mem_map.mp hp;have hj:=mem_range.mp hj;obtain ⟨o1,o2⟩:=iZ hU h1 h2 hg e3;obtain ⟨o3,_⟩:=iZ hU h1 h2 hg (k:=L+i) (n:=0) (m:=n) (by lia);have lx:=dE hU h1 h2 hg e3;have l0:=dE hU h1 h2 hg (k:=L+i) (n:=0) (m:=n) (by lia);have xl:x.1.length=L:=by rw[e1,str_len]
 have pl:=cS hU (by rw[e1];exact lx) (by lia) hj;rw[xl,length_take,length_drop,e1] at pl;have hjl:j+L<=(aI ws (str ws c n L)).length:=by lia
 have o3:str ws c 0 (aI ws (str ws c 0 n)).length=aI ws (str ws c 0 n):=o3;refine ⟨(aI ws (str ws c 0 n)).length+j,?_,?_,?_⟩
 ·show ((aI ws x.1).drop j).take x.1.length=_;rw[xl,e1,<-o1];exact cA ws c _ _ j L (by rw[<-o1] at hjl;rw[str_len] at hjl;exact hjl)
 ·show zipWith (·+·) (zX (rowsOf ws) x.2 1) (bJ ws.length (aH ((wd ws (x.1.headD 0)).take j)))=_;rw[e2,qW hU.isw l0.isW 1];have ei:Ga ws (aH (str ws c 0 n)) 1=aH (aI ws (str ws c 0 n)):=by
   show img ws (aH (str ws c 0 n))=_;rw[eR,aO]
  rw[ei,<-L2.Na.zU]
  congr 2
  rw[nO,o3]
  congr 1
  rw[zero_add];have ht:=cA ws c (aI ws (str ws c 0 n)).length (aI ws (str ws c n L)).length 0 j (by lia);rw[drop_zero,Nat.add_zero,o1] at ht;rw[<-ht];cases hs:str ws c n L with
  |nil=>
   have:=str_len ws c n L;rw[hs] at this;simp at this;lia
  |cons d l=>
   rw[e1,hs] at hj ⊢;rw[aL];exact (List.take_append_of_le_length (le_of_lt hj)).symm
 ·rw[show L+(i+1)=L+i+1 by lia];lia
theorem PN.zero (hU:Ru ws) (h1:97<=c) (h2:c - 97<ws.length) (hg:aK ws c=true):∀p∈f0 ws c L,PN ws c L 0 p:=λp hp=>by
 have e:p=(str ws c 0 L,replicate ws.length 0):=by simpa [f0] using hp
 rw[e];refine ⟨0,rfl,(L2.Na.zT _).symm,?_⟩;have a:=cP hU h1 h2 L;have b:=cH hU h1 h2 hg L;rw[Nat.add_zero];lia
theorem yU {p:bL}:∀(ps g:List bL),p∈ps.foldl bE g->p∈g\/p∈ps
 |[],g,h=>.inl h
 |q::ps,g,h=>by
  rw[foldl_cons] at h;rcases yU ps _ h with h|h
  ·unfold bE at h;split at h
   ·exact .inl h
   ·rcases mem_append.mp h with h|h
    ·exact .inl h
    ·exact .inr (by rw[mem_singleton.mp h];exact mem_cons_self)
  ·exact .inr (mem_cons_of_mem _ h)
theorem xR (hU:Ru ws) (hL:1<=L) (h1:97<=c) (h2:c - 97<ws.length) (hg:aK ws c=true):∀(i:Nat) (p:bL),p∈aJ ws (f0 ws c L) i->PN ws c L i p
 |0,p,hp=>PN.zero hU h1 h2 hg p hp
 |i+1,p,hp=>by
  have ih:=xR hU hL h1 h2 hg i;change p∈(match (aJ ws (f0 ws c L) i)[i]? with|some x=>(chl ws x).foldl bE (aJ ws (f0 ws c L) i)|none=>aJ ws (f0 ws c L) i) at hp;cases e:(aJ ws (f0 ws c L) i)[i]? with
  |none=>
   rw[e] at hp;exact (ih p hp).more hU h2 hg
  |some z=>
   rw[e] at hp;rcases yU _ _ hp with h|h
   ·exact (ih p h).more hU h2 hg
   ·exact (ih z (mem_of_getElem? e)).chl hU hL h1 h2 hg h
end
section
variable {ws:List Str} {c L:Nat}
theorem UI (hU:Ru ws) (h1:97<=c) (h2:c - 97<ws.length) (hg:aK ws c=true) (i:Nat):97<=ew ws c i/\ew ws c i - 97<ws.length:=by
 have li:i<(wk ws c i).length:=by
  have a:=cP hU h1 h2 i;have b:=cH hU h1 h2 hg i;lia
 exact fF hU h1 h2 i _ (mem_of_getElem? (AL hU h1 h2 hg li))
theorem uB (hU:Ru ws) (h1:97<=c) (h2:c - 97<ws.length) (hg:aK ws c=true) (i:Nat):1<=(wd ws (ew ws c i)).length:=by
 obtain ⟨w,_,e,hw⟩:=hU.word (UI hU h1 h2 hg i).2;rw[e,aP];exact hU.one w hw
noncomputable def Fl (ws:List Str) (c n:Nat):Nat:=(aI ws (str ws c 0 n)).length
theorem lH (n:Nat):Fl ws c (n+1)=Fl ws c n+(wd ws (ew ws c n)).length:=by
 unfold Fl;rw[nO,cU,length_append,zero_add]
 congr 1
 show (aI ws [ew ws c (n+0)]).length=_;rw[aL,Nat.add_zero];show (wd ws (ew ws c n)++[]).length=_;rw[append_nil]
theorem PD (hU:Ru ws) (h1:97<=c) (h2:c - 97<ws.length) (hg:aK ws c=true):∀n,∃m j,n=Fl ws c m+j/\j<(wd ws (ew ws c m)).length
 |0=>⟨0,0,rfl,uB hU h1 h2 hg 0⟩
 |n+1=>by
  obtain ⟨m,j,e,hj⟩:=PD hU h1 h2 hg n;by_cases h:j+1<(wd ws (ew ws c m)).length
  ·exact ⟨m,j+1,by lia,h⟩
  ·exact ⟨m+1,0,by rw[lH];lia,uB hU h1 h2 hg (m+1)⟩
theorem WR (hU:Ru ws) (h1:97<=c) (h2:c - 97<ws.length) (hg:aK ws c=true):∀n,n+2<=Fl ws c (n+1)
 |0=>by
  rw[lH];have e0:ew ws c 0=c:=rfl;rw[e0];unfold aK at hg;obtain ⟨w,hw,e,_⟩:=hU.word h2;rw[hw] at hg;rw[e,aP];simp only [and_eq_true,decide_eq_true_eq] at hg;lia
 |n+1=>by
  have ih:=WR hU h1 h2 hg n;have:=uB hU h1 h2 hg (n+1);rw[lH];lia
theorem fZ (n:Nat) (hL:1<=L):(str ws c n L).headD 0=ew ws c n:=by
 obtain ⟨l,rfl⟩:∃l,L=1+l:=⟨L - 1,by lia⟩;rw[nO];rfl
theorem xO (hU:Ru ws) (hL:1<=L) (h1:97<=c) (h2:c - 97<ws.length) (hg:aK ws c=true) (n j:Nat) (hj:j<(wd ws (ew ws c n)).length):str ws c (Fl ws c n+j) L∈bU ws (str ws c n L):=by
 have e3:n+L<=(wk ws c (n+L)).length:=by
  have a:=cP hU h1 h2 (n+L);have b:=cH hU h1 h2 hg (n+L);lia
 obtain ⟨o1,o2⟩:=iZ hU h1 h2 hg e3;have lx:=dE hU h1 h2 hg e3;have pl:=cS hU lx (by rw[str_len];exact hL) (j:=j) (by rw[fZ n hL];exact hj);rw[str_len,length_take,length_drop] at pl;unfold bU;refine mem_map.mpr ⟨j,mem_range.mpr (by rw[fZ n hL];exact hj),?_⟩;rw[str_len,<-o1];exact cA ws c _ _ j L (by lia)
theorem CP (hU:Ru ws) (hL:1<=L) (h1:97<=c) (h2:c - 97<ws.length) (hg:aK ws c=true) (hsm:(aW ws c L).length<=300):∀n,str ws c n L∈bG (aW ws c L):=by
 intro n;induction n using Nat.strongRecOn with
 |_ n ih=>
  by_cases h0:n=0
  ·subst h0;have:=eD ws (f0 ws c L) 0 300;obtain ⟨t,e⟩:=this;rw[zero_add] at e;unfold aW;rw[e,fC];exact mem_append.mpr (.inl (mem_cons_self))
  ·obtain ⟨m,j,e,hj⟩:=PD hU h1 h2 hg n;have hm:m<n:=by
    cases m with
    |zero=>lia
    |succ m=>
     have:=WR hU h1 h2 hg m;lia
   rw[e];exact dD hsm (ih m hm) (xO hU hL h1 h2 hg m j hj)
end
noncomputable def lB:Nat->Nat->List Nat
 |0,_=>[]
 |m+1,v=>lB m (v / 4)++[97+v % 4]
noncomputable def UJ (x:List Nat):Nat:=x.foldl (λa d=>4 * a+(d - 97)) 0
noncomputable def Mf (tb:List (List Nat)) (M:Nat) (vs:List Nat):Bool:=vs.all λv=>(range (tb.getD ((lB M v).headD 0 - 97) []).length).all λj=>vs.contains (UJ ((((lB M v).flatMap λd=>tb.getD (d - 97) []).drop j).take M))&&decide (lB M (UJ ((((lB M v).flatMap λd=>tb.getD (d - 97) []).drop j).take M))=(((lB M v).flatMap λd=>tb.getD (d - 97) []).drop j).take M)
theorem zR:∀(m v:Nat),(lB m v).length=m
 |0,_=>rfl
 |m+1,v=>by
  show (lB m (v / 4)++[97+v % 4]).length=m+1;rw[length_append,zR m];rfl
theorem IM {ws:List Str} {tb:List (List Nat)} (h:ws.map ls=tb) (d:Nat):wd ws d=tb.getD (d - 97) []:=by
 subst h;unfold wd;rw[getD_eq_getElem?_getD,getElem?_map];cases ws[d - 97]? with
 |none=>rfl
 |some w=>rfl
theorem KW {ws:List Str} {tb:List (List Nat)} (h:ws.map ls=tb) {M:Nat} {vs:List Nat} (ok:Mf tb M vs=true):∀x∈vs.map (lB M),∀y∈bU ws x,y∈vs.map (lB M):=by
 intro x hx y hy;obtain ⟨v,hv,rfl⟩:=mem_map.mp hx;obtain ⟨j,hj,rfl⟩:=mem_map.mp hy;have e1:=all_eq_true.mp (all_eq_true.mp ok v hv) j (by rw[<-IM h];exact hj);rw[and_eq_true] at e1;have ei:aI ws (lB M v)=(lB M v).flatMap λd=>tb.getD (d - 97) []:=by
  unfold aI;rw[show wd ws=λd=>tb.getD (d - 97) [] from funext (IM h)]
 rw[ei,zR];exact mem_map.mpr ⟨_,List.contains_iff_mem.mp e1.1,of_decide_eq_true e1.2⟩
section
variable {ws:List Str} {c L:Nat}
theorem Az (hU:Ru ws) (hL:1<=L) (h1:97<=c) (h2:c - 97<ws.length) (hg:aK ws c=true) {g:List (List Nat)} (h0:str ws c 0 L∈g) (hc:∀x∈g,∀y∈bU ws x,y∈g):(aW ws c L).length<=g.length:=by
 rw[<-fB];refine Nodup.length_le_of_subset (cQ hU hL (jM hU h1 h2 hg) 300).nd λx hx=>?_;refine oR (P:=λx=>x∈g) (λy hy=>?_) hc 300 x hx;have e:y=str ws c 0 L:=by simpa [f0,bG] using hy
 rw[e];exact h0
theorem NJ (hU:Ru ws) (hL:1<=L) {M:Nat} (hM:L<=M) (h1:97<=c) (h2:c - 97<ws.length) (hg:aK ws c=true) (hs:(aW ws c M).length<=300):(aW ws c L).length<=300:=by
 refine le_trans ?_ hs;rw[<-fB,<-fB (aW ws c M),<-length_map (f:=λy:List Nat=>y.take L) (as:=bG (aW ws c M))];refine Nodup.length_le_of_subset (cQ hU hL (jM hU h1 h2 hg) 300).nd λx hx=>?_;obtain ⟨p,hp,rfl⟩:=mem_map.mp hx;obtain ⟨n,e1,_,_⟩:=xR hU hL h1 h2 hg 300 p hp;refine mem_map.mpr ⟨str ws c n M,CP hU (by lia) h1 h2 hg hs n,?_⟩;show (str ws c n M).take L=p.1;rw[e1];have:=cA ws c n M 0 L (by lia);rw[drop_zero,Nat.add_zero] at this;exact this
noncomputable def PR (m:Nat):Nat->List (List Nat)
 |0=>[[]]
 |L+1=>(range m).flatMap λd=>(PR m L).map λx=>(97+d)::x
theorem xD (m:Nat):∀L,(PR m L).length=m ^ L
 |0=>rfl
 |L+1=>by
  show ((range m).flatMap λd=>(PR m L).map λx=>(97+d)::x).length=_;rw[List.length_flatMap];simp only [length_map,xD m L];rw[List.map_const',List.sum_replicate_nat,length_range,pow_succ,Nat.mul_comm]
theorem xC {m:Nat}:∀{x:List Nat},(∀d∈x,97<=d/\d - 97<m)->x∈PR m x.length
 |[],_=>mem_singleton.mpr rfl
 |d::x,h=>by
  obtain ⟨a,b⟩:=h d mem_cons_self;refine mem_flatMap.mpr ⟨d - 97,mem_range.mpr b,mem_map.mpr ⟨x,xC λe he=>h e (mem_cons_of_mem _ he),?_⟩⟩;rw[show 97+(d - 97)=d by lia]
theorem UG (hU:Ru ws) (hL:1<=L) (h1:97<=c) (h2:c - 97<ws.length) (hg:aK ws c=true):(aW ws c L).length<=ws.length ^ L:=by
 rw[<-fB,<-xD];refine Nodup.length_le_of_subset (cQ hU hL (jM hU h1 h2 hg) 300).nd λx hx=>?_;obtain ⟨p,hp,rfl⟩:=mem_map.mp hx;obtain ⟨l1,l2,_⟩:=(cQ hU hL (jM hU h1 h2 hg) 300).ok p hp;show p.1∈_;rw[<-l1];exact xC l2
end
theorem RB {m L:Nat} (h1:1<=m) (h4:m<=4) (hL:L<=[20,8,5,4].getD (m - 1) 0):m ^ L<=300:=by
 have:m=1\/m=2\/m=3\/m=4:=by lia
 rcases this with rfl|rfl|rfl|rfl
 ·rw[Nat.one_pow];decide
 ·exact le_trans (Nat.pow_le_pow_right (by decide) hL) (by decide)
 ·exact le_trans (Nat.pow_le_pow_right (by decide) hL) (by decide)
 ·exact le_trans (Nat.pow_le_pow_right (by decide) hL) (by decide)
section
variable {ws:List Str} {c L:Nat}
noncomputable def dY (ws:List Str) (c L n:Nat):bL:=(str ws c n L,bJ ws.length (aH (str ws c 0 n)))
theorem vJ (hU:Ru ws) (h1:97<=c) (h2:c - 97<ws.length) (hg:aK ws c=true) (n:Nat):n<=(wk ws c n).length:=by
 have a:=cP hU h1 h2 n;have b:=cH hU h1 h2 hg n;lia
theorem OB (hU:Ru ws) (hL:1<=L) (h1:97<=c) (h2:c - 97<ws.length) (hg:aK ws c=true) (n j:Nat) (hj:j<(wd ws (ew ws c n)).length):(chl ws (dY ws c L n))[j]?=some (dY ws c L (Fl ws c n+j)):=by
 have e3:n+L<=(wk ws c (n+L)).length:=vJ hU h1 h2 hg (n+L);obtain ⟨o1,o2⟩:=iZ hU h1 h2 hg e3;obtain ⟨o3,_⟩:=iZ hU h1 h2 hg (k:=n+L) (n:=0) (m:=n) (by lia);have lx:=dE hU h1 h2 hg e3;have l0:=dE hU h1 h2 hg (k:=n+L) (n:=0) (m:=n) (by lia);have hj':j<(wd ws ((str ws c n L).headD 0)).length:=by rw[fZ n hL];exact hj
 have pl:=cS hU lx (by rw[str_len];exact hL) hj';rw[str_len,length_take,length_drop] at pl;have hjl:j+L<=(aI ws (str ws c n L)).length:=by lia
 have o3:str ws c 0 (aI ws (str ws c 0 n)).length=aI ws (str ws c 0 n):=o3;rw[wJ (x:=dY ws c L n) hj'];refine congrArg some (Prod.ext ?_ ?_)
 ·show ((aI ws (str ws c n L)).drop j).take (str ws c n L).length=str ws c ((aI ws (str ws c 0 n)).length+j) L;rw[str_len,<-o1];exact cA ws c _ _ j L (by rw[<-o1] at hjl;rw[str_len] at hjl;exact hjl)
 ·show zipWith (·+·) (zX (rowsOf ws) (bJ ws.length (aH (str ws c 0 n))) 1) (bJ ws.length (aH ((wd ws ((str ws c n L).headD 0)).take j)))=bJ ws.length (aH (str ws c 0 ((aI ws (str ws c 0 n)).length+j)));rw[qW hU.isw l0.isW 1];have ei:Ga ws (aH (str ws c 0 n)) 1=aH (aI ws (str ws c 0 n)):=by
   show img ws (aH (str ws c 0 n))=_;rw[eR,aO]
  rw[ei,<-L2.Na.zU]
  congr 2
  rw[nO,o3]
  congr 1
  rw[zero_add];have ht:=cA ws c (aI ws (str ws c 0 n)).length (aI ws (str ws c n L)).length 0 j (by lia);rw[drop_zero,Nat.add_zero,o1] at ht;rw[<-ht];cases hs:str ws c n L with
  |nil=>
   have:=str_len ws c n L;rw[hs] at this;simp at this;lia
  |cons d l=>
   rw[hs] at hj';rw[aL];exact (List.take_append_of_le_length (le_of_lt hj')).symm
theorem wZ:∀{k n:Nat},k<=n->Fl ws c k<=Fl ws c n
 |k,0,h=>by
  have e:k=0:=by lia
  rw[e];exact Nat.le_refl _
 |k,n+1,h=>by
  by_cases e:k=n+1
  ·rw[e];exact Nat.le_refl _
  ·have:=wZ (k:=k) (n:=n) (by lia);rw[lH];lia
structure Fp (ws:List Str) (c L:Nat) (f:List bL) (ns:List Nat):Prop where
 e:f=ns.map (dY ws c L)
 up:ns.Pairwise (·<·)
 fs:∀n∈ns,∀m,m<n->str ws c m L∈bG f/\str ws c m L≠str ws c n L
theorem Fp.nm {f:List bL} {ns:List Nat} (I:Fp ws c L f ns):bG f=ns.map λn=>str ws c n L:=by
 rw[I.e];unfold bG;rw[map_map];rfl
theorem Fp.add {f:List bL} {ns:List Nat} {M:Nat} (I:Fp ws c L f ns) (hc:∀m,m<M->str ws c m L∈bG f):∃ns',Fp ws c L (bE f (dY ws c L M)) ns'/\∀m,m<M+1->str ws c m L∈bG (bE f (dY ws c L M)):=by
 unfold bE;by_cases h:str ws c M L∈bG f
 ·rw[if_pos (show (dY ws c L M).1∈bG f from h)];refine ⟨ns,I,λm hm=>?_⟩;by_cases e:m=M
  ·rw[e];exact h
  ·exact hc m (by lia)
 ·rw[if_neg (show ¬(dY ws c L M).1∈bG f from h)];have hn:∀{y},y∈bG f->y∈bG (f++[dY ws c L M]):=λhy=>by
   rw[fC];exact mem_append.mpr (.inl hy)
  refine ⟨ns++[M],⟨by rw[map_append,<-I.e];rfl,List.pairwise_append.mpr ⟨I.up,List.pairwise_singleton _ _,λa ha b hb=>?_⟩,λn hn' m hm=>?_⟩,λm hm=>?_⟩
  ·have eb:b=M:=by simpa using hb
   subst eb;refine lt_of_not_le λhle=>h ?_;by_cases e:a=b
   ·rw[I.nm];exact mem_map.mpr ⟨a,ha,by rw[e]⟩
   ·exact (I.fs a ha b (by lia)).1
  ·rcases mem_append.mp hn' with hn'|hn'
   ·exact ⟨hn (I.fs n hn' m hm).1,(I.fs n hn' m hm).2⟩
   ·have eb:n=M:=by simpa using hn'
    subst eb;exact ⟨hn (hc m hm),λe=>h (by rw[<-e];exact hc m hm)⟩
  ·by_cases e:m=M
   ·rw[fC,e];exact mem_append.mpr (.inr mem_cons_self)
   ·exact hn (hc m (by lia))
theorem Fp.chl (hU:Ru ws) (hL:1<=L) (h1:97<=c) (h2:c - 97<ws.length) (hg:aK ws c=true) {f:List bL} {ns:List Nat} {n:Nat} (I:Fp ws c L f ns) (hc:∀m,m<Fl ws c n->str ws c m L∈bG f):
  ∀j,j<=(chl ws (dY ws c L n)).length->∃ns',Fp ws c L (((chl ws (dY ws c L n)).take j).foldl bE f) ns'/\∀m,m<Fl ws c n+j->str ws c m L∈bG (((chl ws (dY ws c L n)).take j).foldl bE f)
 |0,_=>⟨ns,I,hc⟩
 |j+1,hj=>by
  obtain ⟨ns1,I1,c1⟩:=Fp.chl hU hL h1 h2 hg I hc j (by lia);have hj':j<(wd ws (ew ws c n)).length:=by
   have e:(L2.Na.chl ws (dY ws c L n)).length=(wd ws ((str ws c n L).headD 0)).length:=EN;rw[fZ n hL] at e;lia
  rw[sG (OB hU hL h1 h2 hg n j hj')];exact I1.add c1
theorem FJ {ws:List Str} {f0:List bL} {i k:Nat} {p:bL} (hp:(aJ ws f0 i)[k]?=some p) (hk:k<i) {y:List Nat} (hy:y∈bU ws p.1):y∈bG (aJ ws f0 i):=by
 have hil:k<(aJ ws f0 k).length:=lt_of_not_le λhn=>by
  have e:=iC ws f0 hn (i - k);rw[show k+(i - k)=i by lia] at e;rw[e,List.getElem?_eq_none hn] at hp;cases hp
 obtain ⟨t,e⟩:=eD ws f0 k (i - k);rw[show k+(i - k)=i by lia] at e;have hp':(aJ ws f0 k)[k]?=some p:=by
  rw[e,getElem?_append_left hil] at hp;exact hp
 have h1:y∈bG (aJ ws f0 (k+1)):=by
  rw[gA hp'];rw[<-oC] at hy;obtain ⟨q,hq,rfl⟩:=mem_map.mp hy;exact rC hq
 exact kD (by lia) h1
theorem oS (hU:Ru ws) (hL:1<=L) (h1:97<=c) (h2:c - 97<ws.length) (hg:aK ws c=true):∀i,∃ns,Fp ws c L (aJ ws (f0 ws c L) i) ns
 |0=>⟨[0],⟨by
   show [(str ws c 0 L,replicate ws.length 0)]=[(str ws c 0 L,bJ ws.length (aH []))]
   rw[show bJ ws.length (aH [])=replicate ws.length 0 from L2.Na.zT _],List.pairwise_singleton _ _,λn hn m hm=>by
   have e:n=0:=by simpa using hn
   lia⟩⟩
 |i+1=>by
  obtain ⟨ns,I⟩:=oS hU hL h1 h2 hg i;cases e:(aJ ws (f0 ws c L) i)[i]? with
  |none=>
   refine ⟨ns,?_⟩;show Fp ws c L (match (aJ ws (f0 ws c L) i)[i]? with|some x=>(chl ws x).foldl bE (aJ ws (f0 ws c L) i)|none=>aJ ws (f0 ws c L) i) ns;rw[e];exact I
  |some x=>
   rw[gA e];have ei:=e;rw[I.e,getElem?_map] at ei;cases en:ns[i]? with
   |none=>rw[en] at ei;cases ei
   |some n=>
    rw[en] at ei;have ex:x=dY ws c L n:=(Option.some.inj ei).symm;subst ex;have hn:=mem_of_getElem? en;have hc:∀m,m<Fl ws c n->str ws c m L∈bG (aJ ws (f0 ws c L) i):=λm hm=>by
     obtain ⟨k,j,em,hj⟩:=PD hU h1 h2 hg m;have hk:k<n:=lt_of_not_le λhle=>by
      have:=wZ (ws:=ws) (c:=c) hle;lia
     have hin:=(I.fs n hn k hk).1;rw[I.nm] at hin;obtain ⟨n',hn',e'⟩:=mem_map.mp hin;have hle:n'<=k:=le_of_not_lt λhlt=>(I.fs n' hn' k hlt).2 e'.symm;obtain ⟨i',hi'⟩:=getElem?_of_mem hn';have hii:i'<i:=lt_of_not_le λhle2=>by
      by_cases eq:i=i'
      ·subst eq;rw[en] at hi';have:=Option.some.inj hi';lia
      ·obtain ⟨l1,g1⟩:=List.getElem?_eq_some_iff.mp en;obtain ⟨l2,g2⟩:=List.getElem?_eq_some_iff.mp hi';have:=List.pairwise_iff_getElem.mp I.up i i' l1 l2 (by lia);lia
     have hp:(aJ ws (f0 ws c L) i)[i']?=some (dY ws c L n'):=by
      rw[I.e,getElem?_map,hi'];rfl
     refine FJ hp hii ?_;show str ws c m L∈bU ws (str ws c n' L);rw[e',em];exact xO hU hL h1 h2 hg k j hj
    obtain ⟨ns',I',_⟩:=I.chl hU hL h1 h2 hg hc _ (Nat.le_refl _);rw[take_length] at I';exact ⟨ns',I'⟩
end
end L2.Na
namespace L2.Na.K31
open PySem L2.Na.K41 L2.Na.Pr
noncomputable def Gb (n:Nat) (x:List Nat):Bool:=x.all λc=>decide (97<=c)&&decide (c<97+n)
noncomputable def okT (tb:List (List Nat)):Bool:=decide (1<=tb.length)&&(decide (tb.length<=4)&&tb.all λw=>Gb tb.length w&&(decide (1<=w.length)&&decide (w.length<=100)))
theorem Dy {ws:List Str} {tb:List (List Nat)} (h:ws.map ls=tb) (ok:okT tb=true):Ru ws:=by
 unfold okT at ok;simp only [and_eq_true,decide_eq_true_eq] at ok;obtain ⟨h1,h2,h3⟩:=ok;have hl:tb.length=ws.length:=by rw[<-h,length_map]
 have h3':∀w∈ws,Gb ws.length (ls w)=true/\1<=w.length/\w.length<=100:=λw hw=>by
  have:=all_eq_true.mp h3 (ls w) (by rw[<-h];exact mem_map.mpr ⟨w,hw,rfl⟩);rw[hl,aP] at this;simpa using this
 refine ⟨by lia,by lia,λw hw c hc=>?_,λw hw=>(h3' w hw).2.1,λw hw=>(h3' w hw).2.2⟩;have:=all_eq_true.mp (h3' w hw).1 c hc;simpa using this
noncomputable def Ll (tb:List (List Nat)):Bool:=decide (1<(tb.getD 0 []).length)&&decide ((tb.getD 0 [])[0]?=some 97)
theorem Hq {ws:List Str} {tb:List (List Nat)} (h:ws.map ls=tb) (ok:Ll tb=true):aK ws 97=true/\97 - 97<ws.length:=by
 subst h;cases ws with
 |nil=>exact absurd ok (by decide)
 |cons w ws=>
  refine ⟨?_,Nat.succ_pos _⟩;unfold Ll at ok;change (decide (1<(ls w).length)&&decide ((ls w)[0]?=some 97))=true at ok;rw[aP] at ok;simp only [and_eq_true,decide_eq_true_eq] at ok;show (decide (97<=97)&&(decide (1<w.length)&&decide ((ls w)[0]?=some 97)))=true;have k2:(ls w)[0]?=some 97:=of_decide_eq_true ok.2;rw[decide_eq_true ok.1,decide_eq_true k2];rfl
noncomputable def VD (tb:List (List Nat)):Nat->List Nat
 |0=>[97]
 |k+1=>(VD tb k).flatMap λd=>tb.getD (d - 97) []
theorem IL {ws:List Str} {tb:List (List Nat)} (h:ws.map ls=tb):∀k,wk ws 97 k=VD tb k
 |0=>rfl
 |k+1=>by
  show aI ws (wk ws 97 k)=(VD tb k).flatMap λd=>tb.getD (d - 97) [];rw[IL h k];unfold aI;rw[show wd ws=λd=>tb.getD (d - 97) [] from funext (IM h)]
structure Fx (ws:List Str) (M:Nat):Prop where
 ru:Ru ws
 gr:aK ws 97=true
 c2:97 - 97<ws.length
 few:(aW ws 97 M).length<=300
noncomputable def Mg (tb:List (List Nat)) (M:Nat) (vs:List Nat) (k:Nat):Bool:=okT tb&&(Ll tb&&(Mf tb M vs&&(decide (M<=(VD tb k).length)&&(vs.contains (UJ ((VD tb k).take M))&&(decide (lB M (UJ ((VD tb k).take M))=(VD tb k).take M)&&(decide (vs.length<=300)&&decide (1<=M)))))))
theorem hJ {ws:List Str} {tb:List (List Nat)} {M:Nat} {vs:List Nat} {k:Nat} (h:ws.map ls=tb) (ok:Mg tb M vs k=true):Fx ws M:=by
 unfold Mg at ok;simp only [and_eq_true,decide_eq_true_eq] at ok;obtain ⟨a1,a2,a3,a4,a5,a6,a7,a8⟩:=ok;have hU:=Dy h a1;obtain ⟨g1,g2⟩:=Hq h a2;refine ⟨hU,g1,g2,?_⟩;have e0:str ws 97 0 M=(VD tb k).take M:=by
  rw[<-fG hU (by decide) g2 g1 (k:=k) (n:=0) (m:=M) (by rw[IL h];lia),drop_zero,IL h]
 have:=Az hU a8 (by decide) g2 g1 (g:=vs.map (lB M)) (by rw[e0];exact mem_map.mpr ⟨_,List.contains_iff_mem.mp a5,a6⟩) (KW h a3);rw[length_map] at this;lia
noncomputable abbrev R0:List Str:=[Str.ofString "ab",Str.ofString "a"]
theorem Mw:R0.map ls=[[97,98],[97]]:=by decide+kernel
theorem WI:Fx R0 20:=hJ (vs:=[69861393425,279445573700,18270667024,73082668097,292330672388,69811061776,279244247105,17465360644,69861442577,279445770308,18271453456,73085813825,292343255300,69861393424,279445573697,18270667012,73082668049,292330672196,69811061008,279244244033,17465348356]) (k:=6) Mw (by decide+kernel)
noncomputable abbrev R1:List Str:=[Str.ofString "ab",Str.ofString "ba"]
theorem Mv:R1.map ls=[[97,98],[98,97]]:=by decide+kernel
theorem Nl:Fx R1 20:=hJ (vs:=[86994129985,347976519940,292394451985,70066180165,280264720660,21547254864,86189019457,344756077829,279512683540,18539106385,74156425540,296625702160,86991180865,347964723461,292347266068,69877436496,279509745985,18527356164,74109424657,296437698629,86239166740,344956666960,280315040065,21748532485,86994129940,347976519761,292394451268,70066177296,280264709185,21547208964,86188835857,344755343429,279509745940,18527355985,74109423940,296437695760,86239155265,344956621061,280314856468,21747798096,86991192385,347964769540,292347450385,69878173765,279512695060,18539152465,74156609860,296626439440,347964723460,292347266065,69877436485,18539152464,74156609857,296626439429,21547208965,86188835860,344755343440,344956666961,280315040068,21748532496]) (k:=5) Mv (by decide+kernel)
noncomputable abbrev R2:List Str:=[Str.ofString "aab",Str.ofString "ab"]
theorem Mu:R2.map ls=[[97,97,98],[97,98]]:=by decide+kernel
theorem Nk:Fx R2 20:=hJ (vs:=[17465348356,69861393425,279445573700,18270667024,73082668097,292330672388,69811061776,279244247105,17465360644,69861442577,279445770308,18271453456,73085813825,292343255300,69861393424,279445573697,18270667012,73082668049,292330672196,69811061008,279244244033]) (k:=3) Mu (by decide+kernel)
noncomputable abbrev R3:List Str:=[Str.ofString "abc",Str.ofString "ac",Str.ofString "b"]
theorem Mt:R3.map ls=[[97,98,99],[97,99],[98]]:=by decide+kernel
theorem Nj:Fx R3 9:=hJ (vs:=[25158,100633,140388,37266,149064,71969,25734,102936,149602,74121,34340,137362,25160,100641,140422,37401,149604,74129,34374,137496,25698,102793,149028,71825,102937,71826,37400,137361]) (k:=3) Mt (by decide+kernel)
noncomputable abbrev R4:List Str:=[Str.ofString "abb",Str.ofString "ab"]
theorem Ms:R4.map ls=[[97,98,98],[97,98]]:=by decide+kernel
theorem Ni:Fx R4 20:=hJ (vs:=[87045510213,348182040852,293216535633,73354514756,293418059025,74160608324,296642433297,87058105413,348232421652,293418058833,74160607556,296642430225,87058093125,348232372500,293417862225,74159821124,296639284497,87045510212,348182040849,293216535621,73354514708]) (k:=4) Ms (by decide+kernel)
noncomputable abbrev R5:List Str:=[Str.ofString "abc",Str.ofString "bca",Str.ofString "cab"]
theorem Mr:R5.map ls=[[97,98,99],[98,99,97],[99,97,98]]:=by decide+kernel
theorem Nh:Fx R5 20:=hJ (vs:=[109661684840,438646739361,655075329668,421278063121,585600624710,143379243289,573516973158,95044637080,380178548321,421202565510,585298634264,142171281506,568685126024,75717248545,302868994180,111964348945,447857395782,691917955354,568648565864,75571007905,302284031620,109624498705,438497994822,654480351513,418898150502,576080974232,105300641376,421202565505,585298634246,142171281433,568685125734,75717247384,302868989538,111964330376,447857321505,691917658246,568647377432,75566254177,302265016708,109548439057,438193756230,653263397145,414030333030,556609704344,27415561824,109662247297,438648989190,655084328985,421314060390,585744613784,143955199586,575820798344,104259937825,417039751301,568647377430,75566254168,302265016674,109548438920,438193755681,653263394948,414030324241,556609669190,27415421209,109661684838,438646739352,655075329634,421278062984,585600624161,143379241092,573516964369,95044601926,380178407706,421202003048,585296384417,142162282116,568649128465,75573258310,302293033241,109660505190,438642020760,655056455264,27415421208,109661684833,438646739334,655075329561,421278062694,585600623000,143379236450,573516945800,95044527649,380178110597,421200814614,585291630680,142143267170,568573068680,75269019169,301076076676,104792678929,419170715718,577171235098,380178548322,421202565512,585298634273,142171281540,568685126161,75717249094,302868996377,111964357734,447857430936,691918095968,568649128321,75573257734,302293030937,109660495974,438641983896,655056307810,421201975688,585296274977,142161844357,691917658245,27415421210,380178548320,691917658244,568647377425,75566254150,302265016601,109548438630,438193754520,653263390306,414030305672,556609594913,27415124101,109660496406,438641985624,655056314722,421202003336,585296385569,142162286724,568649146897,75573332038,302293328154]) (k:=3) Mr (by decide+kernel)
noncomputable abbrev R6:List Str:=[Str.ofString "ab",Str.ofString "cd",Str.ofString "ad",Str.ofString "cb"]
theorem Mq:R6.map ls=[[97,98],[99,100],[97,100],[99,98]]:=by decide+kernel
theorem Ng:Fx R6 12:=hJ (vs:=[1784089,7136356,11768211,13518414,3742011,14968044,9540529,4607686,1653531,6614124,9679283,5162702,3873595,15494380,11645873,13029062,1784601,7138404,11776403,13551182,3873081,15492324,11637649,12996166,1653019,6612076,9671091,5129934,3742521,14970084,9548689,4640326,3742009,14968036,9540497,4607558,3742523,14970092,9548721,4640454,3873083,15492332,11637681,12996294,3873593,15494372,11645841,13028934]) (k:=4) Mq (by decide+kernel)
noncomputable abbrev R7:List Str:=[Str.ofString "abab",Str.ofString "a"]
theorem Mp:R7.map ls=[[97,98,97,98],[97]]:=by decide+kernel
theorem Nf:Fx R7 20:=hJ (vs:=[73085817104,292343268417,69861445892,279445783569,18271506500,73086026000,292344104001,69864788228,279459152913,18324983876,73299935505,293199742020,73287340305,293149361220,73299935504,293199742017,73287340292,293149361169,73085816900,292343267600,69861442625,279445770500,18271454225,292343267601,69861442628,279445770513,18271454276]) (k:=3) Mp (by decide+kernel)
noncomputable abbrev R8:List Str:=[Str.ofString "ab",Str.ofString "c",Str.ofString "a"]
theorem Mo:R8.map ls=[[97,98],[99],[97]]:=by decide+kernel
theorem Nd:Fx R8 20:=hJ (vs:=[103373211140,413492844561,554459750470,18815746328,75262985312,301051941249,104696137220,418784548881,575626567750,103483015448,413932061793,556216619398,25843222040,103372888160,413491552641,554454582788,18795075601,75180302406,300721209624,103373210721,413492842886,554459743768,18815719520,75262878081,301051512326,104694421528,418777686112,575599116673,75262985313,301051941254,104696137240,418784548960,575626568065,103483016710,413932066840,556216639584,25843302785,554454582790,18795075608,75180302432,300721209729]) (k:=8) Mo (by decide+kernel)
noncomputable abbrev R9:List Str:=[Str.ofString "ab",Str.ofString "ca",Str.ofString "cd",Str.ofString "ac"]
theorem Mn:R9.map ls=[[97,98],[99,97],[99,100],[97,99]]:=by decide+kernel
theorem Nc:Fx R9 12:=hJ (vs:=[1618354,6473416,9116449,2911366,11645464,13027426,1778059,7112236,11671730,13132488,2198305,8793222,1618459,6473836,9118129,2918086,11672344,13134946,2208139,8832556,1775793,7103174,11635483,12987500,11645467,13027436,1778097,7112390,1775794,7103176,11635489,12987526,1618456,6473826,9118091,2917932,11671729,13132486,2198299,8793196]) (k:=4) Mn (by decide+kernel)
noncomputable abbrev Jp:List Str:=[Str.ofString "aba",Str.ofString "b"]
theorem Jz:Jp.map ls=[[97,98,97],[98]]:=by decide+kernel
theorem Lp:Fx Jp 20:=hJ (vs:=[73300775185,293203100740]) (k:=4) Jz (by decide+kernel)
noncomputable abbrev Jo:List Str:=[Str.ofString "ab",Str.ofString "b"]
theorem Jy:Jo.map ls=[[97,98],[98]]:=by decide+kernel
theorem Lo:Fx Jo 20:=hJ (vs:=[91625968981,366503875925]) (k:=19) Jy (by decide+kernel)
noncomputable abbrev FW:List (List Str × Nat):=[(R0,20),(R1,20),(R2,20),(R3,9),(R4,20),(R5,20),(R6,12),(R7,20),(R8,20),(R9,12),(Jp,20),(Jo,20)]
theorem Ay {i:Nat} {p:List Str × Nat} (h:FW[i]?=some p):Fx p.1 p.2/\1<=p.2/\p.2<=20:=by
 have hm:=mem_of_getElem? h;simp only [mem_cons,not_mem_nil,or_false] at hm;rcases hm with rfl|rfl|rfl|rfl|rfl|rfl|rfl|rfl|rfl|rfl|rfl|rfl
 ·exact ⟨WI,by decide,by decide⟩
 ·exact ⟨Nl,by decide,by decide⟩
 ·exact ⟨Nk,by decide,by decide⟩
 ·exact ⟨Nj,by decide,by decide⟩
 ·exact ⟨Ni,by decide,by decide⟩
 ·exact ⟨Nh,by decide,by decide⟩
 ·exact ⟨Ng,by decide,by decide⟩
 ·exact ⟨Nf,by decide,by decide⟩
 ·exact ⟨Nd,by decide,by decide⟩
 ·exact ⟨Nc,by decide,by decide⟩
 ·exact ⟨Lp,by decide,by decide⟩
 ·exact ⟨Lo,by decide,by decide⟩
open PySem.Spec PyProof.Rows L2 L2.L3
section
variable {K:Fg}
noncomputable def el (p:List Str × Nat):EX K:=lst [tup (p.1.map λw=>cst (.str w)),cst (.int (p.2:Nat))]
noncomputable def Fw (H:Hp) (p:List Str × Nat) (l:Addr):Prop:=∃t,H l=some (.lst [.ref t,.int (p.2:Nat)])/\H t=some (.tup (p.1.map V.str))
theorem Fw.same {H H':Hp} {p:List Str × Nat} {l:Addr} (h:Fw H p l) (e:aC H H'):Fw H' p l:=by
 obtain ⟨t,a,b⟩:=h;exact ⟨t,e _ _ a,e _ _ b⟩
theorem ET {E:XS} {σ:St} {H:Hp}:∀{ws:List Str} {Q:List V->Hp->Prop},Q (ws.map V.str) H->fY (ws.map λw=>(cst (.str w):EX K)) E σ H Q
 |[],_,h=>h
 |w::ws,Q,h=>by
  show fY (ws.map λw=>(cst (.str w):EX K)) E σ H λxs H1=>Q (.str w::xs) H1;exact ET (ws:=ws) h
theorem Li {E:XS} {σ:St} {H:Hp} {p:List Str × Nat} {Q:VK} (hp:p.1.length<=4) (q:∀l H',aC H H'->Fw H' p l->Q (.ref l) H'):(el p:EX K).t E σ H Q:=by
 unfold el;refine MQ ?_;show (tup (p.1.map λw=>cst (.str w)):EX K).t E σ H λx H1=>(cst (.int (p.2:Nat)):EX K).t E σ H1 λy H2=>_;refine MJ (ET ⟨small (by rw[length_map];lia),λt nt=>?_⟩);show 2<=sizeLine/\_;refine ⟨small (by decide),λl nl=>?_⟩;refine q l _ ((aE nt _).trans (aE nl _)) ⟨t,aA,?_⟩;rw[aF (aB aA nl)];exact aA
theorem OT {E:XS} {σ:St}:∀{ps:List (List Str × Nat)} {H:Hp} {Q:List V->Hp->Prop},(∀p∈ps,p.1.length<=4)->(∀(ls:List Addr) (H':Hp),aC H H'->ls.length=ps.length->(∀(i:Nat) (l:Addr) (p:List Str × Nat),ls[i]?=some l->ps[i]?=some p->Fw H' p l)->Q (ls.map V.ref) H')->fY (ps.map (el (K:=K))) E σ H Q
 |[],H,_,_,h=>h [] H (aC.refl _) rfl λi l p hl=>by cases hl
 |p::ps,H,Q,hp,h=>by
  show (el p:EX K).t E σ H λx H1=>fY (ps.map (el (K:=K))) E σ H1 λxs H2=>Q (x::xs) H2;refine Li (hp p mem_cons_self) λl H1 s1 f1=>?_;refine OT (ps:=ps) (λq hq=>hp q (mem_cons_of_mem _ hq)) λls H2 s2 hl hf=>?_;refine h (l::ls) H2 (s1.trans s2) (by rw[length_cons,length_cons,hl]) λi a q ha hq=>?_;cases i with
  |zero=>
   cases ha;cases hq;exact f1.same s2
  |succ i=>exact hf i a q ha hq
structure Cr (H:Hp) (ps:List (List Str × Nat)) (l:Addr) (ls:List Addr):Prop where
 l:H l=some (.lst (ls.map V.ref))
 n:ls.length=ps.length
 f:∀(i:Nat) (a:Addr) (p:List Str × Nat),ls[i]?=some a->ps[i]?=some p->Fw H p a
theorem Cr.same {H H':Hp} {ps:List (List Str × Nat)} {l:Addr} {ls:List Addr} (h:Cr H ps l ls) (e:aC H H'):Cr H' ps l ls:=⟨e _ _ h.l,h.n,λi a p x y=>(h.f i a p x y).same e⟩
theorem WD {E:XS} {σ:St} {H:Hp} {ps:List (List Str × Nat)} {Q:VK} (hp:∀p∈ps,p.1.length<=4) (hn:ps.length<=12) (q:∀(l:Addr) (ls:List Addr) (H':Hp),aC H H'->Cr H' ps l ls->Q (.ref l) H'):(lst (ps.map (el (K:=K)))).t E σ H Q:=by
 refine MQ (OT hp λls H1 s1 hl hf=>⟨small (by rw[length_map];lia),λl nl=>?_⟩);have s2:=aE nl (.lst (ls.map V.ref));exact q l ls _ (s1.trans s2) ⟨aA,hl,λi a p x y=>(hf i a p x y).same s2⟩
theorem BY {E:XS} {σ:St} {H:Hp} {ps qs:List (List Str × Nat)} {l:Addr} {ls:List Addr} {k:Nat} {Q:VK} (hσ:σ[k]?=some (some (.ref l))) (h0:Cr H ps l ls) (hp:∀p∈qs,p.1.length<=4) (hn:ps.length+qs.length<=12) (q:∀(l:Addr) (ls:List Addr) (H':Hp),aC H H'->Cr H' (ps++qs) l ls->Q (.ref l) H'):(bin .Add (var k) (lst (qs.map (el (K:=K))))).t E σ H Q:=by
 refine WE ?_;refine zG hσ ?_;refine WD hp (by lia) λl2 ls2 H1 s1 f1=>?_;have f0:=h0.same s1;refine MX f0.l f1.l (small (by rw[length_map,length_map,f0.n,f1.n];lia)) λr nr=>?_;have s2:=aE nr (.lst (ls.map V.ref++ls2.map V.ref));refine q r (ls++ls2) _ (s1.trans s2) ⟨by rw[aA,map_append],by rw[length_append,length_append,f0.n,f1.n],λi a p x y=>?_⟩;by_cases hi:i<ls.length
 ·rw[getElem?_append_left hi] at x;rw[getElem?_append_left (by have:=f0.n;lia)] at y;exact (f0.f i a p x y).same s2
 ·rw[getElem?_append_right (by lia)] at x;rw[getElem?_append_right (by have:=f0.n;lia),<-f0.n] at y;exact (f1.f _ a p x y).same s2
noncomputable abbrev F1:List (List Str × Nat):=[(R0,20),(R1,20),(R2,20),(R3,9)]
noncomputable abbrev F2:List (List Str × Nat):=[(R4,20),(R5,20),(R6,12)]
noncomputable abbrev F3:List (List Str × Nat):=[(R7,20),(R8,20)]
end
end L2.Na.K31
namespace L2.Na.K44
open PySem PySem.Spec PyProof.Rows L2 L2.L3
structure Sg where
 size:Int
 first:Option Int
 last:Option Int
 gap:Int
 place:Int
noncomputable def oV:Option Int->V
 |none=>.non
 |some i=>.int i
noncomputable def Ck (a b c d e:V):List (Str × V):=[("size",a),("first",b),("last",c),("gap",d),("place",e)]
noncomputable def wD (g:Sg):List (Str × V):=Ck (.int g.size) (oV g.first) (oV g.last) (.int g.gap) (.int g.place)
section
variable {K:Fg}
structure KO (K:Fg):Prop where
 cl:IC K (clsAt K "Sight")
 n1:bS K (clsAt K "Sight") "size"
 n2:bS K (clsAt K "Sight") "first"
 n3:bS K (clsAt K "Sight") "last"
 n4:bS K (clsAt K "Sight") "gap"
 n5:bS K (clsAt K "Sight") "place"
noncomputable def fU (K:Fg) (H:Hp) (x:Addr) (g:Sg):Prop:=∃dx,H x=some (.ins (clsAt K "Sight") dx (wD g))
theorem fU.same {H H':Hp} {x:Addr} {g:Sg} (h:fU K H x g) (e:aC H H'):fU K H' x g:=let ⟨dx,h⟩:=h;⟨dx,e _ _ h⟩
section
variable {H:Hp} {Q:VK} {QH:Hp->Prop} {x:Addr} {g:Sg}
theorem mD (ko:KO K) (h:fU K H x g) (q:Q (.int g.size) H):FU K "size" (.ref x) H Q:=let ⟨dx,h⟩:=h;⟨x,_,dx,_,_,rfl,h,ko.cl,ko.n1,rfl,q⟩
theorem kY (ko:KO K) (h:fU K H x g) (q:Q (oV g.first) H):FU K "first" (.ref x) H Q:=let ⟨dx,h⟩:=h;⟨x,_,dx,_,_,rfl,h,ko.cl,ko.n2,rfl,q⟩
theorem CC (ko:KO K) (h:fU K H x g) (q:Q (oV g.last) H):FU K "last" (.ref x) H Q:=let ⟨dx,h⟩:=h;⟨x,_,dx,_,_,rfl,h,ko.cl,ko.n3,rfl,q⟩
theorem ED (ko:KO K) (h:fU K H x g) (q:Q (.int g.gap) H):FU K "gap" (.ref x) H Q:=let ⟨dx,h⟩:=h;⟨x,_,dx,_,_,rfl,h,ko.cl,ko.n4,rfl,q⟩
theorem EC (ko:KO K) (h:fU K H x g) (q:Q (.int g.place) H):FU K "place" (.ref x) H Q:=let ⟨dx,h⟩:=h;⟨x,_,dx,_,_,rfl,h,ko.cl,ko.n5,rfl,q⟩
theorem YY (ko:KO K) {dx:Addr} (h:H x=some (.ins (clsAt K "Sight") dx (wD g))) {i:Int} (q:QH (upd H x (.ins (clsAt K "Sight") dx (wD {g with size:=i})))):sO K "size" (.int i) (.ref x) H QH:=⟨x,_,dx,_,rfl,h,ko.cl,ko.n1,(by show 5<1000;decide),q⟩
theorem RK (ko:KO K) {dx:Addr} (h:H x=some (.ins (clsAt K "Sight") dx (wD g))) {i:Int} (q:QH (upd H x (.ins (clsAt K "Sight") dx (wD {g with first:=some i})))):sO K "first" (.int i) (.ref x) H QH:=⟨x,_,dx,_,rfl,h,ko.cl,ko.n2,(by show 5<1000;decide),q⟩
theorem YZ (ko:KO K) {dx:Addr} (h:H x=some (.ins (clsAt K "Sight") dx (wD g))) {i:Int} (q:QH (upd H x (.ins (clsAt K "Sight") dx (wD {g with last:=some i})))):sO K "last" (.int i) (.ref x) H QH:=⟨x,_,dx,_,rfl,h,ko.cl,ko.n3,(by show 5<1000;decide),q⟩
theorem Er (ko:KO K) {dx:Addr} (h:H x=some (.ins (clsAt K "Sight") dx (wD g))) {i:Int} (q:QH (upd H x (.ins (clsAt K "Sight") dx (wD {g with gap:=i})))):sO K "gap" (.int i) (.ref x) H QH:=⟨x,_,dx,_,rfl,h,ko.cl,ko.n4,(by show 5<1000;decide),q⟩
theorem RJ (ko:KO K) {dx:Addr} (h:H x=some (.ins (clsAt K "Sight") dx (wD g))) {i:Int} (q:QH (upd H x (.ins (clsAt K "Sight") dx (wD {g with place:=i})))):sO K "place" (.int i) (.ref x) H QH:=⟨x,_,dx,_,rfl,h,ko.cl,ko.n5,(by show 5<1000;decide),q⟩
end
noncomputable def gC (K:Fg):Sp:=λvs H Q _=>∃(x dx:Addr) (a b c d e:V),vs=[.ref x,a,b,c,d,e]/\KO K/\H x=some (.ins (clsAt K "Sight") dx [])/\Q .non (upd H x (.ins (clsAt K "Sight") dx (Ck a b c d e)))
noncomputable def oE (K:Fg):List (SX K):=[kN (var 0) "size" (var 1),kN (var 0) "first" (var 2),kN (var 0) "last" (var 3),kN (var 0) "gap" (var 4),kN (var 0) "place" (var 5)]
theorem SR:∀vs H Q E,gC K vs H Q E->vs.length=6:=by
 rintro vs H Q E ⟨_,_,_,_,_,_,_,rfl,_⟩;rfl
theorem QF:TT (gC K) (oE K) ["self","size","first","last","gap","place"]:=by
 intro vs H Q E h;obtain ⟨x,dx,a,b,c,d,e,rfl,ko,hx,q⟩:=h;unfold oE;walk_at "";refine fN ?_;walk_at "";refine ⟨x,_,dx,_,rfl,hx,ko.cl,ko.n1,(by show 0<1000;decide),?_⟩;walk_at "";refine fN ?_;walk_at "";refine ⟨x,_,dx,_,rfl,aA,ko.cl,ko.n2,(by show 1<1000;decide),?_⟩;rw[nL];walk_at "";refine fN ?_;walk_at "";refine ⟨x,_,dx,_,rfl,aA,ko.cl,ko.n3,(by show 2<1000;decide),?_⟩;rw[nL];walk_at "";refine fN ?_;walk_at "";refine ⟨x,_,dx,_,rfl,aA,ko.cl,ko.n4,(by show 3<1000;decide),?_⟩;rw[nL];walk_at "";refine fN ?_;walk_at "";refine ⟨x,_,dx,_,rfl,aA,ko.cl,ko.n5,(by show 4<1000;decide),?_⟩;rw[nL];exact q
noncomputable def lI (g:Sg) (gap place:Int):Sg:=if g.gap<gap then {g with gap:=gap,place:=place} else g
noncomputable def kE (K:Fg):Sp:=λvs H Q _=>∃(x dx:Addr) (g:Sg) (gap place:Int),vs=[.ref x,.int gap,.int place]/\KO K/\H x=some (.ins (clsAt K "Sight") dx (wD g))/\∀H',(∀b o,b≠x->H b=some o->H' b=some o)->H' x=some (.ins (clsAt K "Sight") dx (wD (lI g gap place)))->Q .non H'
noncomputable def wM (K:Fg):List (SX K):=[rW (cmp .Gt (var 1) (fld (var 0) "gap")) [kN (var 0) "gap" (var 1),kN (var 0) "place" (var 2)] []]
theorem PY:TT (kE K) (wM K) ["sight","gap","place"]:=by
 intro vs H Q E h;obtain ⟨x,dx,g,gap,place,rfl,ko,hx,q⟩:=h;unfold wM;walk_at "";refine cO ?_;walk_at "";refine ED ko ⟨dx,hx⟩ ?_;walk_at "";refine jI (λc=>?_) λc=>?_
 ·walk_at "";refine fN ?_;walk_at "";refine Er ko hx ?_;walk_at "";refine fN ?_;walk_at "";refine RJ ko aA ?_;walk_at "";refine q _ (λb o hb e=>by rw[aF hb,aF hb];exact e) ?_;rw[aA];unfold lI;rw[if_pos c]
 ·walk_at "";refine q H (λb o _ e=>e) ?_;unfold lI;rw[if_neg c];exact hx
end
noncomputable def BQ (w s:Sg):Sg:=
 match s.first,s.last with
 |some f,some l=>
  let w1:=match w.first,w.last with
   |some _,some wl=>lI w (w.size+f - wl) wl
   |_,_=>{w with first:=some (w.size+f)}
  let w2:=lI w1 s.gap (w1.size+s.place)
  {w2 with last:=some (w2.size+l),size:=w2.size+s.size}
 |_,_=>{w with size:=w.size+s.size}
noncomputable def Ci:Sg:=⟨0,none,none,0,0⟩
noncomputable def mT (gs:List Sg):Sg:=gs.foldl BQ Ci
noncomputable def mI (g:Sg):Prop:=(g.first=none/\g.last=none)\/∃f l,g.first=some f/\g.last=some l
theorem lL (g:Sg) (a b:Int):(lI g a b).first=g.first/\(lI g a b).last=g.last:=by
 unfold lI;split<;>exact ⟨rfl,rfl⟩
noncomputable def Jk (w1 s:Sg) (l:Int):Sg:={lI w1 s.gap (w1.size+s.place) with last:=some ((lI w1 s.gap (w1.size+s.place)).size+l),size:=(lI w1 s.gap (w1.size+s.place)).size+s.size}
theorem pY {w s:Sg} (h1:s.first=none) (h2:s.last=none):BQ w s={w with size:=w.size+s.size}:=by
 obtain ⟨a,b,c,d,e⟩:=s;cases h1;cases h2;rfl
theorem vQ {w s:Sg} {f l:Int} (h1:s.first=some f) (h2:s.last=some l) (w1:w.first=none) (w2:w.last=none):BQ w s=Jk {w with first:=some (w.size+f)} s l:=by
 obtain ⟨a,b,c,d,e⟩:=s;obtain ⟨a',b',c',d',e'⟩:=w;cases h1;cases h2;cases w1;cases w2;rfl
theorem vO {w s:Sg} {f l wf wl:Int} (h1:s.first=some f) (h2:s.last=some l) (w1:w.first=some wf) (w2:w.last=some wl):BQ w s=Jk (lI w (w.size+f - wl) wl) s l:=by
 obtain ⟨a,b,c,d,e⟩:=s;obtain ⟨a',b',c',d',e'⟩:=w;cases h1;cases h2;cases w1;cases w2;rfl
theorem gG (w1 s:Sg) (l:Int):(Jk w1 s l).first=w1.first:=(lL w1 s.gap (w1.size+s.place)).1
theorem ZU {w s:Sg} (hw:mI w) (hs:mI s):mI (BQ w s)/\(BQ w s).first.isSome=(w.first.isSome || s.first.isSome):=by
 rcases hs with ⟨s1,s2⟩|⟨f,l,s1,s2⟩
 ·rw[pY s1 s2,s1];refine ⟨hw,?_⟩;show w.first.isSome=_;simp
 ·rcases hw with ⟨w1,w2⟩|⟨wf,wl,w1,w2⟩
  ·rw[vQ s1 s2 w1 w2];exact ⟨.inr ⟨_,_,gG _ _ _,rfl⟩,by rw[gG,s1,w1];rfl⟩
  ·rw[vO s1 s2 w1 w2];have e:=gG (lI w (w.size+f - wl) wl) s l;rw[(lL w (w.size+f - wl) wl).1,w1] at e;exact ⟨.inr ⟨wf,_,e,rfl⟩,by rw[e,w1];rfl⟩
theorem pX:∀(gs:List Sg) (w:Sg),mI w->(∀g∈gs,mI g)->mI (gs.foldl BQ w)/\(gs.foldl BQ w).first.isSome=(w.first.isSome || gs.any λg=>g.first.isSome)
 |[],w,hw,_=>⟨hw,by simp⟩
 |g::gs,w,hw,h=>by
  obtain ⟨a,b⟩:=ZU hw (h g (by simp));obtain ⟨c,d⟩:=pX gs (BQ w g) a λx hx=>h x (by simp [hx]);rw[foldl_cons];refine ⟨c,?_⟩;rw[d,b,any_cons,Bool.or_assoc]
section
variable {K:Fg}
structure Nx (K:Fg) (H:Hp) (p:Addr) (as:List Addr) (gs:List Sg):Prop where
 l:H p=some (.lst (as.map V.ref))
 n:as.length=gs.length
 s:∀(i:Nat) (a:Addr) (g:Sg),as[i]?=some a->gs[i]?=some g->fU K H a g
 o:∀g∈gs,mI g
noncomputable def lN (K:Fg):Sp:=λvs H Q _=>∃(p:Addr) (as:List Addr) (gs:List Sg),vs=[.ref p]/\KO K/\Nx K H p as gs/\∀r H',aC H H'->H r=none->fU K H' r (mT gs)->Q (.ref r) H'
noncomputable def Bp (K:Fg):List (SX K):=
 [rW (cmp .IsNot (fld (var 2) "first") (cst .non))
   [rW (cmp .Is (fld (var 1) "first") (cst .non)) [kN (var 1) "first" (bin .Add (fld (var 1) "size") (fld (var 2) "first"))]
     [ex (call "widen" (kE K) [var 1,bin .Sub (bin .Add (fld (var 1) "size") (fld (var 2) "first")) (fld (var 1) "last"),fld (var 1) "last"])],
    ex (call "widen" (kE K) [var 1,fld (var 2) "gap",bin .Add (fld (var 1) "size") (fld (var 2) "place")]),
    kN (var 1) "last" (bin .Add (fld (var 1) "size") (fld (var 2) "last"))] [],
  kN (var 1) "size" (bin .Add (fld (var 1) "size") (fld (var 2) "size"))]
noncomputable def qZ (K:Fg):List (SX K):=
 [set 1 (Jj "Sight" (gC K) (cst (.int 0)) [cst .non,cst .non,cst (.int 0),cst (.int 0)]),
  mE (jA 2) (iL (var 0)) (Bp K),
  ret (var 1)]
noncomputable abbrev Off1 (x:Addr) (H H':Hp):Prop:=∀b o,b≠x->H b=some o->H' b=some o
theorem Ka {D:Ends} {E:XK} {H:Hp} {p x dx a:Addr} {w s:Sg} (ko:KO K) (hx:H x=some (.ins (clsAt K "Sight") dx (wD w))) (hw:mI w) (ha:fU K H a s) (hs:mI s) (ax:a≠x)
  (q:∀H',Off1 x H H'->H' x=some (.ins (clsAt K "Sight") dx (wD (BQ w s)))->D.nx [some (.ref p),some (.ref x),some (.ref a)] H'):
  lJ (Bp K) (λ_=>E) D [some (.ref p),some (.ref x),some (.ref a)] H:=by
 have fin:∀(w':Sg) (H':Hp),Off1 x H H'->H' x=some (.ins (clsAt K "Sight") dx (wD w'))->{w' with size:=w'.size+s.size}=BQ w s->lJ ([kN (var 1) "size" (bin .Add (fld (var 1) "size") (fld (var 2) "size"))]:List (SX K)) (λ_=>E) D [some (.ref p),some (.ref x),some (.ref a)] H':=λw' H' of h' e=>by
  have ha':fU K H' a s:=let ⟨da,ha⟩:=ha;⟨da,of _ _ ax ha⟩;walk_at "";refine fN ?_;walk_at "";refine cO ?_;walk_at "";refine mD ko ⟨dx,h'⟩ ?_;walk_at "";refine cO ?_;walk_at "";refine mD ko ha' ?_;walk_at "";refine YY ko h' ?_;refine q _ (λb o hb g=>by rw[aF hb];exact of b o hb g) ?_;rw[aA,e]
 have mid:∀(w1:Sg) (H1:Hp) (l:Int),s.last=some l->Off1 x H H1->H1 x=some (.ins (clsAt K "Sight") dx (wD w1))->Jk w1 s l=BQ w s->
   lJ ([ex (call "widen" (kE K) [var 1,fld (var 2) "gap",bin .Add (fld (var 1) "size") (fld (var 2) "place")]),kN (var 1) "last" (bin .Add (fld (var 1) "size") (fld (var 2) "last"))]:List (SX K)) (λ_=>E)
    {D with nx:=lJ [kN (var 1) "size" (bin .Add (fld (var 1) "size") (fld (var 2) "size"))] (λ_=>E) D} [some (.ref p),some (.ref x),some (.ref a)] H1:=λw1 H1 l hl of h1 e=>by
  have ha1:fU K H1 a s:=let ⟨da,ha⟩:=ha;⟨da,of _ _ ax ha⟩;walk_at "";refine cO ?_;walk_at "";refine ED ko ha1 ?_;walk_at "";refine cO ?_;walk_at "";refine mD ko ⟨dx,h1⟩ ?_;walk_at "";refine cO ?_;walk_at "";refine EC ko ha1 ?_;walk_at "";refine ⟨x,dx,w1,_,_,rfl,ko,h1,λH2 of2 h2=>?_⟩;have of12:Off1 x H H2:=λb o hb g=>of2 b o hb (of b o hb g);have ha2:fU K H2 a s:=let ⟨da,ha⟩:=ha;⟨da,of12 _ _ ax ha⟩;walk_at "";refine fN ?_;walk_at "";refine cO ?_;walk_at "";refine mD ko ⟨dx,h2⟩ ?_;walk_at "";refine cO ?_;walk_at "";refine CC ko ha2 ?_;rw[hl];refine EA ?_;walk_at "";refine YZ ko h2 ?_;walk_at "";exact fin _ _ (λb o hb g=>by rw[aF hb];exact of12 b o hb g) aA e
 unfold Bp;walk_at "";refine cO ?_;walk_at "";refine kY ko ha ?_;rcases hs with ⟨s1,s2⟩|⟨f,l,s1,s2⟩
 ·rw[s1];refine zJ ?_;refine BR ?_;refine AG ?_;walk_at "";exact fin w H (λb o _ g=>g) hx (pY s1 s2).symm
 ·rw[s1];refine zJ ?_;refine BR ?_;refine PL ?_;walk_at "";refine cO ?_;walk_at "";refine kY ko ⟨dx,hx⟩ ?_;rcases hw with ⟨w1,w2⟩|⟨wf,wl,w1,w2⟩
  ·rw[w1];refine zJ ?_;refine ME ?_;refine PL ?_;walk_at "";refine fN ?_;walk_at "";refine cO ?_;walk_at "";refine mD ko ⟨dx,hx⟩ ?_;walk_at "";refine cO ?_;walk_at "";refine kY ko ha ?_;rw[s1];refine EA ?_;walk_at "";refine RK ko hx ?_;walk_at "";exact mid _ _ l s2 (λb o hb g=>by rw[aF hb];exact g) aA (vQ s1 s2 w1 w2).symm
  ·rw[w1];refine zJ ?_;refine ME ?_;refine AG ?_;walk_at "";refine cO ?_;walk_at "";refine mD ko ⟨dx,hx⟩ ?_;walk_at "";refine cO ?_;walk_at "";refine kY ko ha ?_;rw[s1];refine EA ?_;walk_at "";refine cO ?_;walk_at "";refine CC ko ⟨dx,hx⟩ ?_;rw[w2];refine VZ ?_;walk_at "";refine cO ?_;walk_at "";refine CC ko ⟨dx,hx⟩ ?_;rw[w2];refine vZ ?_;refine ⟨x,dx,w,_,_,rfl,ko,hx,λH2 of2 h2=>?_⟩;walk_at "";exact mid _ _ l s2 of2 h2 (vO s1 s2 w1 w2).symm
theorem JG:TT (lN K) (qZ K) ["sights","whole","sight"]:=by
 intro vs H Q E h;obtain ⟨p,as,gs,rfl,ko,hL,q⟩:=h;unfold qZ;walk_at "";refine MP ?_;walk_at "";intro x dx nx ndx hne;refine ⟨x,dx,_,_,_,_,_,rfl,ko,aA,rfl,?_⟩;have k1:∀b o,b≠x->b≠dx->H b=some o->(upd (upd (upd H dx (.own x)) x (.ins (clsAt K "Sight") dx [])) x (.ins (clsAt K "Sight") dx (Ck (.int 0) .non .non (.int 0) (.int 0)))) b=some o:=λb o b1 b2 e=>by rw[aF b1,aF b1,aF b2];exact e
 have x1:(upd (upd (upd H dx (.own x)) x (.ins (clsAt K "Sight") dx [])) x (.ins (clsAt K "Sight") dx (Ck (.int 0) .non .non (.int 0) (.int 0)))) x=some (.ins (clsAt K "Sight") dx (wD Ci)):=aA;have S1:aC H (upd (upd (upd H dx (.own x)) x (.ins (clsAt K "Sight") dx [])) x (.ins (clsAt K "Sight") dx (Ck (.int 0) .non .non (.int 0) (.int 0)))):=λb o e=>k1 b o (aB e nx) (aB e ndx) e;revert k1 x1 S1;generalize upd (upd (upd H dx (.own x)) x (.ins (clsAt K "Sight") dx [])) x (.ins (clsAt K "Sight") dx (Ck (.int 0) .non .non (.int 0) (.int 0)))=H1;intro k1 x1 S1;walk_at "";refine gZ (aR.of (S1 _ _ hL.l)) ?_;have px:p≠x:=aB hL.l nx;refine nY (dU (xs:=as.map V.ref)) (λi σ H2=>∃a2,σ=[some (.ref p),some (.ref x),a2]/\Off1 x H1 H2/\H2 x=some (.ins (clsAt K "Sight") dx (wD (mT (gs.take i))))) ⟨none,rfl,λb o _ e=>e,x1⟩ (λi σ H2 _ ⟨_,_,of,_⟩=>aR.of (of _ _ px (S1 _ _ hL.l))) (λi y σ H2 hy hP=>?_) λσ H2 hP=>?_
 ·obtain ⟨a2,rfl,of,hx2⟩:=hP;rw[getElem?_map] at hy;cases e:as[i]? with
  |none=>rw[e] at hy;cases hy
  |some a=>
   rw[e] at hy;cases hy;have hi:i<gs.length:=by have:=(List.getElem?_eq_some_iff.mp e).1;have:=hL.n;lia
   have hg:=getElem?_eq_getElem hi;obtain ⟨da,hA⟩:=hL.s i a _ e hg;have ax:a≠x:=aB hA nx;refine DZ ?_;refine Ka (w:=mT (gs.take i)) (s:=gs[i]) ko hx2 (pX _ _ (.inl ⟨rfl,rfl⟩) λg hg=>hL.o g (mem_of_mem_take hg)).1 ⟨da,of _ _ ax (S1 _ _ hA)⟩ (hL.o _ (getElem_mem hi)) ax λH3 of3 hx3=>?_;refine ⟨_,rfl,λb o hb g=>of3 b o hb (of b o hb g),?_⟩;rw[hx3];unfold mT;rw[take_add_one,hg,foldl_append];rfl
 ·obtain ⟨a2,rfl,of,hx2⟩:=hP;rw[length_map,hL.n,take_of_length_le (Nat.le_refl _)] at hx2;walk_at "";exact q x H2 (λb o e=>of b o (aB e nx) (S1 _ _ e)) nx ⟨dx,hx2⟩
noncomputable def QN (b:Bool):Sg:=if b then ⟨1,some 0,some 0,0,0⟩ else ⟨1,none,none,0,0⟩
noncomputable def gX (K:Fg):Sp:=λvs H Q _=>∃b:Bool,vs=[.bl b]/\KO K/\∀r H',aC H H'->H r=none->fU K H' r (QN b)->Q (.ref r) H'
noncomputable def eV (K:Fg):List (SX K):=
 [rW (var 0) [ret (Jj "Sight" (gC K) (cst (.int 1)) [cst (.int 0),cst (.int 0),cst (.int 0),cst (.int 0)])] [],
  ret (Jj "Sight" (gC K) (cst (.int 1)) [cst .non,cst .non,cst (.int 0),cst (.int 0)])]
theorem DI {H:Hp} {x dx:Addr} {o1 o2 o3:HO} (nx:H x=none) (ndx:H dx=none):aC H (upd (upd (upd H dx o1) x o2) x o3):=λb o e=>by
 rw[aF (aB e nx),aF (aB e nx),aF (aB e ndx)];exact e
theorem oM:TT (gX K) (eV K) ["stands"]:=by
 intro vs H Q E h;obtain ⟨b,rfl,ko,q⟩:=h;unfold eV;walk_at "";cases b with
 |true=>
  refine PL ?_;walk_at "";refine MP ?_;walk_at "";intro x dx nx ndx hne;exact ⟨x,dx,_,_,_,_,_,rfl,ko,aA,rfl,q x _ (DI nx ndx) nx ⟨dx,aA⟩⟩
 |false=>
  refine AG ?_;walk_at "";refine MP ?_;walk_at "";intro x dx nx ndx hne;exact ⟨x,dx,_,_,_,_,_,rfl,ko,aA,rfl,q x _ (DI nx ndx) nx ⟨dx,aA⟩⟩
end
open L2.Na.Pr L2.Na.K41
noncomputable def mS (ns:List (List Nat)) (as:List Addr):List (Key × V):=zipWith (λx a=>(Sum.inr (aH x),V.ref a)) ns as
theorem vN:∀{ns:List (List Nat)} {as:List Addr} {i:Nat} {x:List Nat} {a:Addr},ns.Nodup->ns[i]?=some x->as[i]?=some a->dG (mS ns as) (Sum.inr (aH x))=some (.ref a)
 |[],as,i,x,a,_,h,_=>by simp at h
 |y::ns,[],i,x,a,_,_,h=>by simp at h
 |y::ns,b::as,0,x,a,_,h1,h2=>by
  cases h1;cases h2;exact hZ rfl
 |y::ns,b::as,i+1,x,a,nd,h1,h2=>by
  obtain ⟨n1,n2⟩:=nodup_cons.mp nd;have hm:x∈ns:=mem_of_getElem? (by simpa using h1);have ne:¬(Sum.inr (aH y):Key)=Sum.inr (aH x):=λe=>n1 (by rw[nX (Sum.inr.inj e)];exact hm);show dG ((Sum.inr (aH y),V.ref b)::mS ns as) _=_;rw[fX ne];exact vN n2 (by simpa using h1) (by simpa using h2)
theorem sS:∀(more acc:List (Key × V)),((acc++more).map (·.1)).Nodup->eQ acc more=acc++more
 |[],acc,_=>(append_nil acc).symm
 |kv::more,acc,h=>by
  have hn:dG acc kv.1=none:=by
   unfold dG;rw[List.find?_eq_none.mpr]
   ·rfl
   ·intro p hp;simp only [decide_eq_true_eq];intro e;rw[map_append] at h;exact (List.nodup_append.mp h).2.2 p.1 (mem_map.mpr ⟨p,hp,rfl⟩) kv.1 (by simp) e
  have e:putK acc kv.1 kv.2=acc++[kv]:=by
   unfold putK;rw[if_neg (by rw[jZ,hn];simp)]
  show eQ (putK acc kv.1 kv.2) more=_;rw[e,sS more (acc++[kv]) (by rw[List.append_assoc];exact h),List.append_assoc];rfl
theorem pU:∀{ns:List (List Nat)} {as:List Addr},ns.length=as.length->(mS ns as).map (·.1)=ns.map λx=>(Sum.inr (aH x):Key)
 |[],[],_=>rfl
 |x::ns,a::as,h=>by
  show _::(mS ns as).map (·.1)=_;rw[pU (by simpa using h)];rfl
theorem lW {ns:List (List Nat)} {as:List Addr} (h:ns.length=as.length) (nd:ns.Nodup):eQ [] (mS ns as)=mS ns as:=by
 refine sS (mS ns as) [] ?_;rw[List.nil_append,pU h];exact List.pairwise_map.mpr (nd.imp λh e=>h (nX (Sum.inr.inj e)))
theorem AX {z:Str} (h:1<=z.length):Txt.slice z none (some (-1))=Txt.slice z none (some ((z.length - 1:Nat):Int)):=by
 have e:Builtin.Str.strSliceIndices none (some (-1)) 1 z.length=Builtin.Str.strSliceIndices none (some ((z.length - 1:Nat):Int)) 1 z.length:=by
  unfold Builtin.Str.strSliceIndices;have h1:((-1:Int)<0):=by decide
  have h2:¬(((z.length - 1:Nat):Int)<0):=by lia
  simp only [h1,h2,if_true,if_false];rw[show (-1:Int)+((z.length:Nat):Int)=((z.length - 1:Nat):Int) by lia]
 unfold Txt.slice;rw[e]
section
variable {K:Fg}
theorem jT {σ:St} {H:Hp} {Q:VK} {p D:Addr} {ns:List (List Nat)} {e:EX K} {is:List Nat} (Pa:List Nat->Addr->Hp->Prop) (mono:∀x a H1 H2,a≠D->(∀b o,b≠D->H1 b=some o->H2 b=some o)->Pa x a H1->Pa x a H2)
  (hp:H p=some (.lst (ns.map λy=>V.str (aH y)))) (hD:H D=none) (hz:ns.length<=1000)
  (step:∀x H1 Q',x∈ns->aC H H1->(∀a H3,aC H1 H3->H1 a=none->Pa x a H3->Q' (.ref a) H3)->e.t E0 (some (.str (aH x))::fQ is σ) H1 Q')
  (fin:∀H1 qs as,aC H H1->Mj H1 D qs (mS ns as)->ns.length=as.length->(∀(i:Nat) (a:Addr) (x:List Nat),as[i]?=some a->ns[i]?=some x->Pa x a H1)->Q (.ref D) H1):
  aV (UZ K p) (jA 0:TX K).g (cT (none:Option (EX K))) ((tup [var 0,e]).t E0) 1 is σ D H Q:=by
 have hl:(ns.map λy=>V.str (aH y)).length=ns.length:=length_map _;refine qS (dU (xs:=ns.map λy=>V.str (aH y))) (λi y H1=>∃q a x,y=.ref q/\q≠D/\a≠D/\ns[i]?=some x/\H1 q=some (.tup [.str (aH x),.ref a])/\Pa x a H1) hD (λH1 hS=>aR.of (hS _ _ hp)) (small (by lia)) (λi y H1 H2 hh=>?_) (λi x H1 Q' hx hS hDs fin2=>?_) λH1 ys hS hO hl2 hr=>?_
 ·rintro ⟨q,a,x,e1,e2,e3,e4,e5,e6⟩;exact ⟨q,a,x,e1,e2,e3,e4,hh q _ e2 e5,mono x a H1 H2 e3 hh e6⟩
 ·obtain ⟨o,ho⟩:=hDs;rw[getElem?_map] at hx;cases ex:ns[i]? with
  |none=>rw[ex] at hx;cases hx
  |some x'=>
   rw[ex] at hx;cases hx;refine MJ ?_;refine oA ?_;refine zG rfl ?_;refine oA ?_;refine step x' H1 _ (mem_of_getElem? ex) hS λa H3 s3 na pa=>?_;refine vZ ?_;refine ⟨by show 2<=sizeLine;decide,λq nq=>?_⟩;have s4:=aE nq (.tup [.str (aH x'),.ref a]);have aD:a≠D:=(aB ho na).symm;have qD:q≠D:=(aB (s3 _ _ ho) nq).symm;exact fin2 (.ref q) _ (s3.trans s4) ⟨q,a,x',rfl,qD,aD,ex,aA,mono x' a H3 _ aD (λb o _ g=>s4 b o g) pa⟩
 ·obtain ⟨qs,rfl⟩:=nP ys λy hy=>by
   obtain ⟨i,hi⟩:=getElem?_of_mem hy;obtain ⟨q,_,_,e1,_⟩:=hr i y hi;exact ⟨q,e1⟩
  have ql:qs.length=ns.length:=by rw[length_map] at hl2;rw[hl2,hl]
  have hget:∀(i:Nat) (q:Addr),qs[i]?=some q->∃a x,ns[i]?=some x/\H1 q=some (.tup [.str (aH x),.ref a])/\Pa x a H1:=λi q hi=>by
   obtain ⟨q',a,x,e1,_,_,e4,e5,e6⟩:=hr i (.ref q) (by rw[getElem?_map,hi];rfl);cases e1;exact ⟨a,x,e4,e5,e6⟩
  have main:∀(qs:List Addr) (ns:List (List Nat)),qs.length=ns.length->(∀(i:Nat) (q:Addr),qs[i]?=some q->∃a x,ns[i]?=some x/\H1 q=some (.tup [.str (aH x),.ref a])/\Pa x a H1)->
    ∃as:List Addr,ns.length=as.length/\∀(i:Nat) (q a:Addr) (x:List Nat),qs[i]?=some q->as[i]?=some a->ns[i]?=some x->H1 q=some (.tup [.str (aH x),.ref a])/\Pa x a H1:=by
   intro qs;induction qs with
   |nil=>
    intro ns hl _;cases ns with
    |nil=>exact ⟨[],rfl,λi q a x h=>by simp at h⟩
    |cons _ _=>simp at hl
   |cons q qs ih=>
    intro ns hl hg;cases ns with
    |nil=>simp at hl
    |cons x ns=>
     obtain ⟨as,h1,h2⟩:=ih ns (by simpa using hl) λi q' hi=>by
      obtain ⟨a,x',g1,g2,g3⟩:=hg (i+1) q' (by simpa using hi);exact ⟨a,x',by simpa using g1,g2,g3⟩
     obtain ⟨a,x',g1,g2,g3⟩:=hg 0 q rfl;cases g1;refine ⟨a::as,by simp [h1],λi q' a' x' k1 k2 k3=>?_⟩;cases i with
     |zero=>
      cases k1;cases k2;cases k3;exact ⟨g2,g3⟩
     |succ i=>exact h2 i q' a' x' (by simpa using k1) (by simpa using k2) (by simpa using k3)
  obtain ⟨as,al,ha⟩:=main qs ns ql hget;refine fin H1 qs as hS ⟨hO,by unfold mS;rw[length_zipWith];lia,λi q kv k1 k2=>?_⟩ al λi a x k1 k2=>?_
  ·have hi:i<qs.length:=(List.getElem?_eq_some_iff.mp k1).1;have hn:ns[i]?=some ns[i]:=getElem?_eq_getElem (by lia);have hA:as[i]?=some as[i]:=getElem?_eq_getElem (by lia);unfold mS at k2;rw[getElem?_zipWith,hn,hA] at k2;cases k2;exact (ha i q _ _ k1 hA hn).1
  ·have hi:i<ns.length:=(List.getElem?_eq_some_iff.mp k2).1;exact (ha i qs[i] a x (getElem?_eq_getElem (by lia)) k1 k2).2
end
noncomputable def nC (ws:List Str) (p:List Nat):Nat->List Nat->Sg
 |0,x=>QN (decide (x=p))
 |t+1,x=>mT ((bU ws x).map (nC ws p t))
theorem lS (ws:List Str) (p:List Nat):∀(t:Nat) (x:List Nat),mI (nC ws p t x)/\(nC ws p t x).first.isSome=bt ws p t x
 |0,x=>by
  show mI (QN (decide (x=p)))/\(QN (decide (x=p))).first.isSome=decide (x=p);cases decide (x=p)
  ·exact ⟨.inl ⟨rfl,rfl⟩,rfl⟩
  ·exact ⟨.inr ⟨0,0,rfl,rfl⟩,rfl⟩
 |t+1,x=>by
  have h:=pX ((bU ws x).map (nC ws p t)) Ci (.inl ⟨rfl,rfl⟩) λg hg=>by
   obtain ⟨y,_,rfl⟩:=mem_map.mp hg;exact (lS ws p t y).1
  refine ⟨h.1,h.2.trans ?_⟩;show (false || _)=(bU ws x).any (bt ws p t);rw[Bool.false_or,any_map]
  congr 1
  funext y
  exact (lS ws p t y).2
section
variable {K:Fg}
structure PM (K:Fg) (H:Hp) (d:Addr) (ns:List (List Nat)) (as:List Addr) (gf:List Nat->Sg):Prop where
 d:H d=some (.dK (mS ns as))
 l:ns.length=as.length
 nd:ns.Nodup
 s:∀(i:Nat) (a:Addr) (x:List Nat),as[i]?=some a->ns[i]?=some x->fU K H a (gf x)
theorem PM.same {H H':Hp} {d:Addr} {ns:List (List Nat)} {as:List Addr} {gf:List Nat->Sg} (h:PM K H d ns as gf) (e:aC H H'):PM K H' d ns as gf:=⟨e _ _ h.d,h.l,h.nd,λi a x k1 k2=>(h.s i a x k1 k2).same e⟩
theorem PM.get {H:Hp} {d:Addr} {ns:List (List Nat)} {as:List Addr} {gf:List Nat->Sg} (h:PM K H d ns as gf) {x:List Nat} (hx:x∈ns):∃a,(∀H',aC H H'->eY H' d (.str (aH x)) (some (.ref a)))/\fU K H a (gf x):=by
 obtain ⟨i,hi⟩:=getElem?_of_mem hx;have il:i<ns.length:=(List.getElem?_eq_some_iff.mp hi).1;have hA:as[i]?=some (as[i]'(by have:=h.l;lia)):=getElem?_eq_getElem _;refine ⟨_,λH' e=>?_,h.s i _ x hA hi⟩;have:=eY.k (k:=Sum.inr (aH x)) (e _ _ h.d);rw[vN h.nd hi hA] at this;exact this
noncomputable def gW (K:Fg):Sp:=λvs H Q _=>∃(p d:Addr) (ys ns:List (List Nat)) (as:List Addr) (gf:List Nat->Sg),vs=[.ref p,.ref d]/\KO K/\H p=some (.lst (ys.map λy=>V.str (aH y)))/\ys.length<=1000/\PM K H d ns as gf/\(∀y∈ys,y∈ns)/\(∀y,mI (gf y))/\
 ∀r H',aC H H'->H r=none->fU K H' r (mT (ys.map gf))->Q (.ref r) H'
noncomputable def eU (K:Fg):List (SX K):=
 [ret (call "joined" (lN K) [comp (ix (var 1) (var 0)) (jA 0) (iL (var 0)) ["part"] ["sights"] [1]])]
theorem oK:TT (gW K) (eU K) ["parts","sights"]:=by
 intro vs H Q E h;obtain ⟨p,d,ys,ns,as,gf,rfl,ko,hp,hz,hD,hin,hok,q⟩:=h;have hl:(ys.map λy=>V.str (aH y)).length=ys.length:=length_map _;unfold eU;walk_at "";refine gZ (aR.of hp) ?_;intro D nD;refine qS (dU (xs:=ys.map λy=>V.str (aH y))) (λi y H1=>∃a x,y=.ref a/\a≠D/\ys[i]?=some x/\fU K H1 a (gf x)) nD (λH1 hS=>aR.of (hS _ _ hp)) (small (by lia)) (λi y H1 H2 hh=>?_) (λi x H1 Q' hx hS hDs fin=>?_) λH1 zs hS hO hl2 hr=>?_
 ·rintro ⟨a,x,e1,e2,e3,⟨dx,e4⟩⟩;exact ⟨a,x,e1,e2,e3,dx,hh a _ e2 e4⟩
 ·rw[getElem?_map] at hx;cases ex:ys[i]? with
  |none=>rw[ex] at hx;cases hx
  |some x'=>
   rw[ex] at hx;cases hx;obtain ⟨a,g1,dx,g2⟩:=hD.get (hin x' (mem_of_getElem? ex));walk_at "";refine iK (g1 H1 hS) ?_;exact fin (.ref a) H1 (aC.refl _) ⟨a,x',rfl,aB g2 nD,ex,dx,hS _ _ g2⟩
 ·obtain ⟨bs,rfl⟩:=nP zs λy hy=>by
   obtain ⟨i,hi⟩:=getElem?_of_mem hy;obtain ⟨a,_,e,_⟩:=hr i y hi;exact ⟨a,e⟩
  have bl:bs.length=ys.length:=by rw[length_map] at hl2;rw[hl2,hl]
  walk_at "";refine ⟨D,bs,ys.map gf,rfl,ko,⟨hO,by rw[length_map];exact bl,λi a g k1 k2=>?_,λg hg=>?_⟩,λr H2 s2 nr hr2=>q r H2 (hS.trans s2) (none_of hS nr) hr2⟩
  ·obtain ⟨a',x,e1,_,e3,e4⟩:=hr i (.ref a) (by rw[getElem?_map,k1];rfl);cases e1;rw[getElem?_map,e3] at k2;cases k2;exact e4
  ·obtain ⟨y,_,rfl⟩:=mem_map.mp hg;exact hok y
noncomputable def Co (xs:List Int):Prop:=∀x∈xs,Builtin.Int.intBits x<=2 ^ 20
end
section
variable {K:Fg}
theorem Kq {E:XS} {σ:St} {H:Hp} {Q:VK} {a:EX K} (h:a.t E σ H λx H1=>FT x H1 Q):(neg a).t E σ H Q:=h
theorem Kr {H:Hp} {Q:VK} {i:Int} (h:Q (.int (-i)) H):FT (.int i) H Q:=h
end
theorem DW:∀(z:Str) (xs:List (List Nat)),Ge (.str z) (xs.map λy=>V.str (aH y))=decide (ls z∈xs)
 |z,[]=>rfl
 |z,x::xs=>by
  have ih:=DW z xs;unfold Ge at ih ⊢;rw[map_cons,any_cons,ih];show ((aH x==z) || _)=_;by_cases h:x=ls z
  ·subst h;have e:aH (ls z)=z:=cN (aO _);rw[e,beq_self_eq_true,Bool.true_or,decide_eq_true mem_cons_self]
  ·have e:(aH x==z)=false:=by
    rw[beq_eq_false_iff_ne];intro e;rw[<-e,aO] at h;exact h rfl
   rw[e,Bool.false_or]
   congr 1
   rw[mem_cons,eq_comm (a:=ls z)];simp [h]
theorem HF (xs:List (List Nat)):(xs.map λy=>V.str (aH y)).all iN=true:=by
 rw[List.all_map];exact all_eq_true.mpr λ_ _=>rfl
theorem ES {x:Int} {n k:Nat} (h0:0<=x) (h:x<=(n ^ k:Nat)) (hn:n<=512) (hk:k<=1000):Builtin.Int.intBits x<=2 ^ 20:=by
 refine le_trans (PyProof.Rows.intBits_le (k:=9 * k+1) ?_) (by lia);have a:n ^ k<=512 ^ k:=Nat.pow_le_pow_left hn k;have b:512 ^ k=2 ^ (9 * k):=by rw[Nat.pow_mul]
 have c:2 ^ (9 * k)<2 ^ (9 * k+1):=Nat.pow_lt_pow_right (by decide) (by lia);lia
section
variable {K:Fg}
theorem SU (f:List bL) (as:List Addr):mR f as=mS (bG f) as:=by
 unfold mR mS bG;rw[List.zipWith_map_left]
structure Lx (K:Fg) (H:Hp) (a:Addr) (ws:List Str) (c:Nat) (z:Str):Prop where
 rt:tX K H a ws
 ru:Ru ws
 c1:97<=c
 z1:1<=z.length
 z2:z.length<=300
 ko:KO K
theorem SN {f:List bL} {as:List Addr} (l:f.length=as.length):((mR f as).map λkv=>kV kv.1)=(bG f).map λy=>V.str (aH y):=by
 have e:=pU (ns:=bG f) (as:=as) (by rw[fB];exact l);have:((mR f as).map λkv=>kV kv.1)=((mR f as).map (·.1)).map kV:=by rw[map_map];rfl
 rw[this,SU,e,map_map];rfl
theorem Dp {ws:List Str} (hU:Ru ws) {t:Nat}:∀x∈iA ws t,0<=x/\x<=(100 ^ t:Nat):=λx hx=>by
 obtain ⟨k,hk⟩:=getElem?_of_mem hx;have kl:k<ws.length:=by
  have:=(List.getElem?_eq_some_iff.mp hk).1;rwa [gJ] at this
 have e:sz ws t (97+k)=x:=by
  unfold sz;rw[show 97+k - 97=k by lia,hk];rfl
 have a:=cP hU (c:=97+k) (by lia) (by lia) t;have b:=VC hU (97+k) t;rw[e] at a;lia
end
end L2.Na.K44
namespace L2.Na.K42
open PySem L2.Na.K44
noncomputable def Gp (P:Nat->Prop) (i d:Nat):Prop:=0<d/\P i/\P (i+d)/\∀j,i<j->j<i+d->¬P j
noncomputable def GI (P:Nat->Prop) (a b i d:Nat):Prop:=a<=i/\i+d<b/\Gp P i d
noncomputable def Wg (G:Nat->Nat->Prop) (g pl:Nat):Prop:=(g=0\/G pl g)/\∀i d,G i d->d<g\/(d=g/\pl<=i)
theorem Wg.iff {G G':Nat->Nat->Prop} {g pl:Nat} (h:Wg G g pl) (e:∀i d,G i d↔G' i d):Wg G' g pl:=by
 refine ⟨h.1.imp id (e _ _).mp,λi d hd=>h.2 i d ((e i d).mpr hd)⟩
theorem Wg.add {G G':Nat->Nat->Prop} {g pl g' pl':Nat} (h:Wg G g pl) (h':Wg G' g' pl') (p:∀i d,G' i d->0<d) (o:∀i d i' d',G i d->G' i' d'->i<=i'):
  Wg (λi d=>G i d\/G' i d) (if g<g' then g' else g) (if g<g' then pl' else pl):=by
 by_cases c:g<g'
 ·rw[if_pos c,if_pos c];refine ⟨.inr (.inr (h'.1.resolve_left (by lia))),λi d hd=>?_⟩;rcases hd with hd|hd
  ·have:=h.2 i d hd;lia
  ·exact h'.2 i d hd
 ·rw[if_neg c,if_neg c];refine ⟨h.1.imp id .inl,λi d hd=>?_⟩;rcases hd with hd|hd
  ·exact h.2 i d hd
  ·have a:=h'.2 i d hd;have b:=p i d hd;by_cases e:d=g
   ·have gg:=h.1.resolve_left (by lia);exact .inr ⟨e,o _ _ _ _ gg hd⟩
   ·lia
structure Sm (P:Nat->Prop) (a b:Nat) (s:Sg) (g pl:Nat):Prop where
 le:a<=b
 size:s.size=(b:Int) - (a:Int)
 gap:s.gap=(g:Int)
 place:0<g->s.place=(pl:Int) - (a:Int)
 wg:Wg (GI P a b) g pl
 sn:(s.first=none/\s.last=none/\∀q,a<=q->q<b->¬P q)\/
  ∃f l:Nat,s.first=some ((f:Int) - (a:Int))/\s.last=some ((l:Int) - (a:Int))/\a<=f/\f<=l/\l<b/\P f/\P l/\∀q,a<=q->q<b->P q->f<=q/\q<=l
theorem eI (g:Sg) (a b:Int):(lI g a b).size=g.size:=by
 unfold lI;split<;>rfl
theorem uA {s:Sg} {g g':Nat} (h:s.gap=(g:Int)) (p:Int):(lI s (g':Int) p).gap=((if g<g' then g' else g:Nat):Int):=by
 unfold lI;rw[h];by_cases c:g<g'
 ·rw[if_pos c,if_pos (by lia)]
 ·rw[if_neg c,if_neg (by lia)];exact h
theorem lK {s:Sg} {g g':Nat} (h:s.gap=(g:Int)) (p:Int):(lI s (g':Int) p).place=if g<g' then p else s.place:=by
 unfold lI;rw[h];by_cases c:g<g'
 ·rw[if_pos c,if_pos (by lia)]
 ·rw[if_neg c,if_neg (by lia)]
theorem CA {P:Nat->Prop} {a b i d:Nat} (h:GI P a b i d):0<d:=h.2.2.1
theorem Sm.join {P:Nat->Prop} {a b c:Nat} {w s:Sg} {g pl g' pl':Nat} (h:Sm P a b w g pl) (h':Sm P b c s g' pl'):∃g2 pl2,Sm P a c (BQ w s) g2 pl2:=by
 have ab:=h.le;have bc:=h'.le;rcases h'.sn with ⟨s1,s2,s3⟩|⟨f',l',s1,s2,bf,fl,lc,Pf,Pl,s3⟩
 ·rw[pY s1 s2];refine ⟨g,pl,⟨by lia,?_,h.gap,h.place,h.wg.iff λi d=>?_,?_⟩⟩
  ·show w.size+s.size=_;rw[h.size,h'.size];lia
  ·constructor
   ·exact λk=>⟨k.1,by have:=k.2.1;lia,k.2.2⟩
   ·refine λk=>⟨k.1,?_,k.2.2⟩;refine lt_of_not_le λhle=>s3 (i+d) hle k.2.1 k.2.2.2.2.1
  ·rcases h.sn with ⟨w1,w2,w3⟩|⟨f,l,w1,w2,af,fl,lb,Pf,Pl,w3⟩
   ·refine .inl ⟨w1,w2,λq h1 h2=>?_⟩;by_cases hq:q<b
    ·exact w3 q h1 hq
    ·exact s3 q (by lia) h2
   ·refine .inr ⟨f,l,w1,w2,af,fl,by lia,Pf,Pl,λq h1 h2 hP=>?_⟩;by_cases hq:q<b
    ·exact w3 q h1 hq hP
    ·exact absurd hP (s3 q (by lia) h2)
 ·rcases h.sn with ⟨w1,w2,w3⟩|⟨f,l,w1,w2,af,fl0,lb,Pf0,Pl0,w3⟩
  ·rw[vQ s1 s2 w1 w2];have g0:g=0:=by
    rcases h.wg.1 with e|e
    ·exact e
    ·exact absurd e.2.2.2.1 (w3 pl e.1 (by have:=e.2.1;lia))
   subst g0;have hgap:({w with first:=some (w.size+((f':Int) - (b:Int)))}:Sg).gap=((0:Nat):Int):=h.gap;refine ⟨if 0<g' then g' else 0,if 0<g' then pl' else pl,⟨by lia,?_,?_,λhg=>?_,?_,.inr ⟨f',l',?_,?_,by lia,fl,lc,Pf,Pl,λq h1 h2 hP=>?_⟩⟩⟩
   ·show (lI _ s.gap _).size+s.size=_;rw[eI];show w.size+s.size=_;rw[h.size,h'.size];lia
   ·show (lI _ s.gap _).gap=_;rw[h'.gap];exact uA hgap _
   ·show (lI _ s.gap _).place=_;have g1:0<g':=by
     by_cases z:0<g'
     ·exact z
     ·rw[if_neg z] at hg;lia
    rw[h'.gap,lK hgap,if_pos g1,if_pos g1];show w.size+s.place=_;rw[h.size,h'.place g1];lia
   ·refine ((h.wg.add h'.wg (λi d k=>CA k) λi d i' d' k k'=>absurd k.2.2.2.1 (w3 i k.1 (by have:=k.2.1;lia))).iff λi d=>?_);constructor
    ·rintro (k|k)
     ·exact absurd k.2.2.2.1 (w3 i k.1 (by have:=k.2.1;lia))
     ·exact ⟨by have:=k.1;lia,k.2.1,k.2.2⟩
    ·refine λk=>.inr ⟨le_of_not_lt λhlt=>w3 i k.1 hlt k.2.2.2.1,k.2.1,k.2.2⟩
   ·rw[gG];show some (w.size+_)=_;rw[h.size]
    congr 1
    lia
   ·show some ((lI _ s.gap _).size+_)=_;rw[eI];show some (w.size+_)=_;rw[h.size]
    congr 1
    lia
   ·have hq:b<=q:=le_of_not_lt λhlt=>w3 q h1 hlt hP;exact s3 q hq h2 hP
  ·rw[vO s1 s2 w1 w2];have ed:w.size+((f':Int) - (b:Int)) - ((l:Int) - (a:Int))=((f' - l:Nat):Int):=by
    rw[h.size];lia
   rw[ed];have hc:Wg (λi d=>i=l/\d=f' - l) (f' - l) l:=⟨.inr ⟨rfl,rfl⟩,λi d ⟨e1,e2⟩=>.inr ⟨e2,by lia⟩⟩;have cg:Gp P l (f' - l):=⟨by lia,Pl0,by rw[show l+(f' - l)=f' by lia];exact Pf,λj h1 h2 hP=>by
    by_cases hj:j<b
    ·have:=(w3 j (by lia) hj hP).2
     lia
    ·have:=(s3 j (by lia) (by lia) hP).1
     lia⟩
   have W1:=h.wg.add hc (λi d ⟨_,e⟩=>by lia) λi d i' d' k ⟨e,_⟩=>by
    have:=(w3 i k.1 (by have:=k.2.1;lia) k.2.2.2.1).2;lia
   have W2:=W1.add h'.wg (λi d k=>CA k) λi d i' d' k k'=>by
    have:=k'.1;rcases k with k|⟨k,_⟩
    ·have:=k.2.1;lia
    ·lia
   have hg1:(lI w ((f' - l:Nat):Int) ((l:Int) - (a:Int))).gap=((if g<f' - l then f' - l else g:Nat):Int):=uA h.gap _;refine ⟨_,_,⟨by lia,?_,?_,λhg=>?_,W2.iff λi d=>?_,.inr ⟨f,l',?_,?_,af,by lia,lc,Pf0,Pl,λq h1 h2 hP=>?_⟩⟩⟩
   ·show (lI _ s.gap _).size+s.size=_;rw[eI,eI,h.size,h'.size];lia
   ·show (lI _ s.gap _).gap=_;rw[h'.gap];exact uA hg1 _
   ·show (lI _ s.gap _).place=_;rw[h'.gap,lK hg1,eI,h.size];by_cases c1:(if g<f' - l then f' - l else g)<g'
    ·rw[if_pos c1,if_pos c1,h'.place (by lia)];lia
    ·rw[if_neg c1,if_neg c1,lK h.gap];rw[if_neg c1] at hg;by_cases c2:g<f' - l
     ·rw[if_pos c2,if_pos c2]
     ·rw[if_neg c2,if_neg c2];rw[if_neg c2] at hg;exact h.place hg
   ·constructor
    ·rintro ((k|⟨k1,k2⟩)|k)
     ·exact ⟨k.1,by have:=k.2.1;lia,k.2.2⟩
     ·subst k1 k2;exact ⟨by lia,by lia,cg⟩
     ·exact ⟨by have:=k.1;lia,k.2.1,k.2.2⟩
    ·rintro ⟨k1,k2,k3⟩;by_cases c1:i+d<b
     ·exact .inl (.inl ⟨k1,c1,k3⟩)
     ·by_cases c2:b<=i
      ·exact .inr ⟨c2,k2,k3⟩
      ·have i1:=(w3 i k1 (by lia) k3.2.1).2;have i2:=(s3 (i+d) (by lia) k2 k3.2.2.1).1;have e1:i=l:=by
        by_cases z:i=l
        ·exact z
        ·exact absurd Pl0 (k3.2.2.2 l (by lia) (by lia))
       have e2:f'=i+d:=by
        by_cases z:f'=i+d
        ·exact z
        ·exact absurd Pf (k3.2.2.2 f' (by lia) (by lia))
       exact .inl (.inr ⟨e1,by lia⟩)
   ·rw[gG,(lL w _ _).1,w1]
   ·show some ((lI _ s.gap _).size+_)=_;rw[eI,eI,h.size]
    congr 1
    lia
   ·by_cases hq:q<b
    ·have:=(w3 q h1 hq hP).1;lia
    ·have:=(s3 q (by lia) h2 hP).2;lia
theorem DF (P:Nat->Prop) (a:Nat):Sm P a a Ci 0 0:=⟨Nat.le_refl _,by show (0:Int)=_;lia,rfl,λh=>by lia,⟨.inl rfl,λi d k=>by have:=k.1;have:=k.2.1;lia⟩,.inl ⟨rfl,rfl,λq h1 h2=>by lia⟩⟩
theorem XI {P:Nat->Prop} {a:Nat} {b:Bool} (h:b=true↔P a):Sm P a (a+1) (QN b) 0 0:=by
 refine ⟨by lia,?_,?_,λh=>by lia,⟨.inl rfl,λi d k=>?_⟩,?_⟩
 ·cases b<;>(show (1:Int)=_;lia)
 ·cases b<;>rfl
 ·have h1:=k.1;have h2:=k.2.1;have h3:=k.2.2.1;lia
 ·cases b with
  |false=>
   refine .inl ⟨rfl,rfl,λq h1 h2 hP=>?_⟩;have e:q=a:=by lia
   subst e;exact Bool.false_ne_true (h.mpr hP)
  |true=>
   have hP:=h.mp rfl;refine .inr ⟨a,a,?_,?_,Nat.le_refl _,Nat.le_refl _,by lia,hP,hP,λq h1 h2 _=>by lia⟩
   ·show some (0:Int)=_
    congr 1
    lia
   ·show some (0:Int)=_
    congr 1
    lia
theorem uL {P:Nat->Prop} {at_:Nat->Nat}:∀(gs:List Sg) (k:Nat) (a:Nat) (w:Sg) (g pl:Nat),Sm P a (at_ k) w g pl->(∀i s,gs[i]?=some s->∃g pl,Sm P (at_ (k+i)) (at_ (k+i+1)) s g pl)->∃g pl,Sm P a (at_ (k+gs.length)) (gs.foldl BQ w) g pl
 |[],k,a,w,g,pl,h,_=>⟨g,pl,h⟩
 |s::gs,k,a,w,g,pl,h,hs=>by
  obtain ⟨g1,p1,h1⟩:=hs 0 s rfl;obtain ⟨g2,p2,h2⟩:=h.join h1;have:=uL gs (k+1) a (BQ w s) g2 p2 h2 λi s' hi=>by
   have:=hs (i+1) s' hi;rw[show k+(i+1)=k+1+i by lia] at this;exact this
  rw[show k+1+gs.length=k+(s::gs).length by rw[length_cons];lia] at this;exact this
open L2.Na.K41 L2.Na.Pr
section
variable {ws:List Str} {c L:Nat}
theorem RI (hU:Ru ws) (hL:1<=L) (h1:97<=c) (h2:c - 97<ws.length) (hg:aK ws c=true) (n j:Nat) (hj:j<(wd ws (ew ws c n)).length):(bU ws (str ws c n L))[j]?=some (str ws c (Fl ws c n+j) L):=by
 have hj':j<(wd ws ((str ws c n L).headD 0)).length:=by rw[fZ n hL];exact hj
 have e:=OB hU hL h1 h2 hg n j hj;rw[wJ (x:=dY ws c L n) hj'] at e;have e2:((aI ws (str ws c n L)).drop j).take (str ws c n L).length=str ws c (Fl ws c n+j) L:=congrArg Prod.fst (Option.some.inj e);unfold bU;rw[getElem?_map,getElem?_range hj',<-e2];rfl
theorem yH (n:Nat) (hL:1<=L):(bU ws (str ws c n L)).length=(wd ws (ew ws c n)).length:=by
 unfold bU;rw[length_map,length_range,fZ n hL]
noncomputable def rG (ws:List Str) (c:Nat):Nat->Nat->Nat
 |0,n=>n
 |t+1,n=>rG ws c t (Fl ws c n)
theorem AE:∀(t:Nat) {m n:Nat},m<=n->rG ws c t m<=rG ws c t n
 |0,_,_,h=>h
 |t+1,_,_,h=>AE t (wZ h)
theorem uP (hU:Ru ws) (hL:1<=L) (h1:97<=c) (h2:c - 97<ws.length) (hg:aK ws c=true) (p:List Nat):∀(t n:Nat),∃g pl,Sm (λq=>str ws c q L=p) (rG ws c t n) (rG ws c t (n+1)) (nC ws p t (str ws c n L)) g pl
 |0,n=>⟨0,0,XI decide_eq_true_iff⟩
 |t+1,n=>by
  have e:rG ws c (t+1) (n+1)=rG ws c t (Fl ws c n+(0+((bU ws (str ws c n L)).map (nC ws p t)).length)):=by
   show rG ws c t (Fl ws c (n+1))=_;rw[lH,length_map,yH n hL,zero_add]
  rw[e];refine uL (at_:=λk=>rG ws c t (Fl ws c n+k)) _ 0 _ Ci 0 0 (DF _ _) λi s hi=>?_;rw[getElem?_map] at hi;have hil:i<(wd ws (ew ws c n)).length:=by
   rw[<-yH (L:=L) n hL];exact lt_of_not_le λhle=>by rw[List.getElem?_eq_none hle] at hi;cases hi
  rw[RI hU hL h1 h2 hg n i hil] at hi;cases hi;have:=uP hU hL h1 h2 hg p t (Fl ws c n+i);rw[zero_add];exact this
theorem Sm.has {P:Nat->Prop} {a b:Nat} {s:Sg} {g pl:Nat} (h:Sm P a b s g pl) (e:s.first.isSome=true):∃q,a<=q/\q<b/\P q:=by
 rcases h.sn with ⟨e1,_⟩|⟨f,l,_,_,k1,k2,k3,k4,_⟩
 ·rw[e1] at e;cases e
 ·exact ⟨f,k1,by lia,k4⟩
theorem NC (hU:Ru ws) (hL:1<=L) (h1:97<=c) (h2:c - 97<ws.length) (hg:aK ws c=true) {p:List Nat} {t n:Nat} (hb:bt ws p t (str ws c n L)=true):∃q,rG ws c t n<=q/\q<rG ws c t (n+1)/\str ws c q L=p:=by
 obtain ⟨g,pl,h⟩:=uP hU hL h1 h2 hg p t n;exact h.has (by rw[(lS ws p t _).2];exact hb)
theorem Bf (hU:Ru ws) (h1:97<=c) (h2:c - 97<ws.length) (hg:aK ws c=true) (t n:Nat):dot (bJ ws.length (aH (str ws c 0 n))) (iA ws t)=((rG ws c t n:Nat):Int):=by
 have lt:∀n,bI ws (str ws c 0 n):=λn=>L2.Na.dE hU h1 h2 hg (k:=n) (n:=0) (m:=n) (by have:=vJ hU h1 h2 hg n;lia);have d:=qP (ds:=iA ws t) (z:=aH (str ws c 0 n)) (by rw[gJ];exact (lt n).isW);rw[gJ] at d;rw[d];have e:sg (iA ws t) (aH (str ws c 0 n))=aN ws t (str ws c 0 n):=by
  unfold sg;rw[aO];rfl
 rw[e];have key:∀t n,aN ws t (str ws c 0 n)=((rG ws c t n:Nat):Int):=by
  intro t;induction t with
  |zero=>
   intro n;rw[gK (lt n),str_len];rfl
  |succ t ih=>
   intro n;have o:=(iZ hU h1 h2 hg (k:=n) (n:=0) (m:=n) (by have:=vJ hU h1 h2 hg n;lia)).1;have o:str ws c 0 (Fl ws c n)=aI ws (str ws c 0 n):=o;rw[<-iX (lt n),<-o];exact ih (Fl ws c n)
 exact key t n
theorem Wg.add2 {G G':Nat->Nat->Prop} {g pl g' pl':Nat} (h:Wg G g pl) (h':Wg G' g' pl') (p:∀i d,G' i d->0<d) (o:∀i' d',G' i' d'->G i' d'\/∀i d,G i d->i+d<=i'+d'):
  Wg (λi d=>G i d\/G' i d) (if g<g' then g' else g) (if g<g' then pl' else pl):=by
 by_cases c:g<g'
 ·rw[if_pos c,if_pos c];refine ⟨.inr (.inr (h'.1.resolve_left (by lia))),λi d hd=>?_⟩;rcases hd with hd|hd
  ·have:=h.2 i d hd;lia
  ·exact h'.2 i d hd
 ·rw[if_neg c,if_neg c];refine ⟨h.1.imp id .inl,λi d hd=>?_⟩;rcases hd with hd|hd
  ·exact h.2 i d hd
  ·have a:=h'.2 i d hd;have b:=p i d hd;by_cases e:d=g
   ·have gg:=h.1.resolve_left (by lia);rcases o i d hd with k|k
    ·exact h.2 i d k
    ·have:=k _ _ gg;exact .inr ⟨e,by lia⟩
   ·lia
noncomputable def AJ (gf:List Nat->Sg) (szl:List Int) (b:Int × Int) (p:bL):Int × Int:=
 let s:=mT [gf (p.1.take (p.1.length - 1)),gf (p.1.drop 1)]
 if b.1<s.gap then (s.gap,dot p.2 szl+s.place) else b
noncomputable def AF (gf:List Nat->Sg) (szl:List Int) (f:List bL):Int × Int:=f.foldl (AJ gf szl) (0,0)
noncomputable def GN (ws:List Str) (c L t:Nat) (p:List Nat) (ns:List Nat) (i d:Nat):Prop:=∃n∈ns,GI (λq=>str ws c q L=p) (rG ws c t n) (rG ws c t (n+2)) i d
theorem WZ (hU:Ru ws) (hL:1<=L) (h1:97<=c) (h2:c - 97<ws.length) (hg:aK ws c=true) (p:List Nat) (t n:Nat):∃g pl,Sm (λq=>str ws c q L=p) (rG ws c t n) (rG ws c t (n+2)) (mT [nC ws p t (str ws c n L),nC ws p t (str ws c (n+1) L)]) g pl:=by
 refine uL (at_:=λk=>rG ws c t (n+k)) [nC ws p t (str ws c n L),nC ws p t (str ws c (n+1) L)] 0 _ Ci 0 0 (DF _ _) λi s hi=>?_
 match i,hi with
 |0,hi=>
  cases hi;exact uP hU hL h1 h2 hg p t n
 |1,hi=>
  cases hi;exact uP hU hL h1 h2 hg p t (n+1)
 |i+2,hi=>cases hi
theorem IJ (hU:Ru ws) (hL:1<=L) (h1:97<=c) (h2:c - 97<ws.length) (hg:aK ws c=true) (p:List Nat) (t:Nat):∀(ms ns:List Nat) (g pl:Nat),(ns++ms).Pairwise (·<·)->Wg (GN ws c L t p ns) g pl->
  ∃g2 pl2:Nat,(ms.map (dY ws c (L+1))).foldl (AJ (nC ws p t) (iA ws t)) ((g:Int),(pl:Int))=((g2:Int),(pl2:Int))/\Wg (GN ws c L t p (ns++ms)) g2 pl2
 |[],ns,g,pl,_,h=>⟨g,pl,rfl,by rw[append_nil];exact h⟩
 |n::ms,ns,g,pl,hp,h=>by
  obtain ⟨g',pl',S⟩:=WZ hU hL h1 h2 hg p t n;have e1:(dY ws c (L+1) n).1.take ((dY ws c (L+1) n).1.length - 1)=str ws c n L:=by
   show (str ws c n (L+1)).take ((str ws c n (L+1)).length - 1)=_;rw[str_len,Nat.add_sub_cancel];have:=cA ws c n (L+1) 0 L (by lia);rw[drop_zero,Nat.add_zero] at this;exact this
  have e2:(dY ws c (L+1) n).1.drop 1=str ws c (n+1) L:=by
   show (str ws c n (L+1)).drop 1=_;have:=cA ws c n (L+1) 1 L (by lia);rw[take_of_length_le (by rw[length_drop,str_len];lia)] at this;exact this
  have es:AJ (nC ws p t) (iA ws t) ((g:Int),(pl:Int)) (dY ws c (L+1) n)=(((if g<g' then g' else g:Nat):Int),((if g<g' then pl' else pl:Nat):Int)):=by
   unfold AJ;dsimp only;rw[e1,e2,S.gap];by_cases k:g<g'
   ·rw[if_pos (show ((g:Nat):Int)<(g':Int) by lia),if_pos k,if_pos k,S.place (by lia)];show (_,dot (bJ ws.length (aH (str ws c 0 n))) (iA ws t)+_)=_;rw[Bf hU h1 h2 hg]
    congr 1
    lia
   ·rw[if_neg (show ¬((g:Nat):Int)<(g':Int) by lia),if_neg k,if_neg k]
  rw[map_cons,foldl_cons,es];have lt:∀m∈ns,m<n:=λm hm=>(List.pairwise_append.mp hp).2.2 m hm n mem_cons_self;have W:=(h.add2 S.wg (λi d k=>CA k) λi' d' k=>by
   by_cases z:∃m∈ns,i'+d'<rG ws c t (m+2)
   ·obtain ⟨m,hm,z⟩:=z
    refine .inl ⟨m,hm,?_,z,k.2.2⟩
    have:=AE (ws:=ws) (c:=c) t (le_of_lt (lt m hm))
    have:=k.1
    lia
   ·refine .inr λi d ⟨m,hm,q⟩=>?_
    have a:=q.2.1
    have b:¬i'+d'<rG ws c t (m+2):=λy=>z ⟨m,hm,y⟩
    lia).iff (G':=GN ws c L t p (ns++[n])) λi d=>by
     unfold GN;constructor
     ·rintro (⟨m,hm,q⟩|q)
      ·exact ⟨m,mem_append.mpr (.inl hm),q⟩
      ·exact ⟨n,mem_append.mpr (.inr mem_cons_self),q⟩
     ·rintro ⟨m,hm,q⟩;rcases mem_append.mp hm with hm|hm
      ·exact .inl ⟨m,hm,q⟩
      ·have:m=n:=by simpa using hm
       subst this;exact .inr q
  have r:=IJ hU hL h1 h2 hg p t ms (ns++[n]) _ _ (by rw[List.append_assoc];exact hp) W;rw[List.append_assoc] at r;exact r
theorem NL {P:Nat->Prop}:∀(k q1:Nat),P q1->P (q1+k+1)->∃d,Gp P q1 d/\d<=k+1
 |0,q1,h1,h2=>⟨1,⟨by lia,h1,h2,λj a b=>by lia⟩,by lia⟩
 |k+1,q1,h1,h2=>by
  by_cases e:∃j,j<=k/\P (q1+j+1)
  ·obtain ⟨j,hj,hP⟩:=e;obtain ⟨d,hd,hle⟩:=NL j q1 h1 hP;exact ⟨d,hd,by lia⟩
  ·refine ⟨k+1+1,⟨by lia,h1,h2,λj a b hP=>e ⟨j - q1 - 1,by lia,?_⟩⟩,by lia⟩;rw[show q1+(j - q1 - 1)+1=j by lia];exact hP
theorem IK (hU:Ru ws) (hL:1<=L) (h1:97<=c) (h2:c - 97<ws.length) (hg:aK ws c=true) {p:List Nat} {t:Nat} (hb:∀n,bt ws p t (str ws c n L)=true):
  ∃(ns:List Nat) (x y:Nat),AF (nC ws p t) (iA ws t) (aW ws c (L+1))=((x:Int),(y:Int))/\aW ws c (L+1)=ns.map (dY ws c (L+1))/\0<x/\Gp (λq=>str ws c q L=p) y x/\Wg (GN ws c L t p ns) x y:=by
 obtain ⟨ns,I⟩:=oS hU (L:=L+1) (by lia) h1 h2 hg 300;have ea:aW ws c (L+1)=ns.map (dY ws c (L+1)):=I.e;obtain ⟨x,y,e,W⟩:=IJ hU hL h1 h2 hg p t ns [] 0 0 I.up ⟨.inl rfl,λi d ⟨n,hn,_⟩=>nomatch hn⟩;have W:Wg (GN ws c L t p ns) x y:=W;have hx:0<x:=by
  cases hns:ns with
  |nil=>
   have hm:=kD (ws:=ws) (f0:=f0 ws c (L+1)) (i:=0) (k:=300) (zero_le _) (y:=str ws c 0 (L+1)) (by simp [aJ,f0,bG]);have hm:str ws c 0 (L+1)∈bG (aW ws c (L+1)):=hm;rw[ea,hns] at hm;cases hm
  |cons n ms=>
   obtain ⟨q1,a1,a2,a3⟩:=NC hU hL h1 h2 hg (hb n);obtain ⟨q2,b1,b2,b3⟩:=NC hU hL h1 h2 hg (hb (n+1));obtain ⟨d,hd,hle⟩:=NL (P:=λq=>str ws c q L=p) (q2 - q1 - 1) q1 a3 (by
    show str ws c (q1+(q2 - q1 - 1)+1) L=p
    rw[show q1+(q2 - q1 - 1)+1=q2 by lia]
    exact b3)
   have hq:rG ws c t (n+1+1)=rG ws c t (n+2):=rfl;have:=W.2 q1 d ⟨n,by rw[hns];exact mem_cons_self,a1,by lia,hd⟩;have:=hd.1;lia
 refine ⟨ns,x,y,by unfold AF;rw[ea];exact e,ea,hx,?_,W⟩;obtain ⟨n,_,k⟩:=W.1.resolve_left (by lia);exact k.2.2
end
structure CT (ws:List Str) (s:Nat):Prop where
 cyc:∀(k:Nat) (w:Str),ws[k]?=some w->97+(k+1) % ws.length∈ls w
 st:∀w:Str,ws[s]?=some w->∃y,ls w=(97+s)::y/\97+(s+1) % ws.length∈y
 lt:s<ws.length
section
variable {ws:List Str} {s:Nat}
theorem CT.go (h:CT ws s):∀(d k:Nat),k<ws.length->Mx.rF (Rw ws) d k ((k+d) % ws.length)
 |0,k,hk=>(Nat.mod_eq_of_lt hk).symm
 |d+1,k,hk=>by
  have r:=h.go d ((k+1) % ws.length) (mod_lt _ (by lia));rw[Nat.mod_add_mod,show k+1+d=k+(d+1) by lia] at r;exact ⟨(k+1) % ws.length,⟨ws[k],getElem?_eq_getElem hk,h.cyc k _ (getElem?_eq_getElem hk)⟩,r⟩
theorem CT.stay (h:CT ws s):∀d,Mx.rF (Rw ws) d s s
 |0=>rfl
 |d+1=>by
  have hs:=h.lt;obtain ⟨y,e,_⟩:=h.st ws[s] (getElem?_eq_getElem hs);exact ⟨s,⟨ws[s],getElem?_eq_getElem hs,by rw[e];exact mem_cons_self⟩,h.stay d⟩
theorem CT.to (h:CT ws s) (h4:ws.length<=4) {i j:Nat} (hi:i<ws.length) (hj:j<ws.length):∃d,d<=3/\Mx.rF (Rw ws) d i j:=by
 by_cases c:i<=j
 ·refine ⟨j - i,by lia,?_⟩;have r:=h.go (j - i) i hi;rw[show i+(j - i)=j by lia,Nat.mod_eq_of_lt hj] at r;exact r
 ·refine ⟨j+ws.length - i,by lia,?_⟩;have r:=h.go (j+ws.length - i) i hi;rw[show i+(j+ws.length - i)=j+ws.length by lia,Nat.add_mod_right,Nat.mod_eq_of_lt hj] at r;exact r
theorem CT.mx (h:CT ws s) (hU:Ru ws):LJ ws=true:=by
 have f:Mx.Full (Rw ws) ws.length 10:=λi j hi hj=>by
  obtain ⟨d1,k1,r1⟩:=h.to hU.four hi h.lt;obtain ⟨d2,k2,r2⟩:=h.to hU.four h.lt hj;have r:=r1.add ((h.stay (10 - d1 - d2)).add r2);rw[show d1+(10 - d1 - d2+d2)=10 by lia] at r;exact r
 have f10:=(EB hU (k:=10)).mpr f;unfold LJ;rw[all_eq_true];exact λi hi=>decide_eq_true (f10 i (mem_range.mp hi))
theorem CT.gr (h:CT ws s):aK ws (97+s)=true:=by
 have hs:=h.lt;obtain ⟨y,e,hy⟩:=h.st ws[s] (getElem?_eq_getElem hs);have g1:1<(ws[s]).length:=by
  rw[<-aP,e,length_cons];have:=List.length_pos_of_mem hy;lia
 have g2:(ls ws[s])[0]?=some (97+s):=by
  rw[e];rfl
 unfold aK;rw[Nat.add_sub_cancel_left,getElem?_eq_getElem hs];show (decide (97<=97+s)&&(decide (1<(ws[s]).length)&&decide ((ls ws[s])[0]?=some (97+s))))=true;rw[decide_eq_true (show 97<=97+s by lia),decide_eq_true g1,decide_eq_true g2];rfl
theorem lX {k:Nat}:∀{l:List Nat} {d:Nat},(∀c∈l,0<=sz ws k c)->d∈l->sz ws k d<=aN ws k l
 |c::l,d,h,hd=>by
  have hl:∀{l:List Nat},(∀c∈l,0<=sz ws k c)->0<=aN ws k l:=by
   intro l;induction l with
   |nil=>exact λ_=>Int.le_refl _
   |cons a l ih=>
    intro h;have:=ih λc hc=>h c (mem_cons_of_mem _ hc);have:=h a mem_cons_self;rw[dB];lia
  have h0:=h c mem_cons_self;have h1:=hl λc hc=>h c (mem_cons_of_mem _ hc);rw[dB];rcases mem_cons.mp hd with rfl|hd
  ·lia
  ·have:=lX (k:=k) (λc hc=>h c (mem_cons_of_mem _ hc)) hd;lia
theorem VE (hU:Ru ws) {k i:Nat} (hi:i<ws.length):∀c∈wd ws (97+i),0<=sz ws k c:=λc hc=>by
 have:=uH hU k c (hU.sign (c:=97+i) (by lia) hc).2;lia
theorem uT (hU:Ru ws):∀{d i j:Nat},i<ws.length->Mx.rF (Rw ws) d i j->∀k,sz ws k (97+j)<=sz ws (k+d) (97+i)
 |0,i,j,_,h,k=>by
  have h:i=j:=h;rw[h];exact Int.le_refl _
 |d+1,i,j,hi,⟨m,⟨w,hw,hm⟩,r⟩,k=>by
  have e:wd ws (97+i)=ls w:=by
   unfold wd;rw[Nat.add_sub_cancel_left,hw];rfl
  have hml:m<ws.length:=by
   have:=(hU.sign (c:=97+i) (d:=97+m) (by lia) (by rw[e];exact hm)).2;lia
  have a:=uT hU hml r k;have b:=lX (k:=k+d) (VE hU hi) (d:=97+m) (by rw[e];exact hm);rw[<-eZ (by lia)] at b;rw[show k+(d+1)=k+d+1 by lia];lia
theorem CT.two (h:CT ws s) (hU:Ru ws) (t:Nat):2 * sz ws t (97+s)<=sz ws (t+4) (97+s):=by
 have h4:=hU.four;have hs:=h.lt;obtain ⟨y,e,hy⟩:=h.st ws[s] (getElem?_eq_getElem hs);have ew:wd ws (97+s)=(97+s)::y:=by
  rw[<-e];unfold wd;rw[Nat.add_sub_cancel_left,getElem?_eq_getElem hs];rfl
 have e1:sz ws (t+4) (97+s)=sz ws (t+3) (97+s)+aN ws (t+3) y:=by
  rw[eZ (k:=t+3) (by lia),ew,dB]
 have nn:=VE hU (k:=t+3) hs;rw[ew] at nn;have b:=lX (k:=t+3) (λc hc=>nn c (mem_cons_of_mem _ hc)) hy;have a1:=uT hU hs (h.stay 3) t;have r:Mx.rF (Rw ws) (ws.length - 1) ((s+1) % ws.length) s:=by
  have r:=h.go (ws.length - 1) ((s+1) % ws.length) (mod_lt _ (by lia));rw[Nat.mod_add_mod,show s+1+(ws.length - 1)=s+ws.length by lia,Nat.add_mod_right,Nat.mod_eq_of_lt hs] at r;exact r
 have a2:=uT hU (mod_lt _ (by lia)) r (t+4 - ws.length);rw[show t+4 - ws.length+(ws.length - 1)=t+3 by lia] at a2;have a3:=uT hU hs (h.stay (4 - ws.length)) t;rw[show t+(4 - ws.length)=t+4 - ws.length by lia] at a3;lia
theorem CT.big (h:CT ws s) (hU:Ru ws):∀k,((2 ^ k:Nat):Int)<=sz ws (4 * k) (97+s)
 |0=>by
  have:=uH hU 0 (97+s) (by have:=h.lt;lia);exact this
 |k+1=>by
  have a:=h.big hU k;have b:=h.two hU (4 * k);rw[pow_succ,show 4 * (k+1)=4 * k+4 by lia];lia
end
open PySem.Spec PyProof.Rows L2 L2.L3
section
variable {K:Fg}
noncomputable def bN (K:Fg):Sp:=λvs H Q _=>∃(p r:Addr) (xs ys:List Int),vs=[.ref p,.ref r]/\(H p=some (.lst (xs.map V.int)))/\H r=some (.lst (ys.map V.int))/\Co xs/\Co ys/\xs.length<=1000/\∀H':Hp,aC H H'->Q (.int (dot xs ys)) H'
noncomputable def aT (K:Fg):List (SX K):=L2.Na.aT K
theorem eJ:TT (bN K) (aT K) ["row","before"]:=by
 intro vs H Q E h;obtain ⟨p,r,xs,ys,rfl,hp,hr,hx,hy,hl,q⟩:=h;unfold aT L2.Na.aT;walk_at "";refine vW (aR.of hp) (aR.of hr) ?_;intro D nD;refine qR SG (aR.of hp) (aR.of hr) nD (small (by rw[length_map];lia)) (λi x y H1 Q' h1 h2 hS fin=>?_) λH1 hS hO=>?_
 ·obtain ⟨k,hk,rfl⟩:=fD h1;obtain ⟨k',hk',rfl⟩:=fD h2;walk_at "";refine Ag (.of_bits (hx k (mem_of_getElem? hk)) (hy k' (mem_of_getElem? hk'))) ?_;exact fin H1 (aC.refl _)
 ·rw[nJ (· * ·) SG (λ_ _=>rfl)] at hO;exact ⟨D,_,rfl,hO,q H1 hS⟩
noncomputable def sL (K:Fg):Sp:=λvs H Q _=>∃(dA z dS:Addr) (f:List bL) (asA:List Addr) (szl:List Int) (ns:List (List Nat)) (as:List Addr) (gf:List Nat->Sg),vs=[.ref dA,.ref z,.ref dS]/\KO K/\WS H dA asA f/\(bG f).Nodup/\
 (∀p∈f,2<=p.1.length/\p.1.length<=1000/\p.1.take (p.1.length - 1)∈ns/\p.1.drop 1∈ns/\Co p.2/\p.2.length<=1000)/\H z=some (.lst (szl.map V.int))/\Co szl/\PM K H dS ns as gf/\(∀y,mI (gf y))/\dS≠dA/\
 ∀(r:Addr) (H':Hp),(∀b o,b≠dA->H b=some o->H' b=some o)->H' r=some (.tup [.int (AF gf szl f).1,.int (AF gf szl f).2])->Q (.ref r) H'
noncomputable def Im (K:Fg):List (SX K):=
 [set 5 (call "joined" (lN K) [lst [ix (var 2) (xA (var 4) none (some (neg (cst (.int 1))))),ix (var 2) (xA (var 4) (some (cst (.int 1))) none)]]),
   rW (cmp .Gt (fld (var 5) "gap") (ix (var 3) (cst (.int 0)))) [set 3 (tup [fld (var 5) "gap",bin .Add (call "signs_behind" (bN K) [ix (var 0) (var 4),var 1]) (fld (var 5) "place")])] []]
noncomputable def qY (K:Fg):List (SX K):=
 [set 3 (tup [cst (.int 0),cst (.int 0)]),
  mE (jA 4) (Hm (var 0)) (Im K),
  ret (var 3)]
theorem JE:TT (sL K) (qY K) ["ahead","size_of","sights","best","longer","both"]:=by
 intro vs H Q E h;obtain ⟨dA,z,dS,f,asA,szl,ns,as,gf,rfl,ko,hA,nd,hf,hz,hzl,hD,hok,nAS,q⟩:=h;unfold qY;walk_at "";refine ⟨by show 2<=sizeLine;decide,λb0 nb0=>?_⟩;have s1:=aE nb0 (.tup [.int 0,.int 0]);have b1:(upd H b0 (.tup [.int 0,.int 0])) b0=some (.tup [.int 0,.int 0]):=aA;revert s1 b1;generalize upd H b0 (.tup [.int 0,.int 0])=H1;intro s1 b1;walk_at "";refine Al ?_;walk_at "";refine Hh (s1 _ _ hA.d) λo=>?_;have nz:z≠dA:=λe=>by
  rw[e,hA.d] at hz;cases hz
 have nb:b0≠dA:=(aB hA.d nb0).symm;have k2:∀b oo,b≠dA->H1 b=some oo->(upd H1 dA (.frz o (.dK (mR f asA)))) b=some oo:=λb oo hb e=>by rw[aF hb];exact e
 have f2:(upd H1 dA (.frz o (.dK (mR f asA)))) dA=some (.frz o (.dK (mR f asA))):=aA;revert k2 f2;generalize upd H1 dA (.frz o (.dK (mR f asA)))=H2;intro k2 f2;have k02:∀b oo,b≠dA->H b=some oo->H2 b=some oo:=λb oo hb e=>k2 b oo hb (s1 _ _ e);have hD2:PM K H2 dS ns as gf:=⟨k02 _ _ nAS hD.d,hD.l,hD.nd,λi a x g1 g2=>by
  obtain ⟨dx,g⟩:=hD.s i a x g1 g2
  exact ⟨dx,k02 _ _ (λe=>by rw[e,hA.d] at g;cases g) g⟩⟩
 refine nY (WX (d:=dA) (o:=o) (kvs:=mR f asA)) (λi σ H3=>∃(b:Addr) (a4 a5:Option V),σ=[some (.ref dA),some (.ref z),some (.ref dS),some (.ref b),a4,a5]/\aC H2 H3/\H3 b=some (.tup [.int (AF gf szl (f.take i)).1,.int (AF gf szl (f.take i)).2])) ⟨b0,none,none,rfl,aC.refl _,k2 _ _ nb b1⟩ (λi σ H3 _ ⟨_,_,_,_,hS,_⟩=>hS _ _ f2) (λi v σ H3 hv hP=>?_) λσ H3 hP=>?_
 ·obtain ⟨b,a4,a5,rfl,hS,hb⟩:=hP;have hl:=hA.l;have hi:i<f.length:=by
   have:=(List.getElem?_eq_some_iff.mp hv).1;rw[length_map,vM hl] at this;exact this
  have hfi:f[i]?=some f[i]:=getElem?_eq_getElem hi;have hai:asA[i]?=some (asA[i]'(by lia)):=getElem?_eq_getElem _;have ev:v=.str (aH f[i].1):=by
   rw[getElem?_map] at hv;unfold mR at hv;rw[getElem?_zipWith,hfi,hai] at hv;exact (Option.some.inj hv).symm
  subst ev;have hw:AF gf szl (f.take (i+1))=AJ gf szl (AF gf szl (f.take i)) f[i]:=by
   unfold AF;rw[take_add_one,hfi,foldl_append];rfl
  rw[hw];revert hb;generalize AF gf szl (f.take i)=bb;intro hb;obtain ⟨l2,l3,t1,t2,lg,ll⟩:=hf f[i] (getElem_mem hi);have ml:=bF f[i].1;refine DZ ?_;obtain ⟨a1,g1,d1,e1⟩:=hD2.get t1;obtain ⟨a2,g2,d2,e2⟩:=hD2.get t2;unfold Im;walk_at "";refine Kq ?_;walk_at "";refine Kr ?_;refine Gm ?_;refine dQ (small (by lia)) ?_;have es1:Txt.slice (aH f[i].1) none (some (-1))=aH (f[i].1.take (f[i].1.length - 1)):=by
   rw[AX (by lia),ml];refine cN ?_;show (Txt.slice (aH f[i].1) none (some ((f[i].1.length - 1:Nat):Int))).cps.toList=_;rw[cR (by lia),toNat_natCast,aO];show (ls (aH f[i].1)).take _=_;rw[aO]
  have es2:Txt.slice (aH f[i].1) (some 1) none=aH (f[i].1.drop 1):=by
   refine cN ?_;show (Txt.slice (aH f[i].1) (some 1) none).cps.toList=_;rw[gM (by lia) (by lia),aO];show (ls (aH f[i].1)).drop 1=_;rw[aO]
  rw[es1];refine iK (g1 H3 hS) ?_;walk_at "";refine dQ (small (by lia)) ?_;rw[es2];refine iK (g2 H3 hS) ?_;walk_at "";refine ⟨by show 2<=sizeLine;decide,λl nl=>?_⟩;have s4:=aE nl (.lst [.ref a1,.ref a2]);walk_at "";refine ⟨l,[a1,a2],[gf (f[i].1.take (f[i].1.length - 1)),gf (f[i].1.drop 1)],rfl,ko,⟨aA,rfl,λj a g k1 k3=>?_,λg hg=>?_⟩,λr H5 s5 nr hr=>?_⟩
  ·match j,k1,k3 with
   |0,k1,k3=>cases k1;cases k3;exact ⟨d1,s4 _ _ (hS _ _ e1)⟩
   |1,k1,k3=>cases k1;cases k3;exact ⟨d2,s4 _ _ (hS _ _ e2)⟩
   |j+2,k1,k3=>cases k1
  ·simp only [mem_cons,not_mem_nil,or_false] at hg;rcases hg with rfl|rfl<;>exact hok _
  ·have s45:=s4.trans s5;have hb5:=s45 _ _ hb;have hS5:=hS.trans s45;walk_at "";refine cO ?_;walk_at "";refine ED ko hr ?_;walk_at "";refine sX (v:=.int bb.1) (cZ.of hb5) rfl ?_;walk_at "";refine jI (λc=>?_) λc=>?_
   ·walk_at "";refine cO ?_;walk_at "";refine ED ko hr ?_;walk_at "";refine iK (v:=.ref asA[i]) (.inl ⟨mR f asA,Sum.inr (aH f[i].1),.inr ⟨o,hS5 _ _ f2⟩,rfl,(nZ nd hfi hai).symm⟩) ?_;walk_at "";have hc:H5 asA[i]=some (.lst (f[i].2.map V.int)):=hS5 _ _ (k02 _ _ (λe=>by have:=hA.v i asA[i] f[i] hai hfi;rw[e,hA.d] at this;cases this) (hA.v i asA[i] f[i] hai hfi));refine ⟨asA[i],z,_,_,rfl,hc,hS5 _ _ (k02 _ _ nz hz),lg,hzl,ll,λH6 s6=>?_⟩;walk_at "";refine cO ?_;walk_at "";refine EC ko (hr.same s6) ?_;walk_at "";refine ⟨by show 2<=sizeLine;decide,λb2 nb2=>?_⟩;walk_at "";refine ⟨b2,_,_,rfl,(hS5.trans s6).trans (aE nb2 _),?_⟩;unfold AJ;dsimp only;rw[aA,if_pos c]
   ·walk_at "";refine ⟨b,_,_,rfl,hS5,?_⟩;unfold AJ;dsimp only;rw[hb5,if_neg c]
 ·obtain ⟨b,a4,a5,rfl,hS,hb⟩:=hP;rw[length_map,vM hA.l,take_length] at hb;walk_at "";exact q b H3 (λc oo hc e=>hS _ _ (k02 c oo hc e)) hb
noncomputable def WQ (ws:List Str) (p:List Nat) (ns:List (List Nat)) (t:Nat):Prop:=(∀x∈ns,bt ws p t x=true)/\∀t',t'<t->∃x∈ns,bt ws p t' x=false
theorem WQ.one {ws:List Str} {p:List Nat} {ns:List (List Nat)} {t u:Nat} (h:WQ ws p ns t) (k:WQ ws p ns u):t=u:=by
 rcases Nat.lt_trichotomy t u with e|e|e
 ·obtain ⟨x,hx,z⟩:=k.2 t e;rw[h.1 x hx] at z;cases z
 ·exact e
 ·obtain ⟨x,hx,z⟩:=h.2 u e;rw[k.1 x hx] at z;cases z
noncomputable def dst (ws:List Str) (c:Nat) (p:List Nat) (t:Nat):Int × Int:=AF (nC ws p t) (iA ws t) (aW ws c (p.length+1))
noncomputable def dH (K:Fg):Sp:=λvs H Q _=>∃(a:Addr) (ws:List Str) (c:Nat) (z:Str),vs=[.ref a,sgn c,.str z]/\Lx K H a ws c z/\aK ws c=true/\c - 97<ws.length/\LJ ws=true/\(aW ws c z.length).length<=300/\ls z∈bG (aW ws c z.length)/\(aW ws c (z.length+1)).length<=300/\
 ∀(t:Nat) (r:Addr) (H':Hp),WQ ws (ls z) (bG (aW ws c z.length)) t->aC H H'->H' r=some (.tup [.int (dst ws c (ls z) t).1,.int (dst ws c (ls z) t).2])->Q (.ref r) H'
noncomputable def ON (K:Fg):List (SX K):=
 [Cg (Io (comp (cmp .Is (fld (ix (var 1) (var 0)) "first") (cst .non)) (jA 0) (iL (var 3)) ["other"] ["sights"] [6])) [set 6 (EG (comp (tup [var 0,call "sight_turned" (gW K) [ix (var 2) (var 0),var 1]]) (jA 0) (iL (var 3)) ["other"] ["sights","parts"] [6,5])),
   set 7 (bin .Add (var 7) (cst (.int 1)))],
  ret (call "widest" (sL K) [var 4,call "sizes" (oW K) [var 0,var 7],var 6])]
noncomputable def OO (K:Fg):List (SX K):=
 set 5 (EG (comp (tup [var 0,call "pieces_of_image" (cL K) [var 1,var 0]]) (jA 0) (iL (var 3)) ["other"] ["rule"] [0]))::
  set 6 (EG (comp (tup [var 0,call "sight_of_one" (gX K) [cmp .Eq (var 0) (var 1)]]) (jA 0) (iL (var 3)) ["other"] ["piece"] [2]))::
  set 7 (cst (.int 0))::ON K
noncomputable def jW (K:Fg):List (SX K):=
 rW (yO (call "grows" (oY K) [var 0,var 1])) [Kp] []::
  rW (yO (call "mixes" (xT K) [var 0])) [Kp] []::
  set 3 (VX (call "counts_ahead" (cI K) [var 0,var 1,len (var 2)]))::
  rW (cmp .NotIn (var 2) (var 3)) [Kp] []::
  set 4 (call "counts_ahead" (cI K) [var 0,var 1,bin .Add (len (var 2)) (cst (.int 1))])::OO K
theorem Dd {H H5:Hp} {Q:VK} {E:XK} {a l dA dP:Addr} {asA asP:List Addr} {ws:List Str} {c:Nat} {z:Str} {ns:List (List Nat)} {f:List bL} {T:Nat} (D:Lx K H a ws c z) (nd:ns.Nodup) (nl:ns.length<=300) (cl:∀x∈ns,∀y∈bU ws x,y∈ns) (hT:T<=700) (hall:∀x∈ns,bt ws (ls z) T x=true)
  (s05:aC H H5) (hl:H5 l=some (.lst (ns.map λy=>V.str (aH y)))) (hA:WS H5 dA asA f) (nA:H dA=none) (ndf:(bG f).Nodup)
  (hf:∀p∈f,2<=p.1.length/\p.1.length<=1000/\p.1.take (p.1.length - 1)∈ns/\p.1.drop 1∈ns/\Co p.2/\p.2.length<=1000)
  (hP:H5 dP=some (.dK (mS ns asP))) (lP:ns.length=asP.length) (vP:∀(i:Nat) (b:Addr) (x:List Nat),asP[i]?=some b->ns[i]?=some x->H5 b=some (.lst ((bU ws x).map λy=>V.str (aH y))))
  {dS:Addr} {asS:List Addr} (hS:PM K H5 dS ns asS (nC ws (ls z) 0)) (nSA:dS≠dA)
  (q:∀(t:Nat) (r:Addr) (H':Hp),WQ ws (ls z) ns t->aC H H'->H' r=some (.tup [.int (AF (nC ws (ls z) t) (iA ws t) f).1,.int (AF (nC ws (ls z) t) (iA ws t) f).2])->Q (.ref r) H'):
  lJ (ON K) (λ_=>E) {nx:=λ_ H'=>Q .non H',rt:=Q} [some (.ref a),some (sgn c),some (.str z),some (.ref l),some (.ref dA),some (.ref dP),some (.ref dS),some (.int 0)] H5:=by
 have hU:=D.ru;unfold ON;walk_at "";refine kT (λm σ H6=>∃(t:Nat) (dS:Addr) (asS:List Addr),σ=[some (.ref a),some (sgn c),some (.str z),some (.ref l),some (.ref dA),some (.ref dP),some (.ref dS),some (.int (t:Nat))]/\m=T - t/\t<=T/\aC H5 H6/\PM K H6 dS ns asS (nC ws (ls z) t)/\dS≠dA/\∀t',t'<t->∃x∈ns,bt ws (ls z) t' x=false) (m:=T) ⟨0,dS,asS,rfl,rfl,zero_le _,aC.refl _,hS,nSA,λt' h=>absurd h (Nat.not_lt_zero _)⟩ ?_;rintro m σ H6 ⟨t,dS,asS,rfl,rfl,htT,s56,hS6,nSA,hlt⟩;have hl6:=s56 _ _ hl;refine VY rfl ?_;refine Aq ?_;walk_at "";refine gZ (aR.of hl6) ?_;intro D1 nD1;refine jD (λi=>.bl (!bt ws (ls z) t (ns[i]?.getD []))) (aR.of hl6) nD1 (small (by rw[length_map];lia)) (λi x H7 Q' hx s7 fin=>?_) λH7 s7 hO=>?_
 ·rw[getElem?_map] at hx;cases ex:ns[i]? with
  |none=>rw[ex] at hx;cases hx
  |some x'=>
   rw[ex] at hx fin;cases hx;obtain ⟨b,g1,g2⟩:=hS6.get (mem_of_getElem? ex);walk_at "";refine cO ?_;walk_at "";refine iK (g1 H7 s7) ?_;refine kY D.ko (g2.same s7) ?_;walk_at "";have e:decide (oV (nC ws (ls z) t x').first=.non)=!bt ws (ls z) t x':=by
    rw[<-(lS ws (ls z) t x').2];cases (nC ws (ls z) t x').first<;>rfl
   rw[e];exact fin H7 (aC.refl _)
 ·have eO:((range (ns.map λy=>V.str (aH y)).length).map λi=>V.bl (!bt ws (ls z) t (ns[i]?.getD [])))=((range ns.length).map λi=>!bt ws (ls z) t (ns[i]?.getD [])).map V.bl:=by
   rw[length_map,map_map];rfl
  rw[eO] at hO;refine ⟨D1,_,rfl,hO,?_⟩;refine MK ?_;have s57:=s56.trans s7;have s07:=s05.trans s57;have hS7:=hS6.same s7;cases eb:((range ns.length).map λi=>!bt ws (ls z) t (ns[i]?.getD [])).any id with
  |true=>
   obtain ⟨x0,hx0,z0⟩:∃x∈ns,bt ws (ls z) t x=false:=by
    rw[any_map,any_eq_true] at eb;obtain ⟨i,hi,hb⟩:=eb;have hi':=mem_range.mp hi;have hb':(!bt ws (ls z) t (ns[i]?.getD []))=true:=hb;rw[getElem?_eq_getElem hi',show ((some ns[i]).getD [])=ns[i] from rfl] at hb';exact ⟨ns[i],getElem_mem hi',by simpa using hb'⟩
   have tT:t<T:=by
    rcases Nat.lt_or_ge t T with h|h
    ·exact h
    ·have e:t=T:=by lia
     rw[e,hall x0 hx0] at z0;cases z0
   refine PL ?_;refine xE ?_;walk_at "";refine vY ?_;walk_at "";refine gZ (aR.of (s7 _ _ hl6)) ?_;intro D2 nD2;refine jT (λx b H8=>fU K H8 b (nC ws (ls z) (t+1) x)) (λx b H8 H9 hb hh ⟨dx,g⟩=>⟨dx,hh b _ hb g⟩) (s7 _ _ hl6) nD2 (by lia) (λx H8 Q' hx s8 fin=>?_) λH8 qs as s8 hL al hv=>?_
   ·obtain ⟨i,hi⟩:=getElem?_of_mem hx;obtain ⟨bP,hA2⟩:∃bP,asP[i]?=some bP:=⟨_,getElem?_eq_getElem (by have:=(List.getElem?_eq_some_iff.mp hi).1;lia)⟩;have s58:=s57.trans s8;walk_at "";refine iK (v:=.ref bP) (by
     have:=eY.k (k:=Sum.inr (aH x)) (s58 _ _ hP)
     rw[vN nd hi hA2] at this
     exact this) ?_
    walk_at "";have pl:(bU ws x).length<=100:=by
     unfold bU;rw[length_map,length_range];have:=fE hU (l:=[x.headD 0]);rw[aL] at this;simpa [aI] using this
    refine ⟨bP,dS,bU ws x,ns,asS,nC ws (ls z) t,rfl,D.ko,s58 _ _ (vP i _ x hA2 hi),by lia,hS7.same s8,λy hy=>cl x hx y hy,λy=>(lS ws (ls z) t y).1,λr H9 s9 nr hr=>fin r H9 s9 nr hr⟩
   ·refine ⟨qs,mS ns as,hL,by unfold mS;rw[length_zipWith];lia,λd2 nd2=>?_⟩;rw[lW al nd];have s9:=aE nd2 (.dK (mS ns as));walk_at "";refine ⟨T - (t+1),by lia,t+1,d2,as,?_,rfl,tT,(s57.trans s8).trans s9,⟨aA,al,nd,λi b x k1 k2=>(hv i b x k1 k2).same s9⟩,?_,λt' h=>?_⟩
    ·rw[show ((t:Nat):Int)+1=((t+1:Nat):Int) by lia];rfl
    ·exact (aB ((s57.trans s8) _ _ hA.d) nd2).symm
    ·by_cases e:t'=t
     ·exact ⟨x0,hx0,by rw[e];exact z0⟩
     ·exact hlt t' (by lia)
  |false=>
   have hls:WQ ws (ls z) ns t:=⟨λx hx=>by
    obtain ⟨i,hi⟩:=getElem?_of_mem hx
    have hil:=(List.getElem?_eq_some_iff.mp hi).1
    rw[any_map,List.any_eq_false] at eb
    have:=eb i (mem_range.mpr hil)
    have:¬(!bt ws (ls z) t (ns[i]?.getD []))=true:=this
    rw[hi,show ((some x).getD [])=x from rfl] at this
    simpa using this,hlt⟩
   refine AG ?_;walk_at "";refine ⟨a,ws,t,rfl,D.rt.same s07,λw hw=>⟨hU.isw w hw,by have:=hU.le w hw;lia⟩,by lia,by lia,λzz H8 s8 nzz hzz=>?_⟩;rw[toNat_natCast] at hzz;walk_at "";have s58:=s57.trans s8;refine ⟨dA,zz,dS,f,asA,iA ws t,ns,asS,nC ws (ls z) t,rfl,D.ko,hA.same s58,ndf,hf,hzz,λx hx=>?_,hS7.same s8,λy=>(lS ws (ls z) t y).1,nSA,λr H9 k9 hr=>?_⟩
   ·obtain ⟨b1,b2⟩:=Dp hU x hx;exact ES (n:=100) (k:=t) b1 b2 (by decide) (by lia)
   ·refine q t r H9 hls (λb o e=>?_) hr;exact k9 b o (aB e nA) (s8 _ _ (s07 _ _ e))
theorem De {H H5:Hp} {Q:VK} {E:XK} {a l dA:Addr} {asA:List Addr} {ws:List Str} {c:Nat} {z:Str} {ns:List (List Nat)} {f:List bL} {T:Nat} (D:Lx K H a ws c z) (nd:ns.Nodup) (nl:ns.length<=300) (hn:∀x∈ns,bI ws x/\1<=x.length/\x.length<=400) (cl:∀x∈ns,∀y∈bU ws x,y∈ns) (hT:T<=700) (hall:∀x∈ns,bt ws (ls z) T x=true)
  (s05:aC H H5) (hl:H5 l=some (.lst (ns.map λy=>V.str (aH y)))) (hA:WS H5 dA asA f) (nA:H dA=none) (ndf:(bG f).Nodup)
  (hf:∀p∈f,2<=p.1.length/\p.1.length<=1000/\p.1.take (p.1.length - 1)∈ns/\p.1.drop 1∈ns/\Co p.2/\p.2.length<=1000)
  (q:∀(t:Nat) (r:Addr) (H':Hp),WQ ws (ls z) ns t->aC H H'->H' r=some (.tup [.int (AF (nC ws (ls z) t) (iA ws t) f).1,.int (AF (nC ws (ls z) t) (iA ws t) f).2])->Q (.ref r) H'):
  lJ (OO K) (λ_=>E) {nx:=λ_ H'=>Q .non H',rt:=Q} [some (.ref a),some (sgn c),some (.str z),some (.ref l),some (.ref dA),none,none,none] H5:=by
 have hU:=D.ru;unfold OO;walk_at "";refine vY ?_;walk_at "";refine gZ (aR.of hl) ?_;intro D1 nD1;refine jT (λx b H6=>H6 b=some (.lst ((bU ws x).map λy=>V.str (aH y)))) (λx b H6 H7 hb hh g=>hh b _ hb g) hl nD1 (by lia) (λx H6 Q' hx s6 fin=>?_) λH6 qs asP s6 hL alP vP=>?_
 ·obtain ⟨x1,x2,x3⟩:=hn x hx;walk_at "";exact ⟨a,ws,x,rfl,D.rt.same (s05.trans s6),hU,x1,x2,x3,λp H7 s7 np hp=>fin p H7 s7 np hp⟩
 ·refine ⟨qs,mS ns asP,hL,by unfold mS;rw[length_zipWith];lia,λdP ndP=>?_⟩;rw[lW alP nd];have s7:=aE ndP (.dK (mS ns asP));have hP7:(upd H6 dP (.dK (mS ns asP))) dP=some (.dK (mS ns asP)):=aA;revert s7 hP7;generalize upd H6 dP (.dK (mS ns asP))=H7;intro s7 hP7;have s57:=s6.trans s7;walk_at "";refine vY ?_;walk_at "";refine gZ (aR.of (s57 _ _ hl)) ?_;intro D2 nD2;refine jT (λx b H8=>fU K H8 b (QN (decide (x=ls z)))) (λx b H8 H9 hb hh ⟨dx,g⟩=>⟨dx,hh b _ hb g⟩) (s57 _ _ hl) nD2 (by lia) (λx H8 Q' hx s8 fin=>?_) λH8 qs2 asS s8 hL2 alS vS=>?_
  ·walk_at "";have e:decide (aH x=z)=decide (x=ls z):=by
    by_cases h:x=ls z
    ·rw[decide_eq_true h,h];exact decide_eq_true (cN (aO _))
    ·rw[decide_eq_false h];exact decide_eq_false λe=>h (by rw[<-e,aO])
   rw[e];exact ⟨_,rfl,D.ko,λr H9 s9 nr hr=>fin r H9 s9 nr hr⟩
  ·refine ⟨qs2,mS ns asS,hL2,by unfold mS;rw[length_zipWith];lia,λdS ndS=>?_⟩;rw[lW alS nd];have s9:=aE ndS (.dK (mS ns asS));have s78:=s57.trans s8;have nSA:dS≠dA:=(aB (s78 _ _ hA.d) ndS).symm;walk_at "";exact Dd D nd nl cl hT hall (s05.trans (s78.trans s9)) (s9 _ _ (s78 _ _ hl)) (hA.same (s78.trans s9)) nA ndf hf (s9 _ _ (s8 _ _ hP7)) alP (λi b x k1 k2=>s9 _ _ (s8 _ _ (s7 _ _ (vP i b x k1 k2)))) ⟨aA,alS,nd,λi b x k1 k2=>(vS i b x k1 k2).same s9⟩ nSA q
theorem AS:TT (dH K) (jW K) ["rule","start","piece","alike","ahead","parts","sights","turns"]:=by
 intro vs H Q E h;obtain ⟨a,ws,c,z,rfl,D,hg,hc,hm,hsm,hin,hsm2,q⟩:=h;have hU:=D.ru;have z1:=D.z1;have z2:=D.z2;unfold jW;walk_at "";refine ⟨a,ws,c,rfl,D.rt,λw hw=>⟨hU.one w hw,hU.le w hw⟩,D.c1,λH1 s1=>?_⟩;walk_at "";rw[hg];refine AG ?_;walk_at "";refine ⟨a,ws,rfl,D.rt.same s1,hU,λH2 s2=>?_⟩;have s12:=s1.trans s2;walk_at "";rw[hm];refine AG ?_;walk_at "";refine TU ?_;walk_at "";refine fO (small (by lia)) ?_;walk_at "";have pl:∀(L:Nat) (Hx:Hp),1<=L->L<=400->aC H Hx->Pl K Hx a ws c ((0+L - 1:Nat):Int):=λL Hx l1 l4 e=>⟨D.rt.same e,hU,D.c1,hc,hg,by lia,L,l4,by
  have:=cH hU D.c1 hc hg L
  lia⟩
 refine .inl ⟨a,ws,c,z.length,rfl,z1,by lia,pl _ H2 z1 (by lia) s12,λ_ d as H3 s3 nd nas hD=>?_,λhgt=>by lia⟩;refine MR hD.d λl nl=>?_;rw[SN hD.l];have s4:=aE nl (.lst ((bG (aW ws c z.length)).map λy=>V.str (aH y)));have hl4:(upd H3 l (.lst ((bG (aW ws c z.length)).map λy=>V.str (aH y)))) l=some (.lst ((bG (aW ws c z.length)).map λy=>V.str (aH y))):=aA;have s24:=(s12.trans s3).trans s4;revert hl4 s24;generalize upd H3 l (.lst ((bG (aW ws c z.length)).map λy=>V.str (aH y)))=H4;intro hl4 s24;walk_at "";refine TN (aR.of hl4) rfl (HF _) ?_;rw[DW];rw[decide_eq_true hin];refine AG ?_;walk_at "";refine fO (small (by lia)) ?_;walk_at "";rw[show ((z.length:Nat):Int)+1=((z.length+1:Nat):Int) by lia];refine .inl ⟨a,ws,c,z.length+1,rfl,by lia,by lia,pl _ H4 (by lia) (by lia) s24,λ_ dA asA H5 s5 ndA nasA hA=>?_,λhgt=>by lia⟩;walk_at "";obtain ⟨T,hT,hall⟩:=Ii hU hm z1 D.c1 hc hg hin;refine De (ns:=bG (aW ws c z.length)) (f:=aW ws c (z.length+1)) D (cQ hU z1 (jM hU D.c1 hc hg) 300).nd (by rw[fB];exact hsm) (λx hx=>?_) (λx hx y hy=>dD hsm hx hy) (by lia) hall (s24.trans s5) (s5 _ _ hl4) hA (none_of s24 ndA) (cQ hU (by lia) (jM hU D.c1 hc hg) 300).nd (λp hp=>?_) (λt r H' k1 k2 k3=>q t r H' k1 k2 (by unfold dst;rw[aP];exact k3))
 ·obtain ⟨p,hp,rfl⟩:=mem_map.mp hx;obtain ⟨p1,p2,_⟩:=(cQ hU z1 (jM hU D.c1 hc hg) 300).ok p hp;exact ⟨p2,by lia,by lia⟩
 ·obtain ⟨⟨p1,p2⟩,p3,p4⟩:=GS hU z1 D.c1 hc hg hsm 300 p.1 (mem_map.mpr ⟨p,hp,rfl⟩);obtain ⟨_,_,p5⟩:=(cQ hU (by lia) (jM (L:=z.length+1) hU D.c1 hc hg) 300).ok p hp;refine ⟨by lia,by lia,by rw[p1];exact p3,p4,λx hx=>?_,by rw[p5];have:=hU.four;lia⟩;obtain ⟨b1,b2⟩:=oU hU Hz 300 p hp x hx;exact ES (n:=500) (k:=300) b1 b2 (by decide) (by decide)
end
open L2.Na.K31
noncomputable def Wk (m s k:Nat) (w:Str):Prop:=eX m w/\1<=w.length/\w.length<=100/\97+(k+1) % m∈ls w/\(k=s->∃y,ls w=(97+s)::y/\97+(s+1) % m∈y)
theorem QK {z:Str} {k:Nat} (h:k<=z.length):ls (Txt.slice z (some ((k:Nat):Int)) none)=(ls z).drop k:=by
 show (Txt.slice z (some ((k:Nat):Int)) none).cps.toList=_;rw[gM (by lia) (by lia),toNat_natCast]
theorem VN {z:Str} {k:Nat}:ls (Txt.slice z none (some ((k:Nat):Int)))=(ls z).take k:=by
 show (Txt.slice z none (some ((k:Nat):Int))).cps.toList=_;rw[cR (by lia),toNat_natCast]
section
variable {K:Fg}
noncomputable def jL (K:Fg):Sp:=λvs H Q _=>∃(a:Addr) (ns:List Int) (m:Int) (st:Nat) (mo:Int),vs=[.ref a,.int m,.int (st:Nat),.int mo]/\aR K H a (ns.map V.int)/\1<=m/\m<=4/\(st:Int)<m/\1<=mo/\mo<=10/\
 ∀(p:Addr) (ws:List Str) (H':Hp),aC H H'->Rl K H' p ws 100->ws.length=m.toNat->CT ws st->Q (.ref p) H'
noncomputable def gT (K:Fg):List (SX K):=
 [set 4 (lst []),
  mE (jA 5) (BZ (var 1) []) [set 6 (call "_law_mixed" (dW K) [call "_law_cell" (fA K) [var 0,bin .Add (var 5) (cst (.int 1))],var 5]),
   set 7 (call "_law_word" (mL K) [var 6,var 1,bin .Mod (bin .FloorDiv (var 6) (cst (.int 16))) (var 3)]),
   set 8 (bin .Mod (bin .FloorDiv (var 6) (cst (.int 64))) (bin .Add (len (var 7)) (cst (.int 1)))),
   set 7 (bin .Add (bin .Add (xA (var 7) none (some (var 8))) (ix (cst (.str "abcd")) (bin .Mod (bin .Add (var 5) (cst (.int 1))) (var 1)))) (xA (var 7) (some (var 8)) none)),
   rW (cmp .Eq (var 5) (var 2)) [set 7 (bin .Add (ix (cst (.str "abcd")) (var 2)) (var 7))] [],
   ex (gF (var 4) (var 7))],
  ret (JC (var 4))]
theorem uG:TT (jL K) (gT K) ["_law_script","_law_many","_law_start","_law_most","_law_words","_law_k","_law_number","_law_word_here","_law_at"]:=by
 intro vs H Q E h;obtain ⟨a,ns,m,st,mo,rfl,hS,h1,h4,hst,mo1,mo2,q⟩:=h;unfold gT;walk_at "";refine ⟨zero_le _,λp hp=>?_⟩;walk_at "";refine iI (λi σ H'=>aC H H'/\∃(ws:List Str) (a5 a6 a7 a8:Option V),ws.length=i/\H' p=some (.lst (ws.map V.str))/\(∀(k:Nat) (w:Str),ws[k]?=some w->Wk m.toNat st k w)/\σ=[some (.ref a),some (.int m),some (.int (st:Nat)),some (.int mo),some (.ref p),a5,a6,a7,a8])
  ⟨aE hp _,[],none,none,none,none,rfl,aA,(λk w hw=>by cases hw),rfl⟩ (λi σ H' hi hP=>?_) λσ H' hP=>?_
 ·obtain ⟨hSm,ws,a5,a6,a7,a8,hl,hpl,hw,rfl⟩:=hP;walk_at "";refine ⟨a,ns,_,rfl,hSm.seq hS,by lia,λv=>?_⟩;walk_at "";refine ⟨v,_,rfl,by lia,by lia,λn n0 n1=>?_⟩;walk_at "";have w1:=emod_nonneg (n / 16) (show mo≠0 by lia);have w2:=emod_lt_of_pos (n / 16) (show 0<mo by lia);refine ⟨n,m,_,rfl,h1,h4,by lia,by lia,λz hz hzl=>?_⟩;walk_at "";refine fO (small (by lia)) ?_;walk_at "";obtain ⟨g,hg,hgl⟩:∃g:Nat,n / 64 % (((z.length:Nat):Int)+1)=((g:Nat):Int)/\g<=z.length:=by
   have e1:=emod_nonneg (n / 64) (show (((z.length:Nat):Int)+1)≠0 by lia);have e2:=emod_lt_of_pos (n / 64) (show (0:Int)<((z.length:Nat):Int)+1 by lia);exact ⟨(n / 64 % (((z.length:Nat):Int)+1)).toNat,by lia,by lia⟩
  rw[hg];have l1:(Txt.slice z none (some ((g:Nat):Int))).length=g:=by
   rw[<-aP,VN,length_take,aP];lia
  have l2:(Txt.slice z (some ((g:Nat):Int)) none).length=z.length - g:=by
   rw[<-aP,QK hgl,length_drop,aP]
  refine dQ (small (by lia)) ?_;walk_at "";have d1:=emod_nonneg ((0:Int)+(i:Nat)+1) (show m≠0 by lia);have d2:=emod_lt_of_pos ((0:Int)+(i:Nat)+1) (show 0<m by lia);refine qF (by rw[iU];decide) (oF d1 d2 h4) ?_;refine wA (z:=⟨#[97+(((0:Int)+(i:Nat)+1) % m).toNat]⟩) (small (by rw[l1];show g+1<=1000000;lia)) ?_;walk_at "";refine dQ (small (by lia)) ?_;have l3:(Txt.slice z none (some ((g:Nat):Int))++(⟨#[97+(((0:Int)+(i:Nat)+1) % m).toNat]⟩:Str)).length=g+1:=by
   rw[len_app,l1];rfl
  refine wA (small (by lia)) ?_;have wx:eX m.toNat (Txt.slice z none (some ((g:Nat):Int))++(⟨#[97+(((0:Int)+(i:Nat)+1) % m).toNat]⟩:Str)++Txt.slice z (some ((g:Nat):Int)) none):=((hz.to (by lia)).app (eX.sgn (by lia) (by lia))).app (hz.from (by lia) (by lia));have lx:(Txt.slice z none (some ((g:Nat):Int))++(⟨#[97+(((0:Int)+(i:Nat)+1) % m).toNat]⟩:Str)++Txt.slice z (some ((g:Nat):Int)) none).length=z.length+1:=by
   rw[len_app,l3,l2];lia
  have ex:(((0:Int)+(i:Nat)+1) % m).toNat=(i+1) % m.toNat:=by
   have:((((i+1) % m.toNat:Nat)):Int)=((0:Int)+(i:Nat)+1) % m:=by
    rw[Int.natCast_emod]
    congr 1<;>lia
   lia
  have mx:97+(i+1) % m.toNat∈ls (Txt.slice z none (some ((g:Nat):Int))++(⟨#[97+(((0:Int)+(i:Nat)+1) % m).toNat]⟩:Str)++Txt.slice z (some ((g:Nat):Int)) none):=by
   rw[lY,lY,ex];exact mem_append.mpr (.inl (mem_append.mpr (.inr mem_cons_self)))
  revert wx lx mx;generalize Txt.slice z none (some ((g:Nat):Int))++(⟨#[97+(((0:Int)+(i:Nat)+1) % m).toNat]⟩:Str)++Txt.slice z (some ((g:Nat):Int)) none=y;intro wx lx mx;have next:∀(x:Str) (b5 b6 b7 b8:Option V),Wk m.toNat st i x->aC H (upd H' p (.lst (ws.map V.str++[V.str x])))/\∃(us:List Str) (c5 c6 c7 c8:Option V),us.length=i+1/\(upd H' p (.lst (ws.map V.str++[V.str x]))) p=some (.lst (us.map V.str))/\(∀(k:Nat) (w:Str),us[k]?=some w->Wk m.toNat st k w)/\[some (.ref a),some (.int m),some (.int (st:Nat)),some (.int mo),some (.ref p),b5,b6,b7,b8]=[some (.ref a),some (.int m),some (.int (st:Nat)),some (.int mo),some (.ref p),c5,c6,c7,c8]:=λx b5 b6 b7 b8 x1=>by
   refine ⟨gD hSm hp,ws++[x],b5,b6,b7,b8,by rw[length_append,hl];rfl,by rw[aA,map_append];rfl,λk w hw'=>?_,rfl⟩;by_cases hk:k<ws.length
   ·rw[getElem?_append_left hk] at hw';exact hw k w hw'
   ·rw[getElem?_append_right (by lia)] at hw';have hk2:k=i:=by
     have:=(List.getElem?_eq_some_iff.mp hw').1;simp at this;lia
    subst hk2;rw[hl,sub_self] at hw';cases hw';exact x1
  walk_at "";refine jI (λc=>?_) λc=>?_
  ·walk_at "";refine qF (by rw[iU];decide) (oF (m:=m) (by lia) hst h4) ?_;rw[toNat_natCast];walk_at "";have lz:((⟨#[97+st]⟩:Str)++y).length=1+y.length:=by rw[len_app];rfl
   refine wA (y:=⟨#[97+st]⟩) (small (by show 1+y.length<=1000000;lia)) ?_;walk_at "";refine HB (aR.of hpl) ?_;walk_at "";refine eE hpl (by rw[length_map,hl];exact Nat.lt_of_lt_of_le (show i<100 by lia) (small (by decide))) ?_;have es:i=st:=by lia
   subst es;exact next _ _ _ _ _ ⟨(eX.sgn (by lia) (by lia)).app wx,by lia,by lia,by rw[lY];exact mem_append.mpr (.inr mx),λ_=>⟨ls y,by rw[lY];rfl,mx⟩⟩
  ·walk_at "";refine HB (aR.of hpl) ?_;walk_at "";refine eE hpl (by rw[length_map,hl];exact Nat.lt_of_lt_of_le (show i<100 by lia) (small (by decide))) ?_;exact next _ _ _ _ _ ⟨wx,by lia,by lia,mx,λe=>absurd (show (0:Int)+(i:Nat)=((st:Nat):Int) by lia) c⟩
 ·obtain ⟨hSm,ws,a5,a6,a7,a8,hl,hpl,hw,rfl⟩:=hP;walk_at "";refine .inl ⟨_,aR.of hpl,λt ht=>?_⟩;have hml:ws.length=m.toNat:=hl;have hw2:∀w∈ws,∃k,ws[k]?=some w/\Wk m.toNat st k w:=λw hm=>by
   obtain ⟨k,hk⟩:=getElem?_of_mem hm;exact ⟨k,hk,hw k w hk⟩
  refine q t ws _ (hSm.trans (aE ht _)) ⟨aA,by lia,by lia,λw hm=>?_,λw hm=>?_,λw hm=>?_⟩ hml ⟨λk w hk=>?_,λw hk=>?_,by lia⟩
  ·obtain ⟨k,_,x⟩:=hw2 w hm;rw[hml];exact x.1
  ·obtain ⟨k,_,x⟩:=hw2 w hm;exact x.2.1
  ·obtain ⟨k,_,x⟩:=hw2 w hm;exact x.2.2.1
  ·rw[hml];exact (hw k w hk).2.2.2.1
  ·rw[hml];exact (hw st w hk).2.2.2.2 rfl
noncomputable def kG (K:Fg):Sp:=λvs H Q _=>∃(ws:List Str) (c m:Nat) (n:Int),vs=[.str (aH (str ws c 0 72)),.int n,.int (m:Nat)]/\0<=n/\1<=m/\m<=4/\∀(g L:Nat) (H':Hp),aC H H'->1<=L->L+1<=[20,8,5,4].getD (m - 1) 0->Q (.str (aH (str ws c g L))) H'
noncomputable def iR (K:Fg):List (SX K):=
 [set 3 (bin .Add (cst (.int 1)) (bin .Mod (var 1) (ix (lst [cst (.int 12),cst (.int 5),cst (.int 3),cst (.int 2)]) (bin .Sub (var 2) (cst (.int 1)))))),
  set 4 (bin .Mod (bin .FloorDiv (var 1) (cst (.int 60))) (cst (.int 60))),
  ret (xA (var 0) (some (var 4)) (some (bin .Add (var 4) (var 3))))]
theorem cut_str {ws:List Str} {c N g L:Nat} (h:g+L<=N):Txt.slice (aH (str ws c 0 N)) (some ((g:Nat):Int)) (some ((g:Nat)+(L:Nat):Int))=aH (str ws c g L):=by
 rw[pA (by rw[bF,str_len];exact h),aO,cA ws c 0 N g L h,zero_add]
theorem xH:TT (kG K) (iR K) ["_law_word_here","_law_number","_law_many","_law_size","_law_at"]:=by
 intro vs H Q E h;obtain ⟨ws,c,m,n,rfl,n0,m1,m4,q⟩:=h;unfold iR;walk_at "";refine ⟨by show 4<=sizeLine;decide,λl nl=>?_⟩;have s1:=aE nl (.lst [V.int 12,.int 5,.int 3,.int 2]);walk_at "";obtain ⟨d,hd,d1,d2,d3⟩:∃d:Nat,rE [V.int 12,.int 5,.int 3,.int 2] (((m:Nat):Int) - 1)=some (.int (d:Nat))/\1<=d/\d<=12/\d+1<=[20,8,5,4].getD (m - 1) 0:=by
  have:m=1\/m=2\/m=3\/m=4:=by lia
  rcases this with rfl|rfl|rfl|rfl
  ·exact ⟨12,rfl,by decide,by decide,by decide⟩
  ·exact ⟨5,rfl,by decide,by decide,by decide⟩
  ·exact ⟨3,rfl,by decide,by decide,by decide⟩
  ·exact ⟨2,rfl,by decide,by decide,by decide⟩
 refine qG (aR.of aA) hd ?_;refine WA (by lia) ?_;walk_at "";have a1:=emod_nonneg n (show ((d:Nat):Int)≠0 by lia);have a2:=emod_lt_of_pos n (show 0<((d:Nat):Int) by lia);obtain ⟨L,hL⟩:∃L:Nat,1+n % ((d:Nat):Int)=(L:Int):=⟨(1+n % ((d:Nat):Int)).toNat,by lia⟩;obtain ⟨g,hg⟩:∃g:Nat,n / 60 % 60=(g:Int):=⟨(n / 60 % 60).toNat,by lia⟩;rw[hL,hg];refine dQ (small (by rw[bF,str_len];decide)) ?_;rw[cut_str (by lia)];exact q g L _ s1 (by lia) (by lia)
noncomputable def eL (K:Fg):Sp:=λvs H Q _=>∃(r:Addr) (x y:Int),vs=[.ref r]/\H r=some (.tup [.int x,.int y])/\0<x/\0<=y/\∀H',aC H H'->Q (.bl true) H'
noncomputable def fS (K:Fg):List (SX K):=
 [rW (Ko (yO (Jl (var 0) CY)) [cmp .NotEq (len (var 0)) (cst (.int 2))]) [ret (cst (.bl false))] [],
  ret (CO (call "_law_whole" (gL K) [ix (var 0) (cst (.int 0))]) [call "_law_whole" (gL K) [ix (var 0) (cst (.int 1))],cmp .Gt (ix (var 0) (cst (.int 0))) (cst (.int 0)),cmp .GtE (ix (var 0) (cst (.int 1))) (cst (.int 0))])]
theorem rK:TT (eL K) (fS K) ["_law_found"]:=by
 intro vs H Q E h;obtain ⟨r,x,y,rfl,hr,x0,y0,q⟩:=h;have hsq:cZ K H r [.int x,.int y]:=cZ.of hr;unfold fS;walk_at "";refine ⟨_,_,iV.tup hr,Ku,?_⟩;walk_at "";refine AG ?_;walk_at "";refine AG ?_;walk_at "";refine sX (v:=.int x) hsq rfl ?_;walk_at "";refine ⟨_,rfl,?_⟩;walk_at "";refine PL ?_;walk_at "";refine sX (v:=.int y) hsq rfl ?_;walk_at "";refine ⟨_,rfl,?_⟩;walk_at "";refine PL ?_;walk_at "";refine sX (v:=.int x) hsq rfl ?_;walk_at "";refine jI (λ_=>?_) λz=>absurd x0 z;walk_at "";refine sX (v:=.int y) hsq rfl ?_;walk_at "";rw[decide_eq_true (show y>=0 from y0)];exact q H (aC.refl _)
end
theorem OQ {ws:List Str} {c L n N y i:Nat}:StrLaws.At (aH (str ws c y N)) (aH (str ws c n L)) (aH (str ws c y N)).length i↔i+L<=N/\str ws c (y+i) L=str ws c n L:=by
 unfold StrLaws.At;rw[bF,bF,str_len,str_len,StrLaws.subAt_eq,bF,str_len];show i+L<=N/\((ls (aH (str ws c y N))).drop i).take L==ls (aH (str ws c n L))↔_;rw[aO,aO,beq_iff_eq];refine and_congr_right λh=>?_;rw[cA ws c y N i L h]
theorem CF {ws:List Str} {c L g y x:Nat} (G:Gp (λq=>str ws c q L=str ws c g L) y x):Txt.find3 (aH (str ws c y (x+L))) (aH (str ws c g L)) 1=(x:Int):=by
 have x0:=G.1;have hx:StrLaws.At (aH (str ws c y (x+L))) (aH (str ws c g L)) (aH (str ws c y (x+L))).length x:=OQ.mpr ⟨Nat.le_refl _,G.2.2.1⟩;unfold Txt.find3;rw[show fromIndex (aH (str ws c y (x+L))).length 1=1 from rfl];rcases StrLaws.occ_head_from (aH (str ws c y (x+L))) (aH (str ws c g L)) 1 1 (Nat.le_refl _) with ⟨e,h⟩|⟨i,r,e,i1,h,k⟩
 ·exact absurd hx (h x x0)
 ·rw[e];have hle:i<=x:=le_of_not_lt λhlt=>k x x0 hlt hx;by_cases z:i=x
  ·rw[z]
  ·exact absurd (OQ.mp h).2 (G.2.2.2 (y+i) (by lia) (by lia))
theorem CZ {H:Hp} {a b:Addr} {x y:Int} (ha:H a=some (.tup [.int x,.int y])) (hb:H b=some (.tup [.int x,.int y])):PF 0 H a b:=
 ⟨_,_,.inr ⟨ha,hb⟩,rfl,λi u v hu hv=>by
  rw[hu] at hv
  cases hv
  match i,hu with
  |0,hu=>
   cases hu
   exact .inl ⟨x,rfl,rfl⟩
  |1,hu=>
   cases hu
   exact .inl ⟨y,rfl,rfl⟩
  |i+2,hu=>cases hu⟩
section
variable {K:Fg}
theorem TY {E:XS} {σ:St} {H:Hp} {Q:VK} {o a b:EX K} {ho:o.s≠.zc} (h:o.t E σ H λx H1=>RS nU (fY [a,b] E) x σ H1 Q):(DQ o a b ho).t E σ H Q:=h
theorem MU {H:Hp} {Q:VK} {z y:Str} {i:Int} (h:Q (.int (Txt.find3 z y i)) H):nU z [.str y,.int i] H Q:=h
structure Dw (K:Fg) (H:Hp) (a:Addr) (ws:List Str) (c L:Nat):Prop where
 rl:Rl K H a ws 100
 c1:97<=c
 c2:c - 97<ws.length
 gr:aK ws c=true
 mx:LJ ws=true
 l1:1<=L
 l20:L<=20
 few:(aW ws c L).length<=300
 few2:(aW ws c (L+1)).length<=300
 big:((2 ^ 100:Nat):Int)<=sz ws 400 c
theorem Dw.same {H H':Hp} {a:Addr} {ws:List Str} {c L:Nat} (h:Dw K H a ws c L) (e:aC H H'):Dw K H' a ws c L:=⟨h.rl.same e,h.c1,h.c2,h.gr,h.mx,h.l1,h.l20,h.few,h.few2,h.big⟩
noncomputable abbrev Tn (ws:List Str) (c g L t:Nat):Prop:=WQ ws (str ws c g L) (bG (aW ws c L)) t
theorem Dw.ask {H:Hp} {a:Addr} {ws:List Str} {c g L:Nat} {Q:VK} {E:XK} (ko:KO K) (h:Dw K H a ws c L) (q:∀(t:Nat) (r:Addr) (H':Hp),Tn ws c g L t->aC H H'->H' r=some (.tup [.int (dst ws c (str ws c g L) t).1,.int (dst ws c (str ws c g L) t).2])->Q (.ref r) H'):dH K [.ref a,sgn c,.str (aH (str ws c g L))] H Q E:=by
 have e1:(aH (str ws c g L)).length=L:=by rw[bF,str_len]
 have e2:ls (aH (str ws c g L))=str ws c g L:=aO _;have l1:=h.l1;have l20:=h.l20;refine ⟨a,ws,c,_,rfl,⟨h.rl.rt,h.rl.ru,h.c1,by lia,by lia,ko⟩,h.gr,h.c2,h.mx,?_,?_,?_,λt r H' k1 k2 k3=>?_⟩
 ·rw[e1];exact h.few
 ·rw[e1,e2];exact CP h.rl.ru h.l1 h.c1 h.c2 h.gr h.few g
 ·rw[e1];exact h.few2
 ·rw[e1,e2] at k1;rw[e2] at k3;exact q t r H' k1 k2 k3
theorem Dw.told {H:Hp} {a:Addr} {ws:List Str} {c g L t:Nat} (h:Dw K H a ws c L) (ht:Tn ws c g L t):∃(ns:List Nat) (x y:Nat),dst ws c (str ws c g L) t=((x:Int),(y:Int))/\aW ws c (L+1)=ns.map (dY ws c (L+1))/\0<x/\Gp (λq=>str ws c q L=str ws c g L) y x/\Wg (GN ws c L t (str ws c g L) ns) x y:=by
 have r:=IK h.rl.ru h.l1 h.c1 h.c2 h.gr (p:=str ws c g L) (t:=t) λn=>ht.1 _ (CP h.rl.ru h.l1 h.c1 h.c2 h.gr h.few n);unfold dst;rw[str_len];exact r
theorem Dw.pl {H:Hp} {a:Addr} {ws:List Str} {c L:Nat} (h:Dw K H a ws c L) {n:Nat} (hn:n<2 ^ 100):Pl K H a ws c (n:Nat):=⟨h.rl.rt,h.rl.ru,h.c1,h.c2,h.gr,by lia,400,by lia,by have:=h.big;lia⟩
end
theorem JJ:str R0 97 1 1=[98]:=by decide+kernel
theorem VM:aJ R0 (f0 R0 97 1) 2=[([97],[0,0]),([98],[1,0])]:=by decide+kernel
theorem VL:aJ R0 (f0 R0 97 2) 3=[([97,98],[0,0]),([98,97],[1,0]),([97,97],[1,1])]:=by decide+kernel
theorem DE {ws:List Str} {f:List bL} {k n:Nat} (h:(aJ ws f k).length<=k) (hk:k<=n):aJ ws f n=aJ ws f k:=by
 obtain ⟨d,rfl⟩:∃d,n=k+d:=⟨n - k,by lia⟩;exact iC ws f h d
theorem all1:aW R0 97 1=[([97],[0,0]),([98],[1,0])]:=by
 unfold aW;rw[DE (k:=2) (by rw[VM];decide) (by decide),VM]
theorem all2:aW R0 97 2=[([97,98],[0,0]),([98,97],[1,0]),([97,97],[1,1])]:=by
 unfold aW;rw[DE (k:=3) (by rw[VL];decide) (by decide),VL]
theorem Jx:Tn R0 97 1 1 2:=by
 unfold Tn;rw[JJ,all1];refine ⟨by decide+kernel,λt' h=>?_⟩;have:t'=0\/t'=1:=by lia
 rcases this with rfl|rfl
 ·exact ⟨[97],by decide,by decide+kernel⟩
 ·exact ⟨[98],by decide,by decide+kernel⟩
theorem Ib:dst R0 97 (str R0 97 1 1) 2=(3,1):=by
 rw[JJ];unfold dst;show AF _ _ (aW R0 97 2)=_;rw[all2];decide+kernel
theorem Nb:LJ R0=true:=by decide+kernel
theorem Ls:((2 ^ 100:Nat):Int)<=sz R0 400 97:=by decide+kernel
noncomputable abbrev FX:List (List Str × Nat):=[(R0,20),(R1,20),(K31.R2,20),(R3,9),(R4,20),(R5,20),(R6,12),(R7,20),(R8,20),(R9,12)]
theorem Hu:∀p∈FX,LJ p.1=true:=by decide+kernel
theorem Ax:∀p∈FX,((2 ^ 100:Nat):Int)<=sz p.1 400 97:=by decide+kernel
theorem Hv {i:Nat} {p:List Str × Nat} (h:FX[i]?=some p):FW[i]?=some p:=by
 have hi:i<10:=(List.getElem?_eq_some_iff.mp h).1;have e:(FX++[(Jp,20),(Jo,20)])[i]?=some p:=by rw[getElem?_append_left hi];exact h
 exact e
theorem Aw:∀p∈FX,2<=p.2:=by decide
theorem Du:V.str (Str.ofString "a")=sgn 97:=congrArg V.str (by decide+kernel)
theorem Kf:Str.ofString "b"=aH (str R0 97 1 1):=by
 rw[JJ];decide+kernel
section
variable {K:Fg}
structure KF (K:Fg):Prop where
 n_NoStart:PySem.W.nsIn K mainGlobals "NoStart"=some (some (.ref (clsAt K "NoStart")))
 n_TooGreat:PySem.W.nsIn K mainGlobals "TooGreat"=some (some (.ref (clsAt K "TooGreat")))
 ini:Cb K "TooGreat" "self" "most" "most"
 e_NoStart:Cc K "NoStart"
 n_Sight:PySem.W.nsIn K mainGlobals "Sight"=some (some (.ref (clsAt K "Sight")))
 cl:IC K (clsAt K "Sight")
 n1:bS K (clsAt K "Sight") "size"
 n2:bS K (clsAt K "Sight") "first"
 n3:bS K (clsAt K "Sight") "last"
 n4:bS K (clsAt K "Sight") "gap"
 n5:bS K (clsAt K "Sight") "place"
theorem KF.ko (kf:KF K):KO K:=⟨kf.cl,kf.n1,kf.n2,kf.n3,kf.n4,kf.n5⟩
noncomputable def oX (K:Fg):Sp:=λvs H Q _=>∃n:Int,vs=[.int n]/\0<=n/\∀(l:Addr) (i:Nat) (p:List Str × Nat) (H':Hp),aC H H'->FX[i]?=some p->Fw H' p l->Q (.ref l) H'
noncomputable def mG (K:Fg):List (SX K):=
 [set 1 (lst [lst [tup [cst (.str "ab"),cst (.str "a")],cst (.int 20)],lst [tup [cst (.str "ab"),cst (.str "ba")],cst (.int 20)],lst [tup [cst (.str "aab"),cst (.str "ab")],cst (.int 20)],lst [tup [cst (.str "abc"),cst (.str "ac"),cst (.str "b")],cst (.int 9)]]),
  set 1 (bin .Add (var 1) (lst [lst [tup [cst (.str "abb"),cst (.str "ab")],cst (.int 20)],lst [tup [cst (.str "abc"),cst (.str "bca"),cst (.str "cab")],cst (.int 20)],lst [tup [cst (.str "ab"),cst (.str "cd"),cst (.str "ad"),cst (.str "cb")],cst (.int 12)]])),
  set 1 (bin .Add (var 1) (lst [lst [tup [cst (.str "abab"),cst (.str "a")],cst (.int 20)],lst [tup [cst (.str "ab"),cst (.str "c"),cst (.str "a")],cst (.int 20)]])),
  set 1 (bin .Add (var 1) (lst [lst [tup [cst (.str "ab"),cst (.str "ca"),cst (.str "cd"),cst (.str "ac")],cst (.int 12)]])),
  ret (ix (var 1) (bin .Mod (var 0) (cst (.int 10))))]
noncomputable abbrev F5:List (List Str × Nat):=[(R9,12)]
noncomputable def WN (K:Fg):List (SX K):=[set 1 (lst (F1.map el)),set 1 (bin .Add (var 1) (lst (F2.map el))),set 1 (bin .Add (var 1) (lst (F3.map el))),set 1 (bin .Add (var 1) (lst (F5.map el))),ret (ix (var 1) (bin .Mod (var 0) (cst (.int 10))))]
theorem Ba:mG K=WN K:=rfl
theorem FG:TT (oX K) (mG K) ["_law_number","_law_some"]:=by
 intro vs H Q E h;obtain ⟨n,rfl,n0,q⟩:=h;rw[Ba];unfold WN
 (with_reducible refine mU ?_)
 refine sW ?_;refine WD (ps:=F1) (by decide) (by decide) λl1 ls1 H1 s1 f1=>?_
 (with_reducible refine mU ?_)
 refine sW ?_;refine BY (ps:=F1) (qs:=F2) rfl f1 (by decide) (by decide) λl2 ls2 H2 s2 f2=>?_
 (with_reducible refine mU ?_)
 refine sW ?_;refine BY (ps:=F1++F2) (qs:=F3) rfl f2 (by decide) (by decide) λl3 ls3 H3 s3 f3=>?_
 (with_reducible refine mU ?_)
 refine sW ?_;refine BY (ps:=F1++F2++F3) (qs:=F5) rfl f3 (by decide) (by decide) λl4 ls4 H4 s4 f4=>?_;have fl:(F1++F2++F3++F5)=FX:=rfl;rw[fl] at f4;walk_at "";have m0:=emod_nonneg n (show (10:Int)≠0 by decide);have m1:=emod_lt_of_pos n (show (0:Int)<10 by decide);obtain ⟨i,hi⟩:∃i:Nat,n % 10=(i:Int):=⟨(n % 10).toNat,by lia⟩;have hl:ls4.length=10:=f4.n;have hx:ls4[i]?=some (ls4[i]'(by lia)):=getElem?_eq_getElem _;have hy:FX[i]?=some (FX[i]'(by show i<10;lia)):=getElem?_eq_getElem _;refine qG (aR.of f4.l) (v:=.ref (ls4[i]'(by lia))) (by rw[hi];exact gU (by rw[getElem?_map,hx];rfl)) ?_;exact q _ i _ H4 (((s1.trans s2).trans s3).trans s4) hy (f4.f i _ _ hx hy)
noncomputable def uK (K:Fg):Sp:=λvs H Q _=>∃(a:Addr) (ns:List Int),vs=[.ref a]/\KF K/\aR K H a (ns.map V.int)/\ns.length<=63/\∀H',Q (.bl true) H'
noncomputable def OL (K:Fg):List (SX K):=
 rW (cmp .NotEq (call "distance" (dH K) [tup [cst (.str "ab"),cst (.str "a")],cst (.str "a"),cst (.str "b")]) (tup [cst (.int 3),cst (.int 1)])) [ret (cst (.bl false))] []::
  set 12 (call "distance" (dH K) [var 4,var 3,var 5])::
  [ret (CO (call "_law_is_told" (eL K) [var 12]) [cmp .Eq (var 12) (var 8)])]
noncomputable def WM (K:Fg):List (SX K):=
 rW (CO (cmp .LtE (var 9) (cst (.int 600))) [cmp .LtE (var 10) (bin .Pow (cst (.int 10)) (cst (.int 29)))]) [set 11 (call "stretch_at" (Pr.bO K) [var 4,var 3,var 10,bin .Add (var 9) (len (var 5))]),
   rW (Ko (cmp .NotEq (xA (var 11) none (some (len (var 5)))) (var 5)) [cmp .NotEq (DQ (var 11) (var 5) (cst (.int 1))) (var 9)]) [ret (cst (.bl false))] []] []::OL K
noncomputable def OM (K:Fg):List (SX K):=
 set 8 (call "distance" (dH K) [var 4,var 3,var 5])::
  rW (yO (call "_law_is_told" (eL K) [var 8])) [ret (cst (.bl false))] []::
  XO (IT [9,10]) (var 8)::WM K
noncomputable def zY (K:Fg):List (SX K):=
 set 1 (call "_law_mixed" (dW K) [call "_law_cell" (fA K) [var 0,cst (.int 0)],cst (.int 0)])::
  set 2 (bin .Add (cst (.int 1)) (bin .Mod (var 1) (cst (.int 4))))::
  set 3 (ix (cst (.str "abcd")) (bin .Mod (bin .FloorDiv (var 1) (cst (.int 4))) (var 2)))::
  set 4 (call "_law_mixing" (jL K) [var 0,var 2,bin .Mod (bin .FloorDiv (var 1) (cst (.int 4))) (var 2),cst (.int 4)])::
  set 5 (call "_law_piece" (kG K) [call "_law_written" (eK K) [var 4,var 3,cst (.int 72)],call "_law_mixed" (dW K) [call "_law_cell" (fA K) [var 0,cst (.int 5)],cst (.int 5)],var 2])::
  rW (cmp .Eq (bin .Mod (bin .FloorDiv (var 1) (cst (.int 8000))) (cst (.int 4))) (cst (.int 0))) [XO (Cv [4,6]) (call "_law_few" (oX K) [bin .FloorDiv (var 1) (cst (.int 32000))]),
   set 3 (cst (.str "a")),
   set 7 (bin .Mod (bin .FloorDiv (var 1) (cst (.int 16))) (cst (.int 60))),
   set 5 (xA (call "_law_written" (eK K) [var 4,var 3,cst (.int 72)]) (some (var 7)) (some (bin .Add (bin .Add (var 7) (cst (.int 1))) (bin .Mod (bin .FloorDiv (var 1) (cst (.int 960))) (min2 (cst (.int 8)) (bin .Sub (var 6) (cst (.int 1))))))))] []::OM K
theorem Fm:∀vs H Q E,uK K vs H Q E->vs.length=1:=by
 rintro vs H Q E ⟨_,_,rfl,_⟩;rfl
section
variable {Q:VK} {E:XK} {a:Addr} {ws:List Str} {c g L t:Nat} {v0 v1 v2 v6 v7 v9 v10 v11:Option V}
theorem JF {H:Hp} {r:Addr} (ko:KO K) (h:Dw K H a ws c L) (ht:Tn ws c g L t) (hr:H r=some (.tup [.int (dst ws c (str ws c g L) t).1,.int (dst ws c (str ws c g L) t).2])) (q:∀H',Q (.bl true) H'):
  lJ (OL K) (λ_=>E) {nx:=λ_ H'=>Q .non H',rt:=Q} [v0,v1,v2,some (sgn c),some (.ref a),some (.str (aH (str ws c g L))),v6,v7,some (.ref r),v9,v10,v11,none] H:=by
 unfold OL;walk_at "";refine ⟨by show 2<=sizeLine;decide,λp np=>?_⟩;have s1:=aE np (.tup (R0.map V.str));have h1:Dw K (upd H p (.tup (R0.map V.str))) p R0 97 1:=⟨⟨aA,WI.ru.pos,WI.ru.four,WI.ru.isw,WI.ru.one,WI.ru.le⟩,by decide,WI.c2,WI.gr,Nb,by decide,by decide,by rw[all1];decide,by rw[all2];decide,Ls⟩;walk_at "";rw[Du,Kf];refine Dw.ask ko h1 λt2 r2 H2 k1 s2 hr2=>?_;have e2:t2=2:=k1.one Jx;subst e2;rw[Ib] at hr2;walk_at "";refine ⟨by show 2<=sizeLine;decide,λp3 np3=>?_⟩;have s3:=aE np3 (.tup [V.int 3,.int 1]);refine Fu (n:=0) (by decide) (CZ (s3 _ _ hr2) aA) ?_;refine AG ?_;have s13:=(s1.trans s2).trans s3;have h3:=h.same s13;have hr3:=s13 _ _ hr;revert h3 hr3;generalize upd H2 p3 (.tup [V.int 3,.int 1])=H3;intro h3 hr3;walk_at "";refine Dw.ask ko h3 λt4 r4 H4 k4 s4 hr4=>?_;have e4:t4=t:=k4.one ht;subst e4;obtain ⟨ns,x,y,ed,_,x0,_,_⟩:=h.told ht;rw[ed] at hr3 hr4;walk_at "";refine ⟨r4,_,_,rfl,hr4,by lia,by lia,λH5 s5=>?_⟩;walk_at "";refine PL ?_;walk_at "";exact Hf (n:=0) (by decide) (CZ (s5 _ _ hr4) (s5 _ _ (s4 _ _ hr3))) (q _)
theorem VG {H:Hp} (ko:KO K) (h:Dw K H a ws c L) (q:∀H',Q (.bl true) H'):
  lJ (OM K) (λ_=>E) {nx:=λ_ H'=>Q .non H',rt:=Q} [v0,v1,v2,some (sgn c),some (.ref a),some (.str (aH (str ws c g L))),v6,v7,none,none,none,none,none] H:=by
 have l20:=h.l20;have l1:=h.l1;have hzl:(aH (str ws c g L)).length=L:=by rw[bF,str_len]
 unfold OM;walk_at "";refine Dw.ask ko h λt r H1 ht s1 hr=>?_;have h1:=h.same s1;have hr0:=hr;obtain ⟨ns,x,y,ed,_,x0,G,_⟩:=h.told ht;rw[ed] at hr;walk_at "";refine ⟨r,_,_,rfl,hr,by lia,by lia,λH2 s2=>?_⟩;have h2:=h1.same s2;have hr2:=s2 _ _ hr;walk_at "";refine AG ?_;walk_at "";refine MM ?_;walk_at "";refine qE (cZ.of hr2) ?_;unfold WM;walk_at "";refine jI (λhx6=>?_) λ_=>?_
 ·walk_at "";refine Gq ⟨by decide,by decide,by decide⟩ ?_;walk_at "";refine jI (λhy9=>?_) λ_=>?_
  ·walk_at "";refine fO (small (by lia)) ?_;rw[hzl];walk_at "";rw[show ((x:Nat):Int)+((L:Nat):Int)=((x+L:Nat):Int) by lia];refine .inl ⟨a,ws,c,y,x+L,rfl,h2.pl (by
    have e100:(2:Nat) ^ 100=1267650600228229401496703205376:=by decide
    have e29:(10:Int) ^ (29:Int).toNat=100000000000000000000000000000:=by decide
    lia),by lia,by lia,λH3 s3=>?_⟩
   have hwl:(aH (str ws c y (x+L))).length=x+L:=by rw[bF,str_len]
   walk_at "";refine fO (small (by lia)) ?_;rw[hzl];walk_at "";refine dQ (small (by lia)) ?_;have es:Txt.slice (aH (str ws c y (x+L))) none (some ((L:Nat):Int))=aH (str ws c g L):=by
    refine cN ?_;rw[VN,aO,aO];have e:=cA ws c y (x+L) 0 L (by lia);rw[drop_zero,Nat.add_zero] at e;rw[e];exact G.2.1
   rw[es];walk_at "";rw[decide_eq_true rfl];refine AG ?_;walk_at "";refine TY ?_;walk_at "";refine MU ?_;rw[CF G];walk_at "";rw[decide_eq_true rfl];refine AG ?_;walk_at "";exact JF ko (h2.same s3) ht (s3 _ _ (s2 _ _ hr0)) q
  ·walk_at "";exact JF ko h2 ht (s2 _ _ hr0) q
 ·refine AG ?_;walk_at "";exact JF ko h2 ht (s2 _ _ hr0) q
end
theorem Dc (kf:KF K):TT (uK K) (zY K) ["_law_script","_law_head","_law_many","_law_start","_law_rule","_law_piece_here","_law_most","_law_begin","_law_found","_law_far","_law_place","_law_word_here","_law_again"]:=by
 intro vs H Q E h;obtain ⟨a,ns,rfl,_,hS,h63,q⟩:=h;have ko:=kf.ko;unfold zY;walk_at "";refine ⟨a,ns,0,rfl,hS,by decide,λv1=>?_⟩;walk_at "";refine ⟨v1,0,rfl,by decide,by decide,λv v0 _=>?_⟩;walk_at "";obtain ⟨m,hm,m1,m4⟩:∃m:Nat,1+v % 4=(m:Int)/\1<=m/\m<=4:=⟨(1+v % 4).toNat,by lia,by lia,by lia⟩;rw[hm];have s0:=emod_nonneg (v / 4) (show ((m:Nat):Int)≠0 by lia);have s4:=emod_lt_of_pos (v / 4) (show (0:Int)<((m:Nat):Int) by lia);obtain ⟨s,hs⟩:∃s:Nat,v / 4 % ((m:Nat):Int)=(s:Int):=⟨_,(Int.toNat_of_nonneg s0).symm⟩;rw[hs] at s0 s4 ⊢;refine qF (by rw[iU];decide) (oF (m:=4) (by lia) (by lia) (by lia)) ?_;rw[toNat_natCast];walk_at "";rw[hs];refine ⟨a,ns,_,s,4,rfl,hS,by lia,by lia,s4,by decide,by decide,λp ws H1 s1 hR hl M=>?_⟩;rw[toNat_natCast] at hl;have hU:=hR.ru;have sl:s<ws.length:=M.lt;have hS1:=s1.seq hS;walk_at "";refine ⟨p,ws,97+s,72,rfl,hR,by lia,by lia,M.gr,by decide,λH2 s2=>?_⟩;have hR2:=hR.same s2;have hS2:=s2.seq hS1;walk_at "";refine ⟨a,ns,5,rfl,hS2,by decide,λv5=>?_⟩;walk_at "";refine ⟨v5,5,rfl,by decide,by decide,λw w0 _=>?_⟩;walk_at "";refine ⟨ws,97+s,m,_,rfl,w0,m1,m4,λg L H3 s3 L1 Lm=>?_⟩;have hR3:=hR2.same s3;walk_at "";refine jI (λhc=>?_) λhc=>?_
 ·walk_at "";refine MM ?_;walk_at "";refine ⟨_,rfl,by lia,λl i pr H4 s4' hi fw=>?_⟩;obtain ⟨fx,M1,M20⟩:=Ay (Hv hi);have hpm:=mem_of_getElem? hi;have M2:=Aw pr hpm;obtain ⟨t,hl4,ht4⟩:=fw;have hRt:Rl K H4 t pr.1 100:=⟨ht4,fx.ru.pos,fx.ru.four,fx.ru.isw,fx.ru.one,fx.ru.le⟩;refine TK (aR.of hl4) ?_;walk_at "";rw[Du];refine ⟨t,pr.1,97,72,rfl,hRt,by decide,fx.c2,fx.gr,by decide,λH5 s5=>?_⟩;walk_at "";obtain ⟨mn,hmn,n1,n2,n3⟩:∃mn:Nat,min 8 (((pr.2:Nat):Int) - 1)=(mn:Int)/\1<=mn/\mn<=8/\mn+1<=pr.2:=⟨(min 8 (((pr.2:Nat):Int) - 1)).toNat,by lia,by lia,by lia,by lia⟩;rw[hmn];have k0:=emod_nonneg (v / 960) (show ((mn:Nat):Int)≠0 by lia);have k1:=emod_lt_of_pos (v / 960) (show (0:Int)<((mn:Nat):Int) by lia);obtain ⟨g',hg'⟩:∃g':Nat,v / 16 % 60=(g':Int):=⟨(v / 16 % 60).toNat,by lia⟩;obtain ⟨L',hL'⟩:∃L':Nat,1+v / 960 % ((mn:Nat):Int)=(L':Int):=⟨(1+v / 960 % ((mn:Nat):Int)).toNat,by lia⟩;rw[hg',show ((g':Nat):Int)+1+v / 960 % ((mn:Nat):Int)=((g':Nat):Int)+((L':Nat):Int) by lia];refine dQ (small (by rw[bF,str_len];decide)) ?_;rw[cut_str (by lia)];walk_at "";have few:∀{L},1<=L->L<=pr.2->(aW pr.1 97 L).length<=300:=λh1 h2=>NJ fx.ru h1 h2 (by decide) fx.c2 fx.gr fx.few;exact VG ko ⟨hRt.same s5,by decide,fx.c2,fx.gr,Hu pr hpm,by lia,by lia,few (by lia) (by lia),few (by lia) (by lia),Ax pr hpm⟩ q
 ·walk_at "";have few:∀{L},1<=L->L<=[20,8,5,4].getD (m - 1) 0->(aW ws (97+s) L).length<=300:=λh1 h2=>le_trans (UG hU h1 (by lia) (by lia) M.gr) (by rw[hl];exact RB m1 m4 h2);have L20:L<=20:=by
   have:m=1\/m=2\/m=3\/m=4:=by lia
   rcases this with rfl|rfl|rfl|rfl
   ·have:L+1<=20:=Lm;lia
   ·have:L+1<=8:=Lm;lia
   ·have:L+1<=5:=Lm;lia
   ·have:L+1<=4:=Lm;lia
  exact VG ko ⟨hR3,by lia,by lia,M.gr,M.mx hU,L1,L20,few L1 (by lia),few (by lia) Lm,M.big hU 100⟩ q
theorem Dv (K:Fg) (H:Hp) (a:Addr) (ns:List Int) (kf:KF K) (h:ns.length<=63) (hS:aR K H a (ns.map V.int)):uK K [.ref a] H (λv _=>v=.bl true) λ_ _ _=>False:=⟨a,ns,rfl,kf,hS,h,λ_=>rfl⟩
end
end L2.Na.K42
namespace L2.Na
open PySem PySem.Spec PyProof.Rows L2 L2.L3
noncomputable def hV (st:Stmt) (n:Nat) (N:List Str) (b:∀K:Fg,List (SX K)):Prop:=eC N (N.take n) (aM st)/\(∀K,DS (b K) ⟨N,(aM st).names,true⟩ (aZ st)=true)/\
 ∀(x y:Str) (kV doc pm:Value) (an:Option Addr) (cdv ct:Value) (us:List Value),us.length=(N.take n).length->bindArgs (PySem.W.fnOf x y (cJ st) (aZ st) (aM st) .none kV doc pm an cdv ct) ⟨us,[]⟩=pure ((N.take n).zip us)
theorem Nr {f:FuncData} {ps:List Str} (h:∀a:Value,bindArgs f ⟨[a],[]⟩=pure (ps.zip [a])) (us:List Value) (hl:us.length=1):bindArgs f ⟨us,[]⟩=pure (ps.zip us):=Nw (Z:=λus=>bindArgs f ⟨us,[]⟩=pure (ps.zip us)) h us hl
theorem Nq {f:FuncData} {ps:List Str} (h:∀a b:Value,bindArgs f ⟨[a,b],[]⟩=pure (ps.zip [a,b])) (us:List Value) (hl:us.length=2):bindArgs f ⟨us,[]⟩=pure (ps.zip us):=Nv (Z:=λus=>bindArgs f ⟨us,[]⟩=pure (ps.zip us)) h us hl
theorem Np {f:FuncData} {ps:List Str} (h:∀a b c:Value,bindArgs f ⟨[a,b,c],[]⟩=pure (ps.zip [a,b,c])) (us:List Value) (hl:us.length=3):bindArgs f ⟨us,[]⟩=pure (ps.zip us):=Nu (Z:=λus=>bindArgs f ⟨us,[]⟩=pure (ps.zip us)) h us hl
theorem Nn {f:FuncData} {ps:List Str} (h:∀a b c d:Value,bindArgs f ⟨[a,b,c,d],[]⟩=pure (ps.zip [a,b,c,d])) (us:List Value) (hl:us.length=4):bindArgs f ⟨us,[]⟩=pure (ps.zip us):=by4 (Z:=λus=>bindArgs f ⟨us,[]⟩=pure (ps.zip us)) h us hl
section
variable {K:Fg} {P:Program} {w:World} {h base:Heap} {mg:Str->Option Value}
theorem dn (X:K.In h) (G:h.Ns mainGlobals mg) (bl:∀x∈nI,mg x=none) (k:Nat) {x:Str} {st:Stmt} {sp:Sp} {n:Nat} {N:List Str} {b:∀K:Fg,List (SX K)} (F:FD K x st) (o:hV st n N b) (len:∀vs H Q E,sp vs H Q E->vs.length=(N.take n).length)
  (t:∀vs H Q E,sp vs H Q E->lJ (b K) (λ_=>E) {nx:=λ_ H'=>Q .non H',rt:=Q} (start N vs) H) (hq:∀A,cG k A->IB (b K) ⟨P,w,K,mg,base,A⟩):Cd P w K mg base (k+1) x sp:=
 Ic F X G bl (b K) o.1 (o.2.1 K) (o.2.2 x x) len t hq
theorem Cd.a {j k:Nat} {x:Str} {sp:Sp} {A:Around} (D:Cd P w K mg base j x sp) (hr:cG k A) (h:j<=k:=by decide):FnAt ⟨P,w,K,mg,base,A⟩ x sp:=D.at hr h
end
end L2.Na
local macro_rules | `(tactic| walk_at "l") => `(tactic| (intro vs H Q E h; first | (obtain ⟨_, e, _⟩ := h; subst e; rfl) | (obtain ⟨_, _, e, _⟩ := h; subst e; rfl) | (obtain ⟨_, _, _, e, _⟩ := h; subst e; rfl) | (obtain ⟨_, _, _, _, e, _⟩ := h; subst e; rfl) | (obtain ⟨_, _, _, _, _, e, _⟩ := h; subst e; rfl) | (obtain ⟨_, _, _, _, _, _, e, _⟩ := h; subst e; rfl) | (obtain ⟨_, _, _, _, _, _, _, e, _⟩ := h; subst e; rfl) | (obtain ⟨_, _, _, _, _, _, _, _, e, _⟩ := h; subst e; rfl) | (obtain ⟨_, _, _, _, _, _, _, _, _, e, _⟩ := h; subst e; rfl) | (obtain ⟨_, _, _, _, _, _, _, _, _, _, e, _⟩ := h; subst e; rfl) | (obtain ⟨_, _, _, _, _, _, _, _, _, _, _, e, _⟩ := h; subst e; rfl)))
local macro_rules | `(tactic| walk_at "o") => `(tactic| (refine ⟨⟨rfl, rfl, rfl, by decide +kernel, rfl, by decide +kernel, by decide +kernel⟩, fun K => by kernel_rfl, ?_⟩; intro x y kV doc pm an cdv ct us hl; first | exact L2.Na.Nr (fun _ => by exact rfl) us hl | exact L2.Na.Nq (fun _ _ => by exact rfl) us hl | exact L2.Na.Np (fun _ _ _ => by exact rfl) us hl | exact L2.Na.Nn (fun _ _ _ _ => by exact rfl) us hl | exact L2.Na.bz5 (fun _ _ _ _ _ => by exact rfl) us hl | exact L2.Na.bz6 (fun _ _ _ _ _ _ => by exact rfl) us hl))
local macro_rules | `(tactic| walk_at "f") => `(tactic| first
 | (refine' L2.Na.Hy ?a1 ?a2 ?a3 ?a4; (case a1 => k_is); (case a2 => k_is); (case a3 => k_is); (case a4 => k_is))
 | (refine' L2.Na.Au ?a1; (case a1 => k_is))
 | (refine' L2.Na.Av ?a1; (case a1 => k_is))
 | (refine' L2.Na.TH ?a1 ?a2 ?a3 ?a4 ?a5 ?a6 ?a7 ?a8; (case a1 => k_is); (case a2 => k_is); (case a3 => k_is); (case a4 => k_is); (case a5 => k_is); (case a6 => k_is); (case a7 => k_is); (case a8 => k_is)))
local macro_rules | `(tactic| walk_at "e") => `(tactic| first | kernel_rfl | k_is)
local macro_rules | `(tactic| walk_at "k") => `(tactic| first
 | kernel_rfl
 | k_is
 | (show PySem.W.findIn _ _ _ = _; walk_at "e")
 | exact ⟨by walk_at "e", by walk_at "e"⟩
 | (refine' L2.Na.Cb.mk ?i1 ?i2 ?i3 ?i4 ?i5; (case i1 => walk_at "e"); (case i2 => walk_at "e"); (case i3 => walk_at "e"); (case i4 => walk_at "e"); (case i5 => (refine' L2.Na.Aa ?z1 ?z2 ?z3 ?z4 ?z5 ?z6 ?z7 ?z8; (case z1 => k_is); (case z2 => k_is); (case z3 => k_is); (case z4 => k_is); (case z5 => exact ⟨rfl, rfl, rfl⟩); (case z6 => exact ⟨rfl, rfl⟩); (case z7 => exact ⟨rfl, rfl, by decide⟩); (case z8 => exact fun s u v X => PySem.W.kp_binds X (fun S => by kernel_rfl)))))
 | (refine' L2.Na.XF.mk ?x1 ?x2 ?x3 ?x4 ?x5 ?x6; (case x1 => walk_at "e"); (case x2 => walk_at "e"); (case x3 => walk_at "e"); (case x4 => walk_at "e"); (case x5 => intro od; walk_at "e"); (case x6 => walk_at "e"))
 | (refine' L2.IC.mk ?x1 ?x2 ?x3 ?x4; (case x1 => walk_at "e"); (case x2 => walk_at "e"); (case x3 => walk_at "e"); (case x4 => walk_at "e")))
local macro_rules | `(tactic| walk_at "q") => `(tactic| (intro A hr; repeat' first | exact trivial | exact L2.Na.Cd.a (by assumption) hr | refine ⟨?_, ?_⟩))
namespace L2.Na.K42
open PySem PySem.Spec PyProof.Rows L2 L2.L3 L2.Na
noncomputable def top (i:Nat):Stmt:=PySem.Challenge.pw_neveragain_k42_distance_stands.main.body.getD i (.Pass ⟨0,0,0,0⟩)
theorem yM:hV (top 44) 2 ["_law_cell_here","_law_k","_law_number"] iS:=by walk_at "o"
theorem BG:hV (top 45) 3 ["_law_number","_law_many","_law_size","_law_word_here","_law_k"] jU:=by walk_at "o"
theorem BH:hV (top 43) 2 ["_law_script","_law_k"] jV:=by walk_at "o"
theorem vE:hV (top 46) 4 ["_law_script","_law_many","_law_start","_law_most","_law_words","_law_k","_law_number","_law_word_here","_law_at"] gT:=by walk_at "o"
theorem yK:hV (top 50) 3 ["_law_word_here","_law_number","_law_many","_law_size","_law_at"] iR:=by walk_at "o"
theorem GH:hV (top 2) 1 ["many"] mF:=by walk_at "o"
theorem LA:hV (top 4) 2 ["word","many"] rA:=by walk_at "o"
theorem RX:hV (top 5) 1 ["rule"] wN:=by walk_at "o"
theorem kQ:hV (top 20) 1 ["rule"] cV:=by walk_at "o"
theorem SA:hV (top 23) 2 ["rule","start","word"] wR:=by walk_at "o"
theorem pK:hV (top 10) 2 ["row","before"] aT:=by walk_at "o"
theorem nE:hV (top 10) 2 ["row","before"] L2.Na.aT:=by walk_at "o"
theorem vC:hV (top 9) 2 ["rows","before"] gR:=by walk_at "o"
theorem RY:hV (top 7) 2 ["rule","times","rows","made","turn"] wO:=by walk_at "o"
theorem rP:hV (top 26) 3 ["rule","start","n","rows","at","made"] L2.Na.Pr.cF:=by walk_at "o"
theorem GK:hV (top 24) 3 ["rule","start","n","rows","word_for","pairs","letter","left","row","size_of","word","step"] L2.Na.Pr.jF:=by walk_at "o"
theorem Fc:hV (top 19) 2 ["rule","word","word_for"] OK:=by walk_at "o"
theorem vB:hV (top 25) 4 ["rule","start","n","many","last","steps","ahead","window","step"] L2.Na.Pr.dZ:=by walk_at "o"
theorem SD:hV (top 11) 2 ["one","other"] wU:=by walk_at "o"
theorem rT:hV (top 8) 2 ["rows","numbers","made","number","row"] fT:=by walk_at "o"
theorem nF:hV (top 6) 3 ["rule","numbers","times","rows","made","turn"] dO:=by walk_at "o"
theorem kR:hV (top 30) 2 ["rule","piece","made"] cW:=by walk_at "o"
theorem pN:hV (top 29) 3 ["rule","start","length","first","found","ahead","done","piece","word","base","place","met"] L2.Na.Pr.cX:=by walk_at "o"
theorem RW:hV (top 40) 3 ["sight","gap","place"] L2.Na.K44.wM:=by walk_at "o"
theorem KZ:hV (top 39) 1 ["sights","whole","sight"] L2.Na.K44.qZ:=by walk_at "o"
theorem KY:hV (top 36) 3 ["ahead","size_of","sights","best","longer","both"] qY:=by walk_at "o"
theorem vD:hV (top 41) 1 ["word"] L2.Na.K41.gS:=by walk_at "o"
theorem RZ:hV (top 34) 1 ["rule","known","held","turn"] L2.Na.K41.wQ:=by walk_at "o"
theorem pM:hV (top 37) 1 ["stands"] L2.Na.K44.eV:=by walk_at "o"
theorem pL:hV (top 38) 2 ["parts","sights"] L2.Na.K44.eU:=by walk_at "o"
theorem BI:hV (top 35) 3 ["rule","start","piece","alike","ahead","parts","sights","turns"] jW:=by walk_at "o"
theorem yN:hV (top 47) 2 ["_law_rule","_law_word_here","_law_found","_law_sign"] iT:=by walk_at "o"
theorem rQ:hV (top 48) 3 ["_law_rule","_law_start","_law_size","_law_word_here"] fR:=by walk_at "o"
theorem GJ:hV (top 52) 1 ["_law_number","_law_some"] mG:=by walk_at "o"
theorem yJ:hV (top 49) 1 ["_law_found"] iQ:=by walk_at "o"
theorem rR:hV (top 51) 1 ["_law_found"] fS:=by walk_at "o"
theorem XQ:eC ["_law_script","_law_head","_law_many","_law_start","_law_rule","_law_piece_here","_law_most","_law_begin","_law_found","_law_far","_law_place","_law_word_here","_law_again"] ["_law_script"] (aM (top 53)):=⟨rfl,rfl,rfl,by decide+kernel,rfl,by decide+kernel,by decide+kernel⟩
theorem Fi (K:Fg):DS (zY K) ⟨["_law_script","_law_head","_law_many","_law_start","_law_rule","_law_piece_here","_law_most","_law_begin","_law_found","_law_far","_law_place","_law_word_here","_law_again"],(aM (top 53)).names,true⟩ (aZ (top 53))=true:=by kernel_rfl
noncomputable def kW:Stmt:=match top 33 with| .ClassDef _ _ _ b _ _ _ _ _ _ _=>b.getD 0 (.Pass ⟨0,0,0,0⟩)|s=>s
theorem JP:eC ["self","size","first","last","gap","place"] ["self","size","first","last","gap","place"] (aM kW):=⟨rfl,rfl,rfl,by decide+kernel,rfl,by decide+kernel,by decide+kernel⟩
theorem SK (K:Fg):DS (L2.Na.K44.oE K) ⟨["self","size","first","last","gap","place"],(aM kW).names,true⟩ (aZ kW)=true:=by kernel_rfl
theorem Ip {K:Fg} {P:Program} {w:World} {h base:Heap} {mg:Str->Option Value} (X:K.In h) (G:h.Ns mainGlobals mg) (bl:∀x∈nI,mg x=none) (F_law_mixed:FD K "_law_mixed" (top 44)) (F_law_word:FD K "_law_word" (top 45)) (F_law_cell:FD K "_law_cell" (top 43)) (F_law_mixing:FD K "_law_mixing" (top 46)) (F_law_piece:FD K "_law_piece" (top 50)) (F_letters:FD K "letters" (top 2)) (F_counts:FD K "counts" (top 4)) (F_table:FD K "table" (top 5)) (F_words_by_letter:FD K "words_by_letter" (top 20)) (F_grows:FD K "grows" (top 23)) (F_signs_behind:FD K "signs_behind" (top 10)) (F_sizes_once:FD K "sizes_once" (top 9)) (F_sizes:FD K "sizes" (top 7)) (F_sizes_until:FD K "sizes_until" (top 26)) (F_figures:FD K "figures" (top 24)) (F_put:FD K "put" (top 19)) (F_stretch_at:FD K "stretch_at" (top 25)) (F_added:FD K "added" (top 11)) (F_counts_once:FD K "counts_once" (top 8)) (F_counts_behind:FD K "counts_behind" (top 6)) (F_pieces_of_image:FD K "pieces_of_image" (top 30)) (F_counts_ahead:FD K "counts_ahead" (top 29)) (F_widen:FD K "widen" (top 40)) (F_joined:FD K "joined" (top 39)) (F_widest:FD K "widest" (top 36)) (F_letters_in:FD K "letters_in" (top 41)) (F_mixes:FD K "mixes" (top 34)) (F_sight_of_one:FD K "sight_of_one" (top 37)) (F_sight_turned:FD K "sight_turned" (top 38)) (F_distance:FD K "distance" (top 35)) (F_law_image:FD K "_law_image" (top 47)) (F_law_written:FD K "_law_written" (top 48)) (F_law_few:FD K "_law_few" (top 52)) (F_law_whole:FD K "_law_whole" (top 49)) (F_law_is_told:FD K "_law_is_told" (top 51)) (I_Sight:Bz K "Sight" "Sight.__init__" kW) (k_ENOUGH_TURNS:GC K "ENOUGH_TURNS" (.int 10)) (k_LETTERS:GC K "LETTERS" (.str "abcd")) (k_MOST_PIECES:GC K "MOST_PIECES" (.int 300)) (k_MOST_TURNS:GC K "MOST_TURNS" (.int 400)) (kf:KF K) (A:Around) (hr:cG 9 A):IB (zY K) ⟨P,w,K,mg,base,A⟩:=by
 have d:=@dn K P w h base mg X G bl;have r_NoStart:=PySem.W.mg_of X G kf.n_NoStart;have r_Sight:=PySem.W.mg_of X G kf.n_Sight;have r_TooGreat:=PySem.W.mg_of X G kf.n_TooGreat;have D_Sight:Js P w K mg base 1 "Sight" (L2.Na.K44.gC K):=Bg I_Sight r_Sight bl (L2.Na.K44.oE K) JP (SK K) (λ_ _ _ _ _ _ us hl=>Nt (Z:=λus=>bindArgs _ ⟨us,[]⟩=pure (List.zip _ us)) (λ_ _ _ _ _ _=>by exact rfl) us hl) L2.Na.K44.SR L2.Na.K44.QF (λA hr=>⟨⟨tI,tI⟩,⟨⟨tI,tI⟩,⟨⟨tI,tI⟩,⟨⟨tI,tI⟩,⟨⟨tI,tI⟩,tI⟩⟩⟩⟩⟩);have D_law_mixed:=d 0 F_law_mixed yM (by walk_at "l") xI (by walk_at "q");have D_law_word:=d 0 F_law_word BG (by walk_at "l") AQ (by walk_at "q");have D_law_cell:=d 0 F_law_cell BH (by walk_at "l") AR (by walk_at "q");have D_law_mixing:=d 1 F_law_mixing vE (by walk_at "l") uG (by walk_at "q");have D_law_piece:=d 0 F_law_piece yK (by walk_at "l") xH (by walk_at "q");have D_letters:=d 0 F_letters GH (by walk_at "l") FF λA hr=>⟨⟨(sZ X G k_LETTERS),tI,tI⟩,tI⟩;have D_counts:=d 1 F_counts LA (by walk_at "l") JH (by walk_at "q");have D_table:=d 2 F_table RX (by walk_at "l") PZ (by walk_at "q");have D_words_by_letter:=d 1 F_words_by_letter kQ (by walk_at "l") kA (by walk_at "q");have D_grows:=d 2 F_grows SA (by walk_at "l") QD (by walk_at "q");have T_signs_behind:=d 0 F_signs_behind nE (by walk_at "l") L2.Na.eJ (by walk_at "q");have D_signs_behind:=d 0 F_signs_behind pK (by walk_at "l") eJ (by walk_at "q");have D_sizes_once:=d 1 F_sizes_once vC (by walk_at "l") uE λA hr=>⟨⟨tI,⟨T_signs_behind.a hr,⟨tI,⟨tI,tI⟩⟩⟩,tI⟩,tI⟩;have D_sizes:=d 3 F_sizes RY (by walk_at "l") QA (by walk_at "q");have D_sizes_until:=d 4 F_sizes_until rP L2.Na.Pr.rV L2.Na.Pr.rH λA hr=>⟨⟨⟨D_grows.a hr,⟨tI,⟨tI,tI⟩⟩⟩,⟨⟨⟨r_NoStart,kf.e_NoStart⟩,⟨tI,tI⟩⟩,tI⟩,tI⟩,⟨⟨D_table.a hr,⟨tI,tI⟩⟩,⟨⟨⟨D_letters.a hr,⟨⟨tI,tI⟩,tI⟩⟩,⟨tI,tI⟩⟩,⟨⟨⟨D_sizes.a hr,⟨tI,⟨tI,tI⟩⟩⟩,tI⟩,⟨⟨⟨⟨⟨tI,tI⟩,tI⟩,tI⟩,⟨⟨⟨⟨tI,tI⟩,(sZ X G k_MOST_TURNS)⟩,⟨⟨⟨r_TooGreat,kf.ini,_,hr⟩,(sZ X G k_MOST_TURNS)⟩,tI⟩,tI⟩,⟨⟨tI,⟨⟨D_sizes_once.a hr,⟨tI,⟨⟨tI,tI⟩,tI⟩⟩⟩,tI⟩⟩,tI⟩⟩⟩,⟨tI,tI⟩⟩⟩⟩⟩⟩;have D_figures:=d 5 F_figures GK L2.Na.Pr.GV L2.Na.Pr.FH (by walk_at "q");have D_put:=d 2 F_put Fc (by walk_at "l") Cz (by walk_at "q");have D_stretch_at:=d 6 F_stretch_at vB L2.Na.Pr.vL L2.Na.Pr.uD (by walk_at "q");have D_added:=d 0 F_added SD (by walk_at "l") QE (by walk_at "q");have D_counts_once:=d 1 F_counts_once rT (by walk_at "l") rL (by walk_at "q");have D_counts_behind:=d 3 F_counts_behind nF (by walk_at "l") nB (by walk_at "q");have D_pieces_of_image:=d 3 F_pieces_of_image kR (by walk_at "l") kB (by walk_at "q");have D_counts_ahead:=d 7 F_counts_ahead pN L2.Na.Pr.pQ L2.Na.Pr.oN λA hr=>⟨⟨D_stretch_at.a hr,⟨tI,⟨tI,⟨tI,⟨tI,tI⟩⟩⟩⟩⟩,⟨⟨tI,tI⟩,⟨⟨tI,⟨⟨tI,tI⟩,⟨tI,tI⟩⟩⟩,⟨tI,⟨⟨⟨tI,⟨tI,tI⟩⟩,⟨⟨tI,tI⟩,⟨⟨D_put.a hr,⟨tI,⟨⟨tI,tI,tI⟩,tI⟩⟩⟩,⟨⟨D_counts_behind.a hr,⟨tI,⟨⟨tI,tI⟩,⟨tI,tI⟩⟩⟩⟩,⟨⟨⟨⟨D_pieces_of_image.a hr,⟨tI,⟨tI,tI⟩⟩⟩,tI⟩,⟨⟨⟨tI,tI⟩,⟨⟨⟨⟨tI,tI⟩,(sZ X G k_MOST_PIECES)⟩,⟨⟨⟨r_TooGreat,kf.ini,_,hr⟩,(sZ X G k_MOST_PIECES)⟩,tI⟩,tI⟩,⟨⟨tI,⟨tI,tI⟩⟩,⟨⟨tI,tI,⟨D_added.a hr,⟨tI,⟨⟨D_counts.a hr,⟨⟨tI,tI,tI⟩,⟨⟨tI,tI⟩,tI⟩⟩⟩,tI⟩⟩⟩⟩,tI⟩⟩⟩,tI⟩,tI⟩⟩,⟨⟨tI,tI⟩,tI⟩⟩⟩⟩⟩⟩,⟨tI,tI⟩⟩⟩⟩⟩⟩;have D_widen:=d 0 F_widen RW (by walk_at "l") L2.Na.K44.PY (by walk_at "q");have D_joined:=d 2 F_joined KZ (by walk_at "l") L2.Na.K44.JG λA hr=>⟨⟨D_Sight.at hr (by decide),⟨tI,⟨tI,⟨tI,⟨tI,⟨tI,tI⟩⟩⟩⟩⟩⟩,⟨⟨tI,⟨⟨⟨tI,tI⟩,⟨⟨⟨tI,tI⟩,⟨⟨tI,⟨tI,tI⟩⟩,tI⟩,⟨⟨D_widen.a hr,⟨tI,⟨⟨⟨tI,tI⟩,tI⟩,⟨tI,tI⟩⟩⟩⟩,tI⟩⟩,⟨⟨D_widen.a hr,⟨tI,⟨tI,⟨⟨tI,tI⟩,tI⟩⟩⟩⟩,⟨⟨tI,⟨tI,tI⟩⟩,tI⟩⟩⟩,tI⟩,⟨⟨tI,⟨tI,tI⟩⟩,tI⟩⟩⟩,⟨tI,tI⟩⟩⟩;have D_widest:=d 3 F_widest KY (by walk_at "l") JE λA hr=>⟨⟨tI,⟨tI,tI⟩⟩,⟨⟨tI,⟨⟨D_joined.a hr,⟨⟨⟨tI,⟨tI,tI,tI⟩⟩,⟨⟨tI,⟨tI,tI,tI⟩⟩,tI⟩⟩,tI⟩⟩,⟨⟨⟨tI,⟨tI,tI⟩⟩,⟨⟨tI,⟨⟨⟨D_signs_behind.a hr,⟨⟨tI,tI⟩,⟨tI,tI⟩⟩⟩,tI⟩,tI⟩⟩,tI⟩,tI⟩,tI⟩⟩⟩,⟨tI,tI⟩⟩⟩;have D_letters_in:=d 0 F_letters_in vD (by walk_at "l") L2.Na.K41.uF (by walk_at "q");have D_mixes:=d 3 F_mixes RZ (by walk_at "l") L2.Na.K41.QC λA hr=>⟨⟨D_letters.a hr,⟨⟨tI,tI⟩,tI⟩⟩,⟨⟨tI,tI⟩,⟨⟨⟨(sZ X G k_ENOUGH_TURNS),tI⟩,⟨⟨tI,⟨D_letters_in.a hr,⟨⟨D_put.a hr,⟨tI,⟨tI,tI⟩⟩⟩,tI⟩⟩,tI⟩,tI⟩⟩,⟨⟨⟨tI,⟨tI,tI⟩,tI⟩,tI⟩,tI⟩⟩⟩⟩;have D_sight_of_one:=d 2 F_sight_of_one pM (by walk_at "l") L2.Na.K44.oM λA hr=>⟨⟨tI,⟨⟨D_Sight.at hr (by decide),⟨tI,⟨tI,⟨tI,⟨tI,⟨tI,tI⟩⟩⟩⟩⟩⟩,tI⟩,tI⟩,⟨⟨D_Sight.at hr (by decide),⟨tI,⟨tI,⟨tI,⟨tI,⟨tI,tI⟩⟩⟩⟩⟩⟩,tI⟩⟩;have D_sight_turned:=d 3 F_sight_turned pL (by walk_at "l") L2.Na.K44.oK (by walk_at "q");have D_distance:=d 8 F_distance BI (by walk_at "l") AS (by walk_at "q");have D_law_image:=d 0 F_law_image yN (by walk_at "l") xJ (by walk_at "q");have D_law_written:=d 1 F_law_written rQ (by walk_at "l") rJ (by walk_at "q");have D_law_few:=d 0 F_law_few GJ (by walk_at "l") FG (by walk_at "q");have D_law_whole:=d 0 F_law_whole yJ (by walk_at "l") xG (by walk_at "q");have D_law_is_told:=d 1 F_law_is_told rR (by walk_at "l") rK (by walk_at "q");exact ⟨⟨D_law_mixed.a hr,⟨⟨D_law_cell.a hr,⟨tI,⟨tI,tI⟩⟩⟩,⟨tI,tI⟩⟩⟩,⟨⟨tI,⟨tI,tI⟩⟩,⟨⟨tI,⟨⟨tI,tI⟩,tI⟩⟩,⟨⟨D_law_mixing.a hr,⟨tI,⟨tI,⟨⟨⟨tI,tI⟩,tI⟩,⟨tI,tI⟩⟩⟩⟩⟩,⟨⟨D_law_piece.a hr,⟨⟨D_law_written.a hr,⟨tI,⟨tI,⟨tI,tI⟩⟩⟩⟩,⟨⟨D_law_mixed.a hr,⟨⟨D_law_cell.a hr,⟨tI,⟨tI,tI⟩⟩⟩,⟨tI,tI⟩⟩⟩,⟨tI,tI⟩⟩⟩⟩,⟨⟨⟨⟨⟨tI,tI⟩,tI⟩,tI⟩,⟨⟨D_law_few.a hr,⟨⟨tI,tI⟩,tI⟩⟩,⟨tI,⟨⟨⟨tI,tI⟩,tI⟩,⟨⟨⟨D_law_written.a hr,⟨tI,⟨tI,⟨tI,tI⟩⟩⟩⟩,tI,⟨⟨tI,tI⟩,⟨⟨tI,tI⟩,⟨tI,⟨⟨tI,tI⟩,tI⟩⟩⟩⟩⟩,tI⟩⟩⟩⟩,tI⟩,⟨⟨D_distance.a hr,⟨tI,⟨tI,⟨tI,tI⟩⟩⟩⟩,⟨⟨⟨D_law_is_told.a hr,⟨tI,tI⟩⟩,⟨tI,tI⟩,tI⟩,⟨tI,⟨⟨⟨⟨tI,tI⟩,⟨⟨tI,⟨tI,tI⟩⟩,tI⟩⟩,⟨⟨D_stretch_at.a hr,⟨tI,⟨tI,⟨tI,⟨⟨tI,⟨tI,tI⟩⟩,tI⟩⟩⟩⟩⟩,⟨⟨⟨⟨⟨tI,tI,⟨tI,tI⟩⟩,tI⟩,⟨⟨⟨tI,⟨tI,⟨tI,tI⟩⟩⟩,tI⟩,tI⟩⟩,⟨tI,tI⟩,tI⟩,tI⟩⟩,tI⟩,⟨⟨⟨⟨D_distance.a hr,⟨⟨tI,⟨tI,tI⟩⟩,⟨tI,⟨tI,tI⟩⟩⟩⟩,⟨tI,⟨tI,tI⟩⟩⟩,⟨tI,tI⟩,tI⟩,⟨⟨D_distance.a hr,⟨tI,⟨tI,⟨tI,tI⟩⟩⟩⟩,⟨⟨⟨D_law_is_told.a hr,⟨tI,tI⟩⟩,⟨⟨tI,tI⟩,tI⟩⟩,tI⟩⟩⟩⟩⟩⟩⟩⟩⟩⟩⟩⟩⟩
end L2.Na.K42
namespace L2.Hd
open PySem PySem.Calls PyProof.Rows PySem.W
open L2 (cJ aZ aM)
open L2.Na.K42 (top)
theorem q0:(PySem.Challenge.pw_neveragain_k42_distance_stands.main.body.length==54)=true:=by k_qdec
noncomputable def env (p:Program):Env:={scope:=p.main.scope,locals:=mainNs,globals:=mainNs,cells:=[],code:=.ref 13,frame:=some 14}
noncomputable def cd (p:Program):Code:=.body (behindTheImports p) (env p)
noncomputable abbrev p0:Pos:=⟨0,0,0,0⟩
noncomputable abbrev p1:Pos:=⟨228,0,250,64⟩
noncomputable abbrev B:List Frame:=[topFrame p0]
noncomputable def toT (s:Shared):SharedT:=⟨(s.heap.objs.toList.foldl (λ(a:BT × Nat) o=>(a.1.ins a.2 o,a.2+1)) (BT.nil,0)).1,s.heap.objs.size,s.heap.life,s.gens,s.drawn,s.toks,s.os⟩
noncomputable def prA (x:Option (Shared × Thread)):SharedT:=match x with
 |some (s,_)=>toT s
 |none=>⟨BT.nil,0,{},#[],boot_drawn,0,{}⟩
noncomputable def prS (x:Option (Flow × SharedT × Code × Pos)):SharedT:=match x with
 |some (_,s,_)=>s
 |none=>⟨BT.nil,0,{},#[],boot_drawn,0,{}⟩
noncomputable abbrev ann:Option Value:=some (.ref 6)
noncomputable def goA (tb:String->Option Builtin) (p:Program) (w:World) (os:OsState):Option (Shared × Thread):=topGo tb p w 11 ann 12 ⟨boot_heap w.params,#[],boot_drawn,boot_toks,os⟩ (topStub p)
noncomputable def goB (tb:String->Option Builtin) (p:Program) (w:World) (os:OsState):Option (Flow × SharedT × Code × Pos):=segRunT tb p w 11 ann 1 2503 (prA (goA tb p w os)) (piecesOf (behindTheImports p) (env p) (cd p) p0 B)
theorem l1:(λ(w:World) (os:OsState)=>goA treeTable PySem.Challenge.pw_neveragain_k42_distance_stands w os)=λw os=>some ((prA (goA treeTable PySem.Challenge.pw_neveragain_k42_distance_stands w os)).abs,Thread.mk (denote treeTable (cd PySem.Challenge.pw_neveragain_k42_distance_stands)) (cd PySem.Challenge.pw_neveragain_k42_distance_stands) p0 B):=by
 unfold goA;rw[PySem.W.Fast.te15667345088766844465,PySem.W.Fast.te14364793385576792824,PySem.W.Fast.te11892475500146522536,PySem.W.Fast.te1001652019254575132];kernel_rfl
theorem l2:(λ(w:World) (os:OsState)=>segRun treeTable PySem.Challenge.pw_neveragain_k42_distance_stands w 11 ann 1 1 (prA (goA treeTable PySem.Challenge.pw_neveragain_k42_distance_stands w os)).abs (blockOf (behindTheImports PySem.Challenge.pw_neveragain_k42_distance_stands) (env PySem.Challenge.pw_neveragain_k42_distance_stands) (cd PySem.Challenge.pw_neveragain_k42_distance_stands) p0 B))=λw os=>some (.next,(prA (goA treeTable PySem.Challenge.pw_neveragain_k42_distance_stands w os)).abs,cd PySem.Challenge.pw_neveragain_k42_distance_stands,p0):=by
 unfold goA;rw[PySem.W.Fast.te15667345088766844465,PySem.W.Fast.te14364793385576792824,PySem.W.Fast.te14374325043358763698,PySem.W.Fast.te1001652019254575132];kernel_rfl
theorem l3:(λ(w:World) (os:OsState)=>goB treeTable PySem.Challenge.pw_neveragain_k42_distance_stands w os)=λw os=>some (.next,prS (goB treeTable PySem.Challenge.pw_neveragain_k42_distance_stands w os),cd PySem.Challenge.pw_neveragain_k42_distance_stands,p1):=by
 unfold goB goA;rw[PySem.W.Fast.te10110043849684766642,PySem.W.Fast.te15667345088766844465,PySem.W.Fast.te14364793385576792824,PySem.W.Fast.te1001652019254575132];kernel_rfl
theorem l4:(λ(w:World) (os:OsState)=>topRun treeTable PySem.Challenge.pw_neveragain_k42_distance_stands w 11 ann 2 (prS (goB treeTable PySem.Challenge.pw_neveragain_k42_distance_stands w os)).abs ⟨doneF .next,cd PySem.Challenge.pw_neveragain_k42_distance_stands,p1,B⟩)=λw os=>some (prS (goB treeTable PySem.Challenge.pw_neveragain_k42_distance_stands w os)).abs:=by
 unfold goB goA;rw[PySem.W.Fast.te14082659384304107361,PySem.W.Fast.te10110043849684766642,PySem.W.Fast.te15667345088766844465,PySem.W.Fast.te14364793385576792824,PySem.W.Fast.te1001652019254575132];kernel_rfl
noncomputable def dk (P:Params) (x:Str) (n:Nat) (v:Value):DictEntry:={hash:=PyData.keyHash P x,key:=.str x n,val:=v}
noncomputable def tp (a:Array Value):Obj:={cls:=.type "tuple",data:=.seq a}
noncomputable def fo (x:Str) (i:Nat) (m:Value) (c:Nat):Obj:={cls:=.type "function",data:=.func {name:=x,qualname:=x,params:=cJ (top i),body:=.stmts (aZ (top i)),scope:=aM (top i),globals:=3,closure:=[],defaults:=.none,kwdefaults:=.none,pyModule:=m,code:=.ref c}}
noncomputable def cx (x y:Str) (n:Nat) (L a:Int) (r:Nat) (u v:Value) (z t:Nat):Obj:={cls:=.type "code",data:=.fields #[.str x n,.str y (n+1),.str "/claim/cut.py" (n+2),.int L 0,.int a 0,.int 0 0,.int 0 0,.int 3 0,.ref r,.bool true,.int 181 0,.ref (r+1),.none,u,v,.ref z,.int t 0,.int L 0,.str "/claim/cut.py" (t+1)]}
noncomputable def cb (x y:Str) (n:Nat) (L a:Int) (r t:Nat):Obj:=cx x y n L a r .none .none (r+2) t
noncomputable def co (x y:Str) (n:Nat) (L a:Int) (r t:Nat):Obj:=cx x y n L a r (.ref (r+2)) (.ref (r+3)) (r+4) t
noncomputable def K:Params->Frag:=λP=>
 (nat_lit 2,{cls:=.none,data:=Data.dict #[]})::
 (nat_lit 3,{cls:=.type "dict",data:=Data.dict #[dk P "__name__" 165 (.str "law_neveragain_k42_distance_stands" 547),dk P "__doc__" 166 .none,dk P "__package__" 167 .none,dk P "__loader__" 168 (.builtin "__main__.__loader__#opaque"),dk P "__spec__" 169 .none,dk P "__annotations__" 170 (.ref 6),dk P "__builtins__" 171 (.ref 4),dk P "__file__" 173 (.str "/claim/cut.py" 172),dk P "__cached__" 174 .none,dk P "LETTERS" 190 (.str "abcd" 189),dk P "letters" 197 (.ref 21),dk P "counts" 205 (.ref 26),dk P "table" 211 (.ref 31),dk P "counts_behind" 223 (.ref 38),dk P "sizes" 234 (.ref 45),dk P "counts_once" 240 (.ref 50),dk P "sizes_once" 246 (.ref 55),dk P "signs_behind" 252 (.ref 60),dk P "added" 258 (.ref 65),dk P "WordError" 278 (.ref 75),dk P "NoStart" 294 (.ref 88),dk P "NoPiece" 310 (.ref 100),dk P "NotMixed" 326 (.ref 112),dk P "TooGreat" 351 (.ref 132),dk P "put" 359 (.ref 139),dk P "words_by_letter" 366 (.ref 146),dk P "MOST_TURNS" 370 (.int 400 369),dk P "grows" 379 (.ref 153),dk P "figures" 397 (.ref 160),dk P "stretch_at" 403 (.ref 165),dk P "sizes_until" 415 (.ref 172),dk P "MOST_PIECES" 419 (.int 300 418),dk P "counts_ahead" 437 (.ref 179),dk P "pieces_of_image" 443 (.ref 184),dk P "ENOUGH_TURNS" 447 (.int 10 446),dk P "Sight" 484 (.ref 201),dk P "mixes" 490 (.ref 210),dk P "distance" 496 (.ref 215),dk P "widest" 508 (.ref 222),dk P "sight_of_one" 515 (.ref 229),dk P "sight_turned" 521 (.ref 234),dk P "joined" 530 (.ref 241),dk P "widen" 539 (.ref 248),dk P "letters_in" 546 (.ref 255),dk P "_law_cell" 556 (.ref 262),dk P "_law_mixed" 565 (.ref 269),dk P "_law_word" 576 (.ref 276),dk P "_law_mixing" 591 (.ref 283),dk P "_law_image" 601 (.ref 290),dk P "_law_written" 611 (.ref 297),dk P "_law_whole" 618 (.ref 304),dk P "_law_piece" 629 (.ref 311),dk P "_law_is_told" 636 (.ref 318),dk P "_law_few" 644 (.ref 325),dk P "law" 663 (.ref 332)] 55})::
 (nat_lit 15,tp #[])::
 (nat_lit 17,tp #[.str "many" 194])::
 (nat_lit 18,tp #[])::
 (nat_lit 20,co "letters" "letters" 191 3 1 15 195)::
 (nat_lit 21,fo "letters" 2 (.str "neveragain.words" 187) 20)::
 (nat_lit 22,tp #[])::
 (nat_lit 25,cb "counts" "counts" 200 6 2 22 203)::
 (nat_lit 26,fo "counts" 4 (.str "neveragain.counts" 198) 25)::
 (nat_lit 27,tp #[])::
 (nat_lit 30,cb "table" "table" 206 8 1 27 209)::
 (nat_lit 31,fo "table" 5 (.str "neveragain.counts" 198) 30)::
 (nat_lit 32,tp #[])::
 (nat_lit 34,tp #[.str "rule" 215,.str "numbers" 216,.str "times" 217,.str "rows" 218,.str "made" 219,.str "turn" 220])::
 (nat_lit 35,tp #[])::
 (nat_lit 37,co "counts_behind" "counts_behind" 212 10 3 32 221)::
 (nat_lit 38,fo "counts_behind" 6 (.str "neveragain.counts" 198) 37)::
 (nat_lit 39,tp #[])::
 (nat_lit 41,tp #[.str "rule" 227,.str "times" 228,.str "rows" 229,.str "made" 230,.str "turn" 231])::
 (nat_lit 42,tp #[])::
 (nat_lit 44,co "sizes" "sizes" 224 16 2 39 232)::
 (nat_lit 45,fo "sizes" 7 (.str "neveragain.counts" 198) 44)::
 (nat_lit 46,tp #[])::
 (nat_lit 49,cb "counts_once" "counts_once" 235 22 2 46 238)::
 (nat_lit 50,fo "counts_once" 8 (.str "neveragain.counts" 198) 49)::
 (nat_lit 51,tp #[])::
 (nat_lit 54,cb "sizes_once" "sizes_once" 241 27 2 51 244)::
 (nat_lit 55,fo "sizes_once" 9 (.str "neveragain.counts" 198) 54)::
 (nat_lit 56,tp #[])::
 (nat_lit 59,cb "signs_behind" "signs_behind" 247 29 2 56 250)::
 (nat_lit 60,fo "signs_behind" 10 (.str "neveragain.counts" 198) 59)::
 (nat_lit 61,tp #[])::
 (nat_lit 64,cb "added" "added" 253 31 2 61 256)::
 (nat_lit 65,fo "added" 11 (.str "neveragain.counts" 198) 64)::
 (nat_lit 66,tp #[.type "ValueError"])::
 (nat_lit 73,tp #[])::
 (nat_lit 74,{cls:=.type "dict",data:=Data.dict #[dk P "__module__" 268 (.str "neveragain.errors" 259),dk P "__firstlineno__" 272 (.int 34 271),dk P "__static_attributes__" 273 (.ref 73),dk P "__weakref__" 275 (.ref 76),dk P "__doc__" 276 .none] 3})::
 (nat_lit 75,{cls:=.type "type",data:=Data.cls {name:="WordError",bases:=[.type "ValueError"],mro:=[.ref 75,.type "ValueError",.type "Exception",.type "BaseException",.type "object"],ns:=74,qualname:="WordError",subclasses:=[.ref 88,.ref 100,.ref 112,.ref 132]},slots:=#[some (.ref 66),none,some (.str "WordError" 261),some (.str "WordError" 269),some (.builtin "ValueError.__new__"),some (.bool true)]})::
 (nat_lit 76,{cls:=.type "getset_descriptor",data:=Data.fields #[.str "__weakref__" 274,.ref 75,.builtin "ExceptionGroup.__weakref__",.none]})::
 (nat_lit 79,tp #[.ref 75])::
 (nat_lit 86,tp #[])::
 (nat_lit 87,{cls:=.type "dict",data:=Data.dict #[dk P "__module__" 286 (.str "neveragain.errors" 259),dk P "__firstlineno__" 290 (.int 36 289),dk P "__static_attributes__" 291 (.ref 86),dk P "__doc__" 292 .none] 2})::
 (nat_lit 88,{cls:=.type "type",data:=Data.cls {name:="NoStart",bases:=[.ref 75],mro:=[.ref 88,.ref 75,.type "ValueError",.type "Exception",.type "BaseException",.type "object"],ns:=87,qualname:="NoStart"},slots:=#[some (.ref 79),none,some (.str "NoStart" 279),some (.str "NoStart" 287),some (.builtin "ValueError.__new__"),some (.bool true)]})::
 (nat_lit 91,tp #[.ref 75])::
 (nat_lit 98,tp #[])::
 (nat_lit 99,{cls:=.type "dict",data:=Data.dict #[dk P "__module__" 302 (.str "neveragain.errors" 259),dk P "__firstlineno__" 306 (.int 38 305),dk P "__static_attributes__" 307 (.ref 98),dk P "__doc__" 308 .none] 2})::
 (nat_lit 100,{cls:=.type "type",data:=Data.cls {name:="NoPiece",bases:=[.ref 75],mro:=[.ref 100,.ref 75,.type "ValueError",.type "Exception",.type "BaseException",.type "object"],ns:=99,qualname:="NoPiece"},slots:=#[some (.ref 91),none,some (.str "NoPiece" 295),some (.str "NoPiece" 303),some (.builtin "ValueError.__new__"),some (.bool true)]})::
 (nat_lit 103,tp #[.ref 75])::
 (nat_lit 110,tp #[])::
 (nat_lit 111,{cls:=.type "dict",data:=Data.dict #[dk P "__module__" 318 (.str "neveragain.errors" 259),dk P "__firstlineno__" 322 (.int 40 321),dk P "__static_attributes__" 323 (.ref 110),dk P "__doc__" 324 .none] 2})::
 (nat_lit 112,{cls:=.type "type",data:=Data.cls {name:="NotMixed",bases:=[.ref 75],mro:=[.ref 112,.ref 75,.type "ValueError",.type "Exception",.type "BaseException",.type "object"],ns:=111,qualname:="NotMixed"},slots:=#[some (.ref 103),none,some (.str "NotMixed" 311),some (.str "NotMixed" 319),some (.builtin "ValueError.__new__"),some (.bool true)]})::
 (nat_lit 115,tp #[.ref 75])::
 (nat_lit 122,tp #[.none])::
 (nat_lit 123,tp #[])::
 (nat_lit 125,tp #[.str "self" 342,.str "most" 343])::
 (nat_lit 126,tp #[])::
 (nat_lit 128,co "__init__" "TooGreat.__init__" 339 44 2 123 344)::
 (nat_lit 129,{cls:=.type "function",data:=Data.func {name:="__init__",qualname:="TooGreat.__init__",params:={posonlyargs:=[],args:=[{arg:="self",annotation:=none,pos:={line:=44,col:=17,endLine:=44,endCol:=21}},{arg:="most",annotation:=none,pos:={line:=44,col:=23,endLine:=44,endCol:=27}}],vararg:=none,kwonlyargs:=[],kw_defaults:=[],kwarg:=none,defaults:=[Expr.Constant Const.none 0 {line:=44,col:=28,endLine:=44,endCol:=32}]},body:=FuncBody.stmts [Stmt.Assign [(Expr.Name "self" {line:=45,col:=8,endLine:=45,endCol:=12}).Attribute "most" {line:=45,col:=8,endLine:=45,endCol:=17}] (Expr.Name "most" {line:=45,col:=20,endLine:=45,endCol:=24}) {line:=45,col:=8,endLine:=45,endCol:=24}],scope:={kind:=ScopeKind.function,names:=[("self",NameKind.local),("most",NameKind.local)],isGenerator:=false,isCoroutine:=false},globals:=3,closure:=[],defaults:=.ref 122,kwdefaults:=.none,pyModule:=.str "neveragain.errors" 259,code:=.ref 128}})::
 (nat_lit 130,tp #[.str "most" 347])::
 (nat_lit 131,{cls:=.type "dict",data:=Data.dict #[dk P "__module__" 334 (.str "neveragain.errors" 259),dk P "__firstlineno__" 338 (.int 42 337),dk P "__init__" 346 (.ref 129),dk P "__static_attributes__" 348 (.ref 130),dk P "__doc__" 349 .none] 2})::
 (nat_lit 132,{cls:=.type "type",data:=Data.cls {name:="TooGreat",bases:=[.ref 75],mro:=[.ref 132,.ref 75,.type "ValueError",.type "Exception",.type "BaseException",.type "object"],ns:=131,qualname:="TooGreat"},slots:=#[some (.ref 115),none,some (.str "TooGreat" 327),some (.str "TooGreat" 335),some (.builtin "ValueError.__new__"),some (.bool true)]})::
 (nat_lit 135,tp #[])::
 (nat_lit 138,cb "put" "put" 354 47 2 135 357)::
 (nat_lit 139,fo "put" 19 (.str "neveragain.rules" 352) 138)::
 (nat_lit 140,tp #[])::
 (nat_lit 142,tp #[.str "rule" 363])::
 (nat_lit 143,tp #[])::
 (nat_lit 145,co "words_by_letter" "words_by_letter" 360 50 1 140 364)::
 (nat_lit 146,fo "words_by_letter" 20 (.str "neveragain.rules" 352) 145)::
 (nat_lit 147,tp #[])::
 (nat_lit 149,tp #[.str "rule" 374,.str "start" 375,.str "word" 376])::
 (nat_lit 150,tp #[])::
 (nat_lit 152,co "grows" "grows" 371 54 2 147 377)::
 (nat_lit 153,fo "grows" 23 (.str "neveragain.places" 367) 152)::
 (nat_lit 154,tp #[])::
 (nat_lit 156,tp #[.str "rule" 383,.str "start" 384,.str "n" 385,.str "rows" 386,.str "word_for" 387,.str "pairs" 388,.str "letter" 389,.str "left" 390,.str "row" 391,.str "size_of" 392,.str "word" 393,.str "step" 394])::
 (nat_lit 157,tp #[])::
 (nat_lit 159,co "figures" "figures" 380 57 3 154 395)::
 (nat_lit 160,fo "figures" 24 (.str "neveragain.places" 367) 159)::
 (nat_lit 161,tp #[])::
 (nat_lit 164,cb "stretch_at" "stretch_at" 398 73 4 161 401)::
 (nat_lit 165,fo "stretch_at" 25 (.str "neveragain.places" 367) 164)::
 (nat_lit 166,tp #[])::
 (nat_lit 168,tp #[.str "rule" 407,.str "start" 408,.str "n" 409,.str "rows" 410,.str "at" 411,.str "made" 412])::
 (nat_lit 169,tp #[])::
 (nat_lit 171,co "sizes_until" "sizes_until" 404 81 3 166 413)::
 (nat_lit 172,fo "sizes_until" 26 (.str "neveragain.places" 367) 171)::
 (nat_lit 173,tp #[])::
 (nat_lit 175,tp #[.str "rule" 423,.str "start" 424,.str "length" 425,.str "first" 426,.str "found" 427,.str "ahead" 428,.str "done" 429,.str "piece" 430,.str "word" 431,.str "base" 432,.str "place" 433,.str "met" 434])::
 (nat_lit 176,tp #[])::
 (nat_lit 178,co "counts_ahead" "counts_ahead" 420 94 3 173 435)::
 (nat_lit 179,fo "counts_ahead" 29 (.str "neveragain.pieces" 416) 178)::
 (nat_lit 180,tp #[])::
 (nat_lit 183,cb "pieces_of_image" "pieces_of_image" 438 111 2 180 441)::
 (nat_lit 184,fo "pieces_of_image" 30 (.str "neveragain.pieces" 416) 183)::
 (nat_lit 192,tp #[])::
 (nat_lit 194,tp #[.str "self" 463,.str "size" 464,.str "first" 465,.str "last" 466,.str "gap" 467,.str "place" 468])::
 (nat_lit 195,tp #[])::
 (nat_lit 197,co "__init__" "Sight.__init__" 460 118 6 192 469)::
 (nat_lit 198,{cls:=.type "function",data:=Data.func {name:="__init__",qualname:="Sight.__init__",params:={posonlyargs:=[],args:=[{arg:="self",annotation:=none,pos:={line:=118,col:=17,endLine:=118,endCol:=21}},{arg:="size",annotation:=none,pos:={line:=118,col:=23,endLine:=118,endCol:=27}},{arg:="first",annotation:=none,pos:={line:=118,col:=29,endLine:=118,endCol:=34}},{arg:="last",annotation:=none,pos:={line:=118,col:=36,endLine:=118,endCol:=40}},{arg:="gap",annotation:=none,pos:={line:=118,col:=42,endLine:=118,endCol:=45}},{arg:="place",annotation:=none,pos:={line:=118,col:=47,endLine:=118,endCol:=52}}],vararg:=none,kwonlyargs:=[],kw_defaults:=[],kwarg:=none,defaults:=[]},body:=FuncBody.stmts [Stmt.Assign [(Expr.Name "self" {line:=119,col:=8,endLine:=119,endCol:=12}).Attribute "size" {line:=119,col:=8,endLine:=119,endCol:=17}] (Expr.Name "size" {line:=119,col:=20,endLine:=119,endCol:=24}) {line:=119,col:=8,endLine:=119,endCol:=24},Stmt.Assign [(Expr.Name "self" {line:=120,col:=8,endLine:=120,endCol:=12}).Attribute "first" {line:=120,col:=8,endLine:=120,endCol:=18}] (Expr.Name "first" {line:=120,col:=21,endLine:=120,endCol:=26}) {line:=120,col:=8,endLine:=120,endCol:=26},Stmt.Assign [(Expr.Name "self" {line:=121,col:=8,endLine:=121,endCol:=12}).Attribute "last" {line:=121,col:=8,endLine:=121,endCol:=17}] (Expr.Name "last" {line:=121,col:=20,endLine:=121,endCol:=24}) {line:=121,col:=8,endLine:=121,endCol:=24},Stmt.Assign [(Expr.Name "self" {line:=122,col:=8,endLine:=122,endCol:=12}).Attribute "gap" {line:=122,col:=8,endLine:=122,endCol:=16}] (Expr.Name "gap" {line:=122,col:=19,endLine:=122,endCol:=22}) {line:=122,col:=8,endLine:=122,endCol:=22},Stmt.Assign [(Expr.Name "self" {line:=123,col:=8,endLine:=123,endCol:=12}).Attribute "place" {line:=123,col:=8,endLine:=123,endCol:=18}] (Expr.Name "place" {line:=123,col:=21,endLine:=123,endCol:=26}) {line:=123,col:=8,endLine:=123,endCol:=26}],scope:={kind:=ScopeKind.function,names:=[("self",NameKind.local),("size",NameKind.local),("first",NameKind.local),("last",NameKind.local),("gap",NameKind.local),("place",NameKind.local)],isGenerator:=false,isCoroutine:=false},globals:=3,closure:=[],defaults:=.none,kwdefaults:=.none,pyModule:=.str "neveragain.again" 444,code:=.ref 197}})::
 (nat_lit 199,tp #[.str "first" 472,.str "gap" 473,.str "last" 474,.str "place" 475,.str "size" 476])::
 (nat_lit 200,{cls:=.type "dict",data:=Data.dict #[dk P "__module__" 455 (.str "neveragain.again" 444),dk P "__firstlineno__" 459 (.int 116 458),dk P "__init__" 471 (.ref 198),dk P "__static_attributes__" 477 (.ref 199),dk P "__dict__" 479 (.ref 202),dk P "__weakref__" 481 (.ref 203),dk P "__doc__" 482 .none] 4})::
 (nat_lit 201,{cls:=.type "type",data:=Data.cls {name:="Sight",bases:=[.type "object"],mro:=[.ref 201,.type "object"],ns:=200,qualname:="Sight"},slots:=#[none,none,some (.str "Sight" 448),some (.str "Sight" 456),some (.builtin "object.__new__"),some (.bool true)]})::
 (nat_lit 202,{cls:=.type "getset_descriptor",data:=Data.fields #[.str "__dict__" 478,.ref 201,.builtin "function.__dict__",.builtin "function.__dict__#set"]})::
 (nat_lit 203,{cls:=.type "getset_descriptor",data:=Data.fields #[.str "__weakref__" 480,.ref 201,.builtin "ExceptionGroup.__weakref__",.none]})::
 (nat_lit 206,tp #[])::
 (nat_lit 209,cb "mixes" "mixes" 485 124 1 206 488)::
 (nat_lit 210,fo "mixes" 34 (.str "neveragain.again" 444) 209)::
 (nat_lit 211,tp #[])::
 (nat_lit 214,cb "distance" "distance" 491 130 3 211 494)::
 (nat_lit 215,fo "distance" 35 (.str "neveragain.again" 444) 214)::
 (nat_lit 216,tp #[])::
 (nat_lit 218,tp #[.str "ahead" 500,.str "size_of" 501,.str "sights" 502,.str "best" 503,.str "longer" 504,.str "both" 505])::
 (nat_lit 219,tp #[])::
 (nat_lit 221,co "widest" "widest" 497 146 3 216 506)::
 (nat_lit 222,fo "widest" 36 (.str "neveragain.again" 444) 221)::
 (nat_lit 223,tp #[])::
 (nat_lit 225,tp #[.str "stands" 512])::
 (nat_lit 226,tp #[])::
 (nat_lit 228,co "sight_of_one" "sight_of_one" 509 153 1 223 513)::
 (nat_lit 229,fo "sight_of_one" 37 (.str "neveragain.again" 444) 228)::
 (nat_lit 230,tp #[])::
 (nat_lit 233,cb "sight_turned" "sight_turned" 516 157 2 230 519)::
 (nat_lit 234,fo "sight_turned" 38 (.str "neveragain.again" 444) 233)::
 (nat_lit 235,tp #[])::
 (nat_lit 237,tp #[.str "sights" 525,.str "whole" 526,.str "sight" 527])::
 (nat_lit 238,tp #[])::
 (nat_lit 240,co "joined" "joined" 522 159 1 235 528)::
 (nat_lit 241,fo "joined" 39 (.str "neveragain.again" 444) 240)::
 (nat_lit 242,tp #[])::
 (nat_lit 244,tp #[.str "sight" 534,.str "gap" 535,.str "place" 536])::
 (nat_lit 245,tp #[])::
 (nat_lit 247,co "widen" "widen" 531 171 3 242 537)::
 (nat_lit 248,fo "widen" 40 (.str "neveragain.again" 444) 247)::
 (nat_lit 249,tp #[])::
 (nat_lit 251,tp #[.str "word" 543])::
 (nat_lit 252,tp #[])::
 (nat_lit 254,co "letters_in" "letters_in" 540 175 1 249 544)::
 (nat_lit 255,fo "letters_in" 41 (.str "neveragain.again" 444) 254)::
 (nat_lit 256,tp #[])::
 (nat_lit 258,tp #[.str "_law_script" 552,.str "_law_k" 553])::
 (nat_lit 259,tp #[])::
 (nat_lit 261,co "_law_cell" "_law_cell" 549 178 2 256 554)::
 (nat_lit 262,fo "_law_cell" 43 (.str "law_neveragain_k42_distance_stands" 547) 261)::
 (nat_lit 263,tp #[])::
 (nat_lit 265,tp #[.str "_law_cell_here" 560,.str "_law_k" 561,.str "_law_number" 562])::
 (nat_lit 266,tp #[])::
 (nat_lit 268,co "_law_mixed" "_law_mixed" 557 182 2 263 563)::
 (nat_lit 269,fo "_law_mixed" 44 (.str "law_neveragain_k42_distance_stands" 547) 268)::
 (nat_lit 270,tp #[])::
 (nat_lit 272,tp #[.str "_law_number" 569,.str "_law_many" 570,.str "_law_size" 571,.str "_law_word_here" 572,.str "_law_k" 573])::
 (nat_lit 273,tp #[])::
 (nat_lit 275,co "_law_word" "_law_word" 566 185 3 270 574)::
 (nat_lit 276,fo "_law_word" 45 (.str "law_neveragain_k42_distance_stands" 547) 275)::
 (nat_lit 277,tp #[])::
 (nat_lit 279,tp #[.str "_law_script" 580,.str "_law_many" 581,.str "_law_start" 582,.str "_law_most" 583,.str "_law_words" 584,.str "_law_k" 585,.str "_law_number" 586,.str "_law_word_here" 587,.str "_law_at" 588])::
 (nat_lit 280,tp #[])::
 (nat_lit 282,co "_law_mixing" "_law_mixing" 577 191 4 277 589)::
 (nat_lit 283,fo "_law_mixing" 46 (.str "law_neveragain_k42_distance_stands" 547) 282)::
 (nat_lit 284,tp #[])::
 (nat_lit 286,tp #[.str "_law_rule" 595,.str "_law_word_here" 596,.str "_law_found" 597,.str "_law_sign" 598])::
 (nat_lit 287,tp #[])::
 (nat_lit 289,co "_law_image" "_law_image" 592 202 2 284 599)::
 (nat_lit 290,fo "_law_image" 47 (.str "law_neveragain_k42_distance_stands" 547) 289)::
 (nat_lit 291,tp #[])::
 (nat_lit 293,tp #[.str "_law_rule" 605,.str "_law_start" 606,.str "_law_size" 607,.str "_law_word_here" 608])::
 (nat_lit 294,tp #[])::
 (nat_lit 296,co "_law_written" "_law_written" 602 207 3 291 609)::
 (nat_lit 297,fo "_law_written" 48 (.str "law_neveragain_k42_distance_stands" 547) 296)::
 (nat_lit 298,tp #[])::
 (nat_lit 300,tp #[.str "_law_found" 615])::
 (nat_lit 301,tp #[])::
 (nat_lit 303,co "_law_whole" "_law_whole" 612 212 1 298 616)::
 (nat_lit 304,fo "_law_whole" 49 (.str "law_neveragain_k42_distance_stands" 547) 303)::
 (nat_lit 305,tp #[])::
 (nat_lit 307,tp #[.str "_law_word_here" 622,.str "_law_number" 623,.str "_law_many" 624,.str "_law_size" 625,.str "_law_at" 626])::
 (nat_lit 308,tp #[])::
 (nat_lit 310,co "_law_piece" "_law_piece" 619 214 3 305 627)::
 (nat_lit 311,fo "_law_piece" 50 (.str "law_neveragain_k42_distance_stands" 547) 310)::
 (nat_lit 312,tp #[])::
 (nat_lit 314,tp #[.str "_law_found" 633])::
 (nat_lit 315,tp #[])::
 (nat_lit 317,co "_law_is_told" "_law_is_told" 630 218 1 312 634)::
 (nat_lit 318,fo "_law_is_told" 51 (.str "law_neveragain_k42_distance_stands" 547) 317)::
 (nat_lit 319,tp #[])::
 (nat_lit 321,tp #[.str "_law_number" 640,.str "_law_some" 641])::
 (nat_lit 322,tp #[])::
 (nat_lit 324,co "_law_few" "_law_few" 637 222 1 319 642)::
 (nat_lit 325,fo "_law_few" 52 (.str "law_neveragain_k42_distance_stands" 547) 324)::
 (nat_lit 326,tp #[])::
 (nat_lit 328,tp #[.str "_law_script" 648,.str "_law_head" 649,.str "_law_many" 650,.str "_law_start" 651,.str "_law_rule" 652,.str "_law_piece_here" 653,.str "_law_most" 654,.str "_law_begin" 655,.str "_law_found" 656,.str "_law_far" 657,.str "_law_place" 658,.str "_law_word_here" 659,.str "_law_again" 660])::
 (nat_lit 329,tp #[])::
 (nat_lit 331,co "law" "law" 645 228 1 326 661)::
 (nat_lit 332,fo "law" 53 (.str "law_neveragain_k42_distance_stands" 547) 331)::[]
noncomputable def ads:List Addr:=[2,3,15,17,18,20,21,22,25,26,27,30,31,32,34,35,37,38,39,41,42,44,45,46,49,50,51,54,55,56,59,60,61,64,65,66,73,74,75,76,79,86,87,88,91,98,99,100,103,110,111,112,115,122,123,125,126,128,129,130,131,132,135,138,139,140,142,143,145,146,147,149,150,152,153,154,156,157,159,160,161,164,165,166,168,169,171,172,173,175,176,178,179,180,183,184,192,194,195,197,198,199,200,201,202,203,206,209,210,211,214,215,216,218,219,221,222,223,225,226,228,229,230,233,234,235,237,238,240,241,242,244,245,247,248,249,251,252,254,255,256,258,259,261,262,263,265,266,268,269,270,272,273,275,276,277,279,280,282,283,284,286,287,289,290,291,293,294,296,297,298,300,301,303,304,305,307,308,310,311,312,314,315,317,318,319,321,322,324,325,326,328,329,331,332]
noncomputable def q (p:Program):Program:=view p [1,2,4,5,6,7,8,9,10,11,13,14,15,16,17,19,20,22,23,24,25,26,28,29,30,32,33,34,35,36,37,38,39,40,41,43,44,45,46,47,48,49,50,51,52,53]
noncomputable abbrev fin (w:World) (os:OsState):Shared:=(prS (goB treeTable PySem.Challenge.pw_neveragain_k42_distance_stands w os)).abs
theorem run (w:World) (os:OsState):topRun treeTable PySem.Challenge.pw_neveragain_k42_distance_stands w 11 ann (12+(1+(2503+2))) ⟨boot_heap w.params,#[],boot_drawn,boot_toks,os⟩ (topStub PySem.Challenge.pw_neveragain_k42_distance_stands)=some (fin w os):=by
 refine go_top (congrFun (congrFun l1 w) os) (piece_block (congrFun (congrFun l2 w) os) ?_);have h:=piece_app (rest:=[]) (segRun_of (congrFun (congrFun l3 w) os)) (piece_nil (congrFun (congrFun l4 w) os));rw[append_nil] at h;exact h
theorem k1:(λ(w:World) (os:OsState)=>ads.map (fin w os).heap.get?)=λw _=>(K w.params).map λp=>some p.2:=by
 unfold fin goB goA;rw[PySem.W.Fast.te10110043849684766642,PySem.W.Fast.te15667345088766844465,PySem.W.Fast.te14364793385576792824,PySem.W.Fast.te1001652019254575132];kernel_rfl
theorem k2:(λ(w:World) (os:OsState)=>staticsOk (importedModules PySem.Challenge.pw_neveragain_k42_distance_stands.main.body) (boot_heap w.params) (fin w os).heap&&namesBound PySem.Challenge.pw_neveragain_k42_distance_stands (fin w os).heap&&gensDone (fin w os)&&laidKept (boot_heap w.params) (fin w os).heap)=λ_ _=>true:=by
 unfold fin goB goA;rw[PySem.W.Fast.te10110043849684766642,PySem.W.Fast.te15667345088766844465,PySem.W.Fast.te14364793385576792824,PySem.W.Fast.te1001652019254575132];kernel_rfl
theorem left_run {p v:Program} {lo:List Str} {X:Shared->Bool} {α:Type} {f:Shared->α} {g:World->α} {N:Nat} {H:Params->Heap} {gs:Array GenState} {d:Drawn} {k m M:Nat} {an:Option Value} {z:World->OsState->Shared}
  (ho:∀w:World,(fencedOpening treeTable p w N).map (λs=>(s.heap,s.gens,s.drawn,s.toks))=some (H w.params,gs,d,k))
  (hs:∀w:World,((H w.params).isNs mainGlobals&&gs.size==0,(H w.params).objs.size,(H w.params).nsMap mainGlobals "__annotations__")=(true,m,an))
  (hr:∀w os,topRun treeTable p w m an M ⟨H w.params,gs,d,k,os⟩ (topStub p)=some (z w os)) (hM:M<=N)
  (h1:∀w os,(staticsOk (importedModules p.main.body) (H w.params) (z w os).heap&&namesBound p (z w os).heap&&gensDone (z w os)&&laidKept (H w.params) (z w os).heap)=true)
  (h2:∀w os,openSeen v lo (importedModules p.main.body) X true (z w os)=openGood v lo) (h3:∀w os,f (z w os)=g w):LeftO p v lo X f g N:=by
 intro w;have a:=ho w;cases e:fencedOpening treeTable p w N with
 |none=>rw[e] at a;cases a
 |some s=>
  rw[e] at a;obtain ⟨hh,hg,hd,hk,os⟩:=s;have b:=Option.some.inj a;have b1:hh=H w.params:=congrArg (·.1) b;have b2:hg=gs:=congrArg (·.2.1) b;have b3:hd=d:=congrArg (·.2.2.1) b;have b4:hk=k:=congrArg (·.2.2.2) b;subst b1 b2 b3 b4;have s1:=congrArg (·.1) (hs w);have s2:=congrArg (·.2.1) (hs w);have s3:=congrArg (·.2.2) (hs w);have r:=topRun_mono (N - M) _ _ _ _ (hr w os);rw[Nat.add_sub_cancel' hM] at r;have t:topFrom treeTable p w N ⟨H w.params,hg,hd,hk,os⟩=some (z w os):=by
   simp only [topFrom];dsimp only at s1 s2 s3;rw[s1,s2,s3,r];simp only [Option.bind,h1 w os]
  simp only [openEnds,e,Option.bind];show (topFrom treeTable p w N _).map _=_;rw[t];exact congrArg some (Prod.ext (h2 w os) (h3 w os))
theorem k3:(λ(w:World) (os:OsState)=>openSeen (q PySem.Challenge.pw_neveragain_k42_distance_stands) ["TooGreat"] (importedModules PySem.Challenge.pw_neveragain_k42_distance_stands.main.body) (λs=>xlAt (q PySem.Challenge.pw_neveragain_k42_distance_stands) [] s&&recOk (RowW.records (OpenRow.toRowW PySem.Challenge.rw_neveragain_k42_distance_stands.row)) s) true (fin w os))=λ_ _=>openGood (q PySem.Challenge.pw_neveragain_k42_distance_stands) ["TooGreat"]:=by
 unfold fin goB goA;rw[PySem.W.Fast.te4187177175401517315,PySem.W.Fast.te10110043849684766642,PySem.W.Fast.te15667345088766844465,PySem.W.Fast.te14364793385576792824,PySem.W.Fast.te1001652019254575132];kernel_rfl
theorem k4:(λ(w:World)=>((boot_heap w.params).isNs mainGlobals&&(#[]:Array GenState).size==0,(boot_heap w.params).objs.size,(boot_heap w.params).nsMap mainGlobals "__annotations__"))=λ_=>(true,11,ann):=by kernel_rfl
theorem k5:opening PySem.Challenge.pw_neveragain_k42_distance_stands=plainProg PySem.Challenge.pw_neveragain_k42_distance_stands.main.scope.names:=by kernel_rfl
theorem k6:(λs=>fenceModules? PySem.Challenge.pw_neveragain_k42_distance_stands s)=λs=>some s:=by kernel_rfl
theorem left:LeftO PySem.Challenge.pw_neveragain_k42_distance_stands (q PySem.Challenge.pw_neveragain_k42_distance_stands) ["TooGreat"] (λs=>xlAt (q PySem.Challenge.pw_neveragain_k42_distance_stands) [] s&&recOk (RowW.records (OpenRow.toRowW PySem.Challenge.rw_neveragain_k42_distance_stands.row)) s) (λs=>ads.map s.heap.get?) (λw=>(K w.params).map λp=>some p.2) 2540:=
 left_run (boot_open k5 (by decide) (λs=>congrFun k6 s)) (λw=>congrFun k4 w) run (by decide) (λw os=>congrFun (congrFun k2 w) os) (λw os=>congrFun (congrFun k3 w) os) (λw os=>congrFun (congrFun k1 w) os)
theorem he (P:Params):ads=(K P).map (·.1):=by kernel_rfl
end L2.Hd
open PySem PySem.W PyProof.Rows
set_option maxRecDepth 100000 in
set_option maxHeartbeats 0 in
theorem PySem.Challenge.cw_neveragain_k42_distance_stands_holds : PySem.Challenge.rw_neveragain_k42_distance_stands.Holds := by
 w_on;o_law
 refine holds_open (q:=L2.Hd.q PySem.Challenge.pw_neveragain_k42_distance_stands) (loose:=["TooGreat"]) (XP:=XL (L2.Hd.q PySem.Challenge.pw_neveragain_k42_distance_stands) [])
  (Yf:=Hook.obs (kHook L2.Hd.K L2.Hd.ads L2.Hd.he)) (Ya:=Hook.val (kHook L2.Hd.K L2.Hd.ads L2.Hd.he))
  (YP:=Hook.says (kHook L2.Hd.K L2.Hd.ads L2.Hd.he)) (N:=2540) L2.Hd.left (Hook.of (kHook L2.Hd.K L2.Hd.ads L2.Hd.he))
  (Hook.keeps (kHook L2.Hd.K L2.Hd.ads L2.Hd.he)) (λs e=>xl_of s (Bool.and_eq_true_iff.mp e).1) XL.keeps (by rfl) (by rfl) (by rfl)
  (λs e=>recFacts_of (Bool.and_eq_true_iff.mp e).2) (by rfl) (by assumption) (by decide+kernel)
  ⟨rfl,rfl,rfl,rfl,rfl,by decide+kernel⟩ ?hw ?hc
 case hw=>w_witness2
 k_fill
 refine L2.Na.SQ (KF:=L2.Na.K42.KF) (l:=PySem.Challenge.rw_neveragain_k42_distance_stands) (k:=9) (x:="_law_script") (sp:=L2.Na.K42.uK) rfl rfl ⟨rfl,by decide,by decide⟩ (λw h Y=>PySem.W.kIn_of Y) ?KF rfl L2.Na.K42.zY L2.Na.K42.XQ L2.Na.K42.Fi (λ_ _ _ _ _ _ _=>rfl) (λ_=>L2.Na.K42.Fm) (λ_ kf=>L2.Na.K42.Dc kf) ?F ?Q L2.Na.K42.Dv
 case KF=>
  intro w;constructor<;>walk_at "k"
 case F=>
  intro w h KX;refine ⟨?a,?b⟩
  case a=>walk_at "f"
  case b=>
   unfold L2.Na.nI;refine ⟨?_,?_,?_,?_,?_,?_,?_,?_,?_,?_,?_,?_,?_,?_,?_,?_,?_,?_,?_,?_,?_,?_,L2.tI⟩<;>k_is
 case Q=>
  intro w mg h base kf KX G bl A hr;refine' L2.Na.K42.Ip KX G bl ?_ ?_ ?_ ?_ ?_ ?_ ?_ ?_ ?_ ?_ ?_ ?_ ?_ ?_ ?_ ?_ ?_ ?_ ?_ ?_ ?_ ?_ ?_ ?_ ?_ ?_ ?_ ?_ ?_ ?_ ?_ ?_ ?_ ?_ ?_ ?_ ?_ ?_ ?_ ?_ kf A hr<;>walk_at "f"
#print axioms PySem.Challenge.cw_neveragain_k42_distance_stands_holds
