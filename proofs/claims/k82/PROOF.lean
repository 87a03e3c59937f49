import PyProof.Rows.All
import Wide.All
import OpenK.AllK
import Wide.FinOn
import Lean
import PyProof.EqAt
import PyProof.EqKinds
import PyProof.TupleCall
import PyProof.AttrMissSeq
import KE.KDictOf
import PySem.Challenge.RW_neveragain_k82_shares
abbrev L2.Fg := PySem.W.Frag
theorem L2.tI : True := True.intro
set_option Elab.async false
set_option linter.all false
set_option maxRecDepth 100000
set_option maxHeartbeats 4000000
namespace L2
open PySem PySem.Spec PyProof.Rows
abbrev Key := Sum Int Str
def keyIs : Key -> Value -> Bool
 | .inl k, v => Value.isInt k v
 | .inr x, v => Value.isStrOf x v
def keyH (w : World) : Key -> Int
 | .inl k => hashInt k
 | .inr x => hashStr w x
theorem keyIs_shape : ∀ {k : Key} {v : Value}, keyIs k v = true -> (∃ i t, k = Sum.inl i /\ v = Value.int i t) \/ (∃ x t, k = Sum.inr x /\ v = Value.str x t)
 | .inl i, v, h => by
  obtain ⟨t, e⟩ := Value.isInt_shape (k := i) (v := v) h
  exact .inl ⟨i, t, rfl, e⟩
 | .inr x, v, h => by
  obtain ⟨t, e⟩ := Value.isStrOf_shape (x := x) (v := v) h
  exact .inr ⟨x, t, rfl, e⟩
theorem keyIs_int (i : Int) (t : Tok) : keyIs (.inl i) (.int i t) = true := by simp [keyIs, Value.isInt]
theorem keyIs_str (x : Str) (t : Tok) : keyIs (.inr x) (.str x t) = true := by simp [keyIs, Value.isStrOf]
theorem key_ll (a b : Int) : decide ((Sum.inl a : Key) = Sum.inl b) = (a == b) := by
 by_cases e : a = b
 ·subst e; simp
 ·have h : ¬ (Sum.inl a : Key) = Sum.inl b := fun q => e (Sum.inl.inj q)
  rw [decide_eq_false h]
  exact (beq_eq_false_iff_ne.mpr e).symm
theorem key_rr (a b : Str) : decide ((Sum.inr a : Key) = Sum.inr b) = decide (a = b) := by
 by_cases e : a = b
 ·subst e; simp
 ·have h : ¬ (Sum.inr a : Key) = Sum.inr b := fun q => e (Sum.inr.inj q)
  rw [decide_eq_false h, decide_eq_false e]
theorem key_lr (a : Int) (b : Str) : decide ((Sum.inl a : Key) = Sum.inr b) = false := decide_eq_false (fun q => nomatch q)
theorem key_rl (a : Str) (b : Int) : decide ((Sum.inr a : Key) = Sum.inl b) = false := decide_eq_false (fun q => nomatch q)
def mixKind (prog : Program) (w : World) : PySem.KeyKind prog w Key where
 is := keyIs
 hash := keyH w
 inj := fun v a b ha hb => by
  rcases keyIs_shape ha with ⟨i, t, rfl, rfl⟩ | ⟨x, t, rfl, rfl⟩
  ·rcases keyIs_shape hb with ⟨j, u, rfl, e⟩ | ⟨y, u, rfl, e⟩
   ·injection e with e1 _; rw [e1]
   ·exact nomatch e
  ·rcases keyIs_shape hb with ⟨j, u, rfl, e⟩ | ⟨y, u, rfl, e⟩
   ·exact nomatch e
   ·injection e with e1 _; rw [e1]
 byValue := fun k v h => by
  rcases keyIs_shape h with ⟨i, t, rfl, rfl⟩ | ⟨x, t, rfl, rfl⟩ <;> rfl
 pyHash := fun hv h => by
  rcases keyIs_shape hv with ⟨i, t, rfl, rfl⟩ | ⟨x, t, rfl, rfl⟩
  ·exact wpAny_pyHash_int h
  ·exact wpAny_pyHash_str h
 eqBool := fun hu hv h => by
  rcases keyIs_shape hu with ⟨i, t, rfl, rfl⟩ | ⟨x, t, rfl, rfl⟩
  ·rcases keyIs_shape hv with ⟨j, u, rfl, rfl⟩ | ⟨y, u, rfl, rfl⟩
   ·rw [key_ll] at h; exact wpAny_eqBool_int h
   ·rw [key_lr] at h; exact SeqAt.EqAt.int_str i t y u _ _ _ _ h
  ·rcases keyIs_shape hv with ⟨j, u, rfl, rfl⟩ | ⟨y, u, rfl, rfl⟩
   ·rw [key_rl] at h; exact SeqAt.EqAt.str_int x t j u _ _ _ _ h
   ·rw [key_rr] at h; exact wpAny_eqBool_str h
 «strs» := fun k x t v h => by
  rcases keyIs_shape h with ⟨i, u, rfl, e⟩ | ⟨y, u, rfl, e⟩
  ·exact nomatch e
  ·injection e with e1 _
   subst e1
   cases v <;> rfl
theorem mixKind_int (prog : Program) (w : World) (i : Int) (t : Tok) : (mixKind prog w).is (.inl i) (.int i t) = true := keyIs_int i t
theorem mixKind_str (prog : Program) (w : World) (x : Str) (t : Tok) : (mixKind prog w).is (.inr x) (.str x t) = true := keyIs_str x t
end L2
namespace L2
open PySem PySem.Spec PyProof.Rows
inductive V where
 | non | bl (b : Bool) | int (i : Int) | str (x : Str) | byt (b : Array UInt8) | flt (b : UInt64) | ref (a : Addr) | ty (n : String)
 deriving DecidableEq
def RelV : V -> Value -> Prop
 | .non, u => u = Value.none
 | .bl b, u => u = Value.bool b
 | .int i, u => ∃ t, u = Value.int i t
 | .str x, u => ∃ t, u = Value.str x t
 | .byt b, u => ∃ t, u = Value.bytes b t
 | .flt b, u => ∃ t, u = Value.float b t
 | .ref a, u => u = Value.ref a
 | .ty n, u => u = Value.type n
abbrev Vals : List V -> List Value -> Prop := Paired RelV
theorem Vals.length {xs : List V} {us : List Value} (r : Vals xs us) : xs.length = us.length := Paired.length r
theorem Vals.get : ∀ {xs : List V} {us : List Value} {i : Nat} {x : V}, Vals xs us -> xs[i]? = some x -> ∃ u, us[i]? = some u /\ RelV x u
 | _, _, _, _, .nil, e => by simp at e
 | _, _, 0, _, .cons r _, e => by simp at e; subst e; exact ⟨_, rfl, r⟩
 | _, _, i + 1, x, .cons _ t, e => by
  obtain ⟨u, h1, h2⟩ := Vals.get (i := i) (x := x) t (by simpa using e)
  exact ⟨u, by simpa using h1, h2⟩
theorem Vals.set {x : V} {u : Value} (r : RelV x u) : ∀ {xs : List V} {us : List Value} (i : Nat), Vals xs us -> Vals (xs.set i x) (us.set i u)
 | _, _, _, .nil => .nil
 | _, _, 0, .cons _ t => .cons r t
 | _, _, i + 1, .cons q t => .cons q (Vals.set r i t)
theorem Vals.append : ∀ {xs ys : List V} {us ws : List Value}, Vals xs us -> Vals ys ws -> Vals (xs ++ ys) (us ++ ws)
 | _, _, _, _, .nil, s => s
 | _, _, _, _, .cons r t, s => .cons r (Vals.append t s)
theorem Vals.take : ∀ {xs : List V} {us : List Value} (n : Nat), Vals xs us -> Vals (xs.take n) (us.take n)
 | _, _, 0, _ => .nil
 | _, _, _ + 1, .nil => .nil
 | _, _, n + 1, .cons r t => .cons r (Vals.take n t)
theorem Vals.drop : ∀ {xs : List V} {us : List Value} (n : Nat), Vals xs us -> Vals (xs.drop n) (us.drop n)
 | _, _, 0, r => r
 | _, _, _ + 1, .nil => .nil
 | _, _, n + 1, .cons _ t => Vals.drop n t
def RelO : Option V -> Option Value -> Prop
 | some v, some u => RelV v u
 | none, none => True
 | _, _ => False
def KV {κ : Type} : List (κ × V) -> List (κ × Value) -> Prop := Paired fun (p : κ × V) (q : κ × Value) => p.1 = q.1 /\ RelV p.2 q.2
def kV : Key -> V
 | .inl i => .int i
 | .inr x => .str x
inductive HO where
  
 | lst (xs : List V)
  
 | tup (xs : List V)
  
 | dK (kvs : List (Key × V)) | dT (kvs : List (List Key × V))
  
 | set (S : Int -> Bool) (n : Nat)
  
 | ins (C dx : Addr) (fs : List (Str × V))
  
 | own (x : Addr)
  
 | xd (fs : List (Str × V))
  
 | met (f x : Addr)
  
 | rng (lo hi : Int)
  
 | frz (o : Obj) (u : HO)
  
 | tbl (ps : Array Value)
  
 | ext (φ : Heap -> Prop)
abbrev Hp := Addr -> Option HO
def upd (H : Hp) (a : Addr) (o : HO) : Hp := fun b => if b = a then some o else H b
theorem upd_same {H : Hp} {a : Addr} {o : HO} : upd H a o a = some o := by unfold upd; rw [if_pos rfl]
theorem upd_ne {H : Hp} {a b : Addr} {o : HO} (h : b ≠ a) : upd H a o b = H b := by unfold upd; rw [if_neg h]
theorem ne_of {H : Hp} {a b : Addr} {o u : HO} (h : H a = some o) (h' : H b = some u) (d : o ≠ u) : a ≠ b := by
 intro e; subst e; rw [h] at h'; exact d (Option.some.inj h')
theorem ne_of_none {H : Hp} {a b : Addr} {o : HO} (h : H a = some o) (h' : H b = none) : a ≠ b := by
 intro e; subst e; rw [h] at h'; cases h'
section
variable (P : Program) (w : World)
def ObjOk (H : Hp) (h : Heap) (a : Addr) : HO -> Prop
 | .lst xs => xs.length <= sizeLine /\ ∃ (its : List Value) (n : Nat), Vals xs its /\ h.get? a = some { cls := .type "list", data := .seq its.toArray n }
 | .tup xs => xs.length <= sizeLine /\ ∃ its : List Value, Vals xs its /\ IsTup h a its.toArray
 | .dK kvs => kvs.length <= sizeLine /\ (a == sysModules) = false /\ ∃ vs, KV kvs vs /\ h.DictOf (mixKind P w) a vs
 | .dT kvs => kvs.length <= sizeLine /\ (a == sysModules) = false /\ ∃ xs : List (List Key × Addr × Value),
   Paired (fun (p : List Key × V) (q : List Key × Addr × Value) => p.1 = q.1 /\ H q.2.1 = some (.tup (p.1.map kV)) /\ RelV p.2 q.2.2) kvs xs /\
   ∃ o es ep, h.get? a = some o /\ o.ExactDict /\ o.data = .dict es ep /\ es.toList = xs.map (entryOfKey (tupleKind (mixKind P w))) /\ (xs.map (·.1)).Nodup
 | .set S n => h.SetOf (intKind P w) a S n
 | .ins C dx fs => H dx = some (.own a) /\ fs.length <= 1000 /\ dx ≠ a /\ h.get? a = some (PySem.W.instObj C dx) /\
   ∃ mA, h.Ns1 dx mA /\ (∀ f, RelO (fs.lookup f) (mA f)) /\ PySem.Within mA (fs.map (·.1))
 | .own _ => ∃ o, h.get? a = some o
 | .xd fs => ∃ mA, h.Ns1 a mA /\ ∀ f, RelO (fs.lookup f) (mA f)
 | .rng lo hi => ∃ t u v, h.get? a = some { cls := .type "range", data := .fields #[.int lo t, .int hi u, .int 1 v] }
 | .frz o u => h.get? a = some o /\ ObjOk H h a u
 | .tbl ps => h.get? a = some { cls := .none, data := .fields ps }
 | .met f x => h.get? a = some (PySem.W.methodObj (.ref f) (.ref x))
 | .ext φ => φ h /\ (∃ o, h.get? a = some o) /\ ∀ h1 h2 : Heap, φ h1 -> (∀ o, h1.get? a = some o -> h2.get? a = some o) -> φ h2
def HOk (H : Hp) (h : Heap) : Prop := ∀ a o, H a = some o -> ObjOk P w H h a o
end
section
variable {P : Program} {w : World} {H H' : Hp} {h h' : Heap} {a : Addr} {o : HO}
theorem ObjOk.lt (x : ObjOk P w H h a o) : a < h.objs.size := by
 cases o with
 | lst xs => obtain ⟨_, _, _, _, e⟩ := x; exact Heap.lt_size e
 | tup xs => obtain ⟨_, _, _, p⟩ := x; exact p.lt
 | dK kvs => obtain ⟨_, _, _, _, o, _, _, e, _⟩ := x; exact Heap.lt_size e
 | dT kvs => obtain ⟨_, _, _, _, o, _, _, e, _⟩ := x; exact Heap.lt_size e
 | set S n => obtain ⟨o, _, _, _, e, _⟩ := x; exact Heap.lt_size e
 | ins C dx fs => obtain ⟨_, _, _, e, _⟩ := x; exact Heap.lt_size e
 | own y => obtain ⟨_, e⟩ := x; exact Heap.lt_size e
 | xd fs => obtain ⟨_, ⟨_, _, _, e, _⟩, _⟩ := x; exact Heap.lt_size e
 | rng lo hi => obtain ⟨_, _, _, e⟩ := x; exact Heap.lt_size e
 | frz ob u => obtain ⟨e, _⟩ := x; exact Heap.lt_size e
 | tbl ps => exact Heap.lt_size (show h.get? a = some _ from x)
 | met f y => exact Heap.lt_size (show h.get? a = some _ from x)
 | ext φ => obtain ⟨_, ⟨_, e⟩, _⟩ := x; exact Heap.lt_size e
theorem Paired.mapP {α β : Type} {F G : α -> β -> Prop} : ∀ {l₁ : List α} {l₂ : List β}, Paired F l₁ l₂ -> (∀ a b, F a b -> G a b) -> Paired G l₁ l₂
 | _, _, .nil, _ => .nil
 | _, _, .cons r t, f => .cons (f _ _ r) (Paired.mapP t f)
theorem ObjOk.stay (x : ObjOk P w H h a o) (k : ∀ b u, (b = a \/ H b = some (.own a)) -> h.get? b = some u -> h'.get? b = some u)
  (ho : ∀ b, H b = some (.own a) -> H' b = some (.own a)) (ht : ∀ b xs, H b = some (.tup xs) -> H' b = some (.tup xs)) : ObjOk P w H' h' a o := by
 induction o with
 | lst xs => obtain ⟨z, its, n, r, e⟩ := x; exact ⟨z, its, n, r, k _ _ (.inl rfl) e⟩
 | tup xs => obtain ⟨z, its, r, ob, e, c⟩ := x; exact ⟨z, its, r, ob, k _ _ (.inl rfl) e, c⟩
 | dK kvs => obtain ⟨z, y, vs, r, ob, es, ep, e, c⟩ := x; exact ⟨z, y, vs, r, ob, es, ep, k _ _ (.inl rfl) e, c⟩
 | dT kvs =>
  obtain ⟨z, y, xs, r, ob, es, ep, e, c⟩ := x
  exact ⟨z, y, xs, Paired.mapP r fun p q z => ⟨z.1, ht _ _ z.2.1, z.2.2⟩, ob, es, ep, k _ _ (.inl rfl) e, c⟩
 | set S n => obtain ⟨ob, es, ep, t, e, c⟩ := x; exact ⟨ob, es, ep, t, k _ _ (.inl rfl) e, c⟩
 | ins C dx fs =>
  obtain ⟨d, z, ne, e, mA, ⟨od, es, ep, e2, c⟩, r⟩ := x
  exact ⟨ho _ d, z, ne, k _ _ (.inl rfl) e, mA, ⟨od, es, ep, k _ _ (.inr d) e2, c⟩, r⟩
 | own y => obtain ⟨ob, e⟩ := x; exact ⟨ob, k _ _ (.inl rfl) e⟩
 | xd fs => obtain ⟨mA, ⟨od, es, ep, e, c⟩, r⟩ := x; exact ⟨mA, ⟨od, es, ep, k _ _ (.inl rfl) e, c⟩, r⟩
 | rng lo hi => obtain ⟨t, u, v, e⟩ := x; exact ⟨t, u, v, k _ _ (.inl rfl) e⟩
 | frz ob u ih => obtain ⟨e, q⟩ := x; exact ⟨k _ _ (.inl rfl) e, ih q⟩
 | tbl ps =>
  have e : h.get? a = some { cls := .none, data := .fields ps } := x
  show h'.get? a = some { cls := .none, data := .fields ps }
  exact k a _ (.inl rfl) e
 | met f y =>
  have e : h.get? a = some (PySem.W.methodObj (.ref f) (.ref y)) := x
  show h'.get? a = some (PySem.W.methodObj (.ref f) (.ref y))
  exact k a _ (.inl rfl) e
 | ext φ => obtain ⟨p, ⟨o, e⟩, st⟩ := x; exact ⟨st _ _ p fun o q => k _ _ (.inl rfl) q, ⟨o, k _ _ (.inl rfl) e⟩, st⟩
theorem HOk.lt (x : HOk P w H h) (e : H a = some o) : a < h.objs.size := (x a o e).lt
theorem HOk.fresh (x : HOk P w H h) (e : h.objs.size <= a) : H a = none := by
 cases q : H a with
 | none => rfl
 | some u => exact absurd (Nat.lt_of_lt_of_le (x.lt q) e) (Nat.lt_irrefl _)
theorem HOk.kept (x : HOk P w H h) (k : ∀ b u, h.get? b = some u -> h'.get? b = some u) : HOk P w H h' := fun a o e =>
 (x a o e).stay (fun b u _ q => k b u q) (fun _ q => q) fun _ _ q => q
theorem HOk.laid (x : HOk P w H h) (k : ∀ b u, h.get? b = some u -> h'.get? b = some u) (hp : h.objs.size <= a) (new : ObjOk P w (upd H a o) h' a o) : HOk P w (upd H a o) h' := fun b u e => by
 have hn := x.fresh hp
 by_cases hb : b = a
 ·subst hb; rw [upd_same] at e; cases e; exact new
 ·rw [upd_ne hb] at e
  exact (x b u e).stay (fun c v _ q => k c v q) (fun c q => by rw [upd_ne (ne_of_none q hn)]; exact q) fun c xs q => by rw [upd_ne (ne_of_none q hn)]; exact q
end
def Rd (H : Hp) (a : Addr) (u : HO) : Prop := H a = some u \/ ∃ o, H a = some (.frz o u)
theorem Rd.ok {P : Program} {w : World} {H : Hp} {h : Heap} {a : Addr} {u : HO} (r : Rd H a u) (x : HOk P w H h) : ObjOk P w H h a u := by
 rcases r with r | ⟨o, r⟩
 ·exact x a u r
 ·obtain ⟨_, q⟩ := x a _ r
  exact q
def Mut : Option HO -> Prop
 | some (.lst _) => True
 | some (.dK _) => True
 | some (.dT _) => True
 | some (.set _ _) => True
 | some (.ins _ _ _) => True
 | some (.ext _) => True
 | _ => False
section
variable {P : Program} {w : World} {H : Hp} {h h' : Heap} {x e : Addr} {o' : HO}
theorem HOk.write (ok : HOk P w H h) (mu : Mut (H x)) (he : e = x \/ H e = some (.own x)) (k : ∀ b u, b ≠ e -> h.get? b = some u -> h'.get? b = some u) (heo : ∃ u, h'.get? e = some u)
  (new : ObjOk P w (upd H x o') h' x o') : HOk P w (upd H x o') h' := fun b u q => by
 have nown : ∀ c y, H c = some (.own y) -> c ≠ x := fun c y r z => by subst z; rw [r] at mu; exact mu
 have ntup : ∀ c xs, H c = some (.tup xs) -> c ≠ x := fun c xs r z => by subst z; rw [r] at mu; exact mu
 by_cases hb : b = x
 ·subst hb; rw [upd_same] at q; cases q; exact new
 ·rw [upd_ne hb] at q
  by_cases hbe : b = e
  ·have q' : H b = some (.own x) := by
    rcases he with z | z
    ·exact absurd (hbe.trans z) hb
    ·rw [hbe]; exact z
   rw [q] at q'; cases q'
   obtain ⟨v, hv⟩ := heo
   exact ⟨v, by rw [hbe]; exact hv⟩
  ·refine (ok b u q).stay (fun c v hc r => k c v ?_ r) (fun c r => by rw [upd_ne (nown c b r)]; exact r) fun c xs r => by rw [upd_ne (ntup c xs r)]; exact r
   rcases hc with rfl | hc
   ·exact hbe
   ·rintro rfl
    rcases he with z | z
    ·exact nown c b hc z
    ·rw [hc] at z; cases z; exact hb rfl
end
structure Un (fs ex : List Addr) (H H' : Hp) (h h' : Heap) : Prop where
 keep : ∀ b o, h.get? b = some o -> H b = none -> b ∉ fs -> b ∉ ex -> h'.get? b = some o
 slot : ∀ b o, h.get? b = some o -> H b = none -> b ∈ fs -> b ∉ ex -> ∃ sl, h'.get? b = some { o with slots := sl }
 free : ∀ b o, h.get? b = some o -> H b = none -> b ∉ ex -> H' b = none
 there : ∀ b o, h.get? b = some o -> b ∉ ex -> ∃ o', h'.get? b = some o'
 tups : ∀ b xs, H b = some (.tup xs) -> H' b = some (.tup xs)
 frzs : ∀ b o u, H b = some (.frz o u) -> H' b = some (.frz o u)
 tbls : ∀ b ps, H b = some (.tbl ps) -> ∃ more, H' b = some (.tbl (ps ++ more))
section
variable {fs fs' ex ex' : List Addr} {H H1 H2 : Hp} {h h1 h2 h' : Heap} {a x e : Addr} {o : HO}
theorem Un.any (u : Un fs ex H H1 h h1) {b : Addr} {ob : Obj} (q : h.get? b = some ob) (n : H b = none) (hx : b ∉ ex) : ∃ sl, h1.get? b = some { ob with slots := sl } := by
 by_cases hb : b ∈ fs
 ·exact u.slot b ob q n hb hx
 ·exact ⟨ob.slots, u.keep b ob q n hb hx⟩
theorem Un.kept (k : ∀ b u, h.get? b = some u -> h'.get? b = some u) : Un fs ex H H h h' :=
 ⟨fun b ob q _ _ _ => k b ob q, fun b ob q _ _ _ => ⟨ob.slots, k b ob q⟩, fun _ _ _ n _ => n, fun b ob q _ => ⟨ob, k b ob q⟩, fun _ _ q => q, fun _ _ _ q => q, fun _ ps q => ⟨#[], by rw [q]; simp⟩⟩
theorem Un.refl : Un fs ex H H h h := Un.kept fun _ _ q => q
theorem Un.laid (k : ∀ b u, h.get? b = some u -> h'.get? b = some u) (hp : h.objs.size <= a) (hn : H a = none) : Un fs ex H (upd H a o) h h' where
 keep := fun b u q _ _ _ => k b u q
 slot := fun b u q _ _ _ => ⟨u.slots, k b u q⟩
 free := fun b u q n _ => by rw [upd_ne (Nat.ne_of_lt (Nat.lt_of_lt_of_le (Heap.lt_size q) hp))]; exact n
 there := fun b u q _ => ⟨u, k b u q⟩
 tups := fun b xs q => by rw [upd_ne (ne_of_none q hn)]; exact q
 frzs := fun b u xs q => by rw [upd_ne (ne_of_none q hn)]; exact q
 tbls := fun b ps q => ⟨#[], by rw [upd_ne (ne_of_none q hn), q]; simp⟩
theorem Un.write (mu : Mut (H x)) (he : e = x \/ H e = some (.own x)) (k : ∀ b u, b ≠ e -> h.get? b = some u -> h'.get? b = some u) (heo : ∃ u, h'.get? e = some u) : Un fs ex H (upd H x o) h h' := by
 have hx : ∀ b, H b = none -> b ≠ x := fun b n z => by subst z; rw [n] at mu; exact mu
 have hb : ∀ b, H b = none -> b ≠ e := fun b n z => by
  subst z
  rcases he with r | r
  ·exact hx b n r
  ·rw [n] at r; cases r
 have hm : ∀ b u, H b = some u -> ¬ Mut (some u) -> b ≠ x := fun b u q nm z => by subst z; rw [q] at mu; exact nm mu
 refine ⟨fun b u q n _ _ => k b u (hb b n) q, fun b u q n _ _ => ⟨u.slots, k b u (hb b n) q⟩, fun b u q n _ => by rw [upd_ne (hx b n)]; exact n, fun b u q _ => ?_,
  fun b xs q => by rw [upd_ne (hm b _ q fun z => z)]; exact q, fun b u xs q => by rw [upd_ne (hm b _ q fun z => z)]; exact q, fun b ps q => ⟨#[], by rw [upd_ne (hm b _ q fun z => z), q]; simp⟩⟩
 by_cases hbe : b = e
 ·subst hbe; exact heo
 ·exact ⟨u, k b u hbe q⟩
end
def trk (h : Heap) (H : Hp) : List Addr := (List.range h.objs.size).filter fun a => (H a).isSome
def hidT (h : Heap) (H : Hp) : Heap := PySem.W.hideAll h (trk h H)
theorem hidT_size (h : Heap) (H : Hp) : (hidT h H).objs.size = h.objs.size := PySem.W.hideAll_size _ _
theorem hidT_get {h : Heap} {H : Hp} {b : Addr} {o : Obj} (e : h.get? b = some o) (n : H b = none) : (hidT h H).get? b = some o :=
 PySem.W.hideAll_get _ e fun hm => by
  have q : (H b).isSome = true := (List.mem_filter.mp hm).2
  rw [n] at q; simp at q
theorem of_hidT {h : Heap} {H : Hp} {b : Addr} {o : Obj} (e : (hidT h H).get? b = some o) : h.get? b = some o /\ H b = none := by
 have e' : h.get? b = some o := PySem.W.of_hideAll (trk h H) e
 refine ⟨e', ?_⟩
 cases q : H b with
 | none => rfl
 | some x =>
  have hm : b ∈ trk h H := List.mem_filter.mpr ⟨List.mem_range.mpr (Heap.lt_size e'), by simp [q]⟩
  have z : (hidT h H).get? b = none := PySem.W.hideAll_none (trk h H) hm
  rw [z] at e; cases e
end L2
namespace L2
open PySem PySem.Spec PyProof.Rows
structure Mod (K : Fg) (mg : Str -> Option Value) (base : Heap) : Prop where
 kin : K.In base
 glob : base.Ns mainGlobals mg
 blt : ∃ mb, base.Ns builtinsNs mb /\ ∀ x : Str, x ≠ "__name__" -> mb x = bootBuiltins x
 nolimit : base.NoLimit
structure Cx where
 prog : Program
 w : World
 K : Fg
 mg : Str -> Option Value
 base : Heap
 A : Around
 N : List Str
 s₀ : Shared
 H₀ : Hp
 env : Env
 outer : List Env
 stack : List Env
 ex : List Addr
 fn : Str -> Bool
 calm : Bool
 pn : List (Addr × Obj)
 xe : Value -> Shared -> Prop
def frs (l : List Env) : List Addr := l.filterMap (·.frame)
abbrev Cx.fs (X : Cx) : List Addr := frs X.outer
def Vis (sc : Scope) (x : Str) : Prop := sc.names.lookup x = some .local \/ sc.names.lookup x = some .cell \/ sc.names.lookup x = some .free
def Loc (sc : Scope) (x : Str) : Prop := sc.names.lookup x = some .local \/ sc.names.lookup x = some .cell
def Look (env : Env) (h : Heap) (m : Str -> Option Value) (x : Str) (u : Value) : Prop :=
 (env.kindOf x = some .local /\ m x = some u) \/ ((env.kindOf x = some .cell \/ env.kindOf x = some .free) /\ ∃ c, env.cells.lookup x = some c /\ h.IsCell c (some u))
structure Cx.Ok (X : Cx) : Prop where
 mod : Mod X.K X.mg X.base
 kind : X.env.scope.kind = .function
 glob : X.env.globals = mainGlobals
 blt : X.env.builtins = builtinsNs
 above : X.s₀.heap.objs.size <= X.env.locals
 inj : ∀ x y c, X.env.cells.lookup x = some c -> X.env.cells.lookup y = some c -> x = y
 has : ∀ x, (X.env.kindOf x = some .cell \/ X.env.kindOf x = some .free) -> ∃ c, X.env.cells.lookup x = some c
 cab : ∀ x c, X.fn x = true -> X.env.cells.lookup x = some c -> X.s₀.heap.objs.size <= c
 hd : X.calm = true -> X.A.handled = none
 frames : X.A.frames = some X.stack
 stk : X.stack = X.outer \/ (X.stack = X.env :: X.outer /\ X.env.frame = some X.env.locals)
 exf : ∀ b ∈ X.ex, b ≠ X.env.locals /\ ∀ x c, X.env.cells.lookup x = some c -> c ≠ b
 bs : ∀ b o, X.base.get? b = some o -> X.s₀.heap.get? b = some o /\ X.H₀ b = none
 bsz : X.base.objs.size <= X.s₀.heap.objs.size
 noex : ∀ b o, X.base.get? b = some o -> b ∉ X.ex
 exfs : ∀ b ∈ X.ex, b ∉ X.fs
 funs : X.s₀.heap.FunFrames X.base X.outer
 frf : ∀ b ∈ X.fs, X.H₀ b = none
structure Inv (X : Cx) (pins : List (Addr × Obj)) (σ : List (Option V)) (H : Hp) (s : Shared) : Prop where
 ok : X.Ok
 os : s.os = X.s₀.os
 bare : AllBare s.gens
 base : Un X.fs X.ex X.H₀ H X.s₀.heap s.heap
 loc : ∃ m, s.heap.Ns X.env.locals m /\ ∀ (i : Nat) (x : Str) (v : V), X.N[i]? = some x -> σ[i]? = some (some v) -> Vis X.env.scope x -> ∃ u, RelV v u /\ Look X.env s.heap m x u
 cell : ∀ x c, X.env.cells.lookup x = some c -> ∃ v, s.heap.IsCell c v
 free : H X.env.locals = none
 freeC : ∀ x c, X.env.cells.lookup x = some c -> H c = none
 pin : ∀ p ∈ X.pn ++ pins, s.heap.get? p.1 = some p.2 /\ H p.1 = none /\ p.1 ≠ X.env.locals /\ p.1 ∉ X.fs /\ ∀ v, p.2.data ≠ .cell v
 hok : HOk X.prog X.w H s.heap
 len : σ.length = X.N.length
section
variable {X : Cx} {pins : List (Addr × Obj)} {σ : List (Option V)} {H H' : Hp} {s : Shared} {h' : Heap}
theorem Cx.Ok.nofr (ok : X.Ok) {b : Addr} {o : Obj} (e : X.base.get? b = some o) : b ∉ X.fs := fun hb => by
 have := (ok.funs.mem hb).1
 rw [e] at this; cases this
theorem Inv.bs (I : Inv X pins σ H s) : ∀ b o, X.base.get? b = some o -> s.heap.get? b = some o /\ H b = none := fun b o e =>
 ⟨I.base.keep b o (I.ok.bs b o e).1 (I.ok.bs b o e).2 (I.ok.nofr e) (I.ok.noex b o e), I.base.free b o (I.ok.bs b o e).1 (I.ok.bs b o e).2 (I.ok.noex b o e)⟩
theorem Inv.bk (I : Inv X pins σ H s) : ∀ b o, X.base.get? b = some o -> s.heap.get? b = some o := fun b o e => (I.bs b o e).1
theorem Inv.mod (I : Inv X pins σ H s) : Mod X.K X.mg X.base := I.ok.mod
theorem Inv.kIn (I : Inv X pins σ H s) : X.K.In s.heap := I.ok.mod.kin.keeps I.bk
theorem Inv.lt (I : Inv X pins σ H s) : X.env.locals < s.heap.objs.size := let ⟨_, hn, _⟩ := I.loc; hn.lt
theorem Inv.sz (I : Inv X pins σ H s) : X.s₀.heap.objs.size <= s.heap.objs.size := Nat.le_trans I.ok.above (Nat.le_of_lt I.lt)
theorem Inv.nofs (I : Inv X pins σ H s) {a : Addr} (h : s.heap.objs.size <= a) : a ∉ X.fs := fun hb => by
 obtain ⟨_, o, ho, _⟩ := I.ok.funs.mem hb
 exact absurd (Nat.lt_of_lt_of_le (Heap.lt_size ho) (Nat.le_trans I.sz h)) (Nat.lt_irrefl _)
theorem Inv.cne (I : Inv X pins σ H s) : ∀ x c, X.env.cells.lookup x = some c -> c ≠ X.env.locals := fun x c e z => by
 obtain ⟨v, o, ho, hd⟩ := I.cell x c e
 obtain ⟨m, ⟨o', es, ep, ho', hd', _⟩, _⟩ := I.loc
 rw [z, ho'] at ho; cases ho; rw [hd'] at hd; cases hd
theorem Inv.funs (I : Inv X pins σ H s) : s.heap.FunFrames X.base X.outer := by
 have all : ∀ (l : List Env), (∀ b ∈ frs l, b ∈ X.fs) -> X.s₀.heap.FunFrames X.base l -> s.heap.FunFrames X.base l := by
  intro l
  induction l with
  | nil => intro _ _; trivial
  | cons env r ih =>
   intro hs hl
   obtain ⟨hk, ⟨L, o, hf, hn, ho, hd⟩, hr⟩ := hl
   have hL : L ∈ X.fs := hs L (by unfold frs; rw [List.filterMap_cons, hf]; exact List.mem_cons_self)
   obtain ⟨sl, e⟩ := I.base.slot L o ho (I.ok.frf L hL) hL fun z => I.ok.exfs L z hL
   exact ⟨hk, ⟨L, _, hf, hn, e, hd⟩, ih (fun b hb => hs b (by unfold frs; rw [List.filterMap_cons, hf]; exact List.mem_cons_of_mem _ hb)) hr⟩
 exact all X.outer (fun _ hb => hb) I.ok.funs
theorem Inv.stack (I : Inv X pins σ H s) : s.heap.FunFrames X.base X.stack := by
 rcases I.ok.stk with e | ⟨e, hf⟩
 ·rw [e]; exact I.funs
 ·rw [e]
  obtain ⟨m, hn, _⟩ := I.loc
  refine .cons (by rw [I.ok.kind]; decide) hf hn ?_ I.funs
  exact Heap.get?_none_of_le (Nat.le_trans I.ok.bsz I.ok.above)
theorem Inv.stkSub (I : Inv X pins σ H s) : ∀ b ∈ frs X.stack, b ∈ X.env.locals :: X.fs := fun b hb => by
 rcases I.ok.stk with e | ⟨e, hf⟩
 ·rw [e] at hb; exact List.mem_cons_of_mem _ hb
 ·rw [e] at hb
  unfold frs at hb
  rw [List.filterMap_cons, hf] at hb
  exact hb
theorem Inv.stkFree (I : Inv X pins σ H s) : ∀ b ∈ frs X.stack, H b = none := fun b hb => by
 rcases List.mem_cons.mp (I.stkSub b hb) with e | hb
 ·rw [e]; exact I.free
 ·obtain ⟨_, o, ho, _⟩ := I.ok.funs.mem hb
  exact I.base.free b o ho (I.ok.frf b hb) fun z => I.ok.exfs b z hb
theorem Inv.step {g' : Array GenState} {t' : Nat} {d' : Drawn} {ch : List Addr} (I : Inv X pins σ H s)
  (hch : ∀ b ∈ ch, (b ∈ X.ex \/ X.s₀.heap.objs.size <= b) /\ b ≠ X.env.locals /\ (∀ x c, X.env.cells.lookup x = some c -> c ≠ b) /\ ∀ p ∈ X.pn ++ pins, p.1 ≠ b)
  (keep : ∀ b o, b ≠ X.env.locals -> b ∉ X.fs -> b ∉ ch -> s.heap.get? b = some o -> H b = none -> h'.get? b = some o)
  (slot : ∀ b o, b ≠ X.env.locals -> b ∈ X.fs -> b ∉ ch -> s.heap.get? b = some o -> H b = none -> ∃ sl, h'.get? b = some { o with slots := sl }) (free : ∀ b o, b ∉ ch -> s.heap.get? b = some o -> H b = none -> H' b = none)
  (there : ∀ b o, b ∉ ch -> s.heap.get? b = some o -> ∃ o', h'.get? b = some o')
  (tups : ∀ b xs, H b = some (.tup xs) -> H' b = some (.tup xs)) (frzs : ∀ b o u, H b = some (.frz o u) -> H' b = some (.frz o u)) (tbls : ∀ b ps, H b = some (.tbl ps) -> ∃ more, H' b = some (.tbl (ps ++ more)))
  (ns : ∀ m, s.heap.Ns X.env.locals m -> h'.Ns X.env.locals m) (hok : HOk X.prog X.w H' h') (hg : AllBare g') :
  Inv X pins σ H' { s with heap := h', gens := g', drawn := d', toks := t' } := by
 have neL : ∀ b o, X.s₀.heap.get? b = some o -> b ≠ X.env.locals := fun b o e => Nat.ne_of_lt (Nat.lt_of_lt_of_le (Heap.lt_size e) I.ok.above)
 have neC : ∀ b o, X.s₀.heap.get? b = some o -> b ∉ X.ex -> b ∉ ch := fun b o e hx hb => by
  rcases (hch b hb).1 with z | z
  ·exact hx z
  ·exact absurd (Nat.lt_of_lt_of_le (Heap.lt_size e) z) (Nat.lt_irrefl _)
 have cellK : ∀ x c, X.env.cells.lookup x = some c -> ∀ v, s.heap.IsCell c v -> h'.IsCell c v := fun x c e v ⟨o, ho, hd⟩ => by
  have nch : c ∉ ch := fun z => (hch c z).2.2.1 x c e rfl
  by_cases hc : c ∈ X.fs
  ·obtain ⟨sl, q⟩ := slot c o (I.cne x c e) hc nch ho (I.freeC x c e)
   exact ⟨_, q, hd⟩
  ·exact ⟨o, keep c o (I.cne x c e) hc nch ho (I.freeC x c e), hd⟩
 refine ⟨I.ok, I.os, hg, ⟨fun b o e n hb hx => ?_, fun b o e n hb hx => ?_, fun b o e n hx => ?_, fun b o e hx => ?_, fun b xs e => tups b xs (I.base.tups b xs e), fun b o xs e => frzs b o xs (I.base.frzs b o xs e), fun b ps e => ?_⟩, ?_, fun x c e => ?_, ?_, fun x c e => ?_, fun p hp => ?_, hok, I.len⟩
 ·exact keep b o (neL b o e) hb (neC b o e hx) (I.base.keep b o e n hb hx) (I.base.free b o e n hx)
 ·obtain ⟨sl, e1⟩ := I.base.slot b o e n hb hx
  obtain ⟨sl', e2⟩ := slot b _ (neL b o e) hb (neC b o e hx) e1 (I.base.free b o e n hx)
  exact ⟨sl', e2⟩
 ·obtain ⟨o', e1⟩ := I.base.there b o e hx
  exact free b o' (neC b o e hx) e1 (I.base.free b o e n hx)
 ·obtain ⟨o', e1⟩ := I.base.there b o e hx
  exact there b o' (neC b o e hx) e1
 ·obtain ⟨m1, e1⟩ := I.base.tbls b ps e
  obtain ⟨m2, e2⟩ := tbls b _ e1
  exact ⟨m1 ++ m2, by rw [e2, Array.append_assoc]⟩
 ·obtain ⟨m, hn, hl⟩ := I.loc
  refine ⟨m, ns m hn, fun i x v e1 e2 e3 => ?_⟩
  obtain ⟨u, r, l⟩ := hl i x v e1 e2 e3
  refine ⟨u, r, ?_⟩
  rcases l with l | ⟨k, c, e, z⟩
  ·exact .inl l
  ·exact .inr ⟨k, c, e, cellK x c e _ z⟩
 ·obtain ⟨v, z⟩ := I.cell x c e
  exact ⟨v, cellK x c e v z⟩
 ·obtain ⟨m, ⟨o, _, _, ho, _⟩, _⟩ := I.loc
  exact free _ o (fun z => (hch _ z).2.1 rfl) ho I.free
 ·obtain ⟨v, o, ho, hd⟩ := I.cell x c e
  exact free c o (fun z => (hch c z).2.2.1 x c e rfl) ho (I.freeC x c e)
 ·obtain ⟨e, n, ne, nf, d⟩ := I.pin p hp
  have nch : p.1 ∉ ch := fun z => (hch p.1 z).2.2.2 p hp rfl
  exact ⟨keep p.1 p.2 ne nf nch e n, free p.1 p.2 nch e n, ne, nf, d⟩
theorem Inv.un {t' : Nat} (I : Inv X pins σ H s) (u : Un X.fs [] H H' s.heap h') (hok : HOk X.prog X.w H' h') : Inv X pins σ H' { s with heap := h', toks := t' } := by
 obtain ⟨m, ⟨o, es, ep, ho, r⟩, _⟩ := id I.loc
 obtain ⟨sl, hL⟩ := u.any ho I.free (by simp)
 exact I.step (g' := s.gens) (d' := s.drawn) (ch := []) (fun _ z => nomatch z) (fun b o _ hb _ e n => u.keep b o e n hb (by simp)) (fun b o _ hb _ e n => u.slot b o e n hb (by simp)) (fun b o _ e n => u.free b o e n (by simp)) (fun b o _ e => u.there b o e (by simp)) u.tups u.frzs u.tbls (fun m' hm => by
  obtain ⟨o', es', ep', ho', r'⟩ := hm
  rw [ho] at ho'; cases ho'
  exact ⟨_, es', ep', hL, r'⟩) hok I.bare
theorem Inv.call {g' : Array GenState} {t' : Nat} {d' : Drawn} {ch : List Addr} (I : Inv X pins σ H s) (u : Un (frs X.stack) ch H H' s.heap h') (hok : HOk X.prog X.w H' h') (hg : AllBare g')
  (hch : ∀ b ∈ ch, (b ∈ X.ex \/ X.s₀.heap.objs.size <= b) /\ b ≠ X.env.locals /\ (∀ x c, X.env.cells.lookup x = some c -> c ≠ b) /\ ∀ p ∈ X.pn ++ pins, p.1 ≠ b) :
  Inv X pins σ H' { s with heap := h', gens := g', drawn := d', toks := t' } := by
 obtain ⟨m, ⟨o, es, ep, ho, r⟩, _⟩ := id I.loc
 obtain ⟨sl, hL⟩ := u.any ho I.free fun z => (hch _ z).2.1 rfl
 exact I.step (ch := ch) hch (fun b o hL hb hc e n => u.keep b o e n (fun z => (List.mem_cons.mp (I.stkSub b z)).elim hL hb) hc) (fun b o _ _ hc e n => u.any e n hc) (fun b o hc e n => u.free b o e n hc) (fun b o hc e => u.there b o e hc) u.tups u.frzs u.tbls (fun m' hm => by
  obtain ⟨o', es', ep', ho', r'⟩ := hm
  rw [ho] at ho'; cases ho'
  exact ⟨_, es', ep', hL, r'⟩) hok hg
theorem Inv.turned {t' : Nat} {it : Addr} (I : Inv X pins σ H s) (k : ∀ b o, b ≠ it -> s.heap.get? b = some o -> h'.get? b = some o) (hn : H it = none) (hL : it ≠ X.env.locals)
  (h1 : it ∈ X.ex \/ X.s₀.heap.objs.size <= it) (h2 : ∀ x c, X.env.cells.lookup x = some c -> c ≠ it) (h3 : ∀ p ∈ X.pn ++ pins, p.1 ≠ it) : Inv X pins σ H { s with heap := h', toks := t' } := by
 have nit : ∀ b u, H b = some u -> b ≠ it := fun b u e z => by rw [z, hn] at e; cases e
 refine I.step (g' := s.gens) (d' := s.drawn) (ch := [it]) (fun b hb => ?_) (fun b o _ _ hc e _ => k b o (fun z => hc (by simp [z])) e) (fun b o _ _ hc e _ => ⟨o.slots, k b o (fun z => hc (by simp [z])) e⟩) (fun _ _ _ _ n => n)
  (fun b o hc e => ⟨o, k b o (fun z => hc (by simp [z])) e⟩) (fun _ _ e => e) (fun _ _ _ e => e) (fun b ps e => ⟨#[], by rw [e]; simp⟩) (fun m hm => ?_) (fun b u e => ?_) I.bare
 ·have e : b = it := by simpa using hb
  subst e
  exact ⟨h1, hL, h2, h3⟩
 ·obtain ⟨o, es, ep, ho, r⟩ := hm
  exact ⟨o, es, ep, k _ o (Ne.symm hL) ho, r⟩
 ·refine (I.hok b u e).stay (fun c v hc q => k c v ?_ q) (fun _ q => q) fun _ _ q => q
  rcases hc with z | z
  ·rw [z]; exact nit b u e
  ·exact nit c _ z
theorem Inv.tok (I : Inv X pins σ H s) (t : Nat) : Inv X pins σ H { s with toks := t } := I.un (h' := s.heap) (t' := t) Un.refl I.hok
theorem Inv.kept {t' : Nat} (I : Inv X pins σ H s) (k : ∀ b u, s.heap.get? b = some u -> h'.get? b = some u) : Inv X pins σ H { s with heap := h', toks := t' } := I.un (Un.kept k) (I.hok.kept k)
theorem Inv.laid {a : Addr} {o : HO} {t' : Nat} (I : Inv X pins σ H s) (k : ∀ b u, s.heap.get? b = some u -> h'.get? b = some u) (hp : s.heap.objs.size <= a) (new : ObjOk X.prog X.w (upd H a o) h' a o) :
  Inv X pins σ (upd H a o) { s with heap := h', toks := t' } := I.un (Un.laid k hp (I.hok.fresh hp)) (I.hok.laid k hp new)
theorem Inv.write {x e : Addr} {o : HO} {t' : Nat} (I : Inv X pins σ H s) (mu : Mut (H x)) (he : e = x \/ H e = some (.own x)) (k : ∀ b u, b ≠ e -> s.heap.get? b = some u -> h'.get? b = some u) (heo : ∃ u, h'.get? e = some u)
  (new : ObjOk X.prog X.w (upd H x o) h' x o) : Inv X pins σ (upd H x o) { s with heap := h', toks := t' } := I.un (Un.write mu he k heo) (I.hok.write mu he k heo new)
theorem Inv.pins_of {pins' : List (Addr × Obj)} (I : Inv X pins σ H s) (h : ∀ p ∈ pins', s.heap.get? p.1 = some p.2 /\ H p.1 = none /\ p.1 ≠ X.env.locals /\ p.1 ∉ X.fs /\ ∀ v, p.2.data ≠ .cell v) : Inv X pins' σ H s :=
 ⟨I.ok, I.os, I.bare, I.base, I.loc, I.cell, I.free, I.freeC, fun p hp => (List.mem_append.mp hp).elim (fun z => I.pin p (List.mem_append_left _ z)) (h p), I.hok, I.len⟩
theorem nodup_ix {N : List Str} (hN : N.Nodup) {i j : Nat} {x : Str} (a : N[i]? = some x) (b : N[j]? = some x) : i = j := by
 obtain ⟨h1, e1⟩ := List.getElem?_eq_some_iff.mp a
 obtain ⟨h2, e2⟩ := List.getElem?_eq_some_iff.mp b
 exact (List.getElem_inj hN).mp (e1.trans e2.symm)
theorem store_ok2 {M : Model} {A : Around} {E : Value -> Shared -> Prop} {i : Nat} {x : Str} {v : V} {u : Value} {Q : Unit -> Shared -> Prop} (I : Inv X pins σ H s) (hN : X.N.Nodup) (hi : X.N[i]? = some x) (hx : Loc X.env.scope x) (r : RelV v u)
  (h : ∀ s', Inv X pins (σ.set i (some v)) H s' -> (∃ a, Heap.SameBut a s.heap s'.heap /\ (a = X.env.locals \/ X.env.cells.lookup x = some a)) -> Q () s') (hf : X.fn x = true \/ X.env.scope.names.lookup x = some .local := by first | exact .inl rfl | exact .inr rfl | assumption) : wpAny M A (storeName X.env x u) Q E s := by
 obtain ⟨m, hn, hl⟩ := id I.loc
 have hcls : (X.env.scope.kind == .class || (X.env.scope.kind == .module && X.env.locals != X.env.globals)) = false := by rw [I.ok.kind]; rfl
 have hiσ : i < σ.length := by rw [I.len]; exact (List.getElem?_eq_some_iff.mp hi).1
 have cne := I.cne
 have tracked : ∀ {a : Addr} {h' : Heap}, (∃ o, s.heap.get? a = some o /\ H a = none) -> Heap.SameBut a s.heap h' -> HOk X.prog X.w H h' := fun {a h'} ha hs b ob e => by
  obtain ⟨_, _, hfree⟩ := ha
  refine (I.hok b ob e).stay (fun c w' hc q => (hs.2 c ?_).trans q) (fun _ q => q) fun _ _ q => q
  rintro rfl
  rcases hc with rfl | hc
  ·rw [hfree] at e; cases e
  ·rw [hfree] at hc; cases hc
 rcases hx with hk | hk
 ·refine wpAny_storeName_local hk hn (fun h' hn' hs => ?_) hcls
  obtain ⟨oL, _, _, hoL, _⟩ := id hn
  refine h _ ⟨I.ok, I.os, I.bare, ⟨fun b o e n hb hx => ?_, fun b o e n hb hx => ?_, I.base.free, fun b o e hx => ?_, I.base.tups, I.base.frzs, I.base.tbls⟩, ⟨_, hn', fun j y v' e1 e2 e3 => ?_⟩, fun y c e => ?_, I.free, I.freeC, fun p hp => ?_, tracked ⟨oL, hoL, I.free⟩ hs, by simpa using I.len⟩ ⟨_, hs, .inl rfl⟩
  ·exact (hs.2 b (Nat.ne_of_lt (Nat.lt_of_lt_of_le (Heap.lt_size e) I.ok.above))).trans (I.base.keep b o e n hb hx)
  ·obtain ⟨sl, e1⟩ := I.base.slot b o e n hb hx
   exact ⟨sl, (hs.2 b (Nat.ne_of_lt (Nat.lt_of_lt_of_le (Heap.lt_size e) I.ok.above))).trans e1⟩
  ·obtain ⟨o', e1⟩ := I.base.there b o e hx
   exact ⟨o', (hs.2 b (Nat.ne_of_lt (Nat.lt_of_lt_of_le (Heap.lt_size e) I.ok.above))).trans e1⟩
  ·by_cases hj : j = i
   ·subst hj
    rw [hi] at e1; cases e1
    rw [List.getElem?_set_self hiσ] at e2
    cases e2
    exact ⟨u, r, .inl ⟨hk, by simp⟩⟩
   ·rw [List.getElem?_set_ne (Ne.symm hj)] at e2
    obtain ⟨u', r', q⟩ := hl j y v' e1 e2 e3
    refine ⟨u', r', ?_⟩
    rcases q with ⟨k, e⟩ | ⟨k, c, e, z⟩
    ·refine .inl ⟨k, ?_⟩
     have : y ≠ x := fun e => hj (nodup_ix hN e1 (e ▸ hi))
     simp [this, e]
    ·exact .inr ⟨k, c, e, z.sameBut hs (cne y c e)⟩
  ·obtain ⟨w', z⟩ := I.cell y c e
   exact ⟨w', z.sameBut hs (cne y c e)⟩
  ·obtain ⟨e, n, ne, nf, d⟩ := I.pin p hp
   exact ⟨(hs.2 p.1 ne).trans e, n, ne, nf, d⟩
 ·have hfn : X.fn x = true := by
   rcases hf with z | z
   ·exact z
   ·rw [z] at hk; cases hk
  obtain ⟨c, hc⟩ := I.ok.has x (.inl hk)
  obtain ⟨w', z⟩ := I.cell x c hc
  refine wpAny_storeName_cell I.ok.kind hk hc z (fun h' hc' hs => ?_)
  obtain ⟨oc, hoc, hocd⟩ := id z
  refine h { s with heap := h' } ⟨I.ok, I.os, I.bare, ⟨fun b o e n hb hx => ?_, fun b o e n hb hx => ?_, I.base.free, fun b o e hx => ?_, I.base.tups, I.base.frzs, I.base.tbls⟩, ⟨m, hn.sameBut hs (Ne.symm (cne x c hc)), fun j y v' e1 e2 e3 => ?_⟩, fun y c' e => ?_, I.free, I.freeC, fun p hp => ?_, tracked ⟨oc, hoc, I.freeC x c hc⟩ hs, by simpa using I.len⟩ ⟨c, hs, .inr hc⟩
  ·exact (hs.2 b (Nat.ne_of_lt (Nat.lt_of_lt_of_le (Heap.lt_size e) (I.ok.cab x c hfn hc)))).trans (I.base.keep b o e n hb hx)
  ·obtain ⟨sl, e1⟩ := I.base.slot b o e n hb hx
   exact ⟨sl, (hs.2 b (Nat.ne_of_lt (Nat.lt_of_lt_of_le (Heap.lt_size e) (I.ok.cab x c hfn hc)))).trans e1⟩
  ·obtain ⟨o', e1⟩ := I.base.there b o e hx
   exact ⟨o', (hs.2 b (Nat.ne_of_lt (Nat.lt_of_lt_of_le (Heap.lt_size e) (I.ok.cab x c hfn hc)))).trans e1⟩
  ·by_cases hj : j = i
   ·subst hj
    rw [hi] at e1; cases e1
    rw [List.getElem?_set_self hiσ] at e2
    cases e2
    exact ⟨u, r, .inr ⟨.inl hk, c, hc, hc'⟩⟩
   ·rw [List.getElem?_set_ne (Ne.symm hj)] at e2
    obtain ⟨u', r', q⟩ := hl j y v' e1 e2 e3
    refine ⟨u', r', ?_⟩
    rcases q with q | ⟨k, c', e, z'⟩
    ·exact .inl q
    ·refine .inr ⟨k, c', e, z'.sameBut hs ?_⟩
     rintro rfl
     exact hj (nodup_ix hN e1 (I.ok.inj _ _ _ e hc ▸ hi))
  ·by_cases hcc : c' = c
   ·subst hcc; exact ⟨_, hc'⟩
   ·obtain ⟨w2, z2⟩ := I.cell y c' e
    exact ⟨w2, z2.sameBut hs hcc⟩
  ·obtain ⟨e, n, ne, nf, d⟩ := I.pin p hp
   refine ⟨(hs.2 p.1 ?_).trans e, n, ne, nf, d⟩
   intro q
   rw [q, hoc] at e
   have q' : oc = p.2 := Option.some.inj e
   exact d w' (by rw [<- q']; exact hocd)
theorem store_ok {M : Model} {A : Around} {E : Value -> Shared -> Prop} {i : Nat} {x : Str} {v : V} {u : Value} {Q : Unit -> Shared -> Prop} (I : Inv X pins σ H s) (hN : X.N.Nodup) (hi : X.N[i]? = some x) (hx : Loc X.env.scope x) (r : RelV v u)
  (h : ∀ s', Inv X pins (σ.set i (some v)) H s' -> Q () s') (hf : X.fn x = true \/ X.env.scope.names.lookup x = some .local := by first | exact .inl rfl | exact .inr rfl | assumption) : wpAny M A (storeName X.env x u) Q E s :=
 store_ok2 I hN hi hx r (fun s' I' _ => h s' I') hf
theorem Inv.call' {s' : Shared} {ch : List Addr} (I : Inv X pins σ H s) (ho : s'.os = s.os) (u : Un (frs X.stack) ch H H' s.heap s'.heap) (hok : HOk X.prog X.w H' s'.heap) (hg : AllBare s'.gens)
  (hch : ∀ b ∈ ch, (b ∈ X.ex \/ X.s₀.heap.objs.size <= b) /\ b ≠ X.env.locals /\ (∀ x c, X.env.cells.lookup x = some c -> c ≠ b) /\ ∀ p ∈ X.pn ++ pins, p.1 ≠ b) : Inv X pins σ H' s' := by
 obtain ⟨h', g', d', t', o'⟩ := s'
 have e : o' = s.os := ho
 subst e
 exact I.call (g' := g') (t' := t') (d' := d') u hok hg hch
end
abbrev XK := Value -> Option Addr -> Hp -> Prop
abbrev St := List (Option V)
abbrev VK := V -> Hp -> Prop
abbrev TE := St -> Hp -> VK -> Prop
abbrev TT := St -> Hp -> (Bool -> Hp -> Prop) -> Prop
abbrev TA := St -> Hp -> (List V -> Hp -> Prop) -> Prop
structure Ends where
 nx : St -> Hp -> Prop
 rt : VK
 bk : St -> Hp -> Prop := fun _ _ => False
 ct : St -> Hp -> Prop := fun _ _ => False
abbrev TS := Ends -> St -> Hp -> Prop
def EP (X : Cx) (pins : List (Addr × Obj)) (σ : St) (Q : VK) (u : Value) (s' : Shared) : Prop := ∃ v H', Inv X pins σ H' s' /\ RelV v u /\ Q v H'
def TP (X : Cx) (pins : List (Addr × Obj)) (σ : St) (Q : Bool -> Hp -> Prop) (b : Bool) (s' : Shared) : Prop := ∃ H', Inv X pins σ H' s' /\ Q b H'
def AP (X : Cx) (pins : List (Addr × Obj)) (σ : St) (Q : List V -> Hp -> Prop) (us : List Value) (s' : Shared) : Prop := ∃ vs H', Inv X pins σ H' s' /\ Vals vs us /\ Q vs H'
def SP (X : Cx) (pins : List (Addr × Obj)) (D : Ends) (f : Flow) (s' : Shared) : Prop :=
 match f with
 | .next => ∃ σ' H', Inv X pins σ' H' s' /\ D.nx σ' H'
 | .brk => ∃ σ' H', Inv X pins σ' H' s' /\ D.bk σ' H'
 | .cont => ∃ σ' H', Inv X pins σ' H' s' /\ D.ct σ' H'
 | .ret u => ∃ v σ' H', Inv X pins σ' H' s' /\ RelV v u /\ D.rt v H'
def PE (X : Cx) (e : Expr) (t : TE) : Prop :=
 ∀ (pins : List (Addr × Obj)) (s : Shared) (σ : St) (H : Hp) (Q : VK), Inv X pins σ H s -> t σ H Q -> wpAny (model X.prog X.w) X.A (eval e X.env) (EP X pins σ Q) X.xe s
def PT (X : Cx) (e : Expr) (t : TT) : Prop :=
 ∀ (pins : List (Addr × Obj)) (s : Shared) (σ : St) (H : Hp) (Q : Bool -> Hp -> Prop), Inv X pins σ H s -> t σ H Q -> wpAny (model X.prog X.w) X.A (isTrue e X.env (eval e X.env)) (TP X pins σ Q) X.xe s
def PW (X : Cx) (e : Expr) (t : TT) : Prop :=
 ∀ (whole : Sem Value) (pins : List (Addr × Obj)) (s : Shared) (σ : St) (H : Hp) (Q : Bool -> Hp -> Prop), Inv X pins σ H s -> t σ H Q -> wpAny (model X.prog X.w) X.A (isTrue e X.env whole) (TP X pins σ Q) X.xe s
theorem PW.pt {X : Cx} {e : Expr} {t : TT} (h : PW X e t) : PT X e t := h _
def PA (X : Cx) (es : List Expr) (t : TA) : Prop :=
 ∀ (pos : Pos) (pins : List (Addr × Obj)) (s : Shared) (σ : St) (H : Hp) (Q : List V -> Hp -> Prop), Inv X pins σ H s -> t σ H Q -> wpAny (model X.prog X.w) X.A (spliced (backTo pos (starEach es X.env))) (AP X pins σ Q) X.xe s
def PS (X : Cx) (st : Stmt) (t : TS) : Prop :=
 ∀ (pins : List (Addr × Obj)) (s : Shared) (σ : St) (H : Hp) (D : Ends), Inv X pins σ H s -> t D σ H -> wpAny (model X.prog X.w) X.A (exec st X.env) (SP X pins D) X.xe s
def PSs (X : Cx) (st : List Stmt) (t : TS) : Prop :=
 ∀ (pins : List (Addr × Obj)) (s : Shared) (σ : St) (H : Hp) (D : Ends), Inv X pins σ H s -> t D σ H -> wpAny (model X.prog X.w) X.A (execs st X.env) (SP X pins D) X.xe s
theorem thn {α : Type} {t : Sem α} {Q Q' : α -> Shared -> Prop} {M : Model} {A : Around} {E : Value -> Shared -> Prop} {s : Shared} (h : wpAny M A t Q E s) (hQ : ∀ a s, Q a s -> Q' a s) : wpAny M A t Q' E s := wpAny_mono h hQ fun _ _ x => x
end L2
namespace L2
open PySem PySem.Spec PyProof.Rows
section
variable {X : Cx}
theorem bin {a b : Expr} {ta tb : TE} (ha : PE X a ta) (hb : PE X b tb) {pins : List (Addr × Obj)} {s : Shared} {σ : St} {H : Hp} {R : V -> V -> Hp -> Prop} (I : Inv X pins σ H s) (h : ta σ H fun x H1 => tb σ H1 fun y H2 => R x y H2)
  {α : Type} {Q : α -> Shared -> Prop} {f : Value -> Value -> Sem α}
  (hf : ∀ v u s2 x y H2, Inv X pins σ H2 s2 -> RelV x v -> RelV y u -> R x y H2 -> wpAny (model X.prog X.w) X.A (f v u) Q X.xe s2) :
  wpAny (model X.prog X.w) X.A (eval a X.env) (fun v s₁ => wpAny (model X.prog X.w) X.A (eval b X.env) (fun u s₂ => wpAny (model X.prog X.w) X.A (f v u) Q X.xe s₂) X.xe s₁) X.xe s := by
 refine thn (ha pins s σ H _ I h) fun v s1 ⟨x, H1, I1, r1, q1⟩ => ?_
 refine thn (hb pins s1 σ H1 _ I1 q1) fun u s2 ⟨y, H2, I2, r2, q2⟩ => ?_
 exact hf v u s2 x y H2 I2 r1 r2 q2
def tVar (i : Nat) : TE := fun σ H Q => ∃ v, σ[i]? = some (some v) /\ Q v H
def tC (v : V) : TE := fun _ H Q => Q v H
theorem pe_var {i : Nat} {x : Str} {pos : Pos} (hN : X.N[i]? = some x) (hv : Vis X.env.scope x) (hd : (x == ("__debug__" : Str)) = false := by decide) (hcd : (x == ("__classdict__" : Str)) = false := by decide) : PE X (.Name x pos) (tVar i) := by
 intro pins s σ H Q I h
 obtain ⟨v, e, h⟩ := h
 obtain ⟨m, hn, hl⟩ := I.loc
 obtain ⟨u, r, l⟩ := hl i x v hN e hv
 have fin : EP X pins σ Q u s := ⟨v, H, I, r, h⟩
 rcases l with ⟨hk, hm⟩ | ⟨hk, c, hc, hcell⟩
 ·exact wpAny_Name (wpAny_loadName_local I.ok.kind hk hn hm fin) hd
 ·rcases hk with hk | hk
  ·exact wpAny_Name (wpAny_loadName_cell I.ok.kind hk hc hcell fin) hd
  ·exact wpAny_Name (wpAny_loadName_free I.ok.kind hk hc hcell fin hcd) hd
theorem pe_int {i j pos} : PE X (.Constant (.int i) j pos) (tC (.int i)) := fun _ _ _ H _ I h => wpAny_Constant_int ⟨.int i, H, I.tok _, ⟨_, rfl⟩, h⟩
theorem pe_bl {b j pos} : PE X (.Constant (.bool b) j pos) (tC (.bl b)) := fun _ _ _ H _ I h => Constant_bool ⟨.bl b, H, I, rfl, h⟩
theorem pe_non {j pos} : PE X (.Constant .none j pos) (tC .non) := fun _ _ _ H _ I h => Constant_none ⟨.non, H, I, rfl, h⟩
theorem pe_str {x j pos} : PE X (.Constant (.str x) j pos) (tC (.str x)) := fun _ _ _ H _ I h => Calls.Constant_str ⟨.str x, H, I.tok _, ⟨_, rfl⟩, h⟩
def Gl (X : Cx) (x : Str) : Prop := X.env.kindOf x = some .globalImplicit
theorem ld_glob {E : Value -> Shared -> Prop} {pins : List (Addr × Obj)} {s : Shared} {σ : St} {H : Hp} {x : Str} {u : Value} {pos : Pos} {Q : Value -> Shared -> Prop} (I : Inv X pins σ H s) (hg : Gl X x) (hm : X.mg x = some u) (h : Q u s)
  (hd : (x == ("__debug__" : Str)) = false := by decide) : wpAny (model X.prog X.w) X.A (eval (.Name x pos) X.env) Q E s :=
 Calls.Name_function_global I.ok.kind hg (Calls.loadGlobal_global (by rw [I.ok.glob]; exact I.mod.glob.keeps I.bk) hm h) hd
theorem ld_blt {E : Value -> Shared -> Prop} {pins : List (Addr × Obj)} {s : Shared} {σ : St} {H : Hp} {x : Str} {u : Value} {pos : Pos} {Q : Value -> Shared -> Prop} (I : Inv X pins σ H s) (hg : Gl X x) (hm : X.mg x = none) (hv : bootBuiltins x = some u) (h : Q u s)
  (hn : x ≠ "__name__" := by decide) (hd : (x == ("__debug__" : Str)) = false := by decide) : wpAny (model X.prog X.w) X.A (eval (.Name x pos) X.env) Q E s := by
 obtain ⟨mb, h1, h2⟩ := I.mod.blt
 exact Calls.Name_function_global I.ok.kind hg (Calls.loadGlobal_builtin (by rw [I.ok.glob]; exact I.mod.glob.keeps I.bk) hm (by rw [I.ok.blt]; exact h1.keeps I.bk) ((h2 x hn).trans hv) h) hd
theorem pe_glob {x : Str} {v : V} {u : Value} {pos : Pos} (hg : Gl X x) (hm : X.mg x = some u) (r : RelV v u) (hd : (x == ("__debug__" : Str)) = false := by decide) : PE X (.Name x pos) (tC v) :=
 fun _ _ _ H _ I h => ld_glob I hg hm ⟨v, H, I, r, h⟩ hd
theorem pe_bltn {x : Str} {v : V} {u : Value} {pos : Pos} (hg : Gl X x) (hm : X.mg x = none) (hv : bootBuiltins x = some u) (r : RelV v u) (hn : x ≠ "__name__" := by decide) (hd : (x == ("__debug__" : Str)) = false := by decide) : PE X (.Name x pos) (tC v) :=
 fun _ _ _ H _ I h => ld_blt I hg hm hv ⟨v, H, I, r, h⟩ hn hd
variable {a b : Expr} {ta tb : TE} {pos : Pos}
variable {tA tB' : TT} {rest : List Expr}
def tNot (t : TT) : TT := fun σ H Q => t σ H fun c H1 => Q (!c) H1
theorem pw_and1 (ha : PT X a tA) : PW X (.BoolOp .And [a] pos) tA := by
 intro wh pins s σ H Q I h
 refine isTrue_and (thn (ha pins s σ H Q I h) fun c s1 e => ?_)
 cases c with
 | true => exact isTrue_and_nil e
 | false => exact e
theorem pw_or1 (ha : PT X a tA) : PW X (.BoolOp .Or [a] pos) tA := by
 intro wh pins s σ H Q I h
 refine isTrue_or (thn (ha pins s σ H Q I h) fun c s1 e => ?_)
 cases c with
 | false => exact isTrue_or_nil e
 | true => exact e
theorem pt_not (ha : PT X a tA) : PT X (.UnaryOp .Not a pos) (tNot tA) := by
 intro pins s σ H Q I h
 exact isTrue_not (ha pins s σ H (fun c H1 => Q (!c) H1) I h)
theorem pe_one {op} {t : TE} (h : PE X a t) : PE X (.BoolOp op [a] pos) t := fun pins s σ H Q I hw => BoolOp_one (h pins s σ H Q I hw)
end
end L2
namespace L2
open PySem PySem.Spec PyProof.Rows
def SqL (K : Fg) (H : Hp) (a : Addr) (xs : List V) : Prop :=
 Rd H a (.lst xs) \/
  ∃ (o : Obj) (its : Array Value) (n : Nat), K.lookup a = some o /\ o.cls = .type "list" /\ o.dict = none /\ o.data = .seq its n /\ its.size <= sizeLine /\ Vals xs its.toList
def SqT (K : Fg) (H : Hp) (a : Addr) (xs : List V) : Prop :=
 Rd H a (.tup xs) \/
  ∃ (o : Obj) (its : Array Value) (n : Nat), K.lookup a = some o /\ o.cls = .type "tuple" /\ o.data = .seq its n /\ its.size <= sizeLine /\ Vals xs its.toList
def absV : Value -> Option V
 | .none => some .non
 | .bool b => some (.bl b)
 | .int i _ => some (.int i)
 | .str x _ => some (.str x)
 | .bytes b _ => some (.byt b)
 | .float b _ => some (.flt b)
 | .ref a => some (.ref a)
 | .type n => some (.ty n)
 | _ => none
theorem RelV.abs {x : V} {u : Value} (r : RelV x u) : absV u = some x := by
 cases x with
 | non => cases r; rfl
 | bl _ => cases r; rfl
 | int _ => obtain ⟨t, rfl⟩ := r; rfl
 | str _ => obtain ⟨t, rfl⟩ := r; rfl
 | byt _ => obtain ⟨t, rfl⟩ := r; rfl
 | flt _ => obtain ⟨t, rfl⟩ := r; rfl
 | ref _ => cases r; rfl
 | ty _ => cases r; rfl
theorem RelV.inj {x y : V} {u : Value} (r : RelV x u) (q : RelV y u) : x = y := Option.some.inj (r.abs.symm.trans q.abs)
theorem Vals.inj : ∀ {xs ys : List V} {us : List Value}, Vals xs us -> Vals ys us -> xs = ys
 | _, _, _, .nil, .nil => rfl
 | _, _, _, .cons r t, .cons r' t' => by rw [r.inj r', Vals.inj t t']
section
variable {X : Cx} {pins : List (Addr × Obj)} {σ : St} {H : Hp} {s : Shared} {a : Addr} {xs ys : List V}
theorem SqL.of {K : Fg} (h : H a = some (.lst xs)) : SqL K H a xs := .inl (.inl h)
theorem SqT.of {K : Fg} (h : H a = some (.tup xs)) : SqT K H a xs := .inl (.inl h)
theorem Inv.list (I : Inv X pins σ H s) (h : SqL X.K H a xs) : ∃ its : List Value, Vals xs its /\ PlainL s.heap a its.toArray /\ xs.length <= sizeLine := by
 rcases h with h | ⟨o, its, n, hk, hc, hd, hs, hz, r⟩
 ·obtain ⟨z, its, n, r, e⟩ := h.ok I.hok
  exact ⟨its, r, ⟨_, n, e, rfl, rfl, rfl⟩, z⟩
 ·refine ⟨its.toList, r, ⟨o, n, I.kIn a o hk, hc, hd, by simpa using hs⟩, ?_⟩
  have e := r.length
  simp only [Array.length_toList] at e
  omega
theorem Inv.tuple (I : Inv X pins σ H s) (h : SqT X.K H a xs) : ∃ its : List Value, Vals xs its /\ IsTup s.heap a its.toArray /\ xs.length <= sizeLine := by
 rcases h with h | ⟨o, its, n, hk, hc, hs, hz, r⟩
 ·obtain ⟨z, its, r, p⟩ := h.ok I.hok
  exact ⟨its, r, p, z⟩
 ·refine ⟨its.toList, r, ⟨o, I.kIn a o hk, hc, n, by simpa using hs⟩, ?_⟩
  have e := r.length
  simp only [Array.length_toList] at e
  omega
theorem Inv.list_inj (I : Inv X pins σ H s) (h : SqL X.K H a xs) (h' : SqL X.K H a ys) : xs = ys := by
 obtain ⟨its, r, ⟨o, n, e, _, _, d⟩, _⟩ := I.list h
 obtain ⟨its', r', ⟨o', n', e', _, _, d'⟩, _⟩ := I.list h'
 rw [e] at e'; cases e'
 rw [d] at d'
 injection d' with d1 _
 have : its = its' := by simpa using congrArg Array.toList d1
 subst this
 exact r.inj r'
theorem Inv.tuple_inj (I : Inv X pins σ H s) (h : SqT X.K H a xs) (h' : SqT X.K H a ys) : xs = ys := by
 obtain ⟨its, r, ⟨o, e, _, n, d⟩, _⟩ := I.tuple h
 obtain ⟨its', r', ⟨o', e', _, n', d'⟩, _⟩ := I.tuple h'
 rw [e] at e'; cases e'
 rw [d] at d'
 injection d' with d1 _
 have : its = its' := by simpa using congrArg Array.toList d1
 subst this
 exact r.inj r'
end
section
variable {X : Cx} {pins : List (Addr × Obj)} {σ : St} {H : Hp} {s : Shared} {E : Value -> Shared -> Prop}
end
section
variable {X : Cx} {st : Stmt} {rest : List Stmt} {t u : TS} {e : Expr} {te : TE} {pos : Pos}
def tNext : TS := fun D σ H => D.nx σ H
def tSeq (t u : TS) : TS := fun D σ H => t { D with nx := u D } σ H
theorem pss_nil : PSs X [] tNext := fun _ _ σ H _ I h => wpAny_execs_nil ⟨σ, H, I, h⟩
theorem pss_cons (h1 : PS X st t) (h2 : PSs X rest u) : PSs X (st :: rest) (tSeq t u) := by
 intro pins s σ H D I h
 refine wpAny_execs_cons (thn (h1 pins s σ H { D with nx := u D } I h) fun f s1 q => ?_)
 cases f with
 | next =>
  obtain ⟨σ', H', I', q⟩ := q
  exact h2 pins s1 σ' H' D I' q
 | ret v => exact q
 | brk => exact q
 | cont => exact q
theorem Inv.quiet {pins : List (Addr × Obj)} {σ : St} {H : Hp} {s : Shared} (I : Inv X pins σ H s) : interactive X.env = false := by simp [interactive, I.ok.kind]
def tDrop (te : TE) : TS := fun D σ H => te σ H fun _ H1 => D.nx σ H1
theorem ps_expr (he : PE X e te) (hs : swapsWith e none pos.line X.env = pure false := by rfl) : PS X (.Expr e pos) (tDrop te) := by
 intro pins s σ H D I h
 exact wpAny_Expr_any (thn (he pins s σ H _ I h) fun v s1 ⟨x, H1, I1, r1, q1⟩ => ⟨σ, H1, I1, q1⟩) I.quiet hs
def tRet (te : TE) : TS := fun D σ H => te σ H D.rt
theorem ps_ret (he : PE X e te) : PS X (.Return (some e) pos) (tRet te) := by
 intro pins s σ H D I h
 exact wpAny_Return_some (thn (he pins s σ H _ I h) fun v s1 ⟨x, H1, I1, r1, q1⟩ => ⟨x, σ, H1, I1, r1, q1⟩)
def tNever : TS := fun _ _ _ => False
theorem ps_never : PS X st tNever := fun _ _ _ _ _ _ h => h.elim
end
abbrev TG := V -> St -> Hp -> (St -> Hp -> Prop) -> Prop
abbrev TGs := List V -> St -> Hp -> (St -> Hp -> Prop) -> Prop
def PG (X : Cx) (target : Expr) (t : TG) : Prop :=
 ∀ (pins : List (Addr × Obj)) (s : Shared) (σ : St) (H : Hp) (v : V) (u : Value) (Q : St -> Hp -> Prop), Inv X pins σ H s -> RelV v u -> t v σ H Q ->
  wpAny (model X.prog X.w) X.A (assign target X.env u) (fun _ s' => ∃ σ' H', Inv X pins σ' H' s' /\ Q σ' H') X.xe s
def PGs (X : Cx) (ts : List Expr) (t : TGs) : Prop :=
 ∀ (pins : List (Addr × Obj)) (s : Shared) (σ : St) (H : Hp) (vs : List V) (us : List Value) (Q : St -> Hp -> Prop), Inv X pins σ H s -> Vals vs us -> t vs σ H Q ->
  wpAny (model X.prog X.w) X.A (assignInOrder ((assignEach ts X.env).map (·.2)) us) (fun _ s' => ∃ σ' H', Inv X pins σ' H' s' /\ Q σ' H') X.xe s
abbrev TSet := V -> V -> V -> Hp -> (Hp -> Prop) -> Prop
def PSet (X : Cx) (t : TSet) : Prop :=
 ∀ (pins : List (Addr × Obj)) (s : Shared) (σ : St) (H : Hp) (o i v : V) (ov iv u : Value) (Q : Hp -> Prop), Inv X pins σ H s -> RelV o ov -> RelV i iv -> RelV v u -> t o i v H Q ->
  wpAny (model X.prog X.w) X.A (setItem ov iv u) (fun _ s' => ∃ H', Inv X pins σ H' s' /\ Q H') X.xe s
section
variable {X : Cx} {pos : Pos}
def gName (i : Nat) : TG := fun v σ H Q => Q (σ.set i (some v)) H
theorem pg_name {i : Nat} {x : Str} (hN : X.N.Nodup) (hi : X.N[i]? = some x) (hx : Loc X.env.scope x) (hf : X.fn x = true \/ X.env.scope.names.lookup x = some .local := by first | exact .inl rfl | exact .inr rfl | assumption) : PG X (.Name x pos) (gName i) := by
 intro pins s σ H v u Q I r h
 exact wpAny_assign_Name (store_ok I hN hi hx r (fun s' I' => ⟨_, H, I', h⟩) hf)
def gNil : TGs := fun vs σ H Q => vs = [] /\ Q σ H
def gCons (t : TG) (u : TGs) : TGs := fun vs σ H Q => ∃ v r, vs = v :: r /\ t v σ H fun σ' H' => u r σ' H' Q
theorem pgs_nil : PGs X [] gNil := by
 intro pins s σ H vs us Q I r h
 obtain ⟨e, h⟩ := h
 subst e
 cases r
 exact assignInOrder_nil ⟨σ, H, I, h⟩
theorem pgs_cons {e : Expr} {es : List Expr} {t : TG} {u : TGs} (h1 : PG X e t) (h2 : PGs X es u)
  (hs : (assignEach (e :: es) X.env).map (·.2) = assign e X.env :: (assignEach es X.env).map (·.2) := by rfl) : PGs X (e :: es) (gCons t u) := by
 intro pins s σ H vs us Q I r h
 obtain ⟨v, vr, e1, h⟩ := h
 subst e1
 cases r with
 | cons r rr =>
  rw [hs]
  refine assignInOrder_cons (thn (h1 pins s σ H _ _ _ I r h) fun _ s1 ⟨σ1, H1, I1, q1⟩ => ?_)
  exact h2 pins s1 σ1 H1 _ _ Q I1 rr q1
def gTup (K : Fg) (n : Nat) (t : TGs) : TG := fun v σ H Q => ∃ a xs, v = .ref a /\ SqT K H a xs /\ xs.length = n /\ t xs σ H Q
theorem pg_tup {es : List Expr} {k : Nat} {t : TGs} {n : Nat} (hc : X.calm = true) (h : PGs X es t)
  (hn : (assignEach es X.env).length = n := by rfl) (hst : (assignEach es X.env).findIdx? (·.1) = none := by rfl) : PG X (.Tuple es k pos) (gTup X.K n t) := by
 intro pins s σ H v u Q I r hw
 obtain ⟨a, xs, e1, hq, hl, hw⟩ := hw
 subst e1
 cases r
 obtain ⟨its, rv, ht, hz⟩ := I.tuple hq
 refine assign_Tuple_tuple (I.ok.hd hc) ht (by simp [hn, <- hl, rv.length]) hst fun h' hx => ?_
 have I1 : Inv X pins σ H { s with heap := h' } := I.kept (t' := s.toks) fun b o e => hx b o (Nat.ne_of_lt (Heap.lt_size e)) e
 exact h pins _ σ H xs _ Q I1 (by simpa using rv) hw
def gSub (to ti : TE) (t : TSet) : TG := fun v σ H Q => to σ H fun o H1 => ti σ H1 fun i H2 => t o i v H2 fun H3 => Q σ H3
theorem pg_sub {o i : Expr} {to ti : TE} {t : TSet} (ho : PE X o to) (hi : PE X i ti) (hs : PSet X t)
  (ha : ∀ v, assign (.Subscript o i pos) X.env v = (do
   let ov <- holding [v] (eval o X.env)
   let iv <- holding [v, ov] (eval i X.env)
   standAt pos
   holding [v, ov, iv] (setItem ov iv v)
   release [v, ov, iv] []) := by intro _; rfl) : PG X (.Subscript o i pos) (gSub to ti t) := by
 intro pins s σ H v u Q I r h
 rw [ha]
 refine wpAny_bind (wpAny_holding (thn (ho pins s σ H _ I h) fun ov s1 ⟨x, H1, I1, r1, q1⟩ => ?_))
 refine wpAny_bind (wpAny_holding (thn (hi pins s1 σ H1 _ I1 q1) fun iv s2 ⟨y, H2, I2, r2, q2⟩ => ?_))
 refine wpAny_bind (wpAny_standAt (wpAny_bind (wpAny_holding (thn (hs pins s2 σ H2 x y v ov iv u _ I2 r1 r2 r q2) fun _ s3 ⟨H3, I3, q3⟩ => ?_))))
 exact wpAny_release ⟨σ, H3, I3, q3⟩
def tAsg (te : TE) (g : TG) : TS := fun D σ H => te σ H fun x H1 => g x σ H1 D.nx
theorem ps_asg {tg e : Expr} {te : TE} {g : TG} (he : PE X e te) (hg : PG X tg g) (hs : swapsWithSole [tg] e pos.line X.env = pure false := by rfl) (hw : swappedStores [tg] e X.env = pure none := by rfl)
  (h1 : (assignEach [tg] X.env).map (·.2) = [assign tg X.env] := by rfl) : PS X (.Assign [tg] e pos) (tAsg te g) := by
 intro pins s σ H D I h
 refine wpAny_Assign_stores (thn (he pins s σ H _ I h) fun v s1 ⟨x, H1, I1, r1, q1⟩ => ?_) hs hw
 rw [h1]
 exact thn (hg pins s1 σ H1 x v _ I1 r1 q1) fun _ s2 q => q
theorem ps_set {i : Nat} {x : Str} {e : Expr} {te : TE} {pos' : Pos} (hN : X.N.Nodup) (hi : X.N[i]? = some x) (hx : Loc X.env.scope x) (he : PE X e te) (hs : swapsWith e (some (.Name x pos')) pos.line X.env = pure false := by rfl) (hf : X.fn x = true \/ X.env.scope.names.lookup x = some .local := by first | exact .inl rfl | exact .inr rfl | assumption) :
  PS X (.Assign [.Name x pos'] e pos) (tAsg te (gName i)) := by
 intro pins s σ H D I h
 refine wpAny_Assign_Name (thn (he pins s σ H _ I h) fun v s1 ⟨y, H1, I1, r1, q1⟩ => ?_) hs
 exact store_ok I1 hN hi hx r1 (fun s2 I2 => ⟨_, H1, I2, q1⟩) hf
def tPar (i j : Nat) (ta : TA) : TS := fun D σ H => ta σ H fun vs H1 => ∃ v w, vs = [v, w] /\ D.nx ((σ.set i (some v)).set j (some w)) H1
theorem ps_par {i j : Nat} {x y : Str} {a b : Expr} {ta : TA} {px py pt : Pos} {kt k2 pt2} (hc : X.calm = true) (hN : X.N.Nodup) (hi : X.N[i]? = some x) (hj : X.N[j]? = some y) (hij : i ≠ j)
  (hx : X.env.scope.names.lookup x = some .local) (hy : X.env.scope.names.lookup y = some .local) (ha : PA X [a, b] ta)
  (hw : swappedStores [.Tuple [.Name x px, .Name y py] kt pt] (.Tuple [a, b] k2 pt2) X.env = pure (some [x, y]))
  (hs : swapsWithSole [.Tuple [.Name x px, .Name y py] kt pt] (.Tuple [a, b] k2 pt2) pos.line X.env = pure false := by rfl) :
  PS X (.Assign [.Tuple [.Name x px, .Name y py] kt pt] (.Tuple [a, b] k2 pt2) pos) (tPar i j ta) := by
 intro pins s σ H D I h
 rw [exec_Assign_arm]
 refine wpAny_bind (wpAny_standAt ?_)
 rw [hs]
 refine wpAny_bind (wpAny_pure ?_)
 rw [if_neg (by decide)]
 refine wpAny_bind (Tuple_ (thn (ha _ pins s σ H _ I h) fun us s1 ⟨vs, H1, I1, r1, q1⟩ => ?_))
 obtain ⟨v, w, e1, q1⟩ := q1
 subst e1
 obtain ⟨u1, u2, rfl, rv, rw'⟩ : ∃ u1 u2, us = [u1, u2] /\ RelV v u1 /\ RelV w u2 := by
  cases r1 with
  | cons p q =>
   cases q with
   | cons p' q' =>
    cases q'
    exact ⟨_, _, rfl, p, p'⟩
 refine wpAny_newObj_type ?_ (by show 2 <= sizeLine; decide)
 have I2 : Inv X pins σ H1 { s1 with heap := s1.heap.push { cls := .type "tuple", data := .seq [u1, u2].toArray } } := I1.kept (t' := s1.toks) fun b o e => Heap.get?_push_of_some _ e
 rw [hw]
 refine wpAny_bind (wpAny_pure ?_)
 show wpAny (model X.prog X.w) X.A (do rule "assign.swapped-stores"; let items <- unpackItems (.ref s1.heap.objs.size) 2 none; assignInOrder [fun v => bindName X.env y v, fun v => bindName X.env x v] items.reverse; pure Flow.next) _ _ _
 refine wpAny_bind (wpAny_rule (wpAny_bind (unpackItems_tuple (items := #[u1, u2]) (I.ok.hd hc) (IsTup.new s1.heap _) fun h' hx' => ?_)))
 have I3 := I2.kept (h' := h') (t' := s1.toks) fun b o e => hx' b o (Nat.ne_of_lt (Heap.lt_size e)) e
 show wpAny _ _ (assignInOrder [fun v => bindName X.env y v, fun v => bindName X.env x v] [u2, u1] >>= fun _ => pure Flow.next) _ _ _
 refine wpAny_bind (assignInOrder_cons (wpAny_bindName (store_ok I3 hN hj (.inl hy) rw' (fun s2 I4 => ?_) (.inr hy))))
 refine assignInOrder_cons (wpAny_bindName (store_ok I4 hN hi (.inl hx) rv (fun s3 I5 => assignInOrder_nil (wpAny_pure ?_)) (.inr hx)))
 rw [List.set_comm _ _ (Ne.symm hij)] at I5
 exact ⟨_, H1, I5, q1⟩
end
section
variable {X : Cx} {pos : Pos}
end
structure It where
 go : Nat -> Hp -> Prop
 yld : Nat -> Hp -> V -> Hp -> Prop
 stop : Nat -> Hp -> Prop
def FpOk (X : Cx) (pins : List (Addr × Obj)) (H : Hp) (b : Addr) : Prop :=
 H b = none /\ b ≠ X.env.locals /\ b ∉ X.fs /\ (b ∈ X.ex \/ X.s₀.heap.objs.size <= b) /\ (∀ x c, X.env.cells.lookup x = some c -> c ≠ b) /\ ∀ p ∈ X.pn ++ pins, p.1 ≠ b
theorem Inv.fpOk {X : Cx} {pins : List (Addr × Obj)} {σ : St} {H H' : Hp} {s : Shared} {b : Addr} (I : Inv X pins σ H s) (hb : s.heap.objs.size <= b) (hn : H' b = none) : FpOk X pins H' b := by
 refine ⟨hn, Nat.ne_of_gt (Nat.lt_of_lt_of_le I.lt hb), I.nofs hb, .inr (Nat.le_trans I.sz hb), fun x c e z => ?_, fun p hp z => ?_⟩
 ·obtain ⟨v, q⟩ := I.cell x c e
  exact absurd (Nat.lt_of_lt_of_le q.lt (by rw [z]; exact hb)) (Nat.lt_irrefl _)
 ·exact absurd (Nat.lt_of_lt_of_le (Heap.lt_size (I.pin p hp).1) (by rw [z]; exact hb)) (Nat.lt_irrefl _)
structure Turn (P : Program) (w : World) (K : Fg) (tg : Expr) (J : It) (fp : List Addr) (it : Addr) (tn : Nat -> Heap -> Prop) : Prop where
 mem : it ∈ fp
 obj : ∀ i h, tn i h -> ∀ b ∈ fp, ∃ o, h.get? b = some o /\ ∀ v, o.data ≠ .cell v
 keep : ∀ i h h', tn i h -> (∀ b ∈ fp, ∀ o, h.get? b = some o -> h'.get? b = some o) -> tn i h'
 item : ∀ (X : Cx), X.prog = P -> X.w = w -> X.K = K -> X.calm = true -> ∀ (i : Nat) (pins : List (Addr × Obj)) (s : Shared) (σ : St) (H : Hp) (E : Value -> Shared -> Prop), Inv X pins σ H s -> (∀ b ∈ fp, FpOk X pins H b) -> tn i s.heap -> J.go i H ->
  wpAny (model P w) X.A (pyNext (.ref it)) (fun r s1 => ∃ u, r = some u /\
   wpAny (model P w) X.A (letOwnedTupleGo tg (.ref it) u) (fun _ s2 => ∃ x H', Inv X pins σ H' s2 /\ RelV x u /\ J.yld i H x H' /\ tn (i + 1) s2.heap /\ ∀ b ∈ fp, H' b = none) E s1) E s
 done : ∀ (X : Cx), X.prog = P -> X.w = w -> X.K = K -> X.calm = true -> ∀ (i : Nat) (pins : List (Addr × Obj)) (s : Shared) (σ : St) (H : Hp) (E : Value -> Shared -> Prop), Inv X pins σ H s -> (∀ b ∈ fp, FpOk X pins H b) -> tn i s.heap -> J.stop i H ->
  wpAny (model P w) X.A (pyNext (.ref it)) (fun r s1 => r = none /\ Inv X pins σ H s1) E s
 self : ∀ (A : Around) (i : Nat) (s : Shared) (Q : Value -> Shared -> Prop) (E : Value -> Shared -> Prop), tn i s.heap -> Q (.ref it) s -> wpAny (model P w) A (pyIter (.ref it)) Q E s
abbrev TI := St -> Hp -> (It -> Hp -> Prop) -> Prop
def PIE (X : Cx) (pins : List (Addr × Obj)) (σ : St) (tg : Expr) (R : It -> Hp -> Prop) (itv : Value) (s2 : Shared) : Prop :=
 ∃ (it : Addr) (fp : List Addr) (tn : Nat -> Heap -> Prop) (J : It) (H' : Hp), itv = .ref it /\ Inv X pins σ H' s2 /\ Turn X.prog X.w X.K tg J fp it tn /\ tn 0 s2.heap /\ (∀ b ∈ fp, FpOk X pins H' b) /\ R J H'
def PI (X : Cx) (tg iter : Expr) (wi : TI) : Prop :=
 ∀ (pins : List (Addr × Obj)) (s : Shared) (σ : St) (H : Hp) (R : It -> Hp -> Prop), Inv X pins σ H s -> wi σ H R ->
  wpAny (model X.prog X.w) X.A (eval iter X.env) (fun v s1 => wpAny (model X.prog X.w) X.A (pyIter v) (PIE X pins σ tg R) X.xe s1) X.xe s
theorem go_of {M : Model} {A : Around} {E : Value -> Shared -> Prop} {s : Shared} {tg : Expr} {it : Addr} {u : Value} {o : Obj} {n : String} {vs : Array Value} {Q : Unit -> Shared -> Prop} (ho : s.heap.get? it = some o) (hc : o.cls = .type n) (hd : o.data = .fields vs)
  (hn : ["enumerate", "zip", "dict_itemiterator", "dict_reverseitemiterator", "odict_iterator", "itertools.zip_longest", "itertools.pairwise"].contains n = false) (hQ : Q () s) : wpAny M A (letOwnedTupleGo tg (.ref it) u) Q E s := by
 unfold letOwnedTupleGo
 cases tg <;> first
  | exact wpAny_pure hQ
  | (cases u <;> first
    | exact wpAny_pure hQ
    | (refine wpAny_bind (wpAny_load ho ?_)
       rw [hc, hd]
       show wpAny M A (if (["enumerate", "zip", "dict_itemiterator", "dict_reverseitemiterator", "odict_iterator", "itertools.zip_longest", "itertools.pairwise"].contains n && vs[0]? == some (rawInt _)) = true then _ else _) Q E s
       rw [if_neg (by intro h; rw [hn, Bool.false_and] at h; cases h)]
       exact wpAny_pure hQ))
def Itl (K : Fg) (a : Addr) : It :=
 ⟨fun i H => ∃ xs x, SqL K H a xs /\ xs[i]? = some x, fun i H x H' => H' = H /\ ∀ xs, SqL K H a xs -> xs[i]? = some x, fun i H => ∃ xs, SqL K H a xs /\ xs.length <= i⟩
def Itt (K : Fg) (a : Addr) : It :=
 ⟨fun i H => ∃ xs x, SqT K H a xs /\ xs[i]? = some x, fun i H x H' => H' = H /\ ∀ xs, SqT K H a xs -> xs[i]? = some x, fun i H => ∃ xs, SqT K H a xs /\ xs.length <= i⟩
def Itr (lo : Int) (n : Nat) : It := ⟨fun i _ => i < n, fun i H x H' => H' = H /\ x = .int (lo + i), fun i _ => n <= i⟩
theorem turn_list {P : Program} {w : World} {K : Fg} {tg : Expr} (a it : Addr) : Turn P w K tg (Itl K a) [it] it (fun i h => h.IsListIter it a i) where
 mem := by simp
 obj := fun i h st b hb => by
  have e : b = it := by simpa using hb
  subst e
  obtain ⟨o, e, c, d⟩ := st
  exact ⟨o, e, fun v z => by rw [d] at z; cases z⟩
 keep := fun i h h' st k => st.at fun o e => k it (by simp) o e
 item := by
  intro X hP hw hK hc i pins s σ H E I hf st hg
  subst hP hw hK
  obtain ⟨xs, x, hq, hx⟩ := hg
  obtain ⟨its, rv, p, hz⟩ := I.list hq
  obtain ⟨u, hu, ru⟩ := rv.get hx
  obtain ⟨f0, f1, f2, f3, f4, f5⟩ := hf it (by simp)
  refine wpAny_pyNext_list_item st p.isList (x := u) (by simpa using hu) fun h' st' sb => ?_
  have I1 : Inv X pins σ H { s with heap := h' } := I.turned (t' := s.toks) (fun b o hb e => (sb.2 b hb).trans e) f0 f1 f3 f4 f5
  obtain ⟨o, e, c, d⟩ := id st'
  exact ⟨u, rfl, go_of (s := { s with heap := h' }) e c d (by decide) ⟨x, H, I1, ru, ⟨rfl, fun ys hy => by rw [I.list_inj hy hq]; exact hx⟩, st', fun b hb => (hf b hb).1⟩⟩
 done := by
  intro X hP hw hK hc i pins s σ H E I hf st hg
  subst hP hw hK
  obtain ⟨xs, hq, hx⟩ := hg
  obtain ⟨its, rv, p, hz⟩ := I.list hq
  obtain ⟨f0, f1, f2, f3, f4, f5⟩ := hf it (by simp)
  have hl := rv.length
  exact wpAny_pyNext_list_end (I.ok.hd hc) st p.isList (by simp; omega) fun h' eb => ⟨rfl, I.turned (t' := s.toks) (fun b o hb e => eb b o hb e) f0 f1 f3 f4 f5⟩
 self := fun _ _ _ _ _ st h => wpAny_pyIter_listiter st h
theorem turn_tuple {P : Program} {w : World} {K : Fg} {tg : Expr} (a it : Addr) : Turn P w K tg (Itt K a) [it] it (fun i h => h.IsTupleIter it a i) where
 mem := by simp
 obj := fun i h st b hb => by
  have e : b = it := by simpa using hb
  subst e
  obtain ⟨o, e, c, d⟩ := st
  exact ⟨o, e, fun v z => by rw [d] at z; cases z⟩
 keep := fun i h h' st k => st.at fun o e => k it (by simp) o e
 item := by
  intro X hP hw hK hc i pins s σ H E I hf st hg
  subst hP hw hK
  obtain ⟨xs, x, hq, hx⟩ := hg
  obtain ⟨its, rv, p, hz⟩ := I.tuple hq
  obtain ⟨u, hu, ru⟩ := rv.get hx
  obtain ⟨f0, f1, f2, f3, f4, f5⟩ := hf it (by simp)
  refine wpAny_pyNext_tuple_item st (show s.heap.IsTuple a its.toArray from p) (x := u) (by simpa using hu) fun h' st' sb => ?_
  have I1 : Inv X pins σ H { s with heap := h' } := I.turned (t' := s.toks) (fun b o hb e => (sb.2 b hb).trans e) f0 f1 f3 f4 f5
  obtain ⟨o, e, c, d⟩ := id st'
  exact ⟨u, rfl, go_of (s := { s with heap := h' }) e c d (by decide) ⟨x, H, I1, ru, ⟨rfl, fun ys hy => by rw [I.tuple_inj hy hq]; exact hx⟩, st', fun b hb => (hf b hb).1⟩⟩
 done := by
  intro X hP hw hK hc i pins s σ H E I hf st hg
  subst hP hw hK
  obtain ⟨xs, hq, hx⟩ := hg
  obtain ⟨its, rv, p, hz⟩ := I.tuple hq
  obtain ⟨f0, f1, f2, f3, f4, f5⟩ := hf it (by simp)
  have hl := rv.length
  exact wpAny_pyNext_tuple_end (I.ok.hd hc) st (show s.heap.IsTuple a its.toArray from p) (by simp; omega) fun h' eb => ⟨rfl, I.turned (t' := s.toks) (fun b o hb e => eb b o hb e) f0 f1 f3 f4 f5⟩
 self := fun _ _ _ _ _ st h => wpAny_pyIter_tupleiter st h
theorem turn_range {P : Program} {w : World} {K : Fg} {tg : Expr} (it : Addr) (lo : Int) (n : Nat) : Turn P w K tg (Itr lo n) [it] it (fun i h => IsRangeIter h it (lo + (i : Nat) * 1) ((n : Int) - (i : Nat)) 1) where
 mem := by simp
 obj := fun i h st b hb => by
  have e : b = it := by simpa using hb
  subst e
  exact ⟨_, st, fun v z => by
   have z' : Data.fields _ = Data.cell v := z
   cases z'⟩
 keep := fun i h h' st k => k it (by simp) _ st
 item := by
  intro X hP hw hK hc i pins s σ H E I hf st hg
  subst hP hw hK
  obtain ⟨f0, f1, f2, f3, f4, f5⟩ := hf it (by simp)
  have W := Walks.range (prog := X.prog) (w := X.w) (I.ok.hd hc) it lo 1 n
  refine W.item i s _ _ hg st fun v h' tk hv st' kk => ?_
  obtain ⟨t, rfl⟩ := hv
  have I1 : Inv X pins σ H { s with heap := h', toks := tk } := I.turned (fun b o hb e => kk b o (by simpa using hb) e) f0 f1 f3 f4 f5
  refine ⟨_, rfl, go_of (s := { s with heap := h', toks := tk }) (n := "range_iterator") st' rfl rfl (by decide) ⟨.int (lo + i), H, I1, ⟨t, ?_⟩, ⟨rfl, rfl⟩, st', fun b hb => (hf b hb).1⟩⟩
  rw [Int.mul_one]
 done := by
  intro X hP hw hK hc i pins s σ H E I hf st hg
  subst hP hw hK
  obtain ⟨f0, f1, f2, f3, f4, f5⟩ := hf it (by simp)
  exact wpAny_pyNext_range_end (I.ok.hd hc) st (by have : n <= i := hg; omega) fun h' eb => ⟨rfl, I.turned (t' := s.toks) (fun b o hb e => eb b o hb e) f0 f1 f3 f4 f5⟩
 self := fun _ _ _ _ _ st h => wpAny_pyIter_rangeiter st h
end L2
namespace L2
open PySem PySem.Spec PyProof.Rows
section
variable {X : Cx} {tg : Expr}
theorem range_it {pins : List (Addr × Obj)} {σ : St} {H : Hp} {s : Shared} {R : It -> Hp -> Prop} {E : Value -> Shared -> Prop} {lo hi : Int} {t u v : Tok} {tk : Nat} (I : Inv X pins σ H s) (h1 : -(2 ^ 62) <= lo) (h2 : lo < 2 ^ 62) (h3 : -(2 ^ 62) <= hi) (h4 : hi < 2 ^ 62)
  (q : R (Itr lo (hi - lo).toNat) H) : wpAny (model X.prog X.w) X.A (pyIter (.ref s.heap.objs.size)) (PIE X pins σ tg R) E { s with heap := s.heap.push { cls := .type "range", data := .fields #[.int lo t, .int hi u, .int 1 v] }, toks := tk } := by
 refine wpAny_pyIter_range (IsRange.new ..) (small_one h1 h2 h3 h4) ?_
 have I1 : Inv X pins σ H { s with heap := s.heap.push { cls := .type "range", data := .fields #[.int lo t, .int hi u, .int 1 v] }, toks := tk } := I.kept fun b o e => Heap.get?_push_of_some _ e
 refine ⟨(s.heap.push { cls := .type "range", data := .fields #[.int lo t, .int hi u, .int 1 v] }).objs.size, [(s.heap.push { cls := .type "range", data := .fields #[.int lo t, .int hi u, .int 1 v] }).objs.size], _, _, H, rfl,
  I1.kept (t' := tk) fun b o e => Heap.get?_push_of_some _ e, turn_range _ lo (hi - lo).toNat, ?_, fun b hb => ?_, q⟩
 ·have e1 : lo + ((0 : Nat) : Int) * 1 = lo := by simp
  have e2 : (((hi - lo).toNat : Nat) : Int) - ((0 : Nat) : Int) = Builtin.Range.rangeSize lo hi 1 := by rw [rangeSize_one]; split <;> omega
  show IsRangeIter _ _ (lo + ((0 : Nat) : Int) * 1) ((((hi - lo).toNat : Nat) : Int) - ((0 : Nat) : Int)) 1
  rw [e1, e2]
  exact Heap.get?_push_size _ rfl
 ·have e : b = (s.heap.push { cls := .type "range", data := .fields #[.int lo t, .int hi u, .int 1 v] }).objs.size := by simpa using hb
  subst e
  exact I1.fpOk (Nat.le_refl _) (I1.hok.fresh (Nat.le_refl _))
def tFor (wi : TI) (g : TG) (tb : TS) : TS := fun D σ H => wi σ H fun J H1 => ∃ W : Nat -> Nat -> St -> Hp -> Prop, (∃ m, W 0 m σ H1) /\ ∀ i m σ H, W i m σ H ->
 (J.stop i H /\ D.nx σ H) \/ (J.go i H /\ ∃ N : St -> Hp -> Prop, (∀ σ' H', N σ' H' -> ∃ m', m' < m /\ W (i + 1) m' σ' H') /\ ∀ x H', J.yld i H x H' -> g x σ H' fun σ2 H2 => tb { D with nx := N, ct := N, bk := D.nx } σ2 H2)
def pinsAt (fp : List Addr) (h : Heap) : List (Addr × Obj) := fp.filterMap fun b => (h.get? b).map fun o => (b, o)
theorem mem_pinsAt {fp : List Addr} {h : Heap} {b : Addr} {o : Obj} (hb : b ∈ fp) (e : h.get? b = some o) : (b, o) ∈ pinsAt fp h := List.mem_filterMap.mpr ⟨b, hb, by rw [e]; rfl⟩
theorem of_pinsAt {fp : List Addr} {h : Heap} {p : Addr × Obj} (hp : p ∈ pinsAt fp h) : p.1 ∈ fp /\ h.get? p.1 = some p.2 := by
 obtain ⟨b, hb, e⟩ := List.mem_filterMap.mp hp
 cases q : h.get? b with
 | none => rw [q] at e; cases e
 | some o =>
  rw [q] at e
  have e' : (b, o) = p := Option.some.inj e
  subst e'
  exact ⟨hb, q⟩
theorem Inv.pinned {pins : List (Addr × Obj)} {σ : St} {H : Hp} {s : Shared} {fp : List Addr} (I : Inv X pins σ H s) (hf : ∀ b ∈ fp, FpOk X pins H b) (ho : ∀ b ∈ fp, ∃ o, s.heap.get? b = some o /\ ∀ v, o.data ≠ .cell v) : Inv X (pins ++ pinsAt fp s.heap) σ H s :=
 I.pins_of fun p hp => (List.mem_append.mp hp).elim (fun z => I.pin p (List.mem_append_right _ z)) fun z => by
  obtain ⟨hb, e⟩ := of_pinsAt z
  obtain ⟨f0, f1, f2, _⟩ := hf p.1 hb
  obtain ⟨o, e', d⟩ := ho p.1 hb
  rw [e] at e'; cases e'
  exact ⟨e, f0, f1, f2, d⟩
theorem Inv.unpinned {pins pl : List (Addr × Obj)} {σ : St} {H : Hp} {s : Shared} (I : Inv X (pins ++ pl) σ H s) : Inv X pins σ H s := I.pins_of fun p hp => I.pin p (List.mem_append_right _ (List.mem_append_left _ hp))
theorem ps_for {iter : Expr} {body : List Stmt} {wi : TI} {g : TG} {tb : TS} {pos : Pos} (hp : PassesOwn (model X.prog X.w) X.A X.env X.xe) (hc : X.calm = true) (hi : PI X tg iter wi) (hg : PG X tg g) (hb : PSs X body tb)
  (hs : ∀ x, foldedSetIterable iter X.env x = pure x := by intro _; rfl) : PS X (.For tg iter body [] pos) (tFor wi g tb) := by
 intro pins s σ H D I h
 refine wpAny_For (thn (hi pins s σ H _ I h) fun v s1 h1 => thn h1 fun itv s2 h2 => ?_) hs
 obtain ⟨it, fp, tn, J, H2, e, I2, T, st2, f2, W, ⟨m0, w0⟩, turn⟩ := h2
 subst e
 have stat : ∀ {H' : Hp}, (∀ b ∈ fp, H' b = none) -> ∀ b ∈ fp, FpOk X pins H' b := fun hn b hb => ⟨hn b hb, (f2 b hb).2⟩
 refine codeAny_forLoop_any (fun n s' => ∃ i σ' H', Inv X pins σ' H' s' /\ tn i s'.heap /\ (∀ b ∈ fp, H' b = none) /\ W i n σ' H') ?_ m0 ⟨0, σ, H2, I2, st2, fun b hb => (f2 b hb).1, w0⟩
 rintro n s3 ⟨i, σ3, H3, I3, st3, fr3, w3⟩
 rcases turn i n σ3 H3 w3 with ⟨stop, qn⟩ | ⟨go, N, hN, step⟩
 ·refine wpAny_passesOwn hp (thn (T.done X rfl rfl rfl hc i pins s3 σ3 H3 X.xe I3 (stat fr3) st3 stop) fun r s4 ⟨hr, I4⟩ => ?_)
  subst hr
  exact wpAny_execs_nil ⟨σ3, H3, I4, qn⟩
 ·refine wpAny_passesOwn hp (thn (T.item X rfl rfl rfl hc i pins s3 σ3 H3 X.xe I3 (stat fr3) st3 go) fun r s4 ⟨u, hr, h4⟩ => ?_)
  subst hr
  refine wpAny_passesOwn hp (thn h4 fun _ s5 ⟨x, H5, I5, r5, y5, st5, fr5⟩ => ?_)
  have I5' := I5.pinned (stat fr5) (T.obj _ _ st5)
  refine wpAny_passesOwn hp (thn (hg _ s5 σ3 H5 x u _ I5' r5 (step x H5 y5)) fun _ s6 ⟨σ6, H6, I6, q6⟩ => ?_)
  refine wpAny_passesOwn hp (thn (hb _ s6 σ6 H6 _ I6 q6) fun f s7 q7 => ?_)
  have again : ∀ {σ7 : St} {H7 : Hp}, Inv X (pins ++ pinsAt fp s5.heap) σ7 H7 s7 -> N σ7 H7 -> ∃ m, m < n /\ ∃ i σ' H', Inv X pins σ' H' s7 /\ tn i s7.heap /\ (∀ b ∈ fp, H' b = none) /\ W i m σ' H' := fun {σ7 H7} I7 n7 => by
   obtain ⟨m', hm, w7⟩ := hN σ7 H7 n7
   refine ⟨m', hm, i + 1, σ7, H7, I7.unpinned, T.keep _ _ _ st5 fun b hb o e => (I7.pin (b, o) (List.mem_append_right _ (List.mem_append_right _ (mem_pinsAt hb e)))).1, fun b hb => ?_, w7⟩
   obtain ⟨o, e, d⟩ := T.obj _ _ st5 b hb
   exact (I7.pin (b, o) (List.mem_append_right _ (List.mem_append_right _ (mem_pinsAt hb e)))).2.1
  cases f with
  | next => obtain ⟨σ7, H7, I7, n7⟩ := q7; exact again I7 n7
  | cont => obtain ⟨σ7, H7, I7, n7⟩ := q7; exact again I7 n7
  | brk => obtain ⟨σ7, H7, I7, q7⟩ := q7; exact ⟨σ7, H7, I7.unpinned, q7⟩
  | ret v => obtain ⟨x7, σ7, H7, I7, r7, q7⟩ := q7; exact ⟨x7, σ7, H7, I7.unpinned, r7, q7⟩
end
theorem for_range {lo : Int} {n : Nat} {g : TG} {tb : TS} {D : Ends} {σ : St} {H : Hp} (Pv : Nat -> St -> Hp -> Prop) (h0 : Pv 0 σ H)
  (hs : ∀ i σ H, i < n -> Pv i σ H -> g (.int (lo + i)) σ H fun σ2 H2 => tb { D with nx := Pv (i + 1), ct := Pv (i + 1), bk := D.nx } σ2 H2) (hd : ∀ σ H, Pv n σ H -> D.nx σ H) :
  ∃ W : Nat -> Nat -> St -> Hp -> Prop, (∃ m, W 0 m σ H) /\ ∀ i m σ H, W i m σ H ->
   ((Itr lo n).stop i H /\ D.nx σ H) \/ ((Itr lo n).go i H /\ ∃ N : St -> Hp -> Prop, (∀ σ' H', N σ' H' -> ∃ m', m' < m /\ W (i + 1) m' σ' H') /\ ∀ x H', (Itr lo n).yld i H x H' -> g x σ H' fun σ2 H2 => tb { D with nx := N, ct := N, bk := D.nx } σ2 H2) := by
 refine ⟨fun i m σ H => m = n - i /\ i <= n /\ Pv i σ H, ⟨n, by simp, Nat.zero_le _, h0⟩, ?_⟩
 rintro i m σ H ⟨rfl, hi, p⟩
 by_cases hlt : i < n
 ·refine .inr ⟨hlt, Pv (i + 1), fun σ' H' p' => ⟨n - (i + 1), by omega, rfl, hlt, p'⟩, fun x H' y => ?_⟩
  obtain ⟨e, y⟩ := y
  subst e y
  exact hs i σ _ hlt p
 ·have e : i = n := by omega
  subst e
  exact .inl ⟨Nat.le_refl _, hd σ H p⟩
end L2
namespace L2
open PySem PySem.Spec PyProof.Rows
abbrev R2 := V -> V -> Hp -> VK -> Prop
def OpR (X : Cx) (f : Value -> Value -> Sem Value) (r : R2) : Prop :=
 ∀ (pins : List (Addr × Obj)) (s : Shared) (σ : St) (H : Hp) (x y : V) (v u : Value) (Q : VK), Inv X pins σ H s -> RelV x v -> RelV y u -> r x y H Q ->
  wpAny (model X.prog X.w) X.A (f v u) (EP X pins σ Q) X.xe s
def UnR (X : Cx) (f : Value -> Sem Value) (r : V -> Hp -> VK -> Prop) : Prop :=
 ∀ (pins : List (Addr × Obj)) (s : Shared) (σ : St) (H : Hp) (x : V) (v : Value) (Q : VK), Inv X pins σ H s -> RelV x v -> r x H Q ->
  wpAny (model X.prog X.w) X.A (f v) (EP X pins σ Q) X.xe s
def CallR (X : Cx) (f : Value) (r : List V -> Hp -> VK -> Prop) : Prop :=
 ∀ (pins : List (Addr × Obj)) (s : Shared) (σ : St) (H : Hp) (xs : List V) (us : List Value) (Q : VK), Inv X pins σ H s -> Vals xs us -> r xs H Q ->
  wpAny (model X.prog X.w) X.A (call f us) (EP X pins σ Q) X.xe s
def TruR (X : Cx) (r : V -> Hp -> (Bool -> Hp -> Prop) -> Prop) : Prop :=
 ∀ (pins : List (Addr × Obj)) (s : Shared) (σ : St) (H : Hp) (x : V) (v : Value) (Q : Bool -> Hp -> Prop), Inv X pins σ H s -> RelV x v -> r x H Q ->
  wpAny (model X.prog X.w) X.A (truthy v) (TP X pins σ Q) X.xe s
def tOp (r : R2) (ta tb : TE) : TE := fun σ H Q => ta σ H fun x H1 => tb σ H1 fun y H2 => r x y H2 Q
def tUn (r : V -> Hp -> VK -> Prop) (ta : TE) : TE := fun σ H Q => ta σ H fun x H1 => r x H1 Q
def rI (C : Int -> Int -> Prop) (g : Int -> Int -> V) : R2 := fun x y H Q => ∃ i j, x = .int i /\ y = .int j /\ C i j /\ Q (g i j) H
def rI0 (g : Int -> Int -> V) : R2 := fun x y H Q => ∃ i j, x = .int i /\ y = .int j /\ Q (g i j) H
def rU (g : Int -> V) : V -> Hp -> VK -> Prop := fun x H Q => ∃ i, x = .int i /\ Q (g i) H
section
variable {X : Cx} {a b c : Expr} {ta tb tc : TE} {pos : Pos}
theorem binT (ha : PE X a ta) (hb : PE X b tb) {pins : List (Addr × Obj)} {s : Shared} {σ : St} {H : Hp} {R : V -> V -> Hp -> Prop} (I : Inv X pins σ H s)
  (h : ta σ H fun x H1 => tb σ H1 fun y H2 => R x y H2) {Q : Value -> Shared -> Prop} {f : Value -> Value -> Sem Value}
  (hf : ∀ v u s2 x y H2, Inv X pins σ H2 s2 -> RelV x v -> RelV y u -> R x y H2 -> wpAny (model X.prog X.w) X.A (f v u) Q X.xe s2) :
  wpAny (model X.prog X.w) X.A (eval a X.env) (fun v s₁ => wpAny (model X.prog X.w) X.A (eval b X.env) (fun u s₂ => wpAny (model X.prog X.w) X.A (f v u) Q X.xe s₂) X.xe s₁) X.xe s := by
 refine thn (ha pins s σ H _ I h) fun v s1 ⟨x, H1, I1, r1, q1⟩ => ?_
 refine thn (hb pins s1 σ H1 _ I1 q1) fun u s2 ⟨y, H2, I2, r2, q2⟩ => ?_
 exact hf v u s2 x y H2 I2 r1 r2 q2
theorem pe_op {op : Operator} {r : R2} (ho : OpR X (binaryOp op) r) (ha : PE X a ta) (hb : PE X b tb) : PE X (.BinOp a op b pos) (tOp r ta tb) := by
 intro pins s σ H Q I h
 exact wpAny_BinOp (binT ha hb I h fun v u s2 x y H2 I2 rx ry q => ho pins s2 σ H2 x y v u Q I2 rx ry q)
theorem pe_un {op : UnaryOp} {r : V -> Hp -> VK -> Prop} (ho : UnR X (unaryOp op) r) (ha : PE X a ta) : PE X (.UnaryOp op a pos) (tUn r ta) := by
 intro pins s σ H Q I h
 exact UnaryOp_ (thn (ha pins s σ H _ I h) fun v s1 ⟨x, H1, I1, r1, q1⟩ => ho pins s1 σ H1 x v Q I1 r1 q1)
theorem opI {f : Value -> Value -> Sem Value} {C : Int -> Int -> Prop} {g : Int -> Int -> Int}
  (rule : ∀ (i j : Int) (t u : Tok) (s : Shared) (Q : Value -> Shared -> Prop) (E : Value -> Shared -> Prop), C i j -> Q (.int (g i j) s.toks) { s with toks := s.toks + 1 } -> wpAny (model X.prog X.w) X.A (f (.int i t) (.int j u)) Q E s) :
  OpR X f (rI C fun i j => .int (g i j)) := by
 intro pins s σ H x y v u Q I rx ry h
 obtain ⟨i, j, rfl, rfl, hc, q⟩ := h
 obtain ⟨t, rfl⟩ := rx
 obtain ⟨t', rfl⟩ := ry
 exact rule i j t t' s _ _ hc ⟨.int (g i j), H, I.tok _, ⟨_, rfl⟩, q⟩
theorem opI0 {f : Value -> Value -> Sem Value} {g : Int -> Int -> Int}
  (rule : ∀ (i j : Int) (t u : Tok) (s : Shared) (Q : Value -> Shared -> Prop) (E : Value -> Shared -> Prop), Q (.int (g i j) s.toks) { s with toks := s.toks + 1 } -> wpAny (model X.prog X.w) X.A (f (.int i t) (.int j u)) Q E s) :
  OpR X f (rI0 fun i j => .int (g i j)) := by
 intro pins s σ H x y v u Q I rx ry h
 obtain ⟨i, j, rfl, rfl, q⟩ := h
 obtain ⟨t, rfl⟩ := rx
 obtain ⟨t', rfl⟩ := ry
 exact rule i j t t' s _ _ ⟨.int (g i j), H, I.tok _, ⟨_, rfl⟩, q⟩
theorem opB0 {f : Value -> Value -> Sem Value} {g : Int -> Int -> Bool}
  (rule : ∀ (i j : Int) (t u : Tok) (s : Shared) (Q : Value -> Shared -> Prop) (E : Value -> Shared -> Prop), Q (.bool (g i j)) s -> wpAny (model X.prog X.w) X.A (f (.int i t) (.int j u)) Q E s) :
  OpR X f (rI0 fun i j => .bl (g i j)) := by
 intro pins s σ H x y v u Q I rx ry h
 obtain ⟨i, j, rfl, rfl, q⟩ := h
 obtain ⟨t, rfl⟩ := rx
 obtain ⟨t', rfl⟩ := ry
 exact rule i j t t' s _ _ ⟨.bl (g i j), H, I, rfl, q⟩
def CDiv (i j : Int) : Prop := 0 < j /\ j < 1073741824
def CMul (i j : Int) : Prop := (-(2 ^ 64) < i /\ i < 2 ^ 64) \/ (-(2 ^ 64) < j /\ j < 2 ^ 64)
theorem CMul.ok {i j : Int} (h : CMul i j) : IntMulOk i j := by
 rcases h with ⟨h1, h2⟩ | ⟨h1, h2⟩
 ·exact .of_left (intBits_le_64 h1 h2)
 ·exact .of_right (intBits_le_64 h1 h2)
theorem op_add : OpR X (binaryOp .Add) (rI0 fun i j => .int (i + j)) := opI0 fun _ _ _ _ _ _ _ q => add_int q
theorem op_sub : OpR X (binaryOp .Sub) (rI0 fun i j => .int (i - j)) := opI0 fun _ _ _ _ _ _ _ q => sub_int q
theorem op_mod : OpR X (binaryOp .Mod) (rI (fun _ j => 0 < j) fun i j => .int (i % j)) := opI fun i j _ _ _ _ _ hc q => by
 have h1 : (0 : Int) < j := hc
 exact mod_int' (by omega) (by rw [Int.fmod_eq_emod_of_nonneg i (by omega)]; exact q)
theorem unI {f : Value -> Sem Value} {g : Int -> Int}
  (rule : ∀ (i : Int) (t : Tok) (s : Shared) (Q : Value -> Shared -> Prop) (E : Value -> Shared -> Prop), Q (.int (g i) s.toks) { s with toks := s.toks + 1 } -> wpAny (model X.prog X.w) X.A (f (.int i t)) Q E s) :
  UnR X f (rU fun i => .int (g i)) := by
 intro pins s σ H x v Q I rx h
 obtain ⟨i, rfl, q⟩ := h
 obtain ⟨t, rfl⟩ := rx
 exact rule i t s _ _ ⟨.int (g i), H, I.tok _, ⟨_, rfl⟩, q⟩
theorem un_neg : UnR X (unaryOp .USub) (rU fun i => .int (-i)) := unI fun _ _ _ _ _ q => neg_int q
theorem op_add_ib : OpR X (binaryOp .Add) (fun x y H Q => ∃ i k, x = .int i /\ y = .bl k /\ Q (.int (i + b2i k)) H) := by
 intro pins s σ H x y v u Q I rx ry h
 obtain ⟨i, k, rfl, rfl, q⟩ := h
 obtain ⟨t, rfl⟩ := rx
 cases ry
 exact add_int_bool ⟨.int (i + b2i k), H, I.tok _, ⟨_, rfl⟩, q⟩
end
def scal : V -> V -> Bool
 | .non, .non => true | .non, .int _ => true | .int _, .non => true | .non, .bl _ => true | .bl _, .non => true | .non, .str _ => true | .str _, .non => true
 | .int _, .int _ => true | .bl _, .bl _ => true | .str _, .str _ => true | .byt _, .byt _ => true
 | .int _, .str _ => true | .str _, .int _ => true | .bl _, .str _ => true | .str _, .bl _ => true
 | _, _ => false
def rEq : R2 := fun x y H Q => scal x y = true /\ Q (.bl (decide (x = y))) H
def rNe : R2 := fun x y H Q => scal x y = true /\ Q (.bl (!decide (x = y))) H
theorem dec_int {i j : Int} : decide (V.int i = V.int j) = (i == j) := by
 rw [Bool.eq_iff_iff]
 simp
theorem dec_bl {i j : Bool} : decide (V.bl i = V.bl j) = (i == j) := by
 rw [Bool.eq_iff_iff]
 simp
theorem dec_str {i j : Str} : decide (V.str i = V.str j) = (i == j) := by
 rw [Bool.eq_iff_iff]
 simp
theorem dec_byt {i j : Array UInt8} : decide (V.byt i = V.byt j) = (i.toList == j.toList) := by
 rw [Bool.eq_iff_iff]
 cases i
 cases j
 simp
section
variable {X : Cx} {a b c : Expr} {ta tb tc : TE} {pos : Pos}
theorem fin_bl {pins : List (Addr × Obj)} {σ : St} {H : Hp} {s : Shared} {Q : VK} {k k' : Bool} (I : Inv X pins σ H s) (q : Q (.bl k) H) (e : k = k') : EP X pins σ Q (.bool k') s := by
 subst e
 exact ⟨.bl k, H, I, rfl, q⟩
theorem op_eq : OpR X (compareOp .Eq) rEq := by
 intro pins s σ H x y v u Q I rx ry h
 obtain ⟨hs, q⟩ := h
 cases x with
 | non =>
  cases rx
  cases y with
  | non => cases ry; exact PySem.EqNone.eq_none_none (fin_bl I q (by simp))
  | bl j => cases ry; exact PySem.EqNone.eq_none_bool (fin_bl I q (by simp))
  | int j => obtain ⟨t', rfl⟩ := ry; exact PySem.EqNone.eq_none_int (fin_bl I q (by simp))
  | str j => obtain ⟨t', rfl⟩ := ry; exact PySem.EqNone.eq_none_str (fin_bl I q (by simp))
  | _ => exact absurd (show false = true from hs) Bool.false_ne_true
 | bl i =>
  cases rx
  cases y with
  | non => cases ry; exact PySem.EqNone.eq_bool_none (fin_bl I q (by simp))
  | bl j => cases ry; exact eq_bool (fin_bl I q dec_bl)
  | str j => obtain ⟨t', rfl⟩ := ry; exact PySem.EqMixed.eq_bool_str (fin_bl I q (by simp))
  | _ => exact absurd (show false = true from hs) Bool.false_ne_true
 | int i =>
  obtain ⟨t, rfl⟩ := rx
  cases y with
  | non => cases ry; exact PySem.EqNone.eq_int_none (fin_bl I q (by simp))
  | int j => obtain ⟨t', rfl⟩ := ry; exact eq_int (fin_bl I q dec_int)
  | str j => obtain ⟨t', rfl⟩ := ry; exact PySem.EqMixed.eq_int_str (fin_bl I q (by simp))
  | _ => exact absurd (show false = true from hs) Bool.false_ne_true
 | str i =>
  obtain ⟨t, rfl⟩ := rx
  cases y with
  | non => cases ry; exact PySem.EqNone.eq_str_none (fin_bl I q (by simp))
  | bl j => cases ry; exact PySem.EqMixed.eq_str_bool (fin_bl I q (by simp))
  | int j => obtain ⟨t', rfl⟩ := ry; exact PySem.EqMixed.eq_str_int (fin_bl I q (by simp))
  | str j => obtain ⟨t', rfl⟩ := ry; exact eq_str (fin_bl I q dec_str)
  | _ => exact absurd (show false = true from hs) Bool.false_ne_true
 | byt i =>
  obtain ⟨t, rfl⟩ := rx
  cases y with
  | byt j => obtain ⟨t', rfl⟩ := ry; exact PySem.W.eq_bytes (fin_bl I q dec_byt)
  | _ => exact absurd (show false = true from hs) Bool.false_ne_true
 | _ => cases y <;> exact absurd (show false = true from hs) Bool.false_ne_true
theorem op_ne : OpR X (compareOp .NotEq) rNe := by
 intro pins s σ H x y v u Q I rx ry h
 obtain ⟨hs, q⟩ := h
 cases x with
 | non =>
  cases rx
  cases y with
  | non => cases ry; exact PySem.EqNone.ne_none_none (fin_bl I q (by simp))
  | bl j => cases ry; exact PySem.EqNone.ne_none_bool (fin_bl I q (by simp))
  | int j => obtain ⟨t', rfl⟩ := ry; exact PySem.EqNone.ne_none_int (fin_bl I q (by simp))
  | str j => obtain ⟨t', rfl⟩ := ry; exact PySem.EqNone.ne_none_str (fin_bl I q (by simp))
  | _ => exact absurd (show false = true from hs) Bool.false_ne_true
 | bl i =>
  cases rx
  cases y with
  | non => cases ry; exact PySem.EqNone.ne_bool_none (fin_bl I q (by simp))
  | bl j => cases ry; exact ne_bool (fin_bl I q (congrArg not dec_bl))
  | str j => obtain ⟨t', rfl⟩ := ry; exact PySem.EqMixed.ne_bool_str (fin_bl I q (by simp))
  | _ => exact absurd (show false = true from hs) Bool.false_ne_true
 | int i =>
  obtain ⟨t, rfl⟩ := rx
  cases y with
  | non => cases ry; exact PySem.EqNone.ne_int_none (fin_bl I q (by simp))
  | int j => obtain ⟨t', rfl⟩ := ry; exact ne_int (fin_bl I q (congrArg not dec_int))
  | str j => obtain ⟨t', rfl⟩ := ry; exact PySem.EqMixed.ne_int_str (fin_bl I q (by simp))
  | _ => exact absurd (show false = true from hs) Bool.false_ne_true
 | str i =>
  obtain ⟨t, rfl⟩ := rx
  cases y with
  | non => cases ry; exact PySem.EqNone.ne_str_none (fin_bl I q (by simp))
  | bl j => cases ry; exact PySem.EqMixed.ne_str_bool (fin_bl I q (by simp))
  | int j => obtain ⟨t', rfl⟩ := ry; exact PySem.EqMixed.ne_str_int (fin_bl I q (by simp))
  | str j => obtain ⟨t', rfl⟩ := ry; exact ne_str (fin_bl I q (congrArg not dec_str))
  | _ => exact absurd (show false = true from hs) Bool.false_ne_true
 | byt i =>
  obtain ⟨t, rfl⟩ := rx
  cases y with
  | byt j => obtain ⟨t', rfl⟩ := ry; exact PySem.W.ne_bytes (fin_bl I q (congrArg not dec_byt))
  | _ => exact absurd (show false = true from hs) Bool.false_ne_true
 | _ => cases y <;> exact absurd (show false = true from hs) Bool.false_ne_true
theorem op_lt : OpR X (compareOp .Lt) (rI0 fun i j => .bl (decide (i < j))) := opB0 fun _ _ _ _ _ _ _ q => lt_int q
theorem op_le : OpR X (compareOp .LtE) (rI0 fun i j => .bl (decide (i <= j))) := opB0 fun _ _ _ _ _ _ _ q => le_int q
theorem op_gt : OpR X (compareOp .Gt) (rI0 fun i j => .bl (decide (j < i))) := opB0 fun _ _ _ _ _ _ _ q => gt_int q
theorem op_ge : OpR X (compareOp .GtE) (rI0 fun i j => .bl (decide (j <= i))) := opB0 fun _ _ _ _ _ _ _ q => ge_int q
theorem op_in_str : OpR X (compareOp .In) (fun x y H Q => ∃ i j, x = .str i /\ y = .str j /\ Q (.bl (!(Builtin.Str.occurrences j i 0 j.length 1).isEmpty)) H) := by
 intro pins s σ H x y v u Q I rx ry h
 obtain ⟨i, j, rfl, rfl, q⟩ := h
 obtain ⟨t, rfl⟩ := rx
 obtain ⟨t', rfl⟩ := ry
 exact in_str (fin_bl I q rfl)
theorem op_isN : OpR X (compareOp .Is) (fun x y H Q => y = .non /\ Q (.bl (decide (x = .non))) H) := by
 intro pins s σ H x y v u Q I rx ry h
 obtain ⟨rfl, q⟩ := h
 cases ry
 refine is_none_gen (fin_bl I q ?_)
 cases x <;> first
  | (cases rx; rfl)
  | (obtain ⟨t, rfl⟩ := rx; rfl)
theorem op_notN : OpR X (compareOp .IsNot) (fun x y H Q => y = .non /\ Q (.bl (!decide (x = .non))) H) := by
 intro pins s σ H x y v u Q I rx ry h
 obtain ⟨rfl, q⟩ := h
 cases ry
 refine isnot_none_gen (fin_bl I q ?_)
 cases x <;> first
  | (cases rx; rfl)
  | (obtain ⟨t, rfl⟩ := rx; rfl)
theorem pe_cmpR {op : CmpOp} {r : R2} (ho : OpR X (compareOp op) r) (ha : PE X a ta) (hb : PE X b tb) (hm : behindInMarks op b = false) : PE X (.Compare a [op] [b] pos) (tOp r ta tb) := by
 intro pins s σ H Q I h
 exact wpAny_Compare1 (binT ha hb I h fun v u s2 x y H2 I2 rx ry q => ho pins s2 σ H2 x y v u Q I2 rx ry q) hm
def TruV (K : Fg) (x : V) (H : Hp) (k : Bool) : Prop :=
 match x with
 | .non => k = false
 | .bl b => k = b
 | .int i => k = (i != 0)
 | .str y => y.length <= sizeLine /\ k = ((y.length : Int) != 0)
 | .byt y => y.size <= sizeLine /\ k = ((y.size : Int) != 0)
 | .ref p => (∃ xs, SqL K H p xs /\ k = !xs.isEmpty) \/ (∃ xs, SqT K H p xs /\ k = !xs.isEmpty) \/ ∃ kvs, H p = some (.dK kvs) /\ k = !kvs.isEmpty
 | _ => False
theorem isEmpty_kv {κ : Type} {kvs : List (κ × V)} {vs : List (κ × Value)} (r : KV kvs vs) : (!vs.isEmpty) = !kvs.isEmpty := by
 cases r <;> rfl
theorem isEmpty_of {xs : List V} {its : List Value} (r : Vals xs its) : (!its.toArray.isEmpty) = !xs.isEmpty := by
 cases r <;> simp
theorem line63 : (sizeLine : Nat) < 2 ^ 63 := by rw [sizeLine_eq]; decide
theorem tru_ok : TruR X (fun x H Q => ∃ k, TruV X.K x H k /\ Q k H) := by
 intro pins s σ H x v Q I rx h
 obtain ⟨k, e, q⟩ := h
 have hl := line63
 have hs : sizeLine = 16777216 := sizeLine_eq
 cases x with
 | non =>
  cases rx
  have e' : k = false := e
  subst e'
  exact truthy_none ⟨H, I, q⟩
 | bl b =>
  cases rx
  have e' : k = b := e
  subst e'
  exact wpAny_truthy_bool ⟨H, I, q⟩
 | int i =>
  obtain ⟨t, rfl⟩ := rx
  have e' : k = (i != 0) := e
  subst e'
  exact PySem.P.truthy_int ⟨H, I, q⟩
 | str y =>
  obtain ⟨t, rfl⟩ := rx
  obtain ⟨hy, e'⟩ : y.length <= sizeLine /\ k = ((y.length : Int) != 0) := e
  subst e'
  exact PySem.P.truthy_str (by omega) ⟨H, I.tok _, q⟩
 | byt y =>
  obtain ⟨t, rfl⟩ := rx
  obtain ⟨hy, e'⟩ : y.size <= sizeLine /\ k = ((y.size : Int) != 0) := e
  subst e'
  exact PySem.W.truthy_bytes (by omega) ⟨H, I.tok _, q⟩
 | ref p =>
  cases rx
  have e' : (∃ xs, SqL X.K H p xs /\ k = !xs.isEmpty) \/ (∃ xs, SqT X.K H p xs /\ k = !xs.isEmpty) \/ ∃ kvs, H p = some (.dK kvs) /\ k = !kvs.isEmpty := e
  rcases e' with ⟨xs, hx, e'⟩ | ⟨xs, hx, e'⟩ | ⟨kvs, hx, e'⟩
  ·subst e'
   obtain ⟨its, r, pl, hz⟩ := I.list hx
   have hlen := r.length
   exact wpAny_truthy_list pl.isList (by simp only [List.size_toArray]; omega) ⟨H, I.tok _, by rw [isEmpty_of r]; exact q⟩
  ·subst e'
   obtain ⟨its, r, pl, hz⟩ := I.tuple hx
   have hlen := r.length
   exact truthy_tuple pl (by simp only [List.size_toArray]; omega) ⟨H, I.tok _, by rw [isEmpty_of r]; exact q⟩
  ·subst e'
   obtain ⟨hz, hS, vs, r, m⟩ : kvs.length <= sizeLine /\ (p == sysModules) = false /\ ∃ vs, KV kvs vs /\ s.heap.DictOf (mixKind X.prog X.w) p vs := I.hok p _ hx
   have hlen : kvs.length = vs.length := Paired.length r
   exact wpAny_truthy_dict hS m (by omega) ⟨H, I.tok _, by rw [isEmpty_kv r]; exact q⟩
 | _ => exact (show False from e).elim
theorem op_add_str : OpR X (binaryOp .Add) (fun x y H Q => ∃ i j, x = .str i /\ y = .str j /\ i.length + j.length <= sizeLine /\ Q (.str (i ++ j)) H) := by
 intro pins s σ H x y v u Q I rx ry h
 obtain ⟨i, j, rfl, rfl, hz, q⟩ := h
 obtain ⟨t, rfl⟩ := rx
 obtain ⟨t', rfl⟩ := ry
 exact add_str (fun t' tk => ⟨.str (i ++ j), H, I.tok _, ⟨_, rfl⟩, q⟩) hz
theorem vals1 {x : V} {us : List Value} (r : Vals [x] us) : ∃ u, us = [u] /\ RelV x u := by
 cases r with
 | cons r1 r2 => cases r2; exact ⟨_, rfl, r1⟩
theorem call_int1 : CallR X (.type "int") (fun xs H Q => (∃ i, xs = [.int i] /\ Q (.int i) H) \/ ∃ k, xs = [.bl k] /\ Q (.int (if k then 1 else 0)) H) := by
 intro pins s σ H xs us Q I r h
 rcases h with ⟨i, rfl, q⟩ | ⟨k, rfl, q⟩
 ·obtain ⟨u, rfl, t, rfl⟩ := vals1 r
  exact call_int_int ⟨.int i, H, I, ⟨_, rfl⟩, q⟩
 ·obtain ⟨u, rfl, r1⟩ := vals1 r
  cases r1
  exact call_int_bool ⟨.int (if k then 1 else 0), H, I.tok _, ⟨_, rfl⟩, q⟩
def LenV (K : Fg) (x : V) (H : Hp) (n : Nat) : Prop :=
 match x with
 | .str y => y.length <= sizeLine /\ n = y.length
 | .byt y => y.size <= sizeLine /\ n = y.size
 | .ref p => (∃ xs, SqL K H p xs /\ n = xs.length) \/ ∃ xs, SqT K H p xs /\ n = xs.length
 | _ => False
theorem call_len : CallR X (.builtin "len") (fun xs H Q => ∃ x n, xs = [x] /\ LenV X.K x H n /\ Q (.int n) H) := by
 intro pins s σ H xs us Q I r h
 obtain ⟨x, n, rfl, e, q⟩ := h
 obtain ⟨u, rfl, rx⟩ := vals1 r
 have hl := line63
 have hs : sizeLine = 16777216 := sizeLine_eq
 cases x with
 | str y =>
  obtain ⟨t, rfl⟩ := rx
  obtain ⟨hy, e'⟩ : y.length <= sizeLine /\ n = y.length := e
  subst e'
  exact len_str (by omega) ⟨.int _, H, I.tok _, ⟨_, rfl⟩, q⟩
 | byt y =>
  obtain ⟨t, rfl⟩ := rx
  obtain ⟨hy, e'⟩ : y.size <= sizeLine /\ n = y.size := e
  subst e'
  exact PySem.W.len_bytes (by omega) ⟨.int _, H, I.tok _, ⟨_, rfl⟩, q⟩
 | ref p =>
  cases rx
  have e' : (∃ xs, SqL X.K H p xs /\ n = xs.length) \/ ∃ xs, SqT X.K H p xs /\ n = xs.length := e
  rcases e' with ⟨xs, hx, e'⟩ | ⟨xs, hx, e'⟩
  ·subst e'
   obtain ⟨its, r', pl, hz⟩ := I.list hx
   have hlen := r'.length
   exact Calls.call_len_list pl.isList (by simp only [List.size_toArray]; omega) ⟨.int xs.length, H, I.tok _, ⟨_, by simp only [List.size_toArray]; rw [hlen]⟩, q⟩
  ·subst e'
   obtain ⟨its, r', pl, hz⟩ := I.tuple hx
   have hlen := r'.length
   exact len_tuple pl (by simp only [List.size_toArray]; omega) ⟨.int xs.length, H, I.tok _, ⟨_, by simp only [List.size_toArray]; rw [hlen]⟩, q⟩
 | _ => exact (show False from e).elim
end
end L2
namespace L2
open PySem PySem.Spec PyProof.Rows
structure ObjM (h : Heap) (x dx C : Addr) (mA : Str -> Option Value) : Prop where
 obj : h.get? x = some (PySem.W.instObj C dx)
 ns : h.Ns1 dx mA
 ne : dx ≠ x
theorem lookIn_ns {h : Heap} {dx : Addr} {mA : Str -> Option Value} (n : h.Ns1 dx mA) : ∃ od, h.get? dx = some od /\ ∀ name, PySem.W.lookIn name od = some (mA name) := by
 obtain ⟨o, es, ep, ho, hd, hk, _, hm⟩ := n
 refine ⟨o, ho, fun name => ?_⟩
 have e := hm name
 unfold nsFind findBy at e
 rw [<- Array.find?_toList] at e
 unfold PySem.W.lookIn
 rw [hd]
 dsimp only
 split
 ·rename_i y q
  rw [q] at e
  exact congrArg some e
 ·rename_i q
  rw [q] at e
  have a : es.toList.any (·.refKey) = false := by
   rw [List.any_eq_false]
   intro y hy
   obtain ⟨z, t, hkey⟩ := hk y (Array.mem_toList_iff.mp hy)
   simp [DictEntry.refKey, hkey]
  have a' : ¬ es.toList.any (·.refKey) = true := by rw [a]; exact Bool.false_ne_true
  rw [if_neg a']
  exact congrArg some e
theorem ObjM.look {h : Heap} {x dx C : Addr} {mA : Str -> Option Value} (I : ObjM h x dx C mA) : ∃ od, PySem.W.InstAt h x (PySem.W.instObj C dx) C (some od) /\ ∀ name, PySem.W.lookIn name od = some (mA name) :=
 let ⟨od, ho, hl⟩ := lookIn_ns I.ns
 ⟨od, ⟨I.obj, rfl, rfl, ho⟩, hl⟩
section
variable {prog : Program} {w : World} {A : Around} {E : Value -> Shared -> Prop} {s : Shared} {K : Fg} {x dx C f : Addr} {mA : Str -> Option Value} {name : Str} {v : Value}
end
theorem RelO.some_of {v : V} {o : Option Value} (r : RelO (some v) o) : ∃ u, o = some u /\ RelV v u := by
 cases o with
 | none => exact (show False from r).elim
 | some u => exact ⟨u, rfl, r⟩
theorem handed_of {v : V} {u : Value} (r : RelV v u) : PySem.W.handedIn u = true := by
 cases v with
 | non => cases (show u = Value.none from r); rfl
 | bl b => cases (show u = Value.bool b from r); rfl
 | int i => obtain ⟨t, e⟩ := (show ∃ t, u = Value.int i t from r); cases e; rfl
 | str x => obtain ⟨t, e⟩ := (show ∃ t, u = Value.str x t from r); cases e; rfl
 | byt b => obtain ⟨t, e⟩ := (show ∃ t, u = Value.bytes b t from r); cases e; rfl
 | flt b => obtain ⟨t, e⟩ := (show ∃ t, u = Value.float b t from r); cases e; rfl
 | ref a => cases (show u = Value.ref a from r); rfl
 | ty n => cases (show u = Value.type n from r); rfl
section
variable {P : Program} {w : World} {H H' : Hp} {h h' : Heap} {a C dx : Addr} {fs fs' : List (Str × V)}
theorem ins_get (hok : HOk P w H h) (e : H a = some (.ins C dx fs)) : ∃ mA, ObjM h a dx C mA /\ (∀ f, RelO (fs.lookup f) (mA f)) /\ PySem.Within mA (fs.map (·.1)) /\ fs.length <= 1000 /\ H dx = some (.own a) := by
 obtain ⟨d, z, ne, ob, mA, n, r, q⟩ := (show ObjOk P w H h a (.ins C dx fs) from hok a _ e)
 exact ⟨mA, ⟨ob, n, ne⟩, r, q, z, d⟩
end
structure Cls (K : Fg) (C : Addr) : Prop where
 pg : PySem.W.plainGet K C Str.empty = true
 hd : PySem.W.hasDictIn K C = true
 po : PySem.W.plainOver K C = true
 sa : PySem.W.findIn K (.ref C) "__setattr__" = some (some (.builtin "object.__setattr__"))
theorem Cls.get {K : Fg} {C : Addr} (c : Cls K C) (f : Str) : PySem.W.plainGet K C f = true := c.pg
structure Con (K : Fg) (C : Addr) (f : Str) (v : V) (u : Value) : Prop where
 at_ : PySem.W.findIn K (.ref C) f = some (some u)
 rel : RelV v u
 get : PySem.W.specialIn K u "__get__" = some none
 cp : PySem.W.copiedNames.contains f = false
structure Meth (K : Fg) (C : Addr) (m : Str) (f : Addr) : Prop where
 at_ : PySem.W.findIn K (.ref C) m = some (some (.ref f))
 fn : PySem.W.isFn K (.ref f) = true
 kp : PySem.W.keepIn K (.ref f) = true
section
variable {X : Cx} {pins : List (Addr × Obj)} {σ : St} {H : Hp} {s : Shared} {a C dx : Addr} {fs : List (Str × V)} {f : Str} {v : V} {A : Around} {E : Value -> Shared -> Prop}
theorem attr_of {prog : Program} {w : World} {env : Env} {e : Expr} {f : Str} {pos : Pos} {s : Shared} {Q : Value -> Shared -> Prop} (hb : attributeBase e f env (eval e env) = eval e env)
  (h : wpAny (model prog w) A (eval e env) (fun o s₁ => wpAny (model prog w) A (getAttr o f true) Q E s₁) E s) : wpAny (model prog w) A (eval (.Attribute e f pos) env) Q E s :=
 Attribute_any_ h (by rw [arm_eval_Attribute, hb])
end
section
variable {X : Cx} {o e value : Expr} {f : Str} {pos pos' tpos : Pos} {ta tv : TE}
end
section
variable {X : Cx} {pins : List (Addr × Obj)} {σ : St} {H : Hp} {s : Shared} {A : Around} {E : Value -> Shared -> Prop} {Q : Value -> Shared -> Prop} {c : Value} {b : Bool}
inductive TyOf (K : Fg) (H : Hp) : V -> Value -> Prop where
 | non : TyOf K H .non (.type "NoneType")
 | bl (x : Bool) : TyOf K H (.bl x) (.type "bool")
 | int (i : Int) : TyOf K H (.int i) (.type "int")
 | str (x : Str) : TyOf K H (.str x) (.type "str")
 | flt (x : UInt64) : TyOf K H (.flt x) (.type "float")
 | lst {a : Addr} {xs : List V} (e : H a = some (.lst xs)) : TyOf K H (.ref a) (.type "list")
 | frz {a : Addr} {o : Obj} {xs : List V} (e : H a = some (.frz o (.lst xs))) : TyOf K H (.ref a) (.type "list")
 | tup {a : Addr} {xs : List V} (e : H a = some (.tup xs)) : TyOf K H (.ref a) (.type "tuple")
 | dK {a : Addr} {kvs : List (Key × V)} (e : H a = some (.dK kvs)) : TyOf K H (.ref a) (.type "dict")
 | dT {a : Addr} {kvs : List (List Key × V)} (e : H a = some (.dT kvs)) : TyOf K H (.ref a) (.type "dict")
 | ins {a C dx : Addr} {fs : List (Str × V)} (e : H a = some (.ins C dx fs)) (cl : Cls K C) (ha : PySem.W.findIn K (.ref C) "__class__" = some (some (.builtin "object.__class__")))
   (hn : PySem.W.specialIn K (.builtin "object.__class__") "__get__" = some (some (.builtin "getset_descriptor.__get__"))) (htk : PySem.W.takesIn K (.builtin "object.__class__") = some true)
   (hm : PySem.W.mroIn K C (.type "object") = some true) : TyOf K H (.ref a) (.ref C)
theorem isinst_ok {x : V} {u t : Value} (I : Inv X pins σ H s) (rx : RelV x u) (ty : TyOf X.K H x t) (e : PySem.W.kitOne X.K t c = some b) (h : ∀ tk, Q (.bool b) { s with toks := tk }) :
  wpAny (model X.prog X.w) A (call (.builtin "isinstance") [u, c]) Q E s := by
 cases ty with
 | non => cases (show u = Value.none from rx); exact PySem.W.kia_one PySem.W.kitx_none I.kIn tI e (fun z => nomatch z) h
 | bl y => cases (show u = Value.bool y from rx); exact PySem.W.kia_one PySem.W.kitx_bool I.kIn tI e (fun z => nomatch z) h
 | int i => obtain ⟨t, q⟩ := (show ∃ t, u = Value.int i t from rx); cases q; exact PySem.W.kia_one PySem.W.kitx_int I.kIn tI e (fun z => nomatch z) h
 | str y => obtain ⟨t, q⟩ := (show ∃ t, u = Value.str y t from rx); cases q; exact PySem.W.kia_one PySem.W.kitx_str I.kIn tI e (fun z => nomatch z) h
 | flt y => obtain ⟨t, q⟩ := (show ∃ t, u = Value.float y t from rx); cases q; exact PySem.W.kia_one PySem.W.kitx_float I.kIn tI e (fun z => nomatch z) h
 | @lst a xs ea =>
  cases (show u = Value.ref a from rx)
  obtain ⟨_, _, n, _, h1⟩ := (show ObjOk X.prog X.w H s.heap a (.lst xs) from I.hok a _ ea)
  exact PySem.W.kia_one PySem.W.kitx_list I.kIn ⟨_, h1, rfl⟩ e (fun z => nomatch z) h
 | @frz a ob xs ea =>
  cases (show u = Value.ref a from rx)
  obtain ⟨_, _, _, n, _, h1⟩ := (show ObjOk X.prog X.w H s.heap a (.frz ob (.lst xs)) from I.hok a _ ea)
  exact PySem.W.kia_one PySem.W.kitx_list I.kIn ⟨_, h1, rfl⟩ e (fun z => nomatch z) h
 | @tup a xs ea =>
  cases (show u = Value.ref a from rx)
  obtain ⟨_, _, _, p⟩ := (show ObjOk X.prog X.w H s.heap a (.tup xs) from I.hok a _ ea)
  obtain ⟨o, h1, h2, _⟩ := p
  exact PySem.W.kia_one PySem.W.kitx_tuple I.kIn ⟨o, h1, h2⟩ e (fun z => nomatch z) h
 | @dK a kvs ea =>
  cases (show u = Value.ref a from rx)
  obtain ⟨_, _, vs, _, p⟩ := (show ObjOk X.prog X.w H s.heap a (.dK kvs) from I.hok a _ ea)
  obtain ⟨o, es, ep, h1, h2, _⟩ := p
  exact PySem.W.kia_one PySem.W.kitx_dict I.kIn ⟨o, h1, h2.1⟩ e (fun z => nomatch z) h
 | @dT a kvs ea =>
  cases (show u = Value.ref a from rx)
  obtain ⟨_, _, xs, _, o, es, ep, h1, h2, _⟩ := (show ObjOk X.prog X.w H s.heap a (.dT kvs) from I.hok a _ ea)
  exact PySem.W.kia_one PySem.W.kitx_dict I.kIn ⟨o, h1, h2.1⟩ e (fun z => nomatch z) h
 | @ins a C dx fs ea cl ha hn htk hm =>
  cases (show u = Value.ref a from rx)
  obtain ⟨mA, O, _⟩ := ins_get I.hok ea
  obtain ⟨od, J, _⟩ := O.look
  exact PySem.W.kia_one (PySem.W.kitx_own (cl.get _) cl.hd ha hn htk hm) I.kIn J e (fun z => nomatch z) h
end
end L2
namespace L2
open PySem PySem.Spec PyProof.Rows
structure Room (k : Nat) (A : Around) : Prop where
 hd : A.handled = none
 dp : A.depth + 3 * k + 5 < recursionLimit
 un : A.units + 16 * k + 200 < cLine
theorem Room.mono {j k : Nat} {A : Around} (r : Room k A) (h : j <= k) : Room j A := ⟨r.hd, by have := r.dp; omega, by have := r.un; omega⟩
theorem Room.deeper {k : Nat} {A : Around} (r : Room (k + 1) A) (env : Env) : Room k (A.deeper env) :=
 ⟨r.hd, by have := r.dp; show A.depth + 1 + 3 * k + 5 < _; omega, by have := r.un; show A.units + 3 + 16 * k + 200 < _; omega⟩
theorem Room.depth {k : Nat} {A : Around} (r : Room k A) : A.depth < recursionLimit := by have := r.dp; omega
theorem Room.units {k : Nat} {A : Around} (r : Room k A) : A.units + 64 < cLine := by have := r.un; omega
def tNil : TA := fun _ H Q => Q [] H
def tCons (ta : TE) (tr : TA) : TA := fun σ H Q => ta σ H fun x H1 => tr σ H1 fun xs H2 => Q (x :: xs) H2
section
variable {X : Cx} {e : Expr} {es : List Expr} {te : TE} {t : TA} {pos : Pos}
theorem pa_nil : PA X [] tNil := fun _ _ _ _ H Q I h => Calls.spliced_nil ⟨[], H, I, .nil, h⟩
theorem pa_cons (ha : PE X e te) (hr : PA X es t) (hs : starEach (e :: es) X.env = (false, eval e X.env) :: starEach es X.env := by rfl) : PA X (e :: es) (tCons te t) := by
 intro pos pins s σ H Q I h
 rw [hs]
 show wpAny _ _ (spliced ((false, eval e X.env) :: backTo pos (starEach es X.env))) _ _ s
 refine Calls.spliced_cons (thn (ha pins s σ H _ I h) fun u s1 ⟨x, H1, I1, r1, q1⟩ => ?_)
 exact thn (hr pos pins s1 σ H1 _ I1 q1) fun us s2 ⟨xs, H2, I2, r2, q2⟩ => ⟨x :: xs, H2, I2, .cons r1 r2, q2⟩
def tTup (t : TA) : TE := fun σ H Q => t σ H fun xs H1 => xs.length <= sizeLine /\ ∀ p, H1 p = none -> Q (.ref p) (upd H1 p (.tup xs))
def tLst (t : TA) : TE := fun σ H Q => t σ H fun xs H1 => xs.length <= sizeLine /\ ∀ p, H1 p = none -> Q (.ref p) (upd H1 p (.lst xs))
theorem pe_tup {x1} (h : PA X es t) : PE X (.Tuple es x1 pos) (tTup t) := by
 intro pins s σ H Q I hq
 refine wpAny_Tuple_spliced (thn (h pos pins s σ H _ I hq) fun us s1 ⟨xs, H1, I1, r, z, q⟩ => ⟨by rw [<- r.length]; exact z, ?_⟩)
 have hf : H1 s1.heap.objs.size = none := I1.hok.fresh (Nat.le_refl _)
 refine ⟨.ref s1.heap.objs.size, upd H1 s1.heap.objs.size (.tup xs), I1.laid (t' := s1.toks) (fun b u e => Heap.get?_push_of_some _ e) (Nat.le_refl _) ?_, rfl, q _ hf⟩
 exact ⟨z, us, r, ⟨_, Heap.get?_push_size _ rfl, rfl, _, rfl⟩⟩
theorem pe_lst (h : PA X es t) : PE X (.List es pos) (tLst t) := by
 intro pins s σ H Q I hq
 refine wpAny_List_spliced (thn (h pos pins s σ H _ I hq) fun us s1 ⟨xs, H1, I1, r, z, q⟩ => ⟨by rw [<- r.length]; exact z, ?_⟩)
 have hf : H1 s1.heap.objs.size = none := I1.hok.fresh (Nat.le_refl _)
 refine ⟨.ref s1.heap.objs.size, upd H1 s1.heap.objs.size (.lst xs), I1.laid (t' := s1.toks) (fun b u e => Heap.get?_push_of_some _ e) (Nat.le_refl _) ?_, rfl, q _ hf⟩
 exact ⟨z, us, 0, r, Heap.get?_push_size _ rfl⟩
end
abbrev Sp := List V -> Hp -> VK -> XK -> Prop
abbrev CXT := List Env -> Hp -> Shared -> XK -> Value -> Shared -> Prop
structure Env0 (P : Program) (w : World) (K : Fg) (mg : Str -> Option Value) (base : Heap) (A : Around) (outer : List Env) (s : Shared) (H : Hp) : Prop where
 frames : A.frames = some outer
 mod : Mod K mg base
 bs : ∀ b o, base.get? b = some o -> s.heap.get? b = some o /\ H b = none
 bsz : base.objs.size <= s.heap.objs.size
 funs : s.heap.FunFrames base outer
 frf : ∀ b ∈ frs outer, H b = none
 hok : HOk P w H s.heap
 bare : AllBare s.gens
def CE (outer : List Env) (P : Program) (w : World) (H : Hp) (s : Shared) (Q : VK) (u : Value) (s' : Shared) : Prop :=
 ∃ v H', s'.os = s.os /\ AllBare s'.gens /\ Un (frs outer) [] H H' s.heap s'.heap /\ HOk P w H' s'.heap /\ RelV v u /\ Q v H'
def CR (CX : CXT) (outer : List Env) (P : Program) (w : World) (H : Hp) (s : Shared) (Q : VK) (E : XK) (r : Result) (s' : Shared) : Prop :=
 match r with
 | .ok (.ret u) => CE outer P w H s Q u s'
 | .ok _ => False
 | .error e => CX outer H s E e s'
structure FnOk (P : Program) (w : World) (K : Fg) (mg : Str -> Option Value) (base : Heap) (CX : CXT) (k : Nat) (f : Addr) (fd : FuncData) (ps : List Str) (sp : Sp) : Prop where
 len : ∀ vs H Q E, sp vs H Q E -> vs.length = ps.length
 run : ∀ (A : Around) (outer : List Env) (s : Shared) (H : Hp) (args : Args) (us : List Value) (vs : List V) (Q : VK) (E : XK), Room k A -> Env0 P w K mg base A outer s H -> BindsTo s fd args (ps.zip us) -> Vals vs us -> sp vs H Q E ->
  codeAny (model P w) A (.call (.ref f) args) (CR CX outer P w H s Q E) s
section
variable {X : Cx} {pins : List (Addr × Obj)} {σ : St} {H : Hp} {s s' : Shared}
theorem Inv.env0 (I : Inv X pins σ H s) : Env0 X.prog X.w X.K X.mg X.base X.A X.stack s H :=
 ⟨I.ok.frames, I.ok.mod, I.bs, Nat.le_trans I.ok.bsz I.sz, I.stack, I.stkFree, I.hok, I.bare⟩
theorem Inv.after {Q : VK} {u : Value} (I : Inv X pins σ H s) (h : CE X.stack X.prog X.w H s Q u s') : EP X pins σ Q u s' := by
 obtain ⟨v, H', os, bare, un, hok, r, q⟩ := h
 obtain ⟨hh, g, d, t, os'⟩ := s'
 obtain rfl : os' = s.os := os
 exact ⟨v, H', I.call (h' := hh) (g' := g) (d' := d) (t' := t) (ch := []) un hok bare (fun b z => absurd z (by simp)), r, q⟩
end
def Binds (K : Fg) (fd : FuncData) (ps : List Str) (ds : List Value) : Prop :=
 ∀ (s : Shared) (us : List Value), K.In s.heap -> (us ++ ds).length = ps.length -> BindsTo s fd ⟨us, []⟩ (ps.zip (us ++ ds))
theorem Binds.all {K : Fg} {fd : FuncData} {ps : List Str} (h : ∀ us : List Value, us.length = ps.length -> bindArgs fd ⟨us, []⟩ = pure (ps.zip us)) : Binds K fd ps [] := fun s us _ hl => by
 rw [List.append_nil] at hl ⊢
 exact .of_eq (h us hl)
def Passes (CX : CXT) (X : Cx) (E : XK) : Prop := ∀ (pins : List (Addr × Obj)) (σ : St) (H : Hp) (s : Shared) (e : Value) (s' : Shared), Inv X pins σ H s -> CX X.stack H s E e s' -> X.xe e s'
section
variable {X : Cx} {CX : CXT} {k : Nat} {f C : Addr} {fd : FuncData} {ps : List Str} {sp : Sp} {dvs : List V} {ds : List Value} {E : XK} {x m : Str} {p pos apos : Pos} {e o : Expr} {es : List Expr} {ta : TE} {t : TA}
structure Mk (K : Fg) (C f : Addr) : Prop where
 makes : PySem.W.makesIn K C = true
 init : PySem.W.findIn K (.ref C) "__init__" = some (some (.ref f))
 fn : PySem.W.isFn K (.ref f) = true
 kp : PySem.W.keepIn K (.ref C) = true
end
section
variable {X : Cx} {CX : CXT} {k : Nat} {f C : Addr} {fd : FuncData} {ps ks : List Str} {sp : Sp} {E : XK} {x m : Str} {p pos apos kpos : Pos} {e o : Expr} {es : List Expr} {kws : List Keyword} {te ta : TE} {t tk : TA} {nm : Option Str}
structure KBinds (K : Fg) (fd : FuncData) (ps ks : List Str) (g : List Value -> List Value -> List Value) (gV : List V -> List V -> List V) : Prop where
 to : ∀ (s : Shared) (us ws : List Value), K.In s.heap -> (g us ws).length = ps.length -> BindsTo s fd ⟨us, ks.zip ws⟩ (ps.zip (g us ws))
 rel : ∀ {vs : List V} {us : List Value} {zs : List V} {ws : List Value}, Vals vs us -> Vals zs ws -> Vals (gV vs zs) (g us ws)
variable {g : List Value -> List Value -> List Value} {gV : List V -> List V -> List V}
end
structure FnScope (N P : List Str) (sc : Scope) : Prop where
 kind : sc.kind = .function
 co : sc.isCoroutine = false
 gen : sc.isGenerator = false
 nd : N.Nodup
 pre : N.take P.length = P
 par : ∀ x ∈ P, sc.names.lookup x = some .local \/ sc.names.lookup x = some .cell
 nofree : ∀ y ∈ sc.names, y.2 ≠ .free
theorem bindL_out {kindOf : Str -> Option NameKind} {x : Str} : ∀ {binds : List (Str × Value)} {m : Str -> Option Value}, (∀ v, (x, v) ∉ binds) -> bindL kindOf binds m x = m x
 | [], _, _ => rfl
 | (n, v) :: r, m, h => by
  unfold bindL
  rw [bindL_out fun w hw => h w (List.mem_cons_of_mem _ hw)]
  split
  ·have : x ≠ n := by rintro rfl; exact h v List.mem_cons_self
   simp [this]
  ·rfl
theorem bindC_out {kindOf : Str -> Option NameKind} {x : Str} : ∀ {binds : List (Str × Value)} {m : Str -> Option Value}, (∀ v, (x, v) ∉ binds) -> bindC kindOf binds m x = m x
 | [], _, _ => rfl
 | (n, v) :: r, m, h => by
  unfold bindC
  rw [bindC_out fun w hw => h w (List.mem_cons_of_mem _ hw)]
  split
  ·rfl
  ·have : x ≠ n := by rintro rfl; exact h v List.mem_cons_self
   simp [this]
theorem bindL_get {kindOf : Str -> Option NameKind} {x : Str} {v : Value} : ∀ {P : List Str} {vs : List Value} {i : Nat} {m : Str -> Option Value}, P.Nodup -> P[i]? = some x -> vs[i]? = some v -> kindOf x = some .local ->
  bindL kindOf (P.zip vs) m x = some v
 | [], _, _, _, _, h, _, _ => by simp at h
 | _ :: _, [], _, _, _, _, h, _ => by simp at h
 | p :: P, w :: vs, 0, m, nd, h1, h2, hk => by
  simp at h1 h2; subst h1; subst h2
  show bindL kindOf ((p, w) :: P.zip vs) m p = _
  unfold bindL
  rw [bindL_out fun v hv => (List.nodup_cons.mp nd).1 (List.of_mem_zip hv).1, if_pos hk]
  simp
 | p :: P, w :: vs, i + 1, m, nd, h1, h2, hk => by
  show bindL kindOf ((p, w) :: P.zip vs) m x = _
  unfold bindL
  exact bindL_get (i := i) (List.nodup_cons.mp nd).2 (by simpa using h1) (by simpa using h2) hk
theorem bindC_get {kindOf : Str -> Option NameKind} {x : Str} {v : Value} : ∀ {P : List Str} {vs : List Value} {i : Nat} {m : Str -> Option Value}, P.Nodup -> P[i]? = some x -> vs[i]? = some v -> kindOf x ≠ some .local ->
  bindC kindOf (P.zip vs) m x = some v
 | [], _, _, _, _, h, _, _ => by simp at h
 | _ :: _, [], _, _, _, _, h, _ => by simp at h
 | p :: P, w :: vs, 0, m, nd, h1, h2, hk => by
  simp at h1 h2; subst h1; subst h2
  show bindC kindOf ((p, w) :: P.zip vs) m p = _
  unfold bindC
  rw [bindC_out fun v hv => (List.nodup_cons.mp nd).1 (List.of_mem_zip hv).1, if_neg hk]
  simp
 | p :: P, w :: vs, i + 1, m, nd, h1, h2, hk => by
  show bindC kindOf ((p, w) :: P.zip vs) m x = _
  unfold bindC
  exact bindC_get (i := i) (List.nodup_cons.mp nd).2 (by simpa using h1) (by simpa using h2) hk
def start (N : List Str) (vs : List V) : St := vs.map some ++ List.replicate (N.length - vs.length) none
def cxOf (CX : CXT) (P : Program) (w : World) (K : Fg) (mg : Str -> Option Value) (base : Heap) (N : List Str) (qual : Str) (scope : Scope) (f : Addr) (cd : Value) (A : Around) (outer : List Env) (s : Shared) (H : Hp) (E : XK) : Cx where
 prog := P
 w := w
 K := K
 mg := mg
 base := base
 A := A.deeper (envOfC qual scope s.heap.objs.size f cd)
 N := N
 s₀ := s
 H₀ := H
 env := envOfC qual scope s.heap.objs.size f cd
 outer := outer
 stack := envOfC qual scope s.heap.objs.size f cd :: outer
 ex := []
 calm := true
 fn := fun _ => true
 pn := []
 xe := fun e s' => wpAny (model P w) (A.deeper (envOfC qual scope s.heap.objs.size f cd)) (leaving (envOfC qual scope s.heap.objs.size f cd) e) (fun _ s'' => CX outer H s E e s'') (fun e' s'' => CX outer H s E e' s'') s'
theorem cell_has {sc : Scope} {n : Nat} {x : Str} (h : sc.names.lookup x = some .cell) : ∃ c, (cellsFrom n sc.names []).lookup x = some c := by
 have q := PySem.W.cellsFrom_some sc.names n [] (.inl h)
 exact Option.isSome_iff_exists.mp q
theorem inv_start {CX : CXT} {P : Program} {w : World} {K : Fg} {mg : Str -> Option Value} {base : Heap} {N ps : List Str} {qual : Str} {scope : Scope} {f : Addr} {cd : Value} {A : Around} {outer : List Env} {s s1 : Shared} {H : Hp} {E : XK} {us : List Value} {vs : List V}
  (S : FnScope N ps scope) (hd : A.handled = none) (e0 : Env0 P w K mg base A outer s H) (hl : vs.length = ps.length) (r : Vals vs us)
  (x : InCallC s s.heap.objs.size (bindL (envOfC qual scope s.heap.objs.size f cd).kindOf (ps.zip us) fun _ => none) (cellsFrom (s.heap.objs.size + 1) scope.names []) (bindC (envOfC qual scope s.heap.objs.size f cd).kindOf (ps.zip us) fun _ => none) s1) :
  Inv (cxOf CX P w K mg base N qual scope f cd A outer s H E) [] (start N vs) H s1 := by
 have hpl : ps.length <= N.length := by have := congrArg List.length S.pre; rw [List.length_take] at this; omega
 obtain ⟨h1, tk, rfl, hk⟩ := x.done
 have noA : ∀ b : Addr, b ∉ (cxOf CX P w K mg base N qual scope f cd A outer s H E).ex := fun b z => absurd (show b ∈ ([] : List Addr) from z) (by simp)
 refine ⟨⟨e0.mod, S.kind, rfl, rfl, Nat.le_refl _, fun y z c h1 h2 => ?_, fun y hy => ?_, fun y c _ h => ?_, fun _ => hd, Around.frames_deeper e0.frames, .inr ⟨rfl, rfl⟩, fun b z => absurd z (noA b), e0.bs, e0.bsz, fun b _ _ => noA b, fun b z => absurd z (noA b), e0.funs, e0.frf⟩,
  rfl, e0.bare, Un.kept hk, ⟨_, x.toInCall.ns, fun i y v h1 h2 h3 => ?_⟩, fun y c h => ⟨_, x.cell y c h⟩, e0.hok.fresh (Nat.le_refl _), fun y c h => ?_, fun p hp => absurd (show p ∈ ([] : List (Addr × Obj)) from hp) (by simp), e0.hok.kept hk, ?_⟩
 ·exact name_of_addr x.apart (PySem.mem_of_lookup h1) (PySem.mem_of_lookup h2)
 ·have hy : scope.names.lookup y = some .cell \/ scope.names.lookup y = some .free := hy
  rcases hy with hy | hy
  ·exact cell_has hy
  ·exact absurd rfl (S.nofree _ (PySem.mem_of_lookup hy))
 ·exact Nat.le_of_lt (x.above y c (PySem.mem_of_lookup h))
 ·have hi : i < vs.length := by
   unfold start at h2
   by_cases hi : i < vs.length
   ·exact hi
   ·rw [List.getElem?_append_right (by simpa using hi)] at h2
    rw [List.getElem?_replicate] at h2
    split at h2 <;> cases h2
  have ha : vs[i]? = some v := by
   unfold start at h2
   rw [List.getElem?_append_left (by simpa using hi), List.getElem?_map] at h2
   cases e : vs[i]? with
   | none => rw [e] at h2; cases h2
   | some a => rw [e] at h2; cases h2; rfl
  obtain ⟨u, hu, rv⟩ := r.get ha
  have hp : ps[i]? = some y := by
   rw [<- S.pre, List.getElem?_take_of_lt (by omega)]; exact h1
  have ndP : ps.Nodup := by rw [<- S.pre]; exact S.nd.sublist (List.take_sublist _ _)
  refine ⟨u, rv, ?_⟩
  rcases S.par y (List.mem_of_getElem? hp) with k | k
  ·exact .inl ⟨k, bindL_get ndP hp hu k⟩
  ·obtain ⟨c, e⟩ := cell_has (n := s.heap.objs.size + 1) k
   refine .inr ⟨.inl k, c, e, ?_⟩
   have q := x.cell y c e
   rw [bindC_get ndP hp hu (by show scope.names.lookup y ≠ _; rw [k]; decide)] at q
   exact q
 ·exact e0.hok.fresh (Nat.le_of_lt (x.above y c (PySem.mem_of_lookup h)))
 ·unfold start
  show _ = N.length
  rw [List.length_append, List.length_map, List.length_replicate]
  omega
theorem fn_of {CX : CXT} {P : Program} {w : World} {K : Fg} {mg : Str -> Option Value} {base : Heap} {k : Nat} {f : Addr} {name qual : Str} {params : Arguments} {body : List Stmt} {scope : Scope} {dV kV doc pm cdv ct oc : Value} {an od : Option Addr}
  {osl : Array (Option Value)} {N ps : List Str} {sp : Sp} (lk : K.lookup f = some ⟨oc, od, .func (PySem.W.fnOf name qual params body scope dV kV doc pm an cdv ct), osl⟩) (hcd : PySem.W.codeIn K cdv qual = true) (S : FnScope N ps scope)
  (len : ∀ vs H Q E, sp vs H Q E -> vs.length = ps.length)
  (hbody : ∀ (A : Around) (outer : List Env) (s : Shared) (H : Hp) (vs : List V) (Q : VK) (E : XK), Room k (A.deeper (envOfC qual scope s.heap.objs.size f cdv)) -> sp vs H Q E ->
   ∃ t, PSs (cxOf CX P w K mg base N qual scope f cdv A outer s H E) body t /\ t { nx := fun _ H' => Q .non H', rt := Q } (start N vs) H) :
  FnOk P w K mg base CX (k + 1) f (PySem.W.fnOf name qual params body scope dV kV doc pm an cdv ct) ps sp := by
 refine ⟨len, fun A outer s H args us vs Q E hr e0 hb r hsp => ?_⟩
 have hl := len _ _ _ _ hsp
 have KX : K.In s.heap := e0.mod.kin.keeps fun b o e => (e0.bs b o e).1
 have lim : s.heap.NoLimit := e0.mod.nolimit.keeps fun b o e => (e0.bs b o e).1
 have hkind : ∀ y ∈ ps.zip us, scope.names.lookup y.1 = some .local \/ (scope.names.lookup y.1 = some .cell /\ ((cellsFrom (s.heap.objs.size + 1) scope.names []).lookup y.1).isSome = true) := fun ⟨n, v⟩ hy => by
  rcases S.par n (List.of_mem_zip hy).1 with q | q
  ·exact .inl q
  ·exact .inr ⟨q, PySem.W.cellsFrom_some _ _ _ (.inl q)⟩
 refine codeAny_call_function hr.depth (KX _ _ lk) rfl S.co S.gen rfl (PySem.W.codeRec_of KX hcd) (hb _ _ _ _ ?_)
 refine wpAny_newFunctionEnv_cells S.kind hkind fun env he s1 x => ?_
 subst he
 refine ⟨lim.keeps x.toInCall.keep, codeAny_func ?_⟩
 obtain ⟨t, ht, hq⟩ := hbody A outer s H vs Q E (hr.deeper _) hsp
 have I : Inv (cxOf CX P w K mg base N qual scope f cdv A outer s H E) [] (start N vs) H s1 := inv_start S hr.hd e0 hl r x
 refine wpAny_mono (ht [] s1 (start N vs) H _ I hq) (fun fl s' hs => ?_) fun e s' hs => hs
 have fin : ∀ {σ' : St} {H' : Hp} {v : V} {u : Value}, Inv (cxOf CX P w K mg base N qual scope f cdv A outer s H E) [] σ' H' s' -> RelV v u -> Q v H' -> CE outer P w H s Q u s' :=
  fun {σ' H' v u} J rv q => ⟨v, H', J.os, J.bare, J.base, J.hok, rv, q⟩
 cases fl with
 | ret u =>
  obtain ⟨v, σ', H', J, rv, q⟩ := hs
  exact fin J rv q
 | next =>
  obtain ⟨σ', H', J, q⟩ := hs
  exact fin (v := V.non) (u := Value.none) J rfl q
 | brk =>
  obtain ⟨_, _, _, q⟩ := hs
  exact False.elim q
 | cont =>
  obtain ⟨_, _, _, q⟩ := hs
  exact False.elim q
end L2
namespace L2
open PySem PySem.Spec PyProof.Rows
section
variable {X : Cx} {x : Str} {p pos : Pos} {e : Expr} {es : List Expr} {t : TA} {id T : String} {r : List V -> Hp -> VK -> Prop}
def tCB (r : List V -> Hp -> VK -> Prop) (t : TA) : TE := fun σ H Q => t σ H fun vs H1 => r vs H1 Q
theorem pe_callB (hc : CallR X (.builtin id) r) (hg : Gl X x) (hm : X.mg x = none) (hv : bootBuiltins x = some (.builtin id)) (ha : PA X (e :: es) t) (hn : x ≠ "__name__" := by decide) (hdb : (x == ("__debug__" : Str)) = false := by decide)
  (he : starEach (e :: es) X.env = (false, eval e X.env) :: starEach es X.env := by rfl) (hpl : (backTo pos (starEach es X.env)).any (·.1) = false := by rfl) : PE X (.Call (.Name x p) (e :: es) [] pos) (tCB r t) := by
 intro pins s σ H Q I h
 refine wpAny_Call_Name_kw (ld_blt I hg hm hv ?_ hn hdb)
 exact PyProof.Rows.callWith_builtin1 (thn (ha pos pins s σ H _ I h) fun us s1 ⟨vs, H1, I1, r1, q1⟩ => hc pins s1 σ H1 vs us Q I1 r1 q1) he hpl
theorem pe_callTy (hc : CallR X (.type T) r) (hg : Gl X x) (hm : X.mg x = none) (hv : bootBuiltins x = some (.type T)) (ha : PA X (e :: es) t) (hn : x ≠ "__name__" := by decide) (hdb : (x == ("__debug__" : Str)) = false := by decide)
  (he : starEach (e :: es) X.env = (false, eval e X.env) :: starEach es X.env := by rfl) (hpl : (backTo pos (starEach es X.env)).any (·.1) = false := by rfl) : PE X (.Call (.Name x p) (e :: es) [] pos) (tCB r t) := by
 intro pins s σ H Q I h
 refine wpAny_Call_Name_kw (ld_blt I hg hm hv ?_ hn hdb)
 exact PyProof.Rows.callWith_type1 (thn (ha pos pins s σ H _ I h) fun us s1 ⟨vs, H1, I1, r1, q1⟩ => hc pins s1 σ H1 vs us Q I1 r1 q1) he hpl
end
end L2
namespace HT
open PySem PyProof.Rows
section
open PySem.SeqAt
open PySem.AutoSeq1 (wpAny_loadPart')
open PySem.MeetsSeq PySem.MeetsSeq2 PySem.MeetsSeq3
end
section
variable {prog : Program} {w : World} {A : Around} {E : Value -> Shared -> Prop} {s : Shared}
theorem cat_tup {t b : Addr} {vs ws : List Value} {Q : Value -> Shared -> Prop} (ht : IsTup s.heap t vs.toArray) (hb : IsTup s.heap b ws.toArray) (hv : vs ≠ [])
  (h1 : ws = [] -> Q (.ref t) s) (h2 : ws ≠ [] -> Q (.ref s.heap.objs.size) { s with heap := s.heap.push { cls := .type "tuple", data := .seq (vs ++ ws).toArray } })
  (hsz : vs.length + ws.length <= sizeLine) : wpAny (model prog w) A (binaryOp .Add (.ref t) (.ref b)) Q E s := by
 obtain ⟨⟨cls, dd, data, sl⟩, ho, hc, n, hd⟩ := id ht
 obtain ⟨⟨cls2, dd2, data2, sl2⟩, ho2, hc2, n2, hd2⟩ := id hb
 simp only at hc hd hc2 hd2
 subst hc hd hc2 hd2
 have e : vs.toArray ++ ws.toArray = (vs ++ ws).toArray := by simp
 by_cases hw : ws = []
 ·exact concat_meets ⟨_, ho, rfl⟩ ⟨_, ho2, rfl⟩ noFill_tuple_add seq_tuple_add PySem.F.slot_tuple_add PySem.F.entry_tuple_add (PySem.F.args_tuple_add_2 _ _)
   (tuple_addW1 t b vs.toArray ws.toArray n n2 dd dd2 sl sl2 (by simpa using hv) (by simp [hw])) ⟨ho, ho2, h1 hw⟩
 ·refine concat_meets ⟨_, ho, rfl⟩ ⟨_, ho2, rfl⟩ noFill_tuple_add seq_tuple_add PySem.F.slot_tuple_add PySem.F.entry_tuple_add (PySem.F.args_tuple_add_2 _ _)
   (tuple_addW2 t b vs.toArray ws.toArray n n2 dd dd2 sl sl2 (by simpa using hv) (by simpa using hw) (by rw [List.size_toArray, List.size_toArray]; exact hsz)) ⟨ho, ho2, ?_⟩
  rw [e]
  exact h2 hw
def sIx (n d : Nat) : Option Int -> Nat
 | none => d
 | some v => if v < 0 then (v + (n : Int)).toNat else min v.toNat n
theorem sIx_none (n d : Nat) : sIx n d none = d := rfl
theorem sIx_nat (n d k : Nat) : sIx n d (some (k : Int)) = min k n := by
 show (if (k : Int) < 0 then ((k : Int) + (n : Int)).toNat else min (k : Int).toNat n) = min k n
 rw [if_neg (by omega), Int.toNat_natCast]
theorem sIx_le (n d : Nat) (hd : d <= n) (o : Option Int) : sIx n d o <= n := by
 cases o with
 | none => exact hd
 | some v =>
  show (if v < 0 then (v + (n : Int)).toNat else min v.toNat n) <= n
  by_cases hv : v < 0
  ·rw [if_pos hv]; omega
  ·rw [if_neg hv]; exact Nat.min_le_right _ _
theorem clip_eq (v : Int) (n d : Nat) : (if v < 0 then max (v + (n : Int)) 0 else min v (n : Int)) = ((sIx n d (some v) : Nat) : Int) := by
 show (if v < 0 then max (v + (n : Int)) 0 else min v (n : Int)) = (((if v < 0 then (v + (n : Int)).toNat else min v.toNat n) : Nat) : Int)
 by_cases hv : v < 0
 ·simp only [if_pos hv]; omega
 ·simp only [if_neg hv]; omega
theorem adjust_gen (lo hi : Option Int) (n : Nat) : Builtin.Slice.sliceAdjust lo hi 1 (n : Int) = (((sIx n 0 lo : Nat) : Int), ((sIx n n hi : Nat) : Int)) := by
 have h1 : ¬ ((1 : Int) < 0) := by omega
 unfold Builtin.Slice.sliceAdjust
 simp only [h1, if_false]
 refine Prod.ext ?_ ?_
 ·cases lo with
  | none => rfl
  | some v => exact clip_eq v n 0
 ·cases hi with
  | none => rfl
  | some v => exact clip_eq v n n
theorem places_gen (i j : Nat) : Builtin.Slice.slicePlaces (i : Int) (j : Int) 1 = j - i := by
 unfold Builtin.Slice.slicePlaces
 have h1 : (1 : Int) > 0 := by omega
 simp only [h1, if_true, Int.ediv_one]
 split <;> omega
theorem slicePart_ {v : Value} {o : Option Int} {Q : Option Int -> Shared -> Prop} (p : IsPart v o) (h : Q o s) : wpAny (model prog w) A (Builtin.Slice.slicePartIndex v) Q E s := by
 cases p with
 | none => exact slicePart_none h
 | int i t => exact slicePart_int h
theorem sliceApplied_gen {sl : Addr} {vl vu : Value} {lo hi : Option Int} {n : Nat} {Q : Int × Int × Nat -> Shared -> Prop} (hs : s.heap.IsSliceOf sl vl vu .none) (pl : IsPart vl lo) (pu : IsPart vu hi)
  (h : Q (((sIx n 0 lo : Nat) : Int), 1, sIx n n hi - sIx n 0 lo) s) : wpAny (model prog w) A (Builtin.Slice.sliceApplied (.ref sl) (pure (n : Int))) Q E s := by
 obtain ⟨os, hos, hcs, hds⟩ := id hs
 unfold Builtin.Slice.sliceApplied Builtin.Slice.sliceFields
 refine wpAny_bind (wpAny_bind (wpAny_field hos hds (x := vl) rfl (wpAny_bind (wpAny_field hos hds (x := vu) rfl (wpAny_bind (wpAny_field hos hds (x := .none) rfl (wpAny_pure ?_)))))))
 refine wpAny_bind (slicePart_none ?_)
 show wpAny _ _ (if ((1 : Int) == 0) = true then _ else _) _ _ s
 rw [if_neg (by decide)]
 refine wpAny_bind (slicePart_ pl (wpAny_bind (slicePart_ pu (wpAny_bind (wpAny_pure ?_)))))
 show wpAny _ _ (match Builtin.Slice.sliceAdjust lo hi 1 (n : Int) with | (lo, hi) => pure (lo, (1 : Int), Builtin.Slice.slicePlaces lo hi 1)) _ _ s
 rw [adjust_gen lo hi n]
 show wpAny _ _ (pure (((sIx n 0 lo : Nat) : Int), (1 : Int), Builtin.Slice.slicePlaces ((sIx n 0 lo : Nat) : Int) ((sIx n n hi : Nat) : Int) 1)) _ _ s
 rw [places_gen]
 exact wpAny_pure h
theorem pick_gen (xs : Array Value) (i k : Nat) : ((List.range k).filterMap fun (m : Nat) => xs[((i : Int) + (m : Int) * 1).toNat]?).toArray = ((xs.toList.drop i).take k).toArray := by
 have e : (fun (m : Nat) => xs[((i : Int) + (m : Int) * 1).toNat]?) = fun m => xs[i + m]? := by
  funext m
  have : ((i : Int) + (m : Int) * 1).toNat = i + m := by omega
  rw [this]
 rw [e]
 have := pick_run xs i k
 rw [List.filterMap_map] at this
 have e2 : ((fun x => xs[x]?) ∘ fun x => i + x) = fun m => xs[i + m]? := rfl
 rw [e2] at this
 rw [this]
theorem getItem_tuple_cut {t sl : Addr} {items : Array Value} {vl vu : Value} {lo hi : Option Int} {Q : Value -> Shared -> Prop} (ht : IsTup s.heap t items) (hs : s.heap.IsSliceOf sl vl vu .none) (pl : IsPart vl lo) (pu : IsPart vu hi)
  (hw : ¬ (sIx items.size 0 lo = 0 /\ sIx items.size items.size hi = items.size))
  (h : Q (.ref s.heap.objs.size) { s with heap := s.heap.push { cls := .type "tuple", data := .seq ((items.toList.drop (sIx items.size 0 lo)).take (sIx items.size items.size hi - sIx items.size 0 lo)).toArray } })
  (hsz : items.size <= sizeLine) : wpAny (model prog w) A (getItem (.ref t) (.ref sl)) Q E s := by
 have htake : sizeOk (.seq ((items.toList.drop (sIx items.size 0 lo)).take (sIx items.size items.size hi - sIx items.size 0 lo)).toArray) := by
  show ((items.toList.drop (sIx items.size 0 lo)).take (sIx items.size items.size hi - sIx items.size 0 lo)).toArray.size <= sizeLine
  rw [List.size_toArray, List.length_take, List.length_drop, Array.length_toList]
  omega
 have hj : sIx items.size items.size hi <= items.size := sIx_le _ _ (Nat.le_refl _) hi
 obtain ⟨os, hos, hcs, hds⟩ := id hs
 have hTs : s.TypeIs (.ref sl) "slice" := ⟨os, hos, hcs⟩
 unfold getItem
 try with_reducible refine wpAny_holding ?_
 first | refine wpAny_bind (wpAny_pure ?_) | skip
 refine wpAny_bind (wpAny_sequenceKey ht.typeIs (by decide) ?_)
 refine wpAny_bind (wpAny_callSpecial?_slot (name := Str.ofString "__getitem__") ht.typeIs PyProof.Rows.slot_tuple_getitem
  (wpAny_call_entry PyProof.Rows.slot_tuple_getitem ht.typeIs entry_tuple_getitem ?_ (args_tuple_getitem _ _)))
 show wpAny _ _ (Builtin.Tuple.tupleItemsOf (.ref t) >>= _) _ _ s
 refine wpAny_bind (tupleItemsOf_ ht ?_)
 refine wpAny_bind (wpAny_typeOf hTs ?_)
 rw [if_pos (by decide)]
 refine wpAny_bind (sliceApplied_gen hs pl pu ?_)
 have hno : ¬ ((((sIx items.size 0 lo : Nat) : Int) == 0 && (1 : Int) == 1 && (sIx items.size items.size hi - sIx items.size 0 lo) == items.size) = true) := by
  intro q
  rw [Bool.and_eq_true, Bool.and_eq_true] at q
  have q1 : ((sIx items.size 0 lo : Nat) : Int) = 0 := eq_of_beq q.1.1
  have q2 : sIx items.size items.size hi - sIx items.size 0 lo = items.size := eq_of_beq q.2
  exact hw ⟨by omega, by omega⟩
 show wpAny _ _ (if (((sIx items.size 0 lo : Nat) : Int) == 0 && (1 : Int) == 1 && (sIx items.size items.size hi - sIx items.size 0 lo) == items.size) = true then _ else _) _ _ s
 rw [if_neg hno, pick_gen]
 first
  | exact wpAny_bind (m := Builtin.Tuple.tupleExact _) (wpAny_newObj_type (wpAny_pure ⟨_, rfl, wpAny_pure h⟩) htake)
  | exact wpAny_bind (m := Builtin.Tuple.tupleExact _) (wpAny_newObj_type (wpAny_bind (wpAny_pure (wpAny_pure ⟨_, rfl, wpAny_pure h⟩))) htake)
  | exact wpAny_bind (wpAny_bind (m := Builtin.Tuple.tupleExact _) (wpAny_newObj_type (wpAny_pure (wpAny_pure ⟨_, rfl, wpAny_pure h⟩)) htake))
  | exact wpAny_bind (wpAny_bind (m := Builtin.Tuple.tupleExact _) (wpAny_newObj_type (wpAny_pure ⟨_, rfl, wpAny_pure h⟩) htake))
end
end HT
namespace L2
open PySem PySem.Spec PyProof.Rows
abbrev TO := St -> Hp -> (Option Int -> Hp -> Prop) -> Prop
def PO (X : Cx) (e : Option Expr) (t : TO) : Prop :=
 ∀ (pins : List (Addr × Obj)) (s : Shared) (σ : St) (H : Hp) (Q : Option Int -> Hp -> Prop), Inv X pins σ H s -> t σ H Q ->
  wpAny (model X.prog X.w) X.A (evalPart e X.env) (fun u s' => ∃ o H', Inv X pins σ H' s' /\ IsPart u o /\ Q o H') X.xe s
def tNoPart : TO := fun _ H Q => Q none H
theorem intsAre_of {ns : List Int} : ∀ {us : List Value}, Vals (ns.map V.int) us -> IntsAre us ns := by
 induction ns with
 | nil => intro us r; rw [List.map_nil] at r; cases r; exact .nil
 | cons n ns ih =>
  intro us r
  rw [List.map_cons] at r
  cases r with
  | cons r1 r2 =>
   obtain ⟨t, e⟩ := r1
   subst e
   exact .cons n t (ih r2)
section
variable {X : Cx} {e : Expr} {te : TE} {lo hi : Option Expr} {tl th : TO} {pos p2 : Pos}
theorem po_none : PO X none tNoPart := by
 intro pins s σ H Q I h
 rw [evalPart_none]
 exact wpAny_pure ⟨none, H, I, .none, h⟩
def SlR (X : Cx) (r : V -> Option Int -> Option Int -> Hp -> VK -> Prop) : Prop :=
 ∀ (pins : List (Addr × Obj)) (s : Shared) (σ : St) (H : Hp) (x : V) (v vl vu : Value) (lo hi : Option Int) (sl : Addr) (Q : VK), Inv X pins σ H s -> RelV x v -> s.heap.IsSliceOf sl vl vu .none -> IsPart vl lo -> IsPart vu hi -> r x lo hi H Q ->
  ∃ T id, typeLookup (.type T) "__getitem__" = pure (some (.builtin id)) /\ s.TypeIs v T /\ wpAny (model X.prog X.w) X.A (getItem v (.ref sl)) (EP X pins σ Q) X.xe s
def tSl (r : V -> Option Int -> Option Int -> Hp -> VK -> Prop) (te : TE) (tl th : TO) : TE := fun σ H Q => te σ H fun x H1 => tl σ H1 fun l H2 => th σ H2 fun u H3 => r x l u H3 Q
theorem pe_slice {r : V -> Option Int -> Option Int -> Hp -> VK -> Prop} (hr : SlR X r) (he : PE X e te) (hl : PO X lo tl) (hu : PO X hi th) : PE X (.Subscript e (.Slice lo hi none p2) pos) (tSl r te tl th) := by
 intro pins s σ H Q I h
 refine Subscript_ (thn (he pins s σ H _ I h) fun v s1 ⟨x, H1, I1, r1, q1⟩ => ?_)
 refine wpAny_Slice (thn (hl pins s1 σ H1 _ I1 q1) fun vl s2 ⟨l, H2, I2, pl, q2⟩ => thn (hu pins s2 σ H2 _ I2 q2) fun vu s3 ⟨u, H3, I3, pu, q3⟩ => ?_)
 rw [evalPart_none]
 refine wpAny_pure ?_
 have I4 : Inv X pins σ H3 { s3 with heap := s3.heap.push { cls := .type "slice", data := .fields #[vl, vu, .none] } } := I3.kept (t' := s3.toks) fun b ob q => Heap.get?_push_of_some _ q
 obtain ⟨T, id, hT, ht, hg⟩ := hr pins { s3 with heap := s3.heap.push { cls := .type "slice", data := .fields #[vl, vu, .none] } } σ H3 x v vl vu l u s3.heap.objs.size Q I4 r1 (Heap.IsSliceOf.new ..) pl pu q3
 show wpAny (model X.prog X.w) X.A (subscriptTail e (.Slice lo hi none p2) v (.ref s3.heap.objs.size)) (EP X pins σ Q) X.xe { s3 with heap := s3.heap.push { cls := .type "slice", data := .fields #[vl, vu, .none] } }
 exact tail_any (ops := [.ref s3.heap.objs.size, v]) ht hT hg (by with_unfolding_all rfl)
def cutV (xs : List V) (lo hi : Option Int) : List V := (xs.drop (HT.sIx xs.length 0 lo)).take (HT.sIx xs.length xs.length hi - HT.sIx xs.length 0 lo)
theorem cutV_length (xs : List V) (lo hi : Option Int) : (cutV xs lo hi).length <= xs.length := by
 unfold cutV
 rw [List.length_take, List.length_drop]
 omega
def rSlT (K : Fg) : V -> Option Int -> Option Int -> Hp -> VK -> Prop := fun x lo hi H Q => ∃ a xs, x = .ref a /\ SqT K H a xs /\
 ¬ (HT.sIx xs.length 0 lo = 0 /\ HT.sIx xs.length xs.length hi = xs.length) /\ ∀ p, H p = none -> Q (.ref p) (upd H p (.tup (cutV xs lo hi)))
theorem sl_tup : SlR X (rSlT X.K) := by
 intro pins s σ H x v vl vu lo hi sl Q I rx hs pl pu h
 obtain ⟨a, xs, rfl, hx, hw, q⟩ := h
 cases rx
 obtain ⟨its, r, ht, hz⟩ := I.tuple hx
 have hlen : its.toArray.size = xs.length := by rw [List.size_toArray]; exact r.length.symm
 refine ⟨"tuple", _, PyProof.Rows.slot_tuple_getitem.lookup, ht.typeIs, ?_⟩
 refine HT.getItem_tuple_cut ht hs pl pu (by rw [hlen]; exact hw) ?_ (by rw [hlen]; exact hz)
 rw [hlen]
 refine ⟨.ref s.heap.objs.size, _, I.laid (t' := s.toks) (o := .tup (cutV xs lo hi)) (fun b ob q => Heap.get?_push_of_some _ q) (Nat.le_refl _) ?_, rfl, q _ (I.hok.fresh (Nat.le_refl _))⟩
 exact ⟨Nat.le_trans (cutV_length xs lo hi) hz, _, (r.drop (HT.sIx xs.length 0 lo)).take (HT.sIx xs.length xs.length hi - HT.sIx xs.length 0 lo), IsTup.new _ _⟩
def rCatT (K : Fg) : R2 := fun x y H Q => ∃ a b xs ys, x = .ref a /\ y = .ref b /\ SqT K H a xs /\ SqT K H b ys /\ xs ≠ [] /\ xs.length + ys.length <= sizeLine /\
 (ys = [] -> Q (.ref a) H) /\ (ys ≠ [] -> ∀ p, H p = none -> Q (.ref p) (upd H p (.tup (xs ++ ys))))
theorem Vals.nil_iff {xs : List V} {us : List Value} (r : Vals xs us) : us = [] ↔ xs = [] := by
 cases r with
 | nil => simp
 | cons _ _ => simp
theorem op_catT : OpR X (binaryOp .Add) (rCatT X.K) := by
 intro pins s σ H x y v u Q I rx ry h
 obtain ⟨a, b, xs, ys, rfl, rfl, ha, hb, hx, hz, q1, q2⟩ := h
 cases rx
 cases ry
 obtain ⟨its, r1, p1, _⟩ := I.tuple ha
 obtain ⟨its2, r2, p2, _⟩ := I.tuple hb
 refine HT.cat_tup p1 p2 (fun z => hx (r1.nil_iff.mp z)) (fun z => ⟨.ref a, H, I, rfl, q1 (r2.nil_iff.mp z)⟩) (fun z => ?_) (by rw [<- r1.length, <- r2.length]; exact hz)
 refine ⟨.ref s.heap.objs.size, _, I.laid (t' := s.toks) (o := .tup (xs ++ ys)) (fun b ob q => Heap.get?_push_of_some _ q) (Nat.le_refl _) ?_, rfl, q2 (fun w => z (r2.nil_iff.mpr w)) _ (I.hok.fresh (Nat.le_refl _))⟩
 exact ⟨by rw [List.length_append]; exact hz, _, r1.append r2, IsTup.new _ _⟩
end
end L2
namespace L2
open PySem PySem.Spec PyProof.Rows
def ixN (n : Nat) (i : Int) : Option Nat := if 0 <= i then (if i < n then some i.toNat else none) else if -(n : Int) <= i then some (i + n).toNat else none
def atI {α : Type} (xs : List α) (i : Int) : Option α := (ixN xs.length i).bind fun j => xs[j]?
theorem ixN_seq {n : Nat} {i : Int} {j : Nat} (h : ixN n i = some j) : seqIndex? i n = some j /\ j < n /\ -(n : Int) <= i /\ i < n := by
 unfold ixN at h
 by_cases h0 : 0 <= i
 ·rw [if_pos h0] at h
  by_cases h1 : i < n
  ·rw [if_pos h1] at h
   have e : i.toNat = j := Option.some.inj h
   exact ⟨by rw [seqIndex_of h0 h1, e], by omega, by omega, h1⟩
  ·rw [if_neg h1] at h; cases h
 ·rw [if_neg h0] at h
  by_cases h1 : -(n : Int) <= i
  ·rw [if_pos h1] at h
   have e : (i + n).toNat = j := Option.some.inj h
   exact ⟨by rw [seqIndex_neg (by omega) h1, e], by omega, h1, by omega⟩
  ·rw [if_neg h1] at h; cases h
theorem atI_get {α : Type} {xs : List α} {i : Int} {v : α} (h : atI xs i = some v) : ∃ j, seqIndex? i xs.length = some j /\ xs[j]? = some v /\ j < xs.length /\ -(xs.length : Int) <= i /\ i < xs.length := by
 unfold atI at h
 cases e : ixN xs.length i with
 | none => rw [e] at h; cases h
 | some j =>
  rw [e] at h
  obtain ⟨h1, h2, h3, h4⟩ := ixN_seq e
  exact ⟨j, h1, h, h2, h3, h4⟩
theorem atI_nat {α : Type} {xs : List α} {j : Nat} {v : α} (h : xs[j]? = some v) : atI xs (j : Int) = some v := by
 have hj : j < xs.length := (List.getElem?_eq_some_iff.mp h).1
 have e : ixN xs.length (j : Int) = some j := by
  unfold ixN
  rw [if_pos (by omega), if_pos (by omega)]; simp
 unfold atI; rw [e]; exact h
def PlainIx (b : Expr) : Prop := ∀ o i, subscripted b false o i = operate [o, i] (getItem o i)
def IxR (X : Cx) (r : R2) : Prop :=
 ∀ (value slice : Expr) (pins : List (Addr × Obj)) (s : Shared) (σ : St) (H : Hp) (x y : V) (v u : Value) (Q : VK), Inv X pins σ H s -> RelV x v -> RelV y u -> r x y H Q ->
  subscripted slice false v u = operate [v, u] (getItem v u) -> wpAny (model X.prog X.w) X.A (subscriptTail value slice v u) (EP X pins σ Q) X.xe s
def MtR (X : Cx) (id : String) (r : V -> List V -> Hp -> VK -> Prop) : Prop :=
 ∀ (pins : List (Addr × Obj)) (s : Shared) (σ : St) (H : Hp) (x : V) (xs : List V) (v : Value) (us : List Value) (Q : VK), Inv X pins σ H s -> RelV x v -> Vals xs us -> r x xs H Q ->
  wpAny (model X.prog X.w) X.A (call (.builtin id) (v :: us)) (EP X pins σ Q) X.xe s
section
variable {X : Cx} {a b : Expr} {ta tb : TE} {pos : Pos}
theorem pe_ix {r : R2} (hr : IxR X r) (ha : PE X a ta) (hb : PE X b tb) (hs : PlainIx b) : PE X (.Subscript a b pos) (tOp r ta tb) := by
 intro pins s σ H Q I h
 exact Subscript_ (binT ha hb I h fun v u s2 x y H2 I2 rx ry q => hr a b pins s2 σ H2 x y v u Q I2 rx ry q (hs _ _))
def rIxL (K : Fg) : R2 := fun x y H Q => ∃ p xs i v, x = .ref p /\ y = .int i /\ SqL K H p xs /\ atI xs i = some v /\ Q v H
def rIxT (K : Fg) : R2 := fun x y H Q => ∃ p xs i v, x = .ref p /\ y = .int i /\ SqT K H p xs /\ atI xs i = some v /\ Q v H
def rIxS : R2 := fun x y H Q => ∃ z i c, x = .str z /\ y = .int i /\ z.length <= sizeLine /\ atI z.cps.toList i = some c /\ Q (.str ⟨#[c]⟩) H
theorem ix_list : IxR X (rIxL X.K) := by
 intro value slice pins s σ H x y v u Q I rx ry h hs
 obtain ⟨p, xs, i, z, rfl, rfl, hq, he, q⟩ := h
 cases rx
 obtain ⟨t, rfl⟩ := ry
 obtain ⟨its, r, pl, hz⟩ := I.list hq
 obtain ⟨j, h1, h2, h3, h4, h5⟩ := atI_get he
 obtain ⟨w, ew, rw'⟩ := r.get h2
 have hl := r.length
 have hn := line63
 have fin : EP X pins σ Q w s := ⟨z, H, I, rw', q⟩
 by_cases h0 : 0 <= i
 ·have hj : i.toNat = j := by
   rw [seqIndex_of h0 h5] at h1
   exact Option.some.inj h1
  exact item_listR pl.isList h0 (by omega) (by rw [hj]; simpa using ew) fin hs
 ·have hj : (i + (its.toArray.size : Int)).toNat = j := by
   rw [seqIndex_neg (by omega) h4] at h1
   rw [List.size_toArray, <- hl]
   exact Option.some.inj h1
  exact subscriptTail_builtinR (x := w) pl.isList.typeIs slot_list_getitem.lookup
   (wpAny_getItem_list_neg (Q := fun r s' => r = w /\ EP X pins σ Q r s') pl.isList (by omega) (by rw [List.size_toArray] <;> omega) (by omega) (by rw [hj]; simpa using ew) ⟨rfl, fin⟩) hs
theorem ix_tup : IxR X (rIxT X.K) := by
 intro value slice pins s σ H x y v u Q I rx ry h hs
 obtain ⟨p, xs, i, z, rfl, rfl, hq, he, q⟩ := h
 cases rx
 obtain ⟨t, rfl⟩ := ry
 obtain ⟨its, r, pl, hz⟩ := I.tuple hq
 obtain ⟨j, h1, h2, h3, h4, h5⟩ := atI_get he
 obtain ⟨w, ew, rw'⟩ := r.get h2
 have hl := r.length
 have hn := line63
 have fin : EP X pins σ Q w s := ⟨z, H, I, rw', q⟩
 exact subscriptTail_builtinR (x := w) pl.typeIs slot_tuple_getitem.lookup
  (getItem_tuple (j := j) (Q := fun r s' => r = w /\ EP X pins σ Q r s') pl (by omega) (by omega) (by rw [List.size_toArray, <- hl]; exact h1) (by simpa using ew) ⟨rfl, fin⟩) hs
theorem ix_str : IxR X rIxS := by
 intro value slice pins s σ H x y v u Q I rx ry h hs
 obtain ⟨z, i, c, rfl, rfl, hz, he, q⟩ := h
 obtain ⟨t, rfl⟩ := rx
 obtain ⟨t', rfl⟩ := ry
 obtain ⟨j, h1, h2, h3, h4, h5⟩ := atI_get he
 have hl : z.cps.toList.length = z.length := by simp [Str.length]
 rw [hl] at h1 h4 h5
 have hn := line63
 exact tail_any (typeIs_str s z t) slot_str_getitem.lookup (getItem_str (c := c) (by
  have e1 : decide (i < -(2 ^ 63 : Int)) = false := decide_eq_false (by omega)
  have e2 : decide (i >= 2 ^ 63) = false := decide_eq_false (by omega)
  rw [e1, e2, Bool.or_false]) (by rw [h1]; simpa using h2) ⟨.str ⟨#[c]⟩, H, I.tok _, ⟨_, rfl⟩, q⟩) hs
theorem mapSeq_set (its : List Value) (n j : Nat) (u : Value) : Obj.mapSeq (·.setIfInBounds j u) { cls := .type "list", data := .seq its.toArray n } = { cls := .type "list", data := .seq (its.set j u).toArray n } := by
 simp [Obj.mapSeq]
theorem Inv.lst {pins : List (Addr × Obj)} {σ : St} {H : Hp} {s : Shared} {p : Addr} {xs : List V} (I : Inv X pins σ H s) (h : H p = some (.lst xs)) :
  ∃ (its : List Value) (n : Nat), Vals xs its /\ s.heap.get? p = some { cls := .type "list", data := .seq its.toArray n } /\ xs.length <= sizeLine := by
 obtain ⟨z, its, n, r, e⟩ := I.hok p _ h
 exact ⟨its, n, r, e, z⟩
theorem Inv.lstUpd {pins : List (Addr × Obj)} {σ : St} {H : Hp} {s : Shared} {p : Addr} {xs ys : List V} {its its' : List Value} {n n' : Nat} {f : Obj -> Obj} (I : Inv X pins σ H s) (h : H p = some (.lst xs))
  (ho : s.heap.get? p = some { cls := .type "list", data := .seq its.toArray n }) (hf : f { cls := .type "list", data := .seq its.toArray n } = { cls := .type "list", data := .seq its'.toArray n' }) (r : Vals ys its') (hz : ys.length <= sizeLine) (t : Nat) :
  Inv X pins σ (upd H p (.lst ys)) { s with heap := s.heap.update p f, toks := t } := by
 have e : (s.heap.update p f).get? p = some { cls := .type "list", data := .seq its'.toArray n' } := by
  rw [Heap.get?_update_self f ho (by rw [hf] <;> rfl), hf]
 refine I.write (x := p) (e := p) (by rw [h]; trivial) (.inl rfl) (fun b u hb q => (Heap.get?_update_other _ _ (Ne.symm hb)).trans q) ⟨_, e⟩ ?_
 exact ⟨hz, its', n', r, e⟩
def rSetL : V -> V -> V -> Hp -> (Hp -> Prop) -> Prop := fun o i v H Q => ∃ p xs k j, o = .ref p /\ i = .int k /\ H p = some (.lst xs) /\ ixN xs.length k = some j /\ Q (upd H p (.lst (xs.set j v)))
theorem set_list : PSet X rSetL := by
 intro pins s σ H o i v ov iv u Q I ro ri rv h
 obtain ⟨p, xs, k, j, rfl, rfl, hp, hj, q⟩ := h
 cases ro
 obtain ⟨t, rfl⟩ := ri
 obtain ⟨its, n, r, ho, hz⟩ := I.lst hp
 obtain ⟨h1, h2, h3, h4⟩ := ixN_seq hj
 have hl := r.length
 have hn := line63
 have I' : Inv X pins σ (upd H p (.lst (xs.set j v))) { s with heap := s.heap.update p (Obj.mapSeq (·.setIfInBounds j u)) } :=
  I.lstUpd hp ho (mapSeq_set its n j u) (r.set rv j) (by rw [List.length_set]; exact hz) s.toks
 by_cases h0 : 0 <= k
 ·have hk : k.toNat = j := by
   rw [seqIndex_of h0 h4] at h1
   exact Option.some.inj h1
  exact PySem.W.ki_setAt ho h0 (by omega) (by rw [List.size_toArray, <- hl]; exact h4) (by rw [hk]; exact ⟨_, I', q⟩)
 ·have hk : (k + (its.toArray.size : Int)).toNat = j := by
   rw [seqIndex_neg (by omega) h3] at h1
   rw [List.size_toArray, <- hl]
   exact Option.some.inj h1
  exact PySem.W.ki_setBack ho (by omega) (by rw [List.size_toArray, <- hl]; exact h3) (by omega) (by rw [hk]; exact ⟨_, I', q⟩)
theorem slice_bounds (lo hi : Option Int) (n : Nat) : (sliceBounds lo hi none n).1 = ((HT.sIx n 0 lo : Nat) : Int) /\ (sliceBounds lo hi none n).2.1 = ((HT.sIx n n hi : Nat) : Int) /\ (sliceBounds lo hi none n).2.2 = 1 := by
 refine ⟨?_, ?_, rfl⟩
 ·cases lo with
  | none => simp [sliceBounds, HT.sIx]
  | some i =>
   simp only [sliceBounds, HT.sIx, Option.getD_none, show (1 : Int) > 0 by decide, if_true]
   by_cases h : i < 0
   ·simp only [h, if_true] <;> omega
   ·simp only [h, if_false] <;> omega
 ·cases hi with
  | none => simp [sliceBounds, HT.sIx]
  | some i =>
   simp only [sliceBounds, HT.sIx, Option.getD_none, show (1 : Int) > 0 by decide, if_true]
   by_cases h : i < 0
   ·simp only [h, if_true] <;> omega
   ·simp only [h, if_false] <;> omega
theorem slicePick_cut (its : List Value) (lo hi : Option Int) : slicePick its.toArray lo hi none = ((its.drop (HT.sIx its.length 0 lo)).take (HT.sIx its.length its.length hi - HT.sIx its.length 0 lo)).toArray := by
 obtain ⟨h1, h2, h3⟩ := slice_bounds lo hi its.toArray.size
 unfold slicePick
 rw [h1, h2, h3]
 simp only [sliceRange_one, pick_run, List.size_toArray] <;> rfl
def rSlL (K : Fg) : V -> Option Int -> Option Int -> Hp -> VK -> Prop := fun x lo hi H Q => ∃ a xs, x = .ref a /\ SqL K H a xs /\ ∀ p, H p = none -> Q (.ref p) (upd H p (.lst (cutV xs lo hi)))
theorem sl_list : SlR X (rSlL X.K) := by
 intro pins s σ H x v vl vu lo hi sl Q I rx hs pl pu h
 obtain ⟨a, xs, rfl, hx, q⟩ := h
 cases rx
 obtain ⟨its, r, ht, hz⟩ := I.list hx
 have hlen := r.length
 refine ⟨"list", _, slot_list_getitem.lookup, ht.isList.typeIs, ?_⟩
 refine wpAny_getItem_list_slice ht.isList hs pl pu .none (by simp) ?_ (by rw [List.size_toArray] <;> omega)
 rw [slicePick_cut, <- hlen]
 refine ⟨.ref s.heap.objs.size, _, I.laid (t' := s.toks) (o := .lst (cutV xs lo hi)) (fun b ob q => Heap.get?_push_of_some _ q) (Nat.le_refl _) ?_, rfl, q _ (I.hok.fresh (Nat.le_refl _))⟩
 exact ⟨Nat.le_trans (cutV_length xs lo hi) hz, _, 0, (r.drop (HT.sIx xs.length 0 lo)).take (HT.sIx xs.length xs.length hi - HT.sIx xs.length 0 lo), Heap.get?_push_size _ rfl⟩
def flatV : V -> Bool
 | .non => true
 | .bl _ => true
 | .int _ => true
 | .str _ => true
 | _ => false
def eqV : V -> V -> Bool
 | .non, .non => true
 | .bl a, .bl b => a == b
 | .bl a, .int b => (if a then 1 else 0) == b
 | .int a, .bl b => a == (if b then 1 else 0)
 | .int a, .int b => a == b
 | .str a, .str b => a == b
 | _, _ => false
theorem eqAt_V {A : Around} {s : Shared} {y x : V} {u v : Value} (ry : RelV y u) (rx : RelV x v) (fy : flatV y = true) (fx : flatV x = true) : SeqAt.EqAt A s u v (eqV y x) := by
 cases y with
 | non =>
  cases ry
  cases x with
  | non => cases rx; exact SeqAt.EqAt.same _
  | bl b => cases rx; exact SeqAt.EqAt.none_bool b
  | int b => obtain ⟨t, rfl⟩ := rx; exact SeqAt.EqAt.none_int b t
  | str b => obtain ⟨t, rfl⟩ := rx; exact SeqAt.EqAt.none_str b t
  | _ => exact absurd (show false = true from fx) Bool.false_ne_true
 | bl a =>
  cases ry
  cases x with
  | non => cases rx; exact SeqAt.EqAt.bool_none a
  | bl b => cases rx; exact SeqAt.EqAt.bool_bool a b
  | int b => obtain ⟨t, rfl⟩ := rx; exact SeqAt.EqAt.bool_int a b t
  | str b => obtain ⟨t, rfl⟩ := rx; exact SeqAt.EqAt.bool_str a b t
  | _ => exact absurd (show false = true from fx) Bool.false_ne_true
 | int a =>
  obtain ⟨t', rfl⟩ := ry
  cases x with
  | non => cases rx; exact SeqAt.EqAt.int_none a t'
  | bl b => cases rx; exact SeqAt.EqAt.int_bool a t' b
  | int b => obtain ⟨t, rfl⟩ := rx; exact SeqAt.EqAt.int_int a t' b t
  | str b => obtain ⟨t, rfl⟩ := rx; exact SeqAt.EqAt.int_str a t' b t
  | _ => exact absurd (show false = true from fx) Bool.false_ne_true
 | str a =>
  obtain ⟨t', rfl⟩ := ry
  cases x with
  | non => cases rx; exact SeqAt.EqAt.str_none a t'
  | bl b => cases rx; exact SeqAt.EqAt.str_bool a t' b
  | int b => obtain ⟨t, rfl⟩ := rx; exact SeqAt.EqAt.str_int a t' b t
  | str b => obtain ⟨t, rfl⟩ := rx; exact SeqAt.EqAt.str_str a t' b t
  | _ => exact absurd (show false = true from fx) Bool.false_ne_true
 | _ => exact absurd (show false = true from fy) Bool.false_ne_true
def eqU (x : V) (u : Value) : Bool := match u with
 | .none => eqV .non x
 | .bool b => eqV (.bl b) x
 | .int i _ => eqV (.int i) x
 | .str z _ => eqV (.str z) x
 | _ => false
theorem eqU_of {x y : V} {u : Value} (r : RelV y u) (f : flatV y = true) : eqU x u = eqV y x := by
 cases y with
 | non => cases r; rfl
 | bl b => cases r; rfl
 | int i => obtain ⟨t, rfl⟩ := r; rfl
 | str z => obtain ⟨t, rfl⟩ := r; rfl
 | _ => exact absurd (show false = true from f) Bool.false_ne_true
theorem any_eqU {x : V} : ∀ {xs : List V} {us : List Value}, Vals xs us -> xs.all flatV = true -> us.any (eqU x) = xs.any fun y => eqV y x
 | _, _, .nil, _ => rfl
 | y :: xs, u :: us, .cons r t, f => by
  rw [List.all_cons, Bool.and_eq_true] at f
  rw [List.any_cons, List.any_cons, eqU_of r f.1, any_eqU t f.2]
theorem mem_eqAt {A : Around} {s : Shared} {x : V} {v : Value} (rx : RelV x v) (fx : flatV x = true) : ∀ {xs : List V} {us : List Value}, Vals xs us -> xs.all flatV = true -> ∀ u ∈ us, SeqAt.EqAt A s u v (eqU x u)
 | _, _, .nil, _ => fun u hu => by cases hu
 | y :: xs, u :: us, .cons r t, f => fun u' hu => by
  rw [List.all_cons, Bool.and_eq_true] at f
  rcases List.mem_cons.mp hu with rfl | hu
  ·rw [eqU_of r f.1]; exact eqAt_V r rx f.1 fx
  ·exact mem_eqAt rx fx t f.2 u' hu
def inV (x : V) (xs : List V) : Bool := xs.any fun y => eqV y x
def rIn (K : Fg) (neg : Bool) : R2 := fun x y H Q => ∃ p xs, y = .ref p /\ (SqL K H p xs \/ SqT K H p xs) /\ flatV x = true /\ xs.all flatV = true /\ Q (.bl (if neg then !inV x xs else inV x xs)) H
theorem op_in_seq : OpR X (compareOp .In) (rIn X.K false) := by
 intro pins s σ H x y v u Q I rx ry h
 obtain ⟨p, xs, rfl, hq, fx, fs, q⟩ := h
 cases ry
 rcases hq with hq | hq
 ·obtain ⟨its, r, pl, hz⟩ := I.list hq
  refine SeqAt.in_listAt (eqU x) pl.isList (fun w hw => mem_eqAt rx fx r fs w (by simpa using hw)) ⟨.bl _, H, I, rfl, ?_⟩
  rw [show its.toArray.any (eqU x) = its.any (eqU x) by simp, any_eqU r fs]
  exact q
 ·obtain ⟨its, r, pl, hz⟩ := I.tuple hq
  refine SeqAt.in_tupleAt (eqU x) pl (fun w hw => mem_eqAt rx fx r fs w (by simpa using hw)) ⟨.bl _, H, I, rfl, ?_⟩
  rw [show its.toArray.any (eqU x) = its.any (eqU x) by simp, any_eqU r fs]
  exact q
theorem op_notIn_seq : OpR X (compareOp .NotIn) (rIn X.K true) := by
 intro pins s σ H x y v u Q I rx ry h
 obtain ⟨p, xs, rfl, hq, fx, fs, q⟩ := h
 cases ry
 rcases hq with hq | hq
 ·obtain ⟨its, r, pl, hz⟩ := I.list hq
  refine SeqAt.notIn_listAt (eqU x) pl.isList (fun w hw => mem_eqAt rx fx r fs w (by simpa using hw)) ⟨.bl _, H, I, rfl, ?_⟩
  rw [show its.toArray.any (eqU x) = its.any (eqU x) by simp, any_eqU r fs]
  exact q
 ·obtain ⟨its, r, pl, hz⟩ := I.tuple hq
  refine SeqAt.notIn_tupleAt (eqU x) pl (fun w hw => mem_eqAt rx fx r fs w (by simpa using hw)) ⟨.bl _, H, I, rfl, ?_⟩
  rw [show its.toArray.any (eqU x) = its.any (eqU x) by simp, any_eqU r fs]
  exact q
theorem op_notIn_str : OpR X (compareOp .NotIn) (fun x y H Q => ∃ i j, x = .str i /\ y = .str j /\ Q (.bl (!(!(Builtin.Str.occurrences j i 0 j.length 1).isEmpty))) H) := by
 intro pins s σ H x y v u Q I rx ry h
 obtain ⟨i, j, rfl, rfl, q⟩ := h
 obtain ⟨t, rfl⟩ := rx
 obtain ⟨t', rfl⟩ := ry
 exact notIn_str ⟨.bl _, H, I, rfl, q⟩
theorem call_list_of : CallR X (.type "list") (fun xs H Q => ∃ p ys, xs = [.ref p] /\ (SqL X.K H p ys \/ SqT X.K H p ys) /\ ∀ l, H l = none -> Q (.ref l) (upd H l (.lst ys))) := by
 intro pins s σ H xs us Q I r h
 obtain ⟨p, ys, rfl, hq, q⟩ := h
 obtain ⟨u, rfl, rx⟩ := vals1 r
 cases rx
 have fin : ∀ (its : List Value), Vals ys its -> ys.length <= sizeLine -> ∀ (h' : Heap) (c' : Nat), (∀ b o', s.heap.get? b = some o' -> h'.get? b = some o') ->
   h'.get? s.heap.objs.size = some { cls := .type "list", dict := none, data := .seq its.toArray c', slots := #[] } -> EP X pins σ Q (.ref s.heap.objs.size) { s with heap := h' } := fun its r' hz h' c' kp e =>
  ⟨.ref s.heap.objs.size, _, I.laid (t' := s.toks) kp (Nat.le_refl _) (show ObjOk X.prog X.w _ h' _ (.lst ys) from ⟨hz, its, c', r', e⟩), rfl, q _ (I.hok.fresh (Nat.le_refl _))⟩
 rcases hq with hq | hq
 ·obtain ⟨its, r', pl, hz⟩ := I.list hq
  have hlen := r'.length
  obtain ⟨o, ho, hc, n, hd⟩ := pl.isList
  exact call_list_seq p (.inl rfl) ho hc hd (fun h' c' kp e => fin its r' hz h' c' kp e) (by simp only [List.size_toArray] <;> omega)
 ·obtain ⟨its, r', pl, hz⟩ := I.tuple hq
  have hlen := r'.length
  obtain ⟨o, ho, hc, n, hd⟩ := pl
  exact call_list_seq p (.inr rfl) ho hc hd (fun h' c' kp e => fin its r' hz h' c' kp e) (by simp only [List.size_toArray] <;> omega)
theorem call_tuple_of : CallR X (.type "tuple") (fun xs H Q => ∃ p ys, xs = [.ref p] /\ ((SqL X.K H p ys /\ ∀ l, H l = none -> Q (.ref l) (upd H l (.tup ys))) \/ (SqT X.K H p ys /\ Q (.ref p) H))) := by
 intro pins s σ H xs us Q I r h
 obtain ⟨p, ys, rfl, h⟩ := h
 obtain ⟨u, rfl, rx⟩ := vals1 r
 cases rx
 rcases h with ⟨hq, q⟩ | ⟨hq, q⟩
 ·obtain ⟨its, r', pl, hz⟩ := I.list hq
  have hlen := r'.length
  refine call_tuple_list pl.isList (fun h' kp => ?_) (by simp only [List.size_toArray] <;> omega)
  have I1 : Inv X pins σ H { s with heap := h' } := I.kept (t' := s.toks) kp
  have I2 : Inv X pins σ (upd H h'.objs.size (.tup ys)) { s with heap := h'.push { cls := .type "tuple", data := .seq its.toArray } } :=
   I1.laid (t' := s.toks) (fun b o e => Heap.get?_push_of_some _ e) (Nat.le_refl _) (show ObjOk X.prog X.w _ _ _ (.tup ys) from ⟨hz, its, r', IsTup.new _ _⟩)
  exact ⟨.ref h'.objs.size, _, I2, rfl, q _ (I1.hok.fresh (Nat.le_refl _))⟩
 ·obtain ⟨its, r', pl, hz⟩ := I.tuple hq
  exact call_tuple_same pl ⟨.ref p, H, I, rfl, q⟩
def tyV (K : Fg) (T : String) (x : V) (H : Hp) : Prop := match x with
 | .str _ => T = "str"
 | .int _ => T = "int"
 | .ref p => (T = "list" /\ ∃ xs, SqL K H p xs) \/ (T = "tuple" /\ ∃ o, K.lookup p = some o /\ o.cls = .type "tuple" /\ o.dict = none) \/
   (T = "dict" /\ ((∃ kvs, H p = some (.dK kvs)) \/ ∃ kvs, H p = some (.dT kvs))) \/ (T = "set" /\ ∃ S n, H p = some (.set S n))
 | _ => False
theorem tyV_is {pins : List (Addr × Obj)} {σ : St} {H : Hp} {s : Shared} {T : String} {x : V} {v : Value} (I : Inv X pins σ H s) (r : RelV x v) (ty : tyV X.K T x H) :
  s.TypeIs v T /\ ∀ a, v = .ref a -> ∃ ob, s.heap.get? a = some ob /\ ob.dict = none := by
 cases x with
 | str z =>
  obtain ⟨t, rfl⟩ := r
  cases (show T = "str" from ty)
  exact ⟨typeIs_str s z t, fun _ e => nomatch e⟩
 | int i =>
  obtain ⟨t, rfl⟩ := r
  cases (show T = "int" from ty)
  exact ⟨typeIs_int s i t, fun _ e => nomatch e⟩
 | ref p =>
  cases r
  rcases ty with ⟨rfl, xs, hq⟩ | ⟨rfl, o, hk, hc, hd⟩ | ⟨rfl, hk⟩ | ⟨rfl, S, n, hk⟩
  ·obtain ⟨its, _, pl, _⟩ := I.list hq
   refine ⟨pl.isList.typeIs, fun a e => ?_⟩
   cases e
   obtain ⟨o, n, e, c, hd, _⟩ := pl
   exact ⟨o, e, hd⟩
  ·refine ⟨⟨o, I.kIn p o hk, hc⟩, fun a e => ?_⟩
   cases e
   exact ⟨o, I.kIn _ o hk, hd⟩
  ·have z : ∃ o, s.heap.get? p = some o /\ o.ExactDict := by
    rcases hk with ⟨kvs, hk⟩ | ⟨kvs, hk⟩
    ·obtain ⟨_, _, _, _, o, _, _, e, ex, _⟩ := I.hok p _ hk
     exact ⟨o, e, ex⟩
    ·obtain ⟨_, _, _, _, o, _, _, e, ex, _⟩ := I.hok p _ hk
     exact ⟨o, e, ex⟩
   obtain ⟨o, e, ex⟩ := z
   refine ⟨⟨o, e, ex.1⟩, fun a e2 => ?_⟩
   cases e2
   exact ⟨o, e, ex.2.1⟩
  ·obtain ⟨o, _, _, _, e, ex, _⟩ := I.hok p _ hk
   refine ⟨⟨o, e, ex.1⟩, fun a e2 => ?_⟩
   cases e2
   exact ⟨o, e, ex.2.1⟩
 | _ => exact False.elim ty
variable {o e : Expr} {es : List Expr} {to : TE} {t : TA} {name : Str} {apos cpos : Pos} {T id : String} {r : V -> List V -> Hp -> VK -> Prop}
end
end L2
namespace L2
open PySem PySem.Spec PyProof.Rows
def MtM (X : Cx) (id : String) (r : V -> List V -> Hp -> VK -> Prop) : Prop :=
 ∀ (pins : List (Addr × Obj)) (s : Shared) (σ : St) (H : Hp) (x : V) (xs : List V) (v : Value) (us : List Value) (Q : VK), Inv X pins σ H s -> RelV x v -> Vals xs us -> r x xs H Q ->
  wpAny (model X.prog X.w) X.A (call (.builtin id) (v :: us)) (EP X pins σ Q) X.xe s
theorem Vals.one : ∀ {x : V} {us : List Value}, Vals [x] us -> ∃ u, us = [u] /\ RelV x u
 | _, _, .cons r .nil => ⟨_, rfl, r⟩
theorem Vals.two : ∀ {x y : V} {us : List Value}, Vals [x, y] us -> ∃ u v, us = [u, v] /\ RelV x u /\ RelV y v
 | _, _, _, .cons r (.cons q .nil) => ⟨_, _, rfl, r, q⟩
theorem Vals.zero : ∀ {us : List Value}, Vals [] us -> us = []
 | _, .nil => rfl
theorem Vals.reverse {xs : List V} {us : List Value} (h : Vals xs us) : Vals xs.reverse us.reverse := by
 induction h with
 | nil => exact .nil
 | cons r t ih => rw [List.reverse_cons, List.reverse_cons]; exact Vals.append ih (.cons r .nil)
theorem Vals.rep {xs : List V} {us : List Value} (h : Vals xs us) : ∀ k : Nat, Vals (List.replicate k xs).flatten (List.replicate k us).flatten
 | 0 => .nil
 | k + 1 => by
  rw [List.replicate_succ, List.replicate_succ, List.flatten_cons, List.flatten_cons]
  exact Vals.append h (Vals.rep h k)
theorem foldl_rep (its : List Value) : ∀ (k : Nat) (acc : List Value),
  List.foldl (fun x1 x2 => x1 ++ x2) acc.toArray (List.replicate k its.toArray) = (acc ++ (List.replicate k its).flatten).toArray
 | 0, acc => by simp
 | k + 1, acc => by
  have e : acc.toArray ++ its.toArray = (acc ++ its).toArray := by simp
  have e2 : (acc ++ its) ++ (List.replicate k its).flatten = acc ++ (List.replicate (k + 1) its).flatten := by
   rw [List.replicate_succ, List.flatten_cons, List.append_assoc]
  rw [<- e2, <- foldl_rep its k (acc ++ its), <- e, List.replicate_succ, List.foldl_cons]
section
variable {X : Cx} {pins : List (Addr × Obj)} {σ : St} {H : Hp} {s : Shared} {l b : Addr} {xs ys zs : List V}
theorem Inv.lset {its its' : List Value} {n : Nat} {f : Array Value -> Array Value} {t' : Nat} (I : Inv X pins σ H s) (hH : H l = some (.lst xs))
  (e : s.heap.get? l = some { cls := .type "list", data := .seq its.toArray n }) (hf : f its.toArray = its'.toArray) (hv : Vals ys its') (hz : ys.length <= sizeLine) :
  Inv X pins σ (upd H l (.lst ys)) { s with heap := s.heap.update l (Obj.mapSeq f), toks := t' } := by
 have q := PySem.IsL.update e f
 rw [hf] at q
 refine I.write (x := l) (e := l) (by rw [hH]; exact trivial) (.inl rfl) (fun b' u hb hu => (Heap.get?_update_other s.heap (Obj.mapSeq f) (Ne.symm hb)).trans hu) ⟨_, q⟩ ?_
 exact ⟨hz, its', _, hv, q⟩
theorem Inv.lnew {its : List Value} {t' : Nat} (I : Inv X pins σ H s) (hv : Vals ys its) (hz : ys.length <= sizeLine) :
  Inv X pins σ (upd H s.heap.objs.size (.lst ys)) { s with heap := s.heap.push { cls := .type "list", data := .seq its.toArray }, toks := t' } :=
 I.laid (fun _ _ q => Heap.get?_push_of_some _ q) (Nat.le_refl _) ⟨hz, its, 0, hv, Heap.get?_push_size _ rfl⟩
theorem Inv.fresh (I : Inv X pins σ H s) : H s.heap.objs.size = none := I.hok.fresh (Nat.le_refl _)
theorem Inv.lstM (I : Inv X pins σ H s) (hH : H l = some (.lst xs)) : xs.length <= sizeLine /\ ∃ (its : List Value) (n : Nat), Vals xs its /\ xs.length = its.length /\ s.heap.get? l = some { cls := .type "list", data := .seq its.toArray n } := by
 obtain ⟨z, its, n, r, e⟩ := I.hok l _ hH
 exact ⟨z, its, n, r, r.length, e⟩
theorem notLongL {n : Nat} (h : n <= sizeLine) : Builtin.List.listTooLong n = false := by
 unfold Builtin.List.listTooLong
 exact decide_eq_false (by omega)
end
section
variable {X : Cx}
def rAppend : V -> List V -> Hp -> VK -> Prop := fun x vs H Q => ∃ l xs y, x = .ref l /\ vs = [y] /\ H l = some (.lst xs) /\ xs.length < sizeLine /\ Q .non (upd H l (.lst (xs ++ [y])))
theorem mt_append : MtM X "list.append" rAppend := by
 intro pins s σ H x vs v us Q I rx rv h
 obtain ⟨l, xs, y, rfl, rfl, hH, hz, q⟩ := h
 cases rx
 obtain ⟨u, rfl, ru⟩ := rv.one
 obtain ⟨z, its, n, r, hl, e⟩ := I.lstM hH
 refine call_meets F.slot_list_append ⟨_, e, rfl⟩ F.entry_list_append (F.args_list_append_2 _ _) (PySem.list_append l its.toArray n u (by rw [List.size_toArray]; omega)) ⟨e, ?_⟩
 refine ⟨.non, _, I.lset (its' := its ++ [u]) hH e (by simp) (r.append (.cons ru .nil)) ?_, rfl, q⟩
 rw [List.length_append, List.length_singleton]
 omega
def rReverse : V -> List V -> Hp -> VK -> Prop := fun x vs H Q => ∃ l xs, x = .ref l /\ vs = [] /\ H l = some (.lst xs) /\ Q .non (upd H l (.lst xs.reverse))
theorem mt_reverse : MtM X "list.reverse" rReverse := by
 intro pins s σ H x vs v us Q I rx rv h
 obtain ⟨l, xs, rfl, rfl, hH, q⟩ := h
 cases rx
 have hus := rv.zero
 subst hus
 obtain ⟨z, its, n, r, hl, e⟩ := I.lstM hH
 refine call_meets F.slot_list_reverse ⟨_, e, rfl⟩ F.entry_list_reverse (F.args_list_reverse_1 _) (AutoSeq1.list_reverse_list_0 l its.toArray n (by rw [List.size_toArray]; omega)) ⟨e, ?_⟩
 refine ⟨.non, _, I.lset (its' := its.reverse) hH e (by simp) r.reverse ?_, rfl, q⟩
 rw [List.length_reverse]
 omega
def rCat : R2 := fun x y H Q => ∃ l b xs zs, x = .ref l /\ y = .ref b /\ H l = some (.lst xs) /\ H b = some (.lst zs) /\ xs.length + zs.length <= sizeLine /\ ∀ p, H p = none -> Q (.ref p) (upd H p (.lst (xs ++ zs)))
theorem op_cat : OpR X (binaryOp .Add) rCat := by
 intro pins s σ H x y v u Q I rx ry h
 obtain ⟨l, b, xs, zs, rfl, rfl, hH, hB, hz, q⟩ := h
 cases rx
 cases ry
 obtain ⟨z, its, n, r, hl, e⟩ := I.lstM hH
 obtain ⟨z2, its2, n2, r2, hl2, e2⟩ := I.lstM hB
 refine PySem.P.add_list e e2 ?_ (by rw [List.size_toArray, List.size_toArray]; omega)
 have ea : its.toArray ++ its2.toArray = (its ++ its2).toArray := by simp
 rw [ea]
 exact ⟨.ref _, _, I.lnew (t' := s.toks) (r.append r2) (by rw [List.length_append]; omega), rfl, q _ I.fresh⟩
def rRep : R2 := fun x y H Q => ∃ l k xs, x = .ref l /\ y = .int k /\ H l = some (.lst xs) /\ -(2 ^ 63) <= k /\ k < 2 ^ 63 /\ xs.length * k.toNat <= sizeLine /\
 ∀ p, H p = none -> Q (.ref p) (upd H p (.lst (List.replicate k.toNat xs).flatten))
theorem len_rep {α : Type} (xs : List α) (k : Nat) : (List.replicate k xs).flatten.length = k * xs.length := by
 induction k with
 | zero => simp
 | succ k ih => rw [List.replicate_succ, List.flatten_cons, List.length_append, ih, Nat.succ_mul, Nat.add_comm]
theorem op_rep : OpR X (binaryOp .Mult) rRep := by
 intro pins s σ H x y v u Q I rx ry h
 obtain ⟨l, k, xs, rfl, rfl, hH, h1, h2, hz, q⟩ := h
 cases rx
 obtain ⟨t, rfl⟩ := ry
 obtain ⟨z, its, n, r, hl, e⟩ := I.lstM hH
 have hlen : its.toArray.size * k.toNat <= sizeLine := by rw [List.size_toArray, <- hl]; exact hz
 have hcap : ¬ its.toArray.size * k.toNat > (2 ^ 63 - 1) / 8 := by
  have : (sizeLine : Nat) <= (2 ^ 63 - 1) / 8 := by decide
  omega
 have hfit : ¬ (!Builtin.List.listFitsIndex k) = true := by
  rw [fitsIndex_both h1 h2]
  exact Bool.false_ne_true
 have hlong : ¬ Builtin.List.listTooLong (its.toArray.size * k.toNat) = true := by
  rw [notLongL hlen]
  exact Bool.false_ne_true
 have hnew : List.foldl (fun x1 x2 => x1 ++ x2) #[] (List.replicate (if its.toArray.isEmpty = true then 0 else k.toNat) its.toArray) = (List.replicate k.toNat its).flatten.toArray := by
  have f0 : ∀ m : Nat, List.foldl (fun x1 x2 => x1 ++ x2) #[] (List.replicate m its.toArray) = (List.replicate m its).flatten.toArray := fun m => by
   have := foldl_rep its m []
   rw [List.nil_append] at this
   exact this
  rw [f0]
  cases its with
  | nil => simp
  | cons a r' => rw [if_neg (by simp)]
 refine wpAny_binaryOp_repeat_ref (T := "list") (U := "int") (by decide) ⟨_, e, rfl⟩ (fun s' => typeIs_int s' k t) noFill_list_mul F.fills_int_mul F.slot_int_rmul repeat_list F.slot_int_index.lookup
  (call_meets F.slot_int_rmul (typeIs_int s k t) F.entry_int_rmul (F.args_int_rmul_2 _ _) (int___rmul___int_list k t l its.toArray n)
   ⟨e, rfl, ⟨_, e, rfl⟩, call_meets F.slot_list_mul ⟨_, e, rfl⟩ F.entry_list_mul (F.args_list_mul_2 _ _) (AutoListH.list___mul___list_int_3 l its.toArray n k t hfit hcap hlong) ⟨e, ?_⟩⟩)
 rw [hnew]
 exact ⟨.ref _, _, I.lnew (t' := s.toks) (r.rep k.toNat) (by rw [len_rep, Nat.mul_comm]; exact hz), rfl, q _ I.fresh⟩
end
section
variable {prog : Program} {w : World} {A : Around} {E : Value -> Shared -> Prop} {s : Shared}
end
section
variable {X : Cx}
end
end L2
namespace Att
open PySem PySem.W PySem.Calls PyProof.Rows
theorem ints_of_wellAll {P : Params} {h : Heap} : ∀ (ns : List Int) (vs : List Value), WellAll P h vs (ns.map WData.int) -> IntsAre vs ns := by
 intro ns
 induction ns with
 | nil =>
  intro vs w
  rw [List.map_nil] at w
  cases w
  exact .nil
 | cons n ns ih =>
  intro vs w
  rw [List.map_cons] at w
  cases w with
  | cons a b =>
   cases a
   exact .cons _ _ (ih _ b)
theorem script_of {l : OpenLaw} {n : Nat} (hn : l.most = some n) {P : Params} {h : Heap} {args : List WData} {vals : List Value}
  (hpre : l.row.toRowW.claim.pre args = true) (hwl : WellAll P h vals args) :
  ∃ a vs ns, vals = [Value.ref a] /\ args = [WData.list (ns.map WData.int)] /\ h.get? a = some { cls := .type "list", data := .seq vs.toArray } /\ IntsAre vs ns /\ ns.length <= n := by
 have hsh : WShape.hasAll [] args [.list .int] = true := (pre_splitW hpre).1
 have hc : l.pre.holds [] { args := args } = true := (pre_splitW hpre).2
 obtain ⟨d, r, rfl, h1, h2⟩ := hasAllW_cons hsh
 obtain rfl := hasAllW_nil h2
 obtain ⟨xs, rfl, h3⟩ := hasW_list h1
 obtain ⟨ns, rfl⟩ := items_int h3
 have hlen : ns.length <= n := by
  unfold OpenLaw.pre at hc
  have h4 : (WTm.not (.lt (.lit (.int (n : Int))) (.len (.arg 0)))).holds [] { args := [.list (ns.map .int)] } = true := by
   have h4 := (holds_andW hc).1
   rw [hn] at h4
   exact h4
  have h5 := condW_of h4 (w_not (w_lt w_lit (w_len_list (w_arg rfl))))
  rw [List.length_map] at h5
  refine Nat.le_of_not_lt fun q => ?_
  have q' : (n : Int) < ((ns.length : Nat) : Int) := by omega
  first
   | (rw [decide_eq_true q'] at h5; exact absurd h5 (by decide))
   | (simp at h5; omega)
 cases hwl with
 | cons w1 w2 =>
  cases w2
  cases w1 with
  | list ho hall => exact ⟨_, _, ns, rfl, rfl, ho, ints_of_wellAll ns _ hall, hlen⟩
theorem post_true (l : OpenLaw) (args : List WData) : l.row.toRowW.claim.post args (.bool true) args = true :=
 postW_of (r := l.row.toRowW) (X := (true == true))
  (show WShape.has [] (.bool true) .bool = true by first | rfl | decide | simp [WShape.has, WShape.arms, WShape.armsAll])
  (show (WTm.eq .res (.lit (.bool true))).value [] { args := args, res := some (.bool true), after := args } = some (.bool (true == true)) from w_eq_bool (w_res rfl) w_lit) rfl
theorem attach_call {l : OpenLaw} {n : Nat} {q : Program} {loose : List Str} {XP : (Str -> Option Value) -> Heap -> Prop} {YP : World -> Heap -> Prop} {d : DefRec}
  (hn : l.most = some n) (hdf : d.params.defaults = [])
  (call : ∀ (w : World) (s₀ s₁ : Shared) (mg mb : Str -> Option Value) (fa : Addr) (o : Obj) (pm cd doc : Value) (a : Addr) (vs : List Value) (ns : List Int),
   Ground q loose [] XP w s₀ mg mb s₁.heap -> YP w s₁.heap ->
   s₁.heap.get? fa = some o -> o.data = .func (docDef d.name d.params d.body d.scope pm cd doc) -> s₁.heap.CodeRec cd d.name -> mg d.name = some (.ref fa) ->
   s₁.heap.get? a = some { cls := .type "list", data := .seq vs.toArray } -> IntsAre vs ns -> ns.length <= n -> s₁.gens = #[] ->
   codeAny (model l.prog w) callerA (.call (.ref fa) ⟨[.ref a], []⟩) (fun r s' => r = .ok (.ret (.bool true)) /\ OldK s₁.heap s'.heap /\ s'.os = s₁.os /\ AllBare s'.gens) s₁) :
  WalkO q loose XP YP l.row.toRowW d [] (fun f vs => PySem.call f vs) := by
 intro w s₀ s₁ mg mb G Y fa o pm cd doc dV kV ho hd hcd hD hmg hg args vals as hpre hlay hrd hwl hlo
 obtain rfl : dV = .none := Dflts.none hD hdf
 obtain rfl : kV = .none := Dflts.noKw hD
 obtain ⟨a, vs, ns, rfl, rfl, hobj, hints, hlen⟩ := script_of hn hpre hwl
 refine enter_call (codeAny_mono (call w s₀ s₁ mg mb fa o pm cd doc a vs ns G Y ho (fd_plain hd) hcd hmg hobj hints hlen hg) fun r s' hq => ?_)
 obtain ⟨rfl, h2, h3, h4⟩ := hq
 exact ⟨.inl ⟨.bool true, .bool true, [], rfl, fun _ => rfl, .bool true, post_true l _, fun _ => ⟨List.Pairwise.nil, fun _ hm => (nomatch hm)⟩⟩, h2, h3, h4⟩
section
variable {prog : Program} {w : World} {A : Around} {E : Value -> Shared -> Prop} {s : Shared} {K : Frag}
end
end Att
namespace L2
open PySem PySem.Spec PyProof.Rows
theorem vals_ints : ∀ {vs : List Value} {ns : List Int}, IntsAre vs ns -> Vals (ns.map V.int) vs
 | _, _, .nil => .nil
 | _, _, .cons n t h => .cons ⟨t, rfl⟩ (vals_ints h)
def Only (H : Hp) : Prop := ∀ b, H b = none \/ ∃ o xs, H b = some (.frz o (.lst xs))
theorem law_call {P : Program} {w : World} {K : Fg} {mg mb : Str -> Option Value} {CX : CXT} {k : Nat} {fa a : Addr} {fd : FuncData} {x : Str} {sp : Sp} {s₁ : Shared} {vs : List Value} {ns : List Int}
  (KX : K.In s₁.heap) (hns : s₁.heap.Ns mainGlobals mg) (hb : s₁.heap.Ns builtinsNs mb) (hbb : ∀ x : Str, x ≠ "__name__" -> mb x = bootBuiltins x) (hlim : s₁.heap.NoLimit) (hg : s₁.gens = #[])
  (ha : s₁.heap.get? a = some { cls := .type "list", data := .seq vs.toArray }) (hi : IntsAre vs ns) (hl : ns.length <= sizeLine) (hr : Room k callerA)
  (F : ∀ base : Heap, K.In base -> base.Ns mainGlobals mg -> FnOk P w K mg base CX k fa fd [x] sp) (hbind : ∀ (s : Shared) (u : Value), BindsTo s fd ⟨[u], []⟩ [(x, u)])
  (hsp : ∀ H : Hp, Only H -> SqL K H a (ns.map V.int) -> sp [.ref a] H (fun v _ => v = .bl true) fun _ _ _ => False)
  (hCX : ∀ H e s', CX [] H s₁ (fun _ _ _ => False) e s' -> False) :
  codeAny (model P w) callerA (.call (.ref fa) ⟨[.ref a], []⟩) (fun r s' => r = .ok (.ret (.bool true)) /\ OldK s₁.heap s'.heap /\ s'.os = s₁.os /\ AllBare s'.gens) s₁ := by
 have rv := vals_ints hi
 have lenV := hi.length
 have core : ∀ H : Hp, Only H -> SqL K H a (ns.map V.int) -> HOk P w H s₁.heap -> (∀ b, H b ≠ none -> b = a) -> (H a ≠ none -> K.lookup a = none) ->
   codeAny (model P w) callerA (.call (.ref fa) ⟨[.ref a], []⟩) (fun r s' => r = .ok (.ret (.bool true)) /\ OldK s₁.heap s'.heap /\ s'.os = s₁.os /\ AllBare s'.gens) s₁ := by
  intro H hO hS hok hA hK
  have base_of : ∀ {b : Addr} {o : Obj}, s₁.heap.get? b = some o -> H b = none -> (hidT s₁.heap H).get? b = some o := fun e n => hidT_get e n
  have noA : ∀ {b : Addr} {o : Obj} {es : Array DictEntry} {ep : Nat}, s₁.heap.get? b = some o -> o.data = .dict es ep -> H b = none := fun {b o es ep} e d => by
   cases q : H b with
   | none => rfl
   | some u =>
    have e' : b = a := hA b (by rw [q]; simp)
    subst e'
    rw [ha] at e; cases e
    have d' : Data.seq vs.toArray _ = Data.dict es ep := d
    cases d'
  have nsK : ∀ {b : Addr} {m : Str -> Option Value}, s₁.heap.Ns b m -> (hidT s₁.heap H).Ns b m := fun {b m} ⟨o, es, ep, e, d, r⟩ => ⟨o, es, ep, base_of e (noA e d), d, r⟩
  have hKb : K.In (hidT s₁.heap H) := fun b o e => base_of (KX b o e) (by
   cases q : H b with
   | none => rfl
   | some u =>
    have e' : b = a := hA b (by rw [q]; simp)
    subst e'
    rw [hK (by rw [q]; simp)] at e; cases e)
  have hM : Mod K mg (hidT s₁.heap H) := ⟨hKb, nsK hns, ⟨mb, nsK hb, hbb⟩, let ⟨mc, h1, h2⟩ := hlim; ⟨mc, nsK h1, h2⟩⟩
  have e0 : Env0 P w K mg (hidT s₁.heap H) callerA [] s₁ H := ⟨rfl, hM, fun b o e => of_hidT e, Nat.le_of_eq (hidT_size _ _), trivial, fun b hb => absurd (show b ∈ ([] : List Addr) from hb) (by simp), hok, .of_eq hg⟩
  refine codeAny_mono ((F _ hKb (nsK hns)).run callerA [] s₁ H ⟨[.ref a], []⟩ [.ref a] [.ref a] _ _ hr e0 (hbind s₁ (.ref a)) (.cons rfl .nil) (hsp H hO hS)) fun r s' h => ?_
  cases r with
  | error e => exact (hCX H e s' h).elim
  | ok fl =>
   cases fl with
   | next => exact False.elim h
   | brk => exact False.elim h
   | cont => exact False.elim h
   | ret u =>
    obtain ⟨v, H', os, bare, un, hok', r', q⟩ := h
    have q' : v = .bl true := q
    subst q'
    obtain rfl : u = Value.bool true := r'
    refine ⟨rfl, OldK.of_keep fun b o e => ?_, os, bare⟩
    cases q : H b with
    | none => exact un.keep b o e q (by intro z; exact absurd (show b ∈ ([] : List Addr) from z) (by simp)) (by simp)
    | some u =>
     rcases hO b with z | ⟨ob, xs, z⟩
     ·rw [q] at z; cases z
     ·have z2 := un.frzs b ob _ z
      obtain ⟨e1, _⟩ := hok b _ z
      obtain ⟨e2, _⟩ := hok' b _ z2
      rw [e] at e1; cases e1
      exact e2
 cases hk : K.lookup a with
 | some o =>
  have e := KX a o hk
  rw [ha] at e
  cases e
  refine core (fun _ => none) (fun _ => .inl rfl) (.inr ⟨_, vs.toArray, _, hk, rfl, rfl, rfl, by rw [List.size_toArray, lenV]; exact hl, by simpa using rv⟩) (fun b u z => by have z' : (none : Option HO) = some u := z; cases z') (fun b z => absurd rfl z) fun z => absurd rfl z
 | none =>
  refine core (fun b => if b = a then some (.frz { cls := .type "list", data := .seq vs.toArray } (.lst (ns.map V.int))) else none) (fun b => ?_) (.inl (.inr ⟨{ cls := .type "list", data := .seq vs.toArray }, if_pos rfl⟩)) (fun b u z => ?_) (fun b z => ?_) fun _ => hk
  ·by_cases hb : b = a
   ·exact .inr ⟨_, _, if_pos hb⟩
   ·exact .inl (if_neg hb)
  ·by_cases hb : b = a
   ·have z' := (if_pos hb).symm.trans z
    cases z'
    subst hb
    exact ⟨ha, by rw [List.length_map]; exact hl, vs, _, rv, ha⟩
   ·have z' := (if_neg hb).symm.trans z
    cases z'
  ·by_cases hb : b = a
   ·exact hb
   ·exact absurd (if_neg hb) z
end L2
namespace L2
open PySem PySem.Spec PyProof.Rows
theorem walk_of {l : PySem.W.OpenLaw} {n k : Nat} {q : Program} {loose : List Str} {XP : (Str -> Option Value) -> Heap -> Prop} {YP : World -> Heap -> Prop} {d : DefRec} {K : Params -> Fg} {CX : World -> CXT} {sp : World -> Sp} {x : Str}
  (hn : l.most = some n) (hn2 : n <= sizeLine) (hdf : d.params.defaults = []) (hr : Room k callerA)
  (hY : ∀ (w : World) (h : Heap), YP w h -> (K w.params).In h)
  (F : ∀ (w : World) (mg : Str -> Option Value) (fa : Addr) (h : Heap), (K w.params).In h -> h.Ns mainGlobals mg -> mg d.name = some (.ref fa) ->
   ∃ fd : FuncData, (∀ (s : Shared) (u : Value), BindsTo s fd ⟨[u], []⟩ [(x, u)]) /\
    ∀ base : Heap, (K w.params).In base -> base.Ns mainGlobals mg -> FnOk l.prog w (K w.params) mg base (CX w) k fa fd [x] (sp w))
  (hsp : ∀ (w : World) (H : Hp) (a : Addr) (ns : List Int), ns.length <= n -> Only H -> SqL (K w.params) H a (ns.map V.int) -> sp w [.ref a] H (fun v _ => v = .bl true) fun _ _ _ => False)
  (hCX : ∀ (w : World) (H : Hp) (s : Shared) (e : Value) (s' : Shared), CX w [] H s (fun _ _ _ => False) e s' -> False) :
  PySem.W.WalkO q loose XP YP l.row.toRowW d [] (fun f vs => PySem.call f vs) := by
 refine Att.attach_call hn hdf fun w s₀ s₁ mg mb fa o pm cd doc a vs ns G Y ho hd hcd hmg hobj hints hlen hg => ?_
 have KX := hY w _ Y
 obtain ⟨fd, hb, hF⟩ := F w mg fa _ KX G.T.g hmg
 exact law_call KX G.T.g G.T.b G.T.builtins G.T.nolimit hg hobj hints (Nat.le_trans hlen hn2) hr hF hb (fun H hO hS => hsp w H a ns hlen hO hS) fun H e s' => hCX w H s₁ e s'
end L2
namespace L2
open PySem PySem.Spec PyProof.Rows
def defArgs (s : Stmt) : Arguments := match s with
 | .FunctionDef _ a _ _ _ _ _ _ _ _ => a
 | _ => { posonlyargs := [], args := [], vararg := none, kwonlyargs := [], kw_defaults := [], kwarg := none, defaults := [] }
def defBody (s : Stmt) : List Stmt := match s with
 | .FunctionDef _ _ b _ _ _ _ _ _ _ => b
 | _ => []
def defScope (s : Stmt) : Scope := match s with
 | .FunctionDef _ _ _ _ _ _ sc _ _ _ => sc
 | _ => { kind := .function, names := [], isGenerator := false, isCoroutine := false }
abbrev E0 : XK := fun _ _ _ => False
structure Fun (K : Fg) (x qual : Str) (st : Stmt) (f : Addr) (fd : FuncData) : Prop where
 ex : ∃ (oc : Value) (od : Option Addr) (kV doc pm : Value) (an : Option Addr) (cdv ct : Value) (osl : Array (Option Value)),
  fd = PySem.W.fnOf x qual (defArgs st) (defBody st) (defScope st) .none kV doc pm an cdv ct /\ K.lookup f = some ⟨oc, od, .func fd, osl⟩ /\ PySem.W.codeIn K cdv qual = true
 kp : PySem.W.keepIn K (.ref f) = true
section
variable {P : Program} {w : World} {K : Fg} {mg : Str -> Option Value} {base : Heap}
theorem Fun.binds {x qual : Str} {st : Stmt} {f : Addr} {fd : FuncData} {ps : List Str} (F : Fun K x qual st f fd)
  (h : ∀ (kV doc pm : Value) (an : Option Addr) (cdv ct : Value) (us : List Value), us.length = ps.length -> bindArgs (PySem.W.fnOf x qual (defArgs st) (defBody st) (defScope st) .none kV doc pm an cdv ct) ⟨us, []⟩ = pure (ps.zip us)) : Binds K fd ps [] := by
 obtain ⟨oc, od, kV, doc, pm, an, cdv, ct, osl, rfl, lk, hcd⟩ := F.ex
 exact .all (h kV doc pm an cdv ct)
theorem fun_mk {x qual : Str} {st : Stmt} {f : Addr} {oc : Value} {od an : Option Addr} {osl : Array (Option Value)} {kV doc pm cdv ct : Value} (l : K.lookup f = some ⟨oc, od, .func (PySem.W.fnOf x qual (defArgs st) (defBody st) (defScope st) .none kV doc pm an cdv ct), osl⟩)
  (c : PySem.W.codeIn K cdv qual = true) (k : PySem.W.keepIn K (.ref f) = true) : Fun K x qual st f (PySem.W.fnOf x qual (defArgs st) (defBody st) (defScope st) .none kV doc pm an cdv ct) := ⟨⟨oc, od, kV, doc, pm, an, cdv, ct, osl, rfl, l, c⟩, k⟩
end
theorem small1000 {n : Nat} (h : n <= 1000) : n < sizeLine := Nat.lt_of_le_of_lt h (by decide)
section
variable {X : Cx}
end
def Same (H H' : Hp) : Prop := ∀ b o, H b = some o -> H' b = some o
theorem Same.refl (H : Hp) : Same H H := fun _ _ h => h
theorem Same.trans {H H1 H2 : Hp} (a : Same H H1) (b : Same H1 H2) : Same H H2 := fun c o h => b c o (a c o h)
theorem Same.seq {K : Fg} {H H' : Hp} {a : Addr} {xs : List V} (e : Same H H') (h : SqL K H a xs) : SqL K H' a xs := by
 rcases h with (h | ⟨o, h⟩) | h
 ·exact .inl (.inl (e _ _ h))
 ·exact .inl (.inr ⟨o, e _ _ h⟩)
 ·exact .inr h
end L2
namespace L2
open PySem PySem.Spec PyProof.Rows
section
variable {κ : Type} [DecidableEq κ]
def valV (kvs : List (κ × V)) (k : κ) : Option V := (kvs.find? fun kv => decide (kv.1 = k)).map (·.2)
def putK (kvs : List (κ × V)) (k : κ) (v : V) : List (κ × V) :=
 if (kvs.any fun kv => decide (kv.1 = k)) = true then kvs.map (fun kv => if kv.1 = k then (kv.1, v) else kv) else kvs ++ [(k, v)]
theorem valV_pos {p : κ × V} {r : List (κ × V)} {k : κ} (e : p.1 = k) : valV (p :: r) k = some p.2 := by simp [valV, List.find?_cons, e]
theorem valV_neg {p : κ × V} {r : List (κ × V)} {k : κ} (e : ¬ p.1 = k) : valV (p :: r) k = valV r k := by simp [valV, List.find?_cons, e]
theorem valV_any (k : κ) : ∀ kvs : List (κ × V), (kvs.any fun kv => decide (kv.1 = k)) = (valV kvs k).isSome
 | [] => rfl
 | p :: r => by
  rw [List.any_cons]
  by_cases e : p.1 = k
  ·simp only [valV_pos e, decide_eq_true e, Bool.true_or, Option.isSome_some]
  ·rw [valV_neg e, decide_eq_false e, Bool.false_or]; exact valV_any k r
theorem length_putK (kvs : List (κ × V)) (k : κ) (v : V) : (putK kvs k v).length <= kvs.length + 1 := by
 unfold putK
 split
 ·rw [List.length_map]; omega
 ·rw [List.length_append, List.length_cons, List.length_nil]; omega
theorem RelO.isSome_eq {o : Option V} {u : Option Value} (r : RelO o u) : o.isSome = u.isSome := by
 cases o with
 | none => cases u with
  | none => rfl
  | some _ => exact (show False from r).elim
 | some _ => cases u with
  | none => exact (show False from r).elim
  | some _ => rfl
theorem KV.val {kvs : List (κ × V)} {vs : List (κ × Value)} (r : KV kvs vs) (k : κ) : RelO (valV kvs k) (valueAt vs k) := by
 unfold KV at r
 induction r with
 | nil => exact tI
 | @cons p q ps qs h t ih =>
  obtain ⟨h1, h2⟩ := h
  by_cases e : p.1 = k
  ·have e' : q.1 = k := h1.symm.trans e
   have b : valueAt (q :: qs) k = some q.2 := by simp [valueAt, List.find?_cons, e']
   rw [valV_pos e, b]; exact h2
  ·have e' : ¬ q.1 = k := fun z => e (h1.trans z)
   have b : valueAt (q :: qs) k = valueAt qs k := by simp [valueAt, List.find?_cons, e']
   rw [valV_neg e, b]; exact ih
theorem KV.any {kvs : List (κ × V)} {vs : List (κ × Value)} (r : KV kvs vs) (k : κ) : (kvs.any fun kv => decide (kv.1 = k)) = vs.any fun kv => decide (kv.1 = k) := by
 unfold KV at r
 induction r with
 | nil => rfl
 | cons h t ih => rw [List.any_cons, List.any_cons, ih, h.1]
theorem KV.repl {kvs : List (κ × V)} {vs : List (κ × Value)} (r : KV kvs vs) (k : κ) {y : V} {u : Value} (ry : RelV y u) :
  KV (kvs.map fun kv => if kv.1 = k then (kv.1, y) else kv) (vs.map fun kv => if kv.1 = k then (kv.1, u) else kv) := by
 unfold KV at r ⊢
 induction r with
 | nil => exact .nil
 | @cons p q ps qs h t ih =>
  rw [List.map_cons, List.map_cons]
  refine .cons ?_ ih
  obtain ⟨h1, h2⟩ := h
  by_cases e : p.1 = k
  ·rw [if_pos e, if_pos (h1.symm.trans e)]; exact ⟨h1, ry⟩
  ·rw [if_neg e, if_neg (fun z => e (h1.trans z))]; exact ⟨h1, h2⟩
theorem KV.put {kvs : List (κ × V)} {vs : List (κ × Value)} (r : KV kvs vs) (k : κ) {y : V} {u : Value} (ry : RelV y u) : KV (putK kvs k y) (stored vs k u) := by
 unfold putK stored
 rw [r.any k]
 by_cases e : (vs.any fun kv => decide (kv.1 = k)) = true
 ·rw [if_pos e, if_pos e]; exact r.repl k ry
 ·rw [if_neg e, if_neg e]; exact Paired.snoc r ⟨rfl, ry⟩
theorem KV.length {kvs : List (κ × V)} {vs : List (κ × Value)} (r : KV kvs vs) : kvs.length = vs.length := Paired.length r
end
theorem kV_is {P : Program} {w : World} {k : Key} {u : Value} (r : RelV (kV k) u) : (mixKind P w).is k u = true := by
 cases k with
 | inl i => obtain ⟨t, e⟩ := (show ∃ t, u = Value.int i t from r); subst e; exact mixKind_int P w i t
 | inr x => obtain ⟨t, e⟩ := (show ∃ t, u = Value.str x t from r); subst e; exact mixKind_str P w x t
theorem items_are {P : Program} {w : World} : ∀ {ks : List Key} {us : List Value}, Vals (ks.map kV) us -> ItemsAre (mixKind P w) ks us
 | [], _, r => by rw [List.map_nil] at r; cases r; exact .nil
 | k :: ks, _, r => by
  rw [List.map_cons] at r
  cases r with
  | cons h t => exact .cons (kV_is h) (items_are t)
abbrev KT (H : Hp) : List (List Key × V) -> List (List Key × Addr × Value) -> Prop := Paired fun p q => p.1 = q.1 /\ H q.2.1 = some (.tup (p.1.map kV)) /\ RelV p.2 q.2.2
theorem KT.val {H : Hp} {kvs : List (List Key × V)} {xs : List (List Key × Addr × Value)} (r : KT H kvs xs) (k : List Key) : RelO (valV kvs k) ((atKey xs k).map (·.2)) := by
 induction r with
 | nil => exact tI
 | @cons p q ps qs h t ih =>
  obtain ⟨h1, _, h2⟩ := h
  by_cases e : p.1 = k
  ·have e' : q.1 = k := h1.symm.trans e
   have b : atKey (q :: qs) k = some q.2 := by simp [atKey, List.find?_cons, e']
   rw [valV_pos e, b]; exact h2
  ·have e' : ¬ q.1 = k := fun z => e (h1.trans z)
   have b : atKey (q :: qs) k = atKey qs k := by simp [atKey, List.find?_cons, e']
   rw [valV_neg e, b]; exact ih
theorem KT.repl {H : Hp} {kvs : List (List Key × V)} {xs : List (List Key × Addr × Value)} (r : KT H kvs xs) (k : List Key) {y : V} {u : Value} (ry : RelV y u) :
  KT H (kvs.map fun kv => if kv.1 = k then (kv.1, y) else kv) (xs.map (putAt k u)) := by
 induction r with
 | nil => exact .nil
 | @cons p q ps qs h t ih =>
  rw [List.map_cons, List.map_cons]
  refine .cons ?_ ih
  obtain ⟨h1, h2, h3⟩ := h
  unfold putAt
  by_cases e : p.1 = k
  ·rw [if_pos e, if_pos (h1.symm.trans e)]; exact ⟨h1, h2, ry⟩
  ·rw [if_neg e, if_neg (fun z => e (h1.trans z))]; exact ⟨h1, h2, h3⟩
theorem KT.put {H : Hp} {kvs : List (List Key × V)} {xs : List (List Key × Addr × Value)} (r : KT H kvs xs) (k : List Key) {b : Addr} {y : V} {u : Value} (hb : H b = some (.tup (k.map kV))) (ry : RelV y u) :
  KT H (putK kvs k y) (storedH xs k b u) := by
 have e : (kvs.any fun kv => decide (kv.1 = k)) = (atKey xs k).isSome := by
  rw [valV_any, (r.val k).isSome_eq, Option.isSome_map]
 unfold putK storedH
 rw [e]
 by_cases q : (atKey xs k).isSome = true
 ·rw [if_pos q, if_pos q]; exact r.repl k ry
 ·rw [if_neg q, if_neg q]; exact Paired.snoc r ⟨rfl, hb, ry⟩
theorem KT.keeps {H H' : Hp} {kvs : List (List Key × V)} {xs : List (List Key × Addr × Value)} (r : KT H kvs xs) (ht : ∀ b ys, H b = some (.tup ys) -> H' b = some (.tup ys)) : KT H' kvs xs :=
 Paired.mapP r fun _ _ z => ⟨z.1, ht _ _ z.2.1, z.2.2⟩
section
variable {P : Program} {w : World} {H : Hp} {h : Heap} {a : Addr}
theorem rd_of {u : HO} (ok : HOk P w H h) (e : Rd H a u) : ObjOk P w H h a u := e.ok ok
theorem dk_rd {kvs : List (Key × V)} (ok : HOk P w H h) (e : Rd H a (.dK kvs)) : kvs.length <= sizeLine /\ (a == sysModules) = false /\ ∃ vs, KV kvs vs /\ h.DictOf (mixKind P w) a vs :=
 show ObjOk P w H h a (.dK kvs) from rd_of ok e
theorem dk_of {kvs : List (Key × V)} (ok : HOk P w H h) (e : H a = some (.dK kvs)) : kvs.length <= sizeLine /\ (a == sysModules) = false /\ ∃ vs, KV kvs vs /\ h.DictOf (mixKind P w) a vs := dk_rd ok (.inl e)
theorem key_of {ks : List Key} (ok : HOk P w H h) (e : H a = some (.tup (ks.map kV))) : (tupleKind (mixKind P w)).is h ks a := by
 obtain ⟨_, its, r, o, h1, h2, n, h3⟩ := (show ObjOk P w H h a (.tup (ks.map kV)) from ok a _ e)
 exact ⟨o, its.toArray, n, h1, h2, h3, by simpa using items_are r⟩
theorem dt_rd {kvs : List (List Key × V)} (ok : HOk P w H h) (e : Rd H a (.dT kvs)) : kvs.length <= sizeLine /\ (a == sysModules) = false /\
  ∃ xs, KT H kvs xs /\ h.DictOfH (tupleKind (mixKind P w)) a xs := by
 obtain ⟨z, y, xs, r, o, es, ep, h1, h2, h3, h4, h5⟩ := (show ObjOk P w H h a (.dT kvs) from rd_of ok e)
 refine ⟨z, y, xs, r, o, es, ep, h1, h2, h3, h4, fun x hx => ?_, h5⟩
 have all : ∀ {l : List (List Key × V)} {m : List (List Key × Addr × Value)}, KT H l m -> ∀ x ∈ m, (tupleKind (mixKind P w)).is h x.1 x.2.1 := by
  intro l m q
  induction q with
  | nil => intro x hx; exact nomatch hx
  | @cons p q ps qs hq t ih =>
   intro x hx
   rcases List.mem_cons.mp hx with e | hx
   ·subst e
    exact key_of ok (by rw [<- hq.1]; exact hq.2.1)
   ·exact ih x hx
 exact all r x hx
theorem dt_of {kvs : List (List Key × V)} (ok : HOk P w H h) (e : H a = some (.dT kvs)) : kvs.length <= sizeLine /\ (a == sysModules) = false /\
  ∃ xs, KT H kvs xs /\ h.DictOfH (tupleKind (mixKind P w)) a xs := dt_rd ok (.inl e)
end
def DGet (H : Hp) (a : Addr) (y : V) (r : Option V) : Prop :=
 (∃ kvs k, Rd H a (.dK kvs) /\ y = kV k /\ r = valV kvs k) \/ ∃ kvs k b, Rd H a (.dT kvs) /\ y = .ref b /\ H b = some (.tup (k.map kV)) /\ r = valV kvs k
def DPut (H : Hp) (a : Addr) (y v : V) (H' : Hp) : Prop :=
 (∃ kvs k, H a = some (.dK kvs) /\ y = kV k /\ kvs.length < sizeLine /\ H' = upd H a (.dK (putK kvs k v))) \/
 ∃ kvs k b, H a = some (.dT kvs) /\ y = .ref b /\ H b = some (.tup (k.map kV)) /\ kvs.length < sizeLine /\ H' = upd H a (.dT (putK kvs k v))
theorem DGet.k {H : Hp} {a : Addr} {kvs : List (Key × V)} {k : Key} (e : H a = some (.dK kvs)) : DGet H a (kV k) (valV kvs k) := .inl ⟨kvs, k, .inl e, rfl, rfl⟩
section
variable {X : Cx} {pins : List (Addr × Obj)} {σ : St} {H : Hp} {s : Shared} {a : Addr} {y v : V} {u r : Value} {o : Option V} {A : Around} {E : Value -> Shared -> Prop}
theorem d_getItem {Q : Value -> Shared -> Prop} (hu : A.units + 1 < cLine) (I : Inv X pins σ H s) (g : DGet H a y (some v)) (ry : RelV y u) (h : ∀ w' s', Inv X pins σ H s' -> RelV v w' -> Q w' s') :
  wpAny (model X.prog X.w) A (getItem (.ref a) u) Q E s := by
 rcases g with ⟨kvs, k, e, ey, l⟩ | ⟨kvs, k, b, e, ey, eb, l⟩
 ·subst ey
  obtain ⟨z, hd, vs, rel, dd⟩ := dk_rd I.hok e
  obtain ⟨w', hw, rw'⟩ := RelO.some_of (v := v) (o := valueAt vs k) (by rw [l]; exact rel.val k)
  exact wpAny_getItem_of (kV_is ry) dd.mapOf hw (h w' _ (I.tok _) rw')
 ·subst ey
  cases (show u = Value.ref b from ry)
  obtain ⟨z, hd, xs, rel, dd⟩ := dt_rd I.hok e
  obtain ⟨w', hw, rw'⟩ := RelO.some_of (v := v) (o := (atKey xs k).map (·.2)) (by rw [l]; exact rel.val k)
  obtain ⟨p, hp, hp2⟩ := Option.map_eq_some_iff.mp hw
  refine wpAny_getItem_heap (tupleKind_room_in1 hu) (key_of I.hok eb) dd hp ?_
  rw [hp2]
  exact h w' _ (I.tok _) rw'
theorem d_write {h' : Heap} {t' : Nat} {ob : HO} (I : Inv X pins σ H s) (mu : Mut (H a)) (hs : Heap.SameBut a s.heap h') (he : ∃ q, h'.get? a = some q) (new : ObjOk X.prog X.w (upd H a ob) h' a ob) :
  Inv X pins σ (upd H a ob) { s with heap := h', toks := t' } :=
 I.write (x := a) (e := a) mu (.inl rfl) (fun b q hb z => (hs.2 b hb).trans z) he new
theorem dk_new {P : Program} {w : World} {H' : Hp} {h' : Heap} {kvs : List (Key × V)} {vs : List (Key × Value)} (z : kvs.length <= sizeLine) (hd : (a == sysModules) = false) (rel : KV kvs vs) (dd : h'.DictOf (mixKind P w) a vs) :
  ObjOk P w H' h' a (.dK kvs) := ⟨z, hd, vs, rel, dd⟩
theorem d_setItem {H' : Hp} {Q : Unit -> Shared -> Prop} (hu : A.units + 1 < cLine) (I : Inv X pins σ H s) (g : DPut H a y v H') (ry : RelV y u) (rv : RelV v r) (h : ∀ s', Inv X pins σ H' s' -> Q () s') :
  wpAny (model X.prog X.w) A (setItem (.ref a) u r) Q E s := by
 rcases g with ⟨kvs, k, e, ey, l, eH⟩ | ⟨kvs, k, b, e, ey, eb, l, eH⟩
 ·subst ey eH
  obtain ⟨z, hd, vs, rel, dd⟩ := dk_of I.hok e
  have hz : vs.length <= sizeLine := by rw [<- rel.length]; exact z
  have hl : (putK kvs k v).length <= sizeLine := by have := length_putK kvs k v; omega
  refine wpAny_setItem_pairs (hsz := hz) (kV_is ry) dd fun h' dd' hs => h _ ?_
  have he : ∃ q, h'.get? a = some q := let ⟨q, _, _, hq, _⟩ := dd'; ⟨q, hq⟩
  exact d_write I (by rw [e]; exact tI) hs he (dk_new hl hd (rel.put k rv) dd')
 ·subst ey eH
  cases (show u = Value.ref b from ry)
  obtain ⟨z, hd, xs, rel, dd⟩ := dt_of I.hok e
  have hz : xs.length <= sizeLine := by rw [<- Paired.length rel]; exact z
  have hl : (putK kvs k v).length <= sizeLine := by have := length_putK kvs k v; omega
  refine wpAny_setItem_heap (hsz := hz) (tupleKind_room_in1 hu) (key_of I.hok eb) dd fun h' dd' hs => h _ ?_
  obtain ⟨q, es, ep, hq, h2, h3, h4, _, h5⟩ := dd'
  refine d_write I (by rw [e]; exact tI) hs ⟨q, hq⟩ ⟨hl, hd, _, (rel.put k eb rv).keeps fun c ys ec => ?_, q, es, ep, hq, h2, h3, h4, h5⟩
  rw [upd_ne (ne_of ec e (fun z => nomatch z))]
  exact ec
end
section
variable {X : Cx} {pins : List (Addr × Obj)} {σ : St} {H : Hp} {s : Shared} {a : Addr} {kvs : List (Key × V)} {k : Key} {u : Value} {A : Around} {E : Value -> Shared -> Prop}
theorem d_len {Q : Value -> Shared -> Prop} (I : Inv X pins σ H s) (e : Rd H a (.dK kvs)) (h : ∀ t s', Inv X pins σ H s' -> Q (.int kvs.length t) s') : wpAny (model X.prog X.w) A (call (.builtin "len") [.ref a]) Q E s := by
 obtain ⟨z, hd, vs, rel, dd⟩ := dk_rd I.hok e
 refine call_len_dict hd dd (by rw [<- rel.length]; rw [sizeLine_eq] at z; omega) ?_
 rw [<- rel.length]
 exact h _ _ (I.tok _)
end
theorem dict_typeIs {X : Cx} {pins : List (Addr × Obj)} {σ : St} {H : Hp} {s : Shared} {a : Addr} {y : V} {o : Option V} (I : Inv X pins σ H s) (g : DGet H a y o) : s.TypeIs (.ref a) "dict" := by
 rcases g with ⟨kvs, k, e, _, _⟩ | ⟨kvs, k, b, e, _, _, _⟩
 ·obtain ⟨_, _, vs, _, dd⟩ := dk_rd I.hok e
  exact dd.typeIs
 ·obtain ⟨_, _, xs, _, dd⟩ := dt_rd I.hok e
  exact dd.typeIs
section
variable {X : Cx} {o i e value : Expr} {pos pos' tpos : Pos} {td ty tv : TE}
end
section
variable {X : Cx} {pos : Pos}
end
structure M1 (X : Cx) (o : Expr) (m : Str) (apos : Pos) (e : Expr) (cpos : Pos) : Prop where
 base : attributeBase o m X.env (eval o X.env) = eval o X.env
 few : ((backTo cpos (starEach [e] X.env)).all (fun x => !x.1) && (backToKw cpos (keywordEach [] X.env)).all (fun x => x.1.isSome)
  && decide (([e] : List Expr).length + ([] : List Keyword).length + (if ([] : List Keyword).isEmpty then 0 else 1) < 30)) = true
 line : (apos.endLine == cpos.line) = true
 trees : backTo cpos (starEach [e] X.env) = [(false, eval e X.env)]
structure M2 (X : Cx) (o : Expr) (m : Str) (apos : Pos) (e f : Expr) (cpos : Pos) : Prop where
 base : attributeBase o m X.env (eval o X.env) = eval o X.env
 few : ((backTo cpos (starEach [e, f] X.env)).all (fun x => !x.1) && (backToKw cpos (keywordEach [] X.env)).all (fun x => x.1.isSome)
  && decide (([e, f] : List Expr).length + ([] : List Keyword).length + (if ([] : List Keyword).isEmpty then 0 else 1) < 30)) = true
 line : (apos.endLine == cpos.line) = true
 trees : backTo cpos (starEach [e, f] X.env) = [(false, eval e X.env), (false, eval f X.env)]
section
variable {X : Cx} {pins : List (Addr × Obj)} {σ : St} {H : Hp} {s : Shared} {a : Addr} {y d : V} {u r : Value} {o : Option V} {A : Around} {E : Value -> Shared -> Prop}
end
section
variable {X : Cx} {o e f : Expr} {apos cpos : Pos} {td ty tx : TE}
end
section
variable {X : Cx} {pins : List (Addr × Obj)} {σ : St} {H : Hp} {s : Shared} {a : Addr} {kvs : List (Key × V)} {A : Around} {E : Value -> Shared -> Prop}
end
section
variable {X : Cx} {pins : List (Addr × Obj)} {σ : St} {H : Hp} {s : Shared} {a : Addr} {y : V} {u : Value} {A : Around} {E : Value -> Shared -> Prop}
end
end L2
namespace L2.Na
open PySem PySem.Spec PyProof.Rows
theorem layNew_led (t : SetTable) (es : Array (Int × Value)) (h : Int) (x : Value) : (layNew t es h x).2.1.led = t.led := by
 unfold layNew
 split
 ·show (SetTable.orStandIn _ _).led = _
  unfold SetTable.orStandIn
  split <;> rfl
 ·rfl
theorem relayAll_keeps (t : SetTable) (es : Array (Int × Value)) (m : Nat) : (relayAll t es m).2.1.led = t.led /\ (t.plain = false -> (relayAll t es m).2.1.plain = false) := by
 unfold relayAll
 split
 ·rename_i t' order he
  have ht : t'.led = t.led /\ t'.plain = t.plain := by
   unfold SetTable.relaid SetTable.laid at he
   cases hl : SetTable.layClean (SetTable.sizeAbove m - 1) (es.map (·.1)) with
   | none => rw [hl] at he; cases he
   | some owner =>
    rw [hl] at he
    cases he
    exact ⟨rfl, rfl⟩
  dsimp only
  split
  ·exact ⟨ht.1, fun z => ht.2.trans z⟩
  ·exact ⟨rfl, fun _ => rfl⟩
 ·exact ⟨rfl, fun _ => rfl⟩
def keysS (es : Array (Int × Value)) : List Str := es.toList.map fun e => PyProof.Rows.strOf e.2
def SetS (prog : Program) (w : World) (bt : Bool) (h : Heap) (a : Addr) (zs : List Str) : Prop :=
 ∃ (o : Obj) (es : Array (Int × Value)) (ep : Nat) (t : SetTable), h.get? a = some o /\ o.ExactSet /\ o.data = .set es ep t /\ ElemsOf (PySem.strKind prog w) es.toList /\ keysS es = zs /\ zs.Nodup /\ es.size < scanBound /\ t.fits es.size = true /\ t.led = (!bt) /\ (es.size ≠ 0 -> t.plain = false)
section
variable {prog : Program} {w : World} {A : Around} {E : Value -> Shared -> Prop} {s : Shared} {bt : Bool} {a : Addr}
theorem SetS.keep {h h' : Heap} {zs : List Str} (hS : SetS prog w bt h a zs) (k : ∀ o, h.get? a = some o -> h'.get? a = some o) : SetS prog w bt h' a zs := by
 obtain ⟨o, es, ep, t, ho, r⟩ := hS
 exact ⟨o, es, ep, t, k o ho, r⟩
theorem set_put {h : Heap} {o : Obj} {es es' : Array (Int × Value)} {ep : Nat} {t t' : SetTable} (ho : h.get? a = some o) (hd : o.data = .set es ep t) : (h.update a (Obj.putSet es' t')).get? a = some { o with data := .set es' (ep + 1) t' } := by
 have z := Heap.get?_update_self (Obj.putSet es' t') ho (by rw [putSet_of es' t' hd]; rfl)
 rwa [putSet_of es' t' hd] at z
theorem elem_key {es : Array (Int × Value)} (hel : ElemsOf (PySem.strKind prog w) es.toList) {e : Int × Value} (he : e ∈ es.toList) (x : Str) : (PySem.strKind prog w).is x e.2 = true ↔ PyProof.Rows.strOf e.2 = x := by
 obtain ⟨⟨k, hk, _⟩, _⟩ := hel e he
 obtain ⟨u, hu⟩ := Value.isStrOf_shape hk
 constructor
 ·intro h
  obtain ⟨u', hu'⟩ := Value.isStrOf_shape (show Value.isStrOf x e.2 = true from h)
  rw [hu']; rfl
 ·intro h
  rw [hu] at h
  have e1 : k = x := h
  rw [<- e1]
  exact hk
theorem setS_tail {g : Bool -> Sem Unit} (hg : ∀ (b : Bool) (s₁ : Shared) (Q' : Unit -> Shared -> Prop), Q' () s₁ -> wpAny (model prog w) A (g b) Q' E s₁)
  {o : Obj} {es es1 : Array (Int × Value)} {ep : Nat} {t t2 : SetTable} (ho : s.heap.get? a = some o) (hex : o.ExactSet) (hd : o.data = .set es ep t) (hel : ElemsOf (PySem.strKind prog w) es1.toList) (nd : (keysS es1).Nodup)
  (hb : es1.size < scanBound) (hf : t2.fits es1.size = true) (hl : t2.led = !bt) (hp : t2.plain = false) {wd : Bool} {R : Option Bool -> Shared -> Prop}
  (h : ∀ h' zs, Heap.SameBut a s.heap h' -> SetS prog w bt h' a zs -> List.Perm zs (keysS es1) -> R (some true) { s with heap := h' }) :
  wpAny (model prog w) A (do
    storeSet a es1 t2
    if (!wd && t2.tooFull) = true then do
      g (relayAll t2 es1 (SetTable.grown es1.size)).2.2
      storeSet a (relayAll t2 es1 (SetTable.grown es1.size)).1 (relayAll t2 es1 (SetTable.grown es1.size)).2.1
      pure (some true)
     else pure (some true)) R E s := by
 refine wpAny_bind (wpAny_storeSet_of ho hd ?_ (fits_of_scanBound hb))
 have g1 := set_put (es' := es1) (t' := t2) ho hd
 have sb1 := Heap.SameBut.update s.heap a (Obj.putSet es1 t2)
 split
 ·obtain ⟨l3, p3⟩ := relayAll_keeps t2 es1 (SetTable.grown es1.size)
  have pm := relayAll_perm t2 es1 (SetTable.grown es1.size)
  have f3 := relayAll_fits t2 es1 (SetTable.grown es1.size)
  revert l3 p3 pm f3
  generalize relayAll t2 es1 (SetTable.grown es1.size) = r
  obtain ⟨es2, t3, gv⟩ := r
  intro l3 p3 pm f3
  have sz : es2.size = es1.size := by rw [<- Array.length_toList, <- Array.length_toList]; exact pm.length_eq
  have pk : List.Perm (keysS es2) (keysS es1) := pm.map _
  refine wpAny_bind (hg _ _ _ ?_)
  refine wpAny_bind (wpAny_storeSet_of g1 rfl ?_ (fits_of_scanBound (by show es2.size < scanBound; rw [sz]; exact hb)))
  refine wpAny_pure (h _ (keysS es2) (sb1.trans (Heap.SameBut.update _ a _)) ?_ pk)
  exact ⟨_, es2, _, t3, set_put g1 rfl, hex, rfl, hel.perm pm, rfl, pk.nodup_iff.mpr nd, by rw [sz]; exact hb, f3, l3.trans hl, fun _ => p3 hp⟩
 ·exact wpAny_pure (h _ (keysS es1) sb1 ⟨_, es1, _, t2, g1, hex, rfl, hel, rfl, nd, hb, hf, hl, fun _ => hp⟩ (List.Perm.refl _))
theorem setS_add {zs : List Str} {x : Str} {tk : Tok} {Q : Bool -> Shared -> Prop} (hS : SetS prog w bt s.heap a zs) (hroom : zs.length + 1 < scanBound)
  (h : ∀ h' zs' b, Heap.SameBut a s.heap h' -> SetS prog w bt h' a zs' -> (∀ y, y ∈ zs' ↔ y ∈ zs \/ y = x) -> zs'.length <= zs.length + 1 -> Q b { s with heap := h', toks := s.toks + 1 }) :
  wpAny (model prog w) A (setAdd a (.str x tk)) Q E s := by
 obtain ⟨o, es, ep, t, ho, hex, hd, hel, rfl, nd, hb, hf, hl, hp⟩ := hS
 have hlen : (keysS es).length = es.size := by unfold keysS; rw [List.length_map, Array.length_toList]
 have hkey : (PySem.strKind prog w).is x (.str x tk) = true := by show Value.isStrOf x (.str x tk) = true; simp [Value.isStrOf]
 have hsc : (Value.str x tk).scannable = true := rfl
 unfold setAdd
 refine wpAny_holding (wpAny_bind ((PySem.strKind prog w).pyHash hkey ?_))
 unfold setAddHashed setAddHashedIn
 refine wpAny_holding (wpAny_bind (wpAny_setState_of (s := { s with toks := s.toks + 1 }) ho hd hf ?_))
 dsimp only
 rw [byScan_of hsc hb hel]
 simp only [↓reduceIte]
 unfold setAddByScan
 refine wpAny_bind (wpAny_bind (wpAny_rule (wpAny_bind (wpAny_setScan_of (s := { s with toks := s.toks + 1 }) hkey ho hd hf hel ?_))))
 cases hr : List.findIdx? (fun e => (PySem.strKind prog w).is x e.2) es.toList with
 | some j =>
  dsimp only
  obtain ⟨hj, hpj, _⟩ := List.findIdx?_eq_some_iff_getElem.mp hr
  have hm : x ∈ keysS es := List.mem_map.mpr ⟨_, List.getElem_mem hj, (elem_key hel (List.getElem_mem hj) x).mp hpj⟩
  refine wpAny_pure (wpAny_pure ?_)
  exact h s.heap (keysS es) _ (Heap.SameBut.refl a s.heap) ⟨o, es, ep, t, ho, hex, hd, hel, rfl, nd, hb, hf, hl, hp⟩ (fun y => ⟨.inl, fun z => z.elim id fun e => e ▸ hm⟩) (Nat.le_succ _)
 | none =>
  dsimp only
  have hn : x ∉ keysS es := fun z => by
   obtain ⟨e, he, hx⟩ := List.mem_map.mp z
   have := List.findIdx?_eq_none_iff.mp hr e he
   rw [(elem_key hel he x).mpr hx] at this
   cases this
  have pm := layNew_perm t es ((PySem.strKind prog w).hash x) (.str x tk)
  have ft := layNew_fits t es ((PySem.strKind prog w).hash x) (.str x tk)
  have ld := layNew_led t es ((PySem.strKind prog w).hash x) (.str x tk)
  revert pm ft ld
  generalize layNew t es ((PySem.strKind prog w).hash x) (.str x tk) = L
  obtain ⟨es1, t1, wd, gv⟩ := L
  intro pm ft ld
  dsimp only at pm ft ld ⊢
  rw [Array.toList_push] at pm
  have el1 := (hel.push hkey hsc).perm pm
  have pk : List.Perm (keysS es1) (keysS es ++ [x]) := by
   have := pm.map fun e : Int × Value => PyProof.Rows.strOf e.2
   rw [List.map_append] at this
   exact this
  have nd1 : (keysS es1).Nodup := pk.nodup_iff.mpr (List.nodup_append.mpr ⟨nd, by simp, fun u hu v hv e => by
   have : v = x := by simpa using hv
   rw [this] at e
   exact hn (e ▸ hu)⟩)
  have sz1 : es1.size = es.size + 1 := by rw [<- Array.length_toList, pm.length_eq, List.length_append, Array.length_toList]; rfl
  have hb1 : es1.size < scanBound := by rw [sz1, <- hlen]; exact hroom
  have fin : ∀ h' zs', Heap.SameBut a s.heap h' -> SetS prog w bt h' a zs' -> List.Perm zs' (keysS es1) -> Q true { s with heap := h', toks := s.toks + 1 } := fun h' zs' sb hS' pz => by
   refine h h' zs' true sb hS' (fun y => ?_) ?_
   ·rw [(pz.trans pk).mem_iff, List.mem_append]
    simp
   ·rw [(pz.trans pk).length_eq, List.length_append]
    exact Nat.le_refl _
  have hgw : ∀ (b : Bool) (s₁ : Shared) (Q' : Unit -> Shared -> Prop), Q' () s₁ -> wpAny (model prog w) A (match b with | true => rule "set.scan.the-table-gave-way" | false => pure ()) Q' E s₁ :=
   fun b s₁ Q' hq => by cases b <;> first | exact wpAny_pure hq | exact wpAny_rule hq
  refine wpAny_bind (hgw _ _ _ ?_)
  split
  ·refine wpAny_bind ?_
   rw [hashByValue_scannable 8 hsc]
   refine wpAny_pure ?_
   refine setS_tail (s := { s with toks := s.toks + 1 }) (t2 := { t1 with plain := false }) hgw ho hex hd el1 nd1 hb1 (SetTable.fits_plain_off ft) (ld.trans hl) rfl fun h' zs' sb hS' pz => ?_
   exact wpAny_pure (fin h' zs' sb hS' pz)
  ·rename_i hpl
   refine wpAny_bind (wpAny_pure ?_)
   simp only [↓reduceIte]
   refine setS_tail (s := { s with toks := s.toks + 1 }) (t2 := t1) hgw ho hex hd el1 nd1 hb1 ft (ld.trans hl) (by simpa using hpl) fun h' zs' sb hS' pz => ?_
   exact wpAny_pure (fin h' zs' sb hS' pz)
end
end L2.Na
namespace L2.Na
open PySem PySem.Spec PyProof.Rows
abbrev byT (w : World) : Bool := w.params.followText "set-order"
def newSetO (w : World) : Obj := { cls := .type "set", dict := none, data := .set #[] 0 (.fresh 0 0 (!byT w)) }
section
variable {prog : Program} {w : World} {A : Around} {E : Value -> Shared -> Prop} {s : Shared}
theorem setS_new {h : Heap} {a : Addr} (e : h.get? a = some (newSetO w)) : SetS prog w (byT w) h a [] :=
 ⟨_, #[], 0, _, e, ⟨rfl, rfl, rfl⟩, rfl, fun x hx => by simp at hx, rfl, List.nodup_nil, by decide, by rfl, rfl, fun z => absurd rfl z⟩
theorem codeS_new (x : Value) {Q : Value -> Shared -> Prop} (h : Q (.ref s.heap.objs.size) { s with heap := s.heap.push (newSetO w) }) :
  codeAny (model prog w) A (.call (.builtin "set.__new__") ⟨[.type "set", x], []⟩) (wants Q E) s := by
 refine codeAny_of_tree ?_
 show wpAny _ A.in1 (do checkBuiltinCall "set.__new__" ⟨[.type "set", x], []⟩; again (.builtin "set.__new__" ⟨[.type "set", x], []⟩)) _ _ s
 refine wpAny_bind (wpAny_of_eq (PySem.F.newCall_set_1 x) (wpAny_pure ⟨plainId_quiet PySem.F.plain_set_new _, codeAny_builtin PySem.F.entry_set_new ?_⟩))
 rw [Around.under_plainId PySem.F.plain_set_new _]
 unfold Builtin.«set.__new__» Builtin.Frozenset.newClass
 have sub := sub_set_self
 obtain ⟨hp, g, d, tk, os⟩ := s
 dsimp only
 wp_walk
 refine wpAny_askSetting (wpAny_pure ?_)
 dsimp only
 simp only [newObj]
 refine wpAny_bind (wpAny_alloc (wpAny_pure (wpAny_pure ?_)))
 exact h
variable {R : Result -> Shared -> Prop} {I : Addr} {fp wr : List Addr} {G : Array GenState -> Array GenState -> Prop} {n : Nat} {P : Nat -> Value -> Prop} {St : Nat -> Shared -> Prop} {bt : Bool}
theorem updS_loop (W : WalksS prog w A.in1 I fp wr G n P St) (S : Addr) (hSf : S ∉ fp) (val : Nat -> Str) (hval : ∀ i v, P i v -> ∃ t, v = .str (val i) t) (hb : n + 1 < scanBound) :
  ∀ (k i : Nat) (s : Shared) (zs : List Str), n - i = k -> i <= n -> St i s -> SetS prog w bt s.heap S zs -> (∀ y, y ∈ zs ↔ ∃ j, j < i /\ val j = y) -> zs.length <= i ->
   (∀ s' zs', Moved (S :: wr) G s s' -> SetS prog w bt s'.heap S zs' -> (∀ y, y ∈ zs' ↔ ∃ j, j < n /\ val j = y) -> R (.ok (.ret .none)) s') ->
   codeAny (model prog w) A (.builtin "set.update.loop" ⟨[.ref S, .ref I], []⟩) R s := by
 have hSw : S ∉ wr := fun h => hSf (W.sub _ h)
 have up : ∀ b ∈ wr, b ∈ S :: wr := fun b hb => List.mem_cons_of_mem _ hb
 intro k
 induction k with
 | zero =>
  intro i s zs hk hi st hS hm _ fin
  have e : i = n := by omega
  subst e
  refine codeAny_builtin PyProof.Rows.F.entry_set_update_loop ?_
  rw [Around.under_plainId PyProof.Rows.F.plain_set_update_loop _]
  show wpAny _ A.in1 (pyNext (.ref I) >>= _) _ _ s
  refine wpAny_bind (W.done s _ _ st fun s' mv => ?_)
  show wpAny _ A.in1 (ret Value.none) _ _ s'
  exact wpAny_pure (fin s' zs (mv.mono up) (hS.keep fun o ho => mv.heap S o hSw ho) hm)
 | succ k ih =>
  intro i s zs hk hi st hS hm hl fin
  have lt : i < n := by omega
  refine codeAny_builtin PyProof.Rows.F.entry_set_update_loop ?_
  rw [Around.under_plainId PyProof.Rows.F.plain_set_update_loop _]
  show wpAny _ A.in1 (pyNext (.ref I) >>= _) _ _ s
  refine wpAny_bind (W.item i s _ _ lt st fun v s1 hP st1 mv => ?_)
  obtain ⟨t, rfl⟩ := hval i v hP
  have hS1 : SetS prog w bt s1.heap S zs := hS.keep fun o ho => mv.heap S o hSw ho
  show wpAny _ A.in1 (holding [Value.str (val i) t] (setAdd S (.str (val i) t)) >>= _) _ _ s1
  refine wpAny_bind (wpAny_holding (setS_add hS1 (by omega) fun h2 zs2 b sb hS2 hm2 hl2 => ?_))
  refine wpAny_pure ⟨plainId_quiet PyProof.Rows.F.plain_set_update_loop _, ih (i + 1) _ zs2 (by omega) lt (W.frame _ s1 _ _ st1 (Nat.le_succ _) fun b hb o e => ?_) hS2 (fun y => ?_) (by omega) fun s3 zs3 mv3 hS3 hm3 => ?_⟩
  ·rw [sb.2 b (fun h : b = S => hSf (by rw [<- h]; exact hb))]; exact e
  ·rw [hm2 y, hm y]
   constructor
   ·rintro (⟨j, hj, rfl⟩ | rfl)
    ·exact ⟨j, by omega, rfl⟩
    ·exact ⟨i, by omega, rfl⟩
   ·rintro ⟨j, hj, rfl⟩
    by_cases e : j = i
    ·rw [e]; exact .inr rfl
    ·exact .inl ⟨j, by omega, rfl⟩
  ·refine fin s3 zs3 (Moved.trans W.gtrans ((mv.mono up).then_heap (Nat.le_succ _) fun b o hb e => ?_) mv3) hS3 hm3
   rw [sb.2 b (fun h : b = S => hb (by rw [h]; exact List.mem_cons_self))]; exact e
end
section
variable {prog : Program} {w : World} {A : Around} {E : Value -> Shared -> Prop} {s : Shared}
set_option maxHeartbeats 3200000 in
theorem setS_call {z : Str} {t : Tok} {Q : Value -> Shared -> Prop} (hh : A.handled = none) (hb : z.cps.size + 1 < scanBound)
  (h : ∀ (h' : Heap) (tk : Nat) (zs : List Str), SetS prog w (byT w) h' s.heap.objs.size zs -> (∀ y, y ∈ zs ↔ ∃ c ∈ z.cps.toList, y = ⟨#[c]⟩) ->
   (∀ b o, s.heap.get? b = some o -> h'.get? b = some o) -> Q (.ref s.heap.objs.size) { s with heap := h', toks := tk }) :
  wpAny (model prog w) A (call (.type "set") [.str z t]) Q E s := by
 obtain ⟨c, tl, hmro⟩ := PySem.F.called_set.mro
 have hmade := PySem.F.called_set.made
 have hsub := PySem.F.called_set.sub
 refine wpAny_call (codeAny_of_tree ?_)
 show wpAny _ _ (callAny (.type "set") _) _ _ _
 refine wpAny_pure ⟨Code.quiet_builtin _ (by decide +kernel), codeAny_builtin PySem.F.entry_type_call ?_⟩
 rw [Around.under_plain (weight_type_call_type "set" [.str z t] []) rfl]
 have h1 := PySem.F.called_set.notType
 have h2 := PySem.F.called_set.canCreate
 have hct := PySem.F.typeCall_set_1 (.str z t)
 repeat (any_goals (first | assumption | wp_step))
 refine codeAny_mono (codeS_new (.str z t) (E := E) (Q := fun ob s1 => ob = .ref s.heap.objs.size /\ s1 = { s with heap := s.heap.push (newSetO w) }) ⟨rfl, rfl⟩) fun r s1 hr => ?_
 cases r with
 | error e => exact hr
 | ok fl =>
  cases fl with
  | ret ob =>
   obtain ⟨rfl, rfl⟩ := hr
   have hS : (s.heap.push (newSetO w)).get? s.heap.objs.size = some (newSetO w) := Heap.get?_push_size _ rfl
   have hT : Shared.TypeIs { s with heap := s.heap.push (newSetO w) } (.ref s.heap.objs.size) "set" := ⟨_, hS, rfl⟩
   have hli := PySem.F.called_set.init.lookup
   have hbi := PySem.F.called_set.init.bind (.ref s.heap.objs.size)
   repeat (any_goals (first | assumption | wp_step))
   refine codeAny_mono (codeAny_call_builtin (R := wants (fun r s2 => r = .none /\ ∃ h' tk zs, s2 = { s with heap := h', toks := tk } /\ SetS prog w (byT w) h' s.heap.objs.size zs /\ (∀ y, y ∈ zs ↔ ∃ c ∈ z.cps.toList, y = ⟨#[c]⟩) /\
     (∀ b o, s.heap.get? b = some o -> h'.get? b = some o)) E) PySem.F.called_set.init.plain PySem.F.entry_set_init (check_set_init_1 hT ?_)) fun r2 s2 hr2 => ?_
   ·unfold Builtin.«set.__init__» noKeywords Builtin.Frozenset.updateFrom
    have a1 : isSubtype (.type "str") (.type "set") = pure false := by rw [isSubtype_type]; kernel_rfl
    have a2 : isSubtype (.type "str") (.type "frozenset") = pure false := by rw [isSubtype_type]; kernel_rfl
    have a3 : (Value.type "str" == Value.type "dict") = false := by decide
    generalize hPI : pyIter = PI
    wp_walk
    subst hPI
    refine wpAny_pyIter_str fun o St W st => ?_
    refine wpAny_bind (wpAny_runValue ?_)
    have hne : s.heap.objs.size ≠ (s.heap.push (newSetO w)).objs.size := by rw [Heap.size_push]; exact Nat.ne_of_lt (Nat.lt_succ_self _)
    have hh3 : A.in1.in1.in1.handled = none := by simp [hh]
    have hval : ∀ (i : Nat) (v : Value), SignAt z i v -> ∃ t, v = .str ((fun i => (⟨#[z.cps.getD i 0]⟩ : Str)) i) t := fun i v hv => by
     obtain ⟨c, u, hc, rfl⟩ := hv
     exact ⟨u, by simp [Array.getD_eq_getD_getElem?, hc]⟩
    refine updS_loop (bt := byT w) ((W _ hh3).toS) s.heap.objs.size (by simpa using hne) (fun i => (⟨#[z.cps.getD i 0]⟩ : Str)) hval hb (z.cps.size - 0) 0 _ [] (by omega) (Nat.zero_le _) st
     (setS_new (Heap.get?_push_of_some _ hS)) (fun y => by simp) (Nat.le_refl _) fun s' zs mv hS' hm => ?_
    obtain ⟨h', g', d', tk', os'⟩ := s'
    have eg : g' = s.gens := mv.gens
    have ed : d' = s.drawn := mv.drawn
    have eo : os' = s.os := mv.os
    subst eg ed eo
    show wpAny _ _ _ _ _ _
    refine wpAny_pure ?_
    show wpAny _ _ (ret Value.none) _ _ _
    refine wpAny_pure ⟨rfl, h', tk', zs, rfl, hS', fun y => ?_, fun b o e => ?_⟩
    ·rw [hm y]
     constructor
     ·rintro ⟨j, hj, rfl⟩
      exact ⟨z.cps[j], by simp, by simp [Array.getD_eq_getD_getElem?, hj]⟩
     ·rintro ⟨c, hc, rfl⟩
      obtain ⟨j, hj, e⟩ := List.getElem_of_mem hc
      exact ⟨j, by simpa using hj, by simp [Array.getD_eq_getD_getElem?, show j < z.cps.size by simpa using hj] at e ⊢; exact e⟩
    ·have b1 := Heap.lt_size e
     refine mv.heap b o (by rw [Heap.size_push]; simp only [List.mem_cons, List.not_mem_nil, or_false, not_or]; exact ⟨Nat.ne_of_lt b1, Nat.ne_of_lt (Nat.lt_succ_of_lt b1)⟩) (Heap.get?_push_of_some _ (Heap.get?_push_of_some _ e))
   ·cases r2 with
    | error e => exact hr2
    | ok fl2 =>
     cases fl2 with
     | ret r =>
      obtain ⟨rfl, h', tk, zs, rfl, q1, q2, q3⟩ := hr2
      repeat (any_goals (first | assumption | wp_step))
      exact h _ _ zs q1 q2 q3
     | _ => exact hr2.elim
  | _ => exact hr.elim
end
end L2.Na
namespace L2.Na
open PySem PySem.Spec PyProof.Rows
theorem slot_si_next : Slot "set_iterator" "__next__" "set_iterator.__next__" :=
 .of (owner := "set_iterator") (n := "__next__") (by rw [typeLookup_type, builtinLookup_eq_fast]; kernel_rfl) (by decide +kernel) (by decide +kernel) (by decide +kernel)
  (by first | exact .inl (by decide +kernel) | exact .inr (by decide +kernel)) (by rw [isSubtype_type]; kernel_rfl)
theorem entry_si_next : entryFor table "set_iterator.__next__" = some Builtin.«set_iterator.__next__» := entryFor_of_fast (by kernel_rfl)
theorem args_si_next (a : Value) : argsOk "set_iterator.__next__" ⟨[a], []⟩ := by unfold argsOk; kernel_rfl
theorem slot_si_iter : Slot "set_iterator" "__iter__" "set_iterator.__iter__" :=
 .of (owner := "set_iterator") (n := "__iter__") (by rw [typeLookup_type, builtinLookup_eq_fast]; kernel_rfl) (by decide +kernel) (by decide +kernel) (by decide +kernel)
  (by first | exact .inl (by decide +kernel) | exact .inr (by decide +kernel)) (by rw [isSubtype_type]; kernel_rfl)
theorem entry_si_iter : entryFor table "set_iterator.__iter__" = some Builtin.«dict_keyiterator.__iter__» :=
 entryFor_alias (id' := "dict_keyiterator.__iter__") (by kernel_rfl) rfl (by decide +kernel) (by kernel_rfl)
theorem args_si_iter (a : Value) : argsOk "set_iterator.__iter__" ⟨[a], []⟩ := by unfold argsOk; kernel_rfl
theorem entry_set_iter : entryFor table "set.__iter__" = some Builtin.«frozenset.__iter__» :=
 entryFor_alias (id' := "frozenset.__iter__") (by kernel_rfl) rfl (by decide +kernel) (by kernel_rfl)
def IsSI (h : Heap) (it : Addr) (first : Value) (i : Nat) (a : Addr) (n ep : Nat) : Prop := ∃ o, h.get? it = some o /\ o.cls = .type "set_iterator" /\ o.data = .fields #[first, .int i 0, .ref a, .int n 0, .int ep 0]
section
variable {prog : Program} {w : World} {A : Around} {E : Value -> Shared -> Prop} {s : Shared} {it a : Addr} {i n ep : Nat} {o : Obj} {es : Array (Int × Value)} {t : SetTable}
theorem IsSI.type {first : Value} (h : IsSI s.heap it first i a n ep) : s.TypeIs (.ref it) "set_iterator" := by
 obtain ⟨o, ho, hc, _⟩ := h
 exact ⟨o, ho, hc⟩
theorem si_self {first : Value} {Q : Value -> Shared -> Prop} (hit : IsSI s.heap it first i a n ep) (h : Q (.ref it) s) : wpAny (model prog w) A (pyIter (.ref it)) Q E s := by
 refine wpAny_pyIter_slot hit.type slot_si_iter (wpAny_call_entry slot_si_iter hit.type entry_si_iter ?_ (args_si_iter _))
 show wpAny _ _ (ret (.ref it)) _ _ s
 exact wpAny_pure ⟨_, rfl, "set_iterator", _, hit.type, slot_si_next.lookup, h⟩
theorem si_nextA {slot nx : Nat} {x : Value} {Q : Option Value -> Shared -> Prop} (hit : IsSI s.heap it (.int slot 0) i a n ep) (ho : s.heap.get? a = some o) (hd : o.data = .set es ep t) (hf : t.fits es.size = true) (hn : es.size = n)
  (hx : ∀ (A : Around) (E : Value -> Shared -> Prop) (Q' : Option (Value × Nat) -> Shared -> Prop), Q' (some (x, nx)) s -> wpAny (model prog w) A (setNext a slot i ep) Q' E s)
  (h : ∀ h', IsSI h' it (.int nx 0) (i + 1) a n ep -> Heap.SameBut it s.heap h' -> Q (some x) { s with heap := h' }) : wpAny (model prog w) A (pyNext (.ref it)) Q E s := by
 obtain ⟨oi, hoi, hci, hdi⟩ := id hit
 unfold pyNext
 refine wpAny_bind (wpAny_attempt (wpAny_callSpecial?_slot (name := Str.ofString "__next__") hit.type slot_si_next (wpAny_call_entry slot_si_next hit.type entry_si_next ?_ (args_si_next _))))
 show wpAny _ _ (fieldsOf (.ref it) >>= _) _ _ s
 refine wpAny_bind (wpAny_fieldsOf hoi hdi ?_)
 show wpAny _ _ (setEntries a >>= _) _ _ s
 refine wpAny_bind (wpAny_setEntries_of ho hd hf ?_)
 rw [if_neg (by simp [hn])]
 show wpAny _ _ (setNext a (Int.toNat (slot : Nat)) (Int.toNat (i : Nat)) (Int.toNat (ep : Nat)) >>= _) _ _ s
 rw [Int.toNat_natCast, Int.toNat_natCast, Int.toNat_natCast]
 refine wpAny_bind (hx _ _ _ ?_)
 dsimp only
 refine wpAny_bind (wpAny_setField hoi hdi (by simp) ?_)
 have g1 := Heap.get?_update_self (Obj.mapFields (·.setIfInBounds 0 (rawInt nx))) hoi (Obj.isFreed_of_fields (Obj.data_mapFields hdi _))
 have d1 := Obj.data_mapFields hdi (·.setIfInBounds 0 (rawInt nx))
 refine wpAny_bind (wpAny_setField g1 d1 (by simp) ?_)
 have g2 := Heap.get?_update_self (Obj.mapFields (·.setIfInBounds 1 (rawInt ((i : Int) + 1)))) g1 (Obj.isFreed_of_fields (Obj.data_mapFields d1 _))
 have d2 := Obj.data_mapFields d1 (·.setIfInBounds 1 (rawInt ((i : Int) + 1)))
 refine wpAny_pure ⟨x, rfl, wpAny_pure (h _ ⟨_, g2, (Obj.cls_mapFields ..).trans ((Obj.cls_mapFields ..).trans hci), ?_⟩ ((Heap.SameBut.update ..).trans (Heap.SameBut.update ..)))⟩
 rw [d2]
 simp [rawInt]
theorem si_nextB {tp : Addr} {ot : Obj} {ps : Array Value} {m p : Nat} {u : Tok} {x : Value} {hx : Int} {Q : Option Value -> Shared -> Prop} (hit : IsSI s.heap it (.ref tp) i a n ep) (ho : s.heap.get? a = some o) (hd : o.data = .set es ep t) (hf : t.fits es.size = true) (hn : es.size = n)
  (hot : s.heap.get? tp = some ot) (hdt : ot.data = .seq ps m) (hp : ps[i]? = some (.int p u)) (he : es[p]? = some (hx, x))
  (h : ∀ h', IsSI h' it (.ref tp) (i + 1) a n ep -> Heap.SameBut it s.heap h' -> Q (some x) { s with heap := h' }) : wpAny (model prog w) A (pyNext (.ref it)) Q E s := by
 obtain ⟨oi, hoi, hci, hdi⟩ := id hit
 unfold pyNext
 refine wpAny_bind (wpAny_attempt (wpAny_callSpecial?_slot (name := Str.ofString "__next__") hit.type slot_si_next (wpAny_call_entry slot_si_next hit.type entry_si_next ?_ (args_si_next _))))
 show wpAny _ _ (fieldsOf (.ref it) >>= _) _ _ s
 refine wpAny_bind (wpAny_fieldsOf hoi hdi ?_)
 show wpAny _ _ (setEntries a >>= _) _ _ s
 refine wpAny_bind (wpAny_setEntries_of ho hd hf ?_)
 rw [if_neg (by simp [hn])]
 show wpAny _ _ (seqItems? (.ref tp) >>= _) _ _ s
 refine wpAny_bind (wpAny_seqItems hot hdt ?_)
 dsimp only
 rw [Int.toNat_natCast, hp]
 dsimp only
 rw [Int.toNat_natCast, Int.toNat_natCast]
 unfold setNextDrawn
 refine wpAny_bind (wpAny_bind (wpAny_setState_of ho hd hf ?_))
 dsimp only
 rw [if_neg (by simp)]
 rw [he]
 refine wpAny_pure ?_
 refine wpAny_bind (wpAny_setField hoi hdi (by simp) ?_)
 have g2 := Heap.get?_update_self (Obj.mapFields (·.setIfInBounds 1 (rawInt ((i : Int) + 1)))) hoi (Obj.isFreed_of_fields (Obj.data_mapFields hdi _))
 have d2 := Obj.data_mapFields hdi (·.setIfInBounds 1 (rawInt ((i : Int) + 1)))
 refine wpAny_pure ⟨x, rfl, wpAny_pure (h _ ⟨_, g2, (Obj.cls_mapFields ..).trans hci, ?_⟩ (Heap.SameBut.update ..))⟩
 rw [d2]
 simp [rawInt]
theorem si_endA {slot : Nat} {Q : Option Value -> Shared -> Prop} (hh : A.handled = none) (hit : IsSI s.heap it (.int slot 0) i a n ep) (ho : s.heap.get? a = some o) (hd : o.data = .set es ep t) (hf : t.fits es.size = true) (hn : es.size = n)
  (hx : ∀ (A : Around) (E : Value -> Shared -> Prop) (Q' : Option (Value × Nat) -> Shared -> Prop), Q' none s -> wpAny (model prog w) A (setNext a slot i ep) Q' E s)
  (h : ∀ h', Heap.ExtBut it s.heap h' -> Q none { s with heap := h' }) : wpAny (model prog w) A (pyNext (.ref it)) Q E s := by
 obtain ⟨oi, hoi, hci, hdi⟩ := id hit
 unfold pyNext
 refine wpAny_bind (wpAny_attempt (wpAny_callSpecial?_slot (name := Str.ofString "__next__") hit.type slot_si_next (wpAny_call_entry slot_si_next hit.type entry_si_next ?_ (args_si_next _))))
 show wpAny _ _ (fieldsOf (.ref it) >>= _) _ _ s
 refine wpAny_bind (wpAny_fieldsOf hoi hdi ?_)
 show wpAny _ _ (setEntries a >>= _) _ _ s
 refine wpAny_bind (wpAny_setEntries_of ho hd hf ?_)
 rw [if_neg (by simp [hn])]
 show wpAny _ _ (setNext a (Int.toNat (slot : Nat)) (Int.toNat (i : Nat)) (Int.toNat (ep : Nat)) >>= _) _ _ s
 rw [Int.toNat_natCast, Int.toNat_natCast, Int.toNat_natCast]
 refine wpAny_bind (hx _ _ _ ?_)
 dsimp only
 refine wpAny_bind (wpAny_setField hoi hdi (by simp) ?_)
 show wpAny _ _ (newExc (.type "StopIteration") [] >>= _) _ _ _
 refine wpAny_bind ?_
 simp only [newExc, newTuple]
 refine wpAny_bind (wpAny_newObj_type ?_ (by size_fits))
 refine wpAny_bind (m := firstArgMember _ _) (wpAny_of_eq (a := Value.none) (by first | rfl | (simp only [firstArgMember]; rfl)) ?_)
 refine wpAny_newObj_type ?_ (by size_fits)
 simp only [raiseNew]
 refine wpAny_bind (wpAny_handled ?_)
 first | rw [show A.in1.handled = none from hh] | rw [hh]
 refine wpAny_bind (wpAny_pure (wpAny_throw ?_))
 refine wpAny_bind (wpAny_isInstance (T := "StopIteration") (b := true) ⟨_, Heap.get?_push_size _ rfl, rfl⟩ isSubtype_stop ?_)
 exact wpAny_pure (h _ (((Heap.SameBut.update ..).extBut.push _).push _))
theorem si_endB {tp : Addr} {ot : Obj} {ps : Array Value} {m : Nat} {Q : Option Value -> Shared -> Prop} (hh : A.handled = none) (hit : IsSI s.heap it (.ref tp) i a n ep) (ho : s.heap.get? a = some o) (hd : o.data = .set es ep t) (hf : t.fits es.size = true) (hn : es.size = n)
  (hot : s.heap.get? tp = some ot) (hdt : ot.data = .seq ps m) (hp : ps[i]? = none)
  (h : ∀ h', Heap.ExtBut it s.heap h' -> Q none { s with heap := h' }) : wpAny (model prog w) A (pyNext (.ref it)) Q E s := by
 obtain ⟨oi, hoi, hci, hdi⟩ := id hit
 unfold pyNext
 refine wpAny_bind (wpAny_attempt (wpAny_callSpecial?_slot (name := Str.ofString "__next__") hit.type slot_si_next (wpAny_call_entry slot_si_next hit.type entry_si_next ?_ (args_si_next _))))
 show wpAny _ _ (fieldsOf (.ref it) >>= _) _ _ s
 refine wpAny_bind (wpAny_fieldsOf hoi hdi ?_)
 show wpAny _ _ (setEntries a >>= _) _ _ s
 refine wpAny_bind (wpAny_setEntries_of ho hd hf ?_)
 rw [if_neg (by simp [hn])]
 show wpAny _ _ (seqItems? (.ref tp) >>= _) _ _ s
 refine wpAny_bind (wpAny_seqItems hot hdt ?_)
 dsimp only
 rw [Int.toNat_natCast, hp]
 dsimp only
 refine wpAny_bind (wpAny_setField hoi hdi (by simp) ?_)
 have g1 := Heap.get?_update_self (Obj.mapFields (·.setIfInBounds 0 (rawInt 0))) hoi (Obj.isFreed_of_fields (Obj.data_mapFields hdi _))
 have d1 := Obj.data_mapFields hdi (·.setIfInBounds 0 (rawInt 0))
 refine wpAny_bind (wpAny_setField g1 d1 (by simp) ?_)
 show wpAny _ _ (newExc (.type "StopIteration") [] >>= _) _ _ _
 refine wpAny_bind ?_
 simp only [newExc, newTuple]
 refine wpAny_bind (wpAny_newObj_type ?_ (by size_fits))
 refine wpAny_bind (m := firstArgMember _ _) (wpAny_of_eq (a := Value.none) (by first | rfl | (simp only [firstArgMember]; rfl)) ?_)
 refine wpAny_newObj_type ?_ (by size_fits)
 simp only [raiseNew]
 refine wpAny_bind (wpAny_handled ?_)
 first | rw [show A.in1.handled = none from hh] | rw [hh]
 refine wpAny_bind (wpAny_pure (wpAny_throw ?_))
 refine wpAny_bind (wpAny_isInstance (T := "StopIteration") (b := true) ⟨_, Heap.get?_push_size _ rfl, rfl⟩ isSubtype_stop ?_)
 exact wpAny_pure (h _ ((((Heap.SameBut.update ..).trans (Heap.SameBut.update ..)).extBut.push _).push _))
end
end L2.Na
namespace L2.Na
open PySem PySem.Spec PyProof.Rows
section
variable {prog : Program} {w : World} {A : Around} {E : Value -> Shared -> Prop} {s : Shared}
theorem choose_any {src : Source} {n : Nat} {Q : Nat -> Shared -> Prop} (hn : n ≠ 0) (h : ∀ i d, i < n -> Q i { s with drawn := d }) : wpAny (model prog w) A (choose src n) Q E s := fun Γ p hΓ => by
 unfold choose
 rw [Sem.wp_choose]
 exact ⟨hn, h _ _ (Nat.mod_lt _ (Nat.pos_of_ne_zero hn))⟩
theorem erase_perm {α : Type} : ∀ {l : List α} {i : Nat} (h : i < l.length), List.Perm (l[i] :: l.eraseIdx i) l
 | _ :: _, 0, _ => List.Perm.refl _
 | x :: l, i + 1, h => (List.Perm.swap ..).trans ((erase_perm (l := l) (i := i) (by simpa using h)).cons x)
theorem drawn_any {α : Type} : ∀ (n : Nat) (xs : List α) (s : Shared) (Q : List α -> Shared -> Prop), xs.length = n -> (∀ ys d, List.Perm ys xs -> Q ys { s with drawn := d }) -> wpAny (model prog w) A (drawOrder n xs) Q E s
 | 0, xs, s, Q, hl, h => by
  have e : xs = [] := List.eq_nil_of_length_eq_zero hl
  subst e
  exact wpAny_pure (h [] s.drawn (List.Perm.refl _))
 | n + 1, [], s, Q, hl, h => nomatch hl
 | n + 1, x :: xs, s, Q, hl, h => by
  unfold drawOrder
  refine wpAny_bind (choose_any (by simp) fun i d hi => ?_)
  rw [List.getElem?_eq_getElem hi]
  dsimp only
  refine wpAny_bind (drawn_any n _ _ _ (by rw [List.length_eraseIdx_of_lt hi]; simpa using hl) fun ys d' hp => ?_)
  exact wpAny_pure (h _ d' ((List.Perm.cons _ hp).trans (erase_perm hi)))
theorem pick_go {α : Type} (next : Nat -> Nat) : ∀ (f k : Nat) (left : List α) (out : Array α), left.length = f -> List.Perm (pickOrder.go next f k left out).toList (out.toList ++ left)
 | 0, k, left, out, hl => by
  have e : left = [] := List.eq_nil_of_length_eq_zero hl
  subst e
  unfold pickOrder.go
  rw [List.append_nil]
 | f + 1, k, left, out, hl => by
  unfold pickOrder.go
  have hi : next k % left.length < left.length := Nat.mod_lt _ (by omega)
  rw [List.getElem?_eq_getElem hi]
  dsimp only
  refine (pick_go next f (k + 1) _ _ (by rw [List.length_eraseIdx_of_lt hi]; omega)).trans ?_
  rw [Array.toList_push, List.append_assoc]
  exact (List.Perm.refl _).append (erase_perm hi)
theorem pick_perm {α : Type} (next : Nat -> Nat) (xs : Array α) : List.Perm (pickOrder next xs).toList xs.toList := by
 unfold pickOrder
 exact pick_go next _ _ _ _ (by simp)
variable {a : Addr} {o : Obj} {es : Array (Int × Value)} {ep : Nat} {t : SetTable}
theorem byText_is {Q : Bool -> Shared -> Prop} (h : Q (byT w) s) : wpAny (model prog w) A setsByText Q E s := by
 unfold setsByText
 exact wpAny_bind (wpAny_askSetting (wpAny_pure h))
theorem setDrawn_is {Q : Bool -> Shared -> Prop} (ho : s.heap.get? a = some o) (hd : o.data = .set es ep t) (hf : t.fits es.size = true) (h : Q (!byT w && (!t.plain && decide (es.size > 1))) s) : wpAny (model prog w) A (setDrawn a) Q E s := by
 unfold setDrawn
 refine wpAny_bind (wpAny_setState_of ho hd hf ?_)
 dsimp only
 refine wpAny_bind (byText_is ?_)
 exact wpAny_pure h
theorem setNext_text {Q : Option (Value × Nat) -> Shared -> Prop} {slot i : Nat} (bt : byT w = true) (ho : s.heap.get? a = some o) (hd : o.data = .set es ep t) (hf : t.fits es.size = true)
  (h : Q (((pickOrder (w.params.setOrder a ep) es)[i]?).map fun e => (e.2, slot)) s) : wpAny (model prog w) A (setNext a slot i ep) Q E s := by
 unfold setNext
 refine wpAny_bind (wpAny_setState_of ho hd hf ?_)
 dsimp only
 refine wpAny_bind (byText_is ?_)
 rw [bt]
 simp only [↓reduceIte, bne_self_eq_false, Bool.false_eq_true]
 refine wpAny_bind ?_
 unfold setWalk
 refine wpAny_bind (wpAny_setState_of ho hd hf ?_)
 dsimp only
 refine wpAny_bind (byText_is ?_)
 rw [bt]
 simp only [↓reduceIte]
 exact wpAny_bind (wpAny_askSetting (wpAny_pure (wpAny_pure h)))
theorem setNext_slot {Q : Option (Value × Nat) -> Shared -> Prop} {slot i : Nat} (bt : byT w = false) (h1 : es.size <= 1) (hl : t.led = true) (ho : s.heap.get? a = some o) (hd : o.data = .set es ep t) (hf : t.fits es.size = true)
  (h : Q (match es[SetTable.below t.place slot]?, t.place[SetTable.below t.place slot]? with
   | some (_, x), some j => some (x, j + 1)
   | _, _ => none) s) : wpAny (model prog w) A (setNext a slot i ep) Q E s := by
 obtain ⟨mk, pl, dm, fg, ld, mv, pn⟩ := t
 cases hl
 have hz : decide (es.size > 1) = false := decide_eq_false (by omega)
 unfold setNext
 refine wpAny_bind (wpAny_setState_of ho hd hf ?_)
 dsimp only
 refine wpAny_bind (byText_is ?_)
 rw [bt]
 simp only [Bool.false_eq_true, ↓reduceIte]
 split
 ·rename_i hc
  have hc' : (!pn && decide (es.size > 1)) = true := hc
  rw [hz, Bool.and_false] at hc'
  cases hc'
 ·exact wpAny_bind (wpAny_of_eq (a := ()) rfl (wpAny_pure h))
end
end L2.Na
namespace L2.Na
open PySem PySem.Spec PyProof.Rows
section
variable {prog : Program} {w : World} {A : Around} {I a : Addr} {o : Obj} {es : Array (Int × Value)} {ep : Nat} {t : SetTable}
theorem IsSI.keep {h h' : Heap} {it : Addr} {first : Value} {i n : Nat} (hI : IsSI h it first i a n ep) (k : ∀ o, h.get? it = some o -> h'.get? it = some o) : IsSI h' it first i a n ep := by
 obtain ⟨o, ho, r⟩ := hI
 exact ⟨o, k o ho, r⟩
theorem walk_text (bt : byT w = true) (hh : A.handled = none) (hne : a ≠ I) (hd : o.data = .set es ep t) (hf : t.fits es.size = true) :
  Walks prog w A I [I, a] [I] es.size (fun i v => ((pickOrder (w.params.setOrder a ep) es).toList.map (·.2))[i]? = some v) (fun i h => IsSI h I (.int (0 : Nat) 0) i a es.size ep /\ h.get? a = some o) where
 sub := fun b hb => by simp at hb; simp [hb]
 frame := fun _ _ _ st hk => ⟨st.1.keep fun o e => hk I (by simp) o e, hk a (by simp) o st.2⟩
 item := fun i s Q E hi st hQ => by
  have hl : (pickOrder (w.params.setOrder a ep) es).size = es.size := by
   rw [<- Array.length_toList, (pick_perm _ es).length_eq, Array.length_toList]
  have hi' : i < (pickOrder (w.params.setOrder a ep) es).size := by omega
  refine si_nextA (x := (pickOrder (w.params.setOrder a ep) es)[i].2) (nx := 0) st.1 st.2 hd hf rfl (fun A' E' Q' q => setNext_text bt st.2 hd hf (by simpa [hi'] using q)) fun h' hit' hs' => ?_
  exact hQ _ h' s.toks (by simp [hi']) ⟨hit', by rw [hs'.2 a hne]; exact st.2⟩ fun b o hb e => hs'.extBut b o (fun h => hb (by simp [h])) e
 done := fun s Q E st hQ => by
  have hl : (pickOrder (w.params.setOrder a ep) es).size = es.size := by
   rw [<- Array.length_toList, (pick_perm _ es).length_eq, Array.length_toList]
  exact si_endA hh st.1 st.2 hd hf rfl (fun A' E' Q' q => setNext_text bt st.2 hd hf (by rw [Array.getElem?_eq_none (by omega)]; exact q)) fun h' he' => hQ h' s.toks fun b o hb e => he' b o (fun h => hb (by simp [h])) e
 self := fun i s Q E st hQ => si_self st.1 hQ
def slotAt (t : SetTable) : Nat -> Nat
 | 0 => 0
 | _ + 1 => t.place.getD 0 0 + 1
theorem below_one (j : Nat) : SetTable.below #[j] 0 = 0 /\ SetTable.below #[j] (j + 1) = 1 := by
 constructor <;> simp [SetTable.below, SetTable.below.go]
theorem walk_one (bt : byT w = false) (h1 : es.size <= 1) (hl : t.led = true) (hh : A.handled = none) (hne : a ≠ I) (hd : o.data = .set es ep t) (hf : t.fits es.size = true) :
  Walks prog w A I [I, a] [I] es.size (fun i v => (es.toList.map (·.2))[i]? = some v) (fun i h => IsSI h I (.int (slotAt t i : Nat) 0) i a es.size ep /\ h.get? a = some o) where
 sub := fun b hb => by simp at hb; simp [hb]
 frame := fun _ _ _ st hk => ⟨st.1.keep fun o e => hk I (by simp) o e, hk a (by simp) o st.2⟩
 item := fun i s Q E hi st hQ => by
  have i0 : i = 0 := by omega
  subst i0
  have hpl : t.place.size = es.size := by
   simp only [SetTable.fits, Bool.and_eq_true, beq_iff_eq] at hf
   exact hf.1
  obtain ⟨j, hj⟩ : ∃ j, t.place = #[j] := Array.size_eq_one_iff.mp (by omega)
  obtain ⟨e, he⟩ : ∃ e, es = #[e] := Array.size_eq_one_iff.mp (by omega)
  refine si_nextA (x := e.2) (nx := j + 1) st.1 st.2 hd hf rfl (fun A' E' Q' q => setNext_slot bt h1 hl st.2 hd hf (by
   show Q' (match es[SetTable.below t.place 0]?, t.place[SetTable.below t.place 0]? with
    | some (_, x), some j => some (x, j + 1)
    | _, _ => none) s
   rw [hj, (below_one j).1, he]
   exact q)) fun h' hit' hs' => ?_
  refine hQ _ h' s.toks (by simp [he]) ⟨?_, by rw [hs'.2 a hne]; exact st.2⟩ fun b o hb e => hs'.extBut b o (fun h => hb (by simp [h])) e
  have : slotAt t (0 + 1) = j + 1 := by unfold slotAt; rw [hj]; rfl
  rw [this]
  exact hit'
 done := fun s Q E st hQ => by
  have hpl : t.place.size = es.size := by
   simp only [SetTable.fits, Bool.and_eq_true, beq_iff_eq] at hf
   exact hf.1
  refine si_endA hh st.1 st.2 hd hf rfl (fun A' E' Q' q => setNext_slot bt h1 hl st.2 hd hf ?_) fun h' he' => hQ h' s.toks fun b o hb e => he' b o (fun h => hb (by simp [h])) e
  by_cases h0 : es.size = 0
  ·rw [Array.getElem?_eq_none (show es.size <= _ by omega)]
   exact q
  ·obtain ⟨j, hj⟩ : ∃ j, t.place = #[j] := Array.size_eq_one_iff.mp (by omega)
   obtain ⟨e, he⟩ : ∃ e, es = #[e] := Array.size_eq_one_iff.mp (by omega)
   have : slotAt t es.size = j + 1 := by rw [he]; unfold slotAt; rw [hj]; rfl
   rw [this, hj, (below_one j).2, he]
   exact q
 self := fun i s Q E st hQ => si_self st.1 hQ
theorem fm_all {α β : Type} {f : α -> Option β} {d : β} : ∀ (l : List α), (∀ x ∈ l, (f x).isSome = true) -> l.filterMap f = l.map fun x => (f x).getD d
 | [], _ => rfl
 | x :: l, h => by
  obtain ⟨y, hy⟩ := Option.isSome_iff_exists.mp (h x List.mem_cons_self)
  rw [List.filterMap_cons_some hy, List.map_cons, fm_all l fun z hz => h z (List.mem_cons_of_mem _ hz), hy]
  rfl
theorem walk_drawn {tp : Addr} {ot : Obj} {m : Nat} {ord : List Nat} (hh : A.handled = none) (hne : a ≠ I) (hnt : tp ≠ I) (hd : o.data = .set es ep t) (hf : t.fits es.size = true) (hdt : ot.data = .seq (ord.map fun (i : Nat) => rawInt i).toArray m) (hp : List.Perm ord (List.range es.size)) :
  Walks prog w A I [I, a, tp] [I] es.size (fun i v => (ord.filterMap fun p => es[p]?.map (·.2))[i]? = some v) (fun i h => IsSI h I (.ref tp) i a es.size ep /\ h.get? a = some o /\ h.get? tp = some ot) where
 sub := fun b hb => by simp at hb; simp [hb]
 frame := fun _ _ _ st hk => ⟨st.1.keep fun o e => hk I (by simp) o e, hk a (by simp) o st.2.1, hk tp (by simp) ot st.2.2⟩
 item := fun i s Q E hi st hQ => by
  have hl : ord.length = es.size := by rw [hp.length_eq, List.length_range]
  have hlt : ∀ p ∈ ord, p < es.size := fun p hp' => List.mem_range.mp (hp.mem_iff.mp hp')
  have hi' : i < ord.length := by omega
  have hpi := hlt _ (List.getElem_mem hi')
  have hfm : ord.filterMap (fun p => es[p]?.map (·.2)) = ord.map fun p => (es[p]?.map (·.2)).getD .none := fm_all _ fun p hp' => by simp [hlt p hp']
  refine si_nextB (x := es[ord[i]].2) (hx := es[ord[i]].1) (p := ord[i]) (u := 0) st.1 st.2.1 hd hf rfl st.2.2 hdt (by simp [hi', rawInt]) (by simp [hpi]) fun h' hit' hs' => ?_
  exact hQ _ h' s.toks (by rw [hfm]; simp [hi', hpi]) ⟨hit', by rw [hs'.2 a hne]; exact st.2.1, by rw [hs'.2 tp hnt]; exact st.2.2⟩ fun b o hb e => hs'.extBut b o (fun h => hb (by simp [h])) e
 done := fun s Q E st hQ => by
  have hl : ord.length = es.size := by rw [hp.length_eq, List.length_range]
  exact si_endB hh st.1 st.2.1 hd hf rfl st.2.2 hdt (by simp [hl]) fun h' he' => hQ h' s.toks fun b o hb e => he' b o (fun h => hb (by simp [h])) e
 self := fun i s Q E st hQ => si_self st.1 hQ
end
end L2.Na
namespace L2.Na
open PySem PySem.Spec PyProof.Rows
section
variable {prog : Program} {w : World} {A : Around} {E : Value -> Shared -> Prop} {s : Shared}
theorem walked_strs {es : Array (Int × Value)} {ys : List Value} (hel : ElemsOf (PySem.strKind prog w) es.toList) (hp : List.Perm ys (es.toList.map (·.2))) : ys.length = (keysS es).length /\ StrsAre ys (ys.map PyProof.Rows.strOf) /\ List.Perm (ys.map PyProof.Rows.strOf) (keysS es) := by
 refine ⟨by rw [hp.length_eq]; unfold keysS; rw [List.length_map, List.length_map], strsAre_map ys fun v hv => ?_, ?_⟩
 ·obtain ⟨e, he, rfl⟩ := List.mem_map.mp (hp.mem_iff.mp hv)
  obtain ⟨⟨k, hk, _⟩, _⟩ := hel e he
  obtain ⟨u, hu⟩ := Value.isStrOf_shape hk
  exact ⟨k, u, hu⟩
 ·have := hp.map PyProof.Rows.strOf
  rw [List.map_map] at this
  exact this
theorem setS_iter {a : Addr} {zs : List Str} {Q : Value -> Shared -> Prop} (hS : SetS prog w (byT w) s.heap a zs)
  (h : ∀ (I : Addr) (s' : Shared) (fp : List Addr) (ys : List Value) (St : Nat -> Heap -> Prop), (∀ A' : Around, A'.handled = none -> Walks prog w A' I fp [I] zs.length (fun i v => ys[i]? = some v) St) -> St 0 s'.heap ->
   (∀ b o, s.heap.get? b = some o -> s'.heap.get? b = some o) -> s.heap.objs.size <= I -> (∀ b ∈ fp, b = a \/ s.heap.objs.size <= b) -> ys.length = zs.length -> StrsAre ys (ys.map PyProof.Rows.strOf) -> List.Perm (ys.map PyProof.Rows.strOf) zs ->
   s'.gens = s.gens -> s'.os = s.os -> s'.toks = s.toks -> Q (.ref I) s') :
  wpAny (model prog w) A (pyIter (.ref a)) Q E s := by
 obtain ⟨o, es, ep, t, ho, hex, hd, hel, rfl, nd, hb, hf, hl, hp⟩ := hS
 have hT : s.TypeIs (.ref a) "set" := ⟨o, ho, hex.1⟩
 have hlen : (keysS es).length = es.size := by unfold keysS; rw [List.length_map, Array.length_toList]
 have alt : a < s.heap.objs.size := Heap.lt_size ho
 refine wpAny_pyIter_slot hT PySem.F.slot_set_iter (wpAny_call_entry PySem.F.slot_set_iter hT entry_set_iter ?_ (PySem.F.args_set_iter_1 _))
 unfold Builtin.«frozenset.__iter__» Builtin.Frozenset.slot0 slotArgs
 simp only [List.isEmpty_nil, Bool.not_true, Bool.false_eq_true, ↓reduceIte, bind_assoc, List.length_nil, bne_self_eq_false]
 unfold Builtin.Frozenset.addrOf Builtin.Frozenset.sizeOf
 refine wpAny_bind (wpAny_pure ?_)
 try dsimp only
 refine wpAny_bind (wpAny_pure ?_)
 refine wpAny_bind (wpAny_bind (wpAny_setEntries_of ho hd hf (wpAny_pure ?_)))
 refine wpAny_bind (setDrawn_is ho hd hf ?_)
 split
 ·refine wpAny_bind (drawn_any es.size (List.range es.size) s _ List.length_range fun ord d hpo => ?_)
  have hol : ord.length = es.size := by rw [hpo.length_eq, List.length_range]
  refine wpAny_bind (wpAny_newTuple ?_ (by rw [List.length_map, hol]; exact fits_of_scanBound hb))
  refine wpAny_bind (wpAny_setEpoch_of (Heap.get?_push_of_some _ ho) hd hf ?_)
  refine wpAny_bind (wpAny_newObj_type ?_)
  refine wpAny_pure ⟨_, rfl, "set_iterator", _, ⟨_, Heap.get?_push_size _ rfl, rfl⟩, slot_si_next.lookup, ?_⟩
  have pm : List.Perm (ord.filterMap fun p => es[p]?.map (·.2)) (es.toList.map (·.2)) := by
   have z := hpo.filterMap fun p => es[p]?.map (·.2)
   rw [<- List.map_filterMap, <- List.map_filterMap, filterMap_getElem?_range] at z
   rwa [<- List.map_filterMap]
  obtain ⟨q1, q2, q3⟩ := walked_strs hel pm
  refine h (s.heap.push ({ cls := .type "tuple", data := .seq (ord.map fun (i : Nat) => rawInt i).toArray } : Obj)).objs.size _ [(s.heap.push ({ cls := .type "tuple", data := .seq (ord.map fun (i : Nat) => rawInt i).toArray } : Obj)).objs.size, a, s.heap.objs.size] _ (fun i h => IsSI h (s.heap.push ({ cls := .type "tuple", data := .seq (ord.map fun (i : Nat) => rawInt i).toArray } : Obj)).objs.size (.ref s.heap.objs.size) i a es.size ep /\ h.get? a = some o /\ h.get? s.heap.objs.size = some ({ cls := .type "tuple", data := .seq (ord.map fun (i : Nat) => rawInt i).toArray } : Obj)) (fun A' hh' => ?_) ⟨⟨_, Heap.get?_push_size _ rfl, rfl, rfl⟩, Heap.get?_push_of_some _ (Heap.get?_push_of_some _ ho), Heap.get?_push_of_some _ (Heap.get?_push_size _ rfl)⟩ (fun b o e => Heap.get?_push_of_some _ (Heap.get?_push_of_some _ e)) ?_ (fun b hb' => ?_) q1 q2 q3 rfl rfl rfl
  ·rw [hlen]
   exact walk_drawn hh' (by rw [Heap.size_push]; exact Nat.ne_of_lt (Nat.lt_succ_of_lt alt)) (by rw [Heap.size_push]; exact Nat.ne_of_lt (Nat.lt_succ_self _)) hd hf rfl hpo
  ·rw [Heap.size_push]; exact Nat.le_succ _
  ·rcases List.mem_cons.mp hb' with rfl | hb'
   ·exact .inr (by rw [Heap.size_push]; exact Nat.le_succ _)
   ·rcases List.mem_cons.mp hb' with rfl | hb'
    ·exact .inl rfl
    ·rw [List.mem_singleton.mp hb']
     exact .inr (Nat.le_refl _)
 ·rename_i hc
  refine wpAny_bind (wpAny_pure ?_)
  refine wpAny_bind (wpAny_setEpoch_of ho hd hf ?_)
  refine wpAny_bind (wpAny_newObj_type ?_)
  refine wpAny_pure ⟨_, rfl, "set_iterator", _, ⟨_, Heap.get?_push_size _ rfl, rfl⟩, slot_si_next.lookup, ?_⟩
  have fps : ∀ b ∈ [s.heap.objs.size, a], b = a \/ s.heap.objs.size <= b := fun b hb' => by
   rcases List.mem_cons.mp hb' with rfl | hb'
   ·exact .inr (Nat.le_refl _)
   ·exact .inl (List.mem_singleton.mp hb')
  cases bt : byT w with
  | true =>
   obtain ⟨q1, q2, q3⟩ := walked_strs hel ((pick_perm (w.params.setOrder a ep) es).map (·.2))
   refine h s.heap.objs.size _ [s.heap.objs.size, a] _ (fun i h => IsSI h s.heap.objs.size (.int (0 : Nat) 0) i a es.size ep /\ h.get? a = some o) (fun A' hh' => ?_) ⟨⟨_, Heap.get?_push_size _ rfl, rfl, rfl⟩, Heap.get?_push_of_some _ ho⟩ (fun b o e => Heap.get?_push_of_some _ e) (Nat.le_refl _) fps q1 q2 q3 rfl rfl rfl
   rw [hlen]
   exact walk_text bt hh' (Nat.ne_of_lt alt) hd hf
  | false =>
   have h1 : es.size <= 1 := by
    rw [bt] at hc
    by_cases z : es.size <= 1
    ·exact z
    ·rw [hp (by omega), decide_eq_true (show es.size > 1 by omega)] at hc
     exact absurd rfl hc
   obtain ⟨q1, q2, q3⟩ := walked_strs hel (List.Perm.refl _)
   refine h s.heap.objs.size _ [s.heap.objs.size, a] _ (fun i h => IsSI h s.heap.objs.size (.int (slotAt t i : Nat) 0) i a es.size ep /\ h.get? a = some o) (fun A' hh' => ?_) ⟨⟨_, Heap.get?_push_size _ rfl, rfl, rfl⟩, Heap.get?_push_of_some _ ho⟩ (fun b o e => Heap.get?_push_of_some _ e) (Nat.le_refl _) fps q1 q2 q3 rfl rfl rfl
   rw [hlen]
   exact walk_one bt h1 (by rw [hl, bt]; rfl) hh' (Nat.ne_of_lt alt) hd hf
end
end L2.Na
namespace L2.Na
open PySem PySem.Spec PyProof.Rows
section
variable {prog : Program} {w : World} {A : Around} {E : Value -> Shared -> Prop} {s : Shared}
theorem set_hint {a : Addr} {Q : Bool -> Shared -> Prop} (hT : s.TypeIs (.ref a) "set") (h : Q false s) : wpAny (model prog w) A (Builtin.List.listLengthHint (.ref a)) Q E s := by
 unfold Builtin.List.listLengthHint
 refine wpAny_bind (wpAny_specialOf hT PySem.F.slot_set_len.lookup ?_)
 generalize hid : ("set.__len__" : String) = id0
 wp_delta
 rw [show splitId id0 = some ("set", "__len__") from by subst hid; decide +kernel]
 subst hid
 refine wpAny_bind (wpAny_isInstance (b := true) hT (by rw [isSubtype_type]; kernel_rfl) ?_)
 refine wpAny_ite_split (fun z => absurd z (by decide)) (fun _ => ?_)
 refine wpAny_ite_split (fun _ => ?_) (fun z => absurd (by decide +kernel) z)
 exact wpAny_bind (wpAny_typeOf hT (wpAny_pure h))
theorem SetS.type {bt : Bool} {a : Addr} {zs : List Str} (hS : SetS prog w bt s.heap a zs) : s.TypeIs (.ref a) "set" := by
 obtain ⟨o, _, _, _, ho, hex, _⟩ := hS
 exact ⟨o, ho, hex.1⟩
theorem setS_collect {a : Addr} {zs : List Str} {Q : List Value -> Shared -> Prop} (hh : A.handled = none) (hS : SetS prog w (byT w) s.heap a zs) (hn : zs.length <= sizeLine)
  (h : ∀ (s' : Shared) (ys : List Value), (∀ b o, s.heap.get? b = some o -> s'.heap.get? b = some o) -> s.heap.objs.size <= s'.heap.objs.size -> StrsAre ys (ys.map PyProof.Rows.strOf) -> List.Perm (ys.map PyProof.Rows.strOf) zs -> s'.gens = s.gens -> s'.os = s.os -> Q ys s') :
  wpAny (model prog w) A (collect (.ref a)) Q E s := by
 have alt : a < s.heap.objs.size := by
  obtain ⟨o, _, _, _, ho, _⟩ := hS
  exact Heap.lt_size ho
 unfold collect
 refine wpAny_bind (wpAny_runValue (codeAny_builtin entry_proto_collect' ?_))
 rw [Around.under_plainId PySem.F.plain_proto_collect _]
 show wpAny _ A.in1 (newList [] >>= fun l => again (.builtin "list.__iadd__" ⟨[l, .ref a], []⟩)) _ _ s
 refine wpAny_bind (wpAny_newObj_type ?_)
 refine wpAny_pure ⟨plainId_quiet PySem.F.plain_list_iadd _, codeAny_builtin entry_list_iadd' ?_⟩
 rw [Around.under_plainId PySem.F.plain_list_iadd _]
 have g1 : (s.heap.push { cls := .type "list", data := .seq ([] : List Value).toArray }).get? s.heap.objs.size = some { cls := .type "list", data := .seq #[] } := Heap.get?_push_size _ rfl
 have hS1 : SetS prog w (byT w) (s.heap.push { cls := .type "list", data := .seq ([] : List Value).toArray }) a zs := hS.keep fun o e => Heap.get?_push_of_some _ e
 show wpAny _ A.in1 (Builtin.List.listExtendWith (.ref s.heap.objs.size) (.ref a) (.ref s.heap.objs.size)) _ _ _
 unfold Builtin.List.listExtendWith
 refine wpAny_bind (wpAny_typeOf (T := "set") hS1.type ?_)
 have n1 : Builtin.List.listSameRef (.ref s.heap.objs.size) (.ref a) = false := by simp [Builtin.List.listSameRef, Nat.ne_of_gt alt]
 have n2 : (Value.type "set" == Value.type "list") = false := by decide
 have n3 : (Value.type "set" == Value.type "tuple") = false := by decide
 simp only [n1, n2, n3, Bool.or_false, Bool.false_eq_true, if_false]
 refine wpAny_bind (setS_iter (s := { s with heap := s.heap.push { cls := .type "list", data := .seq ([] : List Value).toArray } }) hS1 fun I s2 fp ys St W st kp hI hfp q1 q2 q3 eg eo et => ?_)
 have g2 := kp _ _ g1
 have hI1 : s.heap.objs.size < I := by
  have : (s.heap.push { cls := .type "list", data := .seq ([] : List Value).toArray }).objs.size <= I := hI
  rw [Heap.size_push] at this
  exact this
 have hSf : s.heap.objs.size ∉ fp := fun z => by
  rcases hfp _ z with e | e
  ·exact absurd e (Nat.ne_of_gt alt)
  ·have e' : (s.heap.push { cls := .type "list", data := .seq ([] : List Value).toArray }).objs.size <= s.heap.objs.size := e
   rw [Heap.size_push] at e'
   exact absurd e' (Nat.not_le.mpr (Nat.lt_succ_self _))
 have hh2 : A.in1.handled = none := by simp [hh]
 have key : ∀ (h : Heap) (c : Nat), St 0 h -> (∀ b o, b ≠ s.heap.objs.size -> s2.heap.get? b = some o -> h.get? b = some o) -> h.get? s.heap.objs.size = some { cls := .type "list", data := .seq #[] c } ->
   codeAny (model prog w) A (.builtin "list.extend.loop" ⟨[.ref s.heap.objs.size, .ref I, .ref s.heap.objs.size], []⟩) (fun r s' => match r with
    | .ok (.ret v) => wpAny (model prog w) A (match v with
     | .ref a => do
      let o <- load a
      match o.data with
      | .seq xs _ => pure xs.toList
      | _ => unsupported "internal:collect"
     | _ => unsupported "internal:collect") Q E s'
    | .ok _ => False
    | .error e => E e s') { s2 with heap := h } := fun h3 c st3 k3 g3 => by
  refine codeAny_extend_loopS ((W _ hh2).toS) hn s.heap.objs.size hSf (.ref s.heap.objs.size) zs.length 0 _ #[] c rfl (Nat.zero_le _) st3 g3 (ItemsOf.nil _) fun s4 acc c4 mv g4 ac => ?_
  dsimp only
  refine wpAny_bind (wpAny_load g4 ?_)
  dsimp only
  have ea : acc.toList = ys := by
   refine List.ext_getElem? fun j => ?_
   by_cases hj : j < acc.size
   ·have z := ac.2 j acc[j] (by simp [hj])
    rw [z]
    simp [hj]
   ·have e1 : acc.size = zs.length := ac.1
    rw [List.getElem?_eq_none (by simpa using hj), List.getElem?_eq_none (by omega)]
  rw [ea]
  refine wpAny_pure (h s4 ys (fun b o e => ?_) (Nat.le_of_lt (Heap.lt_size g4)) q2 q3 (mv.gens.trans eg) (mv.os.trans eo))
  have b1 := Heap.lt_size e
  refine mv.heap b o (by simp only [List.mem_cons, List.not_mem_nil, or_false, not_or]; exact ⟨Nat.ne_of_lt b1, Nat.ne_of_lt (Nat.lt_trans b1 hI1)⟩) (k3 b o (Nat.ne_of_lt b1) (kp b o (Heap.get?_push_of_some _ e)))
 refine wpAny_bind (wpAny_holding (set_hint (SetS.type (hS1.keep fun o e => kp _ _ e)) ?_))
 refine wpAny_ite_split (fun _ => ?_) (fun _ => wpAny_pure ⟨plainId_quiet PySem.F.plain_extend_loop _, key _ _ st (fun b o _ e => e) g2⟩)
 refine wpAny_bind (wpAny_rule ?_)
 refine wpAny_bind ?_
 show wpAny _ _ (updateSeq s.heap.objs.size (·.push .none) >>= fun _ => updateSeq s.heap.objs.size (·.pop)) _ _ _
 refine wpAny_bind (wpAny_updateSeq g2 rfl ?_)
 have g5 := Heap.get?_update_self (Obj.mapSeq (·.push Value.none)) g2 rfl
 refine wpAny_updateSeq (hz := by seq_fits) g5 rfl ?_
 have g6 := Heap.get?_update_self (Obj.mapSeq (·.pop)) g5 rfl
 have oth : ∀ b o, b ≠ s.heap.objs.size -> s2.heap.get? b = some o -> ((s2.heap.update s.heap.objs.size (Obj.mapSeq (·.push Value.none))).update s.heap.objs.size (Obj.mapSeq (·.pop))).get? b = some o := fun b o hb e =>
  (Heap.get?_update_other _ _ (Ne.symm hb)).trans ((Heap.get?_update_other _ _ (Ne.symm hb)).trans e)
 exact wpAny_pure ⟨plainId_quiet PySem.F.plain_extend_loop _, key _ _ ((W _ hh2).frame 0 _ _ st fun b hb o e => oth b o (fun z => hSf (z ▸ hb)) e) oth g6⟩
end
end L2.Na
namespace L2.Na
open PySem PySem.Spec PyProof.Rows
section
variable {prog : Program} {w : World} {A : Around} {E : Value -> Shared -> Prop} {s : Shared}
theorem setS_sorted {a : Addr} {zs : List Str} {Q : Value -> Shared -> Prop} (hh : A.handled = none) (hS : SetS prog w (byT w) s.heap a zs) (h64 : zs.length < 64)
  (h : ∀ (s' : Shared) (D : Addr) (vs : List Value) (ss : List Str) (e : Nat), (∀ b o, s.heap.get? b = some o -> s'.heap.get? b = some o) -> s.heap.objs.size <= D -> s'.heap.get? D = some (seqObj "list" vs.toArray e) -> StrsAre vs ss -> List.Perm ss zs -> sortedS ss = true ->
   s'.gens = s.gens -> s'.os = s.os -> Q (.ref D) s') : wpAny (model prog w) A (call (.builtin "sorted") [.ref a]) Q E s := by
 have hn : zs.length <= sizeLine := by rw [sizeLine_eq]; omega
 refine Calls.call_function_entry kind_sorted plain_sorted entry_sorted (args_sorted1 _) ?_
 unfold Builtin.«sorted»
 refine wpAny_bind (m := checkCount "sorted" 1 1 _) (wpAny_pure ?_)
 refine wpAny_bind (setS_collect (A := A.in1) (by simp [hh]) hS hn fun s1 ys k1 le q2 q3 eg eo => ?_)
 have hl : ys.length = zs.length := by rw [<- q3.length_eq, List.length_map]
 refine wpAny_bind (wpAny_newList ?_ (by rw [hl]; exact hn))
 have hoL : (s1.heap.push (seqObj "list" ys.toArray 0)).get? s1.heap.objs.size = some (seqObj "list" ys.toArray 0) := Heap.get?_push_size _ rfl
 show wpAny _ _ _ _ _ { s1 with heap := s1.heap.push (seqObj "list" ys.toArray 0) }
 refine wpAny_bind (wpAny_holding (wpAny_call_entry slot_list_sort ⟨_, hoL, rfl⟩ entry_list_sort (list_sort_treeK strKind_oneLt hoL q2.keysOf (fun v₁ v₂ rest e => keyKind_strs (by rw [<- e]; exact q2)) (by omega) fun st' a1 a2 => ⟨_, rfl, ?_⟩) (args_list_sort _)))
 obtain ⟨ss, b1, b2, b3⟩ := sorted_out_str q2 a1 a2
 obtain ⟨e, he⟩ := sortedHeap_at (out := (arrOf st').map (·.2)) hoL
 refine wpAny_pure ⟨_, rfl, h _ s1.heap.objs.size ((arrOf st').map (·.2)).toList ss e (fun b o z => ?_) le ?_ b1 (b2.trans q3) b3 eg eo⟩
 ·have lt := Heap.lt_size (k1 b o z)
  show (sortedHeap _ _ _ _).get? b = some o
  rw [sortedHeap_old (Nat.ne_of_lt lt) (by rw [Heap.size_push]; exact Nat.lt_succ_of_lt lt)]
  exact Heap.get?_push_of_some _ (k1 b o z)
 ·rw [Array.toArray_toList]
  exact he
end
end L2.Na
namespace L2.Na
open PySem PySem.Spec PyProof.Rows
section
variable {prog : Program} {w : World} {A : Around} {E : Value -> Shared -> Prop} {s : Shared} {bt : Bool} {a : Addr}
end
end L2.Na
namespace L2.Na
open PySem PySem.Spec PyProof.Rows
section
variable {prog : Program} {w : World} {A : Around} {E : Value -> Shared -> Prop} {s : Shared}
variable {R : Result -> Shared -> Prop} {I : Addr} {fp wr : List Addr} {G : Array GenState -> Array GenState -> Prop} {n : Nat} {P : Nat -> Value -> Prop} {St : Nat -> Shared -> Prop} {bt : Bool}
end
section
variable {prog : Program} {w : World} {A : Around} {E : Value -> Shared -> Prop} {s : Shared}
end
end L2.Na
namespace L2.Na
open PySem PySem.Spec PyProof.Rows
section
variable {prog : Program} {w : World} {A : Around} {E : Value -> Shared -> Prop} {s : Shared} {I a : Addr} {o : Obj} {es : Array (Int × Value)} {ep : Nat} {l : List Nat}
end
end L2.Na
namespace L2.Na
open PySem PySem.Spec PyProof.Rows
section
variable {prog : Program} {w : World} {A : Around} {E : Value -> Shared -> Prop} {s : Shared}
end
end L2.Na
namespace L2.L3
open PySem PySem.Spec PyProof.Rows
def sgn (c : Nat) : V := .str ⟨#[c]⟩
def Its (z : Str) : It := ⟨fun i _ => i < z.cps.size, fun i H x H' => H' = H /\ ∃ c, z.cps[i]? = some c /\ x = sgn c, fun i _ => z.cps.size <= i⟩
theorem turn_str {P : Program} {w : World} {K : Fg} {tg : Expr} (z : Str) (t : Tok) (it : Addr) (T : String) (hT : T = "str_ascii_iterator" \/ T = "str_iterator") :
  Turn P w K tg (Its z) [it] it (fun i h => h.IsStrIter it T z t i) where
 mem := by simp
 obj := fun i h st b hb => by
  have e : b = it := by simpa using hb
  subst e
  obtain ⟨o, e, c, d⟩ := st
  exact ⟨o, e, fun v z => by rw [d] at z; cases z⟩
 keep := fun i h h' st k => by
  obtain ⟨o, e, c, d⟩ := st
  exact ⟨o, k it (by simp) o e, c, d⟩
 item := by
  intro X hP hw hK hc i pins s σ H E I hf st hg
  subst hP hw hK
  obtain ⟨f0, f1, f2, f3, f4, f5⟩ := hf it (by simp)
  have hi : i < z.cps.size := hg
  rcases hT with rfl | rfl
  ·refine wpAny_pyNext_ascii_item st (c := z.cps[i]) (by simp [hi]) fun h' st' sb => ?_
   have I1 : Inv X pins σ H { s with heap := h', toks := s.toks + 1 } := I.turned (fun b o hb e => (sb.2 b hb).trans e) f0 f1 f3 f4 f5
   obtain ⟨o, e, c, d⟩ := id st'
   exact ⟨_, rfl, go_of (s := { s with heap := h', toks := s.toks + 1 }) e c d (by decide) ⟨sgn z.cps[i], H, I1, ⟨_, rfl⟩, ⟨rfl, _, by simp [hi], rfl⟩, st', fun b hb => (hf b hb).1⟩⟩
  ·refine wpAny_pyNext_wide_item st (c := z.cps[i]) (by simp [hi]) fun h' st' sb => ?_
   have I1 : Inv X pins σ H { s with heap := h', toks := s.toks + 1 } := I.turned (fun b o hb e => (sb.2 b hb).trans e) f0 f1 f3 f4 f5
   obtain ⟨o, e, c, d⟩ := id st'
   exact ⟨_, rfl, go_of (s := { s with heap := h', toks := s.toks + 1 }) e c d (by decide) ⟨sgn z.cps[i], H, I1, ⟨_, rfl⟩, ⟨rfl, _, by simp [hi], rfl⟩, st', fun b hb => (hf b hb).1⟩⟩
 done := by
  intro X hP hw hK hc i pins s σ H E I hf st hg
  subst hP hw hK
  obtain ⟨f0, f1, f2, f3, f4, f5⟩ := hf it (by simp)
  have hi : z.cps.size <= i := hg
  rcases hT with rfl | rfl
  ·exact wpAny_pyNext_ascii_end (I.ok.hd hc) st (by simp [hi]) fun h' eb => ⟨rfl, I.turned (t' := s.toks) (fun b o hb e => eb b o hb e) f0 f1 f3 f4 f5⟩
  ·exact wpAny_pyNext_wide_end (I.ok.hd hc) st (by simp [hi]) fun h' eb => ⟨rfl, I.turned (t' := s.toks) (fun b o hb e => eb b o hb e) f0 f1 f3 f4 f5⟩
 self := fun _ _ _ _ _ st h => by
  rcases hT with rfl | rfl
  ·exact wpAny_pyIter_striter_ascii st h
  ·exact wpAny_pyIter_striter_wide st h
structure Yl (J : It) (P : Hp -> Prop) (items : List V) : Prop where
 go : ∀ i H, P H -> i < items.length -> J.go i H
 yld : ∀ i H x H', P H -> i < items.length -> J.yld i H x H' -> H' = H /\ items[i]? = some x
 stop : ∀ H, P H -> J.stop items.length H
theorem yl_list {K : Fg} {a : Addr} {xs : List V} : Yl (Itl K a) (fun H => SqL K H a xs) xs where
 go := fun i H p h => ⟨xs, xs[i], p, by simp [h]⟩
 yld := fun i H x H' p _ h => ⟨h.1, h.2 xs p⟩
 stop := fun H p => ⟨xs, p, Nat.le_refl _⟩
theorem yl_tup {K : Fg} {a : Addr} {xs : List V} : Yl (Itt K a) (fun H => SqT K H a xs) xs where
 go := fun i H p h => ⟨xs, xs[i], p, by simp [h]⟩
 yld := fun i H x H' p _ h => ⟨h.1, h.2 xs p⟩
 stop := fun H p => ⟨xs, p, Nat.le_refl _⟩
def rngV (lo : Int) (n : Nat) : List V := (List.range n).map fun i => .int (lo + (i : Nat))
theorem rngV_len (lo : Int) (n : Nat) : (rngV lo n).length = n := by unfold rngV; rw [List.length_map, List.length_range]
theorem rngV_get {lo : Int} {n i : Nat} {x : V} (h : (rngV lo n)[i]? = some x) : i < n /\ x = .int (lo + (i : Nat)) := by
 unfold rngV at h
 rw [List.getElem?_map] at h
 by_cases hi : i < n
 ·rw [List.getElem?_range hi] at h
  exact ⟨hi, (Option.some.inj h).symm⟩
 ·rw [List.getElem?_eq_none_iff.mpr (by rw [List.length_range]; omega)] at h
  cases h
theorem yl_rng {lo : Int} {n : Nat} : Yl (Itr lo n) (fun _ => True) (rngV lo n) where
 go := fun i H _ h => by rw [rngV_len] at h; exact h
 yld := fun i H x H' _ hi h => ⟨h.1, by
  have e : x = .int (lo + (i : Nat)) := h.2
  rw [rngV_len] at hi
  rw [e]
  unfold rngV
  rw [List.getElem?_map, List.getElem?_range hi]
  rfl⟩
 stop := fun H _ => by rw [rngV_len]; exact Nat.le_refl _
def sgnV (z : Str) : List V := z.cps.toList.map sgn
theorem sgnV_len (z : Str) : (sgnV z).length = z.cps.size := by unfold sgnV; rw [List.length_map, Array.length_toList]
theorem yl_str {z : Str} : Yl (Its z) (fun _ => True) (sgnV z) where
 go := fun i H _ h => by rw [sgnV_len] at h; exact h
 yld := fun i H x H' _ hi h => by
  obtain ⟨e, c, h1, h2⟩ := h
  refine ⟨e, ?_⟩
  unfold sgnV
  rw [List.getElem?_map, h2]
  have q : z.cps.toList[i]? = some c := by simpa using h1
  rw [q]
  rfl
 stop := fun H _ => by rw [sgnV_len]; exact Nat.le_refl _
theorem for_yl {J : It} {P : Hp -> Prop} {xs : List V} {g : TG} {tb : TS} {D : Ends} {σ : St} {H : Hp} (Y : Yl J P xs) (Pv : Nat -> St -> Hp -> Prop) (h0 : Pv 0 σ H) (hl : ∀ i σ H, i <= xs.length -> Pv i σ H -> P H)
  (hs : ∀ i x σ H, xs[i]? = some x -> Pv i σ H -> g x σ H fun σ2 H2 => tb { D with nx := Pv (i + 1), ct := Pv (i + 1), bk := D.nx } σ2 H2) (hd : ∀ σ H, Pv xs.length σ H -> D.nx σ H) :
  ∃ W : Nat -> Nat -> St -> Hp -> Prop, (∃ m, W 0 m σ H) /\ ∀ i m σ H, W i m σ H ->
   (J.stop i H /\ D.nx σ H) \/ (J.go i H /\ ∃ N : St -> Hp -> Prop, (∀ σ' H', N σ' H' -> ∃ m', m' < m /\ W (i + 1) m' σ' H') /\ ∀ x H', J.yld i H x H' -> g x σ H' fun σ2 H2 => tb { D with nx := N, ct := N, bk := D.nx } σ2 H2) := by
 refine ⟨fun i m σ H => m = xs.length - i /\ i <= xs.length /\ Pv i σ H, ⟨xs.length, by simp, Nat.zero_le _, h0⟩, ?_⟩
 rintro i m σ H ⟨rfl, hi, p⟩
 have q := hl i σ H hi p
 by_cases hlt : i < xs.length
 ·refine .inr ⟨Y.go i H q hlt, Pv (i + 1), fun σ' H' p' => ⟨xs.length - (i + 1), by omega, rfl, hlt, p'⟩, fun x H' y => ?_⟩
  obtain ⟨e, hx⟩ := Y.yld i H x H' q hlt y
  subst e
  exact hs i x σ H' hx p
 ·have e : i = xs.length := by omega
  subst e
  exact .inl ⟨Y.stop H q, hd σ H p⟩
theorem for_same {J : It} {P : Hp -> Prop} {xs : List V} {g : TG} {tb : TS} {D : Ends} {σ : St} {H : Hp} (Y : Yl J P xs) (hP : ∀ H', Same H H' -> P H') (S : Nat -> St -> Prop) (h0 : S 0 σ)
  (hs : ∀ i x σ1 H1, xs[i]? = some x -> S i σ1 -> Same H H1 -> g x σ1 H1 fun σ2 H2 => tb { D with nx := fun σ3 H3 => S (i + 1) σ3 /\ Same H H3, ct := fun σ3 H3 => S (i + 1) σ3 /\ Same H H3, bk := D.nx } σ2 H2) (hd : ∀ σ1 H1, S xs.length σ1 -> Same H H1 -> D.nx σ1 H1) :
  ∃ W : Nat -> Nat -> St -> Hp -> Prop, (∃ m, W 0 m σ H) /\ ∀ i m σ H, W i m σ H ->
   (J.stop i H /\ D.nx σ H) \/ (J.go i H /\ ∃ N : St -> Hp -> Prop, (∀ σ' H', N σ' H' -> ∃ m', m' < m /\ W (i + 1) m' σ' H') /\ ∀ x H', J.yld i H x H' -> g x σ H' fun σ2 H2 => tb { D with nx := N, ct := N, bk := D.nx } σ2 H2) :=
 for_yl Y (fun i σ1 H1 => S i σ1 /\ Same H H1) ⟨h0, Same.refl _⟩ (fun _ _ H1 _ p => hP H1 p.2) (fun i x σ1 H1 hx p => hs i x σ1 H1 hx p.1 p.2) fun σ1 H1 p => hd σ1 H1 p.1 p.2
def clOf (names : List (Str × NameKind)) (env : Env) : List (Str × Addr) := ((names.filter fun x => x.2 == .free).filterMap fun x => (env.cells.lookup x.1).map fun c => (x.1, c)).reverse
theorem clOf_mem {names : List (Str × NameKind)} {env : Env} {x : Str} {c : Addr} (h : (x, c) ∈ clOf names env) : env.cells.lookup x = some c := by
 obtain ⟨y, hy, e⟩ := List.mem_filterMap.mp (List.mem_reverse.mp h)
 cases q : env.cells.lookup y.1 with
 | none => rw [q] at e; cases e
 | some d =>
  rw [q] at e
  have e' : (y.1, d) = (x, c) := Option.some.inj e
  cases e'
  exact q
theorem clOf_lookup {names : List (Str × NameKind)} {env : Env} {x : Str} {c : Addr} (h : (clOf names env).lookup x = some c) : env.cells.lookup x = some c := clOf_mem (PySem.mem_of_lookup h)
theorem clOf_has {names : List (Str × NameKind)} {env : Env} {x : Str} {c : Addr} (h : names.lookup x = some .free) (e : env.cells.lookup x = some c) : (clOf names env).lookup x = some c := by
 have hm : (x, c) ∈ clOf names env := List.mem_reverse.mpr (List.mem_filterMap.mpr ⟨(x, .free), List.mem_filter.mpr ⟨PySem.mem_of_lookup h, rfl⟩, by rw [e]; rfl⟩)
 cases q : (clOf names env).lookup x with
 | none =>
  have z := List.lookup_eq_none_iff.mp q _ hm
  simp at z
 | some d =>
  have z := clOf_lookup q
  rw [e] at z
  exact z.symm
theorem relabel_cell {env : Env} : ∀ {names : List (Str × NameKind)} {x : Str}, env.scope.kind = .function -> names.lookup x = some .free -> env.kindOf x = some .cell ->
  (names.map fun (n, k) => if (k == NameKind.free && env.scope.kind == .function && env.kindOf n == some .cell) then (n, NameKind.cell) else (n, k)).lookup x = some .cell
 | [], _, _, h, _ => by simp at h
 | (n, k) :: r, x, hk, h, hc => by
  by_cases hx : x = n
  ·subst hx
   rw [List.lookup_cons_self] at h
   cases h
   rw [List.map_cons]
   dsimp only
   rw [if_pos (by rw [hk, hc]; rfl)]
   exact List.lookup_cons_self
  ·have hb : (x == n) = false := beq_eq_false_iff_ne.mpr hx
   rw [List.lookup_cons, hb] at h
   have ih := relabel_cell (names := r) hk h hc
   rw [List.map_cons]
   dsimp only
   by_cases c : (k == NameKind.free && env.scope.kind == .function && env.kindOf n == some .cell) = true
   ·rw [if_pos c, List.lookup_cons, hb]; exact ih
   ·rw [if_neg c, List.lookup_cons, hb]; exact ih
theorem relabel_back {env : Env} : ∀ {names : List (Str × NameKind)} {x : Str} {k : NameKind}, (names.map fun (n, k) => if (k == NameKind.free && env.scope.kind == .function && env.kindOf n == some .cell) then (n, NameKind.cell) else (n, k)).lookup x = some k ->
  names.lookup x = some k \/ (k = .cell /\ names.lookup x = some .free)
 | [], _, _, h => by simp at h
 | (n, k') :: r, x, k, h => by
  rw [List.map_cons] at h
  dsimp only at h
  by_cases hx : x = n
  ·subst hx
   rw [List.lookup_cons_self]
   by_cases c : (k' == NameKind.free && env.scope.kind == .function && env.kindOf x == some .cell) = true
   ·rw [if_pos c, List.lookup_cons_self] at h
    cases h
    have z : k' = .free := by
     rw [Bool.and_eq_true, Bool.and_eq_true] at c
     exact beq_iff_eq.mp c.1.1
    exact .inr ⟨rfl, by rw [z]⟩
   ·rw [if_neg c, List.lookup_cons_self] at h
    exact .inl h
  ·have hb : (x == n) = false := beq_eq_false_iff_ne.mpr hx
   have h' : (r.map fun (n, k) => if (k == NameKind.free && env.scope.kind == .function && env.kindOf n == some .cell) then (n, NameKind.cell) else (n, k)).lookup x = some k := by
    by_cases c : (k' == NameKind.free && env.scope.kind == .function && env.kindOf n == some .cell) = true
    ·rw [if_pos c, List.lookup_cons, hb] at h; exact h
    ·rw [if_neg c, List.lookup_cons, hb] at h; exact h
   rw [List.lookup_cons, hb]
   exact relabel_back h'
theorem cellsFrom_app : ∀ (names : List (Str × NameKind)) (n : Nat) (acc : List (Str × Addr)), cellsFrom n names acc = cellsFrom n names [] ++ acc
 | [], _, _ => rfl
 | (name, kind) :: r, n, acc => by
  unfold cellsFrom
  split
  ·rw [cellsFrom_app r (n + 1) ((name, n) :: acc), cellsFrom_app r (n + 1) [(name, n)], List.append_assoc]; rfl
  ·exact cellsFrom_app r n acc
theorem cellsFrom_key : ∀ (names : List (Str × NameKind)) (n : Nat) {x : Str} {c : Addr}, (x, c) ∈ cellsFrom n names [] -> (x, NameKind.cell) ∈ names
 | [], _, _, _, h => nomatch h
 | (name, kind) :: r, n, x, c, h => by
  unfold cellsFrom at h
  split at h
  ·rename_i hk
   rw [cellsFrom_app] at h
   rcases List.mem_append.mp h with h | h
   ·exact List.mem_cons_of_mem _ (cellsFrom_key r _ h)
   ·have e := List.mem_singleton.mp h
    have e1 : x = name := congrArg Prod.fst e
    have e2 : kind = NameKind.cell := eq_of_beq hk
    rw [e1, e2]; exact List.mem_cons_self
  ·exact List.mem_cons_of_mem _ (cellsFrom_key r _ h)
def blkCl (sc : Scope) (C : Addr) (env : Env) : List (Str × Addr) := cellsFrom (C + 1) sc.names (clOf sc.names env)
theorem blkCl_or {sc : Scope} {C : Addr} {env : Env} {x : Str} {c : Addr} (h : (blkCl sc C env).lookup x = some c) : (x, c) ∈ cellsFrom (C + 1) sc.names [] \/ env.cells.lookup x = some c := by
 unfold blkCl at h
 rw [cellsFrom_app, List.lookup_append] at h
 cases q : (cellsFrom (C + 1) sc.names []).lookup x with
 | some d =>
  rw [q] at h
  have e : d = c := Option.some.inj h
  subst e
  exact .inl (PySem.mem_of_lookup q)
 | none =>
  rw [q] at h
  exact .inr (clOf_lookup h)
theorem blkCl_own {sc : Scope} {C : Addr} {env : Env} {x : Str} {c : Addr} (hx : sc.names.lookup x = some .cell) (h : (blkCl sc C env).lookup x = some c) : (x, c) ∈ cellsFrom (C + 1) sc.names [] := by
 obtain ⟨d, q⟩ := cell_has (n := C + 1) hx
 unfold blkCl at h
 rw [cellsFrom_app, List.lookup_append, q] at h
 have e : d = c := Option.some.inj h
 subst e
 exact PySem.mem_of_lookup q
theorem blkCl_free {sc : Scope} {C : Addr} {env : Env} {x : Str} {c : Addr} (hown : ∀ y ∈ sc.names, y.2 = .cell -> sc.names.lookup y.1 = some .cell) (hx : sc.names.lookup x = some .free) (e : env.cells.lookup x = some c) : (blkCl sc C env).lookup x = some c := by
 unfold blkCl
 rw [cellsFrom_app, List.lookup_append]
 cases q : (cellsFrom (C + 1) sc.names []).lookup x with
 | some d =>
  have z := hown _ (cellsFrom_key _ _ (PySem.mem_of_lookup q)) rfl
  have z' : sc.names.lookup x = some .cell := z
  rw [hx] at z'; cases z'
 | none => exact clOf_has hx e
theorem own_ok (h : Heap) (ob : Obj) (sc : Scope) : CellsOk (pushCells (h.push ob) sc.names) (h.objs.size + 1) (cellsFrom (h.objs.size + 1) sc.names []) := by
 have ok := cellsFrom_ok sc.names (h.push ob) (h.objs.size + 1) [] ⟨fun _ _ hm => (nomatch hm), List.Pairwise.nil⟩ (by rw [Heap.size_push]; exact Nat.le_refl _)
 rwa [Heap.size_push] at ok
theorem wpAny_blkEnv {M : Model} {A : Around} {E : Value -> Shared -> Prop} {s : Shared} {scope : Scope} {globals : Addr} {closure : List (Str × Addr)} {qual : Str} {func : Option Addr} {code : Value} {outer : Env} {builtins : Addr} {Q : Env -> Shared -> Prop}
  (hQ : Q (newEnv scope s.heap.objs.size globals (cellsFrom (s.heap.objs.size + 1) scope.names closure) qual func code (some outer) builtins) { s with heap := pushCells (s.heap.push { cls := .type "dict", data := .dict #[] }) scope.names }) :
  wpAny M A (newFunctionEnv scope globals closure [] qual func code (some outer) builtins) Q E s := by
 simp only [newFunctionEnv, Option.isSome_some, if_true]
 refine wpAny_bind (wpAny_alloc ?_)
 refine wpAny_bind (wpAny_layCells _ (fun name kind cells => by cases hkc : kind == NameKind.cell <;> simp [hkc]) _ _ _ _ ?_)
 rw [show ({ s with heap := s.heap.push { cls := .type "dict", data := .dict #[] } } : Shared).heap.objs.size = s.heap.objs.size + 1 from Heap.size_push ..]
 refine wpAny_bind ?_
 rw [List.forIn_nil]
 exact wpAny_pure (wpAny_pure hQ)
def blk (X : Cx) (N : List Str) (sc : Scope) (C : Addr) (s₀ : Shared) (H₀ : Hp) (ex : List Addr) : Cx :=
 { X with N := N, s₀ := s₀, H₀ := H₀, env := compEnvC sc (blkCl sc C X.env) C X.env, outer := X.stack, ex := ex, fn := fun x => sc.names.lookup x == some .cell, pn := [], xe := fun _ _ => False }
inductive Cap (X : Cx) (sc : Scope) : List Str -> List Nat -> Prop
 | nil : Cap X sc [] []
 | cons {x : Str} {i : Nat} {xs : List Str} {is : List Nat} (hN : X.N[i]? = some x) (hk : X.env.kindOf x = some .cell) (hf : sc.names.lookup x = some .free) (t : Cap X sc xs is) : Cap X sc (x :: xs) (i :: is)
theorem Cap.length {X : Cx} {sc : Scope} : ∀ {xs : List Str} {is : List Nat}, Cap X sc xs is -> xs.length = is.length
 | _, _, .nil => rfl
 | _, _, .cons _ _ _ t => by rw [List.length_cons, List.length_cons, Cap.length t]
theorem Cap.get {X : Cx} {sc : Scope} : ∀ {xs : List Str} {is : List Nat} {j : Nat} {x : Str}, Cap X sc xs is -> xs[j]? = some x -> ∃ i, is[j]? = some i /\ X.N[i]? = some x /\ X.env.kindOf x = some .cell /\ sc.names.lookup x = some .free
 | _, _, _, _, .nil, e => by simp at e
 | _, _, 0, _, .cons hN hk hf _, e => by
  have e' := Option.some.inj e
  subst e'
  exact ⟨_, rfl, hN, hk, hf⟩
 | _, _, j + 1, x, .cons _ _ _ t, e => by
  obtain ⟨i, h1, h2⟩ := Cap.get (j := j) (x := x) t (by simpa using e)
  exact ⟨i, by simpa using h1, h2⟩
def capV (is : List Nat) (σ : St) : St := is.map fun i => (σ[i]?).join
def capS (n : Nat) (is : List Nat) (σ : St) : St := List.replicate n none ++ capV is σ
theorem Un.but {fs ex : List Addr} {H H1 : Hp} {h h1 h2 : Heap} {C : Addr} (u : Un fs ex H H1 h h1) (hs : Heap.SameBut C h1 h2) (hC : h.objs.size <= C) : Un fs ex H H1 h h2 := by
 have ne : ∀ b o, h.get? b = some o -> b ≠ C := fun b o e => Nat.ne_of_lt (Nat.lt_of_lt_of_le (Heap.lt_size e) hC)
 refine ⟨fun b o q n hb hx => (hs.2 b (ne b o q)).trans (u.keep b o q n hb hx), fun b o q n hb hx => ?_, u.free, fun b o q hx => ?_, u.tups, u.frzs, u.tbls⟩
 ·obtain ⟨sl, e⟩ := u.slot b o q n hb hx
  exact ⟨sl, (hs.2 b (ne b o q)).trans e⟩
 ·obtain ⟨o', e⟩ := u.there b o q hx
  exact ⟨o', (hs.2 b (ne b o q)).trans e⟩
theorem HOk.but {P : Program} {w : World} {H : Hp} {h h' : Heap} {C : Addr} (k : HOk P w H h) (hs : Heap.SameBut C h h') (hn : H C = none) : HOk P w H h' := fun b ob e => by
 refine (k b ob e).stay (fun c w' hc q => (hs.2 c ?_).trans q) (fun _ q => q) fun _ _ q => q
 rintro rfl
 rcases hc with rfl | hc
 ·rw [hn] at e; cases e
 ·rw [hn] at hc; cases hc
section
variable {X : Cx} {pins : List (Addr × Obj)} {σ : St} {H : Hp} {s : Shared}
theorem blk_ok (I : Inv X pins σ H s) {N : List Str} {sc : Scope} {ex : List Addr} (hkind : sc.kind = .function) (hown : ∀ y ∈ sc.names, y.2 = .cell -> sc.names.lookup y.1 = some .cell) (hfr : (sc.names.all fun y => y.2 != .free || X.env.kindOf y.1 == some .cell) = true)
  (hex : ∀ b ∈ ex, FpOk X pins H b) (hob : ∀ b ∈ ex, ∃ o, s.heap.get? b = some o) : (blk X N sc s.heap.objs.size s H ex).Ok := by
 have oc := own_ok s.heap { cls := .type "dict", data := .dict #[] } sc
 have lo : ∀ {x c}, (x, c) ∈ cellsFrom (s.heap.objs.size + 1) sc.names [] -> s.heap.objs.size < c := fun hm => (oc.empty _ _ hm).2
 have hi : ∀ {x c}, X.env.cells.lookup x = some c -> c < s.heap.objs.size := fun e => by
  obtain ⟨v, o, e', _⟩ := I.cell _ _ e
  exact Heap.lt_size e'
 refine ⟨I.ok.mod, hkind, I.ok.glob, I.ok.blt, Nat.le_refl _, fun x y c h1 h2 => ?_, fun x h => ?_, fun x c hf h => ?_, I.ok.hd, I.ok.frames, .inl rfl, fun b hb => ⟨?_, fun x c h => ?_⟩, I.bs, Nat.le_trans I.ok.bsz I.sz, fun b o e hb => ?_, fun b hb hf => ?_, I.stack, I.stkFree⟩
 ·rcases blkCl_or h1 with h1 | h1 <;> rcases blkCl_or h2 with h2 | h2
  ·exact PySem.name_of_addr oc.apart h1 h2
  ·exact absurd (hi h2) (Nat.lt_asymm (lo h1))
  ·exact absurd (hi h1) (Nat.lt_asymm (lo h2))
  ·exact I.ok.inj x y c h1 h2
 ·have fr : sc.names.lookup x = some .free -> ∃ c, (blkCl sc s.heap.objs.size X.env).lookup x = some c := fun q => by
   have z := List.all_eq_true.mp hfr _ (PySem.mem_of_lookup q)
   have z' : (X.env.kindOf x == some .cell) = true := z
   obtain ⟨c, e⟩ := I.ok.has x (.inl (beq_iff_eq.mp z'))
   exact ⟨c, blkCl_free hown q e⟩
  rcases h with h | h
  ·rcases relabel_back (show (sc.names.map fun (n, k) => if (k == NameKind.free && X.env.scope.kind == .function && X.env.kindOf n == some .cell) then (n, NameKind.cell) else (n, k)).lookup x = some .cell from h) with q | ⟨_, q⟩
   ·exact Option.isSome_iff_exists.mp (PySem.W.cellsFrom_some sc.names _ _ (.inl q))
   ·exact fr q
  ·rcases relabel_back (show (sc.names.map fun (n, k) => if (k == NameKind.free && X.env.scope.kind == .function && X.env.kindOf n == some .cell) then (n, NameKind.cell) else (n, k)).lookup x = some .free from h) with q | ⟨q, _⟩
   ·exact fr q
   ·cases q
 ·have hx : sc.names.lookup x = some .cell := eq_of_beq hf
  exact Nat.le_of_lt (lo (blkCl_own hx h))
 ·obtain ⟨o, e⟩ := hob b hb
  exact Nat.ne_of_lt (Heap.lt_size e)
 ·rcases blkCl_or h with h | h
  ·obtain ⟨o, e⟩ := hob b hb
   exact Nat.ne_of_gt (Nat.lt_trans (Heap.lt_size e) (lo h))
  ·exact (hex b hb).2.2.2.2.1 x c h
 ·obtain ⟨_, _, _, q, _⟩ := hex b hb
  rcases q with q | q
  ·exact I.ok.noex b o e q
  ·exact absurd (Nat.lt_of_lt_of_le (Heap.lt_size (I.ok.bs b o e).1) q) (Nat.lt_irrefl _)
 ·obtain ⟨_, n1, n2, _⟩ := hex b hb
  rcases List.mem_cons.mp (I.stkSub b hf) with z | z
  ·exact n1 z
  ·exact n2 z
theorem blk_start (I : Inv X pins σ H s) {own caps : List Str} {is : List Nat} {sc : Scope} {ex : List Addr} (hkind : sc.kind = .function) (hown : ∀ y ∈ sc.names, y.2 = .cell -> sc.names.lookup y.1 = some .cell) (hfr : (sc.names.all fun y => y.2 != .free || X.env.kindOf y.1 == some .cell) = true)
  (hcap : Cap X sc caps is) (hex : ∀ b ∈ ex, FpOk X pins H b) (hob : ∀ b ∈ ex, ∃ o, s.heap.get? b = some o) {h1 : Heap} {tk : Nat} {m0 : Str -> Option Value} (hn : h1.Ns s.heap.objs.size m0) (hk : ∀ b o, s.heap.get? b = some o -> h1.get? b = some o) (oc : CellsOk h1 (s.heap.objs.size + 1) (cellsFrom (s.heap.objs.size + 1) sc.names [])) :
  Inv (blk X (own ++ caps) sc s.heap.objs.size s H ex) [] (capS own.length is σ) H { s with heap := h1, toks := tk } := by
 refine ⟨blk_ok I hkind hown hfr hex hob, rfl, I.bare, Un.kept hk, ⟨m0, hn, fun i x v e1 e2 _ => ?_⟩, fun x c h => ?_, I.hok.fresh (Nat.le_refl _), fun x c h => (blkCl_or h).elim (fun h => I.hok.fresh (Nat.le_of_lt (oc.empty _ _ h).2)) fun h => I.freeC x c h, fun p hp => absurd (show p ∈ ([] : List (Addr × Obj)) from hp) (by simp), I.hok.kept hk, ?_⟩
 ·have e1' : (own ++ caps)[i]? = some x := e1
  by_cases hi : i < own.length
  ·unfold capS at e2
   rw [List.getElem?_append_left (by rw [List.length_replicate]; exact hi), List.getElem?_replicate, if_pos hi] at e2
   cases e2
  ·rw [List.getElem?_append_right (by omega)] at e1'
   unfold capS at e2
   rw [List.getElem?_append_right (by rw [List.length_replicate]; omega), List.length_replicate] at e2
   obtain ⟨i', q1, q2, q3, q4⟩ := hcap.get e1'
   unfold capV at e2
   rw [List.getElem?_map, q1] at e2
   have e2' : (σ[i']?).join = some v := Option.some.inj e2
   have e3 : σ[i']? = some (some v) := by
    cases z : σ[i']? with
    | none => rw [z] at e2'; cases e2'
    | some w =>
     rw [z] at e2'
     have e4 : w = some v := e2'
     rw [e4]
   obtain ⟨m, _, hl⟩ := I.loc
   obtain ⟨u, r, l⟩ := hl i' x v q2 e3 (.inr (.inl q3))
   refine ⟨u, r, ?_⟩
   rcases l with ⟨z, _⟩ | ⟨_, c, z1, o, z2, z3⟩
   ·rw [q3] at z; cases z
   ·refine .inr ⟨.inl ?_, c, blkCl_free hown q4 z1, o, hk _ _ z2, z3⟩
    exact relabel_cell I.ok.kind q4 q3
 ·rcases blkCl_or h with h | h
  ·exact ⟨none, (oc.empty _ _ h).1⟩
  ·obtain ⟨v, o, e, d⟩ := I.cell x c h
   exact ⟨v, o, hk _ _ e, d⟩
 ·show (capS own.length is σ).length = (own ++ caps).length
  unfold capS capV
  rw [List.length_append, List.length_append, List.length_replicate, List.length_map, hcap.length]
end
section
variable {X : Cx}
def rSlS : V -> Option Int -> Option Int -> Hp -> VK -> Prop := fun x lo hi H Q => ∃ z, x = .str z /\ z.length <= sizeLine /\ Q (.str (Txt.slice z lo hi)) H
theorem sl_str : SlR X rSlS := by
 intro pins s σ H x v vl vu lo hi sl Q I rx hs pl pu h
 obtain ⟨z, rfl, hz, q⟩ := h
 obtain ⟨t, rfl⟩ := rx
 have fin : ∀ lo hi : Option Int, Q (.str (Txt.slice z lo hi)) H -> (Txt.slice z lo hi).length <= sizeLine /\ ∀ t' k, EP X pins σ Q (.str (Txt.slice z lo hi) t') { s with toks := k } := fun lo hi q =>
  ⟨Nat.le_trans (Txt.slice_le z _ _) hz, fun t' k => ⟨.str _, H, I.tok k, ⟨t', rfl⟩, q⟩⟩
 refine ⟨"str", _, F.slot_str_getitem.lookup, typeIs_str _ _ _, ?_⟩
 cases pl with
 | none =>
  cases pu with
  | none => exact wpAny_getItem_str_slice (l := none) (u := none) (st := none) hs rfl (post_val_or_str (fin none none q))
  | int j t2 => exact wpAny_getItem_str_slice (l := none) (u := some (j, t2)) (st := none) hs rfl (post_val_or_str (fin none (some j) q))
 | int i t1 =>
  cases pu with
  | none => exact wpAny_getItem_str_slice (l := some (i, t1)) (u := none) (st := none) hs rfl (post_val_or_str (fin (some i) none q))
  | int j t2 => exact wpAny_getItem_str_slice (l := some (i, t1)) (u := some (j, t2)) (st := none) hs rfl (post_val_or_str (fin (some i) (some j) q))
theorem slice_to {z : Str} {j : Int} (h0 : 0 <= j) : (Txt.slice z none (some j)).cps.toList = z.cps.toList.take j.toNat := by
 have hl : z.cps.toList.length = z.length := by simp [Str.length]
 by_cases h : j <= z.length
 ·have e := beq_iff_eq.mp (slice_closes_to (x := z) (j := j) ⟨h0, by rw [hl]; exact h⟩)
  rw [e]
  simp
 ·have e := beq_iff_eq.mp (slice_closes_to (x := z) (j := (z.length : Int)) ⟨by omega, by rw [hl]; exact Int.le_refl _⟩)
  rw [slice_to_beyond (by omega), e]
  show List.take ((z.length : Int) - 0).toNat (z.cps.toList.drop 0) = _
  rw [List.drop_zero, List.take_of_length_le (by omega), List.take_of_length_le (by omega)]
theorem slice_from {z : Str} {i : Int} (h0 : 0 <= i) (h1 : i <= z.length) : (Txt.slice z (some i) none).cps.toList = z.cps.toList.drop i.toNat := by
 have hl : z.cps.toList.length = z.length := by simp [Str.length]
 rw [slice_from_eq (b := (z.length : Int)) h0 h1 rfl]
 show (z.cps.toList.drop i.toNat).take ((z.length : Int) - i).toNat = _
 rw [List.take_of_length_le (by rw [List.length_drop]; omega)]
def rIsi (K : Fg) : List V -> Hp -> VK -> Prop := fun xs H Q => ∃ x n t b, xs = [x, .ty n] /\ TyOf K H x t /\ PySem.W.kitOne K t (.type n) = some b /\ Q (.bl b) H
theorem call_isi : CallR X (.builtin "isinstance") (rIsi X.K) := by
 intro pins s σ H xs us Q I rv h
 obtain ⟨x, n, t, b, rfl, ty, k, q⟩ := h
 obtain ⟨u, w', rfl, rx, ry⟩ := rv.two
 cases (show w' = Value.type n from ry)
 exact isinst_ok I rx ty k fun tk => ⟨.bl b, H, I.tok tk, rfl, q⟩
theorem truth_bool {prog : Program} {w : World} {A : Around} {P : Nat -> Value -> Prop} {tr : Nat -> Bool} (h : ∀ i v, P i v -> v = .bool (tr i)) : TruthOf prog w A P tr := by
 intro i v s Q E hP hQ
 rw [h i v hP]
 exact wpAny_pure hQ
def rAll (K : Fg) : List V -> Hp -> VK -> Prop := fun xs H Q => ∃ (p : Addr) (bs : List Bool), xs = [.ref p] /\ H p = some (.lst (bs.map V.bl)) /\ Q (.bl (bs.all id)) H
theorem call_all (hc : X.calm = true) : CallR X (.builtin "all") (rAll X.K) := by
 intro pins s σ H xs us Q I rv h
 obtain ⟨p, bs, rfl, hp, q⟩ := h
 obtain ⟨u, rfl, ru⟩ := rv.one
 cases (show u = Value.ref p from ru)
 obtain ⟨z, its, n, r, hl, e⟩ := I.lstM hp
 have hlt : p < s.heap.objs.size := Heap.lt_size e
 have isl : s.heap.IsList p its.toArray := ⟨_, e, rfl, n, rfl⟩
 refine call_all_walk ?_
 refine wpAny_pyIter_list isl ?_
 have hitm : ∀ (i : Nat) (v : Value), its.toArray[i]? = some v -> v = Value.bool (bs.getD i true) := fun i v hv => by
  have hv' : its[i]? = some v := by simpa using hv
  have hi : i < its.length := (List.getElem?_eq_some_iff.mp hv').1
  have hib : i < bs.length := by rw [List.length_map] at hl; omega
  have hb : (bs.map V.bl)[i]? = some (V.bl bs[i]) := by rw [List.getElem?_map, List.getElem?_eq_getElem hib]; rfl
  obtain ⟨u', h1, h2⟩ := r.get hb
  rw [hv'] at h1
  cases h1
  rw [List.getD_eq_getElem?_getD, List.getElem?_eq_getElem hib]
  exact h2
 refine ⟨s.heap.objs.size, _, _, _, _, _, fun i => bs.getD i true, rfl, Walks.list (A := X.A.in1) (I.ok.hd hc) _ p (Nat.ne_of_lt hlt) its.toArray, ⟨⟨_, Heap.get?_push_size _ rfl, rfl, rfl⟩, isl.at fun o e => Heap.get?_push_of_some _ e⟩, truth_bool hitm, fun h' tk hk => ?_⟩
 have I1 : Inv X pins σ H { s with heap := h', toks := tk } := by
  have I0 : Inv X pins σ H { s with heap := s.heap.push { cls := .type "list_iterator", data := .fields #[.ref p, .int 0 0] } } := I.kept (t' := s.toks) fun b o e => Heap.get?_push_of_some _ e
  obtain ⟨f0, f1, f2, f3, f4, f5⟩ := I.fpOk (H' := H) (Nat.le_refl _) (I.hok.fresh (Nat.le_refl _))
  exact I0.turned (t' := tk) (fun b o hb e => hk b o (by simpa using hb) e) f0 f1 f3 f4 f5
 refine ⟨.bl _, H, I1, rfl, ?_⟩
 have ea : (List.range its.toArray.size).all (fun i => bs.getD i true) = bs.all id := by
  rw [List.size_toArray, <- hl, List.length_map]
  rw [Bool.eq_iff_iff, List.all_eq_true, List.all_eq_true]
  constructor
  ·intro h b hb
   obtain ⟨i, hi, rfl⟩ := List.mem_iff_getElem.mp hb
   have q := h i (List.mem_range.mpr hi)
   rw [List.getD_eq_getElem?_getD, List.getElem?_eq_getElem hi] at q
   exact q
  ·intro h i hi
   have hi := List.mem_range.mp hi
   rw [List.getD_eq_getElem?_getD, List.getElem?_eq_getElem hi]
   exact h _ (List.getElem_mem hi)
 rw [ea]
 exact q
end
end L2.L3
namespace L2.L3
open PySem PySem.Spec PyProof.Rows
structure Dn (P : Program) (w : World) (K : Fg) (mg : Str -> Option Value) (base : Heap) (k : Nat) (x : Str) (ps : List Str) (sp : Sp) (f : Addr) (fd : FuncData) : Prop where
 ok : FnOk P w K mg base CX0 k f fd ps sp
 bd : Binds K fd ps []
 kp : PySem.W.keepIn K (.ref f) = true
 gl : mg x = some (.ref f)
def constV : Const -> Option V
 | .none => some .non
 | .bool b => some (.bl b)
 | .int i => some (.int i)
 | .str x => some (.str x)
 | _ => none
theorem pe_constV {X : Cx} {c : Const} {v : V} {j : Nat} {pos : Pos} (h : constV c = some v) : PE X (.Constant c j pos) (tC v) := by
 cases c with
 | none => cases h; exact pe_non
 | bool b => cases h; exact pe_bl
 | int i => cases h; exact pe_int
 | str x => cases h; exact pe_str
 | _ => cases h
theorem same_new {H : Hp} {p : Addr} (h : H p = none) (o : HO) : Same H (upd H p o) := fun b u q => by rw [upd_ne (ne_of_none q h)]; exact q
theorem big_dict {X : Cx} {pins : List (Addr × Obj)} {σ : St} {H : Hp} {s : Shared} (I : Inv X pins σ H s) : sysModules < s.heap.objs.size := by
 have h : mainGlobals < s.heap.objs.size := (I.mod.glob.keeps I.bk).lt
 exact Nat.lt_trans (by decide) h
end L2.L3
namespace ZD
open PySem PySem.Spec PyProof.Rows
section
variable {prog : Program} {w : World} {A : Around} {E : Value -> Shared -> Prop} {s : Shared}
theorem alive {α : Type} {M : Model} {a : Addr} {o : Obj} {k : Option Obj -> Sem α} {Q : α -> Shared -> Prop} (ho : s.heap.get? a = some o) (h : wpAny M A (k (some o)) Q E s) : wpAny M A (.loadIfAlive a k) Q E s := fun Γ p hi => by
 rw [Sem.wp_loadIfAlive, ho]
 exact h Γ p hi
theorem next_tup {it t : Addr} {i : Nat} {items : Array Value} {x : Value} {Q : Value -> Shared -> Prop} (hit : s.heap.IsTupleIter it t i) (ht : s.heap.IsTuple t items) (hx : items[i]? = some x)
  (hQ : ∀ h', h'.IsTupleIter it t (i + 1) -> Heap.SameBut it s.heap h' -> Q x { s with heap := h' }) : wpAny (model prog w) A (Builtin.SmallTypes.nextOf (.ref it)) Q E s := by
 obtain ⟨oi, hoi, hci, hdi⟩ := id hit
 obtain ⟨ot, hot, _, nt, hdt⟩ := ht
 unfold Builtin.SmallTypes.nextOf
 refine wpAny_bind (wpAny_callSpecial?_slot (name := Str.ofString "__next__") hit.typeIs F.slot_tuple_iterator_next
  (wpAny_call_entry F.slot_tuple_iterator_next hit.typeIs F.entry_tuple_iterator_next ?_ (F.args_tuple_iterator_next_1 _)))
 show wpAny _ _ (field (.ref it) 0 >>= _) _ _ s
 refine wpAny_bind (wpAny_field hoi hdi (x := .ref t) rfl ?_)
 show wpAny _ _ (if (Value.ref t == Value.none) = true then _ else _) _ _ s
 rw [if_neg (show ¬ ((Value.ref t == Value.none) = true) from Bool.false_ne_true)]
 show wpAny _ _ (field (.ref it) 1 >>= _) _ _ s
 refine wpAny_bind (wpAny_field hoi hdi (x := .int i 0) rfl ?_)
 show wpAny _ _ (seqItems? (.ref t) >>= _) _ _ s
 refine wpAny_bind (wpAny_seqItems hot hdt ?_)
 simp only [Int.toNat_natCast, hx]
 refine wpAny_bind (wpAny_setField hoi hdi (by simp) (wpAny_pure ⟨x, rfl, wpAny_pure (hQ _ ?_ (Heap.SameBut.update ..))⟩))
 exact ⟨_, Heap.get?_update_self _ hoi (Obj.isFreed_of_fields (Obj.data_mapFields hdi _)), (Obj.cls_mapFields ..).trans hci, by
  rw [Obj.data_mapFields hdi]; simp [rawInt]⟩
structure IsSI (h : Heap) (it : Addr) (x : Str) (t : Tok) (i : Nat) : Prop where
 ex : ∃ T : String, (T = "str_ascii_iterator" \/ T = "str_iterator") /\ h.IsStrIter it T x t i
theorem IsSI.at' {h h' : Heap} {it : Addr} {x : Str} {t : Tok} {i : Nat} (z : IsSI h it x t i) (k : ∀ o, h.get? it = some o -> h'.get? it = some o) : IsSI h' it x t i := by
 obtain ⟨T, hT, o, e, r⟩ := z.ex
 exact ⟨T, hT, o, k o e, r⟩
theorem IsSI.lt {h : Heap} {it : Addr} {x : Str} {t : Tok} {i : Nat} (z : IsSI h it x t i) : it < h.objs.size := by
 obtain ⟨T, hT, o, e, r⟩ := z.ex
 exact Heap.lt_size e
theorem next_si {it : Addr} {x : Str} {t : Tok} {i c : Nat} {Q : Value -> Shared -> Prop} (hit : IsSI s.heap it x t i) (hx : x.cps[i]? = some c)
  (hQ : ∀ h' u tk, IsSI h' it x t (i + 1) -> Heap.SameBut it s.heap h' -> Q (.str ⟨#[c]⟩ u) { s with heap := h', toks := tk }) : wpAny (model prog w) A (Builtin.SmallTypes.nextOf (.ref it)) Q E s := by
 obtain ⟨T, hT, z⟩ := hit.ex
 rcases hT with rfl | rfl
 ·exact wpAny_nextOf_ascii_item z hx fun h' z' sb => hQ h' _ _ ⟨_, .inl rfl, z'⟩ sb
 ·exact wpAny_nextOf_wide_item z hx fun h' z' sb => hQ h' _ _ ⟨_, .inr rfl, z'⟩ sb
theorem next_si_end {it : Addr} {x : Str} {t : Tok} {i : Nat} {Q : Value -> Shared -> Prop} (hh : A.handled = none) (hit : IsSI s.heap it x t i) (hx : x.cps[i]? = none)
  (hE : ∀ h' e, Heap.ExtBut it s.heap h' -> (∃ o, h'.get? e = some o /\ o.cls = .type "StopIteration") -> E (.ref e) { s with heap := h' }) : wpAny (model prog w) A (Builtin.SmallTypes.nextOf (.ref it)) Q E s := by
 obtain ⟨T, hT, z⟩ := hit.ex
 rcases hT with rfl | rfl
 ·exact wpAny_nextOf_ascii_end hh z hx hE
 ·exact wpAny_nextOf_wide_end hh z hx hE
def It2 (h : Heap) (i2 t : Addr) (items : Array Value) (k : Nat) : Prop := (h.IsTupleIter i2 t k /\ h.IsTuple t items) \/ (h.IsListIter i2 t k /\ h.IsList t items)
theorem It2.at {h h' : Heap} {i2 t : Addr} {items : Array Value} {k : Nat} (z : It2 h i2 t items k) (k1 : ∀ o, h.get? i2 = some o -> h'.get? i2 = some o) (k2 : ∀ o, h.get? t = some o -> h'.get? t = some o) : It2 h' i2 t items k := by
 rcases z with ⟨a, o, e, r⟩ | ⟨a, o, e, r⟩
 ·exact .inl ⟨a.at k1, o, k2 _ e, r⟩
 ·exact .inr ⟨a.at k1, o, k2 _ e, r⟩
theorem It2.lt {h : Heap} {i2 t : Addr} {items : Array Value} {k : Nat} (z : It2 h i2 t items k) : i2 < h.objs.size := by
 rcases z with ⟨⟨o, e, _⟩, _⟩ | ⟨⟨o, e, _⟩, _⟩
 ·exact Heap.lt_size e
 ·exact Heap.lt_size e
theorem It2.ltT {h : Heap} {i2 t : Addr} {items : Array Value} {k : Nat} (z : It2 h i2 t items k) : t < h.objs.size := by
 rcases z with ⟨_, o, e, _⟩ | ⟨_, o, e, _⟩
 ·exact Heap.lt_size e
 ·exact Heap.lt_size e
theorem next_it2 {i2 t : Addr} {k : Nat} {items : Array Value} {x : Value} {Q : Value -> Shared -> Prop} (z : It2 s.heap i2 t items k) (ht : t ≠ i2) (hx : items[k]? = some x)
  (hQ : ∀ h', It2 h' i2 t items (k + 1) -> Heap.SameBut i2 s.heap h' -> Q x { s with heap := h' }) : wpAny (model prog w) A (Builtin.SmallTypes.nextOf (.ref i2)) Q E s := by
 rcases z with ⟨a, b⟩ | ⟨a, b⟩
 ·exact next_tup a b hx fun h' j sb => hQ h' (.inl ⟨j, let ⟨o, e, r⟩ := b; ⟨o, sb.extBut _ _ ht e, r⟩⟩) sb
 ·exact wpAny_nextOf_list_item a b hx fun h' j sb => hQ h' (.inr ⟨j, let ⟨o, e, r⟩ := b; ⟨o, sb.extBut _ _ ht e, r⟩⟩) sb
def ZipO (f0 f1 : Value) (TI TO : Addr) : Obj := { cls := .type "zip", dict := none, data := .fields #[f0, f1, .bool false, .ref TI, .ref TO], slots := #[] }
structure Apart (z TI TO i1 i2 t : Addr) : Prop where
 TIz : TI ≠ z
 TOz : TO ≠ z
 i1z : i1 ≠ z
 i2z : i2 ≠ z
 TITO : TI ≠ TO
 TIi1 : TI ≠ i1
 TIi2 : TI ≠ i2
 TOi1 : TO ≠ i1
 TOi2 : TO ≠ i2
 i12 : i1 ≠ i2
 tz : t ≠ z
 tTO : t ≠ TO
 ti1 : t ≠ i1
 ti2 : t ≠ i2
structure ZSt (h : Heap) (z TI TO i1 i2 t : Addr) (x : Str) (tk : Tok) (items : Array Value) (k : Nat) : Prop where
 zip : ∃ f0 f1, h.get? z = some (ZipO f0 f1 TI TO) /\ (f0 = .none \/ ∃ a o, f0 = rawInt (a : Nat) /\ h.get? a = some o /\ a ≠ z /\ a ≠ TO /\ a ≠ i1 /\ a ≠ i2)
 pTI : IsPair h TI (.ref i1) (.ref i2)
 pTO : ∃ a b, IsPair h TO a b
 s1 : IsSI h i1 x tk k
 s2 : It2 h i2 t items k
theorem ZSt.keep {h h' : Heap} {z TI TO i1 i2 t : Addr} {x : Str} {tk : Tok} {items : Array Value} {k : Nat} (y : ZSt h z TI TO i1 i2 t x tk items k) (kp : ∀ b o, h.get? b = some o -> h'.get? b = some o) : ZSt h' z TI TO i1 i2 t x tk items k := by
 obtain ⟨⟨f0, f1, e, r⟩, p1, ⟨a, b, p2⟩, s1, s2⟩ := y
 refine ⟨⟨f0, f1, kp _ _ e, ?_⟩, kp _ _ p1, ⟨a, b, kp _ _ p2⟩, s1.at' fun o => kp _ o, s2.at (fun o => kp _ o) fun o => kp _ o⟩
 rcases r with r | ⟨a, o, r1, r2, r3⟩
 ·exact .inl r
 ·exact .inr ⟨a, o, r1, kp _ _ r2, r3⟩
theorem zip_next {z TI TO i1 i2 t : Addr} {x : Str} {tk : Tok} {items : Array Value} {k c : Nat} {y : Value} {Q : Value -> Shared -> Prop} (D : Apart z TI TO i1 i2 t) (S : ZSt s.heap z TI TO i1 i2 t x tk items k) (hx : x.cps[k]? = some c) (hy : items[k]? = some y)
  (hQ : ∀ h' T u tk', ZSt h' z TI TO i1 i2 t x tk items (k + 1) -> IsPair h' T (.str ⟨#[c]⟩ u) y -> s.heap.objs.size <= T -> (∀ b o, b ≠ z -> b ≠ TO -> b ≠ i1 -> b ≠ i2 -> s.heap.get? b = some o -> h'.get? b = some o) -> Q (.ref T) { s with heap := h', toks := tk' }) :
  wpAny (model prog w) A (Builtin.«zip.__next__» ⟨[.ref z], []⟩) (fun fin s' => ∃ v, fin = .done (.ret v) /\ Q v s') E s := by
 obtain ⟨⟨f0, f1, hz, hf⟩, hTI, ⟨a, b, hTO⟩, h1, h2⟩ := S
 show wpAny _ _ (field (.ref z) 2 >>= _) _ _ _
 refine wpAny_bind (wpAny_field hz rfl (x := .bool false) rfl ?_)
 show wpAny _ _ (field (.ref z) 3 >>= _) _ _ _
 refine wpAny_bind (wpAny_field hz rfl (x := .ref TI) rfl ?_)
 refine wpAny_bind (wpAny_seqItems hTI rfl ?_)
 show wpAny _ _ (Builtin.SmallTypes.ownedTupleIsFree (.ref z) >>= _) _ _ _
 refine wpAny_bind ?_
 unfold Builtin.SmallTypes.ownedTupleIsFree
 rcases hf with rfl | ⟨q, oq, rfl, hq, q1, q2, q3, q4⟩
 ·refine wpAny_bind (wpAny_field hz rfl (x := .none) rfl (wpAny_pure ?_))
  simp only [if_true]
  refine wpAny_bind (wpAny_rule ?_)
  refine wpAny_bind (wpAny_field hz rfl (x := .ref TO) rfl ?_)
  refine wpAny_bind (wpAny_setField_rec hz (by simp) fun g1 z1 b1 => ?_)
  replace z1 : g1.get? z = some (ZipO .ellipsis f1 TI TO) := z1
  refine wpAny_bind ?_
  simp only [List.zipIdx_cons, List.zipIdx_nil, List.forIn_cons, List.forIn_nil]
  refine wpAny_bind (wpAny_bind (wpAny_onRaise ?_))
  show wpAny _ _ (Builtin.SmallTypes.nextOf (.ref i1) >>= _) _ _ _
  refine wpAny_bind (next_si (h1.at' fun o e => b1.extBut _ _ D.i1z e) hx fun g2 u tk2 i2' b2 => wpAny_pure ?_)
  have o2 : IsPair g2 TO a b := b2.extBut _ _ D.TOi1 (b1.extBut _ _ D.TOz hTO)
  refine wpAny_bind (wpAny_seqItems o2 rfl ?_)
  refine wpAny_bind (wpAny_updateSeq_pair o2 fun g3 o3 b3 => ?_)
  replace o3 : IsPair g3 TO (.str ⟨#[c]⟩ u) b := o3
  refine wpAny_bind (wpAny_letGo (wpAny_pure ?_))
  refine wpAny_bind (wpAny_bind (wpAny_onRaise ?_))
  show wpAny _ _ (Builtin.SmallTypes.nextOf (.ref i2) >>= _) _ _ _
  have up3 : ∀ c o, c ≠ z -> c ≠ TO -> c ≠ i1 -> s.heap.get? c = some o -> g3.get? c = some o := fun c o c1 c2 c3 e => b3.extBut _ _ c2 (b2.extBut _ _ c3 (b1.extBut _ _ c1 e))
  refine wpAny_bind (next_it2 (h2.at (fun o e => up3 _ _ D.i2z D.TOi2.symm D.i12.symm e) fun o e => up3 _ _ D.tz D.tTO D.ti1 e) D.ti2 hy fun g4 j4 b4 => wpAny_pure ?_)
  have o4 : IsPair g4 TO (.str ⟨#[c]⟩ u) b := b4.extBut _ _ D.TOi2 o3
  refine wpAny_bind (wpAny_seqItems o4 rfl ?_)
  refine wpAny_bind (wpAny_updateSeq_pair o4 fun g5 o5 b5 => ?_)
  replace o5 : IsPair g5 TO (.str ⟨#[c]⟩ u) y := o5
  refine wpAny_bind (wpAny_letGo (wpAny_pure (wpAny_pure ?_)))
  refine wpAny_bind (wpAny_seqItems o5 rfl ?_)
  refine wpAny_bind (wpAny_newTuple ?_)
  have sz : g5.objs.size = s.heap.objs.size := by rw [b5.1, b4.1, b3.1, b2.1, b1.1]
  have z5 : g5.get? z = some (ZipO .ellipsis f1 TI TO) := b5.extBut _ _ D.TOz.symm (b4.extBut _ _ D.i2z.symm (b3.extBut _ _ D.TOz.symm (b2.extBut _ _ D.i1z.symm z1)))
  have up5 : ∀ c o, c ≠ z -> c ≠ TO -> c ≠ i1 -> c ≠ i2 -> s.heap.get? c = some o -> g5.get? c = some o := fun c o c1 c2 c3 c4 e => b5.extBut _ _ c2 (b4.extBut _ _ c4 (up3 c o c1 c2 c3 e))
  have s5 : IsSI g5 i1 x tk (k + 1) := i2'.at' fun o e => b5.extBut _ _ D.TOi1.symm (b4.extBut _ _ D.i12 (b3.extBut _ _ D.TOi1.symm e))
  have j5 : It2 g5 i2 t items (k + 1) := j4.at (fun o e => b5.extBut _ _ D.TOi2.symm e) fun o e => b5.extBut _ _ D.tTO e
  show wpAny _ _ (Builtin.SmallTypes.ownedTupleHandOut (.ref z) (.ref g5.objs.size) >>= _) _ _ _
  refine wpAny_bind ?_
  unfold Builtin.SmallTypes.ownedTupleHandOut
  have z6 : (g5.push { cls := .type "tuple", data := .seq #[.str ⟨#[c]⟩ u, y] }).get? z = some (ZipO .ellipsis f1 TI TO) := Heap.get?_push_of_some _ z5
  refine wpAny_bind (wpAny_setField_rec z6 (by simp) fun g7 z7 b7 => ?_)
  replace z7 : g7.get? z = some (ZipO (rawInt g5.objs.size) f1 TI TO) := z7
  refine wpAny_setField_rec z7 (by simp) fun g8 z8 b8 => ?_
  replace z8 : g8.get? z = some (ZipO (rawInt g5.objs.size) (.bool false) TI TO) := z8
  have up : ∀ c o, c ≠ z -> g5.get? c = some o -> g8.get? c = some o := fun c o c1 e => b8.extBut _ _ c1 (b7.extBut _ _ c1 (Heap.get?_push_of_some _ e))
  have zlt : z < g5.objs.size := Heap.lt_size z5
  have T8 : IsPair g8 g5.objs.size (.str ⟨#[c]⟩ u) y := b8.extBut _ _ (Nat.ne_of_gt zlt) (b7.extBut _ _ (Nat.ne_of_gt zlt) (Heap.get?_push_size _ rfl))
  refine wpAny_pure ⟨_, rfl, ?_⟩
  refine hQ g8 g5.objs.size u tk2 ⟨⟨_, _, z8, .inr ⟨g5.objs.size, _, rfl, T8, Nat.ne_of_gt zlt, Nat.ne_of_gt (Heap.lt_size o5), Nat.ne_of_gt s5.lt, ?_⟩⟩, up _ _ D.TIz (up5 _ _ D.TIz D.TITO D.TIi1 D.TIi2 hTI), ⟨_, _, up _ _ D.TOz o5⟩, s5.at' fun o e => up _ _ D.i1z e, j5.at (fun o e => up _ _ D.i2z e) fun o e => up _ _ D.tz e⟩ T8 (Nat.le_of_eq sz.symm) fun c o c1 c2 c3 c4 e => up c o c1 (up5 c o c1 c2 c3 c4 e)
  exact Nat.ne_of_gt j5.lt
 ·refine wpAny_bind (wpAny_field hz rfl (x := rawInt (q : Nat)) rfl ?_)
  show wpAny _ _ (loadIfAlive ((q : Int)).toNat >>= _) _ _ _
  refine wpAny_bind ?_
  unfold loadIfAlive
  refine alive (o := oq) (by simpa using hq) (wpAny_pure ?_)
  simp only [Option.isNone_some, Bool.false_eq_true, if_false]
  refine wpAny_bind (wpAny_field hz rfl (x := f1) rfl ?_)
  refine wpAny_mono (Q := fun r s' => r = false /\ ∃ g1 f1', s' = { s with heap := g1 } /\ g1.get? z = some (ZipO (rawInt (q : Nat)) f1' TI TO) /\ Heap.SameBut z s.heap g1) ?_ (fun r s' hr => ?_) (fun _ _ e => e)
  ·by_cases hb : (f1 != Value.bool true) = true
   ·rw [if_pos hb]
    exact wpAny_bind (wpAny_setField_rec hz (by simp) fun g1 z1 b1 => wpAny_pure ⟨rfl, g1, .bool true, rfl, z1, b1⟩)
   ·rw [if_neg hb]
    exact wpAny_pure ⟨rfl, s.heap, f1, rfl, hz, .refl ..⟩
  obtain ⟨rfl, g1, f1', rfl, z1, b1⟩ := hr
  simp only [Bool.false_eq_true, if_false]
  refine wpAny_bind ?_
  simp only [List.forIn_toArray, List.forIn_cons, List.forIn_nil]
  refine wpAny_bind (wpAny_bind (wpAny_holding ?_))
  show wpAny _ _ (Builtin.SmallTypes.nextOf (.ref i1) >>= _) _ _ _
  refine wpAny_bind (next_si (h1.at' fun o e => b1.extBut _ _ D.i1z e) hx fun g2 u tk2 i2' b2 => wpAny_pure ?_)
  refine wpAny_pure ?_
  refine wpAny_bind (wpAny_bind (wpAny_holding ?_))
  show wpAny _ _ (Builtin.SmallTypes.nextOf (.ref i2) >>= _) _ _ _
  have up2 : ∀ c o, c ≠ z -> c ≠ i1 -> s.heap.get? c = some o -> g2.get? c = some o := fun c o c1 c3 e => b2.extBut _ _ c3 (b1.extBut _ _ c1 e)
  refine wpAny_bind (next_it2 (h2.at (fun o e => up2 _ _ D.i2z D.i12.symm e) fun o e => up2 _ _ D.tz D.ti1 e) D.ti2 hy fun g4 j4 b4 => wpAny_pure ?_)
  refine wpAny_pure (wpAny_pure ?_)
  refine wpAny_bind (wpAny_newTuple (hsz := by show 2 <= sizeLine; decide) ?_)
  have up4 : ∀ c o, c ≠ z -> c ≠ i1 -> c ≠ i2 -> s.heap.get? c = some o -> g4.get? c = some o := fun c o c1 c3 c4 e => b4.extBut _ _ c4 (up2 c o c1 c3 e)
  have sz : g4.objs.size = s.heap.objs.size := by rw [b4.1, b2.1, b1.1]
  have z4 : g4.get? z = some (ZipO (rawInt (q : Nat)) f1' TI TO) := b4.extBut _ _ D.i2z.symm (b2.extBut _ _ D.i1z.symm z1)
  refine wpAny_pure ⟨_, rfl, ?_⟩
  refine hQ _ g4.objs.size u tk2 ⟨⟨_, _, Heap.get?_push_of_some _ z4, .inr ⟨q, oq, rfl, Heap.get?_push_of_some _ (up4 _ _ q1 q3 q4 hq), q1, q2, q3, q4⟩⟩, Heap.get?_push_of_some _ (up4 _ _ D.TIz D.TIi1 D.TIi2 hTI), ⟨_, _, Heap.get?_push_of_some _ (up4 _ _ D.TOz D.TOi1 D.TOi2 hTO)⟩,
   i2'.at' fun o e => Heap.get?_push_of_some _ (b4.extBut _ _ D.i12 e), j4.at (fun o e => Heap.get?_push_of_some _ e) fun o e => Heap.get?_push_of_some _ e⟩ (Heap.get?_push_size _ rfl) (Nat.le_of_eq sz.symm) fun c o c1 c2 c3 c4 e => Heap.get?_push_of_some _ (up4 c o c1 c3 c4 e)
theorem zip_end {z TI TO i1 i2 t : Addr} {x : Str} {tk : Tok} {items : Array Value} {k : Nat} {Q : Fin -> Shared -> Prop} (hh : A.handled = none) (D : Apart z TI TO i1 i2 t) (S : ZSt s.heap z TI TO i1 i2 t x tk items k) (hx : x.cps[k]? = none)
  (hE : ∀ h' e, (∀ b o, b ≠ z -> b ≠ TO -> b ≠ i1 -> b ≠ i2 -> s.heap.get? b = some o -> h'.get? b = some o) -> (∃ o, h'.get? e = some o /\ o.cls = .type "StopIteration") -> E (.ref e) { s with heap := h' }) :
  wpAny (model prog w) A (Builtin.«zip.__next__» ⟨[.ref z], []⟩) Q E s := by
 obtain ⟨⟨f0, f1, hz, hf⟩, hTI, ⟨a, b, hTO⟩, h1, h2⟩ := S
 show wpAny _ _ (field (.ref z) 2 >>= _) _ _ _
 refine wpAny_bind (wpAny_field hz rfl (x := .bool false) rfl ?_)
 show wpAny _ _ (field (.ref z) 3 >>= _) _ _ _
 refine wpAny_bind (wpAny_field hz rfl (x := .ref TI) rfl ?_)
 refine wpAny_bind (wpAny_seqItems hTI rfl ?_)
 show wpAny _ _ (Builtin.SmallTypes.ownedTupleIsFree (.ref z) >>= _) _ _ _
 refine wpAny_bind ?_
 unfold Builtin.SmallTypes.ownedTupleIsFree
 rcases hf with rfl | ⟨q, oq, rfl, hq, q1, q2, q3, q4⟩
 ·refine wpAny_bind (wpAny_field hz rfl (x := .none) rfl (wpAny_pure ?_))
  simp only [if_true]
  refine wpAny_bind (wpAny_rule ?_)
  refine wpAny_bind (wpAny_field hz rfl (x := .ref TO) rfl ?_)
  refine wpAny_bind (wpAny_setField_rec hz (by simp) fun g1 z1 b1 => ?_)
  replace z1 : g1.get? z = some (ZipO .ellipsis f1 TI TO) := z1
  refine wpAny_bind ?_
  simp only [List.zipIdx_cons, List.zipIdx_nil, List.forIn_cons, List.forIn_nil]
  refine wpAny_bind (wpAny_bind (wpAny_onRaise ?_))
  show wpAny _ _ (Builtin.SmallTypes.nextOf (.ref i1) >>= _) _ _ _
  refine wpAny_bind (next_si_end hh (h1.at' fun o e => b1.extBut _ _ D.i1z e) hx fun g2 e b2 he => ?_)
  obtain ⟨oe, hoe, hce⟩ := he
  have z2 : g2.get? z = some (ZipO .ellipsis f1 TI TO) := b2 _ _ D.i1z.symm z1
  have ne : e ≠ z := fun y => by
   subst y
   rw [z2] at hoe
   cases hoe
   have c' : (Value.type "zip") = .type "StopIteration" := hce
   simp at c'
  exact wpAny_setField_rec z2 (by simp) fun g3 _ b3 => hE g3 e (fun c o c1 _ c3 _ y => b3.extBut _ _ c1 (b2 _ _ c3 (b1.extBut _ _ c1 y))) ⟨oe, b3.extBut _ _ ne hoe, hce⟩
 ·refine wpAny_bind (wpAny_field hz rfl (x := rawInt (q : Nat)) rfl ?_)
  show wpAny _ _ (loadIfAlive ((q : Int)).toNat >>= _) _ _ _
  refine wpAny_bind ?_
  unfold loadIfAlive
  refine alive (o := oq) (by simpa using hq) (wpAny_pure ?_)
  simp only [Option.isNone_some, Bool.false_eq_true, if_false]
  refine wpAny_bind (wpAny_field hz rfl (x := f1) rfl ?_)
  refine wpAny_mono (Q := fun r s' => r = false /\ ∃ g1, s' = { s with heap := g1 } /\ Heap.SameBut z s.heap g1) ?_ (fun r s' hr => ?_) (fun _ _ e => e)
  ·by_cases hb : (f1 != Value.bool true) = true
   ·rw [if_pos hb]
    exact wpAny_bind (wpAny_setField_rec hz (by simp) fun g1 z1 b1 => wpAny_pure ⟨rfl, g1, rfl, b1⟩)
   ·rw [if_neg hb]
    exact wpAny_pure ⟨rfl, s.heap, rfl, .refl ..⟩
  obtain ⟨rfl, g1, rfl, b1⟩ := hr
  simp only [Bool.false_eq_true, if_false]
  refine wpAny_bind ?_
  simp only [List.forIn_toArray, List.forIn_cons, List.forIn_nil]
  refine wpAny_bind (wpAny_bind (wpAny_holding ?_))
  show wpAny _ _ (Builtin.SmallTypes.nextOf (.ref i1) >>= _) _ _ _
  exact wpAny_bind (next_si_end hh (h1.at' fun o e => b1.extBut _ _ D.i1z e) hx fun g2 e b2 he => hE g2 e (fun c o c1 _ c3 _ y => b2 _ _ c3 (b1.extBut _ _ c1 y)) he)
theorem py_next {z TI TO i1 i2 t : Addr} {x : Str} {tk : Tok} {items : Array Value} {k c : Nat} {y : Value} {Q : Option Value -> Shared -> Prop} (D : Apart z TI TO i1 i2 t) (S : ZSt s.heap z TI TO i1 i2 t x tk items k) (hx : x.cps[k]? = some c) (hy : items[k]? = some y)
  (hQ : ∀ h' T u tk', ZSt h' z TI TO i1 i2 t x tk items (k + 1) -> IsPair h' T (.str ⟨#[c]⟩ u) y -> s.heap.objs.size <= T -> (∀ b o, b ≠ z -> b ≠ TO -> b ≠ i1 -> b ≠ i2 -> s.heap.get? b = some o -> h'.get? b = some o) -> Q (some (.ref T)) { s with heap := h', toks := tk' }) :
  wpAny (model prog w) A (pyNext (.ref z)) Q E s := by
 have hT : s.TypeIs (.ref z) "zip" := let ⟨_, _, e, _⟩ := S.zip; ⟨_, e, rfl⟩
 unfold pyNext
 exact wpAny_bind (wpAny_attempt (wpAny_callSpecial?_slot (name := Str.ofString "__next__") hT F.slot_zip_next
  (wpAny_call_entry F.slot_zip_next hT F.entry_zip_next (zip_next D S hx hy fun h' T u tk' a1 a2 a3 a4 => wpAny_pure (hQ h' T u tk' a1 a2 a3 a4)) (F.args_zip_next_1 _))))
theorem py_end {z TI TO i1 i2 t : Addr} {x : Str} {tk : Tok} {items : Array Value} {k : Nat} {Q : Option Value -> Shared -> Prop} (hh : A.handled = none) (D : Apart z TI TO i1 i2 t) (S : ZSt s.heap z TI TO i1 i2 t x tk items k) (hx : x.cps[k]? = none)
  (hQ : ∀ h', (∀ b o, b ≠ z -> b ≠ TO -> b ≠ i1 -> b ≠ i2 -> s.heap.get? b = some o -> h'.get? b = some o) -> Q none { s with heap := h' }) : wpAny (model prog w) A (pyNext (.ref z)) Q E s := by
 have hT : s.TypeIs (.ref z) "zip" := let ⟨_, _, e, _⟩ := S.zip; ⟨_, e, rfl⟩
 unfold pyNext
 refine wpAny_bind (wpAny_attempt (wpAny_callSpecial?_slot (name := Str.ofString "__next__") hT F.slot_zip_next
  (wpAny_call_entry F.slot_zip_next hT F.entry_zip_next (zip_end hh D S hx fun h' e hk he => ?_) (F.args_zip_next_1 _))))
 obtain ⟨o, ho, hc⟩ := he
 refine wpAny_bind (wpAny_isInstance (T := "StopIteration") (b := true) ⟨o, ho, hc⟩ isSubtype_stop ?_)
 exact wpAny_pure (hQ _ hk)
end
theorem entry_ga : entryFor table "zip.__getattribute__" = some Builtin.«object.__getattribute__» :=
 entryFor_alias (id' := "object.__getattribute__") (by kernel_rfl) (by decide +kernel) (by decide +kernel) (by kernel_rfl)
theorem no_keys : typeLookup (.type "zip") "keys" = pure none := by rw [typeLookup_type, builtinLookup_eq_fast]; kernel_rfl
theorem no_getattr : typeLookup (.type "zip") "__getattr__" = pure none := by rw [typeLookup_type, builtinLookup_eq_fast]; kernel_rfl
theorem meets_miss (a : Addr) (vs : Array Value) (name : Str) (u : Tok) (hmiss : typeLookup (.type "zip") name = pure none) (hname : (["__module__", "__name__", "__qualname__", "__doc__", "__annotations__"] : List Str).contains name = false) (hsz : name.length + 100 <= sizeLine) :
  Meets (Builtin.«object.__getattribute__» ⟨[.ref a, .str name u], []⟩) (fun A R s => s.heap.get? a = some { cls := .type "zip", dict := none, data := .fields vs, slots := #[] } /\ raisesAttr (.ref a) name A R s) :=
 Meets.of_wp fun prog w A R s hs => by
  obtain ⟨hp, g, d, tk, os⟩ := s
  obtain ⟨hx, hs⟩ := hs
  have hT : (⟨hp, g, d, tk, os⟩ : Shared).TypeIs (.ref a) "zip" := ⟨_, hx, rfl⟩
  unfold Builtin.«object.__getattribute__»
  repeat (any_goals (first | assumption | wp_step))
  simp only [hname, Bool.false_eq_true, if_false]
  repeat (any_goals (first | assumption | wp_step))
  exact wpAny_raiseAttrError hs.1 hs.2 (attrMsg_fits (by decide +kernel) hsz)
section
variable {prog : Program} {w : World} {A : Around} {E : Value -> Shared -> Prop} {s : Shared}
theorem no_attr_keys {a : Addr} {vs : Array Value} {Q : Option Value -> Shared -> Prop} (hx : s.heap.get? a = some { cls := .type "zip", dict := none, data := .fields vs, slots := #[] }) (hA : A.handled = none)
  (h : ∀ h' tk, (∀ b o, s.heap.get? b = some o -> h'.get? b = some o) -> Q none { s with heap := h', toks := tk }) : wpAny (model prog w) A (getAttr? (.ref a) "keys") Q E s := by
 obtain ⟨hp, g, d, tk, os⟩ := s
 have hT : ∀ tk', (⟨hp, g, d, tk', os⟩ : Shared).TypeIs (.ref a) "zip" := fun _ => ⟨_, hx, rfl⟩
 have f1 := sub_AttributeError
 have f3 := F.slot_zip_getattribute.lookup
 have f4 := F.slot_zip_getattribute.bind (.ref a)
 have f5 := no_getattr
 unfold getAttr? getAttrBy? getAttrBy
 repeat (any_goals (first | assumption | exact hT _ | ((with_reducible show wpAny _ _ (call (Value.builtin "zip.__getattribute__") _ _) _ _ _); refine call_meets F.slot_zip_getattribute (hT _) entry_ga (F.args_zip_getattribute_2 _ _) (meets_miss a vs "keys" _ no_keys (by decide +kernel) (by decide +kernel)) ⟨hx, hA, fun h' tk' e hx' => ?_⟩) | wp_step))
 obtain ⟨t', u', he⟩ := hx'.there
 show wpAny _ _ (getattributeRaised _ _ _ _ _ _ _) _ _ _
 unfold getattributeRaised
 repeat (any_goals (first | assumption | wp_step))
 exact h _ _ hx'.keeps
end
end ZD
namespace ZD
open PySem PySem.Spec PyProof.Rows
theorem entry_loop : entryFor table "dict.update.loop" = some Builtin.«dict.update.loop» := entryFor_of_tree (by kernel_rfl)
theorem plain_loop : plainId "dict.update.loop" = true := by decide +kernel
def storeAll {K : Type} [DecidableEq K] (kk : Nat -> K) (items : Array Value) : Nat -> Nat -> List (K × Value) -> List (K × Value)
 | 0, _, kvs => kvs
 | n + 1, k, kvs => storeAll kk items n (k + 1) (stored kvs (kk k) (items[k]?.getD .none))
theorem stored_len {K : Type} [DecidableEq K] (kvs : List (K × Value)) (k : K) (v : Value) : (stored kvs k v).length <= kvs.length + 1 := by
 unfold stored
 split
 ·simp
 ·simp
theorem ZSt.but {h h' : Heap} {d z TI TO i1 i2 t : Addr} {x : Str} {tk : Tok} {items : Array Value} {k : Nat} (y : ZSt h z TI TO i1 i2 t x tk items k) (sb : Heap.SameBut d h h') (d1 : d ≠ z) (d2 : d ≠ TO) (d3 : d ≠ i1) (d4 : d ≠ i2) (d5 : d ≠ TI) (d6 : d ≠ t) (ob : ∃ o, h'.get? d = some o) :
  ZSt h' z TI TO i1 i2 t x tk items k := by
 obtain ⟨⟨f0, f1, e, r⟩, p1, ⟨a, b, p2⟩, s1, s2⟩ := y
 refine ⟨⟨f0, f1, sb.extBut _ _ d1.symm e, ?_⟩, sb.extBut _ _ d5.symm p1, ⟨a, b, sb.extBut _ _ d2.symm p2⟩, s1.at' fun o e => sb.extBut _ _ d3.symm e, s2.at (fun o e => sb.extBut _ _ d4.symm e) fun o e => sb.extBut _ _ d6.symm e⟩
 rcases r with r | ⟨a, o, r1, r2, r3⟩
 ·exact .inl r
 ·by_cases ha : a = d
  ·obtain ⟨o', e'⟩ := ob
   exact .inr ⟨a, o', r1, by rw [ha]; exact e', r3⟩
  ·exact .inr ⟨a, o, r1, sb.extBut _ _ ha r2, r3⟩
section
variable {prog : Program} {w : World} {A : Around} {K : Type} [DecidableEq K] {knd : KeyKind prog w K} {R : Result -> Shared -> Prop} {d z TI TO i1 i2 t : Addr} {x : Str} {tk : Tok} {items : Array Value}
theorem upd_loop {kk : Nat -> K} (hk : ∀ i c u, x.cps[i]? = some c -> knd.is (kk i) (.str ⟨#[c]⟩ u) = true) (D : Apart z TI TO i1 i2 t) (hh : A.handled = none) (d1 : d ≠ z) (d2 : d ≠ TO) (d3 : d ≠ i1) (d4 : d ≠ i2) (d5 : d ≠ TI) (d6 : d ≠ t) (hsz : x.cps.size = items.size) (hle : x.cps.size <= 1000) :
  ∀ (n k : Nat) (j : Int) (s : Shared) (kvs : List (K × Value)), k + n = x.cps.size -> ZSt s.heap z TI TO i1 i2 t x tk items k -> s.heap.DictOf knd d kvs -> kvs.length <= k ->
   (∀ h' tk', h'.DictOf knd d (storeAll kk items n k kvs) -> (∀ b o, b ≠ z -> b ≠ TO -> b ≠ i1 -> b ≠ i2 -> b ≠ d -> s.heap.get? b = some o -> h'.get? b = some o) -> R (.ok (.ret .none)) { s with heap := h', toks := tk' }) ->
   codeAny (model prog w) A (.builtin "dict.update.loop" ⟨[.ref d, .ref z, rawInt j, .none], []⟩) R s := by
 intro n
 induction n with
 | zero =>
  intro k j s kvs hkn S hd hl hR
  refine codeAny_builtin entry_loop ?_
  rw [Around.under_plainId plain_loop _]
  show wpAny _ A.in1 (pyNext (.ref z) >>= _) _ _ s
  refine wpAny_bind (py_end hh D S (by simp; omega) fun h' hk' => ?_)
  show wpAny _ _ (Builtin.Dict.addKeywords d [] >>= _) _ _ _
  refine wpAny_bind (wpAny_pure (wpAny_pure ?_))
  exact hR h' s.toks (let ⟨o, es, ep, ho, r⟩ := hd; ⟨o, es, ep, hk' d o d1 d2 d3 d4 ho, r⟩) fun b o b1 b2 b3 b4 _ e => hk' b o b1 b2 b3 b4 e
 | succ n ih =>
  intro k j s kvs hkn S hd hl hR
  have hkx : k < x.cps.size := by omega
  have hx : x.cps[k]? = some x.cps[k] := by simp [hkx]
  have hy : items[k]? = some items[k] := by simp
  refine codeAny_builtin entry_loop ?_
  rw [Around.under_plainId plain_loop _]
  show wpAny _ A.in1 (pyNext (.ref z) >>= _) _ _ s
  refine wpAny_bind (py_next D S hx hy fun h' T u tk' S' pT hT hk' => ?_)
  refine wpAny_bind (wpAny_holding ?_)
  have hTy : (⟨h', s.gens, s.drawn, tk', s.os⟩ : Shared).TypeIs (.ref T) "tuple" := ⟨_, pT, rfl⟩
  refine wpAny_bind (wpAny_tryCatch ?_)
  unfold Builtin.Dict.pairItems
  refine wpAny_bind (wpAny_typeOf hTy ?_)
  rw [if_pos (by decide)]
  refine wpAny_bind (wpAny_seqItems (s := ⟨h', s.gens, s.drawn, tk', s.os⟩) pT rfl (wpAny_pure ?_))
  show wpAny _ _ (holding [.str ⟨#[x.cps[k]]⟩ u, items[k]] (dictSet d (.str ⟨#[x.cps[k]]⟩ u) items[k])) _ _ _
  have hd' : h'.DictOf knd d kvs := let ⟨o, es, ep, ho, r⟩ := hd; ⟨o, es, ep, hk' d o d1 d2 d3 d4 ho, r⟩
  refine wpAny_holding (wpAny_dictSet_pairs (s := ⟨h', s.gens, s.drawn, tk', s.os⟩) (hk k _ u hx) hd' (fun h2 hd2 sb => ?_) (Nat.le_of_lt (Nat.lt_of_le_of_lt (show kvs.length <= 1000 by omega) (by decide))))
  refine wpAny_pure ⟨plainId_quiet plain_loop _, ?_⟩
  have ob : ∃ o, h2.get? d = some o := let ⟨o, _, _, ho, _⟩ := hd2; ⟨o, ho⟩
  refine ih (k + 1) (j + 1) _ _ (by omega) (S'.but sb d1 d2 d3 d4 d5 d6 ob) hd2 ?_ (fun h3 tk3 hd3 hk3 => ?_)
  ·have := stored_len kvs (kk k) items[k]
   omega
  ·have e : storeAll kk items (n + 1) k kvs = storeAll kk items n (k + 1) (stored kvs (kk k) items[k]) := by
    show storeAll kk items n (k + 1) (stored kvs (kk k) (items[k]?.getD .none)) = _
    rw [hy]
    rfl
   refine hR h3 tk3 (by rw [e]; exact hd3) fun b o b1 b2 b3 b4 b5 eb => hk3 b o b1 b2 b3 b4 b5 (sb.extBut b o b5 (hk' b o b1 b2 b3 b4 eb))
end
end ZD
namespace ZD
open PySem PySem.Spec PyProof.Rows
abbrev zA (h : Heap) (x : Str) (tk : Tok) : Heap := h.push { cls := .type "str_ascii_iterator", data := .fields #[.str x tk, .int 0 0] }
abbrev zB (T : String) (h : Heap) (x : Str) (tk : Tok) (t : Addr) : Heap := (zA h x tk).push { cls := .type T, data := .fields #[.ref t, .int 0 0] }
abbrev zC (T : String) (h : Heap) (x : Str) (tk : Tok) (t : Addr) : Heap := (zB T h x tk t).push { cls := .type "tuple", data := .seq #[.ref h.objs.size, .ref (zA h x tk).objs.size] }
abbrev zD (T : String) (h : Heap) (x : Str) (tk : Tok) (t : Addr) : Heap := (zC T h x tk t).push { cls := .type "tuple", data := .seq #[.none, .none] }
abbrev zE (T : String) (h : Heap) (x : Str) (tk : Tok) (t : Addr) : Heap := (zD T h x tk t).push { cls := .type "zip", data := .fields #[.none, .bool false, .bool false, .ref (zB T h x tk t).objs.size, .ref (zC T h x tk t).objs.size] }
theorem meets_new (x : Str) (tk : Tok) (t : Addr) (items : Array Value) (ha : x.cps.all (· < 128) = true) :
  Meets (Builtin.«zip.__new__» ⟨[.type "zip", .str x tk, .ref t], []⟩) (fun _ R s => s.heap.IsTuple t items /\ R (.ok (.ret (.ref (zD "tuple_iterator" s.heap x tk t).objs.size))) { s with heap := zE "tuple_iterator" s.heap x tk t }) :=
 .of_wp fun prog w A R s h => by
  obtain ⟨hp, g, d, tks, os⟩ := s
  obtain ⟨ht, h⟩ := h
  have hsub := sub_zip
  have hT : Heap.IsTuple (Shared.heap ⟨hp.push { cls := .type "str_ascii_iterator", data := .fields #[.str x tk, .int 0 0] }, g, d, tks, os⟩) t items := let ⟨o, e, r⟩ := ht; ⟨o, Heap.get?_push_of_some _ e, r⟩
  wp_walk using wpAny_pyIter_ascii (t := tk) ha, wpAny_pyIter_tuple hT
  exact ⟨_, rfl, h⟩
theorem meets_newL (x : Str) (tk : Tok) (t : Addr) (items : Array Value) (ha : x.cps.all (· < 128) = true) :
  Meets (Builtin.«zip.__new__» ⟨[.type "zip", .str x tk, .ref t], []⟩) (fun _ R s => s.heap.IsList t items /\ R (.ok (.ret (.ref (zD "list_iterator" s.heap x tk t).objs.size))) { s with heap := zE "list_iterator" s.heap x tk t }) :=
 .of_wp fun prog w A R s h => by
  obtain ⟨hp, g, d, tks, os⟩ := s
  obtain ⟨ht, h⟩ := h
  have hsub := sub_zip
  have hT : Heap.IsList (Shared.heap ⟨hp.push { cls := .type "str_ascii_iterator", data := .fields #[.str x tk, .int 0 0] }, g, d, tks, os⟩) t items := let ⟨o, e, r⟩ := ht; ⟨o, Heap.get?_push_of_some _ e, r⟩
  wp_walk using wpAny_pyIter_ascii (t := tk) ha, wpAny_pyIter_list hT
  exact ⟨_, rfl, h⟩
section
variable {prog : Program} {w : World} {A : Around} {E : Value -> Shared -> Prop} {s : Shared}
theorem zipped (T : String) (hT : T = "tuple_iterator" \/ T = "list_iterator") {x : Str} {tk : Tok} {t : Addr} {items : Array Value} {Q : Value -> Shared -> Prop} (ht : (T = "tuple_iterator" /\ s.heap.IsTuple t items) \/ (T = "list_iterator" /\ s.heap.IsList t items))
  (h : ∀ h', ZSt h' (s.heap.objs.size + 4) (s.heap.objs.size + 2) (s.heap.objs.size + 3) s.heap.objs.size (s.heap.objs.size + 1) t x tk items 0 -> h'.objs.size = s.heap.objs.size + 5 -> (∀ c o, s.heap.get? c = some o -> h'.get? c = some o) -> Q (.ref (s.heap.objs.size + 4)) { s with heap := h' }) :
  ({ s with heap := zE T s.heap x tk t } : Shared).TypeIs (.ref (zD T s.heap x tk t).objs.size) "zip" /\ Q (.ref (zD T s.heap x tk t).objs.size) { s with heap := zE T s.heap x tk t } := by
 have z1 : (zA s.heap x tk).objs.size = s.heap.objs.size + 1 := Heap.size_push ..
 have z2 : (zB T s.heap x tk t).objs.size = s.heap.objs.size + 2 := by rw [Heap.size_push, z1]
 have z3 : (zC T s.heap x tk t).objs.size = s.heap.objs.size + 3 := by rw [Heap.size_push, z2]
 have z4 : (zD T s.heap x tk t).objs.size = s.heap.objs.size + 4 := by rw [Heap.size_push, z3]
 have z5 : (zE T s.heap x tk t).objs.size = s.heap.objs.size + 5 := by rw [Heap.size_push, z4]
 have g5 : (zE T s.heap x tk t).get? (zD T s.heap x tk t).objs.size = some _ := Heap.get?_push_size _ rfl
 have g4 : (zE T s.heap x tk t).get? (zC T s.heap x tk t).objs.size = some _ := Heap.get?_push_of_some _ (Heap.get?_push_size _ rfl)
 have g3 : (zE T s.heap x tk t).get? (zB T s.heap x tk t).objs.size = some _ := Heap.get?_push_of_some _ (Heap.get?_push_of_some _ (Heap.get?_push_size _ rfl))
 have g2 : (zE T s.heap x tk t).get? (zA s.heap x tk).objs.size = some _ := Heap.get?_push_of_some _ (Heap.get?_push_of_some _ (Heap.get?_push_of_some _ (Heap.get?_push_size _ rfl)))
 have g1 : (zE T s.heap x tk t).get? s.heap.objs.size = some _ := Heap.get?_push_of_some _ (Heap.get?_push_of_some _ (Heap.get?_push_of_some _ (Heap.get?_push_of_some _ (Heap.get?_push_size _ rfl))))
 have up : ∀ c o, s.heap.get? c = some o -> (zE T s.heap x tk t).get? c = some o := fun c o y => Heap.get?_push_of_some _ (Heap.get?_push_of_some _ (Heap.get?_push_of_some _ (Heap.get?_push_of_some _ (Heap.get?_push_of_some _ y))))
 rw [z2, z3, z4] at g5
 rw [z1, z2] at g3
 rw [z3] at g4
 rw [z1] at g2
 rw [z4]
 refine ⟨⟨_, g5, rfl⟩, h _ ⟨⟨_, _, g5, .inl rfl⟩, g3, ⟨_, _, g4⟩, ⟨_, .inl rfl, _, g1, rfl, rfl⟩, ?_⟩ z5 up⟩
 rcases ht with ⟨rfl, o, e, r⟩ | ⟨rfl, o, e, r⟩
 ·exact .inl ⟨⟨_, g2, rfl, rfl⟩, o, up _ _ e, r⟩
 ·exact .inr ⟨⟨_, g2, rfl, rfl⟩, o, up _ _ e, r⟩
theorem call_zip {x : Str} {tk : Tok} {t : Addr} {items : Array Value} {Q : Value -> Shared -> Prop} (ha : x.cps.all (· < 128) = true) (ht : s.heap.IsTuple t items \/ s.heap.IsList t items)
  (h : ∀ h', ZSt h' (s.heap.objs.size + 4) (s.heap.objs.size + 2) (s.heap.objs.size + 3) s.heap.objs.size (s.heap.objs.size + 1) t x tk items 0 -> h'.objs.size = s.heap.objs.size + 5 -> (∀ c o, s.heap.get? c = some o -> h'.get? c = some o) -> Q (.ref (s.heap.objs.size + 4)) { s with heap := h' }) :
  wpAny (model prog w) A (call (.type "zip") [.str x tk, .ref t]) Q E s := by
 rcases ht with ht | ht
 ·exact callType_new F.called_zip (by decide) (F.typeCall_zip_2 _ _) (F.newCall_zip_2 _ _) (fun obj => F.args_object_init_3 obj _ _) F.entry_zip_new (meets_new x tk t items ha) ⟨ht, zipped "tuple_iterator" (.inl rfl) (.inl ⟨rfl, ht⟩) h⟩
 ·exact callType_new F.called_zip (by decide) (F.typeCall_zip_2 _ _) (F.newCall_zip_2 _ _) (fun obj => F.args_object_init_3 obj _ _) F.entry_zip_new (meets_newL x tk t items ha) ⟨ht, zipped "list_iterator" (.inr rfl) (.inr ⟨rfl, ht⟩) h⟩
theorem apart_new {n t : Nat} (h : t < n) : Apart (n + 4) (n + 2) (n + 3) n (n + 1) t := by
 constructor <;> (intro (e : (_ : Nat) = _); omega)
end
end ZD
namespace ZD
open PySem PySem.Spec PyProof.Rows
section
variable {prog : Program} {w : World} {A : Around} {E : Value -> Shared -> Prop} {s : Shared}
theorem dict_of_zip {K : Type} [DecidableEq K] {knd : KeyKind prog w K} {z TI TO i1 i2 t : Addr} {x : Str} {tk : Tok} {items : Array Value} {kk : Nat -> K} {Q : Value -> Shared -> Prop} (hk : ∀ i c u, x.cps[i]? = some c -> knd.is (kk i) (.str ⟨#[c]⟩ u) = true) (D : Apart z TI TO i1 i2 t) (hh : A.handled = none)
  (hsz : x.cps.size = items.size) (hle : x.cps.size <= 1000) (S : ZSt s.heap z TI TO i1 i2 t x tk items 0)
  (h : ∀ h' d tk', s.heap.objs.size <= d -> h'.DictOf knd d (storeAll kk items x.cps.size 0 []) -> (∀ b o, b ≠ z -> b ≠ TO -> b ≠ i1 -> b ≠ i2 -> s.heap.get? b = some o -> h'.get? b = some o) -> Q (.ref d) { s with heap := h', toks := tk' }) :
  wpAny (model prog w) A (call (.type "dict") [.ref z]) Q E s := by
 refine callType_codes (Q₁ := fun obj s₁ => obj = .ref s.heap.objs.size /\ s₁ = { s with heap := s.heap.push { cls := .type "dict", data := .dict #[] } }) F.kt_called_dict (F.kt_typeCall_dict_1 _) F.entry_dict_init (kt_code_dict_new _ ⟨rfl, rfl⟩) ?_
 rintro obj s₁ ⟨rfl, rfl⟩
 have hnew : (s.heap.push { cls := .type "dict", data := .dict #[] }).DictOf knd s.heap.objs.size [] := Heap.DictOf.new s.heap
 have S1 := S.keep (h' := s.heap.push { cls := .type "dict", data := .dict #[] }) fun b o e => Heap.get?_push_of_some _ e
 refine ⟨hnew.typeIs, F.args_dict_init_2 _ _, ?_⟩
 unfold Builtin.«dict.__init__»
 refine wpAny_bind ?_
 unfold Builtin.Dict.selfAndRest
 refine wpAny_bind (wpAny_notOrdered_dict hnew.typeIs ?_)
 show wpAny _ _ (pure (s.heap.objs.size, [Value.ref z])) _ _ _
 refine wpAny_pure ?_
 show wpAny _ _ (Builtin.Dict.updateFrom "dict.__init__" s.heap.objs.size (.ref z) [] .none) _ _ _
 unfold Builtin.Dict.updateFrom
 obtain ⟨f0, f1, ez, _⟩ := S1.zip
 have hTz : (⟨s.heap.push { cls := .type "dict", data := .dict #[] }, s.gens, s.drawn, s.toks, s.os⟩ : Shared).TypeIs (.ref z) "zip" := ⟨_, ez, rfl⟩
 refine wpAny_bind (wpAny_typeOf hTz ?_)
 rw [if_pos (by decide)]
 refine wpAny_bind (no_attr_keys ez hh fun h1 tk1 k1 => ?_)
 simp only [Option.isNone_none, if_true]
 refine wpAny_bind (wpAny_rule ?_)
 have S2 := S1.keep k1
 obtain ⟨f0', f1', ez2, _⟩ := id S2.zip
 have hT2 : (⟨h1, s.gens, s.drawn, tk1, s.os⟩ : Shared).TypeIs (.ref z) "zip" := ⟨_, ez2, rfl⟩
 have lt : ∀ {b : Addr} {o : Obj}, s.heap.get? b = some o -> s.heap.objs.size ≠ b := fun e => Nat.ne_of_gt (Heap.lt_size e)
 obtain ⟨⟨g0, g1, e0, _⟩, e1, ⟨pa, pb, e2⟩, s1, s2⟩ := id S
 refine wpAny_bind ?_
 refine wpAny_pyIter_slot hT2 F.slot_zip_iter (wpAny_call_entry F.slot_zip_iter hT2 F.entry_zip_iter ?_ (F.args_zip_iter_1 _))
 show wpAny _ _ (ret (.ref z)) _ _ _
 refine wpAny_pure ⟨_, rfl, "zip", _, hT2, F.slot_zip_next.lookup, ?_⟩
 refine wpAny_pure ⟨plainId_quiet plain_loop _, ?_⟩
 have hd1 : h1.DictOf knd s.heap.objs.size [] := let ⟨o, es, ep, ho, r⟩ := hnew; ⟨o, es, ep, k1 _ o ho, r⟩
 refine upd_loop (A := A.in1) hk D hh (lt e0) (lt e2) (Nat.ne_of_gt s1.lt) (Nat.ne_of_gt s2.lt) (lt e1) (Nat.ne_of_gt s2.ltT) hsz hle x.cps.size 0 0 ⟨h1, s.gens, s.drawn, tk1, s.os⟩ [] (by omega) S2 hd1 (Nat.zero_le _) fun h2 tk2 hd2 hk2 => ?_
 refine ⟨rfl, ?_⟩
 exact h h2 _ tk2 (Nat.le_refl _) hd2 fun b o b1 b2 b3 b4 e => hk2 b o b1 b2 b3 b4 (lt e).symm (k1 b o (Heap.get?_push_of_some _ e))
end
end ZD
namespace L2.L3
open PySem PySem.Spec PyProof.Rows
section
variable {X : Cx}
theorem strsAre_of {ys : List Str} : ∀ {us : List Value}, Vals (ys.map V.str) us -> StrsAre us ys := by
 induction ys with
 | nil => intro us r; rw [List.map_nil] at r; cases r; exact .nil
 | cons y ys ih =>
  intro us r
  rw [List.map_cons] at r
  cases r with
  | cons r1 r2 =>
   obtain ⟨t, e⟩ := r1
   subst e
   exact .cons y t (ih r2)
def rJoin : V -> List V -> Hp -> VK -> Prop := fun x vs H Q => ∃ (z : Str) (p : Addr) (ys : List Str), x = .str z /\ vs = [.ref p] /\ H p = some (.lst (ys.map V.str)) /\ (ys.map (·.length)).sum + ys.length * z.length <= 16777216 /\ Q (.str (Txt.join z ys)) H
theorem mt_join : MtM X "str.join" rJoin := by
 intro pins s σ H x vs v us Q I rx rv h
 obtain ⟨z, p, ys, rfl, rfl, hp, hok, q⟩ := h
 obtain ⟨t, rfl⟩ := rx
 obtain ⟨u, rfl, ru⟩ := rv.one
 cases (show u = Value.ref p from ru)
 obtain ⟨hz, its, n, r, hl, e⟩ := I.lstM hp
 have isl : s.heap.IsList p its.toArray := ⟨_, e, rfl, n, rfl⟩
 exact join_list isl (strsAre_of r) hok fun t' k => ⟨.str _, H, I.tok k, ⟨t', rfl⟩, q⟩
def rJoinT (K : Fg) : V -> List V -> Hp -> VK -> Prop := fun x vs H Q => ∃ (z : Str) (p : Addr) (ys : List Str), x = .str z /\ vs = [.ref p] /\ SqT K H p (ys.map V.str) /\ (ys.map (·.length)).sum + ys.length * z.length <= 16777216 /\ Q (.str (Txt.join z ys)) H
theorem mt_joinT : MtM X "str.join" (rJoinT X.K) := by
 intro pins s σ H x vs v us Q I rx rv h
 obtain ⟨z, p, ys, rfl, rfl, hp, hok, q⟩ := h
 obtain ⟨t, rfl⟩ := rx
 obtain ⟨u, rfl, ru⟩ := rv.one
 cases (show u = Value.ref p from ru)
 obtain ⟨its, r, ht, hz⟩ := I.tuple hp
 exact join_tuple ht (strsAre_of r) hok fun t' k => ⟨.str _, H, I.tok k, ⟨t', rfl⟩, q⟩
def rCount : V -> List V -> Hp -> VK -> Prop := fun x vs H Q => ∃ (z y : Str), x = .str z /\ vs = [.str y] /\ Q (.int (Txt.count z y)) H
theorem mt_count : MtM X "str.count" rCount := by
 intro pins s σ H x vs v us Q I rx rv h
 obtain ⟨z, y, rfl, rfl, q⟩ := h
 obtain ⟨t, rfl⟩ := rx
 obtain ⟨u, rfl, ru⟩ := rv.one
 obtain ⟨t2, rfl⟩ := ru
 exact SC.count ⟨.int _, H, I.tok _, ⟨_, rfl⟩, q⟩
def rSum : List V -> Hp -> VK -> Prop := fun xs H Q => ∃ (p : Addr) (ns : List Int), xs = [.ref p] /\ H p = some (.lst (ns.map V.int)) /\ Q (.int ns.sum) H
theorem call_sum (hc : X.calm = true) : CallR X (.builtin "sum") rSum := by
 intro pins s σ H xs us Q I rv h
 obtain ⟨p, ns, rfl, hp, q⟩ := h
 obtain ⟨u, rfl, ru⟩ := rv.one
 cases (show u = Value.ref p from ru)
 obtain ⟨hz, its, n, r, hl, e⟩ := I.lstM hp
 have isl : s.heap.IsList p its.toArray := ⟨_, e, rfl, n, rfl⟩
 have hi := intsAre_of r
 have hn : numsOf its = ns := hi.numsOf
 obtain ⟨ys, ey⟩ := hi.allInts.items
 have en : numsOf its = numsOf (intItems ys).toList := by rw [<- ey]
 rw [ey] at isl
 refine sum_intListG (I.ok.hd hc) isl fun h' tk t' hk => ⟨.int ns.sum, H, I.kept (t' := tk) hk, ⟨t', ?_⟩, q⟩
 rw [preSum_eq, List.take_of_length_le (by simp), <- hn, en, nums_intItems]
theorem stored_new {K : Type} [DecidableEq K] {kvs : List (K × Value)} {k : K} {v : Value} (h : ∀ p ∈ kvs, p.1 ≠ k) : stored kvs k v = kvs ++ [(k, v)] := by
 unfold stored
 rw [if_neg]
 intro z
 obtain ⟨p, hp, e⟩ := List.any_eq_true.mp z
 exact h p hp (of_decide_eq_true e)
theorem storeAll_range {K : Type} [DecidableEq K] {kk : Nat -> K} {items : Array Value} : ∀ (n k : Nat), (∀ i j, i < k + n -> j < k + n -> kk i = kk j -> i = j) ->
  ZD.storeAll kk items n k ((List.range k).map fun i => (kk i, items[i]?.getD .none)) = (List.range (k + n)).map fun i => (kk i, items[i]?.getD .none)
 | 0, k, _ => rfl
 | n + 1, k, hi => by
  show ZD.storeAll kk items n (k + 1) (stored _ (kk k) (items[k]?.getD .none)) = _
  rw [stored_new]
  ·have ih := storeAll_range (kk := kk) (items := items) n (k + 1) (fun i j a b => hi i j (by omega) (by omega))
   rw [List.range_succ, List.map_append] at ih
   rw [show k + (n + 1) = k + 1 + n by omega]
   exact ih
  ·intro p hp
   obtain ⟨i, hm, rfl⟩ := List.mem_map.mp hp
   have hlt := List.mem_range.mp hm
   intro e
   have := hi i k (by omega) (by omega) e
   omega
theorem paired_map {α β γ : Type} {R : β -> γ -> Prop} {f : α -> β} {g : α -> γ} : ∀ (l : List α), (∀ a ∈ l, R (f a) (g a)) -> Paired R (l.map f) (l.map g)
 | [], _ => .nil
 | a :: l, h => .cons (h a List.mem_cons_self) (paired_map l fun b hb => h b (List.mem_cons_of_mem _ hb))
def zkey (x : Str) (i : Nat) : Key := .inr ⟨#[x.cps.getD i 0]⟩
def zipKV (x : Str) (ws : List V) : List (Key × V) := (List.range x.cps.size).map fun i => (zkey x i, ws[i]?.getD .non)
def tDZ (K : Fg) (ta : TA) : TE := fun σ H Q => ta σ H fun vs H1 => ∃ (x : Str) (t : Addr) (ws : List V), vs = [.str x, .ref t] /\ (SqT K H1 t ws \/ SqL K H1 t ws) /\ x.cps.size = ws.length /\ x.cps.size <= 1000 /\ x.cps.all (· < 128) = true /\ (∀ i j, i < x.cps.size -> j < x.cps.size -> zkey x i = zkey x j -> i = j) /\
 ∀ d, H1 d = none -> Q (.ref d) (upd H1 d (.dK (zipKV x ws)))
theorem dz_run {pins : List (Addr × Obj)} {σ : St} {H : Hp} {s : Shared} {Q : VK} {x : Str} {tk : Tok} {t : Addr} {ws : List V} (hc : X.calm = true) (I : Inv X pins σ H s) (ht : SqT X.K H t ws \/ SqL X.K H t ws) (hl : x.cps.size = ws.length) (hle : x.cps.size <= 1000) (ha : x.cps.all (· < 128) = true)
  (hinj : ∀ i j, i < x.cps.size -> j < x.cps.size -> zkey x i = zkey x j -> i = j) (q : ∀ d, H d = none -> Q (.ref d) (upd H d (.dK (zipKV x ws)))) :
  wpAny (model X.prog X.w) X.A (call (.type "zip") [.str x tk, .ref t]) (fun z s1 => wpAny (model X.prog X.w) X.A (call (.type "dict") [z]) (EP X pins σ Q) X.xe s1) X.xe s := by
 obtain ⟨its, r, it, hlt⟩ : ∃ its : List Value, Vals ws its /\ (s.heap.IsTuple t its.toArray \/ s.heap.IsList t its.toArray) /\ t < s.heap.objs.size := by
  rcases ht with ht | ht
  ·obtain ⟨its, r, it, hz⟩ := I.tuple ht
   exact ⟨its, r, .inl it, let ⟨o, e, _⟩ := it; Heap.lt_size e⟩
  ·obtain ⟨its, r, it, hz⟩ := I.list ht
   exact ⟨its, r, .inr it.isList, let ⟨o, n, e, _⟩ := it; Heap.lt_size e⟩
 have hlen : ws.length = its.length := r.length
 refine ZD.call_zip ha it fun h1 S1 sz1 k1 => ?_
 refine ZD.dict_of_zip (s := { s with heap := h1 }) (knd := mixKind X.prog X.w) (kk := zkey x) (fun i c u hx => ?_) (ZD.apart_new hlt) (I.ok.hd hc) (by rw [hl, hlen, List.size_toArray]) hle S1 fun h2 d tk2 hd hdict k2 => ?_
 ·show keyIs (.inr ⟨#[x.cps.getD i 0]⟩) (.str ⟨#[c]⟩ u) = true
  have e : x.cps.getD i 0 = c := by
   rw [Array.getD_eq_getD_getElem?, hx]
   rfl
  rw [e]
  exact keyIs_str _ _
 ·have hd' : s.heap.objs.size <= d := by
   have : h1.objs.size <= d := hd
   omega
  have kept : ∀ b o, s.heap.get? b = some o -> h2.get? b = some o := fun b o e => by
   have lb : b < s.heap.objs.size := Heap.lt_size e
   exact k2 b o (Nat.ne_of_lt (Nat.lt_add_right _ lb)) (Nat.ne_of_lt (Nat.lt_add_right _ lb)) (Nat.ne_of_lt lb) (Nat.ne_of_lt (Nat.lt_add_right _ lb)) (k1 b o e)
  have e0 := storeAll_range (kk := zkey x) (items := its.toArray) x.cps.size 0 (fun i j a b => hinj i j (by omega) (by omega))
  have e1 : ZD.storeAll (zkey x) its.toArray x.cps.size 0 [] = (List.range x.cps.size).map fun i => (zkey x i, its.toArray[i]?.getD .none) := by
   rw [show 0 + x.cps.size = x.cps.size by omega] at e0
   exact e0
  rw [e1] at hdict
  have hrel : KV (zipKV x ws) ((List.range x.cps.size).map fun i => (zkey x i, its.toArray[i]?.getD .none)) := by
   refine paired_map _ fun i hi => ⟨rfl, ?_⟩
   have hi' := List.mem_range.mp hi
   have hw : ws[i]? = some (ws[i]'(by omega)) := List.getElem?_eq_getElem (by omega)
   obtain ⟨u, hu, ru⟩ := r.get hw
   have hu' : its.toArray[i]? = some u := by simpa using hu
   show RelV (ws[i]?.getD .non) (its.toArray[i]?.getD .none)
   rw [hw, hu']
   exact ru
  refine ⟨.ref d, upd H d (.dK (zipKV x ws)), ?_, rfl, q d (I.hok.fresh hd')⟩
  refine I.laid (t' := tk2) kept hd' ⟨?_, beq_eq_false_iff_ne.mpr (Ne.symm (Nat.ne_of_lt (Nat.lt_of_lt_of_le (big_dict I) hd'))), _, hrel, hdict⟩
  show (zipKV x ws).length <= sizeLine
  unfold zipKV
  rw [List.length_map, List.length_range]
  exact Nat.le_of_lt (small1000 hle)
theorem pe_dictzip {a b : Expr} {ta : TA} {p1 p2 pos1 pos2 : Pos} (hc : X.calm = true) (hgd : Gl X "dict") (hmd : X.mg "dict" = none) (hgz : Gl X "zip") (hmz : X.mg "zip" = none) (ha : PA X [a, b] ta)
  (hs : starEach [a, b] X.env = (false, eval a X.env) :: starEach [b] X.env := by rfl) (hpl : (backTo pos2 (starEach [b] X.env)).any (·.1) = false := by rfl)
  (hs1 : starEach [.Call (.Name "zip" p2) [a, b] [] pos2] X.env = (false, eval (.Call (.Name "zip" p2) [a, b] [] pos2) X.env) :: starEach [] X.env := by rfl) (hpl1 : (backTo pos1 (starEach [] X.env)).any (·.1) = false := by rfl) :
  PE X (.Call (.Name "dict" p1) [.Call (.Name "zip" p2) [a, b] [] pos2] [] pos1) (tDZ X.K ta) := by
 intro pins s σ H Q I h
 refine wpAny_Call_Name_kw (ld_blt I hgd hmd PyProof.Rows.Boot.dict ?_ (by decide) (by decide))
 refine PyProof.Rows.callWith_type1 ?_ hs1 hpl1
 rw [hs1]
 show wpAny _ _ (spliced ((false, eval (.Call (.Name "zip" p2) [a, b] [] pos2) X.env) :: backTo pos1 (starEach [] X.env))) _ _ s
 refine Calls.spliced_cons ?_
 refine thn (Q := fun z s1 => wpAny (model X.prog X.w) X.A (call (.type "dict") [z]) (EP X pins σ Q) X.xe s1) ?_ fun z s1 hz => Calls.spliced_nil hz
 refine wpAny_Call_Name_kw (ld_blt I hgz hmz PyProof.Rows.Boot.zip ?_ (by decide) (by decide))
 refine PyProof.Rows.callWith_type1 (thn (ha pos2 pins s σ H _ I h) fun us s1 ⟨vs, H1, I1, r1, q1⟩ => ?_) hs hpl
 obtain ⟨x, t, ws, rfl, ht, hl, hle, hasc, hinj, q⟩ := q1
 obtain ⟨u, v, rfl, ru, rv⟩ := r1.two
 obtain ⟨tk, rfl⟩ := ru
 cases (show v = Value.ref t from rv)
 exact dz_run hc I1 ht hl hle hasc hinj q
theorem val_range {n : Nat} {key : Nat -> Key} {f : Nat -> V} {j : Nat} (hinj : ∀ i j, i < n -> j < n -> key i = key j -> i = j) (hj : j < n) : valV ((List.range n).map fun i => (key i, f i)) (key j) = some (f j) := by
 unfold valV
 rw [List.find?_map]
 have e : (List.range n).find? ((fun kv : Key × V => decide (kv.1 = key j)) ∘ fun i => (key i, f i)) = some j := by
  cases q : (List.range n).find? ((fun kv : Key × V => decide (kv.1 = key j)) ∘ fun i => (key i, f i)) with
  | none =>
   have z := List.find?_eq_none.mp q j (List.mem_range.mpr hj)
   simp at z
  | some i =>
   have z1 := List.mem_range.mp (List.mem_of_find?_eq_some q)
   have z2 := List.find?_some q
   have z3 : key i = key j := of_decide_eq_true z2
   rw [hinj i j z1 hj z3]
 rw [e]
 rfl
end
end L2.L3
namespace L2.L3
open PySem PySem.Spec PyProof.Rows
section
variable {X : Cx} {pins : List (Addr × Obj)} {σ : St} {H : Hp} {s : Shared}
theorem Inv.but {C : Addr} {h' : Heap} (I : Inv X pins σ H s) (hs : Heap.SameBut C s.heap h') (hC : X.s₀.heap.objs.size <= C) (hL : X.env.locals ≠ C) (hcl : ∀ x c, X.env.cells.lookup x = some c -> c ≠ C) (hp : ∀ p ∈ X.pn ++ pins, p.1 ≠ C) (hn : H C = none) :
  Inv X pins σ H { s with heap := h' } := by
 have kp : ∀ b o, b ≠ C -> s.heap.get? b = some o -> h'.get? b = some o := fun b o hb e => (hs.2 b hb).trans e
 obtain ⟨m, hm, hl⟩ := I.loc
 have cells : ∀ c v, c ≠ C -> s.heap.IsCell c v -> h'.IsCell c v := fun c v hc ⟨o, e, d⟩ => ⟨o, kp _ _ hc e, d⟩
 refine ⟨I.ok, I.os, I.bare, Un.but I.base hs hC, ⟨m, hm.sameBut hs hL, fun i x v e1 e2 e3 => ?_⟩, fun x c e => ?_, I.free, I.freeC, fun p hpp => ⟨kp _ _ (hp p hpp) (I.pin p hpp).1, (I.pin p hpp).2⟩, HOk.but I.hok hs hn, I.len⟩
 ·obtain ⟨u, r, l⟩ := hl i x v e1 e2 e3
  refine ⟨u, r, ?_⟩
  rcases l with l | ⟨hk, c, hc, hcell⟩
  ·exact .inl l
  ·exact .inr ⟨hk, c, hc, cells c _ (hcl x c hc) hcell⟩
 ·obtain ⟨v, hv⟩ := I.cell x c e
  exact ⟨v, cells c v (hcl x c e) hv⟩
theorem compLoop_ifs {prog : Program} {w : World} {A : Around} {R : Result -> Shared -> Prop} {s : Shared} {elt target iter : Expr} {ifs : List Expr} {scope : Scope} {pos : Pos} {it acc : Value} {env : Env} (Iv : Nat -> Shared -> Prop)
  (turn : ∀ n s, Iv n s -> wpAny (model prog w) A (pyNext it) (fun r s1 => match r with
   | none => R (.ok .next) s1
   | some v => wpAny (model prog w) A (letOwnedTupleGo target it v) (fun _ s1' => wpAny (model prog w) A (assign target env v) (fun _ s2 =>
     wpAny (model prog w) A (forIn ifs true fun c r => if r = true then do let ok <- isTrue c env (eval c env); pure (ForInStep.yield ok) else pure (ForInStep.yield r)) (fun ok s3 =>
      if ok = true then wpAny (model prog w) A (eval elt env) (fun x s4 => wpAny (model prog w) A (call (.builtin "list.append") [acc, x]) (fun _ s5 => ∃ m, m < n /\ Iv m s5) (notedBy (model prog w) A env fun e s' => R (.error e) s') s4) (notedBy (model prog w) A env fun e s' => R (.error e) s') s3
      else ∃ m, m < n /\ Iv m s3) (notedBy (model prog w) A env fun e s' => R (.error e) s') s2)
     (notedBy (model prog w) A env fun e s' => R (.error e) s') s1') (notedBy (model prog w) A env fun e s' => R (.error e) s') s1) (notedBy (model prog w) A env fun e s' => R (.error e) s') s)
  (n : Nat) (h : Iv n s) : codeAny (model prog w) A (.compLoop (.ListComp elt [⟨target, iter, ifs, 0⟩] scope pos) 0 it acc env) R s := by
 refine codeAny_loop rfl Iv (fun n s hI => ?_) n h
 show wpAny _ _ ((compTurn (.ListComp elt [⟨target, iter, ifs, 0⟩] scope pos) 0 it acc env).onRaise (fun x => do noteFrame x env; theTreesLotGoes x)) _ _ s
 refine wpAny_noted ?_
 rw [compTurn_list]
 refine wpAny_bind (wpAny_standAt (wpAny_bind (wpAny_mono (turn n s hI) (fun r s1 h1 => ?_) fun _ _ h' => h')))
 cases r with
 | none => exact wpAny_pure h1
 | some v =>
  refine wpAny_bind (wpAny_mono h1 (fun _ s1' h1' => wpAny_bind (wpAny_mono h1' (fun _ s2 h2 => wpAny_bind (wpAny_mono h2 (fun ok s3 h3 => ?_) fun _ _ h' => h')) fun _ _ h' => h')) fun _ _ h' => h')
  cases ok with
  | true =>
   rw [if_pos rfl] at h3 ⊢
   exact wpAny_bind (wpAny_bind (wpAny_mono h3 (fun x s4 h4 => wpAny_bind (wpAny_mono h4 (fun _ s5 h5 => wpAny_pure (wpAny_pure ⟨rfl, h5⟩)) fun _ _ h' => h')) fun _ _ h' => h'))
  | false =>
   rw [if_neg Bool.false_ne_true] at h3 ⊢
   first
    | exact wpAny_pure ⟨rfl, h3⟩
    | exact wpAny_bind (wpAny_pure (wpAny_pure ⟨rfl, h3⟩))
inductive Tests (X : Cx) : List Expr -> TT -> Prop
 | nil : Tests X [] (fun _ H Q => Q true H)
 | one {c : Expr} {t : TT} (h : PT X c t) : Tests X [c] t
theorem Tests.run {ifs : List Expr} {t : TT} (T : Tests X ifs t) {QB : Bool -> Hp -> Prop} (I : Inv X pins σ H s) (h : t σ H QB) :
  wpAny (model X.prog X.w) X.A (forIn ifs true fun c r => if r = true then do let ok <- isTrue c X.env (eval c X.env); pure (ForInStep.yield ok) else pure (ForInStep.yield r)) (TP X pins σ QB) X.xe s := by
 cases T with
 | nil => exact wpAny_tests_nil ⟨H, I, h⟩
 | one hc => exact wpAny_tests_one (hc pins s σ H QB I h)
def CompBodyI (J : It) (g : TG) (tc : TT) (te : TE) (n : Nat) (is : List Nat) (σ : St) (D : Addr) (H1 : Hp) (Q : VK) : Prop := ∃ W : Nat -> Nat -> St -> Hp -> Prop, (∃ m, W 0 m (capS n is σ) (upd H1 D (.lst []))) /\
 ∀ i m σ' H, W i m σ' H -> (J.stop i H /\ Q (.ref D) H) \/ (J.go i H /\ ∀ x H', J.yld i H x H' -> g x σ' H' fun σ2 H2 => tc σ2 H2 fun b H3 =>
  (b = true -> te σ2 H3 fun y H4 => ∃ xs, H4 D = some (.lst xs) /\ xs.length < sizeLine /\ ∃ m', m' < m /\ W (i + 1) m' σ2 (upd H4 D (.lst (xs ++ [y])))) /\ (b = false -> ∃ m', m' < m /\ W (i + 1) m' σ2 H3))
def tCompI (wi : TI) (g : TG) (tc : TT) (te : TE) (n : Nat) (is : List Nat) : TE := fun σ H Q => wi σ H fun J H1 => ∀ D, H1 D = none -> CompBodyI J g tc te n is σ D H1 Q
theorem comp_core {elt target iter : Expr} {ifs : List Expr} {sc : Scope} {pos pos2 : Pos} {own caps : List Str} {is : List Nat} {wi : TI} {g : TG} {tc : TT} {te : TE} {Q : VK} {QQ : Value -> Shared -> Prop} (use : Option (Value -> Sem Unit)) (hc : X.calm = true) (hi : PI X target iter wi)
  (hg : ∀ C s₀ H₀ ex, PG (blk X (own ++ caps) sc C s₀ H₀ ex) target g) (ht : ∀ C s₀ H₀ ex, Tests (blk X (own ++ caps) sc C s₀ H₀ ex) ifs tc) (he : ∀ C s₀ H₀ ex, PE (blk X (own ++ caps) sc C s₀ H₀ ex) elt te) (hcap : Cap X sc caps is)
  (hkind : sc.kind = .function) (hown : ∀ y ∈ sc.names, y.2 = .cell -> sc.names.lookup y.1 = some .cell) (hfr : (sc.names.all fun y => y.2 != .free || X.env.kindOf y.1 == some .cell) = true)
  (hclos : closureFor sc X.env = pure (clOf sc.names X.env)) (hnames : ∀ y ∈ sc.names, y.2 = .local -> sc.names.lookup y.1 = some .local)
  (hs : ∀ x, foldedSetIterable iter X.env x = pure x) (I : Inv X pins σ H s) (h : tCompI wi g tc te own.length is σ H Q)
  (fin : ∀ (D C : Addr) (H' : Hp) (s' : Shared) (m : Str -> Option Value), Inv X pins σ H' s' -> s'.heap.Ns C m -> H' C = none -> X.s₀.heap.objs.size <= C -> X.env.locals ≠ C -> (∀ x c, X.env.cells.lookup x = some c -> c ≠ C) -> (∀ p ∈ X.pn ++ pins, p.1 ≠ C) -> Q (.ref D) H' ->
   compPost (model X.prog X.w) X.A X.xe use QQ (.ref D) C (.ok .next) s') :
  wpAny (model X.prog X.w) X.A (comprehension (.ListComp elt [⟨target, iter, ifs, 0⟩] sc pos) sc X.env pos2 (newList []) false (eval iter X.env) use) QQ X.xe s := by
 refine wpAny_comprehension_free (use := use) rfl hs hclos hkind hnames ?_
 refine thn (hi pins s σ H _ I h) fun v s1 h1 => thn h1 fun itv s2 h2 => ?_
 obtain ⟨it, fp, tn, J, H2, e, I2, T, st2, f2, q2⟩ := h2
 subst e
 have ob2 : ∀ b ∈ fp, ∃ o, s2.heap.get? b = some o := fun b hb => let ⟨o, e, _⟩ := T.obj _ _ st2 b hb; ⟨o, e⟩
 refine wpAny_newObj_type (wpAny_blkEnv ?_)
 have hns₁ : (pushCells ((s2.heap.push { cls := .type "list", data := .seq ([] : List Value).toArray }).push { cls := .type "dict", data := .dict #[] }) sc.names).Ns (s2.heap.push { cls := .type "list", data := .seq ([] : List Value).toArray }).objs.size (fun _ => none) := (Heap.Ns.new _ (.type "dict")).keeps (pushCells_keeps _ _)
 have oc₁ := own_ok (s2.heap.push { cls := .type "list", data := .seq ([] : List Value).toArray }) { cls := .type "dict", data := .dict #[] } sc
 have hk₁ : ∀ b o, (s2.heap.push { cls := .type "list", data := .seq ([] : List Value).toArray }).get? b = some o -> (pushCells ((s2.heap.push { cls := .type "list", data := .seq ([] : List Value).toArray }).push { cls := .type "dict", data := .dict #[] }) sc.names).get? b = some o := fun b o e => pushCells_keeps _ _ b o (Heap.get?_push_of_some _ e)
 generalize hh₁ : pushCells ((s2.heap.push { cls := .type "list", data := .seq ([] : List Value).toArray }).push { cls := .type "dict", data := .dict #[] }) sc.names = h₁ at hns₁ oc₁ hk₁
 have I3 := I2.lnew (its := []) (ys := []) (t' := s2.toks) .nil (Nat.zero_le _)
 have hD : H2 s2.heap.objs.size = none := I2.hok.fresh (Nat.le_refl _)
 obtain ⟨W, ⟨m0, w0⟩, turn⟩ := q2 s2.heap.objs.size hD
 have f3 : ∀ b ∈ fp, FpOk X pins (upd H2 s2.heap.objs.size (.lst [])) b := fun b hb => by
  obtain ⟨o, e⟩ := ob2 b hb
  exact ⟨by rw [upd_ne (Nat.ne_of_lt (Heap.lt_size e))]; exact (f2 b hb).1, (f2 b hb).2⟩
 have hk3 := hk₁
 have ob3 : ∀ b ∈ fp, ∃ o, (s2.heap.push { cls := .type "list", data := .seq ([] : List Value).toArray }).get? b = some o := fun b hb => by
  obtain ⟨o, e⟩ := ob2 b hb
  exact ⟨o, Heap.get?_push_of_some _ e⟩
 have I4 := blk_start (own := own) I3 hkind hown hfr hcap f3 ob3 (tk := s2.toks) hns₁ hk3 oc₁
 have st4 : tn 0 h₁ := T.keep 0 s2.heap h₁ st2 fun b hb o e => hk3 b o (Heap.get?_push_of_some _ e)
 have stat : ∀ {H' : Hp}, (∀ b ∈ fp, H' b = none) -> ∀ b ∈ fp, FpOk (blk X (own ++ caps) sc (s2.heap.push { cls := .type "list", data := .seq ([] : List Value).toArray }).objs.size { s2 with heap := s2.heap.push { cls := .type "list", data := .seq ([] : List Value).toArray } } (upd H2 s2.heap.objs.size (.lst [])) fp) [] H' b := fun {H'} hn b hb => by
  obtain ⟨o, e⟩ := ob3 b hb
  refine ⟨hn b hb, Nat.ne_of_lt (Heap.lt_size e), I4.ok.exfs b hb, .inl hb, (I4.ok.exf b hb).2, fun p hp => absurd (show p ∈ ([] : List (Addr × Obj)) from hp) (by simp)⟩
 have loop : ∀ s4 : Shared, s4 = { s2 with heap := h₁ } ->
   codeAny (model X.prog X.w) X.A (.compLoop (.ListComp elt [⟨target, iter, ifs, 0⟩] sc pos) 0 (.ref it) (.ref s2.heap.objs.size) (compEnvC sc (blkCl sc (s2.heap.push { cls := .type "list", data := .seq ([] : List Value).toArray }).objs.size X.env) (s2.heap.push { cls := .type "list", data := .seq ([] : List Value).toArray }).objs.size X.env))
    (compPost (model X.prog X.w) X.A X.xe use QQ (.ref s2.heap.objs.size) (s2.heap.push { cls := .type "list", data := .seq ([] : List Value).toArray }).objs.size) s4 := by
  rintro s4 rfl
  refine compLoop_ifs (fun n s' => ∃ i σ' H', Inv (blk X (own ++ caps) sc (s2.heap.push { cls := .type "list", data := .seq ([] : List Value).toArray }).objs.size { s2 with heap := s2.heap.push { cls := .type "list", data := .seq ([] : List Value).toArray } } (upd H2 s2.heap.objs.size (.lst [])) fp) [] σ' H' s' /\ tn i s'.heap /\ (∀ b ∈ fp, H' b = none) /\ W i n σ' H') ?_ m0
   ⟨0, _, _, I4, st4, fun b hb => (f3 b hb).1, w0⟩
  rintro n s5 ⟨i, σ5, H5, I5, st5, fr5, w5⟩
  rcases turn i n σ5 H5 w5 with ⟨stop, qn⟩ | ⟨go, step⟩
  ·refine wpAny_mono (T.done (blk X (own ++ caps) sc _ _ _ fp) rfl rfl rfl hc i [] s5 σ5 H5 (fun _ _ => False) I5 (stat fr5) st5 stop) (fun r s6 ⟨hr, I6⟩ => ?_) fun _ _ z => z.elim
   subst hr
   obtain ⟨m, hn, _⟩ := I6.loc
   have IX : Inv X pins σ H5 s6 := I3.call' (s' := s6) I6.os I6.base I6.hok I6.bare (ch := fp) fun b hb => by
    obtain ⟨_, n1, _, n3, n4, n5⟩ := f3 b hb
    exact ⟨n3, n1, n4, n5⟩
   have lt3 : ∀ {b : Addr} {o : Obj}, (s2.heap.push { cls := .type "list", data := .seq ([] : List Value).toArray }).get? b = some o -> b ≠ (s2.heap.push { cls := .type "list", data := .seq ([] : List Value).toArray }).objs.size := fun e => Nat.ne_of_lt (Heap.lt_size e)
   refine fin _ _ H5 s6 m IX hn I6.free I3.sz (Nat.ne_of_lt I3.lt) (fun x c e => ?_) (fun p hp => lt3 (I3.pin p hp).1) qn
   obtain ⟨v, o, e', _⟩ := I3.cell x c e
   exact lt3 e'
  ·refine wpAny_mono (T.item (blk X (own ++ caps) sc _ _ _ fp) rfl rfl rfl hc i [] s5 σ5 H5 (fun _ _ => False) I5 (stat fr5) st5 go) (fun r s6 ⟨u, hr, h6⟩ => ?_) fun _ _ z => z.elim
   subst hr
   refine wpAny_mono h6 (fun _ s7 ⟨x, H7, I7, r7, y7, st7, fr7⟩ => ?_) fun _ _ z => z.elim
   have I7' := I7.pinned (stat fr7) (T.obj _ _ st7)
   refine wpAny_mono (hg _ _ _ _ _ s7 σ5 H7 x u _ I7' r7 (step x H7 y7)) (fun _ s8 ⟨σ8, H8, I8, q8⟩ => ?_) fun _ _ z => z.elim
   refine wpAny_mono ((ht _ _ _ _).run I8 q8) (fun b s8' ⟨H8', I8', q8'⟩ => ?_) fun _ _ z => z.elim
   have back : ∀ {σ9 : St} {H9 : Hp} {s9 : Shared}, Inv (blk X (own ++ caps) sc (s2.heap.push { cls := .type "list", data := .seq ([] : List Value).toArray }).objs.size { s2 with heap := s2.heap.push { cls := .type "list", data := .seq ([] : List Value).toArray } } (upd H2 s2.heap.objs.size (.lst [])) fp) ([] ++ pinsAt fp s7.heap) σ9 H9 s9 -> tn (i + 1) s9.heap /\ ∀ b ∈ fp, H9 b = none := fun {σ9 H9 s9} I9 =>
    ⟨T.keep _ _ _ st7 fun b hb o e => (I9.pin (b, o) (List.mem_append_right _ (List.mem_append_right _ (mem_pinsAt hb e)))).1, fun b hb => by
     obtain ⟨o, e, d⟩ := T.obj _ _ st7 b hb
     exact (I9.pin (b, o) (List.mem_append_right _ (List.mem_append_right _ (mem_pinsAt hb e)))).2.1⟩
   cases b with
   | false =>
    rw [if_neg Bool.false_ne_true]
    obtain ⟨m', hm, w9⟩ := q8'.2 rfl
    exact ⟨m', hm, i + 1, σ8, _, I8'.unpinned, (back I8').1, (back I8').2, w9⟩
   | true =>
    rw [if_pos rfl]
    refine wpAny_mono (he _ _ _ _ _ s8' σ8 H8' _ I8' (q8'.1 rfl)) (fun yv s9 ⟨y, H9, I9, r9, xs, hx, hz, m', hm, w9⟩ => ?_) fun _ _ z => z.elim
    refine wpAny_mono (mt_append (X := blk X (own ++ caps) sc _ _ _ fp) _ s9 σ8 H9 (.ref s2.heap.objs.size) [y] (.ref s2.heap.objs.size) [yv] (fun v Hn => v = .non /\ Hn = upd H9 s2.heap.objs.size (.lst (xs ++ [y]))) I9 rfl (.cons r9 .nil) ⟨_, xs, y, rfl, rfl, hx, hz, rfl, rfl⟩)
     (fun v s10 ⟨v10, H10, I10, r10, q10⟩ => ?_) fun _ _ z => z.elim
    obtain ⟨_, rfl⟩ := q10
    exact ⟨m', hm, i + 1, σ8, _, I10.unpinned, (back I10).1, (back I10).2, w9⟩
 exact codeAny_compStart_list (loop _ rfl) (T.self _ 0 _ _ _ st4 (loop _ rfl))
end
end L2.L3
namespace L2.Na
open PySem PySem.Spec PyProof.Rows L2 L2.L3
theorem Inv.turnedN {X : Cx} {pins : List (Addr × Obj)} {σ : St} {H : Hp} {s : Shared} {h' : Heap} {t' : Nat} {fp : List Addr} (I : Inv X pins σ H s) (k : ∀ b o, b ∉ fp -> s.heap.get? b = some o -> h'.get? b = some o) (hf : ∀ b ∈ fp, FpOk X pins H b) : Inv X pins σ H { s with heap := h', toks := t' } := by
 have nit : ∀ b u, H b = some u -> b ∉ fp := fun b u e z => by rw [(hf b z).1] at e; cases e
 refine I.step (g' := s.gens) (d' := s.drawn) (ch := fp) (fun b hb => ?_) (fun b o _ _ hc e _ => k b o hc e) (fun b o _ _ hc e _ => ⟨o.slots, k b o hc e⟩) (fun _ _ _ _ n => n)
  (fun b o hc e => ⟨o, k b o hc e⟩) (fun _ _ e => e) (fun _ _ _ e => e) (fun b ps e => ⟨#[], by rw [e]; simp⟩) (fun m hm => ?_) (fun b u e => ?_) I.bare
 ·obtain ⟨_, hL, _, h1, h2, h3⟩ := hf b hb
  exact ⟨h1, hL, h2, h3⟩
 ·obtain ⟨o, es, ep, ho, r⟩ := hm
  exact ⟨o, es, ep, k _ o (fun z => (hf _ z).2.1 rfl) ho, r⟩
 ·refine (I.hok b u e).stay (fun c v hc q => k c v ?_ q) (fun _ q => q) fun _ _ q => q
  rcases hc with z | z
  ·rw [z]; exact nit b u e
  ·exact nit c _ z
def Itz (K : Fg) (a b : Addr) : It :=
 ⟨fun i H => ∃ xs ys x y, SqL K H a xs /\ SqL K H b ys /\ xs[i]? = some x /\ ys[i]? = some y,
  fun i H v H' => ∃ p x y, H p = none /\ v = .ref p /\ H' = upd H p (.tup [x, y]) /\ (∀ xs, SqL K H a xs -> xs[i]? = some x) /\ ∀ ys, SqL K H b ys -> ys[i]? = some y,
  fun i H => ∃ xs ys, SqL K H a xs /\ SqL K H b ys /\ (xs.length <= i \/ ys.length <= i)⟩
structure ZApart (z TI TO i1 i2 : Addr) : Prop where
 TIz : TI ≠ z
 TOz : TO ≠ z
 i1z : i1 ≠ z
 i2z : i2 ≠ z
 TITO : TI ≠ TO
 TIi1 : TI ≠ i1
 TIi2 : TI ≠ i2
 TOi1 : TO ≠ i1
 TOi2 : TO ≠ i2
 i12 : i1 ≠ i2
theorem cls_ne {h : Heap} {a b : Addr} {o u : Obj} {m n : String} (e1 : h.get? a = some o) (e2 : h.get? b = some u) (c1 : o.cls = .type m) (c2 : u.cls = .type n) (hn : m ≠ n) : a ≠ b := fun z => by
 subst z
 rw [e1] at e2
 cases e2
 rw [c1] at c2
 exact hn (by simpa using c2)
def ZTn (z TI TO i1 i2 a b : Addr) (i : Nat) (h : Heap) : Prop := IsZip h z TI TO .none /\ IsPair h TI (.ref i1) (.ref i2) /\ (∃ u v, IsPair h TO u v) /\ h.IsListIter i1 a i /\ h.IsListIter i2 b i
theorem ZTn.apart {z TI TO i1 i2 a b : Addr} {i : Nat} {h : Heap} {xs ys : Array Value} (Z : ZApart z TI TO i1 i2) (t : ZTn z TI TO i1 i2 a b i h) (h1 : h.IsList a xs) (h2 : h.IsList b ys) : ZipApart z TI TO i1 i2 a b := by
 obtain ⟨hz, _, ⟨u, v, hTO⟩, ⟨o1, e1, c1, _⟩, ⟨o2, e2, c2, _⟩⟩ := t
 obtain ⟨oa, ea, ca, _⟩ := h1
 obtain ⟨ob, eb, cb, _⟩ := h2
 exact ⟨Z.TIz, Z.TOz, Z.i1z, Z.i2z, Z.TITO, Z.TIi1, Z.TIi2, Z.TOi1, Z.TOi2, Z.i12,
  cls_ne ea hz ca rfl (by decide), cls_ne ea hTO ca rfl (by decide), cls_ne ea e1 ca c1 (by decide), cls_ne ea e2 ca c2 (by decide),
  cls_ne eb hz cb rfl (by decide), cls_ne eb hTO cb rfl (by decide), cls_ne eb e1 cb c1 (by decide), cls_ne eb e2 cb c2 (by decide)⟩
theorem turn_zip {P : Program} {w : World} {K : Fg} {elts : List Expr} {k : Nat} {pos : Pos} (a b z TI TO i1 i2 : Addr) (Z : ZApart z TI TO i1 i2) : Turn P w K (.Tuple elts k pos) (Itz K a b) [z, TI, TO, i1, i2] z (ZTn z TI TO i1 i2 a b) where
 mem := by simp
 obj := fun i h st c hc => by
  obtain ⟨hz, hTI, ⟨u, v, hTO⟩, ⟨o1, e1, c1, d1⟩, ⟨o2, e2, c2, d2⟩⟩ := st
  simp only [List.mem_cons, List.not_mem_nil, or_false] at hc
  rcases hc with rfl | rfl | rfl | rfl | rfl
  ·exact ⟨_, hz, fun _ q => by have q' : Data.fields _ = Data.cell _ := q; cases q'⟩
  ·exact ⟨_, hTI, fun _ q => by have q' : Data.seq _ = Data.cell _ := q; cases q'⟩
  ·exact ⟨_, hTO, fun _ q => by have q' : Data.seq _ = Data.cell _ := q; cases q'⟩
  ·exact ⟨_, e1, fun _ q => by rw [d1] at q; cases q⟩
  ·exact ⟨_, e2, fun _ q => by rw [d2] at q; cases q⟩
 keep := fun i h h' st kp => by
  obtain ⟨hz, hTI, ⟨u, v, hTO⟩, l1, l2⟩ := st
  exact ⟨kp z (by simp) _ hz, kp TI (by simp) _ hTI, ⟨u, v, kp TO (by simp) _ hTO⟩, l1.at fun o e => kp i1 (by simp) o e, l2.at fun o e => kp i2 (by simp) o e⟩
 item := by
  intro X hP hw hK hc i pins s σ H E I hf st hg
  subst hP hw hK
  obtain ⟨xs, ys, x, y, hqa, hqb, hx, hy⟩ := hg
  obtain ⟨ia, ra, pa, _⟩ := I.list hqa
  obtain ⟨ib, rb, pb, _⟩ := I.list hqb
  obtain ⟨u, hu, ru⟩ := ra.get hx
  obtain ⟨v, hv, rv⟩ := rb.get hy
  have D := ZTn.apart Z st pa.isList pb.isList
  obtain ⟨hz, hTI, ⟨u0, v0, hTO⟩, l1, l2⟩ := st
  refine wpAny_pyNext_zip_item D hz hTI hTO l1 l2 pa.isList pb.isList (x := u) (y := v) (by simpa using hu) (by simpa using hv) fun h' a1 a2 a3 a4 a5 a6 hk => ?_
  refine ⟨_, rfl, ?_⟩
  refine wpAny_letOwnedTupleGo_zip (s := { s with heap := h' }) a1 fun h2 z2 sb => ?_
  have fr : H s.heap.objs.size = none := I.hok.fresh (Nat.le_refl _)
  have zlt : z < s.heap.objs.size := Heap.lt_size hz
  have k2 : ∀ c o, c ∉ [z, TI, TO, i1, i2] -> s.heap.get? c = some o -> h2.get? c = some o := fun c o hc' e => by
   simp only [List.mem_cons, List.not_mem_nil, or_false, not_or] at hc'
   exact sb.extBut _ _ hc'.1 (hk c o hc'.1 hc'.2.2.1 hc'.2.2.2.1 hc'.2.2.2.2 e)
  have T2 : IsPair h2 s.heap.objs.size u v := sb.extBut _ _ (Nat.ne_of_gt zlt) a5
  have ne : ∀ c ∈ [z, TI, TO, i1, i2], c ≠ s.heap.objs.size := fun c hc' => by
   obtain ⟨o, e⟩ : ∃ o, s.heap.get? c = some o := by
    simp only [List.mem_cons, List.not_mem_nil, or_false] at hc'
    obtain ⟨o1, e1, _⟩ := l1
    obtain ⟨o2, e2, _⟩ := l2
    rcases hc' with rfl | rfl | rfl | rfl | rfl
    ·exact ⟨_, hz⟩
    ·exact ⟨_, hTI⟩
    ·exact ⟨_, hTO⟩
    ·exact ⟨_, e1⟩
    ·exact ⟨_, e2⟩
   exact Nat.ne_of_lt (Heap.lt_size e)
  have I0 : Inv X pins σ (upd H s.heap.objs.size (.tup [x, y])) { s with heap := s.heap.push { cls := .type "tuple", data := .seq #[u, v] } } :=
   I.laid (t' := s.toks) (fun c o e => Heap.get?_push_of_some _ e) (Nat.le_refl _) (show ObjOk X.prog X.w _ _ _ (.tup [x, y]) from ⟨by show 2 <= sizeLine; decide, [u, v], .cons ru (.cons rv .nil), IsTup.new _ _⟩)
  have hf' : ∀ c ∈ [z, TI, TO, i1, i2], FpOk X pins (upd H s.heap.objs.size (.tup [x, y])) c := fun c hc' => ⟨by rw [upd_ne (ne c hc')]; exact (hf c hc').1, (hf c hc').2⟩
  have I1 : Inv X pins σ (upd H s.heap.objs.size (.tup [x, y])) { s with heap := h2 } := Inv.turnedN (s := { s with heap := s.heap.push { cls := .type "tuple", data := .seq #[u, v] } }) (t' := s.toks) I0 (fun c o hc' e => by
   rcases Heap.get?_push_cases e with ⟨hcs, ho⟩ | e
   ·subst hcs ho
    exact T2
   ·exact k2 c o hc' e) hf'
  exact ⟨.ref s.heap.objs.size, _, I1, rfl, ⟨_, x, y, fr, rfl, rfl, fun xs' h' => by rw [I.list_inj h' hqa]; exact hx, fun ys' h' => by rw [I.list_inj h' hqb]; exact hy⟩,
   ⟨z2, sb.extBut _ _ Z.TIz (hk _ _ Z.TIz Z.TITO Z.TIi1 Z.TIi2 hTI), ⟨_, _, sb.extBut _ _ Z.TOz a2⟩, a3.at fun o e => sb.extBut _ _ Z.i1z e, a4.at fun o e => sb.extBut _ _ Z.i2z e⟩, fun c hc' => (hf' c hc').1⟩
 done := by
  intro X hP hw hK hc i pins s σ H E I hf st hg
  subst hP hw hK
  obtain ⟨xs, ys, hqa, hqb, hx⟩ := hg
  obtain ⟨ia, ra, pa, _⟩ := I.list hqa
  obtain ⟨ib, rb, pb, _⟩ := I.list hqb
  have D := ZTn.apart Z st pa.isList pb.isList
  obtain ⟨hz, hTI, ⟨u0, v0, hTO⟩, l1, l2⟩ := st
  have n1 := ra.length
  have n2 := rb.length
  refine wpAny_pyNext_zip_end (I.ok.hd hc) D hz hTI hTO l1 l2 pa.isList pb.isList (by rcases hx with hx | hx; exact .inl (by simp; omega); exact .inr (by simp; omega)) fun h' hk => ⟨rfl, Inv.turnedN (t' := s.toks) I (fun c o hc' e => ?_) hf⟩
  simp only [List.mem_cons, List.not_mem_nil, or_false, not_or] at hc'
  exact hk c o hc'.1 hc'.2.2.1 hc'.2.2.2.1 hc'.2.2.2.2 e
 self := fun _ _ _ _ _ st h => wpAny_pyIter_zip st.1 h
end L2.Na
namespace L2.L3
open PySem PySem.Spec PyProof.Rows L2 PySem.SeqAt
def Eqv : Nat -> Hp -> V -> V -> Prop
 | 0, _, x, y => (∃ i, x = .int i /\ y = .int i) \/ (∃ z, x = .str z /\ y = .str z) \/ (x = .non /\ y = .non)
 | n + 1, H, x, y => Eqv n H x y \/ ∃ p q xs ys, x = .ref p /\ y = .ref q /\ ((H p = some (.lst xs) /\ H q = some (.lst ys)) \/ (H p = some (.tup xs) /\ H q = some (.tup ys))) /\ xs.length = ys.length /\ ∀ (i : Nat) (x y : V), xs[i]? = some x -> ys[i]? = some y -> Eqv n H x y
section
variable {X : Cx} {pins : List (Addr × Obj)} {σ : St} {H : Hp} {s : Shared}
theorem all_true (n : Nat) : (List.range n).all (fun _ => true) = true := List.all_eq_true.mpr fun _ _ => rfl
theorem vals_at {xs : List V} {us : List Value} (r : Vals xs us) {j : Nat} (h : j < us.toArray.size) : ∃ x, xs[j]? = some x /\ RelV x us.toArray[j] := by
 have hj : j < us.length := by simpa using h
 have hx : j < xs.length := by rw [r.length]; exact hj
 obtain ⟨u, h1, h2⟩ := r.get (List.getElem?_eq_getElem hx)
 have e : us.toArray[j] = u := by
  rw [List.getElem?_eq_getElem hj] at h1
  simpa using Option.some.inj h1
 exact ⟨xs[j], List.getElem?_eq_getElem hx, by rw [e]; exact h2⟩
theorem eqv_items {A : Around} {n : Nat} {xs ys : List V} {us vs : List Value} (r1 : Vals xs us) (r2 : Vals ys vs) (hi : ∀ (i : Nat) (x y : V), xs[i]? = some x -> ys[i]? = some y -> Eqv n H x y)
  (ih : ∀ (x y : V) (u v : Value), Eqv n H x y -> RelV x u -> RelV y v -> EqAt A s u v true) : ∀ j (h1 : j < us.toArray.size) (h2 : j < vs.toArray.size), EqAt A s us.toArray[j] vs.toArray[j] ((fun _ => true) j) := fun j h1 h2 => by
 obtain ⟨x, e1, q1⟩ := vals_at r1 h1
 obtain ⟨y, e2, q2⟩ := vals_at r2 h2
 exact ih x y _ _ (hi j x y e1 e2) q1 q2
theorem eqv_at (I : Inv X pins σ H s) : ∀ (n : Nat) (A : Around) (x y : V) (u v : Value), A.units + n < cLine -> Eqv n H x y -> RelV x u -> RelV y v -> EqAt A s u v true
 | 0, A, x, y, u, v, hu, h, r1, r2 => by
  rcases h with ⟨i, rfl, rfl⟩ | ⟨z, rfl, rfl⟩ | ⟨rfl, rfl⟩
  ·obtain ⟨t, rfl⟩ := r1
   obtain ⟨t2, rfl⟩ := r2
   have e := EqAt.int_int (A := A) (s := s) i t i t2
   rwa [beq_self_eq_true] at e
  ·obtain ⟨t, rfl⟩ := r1
   obtain ⟨t2, rfl⟩ := r2
   have e := EqAt.str_str (A := A) (s := s) z t z t2
   rwa [beq_self_eq_true] at e
  ·cases r1
   cases r2
   exact EqAt.same _
 | n + 1, A, x, y, u, v, hu, .inl h, r1, r2 => eqv_at I n A x y u v (by omega) h r1 r2
 | n + 1, A, x, y, u, v, hu, .inr ⟨p, q, xs, ys, e1, e2, hh, hl, hi⟩, r1, r2 => by
  subst e1 e2
  cases r1
  cases r2
  by_cases e : p = q
  ·subst e; exact EqAt.same _
  refine EqAt.of_refs e ?_
  have hu1 : A.in1.units + n < cLine := by show A.units + 1 + n < cLine; omega
  rcases hh with ⟨h1, h2⟩ | ⟨h1, h2⟩
  ·obtain ⟨_, its, n1, k1, l1, g1⟩ := I.lstM h1
   obtain ⟨_, its2, n2, k2, l2, g2⟩ := I.lstM h2
   have z := RcAt.lists (A := A) (e := fun _ => true) (⟨_, g1, rfl, n1, rfl⟩ : s.heap.IsList p its.toArray) (⟨_, g2, rfl, n2, rfl⟩ : s.heap.IsList q its2.toArray) (by rw [List.size_toArray, List.size_toArray]; omega) (by omega)
    (eqv_items k1 k2 hi fun x y u v => eqv_at I n A.in1 x y u v hu1)
   rwa [all_true] at z
  ·obtain ⟨its, k1, p1, _⟩ := I.tuple (SqT.of h1)
   obtain ⟨its2, k2, p2, _⟩ := I.tuple (SqT.of h2)
   have z := RcAt.tuples (A := A) (e := fun _ => true) (show s.heap.IsTuple p its.toArray from p1) (show s.heap.IsTuple q its2.toArray from p2) (by omega)
    (eqv_items k1 k2 hi fun x y u v => eqv_at I n A.in1 x y u v hu1)
   have e3 : its.toArray.size = its2.toArray.size := by rw [List.size_toArray, List.size_toArray, <- k1.length, <- k2.length]; exact hl
   rwa [all_true, e3, beq_self_eq_true, Bool.true_and] at z
def EqvR (n : Nat) (H : Hp) (p q : Addr) : Prop := ∃ xs ys, ((H p = some (.lst xs) /\ H q = some (.lst ys)) \/ (H p = some (.tup xs) /\ H q = some (.tup ys))) /\ xs.length = ys.length /\ ∀ (i : Nat) (x y : V), xs[i]? = some x -> ys[i]? = some y -> Eqv n H x y
def rEqA : R2 := fun x y H Q => ∃ p q n, x = .ref p /\ y = .ref q /\ n <= 40 /\ EqvR n H p q /\ Q (.bl true) H
def rNeA : R2 := fun x y H Q => ∃ p q n, x = .ref p /\ y = .ref q /\ n <= 40 /\ EqvR n H p q /\ Q (.bl false) H
theorem op_eqA (hu : X.A.units + 64 < cLine) : OpR X (compareOp .Eq) rEqA := by
 intro pins s σ H x y v u Q I rx ry h
 obtain ⟨p, q, n, rfl, rfl, hn, ⟨xs, ys, hh, hl, hi⟩, qq⟩ := h
 cases rx
 cases ry
 have hu1 : X.A.in1.units + n < cLine := by show X.A.units + 1 + n < cLine; omega
 rcases hh with ⟨h1, h2⟩ | ⟨h1, h2⟩
 ·obtain ⟨_, its, n1, k1, l1, g1⟩ := I.lstM h1
  obtain ⟨_, its2, n2, k2, l2, g2⟩ := I.lstM h2
  have z := RcAt.lists (A := X.A) (e := fun _ => true) (⟨_, g1, rfl, n1, rfl⟩ : s.heap.IsList p its.toArray) (⟨_, g2, rfl, n2, rfl⟩ : s.heap.IsList q its2.toArray) (by rw [List.size_toArray, List.size_toArray]; omega) (by omega)
   (eqv_items k1 k2 hi fun x y u v => eqv_at I n X.A.in1 x y u v hu1)
  rw [all_true] at z
  exact z X.prog X.w X.xe _ ⟨.bl true, H, I, rfl, qq⟩
 ·obtain ⟨its, k1, p1, _⟩ := I.tuple (SqT.of h1)
  obtain ⟨its2, k2, p2, _⟩ := I.tuple (SqT.of h2)
  have z := RcAt.tuples (A := X.A) (e := fun _ => true) (show s.heap.IsTuple p its.toArray from p1) (show s.heap.IsTuple q its2.toArray from p2) (by omega)
   (eqv_items k1 k2 hi fun x y u v => eqv_at I n X.A.in1 x y u v hu1)
  have e3 : its.toArray.size = its2.toArray.size := by rw [List.size_toArray, List.size_toArray, <- k1.length, <- k2.length]; exact hl
  rw [all_true, e3, beq_self_eq_true, Bool.true_and] at z
  exact z X.prog X.w X.xe _ ⟨.bl true, H, I, rfl, qq⟩
def rEqN : R2 := fun x y H Q => ∃ p q xs ys, x = .ref p /\ y = .ref q /\ H p = some (.lst xs) /\ H q = some (.lst ys) /\ xs.length ≠ ys.length /\ Q (.bl false) H
theorem op_eqN (hu : X.A.units + 64 < cLine) : OpR X (compareOp .Eq) rEqN := by
 intro pins s σ H x y v u Q I rx ry h
 obtain ⟨p, q, xs, ys, rfl, rfl, h1, h2, hl, qq⟩ := h
 cases rx
 cases ry
 obtain ⟨_, its, n1, k1, l1, g1⟩ := I.lstM h1
 obtain ⟨_, its2, n2, k2, l2, g2⟩ := I.lstM h2
 have hne : (its.toArray.size != its2.toArray.size) = true := by
  rw [List.size_toArray, List.size_toArray, <- l1, <- l2]
  exact bne_iff_ne.mpr hl
 exact RcAt.lists_lengths (A := X.A) (⟨_, g1, rfl, n1, rfl⟩ : s.heap.IsList p its.toArray) (⟨_, g2, rfl, n2, rfl⟩ : s.heap.IsList q its2.toArray) hne (by omega) X.prog X.w X.xe _ ⟨.bl false, H, I, rfl, qq⟩
theorem op_neA (hu : X.A.units + 64 < cLine) : OpR X (compareOp .NotEq) rNeA := by
 intro pins s σ H x y v u Q I rx ry h
 obtain ⟨p, q, n, rfl, rfl, hn, ⟨xs, ys, hh, hl, hi⟩, qq⟩ := h
 cases rx
 cases ry
 have hu1 : X.A.in1.units + n < cLine := by show X.A.units + 1 + n < cLine; omega
 rcases hh with ⟨h1, h2⟩ | ⟨h1, h2⟩
 ·obtain ⟨_, its, n1, k1, l1, g1⟩ := I.lstM h1
  obtain ⟨_, its2, n2, k2, l2, g2⟩ := I.lstM h2
  have z := RcNeAt.lists (A := X.A) (e := fun _ => true) (⟨_, g1, rfl, n1, rfl⟩ : s.heap.IsList p its.toArray) (⟨_, g2, rfl, n2, rfl⟩ : s.heap.IsList q its2.toArray) (by rw [List.size_toArray, List.size_toArray]; omega) (by omega)
   (eqv_items k1 k2 hi fun x y u v => eqv_at I n X.A.in1 x y u v hu1)
  rw [all_true] at z
  exact z X.prog X.w X.xe _ ⟨.bl false, H, I, rfl, qq⟩
 ·obtain ⟨its, k1, p1, _⟩ := I.tuple (SqT.of h1)
  obtain ⟨its2, k2, p2, _⟩ := I.tuple (SqT.of h2)
  have z := RcNeAt.tuples (A := X.A) (e := fun _ => true) (show s.heap.IsTuple p its.toArray from p1) (show s.heap.IsTuple q its2.toArray from p2) (by omega)
   (eqv_items k1 k2 hi fun x y u v => eqv_at I n X.A.in1 x y u v hu1)
  have e3 : its.toArray.size = its2.toArray.size := by rw [List.size_toArray, List.size_toArray, <- k1.length, <- k2.length]; exact hl
  rw [all_true, e3, beq_self_eq_true, Bool.true_and] at z
  exact z X.prog X.w X.xe _ ⟨.bl false, H, I, rfl, qq⟩
def rNeN : R2 := fun x y H Q => ∃ p q xs ys, x = .ref p /\ y = .ref q /\ H p = some (.lst xs) /\ H q = some (.lst ys) /\ xs.length ≠ ys.length /\ Q (.bl true) H
theorem op_neN (hu : X.A.units + 64 < cLine) : OpR X (compareOp .NotEq) rNeN := by
 intro pins s σ H x y v u Q I rx ry h
 obtain ⟨p, q, xs, ys, rfl, rfl, h1, h2, hl, qq⟩ := h
 cases rx
 cases ry
 obtain ⟨_, its, n1, k1, l1, g1⟩ := I.lstM h1
 obtain ⟨_, its2, n2, k2, l2, g2⟩ := I.lstM h2
 have hne : (its.toArray.size != its2.toArray.size) = true := by
  rw [List.size_toArray, List.size_toArray, <- l1, <- l2]
  exact bne_iff_ne.mpr hl
 exact RcNeAt.lists_lengths (A := X.A) (⟨_, g1, rfl, n1, rfl⟩ : s.heap.IsList p its.toArray) (⟨_, g2, rfl, n2, rfl⟩ : s.heap.IsList q its2.toArray) hne (by omega) X.prog X.w X.xe _ ⟨.bl true, H, I, rfl, qq⟩
def rCatT0 (K : Fg) : R2 := fun x y H Q => ∃ a b ys, x = .ref a /\ y = .ref b /\ SqT K H a [] /\ SqT K H b ys /\ Q (.ref b) H
theorem op_catT0 : OpR X (binaryOp .Add) (rCatT0 X.K) := by
 intro pins s σ H x y v u Q I rx ry h
 obtain ⟨a, b, ys, rfl, rfl, ha, hb, q⟩ := h
 cases rx
 cases ry
 obtain ⟨its, r1, p1, _⟩ := I.tuple ha
 obtain ⟨its2, r2, p2, _⟩ := I.tuple hb
 have e : its = [] := r1.nil_iff.mpr rfl
 subst e
 obtain ⟨⟨cls, dd, data, sl⟩, ho, hc, n, hd⟩ := id p1
 obtain ⟨⟨cls2, dd2, data2, sl2⟩, ho2, hc2, n2, hd2⟩ := id p2
 simp only at hc hd hc2 hd2
 subst hc hd hc2 hd2
 exact concat_meets ⟨_, ho, rfl⟩ ⟨_, ho2, rfl⟩ noFill_tuple_add seq_tuple_add PySem.F.slot_tuple_add PySem.F.entry_tuple_add (PySem.F.args_tuple_add_2 _ _)
  (tuple_addW0 a b [].toArray its2.toArray n n2 dd dd2 sl sl2 rfl) ⟨ho, ho2, ⟨.ref b, H, I, rfl, q⟩⟩
def CMulS (z : Str) (k : Int) : Prop := 0 <= k /\ k < 2 ^ 31 /\ z.length * k.toNat <= sizeLine
theorem op_mulS : OpR X (binaryOp .Mult) (fun x y H Q => ∃ i k, x = .str i /\ y = .int k /\ CMulS i k /\ Q (.str (Txt.mul i k)) H) := by
 intro pins s σ H x y v u Q I rx ry h
 obtain ⟨i, k, rfl, rfl, ⟨h1, h2, h3⟩, q⟩ := h
 obtain ⟨t, rfl⟩ := rx
 obtain ⟨t', rfl⟩ := ry
 have e1 : (decide (k < -(2 ^ 63 : Int)) || decide (k >= 2 ^ 63)) = false := by
  rw [decide_eq_false (by omega), decide_eq_false (by omega)]
  rfl
 have hs : (sizeLine : Nat) <= 2 ^ 40 := by rw [sizeLine_eq]; decide
 refine SB.mul ⟨e1, fun g1 _ c => ?_, fun g1 _ => ?_⟩ (fun t' tk => ⟨.str (Txt.mul i k), H, I.tok _, ⟨_, rfl⟩, q⟩)
 ·have c1 : (2 ^ 63 - 1) / k < (i.length : Int) := c
  have c2 : ¬ (i.length : Int) <= (2 ^ 63 - 1) / k := by omega
  refine c2 ((Int.le_ediv_iff_mul_le (by omega)).mpr ?_)
  have e : ((i.length * k.toNat : Nat) : Int) = (i.length : Int) * k := by rw [Int.natCast_mul, Int.toNat_of_nonneg (by omega)]
  omega
 ·show decide _ = false
  exact decide_eq_false (by omega)
def CPw (i j : Int) : Prop := 0 <= j /\ (Builtin.Int.intBits i : Int) * j <= 2 ^ 27
def CDv (_ j : Int) : Prop := 0 < j /\ j < 2 ^ 64
theorem op_fdivA : OpR X (binaryOp .FloorDiv) (rI CDv fun i j => .int (i / j)) := opI fun i j _ _ _ _ _ hc q => by
 have h1 : (0 : Int) < j := hc.1
 have h2 : j < 2 ^ 64 := hc.2
 refine floordiv_int (by omega) (by rw [Int.fdiv_eq_ediv_of_nonneg i (by omega)]; exact q) (.inl (PyProof.noPylong_of_log2 ?_))
 have h3 : j.natAbs.log2 < 64 := (Nat.log2_lt (by omega)).mpr (by omega)
 omega
theorem op_mulA : OpR X (binaryOp .Mult) (rI IntMulOk fun i j => .int (i * j)) := opI fun _ _ _ _ _ _ _ hc q => mul_int q hc
theorem op_powA : OpR X (binaryOp .Pow) (rI CPw fun i j => .int (i ^ j.toNat)) := opI fun _ _ _ _ _ _ _ hc q => pow_int hc.1 hc.2 q
end
end L2.L3
namespace L2.Na
open PySem PySem.Spec PyProof.Rows L2 L2.L3
theorem dict_mapFields (o : Obj) (f : Array Value -> Array Value) : (o.mapFields f).dict = o.dict := by
 unfold Obj.mapFields
 split <;> rfl
def TrD (h B : Heap) (e : Addr) (c : Value) (dx : Option Addr) (fl : Value) : Prop :=
 ∃ oe vs T oT ts, h.get? e = some oe /\ oe.cls = c /\ oe.dict = dx /\ oe.data = .fields vs /\ vs[1]? = some (.ref T) /\ B.get? T = none /\ T ≠ e /\ h.get? T = some oT /\ oT.data = .fields ts /\ ts[3]? = some fl
structure Went (B : Heap) (l : List Env) (e : Addr) (c : Value) (dx : Option Addr) (fl : Value) (h h' : Heap) : Prop where
 stay : B.StaysIn h'
 frames : h'.FunFrames B l
 tr : TrD h' B e c dx fl
 slots : h.UpToSlots h'
structure FlyD (B : Heap) (l : List Env) (e : Addr) (c : Value) (dx : Option Addr) (fl : Value) (h : Heap) : Prop where
 stay : B.StaysIn h
 new : B.get? e = none
 frames : h.FunFrames B l
 tr : TrD h B e c dx fl
section
variable {M : Model} {A : Around} {E : Value -> Shared -> Prop} {s : Shared} {B : Heap} {env : Env} {outer : List Env} {L e : Addr} {Q : Unit -> Shared -> Prop}
theorem frameOf_in {env2 : Env} {R : Value -> Shared -> Prop} (fr : A.frames = some (env :: outer)) (ff : s.heap.FunFrames B (env :: outer)) (ef : env.frame = some L) (ef2 : env2.frame = some L)
  (h : ∀ h', Heap.SlotsOnly ((env :: outer).filterMap (·.frame)) s.heap h' -> R (.ref L) { s with heap := h' }) : wpAny M A (PySem.frameOf env2) R E s := by
 unfold PySem.frameOf
 refine wpAny_bind (wpAny_frameEnvs fr ?_)
 have hdw : ((env :: outer).dropWhile fun x => x.frame != env2.frame) = env :: outer := by simp [List.dropWhile, ef, ef2]
 rw [hdw]
 unfold frameObject
 refine wpAny_bind (wpAny_bind (wpAny_readyFrames_fun ff fun h₁ hs₁ => wpAny_pure ?_))
 rw [ef]
 exact wpAny_pure (h h₁ hs₁)
theorem entry_run {env2 : Env} {oe : Obj} {vs : Array Value} {hd0 : Value} {nx : Bool} (fr : A.frames = some (env :: outer)) (ff : s.heap.FunFrames B (env :: outer)) (ef : env.frame = some L) (ef2 : env2.frame = some L) (eo : s.heap.get? e = some oe) (st : B.StaysIn s.heap)
  (en : B.get? e = none) (dt : oe.data = .fields vs) (sz : 1 < vs.size) (k : ∀ g, Went B (env :: outer) e oe.cls oe.dict (rawInt L) s.heap g -> Q () { s with heap := g }) :
  wpAny M A (do let a <- frameOf env2; let pl <- entryPlaceOf L nx; let b <- EntryCells.newEntry hd0 a .none (rawInt L) .none pl; setField (.ref e) 1 b) Q E s := by
 have nf : e ∉ (env :: outer).filterMap (·.frame) := fun m => by
  obtain ⟨_, o, ho, n⟩ := ff.mem m
  rw [eo] at ho
  cases ho
  exact n vs dt
 refine wpAny_bind (frameOf_in fr ff ef ef2 fun g1 s1 => wpAny_bind (wpAny_entryPlaceOf fun pl ip => ?_))
 unfold EntryCells.newEntry newFields
 refine wpAny_bind (wpAny_newObj_type ?_ (ip.sizeOk5 _ _ _ _ _))
 have e1 : g1.get? e = some oe := by rw [s1.2.1 e nf]; exact eo
 have b1 : B.StaysIn g1 := fun b o q => by
  rw [s1.2.1 b fun m => by rw [(ff.mem m).1] at q; cases q]
  exact st b o q
 generalize ho : ({ cls := .type "traceback", dict := none, data := .fields ([hd0, .ref L, .none, rawInt L, .none] ++ (if pl.isEmpty then List.replicate 6 Value.none else pl)).toArray } : Obj) = ot
 have od : ot.data = .fields ([hd0, .ref L, .none, rawInt L, .none] ++ (if pl.isEmpty then List.replicate 6 Value.none else pl)).toArray := by rw [<- ho]
 have of3 : ([hd0, .ref L, .none, rawInt L, .none] ++ (if pl.isEmpty then List.replicate 6 Value.none else pl)).toArray[3]? = some (rawInt L) := by simp
 have onf : ot.isFreed = false := Obj.isFreed_of_fields od
 have e2 : (g1.push ot).get? e = some oe := Heap.get?_push_of_some _ e1
 have ne : g1.objs.size ≠ e := Nat.ne_of_gt (Heap.lt_size e1)
 refine wpAny_setField e2 dt sz (k _ ?_)
 have d3 : (oe.mapFields (·.setIfInBounds 1 (Value.ref g1.objs.size))).data = .fields (vs.setIfInBounds 1 (Value.ref g1.objs.size)) := Obj.data_mapFields dt _
 have e3 : ((g1.push ot).update e (Obj.mapFields (·.setIfInBounds 1 (Value.ref g1.objs.size)))).get? e = some (oe.mapFields (·.setIfInBounds 1 (Value.ref g1.objs.size))) := Heap.get?_update_self _ e2 (Obj.isFreed_of_fields d3)
 have kp : ∀ b o, b ≠ e -> g1.get? b = some o -> ((g1.push ot).update e (Obj.mapFields (·.setIfInBounds 1 (Value.ref g1.objs.size)))).get? b = some o := fun b o hb q => by
  rw [Heap.get?_update_other _ _ hb.symm]
  exact Heap.get?_push_of_some _ q
 have nr : ∀ b o, s.heap.get? b = some o -> (∀ ws, o.data ≠ .fields ws) -> b ≠ e := fun b o q n z => by
  subst z
  rw [eo] at q
  cases q
  exact n vs dt
 refine ⟨fun b o q => kp b o (fun z => by rw [z, en] at q; cases q) (b1 b o q), ff.of_keeps fun b o q n => ?_, ⟨_, _, g1.objs.size, ot, _, e3, Obj.cls_mapFields _ _, dict_mapFields _ _, d3, by simp [sz], b1.fresh, ne, ?_, od, of3⟩, fun b o q n => ?_⟩
 ·obtain ⟨sl, z⟩ := s1.2.2 b o q
  exact ⟨_, kp b _ (nr b o q n) z, rfl⟩
 ·rw [Heap.get?_update_other _ _ ne.symm]
  exact Heap.get?_push_size g1 onf
 ·obtain ⟨sl, z⟩ := s1.2.2 b o q
  exact ⟨sl, kp b _ (nr b o q n) z⟩
theorem note_new {env2 : Env} {oe : Obj} {vs : Array Value} (fr : A.frames = some (env :: outer)) (ff : s.heap.FunFrames B (env :: outer)) (ef : env.frame = some L) (ef2 : env2.frame = some L) (eo : s.heap.get? e = some oe) (st : B.StaysIn s.heap)
  (en : B.get? e = none) (dt : oe.data = .fields vs) (v1 : vs[1]? = some .none) (k : ∀ g, FlyD B (env :: outer) e oe.cls oe.dict (rawInt L) g -> s.heap.UpToSlots g -> Q () { s with heap := g }) : wpAny M A (noteFrame (.ref e) env2) Q E s := by
 unfold noteFrame
 simp only [ef2]
 refine wpAny_bind (wpAny_field eo dt v1 ?_)
 rw [if_neg (show ¬ ((Value.none != Value.none) = true) by decide)]
 exact entry_run fr ff ef ef2 eo st en dt (Array.getElem?_eq_some_iff.mp v1).1 fun g w => k g ⟨w.stay, en, w.frames, w.tr⟩ w.slots
theorem note_fly {env2 : Env} {c fl : Value} {dx : Option Addr} (fr : A.frames = some (env :: outer)) (ef : env.frame = some L) (ef2 : env2.frame = some L) (F : FlyD B (env :: outer) e c dx fl s.heap)
  (k : ∀ g fl', FlyD B (env :: outer) e c dx fl' g -> s.heap.UpToSlots g -> Q () { s with heap := g }) : wpAny M A (noteFrame (.ref e) env2) Q E s := by
 have F0 := F
 obtain ⟨st, en, ff, oe, vs, T, oT, ts, eo, rfl, rfl, dt, v1, nT, ne, eT, dT, t3⟩ := F
 unfold noteFrame
 simp only [ef2]
 refine wpAny_bind (wpAny_field eo dt v1 ?_)
 rw [if_pos (show (Value.ref T != Value.none) = true by simp)]
 refine wpAny_bind (wpAny_field eT dT t3 ?_)
 by_cases hfl : (fl == rawInt L) = true
 ·rw [if_pos hfl]
  exact wpAny_pure (k s.heap fl F0 (Heap.UpToSlots.refl _))
 rw [if_neg hfl]
 refine wpAny_bind (wpAny_setField eT dT (Array.getElem?_eq_some_iff.mp t3).1 ?_)
 have ot : ∀ b, b ≠ T -> (s.heap.update T (Obj.mapFields (·.setIfInBounds 3 Value.none))).get? b = s.heap.get? b := fun b hb => Heap.get?_update_other _ _ hb.symm
 have nr : ∀ b o, s.heap.get? b = some o -> (∀ ws, o.data ≠ .fields ws) -> b ≠ T := fun b o q n z => by
  subst z
  rw [eT] at q
  cases q
  exact n ts dT
 refine entry_run (s := { s with heap := s.heap.update T (Obj.mapFields (·.setIfInBounds 3 Value.none)) }) fr (ff.of_keeps fun b o q n => ⟨o, by rw [ot b (nr b o q n)]; exact q, rfl⟩) ef ef2 (by show (s.heap.update T _).get? e = _; rw [ot e ne.symm]; exact eo)
  (fun b o q => by show (s.heap.update T _).get? b = _; rw [ot b fun z => by rw [z, nT] at q; cases q]; exact st b o q) en dt (Array.getElem?_eq_some_iff.mp v1).1 fun g w => k g _ ⟨w.stay, en, w.frames, w.tr⟩ fun b o q n => w.slots b o (by rw [ot b (nr b o q n)]; exact q) n
theorem mark_fly {l : List Env} {c fl : Value} {dx : Option Addr} (fo : Option Addr) (F : FlyD B l e c dx fl s.heap) (k : ∀ g, FlyD B l e c dx (fo.elim Value.none fun f => rawInt f) g -> s.heap.UpToSlots g -> Q () { s with heap := g }) : wpAny M A (setFlight (.ref e) fo) Q E s := by
 obtain ⟨st, en, ff, oe, vs, T, oT, ts, eo, hc, hx, dt, v1, nT, ne, eT, dT, t3⟩ := F
 have ot : ∀ b, b ≠ T -> (s.heap.update T (Obj.mapFields (·.setIfInBounds 3 (fo.elim Value.none fun f => rawInt f)))).get? b = s.heap.get? b := fun b hb => Heap.get?_update_other _ _ hb.symm
 have nr : ∀ b o, s.heap.get? b = some o -> (∀ ws, o.data ≠ .fields ws) -> b ≠ T := fun b o q n z => by
  subst z
  rw [eT] at q
  cases q
  exact n ts dT
 have s3 := (Array.getElem?_eq_some_iff.mp t3).1
 unfold setFlight
 refine wpAny_bind (wpAny_field eo dt v1 ?_)
 rw [if_pos (show (Value.ref T != Value.none) = true by simp)]
 refine wpAny_setField eT dT s3 (k _ ⟨fun b o q => ?_, en, ff.of_keeps fun b o q n => ⟨o, by rw [ot b (nr b o q n)]; exact q, rfl⟩, oe, vs, T, _, _, by rw [ot e ne.symm]; exact eo, hc, hx, dt, v1, nT, ne, Heap.get?_update_self _ eT (Obj.isFreed_of_fields (Obj.data_mapFields dT _)), Obj.data_mapFields dT _, by simp [s3]⟩
  fun b o q n => ⟨o.slots, by rw [ot b (nr b o q n)]; exact q⟩)
 rw [ot b fun z => by rw [z, nT] at q; cases q]
 exact st b o q
theorem land_fly {l : List Env} {c fl : Value} {dx : Option Addr} (F : FlyD B l e c dx fl s.heap) (k : ∀ g, FlyD B l e c dx .none g -> s.heap.UpToSlots g -> Q () { s with heap := g }) : wpAny M A (setFlight (.ref e) none) Q E s := mark_fly none F k
theorem FlyD.tail {c fl : Value} {dx : Option Addr} {h : Heap} (F : FlyD B (env :: outer) e c dx fl h) : FlyD B outer e c dx fl h := ⟨F.stay, F.new, F.frames.2.2, F.tr⟩
theorem leave_new {oe : Obj} {vs : Array Value} (fr : A.frames = some (env :: outer)) (ff : s.heap.FunFrames B (env :: outer)) (ef : env.frame = some L) (eo : s.heap.get? e = some oe) (st : B.StaysIn s.heap)
  (en : B.get? e = none) (dt : oe.data = .fields vs) (v1 : vs[1]? = some .none) (k : ∀ g, FlyD B outer e oe.cls oe.dict .none g -> s.heap.UpToSlots g -> Q () { s with heap := g }) : wpAny M A (leaving env (.ref e)) Q E s := by
 unfold leaving
 exact wpAny_bind (note_new fr ff ef ef eo st en dt v1 fun g F u => land_fly F fun g2 F2 u2 => k g2 F2.tail (u.trans u2))
theorem leave_fly {c fl : Value} {dx : Option Addr} (fr : A.frames = some (env :: outer)) (ef : env.frame = some L) (F : FlyD B (env :: outer) e c dx fl s.heap)
  (k : ∀ g, FlyD B outer e c dx .none g -> s.heap.UpToSlots g -> Q () { s with heap := g }) : wpAny M A (leaving env (.ref e)) Q E s := by
 unfold leaving
 exact wpAny_bind (note_fly fr ef ef F fun g _ F1 u => land_fly F1 fun g2 F2 u2 => k g2 F2.tail (u.trans u2))
end
end L2.Na
namespace L2.Na
open PySem PySem.Spec PyProof.Rows L2 L2.L3
def CXF (P : Program) (w : World) : CXT := fun outer H s E ev s' => ∃ (e : Addr) (c : Value) (dx : Option Addr) (H' : Hp) (B : Heap), ev = .ref e /\ s'.os = s.os /\ AllBare s'.gens /\ Un (frs outer) [] H H' s.heap s'.heap /\ HOk P w H' s'.heap /\
 (∃ fl, FlyD B outer e c dx fl s'.heap) /\ (∀ b o, s.heap.get? b = some o -> b ∉ frs outer -> ∃ u, B.get? b = some u) /\ (∀ b o, H' b = some o -> ∃ u, B.get? b = some u) /\ E c dx H'
theorem CXF.no {P : Program} {w : World} {outer : List Env} {H : Hp} {s s' : Shared} {ev : Value} (h : CXF P w outer H s E0 ev s') : False := by
 obtain ⟨_, _, _, _, _, _, _, _, _, _, _, _, _, z⟩ := h
 exact z
theorem there_of {P : Program} {w : World} {H : Hp} {h : Heap} {a : Addr} {o : HO} (x : ObjOk P w H h a o) : ∃ u, h.get? a = some u := by
 induction o with
 | lst xs => obtain ⟨_, _, _, _, e⟩ := x; exact ⟨_, e⟩
 | tup xs => obtain ⟨_, _, _, u, e, _⟩ := x; exact ⟨_, e⟩
 | dK kvs => obtain ⟨_, _, _, _, o, _, _, e, _⟩ := x; exact ⟨_, e⟩
 | dT kvs => obtain ⟨_, _, _, _, o, _, _, e, _⟩ := x; exact ⟨_, e⟩
 | set S n => obtain ⟨o, _, _, _, e, _⟩ := x; exact ⟨_, e⟩
 | ins C dx fs => obtain ⟨_, _, _, e, _⟩ := x; exact ⟨_, e⟩
 | own y => exact x
 | xd fs => obtain ⟨_, ⟨_, _, _, e, _⟩, _⟩ := x; exact ⟨_, e⟩
 | rng lo hi => obtain ⟨_, _, _, e⟩ := x; exact ⟨_, e⟩
 | frz ob u _ => exact ⟨_, x.1⟩
 | tbl ps => exact ⟨_, x⟩
 | met f y => exact ⟨_, x⟩
 | ext φ => exact x.2.1
section
variable {P : Program} {w : World} {K : Fg} {mg : Str -> Option Value} {base : Heap} {N : List Str} {qual : Str} {scope : Scope} {f : Addr} {cd : Value} {A : Around} {outer : List Env} {s : Shared} {H : Hp} {E : XK}
theorem hok_in {H' : Hp} {h g B : Heap} (x : HOk P w H' h) (c2 : ∀ b o, H' b = some o -> ∃ u, B.get? b = some u) (s1 : B.StaysIn h) (s2 : B.StaysIn g) : HOk P w H' g := fun b o q =>
 (x b o q).stay (fun b' u' hb' q' => by
  obtain ⟨u, hu⟩ : ∃ u, B.get? b' = some u := by
   rcases hb' with rfl | hb'
   ·exact c2 _ _ q
   ·exact c2 _ _ hb'
  have z := s1 _ _ hu
  rw [q'] at z
  cases z
  exact s2 _ _ hu) (fun _ z => z) fun _ _ z => z
theorem pass_def : Passes (CXF P w) (cxOf (CXF P w) P w K mg base N qual scope f cd A outer s H E) E := by
 intro pins σ H1 s1 ev s' I hc
 obtain ⟨e, c, dx, H', B, rfl, os, bare, un, hok, ⟨fl, F⟩, c1, c2, hE⟩ := hc
 have un' : Un (frs (envOfC qual scope s.heap.objs.size f cd :: outer)) [] H1 H' s1.heap s'.heap := un
 have I0 : Un (frs outer) [] H H1 s.heap s1.heap := I.base
 have nl : ∀ b o, s.heap.get? b = some o -> b ∉ frs outer -> b ∉ frs (envOfC qual scope s.heap.objs.size f cd :: outer) := fun b o q hb z => by
  have z' : b = s.heap.objs.size \/ b ∈ frs outer := by simpa [frs, envOfC] using z
  rcases z' with z' | z'
  ·exact absurd (Heap.lt_size q) (by rw [z']; exact Nat.lt_irrefl _)
  ·exact hb z'
 have fs : ∀ b, b ∈ frs outer -> b ∈ frs (envOfC qual scope s.heap.objs.size f cd :: outer) := fun b z => by
  have : b = s.heap.objs.size \/ b ∈ frs outer := .inr z
  simpa [frs, envOfC] using this
 show wpAny _ _ (leaving _ (.ref e)) _ _ s'
 refine leave_fly (L := s.heap.objs.size) I.ok.frames rfl F fun g F2 u => ?_
 have bg : ∀ b o, s'.heap.get? b = some o -> (∃ u, B.get? b = some u) -> g.get? b = some o := fun b o q ⟨v, hv⟩ => by
  have z := F.stay _ _ hv
  rw [q] at z
  cases z
  exact F2.stay _ _ hv
 have c1' : ∀ b o, s.heap.get? b = some o -> b ∉ frs outer -> ∃ u, B.get? b = some u := fun b o q hb => by
  obtain ⟨o1, q1⟩ := I0.there b o q (by simp)
  exact c1 b o1 q1 (nl b o q hb)
 have slot : ∀ b o, s.heap.get? b = some o -> H b = none -> b ∈ frs outer -> ∃ sl, g.get? b = some { o with slots := sl } := fun b o q n hb => by
  obtain ⟨sl, q1⟩ := I0.slot b o q n hb (by simp)
  obtain ⟨sl2, q2⟩ := un'.slot b _ q1 (I0.free b o q n (by simp)) (fs b hb) (by simp)
  have nf : ∀ ws, o.data ≠ .fields ws := by
   obtain ⟨_, o', q', n'⟩ := (show s.heap.FunFrames base outer from I.ok.funs).mem hb
   rw [q] at q'
   cases q'
   exact n'
  obtain ⟨sl3, q3⟩ := u b _ q2 nf
  exact ⟨sl3, q3⟩
 refine ⟨e, c, dx, H', B, rfl, os.trans I.os, bare, ⟨fun b o q n hb _ => ?_, fun b o q n hb _ => slot b o q n hb, fun b o q n _ => ?_, fun b o q _ => ?_, fun b xs q => un.tups b xs (I0.tups b xs q), fun b o xs q => un.frzs b o xs (I0.frzs b o xs q), fun b ps q => ?_⟩, hok_in hok c2 F.stay F2.stay, ⟨_, F2⟩, c1', c2, hE⟩
 ·exact bg b o (un'.keep b o (I0.keep b o q n hb (by simp)) (I0.free b o q n (by simp)) (nl b o q hb) (by simp)) (c1' b o q hb)
 ·obtain ⟨o1, q1⟩ := I0.there b o q (by simp)
  exact un'.free b o1 q1 (I0.free b o q n (by simp)) (by simp)
 ·by_cases hb : b ∈ frs outer
  ·obtain ⟨sl, z⟩ := slot b o q (I.ok.frf b hb) hb
   exact ⟨_, z⟩
  ·obtain ⟨v, hv⟩ := c1' b o q hb
   exact ⟨v, F2.stay _ _ hv⟩
 ·obtain ⟨m1, e1⟩ := I0.tbls b ps q
  obtain ⟨m2, e2⟩ := un.tbls b _ e1
  exact ⟨m1 ++ m2, by rw [e2, Array.append_assoc]⟩
theorem made_def {pins : List (Addr × Obj)} {σ : St} {H1 : Hp} {s1 : Shared} {e : Addr} {oe : Obj} {vs : Array Value} (I : Inv (cxOf (CXF P w) P w K mg base N qual scope f cd A outer s H E) pins σ H1 s1)
  (eo : s1.heap.get? e = some oe) (dt : oe.data = .fields vs) (v1 : vs[1]? = some .none) (en : H1 e = none) (e0 : ∀ b o, s.heap.get? b = some o -> b ≠ e) (hE : E oe.cls oe.dict H1) :
  (cxOf (CXF P w) P w K mg base N qual scope f cd A outer s H E).xe (.ref e) s1 := by
 have I0 : Un (frs outer) [] H H1 s.heap s1.heap := I.base
 have ff : s1.heap.FunFrames base (envOfC qual scope s.heap.objs.size f cd :: outer) := I.stack
 have nl : ∀ b o, s.heap.get? b = some o -> b ∉ frs outer -> b ∉ frs (envOfC qual scope s.heap.objs.size f cd :: outer) := fun b o q hb z => by
  have z' : b = s.heap.objs.size \/ b ∈ frs outer := by simpa [frs, envOfC] using z
  rcases z' with z' | z'
  ·exact absurd (Heap.lt_size q) (by rw [z']; exact Nat.lt_irrefl _)
  ·exact hb z'
 have ne : e ∉ frs (envOfC qual scope s.heap.objs.size f cd :: outer) := fun z => by
  obtain ⟨_, o, q, n⟩ := ff.mem z
  rw [eo] at q
  cases q
  exact n vs dt
 have hid : ∀ {b o}, (PySem.W.hideAll s1.heap (e :: frs (envOfC qual scope s.heap.objs.size f cd :: outer))).get? b = some o -> s1.heap.get? b = some o := fun q => PySem.W.of_hideAll _ q
 have has : ∀ {b o}, s1.heap.get? b = some o -> b ≠ e -> b ∉ frs (envOfC qual scope s.heap.objs.size f cd :: outer) -> (PySem.W.hideAll s1.heap (e :: frs (envOfC qual scope s.heap.objs.size f cd :: outer))).get? b = some o :=
  fun q h1 h2 => PySem.W.hideAll_get _ q (by simp only [List.mem_cons, not_or]; exact ⟨h1, h2⟩)
 have ff2 : s1.heap.FunFrames (PySem.W.hideAll s1.heap (e :: frs (envOfC qual scope s.heap.objs.size f cd :: outer))) (envOfC qual scope s.heap.objs.size f cd :: outer) :=
  PySem.W.funFrames_hide ff fun env' he' a ha => List.mem_cons_of_mem _ (List.mem_filterMap.mpr ⟨env', he', ha⟩)
 show wpAny _ _ (leaving _ (.ref e)) _ _ s1
 refine leave_new (L := s.heap.objs.size) I.ok.frames ff2 rfl eo (fun b o q => hid q) (PySem.W.hideAll_none _ (by simp)) dt v1 fun g F2 u => ?_
 have c1' : ∀ b o, s.heap.get? b = some o -> b ∉ frs outer -> ∃ u, (PySem.W.hideAll s1.heap (e :: frs (envOfC qual scope s.heap.objs.size f cd :: outer))).get? b = some u := fun b o q hb => by
  obtain ⟨o1, q1⟩ := I0.there b o q (by simp)
  exact ⟨o1, has q1 (e0 b o q) (nl b o q hb)⟩
 have c2 : ∀ b o, H1 b = some o -> ∃ u, (PySem.W.hideAll s1.heap (e :: frs (envOfC qual scope s.heap.objs.size f cd :: outer))).get? b = some u := fun b o q => by
  obtain ⟨o1, q1⟩ : ∃ o1, s1.heap.get? b = some o1 := there_of (I.hok b o q)
  refine ⟨o1, has q1 (fun z => by rw [z, en] at q; cases q) fun z => ?_⟩
  have := I.stkFree b z
  rw [q] at this
  cases this
 have slot : ∀ b o, s.heap.get? b = some o -> H b = none -> b ∈ frs outer -> ∃ sl, g.get? b = some { o with slots := sl } := fun b o q n hb => by
  obtain ⟨sl, q1⟩ := I0.slot b o q n hb (by simp)
  have nf : ∀ ws, o.data ≠ .fields ws := by
   obtain ⟨_, o', q', n'⟩ := (show s.heap.FunFrames base outer from I.ok.funs).mem hb
   rw [q] at q'
   cases q'
   exact n'
  obtain ⟨sl3, q3⟩ := u b _ q1 nf
  exact ⟨sl3, q3⟩
 refine ⟨e, oe.cls, oe.dict, H1, _, rfl, I.os, I.bare, ⟨fun b o q n hb _ => ?_, fun b o q n hb _ => slot b o q n hb, fun b o q n _ => I0.free b o q n (by simp), fun b o q _ => ?_, I0.tups, I0.frzs, I0.tbls⟩, hok_in I.hok c2 (fun b o q => hid q) F2.stay, ⟨_, F2⟩, c1', c2, hE⟩
 ·exact F2.stay _ _ (has (I0.keep b o q n hb (by simp)) (e0 b o q) (nl b o q hb))
 ·by_cases hb : b ∈ frs outer
  ·obtain ⟨sl, z⟩ := slot b o q (I.ok.frf b hb) hb
   exact ⟨_, z⟩
  ·obtain ⟨v, hv⟩ := c1' b o q hb
   exact ⟨v, F2.stay _ _ hv⟩
end
end L2.Na
namespace L2.Na
open PySem PySem.Spec PyProof.Rows L2 L2.L3
theorem ff {P : Prop} (h : false = true) : P := nomatch h
abbrev XS := St -> XK
abbrev E0 : XS := fun _ _ _ _ => False
def blts : List Str := ["len", "range", "sum", "all", "any", "min", "max", "sorted", "isinstance", "list", "tuple", "int", "str", "bool", "dict", "zip", "set", "abs", "enumerate", "reversed", "divmod", "ValueError"]
structure Rt where
 P : Program
 w : World
 K : Fg
 mg : Str -> Option Value
 base : Heap
 A : Around
def rtOf (X : Cx) : Rt := ⟨X.prog, X.w, X.K, X.mg, X.base, X.A⟩
def FnAt (R : Rt) (x : Str) (sp : Sp) : Prop := ∃ (k : Nat) (f : Addr) (fd : FuncData) (ps : List Str), Room k R.A /\ FnOk R.P R.w R.K R.mg R.base (CXF R.P R.w) k f fd ps sp /\ Binds R.K fd ps [] /\ PySem.W.keepIn R.K (.ref f) = true /\ R.mg x = some (.ref f)
def GlAt (R : Rt) (x : Str) (v : V) : Prop := ∃ u, R.mg x = some u /\ RelV v u
inductive Fb where
 | all
 | own (l : List Str)
 | hot
def Fb.of : Bool -> Fb
 | true => .all
 | false => .own []
instance : Coe Bool Fb := ⟨Fb.of⟩
structure Sc where
 N : List Str
 nm : List (Str × NameKind)
 fo : Fb
def Sc.fb (C : Sc) : Bool := match C.fo with
 | .all => true
 | .own _ => false
 | .hot => true
def Sc.cm (C : Sc) : Bool := match C.fo with
 | .hot => false
 | _ => true
def Sc.ow (C : Sc) : List Str := match C.fo with
 | .all => []
 | .own l => l
 | .hot => []
structure Gd (X : Cx) (C : Sc) : Prop where
 N : X.N = C.N
 nm : X.env.scope.names = C.nm
 nd : C.N.Nodup
 calm : C.cm = true -> X.calm = true
 bl : ∀ x ∈ blts, X.mg x = none
 hu : X.A.units + 64 < cLine
 fb : C.fb = true -> ∀ x, X.fn x = true
 top : C.fb = true -> X.stack = X.env :: X.outer /\ X.env.frame = some X.env.locals
 ow : ∀ x ∈ C.ow, X.fn x = true
structure Thr (X : Cx) (E : XS) : Prop where
 pass : ∀ (pins : List (Addr × Obj)) (σ : St) (H : Hp) (s : Shared) (ev : Value) (s' : Shared), Inv X pins σ H s -> CXF X.prog X.w X.stack H s (E σ) ev s' -> X.xe ev s'
 made : ∀ (pins : List (Addr × Obj)) (σ : St) (H H' : Hp) (s s' : Shared) (e : Addr) (oe : Obj) (vs : Array Value), Inv X pins σ H s -> s'.os = s.os -> AllBare s'.gens -> Un (frs X.stack) [] H H' s.heap s'.heap -> HOk X.prog X.w H' s'.heap -> s.heap.get? e = none -> H' e = none ->
  s'.heap.get? e = some oe -> oe.data = .fields vs -> vs[1]? = some .none -> E σ oe.cls oe.dict H' -> X.xe (.ref e) s'
 own : PassesOwn (model X.prog X.w) X.A X.env X.xe
inductive Shp where
 | pl | cp | zc
 deriving DecidableEq
def shpOf : Expr -> Option Shp
 | .Starred .. => none
 | .Slice .. => none
 | .Set .. => none
 | .SetComp .. => none
 | .DictComp .. => none
 | .GeneratorExp .. => none
 | .ListComp .. => some .cp
 | .Call (.Name _ _) [] [] _ => some .zc
 | _ => some .pl
def tstOf : Expr -> Bool
 | .UnaryOp .Not _ _ => false
 | .BoolOp .. => false
 | .IfExp .. => false
 | .Compare .. => false
 | _ => true
section
variable {e b o : Expr} {es : List Expr} {env : Env} {s : Shp}
theorem shp_star (h : shpOf e = some s) : starEach (e :: es) env = (false, eval e env) :: starEach es env := by
 cases e <;> first | rfl | cases h
theorem shp_swap {tgt : Option Expr} {line : Nat} (h : shpOf e = some s) (hs : s ≠ .cp) : swapsWith e tgt line env = pure false := by
 cases e with
 | ListComp a b c d => exact absurd (Option.some.inj h).symm hs
 | SetComp a b c d => cases h
 | DictComp a b c d => cases h
 | _ => rfl
theorem shp_ix (h : shpOf b = some s) : PlainIx b := by
 cases b with
 | Slice a b c d => cases h
 | _ => exact fun _ _ => rfl
theorem shp_mark {op : CmpOp} (h : shpOf b = some s) : behindInMarks op b = false := by
 cases b with
 | Set a b c => cases h
 | _ => rfl
theorem shp_fold (h : shpOf e = some s) (x : Value) : foldedSetIterable e env x = pure x := by
 cases e with
 | Set a b c => cases h
 | _ => rfl
theorem shp_base {attr : Str} {w : Sem Value} (h : shpOf o = some s) (hs : s ≠ .zc) : attributeBase o attr env w = w := by
 cases o with
 | Call f a k p =>
  cases f with
  | Name x q =>
   cases a with
   | nil =>
    cases k with
    | nil => exact absurd (Option.some.inj h).symm hs
    | cons _ _ => rfl
   | cons _ _ => rfl
  | _ => rfl
 | _ => rfl
theorem tst_ok (h : tstOf e = true) (whole : Sem Value) : isTrue e env whole = (do let v <- whole; standAt e.pos; holding [v] (truthy v)) := by
 cases e with
 | UnaryOp op x p =>
  cases op with
  | Not => cases h
  | _ => rfl
 | BoolOp a b c => cases h
 | IfExp a b c d => cases h
 | Compare a b c d => cases h
 | _ => rfl
end
def br (b : Bool) (A B : Prop) : Prop := (b = true -> A) /\ (b = false -> B)
theorem brT {A B : Prop} (h : A) : br true A B := ⟨fun _ => h, fun z => nomatch z⟩
theorem brF {A B : Prop} (h : B) : br false A B := ⟨fun z => (nomatch z), fun _ => h⟩
theorem br_d {c A B : Prop} [Decidable c] (h1 : c -> A) (h2 : ¬ c -> B) : br (decide c) A B := ⟨fun z => h1 (of_decide_eq_true z), fun z => h2 (of_decide_eq_false z)⟩
theorem br_n {c A B : Prop} [Decidable c] (h1 : ¬ c -> A) (h2 : c -> B) : br (!decide c) A B :=
 ⟨fun z => h1 (by simpa using z), fun z => h2 (by simpa using z)⟩
def rTru (K : Fg) (x : V) (H : Hp) (Q : Bool -> Hp -> Prop) : Prop := match x with
 | .bl b => Q b H
 | .non => Q false H
 | .int i => Q (i != 0) H
 | .str y => y.length <= sizeLine /\ Q ((y.length : Int) != 0) H
 | .ref p => ∃ k, TruV K (.ref p) H k /\ Q k H
 | _ => False
theorem rTru_ok {K : Fg} {x : V} {H : Hp} {Q : Bool -> Hp -> Prop} (h : rTru K x H Q) : ∃ k, TruV K x H k /\ Q k H := by
 cases x with
 | bl b => exact ⟨b, rfl, h⟩
 | non => exact ⟨false, rfl, h⟩
 | int i => exact ⟨_, rfl, h⟩
 | str y => exact ⟨_, ⟨h.1, rfl⟩, h.2⟩
 | ref p => exact h
 | byt _ => exact h.elim
 | flt _ => exact h.elim
 | ty _ => exact h.elim
theorem tru_run {X : Cx} : TruR X (rTru X.K) := fun pins s σ H x v Q I rx h => tru_ok pins s σ H x v Q I rx (rTru_ok h)
def truT (K : Fg) (t : TE) : TT := fun σ H Q => t σ H fun x H' => rTru K x H' Q
theorem pt_tru {X : Cx} {a : Expr} {ta : TE} (ha : PE X a ta) (he : tstOf a = true) : PT X a (truT X.K ta) := by
 intro pins s σ H Q I h
 exact isTrue_plain (thn (ha pins s σ H _ I h) fun v s1 ⟨x, H1, I1, r1, q1⟩ => tru_run pins s1 σ H1 x v Q I1 r1 q1) (tst_ok he _)
theorem PE.imp {X : Cx} {e : Expr} {t t' : TE} (h : PE X e t) (f : ∀ σ H Q, t' σ H Q -> t σ H Q) : PE X e t' := fun pins s σ H Q I q => h pins s σ H Q I (f σ H Q q)
structure EX (K : Fg) where
 t : XS -> TE
 tt : XS -> TT
 m : Sc -> Expr -> Bool
 q : Rt -> Prop
 s : Shp
 ok : ∀ (X : Cx) (C : Sc) (E : XS) (e : Expr), X.K = K -> Gd X C -> Thr X E -> q (rtOf X) -> m C e = true -> PE X e (t E)
 okT : ∀ (X : Cx) (C : Sc) (E : XS) (e : Expr), X.K = K -> Gd X C -> Thr X E -> q (rtOf X) -> m C e = true -> PT X e (tt E)
 sok : ∀ (C : Sc) (e : Expr), m C e = true -> shpOf e = some s
def mkE {K : Fg} (t : XS -> TE) (m : Sc -> Expr -> Bool) (q : Rt -> Prop) (s : Shp)
  (ok : ∀ (X : Cx) (C : Sc) (E : XS) (e : Expr), X.K = K -> Gd X C -> Thr X E -> q (rtOf X) -> m C e = true -> PE X e (t E))
  (sok : ∀ (C : Sc) (e : Expr), m C e = true -> shpOf e = some s) (hT : ∀ (C : Sc) (e : Expr), m C e = true -> tstOf e = true) : EX K :=
 ⟨t, fun E => truT K (t E), m, q, s, ok, fun X C E e hK G hE hq hm => by subst hK; exact pt_tru (ok X C E e rfl G hE hq hm) (hT C e hm), sok⟩
def mkE2 {K : Fg} (t : XS -> TE) (m : Sc -> Expr -> Bool) (q : Rt -> Prop) (s : Shp)
  (ok : ∀ (X : Cx) (C : Sc) (E : XS) (e : Expr), X.K = K -> Gd X C -> Thr X E -> q (rtOf X) -> m C e = true -> PE X e (t E))
  (both : ∀ (C : Sc) (e : Expr), m C e = true -> shpOf e = some s /\ tstOf e = true) : EX K := mkE t m q s ok (fun C e h => (both C e h).1) fun C e h => (both C e h).2
section
variable {K : Fg}
def tV (i : Nat) : TE := fun σ H Q => match σ[i]? with
 | some (some v) => Q v H
 | _ => False
def visB : Option NameKind -> Bool
 | some .local => true
 | some .cell => true
 | some .free => true
 | _ => false
theorem visB_of {sc : Scope} {x : Str} (h : visB (sc.names.lookup x) = true) : Vis sc x := by
 unfold Vis
 cases e : sc.names.lookup x with
 | none => rw [e] at h; cases h
 | some k =>
  cases k with
  | «local» => exact .inl rfl
  | cell => exact .inr (.inl rfl)
  | free => exact .inr (.inr rfl)
  | globalExplicit => rw [e] at h; cases h
  | globalImplicit => rw [e] at h; cases h
theorem ne_of_bne {x y : Str} (h : (x != y) = true) : (x == y) = false := by
 cases e : x == y with
 | false => rfl
 | true => rw [bne, e] at h; cases h
def var (i : Nat) : EX K := mkE2 (fun _ => tV i)
 (fun C e => match e with
  | .Name x _ => C.N[i]? == some x && (visB (C.nm.lookup x) && (x != "__debug__" && x != "__classdict__"))
  | _ => false) (fun _ => True) .pl
 (fun X C E e hK G hE hq hm => by
  cases e with
  | Name x p =>
   simp only [Bool.and_eq_true] at hm
   obtain ⟨h1, h2, h3, h4⟩ := hm
   refine PE.imp (pe_var (i := i) (by rw [G.N]; exact eq_of_beq h1) (visB_of (by rw [G.nm]; exact h2)) (ne_of_bne h3) (ne_of_bne h4)) fun σ H Q h => ?_
   unfold tV at h
   split at h
   ·exact ⟨_, by assumption, h⟩
   ·exact h.elim
  | _ => exact ff hm)
 (fun C e hm => by cases e with | Name x p => exact ⟨rfl, rfl⟩ | _ => exact ff hm)
def cst (v : V) : EX K := mkE2 (fun _ => tC v)
 (fun _ e => match e with
  | .Constant c _ _ => decide (constV c = some v)
  | _ => false) (fun _ => True) .pl
 (fun X C E e hK G hE hq hm => by
  cases e with
  | Constant c k p => exact pe_constV (of_decide_eq_true hm)
  | _ => exact ff hm)
 (fun C e hm => by cases e with | Constant c k p => exact ⟨rfl, rfl⟩ | _ => exact ff hm)
def glB (C : Sc) (x y : Str) : Bool := y == x && (C.nm.lookup x == some .globalImplicit && x != "__debug__")
theorem glB_eq {C : Sc} {x y : Str} (h : glB C x y = true) : y = x := by
 unfold glB at h
 simp only [Bool.and_eq_true] at h
 exact eq_of_beq h.1
theorem glB_gl {X : Cx} {C : Sc} {x y : Str} (G : Gd X C) (h : glB C x y = true) : Gl X x /\ (x == ("__debug__" : Str)) = false := by
 unfold glB at h
 simp only [Bool.and_eq_true] at h
 obtain ⟨_, h2, h3⟩ := h
 exact ⟨by show X.env.scope.names.lookup x = _; rw [G.nm]; exact eq_of_beq h2, ne_of_bne h3⟩
def glb (x : Str) (v : V) : EX K := mkE2 (fun _ => tC v)
 (fun C e => match e with
  | .Name y _ => glB C x y
  | _ => false) (fun R => GlAt R x v) .pl
 (fun X C E e hK G hE hq hm => by
  cases e with
  | Name y p =>
   obtain ⟨u, h1, h2⟩ := hq
   have e := glB_eq hm
   subst e
   obtain ⟨g, d⟩ := glB_gl G hm
   exact pe_glob g h1 h2 d
  | _ => exact ff hm)
 (fun C e hm => by cases e with | Name x p => exact ⟨rfl, rfl⟩ | _ => exact ff hm)
def bty (x : Str) (T : String) (hb : bootBuiltins x = some (.type T)) (hi : x ∈ blts) (hn : x ≠ "__name__") : EX K := mkE2 (fun _ => tC (.ty T))
 (fun C e => match e with
  | .Name y _ => glB C x y
  | _ => false) (fun _ => True) .pl
 (fun X C E e hK G hE hq hm => by
  cases e with
  | Name y p =>
   have e := glB_eq hm
   subst e
   obtain ⟨g, d⟩ := glB_gl G hm
   exact pe_bltn g (G.bl _ hi) hb rfl hn d
  | _ => exact ff hm)
 (fun C e hm => by cases e with | Name x p => exact ⟨rfl, rfl⟩ | _ => exact ff hm)
def iOp (f : Int -> Int -> Hp -> (V -> Hp -> Prop) -> Prop) : R2 := fun x y H Q => match x with
 | .int i => (match y with
  | .int j => f i j H Q
  | _ => False)
 | _ => False
theorem iOp_of {f : Int -> Int -> Hp -> (V -> Hp -> Prop) -> Prop} {x y : V} {H : Hp} {Q : V -> Hp -> Prop} (h : iOp f x y H Q) : ∃ i j, x = .int i /\ y = .int j /\ f i j H Q := by
 cases x with
 | int i => cases y with
  | int j => exact ⟨i, j, rfl, rfl, h⟩
  | _ => exact False.elim h
 | _ => exact False.elim h
def rAdd (K : Fg) : R2 := fun x y H Q => match x with
 | .int i => (match y with
  | .int j => Q (.int (i + j)) H
  | .bl k => Q (.int (i + b2i k)) H
  | _ => False)
 | .str a => (match y with
  | .str b => a.length + b.length <= sizeLine /\ Q (.str (a ++ b)) H
  | _ => False)
 | .ref a => (match y with
  | .ref b => rCat (.ref a) (.ref b) H Q \/ rCatT K (.ref a) (.ref b) H Q \/ rCatT0 K (.ref a) (.ref b) H Q
  | _ => False)
 | _ => False
def rMul : R2 := fun x y H Q => match y with
 | .int j => (match x with
  | .int i => IntMulOk i j /\ Q (.int (i * j)) H
  | .ref a => rRep (.ref a) (.int j) H Q
  | .str a => CMulS a j /\ Q (.str (Txt.mul a j)) H
  | _ => False)
 | _ => False
def rBin (K : Fg) : Operator -> R2
 | .Add => rAdd K
 | .Sub => iOp fun i j H Q => Q (.int (i - j)) H
 | .Mult => rMul
 | .FloorDiv => iOp fun i j H Q => CDv i j /\ Q (.int (i / j)) H
 | .Mod => iOp fun i j H Q => 0 < j /\ Q (.int (i % j)) H
 | .Pow => iOp fun i j H Q => CPw i j /\ Q (.int (i ^ j.toNat)) H
 | _ => fun _ _ _ _ => False
theorem bin_ok {X : Cx} (op : Operator) : OpR X (binaryOp op) (rBin X.K op) := by
 intro pins s σ H x y v u Q I rx ry h
 cases op with
 | Add =>
  cases x with
  | int i => cases y with
   | int j => exact op_add pins s σ H _ _ v u Q I rx ry ⟨_, _, rfl, rfl, h⟩
   | bl k => exact op_add_ib pins s σ H _ _ v u Q I rx ry ⟨_, _, rfl, rfl, h⟩
   | _ => exact False.elim h
  | str a => cases y with
   | str b => exact op_add_str pins s σ H _ _ v u Q I rx ry ⟨_, _, rfl, rfl, h.1, h.2⟩
   | _ => exact False.elim h
  | ref a => cases y with
   | ref b =>
    rcases h with h | h | h
    ·exact op_cat pins s σ H _ _ v u Q I rx ry h
    ·exact op_catT pins s σ H _ _ v u Q I rx ry h
    ·exact op_catT0 pins s σ H _ _ v u Q I rx ry h
   | _ => exact False.elim h
  | _ => exact False.elim h
 | Sub => exact op_sub pins s σ H _ _ v u Q I rx ry (iOp_of (f := fun i j H Q => Q (.int (i - j)) H) h)
 | Mult =>
  cases y with
  | int j => cases x with
   | int i => exact op_mulA pins s σ H _ _ v u Q I rx ry ⟨_, _, rfl, rfl, h.1, h.2⟩
   | ref a => exact op_rep pins s σ H _ _ v u Q I rx ry h
   | str a => exact op_mulS pins s σ H _ _ v u Q I rx ry ⟨_, _, rfl, rfl, h.1, h.2⟩
   | _ => exact False.elim h
  | _ => exact False.elim h
 | FloorDiv => exact op_fdivA pins s σ H _ _ v u Q I rx ry (iOp_of (f := fun i j H Q => CDv i j /\ Q (.int (i / j)) H) h)
 | Mod => exact op_mod pins s σ H _ _ v u Q I rx ry (iOp_of (f := fun i j H Q => 0 < j /\ Q (.int (i % j)) H) h)
 | Pow => exact op_powA pins s σ H _ _ v u Q I rx ry (iOp_of (f := fun i j H Q => CPw i j /\ Q (.int (i ^ j.toNat)) H) h)
 | _ => exact False.elim h
def bin (op : Operator) (a b : EX K) : EX K := mkE2 (fun E => tOp (rBin K op) (a.t E) (b.t E))
 (fun C e => match e with
  | .BinOp l o r _ => decide (o = op) && (a.m C l && b.m C r)
  | _ => false) (fun R => a.q R /\ b.q R) .pl
 (fun X C E e hK G hE hq hm => by
  subst hK
  cases e with
  | BinOp l o r p =>
   simp only [Bool.and_eq_true] at hm
   obtain ⟨h1, h2, h3⟩ := hm
   have e := of_decide_eq_true h1
   subst e
   exact pe_op (bin_ok _) (a.ok X C E l rfl G hE hq.1 h2) (b.ok X C E r rfl G hE hq.2 h3)
  | _ => exact ff hm)
 (fun C e hm => by cases e with | BinOp l o r p => exact ⟨rfl, rfl⟩ | _ => exact ff hm)
def rNeg : V -> Hp -> VK -> Prop
 | .int i, H, Q => Q (.int (-i)) H
 | _, _, _ => False
def neg (a : EX K) : EX K := mkE (fun E => tUn rNeg (a.t E))
 (fun C e => match e with
  | .UnaryOp .USub l _ => a.m C l
  | _ => false) a.q .pl
 (fun X C E e hK G hE hq hm => by
  cases e with
  | UnaryOp o l p =>
   cases o with
   | USub =>
    refine pe_un (fun pins s σ H x v Q I rx h => ?_) (a.ok X C E l hK G hE hq hm)
    unfold rNeg at h
    split at h
    ·exact un_neg pins s σ H _ v Q I rx ⟨_, rfl, h⟩
    ·exact h.elim
   | _ => exact ff hm
  | _ => exact ff hm)
 (fun C e hm => by cases e with | UnaryOp o l p => rfl | _ => exact ff hm)
 (fun C e hm => by cases e with | UnaryOp o l p => (cases o with | USub => rfl | _ => exact ff hm) | _ => exact ff hm)
theorem op_isB {X : Cx} : OpR X (compareOp .Is) (fun x y H Q => ∃ c d, x = .bl c /\ y = .bl d /\ Q (.bl (c == d)) H) := by
 intro pins s σ H x y v u Q I rx ry h
 obtain ⟨c, d, rfl, rfl, q⟩ := h
 cases (show v = Value.bool c from rx)
 cases (show u = Value.bool d from ry)
 exact is_bool ⟨.bl _, H, I, rfl, q⟩
theorem op_isnotB {X : Cx} : OpR X (compareOp .IsNot) (fun x y H Q => ∃ c d, x = .bl c /\ y = .bl d /\ Q (.bl (c != d)) H) := by
 intro pins s σ H x y v u Q I rx ry h
 obtain ⟨c, d, rfl, rfl, q⟩ := h
 cases (show v = Value.bool c from rx)
 cases (show u = Value.bool d from ry)
 exact isnot_bool ⟨.bl _, H, I, rfl, q⟩
def rIs (f : Bool -> Bool) : R2 := fun x y H Q => match y with
 | .non => Q (.bl (f (decide (x = .non)))) H
 | .bl d => (match x with
  | .bl c => Q (.bl (f (c == d))) H
  | _ => False)
 | _ => False
def rInS (K : Fg) (n : Bool) (f : Bool -> Bool) : R2 := fun x y H Q => match y with
 | .ref b => rIn K n x (.ref b) H Q
 | .str j => (match x with
  | .str i => Q (.bl (f (!(Builtin.Str.occurrences j i 0 j.length 1).isEmpty))) H
  | _ => False)
 | _ => False
def rCmp (K : Fg) : CmpOp -> R2
 | .Eq => fun x y H Q => (scal x y = true /\ Q (.bl (decide (x = y))) H) \/ rEqA x y H Q \/ rEqN x y H Q
 | .NotEq => fun x y H Q => (scal x y = true /\ Q (.bl (!decide (x = y))) H) \/ rNeA x y H Q \/ rNeN x y H Q
 | .Lt => iOp fun i j H Q => Q (.bl (decide (i < j))) H
 | .LtE => iOp fun i j H Q => Q (.bl (decide (i <= j))) H
 | .Gt => iOp fun i j H Q => Q (.bl (decide (j < i))) H
 | .GtE => iOp fun i j H Q => Q (.bl (decide (j <= i))) H
 | .Is => rIs fun b => b
 | .IsNot => rIs fun b => !b
 | .In => rInS K false fun b => b
 | .NotIn => rInS K true fun b => !b
theorem cmp_ok {X : Cx} (hu : X.A.units + 64 < cLine) (op : CmpOp) : OpR X (compareOp op) (rCmp X.K op) := by
 intro pins s σ H x y v u Q I rx ry h
 cases op with
 | Eq =>
  rcases h with h | h | h
  ·exact op_eq pins s σ H _ _ v u Q I rx ry h
  ·exact op_eqA hu pins s σ H _ _ v u Q I rx ry h
  ·exact op_eqN hu pins s σ H _ _ v u Q I rx ry h
 | NotEq =>
  rcases h with h | h | h
  ·exact op_ne pins s σ H _ _ v u Q I rx ry h
  ·exact op_neA hu pins s σ H _ _ v u Q I rx ry h
  ·exact op_neN hu pins s σ H _ _ v u Q I rx ry h
 | Lt => exact op_lt pins s σ H _ _ v u Q I rx ry (iOp_of (f := fun i j H Q => Q (.bl (decide (i < j))) H) h)
 | LtE => exact op_le pins s σ H _ _ v u Q I rx ry (iOp_of (f := fun i j H Q => Q (.bl (decide (i <= j))) H) h)
 | Gt => exact op_gt pins s σ H _ _ v u Q I rx ry (iOp_of (f := fun i j H Q => Q (.bl (decide (j < i))) H) h)
 | GtE => exact op_ge pins s σ H _ _ v u Q I rx ry (iOp_of (f := fun i j H Q => Q (.bl (decide (j <= i))) H) h)
 | Is =>
  cases y with
  | non => exact op_isN pins s σ H _ _ v u Q I rx ry ⟨rfl, h⟩
  | bl d => cases x with
   | bl c => exact op_isB pins s σ H _ _ v u Q I rx ry ⟨_, _, rfl, rfl, h⟩
   | _ => exact False.elim h
  | _ => exact False.elim h
 | IsNot =>
  cases y with
  | non => exact op_notN pins s σ H _ _ v u Q I rx ry ⟨rfl, h⟩
  | bl d => cases x with
   | bl c => exact op_isnotB pins s σ H _ _ v u Q I rx ry ⟨_, _, rfl, rfl, h⟩
   | _ => exact False.elim h
  | _ => exact False.elim h
 | In =>
  cases y with
  | ref b => exact op_in_seq pins s σ H _ _ v u Q I rx ry h
  | str j => cases x with
   | str i => exact op_in_str pins s σ H _ _ v u Q I rx ry ⟨_, _, rfl, rfl, h⟩
   | _ => exact False.elim h
  | _ => exact False.elim h
 | NotIn =>
  cases y with
  | ref b => exact op_notIn_seq pins s σ H _ _ v u Q I rx ry h
  | str j => cases x with
   | str i => exact op_notIn_str pins s σ H _ _ v u Q I rx ry ⟨_, _, rfl, rfl, h⟩
   | _ => exact False.elim h
  | _ => exact False.elim h
def bV (Q : Bool -> Hp -> Prop) : V -> Hp -> Prop
 | .bl b, H => Q b H
 | _, _ => False
def rB (r : R2) : V -> V -> Hp -> (Bool -> Hp -> Prop) -> Prop := fun x y H Q => r x y H (bV Q)
theorem bl_of {z : V} {H : Hp} {Q : Bool -> Hp -> Prop} (h : bV Q z H) : ∃ b, z = .bl b /\ Q b H := by
 cases z with
 | bl b => exact ⟨b, rfl, h⟩
 | _ => exact h.elim
def cmp (op : CmpOp) (a b : EX K) : EX K where
 t := fun E => tOp (rCmp K op) (a.t E) (b.t E)
 tt := fun E σ H Q => a.t E σ H fun x H1 => b.t E σ H1 fun y H2 => rB (rCmp K op) x y H2 Q
 m := fun C e => match e with
  | .Compare l [o] [r] _ => decide (o = op) && (a.m C l && b.m C r)
  | _ => false
 q := fun R => a.q R /\ b.q R
 s := .pl
 ok := fun X C E e hK G hE hq hm => by
  subst hK
  cases e with
  | Compare l os rs p =>
   match os, rs, hm with
   | [o], [r], hm =>
    simp only [Bool.and_eq_true] at hm
    obtain ⟨h1, h2, h3⟩ := hm
    have e := of_decide_eq_true h1
    subst e
    exact pe_cmpR (cmp_ok G.hu _) (a.ok X C E l rfl G hE hq.1 h2) (b.ok X C E r rfl G hE hq.2 h3) (shp_mark (b.sok C r h3))
  | _ => exact ff hm
 okT := fun X C E e hK G hE hq hm => by
  subst hK
  cases e with
  | Compare l os rs p =>
   match os, rs, hm with
   | [o], [r], hm =>
    simp only [Bool.and_eq_true] at hm
    obtain ⟨h1, h2, h3⟩ := hm
    have e := of_decide_eq_true h1
    subst e
    intro pins s σ H Q I hw
    refine wpAny_isTrue_Compare1 (thn (a.ok X C E l rfl G hE hq.1 h2 pins s σ H _ I hw) fun v s1 ⟨x, H1, I1, r1, q1⟩ => thn (b.ok X C E r rfl G hE hq.2 h3 pins s1 σ H1 _ I1 q1) fun u s2 ⟨y, H2, I2, r2, q2⟩ =>
     thn (cmp_ok G.hu _ pins s2 σ H2 x y v u _ I2 r1 r2 q2) fun c s3 ⟨z, H3, I3, r3, q3⟩ => ?_) (shp_mark (b.sok C r h3))
    obtain ⟨d, rfl, q⟩ := bl_of q3
    cases r3
    exact wpAny_truthy_bool ⟨H3, I3, q⟩
  | _ => exact ff hm
 sok := fun C e hm => by cases e with | Compare l o r p => rfl | _ => exact ff hm
def notE (a : EX K) : EX K where
 t := fun E σ H Q => a.t E σ H fun x H1 => rTru K x H1 fun b H2 => Q (.bl (!b)) H2
 tt := fun E σ H Q => a.tt E σ H fun b H1 => Q (!b) H1
 m := fun C e => match e with
  | .UnaryOp .Not l _ => a.m C l
  | _ => false
 q := a.q
 s := .pl
 ok := fun X C E e hK G hE hq hm => by
  subst hK
  cases e with
  | UnaryOp o l p =>
   cases o with
   | Not =>
    intro pins s σ H Q I h
    refine UnaryOp_ (thn (a.ok X C E l rfl G hE hq hm pins s σ H _ I h) fun v s1 ⟨x, H1, I1, r1, q1⟩ => ?_)
    exact not_of (thn (tru_run pins s1 σ H1 x v _ I1 r1 q1) fun b s2 ⟨H2, I2, q2⟩ => ⟨.bl (!b), H2, I2, rfl, q2⟩)
   | _ => exact ff hm
  | _ => exact ff hm
 okT := fun X C E e hK G hE hq hm => by
  cases e with
  | UnaryOp o l p =>
   cases o with
   | Not => exact pt_not (a.okT X C E l hK G hE hq hm)
   | _ => exact ff hm
  | _ => exact ff hm
 sok := fun C e hm => by cases e with | UnaryOp o l p => rfl | _ => exact ff hm
def tBop (K : Fg) (op : BoolOp) (E : XS) : TE -> List (EX K) -> TE
 | t, [] => t
 | t, y :: ys => fun σ H Q => t σ H fun x H1 => rTru K x H1 fun b H2 => match op with
  | .And => br b (tBop K op E (y.t E) ys σ H2 Q) (Q x H2)
  | .Or => br b (Q x H2) (tBop K op E (y.t E) ys σ H2 Q)
def tBopT (K : Fg) (op : BoolOp) (E : XS) : TT -> List (EX K) -> TT
 | t, [] => t
 | t, y :: ys => fun σ H Q => t σ H fun b H1 => match op with
  | .And => br b (tBopT K op E (y.tt E) ys σ H1 Q) (Q false H1)
  | .Or => br b (Q true H1) (tBopT K op E (y.tt E) ys σ H1 Q)
def mAs : List (EX K) -> Sc -> List Expr -> Bool
 | [], _, [] => true
 | x :: xs, C, e :: es => x.m C e && mAs xs C es
 | _, _, _ => false
def qAs : List (EX K) -> Rt -> Prop
 | [], _ => True
 | x :: xs, R => x.q R /\ qAs xs R
theorem bop_ok {X : Cx} {C : Sc} {E : XS} {pos : Pos} (op : BoolOp) (G : Gd X C) (hE : Thr X E) : ∀ (xs : List (EX X.K)) (e : Expr) (es : List Expr) (t : TE), PE X e t -> qAs xs (rtOf X) -> mAs xs C es = true -> PE X (.BoolOp op (e :: es) pos) (tBop X.K op E t xs)
 | [], e, [], t, he, _, _ => pe_one he
 | [], e, _ :: _, t, he, _, hm => nomatch hm
 | x :: xs, e, [], t, he, _, hm => nomatch hm
 | x :: xs, e, e2 :: es, t, he, hq, hm => by
  have hm' : (x.m C e2 && mAs xs C es) = true := hm
  simp only [Bool.and_eq_true] at hm'
  have h2 := bop_ok (pos := pos) op G hE xs e2 es (x.t E) (x.ok X C E e2 rfl G hE hq.1 hm'.1) hq.2 hm'.2
  cases op with
  | And =>
   intro pins s σ H Q I h
   refine BoolOp_and (thn (he pins s σ H _ I h) fun v s1 ⟨y, H1, I1, r1, q1⟩ => ?_)
   refine thn (tru_run pins s1 σ H1 y v _ I1 r1 q1) fun b s2 ⟨H2, I2, q2⟩ => ?_
   cases b with
   | true => exact h2 pins s2 σ H2 Q I2 (q2.1 rfl)
   | false => exact ⟨y, H2, I2, r1, q2.2 rfl⟩
  | Or =>
   intro pins s σ H Q I h
   refine BoolOp_or (thn (he pins s σ H _ I h) fun v s1 ⟨y, H1, I1, r1, q1⟩ => ?_)
   refine thn (tru_run pins s1 σ H1 y v _ I1 r1 q1) fun b s2 ⟨H2, I2, q2⟩ => ?_
   cases b with
   | true => exact ⟨y, H2, I2, r1, q2.1 rfl⟩
   | false => exact h2 pins s2 σ H2 Q I2 (q2.2 rfl)
theorem bopT_ok {X : Cx} {C : Sc} {E : XS} {pos : Pos} (op : BoolOp) (G : Gd X C) (hE : Thr X E) : ∀ (xs : List (EX X.K)) (e : Expr) (es : List Expr) (t : TT), PT X e t -> qAs xs (rtOf X) -> mAs xs C es = true -> PW X (.BoolOp op (e :: es) pos) (tBopT X.K op E t xs)
 | [], e, [], t, he, _, _ => by
  cases op with
  | And => exact pw_and1 he
  | Or => exact pw_or1 he
 | [], e, _ :: _, t, he, _, hm => nomatch hm
 | x :: xs, e, [], t, he, _, hm => nomatch hm
 | x :: xs, e, e2 :: es, t, he, hq, hm => by
  have hm' : (x.m C e2 && mAs xs C es) = true := hm
  simp only [Bool.and_eq_true] at hm'
  have h2 := bopT_ok (pos := pos) op G hE xs e2 es (x.tt E) (x.okT X C E e2 rfl G hE hq.1 hm'.1) hq.2 hm'.2
  cases op with
  | And =>
   intro wh pins s σ H Q I h
   refine isTrue_and (thn (he pins s σ H _ I h) fun b s1 ⟨H1, I1, q1⟩ => ?_)
   cases b with
   | true => exact h2 wh pins s1 σ H1 Q I1 (q1.1 rfl)
   | false => exact ⟨H1, I1, q1.2 rfl⟩
  | Or =>
   intro wh pins s σ H Q I h
   refine isTrue_or (thn (he pins s σ H _ I h) fun b s1 ⟨H1, I1, q1⟩ => ?_)
   cases b with
   | true => exact ⟨H1, I1, q1.1 rfl⟩
   | false => exact h2 wh pins s1 σ H1 Q I1 (q1.2 rfl)
def bop (op : BoolOp) (x : EX K) (xs : List (EX K)) : EX K where
 t := fun E => tBop K op E (x.t E) xs
 tt := fun E => tBopT K op E (x.tt E) xs
 m := fun C e => match e with
  | .BoolOp o (l :: ls) _ => decide (o = op) && (x.m C l && mAs xs C ls)
  | _ => false
 q := fun R => x.q R /\ qAs xs R
 s := .pl
 ok := fun X C E e hK G hE hq hm => by
  subst hK
  cases e with
  | BoolOp o ls p =>
   cases ls with
   | nil => cases hm
   | cons l ls =>
    simp only [Bool.and_eq_true] at hm
    obtain ⟨h1, h2, h3⟩ := hm
    have e := of_decide_eq_true h1
    subst e
    exact bop_ok _ G hE xs l ls _ (x.ok X C E l rfl G hE hq.1 h2) hq.2 h3
  | _ => exact ff hm
 okT := fun X C E e hK G hE hq hm => by
  subst hK
  cases e with
  | BoolOp o ls p =>
   cases ls with
   | nil => cases hm
   | cons l ls =>
    simp only [Bool.and_eq_true] at hm
    obtain ⟨h1, h2, h3⟩ := hm
    have e := of_decide_eq_true h1
    subst e
    exact (bopT_ok _ G hE xs l ls _ (x.okT X C E l rfl G hE hq.1 h2) hq.2 h3).pt
  | _ => exact ff hm
 sok := fun C e hm => by cases e with | BoolOp o l p => rfl | _ => exact ff hm
def andE (x : EX K) (xs : List (EX K)) : EX K := bop .And x xs
def orE (x : EX K) (xs : List (EX K)) : EX K := bop .Or x xs
end
end L2.Na
namespace L2.Na
open PySem PySem.Spec PyProof.Rows L2 L2.L3
section
variable {K : Fg}
def tAs : List (EX K) -> XS -> TA
 | [], _ => tNil
 | x :: xs, E => tCons (x.t E) (tAs xs E)
theorem mAs_cons {x : EX K} {xs : List (EX K)} {C : Sc} {e : Expr} {es : List Expr} (h : mAs (x :: xs) C (e :: es) = true) : x.m C e = true /\ mAs xs C es = true := by
 have h' : (x.m C e && mAs xs C es) = true := h
 simpa only [Bool.and_eq_true] using h'
theorem as_ok {X : Cx} {C : Sc} {E : XS} (G : Gd X C) (hE : Thr X E) : ∀ (xs : List (EX X.K)) (es : List Expr), qAs xs (rtOf X) -> mAs xs C es = true -> PA X es (tAs xs E)
 | [], [], _, _ => pa_nil
 | [], _ :: _, _, hm => nomatch hm
 | _ :: _, [], _, hm => nomatch hm
 | x :: xs, e :: es, hq, hm => pa_cons (x.ok X C E e rfl G hE hq.1 (mAs_cons hm).1) (as_ok G hE xs es hq.2 (mAs_cons hm).2) (shp_star (x.sok C e (mAs_cons hm).1))
theorem as_plain {C : Sc} {env : Env} {pos : Pos} : ∀ (xs : List (EX K)) (es : List Expr), mAs xs C es = true -> (backTo pos (starEach es env)).any (·.1) = false
 | [], [], _ => rfl
 | [], _ :: _, hm => nomatch hm
 | _ :: _, [], hm => nomatch hm
 | x :: xs, e :: es, hm => by
  rw [shp_star (x.sok C e (mAs_cons hm).1)]
  show (false || (backTo pos (starEach es env)).any (·.1)) = false
  rw [as_plain xs es (mAs_cons hm).2]
  rfl
theorem as_none {C : Sc} {env : Env} {pos : Pos} : ∀ (xs : List (EX K)) (es : List Expr), mAs xs C es = true -> (backTo pos (starEach es env)).all (fun x => !x.1) = true
 | [], [], _ => rfl
 | [], _ :: _, hm => nomatch hm
 | _ :: _, [], hm => nomatch hm
 | x :: xs, e :: es, hm => by
  rw [shp_star (x.sok C e (mAs_cons hm).1)]
  show (true && (backTo pos (starEach es env)).all (fun x => !x.1)) = true
  rw [as_none xs es (mAs_cons hm).2]
  rfl
def shA : List (EX K) -> Shp
 | [] => .zc
 | _ => .pl
theorem shA_ok {C : Sc} {y : Str} {p q : Pos} : ∀ (xs : List (EX K)) (es : List Expr), mAs xs C es = true -> shpOf (.Call (.Name y p) es [] q) = some (shA xs)
 | [], [], _ => rfl
 | [], _ :: _, hm => nomatch hm
 | _ :: _, [], hm => nomatch hm
 | _ :: _, _ :: _, _ => rfl
def tCallS (sp : Sp) (E : XS) (t : TA) : TE := fun σ H Q => t σ H fun vs H1 => sp vs H1 Q (E σ)
theorem run_own {X : Cx} {E : XS} {k : Nat} {f : Addr} {fd : FuncData} {ps : List Str} {sp : Sp} {pins : List (Addr × Obj)} {σ : St} {H1 : Hp} {s1 : Shared} {Q1 : VK} {us : List Value} {vs : List V} (hE : Thr X E) (F : FnOk X.prog X.w X.K X.mg X.base (CXF X.prog X.w) k f fd ps sp)
  (room : Room k X.A) (bd : Binds X.K fd ps []) (I1 : Inv X pins σ H1 s1) (rl : Vals vs us) (pr : sp vs H1 Q1 (E σ)) : wpAny (model X.prog X.w) X.A (PySem.call (.ref f) us) (EP X pins σ Q1) X.xe s1 := by
 have ln : (us ++ []).length = ps.length := by rw [List.append_nil, <- rl.length]; exact F.len _ _ _ _ pr
 have b := bd s1 us I1.kIn ln
 rw [List.append_nil] at b
 refine wpAny_call (codeAny_mono (F.run X.A X.stack s1 H1 ⟨us, []⟩ us vs Q1 (E σ) room I1.env0 b rl pr) fun res s2 fin => ?_)
 cases res with
 | error ev => exact hE.pass pins σ H1 s1 ev s2 I1 fin
 | ok fl =>
  cases fl with
  | ret v => exact I1.after fin
  | next => exact fin.elim
  | brk => exact fin.elim
  | cont => exact fin.elim
def call (x : Str) (sp : Sp) (as : List (EX K)) : EX K := mkE (fun E => tCallS sp E (tAs as E))
 (fun C e => match e with
  | .Call (.Name y _) es [] _ => glB C x y && mAs as C es
  | _ => false) (fun R => FnAt R x sp /\ qAs as R) (shA as)
 (fun X C E e hK G hE hq hm => by
  subst hK
  cases e with
  | Call f es ks p =>
   cases f with
   | Name y py =>
    cases ks with
    | nil =>
     simp only [Bool.and_eq_true] at hm
     obtain ⟨h1, h2⟩ := hm
     have e := glB_eq h1
     subst e
     obtain ⟨g, d⟩ := glB_gl G h1
     obtain ⟨⟨k, f, fd, ps, hr, F, hb, kp, hg⟩, hqa⟩ := hq
     cases as with
     | nil =>
      cases es with
      | nil =>
       intro pins s σ H Q I h
       exact wpAny_Call_Name_kw (ld_glob I g hg (PySem.W.callWith_K0 I.kIn kp (run_own (us := []) hE F hr hb I .nil h)) d)
      | cons _ _ => cases h2
     | cons a as =>
      cases es with
      | nil => cases h2
      | cons e es =>
       intro pins s σ H Q I h
       exact wpAny_Call_Name_kw (ld_glob I g hg (PySem.W.callWith_K (h₀ := X.base) I.ok.mod.kin kp (thn (as_ok G hE (a :: as) (e :: es) hqa h2 p pins s σ H _ I h) fun us s1 ⟨vs, H1, I1, r, q⟩ => ⟨I1.kIn, run_own hE F hr hb I1 r q⟩) (shp_star (a.sok C e (mAs_cons h2).1)) (as_plain as es (mAs_cons h2).2)) d)
    | cons _ _ => cases hm
   | _ => exact ff hm
  | _ => exact ff hm)
 (fun C e hm => by
  cases e with
  | Call f es ks p =>
   cases f with
   | Name y py =>
    cases ks with
    | nil =>
     simp only [Bool.and_eq_true] at hm
     exact shA_ok as es hm.2
    | cons _ _ => cases hm
   | _ => exact ff hm
  | _ => exact ff hm)
 (fun C e hm => by cases e with | Call f es ks p => rfl | _ => exact ff hm)
def bfn (x : Str) (id : String) (r : List V -> Hp -> VK -> Prop) (ok : ∀ X : Cx, X.K = K -> X.calm = true -> X.A.units + 64 < cLine -> CallR X (.builtin id) r) (hb : bootBuiltins x = some (.builtin id)) (hi : x ∈ blts) (hn : x ≠ "__name__") (a : EX K) (as : List (EX K)) : EX K :=
 mkE (fun E => tCB r (tAs (a :: as) E))
 (fun C e => match e with
  | .Call (.Name y _) es [] _ => (C.cm && glB C x y) && mAs (a :: as) C es
  | _ => false) (fun R => qAs (a :: as) R) .pl
 (fun X C E e hK G hE hq hm => by
  subst hK
  cases e with
  | Call f es ks p =>
   cases f with
   | Name y py =>
    cases ks with
    | nil =>
     simp only [Bool.and_eq_true] at hm
     obtain ⟨⟨hcm, h1⟩, h2⟩ := hm
     have e := glB_eq h1
     subst e
     obtain ⟨g, d⟩ := glB_gl G h1
     cases es with
     | nil => cases h2
     | cons e es => exact pe_callB (ok X rfl (G.calm hcm) G.hu) g (G.bl _ hi) hb (as_ok G hE (a :: as) (e :: es) hq h2) hn d (shp_star (a.sok C e (mAs_cons h2).1)) (as_plain as es (mAs_cons h2).2)
    | cons _ _ => cases hm
   | _ => exact ff hm
  | _ => exact ff hm)
 (fun C e hm => by
  cases e with
  | Call f es ks p =>
   cases f with
   | Name y py =>
    cases ks with
    | nil =>
     simp only [Bool.and_eq_true] at hm
     exact shA_ok (a :: as) es hm.2
    | cons _ _ => cases hm
   | _ => exact ff hm
  | _ => exact ff hm)
 (fun C e hm => by cases e with | Call f es ks p => rfl | _ => exact ff hm)
def bfT (x : Str) (T : String) (r : List V -> Hp -> VK -> Prop) (ok : ∀ X : Cx, X.K = K -> X.calm = true -> X.A.units + 64 < cLine -> CallR X (.type T) r) (hb : bootBuiltins x = some (.type T)) (hi : x ∈ blts) (hn : x ≠ "__name__") (a : EX K) (as : List (EX K)) : EX K :=
 mkE (fun E => tCB r (tAs (a :: as) E))
 (fun C e => match e with
  | .Call (.Name y _) es [] _ => (C.cm && glB C x y) && mAs (a :: as) C es
  | _ => false) (fun R => qAs (a :: as) R) .pl
 (fun X C E e hK G hE hq hm => by
  subst hK
  cases e with
  | Call f es ks p =>
   cases f with
   | Name y py =>
    cases ks with
    | nil =>
     simp only [Bool.and_eq_true] at hm
     obtain ⟨⟨hcm, h1⟩, h2⟩ := hm
     have e := glB_eq h1
     subst e
     obtain ⟨g, d⟩ := glB_gl G h1
     cases es with
     | nil => cases h2
     | cons e es => exact pe_callTy (ok X rfl (G.calm hcm) G.hu) g (G.bl _ hi) hb (as_ok G hE (a :: as) (e :: es) hq h2) hn d (shp_star (a.sok C e (mAs_cons h2).1)) (as_plain as es (mAs_cons h2).2)
    | cons _ _ => cases hm
   | _ => exact ff hm
  | _ => exact ff hm)
 (fun C e hm => by
  cases e with
  | Call f es ks p =>
   cases f with
   | Name y py =>
    cases ks with
    | nil =>
     simp only [Bool.and_eq_true] at hm
     exact shA_ok (a :: as) es hm.2
    | cons _ _ => cases hm
   | _ => exact ff hm
  | _ => exact ff hm)
 (fun C e hm => by cases e with | Call f es ks p => rfl | _ => exact ff hm)
def rLen (K : Fg) : List V -> Hp -> VK -> Prop
 | [.str z], H, Q => z.length <= sizeLine /\ Q (.int z.length) H
 | [.ref a], H, Q => (∃ n, LenV K (.ref a) H n /\ Q (.int n) H) \/ ∃ kvs, H a = some (.dK kvs) /\ Q (.int kvs.length) H
 | _, _, _ => False
theorem callLenD {X : Cx} : CallR X (.builtin "len") (fun xs H Q => ∃ a kvs, xs = [V.ref a] /\ H a = some (.dK kvs) /\ Q (.int kvs.length) H) := by
 intro pins s σ H xs us Q I r h
 obtain ⟨a, kvs, rfl, ha, q⟩ := h
 obtain ⟨u, rfl, ru⟩ := vals1 r
 cases ru
 exact d_len I (.inl ha) fun t s' I' => ⟨.int kvs.length, H, I', ⟨t, rfl⟩, q⟩
theorem len_ok (X : Cx) : CallR X (.builtin "len") (rLen X.K) := by
 intro pins s σ H xs us Q I r h
 unfold rLen at h
 split at h
 ·exact call_len pins s σ H _ us Q I r ⟨_, _, rfl, ⟨h.1, rfl⟩, h.2⟩
 ·rcases h with ⟨n, h1, h2⟩ | ⟨kvs, h1, h2⟩
  ·exact call_len pins s σ H _ us Q I r ⟨_, n, rfl, h1, h2⟩
  ·exact callLenD pins s σ H _ us Q I r ⟨_, kvs, rfl, h1, h2⟩
 ·exact h.elim
def len (a : EX K) : EX K := bfn "len" "len" (rLen K) (fun X hK _ _ => by subst hK; exact len_ok X) PySem.boot_len (by decide +kernel) (by decide +kernel) a []
def sum (a : EX K) : EX K := bfn "sum" "sum" rSum (fun X hK hc _ => call_sum hc) PyProof.Rows.Boot.sum (by decide +kernel) (by decide +kernel) a []
def allE (a : EX K) : EX K := bfn "all" "all" (rAll K) (fun X hK hc _ => by subst hK; exact call_all hc) PyProof.Rows.Boot.all (by decide +kernel) (by decide +kernel) a []
def rMin2 : List V -> Hp -> VK -> Prop
 | [.int i, .int j], H, Q => Q (.int (min i j)) H
 | _, _, _ => False
def rIsiV (K : Fg) : List V -> Hp -> VK -> Prop
 | [x, .ty n], H, Q => ∃ t b, TyOf K H x t /\ PySem.W.kitOne K t (.type n) = some b /\ Q (.bl b) H
 | _, _, _ => False
theorem isi_ok (X : Cx) : CallR X (.builtin "isinstance") (rIsiV X.K) := by
 intro pins s σ H xs us Q I r h
 unfold rIsiV at h
 split at h
 ·obtain ⟨t, b, h1, h2, h3⟩ := h
  exact call_isi pins s σ H _ us Q I r ⟨_, _, t, b, rfl, h1, h2, h3⟩
 ·exact h.elim
def isi (a b : EX K) : EX K := bfn "isinstance" "isinstance" (rIsiV K) (fun X hK _ _ => by subst hK; exact isi_ok X) PyProof.Rows.Boot.isinstance (by decide +kernel) (by decide +kernel) a [b]
def tyInt : EX K := bty "int" "int" PyProof.Rows.Boot.int (by decide +kernel) (by decide +kernel)
def tyStr : EX K := bty "str" "str" PyProof.Rows.Boot.str (by decide +kernel) (by decide +kernel)
def tyBool : EX K := bty "bool" "bool" PyProof.Rows.Boot.bool (by decide +kernel) (by decide +kernel)
def tyList : EX K := bty "list" "list" PyProof.Rows.Boot.list (by decide +kernel) (by decide +kernel)
def tyTuple : EX K := bty "tuple" "tuple" PyProof.Rows.Boot.tuple (by decide +kernel) (by decide +kernel)
def rListOf (K : Fg) : List V -> Hp -> VK -> Prop
 | [.ref p], H, Q => ∃ ys, (SqL K H p ys \/ SqT K H p ys) /\ ∀ l, H l = none -> Q (.ref l) (upd H l (.lst ys))
 | _, _, _ => False
theorem list_ok (X : Cx) : CallR X (.type "list") (rListOf X.K) := by
 intro pins s σ H xs us Q I r h
 unfold rListOf at h
 split at h
 ·obtain ⟨ys, h1, h2⟩ := h
  exact call_list_of pins s σ H _ us Q I r ⟨_, ys, rfl, h1, h2⟩
 ·exact h.elim
def listE (a : EX K) : EX K := bfT "list" "list" (rListOf K) (fun X hK _ _ => by subst hK; exact list_ok X) PyProof.Rows.Boot.list (by decide +kernel) (by decide +kernel) a []
def rTupOf (K : Fg) : List V -> Hp -> VK -> Prop
 | [.ref p], H, Q => (∃ ys, SqL K H p ys /\ ∀ l, H l = none -> Q (.ref l) (upd H l (.tup ys))) \/ ∃ ys, SqT K H p ys /\ Q (.ref p) H
 | _, _, _ => False
theorem tuple_ok (X : Cx) : CallR X (.type "tuple") (rTupOf X.K) := by
 intro pins s σ H xs us Q I r h
 unfold rTupOf at h
 split at h
 ·rcases h with ⟨ys, h1, h2⟩ | ⟨ys, h1, h2⟩
  ·exact call_tuple_of pins s σ H _ us Q I r ⟨_, ys, rfl, .inl ⟨h1, h2⟩⟩
  ·exact call_tuple_of pins s σ H _ us Q I r ⟨_, ys, rfl, .inr ⟨h1, h2⟩⟩
 ·exact h.elim
def tupleE (a : EX K) : EX K := bfT "tuple" "tuple" (rTupOf K) (fun X hK _ _ => by subst hK; exact tuple_ok X) PyProof.Rows.Boot.tuple (by decide +kernel) (by decide +kernel) a []
def rInt1 : List V -> Hp -> VK -> Prop
 | [.int i], H, Q => Q (.int i) H
 | [.bl k], H, Q => Q (.int (if k then 1 else 0)) H
 | _, _, _ => False
theorem int_ok (X : Cx) : CallR X (.type "int") rInt1 := by
 intro pins s σ H xs us Q I r h
 unfold rInt1 at h
 split at h
 ·exact call_int1 pins s σ H _ us Q I r (.inl ⟨_, rfl, h⟩)
 ·exact call_int1 pins s σ H _ us Q I r (.inr ⟨_, rfl, h⟩)
 ·exact h.elim
def intE (a : EX K) : EX K := bfT "int" "int" rInt1 (fun X hK _ _ => int_ok X) PyProof.Rows.Boot.int (by decide +kernel) (by decide +kernel) a []
theorem pe_bmG {X : Cx} {o : Expr} {es : List Expr} {to : TE} {name : Str} {apos cpos : Pos} {T id : String} {r : V -> List V -> Hp -> VK -> Prop} {RR : V -> St -> Hp -> VK -> Prop} {C : Sc} {E : XS} {xs : List (EX X.K)}
  (pa : PlainAttrs T) (slot : Slot T name id) (hty : typeOf (.builtin id) = pure (.type "method_descriptor")) (hm : MtR X id r) (ho : PE X o to) (ha : PA X es (tAs xs E))
  (hR : ∀ x σ H Q, RR x σ H Q -> tyV X.K T x H /\ tAs xs E σ H fun ys H2 => r x ys H2 Q)
  (hbase : attributeBase o name X.env (eval o X.env) = eval o X.env) (hx : mAs xs C es = true) (h30 : es.length < 30) (hline : (apos.endLine == cpos.line) = true) :
  PE X (.Call (.Attribute o name apos) es [] cpos) (fun σ H Q => to σ H fun x H1 => RR x σ H1 Q) := by
 intro pins s σ H Q I h
 cases es with
 | nil =>
  refine wpAny_Call_method0_late hbase hline (thn (ho pins s σ H _ I h) fun v s1 ⟨x, H1, I1, r1, q0⟩ => ?_)
  obtain ⟨ty, q1⟩ := hR x σ H1 Q q0
  obtain ⟨h1, h2⟩ := tyV_is I1 r1 ty
  cases xs with
  | nil => exact ⟨T, id, pa, slot, hty, h1, h2, Calls.callWith_builtin rfl (PySem.evalArgs_none (hm pins s1 σ H1 x [] v [] Q I1 r1 .nil q1))⟩
  | cons _ _ => cases hx
 | cons e es =>
  cases xs with
  | nil => cases hx
  | cons a as =>
   have hs := shp_star (env := X.env) (es := es) (a.sok C e (mAs_cons hx).1)
   have hplain := as_plain (env := X.env) (pos := cpos) as es (mAs_cons hx).2
   have hfew : ((backTo cpos (starEach (e :: es) X.env)).all (fun x => !x.1) && (backToKw cpos (keywordEach [] X.env)).all (fun x => x.1.isSome)
     && decide ((e :: es).length + ([] : List Keyword).length + (if ([] : List Keyword).isEmpty then 0 else 1) < 30)) = true := by
    rw [as_none (env := X.env) (pos := cpos) (a :: as) (e :: es) hx]
    have h30' : (e :: es).length + ([] : List Keyword).length + (if ([] : List Keyword).isEmpty then 0 else 1) < 30 := h30
    rw [decide_eq_true h30']
    rfl
   refine wpAny_Call_method_late hbase hfew hline rfl (thn (ho pins s σ H _ I h) fun v s1 ⟨x, H1, I1, r1, q0⟩ => ?_)
   obtain ⟨ty, q1⟩ := hR x σ H1 Q q0
   obtain ⟨h1, h2⟩ := tyV_is I1 r1 ty
   refine ⟨T, id, pa, slot, hty, h1, h2, ?_⟩
   have hA := ha cpos pins s1 σ H1 _ I1 q1
   rw [hs] at hA ⊢
   refine Calls.callWith_builtin (by show (false || (backTo cpos (starEach es X.env)).any (·.1)) = false; rw [hplain] <;> rfl) (Calls.evalArgs_plain ?_)
   exact thn hA fun us s2 ⟨vs, H2, I2, r2, q2⟩ => hm pins s2 σ H2 x vs v us Q I2 r1 r2 q2
def methG (name : Str) (T id : String) (r : V -> List V -> Hp -> VK -> Prop) (RR : TA -> V -> St -> Hp -> VK -> Prop) (pa : PlainAttrs T) (slot : Slot T name id) (hty : typeOf (.builtin id) = pure (.type "method_descriptor")) (ok : ∀ X : Cx, X.K = K -> X.calm = true -> X.A.units + 64 < cLine -> MtR X id r)
  (hR : ∀ t x σ H Q, RR t x σ H Q -> tyV K T x H /\ t σ H fun ys H2 => r x ys H2 Q) (o : EX K) (ho : o.s ≠ .zc) (as : List (EX K)) : EX K := mkE (fun E σ H Q => o.t E σ H fun x H1 => RR (tAs as E) x σ H1 Q)
 (fun C e => match e with
  | .Call (.Attribute l y p) es [] p2 => (y == name && (C.cm && (p.endLine == p2.line && decide (es.length < 30)))) && (o.m C l && mAs as C es)
  | _ => false) (fun R => o.q R /\ qAs as R) .pl
 (fun X C E e hK G hE hq hm => by
  subst hK
  cases e with
  | Call f es ks p =>
   cases f with
   | Attribute l y py =>
    cases ks with
    | nil =>
     simp only [Bool.and_eq_true] at hm
     obtain ⟨⟨h1, hcm, h2, h3⟩, h4, h5⟩ := hm
     have e := eq_of_beq h1
     subst e
     exact pe_bmG pa slot hty (ok X rfl (G.calm hcm) G.hu) (o.ok X C E l rfl G hE hq.1 h4) (as_ok G hE as es hq.2 h5) (hR _) (shp_base (o.sok C l h4) ho) h5 (of_decide_eq_true h3) h2
    | cons _ _ => cases hm
   | _ => exact ff hm
  | _ => exact ff hm)
 (fun C e hm => by
  cases e with
  | Call f es ks p =>
   cases f with
   | Attribute l y py => rfl
   | _ => exact ff hm
  | _ => exact ff hm)
 (fun C e hm => by cases e with | Call f es ks p => rfl | _ => exact ff hm)
def RS (r : Str -> List V -> Hp -> VK -> Prop) (t : TA) : V -> St -> Hp -> VK -> Prop
 | .str z, σ, H, Q => t σ H fun ys H2 => r z ys H2 Q
 | _, _, _, _ => False
def rS (r : Str -> List V -> Hp -> VK -> Prop) : V -> List V -> Hp -> VK -> Prop
 | .str z, ys, H, Q => r z ys H Q
 | _, _, _, _ => False
def methS (name : Str) (id : String) (r : Str -> List V -> Hp -> VK -> Prop) (slot : Slot "str" name id) (hty : typeOf (.builtin id) = pure (.type "method_descriptor")) (ok : ∀ X : Cx, X.K = K -> X.calm = true -> X.A.units + 64 < cLine -> MtR X id (rS r)) (o : EX K) (ho : o.s ≠ .zc) (as : List (EX K)) : EX K :=
 methG name "str" id (rS r) (RS r) PySem.F.plainAttrs_str slot hty ok (fun t x σ H Q h => by
  cases x with
  | str z => exact ⟨rfl, h⟩
  | _ => exact h.elim) o ho as
def RL (K : Fg) (r : V -> List V -> Hp -> VK -> Prop) (t : TA) : V -> St -> Hp -> VK -> Prop
 | .ref p, σ, H, Q => (∃ xs, SqL K H p xs) /\ t σ H fun ys H2 => r (.ref p) ys H2 Q
 | _, _, _, _ => False
def methL (name : Str) (id : String) (r : V -> List V -> Hp -> VK -> Prop) (slot : Slot "list" name id) (hty : typeOf (.builtin id) = pure (.type "method_descriptor")) (ok : ∀ X : Cx, X.K = K -> X.calm = true -> X.A.units + 64 < cLine -> MtR X id r) (o : EX K) (ho : o.s ≠ .zc) (as : List (EX K)) : EX K :=
 methG name "list" id r (RL K r) PySem.F.plainAttrs_list slot hty ok (fun t x σ H Q h => by
  cases x with
  | ref p => exact ⟨.inl ⟨rfl, h.1⟩, h.2⟩
  | _ => exact h.elim) o ho as
theorem ix_dict {X : Cx} (hu : X.A.units + 1 < cLine) : IxR X (fun x y H Q => ∃ a v, x = .ref a /\ DGet H a y (some v) /\ Q v H) := by
 intro value slice pins s σ H x y v u Q I rx ry h hs
 obtain ⟨a, z, rfl, g, q⟩ := h
 obtain rfl : v = Value.ref a := rx
 exact tail_any (dict_typeIs I g) PySem.F.slot_dict_getitem.lookup (d_getItem hu I g ry fun w' s3 I3 rw' => ⟨z, H, I3, rw', q⟩) hs
def rIxU (K : Fg) : R2
 | .str z, .int i, H, Q => z.length <= sizeLine /\ ∃ c, atI z.cps.toList i = some c /\ Q (sgn c) H
 | .ref a, y, H, Q => rIxL K (.ref a) y H Q \/ rIxT K (.ref a) y H Q \/ ∃ v, DGet H a y (some v) /\ Q v H
 | _, _, _, _ => False
theorem ix_ok {X : Cx} (hu : X.A.units + 1 < cLine) : IxR X (rIxU X.K) := by
 intro value slice pins s σ H x y v u Q I rx ry h hs
 unfold rIxU at h
 split at h
 ·obtain ⟨h1, c, h2, h3⟩ := h
  exact ix_str value slice pins s σ H _ _ v u Q I rx ry ⟨_, _, c, rfl, rfl, h1, h2, h3⟩ hs
 ·rcases h with h | h | ⟨z, h, q⟩
  ·exact ix_list value slice pins s σ H _ _ v u Q I rx ry h hs
  ·exact ix_tup value slice pins s σ H _ _ v u Q I rx ry h hs
  ·exact ix_dict hu value slice pins s σ H _ _ v u Q I rx ry ⟨_, z, rfl, h, q⟩ hs
 ·exact h.elim
def ix (a b : EX K) : EX K := mkE2 (fun E => tOp (rIxU K) (a.t E) (b.t E))
 (fun C e => match e with
  | .Subscript l r _ => a.m C l && b.m C r
  | _ => false) (fun R => a.q R /\ b.q R) .pl
 (fun X C E e hK G hE hq hm => by
  subst hK
  cases e with
  | Subscript l r p =>
   simp only [Bool.and_eq_true] at hm
   exact pe_ix (ix_ok (by have := G.hu; omega)) (a.ok X C E l rfl G hE hq.1 hm.1) (b.ok X C E r rfl G hE hq.2 hm.2) (shp_ix (b.sok C r hm.2))
  | _ => exact ff hm)
 (fun C e hm => by cases e with | Subscript l r p => exact ⟨rfl, rfl⟩ | _ => exact ff hm)
def rO (QO : Option Int -> Hp -> Prop) : V -> Hp -> Prop
 | .int i, H => QO (some i) H
 | _, _ => False
def tO (E : XS) : Option (EX K) -> TO
 | none => tNoPart
 | some x => fun σ H Q => x.t E σ H (rO Q)
def mO : Option (EX K) -> Sc -> Option Expr -> Bool
 | none, _, none => true
 | some x, C, some e => x.m C e
 | _, _, _ => false
def qO : Option (EX K) -> Rt -> Prop
 | none, _ => True
 | some x, R => x.q R
theorem o_ok {X : Cx} {C : Sc} {E : XS} (G : Gd X C) (hE : Thr X E) : ∀ (o : Option (EX X.K)) (e : Option Expr), qO o (rtOf X) -> mO o C e = true -> PO X e (tO E o)
 | none, none, _, _ => po_none
 | none, some _, _, hm => nomatch hm
 | some _, none, _, hm => nomatch hm
 | some x, some e, hq, hm => by
  intro pins s σ H Q I hw
  rw [evalPart_some]
  refine thn (x.ok X C E e rfl G hE hq hm pins s σ H _ I hw) fun u s1 ⟨y, H1, I1, r1, q1⟩ => ?_
  cases y with
  | int i =>
   obtain ⟨t, rfl⟩ := r1
   exact ⟨some i, H1, I1, .int i t, q1⟩
  | _ => exact q1.elim
def rSlU (K : Fg) : V -> Option Int -> Option Int -> Hp -> VK -> Prop
 | .str z, lo, hi, H, Q => z.length <= sizeLine /\ Q (.str (Txt.slice z lo hi)) H
 | .ref a, lo, hi, H, Q => rSlL K (.ref a) lo hi H Q \/ rSlT K (.ref a) lo hi H Q
 | _, _, _, _, _ => False
theorem sl_ok {X : Cx} : SlR X (rSlU X.K) := by
 intro pins s σ H x v vl vu lo hi sl Q I rx hs pl pu h
 unfold rSlU at h
 split at h
 ·exact sl_str pins s σ H _ v vl vu _ _ sl Q I rx hs pl pu ⟨_, rfl, h.1, h.2⟩
 ·rcases h with h | h
  ·exact sl_list pins s σ H _ v vl vu _ _ sl Q I rx hs pl pu h
  ·exact sl_tup pins s σ H _ v vl vu _ _ sl Q I rx hs pl pu h
 ·exact h.elim
def slc (a : EX K) (lo hi : Option (EX K)) : EX K := mkE2 (fun E => tSl (rSlU K) (a.t E) (tO E lo) (tO E hi))
 (fun C e => match e with
  | .Subscript l (.Slice x y none _) _ => a.m C l && (mO lo C x && mO hi C y)
  | _ => false) (fun R => a.q R /\ qO lo R /\ qO hi R) .pl
 (fun X C E e hK G hE hq hm => by
  subst hK
  cases e with
  | Subscript l r p =>
   cases r with
   | Slice x y z p2 =>
    cases z with
    | none =>
     simp only [Bool.and_eq_true] at hm
     exact pe_slice sl_ok (a.ok X C E l rfl G hE hq.1 hm.1) (o_ok G hE lo x hq.2.1 hm.2.1) (o_ok G hE hi y hq.2.2 hm.2.2)
    | some _ => cases hm
   | _ => exact ff hm
  | _ => exact ff hm)
 (fun C e hm => by cases e with | Subscript l r p => exact ⟨rfl, rfl⟩ | _ => exact ff hm)
def lst (as : List (EX K)) : EX K := mkE2 (fun E => tLst (tAs as E))
 (fun C e => match e with
  | .List es _ => mAs as C es
  | _ => false) (fun R => qAs as R) .pl
 (fun X C E e hK G hE hq hm => by
  subst hK
  cases e with
  | List es p => exact pe_lst (as_ok G hE as es hq hm)
  | _ => exact ff hm)
 (fun C e hm => by cases e with | List es p => exact ⟨rfl, rfl⟩ | _ => exact ff hm)
def tup (as : List (EX K)) : EX K := mkE2 (fun E => tTup (tAs as E))
 (fun C e => match e with
  | .Tuple es _ _ => mAs as C es
  | _ => false) (fun R => qAs as R) .pl
 (fun X C E e hK G hE hq hm => by
  subst hK
  cases e with
  | Tuple es k p => exact pe_tup (as_ok G hE as es hq hm)
  | _ => exact ff hm)
 (fun C e hm => by cases e with | Tuple es k p => exact ⟨rfl, rfl⟩ | _ => exact ff hm)
end
end L2.Na
namespace L2.Na
open PySem PySem.Spec PyProof.Rows L2 L2.L3
section
variable {K : Fg}
theorem shp_sole {e t : Expr} {line : Nat} {env : Env} {s : Shp} (h : shpOf e = some s) (hs : s ≠ .cp) : swapsWithSole [t] e line env = pure false := shp_swap (tgt := some t) h hs
structure IX (K : Fg) where
 t : XS -> TI
 tm : Expr -> Bool
 m : Sc -> Expr -> Bool
 q : Rt -> Prop
 ok : ∀ (X : Cx) (C : Sc) (E : XS) (tg e : Expr), X.K = K -> Gd X C -> Thr X E -> q (rtOf X) -> tm tg = true -> m C e = true -> PI X tg e (t E)
 fs : ∀ (C : Sc) (e : Expr) (env : Env) (x : Value), m C e = true -> foldedSetIterable e env x = pure x
def rIter (K : Fg) : V -> Hp -> (It -> Hp -> Prop) -> Prop
 | .str z, H, R => R (Its z) H
 | .ref a, H, R => ((∃ xs, SqL K H a xs) /\ R (Itl K a) H) \/ ((∃ xs, SqT K H a xs) /\ R (Itt K a) H)
 | _, _, _ => False
theorem iter_run {X : Cx} {tg : Expr} {pins : List (Addr × Obj)} {s1 : Shared} {σ : St} {H1 : Hp} {x : V} {v : Value} {R : It -> Hp -> Prop} (I1 : Inv X pins σ H1 s1) (r1 : RelV x v) (q1 : rIter X.K x H1 R) :
  wpAny (model X.prog X.w) X.A (pyIter v) (PIE X pins σ tg R) X.xe s1 := by
 unfold rIter at q1
 split at q1
 ·rename_i z
  obtain ⟨t, rfl⟩ := r1
  have fin : ∀ T : String, (T = "str_ascii_iterator" \/ T = "str_iterator") -> PIE X pins σ tg R (.ref s1.heap.objs.size) { s1 with heap := s1.heap.push { cls := .type T, data := .fields #[.str z t, .int 0 0] } } := fun T hT => by
   refine ⟨s1.heap.objs.size, [s1.heap.objs.size], _, _, H1, rfl, I1.kept (t' := s1.toks) fun b o e => Heap.get?_push_of_some _ e, turn_str z t _ T hT, ⟨_, Heap.get?_push_size _ rfl, rfl, rfl⟩, fun b hb => ?_, q1⟩
   have e : b = s1.heap.objs.size := by simpa using hb
   subst e
   exact I1.fpOk (Nat.le_refl _) (I1.hok.fresh (Nat.le_refl _))
  cases ha : z.cps.all (· < 128) with
  | true => exact wpAny_pyIter_ascii ha (fin _ (.inl rfl))
  | false => exact wpAny_pyIter_wide ha (fin _ (.inr rfl))
 ·rename_i a
  cases (show v = Value.ref a from r1)
  rcases q1 with ⟨⟨xs, hq⟩, q⟩ | ⟨⟨xs, hq⟩, q⟩
  ·obtain ⟨its, rv, p, hz⟩ := I1.list hq
   refine wpAny_pyIter_list p.isList ?_
   refine ⟨s1.heap.objs.size, [s1.heap.objs.size], _, _, H1, rfl, I1.kept (t' := s1.toks) fun b o e => Heap.get?_push_of_some _ e, turn_list a _, ⟨_, Heap.get?_push_size _ rfl, rfl, rfl⟩, fun b hb => ?_, q⟩
   have e : b = s1.heap.objs.size := by simpa using hb
   subst e
   exact I1.fpOk (Nat.le_refl _) (I1.hok.fresh (Nat.le_refl _))
  ·obtain ⟨its, rv, p, hz⟩ := I1.tuple hq
   refine wpAny_pyIter_tuple (show s1.heap.IsTuple a its.toArray from p) ?_
   refine ⟨s1.heap.objs.size, [s1.heap.objs.size], _, _, H1, rfl, I1.kept (t' := s1.toks) fun b o e => Heap.get?_push_of_some _ e, turn_tuple a _, ⟨_, Heap.get?_push_size _ rfl, rfl, rfl⟩, fun b hb => ?_, q⟩
   have e : b = s1.heap.objs.size := by simpa using hb
   subst e
   exact I1.fpOk (Nat.le_refl _) (I1.hok.fresh (Nat.le_refl _))
 ·exact q1.elim
def iSeq (a : EX K) : IX K where
 t := fun E σ H R => a.t E σ H fun x H1 => rIter K x H1 R
 tm := fun _ => true
 m := a.m
 q := a.q
 ok := fun X C E tg e hK G hE hq _ hm => by
  subst hK
  intro pins s σ H R I h
  exact thn (a.ok X C E e rfl G hE hq hm pins s σ H _ I h) fun v s1 ⟨x, H1, I1, r1, q1⟩ => iter_run I1 r1 q1
 fs := fun C e env x hm => shp_fold (a.sok C e hm) x
def rRng : List V -> Hp -> (It -> Hp -> Prop) -> Prop
 | [.int j], H, R => (-(2 ^ 62) <= j /\ j < 2 ^ 62) /\ R (Itr 0 j.toNat) H
 | [.int i, .int j], H, R => (-(2 ^ 62) <= i /\ i < 2 ^ 62 /\ -(2 ^ 62) <= j /\ j < 2 ^ 62) /\ R (Itr i (j - i).toNat) H
 | _, _, _ => False
def iRng (a : EX K) (as : List (EX K)) : IX K where
 t := fun E σ H R => tAs (a :: as) E σ H fun vs H1 => rRng vs H1 R
 tm := fun _ => true
 m := fun C e => match e with
  | .Call (.Name y _) es [] _ => glB C "range" y && mAs (a :: as) C es
  | _ => false
 q := fun R => qAs (a :: as) R
 ok := fun X C E tg e hK G hE hq _ hm => by
  subst hK
  cases e with
  | Call f es ks p =>
   cases f with
   | Name y py =>
    cases ks with
    | nil =>
     simp only [Bool.and_eq_true] at hm
     obtain ⟨h1, h2⟩ := hm
     have e := glB_eq h1
     subst e
     obtain ⟨g, d⟩ := glB_gl G h1
     cases es with
     | nil => cases h2
     | cons e es =>
      intro pins s σ H R I h
      refine Call_ (ld_blt I g (G.bl _ (by decide +kernel)) boot_range (PyProof.Rows.callWith_type1 (thn (as_ok G hE (a :: as) (e :: es) hq h2 p pins s σ H _ I h) fun us s1 ⟨vs, H1, I1, r1, q1⟩ => ?_) (shp_star (a.sok C e (mAs_cons h2).1)) (as_plain as es (mAs_cons h2).2)))
      replace q1 : rRng vs H1 R := q1
      unfold rRng at q1
      split at q1
      ·cases r1 with
       | cons r rr =>
        cases rr
        obtain ⟨t, rfl⟩ := r
        exact call_range_1 (range_it I1 (by omega) (by omega) q1.1.1 q1.1.2 (by simpa using q1.2))
      ·cases r1 with
       | cons r rr =>
        cases rr with
        | cons r' rr =>
         cases rr
         obtain ⟨t, rfl⟩ := r
         obtain ⟨t', rfl⟩ := r'
         exact call_range_2 (range_it I1 q1.1.1 q1.1.2.1 q1.1.2.2.1 q1.1.2.2.2 q1.2)
      ·exact q1.elim
    | cons _ _ => cases hm
   | _ => exact ff hm
  | _ => exact ff hm
 fs := fun C e env x hm => by cases e with | Call f es ks p => rfl | _ => exact ff hm
def rZip (K : Fg) : List V -> Hp -> (It -> Hp -> Prop) -> Prop
 | [.ref p, .ref q], H, R => ((∃ xs, SqL K H p xs) /\ ∃ ys, SqL K H q ys) /\ R (Itz K p q) H
 | _, _, _ => False
def iZip (a b : EX K) : IX K where
 t := fun E σ H R => tAs [a, b] E σ H fun vs H1 => rZip K vs H1 R
 tm := fun e => match e with
  | .Tuple _ _ _ => true
  | _ => false
 m := fun C e => match e with
  | .Call (.Name y _) es [] _ => glB C "zip" y && mAs [a, b] C es
  | _ => false
 q := fun R => qAs [a, b] R
 ok := fun X C E tg e hK G hE hq ht hm => by
  subst hK
  cases tg with
  | Tuple ts tk tp =>
   cases e with
   | Call f es ks p =>
    cases f with
    | Name y py =>
     cases ks with
     | nil =>
      simp only [Bool.and_eq_true] at hm
      obtain ⟨h1, h2⟩ := hm
      have e := glB_eq h1
      subst e
      obtain ⟨g, d⟩ := glB_gl G h1
      cases es with
      | nil => cases h2
      | cons e es =>
       intro pins s σ H R I h
       refine Call_ (ld_blt I g (G.bl _ (by decide +kernel)) boot_zip (PyProof.Rows.callWith_type1 (thn (as_ok G hE [a, b] (e :: es) hq h2 p pins s σ H _ I h) fun us s1 ⟨vs, H1, I1, r1, q1⟩ => ?_) (shp_star (a.sok C e (mAs_cons h2).1)) (as_plain [b] es (mAs_cons h2).2)))
       replace q1 : rZip X.K vs H1 R := q1
       unfold rZip at q1
       split at q1
       ·rename_i p1 p2
        cases r1 with
        | cons r rr =>
         cases rr with
         | cons r' rr =>
          cases rr
          cases r
          cases r'
          obtain ⟨⟨⟨xs, hx⟩, ys, hy⟩, q⟩ := q1
          obtain ⟨ia, ra, pa, _⟩ := I1.list hx
          obtain ⟨ib, rb, pb, _⟩ := I1.list hy
          refine call_zip_2 pa.isList pb.isList fun h' z1 z2 z3 z4 z5 z6 kp => ?_
          refine wpAny_pyIter_zip (s := { s1 with heap := h' }) z1 ?_
          have Z : ZApart (s1.heap.objs.size + 4) (s1.heap.objs.size + 2) (s1.heap.objs.size + 3) s1.heap.objs.size (s1.heap.objs.size + 1) := by constructor <;> simp <;> omega
          have big : ∀ c ∈ [s1.heap.objs.size + 4, s1.heap.objs.size + 2, s1.heap.objs.size + 3, s1.heap.objs.size, s1.heap.objs.size + 1], s1.heap.objs.size <= c := by
           intro c hc
           simp only [List.mem_cons, List.not_mem_nil, or_false] at hc
           omega
          exact ⟨_, [s1.heap.objs.size + 4, s1.heap.objs.size + 2, s1.heap.objs.size + 3, s1.heap.objs.size, s1.heap.objs.size + 1], _, _, H1, rfl, I1.kept (t' := s1.toks) kp, turn_zip p1 p2 _ _ _ _ _ Z, ⟨z1, z2, ⟨_, _, z3⟩, z4, z5⟩, fun c hc => I1.fpOk (big c hc) (I1.hok.fresh (big c hc)), q⟩
       ·exact q1.elim
     | cons _ _ => cases hm
    | _ => exact ff hm
   | _ => exact ff hm
  | _ => cases ht
 fs := fun C e env x hm => by cases e with | Call f es ks p => rfl | _ => exact ff hm
structure TX (K : Fg) where
 g : TG
 m : Sc -> Expr -> Bool
 ok : ∀ (X : Cx) (C : Sc) (e : Expr), X.K = K -> Gd X C -> m C e = true -> PG X e g
def stB (C : Sc) (i : Nat) (x : Str) : Bool := C.N[i]? == some x && (C.nm.lookup x == some .local || (C.nm.lookup x == some .cell && (C.fb || C.ow.contains x)))
theorem stB_ok {X : Cx} {C : Sc} {i : Nat} {x : Str} (G : Gd X C) (h : stB C i x = true) : X.N[i]? = some x /\ Loc X.env.scope x /\ (X.fn x = true \/ X.env.scope.names.lookup x = some .local) := by
 unfold stB at h
 simp only [Bool.and_eq_true, Bool.or_eq_true] at h
 obtain ⟨h1, h2⟩ := h
 refine ⟨by rw [G.N]; exact eq_of_beq h1, ?_, ?_⟩
 ·rcases h2 with h2 | ⟨h2, _⟩
  ·exact .inl (by rw [G.nm]; exact eq_of_beq h2)
  ·exact .inr (by rw [G.nm]; exact eq_of_beq h2)
 ·rcases h2 with h2 | ⟨_, h2⟩
  ·exact .inr (by rw [G.nm]; exact eq_of_beq h2)
  ·rcases h2 with h2 | h2
   ·exact .inl (G.fb h2 x)
   ·exact .inl (G.ow x (List.contains_iff_mem.mp h2))
def nam (i : Nat) : TX K where
 g := gName i
 m := fun C e => match e with
  | .Name x _ => stB C i x
  | _ => false
 ok := fun X C e hK G hm => by
  cases e with
  | Name x p =>
   obtain ⟨h1, h2, h3⟩ := stB_ok G hm
   exact pg_name (by rw [G.N]; exact G.nd) h1 h2 h3
  | _ => exact ff hm
def gNs : List Nat -> TGs
 | [] => gNil
 | i :: is => gCons (gName i) (gNs is)
def mNs : List Nat -> Sc -> List Expr -> Bool
 | [], _, [] => true
 | i :: is, C, .Name x _ :: es => stB C i x && mNs is C es
 | _, _, _ => false
theorem ns_ok {X : Cx} {C : Sc} (G : Gd X C) : ∀ (is : List Nat) (es : List Expr), mNs is C es = true -> PGs X es (gNs is) /\ (assignEach es X.env).length = is.length /\ (assignEach es X.env).findIdx? (·.1) = none
 | [], [], _ => ⟨pgs_nil, rfl, rfl⟩
 | [], _ :: _, hm => nomatch hm
 | _ :: _, [], hm => nomatch hm
 | i :: is, e :: es, hm => by
  cases e with
  | Name x p =>
   have hm' : (stB C i x && mNs is C es) = true := hm
   simp only [Bool.and_eq_true] at hm'
   obtain ⟨h1, h2, h3⟩ := ns_ok G is es hm'.2
   obtain ⟨g1, g2, g3⟩ := stB_ok G hm'.1
   refine ⟨pgs_cons (pg_name (by rw [G.N]; exact G.nd) g1 g2 g3) h1 rfl, ?_, ?_⟩
   ·show (assignEach es X.env).length + 1 = is.length + 1
    rw [h2]
   ·show List.findIdx? (·.1) ((false, assign (.Name x p) X.env) :: assignEach es X.env) = none
    rw [List.findIdx?_cons, h3]
    rfl
  | _ => exact nomatch hm
def unp (is : List Nat) : TX K where
 g := gTup K is.length (gNs is)
 m := fun C e => match e with
  | .Tuple es _ _ => C.cm && mNs is C es
  | _ => false
 ok := fun X C e hK G hm => by
  subst hK
  cases e with
  | Tuple es k p =>
   simp only [Bool.and_eq_true] at hm
   obtain ⟨h1, h2, h3⟩ := ns_ok G is es hm.2
   exact pg_tup (G.calm hm.1) h1 h2 h3
  | _ => exact ff hm
structure SX (K : Fg) where
 t : XS -> TS
 m : Sc -> Stmt -> Bool
 q : Rt -> Prop
 ok : ∀ (X : Cx) (C : Sc) (E : XS) (s : Stmt), X.K = K -> Gd X C -> Thr X E -> q (rtOf X) -> m C s = true -> PS X s (t E)
def tSs : List (SX K) -> XS -> TS
 | [], _ => tNext
 | s :: ss, E => tSeq (s.t E) (tSs ss E)
def mSs : List (SX K) -> Sc -> List Stmt -> Bool
 | [], _, [] => true
 | s :: ss, C, e :: es => s.m C e && mSs ss C es
 | _, _, _ => false
def qSs : List (SX K) -> Rt -> Prop
 | [], _ => True
 | s :: ss, R => s.q R /\ qSs ss R
theorem ss_ok {X : Cx} {C : Sc} {E : XS} (G : Gd X C) (hE : Thr X E) : ∀ (xs : List (SX X.K)) (es : List Stmt), qSs xs (rtOf X) -> mSs xs C es = true -> PSs X es (tSs xs E)
 | [], [], _, _ => pss_nil
 | [], _ :: _, _, hm => nomatch hm
 | _ :: _, [], _, hm => nomatch hm
 | x :: xs, e :: es, hq, hm => by
  have hm' : (x.m C e && mSs xs C es) = true := hm
  simp only [Bool.and_eq_true] at hm'
  exact pss_cons (x.ok X C E e rfl G hE hq.1 hm'.1) (ss_ok G hE xs es hq.2 hm'.2)
def set (i : Nat) (a : EX K) : SX K where
 t := fun E D σ H => a.t E σ H fun x H1 => D.nx (σ.set i (some x)) H1
 m := fun C s => match s with
  | .Assign [.Name x _] e _ => decide (a.s ≠ .cp) && (stB C i x && a.m C e)
  | _ => false
 q := a.q
 ok := fun X C E s hK G hE hq hm => by
  split at hm
  ·rename_i x px e p
   simp only [Bool.and_eq_true] at hm
   obtain ⟨h1, h2, h3⟩ := hm
   obtain ⟨g1, g2, g3⟩ := stB_ok G h2
   exact ps_set (by rw [G.N]; exact G.nd) g1 g2 (a.ok X C E e hK G hE hq h3) (shp_swap (a.sok C e h3) (of_decide_eq_true h1)) g3
  ·cases hm
def setT (tg : TX K) (a : EX K) : SX K where
 t := fun E => tAsg (a.t E) tg.g
 m := fun C s => match s with
  | .Assign [.Tuple ts k p'] e _ => (match e with | .Tuple .. => false | _ => true) && (decide (a.s ≠ .cp) && (tg.m C (.Tuple ts k p') && a.m C e))
  | _ => false
 q := a.q
 ok := fun X C E s hK G hE hq hm => by
  split at hm
  ·rename_i ts k p' e p
   simp only [Bool.and_eq_true] at hm
   obtain ⟨h0, h1, h2, h3⟩ := hm
   refine ps_asg (a.ok X C E e hK G hE hq h3) (tg.ok X C _ hK G h2) (shp_sole (a.sok C e h3) (of_decide_eq_true h1)) ?_ rfl
   cases e with
   | Tuple _ _ _ => cases h0
   | _ => rfl
  ·cases hm
def rPut (o i v : V) (H : Hp) (Q : Hp -> Prop) : Prop := rSetL o i v H Q \/ ∃ a H', o = .ref a /\ DPut H a i v H' /\ Q H'
theorem put_ok {X : Cx} (hu : X.A.units + 1 < cLine) : PSet X rPut := by
 intro pins s σ H o i v ov iv u Q I ro ri rv h
 rcases h with h | ⟨a, H', rfl, g, q⟩
 ·exact set_list pins s σ H o i v ov iv u Q I ro ri rv h
 ·obtain rfl : ov = Value.ref a := ro
  exact d_setItem hu I g ri rv fun s4 I4 => ⟨H', I4, q⟩
def put (o i a : EX K) : SX K where
 t := fun E D σ H => a.t E σ H fun x H1 => o.t E σ H1 fun y H2 => i.t E σ H2 fun z H3 => rPut y z x H3 fun H4 => D.nx σ H4
 m := fun C s => match s with
  | .Assign [.Subscript l r _] e _ => decide (a.s ≠ .cp) && ((match r with | .Slice .. => false | _ => true) && (o.m C l && (i.m C r && a.m C e)))
  | _ => false
 q := fun R => o.q R /\ i.q R /\ a.q R
 ok := fun X C E s hK G hE hq hm => by
  split at hm
  ·rename_i l r p' e p
   simp only [Bool.and_eq_true] at hm
   obtain ⟨h1, h0, h2, h3, h4⟩ := hm
   refine ps_asg (a.ok X C E e hK G hE hq.2.2 h4) (pg_sub (o.ok X C E l hK G hE hq.1 h2) (i.ok X C E r hK G hE hq.2.1 h3) (put_ok (by have := G.hu; omega)) ?_) (shp_sole (a.sok C e h4) (of_decide_eq_true h1)) ?_ rfl
   ·intro v
    cases r with
    | Slice _ _ _ _ => cases h0
    | _ => rfl
   ·cases e <;> rfl
  ·cases hm
def ex (a : EX K) : SX K where
 t := fun E D σ H => a.t E σ H fun _ H1 => D.nx σ H1
 m := fun C s => match s with
  | .Expr e _ => decide (a.s ≠ .cp) && a.m C e
  | _ => false
 q := a.q
 ok := fun X C E s hK G hE hq hm => by
  cases s with
  | Expr e p =>
   simp only [Bool.and_eq_true] at hm
   exact ps_expr (a.ok X C E e hK G hE hq hm.2) (shp_swap (a.sok C e hm.2) (of_decide_eq_true hm.1))
  | _ => exact ff hm
def ret (a : EX K) : SX K where
 t := fun E D σ H => a.t E σ H D.rt
 m := fun C s => match s with
  | .Return (some e) _ => a.m C e
  | _ => false
 q := a.q
 ok := fun X C E s hK G hE hq hm => by
  cases s with
  | Return o p =>
   cases o with
   | some e => exact ps_ret (a.ok X C E e hK G hE hq hm)
   | none => cases hm
  | _ => exact ff hm
def ifS (c : EX K) (t f : List (SX K)) : SX K where
 t := fun E D σ H => c.tt E σ H fun b H1 => br b (tSs t E D σ H1) (tSs f E D σ H1)
 m := fun C s => match s with
  | .If e x y _ => c.m C e && (mSs t C x && mSs f C y)
  | _ => false
 q := fun R => c.q R /\ qSs t R /\ qSs f R
 ok := fun X C E s hK G hE hq hm => by
  subst hK
  cases s with
  | If e x y p =>
   simp only [Bool.and_eq_true] at hm
   obtain ⟨h1, h2, h3⟩ := hm
   intro pins s σ H D I h
   refine wpAny_If (thn (c.okT X C E e rfl G hE hq.1 h1 pins s σ H _ I h) fun d s1 ⟨H1, I1, q1⟩ => ?_)
   cases d with
   | true => exact ss_ok G hE t x hq.2.1 h2 pins s1 σ H1 D I1 (q1.1 rfl)
   | false => exact ss_ok G hE f y hq.2.2 h3 pins s1 σ H1 D I1 (q1.2 rfl)
  | _ => exact ff hm
def forS (tg : TX K) (it : IX K) (b : List (SX K)) : SX K where
 t := fun E => tFor (it.t E) tg.g (tSs b E)
 m := fun C s => match s with
  | .For x e y [] _ => (C.cm && it.tm x) && (tg.m C x && (it.m C e && mSs b C y))
  | _ => false
 q := fun R => it.q R /\ qSs b R
 ok := fun X C E s hK G hE hq hm => by
  subst hK
  cases s with
  | For x e y z p =>
   cases z with
   | nil =>
    simp only [Bool.and_eq_true] at hm
    obtain ⟨⟨hcm, h0⟩, h1, h2, h3⟩ := hm
    exact ps_for hE.own (G.calm hcm) (it.ok X C E x e rfl G hE hq.1 h0 h2) (tg.ok X C x rfl G h1) (ss_ok G hE b y hq.2 h3) (fun v => it.fs C e X.env v h2)
   | cons _ _ => cases hm
  | _ => exact ff hm
def tWh (c : TT) (tb : TS) : TS := fun D σ H => ∃ W : Nat -> St -> Hp -> Prop, (∃ m, W m σ H) /\ ∀ m σ H, W m σ H ->
 c σ H fun b H1 => br b (∃ N : St -> Hp -> Prop, (∀ σ' H', N σ' H' -> ∃ m', m' < m /\ W m' σ' H') /\ tb { D with nx := N, ct := N, bk := D.nx } σ H1) (D.nx σ H1)
theorem ps_wh {X : Cx} {c : Expr} {body : List Stmt} {tc : TT} {tb : TS} {pos : Pos} (hp : PassesOwn (model X.prog X.w) X.A X.env X.xe) (hc : PT X c tc) (hb : PSs X body tb) : PS X (.While c body [] pos) (tWh tc tb) := by
 intro pins s σ H D I h
 obtain ⟨W, ⟨m0, w0⟩, turn⟩ := h
 refine wpAny_While (codeAny_whileLoop (fun n s' => ∃ σ' H', Inv X pins σ' H' s' /\ W n σ' H') ?_ m0 ⟨σ, H, I, w0⟩)
 rintro n s1 ⟨σ1, H1, I1, w1⟩
 refine wpAny_passesOwn hp (thn (hc pins s1 σ1 H1 _ I1 (turn n σ1 H1 w1)) fun b s2 ⟨H2, I2, q2⟩ => ?_)
 cases b with
 | true =>
  obtain ⟨N, hN, q2⟩ := q2.1 rfl
  rw [if_pos rfl]
  refine wpAny_passesOwn hp (thn (hb pins s2 σ1 H2 _ I2 q2) fun f s3 q3 => ?_)
  cases f with
  | next =>
   obtain ⟨σ3, H3, I3, n3⟩ := q3
   obtain ⟨m', hm, w3⟩ := hN σ3 H3 n3
   exact ⟨m', hm, σ3, H3, I3, w3⟩
  | cont =>
   obtain ⟨σ3, H3, I3, n3⟩ := q3
   obtain ⟨m', hm, w3⟩ := hN σ3 H3 n3
   exact ⟨m', hm, σ3, H3, I3, w3⟩
  | brk => exact q3
  | ret v => exact q3
 | false =>
  rw [if_neg Bool.false_ne_true]
  exact wpAny_execs_nil ⟨σ1, H2, I2, q2.2 rfl⟩
def whS (c : EX K) (b : List (SX K)) : SX K where
 t := fun E => tWh (c.tt E) (tSs b E)
 m := fun C s => match s with
  | .While e y [] _ => c.m C e && mSs b C y
  | _ => false
 q := fun R => c.q R /\ qSs b R
 ok := fun X C E s hK G hE hq hm => by
  subst hK
  cases s with
  | While e y z p =>
   cases z with
   | nil =>
    simp only [Bool.and_eq_true] at hm
    exact ps_wh hE.own (c.okT X C E e rfl G hE hq.1 hm.1) (ss_ok G hE b y hq.2 hm.2)
   | cons _ _ => cases hm
  | _ => exact ff hm
def nev : SX K where
 t := fun _ => tNever
 m := fun _ _ => true
 q := fun _ => True
 ok := fun X C E s hK G hE hq hm => ps_never
def relab (nm names : List (Str × NameKind)) : List (Str × NameKind) := names.map fun (n, k) => if (k == NameKind.free && nm.lookup n == some .cell) then (n, NameKind.cell) else (n, k)
def capB (C : Sc) (sc : Scope) : List Str -> List Nat -> Bool
 | [], [] => true
 | x :: xs, i :: is => (C.N[i]? == some x && (C.nm.lookup x == some .cell && sc.names.lookup x == some .free)) && capB C sc xs is
 | _, _ => false
theorem capB_ok {X : Cx} {C : Sc} {sc : Scope} (G : Gd X C) : ∀ (xs : List Str) (is : List Nat), capB C sc xs is = true -> Cap X sc xs is
 | [], [], _ => .nil
 | [], _ :: _, h => nomatch h
 | _ :: _, [], h => nomatch h
 | x :: xs, i :: is, h => by
  have h' : ((C.N[i]? == some x && (C.nm.lookup x == some .cell && sc.names.lookup x == some .free)) && capB C sc xs is) = true := h
  simp only [Bool.and_eq_true] at h'
  obtain ⟨⟨h1, h2, h3⟩, h4⟩ := h'
  exact .cons (by rw [G.N]; exact eq_of_beq h1) (by show X.env.scope.names.lookup x = _; rw [G.nm]; exact eq_of_beq h2) (eq_of_beq h3) (capB_ok G xs is h4)
def compB (C : Sc) (sc : Scope) (own caps : List Str) (is : List Nat) : Bool :=
 (decide (sc.kind = .function) && decide (own ++ caps).Nodup) && ((sc.names.all fun y => y.2 != .cell || sc.names.lookup y.1 == some .cell) && ((sc.names.all fun y => y.2 != .free || C.nm.lookup y.1 == some .cell) && ((sc.names.all fun y => y.2 != .local || sc.names.lookup y.1 == some .local) && capB C sc caps is)))
theorem clos_loop (env : Env) : ∀ (names : List (Str × NameKind)) (acc : List (Str × Addr)), (∀ y ∈ names, y.2 = .free -> ∃ c, env.cells.lookup y.1 = some c) ->
  (forIn names acc (fun (x : Str × NameKind) (r : List (Str × Addr)) => (if (x.2 == NameKind.free) = true then (do let c <- cellOf env x.1; pure (ForInStep.yield ((x.1, c) :: r))) else pure (ForInStep.yield r) : Sem (ForInStep (List (Str × Addr)))))) =
   (pure (((names.filter fun x => x.2 == .free).filterMap fun x => (env.cells.lookup x.1).map fun c => (x.1, c)).reverse ++ acc) : Sem (List (Str × Addr)))
 | [], acc, _ => rfl
 | (n, k) :: r, acc, h => by
  have ih := fun acc' => clos_loop env r acc' fun y hy => h y (List.mem_cons_of_mem _ hy)
  rw [List.forIn_cons]
  cases hk : (k == NameKind.free) with
  | false =>
   rw [if_neg Bool.false_ne_true]
   have e : ((n, k) :: r).filter (fun x => x.2 == NameKind.free) = r.filter (fun x => x.2 == NameKind.free) := by rw [List.filter_cons, if_neg (by show ¬ (k == NameKind.free) = true; rw [hk]; exact Bool.false_ne_true)]
   rw [e]
   exact ih acc
  | true =>
   rw [if_pos rfl]
   obtain ⟨c, hc⟩ := h (n, k) List.mem_cons_self (eq_of_beq hk)
   have e : ((n, k) :: r).filter (fun x => x.2 == NameKind.free) = (n, k) :: r.filter (fun x => x.2 == NameKind.free) := by rw [List.filter_cons, if_pos (by show (k == NameKind.free) = true; exact hk)]
   have hcell : cellOf env n = pure c := by
    unfold cellOf
    rw [hc]
   rw [e, List.filterMap_cons, hcell]
   have hc' : (env.cells.lookup n) = some c := hc
   simp only [hc', Option.map_some, List.reverse_cons, List.append_assoc, List.singleton_append]
   exact ih ((n, c) :: acc)
theorem clos_ok {X : Cx} {sc : Scope} (ok : X.Ok) (hfr : (sc.names.all fun y => y.2 != .free || X.env.kindOf y.1 == some .cell) = true) : closureFor sc X.env = pure (clOf sc.names X.env) := by
 have h := clos_loop X.env sc.names [] fun y hy hf => by
  have z := List.all_eq_true.mp hfr y hy
  simp only [Bool.or_eq_true] at z
  rcases z with z | z
  ·rw [hf] at z; cases z
  ·exact ok.has y.1 (.inl (eq_of_beq z))
 rw [List.append_nil] at h
 have h3 : closureFor sc X.env = (forIn sc.names ([] : List (Str × Addr)) (fun (x : Str × NameKind) (r : List (Str × Addr)) => (if (x.2 == NameKind.free) = true then (do let c <- cellOf X.env x.1; pure (ForInStep.yield ((x.1, c) :: r))) else pure (ForInStep.yield r) : Sem (ForInStep (List (Str × Addr))))) >>= fun r => pure r) := rfl
 rw [h3, h]
 rfl
def owOf (names : List (Str × NameKind)) : List Str := (names.filter fun y => names.lookup y.1 == some .cell).map (·.1)
theorem blk_gd {X : Cx} {C : Sc} {own caps : List Str} {sc : Scope} {Ca : Addr} {s₀ : Shared} {H₀ : Hp} {ex : List Addr} (G : Gd X C) (hcm : C.cm = true) (hk : X.env.scope.kind = .function) (hnd : (own ++ caps).Nodup) : Gd (blk X (own ++ caps) sc Ca s₀ H₀ ex) ⟨own ++ caps, relab C.nm sc.names, .own (owOf sc.names)⟩ where
 N := rfl
 nm := by
  show (sc.names.map fun (n, k) => if (k == NameKind.free && X.env.scope.kind == .function && X.env.kindOf n == some .cell) then (n, NameKind.cell) else (n, k)) = relab C.nm sc.names
  unfold relab
  rw [hk]
  show (sc.names.map fun (n, k) => if (k == NameKind.free && true && X.env.scope.names.lookup n == some NameKind.cell) then (n, NameKind.cell) else (n, k)) = _
  rw [G.nm]
  simp only [Bool.and_true]
 nd := hnd
 calm := fun _ => G.calm hcm
 bl := G.bl
 top := fun z => nomatch z
 hu := G.hu
 fb := fun h => nomatch h
 ow := fun x hx => by
  obtain ⟨y, hy, rfl⟩ := List.mem_map.mp (show x ∈ owOf sc.names from hx)
  exact (List.mem_filter.mp hy).2
theorem thr0 {X : Cx} (h : X.xe = fun _ _ => False) : Thr X E0 := ⟨fun _ _ _ _ _ _ _ z => (CXF.no z).elim, fun _ _ _ _ _ _ _ _ _ _ _ _ _ _ _ _ _ _ _ z => z.elim, by rw [h]; exact PassesOwn.never⟩
structure CPX (K : Fg) where
 t : XS -> TE
 m : Sc -> Expr -> Bool
 q : Rt -> Prop
 sok : ∀ (C : Sc) (e : Expr), m C e = true -> shpOf e = some .cp /\ tstOf e = true
 ok : ∀ (X : Cx) (C : Sc) (E : XS) (e : Expr), X.K = K -> Gd X C -> Thr X E -> q (rtOf X) -> m C e = true -> PE X e (t E)
 okS : ∀ (X : Cx) (C : Sc) (E : XS) (i : Nat) (x : Str) (p' pos : Pos) (e : Expr), X.K = K -> Gd X C -> Thr X E -> q (rtOf X) -> m C e = true -> stB C i x = true -> PS X (.Assign [.Name x p'] e pos) (fun D σ H => t E σ H fun v H1 => D.nx (σ.set i (some v)) H1)
def cT (c : Option (EX K)) : TT := match c with
 | none => fun _ H Q => Q true H
 | some c => c.tt E0
def mC (c : Option (EX K)) (C : Sc) (ifs : List Expr) : Bool := match c, ifs with
 | none, [] => true
 | some c, [e] => c.m C e
 | _, _ => false
def qC (c : Option (EX K)) (R : Rt) : Prop := match c with
 | none => True
 | some c => c.q R
theorem tests_ok {X : Cx} {C : Sc} (G : Gd X C) (hE : Thr X E0) : ∀ (c : Option (EX X.K)) (ifs : List Expr), qC c (rtOf X) -> mC c C ifs = true -> Tests X ifs (cT c)
 | none, [], _, _ => .nil
 | none, _ :: _, _, hm => nomatch hm
 | some _, [], _, hm => nomatch hm
 | some c, [e], hq, hm => .one (c.okT X C E0 e rfl G hE hq hm)
 | some _, _ :: _ :: _, _, hm => nomatch hm
def mCp (c : Option (EX K)) (elt : EX K) (tg : TX K) (it : IX K) (own caps : List Str) (is : List Nat) (C : Sc) (e : Expr) : Bool := match e with
 | .ListComp l [⟨x, y, ifs, asy⟩] sc _ => ((C.cm && decide (asy = 0)) && it.tm x) && (compB C sc own caps is && (it.m C y && (tg.m ⟨own ++ caps, relab C.nm sc.names, .own (owOf sc.names)⟩ x && (mC c ⟨own ++ caps, relab C.nm sc.names, .own (owOf sc.names)⟩ ifs && elt.m ⟨own ++ caps, relab C.nm sc.names, .own (owOf sc.names)⟩ l))))
 | _ => false
theorem cp_run {X : Cx} {C : Sc} {E : XS} {e : Expr} {c : Option (EX X.K)} {elt : EX X.K} {tg : TX X.K} {it : IX X.K} {own caps : List Str} {is : List Nat} (G : Gd X C) (hE : Thr X E) (hq : it.q (rtOf X) /\ elt.q (rtOf X) /\ qC c (rtOf X)) (hm : mCp c elt tg it own caps is C e = true) :
  ∃ l x y ifs sc p, e = .ListComp l [⟨x, y, ifs, 0⟩] sc p /\ ∀ (use : Option (Value -> Sem Unit)) (p2 : Pos) (pins : List (Addr × Obj)) (s : Shared) (σ : St) (H : Hp) (Q : VK) (QQ : Value -> Shared -> Prop), Inv X pins σ H s -> tCompI (it.t E) tg.g (cT c) (elt.t E0) own.length is σ H Q ->
   (∀ (D C : Addr) (H' : Hp) (s' : Shared) (m : Str -> Option Value), Inv X pins σ H' s' -> s'.heap.Ns C m -> H' C = none -> X.s₀.heap.objs.size <= C -> X.env.locals ≠ C -> (∀ x c, X.env.cells.lookup x = some c -> c ≠ C) -> (∀ p ∈ X.pn ++ pins, p.1 ≠ C) -> Q (.ref D) H' ->
    compPost (model X.prog X.w) X.A X.xe use QQ (.ref D) C (.ok .next) s') ->
   wpAny (model X.prog X.w) X.A (comprehension (.ListComp l [⟨x, y, ifs, 0⟩] sc p) sc X.env p2 (newList []) false (eval y X.env) use) QQ X.xe s := by
 unfold mCp at hm
 cases e with
 | ListComp l gs sc p =>
  match gs, hm with
  | [⟨x, y, ifs, asy⟩], hm =>
   simp only [Bool.and_eq_true] at hm
   obtain ⟨⟨⟨hcm, h1⟩, h0⟩, h2, h3, h4, h6, h5⟩ := hm
   have e1 := of_decide_eq_true h1
   subst e1
   unfold compB at h2
   simp only [Bool.and_eq_true] at h2
   obtain ⟨⟨k1, k2⟩, k3, k4, k5, k6⟩ := h2
   have k4' : (sc.names.all fun y => y.2 != .free || X.env.kindOf y.1 == some .cell) = true := by
    show (sc.names.all fun y => y.2 != .free || X.env.scope.names.lookup y.1 == some .cell) = true
    rw [G.nm]; exact k4
   refine ⟨l, x, y, ifs, sc, p, rfl, fun use p2 pins s σ H Q QQ I h fin => ?_⟩
   have hg := fun Ca s₀ H₀ ex => blk_gd (own := own) (caps := caps) (sc := sc) (Ca := Ca) (s₀ := s₀) (H₀ := H₀) (ex := ex) G hcm I.ok.kind (of_decide_eq_true k2)
   refine comp_core (own := own) (caps := caps) (is := is) use (G.calm hcm) (it.ok X C E x y rfl G hE hq.1 h0 h3) (fun Ca s₀ H₀ ex => tg.ok _ _ x rfl (hg Ca s₀ H₀ ex) h4)
    (fun Ca s₀ H₀ ex => tests_ok (X := blk X (own ++ caps) sc Ca s₀ H₀ ex) (hg Ca s₀ H₀ ex) (thr0 rfl) c ifs hq.2.2 h6) (fun Ca s₀ H₀ ex => elt.ok _ _ E0 l rfl (hg Ca s₀ H₀ ex) (thr0 rfl) hq.2.1 h5) (capB_ok G caps is k6) (of_decide_eq_true k1)
    (fun z hz => ?_) k4' (clos_ok I.ok k4') (fun z hz hl => ?_) (fun v => it.fs C y X.env v h3) I h fin
   ·have := List.all_eq_true.mp k3 z hz
    simp only [Bool.or_eq_true] at this
    intro hl
    rcases this with q | q
    ·rw [hl] at q; cases q
    ·exact eq_of_beq q
   ·have := List.all_eq_true.mp k5 z hz
    simp only [Bool.or_eq_true] at this
    rcases this with q | q
    ·rw [hl] at q; cases q
    ·exact eq_of_beq q
 | _ => exact ff hm
theorem cp_pe {X : Cx} {C : Sc} {E : XS} {e : Expr} {c : Option (EX X.K)} {elt : EX X.K} {tg : TX X.K} {it : IX X.K} {own caps : List Str} {is : List Nat} (G : Gd X C) (hE : Thr X E) (hq : it.q (rtOf X) /\ elt.q (rtOf X) /\ qC c (rtOf X)) (hm : mCp c elt tg it own caps is C e = true) :
  PE X e (tCompI (it.t E) tg.g (cT c) (elt.t E0) own.length is) := by
 obtain ⟨l, x, y, ifs, sc, p, rfl, R⟩ := cp_run G hE hq hm
 intro pins s σ H Q I h
 rw [eval_ListComp]
 refine R none _ pins s σ H Q _ I h fun D C H' s' m I' hn hC h1 h2 h3 h4 q => ?_
 exact ⟨m, hn, fun h' hs' => ⟨.ref D, H', Inv.but I' hs' h1 h2 h3 h4 hC, rfl, q⟩⟩
theorem cp_ps {X : Cx} {C : Sc} {E : XS} {e : Expr} {i : Nat} {nm : Str} {p' pos : Pos} {c : Option (EX X.K)} {elt : EX X.K} {tg : TX X.K} {it : IX X.K} {own caps : List Str} {is : List Nat} (G : Gd X C) (hE : Thr X E) (hq : it.q (rtOf X) /\ elt.q (rtOf X) /\ qC c (rtOf X)) (hm : mCp c elt tg it own caps is C e = true) (hst : stB C i nm = true) :
  PS X (.Assign [.Name nm p'] e pos) (fun D σ H => tCompI (it.t E) tg.g (cT c) (elt.t E0) own.length is σ H fun v H1 => D.nx (σ.set i (some v)) H1) := by
 have P := cp_pe G hE hq hm
 obtain ⟨g1, g2, g3⟩ := stB_ok G hst
 have nd : X.N.Nodup := by rw [G.N]; exact G.nd
 obtain ⟨l, x, y, ifs, sc, p, rfl, R⟩ := cp_run G hE hq hm
 obtain ⟨b, hb⟩ : ∃ b : Bool, swapsWith (.ListComp l [⟨x, y, ifs, 0⟩] sc p) (some (.Name nm p')) pos.line X.env = pure b := ⟨_, rfl⟩
 cases b with
 | false => exact ps_set nd g1 g2 P hb g3
 | true =>
  intro pins s σ H D I h
  rw [exec_Assign_Name_used _ _ _ _ hb]
  refine wpAny_bind (wpAny_standAt (wpAny_bind ?_))
  show wpAny _ _ (do let _ <- comprehension (.ListComp l [⟨x, y, ifs, 0⟩] sc p) sc X.env _ (newList []) false (eval y X.env) (some (assign (.Name nm p') X.env))) _ _ s
  refine wpAny_bind (wpAny_mono (R (some (assign (.Name nm p') X.env)) _ pins s σ H _ (fun _ s' => SP X pins D .next s') I h fun A C H' s' m I' hn hC h1 h2 h3 h4 q => ?_) (fun _ s' hq => wpAny_pure (wpAny_pure hq)) fun _ _ z => z)
  show wpAny _ _ (assign (.Name nm p') X.env (.ref A)) _ _ s'
  refine wpAny_assign_Name (store_ok2 I' nd g1 g2 (v := .ref A) rfl (fun s'' I'' ⟨a, sb, ha⟩ => ?_) g3)
  have hne : C ≠ a := by
   rcases ha with ha | ha
   ·rw [ha]; exact h2.symm
   ·exact (h3 _ _ ha).symm
  exact ⟨m, hn.sameBut sb hne, fun h' hs' => ⟨_, H', Inv.but I'' hs' h1 h2 h3 h4 hC, q⟩⟩
def compC (c : Option (EX K)) (elt : EX K) (tg : TX K) (it : IX K) (own caps : List Str) (is : List Nat) : CPX K where
 t := fun E => tCompI (it.t E) tg.g (cT c) (elt.t E0) own.length is
 m := mCp c elt tg it own caps is
 q := fun R => it.q R /\ elt.q R /\ qC c R
 sok := fun C e hm => by
  unfold mCp at hm
  cases e with
  | ListComp l gs sc p => exact ⟨rfl, rfl⟩
  | _ => exact ff hm
 ok := fun X C E e hK G hE hq hm => by subst hK; exact cp_pe G hE hq hm
 okS := fun X C E i x p' pos e hK G hE hq hm hst => by subst hK; exact cp_ps G hE hq hm hst
def cpE (c : CPX K) : EX K := mkE c.t c.m c.q .cp c.ok (fun C e hm => (c.sok C e hm).1) (fun C e hm => (c.sok C e hm).2)
def setC (i : Nat) (c : CPX K) : SX K where
 t := fun E D σ H => c.t E σ H fun v H1 => D.nx (σ.set i (some v)) H1
 m := fun C s => match s with
  | .Assign [.Name x _] e _ => stB C i x && c.m C e
  | _ => false
 q := c.q
 ok := fun X C E s hK G hE hq hm => by
  split at hm
  ·rename_i x px e p
   simp only [Bool.and_eq_true] at hm
   exact c.okS X C E i x _ p e hK G hE hq hm.2 hm.1
  ·cases hm
def comp (elt : EX K) (tg : TX K) (it : IX K) (own caps : List Str) (is : List Nat) : EX K := cpE (compC none elt tg it own caps is)
def compI (elt c : EX K) (tg : TX K) (it : IX K) (own caps : List Str) (is : List Nat) : EX K := cpE (compC (some c) elt tg it own caps is)
def DnK (P : Program) (w : World) (K : Fg) (mg : Str -> Option Value) (base : Heap) (k : Nat) (x : Str) (sp : Sp) : Prop :=
 ∃ (f : Addr) (fd : FuncData) (ps : List Str), FnOk P w K mg base (CXF P w) k f fd ps sp /\ Binds K fd ps [] /\ PySem.W.keepIn K (.ref f) = true /\ mg x = some (.ref f)
theorem DnK.at {P : Program} {w : World} {mg : Str -> Option Value} {base : Heap} {j k : Nat} {x : Str} {sp : Sp} {A : Around} (D : DnK P w K mg base j x sp) (hr : Room k A) (h : j <= k) : FnAt ⟨P, w, K, mg, base, A⟩ x sp := by
 obtain ⟨f, fd, ps, F, hb, kp, hg⟩ := D
 exact ⟨j, f, fd, ps, hr.mono h, F, hb, kp, hg⟩
theorem def_ok {P : Program} {w : World} {mg : Str -> Option Value} {base : Heap} {x qual : Str} {st : Stmt} {f : Addr} {fd : FuncData} {N ps : List Str} {k : Nat} {sp : Sp} (F : Fun K x qual st f fd) (b : List (SX K)) (S : FnScope N ps (defScope st))
  (hm : mSs b ⟨N, (defScope st).names, true⟩ (defBody st) = true) (bl : ∀ x ∈ blts, mg x = none) (hq : ∀ A, Room k A -> qSs b ⟨P, w, K, mg, base, A⟩) (len : ∀ vs H Q E, sp vs H Q E -> vs.length = ps.length)
  (h : ∀ vs H Q E, sp vs H Q E -> tSs b (fun _ => E) { nx := fun _ H' => Q .non H', rt := Q } (start N vs) H) : FnOk P w K mg base (CXF P w) (k + 1) f fd ps sp := by
 obtain ⟨oc, od, kV, doc, pm, an, cdv, ct, osl, rfl, lk, hcd⟩ := F.ex
 refine fn_of lk hcd S len fun A outer s H vs Q E hr hsp => ?_
 have G : Gd (cxOf (CXF P w) P w K mg base N qual (defScope st) f cdv A outer s H E) ⟨N, (defScope st).names, true⟩ := ⟨rfl, rfl, S.nd, fun _ => rfl, bl, hr.units, fun _ _ => rfl, fun _ => ⟨rfl, rfl⟩, fun _ h => nomatch h⟩
 have T : Thr (cxOf (CXF P w) P w K mg base N qual (defScope st) f cdv A outer s H E) (fun _ => E) := ⟨fun pins σ H1 s1 ev s' I z => pass_def pins σ H1 s1 ev s' I z, fun _ _ _ _ _ _ e _ _ I o1 b1 u1 k1 n1 en eo dt v1 z => made_def (I.call' o1 u1 k1 b1 fun b y => absurd y (by simp)) eo dt v1 en (fun b o q y => by obtain ⟨v, hv⟩ := I.base.there b o q (fun y => nomatch y); rw [y, n1] at hv; cases hv) z, PassesOwn.leaving⟩
 exact ⟨_, ss_ok G T b (defBody st) (hq _ hr) hm, h vs H Q E hsp⟩
end
end L2.Na
namespace L2.Na
open PySem
abbrev ls (z : Str) : List Nat := z.cps.toList
def mkS (l : List Nat) : Str := ⟨l.toArray⟩
theorem ls_mk (l : List Nat) : ls (mkS l) = l := by simp [ls, mkS]
theorem ls_len (z : Str) : (ls z).length = z.length := by show z.cps.toList.length = z.cps.size; simp
theorem mk_len (l : List Nat) : (mkS l).length = l.length := by rw [<- ls_len, ls_mk]
theorem ls_inj {a b : Str} (h : ls a = ls b) : a = b := by
 cases a; cases b
 simp only [ls] at h
 congr 1
 exact Array.toList_inj.mp h
theorem mk_ls (z : Str) : mkS (ls z) = z := ls_inj (ls_mk _)
theorem ls_app (a b : Str) : ls (a ++ b) = ls a ++ ls b := by
 show (a.cps ++ b.cps).toList = a.cps.toList ++ b.cps.toList
 simp
theorem len_app (a b : Str) : (a ++ b).length = a.length + b.length := by rw [<- ls_len, ls_app, List.length_append, ls_len, ls_len]
theorem glued_fold (g : Array Nat) : ∀ (r : List Str) (acc : Array Nat), (r.foldl (fun acc p => acc ++ g ++ p.cps) acc).toList = acc.toList ++ (r.map fun p => g.toList ++ p.cps.toList).flatten
 | [], acc => by simp
 | p :: r, acc => by
  rw [List.foldl_cons, glued_fold g r]
  simp [List.append_assoc]
theorem ls_join0 (ys : List Str) : ls (Txt.join (Str.ofString "") ys) = (ys.map ls).flatten := by
 have e : (Str.ofString "").cps = #[] := by decide +kernel
 cases ys with
 | nil => decide +kernel
 | cons y r =>
  show ((r.foldl (fun acc p => acc ++ (Str.ofString "").cps ++ p.cps) y.cps)).toList = _
  rw [e, glued_fold]
  simp
theorem occ_one_count (x : Str) (c lim : Nat) : ∀ (l : List Nat) (st : Array Nat × Nat), (∀ i ∈ l, st.snd <= i) -> l.Pairwise (· < ·) -> st.fst.size + l.length <= lim ->
  (forIn l st (StrLaws.occBody x ⟨#[c]⟩ x.length lim)).run.fst.size = st.fst.size + (l.filter fun i => decide (x.cps.toList[i]? = some c)).length
 | [], st, _, _, _ => by simp
 | a :: l, st, hf, hp, hl => by
  rw [List.forIn_cons]
  have ha : st.snd <= a := hf a List.mem_cons_self
  rw [List.length_cons] at hl
  have hp' := List.pairwise_cons.mp hp
  unfold StrLaws.occBody
  by_cases hc : x.cps.toList[a]? = some c
  ·have h1 := (StrLaws.subAt_one x c a).mpr hc
   rw [if_pos ⟨⟨⟨by omega, ha⟩, h1.1⟩, h1.2⟩]
   have ih := occ_one_count x c lim l (st.fst.push a, a + (⟨#[c]⟩ : Str).length) (fun i hi => by
    have := hp'.1 i hi
    show a + 1 <= i
    omega) hp'.2 (by rw [Array.size_push]; omega)
   show (forIn l (st.fst.push a, a + (⟨#[c]⟩ : Str).length) (StrLaws.occBody x ⟨#[c]⟩ x.length lim)).run.fst.size = _
   rw [ih, List.filter_cons, if_pos (decide_eq_true hc), List.length_cons, Array.size_push]
   omega
  ·rw [if_neg (fun h => hc ((StrLaws.subAt_one x c a).mp ⟨h.1.2, h.2⟩))]
   have ih := occ_one_count x c lim l (st.fst, st.snd) (fun i hi => hf i (List.mem_cons_of_mem _ hi)) hp'.2 (by show st.fst.size + l.length <= lim; omega)
   show (forIn l (st.fst, st.snd) (StrLaws.occBody x ⟨#[c]⟩ x.length lim)).run.fst.size = _
   rw [ih, List.filter_cons, if_neg (by rw [decide_eq_false hc]; exact Bool.false_ne_true)]
theorem filter_at (c : Nat) : ∀ (l : List Nat) (k : Nat), ((List.range' k (l.length + 1)).filter fun i => decide (l[i - k]? = some c)).length = l.count c
 | [], k => by simp [List.range']
 | a :: l, k => by
  have e : List.range' k ((a :: l).length + 1) = k :: List.range' (k + 1) (l.length + 1) := by rw [List.length_cons, List.range'_succ]
  rw [e, List.filter_cons]
  have ih := filter_at c l (k + 1)
  have e2 : ((List.range' (k + 1) (l.length + 1)).filter fun i => decide ((a :: l)[i - k]? = some c)) = ((List.range' (k + 1) (l.length + 1)).filter fun i => decide (l[i - (k + 1)]? = some c)) := by
   refine List.filter_congr fun i hi => ?_
   have hi' := List.mem_range'_1.mp hi
   have : i - k = (i - (k + 1)) + 1 := by omega
   rw [this, List.getElem?_cons_succ]
  have e3 : (a :: l)[k - k]? = some a := by rw [Nat.sub_self]; rfl
  rw [e2, e3, List.count_cons]
  by_cases hc : a = c
  ·subst hc
   rw [if_pos (decide_eq_true rfl), List.length_cons, ih]
   simp
  ·rw [if_neg (by simp [hc]), ih]
   simp [hc]
theorem count_one (x : Str) (c : Nat) : Txt.count x ⟨#[c]⟩ = ((ls x).count c : Int) := by
 unfold Txt.count
 rw [StrLaws.occ_eq, Array.length_toList, Nat.sub_zero]
 rw [occ_one_count x c (x.length + 1) _ _ (fun i hi => Nat.zero_le _) List.pairwise_lt_range' (by simp)]
 have h := filter_at c (ls x) 0
 rw [ls_len] at h
 simp only [Nat.sub_zero] at h
 simp only [List.size_toArray, List.length_nil, Nat.zero_add]
 rw [<- h]
def IsW (m : Nat) (z : Str) : Prop := ∀ c ∈ ls z, 97 <= c /\ c < 97 + m
theorem IsW.app {m : Nat} {a b : Str} (ha : IsW m a) (hb : IsW m b) : IsW m (a ++ b) := fun c hc => by
 rw [ls_app] at hc
 rcases List.mem_append.mp hc with h | h
 ·exact ha c h
 ·exact hb c h
theorem IsW.sgn {m c : Nat} (h : 97 <= c) (l : c < 97 + m) : IsW m ⟨#[c]⟩ := fun d hd => by
 have : d = c := by simpa [ls] using hd
 subst this
 exact ⟨h, l⟩
theorem IsW.nil {m : Nat} : IsW m (Str.ofString "") := fun c hc => by
 have e : ls (Str.ofString "") = [] := by decide +kernel
 rw [e] at hc; cases hc
theorem IsW.of_ls {m : Nat} {z y : Str} (h : IsW m z) (e : ∀ c ∈ ls y, c ∈ ls z) : IsW m y := fun c hc => h c (e c hc)
def wd (ws : List Str) (c : Nat) : List Nat := ls (ws[c - 97]?.getD ⟨#[]⟩)
def img (ws : List Str) (z : Str) : Str := mkS ((ls z).flatMap (wd ws))
theorem ls_img (ws : List Str) (z : Str) : ls (img ws z) = (ls z).flatMap (wd ws) := ls_mk _
theorem img_isW {ws : List Str} {z : Str} {m : Nat} (hw : ∀ w ∈ ws, IsW m w) : IsW m (img ws z) := fun c hc => by
 rw [ls_img] at hc
 obtain ⟨d, _, h2⟩ := List.mem_flatMap.mp hc
 unfold wd at h2
 cases e : ws[d - 97]? with
 | none => rw [e] at h2; simp [ls] at h2
 | some w => rw [e] at h2; exact hw w (List.mem_of_getElem? e) c h2
theorem sum_le {l : List Nat} {B : Nat} (h : ∀ x ∈ l, x <= B) : l.sum <= l.length * B := by
 induction l with
 | nil => simp
 | cons a l ih =>
  have h1 := h a List.mem_cons_self
  have h2 := ih fun x hx => h x (List.mem_cons_of_mem _ hx)
  rw [List.sum_cons, List.length_cons, Nat.add_mul, Nat.one_mul]
  omega
theorem img_le {ws : List Str} {z : Str} {B : Nat} (h : ∀ w ∈ ws, w.length <= B) : (img ws z).length <= z.length * B := by
 rw [<- ls_len, ls_img, List.length_flatMap, <- ls_len z]
 refine Nat.le_trans (sum_le (B := B) fun x hx => ?_) (by rw [List.length_map]; exact Nat.le_refl _)
 obtain ⟨c, hc, rfl⟩ := List.mem_map.mp hx
 unfold wd
 cases e : ws[c - 97]? with
 | none => simp [ls]
 | some w => rw [show (some w).getD ⟨#[]⟩ = w from rfl, ls_len]; exact h w (List.mem_of_getElem? e)
end L2.Na
namespace L2.Na
open PySem PySem.Spec PyProof.Rows L2 L2.L3
section
variable {K : Fg}
theorem ms_ok {X : Cx} {id : String} {r : Str -> List V -> Hp -> VK -> Prop} {r' : V -> List V -> Hp -> VK -> Prop} (h : MtM X id r') (f : ∀ z ys H Q, r z ys H Q -> r' (.str z) ys H Q) : MtR X id (rS r) := by
 intro pins s σ H x xs v us Q I rx rs q
 cases x with
 | str z => exact h pins s σ H _ xs v us Q I rx rs (f z xs H Q q)
 | _ => exact q.elim
def rJoinU (K : Fg) : Str -> List V -> Hp -> VK -> Prop
 | z, [.ref p], H, Q => ∃ ys : List Str, (H p = some (.lst (ys.map V.str)) \/ SqT K H p (ys.map V.str)) /\ (ys.map (·.length)).sum + ys.length * z.length <= 16777216 /\ Q (.str (Txt.join z ys)) H
 | _, _, _, _ => False
def m_join (o a : EX K) (ho : o.s ≠ .zc := by intro z; cases z) : EX K := methS "join" "str.join" (rJoinU K) PySem.F.slot_str_join PySem.F.type_str_join (fun X hK _ _ => by
 subst hK
 intro pins s σ H x xs v us Q I rx rs q
 cases x with
 | str z =>
  have q' : rJoinU X.K z xs H Q := q
  unfold rJoinU at q'
  split at q'
  ·obtain ⟨ys, h1 | h1, h2, h3⟩ := q'
   ·exact mt_join pins s σ H _ _ v us Q I rx rs ⟨_, _, ys, rfl, rfl, h1, h2, h3⟩
   ·exact mt_joinT pins s σ H _ _ v us Q I rx rs ⟨_, _, ys, rfl, rfl, h1, h2, h3⟩
  ·exact q'.elim
 | _ => exact q.elim) o ho [a]
def rCountU : Str -> List V -> Hp -> VK -> Prop
 | z, [.str y], H, Q => Q (.int (Txt.count z y)) H
 | _, _, _, _ => False
def m_count (o a : EX K) (ho : o.s ≠ .zc := by intro z; cases z) : EX K := methS "count" "str.count" rCountU PySem.F.slot_str_count PySem.F.type_str_count (fun X hK _ _ => ms_ok mt_count (fun z ys H Q h => by
 unfold rCountU at h
 split at h
 ·exact ⟨_, _, rfl, rfl, h⟩
 ·exact h.elim)) o ho [a]
def m_append (o a : EX K) (ho : o.s ≠ .zc := by intro z; cases z) : EX K := methL "append" "list.append" rAppend PySem.F.slot_list_append PySem.F.type_list_append (fun X hK _ _ => mt_append) o ho [a]
def dzip (a b : EX K) : EX K := mkE (fun E => tDZ K (tAs [a, b] E))
 (fun C e => match e with
  | .Call (.Name y _) [.Call (.Name z _) es [] _] [] _ => (C.cm && glB C "dict" y) && (glB C "zip" z && mAs [a, b] C es)
  | _ => false) (fun R => qAs [a, b] R) .pl
 (fun X C E e hK G hE hq hm => by
  subst hK
  split at hm
  ·rename_i y py z pz es p2 p
   ·simp only [Bool.and_eq_true] at hm
    obtain ⟨⟨hcm, h1⟩, h2, h3⟩ := hm
    have e := glB_eq h1
    have e2 := glB_eq h2
    subst e e2
    match es, h3 with
    | [], h3 => exact nomatch h3
    | [x], h3 => exact nomatch (mAs_cons h3).2
    | x :: y :: z :: r, h3 => exact nomatch (mAs_cons (mAs_cons h3).2).2
    | [x, y], h3 =>
     have s1 := shp_star (env := X.env) (es := [y]) (a.sok C x (mAs_cons h3).1)
     have s2 := shp_star (env := X.env) (es := []) (b.sok C y (mAs_cons (mAs_cons h3).2).1)
     exact pe_dictzip (G.calm hcm) (glB_gl G h1).1 (G.bl _ (by decide +kernel)) (glB_gl G h2).1 (G.bl _ (by decide +kernel)) (as_ok G hE [a, b] [x, y] hq h3)
      s1 (as_plain [b] [y] (mAs_cons h3).2)
  ·cases hm)
 (fun C e hm => by
  split at hm
  ·rfl
  ·cases hm)
 (fun C e hm => by cases e with | Call f es ks p => rfl | _ => exact ff hm)
section
variable {E : XS} {σ : St} {H : Hp} {Q : VK} {D : Ends} {QB : Bool -> Hp -> Prop} {QL : List V -> Hp -> Prop} {v : V} {i j : Int} {n : Nat} {a b c : EX K} {as : List (EX K)} {ss : List (SX K)} {s : SX K} {op : Operator} {co : CmpOp} {x : Str} {sp : Sp}
theorem i_setT {tg : TX K} (h : a.t E σ H fun x H1 => tg.g x σ H1 D.nx) : (setT tg a).t E D σ H := h
theorem i_seq (h : s.t E { D with nx := tSs ss E D } σ H) : tSs (s :: ss) E D σ H := h
theorem i_nil (h : D.nx σ H) : tSs ([] : List (SX K)) E D σ H := h
theorem i_set (h : a.t E σ H fun x H1 => D.nx (σ.set n (some x)) H1) : (set n a).t E D σ H := h
theorem i_ret (h : a.t E σ H D.rt) : (ret a).t E D σ H := h
theorem i_ex (h : a.t E σ H fun _ H1 => D.nx σ H1) : (ex a).t E D σ H := h
theorem i_if {t f : List (SX K)} (h : c.tt E σ H fun b H1 => br b (tSs t E D σ H1) (tSs f E D σ H1)) : (ifS c t f).t E D σ H := h
theorem i_var (e : σ[n]? = some (some v)) (h : Q v H) : (var n : EX K).t E σ H Q := by
 show tV n σ H Q
 unfold tV
 rw [e]
 exact h
theorem i_cst (h : Q v H) : (cst v : EX K).t E σ H Q := h
theorem i_glb (h : Q v H) : (glb x v : EX K).t E σ H Q := h
theorem i_bin (h : a.t E σ H fun x H1 => b.t E σ H1 fun y H2 => rBin K op x y H2 Q) : (bin op a b).t E σ H Q := h
theorem i_add (h : Q (.int (i + j)) H) : rBin K .Add (.int i) (.int j) H Q := h
theorem i_sub (h : Q (.int (i - j)) H) : rBin K .Sub (.int i) (.int j) H Q := h
theorem i_mul (c : CMul i j) (h : Q (.int (i * j)) H) : rBin K .Mult (.int i) (.int j) H Q := ⟨c.ok, h⟩
theorem i_mulS {z : Str} (c : CMulS z j) (h : Q (.str (Txt.mul z j)) H) : rBin K .Mult (.str z) (.int j) H Q := ⟨c, h⟩
theorem i_div (c : CDiv i j) (h : Q (.int (i / j)) H) : rBin K .FloorDiv (.int i) (.int j) H Q := ⟨⟨c.1, by have := c.2; omega⟩, h⟩
theorem i_divX (c : 0 < j /\ j < 2 ^ 64) (h : Q (.int (i / j)) H) : rBin K .FloorDiv (.int i) (.int j) H Q := ⟨c, h⟩
theorem i_mod (c : 0 < j) (h : Q (.int (i % j)) H) : rBin K .Mod (.int i) (.int j) H Q := ⟨c, h⟩
theorem i_addS {y z : Str} (c : y.length + z.length <= sizeLine) (h : Q (.str (y ++ z)) H) : rBin K .Add (.str y) (.str z) H Q := ⟨c, h⟩
theorem i_cmp (h : a.t E σ H fun x H1 => b.t E σ H1 fun y H2 => rCmp K co x y H2 Q) : (cmp co a b).t E σ H Q := h
theorem j_cmp (h : a.t E σ H fun x H1 => b.t E σ H1 fun y H2 => rB (rCmp K co) x y H2 QB) : (cmp co a b).tt E σ H QB := h
theorem i_gt (h : Q (.bl (decide (j < i))) H) : rCmp K .Gt (.int i) (.int j) H Q := h
theorem dI : decide (V.int i = V.int j) = decide (i = j) := decide_eq_decide.mpr ⟨fun z => V.int.inj z, fun z => by rw [z]⟩
theorem dS {y z : Str} : decide (V.str y = V.str z) = decide (y = z) := decide_eq_decide.mpr ⟨fun e => V.str.inj e, fun e => by rw [e]⟩
theorem i_eq (h : Q (.bl (decide (i = j))) H) : rCmp K .Eq (.int i) (.int j) H Q := .inl ⟨rfl, by rw [dI]; exact h⟩
theorem i_eqS {y z : Str} (h : Q (.bl (decide (y = z))) H) : rCmp K .Eq (.str y) (.str z) H Q := .inl ⟨rfl, by rw [dS]; exact h⟩
theorem j_isN (h : QB (decide (v = .non)) H) : rB (rCmp K .Is) v .non H QB := h
theorem i_in1 {k : Nat} {y : Str} (h : Q (.bl (decide (k ∈ ls y))) H) : rCmp K .In (sgn k) (.str y) H Q := by
 show Q (.bl (!(Builtin.Str.occurrences y ⟨#[k]⟩ 0 y.length 1).isEmpty)) H
 rw [PySem.StrLaws.found_one]
 exact h
theorem j_lt (h : QB (decide (i < j)) H) : rB (rCmp K .Lt) (.int i) (.int j) H QB := h
theorem j_gt (h : QB (decide (j < i)) H) : rB (rCmp K .Gt) (.int i) (.int j) H QB := h
theorem j_eq (h : QB (decide (i = j)) H) : rB (rCmp K .Eq) (.int i) (.int j) H QB := .inl ⟨rfl, by show QB _ H; rw [dI]; exact h⟩
theorem j_ne (h : QB (!decide (i = j)) H) : rB (rCmp K .NotEq) (.int i) (.int j) H QB := .inl ⟨rfl, by show QB _ H; rw [dI]; exact h⟩
theorem j_tru (e : a.tt E = truT K (a.t E)) (h : a.t E σ H fun x H1 => rTru K x H1 QB) : a.tt E σ H QB := by rw [e]; exact h
theorem j_not (h : a.tt E σ H fun b H1 => QB (!b) H1) : (notE a).tt E σ H QB := h
theorem i_not (h : a.t E σ H fun x H1 => rTru K x H1 fun b H2 => Q (.bl (!b)) H2) : (notE a).t E σ H Q := h
theorem i_truB {k : Bool} (h : QB k H) : rTru K (.bl k) H QB := h
theorem i_and (h : a.t E σ H fun x H1 => rTru K x H1 fun k H2 => br k (tBop K .And E (b.t E) as σ H2 Q) (Q x H2)) : (andE a (b :: as)).t E σ H Q := h
theorem j_and (h : a.tt E σ H fun k H1 => br k (tBopT K .And E (b.tt E) as σ H1 QB) (QB false H1)) : (andE a (b :: as)).tt E σ H QB := h
theorem j_or (h : a.tt E σ H fun k H1 => br k (QB true H1) (tBopT K .Or E (b.tt E) as σ H1 QB)) : (orE a (b :: as)).tt E σ H QB := h
theorem i_bop0 {bo : BoolOp} {t : TE} (h : t σ H Q) : tBop K bo E t [] σ H Q := h
theorem j_bop0 {bo : BoolOp} {t : TT} (h : t σ H QB) : tBopT K bo E t [] σ H QB := h
theorem j_bopO {t : TT} (h : t σ H fun k H1 => br k (QB true H1) (tBopT K .Or E (b.tt E) as σ H1 QB)) : tBopT K .Or E t (b :: as) σ H QB := h
theorem i_acons (h : a.t E σ H fun x H1 => tAs as E σ H1 fun xs H2 => QL (x :: xs) H2) : tAs (a :: as) E σ H QL := h
theorem i_anil (h : QL [] H) : tAs ([] : List (EX K)) E σ H QL := h
theorem i_call (h : tAs as E σ H fun vs H1 => sp vs H1 Q (E σ)) : (call x sp as).t E σ H Q := h
theorem i_len (h : a.t E σ H fun x H1 => rLen K [x] H1 Q) : (len a).t E σ H Q := h
theorem i_lenS {z : Str} (c : z.length <= sizeLine) (h : Q (.int z.length) H) : rLen K [.str z] H Q := ⟨c, h⟩
theorem i_lenL {p : Addr} {xs : List V} (c : SqL K H p xs) (h : Q (.int xs.length) H) : rLen K [.ref p] H Q := .inl ⟨_, .inl ⟨xs, c, rfl⟩, h⟩
theorem i_lenT {p : Addr} {xs : List V} (c : SqT K H p xs) (h : Q (.int xs.length) H) : rLen K [.ref p] H Q := .inl ⟨_, .inr ⟨xs, c, rfl⟩, h⟩
theorem i_sum (h : a.t E σ H fun x H1 => rSum [x] H1 Q) : (sum a).t E σ H Q := h
theorem i_all (h : a.t E σ H fun x H1 => rAll K [x] H1 Q) : (allE a).t E σ H Q := h
theorem i_isi (h : a.t E σ H fun x H1 => b.t E σ H1 fun y H2 => rIsiV K [x, y] H2 Q) : (isi a b).t E σ H Q := h
theorem i_tyStr (h : Q (.ty "str") H) : (tyStr : EX K).t E σ H Q := h
theorem i_tyInt (h : Q (.ty "int") H) : (tyInt : EX K).t E σ H Q := h
theorem i_tyBool (h : Q (.ty "bool") H) : (tyBool : EX K).t E σ H Q := h
theorem i_tyList (h : Q (.ty "list") H) : (tyList : EX K).t E σ H Q := h
theorem i_tyTuple (h : Q (.ty "tuple") H) : (tyTuple : EX K).t E σ H Q := h
theorem i_listE (h : a.t E σ H fun x H1 => rListOf K [x] H1 Q) : (listE a).t E σ H Q := h
theorem i_tupleE (h : a.t E σ H fun x H1 => rTupOf K [x] H1 Q) : (tupleE a).t E σ H Q := h
theorem i_intE (h : a.t E σ H fun x H1 => rInt1 [x] H1 Q) : (intE a).t E σ H Q := h
theorem i_ix (h : a.t E σ H fun x H1 => b.t E σ H1 fun y H2 => rIxU K x y H2 Q) : (ix a b).t E σ H Q := h
theorem i_ixS {z : Str} {k : Nat} (c : z.length <= sizeLine) (e : atI z.cps.toList i = some k) (h : Q (sgn k) H) : rIxU K (.str z) (.int i) H Q := ⟨c, k, e, h⟩
theorem i_ixL {p : Addr} {xs : List V} (c : SqL K H p xs) (e : atI xs i = some v) (h : Q v H) : rIxU K (.ref p) (.int i) H Q := .inl ⟨p, xs, i, v, rfl, rfl, c, e, h⟩
theorem i_ixT {p : Addr} {xs : List V} (c : SqT K H p xs) (e : atI xs i = some v) (h : Q v H) : rIxU K (.ref p) (.int i) H Q := .inr (.inl ⟨p, xs, i, v, rfl, rfl, c, e, h⟩)
theorem i_ixD {p : Addr} {y : V} (c : DGet H p y (some v)) (h : Q v H) : rIxU K (.ref p) y H Q := .inr (.inr ⟨v, c, h⟩)
theorem i_slc {lo hi : Option (EX K)} (h : a.t E σ H fun x H1 => tO E lo σ H1 fun l H2 => tO E hi σ H2 fun u H3 => rSlU K x l u H3 Q) : (slc a lo hi).t E σ H Q := h
theorem i_o0 {QO : Option Int -> Hp -> Prop} (h : QO none H) : tO E (none : Option (EX K)) σ H QO := h
theorem i_o1 {QO : Option Int -> Hp -> Prop} (h : a.t E σ H (rO QO)) : tO E (some a) σ H QO := h
theorem i_rO {QO : Option Int -> Hp -> Prop} (h : QO (some i) H) : rO QO (.int i) H := h
theorem i_slS {z : Str} {lo hi : Option Int} (c : z.length <= sizeLine) (h : Q (.str (Txt.slice z lo hi)) H) : rSlU K (.str z) lo hi H Q := ⟨c, h⟩
theorem i_slL {p : Addr} {xs : List V} {lo hi : Option Int} (c : SqL K H p xs) (h : ∀ q, H q = none -> Q (.ref q) (upd H q (.lst (cutV xs lo hi)))) : rSlU K (.ref p) lo hi H Q := .inl ⟨p, xs, rfl, c, h⟩
theorem i_lst (h : tAs as E σ H fun xs H1 => xs.length <= sizeLine /\ ∀ p, H1 p = none -> Q (.ref p) (upd H1 p (.lst xs))) : (lst as).t E σ H Q := h
theorem i_tup (h : tAs as E σ H fun xs H1 => xs.length <= sizeLine /\ ∀ p, H1 p = none -> Q (.ref p) (upd H1 p (.tup xs))) : (tup as).t E σ H Q := h
theorem i_join {ho : a.s ≠ .zc} (h : a.t E σ H fun x H1 => RS (rJoinU K) (tAs [b] E) x σ H1 Q) : (m_join a b ho).t E σ H Q := h
theorem i_count {ho : a.s ≠ .zc} (h : a.t E σ H fun x H1 => RS rCountU (tAs [b] E) x σ H1 Q) : (m_count a b ho).t E σ H Q := h
theorem i_append {ho : a.s ≠ .zc} (h : a.t E σ H fun x H1 => RL K rAppend (tAs [b] E) x σ H1 Q) : (m_append a b ho).t E σ H Q := h
theorem i_RS {r : Str -> List V -> Hp -> VK -> Prop} {t : TA} {z : Str} (h : t σ H fun ys H2 => r z ys H2 Q) : RS r t (.str z) σ H Q := h
theorem i_RL {r : V -> List V -> Hp -> VK -> Prop} {t : TA} {p : Addr} {xs : List V} (c : SqL K H p xs) (h : t σ H fun ys H2 => r (.ref p) ys H2 Q) : RL K r t (.ref p) σ H Q := ⟨⟨xs, c⟩, h⟩
theorem i_count1 {z : Str} {k : Nat} (h : Q (.int (((ls z).count k : Nat) : Int)) H) : rCountU z [sgn k] H Q := by
 show Q (.int (Txt.count z ⟨#[k]⟩)) H
 rw [count_one]
 exact h
theorem i_appendU {p : Addr} {xs : List V} {y : V} (e : H p = some (.lst xs)) (c : xs.length < sizeLine) (h : Q .non (upd H p (.lst (xs ++ [y])))) : rAppend (.ref p) [y] H Q := ⟨p, xs, y, rfl, rfl, e, c, h⟩
def LoopW (J : It) (g : TG) (tb : TS) (D : Ends) (σ : St) (H : Hp) : Prop := ∃ W : Nat -> Nat -> St -> Hp -> Prop, (∃ m, W 0 m σ H) /\ ∀ i m σ H, W i m σ H ->
 (J.stop i H /\ D.nx σ H) \/ (J.go i H /\ ∃ N : St -> Hp -> Prop, (∀ σ' H', N σ' H' -> ∃ m', m' < m /\ W (i + 1) m' σ' H') /\ ∀ x H', J.yld i H x H' -> g x σ H' fun σ2 H2 => tb { D with nx := N, ct := N, bk := D.nx } σ2 H2)
theorem i_for {tg : TX K} {it : IX K} {bd : List (SX K)} (h : it.t E σ H fun J H1 => LoopW J tg.g (tSs bd E) D σ H1) : (forS tg it bd).t E D σ H := h
theorem i_rng {R : It -> Hp -> Prop} (h : tAs (a :: as) E σ H fun vs H1 => rRng vs H1 R) : (iRng a as).t E σ H R := h
theorem i_rng1 {R : It -> Hp -> Prop} (c : -(2 ^ 62) <= j /\ j < 2 ^ 62) (h : R (Itr 0 j.toNat) H) : rRng [.int j] H R := ⟨c, h⟩
theorem i_zip {R : It -> Hp -> Prop} (h : tAs [a, b] E σ H fun vs H1 => rZip K vs H1 R) : (iZip a b).t E σ H R := h
theorem i_zipL {R : It -> Hp -> Prop} {p r : Addr} {xs ys : List V} (c : SqL K H p xs) (d : SqL K H r ys) (h : R (Itz K p r) H) : rZip K [.ref p, .ref r] H R := ⟨⟨⟨xs, c⟩, ys, d⟩, h⟩
theorem i_iseq {R : It -> Hp -> Prop} (h : a.t E σ H fun x H1 => rIter K x H1 R) : (iSeq a).t E σ H R := h
theorem i_itS {R : It -> Hp -> Prop} {z : Str} (h : R (Its z) H) : rIter K (.str z) H R := h
theorem i_itL {R : It -> Hp -> Prop} {p : Addr} {xs : List V} (c : SqL K H p xs) (h : R (Itl K p) H) : rIter K (.ref p) H R := .inl ⟨⟨xs, c⟩, h⟩
theorem i_itT {R : It -> Hp -> Prop} {p : Addr} {xs : List V} (c : SqT K H p xs) (h : R (Itt K p) H) : rIter K (.ref p) H R := .inr ⟨⟨xs, c⟩, h⟩
theorem loop_rng {lo : Int} {k : Nat} {g : TG} {tb : TS} (Pv : Nat -> St -> Hp -> Prop) (h0 : Pv 0 σ H)
  (hs : ∀ i σ H, i < k -> Pv i σ H -> g (.int (lo + (i : Nat))) σ H fun σ2 H2 => tb { D with nx := Pv (i + 1), ct := Pv (i + 1), bk := D.nx } σ2 H2) (hd : ∀ σ H, Pv k σ H -> D.nx σ H) : LoopW (Itr lo k) g tb D σ H := for_range Pv h0 hs hd
theorem i_nam {QS : St -> Hp -> Prop} (h : QS (σ.set n (some v)) H) : (nam n : TX K).g v σ H QS := h
theorem i_dzip (h : a.t E σ H fun x H1 => b.t E σ H1 fun y H2 => ∃ (z : Str) (t : Addr) (ws : List V), [x, y] = [V.str z, .ref t] /\ (SqT K H2 t ws \/ SqL K H2 t ws) /\ z.cps.size = ws.length /\ z.cps.size <= 1000 /\ z.cps.all (· < 128) = true /\ (∀ i j, i < z.cps.size -> j < z.cps.size -> zkey z i = zkey z j -> i = j) /\
 ∀ d, H2 d = none -> Q (.ref d) (upd H2 d (.dK (zipKV z ws)))) : (dzip a b).t E σ H Q := h
theorem loop_lst {p : Addr} {xs : List V} {g : TG} {tb : TS} (hp : SqL K H p xs) (S : Nat -> St -> Prop) (h0 : S 0 σ)
  (hs : ∀ i x σ1 H1, xs[i]? = some x -> S i σ1 -> Same H H1 -> g x σ1 H1 fun σ2 H2 => tb { D with nx := fun σ3 H3 => S (i + 1) σ3 /\ Same H H3, ct := fun σ3 H3 => S (i + 1) σ3 /\ Same H H3, bk := D.nx } σ2 H2) (hd : ∀ σ1 H1, S xs.length σ1 -> Same H H1 -> D.nx σ1 H1) :
  LoopW (Itl K p) g tb D σ H := for_same (yl_list (xs := xs)) (fun H' e => e.seq hp) S h0 hs hd
theorem loop_rngS {lo : Int} {k : Nat} {g : TG} {tb : TS} (S : Nat -> St -> Prop) (h0 : S 0 σ)
  (hs : ∀ i σ1 H1, i < k -> S i σ1 -> Same H H1 -> g (.int (lo + (i : Nat))) σ1 H1 fun σ2 H2 => tb { D with nx := fun σ3 H3 => S (i + 1) σ3 /\ Same H H3, ct := fun σ3 H3 => S (i + 1) σ3 /\ Same H H3, bk := D.nx } σ2 H2) (hd : ∀ σ1 H1, S k σ1 -> Same H H1 -> D.nx σ1 H1) :
  LoopW (Itr lo k) g tb D σ H := loop_rng (fun i σ1 H1 => S i σ1 /\ Same H H1) ⟨h0, Same.refl _⟩ (fun i σ1 H1 hi p => hs i σ1 H1 hi p.1 p.2) fun σ1 H1 p => hd σ1 H1 p.1 p.2
theorem i_unp2 {QS : St -> Hp -> Prop} {k l : Nat} {p : Addr} {x y : V} (c : SqT K H p [x, y]) (h : QS ((σ.set k (some x)).set l (some y)) H) : (unp [k, l] : TX K).g (.ref p) σ H QS :=
 ⟨p, [x, y], rfl, c, rfl, x, [y], rfl, y, [], rfl, rfl, h⟩
theorem loop_zip {p r : Addr} {xs ys : List V} {m n : Nat} {tb : TS} (hp : SqL K H p xs) (hr : SqL K H r ys) (S : Nat -> St -> Prop) (h0 : S 0 σ)
  (hs : ∀ i x y σ1 H1, xs[i]? = some x -> ys[i]? = some y -> S i σ1 -> Same H H1 -> tb { D with nx := fun σ3 H3 => S (i + 1) σ3 /\ Same H H3, ct := fun σ3 H3 => S (i + 1) σ3 /\ Same H H3, bk := D.nx } ((σ1.set m (some x)).set n (some y)) H1) (hd : ∀ σ1 H1, S (min xs.length ys.length) σ1 -> Same H H1 -> D.nx σ1 H1) :
  LoopW (Itz K p r) (unp [m, n] : TX K).g tb D σ H := by
 refine ⟨fun i k σ1 H1 => k = min xs.length ys.length - i /\ i <= min xs.length ys.length /\ S i σ1 /\ Same H H1, ⟨_, rfl, Nat.zero_le _, h0, Same.refl _⟩, ?_⟩
 rintro i k σ1 H1 ⟨rfl, hi, s1, hS⟩
 have hp1 := hS.seq hp
 have hr1 := hS.seq hr
 by_cases hlt : i < min xs.length ys.length
 ·have l1 : i < xs.length := by omega
  have l2 : i < ys.length := by omega
  refine .inr ⟨⟨xs, ys, xs[i], ys[i], hp1, hr1, List.getElem?_eq_getElem l1, List.getElem?_eq_getElem l2⟩, fun σ3 H3 => S (i + 1) σ3 /\ Same H H3, fun σ3 H3 q => ⟨min xs.length ys.length - (i + 1), by omega, rfl, hlt, q.1, q.2⟩, ?_⟩
  rintro v H' ⟨a, x, y, ha, rfl, rfl, hx, hy⟩
  have hS' : Same H (upd H1 a (.tup [x, y])) := hS.trans fun c o e => by rw [upd_ne (ne_of_none e ha)]; exact e
  exact i_unp2 (SqT.of upd_same) (hs i x y σ1 _ (hx _ hp1) (hy _ hr1) s1 hS')
 ·have e : i = min xs.length ys.length := by omega
  subst e
  exact .inl ⟨⟨xs, ys, hp1, hr1, by omega⟩, hd σ1 H1 s1 hS⟩
theorem comp_base {J : It} {P : Hp -> Prop} {items : List V} (Y : Yl J P items) {tc : TT} {te : TE} {is : List Nat} {D : Addr} (keep : Nat -> Bool) (f : Nat -> V) (hD : H D = none) (hP : ∀ H1, Same H H1 -> P H1) (hz : items.length <= sizeLine)
  (test : ∀ (i : Nat) (x : V) (H1 : Hp) (QB : Bool -> Hp -> Prop), items[i]? = some x -> Same H H1 -> (∀ H2, Same H1 H2 -> QB (keep i) H2) -> tc (some x :: capV is σ) H1 QB)
  (step : ∀ (i : Nat) (x : V) (H1 : Hp) (Q' : VK), items[i]? = some x -> keep i = true -> Same H H1 -> (∀ H3, Same H1 H3 -> Q' (f i) H3) -> te (some x :: capV is σ) H1 Q')
  (fin : ∀ H1, Same H H1 -> H1 D = some (.lst (((List.range items.length).filter keep).map f)) -> Q (.ref D) H1) : CompBodyI J (nam 0 : TX K).g tc te 1 is σ D H Q := by
 have hn : ∀ i, (((List.range i).filter keep).map f).length <= i := fun i => by
  rw [List.length_map]
  exact Nat.le_trans (List.length_filter_le _ _) (by rw [List.length_range]; exact Nat.le_refl _)
 refine ⟨fun i m σ' H1 => m = items.length - i /\ i <= items.length /\ (∃ a, σ' = a :: capV is σ) /\ Same H H1 /\ H1 D = some (.lst (((List.range i).filter keep).map f)), ⟨items.length, by simp, Nat.zero_le _, ⟨none, rfl⟩, fun b o e => by rw [upd_ne (ne_of_none e hD)]; exact e, upd_same⟩, ?_⟩
 rintro i m σ' H1 ⟨rfl, hi, ⟨a, rfl⟩, hS, hO⟩
 have p := hP H1 hS
 by_cases hlt : i < items.length
 ·refine .inr ⟨Y.go i H1 p hlt, fun x H' hy => ?_⟩
  obtain ⟨e, hx⟩ := Y.yld i H1 x H' p hlt hy
  subst e
  show tc (some x :: capV is σ) H' _
  refine test i x H' _ hx hS fun H2 s2 => ⟨fun hk => ?_, fun hk => ?_⟩
  ·refine step i x H2 _ hx hk (hS.trans s2) fun H3 s3 => ?_
   refine ⟨_, s3 _ _ (s2 _ _ hO), Nat.lt_of_le_of_lt (hn i) (Nat.lt_of_lt_of_le hlt hz), items.length - (i + 1), by omega, rfl, hlt, ⟨_, rfl⟩, fun b o q => ?_, ?_⟩
   ·rw [upd_ne (ne_of_none q hD)]
    exact s3 _ _ (s2 _ _ (hS b o q))
   ·rw [upd_same, List.range_succ, List.filter_append, List.map_append, List.filter_cons, if_pos hk]
    rfl
  ·refine ⟨items.length - (i + 1), by omega, rfl, hlt, ⟨_, rfl⟩, hS.trans s2, ?_⟩
   rw [s2 _ _ hO, List.range_succ, List.filter_append, List.filter_cons, if_neg (by rw [hk]; exact Bool.false_ne_true), List.filter_nil, List.append_nil]
 ·have e : i = items.length := by omega
  subst e
  exact .inl ⟨Y.stop H1 p, fin H1 hS hO⟩
theorem filter_all {α : Type} (l : List α) : (l.filter fun _ => true) = l := List.filter_eq_self.mpr fun _ _ => rfl
theorem comp_all {J : It} {P : Hp -> Prop} {items : List V} (Y : Yl J P items) {te : TE} {is : List Nat} {D : Addr} (f : Nat -> V) (hD : H D = none) (hP : ∀ H1, Same H H1 -> P H1) (hz : items.length <= sizeLine)
  (step : ∀ (i : Nat) (x : V) (H1 : Hp) (Q' : VK), items[i]? = some x -> Same H H1 -> (∀ H3, Same H1 H3 -> Q' (f i) H3) -> te (some x :: capV is σ) H1 Q')
  (fin : ∀ H1, Same H H1 -> H1 D = some (.lst ((List.range items.length).map f)) -> Q (.ref D) H1) : CompBodyI J (nam 0 : TX K).g (cT (none : Option (EX K))) te 1 is σ D H Q :=
 comp_base Y (fun _ => true) f hD hP hz (fun _ _ _ _ _ _ q => q _ (Same.refl _)) (fun i x H1 Q' hx _ hS q => step i x H1 Q' hx hS q) fun H1 hS hO => fin H1 hS (by rw [filter_all] at hO; exact hO)
theorem comp_rng {lo : Int} {m : Nat} {te : TE} {is : List Nat} {D : Addr} (f : Nat -> V) (hD : H D = none) (hz : m <= sizeLine)
  (step : ∀ (i : Nat) (H1 : Hp) (Q' : VK), i < m -> Same H H1 -> (∀ H3, Same H1 H3 -> Q' (f i) H3) -> te (some (.int (lo + (i : Nat))) :: capV is σ) H1 Q')
  (fin : ∀ H1, Same H H1 -> H1 D = some (.lst ((List.range m).map f)) -> Q (.ref D) H1) : CompBodyI (Itr lo m) (nam 0 : TX K).g (cT (none : Option (EX K))) te 1 is σ D H Q := by
 refine comp_all yl_rng f hD (fun _ _ => trivial) (by rw [rngV_len]; exact hz) (fun i x H1 Q' hx hS q => ?_) (fun H1 hS hO => fin H1 hS (by rw [rngV_len] at hO; exact hO))
 obtain ⟨hi, rfl⟩ := rngV_get hx
 exact step i H1 Q' hi hS q
theorem range_get {α β : Type} (l : List α) (f : α -> β) (d : β) : ((List.range l.length).map fun i => (l[i]?.map f).getD d) = l.map f := by
 refine List.ext_getElem? fun i => ?_
 rw [List.getElem?_map, List.getElem?_map]
 by_cases hi : i < l.length
 ·rw [List.getElem?_range hi]
  show some ((l[i]?.map f).getD d) = l[i]?.map f
  rw [List.getElem?_eq_getElem hi]
  rfl
 ·rw [List.getElem?_eq_none_iff.mpr (by rw [List.length_range]; omega), List.getElem?_eq_none_iff.mpr (by omega)]
  rfl
theorem range_filter {α β : Type} (l : List α) (k : α -> Bool) (f : α -> β) (d : β) : (((List.range l.length).filter fun i => (l[i]?.map k).getD false).map fun i => (l[i]?.map f).getD d) = (l.filter k).map f := by
 induction l with
 | nil => rfl
 | cons a l ih =>
  rw [List.length_cons, List.range_succ_eq_map, List.filter_cons, List.filter_cons, List.filter_map]
  have e : (((fun i => ((a :: l)[i]?.map k).getD false) ∘ Nat.succ)) = fun i => (l[i]?.map k).getD false := rfl
  have e2 : (List.map (fun i => ((a :: l)[i]?.map f).getD d) (List.map Nat.succ ((List.range l.length).filter fun i => (l[i]?.map k).getD false))) = (l.filter k).map f := by
   rw [List.map_map, <- ih]
   rfl
  rw [e]
  show List.map _ (if k a = true then _ else _) = List.map f (if k a = true then _ else _)
  cases k a with
  | true =>
   rw [if_pos rfl, if_pos rfl, List.map_cons, List.map_cons, e2]
   rfl
  | false => rw [if_neg Bool.false_ne_true, if_neg Bool.false_ne_true, e2]
theorem comp_items {J : It} {P : Hp -> Prop} {xs : List V} (Y : Yl J P xs) {te : TE} {is : List Nat} {D : Addr} (f : V -> V) (hD : H D = none) (hP : ∀ H1, Same H H1 -> P H1) (hz : xs.length <= sizeLine)
  (step : ∀ (i : Nat) (x : V) (H1 : Hp) (Q' : VK), xs[i]? = some x -> Same H H1 -> (∀ H3, Same H1 H3 -> Q' (f x) H3) -> te (some x :: capV is σ) H1 Q')
  (fin : ∀ H1, Same H H1 -> H1 D = some (.lst (xs.map f)) -> Q (.ref D) H1) : CompBodyI J (nam 0 : TX K).g (cT (none : Option (EX K))) te 1 is σ D H Q := by
 refine comp_all Y (fun i => (xs[i]?.map f).getD .non) hD hP hz (fun i x H1 Q' hx hS q => ?_) fun H1 hS hO => fin H1 hS (by rw [range_get] at hO; exact hO)
 rw [hx] at q
 exact step i x H1 Q' hx hS q
theorem compI_items {J : It} {P : Hp -> Prop} {xs : List V} (Y : Yl J P xs) {tc : TT} {te : TE} {is : List Nat} {D : Addr} (keep : V -> Bool) (f : V -> V) (hD : H D = none) (hP : ∀ H1, Same H H1 -> P H1) (hz : xs.length <= sizeLine)
  (test : ∀ (i : Nat) (x : V) (H1 : Hp) (QB : Bool -> Hp -> Prop), xs[i]? = some x -> Same H H1 -> (∀ H2, Same H1 H2 -> QB (keep x) H2) -> tc (some x :: capV is σ) H1 QB)
  (step : ∀ (i : Nat) (x : V) (H1 : Hp) (Q' : VK), xs[i]? = some x -> keep x = true -> Same H H1 -> (∀ H3, Same H1 H3 -> Q' (f x) H3) -> te (some x :: capV is σ) H1 Q')
  (fin : ∀ H1, Same H H1 -> H1 D = some (.lst ((xs.filter keep).map f)) -> Q (.ref D) H1) : CompBodyI J (nam 0 : TX K).g tc te 1 is σ D H Q := by
 refine comp_base Y (fun i => (xs[i]?.map keep).getD false) (fun i => (xs[i]?.map f).getD .non) hD hP hz (fun i x H1 QB hx hS q => ?_) (fun i x H1 Q' hx hk hS q => ?_) fun H1 hS hO => fin H1 hS (by rw [range_filter] at hO; exact hO)
 ·rw [hx] at q
  exact test i x H1 QB hx hS q
 ·rw [hx] at q hk
  exact step i x H1 Q' hx hk hS q
theorem comp_str {z : Str} {te : TE} {is : List Nat} {D : Addr} (f : Nat -> V) (hD : H D = none) (hz : z.length <= sizeLine)
  (step : ∀ (i c : Nat) (H1 : Hp) (Q' : VK), z.cps.toList[i]? = some c -> Same H H1 -> (∀ H3, Same H1 H3 -> Q' (f c) H3) -> te (some (sgn c) :: capV is σ) H1 Q')
  (fin : ∀ H1, Same H H1 -> H1 D = some (.lst (z.cps.toList.map f)) -> Q (.ref D) H1) : CompBodyI (Its z) (nam 0 : TX K).g (cT (none : Option (EX K))) te 1 is σ D H Q := by
 refine comp_all yl_str (fun i => (z.cps.toList[i]?.map f).getD .non) hD (fun _ _ => trivial) (by rw [sgnV_len]; exact hz) (fun i x H1 Q' hx hS q => ?_) fun H1 hS hO => fin H1 hS (by
  rw [show (sgnV z).length = z.cps.toList.length by rw [sgnV_len]; simp, range_get] at hO; exact hO)
 unfold sgnV at hx
 rw [List.getElem?_map] at hx
 cases e : z.cps.toList[i]? with
 | none => rw [e] at hx; cases hx
 | some c =>
  rw [e] at hx q
  have hx' : sgn c = x := Option.some.inj hx
  subst hx'
  exact step i c H1 Q' e hS q
theorem sqT_same {p : Addr} {xs : List V} (hp : SqT K H p xs) (H1 : Hp) (hS : Same H H1) : SqT K H1 p xs := by
 rcases hp with (h | ⟨o, h⟩) | h
 ·exact .inl (.inl (hS _ _ h))
 ·exact .inl (.inr ⟨o, hS _ _ h⟩)
 ·exact .inr h
theorem comp_tup {p : Addr} {xs : List V} {te : TE} {is : List Nat} {D : Addr} (f : V -> V) (hp : SqT K H p xs) (hD : H D = none) (hz : xs.length <= sizeLine)
  (step : ∀ (i : Nat) (x : V) (H1 : Hp) (Q' : VK), xs[i]? = some x -> Same H H1 -> (∀ H3, Same H1 H3 -> Q' (f x) H3) -> te (some x :: capV is σ) H1 Q')
  (fin : ∀ H1, Same H H1 -> H1 D = some (.lst (xs.map f)) -> Q (.ref D) H1) : CompBodyI (Itt K p) (nam 0 : TX K).g (cT (none : Option (EX K))) te 1 is σ D H Q := comp_items (yl_tup (xs := xs)) f hD (sqT_same hp) hz step fin
theorem comp_lst {p : Addr} {xs : List V} {te : TE} {is : List Nat} {D : Addr} (f : V -> V) (hp : SqL K H p xs) (hD : H D = none) (hz : xs.length <= sizeLine)
  (step : ∀ (i : Nat) (x : V) (H1 : Hp) (Q' : VK), xs[i]? = some x -> Same H H1 -> (∀ H3, Same H1 H3 -> Q' (f x) H3) -> te (some x :: capV is σ) H1 Q')
  (fin : ∀ H1, Same H H1 -> H1 D = some (.lst (xs.map f)) -> Q (.ref D) H1) : CompBodyI (Itl K p) (nam 0 : TX K).g (cT (none : Option (EX K))) te 1 is σ D H Q := comp_items (yl_list (xs := xs)) f hD (fun H1 hS => hS.seq hp) hz step fin
theorem i_compC {elt : EX K} {c : Option (EX K)} {tg : TX K} {it : IX K} {own caps : List Str} {is : List Nat} (h : it.t E σ H fun J H1 => ∀ D, H1 D = none -> CompBodyI J tg.g (cT c) (elt.t E0) own.length is σ D H1 Q) : (compC c elt tg it own caps is).t E σ H Q := h
theorem i_comp {elt : EX K} {tg : TX K} {it : IX K} {own caps : List Str} {is : List Nat} (h : it.t E σ H fun J H1 => ∀ D, H1 D = none -> CompBodyI J tg.g (cT (none : Option (EX K))) (elt.t E0) own.length is σ D H1 Q) : (comp elt tg it own caps is).t E σ H Q := h
theorem i_compI {elt c : EX K} {tg : TX K} {it : IX K} {own caps : List Str} {is : List Nat} (h : it.t E σ H fun J H1 => ∀ D, H1 D = none -> CompBodyI J tg.g (c.tt E0) (elt.t E0) own.length is σ D H1 Q) : (compI elt c tg it own caps is).t E σ H Q := h
theorem i_setC {c : CPX K} (h : c.t E σ H fun x H1 => D.nx (σ.set n (some x)) H1) : (setC n c).t E D σ H := h
end
end
end L2.Na
namespace L2.Na
open PySem PySem.Spec PyProof.Rows L2 L2.L3
def FD (K : Fg) (x : Str) (st : Stmt) : Prop := ∃ (f : Addr) (fd : FuncData), Fun K x x st f fd /\ PySem.W.nsIn K mainGlobals x = some (some (.ref f))
theorem fd_mk {K : Fg} {x : Str} {st : Stmt} {f : Addr} {oc : Value} {od an : Option Addr} {osl : Array (Option Value)} {kV doc pm cdv ct : Value} (a : PySem.W.nsIn K mainGlobals x = some (some (.ref f)))
  (l : K.lookup f = some ⟨oc, od, .func (PySem.W.fnOf x x (defArgs st) (defBody st) (defScope st) .none kV doc pm an cdv ct), osl⟩) (c : PySem.W.codeIn K cdv x = true) (k : PySem.W.keepIn K (.ref f) = true) : FD K x st := ⟨f, _, fun_mk l c k, a⟩
def AllN (K : Fg) : List Str -> Prop
 | [] => True
 | x :: xs => PySem.W.nsIn K mainGlobals x = some none /\ AllN K xs
theorem all_none {K : Fg} {h : Heap} {mg : Str -> Option Value} (X : K.In h) (G : h.Ns mainGlobals mg) : ∀ {xs : List Str}, AllN K xs -> ∀ x ∈ xs, mg x = none
 | [], _, _, hx => nomatch hx
 | y :: ys, z, x, hx => by
  rcases List.mem_cons.mp hx with rfl | hx
  ·exact PySem.W.mg_none_of X G z.1
  ·exact all_none X G z.2 x hx
def GC (K : Fg) (x : Str) (v : V) : Prop := ∃ u, PySem.W.nsIn K mainGlobals x = some (some u) /\ RelV v u
theorem gc_at {K : Fg} {h : Heap} {mg : Str -> Option Value} {P : Program} {w : World} {base : Heap} {A : Around} {x : Str} {v : V} (X : K.In h) (G : h.Ns mainGlobals mg) (c : GC K x v) : GlAt ⟨P, w, K, mg, base, A⟩ x v := by
 obtain ⟨u, h1, h2⟩ := c
 exact ⟨u, PySem.W.mg_of X G h1, h2⟩
theorem gc_str {K : Fg} {x z : Str} {t : Tok} (h : PySem.W.nsIn K mainGlobals x = some (some (.str z t))) : GC K x (.str z) := ⟨_, h, t, rfl⟩
theorem gc_int {K : Fg} {x : Str} {i : Int} {t : Tok} (h : PySem.W.nsIn K mainGlobals x = some (some (.int i t))) : GC K x (.int i) := ⟨_, h, t, rfl⟩
section
variable {K : Fg} {P : Program} {w : World} {h base : Heap} {mg : Str -> Option Value} {x : Str} {st : Stmt} {N ps : List Str} {k : Nat} {sp : Sp}
theorem dn_of (F : FD K x st) (X : K.In h) (G : h.Ns mainGlobals mg) (bl : ∀ x ∈ blts, mg x = none) (b : List (SX K)) (S : FnScope N ps (defScope st)) (hm : mSs b ⟨N, (defScope st).names, true⟩ (defBody st) = true)
  (hb : ∀ (kV doc pm : Value) (an : Option Addr) (cdv ct : Value) (us : List Value), us.length = ps.length -> bindArgs (PySem.W.fnOf x x (defArgs st) (defBody st) (defScope st) .none kV doc pm an cdv ct) ⟨us, []⟩ = pure (ps.zip us))
  (len : ∀ vs H Q E, sp vs H Q E -> vs.length = ps.length) (t : ∀ vs H Q E, sp vs H Q E -> tSs b (fun _ => E) { nx := fun _ H' => Q .non H', rt := Q } (start N vs) H) (hq : ∀ A, Room k A -> qSs b ⟨P, w, K, mg, base, A⟩) : DnK P w K mg base (k + 1) x sp := by
 obtain ⟨f, fd, F, a⟩ := F
 exact ⟨f, fd, ps, def_ok F b S hm bl hq len t, F.binds hb, F.kp, PySem.W.mg_of X G a⟩
end
theorem by1 {Z : List Value -> Prop} (h : ∀ a : Value, Z [a]) (us : List Value) (hl : us.length = 1) : Z us := match us, hl with | [_], _ => h _
theorem by2 {Z : List Value -> Prop} (h : ∀ a b : Value, Z [a, b]) (us : List Value) (hl : us.length = 2) : Z us := match us, hl with | [_, _], _ => h _ _
theorem by3 {Z : List Value -> Prop} (h : ∀ a b c : Value, Z [a, b, c]) (us : List Value) (hl : us.length = 3) : Z us := match us, hl with | [_, _, _], _ => h _ _ _
end L2.Na
namespace L2.Na
open PySem PySem.Spec PyProof.Rows L2 L2.L3
def clsAt (K : Fg) (x : Str) : Addr := match PySem.W.nsIn K mainGlobals x with
 | some (some (.ref C)) => C
 | _ => 0
abbrev mroVE : List Value := [.type "ValueError", .type "Exception", .type "BaseException", .type "object"]
structure ExcK (K : Fg) (x : Str) : Prop where
 at_ : PySem.W.nsIn K mainGlobals x = some (some (.ref (clsAt K x)))
 exc : PySem.W.excIn K (clsAt K x) mroVE "ValueError.__new__" = true
section
variable {K : Fg}
theorem exc_obj {x : Str} {h : Heap} (k : ExcK K x) (X : K.In h) : ∃ bm N nm q bs hdct sn sub ab col dd k0 k1 k2 k3 k5 mN, h.get? (clsAt K x) = some (excClassObj nm q (clsAt K x) N bs bm hdct sn sub ab col dd k0 k1 k2 k3 k5 "ValueError.__new__") /\ h.Ns N mN /\ mN "__init__" = none /\ OwnTail h mroVE bm := by
 have q := k.exc
 generalize clsAt K x = C at q
 unfold PySem.W.excIn at q
 split at q
 ·rename_i dd cd sl ho
  split at q
  ·rename_i C' bm k0 k1 k2 k3 n k5 hm hs
   simp only [Bool.and_eq_true, beq_iff_eq, Bool.not_eq_true'] at q
   obtain ⟨⟨⟨⟨⟨rfl, rfl⟩, hdel⟩, ht⟩, hok⟩, hni⟩ := q
   obtain ⟨nm, bs, mro, ns, qn, hd, sn, sub, ab, col, del⟩ := cd
   obtain ⟨l⟩ := sl
   dsimp only at hm hs hdel hok hni
   subst hm hdel hs
   exact ⟨bm, ns, nm, qn, bs, hd, sn, sub, ab, col, dd, k0, k1, k2, k3, k5, _, X _ _ ho, .of_isNs (PySem.W.isNs_of_in X hok), PySem.W.nsMap_none_of_in X hok hni, PySem.W.tail_of_in X ht⟩
  ·cases q
 ·cases q
def raiseO (x : Str) (a : EX K) (as : List (EX K)) : SX K where
 t := fun E _ σ H => tAs (a :: as) E σ H fun vs H1 => vs.length <= sizeLine /\ E σ (.ref (clsAt K x)) none H1
 m := fun C s => match s with
  | .Raise (some (.Call (.Name y _) es [] _)) none _ => (C.cm && glB C x y) && mAs (a :: as) C es
  | _ => false
 q := fun R => (R.mg x = some (.ref (clsAt K x)) /\ ExcK K x) /\ qAs (a :: as) R
 ok := fun X C E s hK G hE hq hm => by
  subst hK
  split at hm
  ·rename_i y py es p pos
   simp only [Bool.and_eq_true] at hm
   obtain ⟨⟨hcm, h1⟩, h2⟩ := hm
   have e := glB_eq h1
   subst e
   obtain ⟨g, d⟩ := glB_gl G h1
   obtain ⟨⟨hg, ek⟩, hqa⟩ := hq
   cases es with
   | nil => cases h2
   | cons e es =>
    intro pins s σ H D I h
    have st := shp_star (env := X.env) (es := es) (a.sok C e (mAs_cons h2).1)
    have pl := as_plain (env := X.env) (pos := p) as es (mAs_cons h2).2
    obtain ⟨bm, N, nm, q, bs, hdct, sn, sub, ab, col, dd, k0, k1, k2, k3, k5, mN, hC, hN, hni, T⟩ := exc_obj ek I.ok.mod.kin
    refine wpAny_Raise_call_subT (C := clsAt X.K y) (nm := nm) (q := q) (N := N) (bs := bs) (bm := bm) (hdct := hdct) (sn := sn) (sub := sub) (ab := ab) (col := col) (dd := dd) (k0 := k0) (k1 := k1) (k2 := k2) (k3 := k3) (k5 := k5)
     PySem.F.excBase_ValueError (mN := mN) (T.hasType PySem.F.excBase_ValueError.hasBase) (I.ok.hd (G.calm hcm)) (by rw [st]; exact pl) hni (ld_glob I g hg ⟨rfl, ?_⟩ d)
    have ev := as_ok G hE (a :: as) (e :: es) hqa h2 p pins s σ H _ I h
    rw [st] at ev ⊢
    refine Calls.evalArgs_plain (wpAny_mono ev (fun us s1 z => ?_) fun _ _ z => z)
    obtain ⟨vs, H1, I1, r1, ln, w1⟩ := z
    refine ⟨rfl, by rw [<- r1.length]; exact ln, I1.bk _ _ hC, hN.keeps I1.bk, T.keeps I1.bk, fun h' e' mk => ?_⟩
    obtain ⟨t, eo, _, _⟩ := mk.there
    refine hE.made pins σ H1 H1 s1 { s1 with heap := h' } e' _ _ I1 rfl I1.bare (Un.kept mk.keeps) (I1.hok.kept mk.keeps) mk.new ?_ eo rfl rfl w1
    cases hh : H1 e' with
    | none => rfl
    | some o =>
     obtain ⟨u, hu⟩ := there_of (I1.hok e' o hh)
     rw [mk.new] at hu
     cases hu
  ·cases hm
end
end L2.Na
namespace L2.Na
open PySem PySem.Spec PyProof.Rows L2 L2.L3
def IsX (e : Addr) (c : Value) (dx : Option Addr) : Heap -> Prop := fun h => ∃ oe vs, h.get? e = some oe /\ oe.cls = c /\ oe.dict = dx /\ oe.data = .fields vs
section
variable {X : Cx} {pins : List (Addr × Obj)} {σ : St} {H1 H' : Hp} {s1 s' : Shared} {B g : Heap} {e : Addr} {c fl : Value} {dx : Option Addr}
theorem caught_inv (I1 : Inv X pins σ H1 s1) (os : s'.os = s1.os) (bare : AllBare s'.gens) (un : Un (frs X.stack) [] H1 H' s1.heap s'.heap) (hok : HOk X.prog X.w H' s'.heap) (st : B.StaysIn s'.heap)
  (c1 : ∀ b o, s1.heap.get? b = some o -> b ∉ frs X.stack -> ∃ u, B.get? b = some u) (c2 : ∀ b o, H' b = some o -> ∃ u, B.get? b = some u) (F2 : FlyD B X.stack e c dx fl g) (u : s'.heap.UpToSlots g) :
  Inv X pins σ (upd H' e (.ext (IsX e c dx))) { s' with heap := g } /\ H' e = none := by
 obtain ⟨oe, vs, T, oT, ts, eo, hc, hx, dt, _⟩ := id F2.tr
 have nfe : e ∉ frs X.stack := fun z => by
  obtain ⟨_, o, q, n⟩ := F2.frames.mem z
  rw [eo] at q
  cases q
  exact n vs dt
 have neq : ∀ b o, s1.heap.get? b = some o -> b ≠ e := fun b o q z => by
  subst z
  obtain ⟨v, hv⟩ := c1 b o q nfe
  rw [F2.new] at hv
  cases hv
 have ne' : H' e = none := by
  cases q : H' e with
  | none => rfl
  | some o =>
   obtain ⟨v, hv⟩ := c2 e o q
   rw [F2.new] at hv
   cases hv
 have tr : ∀ b o, H1 b = some o -> b ≠ e := fun b o q => by
  obtain ⟨v, hv⟩ := there_of (I1.hok b o q)
  exact neq b v hv
 have bg : ∀ b o, s'.heap.get? b = some o -> (∃ v, B.get? b = some v) -> g.get? b = some o := fun b o q ⟨v, hv⟩ => by
  have z := st _ _ hv
  rw [q] at z
  cases z
  exact F2.stay _ _ hv
 have slot : ∀ b o, s1.heap.get? b = some o -> H1 b = none -> b ∈ frs X.stack -> ∃ sl, g.get? b = some { o with slots := sl } := fun b o q n hb => by
  obtain ⟨sl, q1⟩ := un.slot b o q n hb (by simp)
  have nf : ∀ ws, o.data ≠ .fields ws := by
   obtain ⟨_, o', q', n'⟩ := I1.stack.mem hb
   rw [q] at q'
   cases q'
   exact n'
  obtain ⟨sl3, q3⟩ := u b _ q1 nf
  exact ⟨sl3, q3⟩
 have un2 : Un (frs X.stack) [] H1 (upd H' e (.ext (IsX e c dx))) s1.heap g := by
  refine ⟨fun b o q n hb _ => bg b o (un.keep b o q n hb (by simp)) (c1 b o q hb), fun b o q n hb _ => slot b o q n hb, fun b o q n _ => ?_, fun b o q _ => ?_, fun b xs q => ?_, fun b o xs q => ?_, fun b ps q => ?_⟩
  ·rw [upd_ne (neq b o q)]
   exact un.free b o q n (by simp)
  ·by_cases hb : b ∈ frs X.stack
   ·obtain ⟨sl, z⟩ := slot b o q (I1.stkFree b hb) hb
    exact ⟨_, z⟩
   ·obtain ⟨v, hv⟩ := c1 b o q hb
    exact ⟨v, F2.stay _ _ hv⟩
  ·rw [upd_ne (tr b _ q)]
   exact un.tups b xs q
  ·rw [upd_ne (tr b _ q)]
   exact un.frzs b o xs q
  ·rw [upd_ne (tr b _ q)]
   exact un.tbls b ps q
 have hok1 : HOk X.prog X.w H' g := hok_in hok c2 st F2.stay
 have hok2 : HOk X.prog X.w (upd H' e (.ext (IsX e c dx))) g := fun b o q => by
  by_cases hb : b = e
  ·subst hb
   rw [upd_same] at q
   cases q
   exact ⟨⟨oe, vs, eo, hc, hx, dt⟩, ⟨oe, eo⟩, fun h1 h2 ⟨o1, v1, q1, q2⟩ k => ⟨o1, v1, k _ q1, q2⟩⟩
  ·rw [upd_ne hb] at q
   exact (hok1 b o q).stay (fun _ _ _ z => z) (fun b' z => by rw [upd_ne (ne_of_none z ne')]; exact z) fun b' xs z => by rw [upd_ne (ne_of_none z ne')]; exact z
 exact ⟨I1.call' (s' := { s' with heap := g }) os un2 hok2 bare (fun b z => absurd z (by simp)), ne'⟩
end
section
variable {X : Cx} {pins : List (Addr × Obj)} {σ : St} {H : Hp} {s : Shared} {M : Model} {A : Around} {E : Value -> Shared -> Prop} {Q : Unit -> Shared -> Prop}
theorem drop_ok {n : Str} {k : Nat} {pos : Pos} (I : Inv X pins σ H s) (nd : X.N.Nodup) (hi : X.N[k]? = some n) (hk : X.env.scope.names.lookup n = some .local) (h : ∀ s', Inv X pins (σ.set k none) H s' -> Q () s') :
  wpAny M A (do bindName X.env n .none; unbindBehindTheSuite X.env n pos) Q E s := by
 obtain ⟨m, hn, hl⟩ := id I.loc
 have kd : (X.env.scope.kind == .class || (X.env.scope.kind == .module && X.env.locals != X.env.globals)) = false := by rw [I.ok.kind]; rfl
 refine wpAny_nameGoes_keeps hk hn kd fun h' v hn' hs => h _ ?_
 have kp : ∀ b o, b ≠ X.env.locals -> s.heap.get? b = some o -> h'.get? b = some o := fun b o hb q => (hs.2 b hb).trans q
 have old : ∀ b o, X.s₀.heap.get? b = some o -> b ≠ X.env.locals := fun b o q => Nat.ne_of_lt (Nat.lt_of_lt_of_le (Heap.lt_size q) I.ok.above)
 have cl : ∀ x c w, X.env.cells.lookup x = some c -> s.heap.IsCell c w -> h'.IsCell c w := fun x c w e ⟨o, q, d⟩ => ⟨o, kp _ _ (I.cne x c e) q, d⟩
 refine ⟨I.ok, I.os, I.bare, ⟨fun b o q n hb hx => kp _ _ (old b o q) (I.base.keep b o q n hb hx), fun b o q n hb hx => ?_, I.base.free, fun b o q hx => ?_, I.base.tups, I.base.frzs, I.base.tbls⟩, ⟨_, hn', fun j y w e1 e2 e3 => ?_⟩, fun y c e => ?_, I.free, I.freeC, fun p hp => ?_, fun b o q => ?_, by simpa using I.len⟩
 ·obtain ⟨sl, z⟩ := I.base.slot b o q n hb hx
  exact ⟨sl, kp _ _ (old b o q) z⟩
 ·obtain ⟨o', z⟩ := I.base.there b o q hx
  exact ⟨o', kp _ _ (old b o q) z⟩
 ·have hj : j ≠ k := fun z => by
   subst z
   rw [List.getElem?_set] at e2
   split at e2
   ·split at e2 <;> cases e2
   ·contradiction
  rw [List.getElem?_set, if_neg hj.symm] at e2
  obtain ⟨u, r, l⟩ := hl j y w e1 e2 e3
  refine ⟨u, r, ?_⟩
  rcases l with ⟨l1, l2⟩ | ⟨l1, c, l2, l3⟩
  ·refine .inl ⟨l1, ?_⟩
   have hy : y ≠ n := fun z => by
    subst z
    exact hj ((List.getElem?_inj (List.getElem?_eq_some_iff.mp e1).1 nd).mp (e1.trans hi.symm))
   show (if y = n then v else m y) = some u
   rw [if_neg hy]
   exact l2
  ·exact .inr ⟨l1, c, l2, cl y c _ l2 l3⟩
 ·obtain ⟨w, hw⟩ := I.cell y c e
  exact ⟨w, cl y c w e hw⟩
 ·obtain ⟨p1, p2, p3, p4⟩ := I.pin p hp
  exact ⟨kp _ _ p3 p1, p2, p3, p4⟩
 ·refine (I.hok b o q).stay (fun b' u hb' z => kp _ _ (fun y => ?_) z) (fun _ z => z) fun _ _ z => z
  rcases hb' with y2 | y2
  ·rw [y2] at y
   rw [y, I.free] at q
   cases q
  ·rw [y, I.free] at y2
   cases y2
end
end L2.Na
namespace L2.Na
open PySem PySem.Spec PyProof.Rows L2 L2.L3
abbrev wishP (X : Cx) (pins : List (Addr × Obj)) (W : Value -> Shared -> Prop) : Cx := { X with xe := W, pn := X.pn ++ pins }
section
variable {X : Cx} {pins pins' : List (Addr × Obj)} {σ : St} {H : Hp} {s : Shared} {W : Value -> Shared -> Prop}
theorem ok_wishP (ok : X.Ok) : (wishP X pins W).Ok := ⟨ok.mod, ok.kind, ok.glob, ok.blt, ok.above, ok.inj, ok.has, ok.cab, ok.hd, ok.frames, ok.stk, ok.exf, ok.bs, ok.bsz, ok.noex, ok.exfs, ok.funs, ok.frf⟩
theorem ok_unP (ok : (wishP X pins W).Ok) : X.Ok := ⟨ok.mod, ok.kind, ok.glob, ok.blt, ok.above, ok.inj, ok.has, ok.cab, ok.hd, ok.frames, ok.stk, ok.exf, ok.bs, ok.bsz, ok.noex, ok.exfs, ok.funs, ok.frf⟩
theorem inv_wishP (I : Inv X pins σ H s) : Inv (wishP X pins W) [] σ H s := ⟨ok_wishP I.ok, I.os, I.bare, I.base, I.loc, I.cell, I.free, I.freeC, fun p hp => I.pin p (by simpa using hp), I.hok, I.len⟩
theorem inv_unP (I : Inv (wishP X pins W) pins' σ H s) : Inv X pins σ H s := ⟨ok_unP I.ok, I.os, I.bare, I.base, I.loc, I.cell, I.free, I.freeC, fun p hp => I.pin p (List.mem_append_left _ hp), I.hok, I.len⟩
theorem sp_unP {D : Ends} {f : Flow} {s' : Shared} (h : SP (wishP X pins W) pins' D f s') : SP X pins D f s' := by
 cases f with
 | next => obtain ⟨σ', H', I, q⟩ := h; exact ⟨σ', H', inv_unP I, q⟩
 | brk => obtain ⟨σ', H', I, q⟩ := h; exact ⟨σ', H', inv_unP I, q⟩
 | cont => obtain ⟨σ', H', I, q⟩ := h; exact ⟨σ', H', inv_unP I, q⟩
 | ret u => obtain ⟨v, σ', H', I, r, q⟩ := h; exact ⟨v, σ', H', inv_unP I, r, q⟩
end
theorem looks_ty {M : Model} {h : Heap} {e : Addr} {c : Value} {dx : Option Addr} (x : IsX e c dx h) : PySem.W.Looks M h (typeOf (.ref e)) c := by
 obtain ⟨oe, vs, eo, rfl, _, _⟩ := x
 exact (PySem.W.Looks.ld eo).andThen .now
end L2.Na
namespace L2.Na
open PySem PySem.Spec PyProof.Rows L2 L2.L3
section
variable {K : Fg}
def hnd (h : ExceptHandler) : Option (Str × Pos × Str × Str × Pos × Str × Pos × Pos × Pos) := match h with
 | .ExceptHandler (some t) (some n) [st] hp => (match t with
  | .Name y tp => (match st with
   | .Assign [tg] v ap => (match tg with
    | .Name m mp => (match v with
     | .Name n' np => some (y, tp, n, m, mp, n', np, ap, hp)
     | _ => none)
    | _ => none)
   | _ => none)
  | _ => none)
 | _ => none
end
end L2.Na
namespace L2.Na
open PySem PySem.Spec PyProof.Rows PySem.W
section
variable {prog : Program} {w : World} {A : Around} {E : Value -> Shared -> Prop} {s : Shared} {K : Frag} {x D : Addr} {ox : Obj} {od : Option Obj} {name : Str}
theorem xcheck {M : Model} {nv : Value} {Q : Unit -> Shared -> Prop} (X : K.In s.heap) (I : InstAt s.heap x ox D od) (hb : mroIn K D (.type "BaseException") = some true) (h : Q () s) : wpAny M A (checkBuiltinCall "BaseException.__getattribute__" ⟨[.ref x, nv], []⟩) Q E s := by
 obtain ⟨hh, g, d, t, os⟩ := s
 have kd : builtinKind "BaseException.__getattribute__" = some .slot := by decide +kernel
 have sp : splitId "BaseException.__getattribute__" = some ("BaseException", "__getattribute__") := by decide +kernel
 have ar := F.args_bexc_ga (.ref x) nv
 simp only [checkBuiltinCall, kd, sp]
 refine wpAny_bind (wpAny_bind ((I.type (M := M)).at ((looks_mroIn X hb).at ?_)))
 repeat (any_goals (first | assumption | wp_step))
theorem xby {tk : Tok} {fill ex : Bool} {Q : Value -> Shared -> Prop} (X : K.In s.heap) (I : InstAt s.heap x ox D od) (hga : findIn K (.ref D) "__getattribute__" = some (some (.builtin "BaseException.__getattribute__"))) (hno : findIn K (.ref D) "__getattr__" = some none)
  (hb : mroIn K D (.type "BaseException") = some true)
  (h : wpAny (model prog w) A.in1 (Builtin.«object.__getattribute__» ⟨[.ref x, .str name tk], []⟩) (fun fin s' => ∃ v, fin = .done (.ret v) /\ wpAny (model prog w) A (handedOut v) Q E s') (fun _ _ => False) s) :
  wpAny (model prog w) A (getAttrBy (.ref x) (.str name tk) fill ex) Q E s := by
 obtain ⟨hh, g, d, t, os⟩ := s
 have cg : ∀ o nv, callGetattribute o nv (.builtin "BaseException.__getattribute__") ex = callGetattribute o nv (.builtin "BaseException.__getattribute__") false := fun _ _ => by cases ex <;> rfl
 have L0 := I.type (M := model prog w)
 have L1 := looks_findIn (M := model prog w) X hga
 have L2 := looks_findIn (M := model prog w) X hno
 have f3 := F.excAttr_ValueError.ga.bind (.ref x)
 unfold getAttrBy
 refine wpAny_holding (wpAny_bind (L0.at (wpAny_bind (L1.at ?_))))
 show wpAny _ _ (getAttrByItsOwn _ _ _ _ _ _) _ _ _
 unfold getAttrByItsOwn
 rw [cg]
 refine wpAny_bind ?_
 unfold hookBefore
 repeat (any_goals (first | assumption | (refine L2.at ?_) | wp_step))
 refine codeAny_call_builtin F.excAttr_ValueError.ga.plain F.entry_bexc_ga (xcheck X I hb (wpAny_mono h (fun fin s' z => ?_) fun _ _ z => z.elim))
 obtain ⟨v, rfl, z⟩ := z
 exact z
theorem xget {ex : Bool} {v : Value} {Q : Value -> Shared -> Prop} (X : K.In s.heap) (I : InstAt s.heap x ox D od) (hga : findIn K (.ref D) "__getattribute__" = some (some (.builtin "BaseException.__getattribute__"))) (hno : findIn K (.ref D) "__getattr__" = some none)
  (hb : mroIn K D (.type "BaseException") = some true) (hf : findObj K D od name = some (.value v)) (hv : handedIn v = true) (h : Q v { s with toks := s.toks + 1 }) : wpAny (model prog w) A (getAttr (.ref x) name ex) Q E s := by
 obtain ⟨hh, g, d, t, os⟩ := s
 have L0 := I.type (M := model prog w)
 have L1 := looks_find (M := model prog w) X I hf
 unfold getAttr
 refine wpAny_bind (wpAny_mkText (xby (s := ⟨hh, g, d, t + 1, os⟩) X I hga hno hb ?_))
 unfold Builtin.«object.__getattribute__»
 repeat (any_goals (first | assumption | (refine L0.at ?_) | (refine L1.at ?_) | wp_step))
 exact ⟨v, rfl, by rw [handedOut_of hv]; exact wpAny_pure h⟩
theorem xclass {Q : Option Value -> Shared -> Prop} (X : K.In s.heap) (I : InstAt s.heap x ox D od) (hga : findIn K (.ref D) "__getattribute__" = some (some (.builtin "BaseException.__getattribute__"))) (hno : findIn K (.ref D) "__getattr__" = some none)
  (hb : mroIn K D (.type "BaseException") = some true) (hf : findObj K D od "__class__" = some (.bind (.builtin "getset_descriptor.__get__") (.builtin "object.__class__"))) (hm : mroIn K D (.type "object") = some true) (h : Q (some (.ref D)) { s with toks := s.toks + 1 }) :
  wpAny (model prog w) A (getAttr? (.ref x) "__class__") Q E s := by
 obtain ⟨hh, g, d, t, os⟩ := s
 have L0 := I.type (M := model prog w)
 have L1 := looks_find (M := model prog w) X I hf
 unfold getAttr? getAttrBy?
 refine wpAny_bind (wpAny_mkText (wpAny_bind (wpAny_attempt (xby (s := ⟨hh, g, d, t + 1, os⟩) X I hga hno hb ?_))))
 unfold Builtin.«object.__getattribute__»
 repeat (any_goals (first | assumption | (refine L0.at ?_) | (refine L1.at ?_) | wp_step))
 refine class_get (s := ⟨hh, g, d, t + 1, os⟩) X I hm ?_
 exact wpAny_pure ⟨_, rfl, handed_on rfl (wpAny_pure h)⟩
theorem cls_there (hdct : hasDictIn K D = true) : ∃ c d cd sl, K.lookup D = some ⟨c, d, .cls cd, sl⟩ := by
 obtain ⟨cd, hc, _⟩ := any_some hdct
 unfold clsIn at hc
 split at hc
 ·rename_i c d cd' sl ho
  exact ⟨c, d, cd', sl, ho⟩
 ·cases hc
theorem kitx_exc (hga : findIn K (.ref D) "__getattribute__" = some (some (.builtin "BaseException.__getattribute__"))) (hno : findIn K (.ref D) "__getattr__" = some none) (hb : mroIn K D (.type "BaseException") = some true) (hdct : hasDictIn K D = true)
  (hf : findObj K D od "__class__" = some (.bind (.builtin "getset_descriptor.__get__") (.builtin "object.__class__"))) (hm : mroIn K D (.type "object") = some true) : KitX K (.ref x) (.ref D) (fun h => InstAt h x ox D od) where
 ty := fun _ _ _ I => I.type
 it := fun _ _ X _ => by
  obtain ⟨c, d, cd, sl, ho⟩ := cls_there hdct
  intro A' Q' E' s' k q
  unfold isType loadHead
  exact wpAny_bind (wpAny_loadPart (k _ _ (X _ _ ho)) (wpAny_pure q))
 ne := fun h tp dd its n sl X htp => by
  obtain ⟨c, d, cd, sl', ho⟩ := cls_there hdct
  refine Bool.eq_false_iff.mpr fun q => ?_
  obtain rfl : D = tp := Value.ref.inj (beq_iff_eq.mp q)
  have z := (X _ _ ho).symm.trans htp
  cases z
 ca := fun X I k => xclass X I hga hno hb hf hm k
end
end L2.Na
namespace L2.Na
open PySem PySem.Spec PyProof.Rows L2 L2.L3
theorem law_ofK {KF : Fg -> Prop} {l : PySem.W.OpenLaw} {q : Program} {loose : List Str} {XP : (Str -> Option Value) -> Heap -> Prop} {YP : World -> Heap -> Prop} {d : DefRec} {K : Params -> Fg} {st : Stmt} {N : List Str} {k : Nat} {x : Str} {sp : Fg -> Sp} (hn : l.most = some 63) (hdf : d.params.defaults = []) (hr : Room (k + 1) callerA)
  (hY : ∀ (w : World) (h : Heap), YP w h -> (K w.params).In h) (hK : ∀ w : World, KF (K w.params)) (hd : d.name = "law") (b : ∀ K : Fg, List (SX K)) (S : FnScope N [x] (defScope st)) (hm : ∀ K, mSs (b K) ⟨N, (defScope st).names, true⟩ (defBody st) = true)
  (hb : ∀ (kV doc pm : Value) (an : Option Addr) (cdv ct : Value) (u : Value), bindArgs (PySem.W.fnOf "law" "law" (defArgs st) (defBody st) (defScope st) .none kV doc pm an cdv ct) ⟨[u], []⟩ = pure [(x, u)])
  (len : ∀ K vs H Q E, sp K vs H Q E -> vs.length = 1) (t : ∀ K, KF K -> ∀ vs H Q E, sp K vs H Q E -> tSs (b K) (fun _ => E) { nx := fun _ H' => Q .non H', rt := Q } (start N vs) H)
  (F : ∀ (w : World) (h : Heap), (K w.params).In h -> FD (K w.params) "law" st /\ AllN (K w.params) blts)
  (hq : ∀ (w : World) (mg : Str -> Option Value) (h base : Heap), KF (K w.params) -> (K w.params).In h -> h.Ns mainGlobals mg -> (∀ x ∈ blts, mg x = none) -> ∀ A, Room k A -> qSs (b (K w.params)) ⟨l.prog, w, K w.params, mg, base, A⟩)
  (hsp : ∀ (K : Fg) (H : Hp) (a : Addr) (ns : List Int), KF K -> ns.length <= 63 -> SqL K H a (ns.map V.int) -> sp K [.ref a] H (fun v _ => v = .bl true) fun _ _ _ => False) :
  PySem.W.WalkO q loose XP YP l.row.toRowW d [] (fun f vs => PySem.call f vs) := by
 refine L2.walk_of (n := 63) (k := k + 1) (x := x) (CX := fun w => CXF l.prog w) (sp := fun w => sp (K w.params)) hn (by decide) hdf hr hY (fun w mg fa h KX G hmg => ?_) (fun w H a ns hl _ hS => hsp _ H a ns (hK w) hl hS) fun _ _ _ _ _ z => CXF.no z
 obtain ⟨⟨f, fd, Fn, a⟩, bl⟩ := F w h KX
 rw [hd] at hmg
 have e := hmg.symm.trans (PySem.W.mg_of KX G a)
 cases e
 refine ⟨fd, fun s u => ?_, fun base _ _ => ?_⟩
 ·obtain ⟨oc, od, kV, doc, pm, an, cdv, ct, osl, rfl, lk, hcd⟩ := Fn.ex
  exact .of_eq (hb kV doc pm an cdv ct u)
 ·exact def_ok Fn (b (K w.params)) S (hm _) (all_none KX G bl) (hq w mg h base (hK w) KX G (all_none KX G bl)) (fun vs H Q E z => len _ vs H Q E z) (t _ (hK w))
end L2.Na
namespace L2.Na
open PySem PySem.Spec PyProof.Rows L2 L2.L3
section
variable {prog : Program} {w : World} {A : Around} {E : Value -> Shared -> Prop} {h : Heap} {g : Array GenState} {d : Drawn} {t : Nat} {os : OsState}
variable {nm q : Str} {C N : Addr} {bs bm bmB : List Value} {hdct : Bool} {sn : List Str} {sub : List Value} {ab : Bool} {col : Option Bool} {dd : Option Addr} {k0 k1 k2 k3 k5 : Option Value} {B newId initId : String}
end
section
variable {prog : Program} {w : World} {A : Around} {E : Value -> Shared -> Prop} {s : Shared} {env : Env}
variable {nm q : Str} {C N : Addr} {bs bm bmB : List Value} {hdct : Bool} {sn : List Str} {sub : List Value} {ab : Bool} {col : Option Bool} {dd : Option Addr} {k0 k1 k2 k3 k5 : Option Value} {B newId initId : String}
end
end L2.Na
namespace L2.Na
open PySem PySem.Spec PyProof.Rows L2 L2.L3
open Builtin Builtin.ObjectAttr
section
variable {prog : Program} {w : World} {A : Around} {E : Value -> Shared -> Prop} {h : Heap} {g : Array GenState} {d : Drawn} {t : Nat} {os : OsState} {K : Fg}
variable {nm q : Str} {C N e : Addr} {bs bm : List Value} {sn : List Str} {sub : List Value} {ab : Bool} {col : Option Bool} {dd : Option Addr} {k0 k1 k2 k3 k5 : Option Value} {newId : String} {fld : Str} {v : Value} {oe : Obj}
end
end L2.Na
namespace L2.Na
open PySem PySem.Spec PyProof.Rows L2 L2.L3
def IniFn (K : Fg) (f : Addr) (slf prm fld : Str) : Prop :=
 ∃ (name qual : Str) (params : Arguments) (scope : Scope) (dV kV doc pm cdv ct : Value) (an od : Option Addr) (osl : Array (Option Value)) (p1 p2 p3 p4 : Pos),
  K.lookup f = some ⟨.type "function", od, .func (PySem.W.fnOf name qual params [.Assign [.Attribute (.Name slf p1) fld p2] (.Name prm p3) p4] scope dV kV doc pm an cdv ct), osl⟩ /\ PySem.W.codeIn K cdv qual = true /\
  (scope.kind = .function /\ scope.isCoroutine = false /\ scope.isGenerator = false) /\ (scope.names.lookup slf = some .local /\ scope.names.lookup prm = some .local) /\ ((slf == ("__debug__" : Str)) = false /\ (prm == ("__debug__" : Str)) = false /\ slf ≠ prm) /\
  ∀ (s : Shared) (u v : Value), K.In s.heap -> PySem.BindsTo s (PySem.W.fnOf name qual params [.Assign [.Attribute (.Name slf p1) fld p2] (.Name prm p3) p4] scope dV kV doc pm an cdv ct) ⟨[u, v], []⟩ [(slf, u), (prm, v)]
section
variable {prog : Program} {w : World} {A : Around} {E : Value -> Shared -> Prop} {s : Shared} {K : Fg}
variable {nm q : Str} {C N e f : Addr} {bs bm : List Value} {sn : List Str} {sub : List Value} {ab : Bool} {col : Option Bool} {dd : Option Addr} {k0 k1 k2 k3 k5 : Option Value} {newId : String} {slf prm fld : Str} {v : Value} {oe : Obj}
end
end L2.Na
namespace L2.Na
open PySem PySem.Spec PyProof.Rows L2 L2.L3
def excI (K : Fg) (C f : Addr) : Bool := match K.lookup C with
 | some ⟨.type "type", _, .cls cd, sl⟩ => (match cd.mro, sl.toList with
  | .ref C' :: bm, [_, _, _, _, some (.builtin n), _] => C' == C && n == "ValueError.__new__" && !cd.hasDel && PySem.W.tailIn K mroVE bm && PySem.W.nsOkIn K cd.ns && (PySem.W.nsIn K cd.ns "__init__" == some (some (.ref f)) && cd.hasDict)
  | _, _ => false)
 | _ => false
def iniAt (K : Fg) (x : Str) : Addr := match PySem.W.findIn K (.ref (clsAt K x)) "__init__" with
 | some (some (.ref f)) => f
 | _ => 0
structure IniK (K : Fg) (x slf prm fld : Str) : Prop where
 at_ : PySem.W.nsIn K mainGlobals x = some (some (.ref (clsAt K x)))
 exc : excI K (clsAt K x) (iniAt K x) = true
 sa : PySem.W.findIn K (.ref (clsAt K x)) "__setattr__" = some (some (.builtin "object.__setattr__"))
 fl : PySem.W.findIn K (.ref (clsAt K x)) fld = some none
 fn : IniFn K (iniAt K x) slf prm fld
section
variable {K : Fg}
def one (P : V -> Hp -> Prop) : List V -> Hp -> Prop
 | [v], H => P v H
 | _, _ => False
end
end L2.Na
namespace L2.Na
open PySem PySem.Spec PyProof.Rows L2 L2.L3
structure XF (K : Fg) (D : Addr) : Prop where
 ga : PySem.W.findIn K (.ref D) "__getattribute__" = some (some (.builtin "BaseException.__getattribute__"))
 no : PySem.W.findIn K (.ref D) "__getattr__" = some none
 mb : PySem.W.mroIn K D (.type "BaseException") = some true
 hd : PySem.W.hasDictIn K D = true
 cl : ∀ od, PySem.W.findObj K D od "__class__" = some (.bind (.builtin "getset_descriptor.__get__") (.builtin "object.__class__"))
 mo : PySem.W.mroIn K D (.type "object") = some true
def XAt (H : Hp) (x : V) (D : Addr) (fs : List (Str × V)) : Prop :=
 ∃ e, x = .ref e /\ ((H e = some (.ext (IsX e (.ref D) none)) /\ fs = []) \/ ∃ d, H e = some (.ext (IsX e (.ref D) (some d))) /\ H d = some (.xd fs))
section
variable {K : Fg} {X : Cx} {pins : List (Addr × Obj)} {σ : St} {H : Hp} {s : Shared}
theorem x_inst {x : V} {D : Addr} {fs : List (Str × V)} (I : Inv X pins σ H s) (h : XAt H x D fs) : ∃ (e : Addr) (ox : Obj) (od : Option Obj), x = .ref e /\ PySem.W.InstAt s.heap e ox D od /\ (fs = [] \/ ∃ (o : Obj) (mA : Str -> Option Value), od = some o /\ (∀ name, PySem.W.lookIn name o = some (mA name)) /\ ∀ f, RelO (fs.lookup f) (mA f)) := by
 obtain ⟨e, rfl, h⟩ := h
 rcases h with ⟨h, rfl⟩ | ⟨d, h, hd⟩
 ·obtain ⟨⟨oe, vs, eo, hc, hx, dt⟩, _⟩ := I.hok e _ h
  refine ⟨e, oe, none, rfl, ⟨eo, hc, ?_, ?_⟩, .inl rfl⟩
  ·unfold PySem.W.notCls; rw [dt]
  ·rw [hx]; trivial
 ·obtain ⟨⟨oe, vs, eo, hc, hx, dt⟩, _⟩ := I.hok e _ h
  obtain ⟨mA, n, r⟩ := I.hok d _ hd
  obtain ⟨od, ho, hl⟩ := lookIn_ns n
  refine ⟨e, oe, some od, rfl, ⟨eo, hc, ?_, ?_⟩, .inr ⟨od, mA, rfl, hl, r⟩⟩
  ·unfold PySem.W.notCls; rw [dt]
  ·rw [hx]; exact ho
def clV : V -> Option Value
 | .ty n => some (.type n)
 | .ref C => some (.ref C)
 | _ => none
theorem clV_rel {c : V} {cv u : Value} (h : clV c = some cv) (r : RelV c u) : u = cv := by
 cases c with
 | ty n => cases h; exact r
 | ref C => cases h; exact r
 | _ => cases h
def rIsx (K : Fg) : List V -> Hp -> VK -> Prop
 | [x, c], H, Q => ∃ cv t b, clV c = some cv /\ (TyOf K H x t \/ ∃ D fs, t = .ref D /\ XAt H x D fs /\ XF K D) /\ PySem.W.kitOne K t cv = some b /\ Q (.bl b) H
 | _, _, _ => False
theorem isx_ok (X : Cx) : CallR X (.builtin "isinstance") (rIsx X.K) := by
 intro pins s σ H xs us Q I r h
 unfold rIsx at h
 split at h
 ·rename_i x c
  obtain ⟨cv, t, b, hc, ty, k, q⟩ := h
  obtain ⟨u, v, rfl, r1, r2⟩ := r.two
  obtain rfl := clV_rel hc r2
  rcases ty with ty | ⟨D, fs, rfl, xa, F⟩
  ·exact isinst_ok I r1 ty k fun tk => ⟨.bl b, H, I.tok tk, rfl, q⟩
  ·obtain ⟨e, ox, od, rfl, J, _⟩ := x_inst I xa
   obtain rfl : u = Value.ref e := r1
   exact PySem.W.kia_one (kitx_exc F.ga F.no F.mb F.hd (F.cl od) F.mo) I.kIn J k (fun z => nomatch z) fun tk => ⟨.bl b, H, I.tok tk, rfl, q⟩
 ·exact h.elim
def tXf (K : Fg) (ta : TE) (f : Str) : TE := fun σ H Q => ta σ H fun x H1 => ∃ D fs v, XAt H1 x D fs /\ XF K D /\ PySem.W.findIn K (.ref D) f = some none /\ fs.lookup f = some v /\ Q v H1
theorem pe_xf {ta : TE} {e : Expr} {f : Str} {pos : Pos} (he : PE X e ta) (hb : attributeBase e f X.env (eval e X.env) = eval e X.env) : PE X (.Attribute e f pos) (tXf X.K ta f) := by
 intro pins s σ H Q I h
 refine attr_of hb (thn (he pins s σ H _ I h) fun u s1 ⟨x, H1, I1, rx, D, fs, v, xa, F, n, l, q⟩ => ?_)
 obtain ⟨a, ox, od, rfl, J, z⟩ := x_inst I1 xa
 obtain rfl : u = Value.ref a := rx
 rcases z with rfl | ⟨o, mA, rfl, hl, r⟩
 ·cases l
 ·have rf := r f
  rw [l] at rf
  cases hm : mA f with
  | none => rw [hm] at rf; exact rf.elim
  | some u' =>
   rw [hm] at rf
   have rv : RelV v u' := rf
   refine xget I1.kIn J F.ga F.no F.mb (PySem.W.findObj_own F.hd n rfl (by rw [hl, hm])) (handed_of rv) ?_
   exact ⟨v, H1, I1.tok _, rv, q⟩
def xfl (a : EX K) (f : Str) (ha : a.s ≠ .zc := by intro z; cases z) : EX K := mkE2 (fun E => tXf K (a.t E) f)
 (fun C e => match e with
  | .Attribute o g _ => g == f && a.m C o
  | _ => false) a.q .pl
 (fun X C E e hK G hE hq hm => by
  subst hK
  cases e with
  | Attribute o g p =>
   simp only [Bool.and_eq_true] at hm
   obtain ⟨h1, h2⟩ := hm
   obtain rfl := eq_of_beq h1
   exact pe_xf (a.ok X C E o rfl G hE hq h2) (shp_base (a.sok C o h2) ha)
  | _ => exact ff hm)
 (fun C e hm => by cases e with | Attribute o g p => exact ⟨rfl, rfl⟩ | _ => exact ff hm)
end
end L2.Na
namespace L2.Na
open PySem PySem.Spec PyProof.Rows L2 L2.L3
section
variable {K : Fg}
def tyVE : EX K := bty "ValueError" "ValueError" (by kernel_rfl) (by decide +kernel) (by decide +kernel)
section
variable {E : XS} {σ : St} {H : Hp} {Q : VK} {a b : EX K} {D : Ends}
theorem i_tyVE (h : Q (.ty "ValueError") H) : (tyVE : EX K).t E σ H Q := h
theorem i_xfl {f : Str} {ha : a.s ≠ .zc} (h : a.t E σ H fun x H1 => ∃ D fs v, XAt H1 x D fs /\ XF K D /\ PySem.W.findIn K (.ref D) f = some none /\ fs.lookup f = some v /\ Q v H1) : (xfl a f ha).t E σ H Q := h
theorem i_raiseO {x : Str} {as : List (EX K)} (h : tAs (a :: as) E σ H fun vs H1 => vs.length <= sizeLine /\ E σ (.ref (clsAt K x)) none H1) : (raiseO x a as).t E D σ H := h
theorem i_isxX {x : V} {c : V} {cv : Value} {C : Addr} {fs : List (Str × V)} {k : Bool} (h1 : clV c = some cv) (xa : XAt H x C fs) (F : XF K C) (h2 : PySem.W.kitOne K (.ref C) cv = some k) (q : Q (.bl k) H) : rIsx K [x, c] H Q := ⟨cv, _, k, h1, .inr ⟨C, fs, rfl, xa, F⟩, h2, q⟩
end
end
end L2.Na
namespace L2.Na
open PySem PySem.Spec PyProof.Rows L2 L2.L3
structure RoomH (k : Nat) (A : Around) : Prop where
 dp : A.depth + 3 * k + 5 < recursionLimit
 un : A.units + 16 * k + 200 < cLine
theorem RoomH.deeper {k : Nat} {A : Around} (r : RoomH (k + 1) A) (env : Env) : RoomH k (A.deeper env) :=
 ⟨by have := r.dp; show A.depth + 1 + 3 * k + 5 < _; omega, by have := r.un; show A.units + 3 + 16 * k + 200 < _; omega⟩
theorem RoomH.mono {j k : Nat} {A : Around} (r : RoomH k A) (h : j <= k) : RoomH j A := ⟨by have := r.dp; omega, by have := r.un; omega⟩
theorem Room.hot {k : Nat} {A : Around} (r : Room k A) (h : Option Value) : RoomH k (A.mark h) := ⟨r.dp, r.un⟩
structure FnOkH (P : Program) (w : World) (K : Fg) (mg : Str -> Option Value) (base : Heap) (k : Nat) (f : Addr) (fd : FuncData) (ps : List Str) (sp : Sp) : Prop where
 len : ∀ vs H Q E, sp vs H Q E -> vs.length = ps.length
 run : ∀ (A : Around) (outer : List Env) (s : Shared) (H : Hp) (args : Args) (us : List Value) (vs : List V) (Q : VK), RoomH k A -> Env0 P w K mg base A outer s H -> BindsTo s fd args (ps.zip us) -> Vals vs us -> sp vs H Q (fun _ _ _ => False) ->
  codeAny (model P w) A (.call (.ref f) args) (CR (CXF P w) outer P w H s Q (fun _ _ _ => False)) s
abbrev hotX (X : Cx) : Cx := { X with calm := false }
section
variable {X : Cx} {pins : List (Addr × Obj)} {σ : St} {H : Hp} {s : Shared}
end
section
variable {P : Program} {w : World} {K : Fg} {mg : Str -> Option Value} {base : Heap}
theorem fn_ofH {k : Nat} {f : Addr} {name qual : Str} {params : Arguments} {body : List Stmt} {scope : Scope} {dV kV doc pm cdv ct oc : Value} {an od : Option Addr}
  {osl : Array (Option Value)} {N ps : List Str} {sp : Sp} (lk : K.lookup f = some ⟨oc, od, .func (PySem.W.fnOf name qual params body scope dV kV doc pm an cdv ct), osl⟩) (hcd : PySem.W.codeIn K cdv qual = true) (S : FnScope N ps scope)
  (len : ∀ vs H Q E, sp vs H Q E -> vs.length = ps.length)
  (hbody : ∀ (A : Around) (outer : List Env) (s : Shared) (H : Hp) (vs : List V) (Q : VK), RoomH k (A.deeper (envOfC qual scope s.heap.objs.size f cdv)) -> sp vs H Q (fun _ _ _ => False) ->
   ∃ t, PSs (hotX (cxOf (CXF P w) P w K mg base N qual scope f cdv A outer s H (fun _ _ _ => False))) body t /\ t { nx := fun _ H' => Q .non H', rt := Q } (start N vs) H) :
  FnOkH P w K mg base (k + 1) f (PySem.W.fnOf name qual params body scope dV kV doc pm an cdv ct) ps sp := by
 refine ⟨len, fun A outer s H args us vs Q hr e0 hb r hsp => ?_⟩
 have hl := len _ _ _ _ hsp
 have KX : K.In s.heap := e0.mod.kin.keeps fun b o e => (e0.bs b o e).1
 have lim : s.heap.NoLimit := e0.mod.nolimit.keeps fun b o e => (e0.bs b o e).1
 have hkind : ∀ y ∈ ps.zip us, scope.names.lookup y.1 = some .local \/ (scope.names.lookup y.1 = some .cell /\ ((cellsFrom (s.heap.objs.size + 1) scope.names []).lookup y.1).isSome = true) := fun ⟨n, v⟩ hy => by
  rcases S.par n (List.of_mem_zip hy).1 with q | q
  ·exact .inl q
  ·exact .inr ⟨q, PySem.W.cellsFrom_some _ _ _ (.inl q)⟩
 have hdep : A.depth < recursionLimit := by have := hr.dp; omega
 refine codeAny_call_function hdep (KX _ _ lk) rfl S.co S.gen rfl (PySem.W.codeRec_of KX hcd) (hb _ _ _ _ ?_)
 refine wpAny_newFunctionEnv_cells S.kind hkind fun env he s1 x => ?_
 subst he
 refine ⟨lim.keeps x.toInCall.keep, codeAny_func ?_⟩
 obtain ⟨t, ht, hq⟩ := hbody A outer s H vs Q (hr.deeper _) hsp
 have e1 : Env0 P w K mg base { A with handled := none } outer s H := ⟨e0.frames, e0.mod, e0.bs, e0.bsz, e0.funs, e0.frf, e0.hok, e0.bare⟩
 have I0 : Inv (cxOf (CXF P w) P w K mg base N qual scope f cdv { A with handled := none } outer s H (fun _ _ _ => False)) [] (start N vs) H s1 := inv_start S rfl e1 hl r x
 have I : Inv (hotX (cxOf (CXF P w) P w K mg base N qual scope f cdv A outer s H (fun _ _ _ => False))) [] (start N vs) H s1 :=
  ⟨⟨I0.ok.mod, I0.ok.kind, I0.ok.glob, I0.ok.blt, I0.ok.above, I0.ok.inj, I0.ok.has, I0.ok.cab, (fun z => nomatch z), I0.ok.frames, I0.ok.stk, I0.ok.exf, I0.ok.bs, I0.ok.bsz, I0.ok.noex, I0.ok.exfs, I0.ok.funs, I0.ok.frf⟩, I0.os, I0.bare, I0.base, I0.loc, I0.cell, I0.free, I0.freeC, I0.pin, I0.hok, I0.len⟩
 refine wpAny_mono (ht [] s1 (start N vs) H _ I hq) (fun fl s' hs => ?_) fun e s' hs => hs
 have fin : ∀ {σ' : St} {H' : Hp} {v : V} {u : Value}, Inv (hotX (cxOf (CXF P w) P w K mg base N qual scope f cdv A outer s H (fun _ _ _ => False))) [] σ' H' s' -> RelV v u -> Q v H' -> CE outer P w H s Q u s' :=
  fun {σ' H' v u} J rv q => ⟨v, H', J.os, J.bare, J.base, J.hok, rv, q⟩
 cases fl with
 | ret u =>
  obtain ⟨v, σ', H', J, rv, q⟩ := hs
  exact fin J rv q
 | next =>
  obtain ⟨σ', H', J, q⟩ := hs
  exact fin (v := V.non) (u := Value.none) J rfl q
 | brk =>
  obtain ⟨_, _, _, q⟩ := hs
  exact q.elim
 | cont =>
  obtain ⟨_, _, _, q⟩ := hs
  exact q.elim
theorem def_okH {x qual : Str} {st : Stmt} {f : Addr} {fd : FuncData} {N ps : List Str} {k : Nat} {sp : Sp} (F : Fun K x qual st f fd) (b : List (SX K)) (S : FnScope N ps (defScope st))
  (hm : mSs b ⟨N, (defScope st).names, .hot⟩ (defBody st) = true) (bl : ∀ x ∈ blts, mg x = none) (hq : ∀ A, RoomH k A -> qSs b ⟨P, w, K, mg, base, A⟩) (len : ∀ vs H Q E, sp vs H Q E -> vs.length = ps.length)
  (h : ∀ vs H Q E, sp vs H Q E -> tSs b E0 { nx := fun _ H' => Q .non H', rt := Q } (start N vs) H) : FnOkH P w K mg base (k + 1) f fd ps sp := by
 obtain ⟨oc, od, kV, doc, pm, an, cdv, ct, osl, rfl, lk, hcd⟩ := F.ex
 refine fn_ofH lk hcd S len fun A outer s H vs Q hr hsp => ?_
 have G : Gd (hotX (cxOf (CXF P w) P w K mg base N qual (defScope st) f cdv A outer s H (fun _ _ _ => False))) ⟨N, (defScope st).names, .hot⟩ := ⟨rfl, rfl, S.nd, (fun z => nomatch z), bl, (by have := hr.un; show (A.deeper (envOfC qual (defScope st) s.heap.objs.size f cdv)).units + 64 < cLine; omega), fun _ _ => rfl, fun _ => ⟨rfl, rfl⟩, (fun _ h => nomatch h)⟩
 have T : Thr (hotX (cxOf (CXF P w) P w K mg base N qual (defScope st) f cdv A outer s H (fun _ _ _ => False))) E0 := ⟨fun _ _ _ _ _ _ _ z => (CXF.no z).elim, fun _ _ _ _ _ _ _ _ _ _ _ _ _ _ _ _ _ _ _ z => z.elim, PassesOwn.leaving⟩
 exact ⟨_, ss_ok G T b (defBody st) (hq _ hr) hm, h vs H Q _ hsp⟩
end
end L2.Na
namespace L2.Na
open PySem PySem.Spec PyProof.Rows L2 L2.L3
def FnAtH (R : Rt) (x : Str) (sp : Sp) : Prop := ∃ (k : Nat) (f : Addr) (fd : FuncData) (ps : List Str), RoomH k R.A /\ FnOkH R.P R.w R.K R.mg R.base k f fd ps sp /\ Binds R.K fd ps [] /\ PySem.W.keepIn R.K (.ref f) = true /\ R.mg x = some (.ref f)
theorem run_ownH {X : Cx} {k : Nat} {f : Addr} {fd : FuncData} {ps : List Str} {sp : Sp} {pins : List (Addr × Obj)} {σ : St} {H1 : Hp} {s1 : Shared} {Q1 : VK} {us : List Value} {vs : List V} (F : FnOkH X.prog X.w X.K X.mg X.base k f fd ps sp)
  (room : RoomH k X.A) (bd : Binds X.K fd ps []) (I1 : Inv X pins σ H1 s1) (rl : Vals vs us) (pr : sp vs H1 Q1 (fun _ _ _ => False)) : wpAny (model X.prog X.w) X.A (PySem.call (.ref f) us) (EP X pins σ Q1) X.xe s1 := by
 have ln : (us ++ []).length = ps.length := by rw [List.append_nil, <- rl.length]; exact F.len _ _ _ _ pr
 have b := bd s1 us I1.kIn ln
 rw [List.append_nil] at b
 refine wpAny_call (codeAny_mono (F.run X.A X.stack s1 H1 ⟨us, []⟩ us vs Q1 room I1.env0 b rl pr) fun res s2 fin => ?_)
 cases res with
 | error ev => exact (CXF.no fin).elim
 | ok fl =>
  cases fl with
  | ret v => exact I1.after fin
  | next => exact fin.elim
  | brk => exact fin.elim
  | cont => exact fin.elim
section
variable {K : Fg}
def callH (x : Str) (sp : Sp) (a : EX K) (as : List (EX K)) : EX K := mkE (fun E σ H Q => tAs (a :: as) E σ H fun vs H1 => sp vs H1 Q (fun _ _ _ => False))
 (fun C e => match e with
  | .Call (.Name y _) es [] _ => glB C x y && mAs (a :: as) C es
  | _ => false) (fun R => FnAtH R x sp /\ qAs (a :: as) R) .pl
 (fun X C E e hK G hE hq hm => by
  subst hK
  cases e with
  | Call f es ks p =>
   cases f with
   | Name y py =>
    cases ks with
    | nil =>
     simp only [Bool.and_eq_true] at hm
     obtain ⟨h1, h2⟩ := hm
     have e := glB_eq h1
     subst e
     obtain ⟨g, d⟩ := glB_gl G h1
     obtain ⟨⟨k, f, fd, ps, hr, F, hb, kp, hg⟩, hqa⟩ := hq
     cases es with
     | nil => cases h2
     | cons e es =>
      intro pins s σ H Q I h
      exact wpAny_Call_Name_kw (ld_glob I g hg (PySem.W.callWith_K (h₀ := X.base) I.ok.mod.kin kp (thn (as_ok G hE (a :: as) (e :: es) hqa h2 p pins s σ H _ I h) fun us s1 ⟨vs, H1, I1, r, q⟩ => ⟨I1.kIn, run_ownH F hr hb I1 r q⟩) (shp_star (a.sok C e (mAs_cons h2).1)) (as_plain as es (mAs_cons h2).2)) d)
    | cons _ _ => cases hm
   | _ => exact ff hm
  | _ => exact ff hm)
 (fun C e hm => by
  cases e with
  | Call f es ks p =>
   cases f with
   | Name y py =>
    cases ks with
    | nil =>
     simp only [Bool.and_eq_true] at hm
     exact shA_ok (a :: as) es hm.2
    | cons _ _ => cases hm
   | _ => exact ff hm
  | _ => exact ff hm)
 (fun C e hm => by cases e with | Call f es ks p => rfl | _ => exact ff hm)
def bfnH (x : Str) (id : String) (r : List V -> Hp -> VK -> Prop) (ok : ∀ X : Cx, X.K = K -> CallR X (.builtin id) r) (hb : bootBuiltins x = some (.builtin id)) (hi : x ∈ blts) (hn : x ≠ "__name__") (a : EX K) (as : List (EX K)) : EX K :=
 mkE (fun E => tCB r (tAs (a :: as) E))
 (fun C e => match e with
  | .Call (.Name y _) es [] _ => glB C x y && mAs (a :: as) C es
  | _ => false) (fun R => qAs (a :: as) R) .pl
 (fun X C E e hK G hE hq hm => by
  subst hK
  cases e with
  | Call f es ks p =>
   cases f with
   | Name y py =>
    cases ks with
    | nil =>
     simp only [Bool.and_eq_true] at hm
     obtain ⟨h1, h2⟩ := hm
     have e := glB_eq h1
     subst e
     obtain ⟨g, d⟩ := glB_gl G h1
     cases es with
     | nil => cases h2
     | cons e es => exact pe_callB (ok X rfl) g (G.bl _ hi) hb (as_ok G hE (a :: as) (e :: es) hq h2) hn d (shp_star (a.sok C e (mAs_cons h2).1)) (as_plain as es (mAs_cons h2).2)
    | cons _ _ => cases hm
   | _ => exact ff hm
  | _ => exact ff hm)
 (fun C e hm => by
  cases e with
  | Call f es ks p =>
   cases f with
   | Name y py =>
    cases ks with
    | nil =>
     simp only [Bool.and_eq_true] at hm
     exact shA_ok (a :: as) es hm.2
    | cons _ _ => cases hm
   | _ => exact ff hm
  | _ => exact ff hm)
 (fun C e hm => by cases e with | Call f es ks p => rfl | _ => exact ff hm)
def isxH (a b : EX K) : EX K := bfnH "isinstance" "isinstance" (rIsx K) (fun X hK => by subst hK; exact isx_ok X) PyProof.Rows.Boot.isinstance (by decide +kernel) (by decide +kernel) a [b]
theorem i_isxH {E : XS} {σ : St} {H : Hp} {Q : VK} {a b : EX K} (h : a.t E σ H fun x H1 => b.t E σ H1 fun y H2 => rIsx K [x, y] H2 Q) : (isxH a b).t E σ H Q := h
theorem i_callH {E : XS} {σ : St} {H : Hp} {Q : VK} {x : Str} {sp : Sp} {a : EX K} {as : List (EX K)} (h : tAs (a :: as) E σ H fun vs H1 => sp vs H1 Q (fun _ _ _ => False)) : (callH x sp a as).t E σ H Q := h
end
end L2.Na
namespace L2.Na
open PySem PySem.Spec PyProof.Rows L2 L2.L3
abbrev suiX (X : Cx) (e : Addr) : Cx := { X with A := X.A.mark (some (.ref e)), calm := false, xe := fun _ _ => False }
section
variable {X : Cx} {pins : List (Addr × Obj)} {σ : St} {H : Hp} {s : Shared} {e : Addr}
theorem inv_sui (I : Inv X pins σ H s) : Inv (suiX X e) pins σ H s :=
 ⟨⟨I.ok.mod, I.ok.kind, I.ok.glob, I.ok.blt, I.ok.above, I.ok.inj, I.ok.has, I.ok.cab, (fun z => nomatch z), I.ok.frames, I.ok.stk, I.ok.exf, I.ok.bs, I.ok.bsz, I.ok.noex, I.ok.exfs, I.ok.funs, I.ok.frf⟩, I.os, I.bare, I.base, I.loc, I.cell, I.free, I.freeC, I.pin, I.hok, I.len⟩
theorem inv_unsui (ok : X.Ok) (I : Inv (suiX X e) pins σ H s) : Inv X pins σ H s := ⟨ok, I.os, I.bare, I.base, I.loc, I.cell, I.free, I.freeC, I.pin, I.hok, I.len⟩
end
theorem gd_sui {X : Cx} {C : Sc} {e : Addr} (G : Gd X C) (fb : C.fb = true) : Gd (suiX X e) ⟨C.N, C.nm, .hot⟩ := ⟨G.N, G.nm, G.nd, (fun z => nomatch z), G.bl, G.hu, fun _ => G.fb fb, fun _ => G.top fb, (fun _ h => nomatch h)⟩
theorem suite_runE {X : Cx} {C : Sc} {pins : List (Addr × Obj)} {σ : St} {H2 : Hp} {s3 : Shared} {B : Heap} {e : Addr} {c : Value} {dx : Option Addr} {D : Ends} {kn km : Nat} {x n m : Str} {tp mp hp ap : Pos} {v : Expr} (a : EX X.K) (G : Gd X C) (fb : C.fb = true) (W : Addr) (g : Gl X x) (hd : (x == ("__debug__" : Str)) = false) (hm : X.mg x = some (.ref W))
  (hx : PySem.W.exmOne X.K c (.ref W) = some true) (iN : X.N[kn]? = some n) (lN : X.env.scope.names.lookup n = some .local) (iM : X.N[km]? = some m) (lM : X.env.scope.names.lookup m = some .local)
  (ha : a.s ≠ .cp) (qa : a.q (rtOf (suiX X e))) (ma : a.m ⟨C.N, C.nm, .hot⟩ v = true)
  (F : FlyD B X.stack e c dx .none s3.heap) (re : ∀ g2, FlyD B X.stack e c dx .none g2 -> s3.heap.UpToSlots g2 -> Inv X pins σ H2 { s3 with heap := g2 }) (ix : IsX e c dx s3.heap)
  (q : a.t E0 (σ.set kn (some (.ref e))) H2 fun v H3 => D.nx (((σ.set kn (some (.ref e))).set km (some v)).set kn none) H3) :
  wpAny (model X.prog X.w) X.A (handleBy (.ref e) X.env [.ExceptHandler (some (.Name x tp)) (some n) [.Assign [.Name m mp] v ap] hp]) (SP X pins D) X.xe s3 := by
 have I3 : Inv X pins σ H2 s3 := re s3.heap F (Heap.UpToSlots.refl _)
 refine wpAny_handleBy_cons (codeAny_handlers_test ?_) (by intro z; cases z)
 refine Calls.Name_function_global I3.ok.kind g (Calls.loadGlobal_global (by rw [I3.ok.glob]; exact I3.mod.glob.keeps I3.bk) hm ?_) hd
 refine (PySem.W.exm_one I3.kIn (looks_ty ix) hx).here ?_
 show codeAny _ _ (.handlers (.ref e) [.ExceptHandler none (some n) [.Assign [.Name m mp] v ap] hp] X.env) _ _
 refine codeAny_handlers_suite_as (land_fly F fun g2 F2 u2 => ?_)
 have I4 := re g2 F2 u2
 refine store_ok I4 (by rw [G.N]; exact G.nd) iN (.inl lN) (v := .ref e) rfl (fun s5 I5 => ?_) (.inr lN)
 refine wpAny_execs_cons ?_
 refine wpAny_Assign_Name ?_ (shp_swap (a.sok _ v ma) ha)
 have ev := a.ok (suiX X e) ⟨C.N, C.nm, .hot⟩ E0 v rfl (gd_sui G fb) (thr0 rfl) qa ma pins s5 _ H2 _ (inv_sui I5) q
 refine wpAny_mono ev (fun u s6 z => ?_) fun _ _ z => z.elim
 obtain ⟨w, H3, I6, rw', q'⟩ := z
 refine store_ok (inv_unsui I5.ok I6) (by rw [G.N]; exact G.nd) iM (.inl lM) (v := w) rw' (fun s7 I7 => wpAny_execs_nil ?_) (.inr lM)
 show wpAny _ X.A (do bindName X.env n .none; unbindBehindTheSuite X.env n hp) _ _ s7
 exact drop_ok I7 (by rw [G.N]; exact G.nd) iN lN fun s8 I8 => ⟨_, H3, I8, q'⟩
section
variable {K : Fg}
def tExE (K : Fg) (x : Str) (kn km : Nat) (a : EX K) (D : Ends) : XS := fun σ1 c dx H' => PySem.W.exmOne K c (.ref (clsAt K x)) = some true /\ ∀ e, H' e = none -> a.t E0 (σ1.set kn (some (.ref e))) (upd H' e (.ext (IsX e c dx))) fun v H3 => D.nx (((σ1.set kn (some (.ref e))).set km (some v)).set kn none) H3
theorem thr_tryE {X : Cx} {C : Sc} {pins : List (Addr × Obj)} {D : Ends} {kn km : Nat} {x n m : Str} {tp mp hp ap : Pos} {v : Expr} (a : EX X.K) (G : Gd X C) (fb : C.fb = true) (g : Gl X x) (hd : (x == ("__debug__" : Str)) = false) (hm : X.mg x = some (.ref (clsAt X.K x)))
  (iN : X.N[kn]? = some n) (lN : X.env.scope.names.lookup n = some .local) (iM : X.N[km]? = some m) (lM : X.env.scope.names.lookup m = some .local) (ha : a.s ≠ .cp) (qa : ∀ e, a.q (rtOf (suiX X e))) (ma : a.m ⟨C.N, C.nm, .hot⟩ v = true) :
  Thr (wishP X pins fun ev s1 => wpAny (model X.prog X.w) X.A (noteFrame ev X.env) (fun _ s2 => wpAny (model X.prog X.w) X.A (setFlight ev none) (fun _ s3 =>
   wpAny (model X.prog X.w) X.A (handleBy ev X.env [.ExceptHandler (some (.Name x tp)) (some n) [.Assign [.Name m mp] v ap] hp]) (SP X pins D) X.xe s3) X.xe s2) X.xe s1) (tExE X.K x kn km a D) := by
 obtain ⟨hst, hfr⟩ := G.top fb
 refine ⟨fun pins' σ1 H1 s1 ev s' I' hc => ?_, fun pins' σ1 H1 H' s1 s' e oe vs I' os bare un hok n1 en eo dt v1 hz => ?_, PassesOwn.looking⟩
 ·have I1 : Inv X pins σ1 H1 s1 := inv_unP I'
  obtain ⟨e, c, dx, H', B, rfl, os, bare, un, hok, ⟨fl, F⟩, c1, c2, hx, hq⟩ := hc
  have F0 : FlyD B (X.env :: X.outer) e c dx fl s'.heap := hst ▸ F
  refine note_fly (I1.ok.frames.trans (congrArg some hst)) hfr hfr F0 fun g1 _ F1 u1 => land_fly F1 fun g2 F2 u2 => ?_
  have F2' : FlyD B X.stack e c dx .none g2 := hst.symm ▸ F2
  have re := fun g3 (F3 : FlyD B X.stack e c dx .none g3) (u3 : s'.heap.UpToSlots g3) => caught_inv I1 os bare un hok F.stay c1 c2 F3 u3
  refine suite_runE (s3 := { s' with heap := g2 }) a G fb (clsAt X.K x) g hd hm hx iN lN iM lM ha (qa e) ma F2' (fun g3 F3 u3 => (re g3 F3 ((u1.trans u2).trans u3)).1) ?_ (hq e (re g2 F2' (u1.trans u2)).2)
  obtain ⟨oe, vs, _, _, _, z1, z2, z3, z4, _⟩ := F2.tr
  exact ⟨oe, vs, z1, z2, z3, z4⟩
 ·have I1 : Inv X pins σ1 H1 s1 := inv_unP I'
  obtain ⟨hx, hq⟩ := hz
  have I2 : Inv X pins σ1 H' s' := I1.call' os un hok bare fun b y => absurd y (by simp)
  have ff : s'.heap.FunFrames X.base X.stack := I2.stack
  have ff2 : s'.heap.FunFrames (PySem.W.hideAll s'.heap (e :: frs X.stack)) X.stack := PySem.W.funFrames_hide ff fun env' he' a ha => List.mem_cons_of_mem _ (List.mem_filterMap.mpr ⟨env', he', ha⟩)
  have has : ∀ {b o}, s'.heap.get? b = some o -> b ≠ e -> b ∉ frs X.stack -> (PySem.W.hideAll s'.heap (e :: frs X.stack)).get? b = some o := fun q h1 h2 => PySem.W.hideAll_get _ q (by simp only [List.mem_cons, not_or]; exact ⟨h1, h2⟩)
  have st : (PySem.W.hideAll s'.heap (e :: frs X.stack)).StaysIn s'.heap := fun b o q => PySem.W.of_hideAll _ q
  have c1 : ∀ b o, s1.heap.get? b = some o -> b ∉ frs X.stack -> ∃ u, (PySem.W.hideAll s'.heap (e :: frs X.stack)).get? b = some u := fun b o q hb => by
   obtain ⟨o1, q1⟩ := un.there b o q (by simp)
   exact ⟨o1, has q1 (fun z => by rw [z, n1] at q; cases q) hb⟩
  have c2 : ∀ b o, H' b = some o -> ∃ u, (PySem.W.hideAll s'.heap (e :: frs X.stack)).get? b = some u := fun b o q => by
   obtain ⟨o1, q1⟩ := there_of (hok b o q)
   refine ⟨o1, has q1 (fun z => by rw [z, en] at q; cases q) fun z => ?_⟩
   have := I2.stkFree b z
   rw [q] at this
   cases this
  refine note_new (I1.ok.frames.trans (congrArg some hst)) (hst ▸ ff2) hfr hfr eo st (PySem.W.hideAll_none _ (by simp)) dt v1 fun g1 F1 u1 => land_fly F1 fun g2 F2 u2 => ?_
  have F2' : FlyD (PySem.W.hideAll s'.heap (e :: frs X.stack)) X.stack e oe.cls oe.dict .none g2 := hst.symm ▸ F2
  have re := fun g3 (F3 : FlyD (PySem.W.hideAll s'.heap (e :: frs X.stack)) X.stack e oe.cls oe.dict .none g3) (u3 : s'.heap.UpToSlots g3) => caught_inv I1 os bare un hok st c1 c2 F3 u3
  refine suite_runE (s3 := { s' with heap := g2 }) a G fb (clsAt X.K x) g hd hm hx iN lN iM lM ha (qa e) ma F2' (fun g3 F3 u3 => (re g3 F3 ((u1.trans u2).trans u3)).1) ?_ (hq e en)
  obtain ⟨oe', vs', _, _, _, z1, z2, z3, z4, _⟩ := F2.tr
  exact ⟨oe', vs', z1, z2, z3, z4⟩
def hndE (h : ExceptHandler) : Option (Str × Pos × Str × Str × Pos × Expr × Pos × Pos) := match h with
 | .ExceptHandler (some t) (some n) [st] hp => (match t with
  | .Name y tp => (match st with
   | .Assign [tg] v ap => (match tg with
    | .Name m mp => some (y, tp, n, m, mp, v, ap, hp)
    | _ => none)
   | _ => none)
  | _ => none)
 | _ => none
theorem hndE_of {h : ExceptHandler} {y : Str} {tp : Pos} {n m : Str} {mp : Pos} {v : Expr} {ap hp : Pos} (e : hndE h = some (y, tp, n, m, mp, v, ap, hp)) :
  h = .ExceptHandler (some (.Name y tp)) (some n) [.Assign [.Name m mp] v ap] hp := by
 unfold hndE at e
 repeat' split at e
 all_goals first | cases e | skip
 rfl
def mTryE (b : List (SX K)) (x : Str) (kn km : Nat) (a : EX K) (C : Sc) (s : Stmt) : Bool := match s with
 | .Try body [h] [] [] _ => (match hndE h with
  | some (y, _, n, m, _, v, _, _) => (C.fb && glB C x y) && (a.m ⟨C.N, C.nm, .hot⟩ v && ((C.N[kn]? == some n && C.nm.lookup n == some .local) && ((C.N[km]? == some m && C.nm.lookup m == some .local) && mSs b C body)))
  | none => false)
 | _ => false
def tryE (b : List (SX K)) (x : Str) (kn km : Nat) (a : EX K) (ha : a.s ≠ .cp := by intro z; cases z) : SX K where
 t := fun _ D σ H => tSs b (tExE K x kn km a D) D σ H
 m := mTryE b x kn km a
 q := fun R => R.mg x = some (.ref (clsAt K x)) /\ qSs b R /\ ∀ h, a.q ⟨R.P, R.w, R.K, R.mg, R.base, R.A.mark h⟩
 ok := fun X C E s hK G hE hq hm => by
  subst hK
  unfold mTryE at hm
  split at hm
  ·rename_i body h pos
   cases hh : hndE h with
   | none => rw [hh] at hm; cases hm
   | some z =>
   obtain ⟨y, tp, n, m, mp, v, ap, hp⟩ := z
   rw [hh] at hm
   have eh := hndE_of hh
   subst eh
   simp only [Bool.and_eq_true] at hm
   obtain ⟨⟨fb, h1⟩, h2, ⟨h4, h5⟩, ⟨h6, h7⟩, h8⟩ := hm
   have e := glB_eq h1
   subst e
   obtain ⟨g, d⟩ := glB_gl G h1
   intro pins s σ H D I h
   refine wpAny_Try_except ?_
   have T := thr_tryE (pins := pins) (D := D) (kn := kn) (km := km) (n := n) (m := m) (tp := tp) (mp := mp) (hp := hp) (ap := ap) (v := v) a G fb g d hq.1 (by rw [G.N]; exact eq_of_beq h4) (by rw [G.nm]; exact eq_of_beq h5) (by rw [G.N]; exact eq_of_beq h6) (by rw [G.nm]; exact eq_of_beq h7) ha (fun e => hq.2.2 _) h2
   refine wpAny_mono (ss_ok (X := wishP X pins _) ⟨G.N, G.nm, G.nd, G.calm, G.bl, G.hu, G.fb, G.top, G.ow⟩ T b body hq.2.1 h8 [] s σ H D (inv_wishP I) h) (fun f s1 z => ?_) fun _ _ z => z
   have z' := sp_unP z
   cases f with
   | next => exact wpAny_execs_nil z'
   | brk => exact z'
   | cont => exact z'
   | ret v => exact z'
  ·cases hm
theorem i_tryE {E : XS} {σ : St} {H : Hp} {D : Ends} {b : List (SX K)} {x : Str} {kn km : Nat} {a : EX K} {ha : a.s ≠ .cp} (h : tSs b (tExE K x kn km a D) D σ H) : (tryE b x kn km a ha).t E D σ H := h
end
end L2.Na
namespace L2.Na
open PySem PySem.Spec PyProof.Rows L2 L2.L3
def DnH (P : Program) (w : World) (K : Fg) (mg : Str -> Option Value) (base : Heap) (k : Nat) (x : Str) (sp : Sp) : Prop :=
 ∃ (f : Addr) (fd : FuncData) (ps : List Str), FnOkH P w K mg base k f fd ps sp /\ Binds K fd ps [] /\ PySem.W.keepIn K (.ref f) = true /\ mg x = some (.ref f)
theorem DnH.at {K : Fg} {P : Program} {w : World} {mg : Str -> Option Value} {base : Heap} {j k : Nat} {x : Str} {sp : Sp} {A : Around} (D : DnH P w K mg base j x sp) (hr : RoomH k A) (h : j <= k) : FnAtH ⟨P, w, K, mg, base, A⟩ x sp := by
 obtain ⟨f, fd, ps, F, hb, kp, hg⟩ := D
 exact ⟨j, f, fd, ps, hr.mono h, F, hb, kp, hg⟩
section
variable {K : Fg} {P : Program} {w : World} {h base : Heap} {mg : Str -> Option Value} {x : Str} {st : Stmt} {N ps : List Str} {k : Nat} {sp : Sp}
theorem dnH_of (F : FD K x st) (X : K.In h) (G : h.Ns mainGlobals mg) (bl : ∀ x ∈ blts, mg x = none) (b : List (SX K)) (S : FnScope N ps (defScope st)) (hm : mSs b ⟨N, (defScope st).names, .hot⟩ (defBody st) = true)
  (hb : ∀ (kV doc pm : Value) (an : Option Addr) (cdv ct : Value) (us : List Value), us.length = ps.length -> bindArgs (PySem.W.fnOf x x (defArgs st) (defBody st) (defScope st) .none kV doc pm an cdv ct) ⟨us, []⟩ = pure (ps.zip us))
  (len : ∀ vs H Q E, sp vs H Q E -> vs.length = ps.length) (t : ∀ vs H Q E, sp vs H Q E -> tSs b E0 { nx := fun _ H' => Q .non H', rt := Q } (start N vs) H) (hq : ∀ A, RoomH k A -> qSs b ⟨P, w, K, mg, base, A⟩) : DnH P w K mg base (k + 1) x sp := by
 obtain ⟨f, fd, F, a⟩ := F
 exact ⟨f, fd, ps, def_okH F b S hm bl hq len t, F.binds hb, F.kp, PySem.W.mg_of X G a⟩
end
end L2.Na
namespace L2.Na
open PySem PySem.Spec PyProof.Rows L2 L2.L3 PySem.Builtin PySem.Builtin.Str
section
variable {K : Fg}
def m_reverse (o : EX K) (ho : o.s ≠ .zc := by intro z; cases z) : EX K := methL "reverse" "list.reverse" rReverse PySem.F.slot_list_reverse PySem.F.type_list_reverse (fun X hK _ _ => mt_reverse) o ho []
section
variable {E : XS} {σ : St} {H : Hp} {Q : VK} {D : Ends} {QB : Bool -> Hp -> Prop} {v : V} {i j : Int} {n : Nat} {a b c : EX K}
theorem j_neA {p q : Addr} {n : Nat} (hn : n <= 40) (e : EqvR n H p q) (h : QB false H) : rB (rCmp K .NotEq) (.ref p) (.ref q) H QB := .inr (.inl ⟨p, q, n, rfl, rfl, hn, e, h⟩)
theorem j_neN {p q : Addr} {xs ys : List V} (h1 : H p = some (.lst xs)) (h2 : H q = some (.lst ys)) (hl : xs.length ≠ ys.length) (h : QB true H) : rB (rCmp K .NotEq) (.ref p) (.ref q) H QB := .inr (.inr ⟨p, q, xs, ys, rfl, rfl, h1, h2, hl, h⟩)
theorem i_catL {p q : Addr} {xs ys : List V} (h1 : H p = some (.lst xs)) (h2 : H q = some (.lst ys)) (hz : xs.length + ys.length <= sizeLine) (h : ∀ r, H r = none -> Q (.ref r) (upd H r (.lst (xs ++ ys)))) : rBin K .Add (.ref p) (.ref q) H Q :=
 .inl ⟨p, q, xs, ys, rfl, rfl, h1, h2, hz, h⟩
theorem cut_to {xs : List V} {k : Nat} (h : k <= xs.length) : cutV xs none (some (k : Int)) = xs.take k := by
 unfold cutV
 rw [HT.sIx_none, HT.sIx_nat, List.drop_zero, Nat.min_eq_left h, Nat.sub_zero]
theorem cut_from {xs : List V} {k : Nat} (h : k <= xs.length) : cutV xs (some (k : Int)) none = xs.drop k := by
 unfold cutV
 rw [HT.sIx_none, HT.sIx_nat, Nat.min_eq_left h, List.take_of_length_le (by rw [List.length_drop]; exact Nat.le_refl _)]
end
end
end L2.Na
namespace L2.Na
open PySem PySem.Spec PyProof.Rows L2 L2.L3
section
variable {K : Fg} {σ : St} {H : Hp} {Q : VK}
theorem comp_rel {J : It} {P : Hp -> Prop} {items : List V} (Y : Yl J P items) {te : TE} {is : List Nat} {D : Addr} (R : Nat -> V -> Hp -> Prop) (hD : H D = none) (hP : ∀ H1, Same H H1 -> P H1) (hz : items.length <= sizeLine)
  (mono : ∀ i y H1 H2, (∀ b o, b ≠ D -> H1 b = some o -> H2 b = some o) -> R i y H1 -> R i y H2)
  (step : ∀ (i : Nat) (x : V) (H1 : Hp) (Q' : VK), items[i]? = some x -> Same H H1 -> (∃ o, H1 D = some o) -> (∀ y H3, Same H1 H3 -> R i y H3 -> Q' y H3) -> te (some x :: capV is σ) H1 Q')
  (fin : ∀ H1 ys, Same H H1 -> H1 D = some (.lst ys) -> ys.length = items.length -> (∀ i y, ys[i]? = some y -> R i y H1) -> Q (.ref D) H1) : CompBodyI J (nam 0 : TX K).g (cT (none : Option (EX K))) te 1 is σ D H Q := by
 refine ⟨fun i m σ' H1 => m = items.length - i /\ i <= items.length /\ (∃ a, σ' = a :: capV is σ) /\ Same H H1 /\ ∃ ys : List V, H1 D = some (.lst ys) /\ ys.length = i /\ ∀ j y, ys[j]? = some y -> R j y H1, ⟨items.length, by simp, Nat.zero_le _, ⟨none, rfl⟩, fun b o e => by rw [upd_ne (ne_of_none e hD)]; exact e, [], upd_same, rfl, fun j y z => by simp at z⟩, ?_⟩
 rintro i m σ' H1 ⟨rfl, hi, ⟨a, rfl⟩, hS, ys, hO, hl, hr⟩
 have p := hP H1 hS
 by_cases hlt : i < items.length
 ·refine .inr ⟨Y.go i H1 p hlt, fun x H' hy => ?_⟩
  obtain ⟨e, hx⟩ := Y.yld i H1 x H' p hlt hy
  subst e
  refine ⟨fun _ => ?_, fun z => nomatch z⟩
  refine step i x H' _ hx hS ⟨_, hO⟩ fun y H3 s3 hy3 => ?_
  refine ⟨ys, s3 _ _ hO, by rw [hl]; omega, items.length - (i + 1), by omega, rfl, hlt, ⟨_, rfl⟩, fun b o q => ?_, ys ++ [y], upd_same, by rw [List.length_append, hl]; rfl, fun j y' hj => ?_⟩
  ·rw [upd_ne (ne_of_none q hD)]
   exact s3 _ _ (hS b o q)
  ·by_cases hj2 : j < ys.length
   ·rw [List.getElem?_append_left hj2] at hj
    exact mono j y' H' _ (fun b o hb q => by rw [upd_ne hb]; exact s3 _ _ q) (hr j y' hj)
   ·rw [List.getElem?_append_right (by omega)] at hj
    have e0 : j - ys.length = 0 := by
     have := (List.getElem?_eq_some_iff.mp hj).1
     simp at this
     omega
    rw [e0] at hj
    have e1 : y = y' := by simpa using hj
    subst e1
    have e2 : j = i := by omega
    subst e2
    exact mono j y H3 _ (fun b o hb q => by rw [upd_ne hb]; exact q) hy3
 ·have e : i = items.length := by omega
  subst e
  exact .inl ⟨Y.stop H1 p, fin H1 ys hS hO hl hr⟩
theorem comp_tupR {p : Addr} {xs : List V} {te : TE} {is : List Nat} {D : Addr} (R : Nat -> V -> Hp -> Prop) (hp : SqT K H p xs) (hD : H D = none) (hz : xs.length <= sizeLine)
  (mono : ∀ i y H1 H2, (∀ b o, b ≠ D -> H1 b = some o -> H2 b = some o) -> R i y H1 -> R i y H2)
  (step : ∀ (i : Nat) (x : V) (H1 : Hp) (Q' : VK), xs[i]? = some x -> Same H H1 -> (∃ o, H1 D = some o) -> (∀ y H3, Same H1 H3 -> R i y H3 -> Q' y H3) -> te (some x :: capV is σ) H1 Q')
  (fin : ∀ H1 ys, Same H H1 -> H1 D = some (.lst ys) -> ys.length = xs.length -> (∀ i y, ys[i]? = some y -> R i y H1) -> Q (.ref D) H1) : CompBodyI (Itt K p) (nam 0 : TX K).g (cT (none : Option (EX K))) te 1 is σ D H Q := comp_rel (yl_tup (xs := xs)) R hD (sqT_same hp) hz mono step fin
theorem comp_lstI {p : Addr} {xs : List V} {te : TE} {is : List Nat} {D : Addr} (f : Nat -> V) (hp : SqL K H p xs) (hD : H D = none) (hz : xs.length <= sizeLine)
  (step : ∀ (i : Nat) (x : V) (H1 : Hp) (Q' : VK), xs[i]? = some x -> Same H H1 -> (∀ H3, Same H1 H3 -> Q' (f i) H3) -> te (some x :: capV is σ) H1 Q')
  (fin : ∀ H1, Same H H1 -> H1 D = some (.lst ((List.range xs.length).map f)) -> Q (.ref D) H1) : CompBodyI (Itl K p) (nam 0 : TX K).g (cT (none : Option (EX K))) te 1 is σ D H Q := comp_all (yl_list (xs := xs)) f hD (fun H1 hS => hS.seq hp) hz step fin
theorem same_off {H0 H1 H2 : Hp} {D : Addr} (a : Same H0 H1) (h : ∀ b o, b ≠ D -> H1 b = some o -> H2 b = some o) (hD : H0 D = none) : Same H0 H2 := fun b o q => h b o (ne_of_none q hD) (a b o q)
end
end L2.Na
namespace L2.Na
open PySem PySem.Spec PyProof.Rows L2 L2.L3
section
variable {K : Fg}
section
variable {E : XS} {σ : St} {H : Hp} {Q : VK} {D : Ends} {a c : EX K} {bd : List (SX K)}
theorem loop_wh (W : Nat -> St -> Hp -> Prop) {m : Nat} (h0 : W m σ H)
  (hs : ∀ m σ H, W m σ H -> c.tt E σ H fun b H1 => br b (∃ N : St -> Hp -> Prop, (∀ σ' H', N σ' H' -> ∃ m', m' < m /\ W m' σ' H') /\ tSs bd E { D with nx := N, ct := N, bk := D.nx } σ H1) (D.nx σ H1)) : (whS c bd).t E D σ H := ⟨W, ⟨m, h0⟩, hs⟩
theorem wh_go {W : Nat -> St -> Hp -> Prop} {m : Nat} {tb : TS} (h : tb { D with nx := fun σ' H' => ∃ m', m' < m /\ W m' σ' H', ct := fun σ' H' => ∃ m', m' < m /\ W m' σ' H', bk := D.nx } σ H) :
  ∃ N : St -> Hp -> Prop, (∀ σ' H', N σ' H' -> ∃ m', m' < m /\ W m' σ' H') /\ tb { D with nx := N, ct := N, bk := D.nx } σ H := ⟨_, fun _ _ z => z, h⟩
end
end
end L2.Na
set_option compiler.extract_closed false
set_option hygiene false in
local macro_rules | `(tactic| walk_at "t") => `(tactic| (with_reducible first | refine L2.Na.i_seq ?_ | refine L2.Na.i_nil ?_ | refine L2.Na.i_set ?_ | refine L2.Na.i_ret ?_ | refine L2.Na.i_ex ?_ | refine L2.Na.i_if ?_ | refine L2.Na.i_cst ?_ | refine L2.Na.i_glb ?_ | refine L2.Na.i_bin ?_ | refine L2.Na.i_call ?_ | refine L2.Na.i_acons ?_ | refine L2.Na.i_anil ?_ | refine L2.Na.i_add ?_ | refine L2.Na.i_sub ?_ | refine L2.Na.i_cmp ?_ | refine L2.Na.j_cmp ?_ | refine L2.Na.i_gt ?_ | refine L2.Na.i_eq ?_ | refine L2.Na.i_eqS ?_ | refine L2.Na.j_lt ?_ | refine L2.Na.j_gt ?_ | refine L2.Na.j_eq ?_ | refine L2.Na.j_ne ?_ | refine L2.Na.j_not ?_ | refine L2.Na.i_not ?_ | refine L2.Na.i_truB ?_ | refine L2.Na.i_and ?_ | refine L2.Na.j_and ?_ | refine L2.Na.j_or ?_ | refine L2.Na.i_bop0 ?_ | refine L2.Na.j_bop0 ?_ | refine L2.Na.j_bopO ?_ | refine L2.Na.i_len ?_ | refine L2.Na.i_sum ?_ | refine L2.Na.i_all ?_ | refine L2.Na.i_isi ?_ | refine L2.Na.i_tyStr ?_ | refine L2.Na.i_tyInt ?_ | refine L2.Na.i_tyBool ?_ | refine L2.Na.i_tyList ?_ | refine L2.Na.i_tyTuple ?_ | refine L2.Na.i_dzip ?_ | refine L2.Na.i_listE ?_ | refine L2.Na.i_tupleE ?_ | refine L2.Na.i_intE ?_ | refine L2.Na.i_ix ?_ | refine L2.Na.i_slc ?_ | refine L2.Na.i_o0 ?_ | refine L2.Na.i_o1 ?_ | refine L2.Na.i_rO ?_ | refine L2.Na.i_lst ?_ | refine L2.Na.i_tup ?_ | refine L2.Na.i_join ?_ | refine L2.Na.i_count ?_ | refine L2.Na.i_append ?_ | refine L2.Na.i_RS ?_ | refine L2.Na.j_isN ?_ | refine L2.Na.i_in1 ?_ | refine L2.Na.i_count1 ?_ | refine L2.Na.i_for ?_ | refine L2.Na.i_rng ?_ | refine L2.Na.i_iseq ?_ | refine L2.Na.i_itS ?_ | refine L2.Na.i_comp ?_ | refine L2.Na.i_compC ?_ | refine L2.Na.i_compI ?_ | refine L2.Na.i_setC ?_ | refine L2.Na.i_nam ?_ | refine L2.Na.i_zip ?_))
local macro_rules | `(tactic| walk_at "s") => `(tactic| first
 | ((with_reducible refine L2.Na.i_var (v := ?v) ?h1 ?_); (case h1 => exact rfl))
 | walk_at "t"
 | ((with_reducible refine L2.Na.i_mul ?h1 ?_); (case h1 => first | exact Or.inl ⟨by omega, by omega⟩ | exact Or.inr ⟨by omega, by omega⟩))
 | ((with_reducible refine L2.Na.i_div ?h1 ?_); (case h1 => exact ⟨by omega, by omega⟩))
 | ((with_reducible refine L2.Na.i_mod ?h1 ?_); (case h1 => omega))
 | ((with_reducible refine L2.Na.i_rng1 ?h1 ?_); (case h1 => exact ⟨by omega, by omega⟩))
 | ((with_reducible refine L2.Na.i_lenL (xs := ?xs) ?h1 ?_); (case h1 => assumption))
 | ((with_reducible refine L2.Na.i_lenT (xs := ?xs) ?h1 ?_); (case h1 => assumption))
 | ((with_reducible refine L2.Na.j_tru ?h1 ?_); (case h1 => rfl)))
local macro_rules | `(tactic| walk_at "go") => `(tactic| repeat (walk_at "s"))
namespace L2.Na.Sh
def dlt {α : Type} (k : Nat) (l : List α) : List α := l.take k ++ l.drop (k + 1)
def alt : Nat -> Int
 | 0 => 1
 | k + 1 => -alt k
def dsm (xs : List Int) (f : Nat -> Int) : Nat -> Int
 | 0 => 0
 | i + 1 => dsm xs f i + alt i * (xs[i]?.getD 0) * f i
def det : Nat -> List (List Int) -> Int
 | 0, _ => 1
 | n + 1, rows => dsm (rows.headD []) (fun k => det n ((rows.drop 1).map (dlt k))) (rows.headD []).length
def mnr (k : Nat) (rows : List (List Int)) : List (List Int) := (dlt k rows).map (dlt k)
theorem tree_pos {r1 r2 r3 x12 x13 x21 x23 x31 x32 : Int} (h1 : 0 <= r1) (h2 : 0 <= r2) (h3 : 0 <= r3) (h12 : 0 <= x12) (h13 : 0 <= x13) (h21 : 0 <= x21) (h23 : 0 <= x23) (h31 : 0 <= x31) (h32 : 0 <= x32)
  (a123 : 0 < r1 \/ 0 < r2 \/ 0 < r3) (a1 : 0 < r1 \/ 0 < x12 \/ 0 < x13) (a2 : 0 < r2 \/ 0 < x21 \/ 0 < x23) (a3 : 0 < r3 \/ 0 < x31 \/ 0 < x32)
  (a12 : 0 < r1 \/ 0 < r2 \/ 0 < x13 \/ 0 < x23) (a13 : 0 < r1 \/ 0 < r3 \/ 0 < x12 \/ 0 < x32) (a23 : 0 < r2 \/ 0 < r3 \/ 0 < x21 \/ 0 < x31) :
  0 < r1 * r2 * r3 + r1 * r2 * x31 + r1 * r2 * x32 + r1 * r3 * x21 + r1 * r3 * x23 + r2 * r3 * x12 + r2 * r3 * x13 + r1 * x21 * x31 + r1 * x21 * x32 + r1 * x23 * x31
   + r2 * x12 * x32 + r2 * x12 * x31 + r2 * x13 * x32 + r3 * x13 * x23 + r3 * x12 * x23 + r3 * x13 * x21 := by
 have n : ∀ {a b c : Int}, 0 <= a -> 0 <= b -> 0 <= c -> 0 <= a * b * c := fun p q r => Int.mul_nonneg (Int.mul_nonneg p q) r
 have z : ∀ {a b c : Int}, a * b * c = 0 -> ¬ (0 < a /\ 0 < b /\ 0 < c) := fun e ⟨p, q, r⟩ => by
  have := Int.mul_pos (Int.mul_pos p q) r
  omega
 have m1 := n h1 h2 h3
 have m2 := n h1 h2 h31
 have m3 := n h1 h2 h32
 have m4 := n h1 h3 h21
 have m5 := n h1 h3 h23
 have m6 := n h2 h3 h12
 have m7 := n h2 h3 h13
 have m8 := n h1 h21 h31
 have m9 := n h1 h21 h32
 have m10 := n h1 h23 h31
 have m11 := n h2 h12 h32
 have m12 := n h2 h12 h31
 have m13 := n h2 h13 h32
 have m14 := n h3 h13 h23
 have m15 := n h3 h12 h23
 have m16 := n h3 h13 h21
 refine Classical.byContradiction fun hn => ?_
 have e1 : r1 * r2 * r3 = 0 := by omega
 have e2 : r1 * r2 * x31 = 0 := by omega
 have e3 : r1 * r2 * x32 = 0 := by omega
 have e4 : r1 * r3 * x21 = 0 := by omega
 have e5 : r1 * r3 * x23 = 0 := by omega
 have e6 : r2 * r3 * x12 = 0 := by omega
 have e7 : r2 * r3 * x13 = 0 := by omega
 have e8 : r1 * x21 * x31 = 0 := by omega
 have e9 : r1 * x21 * x32 = 0 := by omega
 have e10 : r1 * x23 * x31 = 0 := by omega
 have e11 : r2 * x12 * x32 = 0 := by omega
 have e12 : r2 * x12 * x31 = 0 := by omega
 have e13 : r2 * x13 * x32 = 0 := by omega
 have e14 : r3 * x13 * x23 = 0 := by omega
 have e15 : r3 * x12 * x23 = 0 := by omega
 have e16 : r3 * x13 * x21 = 0 := by omega
 replace e1 := z e1
 replace e2 := z e2
 replace e3 := z e3
 replace e4 := z e4
 replace e5 := z e5
 replace e6 := z e6
 replace e7 := z e7
 replace e8 := z e8
 replace e9 := z e9
 replace e10 := z e10
 replace e11 := z e11
 replace e12 := z e12
 replace e13 := z e13
 replace e14 := z e14
 replace e15 := z e15
 replace e16 := z e16
 clear hn m1 m2 m3 m4 m5 m6 m7 m8 m9 m10 m11 m12 m13 m14 m15 m16 h1 h2 h3 h12 h13 h21 h23 h31 h32 n z
 grind
def ent (C : List (List Int)) (i j : Nat) : Int := (C[i]?.getD [])[j]?.getD 0
def lkr (i : Nat) (s : Int) (r : List Int) : List Int := (r.map (- ·)).set i (-(r[i]?.getD 0) + s)
def lks (s : Int) (C : List (List Int)) : List (List Int) := (List.range C.length).map fun i => lkr i s (C[i]?.getD [])
def wts (s : Int) (C : List (List Int)) : List Int := (List.range C.length).map fun k => det (C.length - 1) (mnr k (lks s C))
def Irr (C : List (List Int)) (n : Nat) : Prop := ∀ S : Nat -> Bool, (∃ i, i < n /\ S i = true) -> (∃ j, j < n /\ S j = false) -> ∃ i j, i < n /\ j < n /\ S i = true /\ S j = false /\ 0 < ent C i j
def Good (s : Int) (C : List (List Int)) (W : List Int) : Prop := (∀ w ∈ W, 0 < w) /\ ∀ k, k < C.length -> (W[k]?.getD 0) * s = ((List.range C.length).map fun j => (W[j]?.getD 0) * ent C j k).sum
theorem irr4 {a b c d e f g h i j k l m n o p : Int} (H : Irr [[a, b, c, d], [e, f, g, h], [i, j, k, l], [m, n, o, p]] 4) (S : Nat -> Bool) (h1 : ∃ i, i < 4 /\ S i = true) (h2 : ∃ j, j < 4 /\ S j = false) :
  (S 0 = true /\ S 1 = false /\ 0 < b) \/ (S 0 = true /\ S 2 = false /\ 0 < c) \/ (S 0 = true /\ S 3 = false /\ 0 < d) \/ (S 1 = true /\ S 0 = false /\ 0 < e) \/ (S 1 = true /\ S 2 = false /\ 0 < g) \/ (S 1 = true /\ S 3 = false /\ 0 < h) \/
  (S 2 = true /\ S 0 = false /\ 0 < i) \/ (S 2 = true /\ S 1 = false /\ 0 < j) \/ (S 2 = true /\ S 3 = false /\ 0 < l) \/ (S 3 = true /\ S 0 = false /\ 0 < m) \/ (S 3 = true /\ S 1 = false /\ 0 < n) \/ (S 3 = true /\ S 2 = false /\ 0 < o) := by
 obtain ⟨x, y, hx, hy, sx, sy, hp⟩ := H S h1 h2
 have hne : x ≠ y := fun q => by rw [q, sy] at sx; cases sx
 match x, hx with
 | 0, _ => match y, hy with
  | 0, _ => exact absurd rfl hne
  | 1, _ => exact .inl ⟨sx, sy, hp⟩
  | 2, _ => exact .inr (.inl ⟨sx, sy, hp⟩)
  | 3, _ => exact .inr (.inr (.inl ⟨sx, sy, hp⟩))
 | 1, _ => match y, hy with
  | 0, _ => exact .inr (.inr (.inr (.inl ⟨sx, sy, hp⟩)))
  | 1, _ => exact absurd rfl hne
  | 2, _ => exact .inr (.inr (.inr (.inr (.inl ⟨sx, sy, hp⟩))))
  | 3, _ => exact .inr (.inr (.inr (.inr (.inr (.inl ⟨sx, sy, hp⟩)))))
 | 2, _ => match y, hy with
  | 0, _ => exact .inr (.inr (.inr (.inr (.inr (.inr (.inl ⟨sx, sy, hp⟩))))))
  | 1, _ => exact .inr (.inr (.inr (.inr (.inr (.inr (.inr (.inl ⟨sx, sy, hp⟩)))))))
  | 2, _ => exact absurd rfl hne
  | 3, _ => exact .inr (.inr (.inr (.inr (.inr (.inr (.inr (.inr (.inl ⟨sx, sy, hp⟩))))))))
 | 3, _ => match y, hy with
  | 0, _ => exact .inr (.inr (.inr (.inr (.inr (.inr (.inr (.inr (.inr (.inl ⟨sx, sy, hp⟩)))))))))
  | 1, _ => exact .inr (.inr (.inr (.inr (.inr (.inr (.inr (.inr (.inr (.inr (.inl ⟨sx, sy, hp⟩))))))))))
  | 2, _ => exact .inr (.inr (.inr (.inr (.inr (.inr (.inr (.inr (.inr (.inr (.inr ⟨sx, sy, hp⟩))))))))))
  | 3, _ => exact absurd rfl hne
theorem good4 {s a b c d e f g h i j k l m n o p : Int} (ha : a = s - b - c - d) (hf : f = s - e - g - h) (hk : k = s - i - j - l) (hp : p = s - m - n - o) (b0 : 0 <= b) (c0 : 0 <= c) (d0 : 0 <= d) (e0 : 0 <= e) (g0 : 0 <= g) (h0 : 0 <= h) (i0 : 0 <= i) (j0 : 0 <= j) (l0 : 0 <= l) (m0 : 0 <= m) (n0 : 0 <= n) (o0 : 0 <= o)
  (H : Irr [[a, b, c, d], [e, f, g, h], [i, j, k, l], [m, n, o, p]] 4) : Good s [[a, b, c, d], [e, f, g, h], [i, j, k, l], [m, n, o, p]] (wts s [[a, b, c, d], [e, f, g, h], [i, j, k, l], [m, n, o, p]]) := by
 subst ha hf hk hp
 have t0 := tree_pos (r1 := e) (r2 := i) (r3 := m) (x12 := g) (x13 := h) (x21 := j) (x23 := l) (x31 := n) (x32 := o) e0 i0 m0 g0 h0 j0 l0 n0 o0
  (by have := irr4 H (fun x => x != 0) ⟨1, by decide, rfl⟩ ⟨0, by decide, rfl⟩; grind)
  (by have := irr4 H (fun x => x == 1) ⟨1, by decide, rfl⟩ ⟨0, by decide, rfl⟩; grind)
  (by have := irr4 H (fun x => x == 2) ⟨2, by decide, rfl⟩ ⟨0, by decide, rfl⟩; grind)
  (by have := irr4 H (fun x => x == 3) ⟨3, by decide, rfl⟩ ⟨0, by decide, rfl⟩; grind)
  (by have := irr4 H (fun x => x == 1 || x == 2) ⟨1, by decide, rfl⟩ ⟨0, by decide, rfl⟩; grind)
  (by have := irr4 H (fun x => x == 1 || x == 3) ⟨1, by decide, rfl⟩ ⟨0, by decide, rfl⟩; grind)
  (by have := irr4 H (fun x => x == 2 || x == 3) ⟨2, by decide, rfl⟩ ⟨0, by decide, rfl⟩; grind)
 have t1 := tree_pos (r1 := b) (r2 := j) (r3 := n) (x12 := c) (x13 := d) (x21 := i) (x23 := l) (x31 := m) (x32 := o) b0 j0 n0 c0 d0 i0 l0 m0 o0
  (by have := irr4 H (fun x => x != 1) ⟨0, by decide, rfl⟩ ⟨1, by decide, rfl⟩; grind)
  (by have := irr4 H (fun x => x == 0) ⟨0, by decide, rfl⟩ ⟨1, by decide, rfl⟩; grind)
  (by have := irr4 H (fun x => x == 2) ⟨2, by decide, rfl⟩ ⟨0, by decide, rfl⟩; grind)
  (by have := irr4 H (fun x => x == 3) ⟨3, by decide, rfl⟩ ⟨0, by decide, rfl⟩; grind)
  (by have := irr4 H (fun x => x == 0 || x == 2) ⟨0, by decide, rfl⟩ ⟨1, by decide, rfl⟩; grind)
  (by have := irr4 H (fun x => x == 0 || x == 3) ⟨0, by decide, rfl⟩ ⟨1, by decide, rfl⟩; grind)
  (by have := irr4 H (fun x => x == 2 || x == 3) ⟨2, by decide, rfl⟩ ⟨1, by decide, rfl⟩; grind)
 have t2 := tree_pos (r1 := c) (r2 := g) (r3 := o) (x12 := b) (x13 := d) (x21 := e) (x23 := h) (x31 := m) (x32 := n) c0 g0 o0 b0 d0 e0 h0 m0 n0
  (by have := irr4 H (fun x => x != 2) ⟨0, by decide, rfl⟩ ⟨2, by decide, rfl⟩; grind)
  (by have := irr4 H (fun x => x == 0) ⟨0, by decide, rfl⟩ ⟨1, by decide, rfl⟩; grind)
  (by have := irr4 H (fun x => x == 1) ⟨1, by decide, rfl⟩ ⟨0, by decide, rfl⟩; grind)
  (by have := irr4 H (fun x => x == 3) ⟨3, by decide, rfl⟩ ⟨0, by decide, rfl⟩; grind)
  (by have := irr4 H (fun x => x == 0 || x == 1) ⟨0, by decide, rfl⟩ ⟨2, by decide, rfl⟩; grind)
  (by have := irr4 H (fun x => x == 0 || x == 3) ⟨0, by decide, rfl⟩ ⟨1, by decide, rfl⟩; grind)
  (by have := irr4 H (fun x => x == 1 || x == 3) ⟨1, by decide, rfl⟩ ⟨2, by decide, rfl⟩; grind)
 have t3 := tree_pos (r1 := d) (r2 := h) (r3 := l) (x12 := b) (x13 := c) (x21 := e) (x23 := g) (x31 := i) (x32 := j) d0 h0 l0 b0 c0 e0 g0 i0 j0
  (by have := irr4 H (fun x => x != 3) ⟨0, by decide, rfl⟩ ⟨3, by decide, rfl⟩; grind)
  (by have := irr4 H (fun x => x == 0) ⟨0, by decide, rfl⟩ ⟨1, by decide, rfl⟩; grind)
  (by have := irr4 H (fun x => x == 1) ⟨1, by decide, rfl⟩ ⟨0, by decide, rfl⟩; grind)
  (by have := irr4 H (fun x => x == 2) ⟨2, by decide, rfl⟩ ⟨0, by decide, rfl⟩; grind)
  (by have := irr4 H (fun x => x == 0 || x == 1) ⟨0, by decide, rfl⟩ ⟨2, by decide, rfl⟩; grind)
  (by have := irr4 H (fun x => x == 0 || x == 2) ⟨0, by decide, rfl⟩ ⟨1, by decide, rfl⟩; grind)
  (by have := irr4 H (fun x => x == 1 || x == 2) ⟨1, by decide, rfl⟩ ⟨3, by decide, rfl⟩; grind)
 have eW : wts s [[s - b - c - d, b, c, d], [e, s - e - g - h, g, h], [i, j, s - i - j - l, l], [m, n, o, s - m - n - o]] = [e * i * m + e * i * n + e * i * o + e * m * j + e * m * l + i * m * g + i * m * h + e * j * n + e * j * o + e * l * n + i * g * o + i * g * n + i * h * o + m * h * l + m * g * l + m * h * j,
   b * j * n + b * j * m + b * j * o + b * n * i + b * n * l + j * n * c + j * n * d + b * i * m + b * i * o + b * l * m + j * c * o + j * c * m + j * d * o + n * d * l + n * c * l + n * d * i,
   c * g * o + c * g * m + c * g * n + c * o * e + c * o * h + g * o * b + g * o * d + c * e * m + c * e * n + c * h * m + g * b * n + g * b * m + g * d * n + o * d * h + o * b * h + o * d * e,
   d * h * l + d * h * i + d * h * j + d * l * e + d * l * g + h * l * b + h * l * c + d * e * i + d * e * j + d * g * i + h * b * j + h * b * i + h * c * j + l * c * g + l * b * g + l * c * e] := by
  simp [wts, List.range, List.range.loop, mnr, lks, lkr, dlt, det, dsm, alt]
  refine ⟨?_, ?_, ?_, ?_⟩ <;> grind
 rw [eW]
 refine ⟨fun w hw => ?_, fun q hq => ?_⟩
 ·simp only [List.mem_cons, List.not_mem_nil, or_false] at hw
  rcases hw with rfl | rfl | rfl | rfl
  ·exact t0
  ·exact t1
  ·exact t2
  ·exact t3
 ·clear t0 t1 t2 t3 H b0 c0 d0 e0 g0 h0 i0 j0 l0 m0 n0 o0 eW
  match q, hq with
  | 0, _ => simp [List.range, List.range.loop, ent]; grind
  | 1, _ => simp [List.range, List.range.loop, ent]; grind
  | 2, _ => simp [List.range, List.range.loop, ent]; grind
  | 3, _ => simp [List.range, List.range.loop, ent]; grind
theorem len1 {α : Type} {l : List α} (h : l.length = 1) : ∃ a, l = [a] := by
 match l, h with
 | [a], _ => exact ⟨a, rfl⟩
theorem len2 {α : Type} {l : List α} (h : l.length = 2) : ∃ a b, l = [a, b] := by
 match l, h with
 | [a, b], _ => exact ⟨a, b, rfl⟩
theorem len3 {α : Type} {l : List α} (h : l.length = 3) : ∃ a b c, l = [a, b, c] := by
 match l, h with
 | [a, b, c], _ => exact ⟨a, b, c, rfl⟩
theorem len4 {α : Type} {l : List α} (h : l.length = 4) : ∃ a b c d, l = [a, b, c, d] := by
 match l, h with
 | [a, b, c, d], _ => exact ⟨a, b, c, d, rfl⟩
theorem good1 {s a : Int} (ha : a = s) : Good s [[a]] (wts s [[a]]) := by
 subst ha
 have e : wts a [[a]] = [1] := rfl
 rw [e]
 refine ⟨fun w hw => by simp at hw; omega, fun q hq => ?_⟩
 match q, hq with
 | 0, _ => simp [List.range, List.range.loop, ent]
theorem irr2 {a b c d : Int} (H : Irr [[a, b], [c, d]] 2) : 0 < b /\ 0 < c := by
 constructor
 ·obtain ⟨x, y, hx, hy, sx, sy, hp⟩ := H (fun x => x == 0) ⟨0, by decide, rfl⟩ ⟨1, by decide, rfl⟩
  have e1 : x = 0 := by simpa using sx
  have e2 : y = 1 := by have : y ≠ 0 := by simpa using sy
                        omega
  subst e1 e2
  exact hp
 ·obtain ⟨x, y, hx, hy, sx, sy, hp⟩ := H (fun x => x == 1) ⟨1, by decide, rfl⟩ ⟨0, by decide, rfl⟩
  have e1 : x = 1 := by simpa using sx
  have e2 : y = 0 := by have : y ≠ 1 := by simpa using sy
                        omega
  subst e1 e2
  exact hp
theorem good2 {s a b c d : Int} (ha : a = s - b) (hd : d = s - c) (H : Irr [[a, b], [c, d]] 2) : Good s [[a, b], [c, d]] (wts s [[a, b], [c, d]]) := by
 subst ha hd
 obtain ⟨hb, hc⟩ := irr2 H
 have e : wts s [[s - b, b], [c, s - c]] = [c, b] := by
  simp [wts, List.range, List.range.loop, mnr, lks, lkr, dlt, det, dsm, alt]
  constructor <;> omega
 rw [e]
 refine ⟨fun w hw => ?_, fun q hq => ?_⟩
 ·simp only [List.mem_cons, List.not_mem_nil, or_false] at hw
  rcases hw with rfl | rfl <;> assumption
 ·match q, hq with
  | 0, _ => simp [List.range, List.range.loop, ent]; grind
  | 1, _ => simp [List.range, List.range.loop, ent]; grind
theorem irr3 {a b c d e f g h i : Int} (H : Irr [[a, b, c], [d, e, f], [g, h, i]] 3) (S : Nat -> Bool) (h1 : ∃ i, i < 3 /\ S i = true) (h2 : ∃ j, j < 3 /\ S j = false) :
  (S 0 = true /\ S 1 = false /\ 0 < b) \/ (S 0 = true /\ S 2 = false /\ 0 < c) \/ (S 1 = true /\ S 0 = false /\ 0 < d) \/ (S 1 = true /\ S 2 = false /\ 0 < f) \/ (S 2 = true /\ S 0 = false /\ 0 < g) \/ (S 2 = true /\ S 1 = false /\ 0 < h) := by
 obtain ⟨x, y, hx, hy, sx, sy, hp⟩ := H S h1 h2
 have hne : x ≠ y := fun q => by rw [q, sy] at sx; cases sx
 match x, hx with
 | 0, _ => match y, hy with
  | 0, _ => exact absurd rfl hne
  | 1, _ => exact .inl ⟨sx, sy, hp⟩
  | 2, _ => exact .inr (.inl ⟨sx, sy, hp⟩)
 | 1, _ => match y, hy with
  | 0, _ => exact .inr (.inr (.inl ⟨sx, sy, hp⟩))
  | 1, _ => exact absurd rfl hne
  | 2, _ => exact .inr (.inr (.inr (.inl ⟨sx, sy, hp⟩)))
 | 2, _ => match y, hy with
  | 0, _ => exact .inr (.inr (.inr (.inr (.inl ⟨sx, sy, hp⟩))))
  | 1, _ => exact .inr (.inr (.inr (.inr (.inr ⟨sx, sy, hp⟩))))
  | 2, _ => exact absurd rfl hne
theorem tree_pos3 {r1 r2 x12 x21 : Int} (h1 : 0 <= r1) (h2 : 0 <= r2) (h12 : 0 <= x12) (h21 : 0 <= x21) (a12 : 0 < r1 \/ 0 < r2) (a1 : 0 < r1 \/ 0 < x12) (a2 : 0 < r2 \/ 0 < x21) : 0 < r1 * r2 + r1 * x21 + r2 * x12 := by
 have h := tree_pos (r1 := r1) (r2 := r2) (r3 := 1) (x12 := x12) (x13 := 0) (x21 := x21) (x23 := 0) (x31 := 0) (x32 := 0) h1 h2 (by decide) h12 (by decide) h21 (by decide) (by decide) (by decide)
  (by omega) (by omega) (by omega) (by omega) (by omega) (by omega) (by omega)
 simp only [Int.mul_one, Int.mul_zero, Int.add_zero, Int.zero_mul] at h
 exact h
theorem good3 {s a b c d e f g h i : Int} (ha : a = s - b - c) (he : e = s - d - f) (hi : i = s - g - h) (b0 : 0 <= b) (c0 : 0 <= c) (d0 : 0 <= d) (f0 : 0 <= f) (g0 : 0 <= g) (h0 : 0 <= h)
  (H : Irr [[a, b, c], [d, e, f], [g, h, i]] 3) : Good s [[a, b, c], [d, e, f], [g, h, i]] (wts s [[a, b, c], [d, e, f], [g, h, i]]) := by
 subst ha he hi
 have s0 := irr3 H (fun x => x == 0) ⟨0, by decide, rfl⟩ ⟨1, by decide, rfl⟩
 have s1 := irr3 H (fun x => x == 1) ⟨1, by decide, rfl⟩ ⟨0, by decide, rfl⟩
 have s2 := irr3 H (fun x => x == 2) ⟨2, by decide, rfl⟩ ⟨0, by decide, rfl⟩
 have s01 := irr3 H (fun x => x != 2) ⟨0, by decide, rfl⟩ ⟨2, by decide, rfl⟩
 have s02 := irr3 H (fun x => x != 1) ⟨0, by decide, rfl⟩ ⟨1, by decide, rfl⟩
 have s12 := irr3 H (fun x => x != 0) ⟨1, by decide, rfl⟩ ⟨0, by decide, rfl⟩
 have t0 := tree_pos3 (r1 := d) (r2 := g) (x12 := f) (x21 := h) d0 g0 f0 h0 (by grind) (by grind) (by grind)
 have t1 := tree_pos3 (r1 := b) (r2 := h) (x12 := c) (x21 := g) b0 h0 c0 g0 (by grind) (by grind) (by grind)
 have t2 := tree_pos3 (r1 := c) (r2 := f) (x12 := b) (x21 := d) c0 f0 b0 d0 (by grind) (by grind) (by grind)
 have eW : wts s [[s - b - c, b, c], [d, s - d - f, f], [g, h, s - g - h]] = [d * g + d * h + g * f, b * h + b * g + h * c, c * f + c * d + f * b] := by
  simp [wts, List.range, List.range.loop, mnr, lks, lkr, dlt, det, dsm, alt]
  refine ⟨?_, ?_, ?_⟩ <;> grind
 rw [eW]
 refine ⟨fun w hw => ?_, fun q hq => ?_⟩
 ·simp only [List.mem_cons, List.not_mem_nil, or_false] at hw
  rcases hw with rfl | rfl | rfl
  ·exact t0
  ·exact t1
  ·exact t2
 ·clear t0 t1 t2 H b0 c0 d0 f0 g0 h0 eW s0 s1 s2 s01 s02 s12
  match q, hq with
  | 0, _ => simp [List.range, List.range.loop, ent]; grind
  | 1, _ => simp [List.range, List.range.loop, ent]; grind
  | 2, _ => simp [List.range, List.range.loop, ent]; grind
theorem good {s : Int} {C : List (List Int)} (h1 : 1 <= C.length) (h4 : C.length <= 4) (hr : ∀ r ∈ C, r.length = C.length /\ r.sum = s /\ ∀ x ∈ r, 0 <= x) (H : Irr C C.length) : Good s C (wts s C) := by
 have : C.length = 1 \/ C.length = 2 \/ C.length = 3 \/ C.length = 4 := by omega
 rcases this with e | e | e | e
 ·obtain ⟨r0, rfl⟩ := len1 e
  obtain ⟨k0, q0, p0⟩ := hr r0 (by simp)
  obtain ⟨a, rfl⟩ := len1 k0
  simp at q0
  exact good1 (by omega)
 ·obtain ⟨r0, r1, rfl⟩ := len2 e
  obtain ⟨k0, q0, p0⟩ := hr r0 (by simp)
  obtain ⟨k1, q1, p1⟩ := hr r1 (by simp)
  obtain ⟨a, b, rfl⟩ := len2 k0
  obtain ⟨c, d, rfl⟩ := len2 k1
  simp at q0 q1
  exact good2 (by omega) (by omega) H
 ·obtain ⟨r0, r1, r2, rfl⟩ := len3 e
  obtain ⟨k0, q0, p0⟩ := hr r0 (by simp)
  obtain ⟨k1, q1, p1⟩ := hr r1 (by simp)
  obtain ⟨k2, q2, p2⟩ := hr r2 (by simp)
  obtain ⟨a, b, c, rfl⟩ := len3 k0
  obtain ⟨d, e, f, rfl⟩ := len3 k1
  obtain ⟨g, h, i, rfl⟩ := len3 k2
  simp at q0 q1 q2 p0 p1 p2
  exact good3 (by omega) (by omega) (by omega) (by omega) (by omega) (by omega) (by omega) (by omega) (by omega) H
 ·obtain ⟨r0, r1, r2, r3, rfl⟩ := len4 e
  obtain ⟨k0, q0, p0⟩ := hr r0 (by simp)
  obtain ⟨k1, q1, p1⟩ := hr r1 (by simp)
  obtain ⟨k2, q2, p2⟩ := hr r2 (by simp)
  obtain ⟨k3, q3, p3⟩ := hr r3 (by simp)
  obtain ⟨a, b, c, d, rfl⟩ := len4 k0
  obtain ⟨e, f, g, h, rfl⟩ := len4 k1
  obtain ⟨i, j, k, l, rfl⟩ := len4 k2
  obtain ⟨m, n, o, p, rfl⟩ := len4 k3
  simp at q0 q1 q2 q3 p0 p1 p2 p3
  exact good4 (by omega) (by omega) (by omega) (by omega) (by omega) (by omega) (by omega) (by omega) (by omega) (by omega) (by omega) (by omega) (by omega) (by omega) (by omega) (by omega) H
theorem alt_one : ∀ k, alt k = 1 \/ alt k = -1
 | 0 => .inl rfl
 | k + 1 => by
  have := alt_one k
  show -alt k = 1 \/ -alt k = -1
  omega
theorem mem_dl {α : Type} {k : Nat} {l : List α} {x : α} (h : x ∈ dlt k l) : x ∈ l := by
 unfold dlt at h
 rcases List.mem_append.mp h with h | h
 ·exact List.mem_of_mem_take h
 ·exact List.mem_of_mem_drop h
theorem dl_len {α : Type} {k : Nat} {l : List α} (h : k < l.length) : (dlt k l).length = l.length - 1 := by
 unfold dlt
 rw [List.length_append, List.length_take, List.length_drop]
 omega
def Sml (rows : List (List Int)) : Prop := ∀ r ∈ rows, r.length <= 4 /\ ∀ x ∈ r, -1000 <= x /\ x <= 1000
def mb : Nat -> Int
 | 0 => 1
 | n + 1 => 4000 * mb n
theorem mb_pos : ∀ n, 1 <= mb n
 | 0 => by decide
 | n + 1 => by
  have := mb_pos n
  show 1 <= 4000 * mb n
  omega
theorem dsm_le {xs : List Int} {f : Nat -> Int} {M : Int} (hM : 0 <= M) (hx : ∀ x ∈ xs, -1000 <= x /\ x <= 1000) (hf : ∀ k, -M <= f k /\ f k <= M) : ∀ i, -(1000 * i * M) <= dsm xs f i /\ dsm xs f i <= 1000 * i * M
 | 0 => by simp [dsm]
 | i + 1 => by
  obtain ⟨a, b⟩ := dsm_le hM hx hf i
  have he : -1000 <= xs[i]?.getD 0 /\ xs[i]?.getD 0 <= 1000 := by
   cases e : xs[i]? with
   | none => exact ⟨by decide, by decide⟩
   | some x => exact hx x (List.mem_of_getElem? e)
  obtain ⟨y, hy⟩ : ∃ y, y = alt i * (xs[i]?.getD 0) := ⟨_, rfl⟩
  have hy2 : -1000 <= y /\ y <= 1000 := by
   rcases alt_one i with s | s <;> rw [s] at hy <;> omega
  have key : -(1000 * M) <= y * f i /\ y * f i <= 1000 * M := by
   obtain ⟨p, q⟩ := hf i
   have h1 : 0 <= (1000 - y) * (M - f i) := Int.mul_nonneg (by omega) (by omega)
   have h2 : 0 <= (1000 + y) * (M + f i) := Int.mul_nonneg (by omega) (by omega)
   have h3 : 0 <= (1000 - y) * (M + f i) := Int.mul_nonneg (by omega) (by omega)
   have h4 : 0 <= (1000 + y) * (M - f i) := Int.mul_nonneg (by omega) (by omega)
   constructor <;> grind
  show -(1000 * ((i + 1 : Nat) : Int) * M) <= dsm xs f i + alt i * (xs[i]?.getD 0) * f i /\ dsm xs f i + alt i * (xs[i]?.getD 0) * f i <= _
  rw [<- hy]
  have e : 1000 * ((i + 1 : Nat) : Int) * M = 1000 * (i : Int) * M + 1000 * M := by
   rw [show ((i + 1 : Nat) : Int) = (i : Int) + 1 by omega]
   grind
  rw [e]
  omega
theorem det_le : ∀ (n : Nat) (rows : List (List Int)), Sml rows -> -(mb n) <= det n rows /\ det n rows <= mb n
 | 0, rows, _ => by simp [det, mb]
 | n + 1, rows, h => by
  have hd : (rows.headD []).length <= 4 /\ ∀ x ∈ rows.headD [], -1000 <= x /\ x <= 1000 := by
   cases rows with
   | nil => exact ⟨by decide, fun x hx => by simp at hx⟩
   | cons r rs => exact h r (by simp)
  have ih : ∀ k, -(mb n) <= det n ((rows.drop 1).map (dlt k)) /\ det n ((rows.drop 1).map (dlt k)) <= mb n := fun k => det_le n _ fun r hr => by
   obtain ⟨r0, h0, rfl⟩ := List.mem_map.mp hr
   obtain ⟨g1, g2⟩ := h r0 (List.mem_of_mem_drop h0)
   refine ⟨?_, fun x hx => g2 x (mem_dl hx)⟩
   unfold dlt
   rw [List.length_append, List.length_take, List.length_drop]
   omega
  have p := mb_pos n
  obtain ⟨a, b⟩ := dsm_le (by omega) hd.2 ih (rows.headD []).length
  have c : 1000 * (((rows.headD []).length : Nat) : Int) * mb n <= 4000 * mb n := Int.mul_le_mul_of_nonneg_right (by omega) (by omega)
  show -(4000 * mb n) <= dsm _ _ _ /\ dsm _ _ _ <= 4000 * mb n
  omega
theorem sml_mnr {k : Nat} {rows : List (List Int)} (h : Sml rows) : Sml (mnr k rows) := fun r hr => by
 obtain ⟨r0, h0, rfl⟩ := List.mem_map.mp hr
 obtain ⟨g1, g2⟩ := h r0 (mem_dl h0)
 refine ⟨?_, fun x hx => g2 x (mem_dl hx)⟩
 unfold dlt
 rw [List.length_append, List.length_take, List.length_drop]
 omega
theorem sml_lks {s : Int} {C : List (List Int)} (s0 : 0 <= s) (s1 : s <= 500) (h : ∀ r ∈ C, r.length <= 4 /\ ∀ x ∈ r, 0 <= x /\ x <= 500) : Sml (lks s C) := fun r hr => by
 obtain ⟨i, hi, rfl⟩ := List.mem_map.mp hr
 have hi' := List.mem_range.mp hi
 rw [List.getElem?_eq_getElem hi']
 obtain ⟨g1, g2⟩ := h _ (List.getElem_mem hi')
 show (lkr i s C[i]).length <= 4 /\ _
 unfold lkr
 refine ⟨by rw [List.length_set, List.length_map]; exact g1, fun x hx => ?_⟩
 rcases List.mem_or_eq_of_mem_set hx with hx | rfl
 ·obtain ⟨y, hy, rfl⟩ := List.mem_map.mp hx
  have := g2 y hy
  omega
 ·show -1000 <= -((C[i])[i]?.getD 0) + s /\ -((C[i])[i]?.getD 0) + s <= 1000
  cases e : (C[i])[i]? with
  | none => exact ⟨by show -1000 <= -0 + s; omega, by show -0 + s <= 1000; omega⟩
  | some y =>
   have := g2 y (List.mem_of_getElem? e)
   exact ⟨by show -1000 <= -y + s; omega, by show -y + s <= 1000; omega⟩
theorem wts_len {s : Int} {C : List (List Int)} : (wts s C).length = C.length := by
 unfold wts
 rw [List.length_map, List.length_range]
theorem wts_le {s : Int} {C : List (List Int)} (h4 : C.length <= 4) (s0 : 0 <= s) (s1 : s <= 500) (h : ∀ r ∈ C, r.length <= 4 /\ ∀ x ∈ r, 0 <= x /\ x <= 500) : ∀ w ∈ wts s C, w <= 64000000000 := fun w hw => by
 obtain ⟨k, hk, rfl⟩ := List.mem_map.mp hw
 have hk' := List.mem_range.mp hk
 have b := (det_le (C.length - 1) _ (sml_mnr (k := k) (sml_lks s0 s1 h))).2
 refine Int.le_trans b ?_
 have : C.length - 1 = 0 \/ C.length - 1 = 1 \/ C.length - 1 = 2 \/ C.length - 1 = 3 := by omega
 rcases this with e | e | e | e <;> rw [e] <;> decide
def fr (t w : Nat) : Nat × Nat := (w / Nat.gcd w t, t / Nat.gcd w t)
theorem fr_ok {t w : Nat} (hw : 0 < w) (ht : 0 < t) : 0 < (fr t w).1 /\ 0 < (fr t w).2 /\ Nat.gcd (fr t w).1 (fr t w).2 = 1 /\ (fr t w).1 * t = w * (fr t w).2 /\ (fr t w).2 <= t /\ (fr t w).1 <= w := by
 have g0 : 0 < Nat.gcd w t := Nat.gcd_pos_of_pos_left t hw
 obtain ⟨a, ha⟩ := Nat.gcd_dvd_left w t
 obtain ⟨b, hb⟩ := Nat.gcd_dvd_right w t
 have ea : w / Nat.gcd w t = a := by
  have : Nat.gcd w t * a / Nat.gcd w t = a := Nat.mul_div_cancel_left a g0
  rwa [<- ha] at this
 have eb : t / Nat.gcd w t = b := by
  have : Nat.gcd w t * b / Nat.gcd w t = b := Nat.mul_div_cancel_left b g0
  rwa [<- hb] at this
 have a0 : 0 < a := Nat.pos_of_ne_zero fun z => by rw [z] at ha; omega
 have b0 : 0 < b := Nat.pos_of_ne_zero fun z => by rw [z] at hb; omega
 unfold fr
 refine ⟨by show 0 < w / Nat.gcd w t; rw [ea]; exact a0, by show 0 < t / Nat.gcd w t; rw [eb]; exact b0, Nat.coprime_div_gcd_div_gcd g0, ?_, Nat.div_le_self _ _, Nat.div_le_self _ _⟩
 show w / Nat.gcd w t * t = w * (t / Nat.gcd w t)
 rw [ea, eb]
 generalize Nat.gcd w t = g at *
 subst ha hb
 grind
def bt : List (Nat × Nat) -> Nat -> Nat
 | [], b => b
 | p :: ps, b => bt ps (b * p.2 / Nat.gcd b p.2)
theorem bt_ok : ∀ (ps : List (Nat × Nat)) (b : Nat), 0 < b -> (∀ p ∈ ps, 0 < p.2) -> 0 < bt ps b /\ b ∣ bt ps b /\ ∀ p ∈ ps, p.2 ∣ bt ps b
 | [], b, hb, _ => ⟨hb, Nat.dvd_refl _, fun p hp => by simp at hp⟩
 | p :: ps, b, hb, h => by
  have hp := h p (by simp)
  have e : b * p.2 / Nat.gcd b p.2 = Nat.lcm b p.2 := rfl
  obtain ⟨i1, i2, i3⟩ := bt_ok ps (b * p.2 / Nat.gcd b p.2) (by rw [e]; exact Nat.lcm_pos hb hp) fun q hq => h q (by simp [hq])
  rw [e] at i2
  refine ⟨i1, Nat.dvd_trans (Nat.dvd_lcm_left b p.2) i2, fun q hq => ?_⟩
  rcases List.mem_cons.mp hq with rfl | hq
  ·exact Nat.dvd_trans (Nat.dvd_lcm_right b q.2) i2
  ·exact i3 q hq
def part (B : Nat) (p : Nat × Nat) : Nat := p.1 * (B / p.2)
theorem part_eq {t w B : Nat} (hw : 0 < w) (ht : 0 < t) (h : (fr t w).2 ∣ B) : part B (fr t w) * t = w * B := by
 obtain ⟨h1, h2, h3, h4, h5⟩ := fr_ok hw ht
 obtain ⟨c, hc⟩ := h
 unfold part
 rw [hc, Nat.mul_div_cancel_left c h2]
 calc (fr t w).1 * c * t = ((fr t w).1 * t) * c := by grind
  _ = w * (fr t w).2 * c := by rw [h4]
  _ = w * ((fr t w).2 * c) := by grind
theorem sum_mul {l : List Int} {c : Int} : l.sum * c = (l.map (· * c)).sum := by
 induction l with
 | nil => simp
 | cons x l ih => simp only [List.sum_cons, List.map_cons, <- ih]; grind
theorem told_ok {s : Int} {C : List (List Int)} {W : List Nat} {n : Nat} (hn : W.length = n) (hp : ∀ w ∈ W, 0 < w) (n1 : 1 <= n) (hg : ∀ k, k < n -> ((W[k]?.getD 0 : Nat) : Int) * s = ((List.range n).map fun j => ((W[j]?.getD 0 : Nat) : Int) * ent C j k).sum) :
  let B := bt (W.map (fr W.sum)) 1
  (∀ k, k < n -> ((part B (fr W.sum (W[k]?.getD 0)) : Nat) : Int) * s = ((List.range n).map fun j => ((part B (fr W.sum (W[j]?.getD 0)) : Nat) : Int) * ent C j k).sum) /\ ((W.map (fr W.sum)).map (part B)).sum = B := by
 intro B
 have t0 : 0 < W.sum := by
  cases W with
  | nil => simp at hn; omega
  | cons w W =>
   have := hp w (by simp)
   rw [List.sum_cons]
   omega
 have low : ∀ p ∈ W.map (fr W.sum), 0 < p.2 := fun p hp' => by
  obtain ⟨w, hw, rfl⟩ := List.mem_map.mp hp'
  exact (fr_ok (hp w hw) t0).2.1
 obtain ⟨b1, _, b3⟩ := bt_ok (W.map (fr W.sum)) 1 (by decide) low
 have pe : ∀ w ∈ W, part B (fr W.sum w) * W.sum = w * B := fun w hw => part_eq (hp w hw) t0 (b3 _ (List.mem_map.mpr ⟨w, hw, rfl⟩))
 have pk : ∀ k, k < n -> ((part B (fr W.sum (W[k]?.getD 0)) : Nat) : Int) * ((W.sum : Nat) : Int) = ((W[k]?.getD 0 : Nat) : Int) * (B : Int) := fun k hk => by
  have hk' : k < W.length := by omega
  rw [List.getElem?_eq_getElem hk']
  have := pe W[k] (List.getElem_mem hk')
  show ((part B (fr W.sum W[k]) : Nat) : Int) * _ = ((W[k] : Nat) : Int) * _
  rw [<- Int.natCast_mul, <- Int.natCast_mul, this]
 refine ⟨fun k hk => ?_, ?_⟩
 ·have tz : ((W.sum : Nat) : Int) ≠ 0 := by omega
  refine Int.eq_of_mul_eq_mul_right tz ?_
  rw [sum_mul, List.map_map]
  have e1 : ((part B (fr W.sum (W[k]?.getD 0)) : Nat) : Int) * s * ((W.sum : Nat) : Int) = ((W[k]?.getD 0 : Nat) : Int) * s * (B : Int) := by
   have := pk k hk
   grind
  rw [e1, hg k hk, sum_mul, List.map_map]
  congr 1
  refine List.map_congr_left fun j hj => ?_
  have := pk j (List.mem_range.mp hj)
  show _ * ent C j k * (B : Int) = _ * ent C j k * _
  grind
 ·have key : ∀ (V : List Nat), (∀ w ∈ V, w ∈ W) -> ((V.map (fr W.sum)).map (part B)).sum * W.sum = V.sum * B := by
   intro V
   induction V with
   | nil => intro _; simp
   | cons v V ih =>
    intro h
    simp only [List.map_cons, List.sum_cons, Nat.add_mul]
    rw [ih fun w hw => h w (by simp [hw]), pe v (h v (by simp))]
  have := key W fun w hw => hw
  exact Nat.eq_of_mul_eq_mul_right t0 (by rw [this, Nat.mul_comm])
end L2.Na.Sh
namespace L2.Na
open PySem PySem.Spec PyProof.Rows L2 L2.L3
section
variable {K : Fg} {σ : St} {H : Hp} {Q : VK}
theorem comp_unp {p : Addr} {xs : List V} {te : TE} {is : List Nat} {D : Addr} (f U W : Nat -> V) (hp : SqL K H p xs) (hx : ∀ (i : Nat) (x : V), xs[i]? = some x -> ∃ t, x = .ref t /\ SqT K H t [U i, W i]) (hD : H D = none) (hz : xs.length <= sizeLine)
  (step : ∀ (i : Nat) (H1 : Hp) (Q' : VK), i < xs.length -> Same H H1 -> (∀ H3, Same H1 H3 -> Q' (f i) H3) -> te (some (U i) :: some (W i) :: capV is σ) H1 Q')
  (fin : ∀ H1, Same H H1 -> H1 D = some (.lst ((List.range xs.length).map f)) -> Q (.ref D) H1) : CompBodyI (Itl K p) (unp [0, 1] : TX K).g (cT (none : Option (EX K))) te 2 is σ D H Q := by
 refine ⟨fun i m σ' H1 => m = xs.length - i /\ i <= xs.length /\ (∃ a b, σ' = a :: b :: capV is σ) /\ Same H H1 /\ H1 D = some (.lst ((List.range i).map f)), ⟨xs.length, by simp, Nat.zero_le _, ⟨none, none, rfl⟩, fun b o e => by rw [upd_ne (ne_of_none e hD)]; exact e, upd_same⟩, ?_⟩
 rintro i m σ' H1 ⟨rfl, hi, ⟨a, b, rfl⟩, hS, hO⟩
 have hp1 := hS.seq hp
 by_cases hlt : i < xs.length
 ·refine .inr ⟨(yl_list (xs := xs)).go i H1 hp1 hlt, fun x H' hy => ?_⟩
  obtain ⟨e, hx1⟩ := (yl_list (xs := xs)).yld i H1 x H' hp1 hlt hy
  subst e
  obtain ⟨t, rfl, ht⟩ := hx i x hx1
  refine i_unp2 (sqT_same ht _ hS) ?_
  refine ⟨fun _ => ?_, fun z => nomatch z⟩
  refine step i H' _ hlt hS fun H3 s3 => ?_
  refine ⟨_, s3 _ _ hO, by rw [List.length_map, List.length_range]; omega, xs.length - (i + 1), by omega, rfl, hlt, ⟨_, _, rfl⟩, fun b o q => ?_, ?_⟩
  ·rw [upd_ne (ne_of_none q hD)]
   exact s3 _ _ (hS b o q)
  ·rw [upd_same, List.range_succ, List.map_append]
   rfl
 ·have e : i = xs.length := by omega
  subst e
  exact .inl ⟨(yl_list (xs := xs)).stop H1 hp1, fin H1 hS hO⟩
end
end L2.Na
namespace PySem
namespace F
end F
section
variable {prog : Program} {w : World} {A : Around} {E : Value -> Shared -> Prop} {s : Shared}
end
end PySem
namespace L2.Na
open PySem PySem.Spec PyProof.Rows L2 L2.L3
section
variable {K : Fg}
section
variable {E : XS} {σ : St} {H : Hp} {a : EX K}
end
end
end L2.Na
namespace L2.Na
open PySem PySem.Spec PyProof.Rows L2 L2.L3
section
variable {K : Fg}
def cmpR (op : CmpOp) (r : R2) (hr : ∀ X : Cx, X.K = K -> X.A.units + 64 < cLine -> OpR X (compareOp op) r) (a b : EX K) : EX K where
 t := fun E => tOp r (a.t E) (b.t E)
 tt := fun E σ H Q => a.t E σ H fun x H1 => b.t E σ H1 fun y H2 => r x y H2 fun v H3 => ∃ c, v = .bl c /\ Q c H3
 m := fun C e => match e with
  | .Compare l [o] [r] _ => decide (o = op) && (a.m C l && b.m C r)
  | _ => false
 q := fun R => a.q R /\ b.q R
 s := .pl
 ok := fun X C E e hK G hE hq hm => by
  subst hK
  cases e with
  | Compare l os rs p =>
   match os, rs, hm with
   | [o], [r'], hm =>
    simp only [Bool.and_eq_true] at hm
    obtain ⟨h1, h2, h3⟩ := hm
    have e := of_decide_eq_true h1
    subst e
    exact pe_cmpR (hr X rfl G.hu) (a.ok X C E l rfl G hE hq.1 h2) (b.ok X C E r' rfl G hE hq.2 h3) (shp_mark (b.sok C r' h3))
  | _ => exact ff hm
 okT := fun X C E e hK G hE hq hm => by
  subst hK
  cases e with
  | Compare l os rs p =>
   match os, rs, hm with
   | [o], [r'], hm =>
    simp only [Bool.and_eq_true] at hm
    obtain ⟨h1, h2, h3⟩ := hm
    have e := of_decide_eq_true h1
    subst e
    intro pins s σ H Q I hw
    refine wpAny_isTrue_Compare1 (thn (a.ok X C E l rfl G hE hq.1 h2 pins s σ H _ I hw) fun v s1 ⟨x, H1, I1, r1, q1⟩ => thn (b.ok X C E r' rfl G hE hq.2 h3 pins s1 σ H1 _ I1 q1) fun u s2 ⟨y, H2, I2, r2, q2⟩ =>
     thn (hr X rfl G.hu pins s2 σ H2 x y v u _ I2 r1 r2 q2) fun c s3 ⟨z, H3, I3, r3, q3⟩ => ?_) (shp_mark (b.sok C r' h3))
    obtain ⟨d, rfl, q⟩ := q3
    cases r3
    exact wpAny_truthy_bool ⟨H3, I3, q⟩
  | _ => exact ff hm
 sok := fun C e hm => by cases e with | Compare l o r p => rfl | _ => exact ff hm
section
variable {E : XS} {σ : St} {H : Hp} {a b : EX K}
end
end
end L2.Na
namespace ZT
open PySem PySem.Spec PyProof.Rows
section
variable {prog : Program} {w : World} {A : Around} {E : Value -> Shared -> Prop} {s : Shared}
theorem tup_end {it t : Addr} {i : Nat} {items : Array Value} {Q : Value -> Shared -> Prop} (hh : A.handled = none) (hit : s.heap.IsTupleIter it t i) (ht : s.heap.IsTuple t items) (hx : items[i]? = none)
  (hE : ∀ h' e, Heap.ExtBut it s.heap h' -> (∃ o, h'.get? e = some o /\ o.cls = .type "StopIteration") -> E (.ref e) { s with heap := h' }) : wpAny (model prog w) A (Builtin.SmallTypes.nextOf (.ref it)) Q E s := by
 obtain ⟨oi, hoi, hci, hdi⟩ := id hit
 obtain ⟨ot, hot, _, nt, hdt⟩ := ht
 unfold Builtin.SmallTypes.nextOf
 refine wpAny_bind (wpAny_callSpecial?_slot (name := Str.ofString "__next__") hit.typeIs F.slot_tuple_iterator_next
  (wpAny_call_entry F.slot_tuple_iterator_next hit.typeIs F.entry_tuple_iterator_next ?_ (F.args_tuple_iterator_next_1 _)))
 show wpAny _ _ (field (.ref it) 0 >>= _) _ _ s
 refine wpAny_bind (wpAny_field hoi hdi (x := .ref t) rfl ?_)
 show wpAny _ _ (if (Value.ref t == Value.none) = true then _ else _) _ _ s
 rw [if_neg (show ¬ ((Value.ref t == Value.none) = true) from Bool.false_ne_true)]
 show wpAny _ _ (field (.ref it) 1 >>= _) _ _ s
 refine wpAny_bind (wpAny_field hoi hdi (x := .int i 0) rfl ?_)
 show wpAny _ _ (seqItems? (.ref t) >>= _) _ _ s
 refine wpAny_bind (wpAny_seqItems hot hdt ?_)
 simp only [Int.toNat_natCast, hx]
 refine wpAny_bind (wpAny_rule (wpAny_bind (wpAny_setField hoi hdi (by simp) ?_)))
 show wpAny _ _ (newExc (.type "StopIteration") [] >>= _) _ _ _
 refine wpAny_bind ?_
 simp only [newExc, newTuple]
 refine wpAny_bind (wpAny_newObj_type ?_ (by size_fits))
 refine wpAny_bind (m := firstArgMember _ _) (wpAny_of_eq (a := Value.none) (by first | rfl | (simp only [firstArgMember]; rfl)) ?_)
 refine wpAny_newObj_type ?_ (by size_fits)
 simp only [raiseNew]
 refine wpAny_bind (wpAny_handled ?_)
 first | rw [show A.in1.handled = none from hh] | rw [hh]
 refine wpAny_bind (wpAny_pure (wpAny_throw ?_))
 exact hE _ _ (((Heap.SameBut.update ..).extBut.push _).push _) ⟨_, Heap.get?_push_size _ rfl, rfl⟩
theorem zip_next {z TI TO i1 i2 a b : Addr} {k : Nat} {xs ys : Array Value} {x y p q : Value} {Q : Value -> Shared -> Prop} (D : ZipApart z TI TO i1 i2 a b)
  (hz : s.heap.get? z = some (ZD.ZipO .none (.bool false) TI TO)) (hTI : IsPair s.heap TI (.ref i1) (.ref i2)) (hTO : IsPair s.heap TO p q)
  (h1 : s.heap.IsTupleIter i1 a k) (h2 : s.heap.IsTupleIter i2 b k) (ha : s.heap.IsTuple a xs) (hb : s.heap.IsTuple b ys) (hx : xs[k]? = some x) (hy : ys[k]? = some y)
  (hQ : ∀ h', h'.get? z = some (ZD.ZipO (rawInt s.heap.objs.size) (.bool false) TI TO) -> (∃ u v, IsPair h' TO u v) -> h'.IsTupleIter i1 a (k + 1) -> h'.IsTupleIter i2 b (k + 1) -> IsPair h' s.heap.objs.size x y ->
   (∀ c o, c ≠ z -> c ≠ TO -> c ≠ i1 -> c ≠ i2 -> s.heap.get? c = some o -> h'.get? c = some o) -> Q (.ref s.heap.objs.size) { s with heap := h' }) :
  wpAny (model prog w) A (Builtin.«zip.__next__» ⟨[.ref z], []⟩) (fun fin s' => ∃ v, fin = .done (.ret v) /\ Q v s') E s := by
 show wpAny _ _ (field (.ref z) 2 >>= _) _ _ _
 refine wpAny_bind (wpAny_field hz rfl (x := .bool false) rfl ?_)
 show wpAny _ _ (field (.ref z) 3 >>= _) _ _ _
 refine wpAny_bind (wpAny_field hz rfl (x := .ref TI) rfl ?_)
 refine wpAny_bind (wpAny_seqItems hTI rfl ?_)
 show wpAny _ _ (Builtin.SmallTypes.ownedTupleIsFree (.ref z) >>= _) _ _ _
 refine wpAny_bind ?_
 unfold Builtin.SmallTypes.ownedTupleIsFree
 refine wpAny_bind (wpAny_field hz rfl (x := .none) rfl (wpAny_pure ?_))
 simp only [if_true]
 refine wpAny_bind (wpAny_rule ?_)
 refine wpAny_bind (wpAny_field hz rfl (x := .ref TO) rfl ?_)
 refine wpAny_bind (wpAny_setField_rec hz (by simp) fun g1 z1 b1 => ?_)
 replace z1 : g1.get? z = some (ZD.ZipO .ellipsis (.bool false) TI TO) := z1
 refine wpAny_bind ?_
 simp only [List.zipIdx_cons, List.zipIdx_nil, List.forIn_cons, List.forIn_nil]
 refine wpAny_bind (wpAny_bind (wpAny_onRaise ?_))
 show wpAny _ _ (Builtin.SmallTypes.nextOf (.ref i1) >>= _) _ _ _
 refine wpAny_bind (ZD.next_tup (h1.at fun o e => b1.extBut _ _ D.i1z e) (let ⟨o, e, r⟩ := ha; ⟨o, b1.extBut _ _ D.l1z e, r⟩) hx fun g2 j2 b2 => wpAny_pure ?_)
 have o2 : IsPair g2 TO p q := b2.extBut _ _ D.TOi1 (b1.extBut _ _ D.TOz hTO)
 refine wpAny_bind (wpAny_seqItems o2 rfl ?_)
 refine wpAny_bind (wpAny_updateSeq_pair o2 fun g3 o3 b3 => ?_)
 replace o3 : IsPair g3 TO x q := o3
 refine wpAny_bind (wpAny_letGo (wpAny_pure ?_))
 refine wpAny_bind (wpAny_bind (wpAny_onRaise ?_))
 show wpAny _ _ (Builtin.SmallTypes.nextOf (.ref i2) >>= _) _ _ _
 have up3 : ∀ c o, c ≠ z -> c ≠ TO -> c ≠ i1 -> s.heap.get? c = some o -> g3.get? c = some o := fun c o c1 c2 c3 e => b3.extBut _ _ c2 (b2.extBut _ _ c3 (b1.extBut _ _ c1 e))
 refine wpAny_bind (ZD.next_tup (h2.at fun o e => up3 _ _ D.i2z D.TOi2.symm D.i12.symm e) (let ⟨o, e, r⟩ := hb; ⟨o, up3 _ _ D.l2z D.l2TO D.l2i1 e, r⟩) hy fun g4 j4 b4 => wpAny_pure ?_)
 have o4 : IsPair g4 TO x q := b4.extBut _ _ D.TOi2 o3
 refine wpAny_bind (wpAny_seqItems o4 rfl ?_)
 refine wpAny_bind (wpAny_updateSeq_pair o4 fun g5 o5 b5 => ?_)
 replace o5 : IsPair g5 TO x y := o5
 refine wpAny_bind (wpAny_letGo (wpAny_pure (wpAny_pure ?_)))
 refine wpAny_bind (wpAny_seqItems o5 rfl ?_)
 refine wpAny_bind (wpAny_newTuple ?_)
 have sz : g5.objs.size = s.heap.objs.size := by rw [b5.1, b4.1, b3.1, b2.1, b1.1]
 have z5 : g5.get? z = some (ZD.ZipO .ellipsis (.bool false) TI TO) := b5.extBut _ _ D.TOz.symm (b4.extBut _ _ D.i2z.symm (b3.extBut _ _ D.TOz.symm (b2.extBut _ _ D.i1z.symm z1)))
 have up5 : ∀ c o, c ≠ z -> c ≠ TO -> c ≠ i1 -> c ≠ i2 -> s.heap.get? c = some o -> g5.get? c = some o := fun c o c1 c2 c3 c4 e => b5.extBut _ _ c2 (b4.extBut _ _ c4 (up3 c o c1 c2 c3 e))
 have s5 : g5.IsTupleIter i1 a (k + 1) := j2.at fun o e => b5.extBut _ _ D.TOi1.symm (b4.extBut _ _ D.i12 (b3.extBut _ _ D.TOi1.symm e))
 have j5 : g5.IsTupleIter i2 b (k + 1) := j4.at fun o e => b5.extBut _ _ D.TOi2.symm e
 show wpAny _ _ (Builtin.SmallTypes.ownedTupleHandOut (.ref z) (.ref g5.objs.size) >>= _) _ _ _
 refine wpAny_bind ?_
 unfold Builtin.SmallTypes.ownedTupleHandOut
 have z6 : (g5.push { cls := .type "tuple", data := .seq #[x, y] }).get? z = some (ZD.ZipO .ellipsis (.bool false) TI TO) := Heap.get?_push_of_some _ z5
 refine wpAny_bind (wpAny_setField_rec z6 (by simp) fun g7 z7 b7 => ?_)
 replace z7 : g7.get? z = some (ZD.ZipO (rawInt g5.objs.size) (.bool false) TI TO) := z7
 refine wpAny_setField_rec z7 (by simp) fun g8 z8 b8 => ?_
 replace z8 : g8.get? z = some (ZD.ZipO (rawInt g5.objs.size) (.bool false) TI TO) := z8
 have up : ∀ c o, c ≠ z -> g5.get? c = some o -> g8.get? c = some o := fun c o c1 e => b8.extBut _ _ c1 (b7.extBut _ _ c1 (Heap.get?_push_of_some _ e))
 have zlt : z < g5.objs.size := Heap.lt_size z5
 have T8 : IsPair g8 g5.objs.size x y := b8.extBut _ _ (Nat.ne_of_gt zlt) (b7.extBut _ _ (Nat.ne_of_gt zlt) (Heap.get?_push_size _ rfl))
 refine wpAny_pure ⟨_, rfl, ?_⟩
 rw [sz] at z8 T8 ⊢
 exact hQ g8 z8 ⟨_, _, up _ _ D.TOz o5⟩ (s5.at fun o e => up _ _ D.i1z e) (j5.at fun o e => up _ _ D.i2z e) T8 fun c o c1 c2 c3 c4 e => up c o c1 (up5 c o c1 c2 c3 c4 e)
theorem zip_end {z TI TO i1 i2 a b : Addr} {k : Nat} {xs : Array Value} {p q : Value} {Q : Fin -> Shared -> Prop} (hh : A.handled = none) (D : ZipApart z TI TO i1 i2 a b)
  (hz : s.heap.get? z = some (ZD.ZipO .none (.bool false) TI TO)) (hTI : IsPair s.heap TI (.ref i1) (.ref i2)) (hTO : IsPair s.heap TO p q) (h1 : s.heap.IsTupleIter i1 a k) (ha : s.heap.IsTuple a xs) (hx : xs[k]? = none)
  (hE : ∀ h' e, (∀ c o, c ≠ z -> c ≠ TO -> c ≠ i1 -> c ≠ i2 -> s.heap.get? c = some o -> h'.get? c = some o) -> (∃ o, h'.get? e = some o /\ o.cls = .type "StopIteration") -> E (.ref e) { s with heap := h' }) :
  wpAny (model prog w) A (Builtin.«zip.__next__» ⟨[.ref z], []⟩) Q E s := by
 show wpAny _ _ (field (.ref z) 2 >>= _) _ _ _
 refine wpAny_bind (wpAny_field hz rfl (x := .bool false) rfl ?_)
 show wpAny _ _ (field (.ref z) 3 >>= _) _ _ _
 refine wpAny_bind (wpAny_field hz rfl (x := .ref TI) rfl ?_)
 refine wpAny_bind (wpAny_seqItems hTI rfl ?_)
 show wpAny _ _ (Builtin.SmallTypes.ownedTupleIsFree (.ref z) >>= _) _ _ _
 refine wpAny_bind ?_
 unfold Builtin.SmallTypes.ownedTupleIsFree
 refine wpAny_bind (wpAny_field hz rfl (x := .none) rfl (wpAny_pure ?_))
 simp only [if_true]
 refine wpAny_bind (wpAny_rule ?_)
 refine wpAny_bind (wpAny_field hz rfl (x := .ref TO) rfl ?_)
 refine wpAny_bind (wpAny_setField_rec hz (by simp) fun g1 z1 b1 => ?_)
 replace z1 : g1.get? z = some (ZD.ZipO .ellipsis (.bool false) TI TO) := z1
 refine wpAny_bind ?_
 simp only [List.zipIdx_cons, List.zipIdx_nil, List.forIn_cons, List.forIn_nil]
 refine wpAny_bind (wpAny_bind (wpAny_onRaise ?_))
 show wpAny _ _ (Builtin.SmallTypes.nextOf (.ref i1) >>= _) _ _ _
 refine wpAny_bind (tup_end hh (h1.at fun o e => b1.extBut _ _ D.i1z e) (let ⟨o, e, r⟩ := ha; ⟨o, b1.extBut _ _ D.l1z e, r⟩) hx fun g2 e b2 he => ?_)
 obtain ⟨oe, hoe, hce⟩ := he
 have z2 : g2.get? z = some (ZD.ZipO .ellipsis (.bool false) TI TO) := b2 _ _ D.i1z.symm z1
 have ne : e ≠ z := fun y => by
  subst y
  rw [z2] at hoe
  cases hoe
  have c' : (Value.type "zip") = .type "StopIteration" := hce
  simp at c'
 exact wpAny_setField_rec z2 (by simp) fun g3 _ b3 => hE g3 e (fun c o c1 _ c3 _ y => b3.extBut _ _ c1 (b2 _ _ c3 (b1.extBut _ _ c1 y))) ⟨oe, b3.extBut _ _ ne hoe, hce⟩
theorem py_next {z TI TO i1 i2 a b : Addr} {k : Nat} {xs ys : Array Value} {x y p q : Value} {Q : Option Value -> Shared -> Prop} (D : ZipApart z TI TO i1 i2 a b)
  (hz : s.heap.get? z = some (ZD.ZipO .none (.bool false) TI TO)) (hTI : IsPair s.heap TI (.ref i1) (.ref i2)) (hTO : IsPair s.heap TO p q)
  (h1 : s.heap.IsTupleIter i1 a k) (h2 : s.heap.IsTupleIter i2 b k) (ha : s.heap.IsTuple a xs) (hb : s.heap.IsTuple b ys) (hx : xs[k]? = some x) (hy : ys[k]? = some y)
  (hQ : ∀ h', h'.get? z = some (ZD.ZipO (rawInt s.heap.objs.size) (.bool false) TI TO) -> (∃ u v, IsPair h' TO u v) -> h'.IsTupleIter i1 a (k + 1) -> h'.IsTupleIter i2 b (k + 1) -> IsPair h' s.heap.objs.size x y ->
   (∀ c o, c ≠ z -> c ≠ TO -> c ≠ i1 -> c ≠ i2 -> s.heap.get? c = some o -> h'.get? c = some o) -> Q (some (.ref s.heap.objs.size)) { s with heap := h' }) :
  wpAny (model prog w) A (pyNext (.ref z)) Q E s := by
 have hT : s.TypeIs (.ref z) "zip" := ⟨_, hz, rfl⟩
 unfold pyNext
 exact wpAny_bind (wpAny_attempt (wpAny_callSpecial?_slot (name := Str.ofString "__next__") hT F.slot_zip_next
  (wpAny_call_entry F.slot_zip_next hT F.entry_zip_next (zip_next D hz hTI hTO h1 h2 ha hb hx hy fun h' a1 a2 a3 a4 a5 a6 => wpAny_pure (hQ h' a1 a2 a3 a4 a5 a6)) (F.args_zip_next_1 _))))
theorem py_end {z TI TO i1 i2 a b : Addr} {k : Nat} {xs : Array Value} {p q : Value} {Q : Option Value -> Shared -> Prop} (hh : A.handled = none) (D : ZipApart z TI TO i1 i2 a b)
  (hz : s.heap.get? z = some (ZD.ZipO .none (.bool false) TI TO)) (hTI : IsPair s.heap TI (.ref i1) (.ref i2)) (hTO : IsPair s.heap TO p q) (h1 : s.heap.IsTupleIter i1 a k) (ha : s.heap.IsTuple a xs) (hx : xs[k]? = none)
  (hQ : ∀ h', (∀ c o, c ≠ z -> c ≠ TO -> c ≠ i1 -> c ≠ i2 -> s.heap.get? c = some o -> h'.get? c = some o) -> Q none { s with heap := h' }) : wpAny (model prog w) A (pyNext (.ref z)) Q E s := by
 have hT : s.TypeIs (.ref z) "zip" := ⟨_, hz, rfl⟩
 unfold pyNext
 refine wpAny_bind (wpAny_attempt (wpAny_callSpecial?_slot (name := Str.ofString "__next__") hT F.slot_zip_next
  (wpAny_call_entry F.slot_zip_next hT F.entry_zip_next (zip_end hh D hz hTI hTO h1 ha hx fun h' e hk he => ?_) (F.args_zip_next_1 _))))
 obtain ⟨o, ho, hc⟩ := he
 refine wpAny_bind (wpAny_isInstance (T := "StopIteration") (b := true) ⟨o, ho, hc⟩ isSubtype_stop ?_)
 exact wpAny_pure (hQ _ hk)
end
abbrev tA (h : Heap) (a : Addr) : Heap := h.push { cls := .type "tuple_iterator", data := .fields #[.ref a, .int 0 0] }
abbrev tB (h : Heap) (a b : Addr) : Heap := (tA h a).push { cls := .type "tuple_iterator", data := .fields #[.ref b, .int 0 0] }
abbrev tC (h : Heap) (a b : Addr) : Heap := (tB h a b).push { cls := .type "tuple", data := .seq #[.ref h.objs.size, .ref (tA h a).objs.size] }
abbrev tD (h : Heap) (a b : Addr) : Heap := (tC h a b).push { cls := .type "tuple", data := .seq #[.none, .none] }
abbrev tE (h : Heap) (a b : Addr) : Heap := (tD h a b).push { cls := .type "zip", data := .fields #[.none, .bool false, .bool false, .ref (tB h a b).objs.size, .ref (tC h a b).objs.size] }
theorem meets_new (a b : Addr) (xs ys : Array Value) :
  Meets (Builtin.«zip.__new__» ⟨[.type "zip", .ref a, .ref b], []⟩) (fun _ R s => (s.heap.IsTuple a xs /\ s.heap.IsTuple b ys) /\ R (.ok (.ret (.ref (tD s.heap a b).objs.size))) { s with heap := tE s.heap a b }) :=
 .of_wp fun prog w A R s h => by
  obtain ⟨hp, g, d, tks, os⟩ := s
  obtain ⟨⟨ha, hb⟩, h⟩ := h
  have hsub := sub_zip
  have hB : Heap.IsTuple (Shared.heap ⟨hp.push { cls := .type "tuple_iterator", data := .fields #[.ref a, .int 0 0] }, g, d, tks, os⟩) b ys := let ⟨o, e, r⟩ := hb; ⟨o, Heap.get?_push_of_some _ e, r⟩
  wp_walk using wpAny_pyIter_tuple ha, wpAny_pyIter_tuple hB
  exact ⟨_, rfl, h⟩
section
variable {prog : Program} {w : World} {A : Around} {E : Value -> Shared -> Prop} {s : Shared}
theorem call_zip {a b : Addr} {xs ys : Array Value} {Q : Value -> Shared -> Prop} (ha : s.heap.IsTuple a xs) (hb : s.heap.IsTuple b ys)
  (h : ∀ h', h'.get? (s.heap.objs.size + 4) = some (ZD.ZipO .none (.bool false) (s.heap.objs.size + 2) (s.heap.objs.size + 3)) -> IsPair h' (s.heap.objs.size + 2) (.ref s.heap.objs.size) (.ref (s.heap.objs.size + 1)) -> IsPair h' (s.heap.objs.size + 3) .none .none ->
   h'.IsTupleIter s.heap.objs.size a 0 -> h'.IsTupleIter (s.heap.objs.size + 1) b 0 -> (∀ c o, s.heap.get? c = some o -> h'.get? c = some o) -> Q (.ref (s.heap.objs.size + 4)) { s with heap := h' }) :
  wpAny (model prog w) A (call (.type "zip") [.ref a, .ref b]) Q E s := by
 refine callType_new F.called_zip (by decide) (F.typeCall_zip_2 _ _) (F.newCall_zip_2 _ _) (fun obj => F.args_object_init_3 obj _ _) F.entry_zip_new (meets_new a b xs ys) ⟨⟨ha, hb⟩, ?_⟩
 have z1 : (tA s.heap a).objs.size = s.heap.objs.size + 1 := Heap.size_push ..
 have z2 : (tB s.heap a b).objs.size = s.heap.objs.size + 2 := by rw [Heap.size_push, z1]
 have z3 : (tC s.heap a b).objs.size = s.heap.objs.size + 3 := by rw [Heap.size_push, z2]
 have z4 : (tD s.heap a b).objs.size = s.heap.objs.size + 4 := by rw [Heap.size_push, z3]
 have g5 : (tE s.heap a b).get? (tD s.heap a b).objs.size = some _ := Heap.get?_push_size _ rfl
 have g4 : (tE s.heap a b).get? (tC s.heap a b).objs.size = some _ := Heap.get?_push_of_some _ (Heap.get?_push_size _ rfl)
 have g3 : (tE s.heap a b).get? (tB s.heap a b).objs.size = some _ := Heap.get?_push_of_some _ (Heap.get?_push_of_some _ (Heap.get?_push_size _ rfl))
 have g2 : (tE s.heap a b).get? (tA s.heap a).objs.size = some _ := Heap.get?_push_of_some _ (Heap.get?_push_of_some _ (Heap.get?_push_of_some _ (Heap.get?_push_size _ rfl)))
 have g1 : (tE s.heap a b).get? s.heap.objs.size = some _ := Heap.get?_push_of_some _ (Heap.get?_push_of_some _ (Heap.get?_push_of_some _ (Heap.get?_push_of_some _ (Heap.get?_push_size _ rfl))))
 have up : ∀ c o, s.heap.get? c = some o -> (tE s.heap a b).get? c = some o := fun c o y => Heap.get?_push_of_some _ (Heap.get?_push_of_some _ (Heap.get?_push_of_some _ (Heap.get?_push_of_some _ (Heap.get?_push_of_some _ y))))
 rw [z2, z3, z4] at g5
 rw [z1, z2] at g3
 rw [z3] at g4
 rw [z1] at g2
 show ({ s with heap := tE s.heap a b } : Shared).TypeIs (.ref (tD s.heap a b).objs.size) "zip" /\ Q (.ref (tD s.heap a b).objs.size) { s with heap := tE s.heap a b }
 rw [z4]
 exact ⟨⟨_, g5, rfl⟩, h _ g5 g3 g4 ⟨_, g1, rfl, rfl⟩ ⟨_, g2, rfl, rfl⟩ up⟩
end
end ZT
namespace L2.Na
open PySem PySem.Spec PyProof.Rows L2 L2.L3
def Itzt (a b : Addr) : It :=
 ⟨fun i H => ∃ xs ys x y, H a = some (.tup xs) /\ H b = some (.tup ys) /\ xs[i]? = some x /\ ys[i]? = some y,
  fun i H v H' => ∃ p x y, H p = none /\ v = .ref p /\ H' = upd H p (.tup [x, y]) /\ (∀ xs, H a = some (.tup xs) -> xs[i]? = some x) /\ ∀ ys, H b = some (.tup ys) -> ys[i]? = some y,
  fun i H => ∃ xs ys, H a = some (.tup xs) /\ H b = some (.tup ys) /\ xs.length <= i⟩
def ZTt (z TI TO i1 i2 a b : Addr) (i : Nat) (h : Heap) : Prop := IsZip h z TI TO .none /\ IsPair h TI (.ref i1) (.ref i2) /\ (∃ u v, IsPair h TO u v) /\ h.IsTupleIter i1 a i /\ h.IsTupleIter i2 b i
theorem ztt_apart {X : Cx} {pins : List (Addr × Obj)} {H : Hp} {z TI TO i1 i2 a b : Addr} {xs ys : List V} (Z : ZApart z TI TO i1 i2) (hf : ∀ c ∈ [z, TI, TO, i1, i2], FpOk X pins H c) (h1 : H a = some (.tup xs)) (h2 : H b = some (.tup ys)) : ZipApart z TI TO i1 i2 a b :=
 ⟨Z.TIz, Z.TOz, Z.i1z, Z.i2z, Z.TITO, Z.TIi1, Z.TIi2, Z.TOi1, Z.TOi2, Z.i12,
  ne_of_none h1 (hf z (by simp)).1, ne_of_none h1 (hf TO (by simp)).1, ne_of_none h1 (hf i1 (by simp)).1, ne_of_none h1 (hf i2 (by simp)).1,
  ne_of_none h2 (hf z (by simp)).1, ne_of_none h2 (hf TO (by simp)).1, ne_of_none h2 (hf i1 (by simp)).1, ne_of_none h2 (hf i2 (by simp)).1⟩
theorem turn_zipt {P : Program} {w : World} {K : Fg} {elts : List Expr} {k : Nat} {pos : Pos} (a b z TI TO i1 i2 : Addr) (Z : ZApart z TI TO i1 i2) : Turn P w K (.Tuple elts k pos) (Itzt a b) [z, TI, TO, i1, i2] z (ZTt z TI TO i1 i2 a b) where
 mem := by simp
 obj := fun i h st c hc => by
  obtain ⟨hz, hTI, ⟨u, v, hTO⟩, ⟨o1, e1, c1, d1⟩, ⟨o2, e2, c2, d2⟩⟩ := st
  simp only [List.mem_cons, List.not_mem_nil, or_false] at hc
  rcases hc with rfl | rfl | rfl | rfl | rfl
  ·exact ⟨_, hz, fun _ q => by have q' : Data.fields _ = Data.cell _ := q; cases q'⟩
  ·exact ⟨_, hTI, fun _ q => by have q' : Data.seq _ = Data.cell _ := q; cases q'⟩
  ·exact ⟨_, hTO, fun _ q => by have q' : Data.seq _ = Data.cell _ := q; cases q'⟩
  ·exact ⟨_, e1, fun _ q => by rw [d1] at q; cases q⟩
  ·exact ⟨_, e2, fun _ q => by rw [d2] at q; cases q⟩
 keep := fun i h h' st kp => by
  obtain ⟨hz, hTI, ⟨u, v, hTO⟩, l1, l2⟩ := st
  exact ⟨kp z (by simp) _ hz, kp TI (by simp) _ hTI, ⟨u, v, kp TO (by simp) _ hTO⟩, l1.at fun o e => kp i1 (by simp) o e, l2.at fun o e => kp i2 (by simp) o e⟩
 item := by
  intro X hP hw hK hc i pins s σ H E I hf st hg
  subst hP hw hK
  obtain ⟨xs, ys, x, y, hqa, hqb, hx, hy⟩ := hg
  obtain ⟨ia, ra, pa, _⟩ := I.tuple (SqT.of hqa)
  obtain ⟨ib, rb, pb, _⟩ := I.tuple (SqT.of hqb)
  obtain ⟨u, hu, ru⟩ := ra.get hx
  obtain ⟨v, hv, rv⟩ := rb.get hy
  have D := ztt_apart Z hf hqa hqb
  obtain ⟨hz, hTI, ⟨u0, v0, hTO⟩, l1, l2⟩ := st
  refine ZT.py_next D hz hTI hTO l1 l2 (show s.heap.IsTuple a ia.toArray from pa) (show s.heap.IsTuple b ib.toArray from pb) (x := u) (y := v) (by simpa using hu) (by simpa using hv) fun h' a1 a2 a3 a4 a5 hk => ?_
  refine ⟨_, rfl, ?_⟩
  refine wpAny_letOwnedTupleGo_zip (s := { s with heap := h' }) a1 fun h2 z2 sb => ?_
  have fr : H s.heap.objs.size = none := I.hok.fresh (Nat.le_refl _)
  have zlt : z < s.heap.objs.size := Heap.lt_size hz
  have k2 : ∀ c o, c ∉ [z, TI, TO, i1, i2] -> s.heap.get? c = some o -> h2.get? c = some o := fun c o hc' e => by
   simp only [List.mem_cons, List.not_mem_nil, or_false, not_or] at hc'
   exact sb.extBut _ _ hc'.1 (hk c o hc'.1 hc'.2.2.1 hc'.2.2.2.1 hc'.2.2.2.2 e)
  have T2 : IsPair h2 s.heap.objs.size u v := sb.extBut _ _ (Nat.ne_of_gt zlt) a5
  have ne : ∀ c ∈ [z, TI, TO, i1, i2], c ≠ s.heap.objs.size := fun c hc' => by
   obtain ⟨o, e⟩ : ∃ o, s.heap.get? c = some o := by
    simp only [List.mem_cons, List.not_mem_nil, or_false] at hc'
    obtain ⟨o1, e1, _⟩ := l1
    obtain ⟨o2, e2, _⟩ := l2
    rcases hc' with rfl | rfl | rfl | rfl | rfl
    ·exact ⟨_, hz⟩
    ·exact ⟨_, hTI⟩
    ·exact ⟨_, hTO⟩
    ·exact ⟨_, e1⟩
    ·exact ⟨_, e2⟩
   exact Nat.ne_of_lt (Heap.lt_size e)
  have I0 : Inv X pins σ (upd H s.heap.objs.size (.tup [x, y])) { s with heap := s.heap.push { cls := .type "tuple", data := .seq #[u, v] } } :=
   I.laid (t' := s.toks) (fun c o e => Heap.get?_push_of_some _ e) (Nat.le_refl _) (show ObjOk X.prog X.w _ _ _ (.tup [x, y]) from ⟨by show 2 <= sizeLine; decide, [u, v], .cons ru (.cons rv .nil), IsTup.new _ _⟩)
  have hf' : ∀ c ∈ [z, TI, TO, i1, i2], FpOk X pins (upd H s.heap.objs.size (.tup [x, y])) c := fun c hc' => ⟨by rw [upd_ne (ne c hc')]; exact (hf c hc').1, (hf c hc').2⟩
  have I1 : Inv X pins σ (upd H s.heap.objs.size (.tup [x, y])) { s with heap := h2 } := Inv.turnedN (s := { s with heap := s.heap.push { cls := .type "tuple", data := .seq #[u, v] } }) (t' := s.toks) I0 (fun c o hc' e => by
   rcases Heap.get?_push_cases e with ⟨hcs, ho⟩ | e
   ·subst hcs ho
    exact T2
   ·exact k2 c o hc' e) hf'
  obtain ⟨tu, tv, a2⟩ := a2
  exact ⟨.ref s.heap.objs.size, _, I1, rfl, ⟨_, x, y, fr, rfl, rfl, fun xs' h' => by rw [hqa] at h'; cases h'; exact hx, fun ys' h' => by rw [hqb] at h'; cases h'; exact hy⟩,
   ⟨z2, sb.extBut _ _ Z.TIz (hk _ _ Z.TIz Z.TITO Z.TIi1 Z.TIi2 hTI), ⟨_, _, sb.extBut _ _ Z.TOz a2⟩, a3.at fun o e => sb.extBut _ _ Z.i1z e, a4.at fun o e => sb.extBut _ _ Z.i2z e⟩, fun c hc' => (hf' c hc').1⟩
 done := by
  intro X hP hw hK hc i pins s σ H E I hf st hg
  subst hP hw hK
  obtain ⟨xs, ys, hqa, hqb, hx⟩ := hg
  obtain ⟨ia, ra, pa, _⟩ := I.tuple (SqT.of hqa)
  have D := ztt_apart Z hf hqa hqb
  obtain ⟨hz, hTI, ⟨u0, v0, hTO⟩, l1, l2⟩ := st
  have n1 := ra.length
  refine ZT.py_end (I.ok.hd hc) D hz hTI hTO l1 (show s.heap.IsTuple a ia.toArray from pa) (by simp; omega) fun h' hk => ⟨rfl, Inv.turnedN (t' := s.toks) I (fun c o hc' e => ?_) hf⟩
  simp only [List.mem_cons, List.not_mem_nil, or_false, not_or] at hc'
  exact hk c o hc'.1 hc'.2.2.1 hc'.2.2.2.1 hc'.2.2.2.2 e
 self := fun _ _ _ _ _ st h => wpAny_pyIter_zip st.1 h
end L2.Na
namespace L2.Na
open PySem PySem.Spec PyProof.Rows L2 L2.L3
section
variable {K : Fg}
def rSplitU : Str -> List V -> Hp -> VK -> Prop
 | z, [.str y], H, Q => (y.length == 0) = false /\ z.length + 2 <= sizeLine /\ ∀ p, H p = none -> Q (.ref p) (upd H p (.lst ((Txt.split z y).map V.str)))
 | _, _, _, _ => False
def rZipT : List V -> Hp -> (It -> Hp -> Prop) -> Prop
 | [.ref p, .ref q], H, R => ((∃ xs, H p = some (.tup xs)) /\ ∃ ys, H q = some (.tup ys)) /\ R (Itzt p q) H
 | _, _, _ => False
def iZipT (a b : EX K) : IX K where
 t := fun E σ H R => tAs [a, b] E σ H fun vs H1 => rZipT vs H1 R
 tm := fun e => match e with
  | .Tuple _ _ _ => true
  | _ => false
 m := fun C e => match e with
  | .Call (.Name y _) es [] _ => glB C "zip" y && mAs [a, b] C es
  | _ => false
 q := fun R => qAs [a, b] R
 ok := fun X C E tg e hK G hE hq ht hm => by
  subst hK
  cases tg with
  | Tuple ts tk tp =>
   cases e with
   | Call f es ks p =>
    cases f with
    | Name y py =>
     cases ks with
     | nil =>
      simp only [Bool.and_eq_true] at hm
      obtain ⟨h1, h2⟩ := hm
      have e := glB_eq h1
      subst e
      obtain ⟨g, d⟩ := glB_gl G h1
      cases es with
      | nil => cases h2
      | cons e es =>
       intro pins s σ H R I h
       refine Call_ (ld_blt I g (G.bl _ (by decide +kernel)) boot_zip (PyProof.Rows.callWith_type1 (thn (as_ok G hE [a, b] (e :: es) hq h2 p pins s σ H _ I h) fun us s1 ⟨vs, H1, I1, r1, q1⟩ => ?_) (shp_star (a.sok C e (mAs_cons h2).1)) (as_plain [b] es (mAs_cons h2).2)))
       replace q1 : rZipT vs H1 R := q1
       unfold rZipT at q1
       split at q1
       ·rename_i p1 p2
        cases r1 with
        | cons r rr =>
         cases rr with
         | cons r' rr =>
          cases rr
          cases r
          cases r'
          obtain ⟨⟨⟨xs, hx⟩, ys, hy⟩, q⟩ := q1
          obtain ⟨ia, ra, pa, _⟩ := I1.tuple (SqT.of hx)
          obtain ⟨ib, rb, pb, _⟩ := I1.tuple (SqT.of hy)
          refine ZT.call_zip (show s1.heap.IsTuple p1 ia.toArray from pa) (show s1.heap.IsTuple p2 ib.toArray from pb) fun h' z1 z2 z3 z4 z5 kp => ?_
          refine wpAny_pyIter_zip (s := { s1 with heap := h' }) z1 ?_
          have Z : ZApart (s1.heap.objs.size + 4) (s1.heap.objs.size + 2) (s1.heap.objs.size + 3) s1.heap.objs.size (s1.heap.objs.size + 1) := by constructor <;> simp <;> omega
          have big : ∀ c ∈ [s1.heap.objs.size + 4, s1.heap.objs.size + 2, s1.heap.objs.size + 3, s1.heap.objs.size, s1.heap.objs.size + 1], s1.heap.objs.size <= c := by
           intro c hc
           simp only [List.mem_cons, List.not_mem_nil, or_false] at hc
           omega
          exact ⟨_, [s1.heap.objs.size + 4, s1.heap.objs.size + 2, s1.heap.objs.size + 3, s1.heap.objs.size, s1.heap.objs.size + 1], _, _, H1, rfl, I1.kept (t' := s1.toks) kp, turn_zipt p1 p2 _ _ _ _ _ Z, ⟨z1, z2, ⟨_, _, z3⟩, z4, z5⟩, fun c hc => I1.fpOk (big c hc) (I1.hok.fresh (big c hc)), q⟩
       ·exact q1.elim
     | cons _ _ => cases hm
    | _ => exact ff hm
   | _ => exact ff hm
  | _ => cases ht
 fs := fun C e env x hm => by cases e with | Call f es ks p => rfl | _ => exact ff hm
section
variable {E : XS} {σ : St} {H : Hp} {D : Ends} {Q : VK} {a b c : EX K}
theorem i_zipT {R : It -> Hp -> Prop} (h : tAs [a, b] E σ H fun vs H1 => rZipT vs H1 R) : (iZipT a b).t E σ H R := h
theorem i_zipTT {R : It -> Hp -> Prop} {p r : Addr} {xs ys : List V} (c : H p = some (.tup xs)) (d : H r = some (.tup ys)) (h : R (Itzt p r) H) : rZipT [.ref p, .ref r] H R := ⟨⟨⟨xs, c⟩, ys, d⟩, h⟩
theorem loop_zipT {p r : Addr} {xs ys : List V} {m n : Nat} {tb : TS} (hp : H p = some (.tup xs)) (hr : H r = some (.tup ys)) (hl : xs.length <= ys.length) (S : Nat -> St -> Prop) (h0 : S 0 σ)
  (hs : ∀ i x y σ1 H1, xs[i]? = some x -> ys[i]? = some y -> S i σ1 -> Same H H1 -> tb { D with nx := fun σ3 H3 => S (i + 1) σ3 /\ Same H H3, ct := fun σ3 H3 => S (i + 1) σ3 /\ Same H H3, bk := D.nx } ((σ1.set m (some x)).set n (some y)) H1) (hd : ∀ σ1 H1, S xs.length σ1 -> Same H H1 -> D.nx σ1 H1) :
  LoopW (Itzt p r) (unp [m, n] : TX K).g tb D σ H := by
 refine ⟨fun i k σ1 H1 => k = xs.length - i /\ i <= xs.length /\ S i σ1 /\ Same H H1, ⟨_, rfl, Nat.zero_le _, h0, Same.refl _⟩, ?_⟩
 rintro i k σ1 H1 ⟨rfl, hi, s1, hS⟩
 have hp1 := hS _ _ hp
 have hr1 := hS _ _ hr
 by_cases hlt : i < xs.length
 ·have l2 : i < ys.length := by omega
  refine .inr ⟨⟨xs, ys, xs[i], ys[i], hp1, hr1, List.getElem?_eq_getElem hlt, List.getElem?_eq_getElem l2⟩, fun σ3 H3 => S (i + 1) σ3 /\ Same H H3, fun σ3 H3 q => ⟨xs.length - (i + 1), by omega, rfl, hlt, q.1, q.2⟩, ?_⟩
  rintro v H' ⟨a, x, y, ha, rfl, rfl, hx, hy⟩
  have hS' : Same H (upd H1 a (.tup [x, y])) := hS.trans fun c o e => by rw [upd_ne (ne_of_none e ha)]; exact e
  exact i_unp2 (SqT.of upd_same) (hs i x y σ1 _ (hx _ hp1) (hy _ hr1) s1 hS')
 ·have e : i = xs.length := by omega
  subst e
  exact .inl ⟨⟨xs, ys, hp1, hr1, Nat.le_refl _⟩, hd σ1 H1 s1 hS⟩
end
end
end L2.Na
namespace L2.Na
open PySem PySem.Spec PyProof.Rows L2 L2.L3 PySem.SeqAt
def EqI0 (x y : V) (b : Bool) : Prop := (∃ i j, x = .int i /\ y = .int j /\ b = (i == j)) \/ (∃ w z, x = .str w /\ y = .str z /\ b = (w == z)) \/ (∃ k l, x = .bl k /\ y = .bl l /\ b = (k == l)) \/ (x = .non /\ y = .non /\ b = true) \/ (∃ i, x = .non /\ y = .int i /\ b = false) \/ (∃ i, x = .int i /\ y = .non /\ b = false)
def EqI (H : Hp) (x y : V) (b : Bool) : Prop := EqI0 x y b \/ ∃ p q xs ys e, x = .ref p /\ y = .ref q /\ p ≠ q /\ H p = some (.lst xs) /\ H q = some (.lst ys) /\ xs.length = ys.length /\ (∀ (i : Nat) (x y : V), xs[i]? = some x -> ys[i]? = some y -> EqI0 x y (e i)) /\ b = (List.range xs.length).all e
section
variable {X : Cx} {pins : List (Addr × Obj)} {σ : St} {H : Hp} {s : Shared}
theorem eqi0_at {A : Around} {x y : V} {u v : Value} {b : Bool} (h : EqI0 x y b) (r1 : RelV x u) (r2 : RelV y v) : EqAt A s u v b := by
 rcases h with ⟨i, j, rfl, rfl, rfl⟩ | ⟨w, z, rfl, rfl, rfl⟩ | ⟨k, l, rfl, rfl, rfl⟩ | ⟨rfl, rfl, rfl⟩ | ⟨i, rfl, rfl, rfl⟩ | ⟨i, rfl, rfl, rfl⟩
 ·obtain ⟨t, rfl⟩ := r1
  obtain ⟨t2, rfl⟩ := r2
  exact EqAt.int_int i t j t2
 ·obtain ⟨t, rfl⟩ := r1
  obtain ⟨t2, rfl⟩ := r2
  exact EqAt.str_str w t z t2
 ·cases r1
  cases r2
  exact EqAt.bool_bool k l
 ·cases r1
  cases r2
  exact EqAt.same _
 ·cases r1
  obtain ⟨t, rfl⟩ := r2
  exact EqAt.none_int i t
 ·obtain ⟨t, rfl⟩ := r1
  cases r2
  exact EqAt.int_none i t
theorem eqi_items {A : Around} {R : V -> V -> Bool -> Prop} {e : Nat -> Bool} {xs ys : List V} {us vs : List Value} (r1 : Vals xs us) (r2 : Vals ys vs) (hi : ∀ (i : Nat) (x y : V), xs[i]? = some x -> ys[i]? = some y -> R x y (e i))
  (ih : ∀ (x y : V) (u v : Value) (b : Bool), R x y b -> RelV x u -> RelV y v -> EqAt A s u v b) : ∀ j (h1 : j < us.toArray.size) (h2 : j < vs.toArray.size), EqAt A s us.toArray[j] vs.toArray[j] (e j) := fun j h1 h2 => by
 obtain ⟨x, e1, q1⟩ := vals_at r1 h1
 obtain ⟨y, e2, q2⟩ := vals_at r2 h2
 exact ih x y _ _ _ (hi j x y e1 e2) q1 q2
theorem eqi_at (I : Inv X pins σ H s) {A : Around} {x y : V} {u v : Value} {b : Bool} (hu : A.units + 4 < cLine) (h : EqI H x y b) (r1 : RelV x u) (r2 : RelV y v) : EqAt A s u v b := by
 rcases h with h | ⟨p, q, xs, ys, e, rfl, rfl, hne, h1, h2, hl, hi, rfl⟩
 ·exact eqi0_at h r1 r2
 ·cases r1
  cases r2
  refine EqAt.of_refs hne ?_
  obtain ⟨_, its, n1, k1, l1, g1⟩ := I.lstM h1
  obtain ⟨_, its2, n2, k2, l2, g2⟩ := I.lstM h2
  have z := RcAt.lists (A := A) (e := e) (⟨_, g1, rfl, n1, rfl⟩ : s.heap.IsList p its.toArray) (⟨_, g2, rfl, n2, rfl⟩ : s.heap.IsList q its2.toArray) (by rw [List.size_toArray, List.size_toArray]; omega) (by omega)
   (eqi_items k1 k2 hi fun x y u v b => eqi0_at)
  rw [List.size_toArray, <- k1.length] at z
  exact z
def rEqG : R2 := fun x y H Q => ∃ p q xs ys e, x = .ref p /\ y = .ref q /\ ((H p = some (.lst xs) /\ H q = some (.lst ys)) \/ (H p = some (.tup xs) /\ H q = some (.tup ys))) /\ xs.length = ys.length /\ (∀ (i : Nat) (x y : V), xs[i]? = some x -> ys[i]? = some y -> EqI H x y (e i)) /\ Q (.bl ((List.range xs.length).all e)) H
theorem op_eqG (hu : X.A.units + 64 < cLine) : OpR X (compareOp .Eq) rEqG := by
 intro pins s σ H x y v u Q I rx ry h
 obtain ⟨p, q, xs, ys, e, rfl, rfl, hh, hl, hi, qq⟩ := h
 cases rx
 cases ry
 have hu1 : X.A.in1.units + 4 < cLine := by show X.A.units + 1 + 4 < cLine; omega
 rcases hh with ⟨h1, h2⟩ | ⟨h1, h2⟩
 ·obtain ⟨_, its, n1, k1, l1, g1⟩ := I.lstM h1
  obtain ⟨_, its2, n2, k2, l2, g2⟩ := I.lstM h2
  have z := RcAt.lists (A := X.A) (e := e) (⟨_, g1, rfl, n1, rfl⟩ : s.heap.IsList p its.toArray) (⟨_, g2, rfl, n2, rfl⟩ : s.heap.IsList q its2.toArray) (by rw [List.size_toArray, List.size_toArray]; omega) (by omega)
   (eqi_items k1 k2 hi fun x y u v b h r1 r2 => eqi_at I hu1 h r1 r2)
  rw [List.size_toArray, <- k1.length] at z
  exact z X.prog X.w X.xe _ ⟨.bl _, H, I, rfl, qq⟩
 ·obtain ⟨its, k1, p1, _⟩ := I.tuple (SqT.of h1)
  obtain ⟨its2, k2, p2, _⟩ := I.tuple (SqT.of h2)
  have z := RcAt.tuples (A := X.A) (e := e) (show s.heap.IsTuple p its.toArray from p1) (show s.heap.IsTuple q its2.toArray from p2) (by omega)
   (eqi_items k1 k2 hi fun x y u v b h r1 r2 => eqi_at I hu1 h r1 r2)
  have e3 : its.toArray.size = its2.toArray.size := by rw [List.size_toArray, List.size_toArray, <- k1.length, <- k2.length]; exact hl
  rw [e3, beq_self_eq_true, Bool.and_true] at z
  have e4 : its2.toArray.size = xs.length := by rw [List.size_toArray, <- k2.length]; exact hl.symm
  simp only [e4, Nat.min_self] at z
  exact z X.prog X.w X.xe _ ⟨.bl _, H, I, rfl, qq⟩
end
section
variable {K : Fg}
def eqG (a b : EX K) : EX K := cmpR .Eq rEqG (fun _ _ hu => op_eqG hu) a b
variable {E : XS} {σ : St} {H : Hp} {a b : EX K}
theorem i_eqG {Q : VK} (h : a.t E σ H fun x H1 => b.t E σ H1 fun y H2 => rEqG x y H2 Q) : (eqG a b).t E σ H Q := h
end
end L2.Na
namespace L2.Na
open PySem PySem.Spec PyProof.Rows L2 L2.L3
section
variable {K : Fg}
theorem vals_ofget : ∀ {xs : List V} {us : List Value}, xs.length = us.length -> (∀ (i : Nat) (x : V) (u : Value), xs[i]? = some x -> us[i]? = some u -> RelV x u) -> Vals xs us
 | [], [], _, _ => .nil
 | [], _ :: _, h, _ => by simp at h
 | _ :: _, [], h, _ => by simp at h
 | x :: xs, u :: us, h, g => .cons (g 0 x u rfl rfl) (vals_ofget (by simpa using h) fun i y v a b => g (i + 1) y v (by simpa using a) (by simpa using b))
def rListS : List V -> Hp -> VK -> Prop
 | [.str z], H, Q => z.length <= sizeLine /\ ∀ l, H l = none -> Q (.ref l) (upd H l (.lst (sgnV z)))
 | _, _, _ => False
theorem listS_ok (X : Cx) (hc : X.calm = true) : CallR X (.type "list") rListS := by
 intro pins s σ H xs us Q I r h
 unfold rListS at h
 split at h
 ·rename_i z
  obtain ⟨hz, q⟩ := h
  obtain ⟨u, rfl, r1⟩ := r.one
  obtain ⟨t, rfl⟩ := r1
  refine call_list_str (I.ok.hd hc) z t (fun h' tk acc' c' kp hS hI => ?_) hz
  have hv : Vals (sgnV z) acc'.toList := vals_ofget (by rw [sgnV_len, Array.length_toList]; exact hI.1.symm) fun i x u hx hu => by
   have hu' : acc'[i]? = some u := by rw [<- Array.getElem?_toList]; exact hu
   obtain ⟨c, tu, hc, rfl⟩ := hI.2 i u hu'
   have hc' : z.cps.toList[i]? = some c := by rw [Array.getElem?_toList]; exact hc
   unfold sgnV at hx
   rw [List.getElem?_map, hc'] at hx
   cases hx
   exact ⟨tu, rfl⟩
  refine ⟨.ref s.heap.objs.size, _, I.laid (a := s.heap.objs.size) (o := .lst (sgnV z)) (t' := tk) kp (Nat.le_refl _) ⟨by rw [sgnV_len]; exact hz, acc'.toList, c', hv, hS⟩, rfl, q _ (I.hok.fresh (Nat.le_refl _))⟩
 ·exact h.elim
def listS (a : EX K) : EX K := bfT "list" "list" rListS (fun X _ hc _ => listS_ok X hc) PyProof.Rows.Boot.list (by decide +kernel) (by decide +kernel) a []
theorem i_listS {E : XS} {σ : St} {H : Hp} {Q : VK} {a : EX K} (h : a.t E σ H fun x H1 => rListS [x] H1 Q) : (listS a).t E σ H Q := h
end
end L2.Na
namespace L2.Na
open PySem PySem.Spec PyProof.Rows L2 L2.L3
def Iten (a : Addr) : It :=
 ⟨fun i H => ∃ xs x, H a = some (.lst xs) /\ xs[i]? = some x,
  fun i H v H' => ∃ p x, H p = none /\ v = .ref p /\ H' = upd H p (.tup [.int (i : Nat), x]) /\ ∀ xs, H a = some (.lst xs) -> xs[i]? = some x,
  fun i H => ∃ xs, H a = some (.lst xs) /\ xs.length <= i⟩
def ENt (e it a : Addr) (i : Nat) (h : Heap) : Prop := (∃ old, IsEnum h e it ((i : Nat) : Int) old) /\ h.IsListIter it a i
theorem turn_enum {P : Program} {w : World} {K : Fg} {elts : List Expr} {k : Nat} {pos : Pos} (a e it : Addr) (hei : e ≠ it) : Turn P w K (.Tuple elts k pos) (Iten a) [e, it] e (ENt e it a) where
 mem := by simp
 obj := fun i h st c hc => by
  obtain ⟨⟨old, he⟩, ⟨o1, e1, c1, d1⟩⟩ := st
  simp only [List.mem_cons, List.not_mem_nil, or_false] at hc
  rcases hc with rfl | rfl
  ·exact ⟨_, he, fun _ q => by have q' : Data.fields _ = Data.cell _ := q; cases q'⟩
  ·exact ⟨_, e1, fun _ q => by rw [d1] at q; cases q⟩
 keep := fun i h h' st kp => by
  obtain ⟨⟨old, he⟩, l1⟩ := st
  exact ⟨⟨old, kp e (by simp) _ he⟩, l1.at fun o q => kp it (by simp) o q⟩
 item := by
  intro X hP hw hK hc i pins s σ H E I hf st hg
  subst hP hw hK
  obtain ⟨xs, x, hqa, hx⟩ := hg
  obtain ⟨z, its, n, r, hl, eo⟩ := I.lstM hqa
  obtain ⟨u, hu, ru⟩ := r.get hx
  obtain ⟨⟨old, he⟩, l1⟩ := st
  have hla : s.heap.IsList a its.toArray := ⟨_, eo, rfl, n, rfl⟩
  refine wpAny_pyNext_enum_item he l1 hla (x := u) (by simpa using hu) hei fun h' a1 a2 a3 a4 hk => ?_
  refine ⟨_, rfl, ?_⟩
  refine wpAny_letOwnedTupleGo_enum (s := { s with heap := h', toks := s.toks + 1 }) a1 fun h2 z2 sb => ?_
  have fr : H s.heap.objs.size = none := I.hok.fresh (Nat.le_refl _)
  have zlt : e < s.heap.objs.size := Heap.lt_size he
  have k2 : ∀ c o, c ∉ [e, it] -> s.heap.get? c = some o -> h2.get? c = some o := fun c o hc' q => by
   simp only [List.mem_cons, List.not_mem_nil, or_false, not_or] at hc'
   exact sb.extBut _ _ hc'.1 (hk c o hc'.1 hc'.2 q)
  have T2 : h2.get? s.heap.objs.size = some { cls := .type "tuple", data := .seq #[.int i s.toks, u] } := sb.extBut _ _ (Nat.ne_of_gt zlt) a3
  have ne : ∀ c ∈ [e, it], c ≠ s.heap.objs.size := fun c hc' => by
   obtain ⟨o, q⟩ : ∃ o, s.heap.get? c = some o := by
    simp only [List.mem_cons, List.not_mem_nil, or_false] at hc'
    obtain ⟨o1, e1, _⟩ := l1
    rcases hc' with rfl | rfl
    ·exact ⟨_, he⟩
    ·exact ⟨_, e1⟩
   exact Nat.ne_of_lt (Heap.lt_size q)
  have I0 : Inv X pins σ (upd H s.heap.objs.size (.tup [.int (i : Nat), x])) { s with heap := s.heap.push { cls := .type "tuple", data := .seq #[.int i s.toks, u] }, toks := s.toks + 1 } :=
   I.laid (t' := s.toks + 1) (fun c o q => Heap.get?_push_of_some _ q) (Nat.le_refl _) (show ObjOk X.prog X.w _ _ _ (.tup [.int (i : Nat), x]) from ⟨by show 2 <= sizeLine; decide, [.int i s.toks, u], .cons ⟨_, rfl⟩ (.cons ru .nil), IsTup.new _ _⟩)
  have hf' : ∀ c ∈ [e, it], FpOk X pins (upd H s.heap.objs.size (.tup [.int (i : Nat), x])) c := fun c hc' => ⟨by rw [upd_ne (ne c hc')]; exact (hf c hc').1, (hf c hc').2⟩
  have I1 : Inv X pins σ (upd H s.heap.objs.size (.tup [.int (i : Nat), x])) { s with heap := h2, toks := s.toks + 1 } := Inv.turnedN (s := { s with heap := s.heap.push { cls := .type "tuple", data := .seq #[.int i s.toks, u] }, toks := s.toks + 1 }) (t' := s.toks + 1) I0 (fun c o hc' q => by
   rcases Heap.get?_push_cases q with ⟨hcs, ho⟩ | q
   ·subst hcs ho
    exact T2
   ·exact k2 c o hc' q) hf'
  exact ⟨.ref s.heap.objs.size, _, I1, rfl, ⟨_, x, fr, rfl, rfl, fun xs' h' => by rw [hqa] at h'; cases h'; exact hx⟩,
   ⟨⟨_, by have : ((i + 1 : Nat) : Int) = (i : Int) + 1 := by omega
           rw [this]; exact z2⟩, a2.at fun o q => sb.extBut _ _ hei.symm q⟩, fun c hc' => (hf' c hc').1⟩
 done := by
  intro X hP hw hK hc i pins s σ H E I hf st hg
  subst hP hw hK
  obtain ⟨xs, hqa, hx⟩ := hg
  obtain ⟨z, its, n, r, hl, eo⟩ := I.lstM hqa
  obtain ⟨⟨old, he⟩, l1⟩ := st
  have n1 := r.length
  have hla : s.heap.IsList a its.toArray := ⟨_, eo, rfl, n, rfl⟩
  refine wpAny_pyNext_enum_end (I.ok.hd hc) he l1 hla (by simp; omega) fun h' hk => ⟨rfl, Inv.turnedN (t' := s.toks) I (fun c o hc' q => ?_) hf⟩
  simp only [List.mem_cons, List.not_mem_nil, or_false, not_or] at hc'
  exact hk c o hc'.2 q
 self := fun _ _ _ _ _ st h => by
  obtain ⟨⟨old, he⟩, _⟩ := st
  exact wpAny_pyIter_enum he h
section
variable {K : Fg}
def rEnumI : List V -> Hp -> (It -> Hp -> Prop) -> Prop
 | [.ref p], H, R => (∃ xs, H p = some (.lst xs)) /\ R (Iten p) H
 | _, _, _ => False
def iEnum (a : EX K) : IX K where
 t := fun E σ H R => tAs [a] E σ H fun vs H1 => rEnumI vs H1 R
 tm := fun e => match e with
  | .Tuple _ _ _ => true
  | _ => false
 m := fun C e => match e with
  | .Call (.Name y _) es [] _ => glB C "enumerate" y && mAs [a] C es
  | _ => false
 q := fun R => qAs [a] R
 ok := fun X C E tg e hK G hE hq ht hm => by
  subst hK
  cases tg with
  | Tuple ts tk tp =>
   cases e with
   | Call f es ks p =>
    cases f with
    | Name y py =>
     cases ks with
     | nil =>
      simp only [Bool.and_eq_true] at hm
      obtain ⟨h1, h2⟩ := hm
      have e := glB_eq h1
      subst e
      obtain ⟨g, d⟩ := glB_gl G h1
      cases es with
      | nil => cases h2
      | cons e es =>
       intro pins s σ H R I h
       refine Call_ (ld_blt I g (G.bl _ (by decide +kernel)) boot_enumerate (PyProof.Rows.callWith_type1 (thn (as_ok G hE [a] (e :: es) hq h2 p pins s σ H _ I h) fun us s1 ⟨vs, H1, I1, r1, q1⟩ => ?_) (shp_star (a.sok C e (mAs_cons h2).1)) (as_plain [] es (mAs_cons h2).2)))
       replace q1 : rEnumI vs H1 R := q1
       unfold rEnumI at q1
       split at q1
       ·rename_i p1
        cases r1 with
        | cons r rr =>
         cases rr
         cases r
         obtain ⟨⟨xs, hx⟩, q⟩ := q1
         obtain ⟨z, its, n, r, hl, eo⟩ := I1.lstM hx
         refine call_enumerate_1 eo fun h' z1 z2 z3 kp => ?_
         refine wpAny_pyIter_enum (s := { s1 with heap := h' }) z1 ?_
         have big : ∀ c ∈ [s1.heap.objs.size + 1, s1.heap.objs.size], s1.heap.objs.size <= c := by
          intro c hc
          simp only [List.mem_cons, List.not_mem_nil, or_false] at hc
          omega
         exact ⟨_, [s1.heap.objs.size + 1, s1.heap.objs.size], _, _, H1, rfl, I1.kept (t' := s1.toks) kp, turn_enum p1 _ _ (Nat.succ_ne_self _), ⟨⟨_, z1⟩, z2⟩, fun c hc => I1.fpOk (big c hc) (I1.hok.fresh (big c hc)), q⟩
       ·exact q1.elim
     | cons _ _ => cases hm
    | _ => exact ff hm
   | _ => exact ff hm
  | _ => cases ht
 fs := fun C e env x hm => by cases e with | Call f es ks p => rfl | _ => exact ff hm
section
variable {E : XS} {σ : St} {H : Hp} {D : Ends} {Q : VK} {QB : Bool -> Hp -> Prop} {a b c : EX K}
theorem i_enum {R : It -> Hp -> Prop} (h : tAs [a] E σ H fun vs H1 => rEnumI vs H1 R) : (iEnum a).t E σ H R := h
theorem i_enumL {R : It -> Hp -> Prop} {p : Addr} {xs : List V} (c : H p = some (.lst xs)) (h : R (Iten p) H) : rEnumI [.ref p] H R := ⟨⟨xs, c⟩, h⟩
theorem loop_enum {p : Addr} {xs : List V} {m n : Nat} {tb : TS} (Pv : Nat -> St -> Hp -> Prop) (h0 : Pv 0 σ H) (hk : ∀ i σ1 H1, Pv i σ1 H1 -> H1 p = some (.lst xs))
  (hw : ∀ i σ1 H1 a o, Pv i σ1 H1 -> H1 a = none -> Pv i σ1 (upd H1 a o))
  (hs : ∀ i x σ1 H1, xs[i]? = some x -> Pv i σ1 H1 -> tb { D with nx := Pv (i + 1), ct := Pv (i + 1), bk := D.nx } ((σ1.set m (some (.int (i : Nat)))).set n (some x)) H1) (hd : ∀ σ1 H1, Pv xs.length σ1 H1 -> D.nx σ1 H1) :
  LoopW (Iten p) (unp [m, n] : TX K).g tb D σ H := by
 refine ⟨fun i k σ1 H1 => k = xs.length - i /\ i <= xs.length /\ Pv i σ1 H1, ⟨_, rfl, Nat.zero_le _, h0⟩, ?_⟩
 rintro i k σ1 H1 ⟨rfl, hi, s1⟩
 have hp1 := hk _ _ _ s1
 by_cases hlt : i < xs.length
 ·refine .inr ⟨⟨xs, xs[i], hp1, List.getElem?_eq_getElem hlt⟩, Pv (i + 1), fun σ3 H3 q => ⟨xs.length - (i + 1), by omega, rfl, hlt, q⟩, ?_⟩
  rintro v H' ⟨a, x, ha, rfl, rfl, hx⟩
  exact i_unp2 (SqT.of upd_same) (hs i x σ1 _ (hx _ hp1) (hw _ _ _ _ _ s1 ha))
 ·have e : i = xs.length := by omega
  subst e
  exact .inl ⟨⟨xs, hp1, Nat.le_refl _⟩, hd σ1 H1 s1⟩
theorem j_in {p : Addr} {x : V} {xs : List V} (c : SqL K H p xs) (f1 : flatV x = true) (f2 : xs.all flatV = true) (h : QB (inV x xs) H) : rB (rCmp K .In) x (.ref p) H QB := by
 cases x <;> first | exact ⟨p, xs, rfl, .inl c, f1, f2, h⟩ | cases f1
theorem i_in {p : Addr} {x : V} {xs : List V} (c : SqL K H p xs) (f1 : flatV x = true) (f2 : xs.all flatV = true) (h : Q (.bl (inV x xs)) H) : rCmp K .In x (.ref p) H Q := by
 cases x <;> first | exact ⟨p, xs, rfl, .inl c, f1, f2, h⟩ | cases f1
theorem i_reverse {ho : a.s ≠ .zc} (h : a.t E σ H fun x H1 => RL K rReverse (tAs ([] : List (EX K)) E) x σ H1 Q) : (m_reverse a ho).t E σ H Q := h
end
def par (i j : Nat) (a b : EX K) : SX K where
 t := fun E => tPar i j (tAs [a, b] E)
 m := fun C s => match s with
  | .Assign [.Tuple [.Name x px, .Name y py] _ _] (.Tuple [.Name z pz, e] _ _) _ => C.cm && ((C.N[i]? == some x && C.N[j]? == some y) && ((C.nm.lookup x == some .local && C.nm.lookup y == some .local) && ((decide (i ≠ j) && (px.line == py.line && !(z == ("__debug__" : Str)))) && mAs [a, b] C [.Name z pz, e])))
  | _ => false
 q := fun R => qAs [a, b] R
 ok := fun X C E s hK G hE hq hm => by
  subst hK
  split at hm
  ·rename_i x px y py kt pt z pz e k2 pt2 pos
   simp only [Bool.and_eq_true, Bool.not_eq_true'] at hm
   obtain ⟨h0, ⟨h1, h2⟩, ⟨h3, h4⟩, ⟨h5, h6, h7⟩, h8⟩ := hm
   have hij := of_decide_eq_true h5
   have ei : X.N[i]? = some x := by rw [G.N]; exact eq_of_beq h1
   have ej : X.N[j]? = some y := by rw [G.N]; exact eq_of_beq h2
   have kx : X.env.scope.names.lookup x = some .local := by rw [G.nm]; exact eq_of_beq h3
   have ky : X.env.scope.names.lookup y = some .local := by rw [G.nm]; exact eq_of_beq h4
   have nd : X.N.Nodup := by rw [G.N]; exact G.nd
   have nxy : x ≠ y := fun q => by
    subst q
    exact hij ((List.getElem?_inj (List.getElem?_eq_some_iff.mp ei).1 nd).mp (ei.trans ej.symm))
   intro pins s σ H D I h
   have kind : X.env.blockKind = .function := by
    unfold Env.blockKind
    rw [I.ok.kind]
    rfl
   have hb := b.sok C e (mAs_cons (mAs_cons h8).2).1
   have l2 : (px.line == py.line) = true := h6
   have l3 : (py.line == px.line) = true := by rw [eq_of_beq h6]; exact beq_self_eq_true _
   refine ps_par (G.calm h0) nd ei ej hij kx ky (as_ok G hE [a, b] [.Name z pz, e] hq h8) ?_ rfl pins s σ H D I h
   have l4 := eq_of_beq l3
   have e2 : (y == x) = false := by rw [beq_eq_false_iff_ne]; exact fun q => nxy q.symm
   unfold swappedStores
   simp [kind, Env.kindOf, kx, ky, l4, Expr.pos, List.eraseDups, nxy, foldedForSure, constantsAlone, h7]
   rw [if_neg (by cases e with | Starred _ _ => exact absurd hb (by intro z; cases z) | _ => exact Bool.false_ne_true)]
   rw [if_pos (by simp [List.eraseDupsBy, List.eraseDupsBy.loop, e2])]
  ·cases hm
theorem i_par {E : XS} {σ : St} {H : Hp} {D : Ends} {i j : Nat} {a b : EX K} (h : tAs [a, b] E σ H fun vs H1 => ∃ v w, vs = [v, w] /\ D.nx ((σ.set i (some v)).set j (some w)) H1) : (par i j a b).t E D σ H := h
end
end L2.Na
namespace L2.Na
open PySem PySem.Spec PyProof.Rows L2 L2.L3
section
variable {K : Fg}
theorem atI_ints {ns : List Int} {k : Int} (h0 : 0 <= k) (h : k < ns.length) : ∃ v : Int, atI (ns.map V.int) k = some (.int v) := by
 have hk : k.toNat < ns.length := by omega
 have ek : k = ((k.toNat : Nat) : Int) := by omega
 have z : atI (ns.map V.int) ((k.toNat : Nat) : Int) = some (.int ns[k.toNat]) := atI_nat (by rw [List.getElem?_map, List.getElem?_eq_getElem hk] <;> rfl)
 rw [<- ek] at z
 exact ⟨_, z⟩
abbrev abcd : Str := Str.ofString "abcd"
theorem abcd_len : abcd.length = 4 := by decide +kernel
theorem abcd_cps : abcd.cps.toList = [97, 98, 99, 100] := by decide +kernel
theorem small {n : Nat} (h : n <= 1000000) : n <= sizeLine := Nat.le_trans h (by rw [sizeLine_eq]; decide)
theorem abcd_at {r m : Int} (h0 : 0 <= r) (hm : r < m) (h4 : m <= 4) : atI abcd.cps.toList r = some (97 + r.toNat) := by
 have : r = 0 \/ r = 1 \/ r = 2 \/ r = 3 := by omega
 rw [abcd_cps]
 rcases this with rfl | rfl | rfl | rfl <;> rfl
structure Rl (K : Fg) (H : Hp) (a : Addr) (ws : List Str) (most : Nat) : Prop where
 tp : H a = some (.tup (ws.map V.str))
 pos : 1 <= ws.length
 four : ws.length <= 4
 isw : ∀ w ∈ ws, IsW ws.length w
 one : ∀ w ∈ ws, 1 <= w.length
 le : ∀ w ∈ ws, w.length <= most
theorem Same.seqT {H H' : Hp} {a : Addr} {xs : List V} (e : Same H H') (h : SqT K H a xs) : SqT K H' a xs := by
 rcases h with (h | ⟨o, h⟩) | h
 ·exact .inl (.inl (e _ _ h))
 ·exact .inl (.inr ⟨o, e _ _ h⟩)
 ·exact .inr h
theorem same_upd {H0 H : Hp} {p : Addr} {o : HO} (e : Same H0 H) (hp : H0 p = none) : Same H0 (upd H p o) := fun b u q => by rw [upd_ne (ne_of_none q hp)]; exact e b u q
theorem IsW.to {m : Nat} {z : Str} {k : Int} (h : IsW m z) (h0 : 0 <= k) : IsW m (Txt.slice z none (some k)) := h.of_ls fun c hc => by
 rw [show ls (Txt.slice z none (some k)) = (ls z).take k.toNat from slice_to h0] at hc
 exact List.mem_of_mem_take hc
theorem IsW.from {m : Nat} {z : Str} {k : Int} (h : IsW m z) (h0 : 0 <= k) (h1 : k <= z.length) : IsW m (Txt.slice z (some k) none) := h.of_ls fun c hc => by
 rw [show ls (Txt.slice z (some k) none) = (ls z).drop k.toNat from slice_from h0 h1] at hc
 exact List.mem_of_mem_drop hc
end
end L2.Na
namespace L2.Na
open PySem PySem.Spec PyProof.Rows L2 L2.L3
section
variable {K : Fg}
def known (m : Int) : Str := Txt.slice abcd none (some m)
theorem ls_known {m : Int} (h0 : 0 <= m) (h4 : m <= 4) : ls (known m) = (List.range m.toNat).map (97 + ·) := by
 unfold known
 rw [show ls (Txt.slice abcd none (some m)) = abcd.cps.toList.take m.toNat from slice_to h0, abcd_cps]
 have : m = 0 \/ m = 1 \/ m = 2 \/ m = 3 \/ m = 4 := by omega
 rcases this with rfl | rfl | rfl | rfl | rfl <;> rfl
theorem known_len {m : Int} (h0 : 0 <= m) (h4 : m <= 4) : (known m).length = m.toNat := by rw [<- ls_len, ls_known h0 h4, List.length_map, List.length_range]
theorem known_at {m : Int} (h0 : 0 <= m) (h4 : m <= 4) {k : Nat} (hk : k < m.toNat) : (known m).cps.toList[k]? = some (97 + k) := by
 rw [show (known m).cps.toList = ls (known m) from rfl, ls_known h0 h4, List.getElem?_map, List.getElem?_range hk]
 rfl
def sp_letters (K : Fg) : Sp := fun vs H Q _ => ∃ m : Int, vs = [.int m] /\ Q (.str (known m)) H
def b_letters (K : Fg) : List (SX K) :=
 [ret (slc (glb "LETTERS" (.str "abcd")) none (some (var 0)))]
theorem l_letters : ∀ vs H Q E, sp_letters K vs H Q E -> vs.length = 1 := by
 rintro vs H Q E ⟨_, rfl, _⟩
 rfl
theorem t_letters (vs : List V) (H : Hp) (Q : VK) (E : XK) (h : sp_letters K vs H Q E) : tSs (b_letters K) (fun _ => E) { nx := fun _ H' => Q .non H', rt := Q } (start ["many"] vs) H := by
 obtain ⟨m, rfl, q⟩ := h
 unfold b_letters
 walk_at "go"
 exact i_slS (by rw [abcd_len]; decide) q
def WB (H : Hp) (d : Addr) (ws : List Str) : Prop := ∃ kvs, H d = some (.dK kvs) /\ (∀ k w, ws[k]? = some w -> valV kvs (.inr ⟨#[97 + k]⟩) = some (.str w)) /\ ∀ c, ¬ (97 <= c /\ c < 97 + ws.length) -> valV kvs (.inr ⟨#[c]⟩) = none
theorem WB.same {H H' : Hp} {d : Addr} {ws : List Str} (h : WB H d ws) (e : Same H H') : WB H' d ws := by
 obtain ⟨kvs, h1, h2, h3⟩ := h
 exact ⟨kvs, e _ _ h1, h2, h3⟩
theorem WB.get {H : Hp} {d : Addr} {ws : List Str} (h : WB H d ws) {c : Nat} {w : Str} (hc : 97 <= c) (hw : ws[c - 97]? = some w) : DGet H d (sgn c) (some (.str w)) := by
 obtain ⟨kvs, h1, h2, _⟩ := h
 have e := h2 (c - 97) w hw
 have : 97 + (c - 97) = c := by omega
 rw [this] at e
 rw [<- e]
 exact DGet.k (k := .inr ⟨#[c]⟩) h1
structure Rt4 (K : Fg) (H : Hp) (a : Addr) (ws : List Str) : Prop where
 tp : SqT K H a (ws.map V.str)
 pos : 1 <= ws.length
 four : ws.length <= 4
theorem Rt4.same {H H' : Hp} {a : Addr} {ws : List Str} (h : Rt4 K H a ws) (e : Same H H') : Rt4 K H' a ws := ⟨Same.seqT e h.tp, h.pos, h.four⟩
def sp_words_by_letter (K : Fg) : Sp := fun vs H Q _ => ∃ (a : Addr) (ws : List Str), vs = [.ref a] /\ Rt4 K H a ws /\ ∀ d H', Same H H' -> H d = none -> WB H' d ws -> Q (.ref d) H'
def b_words_by_letter (K : Fg) : List (SX K) :=
 [ret (dzip (call "letters" (sp_letters K) [len (var 0)]) (var 0))]
theorem zkey_known {m : Int} (h0 : 0 <= m) (h4 : m <= 4) {k : Nat} (hk : k < m.toNat) : zkey (known m) k = .inr ⟨#[97 + k]⟩ := by
 unfold zkey
 rw [StrLaws.getD_of_getElem? (known_at h0 h4 hk)]
theorem sgn_inj {c d : Nat} (h : (Sum.inr ⟨#[c]⟩ : Key) = .inr ⟨#[d]⟩) : c = d := by
 have e2 : (⟨#[c]⟩ : Str) = ⟨#[d]⟩ := Sum.inr.inj h
 have e3 := congrArg ls e2
 simp [ls] at e3
 exact e3
theorem l_words_by_letter : ∀ vs H Q E, sp_words_by_letter K vs H Q E -> vs.length = 1 := by
 rintro vs H Q E ⟨_, _, rfl, _⟩
 rfl
theorem t_words_by_letter (vs : List V) (H : Hp) (Q : VK) (E : XK) (h : sp_words_by_letter K vs H Q E) : tSs (b_words_by_letter K) (fun _ => E) { nx := fun _ H' => Q .non H', rt := Q } (start ["rule"] vs) H := by
 obtain ⟨a, ws, rfl, hR, q⟩ := h
 have h4 := hR.four
 have hq := hR.tp
 have hlen : (ws.map V.str).length = ws.length := List.length_map _
 unfold b_words_by_letter
 walk_at "go"
 refine ⟨_, rfl, ?_⟩
 walk_at "go"
 have k0 : (0 : Int) <= ((ws.map V.str).length : Nat) := by omega
 have k4 : (((ws.map V.str).length : Nat) : Int) <= 4 := by omega
 have hkl : (known ((ws.map V.str).length : Nat)).cps.size = ws.length := by
  show (known ((ws.map V.str).length : Nat)).length = _
  rw [known_len k0 k4]; omega
 have hinj : ∀ i j, i < (known ((ws.map V.str).length : Nat)).cps.size -> j < (known ((ws.map V.str).length : Nat)).cps.size -> zkey (known ((ws.map V.str).length : Nat)) i = zkey (known ((ws.map V.str).length : Nat)) j -> i = j := fun i j hi hj e => by
  rw [hkl] at hi hj
  rw [zkey_known k0 k4 (by omega), zkey_known k0 k4 (by omega)] at e
  have := sgn_inj e
  omega
 refine ⟨_, _, ws.map V.str, rfl, .inl hq, by rw [hkl, hlen], by rw [hkl]; omega, ?_, hinj, fun d hd => ?_⟩
 ·rw [Array.all_eq_true']
  intro c hc
  have hc' : c ∈ ls (known ((ws.map V.str).length : Nat)) := by simpa [ls] using hc
  rw [ls_known k0 k4] at hc'
  obtain ⟨k, hk, rfl⟩ := List.mem_map.mp hc'
  have := List.mem_range.mp hk
  simp
  omega
 refine q d _ (same_new hd _) hd ⟨_, upd_same, fun k w hw => ?_, fun c hc => ?_⟩
 ·have hl : k < ws.length := (List.getElem?_eq_some_iff.mp hw).1
  unfold zipKV
  rw [<- zkey_known k0 k4 (show k < (((ws.map V.str).length : Nat) : Int).toNat by omega), val_range hinj (by rw [hkl]; exact hl), List.getElem?_map, hw]
  rfl
 ·unfold zipKV valV
  rw [List.find?_map]
  have e : (List.range (known ((ws.map V.str).length : Nat)).cps.size).find? ((fun kv : Key × V => decide (kv.1 = .inr ⟨#[c]⟩)) ∘ fun i => (zkey (known ((ws.map V.str).length : Nat)) i, (ws.map V.str)[i]?.getD .non)) = none := by
   refine List.find?_eq_none.mpr fun i hi z => hc ?_
   have hi' := List.mem_range.mp hi
   rw [hkl] at hi'
   have z1 : zkey (known ((ws.map V.str).length : Nat)) i = .inr ⟨#[c]⟩ := of_decide_eq_true z
   rw [zkey_known k0 k4 (by omega)] at z1
   have := sgn_inj z1
   omega
  rw [e]
  rfl
def sp_put (K : Fg) : Sp := fun vs H Q _ => ∃ (a : Addr) (ws : List Str) (z : Str), vs = [.ref a, .str z] /\ Rt4 K H a ws /\ (∀ w ∈ ws, w.length <= 100) /\ IsW ws.length z /\ z.length <= 100000 /\ ∀ H', Same H H' -> Q (.str (img ws z)) H'
def b_put (K : Fg) : List (SX K) :=
 [set 2 (call "words_by_letter" (sp_words_by_letter K) [var 0]),
  ret (m_join (cst (.str "")) (comp (ix (var 1) (var 0)) (nam 0) (iSeq (var 1)) ["sign"] ["word_for"] [2]))]
theorem l_put : ∀ vs H Q E, sp_put K vs H Q E -> vs.length = 2 := by
 rintro vs H Q E ⟨_, _, _, rfl, _⟩
 rfl
theorem t_put (vs : List V) (H : Hp) (Q : VK) (E : XK) (h : sp_put K vs H Q E) : tSs (b_put K) (fun _ => E) { nx := fun _ H' => Q .non H', rt := Q } (start ["rule", "word", "word_for"] vs) H := by
 obtain ⟨a, ws, z, rfl, hR, hle, hz, hzl, q⟩ := h
 unfold b_put
 walk_at "go"
 refine ⟨a, ws, rfl, hR, fun d H1 hS1 _ hd => ?_⟩
 walk_at "go"
 intro D hD
 refine comp_str (fun c => .str (mkS (wd ws c))) hD (small (by omega)) (fun i c H2 Q' hc hS2 fin => ?_) fun H2 hS2 hO => ?_
 ·have hcw := hz c (List.mem_of_getElem? hc)
  have hl : c - 97 < ws.length := by omega
  walk_at "go"
  have e : mkS (wd ws c) = ws[c - 97] := by
   unfold wd
   rw [List.getElem?_eq_getElem hl]
   exact mk_ls _
  have f2 := fin H2 (Same.refl _)
  rw [e] at f2
  exact i_ixD ((hd.same hS2).get hcw.1 (List.getElem?_eq_getElem hl)) f2
 ·walk_at "go"
  have hb : (((ls z).map fun c => mkS (wd ws c)).map (·.length)).sum <= 100000 * 100 := by
   refine Nat.le_trans (sum_le (B := 100) fun x hx => ?_) (by rw [List.length_map, List.length_map, ls_len]; exact Nat.mul_le_mul_right _ hzl)
   obtain ⟨y, hy, rfl⟩ := List.mem_map.mp hx
   obtain ⟨c, hc, rfl⟩ := List.mem_map.mp hy
   have hcw := hz c hc
   have hl : c - 97 < ws.length := by omega
   rw [mk_len]
   unfold wd
   rw [List.getElem?_eq_getElem hl]
   show (ls ws[c - 97]).length <= 100
   rw [ls_len]
   exact hle _ (List.getElem_mem hl)
  refine ⟨(ls z).map fun c => mkS (wd ws c), .inl ?_, ?_, ?_⟩
  ·rw [hO, List.map_map]; rfl
  ·have e : (Str.ofString "").length = 0 := by decide +kernel
   rw [e]
   omega
  ·have e : Txt.join (Str.ofString "") ((ls z).map fun c => mkS (wd ws c)) = img ws z := ls_inj (by
    rw [ls_join0, ls_img, List.map_map, List.flatMap_def]
    congr 1)
   rw [e]
   exact q H2 (hS1.trans hS2)
end
end L2.Na
namespace L2.Na
open PySem
end L2.Na
namespace L2.Na
open PySem PySem.Spec PyProof.Rows L2 L2.L3
section
variable {K : Fg}
end
end L2.Na
namespace L2.Na
open PySem PySem.Spec PyProof.Rows L2 L2.L3
section
variable {K : Fg}
instance (m : Nat) (z : Str) : Decidable (IsW m z) := by unfold IsW; infer_instance
def strOf : V -> Str
 | .str z => z
 | _ => ⟨#[]⟩
end
end L2.Na
namespace L2.Na
open PySem PySem.Spec PyProof.Rows L2 L2.L3
section
variable {K : Fg}
theorem kIntI : PySem.W.kitOne K (.type "int") (.type "int") = some true := by kernel_rfl
theorem kIntB : PySem.W.kitOne K (.type "int") (.type "bool") = some false := by kernel_rfl
theorem kTupT : PySem.W.kitOne K (.type "tuple") (.type "tuple") = some true := by kernel_rfl
theorem kLstT : PySem.W.kitOne K (.type "list") (.type "tuple") = some false := by kernel_rfl
theorem kLstL : PySem.W.kitOne K (.type "list") (.type "list") = some true := by kernel_rfl
def sp_law_whole (K : Fg) : Sp := fun vs H Q _ => ∃ i : Int, vs = [.int i] /\ Q (.bl true) H
def b_law_whole (K : Fg) : List (SX K) :=
 [ret (andE (isi (var 0) tyInt) [notE (isi (var 0) tyBool)])]
theorem l_law_whole : ∀ vs H Q E, sp_law_whole K vs H Q E -> vs.length = 1 := by
 rintro vs H Q E ⟨_, rfl, _⟩
 rfl
theorem t_law_whole (vs : List V) (H : Hp) (Q : VK) (E : XK) (h : sp_law_whole K vs H Q E) : tSs (b_law_whole K) (fun _ => E) { nx := fun _ H' => Q .non H', rt := Q } (start ["_law_found"] vs) H := by
 obtain ⟨i, rfl, q⟩ := h
 unfold b_law_whole
 walk_at "go"
 refine ⟨_, _, TyOf.int i, kIntI, ?_⟩
 walk_at "go"
 refine brT ?_
 walk_at "go"
 refine ⟨_, _, TyOf.int i, kIntB, ?_⟩
 walk_at "go"
 exact q
theorem dNon {x : V} (h : x ≠ .non) : decide (x = .non) = false := decide_eq_false h
end
end L2.Na
namespace L2.Na
open PySem
def cnt (z : Str) (k : Nat) : Int := ((ls z).count (97 + k) : Nat)
def cnts (n : Nat) (z : Str) : List Int := (List.range n).map (cnt z)
theorem cnts_len (n : Nat) (z : Str) : (cnts n z).length = n := by unfold cnts; rw [List.length_map, List.length_range]
theorem cnts_get {n : Nat} {z : Str} {k : Nat} (h : k < n) : (cnts n z)[k]? = some (cnt z k) := by unfold cnts; rw [List.getElem?_map, List.getElem?_range h]; rfl
end L2.Na
namespace L2.Na
open PySem PySem.Spec PyProof.Rows L2 L2.L3
section
variable {K : Fg}
def sp_counts (K : Fg) : Sp := fun vs H Q _ => ∃ (z : Str) (m : Int), vs = [.str z, .int m] /\ 0 <= m /\ m <= 4 /\ ∀ r H', Same H H' -> H r = none -> H' r = some (.lst ((cnts m.toNat z).map V.int)) -> Q (.ref r) H'
def b_counts (K : Fg) : List (SX K) :=
 [ret (comp (m_count (var 1) (var 0)) (nam 0) (iSeq (call "letters" (sp_letters K) [var 1])) ["letter"] ["word"] [0])]
theorem l_counts : ∀ vs H Q E, sp_counts K vs H Q E -> vs.length = 2 := by
 rintro vs H Q E ⟨_, _, rfl, _⟩
 rfl
theorem t_counts (vs : List V) (H : Hp) (Q : VK) (E : XK) (h : sp_counts K vs H Q E) : tSs (b_counts K) (fun _ => E) { nx := fun _ H' => Q .non H', rt := Q } (start ["word", "many"] vs) H := by
 obtain ⟨z, m, rfl, h0, h4, q⟩ := h
 unfold b_counts
 walk_at "go"
 refine ⟨m, rfl, ?_⟩
 walk_at "go"
 intro D hD
 refine comp_str (fun c => .int (((ls z).count c : Nat) : Int)) hD (small (by rw [known_len h0 h4]; omega)) (fun i c H1 Q' hc hS fin => ?_) fun H1 hS hO => ?_
 ·walk_at "go"
  exact fin H1 (Same.refl _)
 ·refine q D H1 hS hD ?_
  rw [hO, show (known m).cps.toList = ls (known m) from rfl, ls_known h0 h4, List.map_map]
  unfold cnts
  rw [List.map_map]
  rfl
def TbR (H : Hp) (p : Addr) (rs : List Addr) (rows : List (List Int)) : Prop := H p = some (.lst (rs.map V.ref)) /\ rs.length = rows.length /\ ∀ (i : Nat) (r : Addr) (row : List Int), rs[i]? = some r -> rows[i]? = some row -> H r = some (.lst (row.map V.int))
theorem TbR.same {H H' : Hp} {p : Addr} {rs : List Addr} {rows : List (List Int)} (h : TbR H p rs rows) (e : Same H H') : TbR H' p rs rows := ⟨e _ _ h.1, h.2.1, fun i r row a b => e _ _ (h.2.2 i r row a b)⟩
def rowsOf (ws : List Str) : List (List Int) := ws.map (cnts ws.length)
theorem refs_of : ∀ (ys : List V), (∀ y ∈ ys, ∃ r, y = V.ref r) -> ∃ rs : List Addr, ys = rs.map V.ref
 | [], _ => ⟨[], rfl⟩
 | y :: ys, h => by
  obtain ⟨r, rfl⟩ := h y List.mem_cons_self
  obtain ⟨rs, rfl⟩ := refs_of ys fun y hy => h y (List.mem_cons_of_mem _ hy)
  exact ⟨r :: rs, rfl⟩
def sp_table (K : Fg) : Sp := fun vs H Q _ => ∃ (a : Addr) (ws : List Str), vs = [.ref a] /\ Rt4 K H a ws /\ ∀ p rs H', Same H H' -> H p = none -> (∀ r ∈ rs, H r = none) -> TbR H' p rs (rowsOf ws) -> Q (.ref p) H'
def b_table (K : Fg) : List (SX K) :=
 [ret (comp (call "counts" (sp_counts K) [var 0, len (var 1)]) (nam 0) (iSeq (var 0)) ["word"] ["rule"] [0])]
theorem l_table : ∀ vs H Q E, sp_table K vs H Q E -> vs.length = 1 := by
 rintro vs H Q E ⟨_, _, rfl, _⟩
 rfl
theorem t_table (vs : List V) (H : Hp) (Q : VK) (E : XK) (h : sp_table K vs H Q E) : tSs (b_table K) (fun _ => E) { nx := fun _ H' => Q .non H', rt := Q } (start ["rule"] vs) H := by
 obtain ⟨a, ws, rfl, hR, q⟩ := h
 have h4 := hR.four
 have hlen : (ws.map V.str).length = ws.length := List.length_map _
 unfold b_table
 walk_at "go"
 refine i_itT hR.tp ?_
 intro D hD
 refine comp_tupR (fun i y H1 => ∃ r w, y = .ref r /\ r ≠ D /\ H r = none /\ ws[i]? = some w /\ H1 r = some (.lst ((cnts ws.length w).map V.int))) hR.tp hD (small (by omega)) (fun i y H1 H2 hh => ?_) (fun i x H1 Q' hx hS hDs fin => ?_) fun H1 ys hS hO hl hr => ?_
 ·rintro ⟨r, w, e1, e2, e3, e4, e5⟩
  exact ⟨r, w, e1, e2, e3, e4, hh r _ e2 e5⟩
 ·obtain ⟨w, hw, hw2⟩ : ∃ w, ws[i]? = some w /\ x = .str w := by
   rw [List.getElem?_map] at hx
   cases e : ws[i]? with
   | none => rw [e] at hx; cases hx
   | some w => rw [e] at hx; exact ⟨w, rfl, (Option.some.inj hx).symm⟩
  subst hw2
  have hq1 := Same.seqT hS hR.tp
  walk_at "go"
  refine ⟨w, _, rfl, by omega, by omega, fun r H2 hS2 hr hr2 => ?_⟩
  obtain ⟨o, ho⟩ := hDs
  rw [hlen, Int.toNat_natCast] at hr2
  refine fin (.ref r) H2 hS2 ⟨r, w, rfl, (ne_of_none ho hr).symm, ?_, hw, hr2⟩
  cases e : H r with
  | none => rfl
  | some o => rw [hS _ _ e] at hr; cases hr
 ·obtain ⟨rs, rfl⟩ := refs_of ys fun y hy => by
   obtain ⟨i, hi⟩ := List.getElem?_of_mem hy
   obtain ⟨r, _, e, _⟩ := hr i y hi
   exact ⟨r, e⟩
  have hget : ∀ i r, rs[i]? = some r -> H r = none /\ ∃ w, ws[i]? = some w /\ H1 r = some (.lst ((cnts ws.length w).map V.int)) := fun i r hi => by
   obtain ⟨r', w, e1, _, e3, e4, e5⟩ := hr i (.ref r) (by rw [List.getElem?_map, hi]; rfl)
   cases e1
   exact ⟨e3, w, e4, e5⟩
  refine q D rs H1 hS hD (fun r hm => ?_) ⟨hO, ?_, fun i r row hi hrow => ?_⟩
  ·obtain ⟨i, hi⟩ := List.getElem?_of_mem hm
   exact (hget i r hi).1
  ·unfold rowsOf
   rw [List.length_map, <- hlen, <- hl, List.length_map]
  ·obtain ⟨_, w, e1, e2⟩ := hget i r hi
   unfold rowsOf at hrow
   rw [List.getElem?_map, e1] at hrow
   cases hrow
   exact e2
theorem map_get {xs : List Int} {i : Nat} {x : V} (h : (xs.map V.int)[i]? = some x) : ∃ k, xs[i]? = some k /\ x = .int k := by
 rw [List.getElem?_map] at h
 cases e : xs[i]? with
 | none => rw [e] at h; cases h
 | some k => rw [e] at h; exact ⟨k, rfl, (Option.some.inj h).symm⟩
theorem none_of {H H' : Hp} {r : Addr} (e : Same H H') (h : H' r = none) : H r = none := by
 cases q : H r with
 | none => rfl
 | some o => rw [e _ _ q] at h; cases h
end
end L2.Na
namespace L2.Na
open PySem PySem.Spec PyProof.Rows L2 L2.L3
section
variable {K : Fg}
theorem i_put {E : XS} {σ : St} {H : Hp} {D : Ends} {o i a : EX K} (h : a.t E σ H fun x H1 => o.t E σ H1 fun y H2 => i.t E σ H2 fun z H3 => rPut y z x H3 fun H4 => D.nx σ H4) : (put o i a).t E D σ H := h
theorem i_putL {H : Hp} {Q : Hp -> Prop} {p : Addr} {xs : List V} {k : Nat} {v : V} (e : H p = some (.lst xs)) (hk : k < xs.length) (h : Q (upd H p (.lst (xs.set k v)))) : rPut (.ref p) (.int k) v H Q :=
 .inl ⟨p, xs, k, k, rfl, rfl, e, by unfold ixN; rw [if_pos (by omega), if_pos (by omega)]; simp, h⟩
end
end L2.Na
namespace L2.Na
open PySem
structure Ru (ws : List Str) : Prop where
 pos : 1 <= ws.length
 four : ws.length <= 4
 isw : ∀ w ∈ ws, IsW ws.length w
 one : ∀ w ∈ ws, 1 <= w.length
 le : ∀ w ∈ ws, w.length <= 100
end L2.Na
namespace L2.Na
open PySem PySem.Spec PyProof.Rows L2 L2.L3
def SetX (X : Cx) (p : Addr) (zs : List Str) : Heap -> Prop := fun h => SetS X.prog X.w (byT X.w) h p zs
def rSetX (X : Cx) : List V -> Hp -> VK -> Prop := fun vs H Q => ∃ z : Str, vs = [.str z] /\ z.cps.size + 1 < scanBound /\ ∀ p zs, H p = none -> (∀ y, y ∈ zs ↔ ∃ c ∈ ls z, y = ⟨#[c]⟩) -> zs.Nodup -> Q (.ref p) (upd H p (.ext (SetX X p zs)))
theorem setX_ok (X : Cx) (hc : X.calm = true) : CallR X (.type "set") (rSetX X) := by
 intro pins s σ H xs us Q I r h
 obtain ⟨z, rfl, hb, q⟩ := h
 obtain ⟨u, rfl, ru⟩ := r.one
 obtain ⟨t, rfl⟩ := ru
 refine setS_call (I.ok.hd hc) hb fun h' tk zs hS hm kp => ?_
 have hg : ∃ o, h'.get? s.heap.objs.size = some o := by
  obtain ⟨o, _, _, _, ho, _⟩ := hS
  exact ⟨o, ho⟩
 have nd : zs.Nodup := by
  obtain ⟨_, _, _, _, _, _, _, _, rfl, nd, _⟩ := id hS
  exact nd
 exact ⟨.ref _, _, I.laid (t' := tk) (o := .ext (SetX X s.heap.objs.size zs)) kp (Nat.le_refl _) ⟨hS, hg, fun h1 h2 x k => SetS.keep x k⟩, rfl, q _ zs I.fresh hm nd⟩
def rSrtX (X : Cx) : List V -> Hp -> VK -> Prop := fun vs H Q => ∃ (p : Addr) (zs : List Str), vs = [.ref p] /\ H p = some (.ext (SetX X p zs)) /\ zs.length < 64 /\ ∀ D ss, H D = none -> List.Perm ss zs -> ss.Nodup -> sortedS ss = true -> Q (.ref D) (upd H D (.lst (ss.map V.str)))
theorem vals_of_strs : ∀ {vs : List Value} {ss : List Str}, StrsAre vs ss -> Vals (ss.map V.str) vs
 | _, _, .nil => .nil
 | _, _, .cons x t h => .cons ⟨t, rfl⟩ (vals_of_strs h)
theorem srtX_ok (X : Cx) (hc : X.calm = true) : CallR X (.builtin "sorted") (rSrtX X) := by
 intro pins s σ H xs us Q I r h
 obtain ⟨p, zs, rfl, hp, h64, q⟩ := h
 obtain ⟨u, rfl, ru⟩ := r.one
 obtain rfl : u = Value.ref p := ru
 have hS : SetS X.prog X.w (byT X.w) s.heap p zs := (show ObjOk X.prog X.w H s.heap p (.ext (SetX X p zs)) from I.hok p _ hp).1
 have nd : zs.Nodup := by
  obtain ⟨_, _, _, _, _, _, _, _, rfl, nd, _⟩ := hS
  exact nd
 refine setS_sorted (I.ok.hd hc) hS h64 fun s' D vs ss e kp le hD hs pm st eg eo => ?_
 obtain ⟨h', g', d', tk', os'⟩ := s'
 have eg' : g' = s.gens := eg
 have eo' : os' = s.os := eo
 subst eg' eo'
 have fr : H D = none := I.hok.fresh le
 have hl : ss.length < 64 := by rw [pm.length_eq]; exact h64
 have I1 : Inv X pins σ (upd H D (.lst (ss.map V.str))) { s with heap := h', toks := tk' } := I.laid (t' := tk') (o := .lst (ss.map V.str)) kp le ⟨by rw [List.length_map, sizeLine_eq]; omega, vs, e, vals_of_strs hs, hD⟩
 exact ⟨.ref D, _, ⟨I1.ok, I1.os, I1.bare, I1.base, I1.loc, I1.cell, I1.free, I1.freeC, I1.pin, I1.hok, I1.len⟩, rfl, q D ss fr pm (pm.nodup_iff.mpr nd) st⟩
end L2.Na
namespace L2.Na
open PySem PySem.Spec PyProof.Rows L2 L2.L3
def lets (l : List Nat) : List Nat := [97, 98, 99, 100].filter fun c => decide (c ∈ l)
theorem lets_mem {l : List Nat} (hl : ∀ c ∈ l, 97 <= c /\ c < 101) (c : Nat) : c ∈ lets l ↔ c ∈ l := by
 unfold lets
 rw [List.mem_filter]
 constructor
 ·intro h; exact of_decide_eq_true h.2
 ·intro h
  have := hl c h
  refine ⟨?_, decide_eq_true h⟩
  have : c = 97 \/ c = 98 \/ c = 99 \/ c = 100 := by omega
  rcases this with rfl | rfl | rfl | rfl <;> simp
theorem inc_eq : ∀ {l m : List Nat}, l.Pairwise (· < ·) -> m.Pairwise (· < ·) -> (∀ c, c ∈ l ↔ c ∈ m) -> l = m
 | [], [], _, _, _ => rfl
 | [], c :: m, _, _, h => absurd ((h c).mpr List.mem_cons_self) List.not_mem_nil
 | c :: l, [], _, _, h => absurd ((h c).mp List.mem_cons_self) List.not_mem_nil
 | c :: l, d :: m, hl, hm, h => by
  have h1 := List.pairwise_cons.mp hl
  have h2 := List.pairwise_cons.mp hm
  have e : c = d := by
   rcases List.mem_cons.mp ((h c).mp List.mem_cons_self) with e | e
   ·exact e
   ·rcases List.mem_cons.mp ((h d).mpr List.mem_cons_self) with e' | e'
    ·exact e'.symm
    ·have := h2.1 c e
     have := h1.1 d e'
     omega
  subst e
  rw [inc_eq h1.2 h2.2 fun x => ?_]
  constructor
  ·intro hx
   rcases List.mem_cons.mp ((h x).mp (List.mem_cons_of_mem _ hx)) with e | e
   ·have := h1.1 x hx; omega
   ·exact e
  ·intro hx
   rcases List.mem_cons.mp ((h x).mpr (List.mem_cons_of_mem _ hx)) with e | e
   ·have := h2.1 x hx; omega
   ·exact e
theorem lets_inc (l : List Nat) : (lets l).Pairwise (· < ·) := List.Pairwise.filter _ (by decide)
theorem rising_inc : ∀ (p : Nat) (cs : List Nat), risingS ⟨#[p]⟩ (cs.map fun c => (⟨#[c]⟩ : Str)) = true -> (p :: cs).Nodup -> (p :: cs).Pairwise (· < ·)
 | p, [], _, _ => List.pairwise_cons.mpr ⟨(fun _ h => absurd h List.not_mem_nil), List.Pairwise.nil⟩
 | p, c :: cs, h, nd => by
  have h' : (!ltCps [c] [p] && risingS ⟨#[c]⟩ (cs.map fun c => (⟨#[c]⟩ : Str))) = true := h
  rw [Bool.and_eq_true] at h'
  have n1 := List.nodup_cons.mp nd
  have ih := rising_inc c cs h'.2 n1.2
  have hle : ¬ c < p := fun z => by
   have lt : ltCps [c] [p] = true := by rw [ltCps_eq]; exact decide_eq_true (List.Lex.rel z)
   have h1 := h'.1
   rw [lt] at h1
   cases h1
  have hne : p ≠ c := fun e => n1.1 (by rw [e]; exact List.mem_cons_self)
  refine List.pairwise_cons.mpr ⟨fun x hx => ?_, ih⟩
  rcases List.mem_cons.mp hx with rfl | hx
  ·omega
  ·have := (List.pairwise_cons.mp ih).1 x hx
   omega
theorem srt_letters {ss : List Str} {l : List Nat} (hl : ∀ c ∈ l, 97 <= c /\ c < 101) (hm : ∀ y, y ∈ ss ↔ ∃ c ∈ l, y = ⟨#[c]⟩) (nd : ss.Nodup) (st : sortedS ss = true) : ss = (lets l).map fun c => (⟨#[c]⟩ : Str) := by
 obtain ⟨cs, rfl⟩ : ∃ cs : List Nat, ss = cs.map fun c => (⟨#[c]⟩ : Str) := by
  refine ⟨ss.map fun y => y.cps.toList.headD 0, ?_⟩
  rw [List.map_map]
  conv => lhs; rw [<- List.map_id ss]
  refine List.map_congr_left fun y hy => ?_
  obtain ⟨c, _, rfl⟩ := (hm y).mp hy
  rfl
 have inj : ∀ a b : Nat, (⟨#[a]⟩ : Str) = ⟨#[b]⟩ -> a = b := fun a b e => by
  have e3 := congrArg ls e
  simp [ls] at e3
  exact e3
 have nd' : cs.Nodup := by
  have := List.pairwise_map.mp (show List.Pairwise (· ≠ ·) (cs.map fun c => (⟨#[c]⟩ : Str)) from nd)
  exact this.imp fun h e => h (by rw [e])
 have inc : cs.Pairwise (· < ·) := by
  cases cs with
  | nil => exact List.Pairwise.nil
  | cons p cs => exact rising_inc p cs st nd'
 rw [inc_eq inc (lets_inc l) fun c => ?_]
 rw [lets_mem hl]
 constructor
 ·intro h
  obtain ⟨d, hd, e⟩ := (hm ⟨#[c]⟩).mp (List.mem_map.mpr ⟨c, h, rfl⟩)
  rw [inj _ _ e]; exact hd
 ·intro h
  obtain ⟨d, hd, e⟩ := List.mem_map.mp ((hm ⟨#[c]⟩).mpr ⟨c, h, rfl⟩)
  rw [<- inj _ _ e]; exact hd
theorem few_letters {zs : List Str} {l : List Nat} (hl : ∀ c ∈ l, 97 <= c /\ c < 101) (hm : ∀ y, y ∈ zs ↔ ∃ c ∈ l, y = ⟨#[c]⟩) (nd : zs.Nodup) : zs.length < 64 := by
 have sub : zs ⊆ [97, 98, 99, 100].map fun c => (⟨#[c]⟩ : Str) := fun y hy => by
  obtain ⟨c, hc, rfl⟩ := (hm y).mp hy
  have := hl c hc
  have : c = 97 \/ c = 98 \/ c = 99 \/ c = 100 := by omega
  rcases this with rfl | rfl | rfl | rfl <;> simp
 have : zs.length <= 4 := List.Nodup.length_le_of_subset nd sub
 omega
def rSrtS (x : V) (H : Hp) (Q : VK) : Prop := ∃ z : Str, x = .str z /\ z.length <= 4000 /\ (∀ c ∈ ls z, 97 <= c /\ c < 101) /\ ∀ D H', Same H H' -> H D = none -> H' D = some (.lst ((lets (ls z)).map sgn)) -> Q (.ref D) H'
section
variable {K : Fg}
def mSS (a : EX K) (C : Sc) : Expr -> Bool
 | .Call (.Name y _) [.Call (.Name y2 _) es [] _] [] _ => (C.cm && glB C "sorted" y) && (glB C "set" y2 && mAs [a] C es)
 | _ => false
theorem mSS_is {a : EX K} {C : Sc} {e : Expr} (h : mSS a C e = true) : ∃ y p y2 p2 es q2 q, e = .Call (.Name y p) [.Call (.Name y2 p2) es [] q2] [] q /\ C.cm = true /\ glB C "sorted" y = true /\ glB C "set" y2 = true /\ mAs [a] C es = true := by
 unfold mSS at h
 split at h
 ·simp only [Bool.and_eq_true] at h
  exact ⟨_, _, _, _, _, _, _, rfl, h.1.1, h.1.2, h.2.1, h.2.2⟩
 ·cases h
def rSrtA : List V -> Hp -> VK -> Prop
 | [x], H, Q => rSrtS x H Q
 | _, _, _ => False
def srtS (a : EX K) : EX K := mkE2 (fun E => tCB rSrtA (tAs [a] E)) (mSS a) (fun R => qAs [a] R /\ True) .pl
 (fun X C E e hK G hE hq hm => by
  subst hK
  obtain ⟨y, p, y2, p2, es, q2, q, rfl, hcm, h1, h2, h3⟩ := mSS_is hm
  have e1 := glB_eq h1
  have e2 := glB_eq h2
  subst e1 e2
  obtain ⟨g1, d1⟩ := glB_gl G h1
  obtain ⟨g2, d2⟩ := glB_gl G h2
  have calm := G.calm hcm
  cases es with
  | nil => cases h3
  | cons e0 es =>
   intro pins s σ H Q I h
   have inner : PE X (.Call (.Name "set" p2) (e0 :: es) [] q2) (fun σ H Q2 => tAs [a] E σ H (fun vs H1 => rSrtA vs H1 Q) /\ ∀ vs H1, rSrtA vs H1 Q -> rSetX X vs H1 Q2) := by
    intro pins s σ H Q2 I ⟨k1, k2⟩
    refine wpAny_Call_Name_kw (ld_blt I g2 (G.bl _ (by decide +kernel)) PyProof.Rows.Boot.set ?_ (by decide +kernel) d2)
    exact PyProof.Rows.callWith_type1 (thn (as_ok G hE [a] (e0 :: es) hq.1 h3 q2 pins s σ H _ I k1) fun us s1 ⟨vs, H1, I1, r1, z1⟩ => setX_ok X calm pins s1 σ H1 vs us Q2 I1 r1 (k2 vs H1 z1)) (shp_star (a.sok C e0 (mAs_cons h3).1)) (as_plain [] es (mAs_cons h3).2)
   refine pe_callB (srtX_ok X calm) g1 (G.bl _ (by decide +kernel)) PyProof.Rows.Boot.sorted (pa_cons inner pa_nil) (by decide +kernel) d1 rfl rfl pins s σ H Q I ⟨h, fun vs H1 z1 => ?_⟩
   match vs, z1 with
   | [x], ⟨z, ez, b4, hl, fin⟩ =>
    refine ⟨z, by rw [ez], ?_, fun p zs fr hm nd => ?_⟩
    ·have : z.cps.size = z.length := rfl
     show z.cps.size + 1 < 4096
     omega
    ·refine ⟨p, zs, rfl, upd_same, few_letters hl hm nd, fun D ss frD pm nds st => ?_⟩
     have es' := srt_letters hl (fun y => by rw [pm.mem_iff]; exact hm y) nds st
     have s1 := same_new fr (.ext (SetX X p zs))
     refine fin D _ (s1.trans (same_new frD _)) (none_of s1 frD) ?_
     rw [upd_same, es', List.map_map]
     rfl)
 (fun C e hm => by
  obtain ⟨y, p, y2, p2, es, q2, q, rfl, _⟩ := mSS_is hm
  exact ⟨rfl, rfl⟩)
theorem i_srtS {E : XS} {σ : St} {H : Hp} {Q : VK} {a : EX K} (h : a.t E σ H fun x H1 => rSrtS x H1 Q) : (srtS a).t E σ H Q := h
theorem i_srtSU {H : Hp} {Q : VK} {z : Str} (h1 : z.length <= 4000) (h2 : ∀ c ∈ ls z, 97 <= c /\ c < 101) (h : ∀ D H', Same H H' -> H D = none -> H' D = some (.lst ((lets (ls z)).map sgn)) -> Q (.ref D) H') : rSrtS (.str z) H Q := ⟨z, rfl, h1, h2, h⟩
end
end L2.Na
namespace L2.Na
open PySem PySem.Spec PyProof.Rows L2 L2.L3
section
variable {K : Fg}
end
end L2.Na
namespace L2.Na.Mx
def Rch (R : Nat -> Nat -> Prop) : Nat -> Nat -> Nat -> Prop
 | 0, i, j => i = j
 | k + 1, i, j => ∃ m, R i m /\ Rch R k m j
section
variable {R : Nat -> Nat -> Prop}
theorem Rch.add : ∀ {a b i m j : Nat}, Rch R a i m -> Rch R b m j -> Rch R (a + b) i j
 | 0, b, i, m, j, h, g => by have e : i = m := h; subst e; rw [Nat.zero_add]; exact g
 | a + 1, b, i, m, j, ⟨l, h1, h2⟩, g => by rw [show a + 1 + b = (a + b) + 1 by omega]; exact ⟨l, h1, Rch.add h2 g⟩
theorem Rch.cut : ∀ {a b i j : Nat}, Rch R (a + b) i j -> ∃ m, Rch R a i m /\ Rch R b m j
 | 0, b, i, j, h => ⟨i, rfl, by rw [Nat.zero_add] at h; exact h⟩
 | a + 1, b, i, j, h => by
  rw [show a + 1 + b = (a + b) + 1 by omega] at h
  obtain ⟨l, h1, h2⟩ := h
  obtain ⟨m, h3, h4⟩ := Rch.cut h2
  exact ⟨m, ⟨l, h1, h3⟩, h4⟩
end
section
variable {R : Nat -> Nat -> Prop} {n : Nat}
def Full (R : Nat -> Nat -> Prop) (n k : Nat) : Prop := ∀ i j, i < n -> j < n -> Rch R k i j
end
end L2.Na.Mx
namespace L2.Na.K41
open PySem PySem.Spec PyProof.Rows L2 L2.L3
def Rw (ws : List Str) (i j : Nat) : Prop := ∃ w, ws[i]? = some w /\ 97 + j ∈ ls w
def hs (ws : List Str) : Nat -> Nat -> List Nat
 | 0, i => [97 + i]
 | k + 1, i => lets ((hs ws k i).flatMap (wd ws))
theorem lets_of {ns : List Nat} {c : Nat} (h : c ∈ lets ns) : c ∈ ns /\ 97 <= c /\ c < 101 := by
 unfold lets at h
 rw [List.mem_filter] at h
 refine ⟨of_decide_eq_true h.2, ?_⟩
 have := h.1
 simp at this
 omega
theorem in_lets {ns : List Nat} {c : Nat} (h : c ∈ ns) (h1 : 97 <= c) (h4 : c < 101) : c ∈ lets ns := by
 unfold lets
 rw [List.mem_filter]
 refine ⟨?_, decide_eq_true h⟩
 have : c = 97 \/ c = 98 \/ c = 99 \/ c = 100 := by omega
 rcases this with rfl | rfl | rfl | rfl <;> simp
section
variable {ws : List Str} (hU : Ru ws)
include hU
theorem Rw_lt {i j : Nat} (h : Rw ws i j) : j < ws.length := by
 obtain ⟨w, hw, hj⟩ := h
 have := hU.isw w (List.mem_of_getElem? hw) _ hj
 omega
theorem rch_lt : ∀ {k i j : Nat}, i < ws.length -> Mx.Rch (Rw ws) k i j -> j < ws.length
 | 0, i, j, hi, h => by have e : i = j := h; exact e ▸ hi
 | k + 1, i, j, hi, ⟨m, h1, h2⟩ => rch_lt (Rw_lt hU h1) h2
theorem hs_mem : ∀ (k i c : Nat), i < ws.length -> (c ∈ hs ws k i ↔ 97 <= c /\ Mx.Rch (Rw ws) k i (c - 97))
 | 0, i, c, _ => by
  show c ∈ [97 + i] ↔ 97 <= c /\ i = c - 97
  rw [List.mem_singleton]
  omega
 | k + 1, i, c, hi => by
  have h4 := hU.four
  show c ∈ lets ((hs ws k i).flatMap (wd ws)) ↔ _
  have wdm : ∀ d, 97 <= d -> d - 97 < ws.length -> ∀ e, e ∈ wd ws d ↔ 97 <= e /\ Rw ws (d - 97) (e - 97) := fun d h1 h2 e => by
   unfold wd
   rw [List.getElem?_eq_getElem h2]
   constructor
   ·intro he
    have b := hU.isw _ (List.getElem_mem h2) e he
    exact ⟨b.1, ws[d - 97], List.getElem?_eq_getElem h2, by rw [show 97 + (e - 97) = e by omega]; exact he⟩
   ·rintro ⟨he, w, hw, hm⟩
    rw [List.getElem?_eq_getElem h2] at hw
    cases hw
    rw [show 97 + (e - 97) = e by omega] at hm
    exact hm
  constructor
  ·intro h
   obtain ⟨d, hd, hc⟩ := List.mem_flatMap.mp (lets_of h).1
   obtain ⟨d1, d2⟩ := (hs_mem k i d hi).mp hd
   have dl := rch_lt hU hi d2
   obtain ⟨c1, c2⟩ := (wdm d d1 dl c).mp hc
   exact ⟨c1, Mx.Rch.add d2 (b := 1) ⟨c - 97, c2, rfl⟩⟩
  ·rintro ⟨c1, h⟩
   obtain ⟨m, g1, m2, g2, g3⟩ := Mx.Rch.cut (a := k) (b := 1) h
   have e3 : m2 = c - 97 := g3
   subst e3
   have ml := rch_lt hU hi g1
   have cl := Rw_lt hU g2
   refine in_lets (List.mem_flatMap.mpr ⟨97 + m, (hs_mem k i (97 + m) hi).mpr ⟨by omega, by rw [show 97 + m - 97 = m by omega]; exact g1⟩, (wdm (97 + m) (by omega) (by omega) c).mpr ⟨c1, ?_⟩⟩) c1 (by omega)
   rw [show 97 + m - 97 = m by omega]
   exact g2
omit hU in
theorem hs_inc : ∀ (k i : Nat), (hs ws k i).Pairwise (· < ·)
 | 0, i => List.pairwise_singleton _ _
 | k + 1, i => lets_inc _
theorem hs_full {k : Nat} : (∀ i, i < ws.length -> hs ws k i = (List.range ws.length).map (97 + ·)) ↔ Mx.Full (Rw ws) ws.length k := by
 constructor
 ·intro h i j hi hj
  have z : 97 + j ∈ hs ws k i := by rw [h i hi]; exact List.mem_map.mpr ⟨j, List.mem_range.mpr hj, rfl⟩
  have := ((hs_mem hU k i (97 + j) hi).mp z).2
  rwa [show 97 + j - 97 = j by omega] at this
 ·intro h i hi
  refine inc_eq (hs_inc k i) (List.pairwise_map.mpr (List.pairwise_lt_range.imp fun z => by omega)) fun c => ?_
  rw [hs_mem hU k i c hi]
  constructor
  ·rintro ⟨c1, c2⟩
   exact List.mem_map.mpr ⟨c - 97, List.mem_range.mpr (rch_lt hU hi c2), by omega⟩
  ·intro hc
   obtain ⟨j, hj, rfl⟩ := List.mem_map.mp hc
   exact ⟨by omega, by rw [show 97 + j - 97 = j by omega]; exact h i j hi (List.mem_range.mp hj)⟩
omit hU in
end
def mxB (ws : List Str) : Bool := (List.range ws.length).all fun i => decide (hs ws 10 i = (List.range ws.length).map (97 + ·))
theorem lets_len (l : List Nat) : (lets l).length <= 4 := by
 unfold lets
 exact Nat.le_trans (List.length_filter_le _ _) (by decide)
end L2.Na.K41
namespace L2.Na.K41
open PySem PySem.Spec PyProof.Rows L2 L2.L3
section
variable {K : Fg}
def sp_letters_in (K : Fg) : Sp := fun vs H Q _ => ∃ z : Str, vs = [.str z] /\ z.length <= 4000 /\ (∀ c ∈ ls z, 97 <= c /\ c < 101) /\ ∀ H', Same H H' -> Q (.str (mkS (lets (ls z)))) H'
def b_letters_in (K : Fg) : List (SX K) :=
 [ret (m_join (cst (.str "")) (srtS (var 0)))]
theorem l_letters_in : ∀ vs H Q E, sp_letters_in K vs H Q E -> vs.length = 1 := by
 rintro vs H Q E ⟨_, rfl, _⟩
 rfl
theorem t_letters_in (vs : List V) (H : Hp) (Q : VK) (E : XK) (h : sp_letters_in K vs H Q E) : tSs (b_letters_in K) (fun _ => E) { nx := fun _ H' => Q .non H', rt := Q } (start ["word"] vs) H := by
 obtain ⟨z, rfl, h1, h2, q⟩ := h
 unfold b_letters_in
 walk_at "go"
 refine i_srtS ?_
 walk_at "go"
 refine i_srtSU h1 h2 fun D H1 hS nD hD => ?_
 walk_at "go"
 have l4 := lets_len (ls z)
 have hb : (((lets (ls z)).map fun c => (⟨#[c]⟩ : Str)).map (·.length)).sum <= 4 * 1 := by
  refine Nat.le_trans (sum_le (B := 1) fun x hx => ?_) (by rw [List.length_map, List.length_map]; exact Nat.mul_le_mul_right _ l4)
  obtain ⟨y, hy, rfl⟩ := List.mem_map.mp hx
  obtain ⟨c, _, rfl⟩ := List.mem_map.mp hy
  exact Nat.le_refl _
 refine ⟨(lets (ls z)).map fun c => (⟨#[c]⟩ : Str), .inl ?_, ?_, ?_⟩
 ·rw [hD, List.map_map]; rfl
 ·have e : (Str.ofString "").length = 0 := by decide +kernel
  rw [e]
  omega
 ·have e : Txt.join (Str.ofString "") ((lets (ls z)).map fun c => (⟨#[c]⟩ : Str)) = mkS (lets (ls z)) := ls_inj (by
   rw [ls_join0, ls_mk, List.map_map]
   have : ∀ l : List Nat, (l.map (ls ∘ fun c => (⟨#[c]⟩ : Str))).flatten = l := by
    intro l
    induction l with
    | nil => rfl
    | cons c l ih => rw [List.map_cons, List.flatten_cons, ih]; rfl
   exact this _)
  rw [e]
  exact q H1 hS
def sp_mixes (K : Fg) : Sp := fun vs H Q _ => ∃ (a : Addr) (ws : List Str), vs = [.ref a] /\ Rt4 K H a ws /\ Ru ws /\ ∀ H', Same H H' -> Q (.bl (mxB ws)) H'
def b_mixes (K : Fg) : List (SX K) :=
 [set 1 (call "letters" (sp_letters K) [len (var 0)]),
  set 2 (listS (var 1)),
  forS (nam 3) (iRng (glb "ENOUGH_TURNS" (.int 10)) []) [setC 2 (compC none (call "letters_in" (sp_letters_in K) [call "put" (sp_put K) [var 1, var 0]]) (nam 0) (iSeq (var 2)) ["word"] ["rule"] [0])],
  ret (allE (comp (cmp .Eq (var 0) (var 1)) (nam 0) (iSeq (var 2)) ["word"] ["known"] [1]))]
theorem l_mixes : ∀ vs H Q E, sp_mixes K vs H Q E -> vs.length = 1 := by
 rintro vs H Q E ⟨_, _, rfl, _⟩
 rfl
theorem hs_ok {ws : List Str} (hU : Ru ws) {k i : Nat} (hi : i < ws.length) : (hs ws k i).length <= 4 /\ ∀ c ∈ hs ws k i, 97 <= c /\ c < 97 + ws.length := by
 refine ⟨?_, fun c hc => ?_⟩
 ·cases k with
  | zero => exact (by decide : 1 <= 4)
  | succ k => exact lets_len _
 ·obtain ⟨h1, h2⟩ := (hs_mem hU k i c hi).mp hc
  have := rch_lt hU hi h2
  omega
theorem all_id {α : Type} (f : α -> Bool) : ∀ l : List α, (l.map f).all id = l.all f
 | [] => rfl
 | x :: l => by rw [List.map_cons, List.all_cons, List.all_cons, all_id f l]; rfl
theorem t_mixes (vs : List V) (H : Hp) (Q : VK) (E : XK) (h : sp_mixes K vs H Q E) : tSs (b_mixes K) (fun _ => E) { nx := fun _ H' => Q .non H', rt := Q } (start ["rule", "known", "held", "turn"] vs) H := by
 obtain ⟨a, ws, rfl, hR, hU, q⟩ := h
 have hq := hR.tp
 have h4 := hR.four
 have hlen : (ws.map V.str).length = ws.length := List.length_map _
 have k0 : (0 : Int) <= ((ws.length : Nat) : Int) := by omega
 have k4 : ((ws.length : Nat) : Int) <= 4 := by omega
 unfold b_mixes
 walk_at "go"
 rw [hlen]
 refine ⟨_, rfl, ?_⟩
 walk_at "go"
 refine i_listS ?_
 walk_at "go"
 refine ⟨small (by rw [known_len k0 k4]; omega), fun l nl => ?_⟩
 have hl0 : (upd H l (.lst (sgnV (known ((ws.length : Nat) : Int))))) l = some (.lst ((List.range ws.length).map fun i => V.str (mkS (hs ws 0 i)))) := by
  rw [upd_same]
  have e : sgnV (known ((ws.length : Nat) : Int)) = (List.range ws.length).map fun i => V.str (mkS (hs ws 0 i)) := by
   unfold sgnV
   rw [show (known ((ws.length : Nat) : Int)).cps.toList = ls (known ((ws.length : Nat) : Int)) from rfl, ls_known k0 k4, List.map_map, Int.toNat_natCast]
   rfl
  rw [e]
 have s0 := same_new nl (.lst (sgnV (known ((ws.length : Nat) : Int))))
 revert hl0 s0
 generalize upd H l (.lst (sgnV (known ((ws.length : Nat) : Int)))) = H0
 intro hl0 s0
 walk_at "go"
 refine loop_rng (fun k σ H' => Same H H' /\ ∃ (r : Addr) (a3 : Option V), H' r = some (.lst ((List.range ws.length).map fun i => V.str (mkS (hs ws k i)))) /\ σ = [some (.ref a), some (.str (known ((ws.length : Nat) : Int))), some (.ref r), a3])
  ⟨s0, l, none, hl0, rfl⟩ (fun k σ H' hk hP => ?_) fun σ H' hP => ?_
 ·obtain ⟨hS, r, a3, hr, rfl⟩ := hP
  walk_at "go"
  refine i_itL (SqL.of hr) ?_
  intro D hD
  refine comp_lstI (fun i => V.str (mkS (hs ws (k + 1) i))) (SqL.of hr) hD (small (by rw [List.length_map, List.length_range]; omega)) (fun i x H1 Q' hx hS1 fin => ?_) fun H1 hS1 hO => ?_
  ·have hi : i < ws.length := by
    have := (List.getElem?_eq_some_iff.mp hx).1
    rw [List.length_map, List.length_range] at this
    exact this
   have ex : x = V.str (mkS (hs ws k i)) := by
    rw [List.getElem?_map, List.getElem?_range hi] at hx
    exact (Option.some.inj hx).symm
   subst ex
   obtain ⟨g1, g2⟩ := hs_ok hU (k := k) hi
   have hw : IsW ws.length (mkS (hs ws k i)) := fun c hc => by rw [ls_mk] at hc; exact g2 c hc
   have hwl : (mkS (hs ws k i)).length <= 4 := by rw [mk_len]; exact g1
   walk_at "go"
   refine ⟨a, ws, _, rfl, (hR.same hS).same hS1, hU.le, hw, by omega, fun H2 hS2 => ?_⟩
   walk_at "go"
   have il : (img ws (mkS (hs ws k i))).length <= 4 * 100 := Nat.le_trans (img_le hU.le) (Nat.mul_le_mul_right _ hwl)
   have iw := img_isW (z := mkS (hs ws k i)) hU.isw
   refine ⟨_, rfl, by omega, fun c hc => by have := iw c hc; omega, fun H3 hS3 => ?_⟩
   have := fin H3 (hS2.trans hS3)
   have e : lets (ls (img ws (mkS (hs ws k i)))) = hs ws (k + 1) i := by rw [ls_img, ls_mk]; rfl
   rw [e]
   exact this
  ·refine ⟨hS.trans hS1, D, _, ?_, rfl⟩
   rw [hO, List.length_map, List.length_range]
 ·obtain ⟨hS, r, a3, hr, rfl⟩ := hP
  walk_at "go"
  refine i_itL (SqL.of hr) ?_
  intro D hD
  refine comp_lstI (fun i => V.bl (decide (hs ws 10 i = (List.range ws.length).map (97 + ·)))) (SqL.of hr) hD (small (by rw [List.length_map, List.length_range]; omega)) (fun i x H1 Q' hx hS1 fin => ?_) fun H1 hS1 hO => ?_
  ·have hi : i < ws.length := by
    have := (List.getElem?_eq_some_iff.mp hx).1
    rw [List.length_map, List.length_range] at this
    exact this
   have ex : x = V.str (mkS (hs ws 10 i)) := by
    rw [List.getElem?_map, List.getElem?_range hi] at hx
    exact (Option.some.inj hx).symm
   subst ex
   walk_at "go"
   have := fin H1 (Same.refl _)
   have e : decide (mkS (hs ws 10 i) = known ((ws.length : Nat) : Int)) = decide (hs ws 10 i = (List.range ws.length).map (97 + ·)) := decide_eq_decide.mpr ⟨fun e => by
    have e2 := congrArg ls e
    rw [ls_mk, ls_known k0 k4, Int.toNat_natCast] at e2
    exact e2, fun e => ls_inj (by rw [ls_mk, ls_known k0 k4, Int.toNat_natCast]; exact e)⟩
   rw [e]
   exact this
  ·refine ⟨D, (List.range ws.length).map fun i => decide (hs ws 10 i = (List.range ws.length).map (97 + ·)), rfl, ?_, ?_⟩
   ·rw [hO, List.length_map, List.length_range, List.map_map]
    rfl
   ·have z := q H1 (hS.trans hS1)
    unfold mxB at z
    rw [all_id]
    exact z
end
end L2.Na.K41
namespace L2.Na.K81
open PySem PySem.Spec PyProof.Rows L2 L2.L3
section
variable {K : Fg}
theorem XAt.same {H H' : Hp} {x : V} {D : Addr} {fs : List (Str × V)} (e : Same H H') (h : XAt H x D fs) : XAt H' x D fs := by
 obtain ⟨a, rfl, h⟩ := h
 rcases h with ⟨h, h2⟩ | ⟨d, h, h2⟩
 ·exact ⟨a, rfl, .inl ⟨e _ _ h, h2⟩⟩
 ·exact ⟨a, rfl, .inr ⟨d, e _ _ h, e _ _ h2⟩⟩
structure Ask (K : Fg) (D : Addr) (ts : List Bool) : Prop where
 xf : XF K D
 k0 : PySem.W.kitOne K (.ref D) (.ref (clsAt K "NoRow")) = some (ts[0]?.getD false)
 k1 : PySem.W.kitOne K (.ref D) (.ref (clsAt K "NoRule")) = some (ts[1]?.getD false)
 k2 : PySem.W.kitOne K (.ref D) (.ref (clsAt K "NoStart")) = some (ts[2]?.getD false)
 k3 : PySem.W.kitOne K (.ref D) (.ref (clsAt K "NoPiece")) = some (ts[3]?.getD false)
 k4 : PySem.W.kitOne K (.ref D) (.ref (clsAt K "NotMixed")) = some (ts[4]?.getD false)
 k5 : PySem.W.kitOne K (.ref D) (.ref (clsAt K "NoShares")) = some (ts[5]?.getD false)
 k6 : PySem.W.kitOne K (.ref D) (.ref (clsAt K "TooGreat")) = some (ts[6]?.getD false)
 kv : PySem.W.kitOne K (.ref D) (.type "ValueError") = some true
def sp_law_caught (K : Fg) : Sp := fun vs H Q _ => ∃ (x : V) (D : Addr) (fs : List (Str × V)) (ts : List Bool) (m : V), vs = [x] /\ XAt H x D fs /\ Ask K D ts /\
 ((ts[6]?.getD false = false /\ m = .non) \/ (ts[6]?.getD false = true /\ fs.lookup ("most" : Str) = some m /\ PySem.W.findIn K (.ref D) "most" = some none)) /\
 ∀ p l H', Same H H' -> H' l = some (.lst ([ts[0]?.getD false, ts[1]?.getD false, ts[2]?.getD false, ts[3]?.getD false, ts[4]?.getD false, ts[5]?.getD false, ts[6]?.getD false].map V.bl)) -> H l = none -> H' p = some (.tup [.ref l, m, .bl true]) -> Q (.ref p) H'
def b_law_caught (K : Fg) : List (SX K) :=
 [set 1 (lst [isxH (var 0) (glb "NoRow" (.ref (clsAt K "NoRow"))), isxH (var 0) (glb "NoRule" (.ref (clsAt K "NoRule"))), isxH (var 0) (glb "NoStart" (.ref (clsAt K "NoStart"))), isxH (var 0) (glb "NoPiece" (.ref (clsAt K "NoPiece")))]),
  set 1 (bin .Add (var 1) (lst [isxH (var 0) (glb "NotMixed" (.ref (clsAt K "NotMixed"))), isxH (var 0) (glb "NoShares" (.ref (clsAt K "NoShares"))), isxH (var 0) (glb "TooGreat" (.ref (clsAt K "TooGreat")))])),
  set 2 (cst .non),
  ifS (ix (var 1) (cst (.int 6))) [set 2 (xfl (var 0) "most")] [],
  ret (tup [var 1, var 2, isxH (var 0) tyVE])]
theorem l_law_caught : ∀ vs H Q E, sp_law_caught K vs H Q E -> vs.length = 1 := by
 rintro vs H Q E ⟨_, _, _, _, _, rfl, _⟩
 rfl
theorem t_law_caught (vs : List V) (H : Hp) (Q : VK) (E : XK) (h : sp_law_caught K vs H Q E) : tSs (b_law_caught K) E0 { nx := fun _ H' => Q .non H', rt := Q } (start ["_law_e", "_law_some", "_law_most"] vs) H := by
 obtain ⟨x, D, fs, ts, m, rfl, hX, A, hm, q⟩ := h
 unfold b_law_caught
 walk_at "go"
 refine i_isxH ?_
 walk_at "go"
 refine i_isxX rfl hX A.xf A.k0 ?_
 walk_at "go"
 refine i_isxH ?_
 walk_at "go"
 refine i_isxX rfl hX A.xf A.k1 ?_
 walk_at "go"
 refine i_isxH ?_
 walk_at "go"
 refine i_isxX rfl hX A.xf A.k2 ?_
 walk_at "go"
 refine i_isxH ?_
 walk_at "go"
 refine i_isxX rfl hX A.xf A.k3 ?_
 walk_at "go"
 refine ⟨by show 4 <= sizeLine; decide, fun p np => ?_⟩
 have s1 := same_new np (.lst [V.bl (ts[0]?.getD false), .bl (ts[1]?.getD false), .bl (ts[2]?.getD false), .bl (ts[3]?.getD false)])
 have hX1 := XAt.same s1 hX
 walk_at "go"
 refine i_isxH ?_
 walk_at "go"
 refine i_isxX rfl hX1 A.xf A.k4 ?_
 walk_at "go"
 refine i_isxH ?_
 walk_at "go"
 refine i_isxX rfl hX1 A.xf A.k5 ?_
 walk_at "go"
 refine i_isxH ?_
 walk_at "go"
 refine i_isxX rfl hX1 A.xf A.k6 ?_
 walk_at "go"
 refine ⟨by show 3 <= sizeLine; decide, fun p2 np2 => ?_⟩
 have s2 := same_new np2 (.lst [V.bl (ts[4]?.getD false), .bl (ts[5]?.getD false), .bl (ts[6]?.getD false)])
 refine i_catL (s2 _ _ upd_same) upd_same (by show 7 <= sizeLine; decide) fun l nl => ?_
 have s3 := same_new nl (.lst ([V.bl (ts[0]?.getD false), .bl (ts[1]?.getD false), .bl (ts[2]?.getD false), .bl (ts[3]?.getD false)] ++ [V.bl (ts[4]?.getD false), .bl (ts[5]?.getD false), .bl (ts[6]?.getD false)]))
 have hX3 := XAt.same s3 (XAt.same s2 hX1)
 have hS3 := (s1.trans s2).trans s3
 have hl0 : H l = none := none_of (s1.trans s2) nl
 have hl := (upd_same : (upd (upd (upd H p (.lst [V.bl (ts[0]?.getD false), .bl (ts[1]?.getD false), .bl (ts[2]?.getD false), .bl (ts[3]?.getD false)])) p2 (.lst [V.bl (ts[4]?.getD false), .bl (ts[5]?.getD false), .bl (ts[6]?.getD false)])) l (.lst ([V.bl (ts[0]?.getD false), .bl (ts[1]?.getD false), .bl (ts[2]?.getD false), .bl (ts[3]?.getD false)] ++ [V.bl (ts[4]?.getD false), .bl (ts[5]?.getD false), .bl (ts[6]?.getD false)]))) l = _)
 revert hX3 hS3 hl
 generalize upd (upd (upd H p _) p2 _) l _ = H3
 intro hX3 hS3 hl
 walk_at "go"
 refine i_ixL (v := .bl (ts[6]?.getD false)) (SqL.of hl) rfl ?_
 change br (ts[6]?.getD false) _ _
 have fin : ∀ (m' : V), m' = m -> tSs [ret (tup [var 1, var 2, isxH (var 0) tyVE])] E0 { nx := fun _ H' => Q .non H', rt := Q } [some x, some (.ref l), some m'] H3 := fun m' e => by
  subst e
  walk_at "go"
  refine i_isxH ?_
  walk_at "go"
  refine i_tyVE ?_
  refine i_isxX rfl hX3 A.xf A.kv ?_
  walk_at "go"
  exact ⟨by show 3 <= sizeLine; decide, fun r nr => q r l _ (hS3.trans (same_new nr _)) (same_new nr _ _ _ hl) hl0 upd_same⟩
 rcases hm with ⟨h6, rfl⟩ | ⟨h6, hlk, hfi⟩
 ·rw [h6]
  refine brF ?_
  walk_at "go"
  exact fin _ rfl
 ·rw [h6]
  refine brT ?_
  walk_at "go"
  refine i_xfl ?_
  walk_at "go"
  refine ⟨D, fs, m, hX3, A.xf, hfi, hlk, ?_⟩
  walk_at "go"
  exact fin _ rfl
end
end L2.Na.K81
namespace L2.Na.K81
open PySem PySem.Spec PyProof.Rows L2 L2.L3
section
variable {K : Fg}
def sp_law_raw (K : Fg) : Sp := fun vs H Q _ => ∃ (a : Addr) (ns : List Int) (k : Int), vs = [.ref a, .int k] /\ SqL K H a (ns.map V.int) /\ 0 <= k /\ ∀ v : Int, Q (.int v) H
def b_law_raw (K : Fg) : List (SX K) :=
 [ifS (cmp .Eq (len (var 0)) (cst (.int 0))) [ret (var 1)] [],
  ret (ix (var 0) (bin .Mod (var 1) (len (var 0))))]
theorem l_law_raw : ∀ vs H Q E, sp_law_raw K vs H Q E -> vs.length = 2 := by
 rintro vs H Q E ⟨_, _, _, rfl, _⟩
 rfl
theorem t_law_raw (vs : List V) (H : Hp) (Q : VK) (E : XK) (h : sp_law_raw K vs H Q E) : tSs (b_law_raw K) (fun _ => E) { nx := fun _ H' => Q .non H', rt := Q } (start ["_law_script", "_law_k"] vs) H := by
 obtain ⟨a, ns, k, rfl, hS, h0, q⟩ := h
 have hlen : (ns.map V.int).length = ns.length := List.length_map _
 unfold b_law_raw
 walk_at "go"
 refine br_d (fun c => ?_) fun c => ?_
 ·walk_at "go"
  exact q _
 ·walk_at "go"
  have e1 := Int.emod_nonneg k (show (((ns.map V.int).length : Nat) : Int) ≠ 0 by omega)
  have e2 := Int.emod_lt_of_pos k (show (0 : Int) < ((ns.map V.int).length : Nat) by omega)
  obtain ⟨v, hv⟩ := atI_ints (ns := ns) e1 (by omega)
  refine i_ixL hS hv ?_
  exact q v
def sp_law_mix (K : Fg) : Sp := fun vs H Q _ => ∃ (a : Addr) (ns : List Int) (k : Int), vs = [.ref a, .int k] /\ SqL K H a (ns.map V.int) /\ ns.length <= 63 /\ 0 <= k /\ k <= 1000 /\ ∀ v : Int, 0 <= v -> v < 2147483647 -> Q (.int v) H
def b_law_mix (K : Fg) : List (SX K) :=
 [ifS (cmp .Eq (len (var 0)) (cst (.int 0))) [ret (bin .Mod (bin .Mult (bin .Add (bin .Mult (var 1) (var 1)) (cst (.int 3))) (cst (.int 48271))) (cst (.int 2147483647)))] [],
  set 2 (bin .FloorDiv (var 1) (len (var 0))),
  ret (bin .Mod (bin .Mult (bin .Add (bin .Mod (call "_law_raw" (sp_law_raw K) [var 0, var 1]) (cst (.int 2147483629))) (cst (.int 2))) (bin .Add (cst (.int 48271)) (bin .Mult (bin .Mult (cst (.int 7)) (var 2)) (var 2)))) (cst (.int 2147483647)))]
theorem l_law_mix : ∀ vs H Q E, sp_law_mix K vs H Q E -> vs.length = 2 := by
 rintro vs H Q E ⟨_, _, _, rfl, _⟩
 rfl
theorem t_law_mix (vs : List V) (H : Hp) (Q : VK) (E : XK) (h : sp_law_mix K vs H Q E) : tSs (b_law_mix K) (fun _ => E) { nx := fun _ H' => Q .non H', rt := Q } (start ["_law_script", "_law_k", "_law_turn"] vs) H := by
 obtain ⟨a, ns, k, rfl, hS, h63, h0, h1, q⟩ := h
 have hlen : (ns.map V.int).length = ns.length := List.length_map _
 unfold b_law_mix
 walk_at "go"
 refine br_d (fun c => ?_) fun c => ?_
 ·walk_at "go"
  exact q _ (Int.emod_nonneg _ (by decide)) (Int.emod_lt_of_pos _ (by decide))
 ·walk_at "go"
  have ht : 0 <= k / (((ns.map V.int).length : Nat) : Int) /\ k / (((ns.map V.int).length : Nat) : Int) <= 1000 := ⟨Int.ediv_nonneg h0 (by omega), Int.le_trans (Int.ediv_le_self _ h0) h1⟩
  revert ht
  generalize k / (((ns.map V.int).length : Nat) : Int) = t
  intro ht
  refine ⟨a, ns, k, rfl, hS, h0, fun v => ?_⟩
  walk_at "go"
  exact q _ (Int.emod_nonneg _ (by decide)) (Int.emod_lt_of_pos _ (by decide))
def sp_law_word (K : Fg) : Sp := fun vs H Q _ => ∃ n m s : Int, vs = [.int n, .int m, .int s] /\ 1 <= m /\ m <= 4 /\ 0 <= s /\ s <= 1000 /\ ∀ z : Str, IsW m.toNat z -> z.length = s.toNat -> Q (.str z) H
def b_law_word (K : Fg) : List (SX K) :=
 [set 3 (cst (.str "")),
  forS (nam 4) (iRng (var 2) []) [set 0 (bin .Mod (bin .Mult (bin .Add (bin .Add (var 0) (bin .Mult (cst (.int 7)) (var 4))) (cst (.int 2))) (cst (.int 39373))) (cst (.int 2147483543))),
   set 3 (bin .Add (var 3) (ix (cst (.str "abcd")) (bin .Mod (bin .FloorDiv (var 0) (cst (.int 128))) (var 1))))],
  ret (var 3)]
theorem l_law_word : ∀ vs H Q E, sp_law_word K vs H Q E -> vs.length = 3 := by
 rintro vs H Q E ⟨_, _, _, rfl, _⟩
 rfl
theorem t_law_word (vs : List V) (H : Hp) (Q : VK) (E : XK) (h : sp_law_word K vs H Q E) : tSs (b_law_word K) (fun _ => E) { nx := fun _ H' => Q .non H', rt := Q } (start ["_law_number", "_law_many", "_law_size", "_law_word_here", "_law_k"] vs) H := by
 obtain ⟨n, m, s, rfl, h1, h4, hs0, hs, q⟩ := h
 unfold b_law_word
 walk_at "go"
 refine loop_rng (fun i σ H' => H' = H /\ ∃ (n' : Int) (z : Str) (a4 : Option V), IsW m.toNat z /\ z.length = i /\ σ = [some (.int n'), some (.int m), some (.int s), some (.str z), a4]) ⟨rfl, n, _, none, IsW.nil, by decide +kernel, rfl⟩ (fun i σ H' hi hp => ?_) fun σ H' hp => ?_
 ·obtain ⟨rfl, n', z, a4, hz, hl, rfl⟩ := hp
  walk_at "go"
  refine i_ixS (by rw [abcd_len]; decide) (abcd_at (Int.emod_nonneg _ (by omega)) (Int.emod_lt_of_pos _ (by omega)) h4) ?_
  refine i_addS (small (by show z.length + 1 <= 1000000; omega)) ?_
  refine ⟨rfl, _, _, _, IsW.app hz (IsW.sgn (by omega) ?_), by rw [len_app, hl]; rfl, rfl⟩
  have := Int.emod_lt_of_pos ((n' + 7 * (0 + (i : Nat)) + 2) * 39373 % 2147483543 / 128) (show (0 : Int) < m by omega)
  have := Int.emod_nonneg ((n' + 7 * (0 + (i : Nat)) + 2) * 39373 % 2147483543 / 128) (show m ≠ 0 by omega)
  omega
 ·obtain ⟨rfl, n', z, a4, hz, hl, rfl⟩ := hp
  walk_at "go"
  exact q z hz hl
end
end L2.Na.K81
namespace L2.Na.K82
open PySem PySem.Spec PyProof.Rows L2 L2.L3 L2.Na.Sh
section
variable {K : Fg}
def sp_greatest_divisor (K : Fg) : Sp := fun vs H Q _ => ∃ a b : Nat, vs = [.int (a : Nat), .int (b : Nat)] /\ Q (.int ((Nat.gcd a b : Nat) : Int)) H
def b_greatest_divisor (K : Fg) : List (SX K) :=
 [whS (cmp .Gt (var 1) (cst (.int 0))) [set 2 (bin .Mod (var 0) (var 1)),
   set 0 (var 1),
   set 1 (var 2)],
  ret (var 0)]
theorem l_greatest_divisor : ∀ vs H Q E, sp_greatest_divisor K vs H Q E -> vs.length = 2 := by
 rintro vs H Q E ⟨_, _, rfl, _⟩
 rfl
theorem gcd_turn {a b : Nat} : Nat.gcd b (a % b) = Nat.gcd a b := by
 rw [Nat.gcd_comm b, <- Nat.gcd_rec b a, Nat.gcd_comm]
theorem t_greatest_divisor (vs : List V) (H : Hp) (Q : VK) (E : XK) (h : sp_greatest_divisor K vs H Q E) : tSs (b_greatest_divisor K) (fun _ => E) { nx := fun _ H' => Q .non H', rt := Q } (start ["one", "other", "rest"] vs) H := by
 obtain ⟨a, b, rfl, q⟩ := h
 unfold b_greatest_divisor
 walk_at "go"
 refine loop_wh (fun m σ H1 => H1 = H /\ ∃ (x y : Nat) (r : Option V), σ = [some (.int (x : Nat)), some (.int (y : Nat)), r] /\ m = y /\ Nat.gcd x y = Nat.gcd a b) (m := b) ⟨rfl, a, b, none, rfl, rfl, rfl⟩ ?_
 rintro m σ H1 ⟨rfl, x, y, r, rfl, rfl, hg⟩
 walk_at "go"
 refine br_d (fun c => ?_) fun c => ?_
 ·refine wh_go ?_
  have cy : 0 < m := by omega
  walk_at "go"
  refine ⟨x % m, Nat.mod_lt _ cy, rfl, m, x % m, some (.int ((x % m : Nat) : Int)), ?_, rfl, by rw [gcd_turn]; exact hg⟩
  rw [<- Int.natCast_emod]
  rfl
 ·walk_at "go"
  have e : m = 0 := by omega
  subst e
  rw [Nat.gcd_zero_right] at hg
  rw [hg]
  exact q
def sp_in_lowest_terms (K : Fg) : Sp := fun vs H Q _ => ∃ w t : Nat, vs = [.int (w : Nat), .int (t : Nat)] /\ 0 < w /\ w < 2 ^ 62 /\ ∀ r H', Same H H' -> H r = none -> H' r = some (.tup [.int ((fr t w).1 : Nat), .int ((fr t w).2 : Nat)]) -> Q (.ref r) H'
def b_in_lowest_terms (K : Fg) : List (SX K) :=
 [set 2 (call "greatest_divisor" (sp_greatest_divisor K) [var 0, var 1]),
  ret (tup [bin .FloorDiv (var 0) (var 2), bin .FloorDiv (var 1) (var 2)])]
theorem l_in_lowest_terms : ∀ vs H Q E, sp_in_lowest_terms K vs H Q E -> vs.length = 2 := by
 rintro vs H Q E ⟨_, _, rfl, _⟩
 rfl
theorem t_in_lowest_terms (vs : List V) (H : Hp) (Q : VK) (E : XK) (h : sp_in_lowest_terms K vs H Q E) : tSs (b_in_lowest_terms K) (fun _ => E) { nx := fun _ H' => Q .non H', rt := Q } (start ["top", "bottom", "divisor"] vs) H := by
 obtain ⟨w, t, rfl, hw, hw2, q⟩ := h
 have g0 : 0 < Nat.gcd w t := Nat.gcd_pos_of_pos_left t hw
 have g1 : Nat.gcd w t <= w := Nat.le_of_dvd hw (Nat.gcd_dvd_left w t)
 unfold b_in_lowest_terms
 walk_at "go"
 refine ⟨w, t, rfl, ?_⟩
 walk_at "go"
 refine i_divX ⟨by omega, by omega⟩ ?_
 walk_at "go"
 refine i_divX ⟨by omega, by omega⟩ ?_
 walk_at "go"
 refine ⟨by show 2 <= sizeLine; decide, fun p np => ?_⟩
 refine q p _ (same_new np _) np ?_
 rw [upd_same, <- Int.natCast_ediv, <- Int.natCast_ediv]
 rfl
def fsz (ws : List Str) : Nat := (ws[0]?.getD (⟨#[]⟩ : Str)).length
def osz (ws : List Str) : Bool := decide ((1 : Int) < ((fsz ws : Nat) : Int)) && ws.all fun w => decide (((w.length : Nat) : Int) = ((fsz ws : Nat) : Int))
def sp_of_one_size (K : Fg) : Sp := fun vs H Q _ => ∃ (a : Addr) (ws : List Str), vs = [.ref a] /\ Rt4 K H a ws /\ Ru ws /\ ∀ H', Same H H' -> Q (.bl (osz ws)) H'
def b_of_one_size (K : Fg) : List (SX K) :=
 [set 1 (len (ix (var 0) (cst (.int 0)))),
  ret (andE (cmp .Gt (var 1) (cst (.int 1))) [allE (comp (cmp .Eq (len (var 0)) (var 1)) (nam 0) (iSeq (var 0)) ["word"] ["size"] [1])])]
theorem l_of_one_size : ∀ vs H Q E, sp_of_one_size K vs H Q E -> vs.length = 1 := by
 rintro vs H Q E ⟨_, _, rfl, _⟩
 rfl
theorem first_at {ws : List Str} (h : 1 <= ws.length) : ∃ w0, ws[0]? = some w0 /\ fsz ws = w0.length /\ atI (ws.map V.str) 0 = some (.str w0) /\ w0 ∈ ws := by
 refine ⟨ws[0], List.getElem?_eq_getElem (by omega), ?_, ?_, List.getElem_mem _⟩
 ·unfold fsz
  rw [List.getElem?_eq_getElem (show 0 < ws.length by omega)]
  rfl
 ·exact atI_nat (j := 0) (by rw [List.getElem?_map, List.getElem?_eq_getElem (show 0 < ws.length by omega)]; rfl)
theorem t_of_one_size (vs : List V) (H : Hp) (Q : VK) (E : XK) (h : sp_of_one_size K vs H Q E) : tSs (b_of_one_size K) (fun _ => E) { nx := fun _ H' => Q .non H', rt := Q } (start ["rule", "size"] vs) H := by
 obtain ⟨a, ws, rfl, hR, hU, q⟩ := h
 have h1 := hR.pos
 have h4 := hR.four
 obtain ⟨w0, hw0, hf, ha, hm⟩ := first_at h1
 have l0 := hU.le w0 hm
 unfold osz at q
 rw [hf] at q
 unfold b_of_one_size
 walk_at "go"
 refine i_ixT (v := .str w0) hR.tp ha ?_
 refine i_lenS (small (by omega)) ?_
 walk_at "go"
 cases e : decide ((1 : Int) < ((w0.length : Nat) : Int)) with
 | false =>
  rw [e] at q
  refine brF ?_
  walk_at "go"
  exact q H (Same.refl _)
 | true =>
  rw [e] at q
  refine brT ?_
  walk_at "go"
  refine i_itT hR.tp ?_
  intro D hD
  refine comp_tup (fun x => match x with | .str w => .bl (decide (((w.length : Nat) : Int) = ((w0.length : Nat) : Int))) | _ => .non) hR.tp hD (small (by rw [List.length_map]; omega)) (fun i x H1 Q' hx hS fin => ?_) fun H1 hS hO => ?_
  ·obtain ⟨w, hw, rfl⟩ := List.mem_map.mp (List.mem_of_getElem? hx)
   have lw := hU.le w hw
   walk_at "go"
   refine i_lenS (small (by omega)) ?_
   walk_at "go"
   exact fin H1 (Same.refl _)
  ·refine ⟨D, ws.map fun w => decide (((w.length : Nat) : Int) = ((w0.length : Nat) : Int)), rfl, by rw [hO, List.map_map, List.map_map]; rfl, ?_⟩
   rw [List.all_map]
   exact q H1 hS
end
end L2.Na.K82
namespace L2.Na.K82
open PySem PySem.Spec PyProof.Rows L2 L2.L3 L2.Na.Sh
theorem dl_map {α β : Type} (f : α -> β) (k : Nat) (l : List α) : dlt k (l.map f) = (dlt k l).map f := by
 unfold dlt
 rw [List.map_append, List.map_take, List.map_drop]
theorem dl_get {α : Type} {k i : Nat} {l : List α} (h : k < l.length) : (dlt k l)[i]? = if i < k then l[i]? else l[i + 1]? := by
 unfold dlt
 by_cases c : i < k
 ·rw [if_pos c, List.getElem?_append_left (by rw [List.length_take]; omega), List.getElem?_take, if_pos c]
 ·rw [if_neg c, List.getElem?_append_right (by rw [List.length_take]; omega), List.length_take, List.getElem?_drop]
  congr 1
  omega
section
variable {K : Fg} {E : XS} {σ : St} {H : Hp} {Q : VK}
theorem cat_dl {i j k : Nat} {p : Addr} {xs : List V} (e1 : σ[i]? = some (some (.ref p))) (e2 : σ[j]? = some (some (.int (k : Nat)))) (hp : H p = some (.lst xs)) (hk : k < xs.length) (hz : xs.length <= 1000)
  (q : ∀ r H', Same H H' -> H r = none -> H' r = some (.lst (dlt k xs)) -> Q (.ref r) H') :
  (bin .Add (slc (var i) none (some (var j))) (slc (var i) (some (bin .Add (var j) (cst (.int 1)))) none) : EX K).t E σ H Q := by
 refine i_bin ?_
 refine i_slc ?_
 refine i_var e1 ?_
 refine i_o0 ?_
 refine i_o1 ?_
 refine i_var e2 ?_
 refine i_rO ?_
 refine i_slL (SqL.of hp) fun p1 n1 => ?_
 have s1 := same_new n1 (.lst (cutV xs none (some ((k : Nat) : Int))))
 refine i_slc ?_
 refine i_var e1 ?_
 refine i_o1 ?_
 refine i_bin ?_
 refine i_var e2 ?_
 refine i_cst ?_
 refine i_add ?_
 refine i_rO ?_
 refine i_o0 ?_
 refine i_slL (SqL.of (s1 _ _ hp)) fun p2 n2 => ?_
 rw [show ((k : Nat) : Int) + 1 = ((k + 1 : Nat) : Int) by omega, cut_to (by omega), cut_from (by omega)]
 have s1 := same_new n1 (.lst (xs.take k))
 rw [cut_to (by omega)] at n2
 have s2 := same_new n2 (.lst (xs.drop (k + 1)))
 refine i_catL (s2 _ _ upd_same) upd_same (by rw [List.length_take, List.length_drop]; exact small (by omega)) fun r nr => ?_
 exact q r _ ((s1.trans s2).trans (same_new nr _)) (none_of (s1.trans s2) nr) upd_same
theorem tb_map {p D : Addr} {rs : List Addr} {rows : List (List Int)} {te : TE} {is : List Nat} (f : List Int -> List Int) (hT : TbR H p rs rows) (hD : H D = none) (hz : rows.length <= 1000)
  (step : ∀ r row H1 Q', row ∈ rows -> H1 r = some (.lst (row.map V.int)) -> Same H H1 -> (∀ y H3, Same H1 H3 -> H1 y = none -> H3 y = some (.lst ((f row).map V.int)) -> Q' (.ref y) H3) -> te (some (.ref r) :: capV is σ) H1 Q')
  (fin : ∀ H1 rs', Same H H1 -> TbR H1 D rs' (rows.map f) -> Q (.ref D) H1) : CompBodyI (Itl K p) (nam 0 : TX K).g (cT (none : Option (EX K))) te 1 is σ D H Q := by
 have hl : (rs.map V.ref).length = rows.length := by rw [List.length_map]; exact hT.2.1
 refine comp_rel (yl_list (xs := rs.map V.ref)) (fun i y H1 => ∃ r row, y = .ref r /\ r ≠ D /\ rows[i]? = some row /\ H1 r = some (.lst ((f row).map V.int))) hD (fun H1 hS => SqL.of (hS _ _ hT.1)) (small (by omega)) (fun i y H1 H2 hh => ?_) (fun i x H1 Q' hx hS hDs fin => ?_) fun H1 ys hS hO hl2 hr => ?_
 ·rintro ⟨r, w, e1, e2, e3, e4⟩
  exact ⟨r, w, e1, e2, e3, hh r _ e2 e4⟩
 ·rw [List.getElem?_map] at hx
  cases e : rs[i]? with
  | none => rw [e] at hx; cases hx
  | some r =>
   rw [e] at hx
   cases hx
   have hi : i < rows.length := by have := (List.getElem?_eq_some_iff.mp e).1; have := hT.2.1; omega
   have hrow := List.getElem?_eq_getElem hi
   refine step r rows[i] H1 _ (List.getElem_mem hi) (hS _ _ (hT.2.2 i r _ e hrow)) hS fun y H3 s3 ny hy => ?_
   obtain ⟨o, ho⟩ := hDs
   exact fin (.ref y) H3 s3 ⟨y, rows[i], rfl, (ne_of_none ho ny).symm, hrow, hy⟩
 ·obtain ⟨rs', rfl⟩ := refs_of ys fun y hy => by
   obtain ⟨i, hi⟩ := List.getElem?_of_mem hy
   obtain ⟨r, _, e, _⟩ := hr i y hi
   exact ⟨r, e⟩
  refine fin H1 rs' hS ⟨hO, by rw [List.length_map] at hl2; rw [hl2, hl, List.length_map], fun i r row hi hrow => ?_⟩
  obtain ⟨r', row', e1, _, e3, e4⟩ := hr i (.ref r) (by rw [List.getElem?_map, hi]; rfl)
  cases e1
  rw [List.getElem?_map, e3] at hrow
  cases hrow
  exact e4
end
section
variable {K : Fg}
def sp_without (K : Fg) : Sp := fun vs H Q _ => ∃ (p : Addr) (rs : List Addr) (rows : List (List Int)) (k : Nat), vs = [.ref p, .int (k : Nat)] /\ TbR H p rs rows /\ k < rows.length /\ rows.length <= 4 /\ (∀ row ∈ rows, row.length = rows.length) /\
 ∀ r rs' H', Same H H' -> TbR H' r rs' (mnr k rows) -> Q (.ref r) H'
def b_without (K : Fg) : List (SX K) :=
 [set 2 (bin .Add (slc (var 0) none (some (var 1))) (slc (var 0) (some (bin .Add (var 1) (cst (.int 1)))) none)),
  ret (comp (bin .Add (slc (var 0) none (some (var 1))) (slc (var 0) (some (bin .Add (var 1) (cst (.int 1)))) none)) (nam 0) (iSeq (var 2)) ["row"] ["place"] [1])]
theorem l_without : ∀ vs H Q E, sp_without K vs H Q E -> vs.length = 2 := by
 rintro vs H Q E ⟨_, _, _, _, rfl, _⟩
 rfl
theorem t_without (vs : List V) (H : Hp) (Q : VK) (E : XK) (h : sp_without K vs H Q E) : tSs (b_without K) (fun _ => E) { nx := fun _ H' => Q .non H', rt := Q } (start ["rows", "place", "others"] vs) H := by
 obtain ⟨p, rs, rows, k, rfl, hT, hk, h4, hr, q⟩ := h
 have hl := hT.2.1
 unfold b_without
 refine i_seq ?_
 refine i_set ?_
 refine cat_dl (k := k) rfl rfl hT.1 (by rw [List.length_map]; omega) (by rw [List.length_map]; omega) fun r H1 s1 nr hr1 => ?_
 rw [dl_map] at hr1
 have T1 : TbR H1 r (dlt k rs) (dlt k rows) := ⟨hr1, by rw [dl_len (by omega), dl_len (by omega)]; omega, fun i r row a b => by
  rw [dl_get (by omega)] at a
  rw [dl_get (by omega)] at b
  by_cases c : i < k
  ·rw [if_pos c] at a b
   exact s1 _ _ (hT.2.2 i r row a b)
  ·rw [if_neg c] at a b
   exact s1 _ _ (hT.2.2 (i + 1) r row a b)⟩
 walk_at "go"
 refine i_itL (SqL.of T1.1) ?_
 intro D hD
 refine tb_map (dlt k) T1 hD (by rw [dl_len (by omega)]; omega) (fun r2 row H2 Q' hm hrow s2 fin => ?_) fun H2 rs' s2 T2 => q D rs' H2 (s1.trans s2) T2
 have hl2 := hr row (mem_dl hm)
 refine cat_dl (k := k) rfl rfl hrow (by rw [List.length_map]; omega) (by rw [List.length_map]; omega) fun y H3 s3 ny hy => fin y H3 s3 ny ?_
 rw [hy, dl_map]
def sp_dets (m : Nat) (K : Fg) : Sp := fun vs H Q _ => ∃ (p : Addr) (rs : List Addr) (rows : List (List Int)), vs = [.ref p] /\ TbR H p rs rows /\ rows.length <= m /\ rows.length <= 4 /\ (∀ row ∈ rows, row.length = rows.length) /\ Sml rows /\
 ∀ H', Same H H' -> Q (.int (det rows.length rows)) H'
def b_dets (m : Nat) (K : Fg) : List (SX K) :=
 [ifS (cmp .Eq (len (var 0)) (cst (.int 0))) [ret (cst (.int 1))] [],
  set 1 (cst (.int 0)),
  set 2 (cst (.int 1)),
  forS (unp [3, 4]) (iEnum (ix (var 0) (cst (.int 0)))) [setC 5 (compC none (bin .Add (slc (var 0) none (some (var 1))) (slc (var 0) (some (bin .Add (var 1) (cst (.int 1)))) none)) (nam 0) (iSeq (slc (var 0) (some (cst (.int 1))) none)) ["row"] ["place"] [3]),
   set 1 (bin .Add (var 1) (bin .Mult (bin .Mult (var 2) (var 4)) (call "determinant" (sp_dets m K) [var 5]))),
   set 2 (neg (var 2))],
  ret (var 1)]
def b_dets0 (K : Fg) : List (SX K) :=
 [ifS (cmp .Eq (len (var 0)) (cst (.int 0))) [ret (cst (.int 1))] [], nev, nev, nev, nev]
theorem l_dets {m : Nat} : ∀ vs H Q E, sp_dets m K vs H Q E -> vs.length = 1 := by
 rintro vs H Q E ⟨_, _, _, rfl, _⟩
 rfl
theorem t_dets0 (vs : List V) (H : Hp) (Q : VK) (E : XK) (h : sp_dets 0 K vs H Q E) : tSs (b_dets0 K) (fun _ => E) { nx := fun _ H' => Q .non H', rt := Q } (start ["rows", "made", "sign", "place", "number", "rest"] vs) H := by
 obtain ⟨p, rs, rows, rfl, hT, hm, h4, hr, hs, q⟩ := h
 have e0 : rows = [] := List.eq_nil_of_length_eq_zero (by omega)
 subst e0
 have e1 : rs = [] := List.eq_nil_of_length_eq_zero (by have := hT.2.1; simpa using this)
 subst e1
 have hp : SqL K H p ([] : List V) := SqL.of hT.1
 unfold b_dets0
 walk_at "go"
 refine brT ?_
 walk_at "go"
 exact q H (Same.refl _)
theorem neg_step {E : XS} {σ : St} {H : Hp} {Q : VK} {a : EX K} (h : a.t E σ H fun x H1 => rNeg x H1 Q) : (neg a).t E σ H Q := h
theorem neg_int {H : Hp} {Q : VK} {i : Int} (h : Q (.int (-i)) H) : rNeg (.int i) H Q := h
theorem t_dets {m : Nat} (vs : List V) (H : Hp) (Q : VK) (E : XK) (h : sp_dets (m + 1) K vs H Q E) : tSs (b_dets m K) (fun _ => E) { nx := fun _ H' => Q .non H', rt := Q } (start ["rows", "made", "sign", "place", "number", "rest"] vs) H := by
 obtain ⟨p, rs, rows, rfl, hT, hm, h4, hr, hs, q⟩ := h
 have hl := hT.2.1
 have hp : SqL K H p (rs.map V.ref) := SqL.of hT.1
 have hlen : (rs.map V.ref).length = rows.length := by rw [List.length_map]; exact hl
 unfold b_dets
 walk_at "go"
 rw [hlen]
 cases rows with
 | nil =>
  refine brT ?_
  walk_at "go"
  exact q H (Same.refl _)
 | cons row0 rows' =>
  refine brF ?_
  cases rs with
  | nil => cases hl
  | cons r0 rs' =>
   have hx := hr row0 (by simp)
   obtain ⟨_, hs0⟩ := hs row0 (by simp)
   have h0 : H r0 = some (.lst (row0.map V.int)) := hT.2.2 0 r0 row0 rfl rfl
   walk_at "go"
   refine i_enum ?_
   walk_at "go"
   refine i_ixL (v := .ref r0) hp (atI_nat (j := 0) rfl) ?_
   walk_at "go"
   refine i_enumL h0 ?_
   refine loop_enum (xs := row0.map V.int) (fun i σ H1 => ∃ a3 a4 a5, σ = [some (.ref p), some (.int (dsm row0 (fun k => det rows'.length (rows'.map (dlt k))) i)), some (.int (alt i)), a3, a4, a5] /\ Same H H1) ⟨none, none, none, rfl, Same.refl _⟩ (fun i σ1 H1 ⟨_, _, _, _, hS⟩ => hS _ _ h0) (fun i σ1 H1 a o ⟨a3, a4, a5, e, hS⟩ na => ⟨a3, a4, a5, e, hS.trans (same_new na _)⟩) (fun i x σ1 H1 hx1 hP => ?_) fun σ1 H1 hP => ?_
   ·obtain ⟨a3, a4, a5, rfl, hS⟩ := hP
    obtain ⟨v, hv, rfl⟩ := map_get hx1
    have hi : i < row0.length := (List.getElem?_eq_some_iff.mp hv).1
    have hvb := hs0 v (List.mem_of_getElem? hv)
    have hp1 : SqL K H1 p ((r0 :: rs').map V.ref) := SqL.of (hS _ _ hT.1)
    walk_at "go"
    refine i_slL hp1 fun p1 n1 => ?_
    rw [show (1 : Int) = ((1 : Nat) : Int) from rfl, cut_from (by simp)]
    have s1 := same_new n1 (.lst (((r0 :: rs').map V.ref).drop 1))
    have T1 : TbR (upd H1 p1 (.lst (((r0 :: rs').map V.ref).drop 1))) p1 rs' rows' := ⟨upd_same, by simpa using hl, fun i r row a b => s1 _ _ (hS _ _ (hT.2.2 (i + 1) r row a b))⟩
    refine i_itL (SqL.of T1.1) ?_
    intro D hD
    refine tb_map (dlt i) T1 hD (by simp at h4; omega) (fun r2 row H2 Q' hm2 hrow s2 fin => ?_) fun H2 rs2 s2 T2 => ?_
    ·have hl2 := hr row (by simp [hm2])
     refine cat_dl (k := i) rfl rfl hrow (by rw [List.length_map]; omega) (by rw [List.length_map]; omega) fun y H3 s3 ny hy => fin y H3 s3 ny ?_
     rw [hy, dl_map]
    ·walk_at "go"
     obtain ⟨y, hy⟩ : ∃ y, y = alt i * v := ⟨_, rfl⟩
     have hy2 : -1000 <= y /\ y <= 1000 := by
      rcases alt_one i with s | s <;> rw [s] at hy <;> omega
     have hlr : (rows'.map (dlt i)).length = rows'.length := List.length_map _
     refine ⟨D, rs2, _, rfl, T2, by rw [hlr]; simpa using hm, by rw [hlr]; simp at h4; omega, fun row hrow => ?_, fun row hrow => ?_, fun H3 s3 => ?_⟩
     ·obtain ⟨r1, h1, rfl⟩ := List.mem_map.mp hrow
      have := hr r1 (by simp [h1])
      rw [hlr, dl_len (by omega), this]
      simp
     ·obtain ⟨r1, h1, rfl⟩ := List.mem_map.mp hrow
      obtain ⟨g1, g2⟩ := hs r1 (by simp [h1])
      have := hr r1 (by simp [h1])
      exact ⟨by rw [dl_len (by omega)]; omega, fun x hx => g2 x (mem_dl hx)⟩
     ·rw [hlr]
      refine i_mul (.inl ⟨by omega, by omega⟩) ?_
      walk_at "go"
      refine neg_step ?_
      walk_at "go"
      refine neg_int ?_
      refine ⟨some (.int (i : Nat)), some (.int v), some (.ref D), ?_, ((hS.trans s1).trans s2).trans s3⟩
      have e2 : dsm row0 (fun k => det rows'.length (rows'.map (dlt k))) (i + 1) = dsm row0 (fun k => det rows'.length (rows'.map (dlt k))) i + alt i * v * det rows'.length (rows'.map (dlt i)) := by
       show dsm _ _ i + alt i * (row0[i]?.getD 0) * _ = _
       rw [hv]
       rfl
      rw [e2]
      rfl
   ·obtain ⟨a3, a4, a5, rfl, hS⟩ := hP
    walk_at "go"
    rw [List.length_map]
    exact q H1 hS
end
end L2.Na.K82
namespace L2.Na.K82
open PySem PySem.Spec PyProof.Rows L2 L2.L3 L2.Na.Sh L2.Na.K41
theorem cnt_step {n c : Nat} (l : List Nat) (h : c < n) : ((List.range n).map fun k => ((((97 + c) :: l).count (97 + k) : Nat) : Int)).sum = ((List.range n).map fun k => ((l.count (97 + k) : Nat) : Int)).sum + 1 := by
 induction n with
 | zero => omega
 | succ n ih =>
  rw [List.range_succ, List.map_append, List.map_append, List.sum_append, List.sum_append]
  simp only [List.map_cons, List.map_nil, List.sum_cons, List.sum_nil]
  by_cases e : c = n
  ·subst e
   have z : ((List.range c).map fun k => ((((97 + c) :: l).count (97 + k) : Nat) : Int)) = (List.range c).map fun k => ((l.count (97 + k) : Nat) : Int) := by
    refine List.map_congr_left fun k hk => ?_
    have := List.mem_range.mp hk
    rw [List.count_cons_of_ne (by omega)]
   rw [z, List.count_cons_self]
   omega
  ·rw [ih (by omega), List.count_cons_of_ne (by omega)]
   omega
theorem cnts_sum {n : Nat} : ∀ (l : List Nat), (∀ c ∈ l, 97 <= c /\ c < 97 + n) -> ((List.range n).map fun k => ((l.count (97 + k) : Nat) : Int)).sum = (l.length : Int)
 | [], _ => by
  have e : ∀ m : Nat, ((List.range m).map fun k => (([].count (97 + k) : Nat) : Int)).sum = 0 := fun m => by
   induction m with
   | zero => rfl
   | succ m ih => rw [List.range_succ, List.map_append, List.sum_append, ih]; rfl
  exact e n
 | c :: l, h => by
  obtain ⟨h1, h2⟩ := h c (by simp)
  have e : c = 97 + (c - 97) := by omega
  have := cnt_step (n := n) l (show c - 97 < n by omega)
  rw [<- e] at this
  rw [this, cnts_sum l fun d hd => h d (by simp [hd]), List.length_cons]
  omega
section
variable {ws : List Str} (hU : Ru ws)
include hU
theorem rows_ok {s : Nat} (hs : ∀ w ∈ ws, w.length = s) : ∀ r ∈ rowsOf ws, r.length = (rowsOf ws).length /\ r.sum = (s : Int) /\ ∀ x ∈ r, 0 <= x := fun r hr => by
 unfold rowsOf at hr ⊢
 obtain ⟨w, hw, rfl⟩ := List.mem_map.mp hr
 refine ⟨by rw [cnts_len, List.length_map], ?_, fun x hx => ?_⟩
 ·have := cnts_sum (n := ws.length) (ls w) fun c hc => hU.isw w hw c hc
  rw [<- hs w hw, <- ls_len]
  exact this
 ·unfold cnts at hx
  obtain ⟨k, _, rfl⟩ := List.mem_map.mp hx
  exact Int.natCast_nonneg _
theorem ent_pos {i j : Nat} (h : Rw ws i j) : 0 < ent (rowsOf ws) i j := by
 have hj := Rw_lt hU h
 obtain ⟨w, hw, hm⟩ := h
 unfold ent rowsOf
 rw [List.getElem?_map, hw]
 show 0 < (cnts ws.length w)[j]?.getD 0
 rw [cnts_get hj]
 show 0 < cnt w j
 unfold cnt
 have := List.count_pos_iff.mpr hm
 omega
theorem leave {S : Nat -> Bool} : ∀ {k i j : Nat}, i < ws.length -> S i = true -> S j = false -> Mx.Rch (Rw ws) k i j -> ∃ a b, a < ws.length /\ b < ws.length /\ S a = true /\ S b = false /\ Rw ws a b
 | 0, i, j, _, h1, h2, h => by
  have e : i = j := h
  rw [e, h2] at h1
  cases h1
 | k + 1, i, j, hi, h1, h2, ⟨m, g1, g2⟩ => by
  have hm := Rw_lt hU g1
  cases e : S m with
  | true => exact leave hm e h2 g2
  | false => exact ⟨i, m, hi, hm, h1, e, g1⟩
theorem mx_full : mxB ws = true ↔ Mx.Full (Rw ws) ws.length 10 := by
 rw [<- hs_full hU]
 unfold mxB
 rw [List.all_eq_true]
 constructor
 ·intro h i hi
  exact of_decide_eq_true (h i (List.mem_range.mpr hi))
 ·intro h i hi
  exact decide_eq_true (h i (List.mem_range.mp hi))
theorem irr_of (h : mxB ws = true) : Irr (rowsOf ws) ws.length := by
 rintro S ⟨i, hi, si⟩ ⟨j, hj, sj⟩
 obtain ⟨a, b, ha, hb, sa, sb, r⟩ := leave hU hi si sj ((mx_full hU).mp h i j hi hj)
 exact ⟨a, b, ha, hb, sa, sb, ent_pos hU r⟩
end
def wn (ws : List Str) : List Nat := (wts ((fsz ws : Nat) : Int) (rowsOf ws)).map Int.toNat
def shs (ws : List Str) : List (Nat × Nat) := (wn ws).map (fr (wn ws).sum)
theorem osz_iff {ws : List Str} : osz ws = true ↔ 1 < fsz ws /\ ∀ w ∈ ws, w.length = fsz ws := by
 unfold osz
 rw [Bool.and_eq_true, List.all_eq_true]
 constructor
 ·rintro ⟨a, b⟩
  exact ⟨by have := of_decide_eq_true a; omega, fun w hw => by have := of_decide_eq_true (b w hw); omega⟩
 ·rintro ⟨a, b⟩
  exact ⟨decide_eq_true (by omega), fun w hw => decide_eq_true (by rw [b w hw])⟩
theorem rowsOf_len {ws : List Str} : (rowsOf ws).length = ws.length := List.length_map _
section
variable {ws : List Str} (hU : Ru ws) (ho : osz ws = true) (hm : mxB ws = true)
include hU ho hm
theorem good_ws : Sh.Good ((fsz ws : Nat) : Int) (rowsOf ws) (wts ((fsz ws : Nat) : Int) (rowsOf ws)) := by
 have h1 := hU.pos
 have h4 := hU.four
 have hl : (rowsOf ws).length = ws.length := rowsOf_len
 exact Sh.good (by omega) (by omega) (rows_ok hU (osz_iff.mp ho).2) (by rw [hl]; exact irr_of hU hm)
theorem rows_le : ∀ r ∈ rowsOf ws, r.length <= 4 /\ ∀ x ∈ r, 0 <= x /\ x <= 500 := fun r hr => by
 have h4 := hU.four
 obtain ⟨h1, h2, h3⟩ := rows_ok hU (osz_iff.mp ho).2 r hr
 rw [rowsOf_len] at h1
 refine ⟨by omega, fun x hx => ⟨h3 x hx, ?_⟩⟩
 unfold rowsOf at hr
 obtain ⟨w, hw, rfl⟩ := List.mem_map.mp hr
 unfold cnts at hx
 obtain ⟨k, _, rfl⟩ := List.mem_map.mp hx
 have a := List.count_le_length (a := 97 + k) (l := ls w)
 have b := hU.le w hw
 rw [<- ls_len] at b
 show (((ls w).count (97 + k) : Nat) : Int) <= 500
 omega
theorem fsz_le : fsz ws <= 100 := by
 obtain ⟨w0, _, e, _, m⟩ := first_at hU.pos
 rw [e]
 exact hU.le w0 m
theorem wn_ok : (wn ws).length = ws.length /\ (∀ w ∈ wn ws, 0 < w /\ w <= 64000000000) /\ wts ((fsz ws : Nat) : Int) (rowsOf ws) = (wn ws).map fun w => ((w : Nat) : Int) := by
 have g := good_ws hU ho hm
 have f := fsz_le hU ho hm
 have b := wts_le (s := ((fsz ws : Nat) : Int)) (C := rowsOf ws) (by rw [rowsOf_len]; exact hU.four) (by omega) (by omega) (rows_le hU ho hm)
 refine ⟨?_, fun w hw => ?_, ?_⟩
 ·unfold wn
  rw [List.length_map, wts_len, rowsOf_len]
 ·unfold wn at hw
  obtain ⟨x, hx, rfl⟩ := List.mem_map.mp hw
  have h1 := g.1 x hx
  have h2 := b x hx
  omega
 ·unfold wn
  rw [List.map_map]
  refine (List.map_id _).symm.trans (List.map_congr_left fun x hx => ?_)
  have h1 := g.1 x hx
  show x = ((x.toNat : Nat) : Int)
  omega
theorem wn_good : ∀ k, k < ws.length -> (((wn ws)[k]?.getD 0 : Nat) : Int) * ((fsz ws : Nat) : Int) = ((List.range ws.length).map fun j => (((wn ws)[j]?.getD 0 : Nat) : Int) * ent (rowsOf ws) j k).sum := fun k hk => by
 have g := (good_ws hU ho hm).2 k (by rw [rowsOf_len]; exact hk)
 obtain ⟨_, _, e⟩ := wn_ok hU ho hm
 have get : ∀ j, (wts ((fsz ws : Nat) : Int) (rowsOf ws))[j]?.getD 0 = (((wn ws)[j]?.getD 0 : Nat) : Int) := fun j => by
  rw [e, List.getElem?_map]
  cases (wn ws)[j]? <;> rfl
 rw [get, rowsOf_len] at g
 rw [g]
 congr 1
 refine List.map_congr_left fun j _ => ?_
 rw [get]
end
end L2.Na.K82
namespace L2.Na.K82
open PySem PySem.Spec PyProof.Rows L2 L2.L3 L2.Na.Sh L2.Na.K41
section
variable {K : Fg}
structure KF (K : Fg) : Prop where
 n_WordError : PySem.W.nsIn K mainGlobals "WordError" = some (some (.ref (clsAt K "WordError")))
 n_NoRow : PySem.W.nsIn K mainGlobals "NoRow" = some (some (.ref (clsAt K "NoRow")))
 n_NoRule : PySem.W.nsIn K mainGlobals "NoRule" = some (some (.ref (clsAt K "NoRule")))
 n_NoStart : PySem.W.nsIn K mainGlobals "NoStart" = some (some (.ref (clsAt K "NoStart")))
 n_NoPiece : PySem.W.nsIn K mainGlobals "NoPiece" = some (some (.ref (clsAt K "NoPiece")))
 n_NotMixed : PySem.W.nsIn K mainGlobals "NotMixed" = some (some (.ref (clsAt K "NotMixed")))
 n_NoShares : PySem.W.nsIn K mainGlobals "NoShares" = some (some (.ref (clsAt K "NoShares")))
 n_TooGreat : PySem.W.nsIn K mainGlobals "TooGreat" = some (some (.ref (clsAt K "TooGreat")))
 e_NoShares : ExcK K "NoShares"
 xfN : XF K (clsAt K "NoShares")
 exmN : PySem.W.exmOne K (.ref (clsAt K "NoShares")) (.ref (clsAt K "WordError")) = some true
 t0 : PySem.W.kitOne K (.ref (clsAt K "NoShares")) (.ref (clsAt K "NoRow")) = some false
 t1 : PySem.W.kitOne K (.ref (clsAt K "NoShares")) (.ref (clsAt K "NoRule")) = some false
 t2 : PySem.W.kitOne K (.ref (clsAt K "NoShares")) (.ref (clsAt K "NoStart")) = some false
 t3 : PySem.W.kitOne K (.ref (clsAt K "NoShares")) (.ref (clsAt K "NoPiece")) = some false
 t4 : PySem.W.kitOne K (.ref (clsAt K "NoShares")) (.ref (clsAt K "NotMixed")) = some false
 t5 : PySem.W.kitOne K (.ref (clsAt K "NoShares")) (.ref (clsAt K "NoShares")) = some true
 t6 : PySem.W.kitOne K (.ref (clsAt K "NoShares")) (.ref (clsAt K "TooGreat")) = some false
 tv : PySem.W.kitOne K (.ref (clsAt K "NoShares")) (.type "ValueError") = some true
theorem lkr_len {i : Nat} {s : Int} {r : List Int} : (lkr i s r).length = r.length := by
 unfold lkr
 rw [List.length_set, List.length_map]
def sp_lacks_of (K : Fg) : Sp := fun vs H Q _ => ∃ (a : Addr) (ws : List Str) (s : Nat), vs = [.ref a] /\ Rt4 K H a ws /\ Ru ws /\ (∀ w ∈ ws, w.length = s) /\ ∀ p rs H', Same H H' -> TbR H' p rs (lks (s : Nat) (rowsOf ws)) -> Q (.ref p) H'
def b_lacks_of (K : Fg) : List (SX K) :=
 [set 1 (lst []),
  forS (unp [2, 3]) (iEnum (call "table" (sp_table K) [var 0])) [setC 4 (compC none (neg (var 0)) (nam 0) (iSeq (var 3)) ["count"] [] []),
   put (var 4) (var 2) (bin .Add (ix (var 4) (var 2)) (len (ix (var 0) (var 2)))),
   ex (m_append (var 1) (var 4))],
  ret (var 1)]
theorem l_lacks_of : ∀ vs H Q E, sp_lacks_of K vs H Q E -> vs.length = 1 := by
 rintro vs H Q E ⟨_, _, _, rfl, _⟩
 rfl
theorem t_lacks_of (vs : List V) (H : Hp) (Q : VK) (E : XK) (h : sp_lacks_of K vs H Q E) : tSs (b_lacks_of K) (fun _ => E) { nx := fun _ H' => Q .non H', rt := Q } (start ["rule", "rows", "place", "row", "lack"] vs) H := by
 obtain ⟨a, ws, s, rfl, hR, hU, hs, q⟩ := h
 have h1 := hU.pos
 have h4 := hU.four
 have hrl : (rowsOf ws).length = ws.length := rowsOf_len
 unfold b_lacks_of
 walk_at "go"
 refine ⟨by show 0 <= sizeLine; decide, fun R nR => ?_⟩
 have s0 := same_new nR (.lst [])
 walk_at "go"
 refine i_enum ?_
 walk_at "go"
 refine ⟨a, ws, rfl, hR.same s0, fun t trs H2 s2 _ _ T2 => ?_⟩
 have hR0 : H2 R = some (.lst []) := s2 _ _ upd_same
 have tR : t ≠ R := fun e => by
  rw [e] at T2
  have := T2.1
  rw [hR0] at this
  have e2 : (trs.map V.ref) = [] := by injection this with this; injection this with this; exact this.symm
  have e3 := T2.2.1
  rw [List.map_eq_nil_iff] at e2
  rw [e2, hrl] at e3
  simp at e3
  omega
 have rR : ∀ i r row, trs[i]? = some r -> (rowsOf ws)[i]? = some row -> r ≠ R := fun i r row g1 g2 e => by
  have := T2.2.2 i r row g1 g2
  rw [e, hR0] at this
  have e2 : row.map V.int = [] := by injection this with this; injection this with this; exact this.symm
  rw [List.map_eq_nil_iff] at e2
  have := (rows_ok hU hs row (List.mem_of_getElem? g2)).1
  rw [e2, hrl] at this
  simp at this
  omega
 have hS2 := s0.trans s2
 walk_at "go"
 refine i_enumL T2.1 ?_
 refine loop_enum (xs := trs.map V.ref) (fun i σ H3 => ∃ a2 a3 a4 ls, σ = [some (.ref a), some (.ref R), a2, a3, a4] /\ (∀ b o, b ≠ R -> H2 b = some o -> H3 b = some o) /\ H3 R = some (.lst (ls.map V.ref)) /\ ls.length = i /\ ∀ (j : Nat) (l : Addr), ls[j]? = some l -> l ≠ R /\ H3 l = some (.lst ((lkr j (s : Nat) ((rowsOf ws)[j]?.getD [])).map V.int)))
  ⟨none, none, none, [], rfl, fun b o _ e => e, hR0, rfl, fun j l e => by simp at e⟩ (fun i σ1 H1 ⟨_, _, _, _, _, kp, _⟩ => kp _ _ tR T2.1)
  (fun i σ1 H1 b o ⟨a2, a3, a4, ls, e, kp, kR, kl, kj⟩ nb => ⟨a2, a3, a4, ls, e, fun c oc hc e => by rw [upd_ne (ne_of_none (kp c oc hc e) nb)]; exact kp c oc hc e, by rw [upd_ne (ne_of_none kR nb)]; exact kR, kl, fun j l hj => ⟨(kj j l hj).1, by rw [upd_ne (ne_of_none (kj j l hj).2 nb)]; exact (kj j l hj).2⟩⟩)
  (fun i x σ1 H3 hx hP => ?_) fun σ1 H3 hP => ?_
 ·obtain ⟨a2, a3, a4, ls, rfl, kp, kR, kl, kj⟩ := hP
  rw [List.getElem?_map] at hx
  cases e : trs[i]? with
  | none => rw [e] at hx; cases hx
  | some r =>
   rw [e] at hx
   cases hx
   have hi : i < (rowsOf ws).length := by have := (List.getElem?_eq_some_iff.mp e).1; have := T2.2.1; omega
   have hrow := List.getElem?_eq_getElem hi
   have hr3 : H3 r = some (.lst ((rowsOf ws)[i].map V.int)) := kp _ _ (rR i r _ e hrow) (T2.2.2 i r _ e hrow)
   have rl := (rows_ok hU hs _ (List.getElem_mem hi)).1
   have hS3 := same_off hS2 kp nR
   have hT3 := hR.same hS3
   walk_at "go"
   refine i_itL (SqL.of hr3) ?_
   intro D hD
   refine comp_lst (fun x => match x with | .int i => .int (-i) | _ => .non) (SqL.of hr3) hD (small (by rw [List.length_map]; omega)) (fun j x H4 Q' hx hS4 fin => ?_) fun H4 s4 hO => ?_
   ·obtain ⟨v, _, rfl⟩ := map_get hx
    refine neg_step ?_
    walk_at "go"
    refine neg_int ?_
    exact fin H4 (Same.refl _)
   ·have hwi : i < ws.length := by omega
    have hO2 : H4 D = some (.lst (((rowsOf ws)[i].map (- ·)).map V.int)) := by rw [hO, List.map_map, List.map_map]; rfl
    have hlw := hU.le ws[i] (List.getElem_mem hwi)
    have hsw := hs ws[i] (List.getElem_mem hwi)
    have hil : i < (rowsOf ws)[i].length := by omega
    have hT4 := hT3.same s4
    have hR4 := s4 _ _ kR
    have DR : D ≠ R := (ne_of_none kR hD).symm
    walk_at "go"
    refine i_put ?_
    walk_at "go"
    refine i_ixL (v := .int (-((rowsOf ws)[i][i]))) (SqL.of hO2) (atI_nat (by rw [List.getElem?_map, List.getElem?_map, List.getElem?_eq_getElem hil]; rfl)) ?_
    walk_at "go"
    refine i_ixT (v := .str ws[i]) hT4.tp (atI_nat (by rw [List.getElem?_map, List.getElem?_eq_getElem hwi]; rfl)) ?_
    refine i_lenS (small (by omega)) ?_
    walk_at "go"
    refine i_putL hO2 (by rw [List.length_map, List.length_map]; exact hil) ?_
    rw [<- List.map_set]
    have e5 : (((rowsOf ws)[i].map (- ·)).set i (-((rowsOf ws)[i][i]) + ((ws[i].length : Nat) : Int))) = lkr i (s : Nat) ((rowsOf ws)[i]?.getD []) := by
     unfold lkr
     rw [hrow, hsw]
     show _ = ((rowsOf ws)[i].map (- ·)).set i (-((rowsOf ws)[i][i]?.getD 0) + _)
     rw [List.getElem?_eq_getElem hil]
     rfl
    rw [e5]
    have hR5 : (upd H4 D (.lst ((lkr i (s : Nat) ((rowsOf ws)[i]?.getD [])).map V.int))) R = some (.lst (ls.map V.ref)) := by rw [upd_ne DR.symm]; exact hR4
    walk_at "go"
    refine i_RL (SqL.of hR5) ?_
    walk_at "go"
    refine i_appendU hR5 (Nat.lt_of_lt_of_le (show (ls.map V.ref).length < 5000 by rw [List.length_map]; omega) (small (by decide))) ?_
    walk_at "go"
    have D3 : H3 D = none := hD
    refine ⟨some (.int (i : Nat)), some (.ref r), some (.ref D), ls ++ [D], rfl, fun b o hb e => ?_, ?_, by rw [List.length_append, kl]; rfl, fun j l hj => ?_⟩
    ·have e3 := kp b o hb e
     rw [upd_ne hb, upd_ne (ne_of_none e3 D3)]
     exact s4 _ _ e3
    ·rw [upd_same, List.map_append]
     rfl
    ·by_cases c : j < ls.length
     ·rw [List.getElem?_append_left c] at hj
      obtain ⟨g1, g2⟩ := kj j l hj
      refine ⟨g1, ?_⟩
      rw [upd_ne g1, upd_ne (ne_of_none g2 D3)]
      exact s4 _ _ g2
     ·rw [List.getElem?_append_right (by omega)] at hj
      have ej : j = i := by
       have := (List.getElem?_eq_some_iff.mp hj).1
       simp at this
       omega
      have el : l = D := by
       rw [ej, kl, Nat.sub_self] at hj
       simpa using hj.symm
      subst ej el
      exact ⟨DR, by rw [upd_ne DR, upd_same]⟩
 ·obtain ⟨a2, a3, a4, ls, rfl, kp, kR, kl, kj⟩ := hP
  walk_at "go"
  have hll : ls.length = ws.length := by rw [kl, List.length_map, T2.2.1, hrl]
  refine q R ls H3 (same_off hS2 kp nR) ⟨kR, ?_, fun i r row g1 g2 => ?_⟩
  ·unfold lks
   rw [List.length_map, List.length_range, hll, hrl]
  ·obtain ⟨_, g3⟩ := kj i r g1
   rw [g3]
   unfold lks at g2
   rw [List.getElem?_map] at g2
   cases e : (List.range (rowsOf ws).length)[i]? with
   | none => rw [e] at g2; cases g2
   | some k =>
    rw [e] at g2
    cases g2
    have : i = k := by
     have h := List.getElem?_eq_some_iff.mp e
     obtain ⟨h, e⟩ := h
     rw [List.getElem_range] at e
     exact e
    subst this
    rfl
end
end L2.Na.K82
namespace L2.Na.K82
open PySem PySem.Spec PyProof.Rows L2 L2.L3 L2.Na.Sh L2.Na.K41
section
variable {K : Fg}
def FrR (H : Hp) (p : Addr) (qs : List Addr) (ts : List (Nat × Nat)) : Prop := H p = some (.lst (qs.map V.ref)) /\ qs.length = ts.length /\ ∀ (i : Nat) (q : Addr) (t : Nat × Nat), qs[i]? = some q -> ts[i]? = some t -> H q = some (.tup [.int (t.1 : Nat), .int (t.2 : Nat)])
theorem FrR.same {H H' : Hp} {p : Addr} {qs : List Addr} {ts : List (Nat × Nat)} (h : FrR H p qs ts) (e : Same H H') : FrR H' p qs ts := ⟨e _ _ h.1, h.2.1, fun i q t a b => e _ _ (h.2.2 i q t a b)⟩
def sp_shares (K : Fg) : Sp := fun vs H Q E => ∃ (a : Addr) (ws : List Str), vs = [.ref a] /\ KF K /\ Rt4 K H a ws /\ Ru ws /\
 ((osz ws && mxB ws) = true -> ∀ p qs H', Same H H' -> H p = none -> (∀ q ∈ qs, H q = none) -> FrR H' p qs (shs ws) -> Q (.ref p) H') /\ ((osz ws && mxB ws) = false -> ∀ H', Same H H' -> E (.ref (clsAt K "NoShares")) none H')
def b_shares (K : Fg) : List (SX K) :=
 [ifS (orE (notE (call "of_one_size" (sp_of_one_size K) [var 0])) [notE (call "mixes" (sp_mixes K) [var 0])]) [raiseO "NoShares" (cst (.str "the rule doesn't mix, or has words of one sign or of unlike sizes")) []] [],
  set 1 (call "lacks_of" (sp_lacks_of K) [var 0]),
  setC 2 (compC none (call "determinant" (sp_dets 3 K) [call "without" (sp_without K) [var 1, var 0]]) (nam 0) (iRng (len (var 0)) []) ["place"] ["lacks"] [1]),
  set 3 (sum (var 2)),
  ret (comp (call "in_lowest_terms" (sp_in_lowest_terms K) [var 0, var 1]) (nam 0) (iSeq (var 2)) ["weight"] ["whole"] [3])]
theorem l_shares : ∀ vs H Q E, sp_shares K vs H Q E -> vs.length = 1 := by
 rintro vs H Q E ⟨_, _, rfl, _⟩
 rfl
theorem lks_len {s : Int} {C : List (List Int)} : (lks s C).length = C.length := by
 unfold lks
 rw [List.length_map, List.length_range]
theorem lks_row {s : Int} {C : List (List Int)} {n : Nat} (h : ∀ r ∈ C, r.length = n) : ∀ r ∈ lks s C, r.length = n := fun r hr => by
 unfold lks at hr
 obtain ⟨i, hi, rfl⟩ := List.mem_map.mp hr
 have hi' := List.mem_range.mp hi
 rw [lkr_len, List.getElem?_eq_getElem hi']
 exact h _ (List.getElem_mem hi')
theorem mnr_len {k : Nat} {rows : List (List Int)} (h : k < rows.length) : (mnr k rows).length = rows.length - 1 := by
 unfold mnr
 rw [List.length_map, dl_len h]
theorem mnr_row {k n : Nat} {rows : List (List Int)} (hk : k < n) (h : ∀ r ∈ rows, r.length = n) : ∀ r ∈ mnr k rows, r.length = n - 1 := fun r hr => by
 obtain ⟨r0, h0, rfl⟩ := List.mem_map.mp hr
 have := h r0 (mem_dl h0)
 rw [dl_len (by omega), this]
theorem t_shares (vs : List V) (H : Hp) (Q : VK) (E : XK) (h : sp_shares K vs H Q E) : tSs (b_shares K) (fun _ => E) { nx := fun _ H' => Q .non H', rt := Q } (start ["rule", "lacks", "weights", "whole"] vs) H := by
 obtain ⟨a, ws, rfl, kf, hR, hU, q, qx⟩ := h
 have h1 := hU.pos
 have h4 := hU.four
 have hrl : (rowsOf ws).length = ws.length := rowsOf_len
 have hlen : (ws.map V.str).length = ws.length := List.length_map _
 unfold b_shares
 walk_at "go"
 refine ⟨a, ws, rfl, hR, hU, fun H1 s1 => ?_⟩
 walk_at "go"
 cases ho : osz ws with
 | false =>
  rw [ho] at qx
  refine brT ?_
  refine brT ?_
  walk_at "go"
  refine i_raiseO ?_
  walk_at "go"
  exact ⟨by show 1 <= sizeLine; decide, qx rfl H1 s1⟩
 | true =>
  refine brF ?_
  walk_at "go"
  refine ⟨a, ws, rfl, hR.same s1, hU, fun H2 s2 => ?_⟩
  walk_at "go"
  cases hm : mxB ws with
  | false =>
   rw [ho, hm] at qx
   refine brT ?_
   walk_at "go"
   refine i_raiseO ?_
   walk_at "go"
   exact ⟨by show 1 <= sizeLine; decide, qx rfl H2 (s1.trans s2)⟩
  | true =>
   rw [ho, hm] at q
   have q := q rfl
   obtain ⟨w1, w2, w3⟩ := wn_ok hU ho hm
   have hsz := (osz_iff.mp ho).2
   have hf := fsz_le hU ho hm
   have s12 := s1.trans s2
   have rk : ∀ r ∈ rowsOf ws, r.length = ws.length := fun r hr => by rw [(rows_ok hU hsz r hr).1, hrl]
   refine brF ?_
   walk_at "go"
   refine ⟨a, ws, fsz ws, rfl, hR.same s12, hU, hsz, fun p rs H3 s3 T3 => ?_⟩
   have hT3 := (hR.same s12).same s3
   have htp := hT3.tp
   have hLl : (lks ((fsz ws : Nat) : Int) (rowsOf ws)).length = ws.length := by rw [lks_len, hrl]
   walk_at "go"
   rw [hlen, Int.toNat_natCast]
   intro D hD
   refine comp_rng (fun k => .int (det (ws.length - 1) (mnr k (lks ((fsz ws : Nat) : Int) (rowsOf ws))))) hD (small (by omega)) (fun k H4 Q' hk s4 fin => ?_) fun H4 s4 hO => ?_
   ·rw [show (0 : Int) + ((k : Nat) : Int) = ((k : Nat) : Int) by omega]
    walk_at "go"
    refine ⟨p, rs, _, k, rfl, T3.same s4, by rw [hLl]; exact hk, by rw [hLl]; exact h4, fun r hr => by rw [hLl]; exact lks_row rk r hr, fun r2 rs2 H5 s5 T5 => ?_⟩
    have ml : (mnr k (lks ((fsz ws : Nat) : Int) (rowsOf ws))).length = ws.length - 1 := by rw [mnr_len (by rw [hLl]; exact hk), hLl]
    walk_at "go"
    refine ⟨r2, rs2, _, rfl, T5, by rw [ml]; omega, by rw [ml]; omega, fun r hr => by rw [ml]; exact mnr_row hk (lks_row rk) r hr, sml_mnr (sml_lks (by omega) (by omega) (rows_le hU ho hm)), fun H6 s6 => ?_⟩
    rw [ml]
    exact fin H6 (s5.trans s6)
   ·have eO : ((List.range ws.length).map fun k => V.int (det (ws.length - 1) (mnr k (lks ((fsz ws : Nat) : Int) (rowsOf ws))))) = ((wn ws).map fun w => ((w : Nat) : Int)).map V.int := by
     rw [<- w3]
     unfold wts
     rw [hrl, List.map_map]
     rfl
    rw [eO] at hO
    walk_at "go"
    refine ⟨D, _, rfl, hO, ?_⟩
    have eS : ((wn ws).map fun w => ((w : Nat) : Int)).sum = (((wn ws).sum : Nat) : Int) := by
     have : ∀ l : List Nat, (l.map fun w => ((w : Nat) : Int)).sum = ((l.sum : Nat) : Int) := fun l => by
      induction l with
      | nil => rfl
      | cons x l ih => rw [List.map_cons, List.sum_cons, List.sum_cons, ih]; omega
     exact this _
    rw [eS]
    have hS4 := (s12.trans s3).trans s4
    walk_at "go"
    refine i_itL (SqL.of hO) ?_
    intro D2 hD2
    refine comp_rel (yl_list (xs := ((wn ws).map fun w => ((w : Nat) : Int)).map V.int)) (fun i y H5 => ∃ r w, y = .ref r /\ r ≠ D2 /\ H r = none /\ (wn ws)[i]? = some w /\ H5 r = some (.tup [.int ((fr (wn ws).sum w).1 : Nat), .int ((fr (wn ws).sum w).2 : Nat)])) hD2 (fun H5 hS => SqL.of (hS _ _ hO)) (small (by rw [List.length_map, List.length_map]; omega)) (fun i y H5 H6 hh => ?_) (fun i x H5 Q' hx hS hDs fin => ?_) fun H5 ys hS hO5 hl5 hr5 => ?_
    ·rintro ⟨r, w, e1, e2, e3, e4, e5⟩
     exact ⟨r, w, e1, e2, e3, e4, hh r _ e2 e5⟩
    ·obtain ⟨v, hv, rfl⟩ := map_get hx
     rw [List.getElem?_map] at hv
     cases e : (wn ws)[i]? with
     | none => rw [e] at hv; cases hv
     | some w =>
      rw [e] at hv
      cases hv
      obtain ⟨b1, b2⟩ := w2 w (List.mem_of_getElem? e)
      walk_at "go"
      refine ⟨w, (wn ws).sum, rfl, b1, by omega, fun r H6 s6 nr hr => ?_⟩
      obtain ⟨o, ho2⟩ := hDs
      exact fin (.ref r) H6 s6 ⟨r, w, rfl, (ne_of_none ho2 nr).symm, none_of (hS4.trans hS) nr, e, hr⟩
    ·obtain ⟨qs, rfl⟩ := refs_of ys fun y hy => by
      obtain ⟨i, hi⟩ := List.getElem?_of_mem hy
      obtain ⟨r, _, e, _⟩ := hr5 i y hi
      exact ⟨r, e⟩
     have hget : ∀ i r, qs[i]? = some r -> H r = none /\ ∃ w, (wn ws)[i]? = some w /\ H5 r = some (.tup [.int ((fr (wn ws).sum w).1 : Nat), .int ((fr (wn ws).sum w).2 : Nat)]) := fun i r hi => by
      obtain ⟨r', w, e1, _, e3, e4, e5⟩ := hr5 i (.ref r) (by rw [List.getElem?_map, hi]; rfl)
      cases e1
      exact ⟨e3, w, e4, e5⟩
     refine q D2 qs H5 (hS4.trans hS) (none_of hS4 hD2) (fun r hm => ?_) ⟨hO5, ?_, fun i r t hi ht => ?_⟩
     ·obtain ⟨i, hi⟩ := List.getElem?_of_mem hm
      exact (hget i r hi).1
     ·rw [List.length_map] at hl5
      rw [hl5, List.length_map, List.length_map]
      unfold shs
      rw [List.length_map]
     ·obtain ⟨_, w, e1, e2⟩ := hget i r hi
      unfold shs at ht
      rw [List.getElem?_map, e1] at ht
      cases ht
      exact e2
end
end L2.Na.K82
namespace L2.Na.K82
open PySem PySem.Spec PyProof.Rows L2 L2.L3
open L2.Na.K81 (sp_law_raw sp_law_mix)
theorem sl_from {z : Str} {k : Nat} (h : k <= z.length) : ls (Txt.slice z (some ((k : Nat) : Int)) none) = (ls z).drop k := by
 show (Txt.slice z (some ((k : Nat) : Int)) none).cps.toList = _
 rw [slice_from (by omega) (by omega)]
 rfl
theorem sl_to {z : Str} {k : Nat} : ls (Txt.slice z none (some ((k : Nat) : Int))) = (ls z).take k := by
 show (Txt.slice z none (some ((k : Nat) : Int))).cps.toList = _
 rw [slice_to (by omega), Int.toNat_natCast]
section
variable {K : Fg}
def sp_law_word (K : Fg) : Sp := L2.Na.K81.sp_law_word K
def b_law_word (K : Fg) : List (SX K) := L2.Na.K81.b_law_word K
theorem l_law_word : ∀ vs H Q E, sp_law_word K vs H Q E -> vs.length = 3 := L2.Na.K81.l_law_word
theorem t_law_word (vs : List V) (H : Hp) (Q : VK) (E : XK) (h : sp_law_word K vs H Q E) : tSs (b_law_word K) (fun _ => E) { nx := fun _ H' => Q .non H', rt := Q } (start ["_law_number", "_law_many", "_law_size_here", "_law_word_here", "_law_k"] vs) H := L2.Na.K81.t_law_word vs H Q E h
def sp_law_size (K : Fg) : Sp := fun vs H Q _ => ∃ (a : Addr) (ns : List Int), vs = [.ref a] /\ SqL K H a (ns.map V.int) /\ ns.length <= 63 /\ ∀ (s : Nat) (H' : Hp), Same H H' -> 1 <= s -> s <= 99 -> Q (.int (s : Nat)) H'
def b_law_size (K : Fg) : List (SX K) :=
 [set 1 (bin .FloorDiv (call "_law_mix" (sp_law_mix K) [var 0, cst (.int 1)]) (cst (.int 8))),
  ifS (cmp .Eq (bin .Mod (var 1) (cst (.int 8))) (cst (.int 1))) [ret (bin .Add (cst (.int 9)) (bin .Mod (bin .FloorDiv (var 1) (cst (.int 8))) (cst (.int 91))))] [],
  ret (ix (lst [cst (.int 1), cst (.int 2), cst (.int 2), cst (.int 3), cst (.int 4), cst (.int 5), cst (.int 6), cst (.int 8)]) (bin .Mod (bin .FloorDiv (var 1) (cst (.int 8))) (cst (.int 8))))]
theorem l_law_size : ∀ vs H Q E, sp_law_size K vs H Q E -> vs.length = 1 := by
 rintro vs H Q E ⟨_, _, rfl, _⟩
 rfl
theorem t_law_size (vs : List V) (H : Hp) (Q : VK) (E : XK) (h : sp_law_size K vs H Q E) : tSs (b_law_size K) (fun _ => E) { nx := fun _ H' => Q .non H', rt := Q } (start ["_law_script", "_law_number"] vs) H := by
 obtain ⟨a, ns, rfl, hS, h63, q⟩ := h
 unfold b_law_size
 walk_at "go"
 refine ⟨a, ns, 1, rfl, hS, h63, by decide, by decide, fun v v0 v1 => ?_⟩
 walk_at "go"
 refine br_d (fun _ => ?_) fun _ => ?_
 ·walk_at "go"
  obtain ⟨s, hs⟩ : ∃ s : Nat, 9 + v / 8 / 8 % 91 = ((s : Nat) : Int) := ⟨(9 + v / 8 / 8 % 91).toNat, by omega⟩
  rw [hs]
  exact q s H (Same.refl _) (by omega) (by omega)
 ·walk_at "go"
  refine ⟨by show 8 <= sizeLine; decide, fun p np => ?_⟩
  walk_at "go"
  obtain ⟨s, hs, s1, s2⟩ : ∃ s : Nat, atI [V.int 1, .int 2, .int 2, .int 3, .int 4, .int 5, .int 6, .int 8] (v / 8 / 8 % 8) = some (.int ((s : Nat) : Int)) /\ 1 <= s /\ s <= 99 := by
   have : v / 8 / 8 % 8 = 0 \/ v / 8 / 8 % 8 = 1 \/ v / 8 / 8 % 8 = 2 \/ v / 8 / 8 % 8 = 3 \/ v / 8 / 8 % 8 = 4 \/ v / 8 / 8 % 8 = 5 \/ v / 8 / 8 % 8 = 6 \/ v / 8 / 8 % 8 = 7 := by omega
   rcases this with e | e | e | e | e | e | e | e <;> rw [e]
   ·exact ⟨1, rfl, by decide, by decide⟩
   ·exact ⟨2, rfl, by decide, by decide⟩
   ·exact ⟨2, rfl, by decide, by decide⟩
   ·exact ⟨3, rfl, by decide, by decide⟩
   ·exact ⟨4, rfl, by decide, by decide⟩
   ·exact ⟨5, rfl, by decide, by decide⟩
   ·exact ⟨6, rfl, by decide, by decide⟩
   ·exact ⟨8, rfl, by decide, by decide⟩
  refine i_ixL (SqL.of upd_same) hs ?_
  exact q s _ (same_new np _) s1 s2
def WB (m : Nat) (ws : List Str) : Prop := ∀ w ∈ ws, IsW m w /\ 1 <= w.length /\ w.length <= 100
def sp_law_rule (K : Fg) : Sp := fun vs H Q _ => ∃ (a : Addr) (ns : List Int) (m : Int), vs = [.ref a, .int m] /\ SqL K H a (ns.map V.int) /\ ns.length <= 63 /\ 1 <= m /\ m <= 4 /\ ∀ (p : Addr) (ws : List Str) (H' : Hp), Same H H' -> H' p = some (.tup (ws.map V.str)) -> Ru ws -> Q (.ref p) H'
def b_rl1 (K : Fg) : List (SX K) :=
 [set 5 (call "_law_mix" (sp_law_mix K) [var 0, bin .Add (cst (.int 2)) (var 4)]),
   set 6 (call "_law_word" (sp_law_word K) [var 5, var 1, var 2]),
   ifS (andE (cmp .Gt (var 2) (cst (.int 1))) [cmp .Gt (bin .Mod (bin .FloorDiv (call "_law_mix" (sp_law_mix K) [var 0, cst (.int 7)]) (cst (.int 8))) (cst (.int 3))) (cst (.int 0))]) [set 7 (bin .Mod (bin .FloorDiv (var 5) (cst (.int 8))) (bin .Sub (var 2) (cst (.int 1)))),
    set 8 (bin .Add (ix (cst (.str "abcd")) (var 4)) (ix (cst (.str "abcd")) (bin .Mod (bin .Add (var 4) (cst (.int 1))) (var 1)))),
    set 6 (bin .Add (bin .Add (slc (var 6) none (some (var 7))) (var 8)) (slc (var 6) (some (bin .Add (var 7) (cst (.int 2)))) none))] [],
   ex (m_append (var 3) (var 6))]
def b_rl2 (K : Fg) : List (SX K) :=
 [set 5 (bin .FloorDiv (call "_law_mix" (sp_law_mix K) [var 0, cst (.int 8)]) (cst (.int 8))),
  ifS (cmp .Eq (bin .Mod (var 5) (cst (.int 5))) (cst (.int 1))) [set 7 (bin .Mod (bin .FloorDiv (var 5) (cst (.int 5))) (var 1)),
   set 9 (ix (var 3) (var 7)),
   set 10 (lst [bin .Add (slc (var 9) (some (cst (.int 1))) none) (bin .Mult (cst (.str "a")) (intE (cmp .Eq (var 2) (cst (.int 1))))), bin .Add (var 9) (ix (cst (.str "abcd")) (bin .Mod (bin .FloorDiv (var 5) (cst (.int 20))) (var 1)))]),
   put (var 3) (var 7) (ix (var 10) (bin .Mod (bin .FloorDiv (var 5) (cst (.int 80))) (cst (.int 2))))] [],
  ret (tupleE (var 3))]
def b_law_rule (K : Fg) : List (SX K) :=
 set 2 (call "_law_size" (sp_law_size K) [var 0]) :: set 3 (lst []) :: forS (nam 4) (iRng (var 1) []) (b_rl1 K) :: b_rl2 K
theorem l_law_rule : ∀ vs H Q E, sp_law_rule K vs H Q E -> vs.length = 2 := by
 rintro vs H Q E ⟨_, _, _, rfl, _⟩
 rfl
theorem int_bl {H : Hp} {Q : VK} {k : Bool} (h : Q (.int (if k then 1 else 0)) H) : rInt1 [.bl k] H Q := h
theorem mulA {b : Bool} : Txt.mul (Str.ofString "a") (if b then 1 else 0) = if b then ⟨#[97]⟩ else Str.ofString "" := by
 cases b <;> decide +kernel
theorem t_rl2 {H : Hp} {Q : VK} {E : XK} {a p : Addr} {ns : List Int} {m : Int} {s : Nat} {ws : List Str} {H0 : Hp} {v4 v5 v6 v7 v8 : Option V} (hS : SqL K H0 a (ns.map V.int)) (h63 : ns.length <= 63) (h1 : 1 <= m) (h4 : m <= 4) (s1 : 1 <= s) (s2 : s <= 99) (np : H0 p = none) (hs : Same H0 H) (hp : H p = some (.lst (ws.map V.str))) (hl : ws.length = m.toNat) (hw : ∀ w ∈ ws, IsW m.toNat w /\ w.length = s)
  (q : ∀ (p : Addr) (ws : List Str) (H' : Hp), Same H0 H' -> H' p = some (.tup (ws.map V.str)) -> Ru ws -> Q (.ref p) H') :
  tSs (b_rl2 K) (fun _ => E) { nx := fun _ H' => Q .non H', rt := Q } [some (.ref a), some (.int m), some (.int (s : Nat)), some (.ref p), v4, v5, v6, v7, v8, none, none] H := by
 have fin : ∀ (us : List Str) (H2 : Hp) (w5 w7 w9 w10 : Option V), Same H0 H2 -> H2 p = some (.lst (us.map V.str)) -> us.length = m.toNat -> WB m.toNat us -> tSs ([ret (tupleE (var 3))] : List (SX K)) (fun _ => E) { nx := fun _ H' => Q .non H', rt := Q } [some (.ref a), some (.int m), some (.int (s : Nat)), some (.ref p), v4, w5, v6, w7, v8, w9, w10] H2 := fun us H2 w5 w7 w9 w10 e g1 g2 g3 => by
  walk_at "go"
  refine .inl ⟨_, SqL.of g1, fun t ht => ?_⟩
  exact q t us _ (e.trans (same_new ht _)) upd_same ⟨by omega, by omega, fun w hw => by rw [g2]; exact (g3 w hw).1, fun w hw => (g3 w hw).2.1, fun w hw => (g3 w hw).2.2⟩
 unfold b_rl2
 walk_at "go"
 refine ⟨a, ns, 8, rfl, hs.seq hS, h63, by decide, by decide, fun v v0 v1 => ?_⟩
 walk_at "go"
 refine br_d (fun _ => ?_) fun _ => ?_
 ·walk_at "go"
  obtain ⟨g, hg, hgl⟩ : ∃ g : Nat, v / 8 / 5 % m = ((g : Nat) : Int) /\ g < ws.length := by
   have e1 := Int.emod_nonneg (v / 8 / 5) (show m ≠ 0 by omega)
   have e2 := Int.emod_lt_of_pos (v / 8 / 5) (show 0 < m by omega)
   exact ⟨(v / 8 / 5 % m).toNat, by omega, by omega⟩
  rw [hg]
  obtain ⟨w1, w2⟩ := hw ws[g] (List.getElem_mem hgl)
  have hat : atI (ws.map V.str) ((g : Nat) : Int) = some (.str ws[g]) := atI_nat (by rw [List.getElem?_map, List.getElem?_eq_getElem hgl]; rfl)
  refine i_ixL (SqL.of hp) hat ?_
  walk_at "go"
  refine i_slS (small (by omega)) ?_
  walk_at "go"
  refine int_bl ?_
  obtain ⟨b, hb⟩ : ∃ b : Bool, b = decide (((s : Nat) : Int) = 1) := ⟨_, rfl⟩
  rw [<- hb]
  refine i_mulS ⟨by cases b <;> decide, by cases b <;> decide, small (by rw [show (Str.ofString "a").length = 1 by decide +kernel]; cases b <;> decide)⟩ ?_
  rw [mulA]
  have ly : (Txt.slice ws[g] (some (1 : Int)) none).length = s - 1 := by
   have := sl_from (z := ws[g]) (k := 1) (by omega)
   rw [<- ls_len, show (some (1 : Int)) = some ((1 : Nat) : Int) from rfl, this, List.length_drop, ls_len, w2]
  obtain ⟨y, hy, y1, y2, y3⟩ : ∃ y : Str, y = Txt.slice ws[g] (some (1 : Int)) none ++ (if b then ⟨#[97]⟩ else Str.ofString "") /\ IsW m.toNat y /\ 1 <= y.length /\ y.length <= 100 := by
   refine ⟨_, rfl, (w1.from (by omega) (by omega)).app ?_, ?_, ?_⟩
   ·cases b with
    | true => exact IsW.sgn (by omega) (by omega)
    | false => exact IsW.nil
   ·rw [len_app, ly]
    cases b with
    | true => show 1 <= s - 1 + 1; omega
    | false =>
     have : ¬ (((s : Nat) : Int) = 1) := of_decide_eq_false hb.symm
     omega
   ·rw [len_app, ly]
    cases b with
    | true => show s - 1 + 1 <= 100; omega
    | false => rw [show (if false = true then (⟨#[97]⟩ : Str) else Str.ofString "").length = 0 by decide +kernel]; omega
  refine i_addS (small (by rw [<- len_app, <- hy]; omega)) ?_
  rw [<- hy]
  walk_at "go"
  have d1 := Int.emod_nonneg (v / 8 / 20) (show m ≠ 0 by omega)
  have d2 := Int.emod_lt_of_pos (v / 8 / 20) (show 0 < m by omega)
  refine i_ixS (by rw [abcd_len]; decide) (abcd_at d1 d2 h4) ?_
  obtain ⟨c, hc⟩ : ∃ c : Nat, c = (v / 8 / 20 % m).toNat := ⟨_, rfl⟩
  rw [<- hc]
  have lx : (ws[g] ++ (⟨#[97 + c]⟩ : Str)).length = s + 1 := by rw [len_app, w2]; rfl
  refine i_addS (z := ⟨#[97 + c]⟩) (small (by rw [<- len_app]; omega)) ?_
  walk_at "go"
  refine ⟨by show 2 <= sizeLine; decide, fun l nl => ?_⟩
  have s4 := same_new nl (.lst [V.str y, V.str (ws[g] ++ (⟨#[97 + c]⟩ : Str))])
  walk_at "go"
  refine i_put ?_
  walk_at "go"
  obtain ⟨x, hx, x1, x2, x3⟩ : ∃ x : Str, atI [V.str y, V.str (ws[g] ++ (⟨#[97 + c]⟩ : Str))] (v / 8 / 80 % 2) = some (.str x) /\ IsW m.toNat x /\ 1 <= x.length /\ x.length <= 100 := by
   have : v / 8 / 80 % 2 = 0 \/ v / 8 / 80 % 2 = 1 := by omega
   rcases this with e | e <;> rw [e]
   ·exact ⟨y, rfl, y1, y2, y3⟩
   ·exact ⟨_, rfl, w1.app (IsW.sgn (by omega) (by omega)), by omega, by omega⟩
  refine i_ixL (SqL.of upd_same) hx ?_
  walk_at "go"
  refine i_putL (s4 _ _ hp) (by rw [List.length_map]; exact hgl) ?_
  walk_at "go"
  refine fin (ws.set g x) _ (some (.int (v / 8))) (some (.int (g : Nat))) (some (.str ws[g])) (some (.ref l)) (same_upd (hs.trans s4) np) (by rw [upd_same, List.map_set]) (by rw [List.length_set]; exact hl) fun w h => ?_
  rcases List.mem_or_eq_of_mem_set h with h | rfl
  ·exact ⟨(hw w h).1, by rw [(hw w h).2]; omega, by rw [(hw w h).2]; omega⟩
  ·exact ⟨x1, x2, x3⟩
 ·walk_at "go"
  exact fin ws H (some (.int (v / 8))) v7 none none hs hp hl fun w h => ⟨(hw w h).1, by rw [(hw w h).2]; omega, by rw [(hw w h).2]; omega⟩
theorem t_law_rule (vs : List V) (H : Hp) (Q : VK) (E : XK) (h : sp_law_rule K vs H Q E) : tSs (b_law_rule K) (fun _ => E) { nx := fun _ H' => Q .non H', rt := Q } (start ["_law_script", "_law_many", "_law_size_here", "_law_words", "_law_k", "_law_number", "_law_word_here", "_law_at", "_law_near", "_law_one", "_law_some"] vs) H := by
 obtain ⟨a, ns, m, rfl, hS, h63, h1, h4, q⟩ := h
 unfold b_law_rule
 walk_at "go"
 refine ⟨a, ns, rfl, hS, h63, fun s H1 e1 s1 s2 => ?_⟩
 walk_at "go"
 refine ⟨Nat.zero_le _, fun p np => ?_⟩
 walk_at "go"
 have np0 : H p = none := none_of e1 np
 refine loop_rng (fun i σ H' => Same H H' /\ ∃ (ws : List Str) (a4 a5 a6 a7 a8 : Option V), ws.length = i /\ H' p = some (.lst (ws.map V.str)) /\ (∀ w ∈ ws, IsW m.toNat w /\ w.length = s) /\ σ = [some (.ref a), some (.int m), some (.int (s : Nat)), some (.ref p), a4, a5, a6, a7, a8, none, none])
  ⟨e1.trans (same_new np _), [], none, none, none, none, none, rfl, upd_same, (fun w hw => nomatch hw), rfl⟩ (fun i σ H' hi hP => ?_) fun σ H' hP => ?_
 ·obtain ⟨hSm, ws, a4, a5, a6, a7, a8, hl, hpl, hw, rfl⟩ := hP
  unfold b_rl1
  rw [show (0 : Int) + ((i : Nat) : Int) = ((i : Nat) : Int) by omega]
  have next : ∀ (x : Str) (b4 b5 b6 b7 b8 : Option V), IsW m.toNat x -> x.length = s -> Same H (upd H' p (.lst (ws.map V.str ++ [V.str x]))) /\ ∃ (us : List Str) (c4 c5 c6 c7 c8 : Option V), us.length = i + 1 /\ (upd H' p (.lst (ws.map V.str ++ [V.str x]))) p = some (.lst (us.map V.str)) /\ (∀ w ∈ us, IsW m.toNat w /\ w.length = s) /\ [some (.ref a), some (.int m), some (.int (s : Nat)), some (.ref p), b4, b5, b6, b7, b8, none, none] = [some (.ref a), some (.int m), some (.int (s : Nat)), some (.ref p), c4, c5, c6, c7, c8, none, none] := fun x b4 b5 b6 b7 b8 x1 x2 => by
   refine ⟨same_upd hSm np0, ws ++ [x], b4, b5, b6, b7, b8, by rw [List.length_append, hl]; rfl, by rw [upd_same, List.map_append]; rfl, fun w hw' => ?_, rfl⟩
   rcases List.mem_append.mp hw' with h | h
   ·exact hw w h
   ·have e : w = x := by simpa using h
    subst e
    exact ⟨x1, x2⟩
  walk_at "go"
  refine ⟨a, ns, _, rfl, hSm.seq hS, h63, by omega, by omega, fun v v0 v1 => ?_⟩
  walk_at "go"
  refine ⟨v, m, _, rfl, h1, h4, by omega, by omega, fun z hz hzl => ?_⟩
  rw [Int.toNat_natCast] at hzl
  walk_at "go"
  refine br_d (fun c => ?_) fun c => ?_
  ·walk_at "go"
   refine ⟨a, ns, 7, rfl, hSm.seq hS, h63, by decide, by decide, fun u u0 u1 => ?_⟩
   walk_at "go"
   refine br_d (fun _ => ?_) fun _ => ?_
   ·walk_at "go"
    obtain ⟨g, hg, hgl⟩ : ∃ g : Nat, v / 8 % (((s : Nat) : Int) - 1) = ((g : Nat) : Int) /\ g + 2 <= s := by
     have e1 := Int.emod_nonneg (v / 8) (show (((s : Nat) : Int) - 1) ≠ 0 by omega)
     have e2 := Int.emod_lt_of_pos (v / 8) (show (0 : Int) < ((s : Nat) : Int) - 1 by omega)
     exact ⟨(v / 8 % (((s : Nat) : Int) - 1)).toNat, by omega, by omega⟩
    rw [hg]
    refine i_ixS (by rw [abcd_len]; decide) (abcd_at (m := m) (by omega) (by omega) h4) ?_
    rw [Int.toNat_natCast]
    walk_at "go"
    have d1 := Int.emod_nonneg (((i : Nat) : Int) + 1) (show m ≠ 0 by omega)
    have d2 := Int.emod_lt_of_pos (((i : Nat) : Int) + 1) (show 0 < m by omega)
    refine i_ixS (by rw [abcd_len]; decide) (abcd_at d1 d2 h4) ?_
    obtain ⟨d, hd⟩ : ∃ d : Nat, d = ((((i : Nat) : Int) + 1) % m).toNat := ⟨_, rfl⟩
    rw [<- hd]
    obtain ⟨y, hy, y1, y2⟩ : ∃ y : Str, y = (⟨#[97 + i]⟩ : Str) ++ (⟨#[97 + d]⟩ : Str) /\ IsW m.toNat y /\ y.length = 2 := ⟨_, rfl, (IsW.sgn (by omega) (by omega)).app (IsW.sgn (by omega) (by omega)), by rw [len_app]; rfl⟩
    refine i_addS (y := ⟨#[97 + i]⟩) (z := ⟨#[97 + d]⟩) (small (by rw [<- len_app, <- hy]; omega)) ?_
    rw [<- hy]
    walk_at "go"
    refine i_slS (small (by omega)) ?_
    walk_at "go"
    have l1 : (Txt.slice z none (some ((g : Nat) : Int))).length = g := by
     rw [<- ls_len, sl_to, List.length_take, ls_len]
     omega
    have l2 : (Txt.slice z (some ((g + 2 : Nat) : Int)) none).length = s - (g + 2) := by
     rw [<- ls_len, sl_from (by omega), List.length_drop, ls_len, hzl]
    refine i_addS (small (by omega)) ?_
    walk_at "go"
    rw [show ((g : Nat) : Int) + 2 = ((g + 2 : Nat) : Int) by omega]
    refine i_slS (small (by omega)) ?_
    refine i_addS (small (by rw [len_app]; omega)) ?_
    walk_at "go"
    refine i_RL (SqL.of hpl) ?_
    walk_at "go"
    refine i_appendU hpl (by rw [List.length_map, hl]; exact Nat.lt_of_lt_of_le (show i < 100 by omega) (small (by decide))) ?_
    exact next _ _ _ _ _ _ (((hz.to (by omega)).app y1).app (hz.from (by omega) (by omega))) (by rw [len_app, len_app]; omega)
   ·walk_at "go"
    refine i_RL (SqL.of hpl) ?_
    walk_at "go"
    refine i_appendU hpl (by rw [List.length_map, hl]; exact Nat.lt_of_lt_of_le (show i < 100 by omega) (small (by decide))) ?_
    exact next _ _ _ _ _ _ hz hzl
  ·refine brF ?_
   walk_at "go"
   refine i_RL (SqL.of hpl) ?_
   walk_at "go"
   refine i_appendU hpl (by rw [List.length_map, hl]; exact Nat.lt_of_lt_of_le (show i < 100 by omega) (small (by decide))) ?_
   exact next _ _ _ _ _ _ hz hzl
 ·obtain ⟨hSm, ws, a4, a5, a6, a7, a8, hl, hpl, hw, rfl⟩ := hP
  exact t_rl2 hS h63 h1 h4 s1 s2 np0 hSm hpl hl hw q
end
end L2.Na.K82
namespace L2.Na.K82
open PySem PySem.Spec PyProof.Rows L2 L2.L3 L2.Na.K41
def TbB (H : Hp) (p : Addr) (rs : List Addr) (rows : List (List Bool)) : Prop := H p = some (.lst (rs.map V.ref)) /\ rs.length = rows.length /\ ∀ (i : Nat) (r : Addr) (row : List Bool), rs[i]? = some r -> rows[i]? = some row -> H r = some (.lst (row.map V.bl))
theorem TbB.same {H H' : Hp} {p : Addr} {rs : List Addr} {rows : List (List Bool)} (h : TbB H p rs rows) (e : Same H H') : TbB H' p rs rows := ⟨e _ _ h.1, h.2.1, fun i r row a b => e _ _ (h.2.2 i r row a b)⟩
def mat (n : Nat) (f : Nat -> Nat -> Bool) : List (List Bool) := (List.range n).map fun i => (List.range n).map (f i)
theorem mat_len {n : Nat} {f : Nat -> Nat -> Bool} : (mat n f).length = n := by unfold mat; rw [List.length_map, List.length_range]
theorem mat_get {n i : Nat} {f : Nat -> Nat -> Bool} (h : i < n) : (mat n f)[i]? = some ((List.range n).map (f i)) := by
 unfold mat
 rw [List.getElem?_map, List.getElem?_range h]
 rfl
theorem mat_of {n i : Nat} {f : Nat -> Nat -> Bool} {row : List Bool} (h : (mat n f)[i]? = some row) : i < n /\ row = (List.range n).map (f i) := by
 have hi : i < n := by
  have := (List.getElem?_eq_some_iff.mp h).1
  rwa [mat_len] at this
 rw [mat_get hi] at h
 exact ⟨hi, (Option.some.inj h).symm⟩
def stp (n : Nat) (g : Nat -> Nat -> Bool) (u : Nat -> Bool) (k : Nat) : Bool := (List.range n).any fun j => u j && g j k
theorem inV_true : ∀ bs : List Bool, inV (.bl true) (bs.map V.bl) = bs.any id
 | [] => rfl
 | b :: bs => by
  have := inV_true bs
  unfold inV at this ⊢
  rw [List.map_cons, List.any_cons, List.any_cons, this]
  cases b <;> rfl
theorem inV_false : ∀ bs : List Bool, inV (.bl false) (bs.map V.bl) = !bs.all id
 | [] => rfl
 | b :: bs => by
  have := inV_false bs
  unfold inV at this ⊢
  rw [List.map_cons, List.any_cons, List.all_cons, this]
  cases b <;> rfl
theorem flat_bls (bs : List Bool) : (bs.map V.bl).all flatV = true := by
 rw [List.all_map]
 exact List.all_eq_true.mpr fun _ _ => rfl
section
variable {K : Fg}
def sp_law_step (K : Fg) : Sp := fun vs H Q _ => ∃ (p t : Addr) (rs : List Addr) (n : Nat) (u : Nat -> Bool) (g : Nat -> Nat -> Bool), vs = [.ref p, .ref t] /\ n <= 4 /\ H p = some (.lst (((List.range n).map u).map V.bl)) /\ TbB H t rs (mat n g) /\
 ∀ (r : Addr) (H' : Hp), Same H H' -> H r = none -> H' r = some (.lst (((List.range n).map (stp n g u)).map V.bl)) -> Q (.ref r) H'
def b_law_step (K : Fg) : List (SX K) :=
 [set 2 (lst []),
  forS (nam 3) (iRng (len (var 1)) []) [ex (m_append (var 2) (cmp .In (cst (.bl true)) (comp (andE (ix (var 1) (var 0)) [ix (ix (var 3) (var 0)) (var 2)]) (nam 0) (iRng (len (var 1)) []) ["_law_j"] ["_law_one", "_law_k", "_law_row"] [0, 3, 1])))],
  ret (var 2)]
theorem l_law_step : ∀ vs H Q E, sp_law_step K vs H Q E -> vs.length = 2 := by
 rintro vs H Q E ⟨_, _, _, _, _, _, rfl, _⟩
 rfl
theorem t_law_step (vs : List V) (H : Hp) (Q : VK) (E : XK) (h : sp_law_step K vs H Q E) : tSs (b_law_step K) (fun _ => E) { nx := fun _ H' => Q .non H', rt := Q } (start ["_law_one", "_law_row", "_law_found", "_law_k"] vs) H := by
 obtain ⟨p, t, rs, n, u, g, rfl, h4, hp, hT, q⟩ := h
 have hl : (rs.map V.ref).length = n := by rw [List.length_map, hT.2.1, mat_len]
 unfold b_law_step
 walk_at "go"
 refine ⟨Nat.zero_le _, fun R nR => ?_⟩
 have s0 := same_new nR (.lst [])
 have ht0 : SqL K (upd H R (.lst [])) t (rs.map V.ref) := SqL.of (s0 _ _ hT.1)
 walk_at "go"
 rw [hl, Int.toNat_natCast]
 refine loop_rng (fun i σ H' => Same H H' /\ H' R = some (.lst (((List.range i).map (stp n g u)).map V.bl)) /\ ∃ a3 : Option V, σ = [some (.ref p), some (.ref t), some (.ref R), a3]) ⟨s0, upd_same, none, rfl⟩ (fun i σ H' hi hP => ?_) fun σ H' hP => ?_
 ·obtain ⟨hS, hO, a3, rfl⟩ := hP
  rw [show (0 : Int) + ((i : Nat) : Int) = ((i : Nat) : Int) by omega]
  have ht1 : SqL K H' t (rs.map V.ref) := SqL.of (hS _ _ hT.1)
  walk_at "go"
  refine i_RL (SqL.of hO) ?_
  walk_at "go"
  rw [hl, Int.toNat_natCast]
  intro D hD
  refine comp_rng (fun j => .bl (u j && g j i)) hD (small (by omega)) (fun j H1 Q' hj s1 fin => ?_) fun H1 s1 hO1 => ?_
  ·rw [show (0 : Int) + ((j : Nat) : Int) = ((j : Nat) : Int) by omega]
   have hS1 := hS.trans s1
   obtain ⟨r, hr⟩ : ∃ r, rs[j]? = some r := ⟨_, List.getElem?_eq_getElem (by rw [List.length_map] at hl; omega)⟩
   have hrow := hS1 _ _ (hT.2.2 j r _ hr (mat_get hj))
   walk_at "go"
   refine i_ixL (v := .bl (u j)) (SqL.of (hS1 _ _ hp)) (atI_nat (by rw [List.getElem?_map, List.getElem?_map, List.getElem?_range hj]; rfl)) ?_
   walk_at "go"
   have fj := fin H1 (Same.refl _)
   cases hu : u j with
   | false =>
    rw [hu] at fj
    refine brF ?_
    exact fj
   | true =>
    rw [hu] at fj
    refine brT ?_
    walk_at "go"
    refine i_ixL (v := .ref r) (SqL.of (hS1 _ _ hT.1)) (atI_nat (by rw [List.getElem?_map, hr]; rfl)) ?_
    walk_at "go"
    refine i_ixL (v := .bl (g j i)) (SqL.of hrow) (atI_nat (by rw [List.getElem?_map, List.getElem?_map, List.getElem?_range hi]; rfl)) ?_
    exact fj
  ·have e1 : ((List.range n).map fun j => V.bl (u j && g j i)) = ((List.range n).map fun j => u j && g j i).map V.bl := by rw [List.map_map]; rfl
   rw [e1] at hO1
   refine i_in (SqL.of hO1) rfl (flat_bls _) ?_
   have e2 : ((List.range n).map fun j => u j && g j i).any id = stp n g u i := by
    unfold stp
    rw [List.any_map]
    rfl
   rw [inV_true, e2]
   walk_at "go"
   refine i_appendU (s1 _ _ hO) (by rw [List.length_map, List.length_map, List.length_range]; exact Nat.lt_of_lt_of_le (show i < 100 by omega) (small (by decide))) ?_
   refine ⟨same_upd (hS.trans s1) nR, ?_, _, rfl⟩
   rw [upd_same, List.range_succ, List.map_append, List.map_append]
   rfl
 ·obtain ⟨hS, hO, a3, rfl⟩ := hP
  walk_at "go"
  exact q R H' hS nR hO
theorem tbB_map {σ : St} {H : Hp} {Q : VK} {p D : Addr} {rs : List Addr} {n : Nat} {f f' : Nat -> Nat -> Bool} {te : TE} {is : List Nat} (hT : TbB H p rs (mat n f)) (hD : H D = none) (hz : n <= 1000)
  (step : ∀ i r H1 Q', i < n -> H1 r = some (.lst (((List.range n).map (f i)).map V.bl)) -> Same H H1 -> (∀ y H3, Same H1 H3 -> H1 y = none -> H3 y = some (.lst (((List.range n).map (f' i)).map V.bl)) -> Q' (.ref y) H3) -> te (some (.ref r) :: capV is σ) H1 Q')
  (fin : ∀ H1 rs', Same H H1 -> TbB H1 D rs' (mat n f') -> Q (.ref D) H1) : CompBodyI (Itl K p) (nam 0 : TX K).g (cT (none : Option (EX K))) te 1 is σ D H Q := by
 have hl : (rs.map V.ref).length = n := by rw [List.length_map, hT.2.1, mat_len]
 refine comp_rel (yl_list (xs := rs.map V.ref)) (fun i y H1 => ∃ r, y = .ref r /\ r ≠ D /\ H1 r = some (.lst (((List.range n).map (f' i)).map V.bl))) hD (fun H1 hS => SqL.of (hS _ _ hT.1)) (small (by omega)) (fun i y H1 H2 hh => ?_) (fun i x H1 Q' hx hS hDs fin => ?_) fun H1 ys hS hO hl2 hr => ?_
 ·rintro ⟨r, e1, e2, e4⟩
  exact ⟨r, e1, e2, hh r _ e2 e4⟩
 ·rw [List.getElem?_map] at hx
  cases e : rs[i]? with
  | none => rw [e] at hx; cases hx
  | some r =>
   rw [e] at hx
   cases hx
   have hi : i < n := by have := (List.getElem?_eq_some_iff.mp e).1; rw [List.length_map] at hl; omega
   refine step i r H1 _ hi (hS _ _ (hT.2.2 i r _ e (mat_get hi))) hS fun y H3 s3 ny hy => ?_
   obtain ⟨o, ho⟩ := hDs
   exact fin (.ref y) H3 s3 ⟨y, rfl, (ne_of_none ho ny).symm, hy⟩
 ·obtain ⟨rs', rfl⟩ := refs_of ys fun y hy => by
   obtain ⟨i, hi⟩ := List.getElem?_of_mem hy
   obtain ⟨r, e, _⟩ := hr i y hi
   exact ⟨r, e⟩
  refine fin H1 rs' hS ⟨hO, by rw [List.length_map] at hl2; rw [hl2, hl, mat_len], fun i r row hi hrow => ?_⟩
  obtain ⟨r', e1, _, e4⟩ := hr i (.ref r) (by rw [List.getElem?_map, hi]; rfl)
  cases e1
  obtain ⟨_, rfl⟩ := mat_of hrow
  exact e4
def wdB (ws : List Str) (i j : Nat) : Bool := decide (97 + j ∈ ls (ws[i]?.getD (⟨#[]⟩ : Str)))
def nowB (ws : List Str) : Nat -> Nat -> Nat -> Bool
 | 0, i => wdB ws i
 | t + 1, i => stp ws.length (wdB ws) (nowB ws t i)
theorem wdB_iff {ws : List Str} {i j : Nat} (hi : i < ws.length) : wdB ws i j = true ↔ Rw ws i j := by
 unfold wdB Rw
 rw [List.getElem?_eq_getElem hi]
 constructor
 ·intro h
  exact ⟨_, rfl, of_decide_eq_true h⟩
 ·rintro ⟨w, hw, h⟩
  cases hw
  exact decide_eq_true h
theorem nowB_iff {ws : List Str} (hU : Ru ws) : ∀ (t i j : Nat), i < ws.length -> (nowB ws t i j = true ↔ Mx.Rch (Rw ws) (t + 1) i j)
 | 0, i, j, hi => by
  show wdB ws i j = true ↔ ∃ m, Rw ws i m /\ m = j
  rw [wdB_iff hi]
  exact ⟨fun h => ⟨j, h, rfl⟩, fun ⟨m, h, e⟩ => e ▸ h⟩
 | t + 1, i, j, hi => by
  show stp ws.length (wdB ws) (nowB ws t i) j = true ↔ _
  unfold stp
  rw [List.any_eq_true]
  constructor
  ·rintro ⟨k, hk, h⟩
   rw [Bool.and_eq_true] at h
   have hk' := List.mem_range.mp hk
   exact Mx.Rch.add (b := 1) ((nowB_iff hU t i k hi).mp h.1) ⟨j, (wdB_iff hk').mp h.2, rfl⟩
  ·intro h
   obtain ⟨m, g1, m2, g2, g3⟩ := Mx.Rch.cut (a := t + 1) (b := 1) h
   have e3 : m2 = j := g3
   subst e3
   have ml := rch_lt hU hi g1
   exact ⟨m, List.mem_range.mpr ml, by rw [Bool.and_eq_true]; exact ⟨(nowB_iff hU t i m hi).mpr g1, (wdB_iff ml).mpr g2⟩⟩
theorem now_mx {ws : List Str} (hU : Ru ws) : decide (((((List.range ws.length).filter fun i => !((List.range ws.length).map (nowB ws 9 i)).all id).length : Nat) : Int) = 0) = mxB ws := by
 rw [Bool.eq_iff_iff, mx_full hU, decide_eq_true_iff]
 have key : (((List.range ws.length).filter fun i => !((List.range ws.length).map (nowB ws 9 i)).all id).length = 0) ↔ ∀ i, i < ws.length -> ∀ j, j < ws.length -> nowB ws 9 i j = true := by
  rw [List.length_eq_zero_iff, List.filter_eq_nil_iff]
  constructor
  ·intro h i hi j hj
   have := h i (List.mem_range.mpr hi)
   rw [Bool.not_eq_true', Bool.not_eq_false, List.all_map, List.all_eq_true] at this
   exact this j (List.mem_range.mpr hj)
  ·intro h i hi
   rw [Bool.not_eq_true', Bool.not_eq_false, List.all_map, List.all_eq_true]
   exact fun j hj => h i (List.mem_range.mp hi) j (List.mem_range.mp hj)
 rw [show (((((List.range ws.length).filter fun i => !((List.range ws.length).map (nowB ws 9 i)).all id).length : Nat) : Int) = 0) ↔ (((List.range ws.length).filter fun i => !((List.range ws.length).map (nowB ws 9 i)).all id).length = 0) by omega, key]
 constructor
 ·intro h i j hi hj
  exact (nowB_iff hU 9 i j hi).mp (h i hi j hj)
 ·intro h i hi j hj
  exact (nowB_iff hU 9 i j hi).mpr (h i j hi hj)
def sp_law_mixes (K : Fg) : Sp := fun vs H Q _ => ∃ (a : Addr) (ws : List Str), vs = [.ref a] /\ Rt4 K H a ws /\ Ru ws /\ ∀ H', Same H H' -> Q (.bl (mxB ws)) H'
def b_law_mixes (K : Fg) : List (SX K) :=
 [set 1 (len (var 0)),
  setC 2 (compC none (comp (cmp .In (var 0) (var 1)) (nam 0) (iSeq (slc (cst (.str "abcd")) none (some (var 1)))) ["_law_letter"] ["_law_word_here"] [0]) (nam 0) (iSeq (var 0)) ["_law_word_here"] ["_law_many"] [1]),
  set 3 (var 2),
  forS (nam 4) (iRng (cst (.int 9)) []) [setC 3 (compC none (call "_law_step" (sp_law_step K) [var 0, var 1]) (nam 0) (iSeq (var 3)) ["_law_one"] ["_law_row"] [2])],
  ret (cmp .Eq (len (compI (var 0) (cmp .In (cst (.bl false)) (var 0)) (nam 0) (iSeq (var 3)) ["_law_one"] [] [])) (cst (.int 0)))]
theorem l_law_mixes : ∀ vs H Q E, sp_law_mixes K vs H Q E -> vs.length = 1 := by
 rintro vs H Q E ⟨_, _, rfl, _⟩
 rfl
theorem t_law_mixes (vs : List V) (H : Hp) (Q : VK) (E : XK) (h : sp_law_mixes K vs H Q E) : tSs (b_law_mixes K) (fun _ => E) { nx := fun _ H' => Q .non H', rt := Q } (start ["_law_rule_here", "_law_many", "_law_row", "_law_now", "_law_turn"] vs) H := by
 obtain ⟨a, ws, rfl, hR, hU, q⟩ := h
 have h1 := hU.pos
 have h4 := hU.four
 have htp := hR.tp
 have hlen : (ws.map V.str).length = ws.length := List.length_map _
 unfold b_law_mixes
 walk_at "go"
 rw [hlen]
 refine i_itT hR.tp ?_
 intro D hD
 refine comp_tupR (fun i y H1 => ∃ r, y = .ref r /\ r ≠ D /\ H1 r = some (.lst (((List.range ws.length).map (wdB ws i)).map V.bl))) hR.tp hD (small (by omega)) (fun i y H1 H2 hh => ?_) (fun i x H1 Q' hx hS hDs fin => ?_) fun H1 ys s1 hO hl hr => ?_
 ·rintro ⟨r, e1, e2, e4⟩
  exact ⟨r, e1, e2, hh r _ e2 e4⟩
 ·obtain ⟨w, hw, hw2⟩ : ∃ w, ws[i]? = some w /\ x = .str w := by
   rw [List.getElem?_map] at hx
   cases e : ws[i]? with
   | none => rw [e] at hx; cases hx
   | some w => rw [e] at hx; exact ⟨w, rfl, (Option.some.inj hx).symm⟩
  subst hw2
  walk_at "go"
  refine i_slS (by rw [abcd_len]; decide) ?_
  walk_at "go"
  intro D2 hD2
  have hk : ls (known ((ws.length : Nat) : Int)) = (List.range ws.length).map (97 + ·) := by rw [ls_known (by omega) (by omega), Int.toNat_natCast]
  refine comp_str (z := known ((ws.length : Nat) : Int)) (fun c => .bl (decide (c ∈ ls w))) hD2 (small (by rw [known_len (by omega) (by omega)]; omega)) (fun j c H2 Q2 hc s2 fin2 => ?_) fun H2 s2 hO2 => ?_
  ·walk_at "go"
   exact fin2 H2 (Same.refl _)
  ·obtain ⟨o, ho⟩ := hDs
   refine fin (.ref D2) H2 s2 ⟨D2, rfl, (ne_of_none ho hD2).symm, ?_⟩
   rw [hO2, show (known ((ws.length : Nat) : Int)).cps.toList = ls (known ((ws.length : Nat) : Int)) from rfl, hk, List.map_map, List.map_map]
   unfold wdB
   rw [hw]
   rfl
 ·obtain ⟨rs, rfl⟩ := refs_of ys fun y hy => by
   obtain ⟨i, hi⟩ := List.getElem?_of_mem hy
   obtain ⟨r, e, _⟩ := hr i y hi
   exact ⟨r, e⟩
  have T1 : TbB H1 D rs (mat ws.length (wdB ws)) := ⟨hO, by rw [List.length_map] at hl; rw [hl, hlen, mat_len], fun i r row hi hrow => by
   obtain ⟨r', e1, _, e4⟩ := hr i (.ref r) (by rw [List.getElem?_map, hi]; rfl)
   cases e1
   obtain ⟨_, rfl⟩ := mat_of hrow
   exact e4⟩
  walk_at "go"
  refine loop_rng (fun t σ H2 => Same H1 H2 /\ ∃ (p : Addr) (ps : List Addr) (a4 : Option V), TbB H2 p ps (mat ws.length (nowB ws t)) /\ σ = [some (.ref a), some (.int (ws.length : Nat)), some (.ref D), some (.ref p), a4]) ⟨Same.refl _, D, rs, none, T1, rfl⟩ (fun t σ H2 ht hP => ?_) fun σ H2 hP => ?_
  ·obtain ⟨s2, p, ps, a4, T2, rfl⟩ := hP
   walk_at "go"
   refine i_itL (SqL.of T2.1) ?_
   intro D3 hD3
   refine tbB_map (f' := nowB ws (t + 1)) T2 hD3 (by omega) (fun i r H3 Q' hi hrow s3 fin => ?_) fun H3 rs3 s3 T3 => ?_
   ·walk_at "go"
    exact ⟨r, D, rs, ws.length, _, _, rfl, h4, hrow, T1.same (s2.trans s3), fun y H4 s4 ny hy => fin y H4 s4 ny hy⟩
   ·exact ⟨s2.trans s3, D3, rs3, _, T3, rfl⟩
  ·obtain ⟨s2, p, ps, a4, T2, rfl⟩ := hP
   have hpl : (ps.map V.ref).length = ws.length := by rw [List.length_map, T2.2.1, mat_len]
   walk_at "go"
   refine i_itL (SqL.of T2.1) ?_
   intro D3 hD3
   refine comp_base (yl_list (xs := ps.map V.ref)) (fun i => !((List.range ws.length).map (nowB ws 9 i)).all id) (fun i => ((ps.map V.ref)[i]?).getD .non) hD3 (fun H3 hS => SqL.of (hS _ _ T2.1)) (small (by omega)) (fun i x H3 QB hx s3 fin => ?_) (fun i x H3 Q' hx hk s3 fin => ?_) fun H3 s3 hO3 => ?_
   ·rw [List.getElem?_map] at hx
    cases e : ps[i]? with
    | none => rw [e] at hx; cases hx
    | some r =>
     rw [e] at hx
     cases hx
     have hi : i < ws.length := by have := (List.getElem?_eq_some_iff.mp e).1; rw [List.length_map] at hpl; omega
     have hrow := s3 _ _ (T2.2.2 i r _ e (mat_get hi))
     walk_at "go"
     refine j_in (SqL.of hrow) rfl (flat_bls _) ?_
     rw [inV_false]
     exact fin H3 (Same.refl _)
   ·rw [hx] at fin
    walk_at "go"
    exact fin H3 (Same.refl _)
   ·refine i_lenL (SqL.of hO3) ?_
    walk_at "go"
    rw [List.length_map, hpl, now_mx hU]
    exact q H3 ((s1.trans s2).trans s3)
end
end L2.Na.K82
namespace L2.Na.K82
open PySem PySem.Spec PyProof.Rows L2 L2.L3 L2.Na.Sh L2.Na.K41
section
variable {K : Fg}
def sp_law_divisor (K : Fg) : Sp := sp_greatest_divisor K
def b_law_divisor (K : Fg) : List (SX K) :=
 [whS (cmp .Gt (var 1) (cst (.int 0))) [par 0 1 (var 1) (bin .Mod (var 0) (var 1))],
  ret (var 0)]
theorem l_law_divisor : ∀ vs H Q E, sp_law_divisor K vs H Q E -> vs.length = 2 := l_greatest_divisor
theorem t_law_divisor (vs : List V) (H : Hp) (Q : VK) (E : XK) (h : sp_law_divisor K vs H Q E) : tSs (b_law_divisor K) (fun _ => E) { nx := fun _ H' => Q .non H', rt := Q } (start ["_law_one", "_law_other"] vs) H := by
 obtain ⟨a, b, rfl, q⟩ := h
 unfold b_law_divisor
 walk_at "go"
 refine loop_wh (fun m σ H1 => H1 = H /\ ∃ (x y : Nat), σ = [some (.int (x : Nat)), some (.int (y : Nat))] /\ m = y /\ Nat.gcd x y = Nat.gcd a b) (m := b) ⟨rfl, a, b, rfl, rfl, rfl⟩ ?_
 rintro m σ H1 ⟨rfl, x, y, rfl, rfl, hg⟩
 walk_at "go"
 refine br_d (fun c => ?_) fun c => ?_
 ·refine wh_go ?_
  have cy : 0 < m := by omega
  refine i_seq ?_
  refine i_par ?_
  walk_at "go"
  refine ⟨_, _, rfl, ?_⟩
  walk_at "go"
  refine ⟨x % m, Nat.mod_lt _ cy, rfl, m, x % m, ?_, rfl, by rw [gcd_turn]; exact hg⟩
  rw [<- Int.natCast_emod]
  rfl
 ·walk_at "go"
  have e : m = 0 := by omega
  subst e
  rw [Nat.gcd_zero_right] at hg
  rw [hg]
  exact q
def sp_law_fraction (K : Fg) : Sp := fun vs H Q _ => ∃ (r : Addr) (t : Nat × Nat), vs = [.ref r] /\ H r = some (.tup [.int (t.1 : Nat), .int (t.2 : Nat)]) /\ 0 < t.1 /\ 0 < t.2 /\ Nat.gcd t.1 t.2 = 1 /\ Q (.bl true) H
def b_law_fraction (K : Fg) : List (SX K) :=
 [ifS (orE (notE (isi (var 0) tyTuple)) [cmp .NotEq (len (var 0)) (cst (.int 2))]) [ret (cst (.bl false))] [],
  setT (unp [1, 2]) (var 0),
  ifS (orE (notE (call "_law_whole" (sp_law_whole K) [var 1])) [notE (call "_law_whole" (sp_law_whole K) [var 2]), cmp .Lt (var 1) (cst (.int 1)), cmp .Lt (var 2) (cst (.int 1))]) [ret (cst (.bl false))] [],
  ret (cmp .Eq (call "_law_divisor" (sp_law_divisor K) [var 1, var 2]) (cst (.int 1)))]
theorem l_law_fraction : ∀ vs H Q E, sp_law_fraction K vs H Q E -> vs.length = 1 := by
 rintro vs H Q E ⟨_, _, rfl, _⟩
 rfl
theorem t_law_fraction (vs : List V) (H : Hp) (Q : VK) (E : XK) (h : sp_law_fraction K vs H Q E) : tSs (b_law_fraction K) (fun _ => E) { nx := fun _ H' => Q .non H', rt := Q } (start ["_law_found", "_law_top", "_law_low"] vs) H := by
 obtain ⟨r, t, rfl, hr, h1, h2, hg, q⟩ := h
 unfold b_law_fraction
 walk_at "go"
 refine ⟨_, _, TyOf.tup hr, kTupT, ?_⟩
 walk_at "go"
 refine brF ?_
 walk_at "go"
 refine i_lenT (SqT.of hr) ?_
 walk_at "go"
 refine br_n (fun c => absurd rfl c) fun _ => ?_
 walk_at "go"
 refine i_setT ?_
 walk_at "go"
 refine i_unp2 (SqT.of hr) ?_
 walk_at "go"
 refine ⟨_, rfl, ?_⟩
 walk_at "go"
 refine brF ?_
 walk_at "go"
 refine ⟨_, rfl, ?_⟩
 walk_at "go"
 refine brF ?_
 walk_at "go"
 refine br_d (fun c => absurd c (by omega)) fun _ => ?_
 walk_at "go"
 refine br_d (fun c => absurd c (by omega)) fun _ => ?_
 walk_at "go"
 refine ⟨t.1, t.2, rfl, ?_⟩
 walk_at "go"
 rw [hg]
 exact q
end
end L2.Na.K82
namespace L2.Na.K82
open PySem PySem.Spec PyProof.Rows L2 L2.L3
section
variable {K : Fg}
theorem kTupB : PySem.W.kitOne K (.type "tuple") (.type "bool") = some false := by kernel_rfl
theorem kTupI : PySem.W.kitOne K (.type "tuple") (.type "int") = some false := by kernel_rfl
theorem kTupS : PySem.W.kitOne K (.type "tuple") (.type "str") = some false := by kernel_rfl
theorem kTupL : PySem.W.kitOne K (.type "tuple") (.type "list") = some false := by kernel_rfl
theorem kLstB : PySem.W.kitOne K (.type "list") (.type "bool") = some false := by kernel_rfl
theorem kLstI : PySem.W.kitOne K (.type "list") (.type "int") = some false := by kernel_rfl
theorem kLstS : PySem.W.kitOne K (.type "list") (.type "str") = some false := by kernel_rfl
def sp_law_same00 (K : Fg) : Sp := fun vs H Q _ => ∃ i : Int, vs = [.int i, .int i] /\ Q (.bl true) H
def sp_law_same0 (K : Fg) : Sp := fun vs H Q _ => ∃ (p r : Addr) (xs : List Int), vs = [.ref p, .ref r] /\ H p = some (.tup (xs.map V.int)) /\ H r = some (.tup (xs.map V.int)) /\ ∀ H', Same H H' -> Q (.bl true) H'
def sp_law_same (K : Fg) : Sp := fun vs H Q _ => ∃ (p r : Addr) (qs us : List Addr) (ts : List (Nat × Nat)), vs = [.ref p, .ref r] /\ FrR H p qs ts /\ FrR H r us ts /\ ∀ H', Same H H' -> Q (.bl true) H'
def b_sm (K : Fg) : List (SX K) :=
 [ifS (cmp .Is (var 1) (cst .non)) [ret (cmp .Is (var 0) (cst .non))] [],
  ifS (isi (var 1) tyBool) [ret (andE (isi (var 0) tyBool) [cmp .Eq (var 0) (var 1)])] [],
  ifS (isi (var 1) tyInt) [ret (andE (call "_law_whole" (sp_law_whole K) [var 0]) [cmp .Eq (var 0) (var 1)])] [],
  ifS (isi (var 1) tyStr) [ret (andE (isi (var 0) tyStr) [cmp .Eq (var 0) (var 1)])] []]
def b_sm2 (K : Fg) (z : IX K) (sp : Sp) : List (SX K) := b_sm K ++
 [ifS (orE (andE (isi (var 1) tyTuple) [notE (isi (var 0) tyTuple)]) [andE (isi (var 1) tyList) [notE (isi (var 0) tyList)]]) [ret (cst (.bl false))] [],
  ifS (cmp .NotEq (len (var 0)) (len (var 1))) [ret (cst (.bl false))] [],
  forS (unp [2, 3]) z [ifS (notE (call "_law_same" sp [var 2, var 3])) [ret (cst (.bl false))] []],
  ret (cst (.bl true))]
def b_law_same00 (K : Fg) : List (SX K) := b_sm K ++ [nev, nev, nev, nev]
def b_law_same0 (K : Fg) : List (SX K) := b_sm2 K (iZipT (var 0) (var 1)) (sp_law_same00 K)
def b_law_same (K : Fg) : List (SX K) := b_sm2 K (iZip (var 0) (var 1)) (sp_law_same0 K)
theorem l_law_same00 : ∀ vs H Q E, sp_law_same00 K vs H Q E -> vs.length = 2 := by
 rintro vs H Q E ⟨_, rfl, _⟩
 rfl
theorem l_law_same0 : ∀ vs H Q E, sp_law_same0 K vs H Q E -> vs.length = 2 := by
 rintro vs H Q E ⟨_, _, _, rfl, _⟩
 rfl
theorem l_law_same : ∀ vs H Q E, sp_law_same K vs H Q E -> vs.length = 2 := by
 rintro vs H Q E ⟨_, _, _, _, _, rfl, _⟩
 rfl
theorem t_law_same00 (vs : List V) (H : Hp) (Q : VK) (E : XK) (h : sp_law_same00 K vs H Q E) : tSs (b_law_same00 K) (fun _ => E) { nx := fun _ H' => Q .non H', rt := Q } (start ["_law_found", "_law_due", "_law_one", "_law_other"] vs) H := by
 obtain ⟨i, rfl, q⟩ := h
 unfold b_law_same00 b_sm
 simp only [List.cons_append, List.nil_append]
 walk_at "go"
 rw [dNon (by intro z; cases z)]
 refine brF ?_
 walk_at "go"
 refine ⟨_, _, TyOf.int i, kIntB, ?_⟩
 walk_at "go"
 refine brF ?_
 walk_at "go"
 refine ⟨_, _, TyOf.int i, kIntI, ?_⟩
 walk_at "go"
 refine brT ?_
 walk_at "go"
 refine ⟨i, rfl, ?_⟩
 walk_at "go"
 refine brT ?_
 walk_at "go"
 rw [decide_eq_true rfl]
 exact q
theorem t_law_same0 (vs : List V) (H : Hp) (Q : VK) (E : XK) (h : sp_law_same0 K vs H Q E) : tSs (b_law_same0 K) (fun _ => E) { nx := fun _ H' => Q .non H', rt := Q } (start ["_law_found", "_law_due", "_law_one", "_law_other"] vs) H := by
 obtain ⟨p, r, xs, rfl, hp, hr, q⟩ := h
 unfold b_law_same0 b_sm2 b_sm
 simp only [List.cons_append, List.nil_append]
 walk_at "go"
 rw [dNon (by intro z; cases z)]
 refine brF ?_
 walk_at "go"
 refine ⟨_, _, TyOf.tup hr, kTupB, ?_⟩
 walk_at "go"
 refine brF ?_
 walk_at "go"
 refine ⟨_, _, TyOf.tup hr, kTupI, ?_⟩
 walk_at "go"
 refine brF ?_
 walk_at "go"
 refine ⟨_, _, TyOf.tup hr, kTupS, ?_⟩
 walk_at "go"
 refine brF ?_
 walk_at "go"
 refine ⟨_, _, TyOf.tup hr, kTupT, ?_⟩
 walk_at "go"
 refine brT ?_
 walk_at "go"
 refine ⟨_, _, TyOf.tup hp, kTupT, ?_⟩
 walk_at "go"
 refine brF ?_
 walk_at "go"
 refine ⟨_, _, TyOf.tup hr, kTupL, ?_⟩
 walk_at "go"
 refine brF ?_
 refine brF ?_
 walk_at "go"
 refine i_lenT (SqT.of hp) ?_
 walk_at "go"
 refine i_lenT (SqT.of hr) ?_
 walk_at "go"
 refine br_n (fun c => absurd rfl c) fun _ => ?_
 walk_at "go"
 refine i_zipT ?_
 walk_at "go"
 refine i_zipTT hp hr ?_
 refine loop_zipT hp hr (Nat.le_refl _) (fun i σ => ∃ a2 a3, σ = [some (.ref p), some (.ref r), a2, a3]) ⟨none, none, rfl⟩ (fun i x y σ1 H1 hx1 hy hP hS => ?_) fun σ1 H1 hP hS => ?_
 ·obtain ⟨a2, a3, rfl⟩ := hP
  rw [hx1] at hy
  cases hy
  obtain ⟨k, _, rfl⟩ := map_get hx1
  walk_at "go"
  refine ⟨k, rfl, ?_⟩
  walk_at "go"
  refine brF ?_
  walk_at "go"
  exact ⟨⟨_, _, rfl⟩, hS⟩
 ·obtain ⟨a2, a3, rfl⟩ := hP
  walk_at "go"
  exact q H1 hS
theorem t_law_same (vs : List V) (H : Hp) (Q : VK) (E : XK) (h : sp_law_same K vs H Q E) : tSs (b_law_same K) (fun _ => E) { nx := fun _ H' => Q .non H', rt := Q } (start ["_law_found", "_law_due", "_law_one", "_law_other"] vs) H := by
 obtain ⟨p, r, qs, us, ts, rfl, hF, hG, q⟩ := h
 have hp := hF.1
 have hr := hG.1
 unfold b_law_same b_sm2 b_sm
 simp only [List.cons_append, List.nil_append]
 walk_at "go"
 rw [dNon (by intro z; cases z)]
 refine brF ?_
 walk_at "go"
 refine ⟨_, _, TyOf.lst hr, kLstB, ?_⟩
 walk_at "go"
 refine brF ?_
 walk_at "go"
 refine ⟨_, _, TyOf.lst hr, kLstI, ?_⟩
 walk_at "go"
 refine brF ?_
 walk_at "go"
 refine ⟨_, _, TyOf.lst hr, kLstS, ?_⟩
 walk_at "go"
 refine brF ?_
 walk_at "go"
 refine ⟨_, _, TyOf.lst hr, kLstT, ?_⟩
 walk_at "go"
 refine brF ?_
 walk_at "go"
 refine brF ?_
 walk_at "go"
 refine ⟨_, _, TyOf.lst hr, kLstL, ?_⟩
 walk_at "go"
 refine brT ?_
 walk_at "go"
 refine ⟨_, _, TyOf.lst hp, kLstL, ?_⟩
 walk_at "go"
 refine brF ?_
 walk_at "go"
 refine i_lenL (SqL.of hp) ?_
 walk_at "go"
 refine i_lenL (SqL.of hr) ?_
 walk_at "go"
 have le : (qs.map V.ref).length = (us.map V.ref).length := by rw [List.length_map, List.length_map, hF.2.1, hG.2.1]
 refine br_n (fun c => absurd (by rw [le]) c) fun _ => ?_
 walk_at "go"
 refine i_zipL (SqL.of hp) (SqL.of hr) ?_
 refine loop_zip (SqL.of hp) (SqL.of hr) (fun i σ => ∃ a2 a3, σ = [some (.ref p), some (.ref r), a2, a3]) ⟨none, none, rfl⟩ (fun i x y σ1 H1 hx hy hP hS => ?_) fun σ1 H1 hP hS => ?_
 ·obtain ⟨a2, a3, rfl⟩ := hP
  rw [List.getElem?_map] at hx hy
  cases e1 : qs[i]? with
  | none => rw [e1] at hx; cases hx
  | some q1 =>
   cases e2 : us[i]? with
   | none => rw [e2] at hy; cases hy
   | some u1 =>
    rw [e1] at hx
    rw [e2] at hy
    cases hx
    cases hy
    have hi : i < ts.length := by have := (List.getElem?_eq_some_iff.mp e1).1; have := hF.2.1; omega
    have ht := List.getElem?_eq_getElem hi
    walk_at "go"
    refine ⟨q1, u1, [((ts[i].1 : Nat) : Int), ((ts[i].2 : Nat) : Int)], rfl, hS _ _ (hF.2.2 i q1 _ e1 ht), hS _ _ (hG.2.2 i u1 _ e2 ht), fun H2 s2 => ?_⟩
    walk_at "go"
    refine brF ?_
    walk_at "go"
    exact ⟨⟨_, _, rfl⟩, hS.trans s2⟩
 ·obtain ⟨a2, a3, rfl⟩ := hP
  walk_at "go"
  exact q H1 hS
end
end L2.Na.K82
namespace L2.Na.K82
open PySem PySem.Spec PyProof.Rows L2 L2.L3 L2.Na.Sh L2.Na.K41
theorem bt_app : ∀ (xs : List (Nat × Nat)) (y : Nat × Nat) (b : Nat), bt (xs ++ [y]) b = bt xs b * y.2 / Nat.gcd (bt xs b) y.2
 | [], y, b => rfl
 | x :: xs, y, b => bt_app xs y _
section
variable {K : Fg}
def sp_law_good (K : Fg) : Sp := fun vs H Q _ => ∃ (p a : Addr) (qs : List Addr) (ws : List Str), vs = [.ref p, .ref a] /\ FrR H p qs (shs ws) /\ Rt4 K H a ws /\ Ru ws /\ osz ws = true /\ mxB ws = true /\ ∀ H', Same H H' -> Q (.bl true) H'
def b_gd2 (K : Fg) : List (SX K) :=
 [forS (nam 7) (iRng (len (var 1)) []) [set 8 (ix (cst (.str "abcd")) (var 7)),
   set 9 (sum (comp (bin .Mult (ix (var 1) (var 0)) (m_count (ix (var 3) (var 0)) (var 2))) (nam 0) (iRng (len (var 1)) []) ["_law_j"] ["_law_parts", "_law_letter", "_law_rule_here"] [6, 8, 1])),
   ifS (cmp .NotEq (bin .Mult (ix (var 6) (var 7)) (len (ix (var 1) (cst (.int 0))))) (var 9)) [ret (cst (.bl false))] []],
  ret (cmp .Eq (sum (var 6)) (var 3))]
def b_law_good (K : Fg) : List (SX K) :=
 ifS (orE (notE (isi (var 0) tyList)) [cmp .NotEq (len (var 0)) (len (var 1))]) [ret (cst (.bl false))] [] ::
  forS (nam 2) (iSeq (var 0)) [ifS (notE (call "_law_fraction" (sp_law_fraction K) [var 2])) [ret (cst (.bl false))] []] ::
  set 3 (cst (.int 1)) ::
  forS (unp [4, 5]) (iSeq (var 0)) [set 3 (bin .FloorDiv (bin .Mult (var 3) (var 5)) (call "_law_divisor" (sp_law_divisor K) [var 3, var 5]))] ::
  setC 6 (compC none (bin .Mult (var 0) (bin .FloorDiv (var 2) (var 1))) (unp [0, 1]) (iSeq (var 0)) ["_law_top", "_law_low"] ["_law_bottom"] [3]) :: b_gd2 K
theorem l_law_good : ∀ vs H Q E, sp_law_good K vs H Q E -> vs.length = 2 := by
 rintro vs H Q E ⟨_, _, _, _, rfl, _⟩
 rfl
theorem t_gd2 {H : Hp} {Q : VK} {E : XK} {p a D : Addr} {ws : List Str} {B : Nat} {f : Nat -> Nat} {v2 v4 v5 : Option V} (hR : Rt4 K H a ws) (hU : Ru ws) (hD : H D = some (.lst ((List.range ws.length).map fun i => V.int ((f i : Nat) : Int))))
  (h1 : ∀ k, k < ws.length -> ((f k : Nat) : Int) * ((fsz ws : Nat) : Int) = ((List.range ws.length).map fun j => ((f j : Nat) : Int) * ent (rowsOf ws) j k).sum) (h2 : ((List.range ws.length).map f).sum = B) (q : ∀ H', Same H H' -> Q (.bl true) H') :
  tSs (b_gd2 K) (fun _ => E) { nx := fun _ H' => Q .non H', rt := Q } [some (.ref p), some (.ref a), v2, some (.int (B : Nat)), v4, v5, some (.ref D), none, none, none] H := by
 have p1 := hU.pos
 have h4 := hU.four
 have htp := hR.tp
 have hlen : (ws.map V.str).length = ws.length := List.length_map _
 obtain ⟨w0, hw0, hf, ha, hm⟩ := first_at p1
 have l0 := hU.le w0 hm
 unfold b_gd2
 walk_at "go"
 rw [hlen, Int.toNat_natCast]
 refine loop_rngS (fun i σ => ∃ a7 a8 a9, σ = [some (.ref p), some (.ref a), v2, some (.int (B : Nat)), v4, v5, some (.ref D), a7, a8, a9]) ⟨none, none, none, rfl⟩ (fun k σ1 H1 hk hP s1 => ?_) fun σ1 H1 hP s1 => ?_
 ·obtain ⟨a7, a8, a9, rfl⟩ := hP
  rw [show (0 : Int) + ((k : Nat) : Int) = ((k : Nat) : Int) by omega]
  have htp1 := (hR.same s1).tp
  walk_at "go"
  refine i_ixS (by rw [abcd_len]; decide) (abcd_at (m := 4) (by omega) (by omega) (Int.le_refl 4)) ?_
  rw [Int.toNat_natCast]
  walk_at "go"
  rw [hlen, Int.toNat_natCast]
  intro D2 hD2
  refine comp_rng (fun j => .int (((f j : Nat) : Int) * ent (rowsOf ws) j k)) hD2 (small (by omega)) (fun j H2 Q' hj s2 fin => ?_) fun H2 s2 hO => ?_
  ·rw [show (0 : Int) + ((j : Nat) : Int) = ((j : Nat) : Int) by omega]
   have s12 := s1.trans s2
   have hlw := hU.le ws[j] (List.getElem_mem hj)
   walk_at "go"
   refine i_ixL (v := .int ((f j : Nat) : Int)) (SqL.of (s12 _ _ hD)) (atI_nat (by rw [List.getElem?_map, List.getElem?_range hj]; rfl)) ?_
   walk_at "go"
   refine i_ixT (v := .str ws[j]) (hR.same s12).tp (atI_nat (by rw [List.getElem?_map, List.getElem?_eq_getElem hj]; rfl)) ?_
   walk_at "go"
   have ec : (((ls ws[j]).count (97 + k) : Nat) : Int) = ent (rowsOf ws) j k := by
    unfold ent rowsOf
    rw [List.getElem?_map, List.getElem?_eq_getElem hj]
    show _ = (cnts ws.length ws[j])[k]?.getD 0
    rw [cnts_get hk]
    rfl
   have cl := List.count_le_length (a := 97 + k) (l := ls ws[j])
   rw [ls_len] at cl
   refine i_mul (.inr ⟨by omega, by omega⟩) ?_
   rw [ec]
   exact fin H2 (Same.refl _)
  ·have eO : ((List.range ws.length).map fun j => V.int (((f j : Nat) : Int) * ent (rowsOf ws) j k)) = ((List.range ws.length).map fun j => ((f j : Nat) : Int) * ent (rowsOf ws) j k).map V.int := by rw [List.map_map]; rfl
   rw [eO] at hO
   have s12 := s1.trans s2
   refine ⟨D2, _, rfl, hO, ?_⟩
   walk_at "go"
   refine i_ixL (v := .int ((f k : Nat) : Int)) (SqL.of (s12 _ _ hD)) (atI_nat (by rw [List.getElem?_map, List.getElem?_range hk]; rfl)) ?_
   walk_at "go"
   refine i_ixT (v := .str w0) (hR.same s12).tp ha ?_
   refine i_lenS (small (by omega)) ?_
   refine i_mul (.inr ⟨by omega, by omega⟩) ?_
   rw [<- hf, h1 k hk]
   walk_at "go"
   refine br_n (fun c => absurd rfl c) fun _ => ?_
   walk_at "go"
   exact ⟨⟨_, _, _, rfl⟩, s12⟩
 ·obtain ⟨a7, a8, a9, rfl⟩ := hP
  walk_at "go"
  refine ⟨D, (List.range ws.length).map fun i => ((f i : Nat) : Int), rfl, by rw [s1 _ _ hD, List.map_map]; rfl, ?_⟩
  have eS : ((List.range ws.length).map fun i => ((f i : Nat) : Int)).sum = ((B : Nat) : Int) := by
   rw [<- h2]
   generalize List.range ws.length = l
   induction l with
   | nil => rfl
   | cons x l ih => rw [List.map_cons, List.map_cons, List.sum_cons, List.sum_cons, ih]; omega
  rw [eS]
  walk_at "go"
  rw [decide_eq_true rfl]
  exact q H1 s1
theorem shs_ok {ws : List Str} (hU : Ru ws) (ho : osz ws = true) (hm : mxB ws = true) : (shs ws).length = ws.length /\ ∀ t ∈ shs ws, 0 < t.1 /\ 0 < t.2 /\ Nat.gcd t.1 t.2 = 1 /\ t.2 < 2 ^ 62 /\ t.1 < 2 ^ 62 := by
 obtain ⟨w1, w2, _⟩ := wn_ok hU ho hm
 have h4 := hU.four
 have h1 := hU.pos
 unfold shs
 refine ⟨by rw [List.length_map]; exact w1, fun t ht => ?_⟩
 obtain ⟨w, hw, rfl⟩ := List.mem_map.mp ht
 have b := w2 w hw
 have key : ∀ l : List Nat, (∀ x ∈ l, x <= 64000000000) -> l.sum <= 64000000000 * l.length := fun l => by
  induction l with
  | nil => intro _; exact Nat.le_refl _
  | cons x l ih =>
   intro h
   have h1 := h x (by simp)
   have h2 := ih fun y hy => h y (by simp [hy])
   rw [List.sum_cons, List.length_cons]
   omega
 have s1 := key (wn ws) fun x hx => (w2 x hx).2
 have s0 : w <= (wn ws).sum := by
  have : ∀ l : List Nat, w ∈ l -> w <= l.sum := fun l => by
   induction l with
   | nil => intro h; cases h
   | cons x l ih =>
    intro h
    rw [List.sum_cons]
    rcases List.mem_cons.mp h with rfl | h
    ·omega
    ·have := ih h
     omega
  exact this _ hw
 obtain ⟨g1, g2, g3, _, g5, g6⟩ := fr_ok (t := (wn ws).sum) b.1 (by omega)
 exact ⟨g1, g2, g3, by omega, by omega⟩
theorem t_law_good (vs : List V) (H : Hp) (Q : VK) (E : XK) (h : sp_law_good K vs H Q E) : tSs (b_law_good K) (fun _ => E) { nx := fun _ H' => Q .non H', rt := Q } (start ["_law_found", "_law_rule_here", "_law_one", "_law_bottom", "_law_top", "_law_low", "_law_parts", "_law_k", "_law_letter", "_law_made"] vs) H := by
 obtain ⟨p, a, qs, ws, rfl, hF, hR, hU, ho, hm, q⟩ := h
 have p1 := hU.pos
 have h4 := hU.four
 have htp := hR.tp
 have hlen : (ws.map V.str).length = ws.length := List.length_map _
 obtain ⟨tl, tk⟩ := shs_ok hU ho hm
 have hql : (qs.map V.ref).length = ws.length := by rw [List.length_map, hF.2.1, tl]
 have at_ : ∀ i x, (qs.map V.ref)[i]? = some x -> ∃ r t, x = .ref r /\ (shs ws)[i]? = some t /\ t ∈ shs ws /\ i < ws.length /\ H r = some (.tup [.int (t.1 : Nat), .int (t.2 : Nat)]) := fun i x hx => by
  rw [List.getElem?_map] at hx
  cases e : qs[i]? with
  | none => rw [e] at hx; cases hx
  | some r =>
   rw [e] at hx
   cases hx
   have hi : i < (shs ws).length := by have := (List.getElem?_eq_some_iff.mp e).1; have := hF.2.1; omega
   exact ⟨r, (shs ws)[i], rfl, List.getElem?_eq_getElem hi, List.getElem_mem hi, by omega, hF.2.2 i r _ e (List.getElem?_eq_getElem hi)⟩
 unfold b_law_good
 walk_at "go"
 refine ⟨_, _, TyOf.lst hF.1, kLstL, ?_⟩
 walk_at "go"
 refine brF ?_
 walk_at "go"
 refine i_lenL (SqL.of hF.1) ?_
 walk_at "go"
 rw [hlen, hql]
 refine br_n (fun c => absurd rfl c) fun _ => ?_
 walk_at "go"
 refine i_itL (SqL.of hF.1) ?_
 refine loop_lst (SqL.of hF.1) (fun i σ => ∃ a2, σ = [some (.ref p), some (.ref a), a2, none, none, none, none, none, none, none]) ⟨none, rfl⟩ (fun i x σ1 H1 hx hP s1 => ?_) fun σ1 H1 hP s1 => ?_
 ·obtain ⟨a2, rfl⟩ := hP
  obtain ⟨r, t, rfl, _, hm2, _, hr⟩ := at_ i x hx
  obtain ⟨t1, t2, t3, _⟩ := tk t hm2
  walk_at "go"
  refine ⟨r, t, rfl, s1 _ _ hr, t1, t2, t3, ?_⟩
  walk_at "go"
  refine brF ?_
  walk_at "go"
  exact ⟨⟨_, rfl⟩, s1⟩
 ·obtain ⟨a2, rfl⟩ := hP
  have hp1 := s1 _ _ hF.1
  walk_at "go"
  refine i_itL (SqL.of hp1) ?_
  refine loop_lst (SqL.of hp1) (fun i σ => ∃ a4 a5, σ = [some (.ref p), some (.ref a), a2, some (.int ((bt ((shs ws).take i) 1 : Nat) : Int)), a4, a5, none, none, none, none]) ⟨none, none, rfl⟩ (fun i x σ2 H2 hx hP s2 => ?_) fun σ2 H2 hP s2 => ?_
  ·obtain ⟨a4, a5, rfl⟩ := hP
   obtain ⟨r, t, rfl, ht, hm2, hi, hr⟩ := at_ i x hx
   obtain ⟨t1, t2, t3, t5, t6⟩ := tk t hm2
   have g0 : 0 < Nat.gcd (bt ((shs ws).take i) 1) t.2 := Nat.gcd_pos_of_pos_right _ t2
   have g1 : Nat.gcd (bt ((shs ws).take i) 1) t.2 <= t.2 := Nat.le_of_dvd t2 (Nat.gcd_dvd_right _ _)
   refine i_unp2 (SqT.of (s2 _ _ (s1 _ _ hr))) ?_
   walk_at "go"
   refine ⟨_, t.2, rfl, ?_⟩
   refine i_divX ⟨by omega, by omega⟩ ?_
   walk_at "go"
   refine ⟨⟨some (.int (t.1 : Nat)), some (.int (t.2 : Nat)), ?_⟩, s2⟩
   have e : bt ((shs ws).take (i + 1)) 1 = bt ((shs ws).take i) 1 * t.2 / Nat.gcd (bt ((shs ws).take i) 1) t.2 := by
    rw [List.take_add_one, ht]
    exact bt_app _ _ _
   rw [e, Int.natCast_ediv, Int.natCast_mul]
   rfl
  ·obtain ⟨a4, a5, rfl⟩ := hP
   have eB : (shs ws).take (qs.map V.ref).length = shs ws := List.take_of_length_le (by omega)
   rw [eB]
   have hp2 := s2 _ _ hp1
   have s12 := s1.trans s2
   obtain ⟨w1, w2, _⟩ := wn_ok hU ho hm
   have told := told_ok (s := ((fsz ws : Nat) : Int)) (C := rowsOf ws) (W := wn ws) w1 (fun w hw => (w2 w hw).1) p1 (wn_good hU ho hm)
   obtain ⟨B, hB⟩ : ∃ B, B = bt (shs ws) 1 := ⟨_, rfl⟩
   rw [<- hB]
   have eS : shs ws = (wn ws).map (fr (wn ws).sum) := rfl
   rw [<- eS, <- hB] at told
   walk_at "go"
   refine i_itL (SqL.of hp2) ?_
   intro D hD
   have tg : ∀ i, i < ws.length -> (shs ws)[i]?.getD (0, 0) ∈ shs ws := fun i hi => by
    rw [List.getElem?_eq_getElem (show i < (shs ws).length by omega)]
    exact List.getElem_mem _
   refine comp_unp (fun i => .int ((part B ((shs ws)[i]?.getD (0, 0)) : Nat) : Int)) (fun i => .int ((((shs ws)[i]?.getD (0, 0)).1 : Nat) : Int)) (fun i => .int ((((shs ws)[i]?.getD (0, 0)).2 : Nat) : Int)) (SqL.of hp2) (fun i x hx => ?_) hD (small (by omega)) (fun i H3 Q' hi s3 fin => ?_) fun H3 s3 hO => ?_
   ·obtain ⟨r, t, rfl, ht, _, _, hr⟩ := at_ i x hx
    refine ⟨r, rfl, SqT.of ?_⟩
    rw [ht]
    exact s12 _ _ hr
   ·obtain ⟨t1, t2, t3, t5, t6⟩ := tk _ (tg i (by omega))
    walk_at "go"
    refine i_divX ⟨by omega, by omega⟩ ?_
    refine i_mul (.inl ⟨by omega, by omega⟩) ?_
    have := fin H3 (Same.refl _)
    unfold Sh.part at this
    rw [Int.natCast_mul, Int.natCast_ediv] at this
    exact this
   ·rw [hql] at hO
    have ef : ∀ k, k < ws.length -> (shs ws)[k]?.getD (0, 0) = fr (wn ws).sum ((wn ws)[k]?.getD 0) := fun k hk => by
     rw [eS, List.getElem?_map, List.getElem?_eq_getElem (show k < (wn ws).length by omega)]
     rfl
    refine t_gd2 (f := fun i => part B ((shs ws)[i]?.getD (0, 0))) (B := B) (hR.same (s12.trans s3)) hU hO (fun k hk => ?_) ?_ fun H4 s4 => q H4 ((s12.trans s3).trans s4)
    ·have := told.1 k hk
     rw [ef k hk, this]
     congr 1
     refine List.map_congr_left fun j hj => ?_
     rw [ef j (List.mem_range.mp hj)]
    ·refine Eq.trans ?_ told.2
     congr 1
     have := range_get (shs ws) (part B) (part B (0, 0))
     rw [tl] at this
     rw [<- this]
     refine List.map_congr_left fun j hj => ?_
     have hj' := List.mem_range.mp hj
     rw [List.getElem?_eq_getElem (show j < (shs ws).length by omega)]
     rfl
end
end L2.Na.K82
namespace L2.Na.K82
open PySem PySem.Spec PyProof.Rows L2 L2.L3 L2.Na.Sh L2.Na.K41
open L2.Na.K81 (sp_law_raw sp_law_mix sp_law_caught Ask)
section
variable {K : Fg}
def tsN : List Bool := [false, false, false, false, false, true, false]
theorem KF.askN (kf : KF K) : Ask K (clsAt K "NoShares") tsN := ⟨kf.xfN, kf.t0, kf.t1, kf.t2, kf.t3, kf.t4, kf.t5, kf.t6, kf.tv⟩
def sp_law_refused (K : Fg) : Sp := fun vs H Q _ => ∃ (a : Addr) (ws : List Str), vs = [.ref a] /\ KF K /\ Rt4 K H a ws /\ Ru ws /\ (osz ws && mxB ws) = false /\ ∀ H', Same H H' -> Q (.bl true) H'
def b_law_refused (K : Fg) : List (SX K) :=
 [set 1 (cst .non),
  tryE [ex (call "shares" (sp_shares K) [var 0])] "WordError" 2 1 (callH "_law_caught" (sp_law_caught K) (var 2) []),
  ret (eqG (var 1) (tup [lst [cst (.bl false), cst (.bl false), cst (.bl false), cst (.bl false), cst (.bl false), cst (.bl true), cst (.bl false)], cst .non, cst (.bl true)]))]
theorem l_law_refused : ∀ vs H Q E, sp_law_refused K vs H Q E -> vs.length = 1 := by
 rintro vs H Q E ⟨_, _, rfl, _⟩
 rfl
theorem eq_bls {H : Hp} {l l2 : Addr} {bs : List Bool} (hne : l ≠ l2) (h1 : H l = some (.lst (bs.map V.bl))) (h2 : H l2 = some (.lst (bs.map V.bl))) : EqI H (.ref l) (.ref l2) true :=
 .inr ⟨l, l2, _, _, fun _ => true, rfl, rfl, hne, h1, h2, rfl, fun i x y hx hy => by
  rw [hx] at hy
  cases hy
  obtain ⟨k, _, rfl⟩ := List.mem_map.mp (List.mem_of_getElem? hx)
  exact .inr (.inr (.inl ⟨k, k, rfl, rfl, by simp⟩)), (List.all_eq_true.mpr fun _ _ => rfl).symm⟩
theorem eq_three {H : Hp} {Q : VK} {p p2 l l2 : Addr} {bs : List Bool} {m : V} (hm : EqI0 m m true) (hne : l ≠ l2) (h1 : H l = some (.lst (bs.map V.bl))) (h2 : H l2 = some (.lst (bs.map V.bl))) (hp : H p = some (.tup [.ref l, m, .bl true])) (hp2 : H p2 = some (.tup [.ref l2, m, .bl true])) (q : Q (.bl true) H) : rEqG (.ref p) (.ref p2) H Q :=
 by
 refine ⟨p, p2, _, _, fun _ => true, rfl, rfl, .inr ⟨hp, hp2⟩, rfl, fun i x y hx hy => ?_, q⟩
 match i, hx, hy with
 | 0, hx, hy => cases hx; cases hy; exact eq_bls hne h1 h2
 | 1, hx, hy => cases hx; cases hy; exact .inl hm
 | 2, hx, hy => cases hx; cases hy; exact .inl (.inr (.inr (.inl ⟨true, true, rfl, rfl, rfl⟩)))
 | i + 3, hx, hy => cases hx
theorem t_law_refused (vs : List V) (H : Hp) (Q : VK) (E : XK) (h : sp_law_refused K vs H Q E) : tSs (b_law_refused K) (fun _ => E) { nx := fun _ H' => Q .non H', rt := Q } (start ["_law_rule_here", "_law_found", "_law_e"] vs) H := by
 obtain ⟨a, ws, rfl, kf, hR, hU, hn, q⟩ := h
 unfold b_law_refused
 walk_at "go"
 refine i_tryE ?_
 walk_at "go"
 refine ⟨a, ws, rfl, kf, hR, hU, fun z => by (rw [hn] at z; cases z), fun _ H1 hS1 => ⟨kf.exmN, fun e he => ?_⟩⟩
 have s1 := same_new he (.ext (IsX e (.ref (clsAt K "NoShares")) none))
 refine i_callH ?_
 walk_at "go"
 refine ⟨.ref e, _, [], tsN, .non, rfl, ⟨e, rfl, .inl ⟨upd_same, rfl⟩⟩, kf.askN, .inl ⟨rfl, rfl⟩, fun p l H3 hS3 hl3 nl hp => ?_⟩
 have hS03 := (hS1.trans s1).trans hS3
 walk_at "go"
 refine i_eqG ?_
 walk_at "go"
 refine ⟨by show 7 <= sizeLine; decide, fun l2 nl2 => ?_⟩
 walk_at "go"
 refine ⟨by show 3 <= sizeLine; decide, fun p2 np2 => ?_⟩
 have s4 := same_new nl2 (.lst [V.bl false, .bl false, .bl false, .bl false, .bl false, .bl true, .bl false])
 have s5 := same_new np2 (.tup [.ref l2, .non, .bl true])
 exact eq_three (bs := tsN) (.inr (.inr (.inr (.inl ⟨rfl, rfl, rfl⟩)))) (ne_of_none hl3 nl2) (s5 _ _ (s4 _ _ hl3)) (s5 _ _ upd_same) (s5 _ _ (s4 _ _ hp)) upd_same (q _ ((hS03.trans s4).trans s5))
theorem isW_of {n : Nat} {w : Str} (h : (ls w).all (fun c => decide (97 <= c) && decide (c < 97 + n)) = true) : IsW n w := fun c hc => by
 have := List.all_eq_true.mp h c hc
 simpa using this
def okW (ws : List Str) : Bool := decide (1 <= ws.length) && (decide (ws.length <= 4) && ws.all fun w => (ls w).all (fun c => decide (97 <= c) && decide (c < 97 + ws.length)) && (decide (1 <= w.length) && decide (w.length <= 100)))
theorem ru_of {ws : List Str} (h : okW ws = true) : Ru ws := by
 unfold okW at h
 simp only [Bool.and_eq_true] at h
 obtain ⟨h1, h2, h3⟩ := h
 have h3' := List.all_eq_true.mp h3
 refine ⟨of_decide_eq_true h1, of_decide_eq_true h2, fun w hw => ?_, fun w hw => ?_, fun w hw => ?_⟩
 ·have := h3' w hw
  rw [Bool.and_eq_true] at this
  exact isW_of this.1
 ·have := h3' w hw
  rw [Bool.and_eq_true, Bool.and_eq_true] at this
  exact of_decide_eq_true this.2.1
 ·have := h3' w hw
  rw [Bool.and_eq_true, Bool.and_eq_true] at this
  exact of_decide_eq_true this.2.2
theorem i_cT {c : EX K} {σ : St} {H : Hp} {QB : Bool -> Hp -> Prop} (h : c.tt E0 σ H QB) : cT (some c) σ H QB := h
theorem ok_aa : okW [Str.ofString "ab", Str.ofString "aa"] = true := by decide +kernel
theorem mx_aa : (osz [Str.ofString "ab", Str.ofString "aa"] && mxB [Str.ofString "ab", Str.ofString "aa"]) = true := by decide +kernel
theorem shs_aa : shs [Str.ofString "ab", Str.ofString "aa"] = [(2, 3), (1, 3)] := by decide +kernel
def sp_law (K : Fg) : Sp := fun vs H Q _ => ∃ (a : Addr) (ns : List Int), vs = [.ref a] /\ SqL K H a (ns.map V.int) /\ ns.length <= 63 /\ ∀ H', Q (.bl true) H'
def b_lw1 (K : Fg) : List (SX K) := [ret (andE (call "_law_refused" (sp_law_refused K) [var 1]) [call "_law_refused" (sp_law_refused K) [var 1]])]
def b_lw3 (K : Fg) : List (SX K) :=
 [ex (m_reverse (var 4)),
  ex (m_append (var 4) (tup [cst (.int 0), cst (.int 1)])),
  ret (call "_law_same" (sp_law_same K) [call "shares" (sp_shares K) [var 1], var 5])]
def b_lw2 (K : Fg) : List (SX K) :=
 set 4 (call "shares" (sp_shares K) [var 1]) ::
  ifS (notE (call "_law_good" (sp_law_good K) [var 4, var 1])) [ret (cst (.bl false))] [] ::
  set 5 (listE (var 4)) ::
  set 6 (call "shares" (sp_shares K) [tup [cst (.str "ab"), cst (.str "aa")]]) ::
  ifS (orE (notE (call "_law_same" (sp_law_same K) [var 6, lst [tup [cst (.int 2), cst (.int 3)], tup [cst (.int 1), cst (.int 3)]]])) [notE (call "_law_same" (sp_law_same K) [var 4, var 5])]) [ret (cst (.bl false))] [] :: b_lw3 K
def b_law (K : Fg) : List (SX K) :=
 set 1 (call "_law_rule" (sp_law_rule K) [var 0, bin .Add (cst (.int 1)) (bin .Mod (bin .FloorDiv (call "_law_mix" (sp_law_mix K) [var 0, cst (.int 0)]) (cst (.int 8))) (cst (.int 4)))]) ::
  set 2 (len (ix (var 1) (cst (.int 0)))) ::
  setC 3 (compC (some (cmp .NotEq (len (var 0)) (var 1))) (var 0) (nam 0) (iSeq (var 1)) ["_law_word_here"] ["_law_size_here"] [2]) ::
  ifS (orE (cmp .Lt (var 2) (cst (.int 2))) [cmp .NotEq (var 3) (lst []), notE (call "_law_mixes" (sp_law_mixes K) [var 1])]) (b_lw1 K) [] :: b_lw2 K
theorem l_law : ∀ vs H Q E, sp_law K vs H Q E -> vs.length = 1 := by
 rintro vs H Q E ⟨_, _, rfl, _⟩
 rfl
section
variable {Q : VK} {E : XK} {a p : Addr} {ws : List Str} {v2 v3 : Option V}
theorem t_lw1 {D : Ends} {H : Hp} (kf : KF K) (hR : Rt4 K H p ws) (hU : Ru ws) (hn : (osz ws && mxB ws) = false) (q : ∀ H', D.rt (.bl true) H') : tSs (b_lw1 K) (fun _ => E) D [some (.ref a), some (.ref p), v2, v3, none, none, none] H := by
 unfold b_lw1
 walk_at "go"
 refine ⟨p, ws, rfl, kf, hR, hU, hn, fun H1 s1 => ?_⟩
 walk_at "go"
 refine brT ?_
 walk_at "go"
 refine ⟨p, ws, rfl, kf, hR.same s1, hU, hn, fun H2 s2 => ?_⟩
 walk_at "go"
 exact q H2
theorem t_lw3 {H H0 : Hp} {f l : Addr} {qs : List Addr} {v6 : Option V} (kf : KF K) (hR : Rt4 K H0 p ws) (hU : Ru ws) (hn : (osz ws && mxB ws) = true) (s0 : Same H0 H) (nf : H0 f = none) (hf : H f = some (.lst (qs.map V.ref))) (fl : f ≠ l) (fq : ∀ q ∈ qs, f ≠ q) (hF : FrR H l qs (shs ws)) (q : ∀ H', Q (.bl true) H') :
  tSs (b_lw3 K) (fun _ => E) { nx := fun _ H' => Q .non H', rt := Q } [some (.ref a), some (.ref p), v2, v3, some (.ref f), some (.ref l), v6] H := by
 unfold b_lw3
 walk_at "go"
 refine i_reverse ?_
 walk_at "go"
 refine i_RL (SqL.of hf) ?_
 walk_at "go"
 refine ⟨f, _, rfl, rfl, hf, ?_⟩
 have g1 : (upd H f (.lst (qs.map V.ref).reverse)) f = some (.lst (qs.map V.ref).reverse) := upd_same
 have S1 : Same H0 (upd H f (.lst (qs.map V.ref).reverse)) := same_upd s0 nf
 have F1 : FrR (upd H f (.lst (qs.map V.ref).reverse)) l qs (shs ws) := ⟨by rw [upd_ne fl.symm]; exact hF.1, hF.2.1, fun i q t h1 h2 => by rw [upd_ne (fq q (List.mem_of_getElem? h1)).symm]; exact hF.2.2 i q t h1 h2⟩
 revert g1 S1 F1
 generalize upd H f (.lst (qs.map V.ref).reverse) = H1
 intro g1 S1 F1
 have ql : (qs.map V.ref).reverse.length <= 4 := by
  rw [List.length_reverse, List.length_map, hF.2.1]
  rw [Bool.and_eq_true] at hn
  rw [(shs_ok hU hn.1 hn.2).1]
  exact hU.four
 walk_at "go"
 refine i_RL (SqL.of g1) ?_
 walk_at "go"
 refine ⟨by show 2 <= sizeLine; decide, fun t nt => ?_⟩
 have s2 := same_new nt (.tup [.int 0, .int 1])
 walk_at "go"
 refine i_appendU (s2 _ _ g1) (Nat.lt_of_le_of_lt ql (Nat.lt_of_lt_of_le (show 4 < 100 by decide) (small (by decide)))) ?_
 have S3 : Same H0 (upd (upd H1 t (.tup [.int 0, .int 1])) f (.lst ((qs.map V.ref).reverse ++ [.ref t]))) := same_upd (S1.trans s2) nf
 have F2 := F1.same s2
 have F3 : FrR (upd (upd H1 t (.tup [.int 0, .int 1])) f (.lst ((qs.map V.ref).reverse ++ [.ref t]))) l qs (shs ws) := ⟨by rw [upd_ne fl.symm]; exact F2.1, F2.2.1, fun i q t h1 h2 => by rw [upd_ne (fq q (List.mem_of_getElem? h1)).symm]; exact F2.2.2 i q t h1 h2⟩
 revert S3 F3
 generalize upd (upd H1 t (.tup [.int 0, .int 1])) f (.lst ((qs.map V.ref).reverse ++ [.ref t])) = H3
 intro S3 F3
 walk_at "go"
 refine ⟨p, ws, rfl, kf, hR.same S3, hU, fun _ r us H4 s4 _ _ F4 => ?_, fun z => by (rw [hn] at z; cases z)⟩
 walk_at "go"
 exact ⟨r, l, us, qs, shs ws, rfl, F4, F3.same s4, fun H5 _ => q H5⟩
theorem t_lw2 {H : Hp} (kf : KF K) (hR : Rt4 K H p ws) (hU : Ru ws) (hn : (osz ws && mxB ws) = true) (q : ∀ H', Q (.bl true) H') : tSs (b_lw2 K) (fun _ => E) { nx := fun _ H' => Q .non H', rt := Q } [some (.ref a), some (.ref p), v2, v3, none, none, none] H := by
 have hn2 := hn
 rw [Bool.and_eq_true] at hn2
 unfold b_lw2
 walk_at "go"
 refine ⟨p, ws, rfl, kf, hR, hU, fun _ f qs H1 s1 nf nq F1 => ?_, fun z => by (rw [hn] at z; cases z)⟩
 walk_at "go"
 refine ⟨f, p, qs, ws, rfl, F1, hR.same s1, hU, hn2.1, hn2.2, fun H2 s2 => ?_⟩
 walk_at "go"
 refine brF ?_
 have F2 := F1.same s2
 walk_at "go"
 refine ⟨_, .inl (SqL.of F2.1), fun l nl => ?_⟩
 have s3 := same_new nl (.lst (qs.map V.ref))
 have F3 := F2.same s3
 have G3 : FrR (upd H2 l (.lst (qs.map V.ref))) l qs (shs ws) := ⟨upd_same, F3.2.1, F3.2.2⟩
 have fl : f ≠ l := ne_of_none F2.1 nl
 revert s3 F3 G3
 generalize upd H2 l (.lst (qs.map V.ref)) = H3
 intro s3 F3 G3
 have S3 := (s1.trans s2).trans s3
 walk_at "go"
 refine ⟨by show 2 <= sizeLine; decide, fun t nt => ?_⟩
 have s4 := same_new nt (.tup [.str "ab", .str "aa"])
 walk_at "go"
 refine ⟨t, [Str.ofString "ab", Str.ofString "aa"], rfl, kf, ⟨SqT.of upd_same, by decide, by decide⟩, ru_of ok_aa, fun _ o us H5 s5 _ _ F5 => ?_, fun z => by (rw [mx_aa] at z; cases z)⟩
 rw [shs_aa] at F5
 walk_at "go"
 refine ⟨by show 2 <= sizeLine; decide, fun t1 nt1 => ?_⟩
 have e1 := same_new nt1 (.tup [.int 2, .int 3])
 walk_at "go"
 refine ⟨by show 2 <= sizeLine; decide, fun t2 nt2 => ?_⟩
 have e2 := same_new nt2 (.tup [.int 1, .int 3])
 walk_at "go"
 refine ⟨by show 2 <= sizeLine; decide, fun t3 nt3 => ?_⟩
 have e3 := same_new nt3 (.lst [.ref t1, .ref t2])
 have G6 : FrR (upd (upd (upd H5 t1 (.tup [.int 2, .int 3])) t2 (.tup [.int 1, .int 3])) t3 (.lst [.ref t1, .ref t2])) t3 [t1, t2] [(2, 3), (1, 3)] := ⟨upd_same, rfl, fun i q t h1 h2 => by
  match i, h1, h2 with
  | 0, h1, h2 => cases h1; cases h2; exact e3 _ _ (e2 _ _ upd_same)
  | 1, h1, h2 => cases h1; cases h2; exact e3 _ _ upd_same
  | i + 2, h1, h2 => cases h1⟩
 have s6 := (e1.trans e2).trans e3
 revert G6 s6
 generalize upd (upd (upd H5 t1 (.tup [.int 2, .int 3])) t2 (.tup [.int 1, .int 3])) t3 (.lst [.ref t1, .ref t2]) = H6
 intro G6 s6
 refine ⟨o, t3, us, _, _, rfl, F5.same s6, G6, fun H7 s7 => ?_⟩
 have s37 := ((s4.trans s5).trans s6).trans s7
 walk_at "go"
 refine brF ?_
 walk_at "go"
 refine ⟨f, l, qs, qs, _, rfl, F3.same s37, G3.same s37, fun H8 s8 => ?_⟩
 walk_at "go"
 refine brF ?_
 walk_at "go"
 have s38 := s37.trans s8
 exact t_lw3 kf hR hU hn (S3.trans s38) nf (F3.same s38).1 fl (fun q hq e => by
  obtain ⟨i, hi⟩ := List.getElem?_of_mem hq
  have hl : i < (shs ws).length := by have := (List.getElem?_eq_some_iff.mp hi).1; have := F3.2.1; omega
  have h1 := F3.2.2 i q _ hi (List.getElem?_eq_getElem hl)
  rw [<- e, F3.1] at h1
  cases h1) (G3.same s38) q
end
theorem t_law (kf : KF K) (vs : List V) (H : Hp) (Q : VK) (E : XK) (h : sp_law K vs H Q E) : tSs (b_law K) (fun _ => E) { nx := fun _ H' => Q .non H', rt := Q } (start ["_law_script", "_law_rule_here", "_law_size_here", "_law_unlike", "_law_found", "_law_kept", "_law_other"] vs) H := by
 obtain ⟨a, ns, rfl, hS, h63, q⟩ := h
 unfold b_law
 walk_at "go"
 refine ⟨a, ns, 0, rfl, hS, h63, by omega, by omega, fun hd h0 h1 => ?_⟩
 walk_at "go"
 refine ⟨a, ns, _, rfl, hS, h63, by omega, by omega, fun p ws H1 s1 hp hU => ?_⟩
 have p1 := hU.pos
 have p4 := hU.four
 have hR : Rt4 K H1 p ws := ⟨SqT.of hp, p1, p4⟩
 obtain ⟨w0, hw0, hf, ha, hm⟩ := first_at p1
 have l0 := hU.le w0 hm
 walk_at "go"
 refine i_ixT (v := .str w0) hR.tp ha ?_
 refine i_lenS (small (by omega)) ?_
 rw [<- hf]
 walk_at "go"
 refine i_itT hR.tp ?_
 intro D hD
 refine compI_items (yl_tup (xs := ws.map V.str)) (fun x => match x with | .str w => !decide (((w.length : Nat) : Int) = ((fsz ws : Nat) : Int)) | _ => false) id hD (sqT_same hR.tp) (small (by rw [List.length_map]; omega)) (fun i x H2 QB hx s2 fin => ?_) (fun i x H2 Q' hx hk s2 fin => ?_) fun H2 s2 hO => ?_
 ·obtain ⟨w, hw, rfl⟩ := List.mem_map.mp (List.mem_of_getElem? hx)
  have lw := hU.le w hw
  refine i_cT ?_
  walk_at "go"
  refine i_lenS (small (by omega)) ?_
  walk_at "go"
  exact fin H2 (Same.refl _)
 ·walk_at "go"
  exact fin H2 (Same.refl _)
 ·rw [List.map_id] at hO
  have hR2 := hR.same s2
  walk_at "go"
  refine br_d (fun c => ?_) fun c => ?_
  ·refine brT ?_
   refine t_lw1 kf hR2 hU ?_ ?_
   ·rw [Bool.and_eq_false_iff]
    refine .inl (Bool.eq_false_iff.mpr fun z => ?_)
    have := (osz_iff.mp z).1
    omega
   ·exact q
  ·walk_at "go"
   refine ⟨by show 0 <= sizeLine; decide, fun e ne => ?_⟩
   have s3 := same_new ne (.lst [])
   have hO3 := s3 _ _ hO
   have hR3 := hR2.same s3
   by_cases hne : ((ws.map V.str).filter fun x => match x with | .str w => !decide (((w.length : Nat) : Int) = ((fsz ws : Nat) : Int)) | _ => false) = []
   ·rw [hne] at hO3
    refine j_neA (n := 0) (by decide) ⟨[], [], .inl ⟨hO3, upd_same⟩, rfl, fun i x y hx => by simp at hx⟩ ?_
    have ho : osz ws = true := osz_iff.mpr ⟨by omega, fun w hw => by
     have := List.filter_eq_nil_iff.mp hne (.str w) (List.mem_map.mpr ⟨w, hw, rfl⟩)
     have z : decide (((w.length : Nat) : Int) = ((fsz ws : Nat) : Int)) = true := by simpa using this
     have := of_decide_eq_true z
     omega⟩
    refine brF ?_
    walk_at "go"
    refine ⟨p, ws, rfl, hR3, hU, fun H4 s4 => ?_⟩
    walk_at "go"
    cases hx : mxB ws with
    | false =>
     refine brT ?_
     refine t_lw1 kf (hR3.same s4) hU (by rw [hx, Bool.and_false]) ?_
     exact q
    | true =>
     refine brF ?_
     refine i_nil ?_
     exact t_lw2 kf (hR3.same s4) hU (by rw [ho, hx]; rfl) q
   ·refine j_neN (ys := []) hO3 upd_same (by intro z; exact hne (List.eq_nil_of_length_eq_zero (by simpa using z))) ?_
    refine brT ?_
    refine brT ?_
    refine t_lw1 kf hR3 hU ?_ ?_
    ·rw [Bool.and_eq_false_iff]
     refine .inl (Bool.eq_false_iff.mpr fun z => hne (List.filter_eq_nil_iff.mpr fun x hx => ?_))
     obtain ⟨w, hw, rfl⟩ := List.mem_map.mp hx
     have := (osz_iff.mp z).2 w hw
     simp [this]
    ·exact q
theorem s_law (K : Fg) (H : Hp) (a : Addr) (ns : List Int) (kf : KF K) (h : ns.length <= 63) (hS : SqL K H a (ns.map V.int)) : sp_law K [.ref a] H (fun v _ => v = .bl true) fun _ _ _ => False := ⟨a, ns, rfl, hS, h, fun _ => rfl⟩
end
end L2.Na.K82
namespace L2.Na.K82
open PySem PySem.Spec PyProof.Rows L2 L2.L3
section
variable {K : Fg}
abbrev sp_determinant0 (K : Fg) : Sp := sp_dets 0 K
abbrev sp_determinant1 (K : Fg) : Sp := sp_dets 1 K
abbrev sp_determinant2 (K : Fg) : Sp := sp_dets 2 K
abbrev sp_determinant (K : Fg) : Sp := sp_dets 3 K
abbrev b_determinant0 (K : Fg) : List (SX K) := b_dets0 K
abbrev b_determinant1 (K : Fg) : List (SX K) := b_dets 0 K
abbrev b_determinant2 (K : Fg) : List (SX K) := b_dets 1 K
abbrev b_determinant (K : Fg) : List (SX K) := b_dets 2 K
theorem l_determinant0 : ∀ vs H Q E, sp_determinant0 K vs H Q E -> vs.length = 1 := l_dets
theorem l_determinant1 : ∀ vs H Q E, sp_determinant1 K vs H Q E -> vs.length = 1 := l_dets
theorem l_determinant2 : ∀ vs H Q E, sp_determinant2 K vs H Q E -> vs.length = 1 := l_dets
theorem l_determinant : ∀ vs H Q E, sp_determinant K vs H Q E -> vs.length = 1 := l_dets
theorem t_determinant0 (vs : List V) (H : Hp) (Q : VK) (E : XK) (h : sp_determinant0 K vs H Q E) : tSs (b_determinant0 K) (fun _ => E) { nx := fun _ H' => Q .non H', rt := Q } (start ["rows", "made", "sign", "place", "number", "rest"] vs) H := t_dets0 vs H Q E h
theorem t_determinant1 (vs : List V) (H : Hp) (Q : VK) (E : XK) (h : sp_determinant1 K vs H Q E) : tSs (b_determinant1 K) (fun _ => E) { nx := fun _ H' => Q .non H', rt := Q } (start ["rows", "made", "sign", "place", "number", "rest"] vs) H := t_dets vs H Q E h
theorem t_determinant2 (vs : List V) (H : Hp) (Q : VK) (E : XK) (h : sp_determinant2 K vs H Q E) : tSs (b_determinant2 K) (fun _ => E) { nx := fun _ H' => Q .non H', rt := Q } (start ["rows", "made", "sign", "place", "number", "rest"] vs) H := t_dets vs H Q E h
theorem t_determinant (vs : List V) (H : Hp) (Q : VK) (E : XK) (h : sp_determinant K vs H Q E) : tSs (b_determinant K) (fun _ => E) { nx := fun _ H' => Q .non H', rt := Q } (start ["rows", "made", "sign", "place", "number", "rest"] vs) H := t_dets vs H Q E h
end
end L2.Na.K82
namespace L2.Na.K82
open PySem PySem.Spec PyProof.Rows L2 L2.L3 L2.Na
def top (i : Nat) : Stmt := PySem.Challenge.pw_neveragain_k82_shares.main.body.getD i (.Pass ⟨0, 0, 0, 0⟩)
theorem sc_law_raw : FnScope ["_law_script", "_law_k"] ["_law_script", "_law_k"] (defScope (top 31)) := ⟨rfl, rfl, rfl, by decide +kernel, rfl, by decide +kernel, by decide +kernel⟩
theorem m_law_raw (K : Fg) : mSs (L2.Na.K81.b_law_raw K) ⟨["_law_script", "_law_k"], (defScope (top 31)).names, true⟩ (defBody (top 31)) = true := by kernel_rfl
theorem sc_law_mix : FnScope ["_law_script", "_law_k", "_law_turn"] ["_law_script", "_law_k"] (defScope (top 32)) := ⟨rfl, rfl, rfl, by decide +kernel, rfl, by decide +kernel, by decide +kernel⟩
theorem m_law_mix (K : Fg) : mSs (L2.Na.K81.b_law_mix K) ⟨["_law_script", "_law_k", "_law_turn"], (defScope (top 32)).names, true⟩ (defBody (top 32)) = true := by kernel_rfl
theorem sc_law_size : FnScope ["_law_script", "_law_number"] ["_law_script"] (defScope (top 37)) := ⟨rfl, rfl, rfl, by decide +kernel, rfl, by decide +kernel, by decide +kernel⟩
theorem m_law_size (K : Fg) : mSs (b_law_size K) ⟨["_law_script", "_law_number"], (defScope (top 37)).names, true⟩ (defBody (top 37)) = true := by kernel_rfl
theorem sc_law_word : FnScope ["_law_number", "_law_many", "_law_size_here", "_law_word_here", "_law_k"] ["_law_number", "_law_many", "_law_size_here"] (defScope (top 35)) := ⟨rfl, rfl, rfl, by decide +kernel, rfl, by decide +kernel, by decide +kernel⟩
theorem m_law_word (K : Fg) : mSs (b_law_word K) ⟨["_law_number", "_law_many", "_law_size_here", "_law_word_here", "_law_k"], (defScope (top 35)).names, true⟩ (defBody (top 35)) = true := by kernel_rfl
theorem sc_law_rule : FnScope ["_law_script", "_law_many", "_law_size_here", "_law_words", "_law_k", "_law_number", "_law_word_here", "_law_at", "_law_near", "_law_one", "_law_some"] ["_law_script", "_law_many"] (defScope (top 38)) := ⟨rfl, rfl, rfl, by decide +kernel, rfl, by decide +kernel, by decide +kernel⟩
theorem m_law_rule (K : Fg) : mSs (b_law_rule K) ⟨["_law_script", "_law_many", "_law_size_here", "_law_words", "_law_k", "_law_number", "_law_word_here", "_law_at", "_law_near", "_law_one", "_law_some"], (defScope (top 38)).names, true⟩ (defBody (top 38)) = true := by kernel_rfl
theorem sc_letters : FnScope ["many"] ["many"] (defScope (top 2)) := ⟨rfl, rfl, rfl, by decide +kernel, rfl, by decide +kernel, by decide +kernel⟩
theorem m_letters (K : Fg) : mSs (b_letters K) ⟨["many"], (defScope (top 2)).names, true⟩ (defBody (top 2)) = true := by kernel_rfl
theorem sc_counts : FnScope ["word", "many"] ["word", "many"] (defScope (top 4)) := ⟨rfl, rfl, rfl, by decide +kernel, rfl, by decide +kernel, by decide +kernel⟩
theorem m_counts (K : Fg) : mSs (b_counts K) ⟨["word", "many"], (defScope (top 4)).names, true⟩ (defBody (top 4)) = true := by kernel_rfl
theorem sc_table : FnScope ["rule"] ["rule"] (defScope (top 5)) := ⟨rfl, rfl, rfl, by decide +kernel, rfl, by decide +kernel, by decide +kernel⟩
theorem m_table (K : Fg) : mSs (b_table K) ⟨["rule"], (defScope (top 5)).names, true⟩ (defBody (top 5)) = true := by kernel_rfl
theorem sc_lacks_of : FnScope ["rule", "rows", "place", "row", "lack"] ["rule"] (defScope (top 25)) := ⟨rfl, rfl, rfl, by decide +kernel, rfl, by decide +kernel, by decide +kernel⟩
theorem m_lacks_of (K : Fg) : mSs (b_lacks_of K) ⟨["rule", "rows", "place", "row", "lack"], (defScope (top 25)).names, true⟩ (defBody (top 25)) = true := by kernel_rfl
theorem sc_determinant : FnScope ["rows", "made", "sign", "place", "number", "rest"] ["rows"] (defScope (top 27)) := ⟨rfl, rfl, rfl, by decide +kernel, rfl, by decide +kernel, by decide +kernel⟩
theorem m_determinant (K : Fg) : mSs (b_determinant K) ⟨["rows", "made", "sign", "place", "number", "rest"], (defScope (top 27)).names, true⟩ (defBody (top 27)) = true := by kernel_rfl
theorem m0_determinant (K : Fg) : mSs (b_determinant0 K) ⟨["rows", "made", "sign", "place", "number", "rest"], (defScope (top 27)).names, true⟩ (defBody (top 27)) = true := by kernel_rfl
theorem m1_determinant (K : Fg) : mSs (b_determinant1 K) ⟨["rows", "made", "sign", "place", "number", "rest"], (defScope (top 27)).names, true⟩ (defBody (top 27)) = true := by kernel_rfl
theorem m2_determinant (K : Fg) : mSs (b_determinant2 K) ⟨["rows", "made", "sign", "place", "number", "rest"], (defScope (top 27)).names, true⟩ (defBody (top 27)) = true := by kernel_rfl
theorem sc_greatest_divisor : FnScope ["one", "other", "rest"] ["one", "other"] (defScope (top 29)) := ⟨rfl, rfl, rfl, by decide +kernel, rfl, by decide +kernel, by decide +kernel⟩
theorem m_greatest_divisor (K : Fg) : mSs (b_greatest_divisor K) ⟨["one", "other", "rest"], (defScope (top 29)).names, true⟩ (defBody (top 29)) = true := by kernel_rfl
theorem sc_in_lowest_terms : FnScope ["top", "bottom", "divisor"] ["top", "bottom"] (defScope (top 28)) := ⟨rfl, rfl, rfl, by decide +kernel, rfl, by decide +kernel, by decide +kernel⟩
theorem m_in_lowest_terms (K : Fg) : mSs (b_in_lowest_terms K) ⟨["top", "bottom", "divisor"], (defScope (top 28)).names, true⟩ (defBody (top 28)) = true := by kernel_rfl
theorem sc_of_one_size : FnScope ["rule", "size"] ["rule"] (defScope (top 24)) := ⟨rfl, rfl, rfl, by decide +kernel, rfl, by decide +kernel, by decide +kernel⟩
theorem m_of_one_size (K : Fg) : mSs (b_of_one_size K) ⟨["rule", "size"], (defScope (top 24)).names, true⟩ (defBody (top 24)) = true := by kernel_rfl
theorem sc_letters_in : FnScope ["word"] ["word"] (defScope (top 21)) := ⟨rfl, rfl, rfl, by decide +kernel, rfl, by decide +kernel, by decide +kernel⟩
theorem m_letters_in (K : Fg) : mSs (L2.Na.K41.b_letters_in K) ⟨["word"], (defScope (top 21)).names, true⟩ (defBody (top 21)) = true := by kernel_rfl
theorem sc_words_by_letter : FnScope ["rule"] ["rule"] (defScope (top 17)) := ⟨rfl, rfl, rfl, by decide +kernel, rfl, by decide +kernel, by decide +kernel⟩
theorem m_words_by_letter (K : Fg) : mSs (b_words_by_letter K) ⟨["rule"], (defScope (top 17)).names, true⟩ (defBody (top 17)) = true := by kernel_rfl
theorem sc_put : FnScope ["rule", "word", "word_for"] ["rule", "word"] (defScope (top 16)) := ⟨rfl, rfl, rfl, by decide +kernel, rfl, by decide +kernel, by decide +kernel⟩
theorem m_put (K : Fg) : mSs (b_put K) ⟨["rule", "word", "word_for"], (defScope (top 16)).names, true⟩ (defBody (top 16)) = true := by kernel_rfl
theorem sc_mixes : FnScope ["rule", "known", "held", "turn"] ["rule"] (defScope (top 20)) := ⟨rfl, rfl, rfl, by decide +kernel, rfl, by decide +kernel, by decide +kernel⟩
theorem m_mixes (K : Fg) : mSs (L2.Na.K41.b_mixes K) ⟨["rule", "known", "held", "turn"], (defScope (top 20)).names, true⟩ (defBody (top 20)) = true := by kernel_rfl
theorem sc_without : FnScope ["rows", "place", "others"] ["rows", "place"] (defScope (top 26)) := ⟨rfl, rfl, rfl, by decide +kernel, rfl, by decide +kernel, by decide +kernel⟩
theorem m_without (K : Fg) : mSs (b_without K) ⟨["rows", "place", "others"], (defScope (top 26)).names, true⟩ (defBody (top 26)) = true := by kernel_rfl
theorem sc_shares : FnScope ["rule", "lacks", "weights", "whole"] ["rule"] (defScope (top 23)) := ⟨rfl, rfl, rfl, by decide +kernel, rfl, by decide +kernel, by decide +kernel⟩
theorem m_shares (K : Fg) : mSs (b_shares K) ⟨["rule", "lacks", "weights", "whole"], (defScope (top 23)).names, true⟩ (defBody (top 23)) = true := by kernel_rfl
theorem sc_law_whole : FnScope ["_law_found"] ["_law_found"] (defScope (top 33)) := ⟨rfl, rfl, rfl, by decide +kernel, rfl, by decide +kernel, by decide +kernel⟩
theorem m_law_whole (K : Fg) : mSs (b_law_whole K) ⟨["_law_found"], (defScope (top 33)).names, true⟩ (defBody (top 33)) = true := by kernel_rfl
theorem sc_law_same : FnScope ["_law_found", "_law_due", "_law_one", "_law_other"] ["_law_found", "_law_due"] (defScope (top 34)) := ⟨rfl, rfl, rfl, by decide +kernel, rfl, by decide +kernel, by decide +kernel⟩
theorem m_law_same (K : Fg) : mSs (b_law_same K) ⟨["_law_found", "_law_due", "_law_one", "_law_other"], (defScope (top 34)).names, true⟩ (defBody (top 34)) = true := by kernel_rfl
theorem m00_law_same (K : Fg) : mSs (b_law_same00 K) ⟨["_law_found", "_law_due", "_law_one", "_law_other"], (defScope (top 34)).names, true⟩ (defBody (top 34)) = true := by kernel_rfl
theorem m0_law_same (K : Fg) : mSs (b_law_same0 K) ⟨["_law_found", "_law_due", "_law_one", "_law_other"], (defScope (top 34)).names, true⟩ (defBody (top 34)) = true := by kernel_rfl
theorem sc_law_divisor : FnScope ["_law_one", "_law_other"] ["_law_one", "_law_other"] (defScope (top 41)) := ⟨rfl, rfl, rfl, by decide +kernel, rfl, by decide +kernel, by decide +kernel⟩
theorem m_law_divisor (K : Fg) : mSs (b_law_divisor K) ⟨["_law_one", "_law_other"], (defScope (top 41)).names, true⟩ (defBody (top 41)) = true := by kernel_rfl
theorem sc_law_fraction : FnScope ["_law_found", "_law_top", "_law_low"] ["_law_found"] (defScope (top 42)) := ⟨rfl, rfl, rfl, by decide +kernel, rfl, by decide +kernel, by decide +kernel⟩
theorem m_law_fraction (K : Fg) : mSs (b_law_fraction K) ⟨["_law_found", "_law_top", "_law_low"], (defScope (top 42)).names, true⟩ (defBody (top 42)) = true := by kernel_rfl
theorem sc_law_good : FnScope ["_law_found", "_law_rule_here", "_law_one", "_law_bottom", "_law_top", "_law_low", "_law_parts", "_law_k", "_law_letter", "_law_made"] ["_law_found", "_law_rule_here"] (defScope (top 43)) := ⟨rfl, rfl, rfl, by decide +kernel, rfl, by decide +kernel, by decide +kernel⟩
theorem m_law_good (K : Fg) : mSs (b_law_good K) ⟨["_law_found", "_law_rule_here", "_law_one", "_law_bottom", "_law_top", "_law_low", "_law_parts", "_law_k", "_law_letter", "_law_made"], (defScope (top 43)).names, true⟩ (defBody (top 43)) = true := by kernel_rfl
theorem sc_law_step : FnScope ["_law_one", "_law_row", "_law_found", "_law_k"] ["_law_one", "_law_row"] (defScope (top 39)) := ⟨rfl, rfl, rfl, by decide +kernel, rfl, by decide +kernel, by decide +kernel⟩
theorem m_law_step (K : Fg) : mSs (b_law_step K) ⟨["_law_one", "_law_row", "_law_found", "_law_k"], (defScope (top 39)).names, true⟩ (defBody (top 39)) = true := by kernel_rfl
theorem sc_law_mixes : FnScope ["_law_rule_here", "_law_many", "_law_row", "_law_now", "_law_turn"] ["_law_rule_here"] (defScope (top 40)) := ⟨rfl, rfl, rfl, by decide +kernel, rfl, by decide +kernel, by decide +kernel⟩
theorem m_law_mixes (K : Fg) : mSs (b_law_mixes K) ⟨["_law_rule_here", "_law_many", "_law_row", "_law_now", "_law_turn"], (defScope (top 40)).names, true⟩ (defBody (top 40)) = true := by kernel_rfl
theorem sc_law_caught : FnScope ["_law_e", "_law_some", "_law_most"] ["_law_e"] (defScope (top 36)) := ⟨rfl, rfl, rfl, by decide +kernel, rfl, by decide +kernel, by decide +kernel⟩
theorem m_law_caught (K : Fg) : mSs (L2.Na.K81.b_law_caught K) ⟨["_law_e", "_law_some", "_law_most"], (defScope (top 36)).names, .hot⟩ (defBody (top 36)) = true := by kernel_rfl
theorem sc_law_refused : FnScope ["_law_rule_here", "_law_found", "_law_e"] ["_law_rule_here"] (defScope (top 44)) := ⟨rfl, rfl, rfl, by decide +kernel, rfl, by decide +kernel, by decide +kernel⟩
theorem m_law_refused (K : Fg) : mSs (b_law_refused K) ⟨["_law_rule_here", "_law_found", "_law_e"], (defScope (top 44)).names, true⟩ (defBody (top 44)) = true := by kernel_rfl
theorem sc_law : FnScope ["_law_script", "_law_rule_here", "_law_size_here", "_law_unlike", "_law_found", "_law_kept", "_law_other"] ["_law_script"] (defScope (top 45)) := ⟨rfl, rfl, rfl, by decide +kernel, rfl, by decide +kernel, by decide +kernel⟩
theorem m_law (K : Fg) : mSs (b_law K) ⟨["_law_script", "_law_rule_here", "_law_size_here", "_law_unlike", "_law_found", "_law_kept", "_law_other"], (defScope (top 45)).names, true⟩ (defBody (top 45)) = true := by kernel_rfl
theorem all_q {K : Fg} {P : Program} {w : World} {h base : Heap} {mg : Str -> Option Value} (X : K.In h) (G : h.Ns mainGlobals mg) (bl : ∀ x ∈ blts, mg x = none) (F_law_raw : FD K "_law_raw" (top 31)) (F_law_mix : FD K "_law_mix" (top 32)) (F_law_size : FD K "_law_size" (top 37)) (F_law_word : FD K "_law_word" (top 35)) (F_law_rule : FD K "_law_rule" (top 38)) (F_letters : FD K "letters" (top 2)) (F_counts : FD K "counts" (top 4)) (F_table : FD K "table" (top 5)) (F_lacks_of : FD K "lacks_of" (top 25)) (F_determinant : FD K "determinant" (top 27)) (F_greatest_divisor : FD K "greatest_divisor" (top 29)) (F_in_lowest_terms : FD K "in_lowest_terms" (top 28)) (F_of_one_size : FD K "of_one_size" (top 24)) (F_letters_in : FD K "letters_in" (top 21)) (F_words_by_letter : FD K "words_by_letter" (top 17)) (F_put : FD K "put" (top 16)) (F_mixes : FD K "mixes" (top 20)) (F_without : FD K "without" (top 26)) (F_shares : FD K "shares" (top 23)) (F_law_whole : FD K "_law_whole" (top 33)) (F_law_same : FD K "_law_same" (top 34)) (F_law_divisor : FD K "_law_divisor" (top 41)) (F_law_fraction : FD K "_law_fraction" (top 42)) (F_law_good : FD K "_law_good" (top 43)) (F_law_step : FD K "_law_step" (top 39)) (F_law_mixes : FD K "_law_mixes" (top 40)) (F_law_caught : FD K "_law_caught" (top 36)) (F_law_refused : FD K "_law_refused" (top 44)) (k_ENOUGH_TURNS : GC K "ENOUGH_TURNS" (.int 10)) (k_LETTERS : GC K "LETTERS" (.str "abcd")) (kf : KF K) (A : Around) (hr : Room 6 A) : qSs (b_law K) ⟨P, w, K, mg, base, A⟩ := by
 have r_NoPiece := PySem.W.mg_of X G kf.n_NoPiece
 have r_NoRow := PySem.W.mg_of X G kf.n_NoRow
 have r_NoRule := PySem.W.mg_of X G kf.n_NoRule
 have r_NoShares := PySem.W.mg_of X G kf.n_NoShares
 have r_NoStart := PySem.W.mg_of X G kf.n_NoStart
 have r_NotMixed := PySem.W.mg_of X G kf.n_NotMixed
 have r_TooGreat := PySem.W.mg_of X G kf.n_TooGreat
 have r_WordError := PySem.W.mg_of X G kf.n_WordError
 have D_law_raw : DnK P w K mg base 1 "_law_raw" (L2.Na.K81.sp_law_raw K) := dn_of F_law_raw X G bl (L2.Na.K81.b_law_raw K) sc_law_raw (m_law_raw K) (fun _ _ _ _ _ _ us hl => by2 (Z := fun us => bindArgs _ ⟨us, []⟩ = pure (List.zip _ us)) (fun _ _ => by exact rfl) us hl) L2.Na.K81.l_law_raw L2.Na.K81.t_law_raw (fun A hr => ⟨⟨⟨⟨tI, tI⟩, tI⟩, ⟨tI, tI⟩, tI⟩, ⟨⟨tI, ⟨tI, ⟨tI, tI⟩⟩⟩, tI⟩⟩)
 have D_law_mix : DnK P w K mg base 2 "_law_mix" (L2.Na.K81.sp_law_mix K) := dn_of F_law_mix X G bl (L2.Na.K81.b_law_mix K) sc_law_mix (m_law_mix K) (fun _ _ _ _ _ _ us hl => by2 (Z := fun us => bindArgs _ ⟨us, []⟩ = pure (List.zip _ us)) (fun _ _ => by exact rfl) us hl) L2.Na.K81.l_law_mix L2.Na.K81.t_law_mix (fun A hr => ⟨⟨⟨⟨tI, tI⟩, tI⟩, ⟨⟨⟨⟨⟨tI, tI⟩, tI⟩, tI⟩, tI⟩, tI⟩, tI⟩, ⟨⟨tI, ⟨tI, tI⟩⟩, ⟨⟨⟨⟨⟨⟨D_law_raw.at hr (by decide), ⟨tI, ⟨tI, tI⟩⟩⟩, tI⟩, tI⟩, ⟨tI, ⟨⟨tI, tI⟩, tI⟩⟩⟩, tI⟩, tI⟩⟩⟩)
 have D_law_size : DnK P w K mg base 3 "_law_size" (sp_law_size K) := dn_of F_law_size X G bl (b_law_size K) sc_law_size (m_law_size K) (fun _ _ _ _ _ _ us hl => by1 (Z := fun us => bindArgs _ ⟨us, []⟩ = pure (List.zip _ us)) (fun _ => by exact rfl) us hl) l_law_size t_law_size (fun A hr => ⟨⟨⟨D_law_mix.at hr (by decide), ⟨tI, ⟨tI, tI⟩⟩⟩, tI⟩, ⟨⟨⟨⟨tI, tI⟩, tI⟩, ⟨⟨tI, ⟨⟨tI, tI⟩, tI⟩⟩, tI⟩, tI⟩, ⟨⟨⟨tI, ⟨tI, ⟨tI, ⟨tI, ⟨tI, ⟨tI, ⟨tI, ⟨tI, tI⟩⟩⟩⟩⟩⟩⟩⟩, ⟨⟨tI, tI⟩, tI⟩⟩, tI⟩⟩⟩)
 have D_law_word : DnK P w K mg base 1 "_law_word" (sp_law_word K) := dn_of F_law_word X G bl (b_law_word K) sc_law_word (m_law_word K) (fun _ _ _ _ _ _ us hl => by3 (Z := fun us => bindArgs _ ⟨us, []⟩ = pure (List.zip _ us)) (fun _ _ _ => by exact rfl) us hl) l_law_word t_law_word (fun A hr => ⟨tI, ⟨⟨⟨tI, tI⟩, ⟨⟨⟨⟨⟨tI, ⟨tI, tI⟩⟩, tI⟩, tI⟩, tI⟩, ⟨⟨tI, ⟨tI, ⟨⟨tI, tI⟩, tI⟩⟩⟩, tI⟩⟩⟩, ⟨tI, tI⟩⟩⟩)
 have D_law_rule : DnK P w K mg base 4 "_law_rule" (sp_law_rule K) := dn_of F_law_rule X G bl (b_law_rule K) sc_law_rule (m_law_rule K) (fun _ _ _ _ _ _ us hl => by2 (Z := fun us => bindArgs _ ⟨us, []⟩ = pure (List.zip _ us)) (fun _ _ => by exact rfl) us hl) l_law_rule t_law_rule (fun A hr => ⟨⟨D_law_size.at hr (by decide), ⟨tI, tI⟩⟩, ⟨tI, ⟨⟨⟨tI, tI⟩, ⟨⟨D_law_mix.at hr (by decide), ⟨tI, ⟨⟨tI, tI⟩, tI⟩⟩⟩, ⟨⟨D_law_word.at hr (by decide), ⟨tI, ⟨tI, ⟨tI, tI⟩⟩⟩⟩, ⟨⟨⟨⟨tI, tI⟩, ⟨⟨⟨⟨⟨D_law_mix.at hr (by decide), ⟨tI, ⟨tI, tI⟩⟩⟩, tI⟩, tI⟩, tI⟩, tI⟩⟩, ⟨⟨⟨tI, tI⟩, ⟨tI, tI⟩⟩, ⟨⟨⟨tI, tI⟩, ⟨tI, ⟨⟨tI, tI⟩, tI⟩⟩⟩, ⟨⟨⟨⟨tI, tI, tI⟩, tI⟩, ⟨tI, ⟨tI, tI⟩, tI⟩⟩, tI⟩⟩⟩, tI⟩, ⟨⟨tI, ⟨tI, tI⟩⟩, tI⟩⟩⟩⟩⟩, ⟨⟨⟨D_law_mix.at hr (by decide), ⟨tI, ⟨tI, tI⟩⟩⟩, tI⟩, ⟨⟨⟨⟨tI, tI⟩, tI⟩, ⟨⟨⟨tI, tI⟩, tI⟩, ⟨⟨tI, tI⟩, ⟨⟨⟨⟨tI, tI, tI⟩, ⟨tI, ⟨⟨tI, tI⟩, tI⟩⟩⟩, ⟨⟨tI, ⟨tI, ⟨⟨tI, tI⟩, tI⟩⟩⟩, tI⟩⟩, ⟨⟨tI, tI, ⟨tI, ⟨⟨tI, tI⟩, tI⟩⟩⟩, tI⟩⟩⟩⟩, tI⟩, ⟨⟨tI, tI⟩, tI⟩⟩⟩⟩⟩⟩)
 have D_letters : DnK P w K mg base 1 "letters" (sp_letters K) := dn_of F_letters X G bl (b_letters K) sc_letters (m_letters K) (fun _ _ _ _ _ _ us hl => by1 (Z := fun us => bindArgs _ ⟨us, []⟩ = pure (List.zip _ us)) (fun _ => by exact rfl) us hl) l_letters t_letters (fun A hr => ⟨⟨(gc_at X G k_LETTERS), tI, tI⟩, tI⟩)
 have D_counts : DnK P w K mg base 2 "counts" (sp_counts K) := dn_of F_counts X G bl (b_counts K) sc_counts (m_counts K) (fun _ _ _ _ _ _ us hl => by2 (Z := fun us => bindArgs _ ⟨us, []⟩ = pure (List.zip _ us)) (fun _ _ => by exact rfl) us hl) l_counts t_counts (fun A hr => ⟨⟨⟨D_letters.at hr (by decide), ⟨tI, tI⟩⟩, ⟨tI, ⟨tI, tI⟩⟩, tI⟩, tI⟩)
 have D_table : DnK P w K mg base 3 "table" (sp_table K) := dn_of F_table X G bl (b_table K) sc_table (m_table K) (fun _ _ _ _ _ _ us hl => by1 (Z := fun us => bindArgs _ ⟨us, []⟩ = pure (List.zip _ us)) (fun _ => by exact rfl) us hl) l_table t_table (fun A hr => ⟨⟨tI, ⟨D_counts.at hr (by decide), ⟨tI, ⟨⟨tI, tI⟩, tI⟩⟩⟩, tI⟩, tI⟩)
 have D_lacks_of : DnK P w K mg base 4 "lacks_of" (sp_lacks_of K) := dn_of F_lacks_of X G bl (b_lacks_of K) sc_lacks_of (m_lacks_of K) (fun _ _ _ _ _ _ us hl => by1 (Z := fun us => bindArgs _ ⟨us, []⟩ = pure (List.zip _ us)) (fun _ => by exact rfl) us hl) l_lacks_of t_lacks_of (fun A hr => ⟨tI, ⟨⟨⟨⟨D_table.at hr (by decide), ⟨tI, tI⟩⟩, tI⟩, ⟨⟨tI, tI, tI⟩, ⟨⟨tI, tI, ⟨⟨tI, tI⟩, ⟨⟨tI, tI⟩, tI⟩⟩⟩, ⟨⟨tI, ⟨tI, tI⟩⟩, tI⟩⟩⟩⟩, ⟨tI, tI⟩⟩⟩)
 have D0_determinant : DnK P w K mg base 1 "determinant" (sp_determinant0 K) := dn_of F_determinant X G bl (b_determinant0 K) sc_determinant (m0_determinant K) (fun _ _ _ _ _ _ us hl => by1 (Z := fun us => bindArgs _ ⟨us, []⟩ = pure (List.zip _ us)) (fun _ => by exact rfl) us hl) l_determinant0 t_determinant0 (fun A hr => ⟨⟨⟨⟨tI, tI⟩, tI⟩, ⟨tI, tI⟩, tI⟩, ⟨tI, ⟨tI, ⟨tI, ⟨tI, tI⟩⟩⟩⟩⟩)
 have D1_determinant : DnK P w K mg base 2 "determinant" (sp_determinant1 K) := dn_of F_determinant X G bl (b_determinant1 K) sc_determinant (m1_determinant K) (fun _ _ _ _ _ _ us hl => by1 (Z := fun us => bindArgs _ ⟨us, []⟩ = pure (List.zip _ us)) (fun _ => by exact rfl) us hl) l_determinant1 t_determinant1 (fun A hr => ⟨⟨⟨⟨tI, tI⟩, tI⟩, ⟨tI, tI⟩, tI⟩, ⟨tI, ⟨tI, ⟨⟨⟨⟨tI, tI⟩, tI⟩, ⟨⟨⟨tI, tI, tI⟩, ⟨⟨tI, tI, tI⟩, ⟨tI, ⟨tI, tI⟩, tI⟩⟩, tI⟩, ⟨⟨tI, ⟨⟨tI, tI⟩, ⟨D0_determinant.at hr (by decide), ⟨tI, tI⟩⟩⟩⟩, ⟨tI, tI⟩⟩⟩⟩, ⟨tI, tI⟩⟩⟩⟩⟩)
 have D2_determinant : DnK P w K mg base 3 "determinant" (sp_determinant2 K) := dn_of F_determinant X G bl (b_determinant2 K) sc_determinant (m2_determinant K) (fun _ _ _ _ _ _ us hl => by1 (Z := fun us => bindArgs _ ⟨us, []⟩ = pure (List.zip _ us)) (fun _ => by exact rfl) us hl) l_determinant2 t_determinant2 (fun A hr => ⟨⟨⟨⟨tI, tI⟩, tI⟩, ⟨tI, tI⟩, tI⟩, ⟨tI, ⟨tI, ⟨⟨⟨⟨tI, tI⟩, tI⟩, ⟨⟨⟨tI, tI, tI⟩, ⟨⟨tI, tI, tI⟩, ⟨tI, ⟨tI, tI⟩, tI⟩⟩, tI⟩, ⟨⟨tI, ⟨⟨tI, tI⟩, ⟨D1_determinant.at hr (by decide), ⟨tI, tI⟩⟩⟩⟩, ⟨tI, tI⟩⟩⟩⟩, ⟨tI, tI⟩⟩⟩⟩⟩)
 have D_determinant : DnK P w K mg base 4 "determinant" (sp_determinant K) := dn_of F_determinant X G bl (b_determinant K) sc_determinant (m_determinant K) (fun _ _ _ _ _ _ us hl => by1 (Z := fun us => bindArgs _ ⟨us, []⟩ = pure (List.zip _ us)) (fun _ => by exact rfl) us hl) l_determinant t_determinant (fun A hr => ⟨⟨⟨⟨tI, tI⟩, tI⟩, ⟨tI, tI⟩, tI⟩, ⟨tI, ⟨tI, ⟨⟨⟨⟨tI, tI⟩, tI⟩, ⟨⟨⟨tI, tI, tI⟩, ⟨⟨tI, tI, tI⟩, ⟨tI, ⟨tI, tI⟩, tI⟩⟩, tI⟩, ⟨⟨tI, ⟨⟨tI, tI⟩, ⟨D2_determinant.at hr (by decide), ⟨tI, tI⟩⟩⟩⟩, ⟨tI, tI⟩⟩⟩⟩, ⟨tI, tI⟩⟩⟩⟩⟩)
 have D_greatest_divisor : DnK P w K mg base 1 "greatest_divisor" (sp_greatest_divisor K) := dn_of F_greatest_divisor X G bl (b_greatest_divisor K) sc_greatest_divisor (m_greatest_divisor K) (fun _ _ _ _ _ _ us hl => by2 (Z := fun us => bindArgs _ ⟨us, []⟩ = pure (List.zip _ us)) (fun _ _ => by exact rfl) us hl) l_greatest_divisor t_greatest_divisor (fun A hr => ⟨⟨⟨tI, tI⟩, ⟨⟨tI, tI⟩, ⟨tI, ⟨tI, tI⟩⟩⟩⟩, ⟨tI, tI⟩⟩)
 have D_in_lowest_terms : DnK P w K mg base 2 "in_lowest_terms" (sp_in_lowest_terms K) := dn_of F_in_lowest_terms X G bl (b_in_lowest_terms K) sc_in_lowest_terms (m_in_lowest_terms K) (fun _ _ _ _ _ _ us hl => by2 (Z := fun us => bindArgs _ ⟨us, []⟩ = pure (List.zip _ us)) (fun _ _ => by exact rfl) us hl) l_in_lowest_terms t_in_lowest_terms (fun A hr => ⟨⟨D_greatest_divisor.at hr (by decide), ⟨tI, ⟨tI, tI⟩⟩⟩, ⟨⟨⟨tI, tI⟩, ⟨⟨tI, tI⟩, tI⟩⟩, tI⟩⟩)
 have D_of_one_size : DnK P w K mg base 1 "of_one_size" (sp_of_one_size K) := dn_of F_of_one_size X G bl (b_of_one_size K) sc_of_one_size (m_of_one_size K) (fun _ _ _ _ _ _ us hl => by1 (Z := fun us => bindArgs _ ⟨us, []⟩ = pure (List.zip _ us)) (fun _ => by exact rfl) us hl) l_of_one_size t_of_one_size (fun A hr => ⟨⟨⟨tI, tI⟩, tI⟩, ⟨⟨⟨tI, tI⟩, ⟨⟨⟨tI, ⟨⟨tI, tI⟩, tI⟩, tI⟩, tI⟩, tI⟩⟩, tI⟩⟩)
 have D_letters_in : DnK P w K mg base 1 "letters_in" (L2.Na.K41.sp_letters_in K) := dn_of F_letters_in X G bl (L2.Na.K41.b_letters_in K) sc_letters_in (m_letters_in K) (fun _ _ _ _ _ _ us hl => by1 (Z := fun us => bindArgs _ ⟨us, []⟩ = pure (List.zip _ us)) (fun _ => by exact rfl) us hl) L2.Na.K41.l_letters_in L2.Na.K41.t_letters_in (fun A hr => ⟨⟨tI, ⟨⟨⟨tI, tI⟩, tI⟩, tI⟩⟩, tI⟩)
 have D_words_by_letter : DnK P w K mg base 2 "words_by_letter" (sp_words_by_letter K) := dn_of F_words_by_letter X G bl (b_words_by_letter K) sc_words_by_letter (m_words_by_letter K) (fun _ _ _ _ _ _ us hl => by1 (Z := fun us => bindArgs _ ⟨us, []⟩ = pure (List.zip _ us)) (fun _ => by exact rfl) us hl) l_words_by_letter t_words_by_letter (fun A hr => ⟨⟨⟨D_letters.at hr (by decide), ⟨⟨tI, tI⟩, tI⟩⟩, ⟨tI, tI⟩⟩, tI⟩)
 have D_put : DnK P w K mg base 3 "put" (sp_put K) := dn_of F_put X G bl (b_put K) sc_put (m_put K) (fun _ _ _ _ _ _ us hl => by2 (Z := fun us => bindArgs _ ⟨us, []⟩ = pure (List.zip _ us)) (fun _ _ => by exact rfl) us hl) l_put t_put (fun A hr => ⟨⟨D_words_by_letter.at hr (by decide), ⟨tI, tI⟩⟩, ⟨⟨tI, ⟨⟨tI, ⟨tI, tI⟩, tI⟩, tI⟩⟩, tI⟩⟩)
 have D_mixes : DnK P w K mg base 4 "mixes" (L2.Na.K41.sp_mixes K) := dn_of F_mixes X G bl (L2.Na.K41.b_mixes K) sc_mixes (m_mixes K) (fun _ _ _ _ _ _ us hl => by1 (Z := fun us => bindArgs _ ⟨us, []⟩ = pure (List.zip _ us)) (fun _ => by exact rfl) us hl) L2.Na.K41.l_mixes L2.Na.K41.t_mixes (fun A hr => ⟨⟨D_letters.at hr (by decide), ⟨⟨tI, tI⟩, tI⟩⟩, ⟨⟨tI, tI⟩, ⟨⟨⟨(gc_at X G k_ENOUGH_TURNS), tI⟩, ⟨⟨tI, ⟨D_letters_in.at hr (by decide), ⟨⟨D_put.at hr (by decide), ⟨tI, ⟨tI, tI⟩⟩⟩, tI⟩⟩, tI⟩, tI⟩⟩, ⟨⟨⟨tI, ⟨tI, tI⟩, tI⟩, tI⟩, tI⟩⟩⟩⟩)
 have D_without : DnK P w K mg base 1 "without" (sp_without K) := dn_of F_without X G bl (b_without K) sc_without (m_without K) (fun _ _ _ _ _ _ us hl => by2 (Z := fun us => bindArgs _ ⟨us, []⟩ = pure (List.zip _ us)) (fun _ _ => by exact rfl) us hl) l_without t_without (fun A hr => ⟨⟨⟨tI, tI, tI⟩, ⟨tI, ⟨tI, tI⟩, tI⟩⟩, ⟨⟨tI, ⟨⟨tI, tI, tI⟩, ⟨tI, ⟨tI, tI⟩, tI⟩⟩, tI⟩, tI⟩⟩)
 have D_shares : DnK P w K mg base 5 "shares" (sp_shares K) := dn_of F_shares X G bl (b_shares K) sc_shares (m_shares K) (fun _ _ _ _ _ _ us hl => by1 (Z := fun us => bindArgs _ ⟨us, []⟩ = pure (List.zip _ us)) (fun _ => by exact rfl) us hl) l_shares t_shares (fun A hr => ⟨⟨⟨⟨D_of_one_size.at hr (by decide), ⟨tI, tI⟩⟩, ⟨⟨D_mixes.at hr (by decide), ⟨tI, tI⟩⟩, tI⟩⟩, ⟨⟨⟨r_NoShares, kf.e_NoShares⟩, ⟨tI, tI⟩⟩, tI⟩, tI⟩, ⟨⟨D_lacks_of.at hr (by decide), ⟨tI, tI⟩⟩, ⟨⟨⟨⟨tI, tI⟩, tI⟩, ⟨D_determinant.at hr (by decide), ⟨⟨D_without.at hr (by decide), ⟨tI, ⟨tI, tI⟩⟩⟩, tI⟩⟩, tI⟩, ⟨⟨tI, tI⟩, ⟨⟨tI, ⟨D_in_lowest_terms.at hr (by decide), ⟨tI, ⟨tI, tI⟩⟩⟩, tI⟩, tI⟩⟩⟩⟩⟩)
 have D_law_whole : DnK P w K mg base 1 "_law_whole" (sp_law_whole K) := dn_of F_law_whole X G bl (b_law_whole K) sc_law_whole (m_law_whole K) (fun _ _ _ _ _ _ us hl => by1 (Z := fun us => bindArgs _ ⟨us, []⟩ = pure (List.zip _ us)) (fun _ => by exact rfl) us hl) l_law_whole t_law_whole (fun A hr => ⟨⟨⟨tI, ⟨tI, tI⟩⟩, ⟨⟨tI, ⟨tI, tI⟩⟩, tI⟩⟩, tI⟩)
 have D00_law_same : DnK P w K mg base 2 "_law_same" (sp_law_same00 K) := dn_of F_law_same X G bl (b_law_same00 K) sc_law_same (m00_law_same K) (fun _ _ _ _ _ _ us hl => by2 (Z := fun us => bindArgs _ ⟨us, []⟩ = pure (List.zip _ us)) (fun _ _ => by exact rfl) us hl) l_law_same00 t_law_same00 (fun A hr => ⟨⟨⟨tI, tI⟩, ⟨⟨tI, tI⟩, tI⟩, tI⟩, ⟨⟨⟨tI, ⟨tI, tI⟩⟩, ⟨⟨⟨tI, ⟨tI, tI⟩⟩, ⟨⟨tI, tI⟩, tI⟩⟩, tI⟩, tI⟩, ⟨⟨⟨tI, ⟨tI, tI⟩⟩, ⟨⟨⟨D_law_whole.at hr (by decide), ⟨tI, tI⟩⟩, ⟨⟨tI, tI⟩, tI⟩⟩, tI⟩, tI⟩, ⟨⟨⟨tI, ⟨tI, tI⟩⟩, ⟨⟨⟨tI, ⟨tI, tI⟩⟩, ⟨⟨tI, tI⟩, tI⟩⟩, tI⟩, tI⟩, ⟨tI, ⟨tI, ⟨tI, ⟨tI, tI⟩⟩⟩⟩⟩⟩⟩⟩)
 have D0_law_same : DnK P w K mg base 3 "_law_same" (sp_law_same0 K) := dn_of F_law_same X G bl (b_law_same0 K) sc_law_same (m0_law_same K) (fun _ _ _ _ _ _ us hl => by2 (Z := fun us => bindArgs _ ⟨us, []⟩ = pure (List.zip _ us)) (fun _ _ => by exact rfl) us hl) l_law_same0 t_law_same0 (fun A hr => ⟨⟨⟨tI, tI⟩, ⟨⟨tI, tI⟩, tI⟩, tI⟩, ⟨⟨⟨tI, ⟨tI, tI⟩⟩, ⟨⟨⟨tI, ⟨tI, tI⟩⟩, ⟨⟨tI, tI⟩, tI⟩⟩, tI⟩, tI⟩, ⟨⟨⟨tI, ⟨tI, tI⟩⟩, ⟨⟨⟨D_law_whole.at hr (by decide), ⟨tI, tI⟩⟩, ⟨⟨tI, tI⟩, tI⟩⟩, tI⟩, tI⟩, ⟨⟨⟨tI, ⟨tI, tI⟩⟩, ⟨⟨⟨tI, ⟨tI, tI⟩⟩, ⟨⟨tI, tI⟩, tI⟩⟩, tI⟩, tI⟩, ⟨⟨⟨⟨⟨tI, ⟨tI, tI⟩⟩, ⟨⟨tI, ⟨tI, tI⟩⟩, tI⟩⟩, ⟨⟨⟨tI, ⟨tI, tI⟩⟩, ⟨⟨tI, ⟨tI, tI⟩⟩, tI⟩⟩, tI⟩⟩, ⟨tI, tI⟩, tI⟩, ⟨⟨⟨⟨tI, tI⟩, ⟨tI, tI⟩⟩, ⟨tI, tI⟩, tI⟩, ⟨⟨⟨tI, ⟨tI, tI⟩⟩, ⟨⟨⟨D00_law_same.at hr (by decide), ⟨tI, ⟨tI, tI⟩⟩⟩, ⟨tI, tI⟩, tI⟩, tI⟩⟩, ⟨tI, tI⟩⟩⟩⟩⟩⟩⟩⟩)
 have D_law_same : DnK P w K mg base 4 "_law_same" (sp_law_same K) := dn_of F_law_same X G bl (b_law_same K) sc_law_same (m_law_same K) (fun _ _ _ _ _ _ us hl => by2 (Z := fun us => bindArgs _ ⟨us, []⟩ = pure (List.zip _ us)) (fun _ _ => by exact rfl) us hl) l_law_same t_law_same (fun A hr => ⟨⟨⟨tI, tI⟩, ⟨⟨tI, tI⟩, tI⟩, tI⟩, ⟨⟨⟨tI, ⟨tI, tI⟩⟩, ⟨⟨⟨tI, ⟨tI, tI⟩⟩, ⟨⟨tI, tI⟩, tI⟩⟩, tI⟩, tI⟩, ⟨⟨⟨tI, ⟨tI, tI⟩⟩, ⟨⟨⟨D_law_whole.at hr (by decide), ⟨tI, tI⟩⟩, ⟨⟨tI, tI⟩, tI⟩⟩, tI⟩, tI⟩, ⟨⟨⟨tI, ⟨tI, tI⟩⟩, ⟨⟨⟨tI, ⟨tI, tI⟩⟩, ⟨⟨tI, tI⟩, tI⟩⟩, tI⟩, tI⟩, ⟨⟨⟨⟨⟨tI, ⟨tI, tI⟩⟩, ⟨⟨tI, ⟨tI, tI⟩⟩, tI⟩⟩, ⟨⟨⟨tI, ⟨tI, tI⟩⟩, ⟨⟨tI, ⟨tI, tI⟩⟩, tI⟩⟩, tI⟩⟩, ⟨tI, tI⟩, tI⟩, ⟨⟨⟨⟨tI, tI⟩, ⟨tI, tI⟩⟩, ⟨tI, tI⟩, tI⟩, ⟨⟨⟨tI, ⟨tI, tI⟩⟩, ⟨⟨⟨D0_law_same.at hr (by decide), ⟨tI, ⟨tI, tI⟩⟩⟩, ⟨tI, tI⟩, tI⟩, tI⟩⟩, ⟨tI, tI⟩⟩⟩⟩⟩⟩⟩⟩)
 have D_law_divisor : DnK P w K mg base 1 "_law_divisor" (sp_law_divisor K) := dn_of F_law_divisor X G bl (b_law_divisor K) sc_law_divisor (m_law_divisor K) (fun _ _ _ _ _ _ us hl => by2 (Z := fun us => bindArgs _ ⟨us, []⟩ = pure (List.zip _ us)) (fun _ _ => by exact rfl) us hl) l_law_divisor t_law_divisor (fun A hr => ⟨⟨⟨tI, tI⟩, ⟨⟨tI, ⟨⟨tI, tI⟩, tI⟩⟩, tI⟩⟩, ⟨tI, tI⟩⟩)
 have D_law_fraction : DnK P w K mg base 2 "_law_fraction" (sp_law_fraction K) := dn_of F_law_fraction X G bl (b_law_fraction K) sc_law_fraction (m_law_fraction K) (fun _ _ _ _ _ _ us hl => by1 (Z := fun us => bindArgs _ ⟨us, []⟩ = pure (List.zip _ us)) (fun _ => by exact rfl) us hl) l_law_fraction t_law_fraction (fun A hr => ⟨⟨⟨⟨tI, ⟨tI, tI⟩⟩, ⟨⟨⟨tI, tI⟩, tI⟩, tI⟩⟩, ⟨tI, tI⟩, tI⟩, ⟨tI, ⟨⟨⟨⟨D_law_whole.at hr (by decide), ⟨tI, tI⟩⟩, ⟨⟨D_law_whole.at hr (by decide), ⟨tI, tI⟩⟩, ⟨⟨tI, tI⟩, ⟨⟨tI, tI⟩, tI⟩⟩⟩⟩, ⟨tI, tI⟩, tI⟩, ⟨⟨⟨D_law_divisor.at hr (by decide), ⟨tI, ⟨tI, tI⟩⟩⟩, tI⟩, tI⟩⟩⟩⟩)
 have D_law_good : DnK P w K mg base 3 "_law_good" (sp_law_good K) := dn_of F_law_good X G bl (b_law_good K) sc_law_good (m_law_good K) (fun _ _ _ _ _ _ us hl => by2 (Z := fun us => bindArgs _ ⟨us, []⟩ = pure (List.zip _ us)) (fun _ _ => by exact rfl) us hl) l_law_good t_law_good (fun A hr => ⟨⟨⟨⟨tI, ⟨tI, tI⟩⟩, ⟨⟨⟨tI, tI⟩, ⟨tI, tI⟩⟩, tI⟩⟩, ⟨tI, tI⟩, tI⟩, ⟨⟨tI, ⟨⟨⟨D_law_fraction.at hr (by decide), ⟨tI, tI⟩⟩, ⟨tI, tI⟩, tI⟩, tI⟩⟩, ⟨tI, ⟨⟨tI, ⟨⟨⟨tI, tI⟩, ⟨D_law_divisor.at hr (by decide), ⟨tI, ⟨tI, tI⟩⟩⟩⟩, tI⟩⟩, ⟨⟨tI, ⟨tI, ⟨tI, tI⟩⟩, tI⟩, ⟨⟨⟨⟨tI, tI⟩, tI⟩, ⟨⟨tI, tI⟩, ⟨⟨⟨⟨⟨tI, tI⟩, tI⟩, ⟨⟨tI, tI⟩, ⟨⟨tI, tI⟩, ⟨tI, tI⟩⟩⟩, tI⟩, tI⟩, ⟨⟨⟨⟨⟨tI, tI⟩, ⟨⟨tI, tI⟩, tI⟩⟩, tI⟩, ⟨tI, tI⟩, tI⟩, tI⟩⟩⟩⟩, ⟨⟨⟨tI, tI⟩, tI⟩, tI⟩⟩⟩⟩⟩⟩⟩)
 have D_law_step : DnK P w K mg base 1 "_law_step" (sp_law_step K) := dn_of F_law_step X G bl (b_law_step K) sc_law_step (m_law_step K) (fun _ _ _ _ _ _ us hl => by2 (Z := fun us => bindArgs _ ⟨us, []⟩ = pure (List.zip _ us)) (fun _ _ => by exact rfl) us hl) l_law_step t_law_step (fun A hr => ⟨tI, ⟨⟨⟨⟨tI, tI⟩, tI⟩, ⟨⟨tI, ⟨⟨tI, ⟨⟨⟨tI, tI⟩, tI⟩, ⟨⟨tI, tI⟩, ⟨⟨⟨tI, tI⟩, tI⟩, tI⟩⟩, tI⟩⟩, tI⟩⟩, tI⟩⟩, ⟨tI, tI⟩⟩⟩)
 have D_law_mixes : DnK P w K mg base 2 "_law_mixes" (sp_law_mixes K) := dn_of F_law_mixes X G bl (b_law_mixes K) sc_law_mixes (m_law_mixes K) (fun _ _ _ _ _ _ us hl => by1 (Z := fun us => bindArgs _ ⟨us, []⟩ = pure (List.zip _ us)) (fun _ => by exact rfl) us hl) l_law_mixes t_law_mixes (fun A hr => ⟨⟨tI, tI⟩, ⟨⟨tI, ⟨⟨tI, tI, tI⟩, ⟨tI, tI⟩, tI⟩, tI⟩, ⟨tI, ⟨⟨⟨tI, tI⟩, ⟨⟨tI, ⟨D_law_step.at hr (by decide), ⟨tI, ⟨tI, tI⟩⟩⟩, tI⟩, tI⟩⟩, ⟨⟨⟨⟨tI, tI, ⟨tI, tI⟩⟩, tI⟩, tI⟩, tI⟩⟩⟩⟩⟩)
 have D_law_caught : DnH P w K mg base 1 "_law_caught" (L2.Na.K81.sp_law_caught K) := dnH_of F_law_caught X G bl (L2.Na.K81.b_law_caught K) sc_law_caught (m_law_caught K) (fun _ _ _ _ _ _ us hl => by1 (Z := fun us => bindArgs _ ⟨us, []⟩ = pure (List.zip _ us)) (fun _ => by exact rfl) us hl) L2.Na.K81.l_law_caught L2.Na.K81.t_law_caught (fun A hr => ⟨⟨⟨tI, ⟨⟨_, r_NoRow, rfl⟩, tI⟩⟩, ⟨⟨tI, ⟨⟨_, r_NoRule, rfl⟩, tI⟩⟩, ⟨⟨tI, ⟨⟨_, r_NoStart, rfl⟩, tI⟩⟩, ⟨⟨tI, ⟨⟨_, r_NoPiece, rfl⟩, tI⟩⟩, tI⟩⟩⟩⟩, ⟨⟨tI, ⟨⟨tI, ⟨⟨_, r_NotMixed, rfl⟩, tI⟩⟩, ⟨⟨tI, ⟨⟨_, r_NoShares, rfl⟩, tI⟩⟩, ⟨⟨tI, ⟨⟨_, r_TooGreat, rfl⟩, tI⟩⟩, tI⟩⟩⟩⟩, ⟨tI, ⟨⟨⟨tI, tI⟩, ⟨tI, tI⟩, tI⟩, ⟨⟨tI, ⟨tI, ⟨⟨tI, ⟨tI, tI⟩⟩, tI⟩⟩⟩, tI⟩⟩⟩⟩⟩)
 have D_law_refused : DnK P w K mg base 6 "_law_refused" (sp_law_refused K) := dn_of F_law_refused X G bl (b_law_refused K) sc_law_refused (m_law_refused K) (fun _ _ _ _ _ _ us hl => by1 (Z := fun us => bindArgs _ ⟨us, []⟩ = pure (List.zip _ us)) (fun _ => by exact rfl) us hl) l_law_refused t_law_refused (fun A hr => ⟨tI, ⟨⟨r_WordError, ⟨⟨D_shares.at hr (by decide), ⟨tI, tI⟩⟩, tI⟩, fun h => ⟨D_law_caught.at (L2.Na.Room.hot hr h) (by decide), ⟨tI, tI⟩⟩⟩, ⟨⟨tI, ⟨⟨tI, ⟨tI, ⟨tI, ⟨tI, ⟨tI, ⟨tI, ⟨tI, tI⟩⟩⟩⟩⟩⟩⟩, ⟨tI, ⟨tI, tI⟩⟩⟩⟩, tI⟩⟩⟩)
 exact ⟨⟨D_law_rule.at hr (by decide), ⟨tI, ⟨⟨tI, ⟨⟨⟨D_law_mix.at hr (by decide), ⟨tI, ⟨tI, tI⟩⟩⟩, tI⟩, tI⟩⟩, tI⟩⟩⟩, ⟨⟨⟨tI, tI⟩, tI⟩, ⟨⟨tI, tI, ⟨⟨tI, tI⟩, tI⟩⟩, ⟨⟨⟨⟨tI, tI⟩, ⟨⟨tI, tI⟩, ⟨⟨D_law_mixes.at hr (by decide), ⟨tI, tI⟩⟩, tI⟩⟩⟩, ⟨⟨⟨D_law_refused.at hr (by decide), ⟨tI, tI⟩⟩, ⟨⟨D_law_refused.at hr (by decide), ⟨tI, tI⟩⟩, tI⟩⟩, tI⟩, tI⟩, ⟨⟨D_shares.at hr (by decide), ⟨tI, tI⟩⟩, ⟨⟨⟨D_law_good.at hr (by decide), ⟨tI, ⟨tI, tI⟩⟩⟩, ⟨tI, tI⟩, tI⟩, ⟨⟨tI, tI⟩, ⟨⟨D_shares.at hr (by decide), ⟨⟨tI, ⟨tI, tI⟩⟩, tI⟩⟩, ⟨⟨⟨⟨D_law_same.at hr (by decide), ⟨tI, ⟨⟨⟨tI, ⟨tI, tI⟩⟩, ⟨⟨tI, ⟨tI, tI⟩⟩, tI⟩⟩, tI⟩⟩⟩, ⟨⟨D_law_same.at hr (by decide), ⟨tI, ⟨tI, tI⟩⟩⟩, tI⟩⟩, ⟨tI, tI⟩, tI⟩, ⟨⟨tI, tI⟩, ⟨⟨tI, ⟨⟨tI, ⟨tI, tI⟩⟩, tI⟩⟩, ⟨⟨D_law_same.at hr (by decide), ⟨⟨D_shares.at hr (by decide), ⟨tI, tI⟩⟩, ⟨tI, tI⟩⟩⟩, tI⟩⟩⟩⟩⟩⟩⟩⟩⟩⟩⟩⟩
end L2.Na.K82
namespace L2.Hd
open PySem PySem.Calls PyProof.Rows PySem.W
open L2 (defArgs defBody defScope)
open L2.Na.K82 (top)
theorem q0 : (PySem.Challenge.pw_neveragain_k82_shares.main.body.length == 46) = true := by k_qdec
noncomputable def env (p : Program) : Env := { scope := p.main.scope, locals := mainNs, globals := mainNs, cells := [], code := .ref 13, frame := some 14 }
noncomputable def cd (p : Program) : Code := .body (behindTheImports p) (env p)
noncomputable abbrev p0 : Pos := ⟨0, 0, 0, 0⟩
noncomputable abbrev p1 : Pos := ⟨196, 0, 211, 55⟩
noncomputable abbrev B : List Frame := [topFrame p0]
noncomputable def toT (s : Shared) : SharedT := ⟨(s.heap.objs.toList.foldl (fun (a : BT × Nat) o => (a.1.ins a.2 o, a.2 + 1)) (BT.nil, 0)).1, s.heap.objs.size, s.heap.life, s.gens, s.drawn, s.toks, s.os⟩
noncomputable def prA (x : Option (Shared × Thread)) : SharedT := match x with
 | some (s, _) => toT s
 | none => ⟨BT.nil, 0, {}, #[], boot_drawn, 0, {}⟩
noncomputable def prS (x : Option (Flow × SharedT × Code × Pos)) : SharedT := match x with
 | some (_, s, _) => s
 | none => ⟨BT.nil, 0, {}, #[], boot_drawn, 0, {}⟩
noncomputable abbrev ann : Option Value := some (.ref 6)
noncomputable def goA (tb : String -> Option Builtin) (p : Program) (w : World) (os : OsState) : Option (Shared × Thread) := topGo tb p w 11 ann 12 ⟨boot_heap w.params, #[], boot_drawn, boot_toks, os⟩ (topStub p)
noncomputable def goB (tb : String -> Option Builtin) (p : Program) (w : World) (os : OsState) : Option (Flow × SharedT × Code × Pos) := segRunT tb p w 11 ann 1 2626 (prA (goA tb p w os)) (piecesOf (behindTheImports p) (env p) (cd p) p0 B)
theorem l1 : (fun (w : World) (os : OsState) => goA treeTable PySem.Challenge.pw_neveragain_k82_shares w os) = fun w os => some ((prA (goA treeTable PySem.Challenge.pw_neveragain_k82_shares w os)).abs, Thread.mk (denote treeTable (cd PySem.Challenge.pw_neveragain_k82_shares)) (cd PySem.Challenge.pw_neveragain_k82_shares) p0 B) := by
 unfold goA
 rw [PySem.W.Fast.te15667345088766844465, PySem.W.Fast.te14364793385576792824, PySem.W.Fast.te11892475500146522536, PySem.W.Fast.te11340449209224544770]
 kernel_rfl
theorem l2 : (fun (w : World) (os : OsState) => segRun treeTable PySem.Challenge.pw_neveragain_k82_shares w 11 ann 1 1 (prA (goA treeTable PySem.Challenge.pw_neveragain_k82_shares w os)).abs (blockOf (behindTheImports PySem.Challenge.pw_neveragain_k82_shares) (env PySem.Challenge.pw_neveragain_k82_shares) (cd PySem.Challenge.pw_neveragain_k82_shares) p0 B)) = fun w os => some (.next, (prA (goA treeTable PySem.Challenge.pw_neveragain_k82_shares w os)).abs, cd PySem.Challenge.pw_neveragain_k82_shares, p0) := by
 unfold goA
 rw [PySem.W.Fast.te15667345088766844465, PySem.W.Fast.te14364793385576792824, PySem.W.Fast.te14374325043358763698, PySem.W.Fast.te11340449209224544770]
 kernel_rfl
theorem l3 : (fun (w : World) (os : OsState) => goB treeTable PySem.Challenge.pw_neveragain_k82_shares w os) = fun w os => some (.next, prS (goB treeTable PySem.Challenge.pw_neveragain_k82_shares w os), cd PySem.Challenge.pw_neveragain_k82_shares, p1) := by
 unfold goB goA
 rw [PySem.W.Fast.te10110043849684766642, PySem.W.Fast.te15667345088766844465, PySem.W.Fast.te14364793385576792824, PySem.W.Fast.te11340449209224544770]
 kernel_rfl
theorem l4 : (fun (w : World) (os : OsState) => topRun treeTable PySem.Challenge.pw_neveragain_k82_shares w 11 ann 2 (prS (goB treeTable PySem.Challenge.pw_neveragain_k82_shares w os)).abs ⟨doneF .next, cd PySem.Challenge.pw_neveragain_k82_shares, p1, B⟩) = fun w os => some (prS (goB treeTable PySem.Challenge.pw_neveragain_k82_shares w os)).abs := by
 unfold goB goA
 rw [PySem.W.Fast.te14082659384304107361, PySem.W.Fast.te10110043849684766642, PySem.W.Fast.te15667345088766844465, PySem.W.Fast.te14364793385576792824, PySem.W.Fast.te11340449209224544770]
 kernel_rfl
noncomputable def dk (P : Params) (x : Str) (n : Nat) (v : Value) : DictEntry := { hash := PyData.keyHash P x, key := .str x n, val := v }
noncomputable def tp (a : Array Value) : Obj := { cls := .type "tuple", data := .seq a }
noncomputable def fo (x : Str) (i : Nat) (m : Value) (c : Nat) : Obj := { cls := .type "function", data := .func { name := x, qualname := x, params := defArgs (top i), body := .stmts (defBody (top i)), scope := defScope (top i), globals := 3, closure := [], defaults := .none, kwdefaults := .none, pyModule := m, code := .ref c } }
noncomputable def K : Params -> Frag := fun P =>
 (nat_lit 2, { cls := .none, data := Data.dict #[] }) ::
 (nat_lit 3, { cls := .type "dict", data := Data.dict #[dk P "__name__" 165 (.str "law_neveragain_k82_shares" 435), dk P "__doc__" 166 .none, dk P "__package__" 167 .none, dk P "__loader__" 168 (.builtin "__main__.__loader__#opaque"), dk P "__spec__" 169 .none, dk P "__annotations__" 170 (.ref 6), dk P "__builtins__" 171 (.ref 4), dk P "__file__" 173 (.str "/claim/cut.py" 172), dk P "__cached__" 174 .none, dk P "LETTERS" 190 (.str "abcd" 189), dk P "letters" 197 (.ref 21), dk P "counts" 205 (.ref 26), dk P "table" 211 (.ref 31), dk P "WordError" 231 (.ref 41), dk P "NoRule" 247 (.ref 54), dk P "NoStart" 263 (.ref 66), dk P "NoPiece" 279 (.ref 78), dk P "NotMixed" 295 (.ref 90), dk P "NoShares" 311 (.ref 102), dk P "NoRow" 327 (.ref 114), dk P "TooGreat" 352 (.ref 134), dk P "put" 360 (.ref 141), dk P "words_by_letter" 367 (.ref 148), dk P "ENOUGH_TURNS" 371 (.int 10 370), dk P "mixes" 377 (.ref 153), dk P "letters_in" 384 (.ref 160), dk P "shares" 392 (.ref 165), dk P "of_one_size" 398 (.ref 170), dk P "lacks_of" 404 (.ref 175), dk P "without" 410 (.ref 180), dk P "determinant" 416 (.ref 185), dk P "in_lowest_terms" 425 (.ref 192), dk P "greatest_divisor" 434 (.ref 199), dk P "_law_raw" 444 (.ref 206), dk P "_law_mix" 453 (.ref 213), dk P "_law_whole" 460 (.ref 220), dk P "_law_same" 470 (.ref 227), dk P "_law_word" 481 (.ref 234), dk P "_law_caught" 490 (.ref 241), dk P "_law_size" 498 (.ref 248), dk P "_law_rule" 515 (.ref 255), dk P "_law_step" 521 (.ref 260), dk P "_law_mixes" 527 (.ref 265), dk P "_law_divisor" 535 (.ref 272), dk P "_law_fraction" 544 (.ref 279), dk P "_law_good" 550 (.ref 284), dk P "_law_refused" 559 (.ref 291), dk P "law" 565 (.ref 296)] 48 }) ::
 (nat_lit 15, tp #[]) ::
 (nat_lit 17, tp #[.str "many" 194]) ::
 (nat_lit 18, tp #[]) ::
 (nat_lit 20, { cls := .type "code", data := Data.fields #[.str "letters" 191, .str "letters" 192, .str "/claim/cut.py" 193, .int 3 0, .int 1 0, .int 0 0, .int 0 0, .int 3 0, .ref 15, .bool true, .int 181 0, .ref 16, .none, .ref 17, .ref 18, .ref 19, .int 195 0, .int 3 0, .str "/claim/cut.py" 196] }) ::
 (nat_lit 21, fo "letters" 2 (.str "neveragain.words" 187) 20) ::
 (nat_lit 22, tp #[]) ::
 (nat_lit 25, { cls := .type "code", data := Data.fields #[.str "counts" 200, .str "counts" 201, .str "/claim/cut.py" 202, .int 6 0, .int 2 0, .int 0 0, .int 0 0, .int 3 0, .ref 22, .bool true, .int 181 0, .ref 23, .none, .none, .none, .ref 24, .int 203 0, .int 6 0, .str "/claim/cut.py" 204] }) ::
 (nat_lit 26, fo "counts" 4 (.str "neveragain.counts" 198) 25) ::
 (nat_lit 27, tp #[]) ::
 (nat_lit 30, { cls := .type "code", data := Data.fields #[.str "table" 206, .str "table" 207, .str "/claim/cut.py" 208, .int 8 0, .int 1 0, .int 0 0, .int 0 0, .int 3 0, .ref 27, .bool true, .int 181 0, .ref 28, .none, .none, .none, .ref 29, .int 209 0, .int 8 0, .str "/claim/cut.py" 210] }) ::
 (nat_lit 31, fo "table" 5 (.str "neveragain.counts" 198) 30) ::
 (nat_lit 32, tp #[.type "ValueError"]) ::
 (nat_lit 39, tp #[]) ::
 (nat_lit 40, { cls := .type "dict", data := Data.dict #[dk P "__module__" 221 (.str "neveragain.errors" 212), dk P "__firstlineno__" 225 (.int 11 224), dk P "__static_attributes__" 226 (.ref 39), dk P "__weakref__" 228 (.ref 42), dk P "__doc__" 229 .none] 3 }) ::
 (nat_lit 41, { cls := .type "type", data := Data.cls { name := "WordError", bases := [.type "ValueError"], mro := [.ref 41, .type "ValueError", .type "Exception", .type "BaseException", .type "object"], ns := 40, qualname := "WordError", subclasses := [.ref 54, .ref 66, .ref 78, .ref 90, .ref 102, .ref 114, .ref 134] }, slots := #[some (.ref 32), none, some (.str "WordError" 214), some (.str "WordError" 222), some (.builtin "ValueError.__new__"), some (.bool true)] }) ::
 (nat_lit 42, { cls := .type "getset_descriptor", data := Data.fields #[.str "__weakref__" 227, .ref 41, .builtin "ExceptionGroup.__weakref__", .none] }) ::
 (nat_lit 45, tp #[.ref 41]) ::
 (nat_lit 52, tp #[]) ::
 (nat_lit 53, { cls := .type "dict", data := Data.dict #[dk P "__module__" 239 (.str "neveragain.errors" 212), dk P "__firstlineno__" 243 (.int 13 242), dk P "__static_attributes__" 244 (.ref 52), dk P "__doc__" 245 .none] 2 }) ::
 (nat_lit 54, { cls := .type "type", data := Data.cls { name := "NoRule", bases := [.ref 41], mro := [.ref 54, .ref 41, .type "ValueError", .type "Exception", .type "BaseException", .type "object"], ns := 53, qualname := "NoRule" }, slots := #[some (.ref 45), none, some (.str "NoRule" 232), some (.str "NoRule" 240), some (.builtin "ValueError.__new__"), some (.bool true)] }) ::
 (nat_lit 57, tp #[.ref 41]) ::
 (nat_lit 64, tp #[]) ::
 (nat_lit 65, { cls := .type "dict", data := Data.dict #[dk P "__module__" 255 (.str "neveragain.errors" 212), dk P "__firstlineno__" 259 (.int 15 258), dk P "__static_attributes__" 260 (.ref 64), dk P "__doc__" 261 .none] 2 }) ::
 (nat_lit 66, { cls := .type "type", data := Data.cls { name := "NoStart", bases := [.ref 41], mro := [.ref 66, .ref 41, .type "ValueError", .type "Exception", .type "BaseException", .type "object"], ns := 65, qualname := "NoStart" }, slots := #[some (.ref 57), none, some (.str "NoStart" 248), some (.str "NoStart" 256), some (.builtin "ValueError.__new__"), some (.bool true)] }) ::
 (nat_lit 69, tp #[.ref 41]) ::
 (nat_lit 76, tp #[]) ::
 (nat_lit 77, { cls := .type "dict", data := Data.dict #[dk P "__module__" 271 (.str "neveragain.errors" 212), dk P "__firstlineno__" 275 (.int 17 274), dk P "__static_attributes__" 276 (.ref 76), dk P "__doc__" 277 .none] 2 }) ::
 (nat_lit 78, { cls := .type "type", data := Data.cls { name := "NoPiece", bases := [.ref 41], mro := [.ref 78, .ref 41, .type "ValueError", .type "Exception", .type "BaseException", .type "object"], ns := 77, qualname := "NoPiece" }, slots := #[some (.ref 69), none, some (.str "NoPiece" 264), some (.str "NoPiece" 272), some (.builtin "ValueError.__new__"), some (.bool true)] }) ::
 (nat_lit 81, tp #[.ref 41]) ::
 (nat_lit 88, tp #[]) ::
 (nat_lit 89, { cls := .type "dict", data := Data.dict #[dk P "__module__" 287 (.str "neveragain.errors" 212), dk P "__firstlineno__" 291 (.int 19 290), dk P "__static_attributes__" 292 (.ref 88), dk P "__doc__" 293 .none] 2 }) ::
 (nat_lit 90, { cls := .type "type", data := Data.cls { name := "NotMixed", bases := [.ref 41], mro := [.ref 90, .ref 41, .type "ValueError", .type "Exception", .type "BaseException", .type "object"], ns := 89, qualname := "NotMixed" }, slots := #[some (.ref 81), none, some (.str "NotMixed" 280), some (.str "NotMixed" 288), some (.builtin "ValueError.__new__"), some (.bool true)] }) ::
 (nat_lit 93, tp #[.ref 41]) ::
 (nat_lit 100, tp #[]) ::
 (nat_lit 101, { cls := .type "dict", data := Data.dict #[dk P "__module__" 303 (.str "neveragain.errors" 212), dk P "__firstlineno__" 307 (.int 21 306), dk P "__static_attributes__" 308 (.ref 100), dk P "__doc__" 309 .none] 2 }) ::
 (nat_lit 102, { cls := .type "type", data := Data.cls { name := "NoShares", bases := [.ref 41], mro := [.ref 102, .ref 41, .type "ValueError", .type "Exception", .type "BaseException", .type "object"], ns := 101, qualname := "NoShares" }, slots := #[some (.ref 93), none, some (.str "NoShares" 296), some (.str "NoShares" 304), some (.builtin "ValueError.__new__"), some (.bool true)] }) ::
 (nat_lit 105, tp #[.ref 41]) ::
 (nat_lit 112, tp #[]) ::
 (nat_lit 113, { cls := .type "dict", data := Data.dict #[dk P "__module__" 319 (.str "neveragain.errors" 212), dk P "__firstlineno__" 323 (.int 23 322), dk P "__static_attributes__" 324 (.ref 112), dk P "__doc__" 325 .none] 2 }) ::
 (nat_lit 114, { cls := .type "type", data := Data.cls { name := "NoRow", bases := [.ref 41], mro := [.ref 114, .ref 41, .type "ValueError", .type "Exception", .type "BaseException", .type "object"], ns := 113, qualname := "NoRow" }, slots := #[some (.ref 105), none, some (.str "NoRow" 312), some (.str "NoRow" 320), some (.builtin "ValueError.__new__"), some (.bool true)] }) ::
 (nat_lit 117, tp #[.ref 41]) ::
 (nat_lit 124, tp #[.none]) ::
 (nat_lit 125, tp #[]) ::
 (nat_lit 127, tp #[.str "self" 343, .str "most" 344]) ::
 (nat_lit 128, tp #[]) ::
 (nat_lit 130, { cls := .type "code", data := Data.fields #[.str "__init__" 340, .str "TooGreat.__init__" 341, .str "/claim/cut.py" 342, .int 27 0, .int 2 0, .int 0 0, .int 0 0, .int 3 0, .ref 125, .bool true, .int 181 0, .ref 126, .none, .ref 127, .ref 128, .ref 129, .int 345 0, .int 27 0, .str "/claim/cut.py" 346] }) ::
 (nat_lit 131, { cls := .type "function", data := Data.func { name := "__init__", qualname := "TooGreat.__init__", params := { posonlyargs := [], args := [{ arg := "self", annotation := none, pos := { line := 27, col := 17, endLine := 27, endCol := 21 } }, { arg := "most", annotation := none, pos := { line := 27, col := 23, endLine := 27, endCol := 27 } }], vararg := none, kwonlyargs := [], kw_defaults := [], kwarg := none, defaults := [Expr.Constant Const.none 0 { line := 27, col := 28, endLine := 27, endCol := 32 }] }, body := FuncBody.stmts [Stmt.Assign [(Expr.Name "self" { line := 28, col := 8, endLine := 28, endCol := 12 }).Attribute "most" { line := 28, col := 8, endLine := 28, endCol := 17 }] (Expr.Name "most" { line := 28, col := 20, endLine := 28, endCol := 24 }) { line := 28, col := 8, endLine := 28, endCol := 24 }], scope := { kind := ScopeKind.function, names := [("self", NameKind.local), ("most", NameKind.local)], isGenerator := false, isCoroutine := false }, globals := 3, closure := [], defaults := .ref 124, kwdefaults := .none, pyModule := .str "neveragain.errors" 212, code := .ref 130 } }) ::
 (nat_lit 132, tp #[.str "most" 348]) ::
 (nat_lit 133, { cls := .type "dict", data := Data.dict #[dk P "__module__" 335 (.str "neveragain.errors" 212), dk P "__firstlineno__" 339 (.int 25 338), dk P "__init__" 347 (.ref 131), dk P "__static_attributes__" 349 (.ref 132), dk P "__doc__" 350 .none] 2 }) ::
 (nat_lit 134, { cls := .type "type", data := Data.cls { name := "TooGreat", bases := [.ref 41], mro := [.ref 134, .ref 41, .type "ValueError", .type "Exception", .type "BaseException", .type "object"], ns := 133, qualname := "TooGreat" }, slots := #[some (.ref 117), none, some (.str "TooGreat" 328), some (.str "TooGreat" 336), some (.builtin "ValueError.__new__"), some (.bool true)] }) ::
 (nat_lit 137, tp #[]) ::
 (nat_lit 140, { cls := .type "code", data := Data.fields #[.str "put" 355, .str "put" 356, .str "/claim/cut.py" 357, .int 30 0, .int 2 0, .int 0 0, .int 0 0, .int 3 0, .ref 137, .bool true, .int 181 0, .ref 138, .none, .none, .none, .ref 139, .int 358 0, .int 30 0, .str "/claim/cut.py" 359] }) ::
 (nat_lit 141, fo "put" 16 (.str "neveragain.rules" 353) 140) ::
 (nat_lit 142, tp #[]) ::
 (nat_lit 144, tp #[.str "rule" 364]) ::
 (nat_lit 145, tp #[]) ::
 (nat_lit 147, { cls := .type "code", data := Data.fields #[.str "words_by_letter" 361, .str "words_by_letter" 362, .str "/claim/cut.py" 363, .int 33 0, .int 1 0, .int 0 0, .int 0 0, .int 3 0, .ref 142, .bool true, .int 181 0, .ref 143, .none, .ref 144, .ref 145, .ref 146, .int 365 0, .int 33 0, .str "/claim/cut.py" 366] }) ::
 (nat_lit 148, fo "words_by_letter" 17 (.str "neveragain.rules" 353) 147) ::
 (nat_lit 149, tp #[]) ::
 (nat_lit 152, { cls := .type "code", data := Data.fields #[.str "mixes" 372, .str "mixes" 373, .str "/claim/cut.py" 374, .int 37 0, .int 1 0, .int 0 0, .int 0 0, .int 3 0, .ref 149, .bool true, .int 181 0, .ref 150, .none, .none, .none, .ref 151, .int 375 0, .int 37 0, .str "/claim/cut.py" 376] }) ::
 (nat_lit 153, fo "mixes" 20 (.str "neveragain.again" 368) 152) ::
 (nat_lit 154, tp #[]) ::
 (nat_lit 156, tp #[.str "word" 381]) ::
 (nat_lit 157, tp #[]) ::
 (nat_lit 159, { cls := .type "code", data := Data.fields #[.str "letters_in" 378, .str "letters_in" 379, .str "/claim/cut.py" 380, .int 43 0, .int 1 0, .int 0 0, .int 0 0, .int 3 0, .ref 154, .bool true, .int 181 0, .ref 155, .none, .ref 156, .ref 157, .ref 158, .int 382 0, .int 43 0, .str "/claim/cut.py" 383] }) ::
 (nat_lit 160, fo "letters_in" 21 (.str "neveragain.again" 368) 159) ::
 (nat_lit 161, tp #[]) ::
 (nat_lit 164, { cls := .type "code", data := Data.fields #[.str "shares" 387, .str "shares" 388, .str "/claim/cut.py" 389, .int 46 0, .int 1 0, .int 0 0, .int 0 0, .int 3 0, .ref 161, .bool true, .int 181 0, .ref 162, .none, .none, .none, .ref 163, .int 390 0, .int 46 0, .str "/claim/cut.py" 391] }) ::
 (nat_lit 165, fo "shares" 23 (.str "neveragain.shares" 385) 164) ::
 (nat_lit 166, tp #[]) ::
 (nat_lit 169, { cls := .type "code", data := Data.fields #[.str "of_one_size" 393, .str "of_one_size" 394, .str "/claim/cut.py" 395, .int 53 0, .int 1 0, .int 0 0, .int 0 0, .int 3 0, .ref 166, .bool true, .int 181 0, .ref 167, .none, .none, .none, .ref 168, .int 396 0, .int 53 0, .str "/claim/cut.py" 397] }) ::
 (nat_lit 170, fo "of_one_size" 24 (.str "neveragain.shares" 385) 169) ::
 (nat_lit 171, tp #[]) ::
 (nat_lit 174, { cls := .type "code", data := Data.fields #[.str "lacks_of" 399, .str "lacks_of" 400, .str "/claim/cut.py" 401, .int 56 0, .int 1 0, .int 0 0, .int 0 0, .int 3 0, .ref 171, .bool true, .int 181 0, .ref 172, .none, .none, .none, .ref 173, .int 402 0, .int 56 0, .str "/claim/cut.py" 403] }) ::
 (nat_lit 175, fo "lacks_of" 25 (.str "neveragain.shares" 385) 174) ::
 (nat_lit 176, tp #[]) ::
 (nat_lit 179, { cls := .type "code", data := Data.fields #[.str "without" 405, .str "without" 406, .str "/claim/cut.py" 407, .int 63 0, .int 2 0, .int 0 0, .int 0 0, .int 3 0, .ref 176, .bool true, .int 181 0, .ref 177, .none, .none, .none, .ref 178, .int 408 0, .int 63 0, .str "/claim/cut.py" 409] }) ::
 (nat_lit 180, fo "without" 26 (.str "neveragain.shares" 385) 179) ::
 (nat_lit 181, tp #[]) ::
 (nat_lit 184, { cls := .type "code", data := Data.fields #[.str "determinant" 411, .str "determinant" 412, .str "/claim/cut.py" 413, .int 66 0, .int 1 0, .int 0 0, .int 0 0, .int 3 0, .ref 181, .bool true, .int 181 0, .ref 182, .none, .none, .none, .ref 183, .int 414 0, .int 66 0, .str "/claim/cut.py" 415] }) ::
 (nat_lit 185, fo "determinant" 27 (.str "neveragain.shares" 385) 184) ::
 (nat_lit 186, tp #[]) ::
 (nat_lit 188, tp #[.str "top" 420, .str "bottom" 421, .str "divisor" 422]) ::
 (nat_lit 189, tp #[]) ::
 (nat_lit 191, { cls := .type "code", data := Data.fields #[.str "in_lowest_terms" 417, .str "in_lowest_terms" 418, .str "/claim/cut.py" 419, .int 76 0, .int 2 0, .int 0 0, .int 0 0, .int 3 0, .ref 186, .bool true, .int 181 0, .ref 187, .none, .ref 188, .ref 189, .ref 190, .int 423 0, .int 76 0, .str "/claim/cut.py" 424] }) ::
 (nat_lit 192, fo "in_lowest_terms" 28 (.str "neveragain.shares" 385) 191) ::
 (nat_lit 193, tp #[]) ::
 (nat_lit 195, tp #[.str "one" 429, .str "other" 430, .str "rest" 431]) ::
 (nat_lit 196, tp #[]) ::
 (nat_lit 198, { cls := .type "code", data := Data.fields #[.str "greatest_divisor" 426, .str "greatest_divisor" 427, .str "/claim/cut.py" 428, .int 79 0, .int 2 0, .int 0 0, .int 0 0, .int 3 0, .ref 193, .bool true, .int 181 0, .ref 194, .none, .ref 195, .ref 196, .ref 197, .int 432 0, .int 79 0, .str "/claim/cut.py" 433] }) ::
 (nat_lit 199, fo "greatest_divisor" 29 (.str "neveragain.shares" 385) 198) ::
 (nat_lit 200, tp #[]) ::
 (nat_lit 202, tp #[.str "_law_script" 440, .str "_law_k" 441]) ::
 (nat_lit 203, tp #[]) ::
 (nat_lit 205, { cls := .type "code", data := Data.fields #[.str "_law_raw" 437, .str "_law_raw" 438, .str "/claim/cut.py" 439, .int 86 0, .int 2 0, .int 0 0, .int 0 0, .int 3 0, .ref 200, .bool true, .int 181 0, .ref 201, .none, .ref 202, .ref 203, .ref 204, .int 442 0, .int 86 0, .str "/claim/cut.py" 443] }) ::
 (nat_lit 206, fo "_law_raw" 31 (.str "law_neveragain_k82_shares" 435) 205) ::
 (nat_lit 207, tp #[]) ::
 (nat_lit 209, tp #[.str "_law_script" 448, .str "_law_k" 449, .str "_law_turn" 450]) ::
 (nat_lit 210, tp #[]) ::
 (nat_lit 212, { cls := .type "code", data := Data.fields #[.str "_law_mix" 445, .str "_law_mix" 446, .str "/claim/cut.py" 447, .int 90 0, .int 2 0, .int 0 0, .int 0 0, .int 3 0, .ref 207, .bool true, .int 181 0, .ref 208, .none, .ref 209, .ref 210, .ref 211, .int 451 0, .int 90 0, .str "/claim/cut.py" 452] }) ::
 (nat_lit 213, fo "_law_mix" 32 (.str "law_neveragain_k82_shares" 435) 212) ::
 (nat_lit 214, tp #[]) ::
 (nat_lit 216, tp #[.str "_law_found" 457]) ::
 (nat_lit 217, tp #[]) ::
 (nat_lit 219, { cls := .type "code", data := Data.fields #[.str "_law_whole" 454, .str "_law_whole" 455, .str "/claim/cut.py" 456, .int 95 0, .int 1 0, .int 0 0, .int 0 0, .int 3 0, .ref 214, .bool true, .int 181 0, .ref 215, .none, .ref 216, .ref 217, .ref 218, .int 458 0, .int 95 0, .str "/claim/cut.py" 459] }) ::
 (nat_lit 220, fo "_law_whole" 33 (.str "law_neveragain_k82_shares" 435) 219) ::
 (nat_lit 221, tp #[]) ::
 (nat_lit 223, tp #[.str "_law_found" 464, .str "_law_due" 465, .str "_law_one" 466, .str "_law_other" 467]) ::
 (nat_lit 224, tp #[]) ::
 (nat_lit 226, { cls := .type "code", data := Data.fields #[.str "_law_same" 461, .str "_law_same" 462, .str "/claim/cut.py" 463, .int 97 0, .int 2 0, .int 0 0, .int 0 0, .int 3 0, .ref 221, .bool true, .int 181 0, .ref 222, .none, .ref 223, .ref 224, .ref 225, .int 468 0, .int 97 0, .str "/claim/cut.py" 469] }) ::
 (nat_lit 227, fo "_law_same" 34 (.str "law_neveragain_k82_shares" 435) 226) ::
 (nat_lit 228, tp #[]) ::
 (nat_lit 230, tp #[.str "_law_number" 474, .str "_law_many" 475, .str "_law_size_here" 476, .str "_law_word_here" 477, .str "_law_k" 478]) ::
 (nat_lit 231, tp #[]) ::
 (nat_lit 233, { cls := .type "code", data := Data.fields #[.str "_law_word" 471, .str "_law_word" 472, .str "/claim/cut.py" 473, .int 114 0, .int 3 0, .int 0 0, .int 0 0, .int 3 0, .ref 228, .bool true, .int 181 0, .ref 229, .none, .ref 230, .ref 231, .ref 232, .int 479 0, .int 114 0, .str "/claim/cut.py" 480] }) ::
 (nat_lit 234, fo "_law_word" 35 (.str "law_neveragain_k82_shares" 435) 233) ::
 (nat_lit 235, tp #[]) ::
 (nat_lit 237, tp #[.str "_law_e" 485, .str "_law_some" 486, .str "_law_most" 487]) ::
 (nat_lit 238, tp #[]) ::
 (nat_lit 240, { cls := .type "code", data := Data.fields #[.str "_law_caught" 482, .str "_law_caught" 483, .str "/claim/cut.py" 484, .int 120 0, .int 1 0, .int 0 0, .int 0 0, .int 3 0, .ref 235, .bool true, .int 181 0, .ref 236, .none, .ref 237, .ref 238, .ref 239, .int 488 0, .int 120 0, .str "/claim/cut.py" 489] }) ::
 (nat_lit 241, fo "_law_caught" 36 (.str "law_neveragain_k82_shares" 435) 240) ::
 (nat_lit 242, tp #[]) ::
 (nat_lit 244, tp #[.str "_law_script" 494, .str "_law_number" 495]) ::
 (nat_lit 245, tp #[]) ::
 (nat_lit 247, { cls := .type "code", data := Data.fields #[.str "_law_size" 491, .str "_law_size" 492, .str "/claim/cut.py" 493, .int 127 0, .int 1 0, .int 0 0, .int 0 0, .int 3 0, .ref 242, .bool true, .int 181 0, .ref 243, .none, .ref 244, .ref 245, .ref 246, .int 496 0, .int 127 0, .str "/claim/cut.py" 497] }) ::
 (nat_lit 248, fo "_law_size" 37 (.str "law_neveragain_k82_shares" 435) 247) ::
 (nat_lit 249, tp #[]) ::
 (nat_lit 251, tp #[.str "_law_script" 502, .str "_law_many" 503, .str "_law_size_here" 504, .str "_law_words" 505, .str "_law_k" 506, .str "_law_number" 507, .str "_law_word_here" 508, .str "_law_at" 509, .str "_law_near" 510, .str "_law_one" 511, .str "_law_some" 512]) ::
 (nat_lit 252, tp #[]) ::
 (nat_lit 254, { cls := .type "code", data := Data.fields #[.str "_law_rule" 499, .str "_law_rule" 500, .str "/claim/cut.py" 501, .int 132 0, .int 2 0, .int 0 0, .int 0 0, .int 3 0, .ref 249, .bool true, .int 181 0, .ref 250, .none, .ref 251, .ref 252, .ref 253, .int 513 0, .int 132 0, .str "/claim/cut.py" 514] }) ::
 (nat_lit 255, fo "_law_rule" 38 (.str "law_neveragain_k82_shares" 435) 254) ::
 (nat_lit 256, tp #[]) ::
 (nat_lit 259, { cls := .type "code", data := Data.fields #[.str "_law_step" 516, .str "_law_step" 517, .str "/claim/cut.py" 518, .int 150 0, .int 2 0, .int 0 0, .int 0 0, .int 3 0, .ref 256, .bool true, .int 181 0, .ref 257, .none, .none, .none, .ref 258, .int 519 0, .int 150 0, .str "/claim/cut.py" 520] }) ::
 (nat_lit 260, fo "_law_step" 39 (.str "law_neveragain_k82_shares" 435) 259) ::
 (nat_lit 261, tp #[]) ::
 (nat_lit 264, { cls := .type "code", data := Data.fields #[.str "_law_mixes" 522, .str "_law_mixes" 523, .str "/claim/cut.py" 524, .int 155 0, .int 1 0, .int 0 0, .int 0 0, .int 3 0, .ref 261, .bool true, .int 181 0, .ref 262, .none, .none, .none, .ref 263, .int 525 0, .int 155 0, .str "/claim/cut.py" 526] }) ::
 (nat_lit 265, fo "_law_mixes" 40 (.str "law_neveragain_k82_shares" 435) 264) ::
 (nat_lit 266, tp #[]) ::
 (nat_lit 268, tp #[.str "_law_one" 531, .str "_law_other" 532]) ::
 (nat_lit 269, tp #[]) ::
 (nat_lit 271, { cls := .type "code", data := Data.fields #[.str "_law_divisor" 528, .str "_law_divisor" 529, .str "/claim/cut.py" 530, .int 162 0, .int 2 0, .int 0 0, .int 0 0, .int 3 0, .ref 266, .bool true, .int 181 0, .ref 267, .none, .ref 268, .ref 269, .ref 270, .int 533 0, .int 162 0, .str "/claim/cut.py" 534] }) ::
 (nat_lit 272, fo "_law_divisor" 41 (.str "law_neveragain_k82_shares" 435) 271) ::
 (nat_lit 273, tp #[]) ::
 (nat_lit 275, tp #[.str "_law_found" 539, .str "_law_top" 540, .str "_law_low" 541]) ::
 (nat_lit 276, tp #[]) ::
 (nat_lit 278, { cls := .type "code", data := Data.fields #[.str "_law_fraction" 536, .str "_law_fraction" 537, .str "/claim/cut.py" 538, .int 166 0, .int 1 0, .int 0 0, .int 0 0, .int 3 0, .ref 273, .bool true, .int 181 0, .ref 274, .none, .ref 275, .ref 276, .ref 277, .int 542 0, .int 166 0, .str "/claim/cut.py" 543] }) ::
 (nat_lit 279, fo "_law_fraction" 42 (.str "law_neveragain_k82_shares" 435) 278) ::
 (nat_lit 280, tp #[]) ::
 (nat_lit 283, { cls := .type "code", data := Data.fields #[.str "_law_good" 545, .str "_law_good" 546, .str "/claim/cut.py" 547, .int 173 0, .int 2 0, .int 0 0, .int 0 0, .int 3 0, .ref 280, .bool true, .int 181 0, .ref 281, .none, .none, .none, .ref 282, .int 548 0, .int 173 0, .str "/claim/cut.py" 549] }) ::
 (nat_lit 284, fo "_law_good" 43 (.str "law_neveragain_k82_shares" 435) 283) ::
 (nat_lit 285, tp #[]) ::
 (nat_lit 287, tp #[.str "_law_rule_here" 554, .str "_law_found" 555, .str "_law_e" 556]) ::
 (nat_lit 288, tp #[]) ::
 (nat_lit 290, { cls := .type "code", data := Data.fields #[.str "_law_refused" 551, .str "_law_refused" 552, .str "/claim/cut.py" 553, .int 189 0, .int 1 0, .int 0 0, .int 0 0, .int 3 0, .ref 285, .bool true, .int 181 0, .ref 286, .none, .ref 287, .ref 288, .ref 289, .int 557 0, .int 189 0, .str "/claim/cut.py" 558] }) ::
 (nat_lit 291, fo "_law_refused" 44 (.str "law_neveragain_k82_shares" 435) 290) ::
 (nat_lit 292, tp #[]) ::
 (nat_lit 295, { cls := .type "code", data := Data.fields #[.str "law" 560, .str "law" 561, .str "/claim/cut.py" 562, .int 196 0, .int 1 0, .int 0 0, .int 0 0, .int 3 0, .ref 292, .bool true, .int 181 0, .ref 293, .none, .none, .none, .ref 294, .int 563 0, .int 196 0, .str "/claim/cut.py" 564] }) ::
 (nat_lit 296, fo "law" 45 (.str "law_neveragain_k82_shares" 435) 295) :: []
noncomputable def ads : List Addr := [2, 3, 15, 17, 18, 20, 21, 22, 25, 26, 27, 30, 31, 32, 39, 40, 41, 42, 45, 52, 53, 54, 57, 64, 65, 66, 69, 76, 77, 78, 81, 88, 89, 90, 93, 100, 101, 102, 105, 112, 113, 114, 117, 124, 125, 127, 128, 130, 131, 132, 133, 134, 137, 140, 141, 142, 144, 145, 147, 148, 149, 152, 153, 154, 156, 157, 159, 160, 161, 164, 165, 166, 169, 170, 171, 174, 175, 176, 179, 180, 181, 184, 185, 186, 188, 189, 191, 192, 193, 195, 196, 198, 199, 200, 202, 203, 205, 206, 207, 209, 210, 212, 213, 214, 216, 217, 219, 220, 221, 223, 224, 226, 227, 228, 230, 231, 233, 234, 235, 237, 238, 240, 241, 242, 244, 245, 247, 248, 249, 251, 252, 254, 255, 256, 259, 260, 261, 264, 265, 266, 268, 269, 271, 272, 273, 275, 276, 278, 279, 280, 283, 284, 285, 287, 288, 290, 291, 292, 295, 296]
noncomputable def q (p : Program) : Program := view p [1, 2, 4, 5, 7, 8, 9, 10, 11, 12, 13, 14, 16, 17, 19, 20, 21, 23, 24, 25, 26, 27, 28, 29, 31, 32, 33, 34, 35, 36, 37, 38, 39, 40, 41, 42, 43, 44, 45]
noncomputable abbrev fin (w : World) (os : OsState) : Shared := (prS (goB treeTable PySem.Challenge.pw_neveragain_k82_shares w os)).abs
theorem run (w : World) (os : OsState) : topRun treeTable PySem.Challenge.pw_neveragain_k82_shares w 11 ann (12 + (1 + (2626 + 2))) ⟨boot_heap w.params, #[], boot_drawn, boot_toks, os⟩ (topStub PySem.Challenge.pw_neveragain_k82_shares) = some (fin w os) := by
 refine go_top (congrFun (congrFun l1 w) os) (piece_block (congrFun (congrFun l2 w) os) ?_)
 have h := piece_app (rest := []) (segRun_of (congrFun (congrFun l3 w) os)) (piece_nil (congrFun (congrFun l4 w) os))
 rw [List.append_nil] at h
 exact h
theorem k1 : (fun (w : World) (os : OsState) => ads.map (fin w os).heap.get?) = fun w _ => (K w.params).map fun p => some p.2 := by
 unfold fin goB goA
 rw [PySem.W.Fast.te10110043849684766642, PySem.W.Fast.te15667345088766844465, PySem.W.Fast.te14364793385576792824, PySem.W.Fast.te11340449209224544770]
 kernel_rfl
theorem k2 : (fun (w : World) (os : OsState) => staticsOk (importedModules PySem.Challenge.pw_neveragain_k82_shares.main.body) (boot_heap w.params) (fin w os).heap && namesBound PySem.Challenge.pw_neveragain_k82_shares (fin w os).heap && gensDone (fin w os) && laidKept (boot_heap w.params) (fin w os).heap) = fun _ _ => true := by
 unfold fin goB goA
 rw [PySem.W.Fast.te10110043849684766642, PySem.W.Fast.te15667345088766844465, PySem.W.Fast.te14364793385576792824, PySem.W.Fast.te11340449209224544770]
 kernel_rfl
theorem left_run {p v : Program} {lo : List Str} {X : Shared -> Bool} {α : Type} {f : Shared -> α} {g : World -> α} {N : Nat} {H : Params -> Heap} {gs : Array GenState} {d : Drawn} {k m M : Nat} {an : Option Value} {z : World -> OsState -> Shared}
  (ho : ∀ w : World, (fencedOpening treeTable p w N).map (fun s => (s.heap, s.gens, s.drawn, s.toks)) = some (H w.params, gs, d, k))
  (hs : ∀ w : World, ((H w.params).isNs mainGlobals && gs.size == 0, (H w.params).objs.size, (H w.params).nsMap mainGlobals "__annotations__") = (true, m, an))
  (hr : ∀ w os, topRun treeTable p w m an M ⟨H w.params, gs, d, k, os⟩ (topStub p) = some (z w os)) (hM : M <= N)
  (h1 : ∀ w os, (staticsOk (importedModules p.main.body) (H w.params) (z w os).heap && namesBound p (z w os).heap && gensDone (z w os) && laidKept (H w.params) (z w os).heap) = true)
  (h2 : ∀ w os, openSeen v lo (importedModules p.main.body) X true (z w os) = openGood v lo) (h3 : ∀ w os, f (z w os) = g w) : LeftO p v lo X f g N := by
 intro w
 have a := ho w
 cases e : fencedOpening treeTable p w N with
 | none => rw [e] at a; cases a
 | some s =>
  rw [e] at a
  obtain ⟨hh, hg, hd, hk, os⟩ := s
  have b := Option.some.inj a
  have b1 : hh = H w.params := congrArg (·.1) b
  have b2 : hg = gs := congrArg (·.2.1) b
  have b3 : hd = d := congrArg (·.2.2.1) b
  have b4 : hk = k := congrArg (·.2.2.2) b
  subst b1 b2 b3 b4
  have s1 := congrArg (·.1) (hs w)
  have s2 := congrArg (·.2.1) (hs w)
  have s3 := congrArg (·.2.2) (hs w)
  have r := topRun_mono (N - M) _ _ _ _ (hr w os)
  rw [Nat.add_sub_cancel' hM] at r
  have t : topFrom treeTable p w N ⟨H w.params, hg, hd, hk, os⟩ = some (z w os) := by
   simp only [topFrom]
   dsimp only at s1 s2 s3
   rw [s1, s2, s3, r]
   simp only [Option.bind, h1 w os]
  simp only [openEnds, e, Option.bind]
  show (topFrom treeTable p w N _).map _ = _
  rw [t]
  exact congrArg some (Prod.ext (h2 w os) (h3 w os))
theorem k3 : (fun (w : World) (os : OsState) => openSeen (q PySem.Challenge.pw_neveragain_k82_shares) ["TooGreat"] (importedModules PySem.Challenge.pw_neveragain_k82_shares.main.body) (fun s => xlAt (q PySem.Challenge.pw_neveragain_k82_shares) [] s && recOk (RowW.records (OpenRow.toRowW PySem.Challenge.rw_neveragain_k82_shares.row)) s) true (fin w os)) = fun _ _ => openGood (q PySem.Challenge.pw_neveragain_k82_shares) ["TooGreat"] := by
 unfold fin goB goA
 rw [PySem.W.Fast.te4187177175401517315, PySem.W.Fast.te10110043849684766642, PySem.W.Fast.te15667345088766844465, PySem.W.Fast.te14364793385576792824, PySem.W.Fast.te11340449209224544770]
 kernel_rfl
theorem k4 : (fun (w : World) => ((boot_heap w.params).isNs mainGlobals && (#[] : Array GenState).size == 0, (boot_heap w.params).objs.size, (boot_heap w.params).nsMap mainGlobals "__annotations__")) = fun _ => (true, 11, ann) := by kernel_rfl
theorem k5 : opening PySem.Challenge.pw_neveragain_k82_shares = plainProg PySem.Challenge.pw_neveragain_k82_shares.main.scope.names := by kernel_rfl
theorem k6 : (fun s => fenceModules? PySem.Challenge.pw_neveragain_k82_shares s) = fun s => some s := by kernel_rfl
theorem left : LeftO PySem.Challenge.pw_neveragain_k82_shares (q PySem.Challenge.pw_neveragain_k82_shares) ["TooGreat"] (fun s => xlAt (q PySem.Challenge.pw_neveragain_k82_shares) [] s && recOk (RowW.records (OpenRow.toRowW PySem.Challenge.rw_neveragain_k82_shares.row)) s) (fun s => ads.map s.heap.get?) (fun w => (K w.params).map fun p => some p.2) 2660 :=
 left_run (boot_open k5 (by decide) (fun s => congrFun k6 s)) (fun w => congrFun k4 w) run (by decide) (fun w os => congrFun (congrFun k2 w) os) (fun w os => congrFun (congrFun k3 w) os) (fun w os => congrFun (congrFun k1 w) os)
theorem he (P : Params) : ads = (K P).map (·.1) := by kernel_rfl
end L2.Hd
open PySem PySem.W PyProof.Rows
set_option maxRecDepth 100000 in
set_option maxHeartbeats 0 in
theorem PySem.Challenge.cw_neveragain_k82_shares_holds : PySem.Challenge.rw_neveragain_k82_shares.Holds := by
 w_on; o_law
 refine holds_open (q := L2.Hd.q PySem.Challenge.pw_neveragain_k82_shares) (loose := ["TooGreat"]) (XP := XL (L2.Hd.q PySem.Challenge.pw_neveragain_k82_shares) [])
  (Yf := Hook.obs (kHook L2.Hd.K L2.Hd.ads L2.Hd.he)) (Ya := Hook.val (kHook L2.Hd.K L2.Hd.ads L2.Hd.he))
  (YP := Hook.says (kHook L2.Hd.K L2.Hd.ads L2.Hd.he)) (N := 2660) L2.Hd.left (Hook.of (kHook L2.Hd.K L2.Hd.ads L2.Hd.he))
  (Hook.keeps (kHook L2.Hd.K L2.Hd.ads L2.Hd.he)) (fun s e => xl_of s (Bool.and_eq_true_iff.mp e).1) XL.keeps (by rfl) (by rfl) (by rfl)
  (fun s e => recFacts_of (Bool.and_eq_true_iff.mp e).2) (by rfl) (by assumption) (by decide +kernel)
  ⟨rfl, rfl, rfl, rfl, rfl, by decide +kernel⟩ ?hw ?hc
 case hw => w_witness2
 k_fill
 refine L2.Na.law_ofK (KF := L2.Na.K82.KF) (l := PySem.Challenge.rw_neveragain_k82_shares) (k := 6) (x := "_law_script") (sp := L2.Na.K82.sp_law) rfl rfl ⟨rfl, by decide, by decide⟩ (fun w h Y => PySem.W.kIn_of Y) ?KF rfl L2.Na.K82.b_law L2.Na.K82.sc_law L2.Na.K82.m_law (fun _ _ _ _ _ _ _ => rfl) (fun _ => L2.Na.K82.l_law) (fun _ kf => L2.Na.K82.t_law kf) ?F ?Q L2.Na.K82.s_law
 case KF =>
  intro w
  refine' { n_WordError := ?n_WordError, n_NoRow := ?n_NoRow, n_NoRule := ?n_NoRule, n_NoStart := ?n_NoStart, n_NoPiece := ?n_NoPiece, n_NotMixed := ?n_NotMixed, n_NoShares := ?n_NoShares, n_TooGreat := ?n_TooGreat, e_NoShares := ?e_NoShares, xfN := ?xfN, exmN := ?exmN, t0 := ?t0, t1 := ?t1, t2 := ?t2, t3 := ?t3, t4 := ?t4, t5 := ?t5, t6 := ?t6, tv := ?tv }
  case n_WordError => first | kernel_rfl | k_is
  case n_NoRow => first | kernel_rfl | k_is
  case n_NoRule => first | kernel_rfl | k_is
  case n_NoStart => first | kernel_rfl | k_is
  case n_NoPiece => first | kernel_rfl | k_is
  case n_NotMixed => first | kernel_rfl | k_is
  case n_NoShares => first | kernel_rfl | k_is
  case n_TooGreat => first | kernel_rfl | k_is
  case e_NoShares => exact ⟨by first | kernel_rfl | k_is, by first | kernel_rfl | k_is⟩
  case xfN =>
   refine' ⟨?x1, ?x2, ?x3, ?x4, ?x5, ?x6⟩
   (case x1 => first | kernel_rfl | k_is); (case x2 => first | kernel_rfl | k_is); (case x3 => first | kernel_rfl | k_is); (case x4 => first | kernel_rfl | k_is); (case x5 => intro od; first | kernel_rfl | k_is); (case x6 => first | kernel_rfl | k_is)
  case exmN => first | kernel_rfl | k_is
  case t0 => first | kernel_rfl | k_is
  case t1 => first | kernel_rfl | k_is
  case t2 => first | kernel_rfl | k_is
  case t3 => first | kernel_rfl | k_is
  case t4 => first | kernel_rfl | k_is
  case t5 => first | kernel_rfl | k_is
  case t6 => first | kernel_rfl | k_is
  case tv => first | kernel_rfl | k_is
 case F =>
  intro w h KX
  refine ⟨?a, ?b⟩
  case a =>
   refine' L2.Na.fd_mk ?a1 ?a2 ?a3 ?a4
   (case a1 => k_is); (case a2 => k_is); (case a3 => k_is); (case a4 => k_is)
  case b =>
   unfold L2.Na.blts
   refine ⟨?_, ?_, ?_, ?_, ?_, ?_, ?_, ?_, ?_, ?_, ?_, ?_, ?_, ?_, ?_, ?_, ?_, ?_, ?_, ?_, ?_, ?_, L2.tI⟩ <;> k_is
 case Q =>
  intro w mg h base kf KX G bl A hr
  refine' L2.Na.K82.all_q KX G bl ?f0 ?f1 ?f2 ?f3 ?f4 ?f5 ?f6 ?f7 ?f8 ?f9 ?f10 ?f11 ?f12 ?f13 ?f14 ?f15 ?f16 ?f17 ?f18 ?f19 ?f20 ?f21 ?f22 ?f23 ?f24 ?f25 ?f26 ?f27 ?c0 ?c1 kf A hr
  case f0 =>
   refine' L2.Na.fd_mk ?a1 ?a2 ?a3 ?a4
   (case a1 => k_is); (case a2 => k_is); (case a3 => k_is); (case a4 => k_is)
  case f1 =>
   refine' L2.Na.fd_mk ?a1 ?a2 ?a3 ?a4
   (case a1 => k_is); (case a2 => k_is); (case a3 => k_is); (case a4 => k_is)
  case f2 =>
   refine' L2.Na.fd_mk ?a1 ?a2 ?a3 ?a4
   (case a1 => k_is); (case a2 => k_is); (case a3 => k_is); (case a4 => k_is)
  case f3 =>
   refine' L2.Na.fd_mk ?a1 ?a2 ?a3 ?a4
   (case a1 => k_is); (case a2 => k_is); (case a3 => k_is); (case a4 => k_is)
  case f4 =>
   refine' L2.Na.fd_mk ?a1 ?a2 ?a3 ?a4
   (case a1 => k_is); (case a2 => k_is); (case a3 => k_is); (case a4 => k_is)
  case f5 =>
   refine' L2.Na.fd_mk ?a1 ?a2 ?a3 ?a4
   (case a1 => k_is); (case a2 => k_is); (case a3 => k_is); (case a4 => k_is)
  case f6 =>
   refine' L2.Na.fd_mk ?a1 ?a2 ?a3 ?a4
   (case a1 => k_is); (case a2 => k_is); (case a3 => k_is); (case a4 => k_is)
  case f7 =>
   refine' L2.Na.fd_mk ?a1 ?a2 ?a3 ?a4
   (case a1 => k_is); (case a2 => k_is); (case a3 => k_is); (case a4 => k_is)
  case f8 =>
   refine' L2.Na.fd_mk ?a1 ?a2 ?a3 ?a4
   (case a1 => k_is); (case a2 => k_is); (case a3 => k_is); (case a4 => k_is)
  case f9 =>
   refine' L2.Na.fd_mk ?a1 ?a2 ?a3 ?a4
   (case a1 => k_is); (case a2 => k_is); (case a3 => k_is); (case a4 => k_is)
  case f10 =>
   refine' L2.Na.fd_mk ?a1 ?a2 ?a3 ?a4
   (case a1 => k_is); (case a2 => k_is); (case a3 => k_is); (case a4 => k_is)
  case f11 =>
   refine' L2.Na.fd_mk ?a1 ?a2 ?a3 ?a4
   (case a1 => k_is); (case a2 => k_is); (case a3 => k_is); (case a4 => k_is)
  case f12 =>
   refine' L2.Na.fd_mk ?a1 ?a2 ?a3 ?a4
   (case a1 => k_is); (case a2 => k_is); (case a3 => k_is); (case a4 => k_is)
  case f13 =>
   refine' L2.Na.fd_mk ?a1 ?a2 ?a3 ?a4
   (case a1 => k_is); (case a2 => k_is); (case a3 => k_is); (case a4 => k_is)
  case f14 =>
   refine' L2.Na.fd_mk ?a1 ?a2 ?a3 ?a4
   (case a1 => k_is); (case a2 => k_is); (case a3 => k_is); (case a4 => k_is)
  case f15 =>
   refine' L2.Na.fd_mk ?a1 ?a2 ?a3 ?a4
   (case a1 => k_is); (case a2 => k_is); (case a3 => k_is); (case a4 => k_is)
  case f16 =>
   refine' L2.Na.fd_mk ?a1 ?a2 ?a3 ?a4
   (case a1 => k_is); (case a2 => k_is); (case a3 => k_is); (case a4 => k_is)
  case f17 =>
   refine' L2.Na.fd_mk ?a1 ?a2 ?a3 ?a4
   (case a1 => k_is); (case a2 => k_is); (case a3 => k_is); (case a4 => k_is)
  case f18 =>
   refine' L2.Na.fd_mk ?a1 ?a2 ?a3 ?a4
   (case a1 => k_is); (case a2 => k_is); (case a3 => k_is); (case a4 => k_is)
  case f19 =>
   refine' L2.Na.fd_mk ?a1 ?a2 ?a3 ?a4
   (case a1 => k_is); (case a2 => k_is); (case a3 => k_is); (case a4 => k_is)
  case f20 =>
   refine' L2.Na.fd_mk ?a1 ?a2 ?a3 ?a4
   (case a1 => k_is); (case a2 => k_is); (case a3 => k_is); (case a4 => k_is)
  case f21 =>
   refine' L2.Na.fd_mk ?a1 ?a2 ?a3 ?a4
   (case a1 => k_is); (case a2 => k_is); (case a3 => k_is); (case a4 => k_is)
  case f22 =>
   refine' L2.Na.fd_mk ?a1 ?a2 ?a3 ?a4
   (case a1 => k_is); (case a2 => k_is); (case a3 => k_is); (case a4 => k_is)
  case f23 =>
   refine' L2.Na.fd_mk ?a1 ?a2 ?a3 ?a4
   (case a1 => k_is); (case a2 => k_is); (case a3 => k_is); (case a4 => k_is)
  case f24 =>
   refine' L2.Na.fd_mk ?a1 ?a2 ?a3 ?a4
   (case a1 => k_is); (case a2 => k_is); (case a3 => k_is); (case a4 => k_is)
  case f25 =>
   refine' L2.Na.fd_mk ?a1 ?a2 ?a3 ?a4
   (case a1 => k_is); (case a2 => k_is); (case a3 => k_is); (case a4 => k_is)
  case f26 =>
   refine' L2.Na.fd_mk ?a1 ?a2 ?a3 ?a4
   (case a1 => k_is); (case a2 => k_is); (case a3 => k_is); (case a4 => k_is)
  case f27 =>
   refine' L2.Na.fd_mk ?a1 ?a2 ?a3 ?a4
   (case a1 => k_is); (case a2 => k_is); (case a3 => k_is); (case a4 => k_is)
  case c0 =>
   refine' L2.Na.gc_int ?a1
   (case a1 => k_is)
  case c1 =>
   refine' L2.Na.gc_str ?a1
   (case a1 => k_is)
#print axioms PySem.Challenge.cw_neveragain_k82_shares_holds
