import PyProof.Rows.All
import Wide.All
import OpenK.AllK
import Wide.FinOn
import Lean
import PyProof.EqAt
import PyProof.EqKinds
import PyProof.TupleCall
import PyProof.AttrMissSeq
import KE.KDictOf
import PySem.Challenge.RW_neveragain_k41_mixes
set_option genSizeOfSpec false
set_option Elab.async false
set_option linter.all false
set_option maxRecDepth 100000
set_option maxHeartbeats 4000000


namespace L2
open PySem PySem.Spec PyProof.Rows


noncomputable abbrev Key := Sum Int Str
noncomputable def keyIs : Key → Value → Bool
  | .inl k, v => Value.isInt k v
  | .inr x, v => Value.isStrOf x v
noncomputable def keyH (w : World) : Key → Int
  | .inl k => hashInt k
  | .inr x => hashStr w x
theorem keyIs_shape : ∀ {k : Key} {v : Value}, keyIs k v = true → (∃ i t, k = Sum.inl i ∧ v = Value.int i t) ∨ (∃ x t, k = Sum.inr x ∧ v = Value.str x t)
  | .inl i, v, h => by
    obtain ⟨t, e⟩ := Value.isInt_shape (k := i) (v := v) h
    exact .inl ⟨i, t, rfl, e⟩
  | .inr x, v, h => by
    obtain ⟨t, e⟩ := Value.isStrOf_shape (x := x) (v := v) h
    exact .inr ⟨x, t, rfl, e⟩
theorem keyIs_int (i : Int) (t : Tok) : keyIs (.inl i) (.int i t) = true := by simp [keyIs, Value.isInt]
theorem keyIs_str (x : Str) (t : Tok) : keyIs (.inr x) (.str x t) = true := by simp [keyIs, Value.isStrOf]
theorem key_ll (a b : Int) : decide ((Sum.inl a : Key) = Sum.inl b) = (a == b) := by
  by_cases e : a = b
  · subst e; simp
  · have h : ¬ (Sum.inl a : Key) = Sum.inl b := fun q => e (Sum.inl.inj q)
    rw [decide_eq_false h]
    exact (beq_eq_false_iff_ne.mpr e).symm
theorem key_rr (a b : Str) : decide ((Sum.inr a : Key) = Sum.inr b) = decide (a = b) := by
  by_cases e : a = b
  · subst e; simp
  · have h : ¬ (Sum.inr a : Key) = Sum.inr b := fun q => e (Sum.inr.inj q)
    rw [decide_eq_false h, decide_eq_false e]
theorem key_lr (a : Int) (b : Str) : decide ((Sum.inl a : Key) = Sum.inr b) = false := decide_eq_false (fun q => nomatch q)
theorem key_rl (a : Str) (b : Int) : decide ((Sum.inr a : Key) = Sum.inl b) = false := decide_eq_false (fun q => nomatch q)

noncomputable def mixKind (prog : Program) (w : World) : PySem.KeyKind prog w Key where
  is := keyIs
  hash := keyH w
  inj := fun v a b ha hb => by
    rcases keyIs_shape ha with ⟨i, t, rfl, rfl⟩ | ⟨x, t, rfl, rfl⟩
    · rcases keyIs_shape hb with ⟨j, u, rfl, e⟩ | ⟨y, u, rfl, e⟩
      · injection e with e1 _; rw [e1]
      · exact nomatch e
    · rcases keyIs_shape hb with ⟨j, u, rfl, e⟩ | ⟨y, u, rfl, e⟩
      · exact nomatch e
      · injection e with e1 _; rw [e1]
  byValue := fun k v h => by
    rcases keyIs_shape h with ⟨i, t, rfl, rfl⟩ | ⟨x, t, rfl, rfl⟩ <;> rfl
  pyHash := fun hv h => by
    rcases keyIs_shape hv with ⟨i, t, rfl, rfl⟩ | ⟨x, t, rfl, rfl⟩
    · exact wpAny_pyHash_int h
    · exact wpAny_pyHash_str h
  eqBool := fun hu hv h => by
    rcases keyIs_shape hu with ⟨i, t, rfl, rfl⟩ | ⟨x, t, rfl, rfl⟩
    · rcases keyIs_shape hv with ⟨j, u, rfl, rfl⟩ | ⟨y, u, rfl, rfl⟩
      · rw [key_ll] at h; exact wpAny_eqBool_int h
      · rw [key_lr] at h; exact SeqAt.EqAt.int_str i t y u _ _ _ _ h
    · rcases keyIs_shape hv with ⟨j, u, rfl, rfl⟩ | ⟨y, u, rfl, rfl⟩
      · rw [key_rl] at h; exact SeqAt.EqAt.str_int x t j u _ _ _ _ h
      · rw [key_rr] at h; exact wpAny_eqBool_str h
  «strs» := fun k x t v h => by
    rcases keyIs_shape h with ⟨i, u, rfl, e⟩ | ⟨y, u, rfl, e⟩
    · exact nomatch e
    · injection e with e1 _
      subst e1
      cases v <;> rfl

theorem mixKind_int (prog : Program) (w : World) (i : Int) (t : Tok) : (mixKind prog w).is (.inl i) (.int i t) = true := keyIs_int i t
theorem mixKind_str (prog : Program) (w : World) (x : Str) (t : Tok) : (mixKind prog w).is (.inr x) (.str x t) = true := keyIs_str x t
end L2

namespace L2
open PySem PySem.Spec PyProof.Rows


inductive V where
  | non | bl (b : Bool) | int (i : Int) | str (x : Str) | byt (b : Array UInt8) | flt (b : UInt64) | ref (a : Addr) | ty (n : String)
  deriving DecidableEq

noncomputable def RelV : V → Value → Prop
  | .non, u => u = Value.none
  | .bl b, u => u = Value.bool b
  | .int i, u => ∃ t, u = Value.int i t
  | .str x, u => ∃ t, u = Value.str x t
  | .byt b, u => ∃ t, u = Value.bytes b t
  | .flt b, u => ∃ t, u = Value.float b t
  | .ref a, u => u = Value.ref a
  | .ty n, u => u = Value.type n

noncomputable abbrev Vals : List V → List Value → Prop := Paired RelV
theorem Vals.length {xs : List V} {us : List Value} (r : Vals xs us) : xs.length = us.length := Paired.length r
theorem Vals.get : ∀ {xs : List V} {us : List Value} {i : Nat} {x : V}, Vals xs us → xs[i]? = some x → ∃ u, us[i]? = some u ∧ RelV x u
  | _, _, _, _, .nil, e => by simp at e
  | _, _, 0, _, .cons r _, e => by simp at e; subst e; exact ⟨_, rfl, r⟩
  | _, _, i + 1, x, .cons _ t, e => by
    obtain ⟨u, h1, h2⟩ := Vals.get (i := i) (x := x) t (by simpa using e)
    exact ⟨u, by simpa using h1, h2⟩
theorem Vals.set {x : V} {u : Value} (r : RelV x u) : ∀ {xs : List V} {us : List Value} (i : Nat), Vals xs us → Vals (xs.set i x) (us.set i u)
  | _, _, _, .nil => .nil
  | _, _, 0, .cons _ t => .cons r t
  | _, _, i + 1, .cons q t => .cons q (Vals.set r i t)
theorem Vals.append : ∀ {xs ys : List V} {us ws : List Value}, Vals xs us → Vals ys ws → Vals (xs ++ ys) (us ++ ws)
  | _, _, _, _, .nil, s => s
  | _, _, _, _, .cons r t, s => .cons r (Vals.append t s)
theorem Vals.take : ∀ {xs : List V} {us : List Value} (n : Nat), Vals xs us → Vals (xs.take n) (us.take n)
  | _, _, 0, _ => .nil
  | _, _, _ + 1, .nil => .nil
  | _, _, n + 1, .cons r t => .cons r (Vals.take n t)
theorem Vals.drop : ∀ {xs : List V} {us : List Value} (n : Nat), Vals xs us → Vals (xs.drop n) (us.drop n)
  | _, _, 0, r => r
  | _, _, _ + 1, .nil => .nil
  | _, _, n + 1, .cons _ t => Vals.drop n t
noncomputable def RelO : Option V → Option Value → Prop
  | some v, some u => RelV v u
  | none, none => True
  | _, _ => False
noncomputable def KV {κ : Type} : List (κ × V) → List (κ × Value) → Prop := Paired fun (p : κ × V) (q : κ × Value) => p.1 = q.1 ∧ RelV p.2 q.2


noncomputable def kV : Key → V
  | .inl i => .int i
  | .inr x => .str x


inductive HO where
  
  | lst (xs : List V)
  
  | tup (xs : List V)
  
  | dK (kvs : List (Key × V)) | dT (kvs : List (List Key × V))
  
  | set (S : Int → Bool) (n : Nat)
  
  | ins (C dx : Addr) (fs : List (Str × V))
  
  | own (x : Addr)
  
  | xd (fs : List (Str × V))
  
  | met (f x : Addr)
  
  | rng (lo hi : Int)
  
  | frz (o : Obj) (u : HO)
  
  | tbl (ps : Array Value)
  
  | ext (φ : Heap → Prop)

noncomputable abbrev Hp := Addr → Option HO
noncomputable def upd (H : Hp) (a : Addr) (o : HO) : Hp := fun b => if b = a then some o else H b
theorem upd_same {H : Hp} {a : Addr} {o : HO} : upd H a o a = some o := by unfold upd; rw [if_pos rfl]
theorem upd_ne {H : Hp} {a b : Addr} {o : HO} (h : b ≠ a) : upd H a o b = H b := by unfold upd; rw [if_neg h]

theorem ne_of {H : Hp} {a b : Addr} {o u : HO} (h : H a = some o) (h' : H b = some u) (d : o ≠ u) : a ≠ b := by
  intro e; subst e; rw [h] at h'; exact d (Option.some.inj h')
theorem ne_of_none {H : Hp} {a b : Addr} {o : HO} (h : H a = some o) (h' : H b = none) : a ≠ b := by
  intro e; subst e; rw [h] at h'; cases h'

section
variable (P : Program) (w : World)
noncomputable def ObjOk (H : Hp) (h : Heap) (a : Addr) : HO → Prop
  | .lst xs => xs.length ≤ sizeLine ∧ ∃ (its : List Value) (n : Nat), Vals xs its ∧ h.get? a = some { cls := .type "list", data := .seq its.toArray n }
  | .tup xs => xs.length ≤ sizeLine ∧ ∃ its : List Value, Vals xs its ∧ IsTup h a its.toArray
  | .dK kvs => kvs.length ≤ sizeLine ∧ (a == sysModules) = false ∧ ∃ vs, KV kvs vs ∧ h.DictOf (mixKind P w) a vs
  | .dT kvs => kvs.length ≤ sizeLine ∧ (a == sysModules) = false ∧ ∃ xs : List (List Key × Addr × Value),
      Paired (fun (p : List Key × V) (q : List Key × Addr × Value) => p.1 = q.1 ∧ H q.2.1 = some (.tup (p.1.map kV)) ∧ RelV p.2 q.2.2) kvs xs ∧
      ∃ o es ep, h.get? a = some o ∧ o.ExactDict ∧ o.data = .dict es ep ∧ es.toList = xs.map (entryOfKey (tupleKind (mixKind P w))) ∧ (xs.map (·.1)).Nodup
  | .set S n => h.SetOf (intKind P w) a S n
  | .ins C dx fs => H dx = some (.own a) ∧ fs.length ≤ 1000 ∧ dx ≠ a ∧ h.get? a = some (PySem.W.instObj C dx) ∧
      ∃ mA, h.Ns1 dx mA ∧ (∀ f, RelO (fs.lookup f) (mA f)) ∧ PySem.Within mA (fs.map (·.1))
  | .own _ => ∃ o, h.get? a = some o
  | .xd fs => ∃ mA, h.Ns1 a mA ∧ ∀ f, RelO (fs.lookup f) (mA f)
  | .rng lo hi => ∃ t u v, h.get? a = some { cls := .type "range", data := .fields #[.int lo t, .int hi u, .int 1 v] }
  | .frz o u => h.get? a = some o ∧ ObjOk H h a u
  | .tbl ps => h.get? a = some { cls := .none, data := .fields ps }
  | .met f x => h.get? a = some (PySem.W.methodObj (.ref f) (.ref x))
  | .ext φ => φ h ∧ (∃ o, h.get? a = some o) ∧ ∀ h1 h2 : Heap, φ h1 → (∀ o, h1.get? a = some o → h2.get? a = some o) → φ h2

noncomputable def HOk (H : Hp) (h : Heap) : Prop := ∀ a o, H a = some o → ObjOk P w H h a o
end

section
variable {P : Program} {w : World} {H H' : Hp} {h h' : Heap} {a : Addr} {o : HO}
theorem ObjOk.lt (x : ObjOk P w H h a o) : a < h.objs.size := by
  cases o with
  | lst xs => obtain ⟨_, _, _, _, e⟩ := x; exact Heap.lt_size e
  | tup xs => obtain ⟨_, _, _, p⟩ := x; exact p.lt
  | dK kvs => obtain ⟨_, _, _, _, o, _, _, e, _⟩ := x; exact Heap.lt_size e
  | dT kvs => obtain ⟨_, _, _, _, o, _, _, e, _⟩ := x; exact Heap.lt_size e
  | set S n => obtain ⟨o, _, _, _, e, _⟩ := x; exact Heap.lt_size e
  | ins C dx fs => obtain ⟨_, _, _, e, _⟩ := x; exact Heap.lt_size e
  | own y => obtain ⟨_, e⟩ := x; exact Heap.lt_size e
  | xd fs => obtain ⟨_, ⟨_, _, _, e, _⟩, _⟩ := x; exact Heap.lt_size e
  | rng lo hi => obtain ⟨_, _, _, e⟩ := x; exact Heap.lt_size e
  | frz ob u => obtain ⟨e, _⟩ := x; exact Heap.lt_size e
  | tbl ps => exact Heap.lt_size (show h.get? a = some _ from x)
  | met f y => exact Heap.lt_size (show h.get? a = some _ from x)
  | ext φ => obtain ⟨_, ⟨_, e⟩, _⟩ := x; exact Heap.lt_size e
theorem Paired.mapP {α β : Type} {F G : α → β → Prop} : ∀ {l₁ : List α} {l₂ : List β}, Paired F l₁ l₂ → (∀ a b, F a b → G a b) → Paired G l₁ l₂
  | _, _, .nil, _ => .nil
  | _, _, .cons r t, f => .cons (f _ _ r) (Paired.mapP t f)

theorem ObjOk.stay (x : ObjOk P w H h a o) (k : ∀ b u, (b = a ∨ H b = some (.own a)) → h.get? b = some u → h'.get? b = some u)
    (ho : ∀ b, H b = some (.own a) → H' b = some (.own a)) (ht : ∀ b xs, H b = some (.tup xs) → H' b = some (.tup xs)) : ObjOk P w H' h' a o := by
  induction o with
  | lst xs => obtain ⟨z, its, n, r, e⟩ := x; exact ⟨z, its, n, r, k _ _ (.inl rfl) e⟩
  | tup xs => obtain ⟨z, its, r, ob, e, c⟩ := x; exact ⟨z, its, r, ob, k _ _ (.inl rfl) e, c⟩
  | dK kvs => obtain ⟨z, y, vs, r, ob, es, ep, e, c⟩ := x; exact ⟨z, y, vs, r, ob, es, ep, k _ _ (.inl rfl) e, c⟩
  | dT kvs =>
    obtain ⟨z, y, xs, r, ob, es, ep, e, c⟩ := x
    exact ⟨z, y, xs, Paired.mapP r fun p q z => ⟨z.1, ht _ _ z.2.1, z.2.2⟩, ob, es, ep, k _ _ (.inl rfl) e, c⟩
  | set S n => obtain ⟨ob, es, ep, t, e, c⟩ := x; exact ⟨ob, es, ep, t, k _ _ (.inl rfl) e, c⟩
  | ins C dx fs =>
    obtain ⟨d, z, ne, e, mA, ⟨od, es, ep, e2, c⟩, r⟩ := x
    exact ⟨ho _ d, z, ne, k _ _ (.inl rfl) e, mA, ⟨od, es, ep, k _ _ (.inr d) e2, c⟩, r⟩
  | own y => obtain ⟨ob, e⟩ := x; exact ⟨ob, k _ _ (.inl rfl) e⟩
  | xd fs => obtain ⟨mA, ⟨od, es, ep, e, c⟩, r⟩ := x; exact ⟨mA, ⟨od, es, ep, k _ _ (.inl rfl) e, c⟩, r⟩
  | rng lo hi => obtain ⟨t, u, v, e⟩ := x; exact ⟨t, u, v, k _ _ (.inl rfl) e⟩
  | frz ob u ih => obtain ⟨e, q⟩ := x; exact ⟨k _ _ (.inl rfl) e, ih q⟩
  | tbl ps =>
    have e : h.get? a = some { cls := .none, data := .fields ps } := x
    show h'.get? a = some { cls := .none, data := .fields ps }
    exact k a _ (.inl rfl) e
  | met f y =>
    have e : h.get? a = some (PySem.W.methodObj (.ref f) (.ref y)) := x
    show h'.get? a = some (PySem.W.methodObj (.ref f) (.ref y))
    exact k a _ (.inl rfl) e
  | ext φ => obtain ⟨p, ⟨o, e⟩, st⟩ := x; exact ⟨st _ _ p fun o q => k _ _ (.inl rfl) q, ⟨o, k _ _ (.inl rfl) e⟩, st⟩
theorem HOk.lt (x : HOk P w H h) (e : H a = some o) : a < h.objs.size := (x a o e).lt
theorem HOk.fresh (x : HOk P w H h) (e : h.objs.size ≤ a) : H a = none := by
  cases q : H a with
  | none => rfl
  | some u => exact absurd (Nat.lt_of_lt_of_le (x.lt q) e) (Nat.lt_irrefl _)

theorem HOk.kept (x : HOk P w H h) (k : ∀ b u, h.get? b = some u → h'.get? b = some u) : HOk P w H h' := fun a o e =>
  (x a o e).stay (fun b u _ q => k b u q) (fun _ q => q) fun _ _ q => q

theorem HOk.laid (x : HOk P w H h) (k : ∀ b u, h.get? b = some u → h'.get? b = some u) (hp : h.objs.size ≤ a) (new : ObjOk P w (upd H a o) h' a o) : HOk P w (upd H a o) h' := fun b u e => by
  have hn := x.fresh hp
  by_cases hb : b = a
  · subst hb; rw [upd_same] at e; cases e; exact new
  · rw [upd_ne hb] at e
    exact (x b u e).stay (fun c v _ q => k c v q) (fun c q => by rw [upd_ne (ne_of_none q hn)]; exact q) fun c xs q => by rw [upd_ne (ne_of_none q hn)]; exact q
end


noncomputable def Rd (H : Hp) (a : Addr) (u : HO) : Prop := H a = some u ∨ ∃ o, H a = some (.frz o u)
theorem Rd.of {H : Hp} {a : Addr} {u : HO} (h : H a = some u) : Rd H a u := .inl h
theorem Rd.ok {P : Program} {w : World} {H : Hp} {h : Heap} {a : Addr} {u : HO} (r : Rd H a u) (x : HOk P w H h) : ObjOk P w H h a u := by
  rcases r with r | ⟨o, r⟩
  · exact x a u r
  · obtain ⟨_, q⟩ := x a _ r
    exact q

noncomputable def Mut : Option HO → Prop
  | some (.lst _) => True
  | some (.dK _) => True
  | some (.dT _) => True
  | some (.set _ _) => True
  | some (.ins _ _ _) => True
  | some (.ext _) => True
  | _ => False
section
variable {P : Program} {w : World} {H : Hp} {h h' : Heap} {x e : Addr} {o' : HO}

theorem HOk.write (ok : HOk P w H h) (mu : Mut (H x)) (he : e = x ∨ H e = some (.own x)) (k : ∀ b u, b ≠ e → h.get? b = some u → h'.get? b = some u) (heo : ∃ u, h'.get? e = some u)
    (new : ObjOk P w (upd H x o') h' x o') : HOk P w (upd H x o') h' := fun b u q => by
  have nown : ∀ c y, H c = some (.own y) → c ≠ x := fun c y r z => by subst z; rw [r] at mu; exact mu
  have ntup : ∀ c xs, H c = some (.tup xs) → c ≠ x := fun c xs r z => by subst z; rw [r] at mu; exact mu
  by_cases hb : b = x
  · subst hb; rw [upd_same] at q; cases q; exact new
  · rw [upd_ne hb] at q
    by_cases hbe : b = e
    · have q' : H b = some (.own x) := by
        rcases he with z | z
        · exact absurd (hbe.trans z) hb
        · rw [hbe]; exact z
      rw [q] at q'; cases q'
      obtain ⟨v, hv⟩ := heo
      exact ⟨v, by rw [hbe]; exact hv⟩
    · refine (ok b u q).stay (fun c v hc r => k c v ?_ r) (fun c r => by rw [upd_ne (nown c b r)]; exact r) fun c xs r => by rw [upd_ne (ntup c xs r)]; exact r
      rcases hc with rfl | hc
      · exact hbe
      · rintro rfl
        rcases he with z | z
        · exact nown c b hc z
        · rw [hc] at z; cases z; exact hb rfl
end


structure Un (fs ex : List Addr) (H H' : Hp) (h h' : Heap) : Prop where
  keep : ∀ b o, h.get? b = some o → H b = none → b ∉ fs → b ∉ ex → h'.get? b = some o
  slot : ∀ b o, h.get? b = some o → H b = none → b ∈ fs → b ∉ ex → ∃ sl, h'.get? b = some { o with slots := sl }
  free : ∀ b o, h.get? b = some o → H b = none → b ∉ ex → H' b = none
  there : ∀ b o, h.get? b = some o → b ∉ ex → ∃ o', h'.get? b = some o'
  tups : ∀ b xs, H b = some (.tup xs) → H' b = some (.tup xs)
  frzs : ∀ b o u, H b = some (.frz o u) → H' b = some (.frz o u)
  tbls : ∀ b ps, H b = some (.tbl ps) → ∃ more, H' b = some (.tbl (ps ++ more))
section
variable {fs fs' ex ex' : List Addr} {H H1 H2 : Hp} {h h1 h2 h' : Heap} {a x e : Addr} {o : HO}
theorem Un.any (u : Un fs ex H H1 h h1) {b : Addr} {ob : Obj} (q : h.get? b = some ob) (n : H b = none) (hx : b ∉ ex) : ∃ sl, h1.get? b = some { ob with slots := sl } := by
  by_cases hb : b ∈ fs
  · exact u.slot b ob q n hb hx
  · exact ⟨ob.slots, u.keep b ob q n hb hx⟩
theorem Un.trans (a : Un fs ex H H1 h h1) (b : Un fs ex H1 H2 h1 h2) : Un fs ex H H2 h h2 where
  keep := fun c ob q n hc hx => b.keep c ob (a.keep c ob q n hc hx) (a.free c ob q n hx) hc hx
  slot := fun c ob q n hc hx => by
    obtain ⟨sl, e1⟩ := a.slot c ob q n hc hx
    obtain ⟨sl', e2⟩ := b.slot c _ e1 (a.free c ob q n hx) hc hx
    exact ⟨sl', e2⟩
  free := fun c ob q n hx => by
    obtain ⟨o', e1⟩ := a.there c ob q hx
    exact b.free c o' e1 (a.free c ob q n hx) hx
  there := fun c ob q hx => by
    obtain ⟨o', e1⟩ := a.there c ob q hx
    exact b.there c o' e1 hx
  tups := fun c xs q => b.tups c xs (a.tups c xs q)
  frzs := fun c ob xs q => b.frzs c ob xs (a.frzs c ob xs q)
  tbls := fun c ps q => by
    obtain ⟨m1, e1⟩ := a.tbls c ps q
    obtain ⟨m2, e2⟩ := b.tbls c _ e1
    exact ⟨m1 ++ m2, by rw [e2, Array.append_assoc]⟩
theorem Un.kept (k : ∀ b u, h.get? b = some u → h'.get? b = some u) : Un fs ex H H h h' :=
  ⟨fun b ob q _ _ _ => k b ob q, fun b ob q _ _ _ => ⟨ob.slots, k b ob q⟩, fun _ _ _ n _ => n, fun b ob q _ => ⟨ob, k b ob q⟩, fun _ _ q => q, fun _ _ _ q => q, fun _ ps q => ⟨#[], by rw [q]; simp⟩⟩
theorem Un.refl : Un fs ex H H h h := Un.kept fun _ _ q => q
theorem Un.laid (k : ∀ b u, h.get? b = some u → h'.get? b = some u) (hp : h.objs.size ≤ a) (hn : H a = none) : Un fs ex H (upd H a o) h h' where
  keep := fun b u q _ _ _ => k b u q
  slot := fun b u q _ _ _ => ⟨u.slots, k b u q⟩
  free := fun b u q n _ => by rw [upd_ne (Nat.ne_of_lt (Nat.lt_of_lt_of_le (Heap.lt_size q) hp))]; exact n
  there := fun b u q _ => ⟨u, k b u q⟩
  tups := fun b xs q => by rw [upd_ne (ne_of_none q hn)]; exact q
  frzs := fun b u xs q => by rw [upd_ne (ne_of_none q hn)]; exact q
  tbls := fun b ps q => ⟨#[], by rw [upd_ne (ne_of_none q hn), q]; simp⟩
theorem Un.write (mu : Mut (H x)) (he : e = x ∨ H e = some (.own x)) (k : ∀ b u, b ≠ e → h.get? b = some u → h'.get? b = some u) (heo : ∃ u, h'.get? e = some u) : Un fs ex H (upd H x o) h h' := by
  have hx : ∀ b, H b = none → b ≠ x := fun b n z => by subst z; rw [n] at mu; exact mu
  have hb : ∀ b, H b = none → b ≠ e := fun b n z => by
    subst z
    rcases he with r | r
    · exact hx b n r
    · rw [n] at r; cases r
  have hm : ∀ b u, H b = some u → ¬ Mut (some u) → b ≠ x := fun b u q nm z => by subst z; rw [q] at mu; exact nm mu
  refine ⟨fun b u q n _ _ => k b u (hb b n) q, fun b u q n _ _ => ⟨u.slots, k b u (hb b n) q⟩, fun b u q n _ => by rw [upd_ne (hx b n)]; exact n, fun b u q _ => ?_,
    fun b xs q => by rw [upd_ne (hm b _ q fun z => z)]; exact q, fun b u xs q => by rw [upd_ne (hm b _ q fun z => z)]; exact q, fun b ps q => ⟨#[], by rw [upd_ne (hm b _ q fun z => z), q]; simp⟩⟩
  by_cases hbe : b = e
  · subst hbe; exact heo
  · exact ⟨u, k b u hbe q⟩
theorem Un.mono (u : Un fs ex H H1 h h1) (hs : ∀ b ∈ fs, b ∈ fs') (hx : ∀ b ∈ ex, b ∈ ex') : Un fs' ex' H H1 h h1 :=
  ⟨fun b ob q n hb he => u.keep b ob q n (fun z => hb (hs b z)) fun z => he (hx b z), fun _ _ q n _ he => u.any q n fun z => he (hx _ z), fun b ob q n he => u.free b ob q n fun z => he (hx b z), fun b ob q he => u.there b ob q fun z => he (hx b z), u.tups, u.frzs, u.tbls⟩
end


noncomputable def trk (h : Heap) (H : Hp) : List Addr := (List.range h.objs.size).filter fun a => (H a).isSome
noncomputable def hidT (h : Heap) (H : Hp) : Heap := PySem.W.hideAll h (trk h H)
theorem hidT_size (h : Heap) (H : Hp) : (hidT h H).objs.size = h.objs.size := PySem.W.hideAll_size _ _
theorem hidT_get {h : Heap} {H : Hp} {b : Addr} {o : Obj} (e : h.get? b = some o) (n : H b = none) : (hidT h H).get? b = some o :=
  PySem.W.hideAll_get _ e fun hm => by
    have q : (H b).isSome = true := (List.mem_filter.mp hm).2
    rw [n] at q; simp at q
theorem of_hidT {h : Heap} {H : Hp} {b : Addr} {o : Obj} (e : (hidT h H).get? b = some o) : h.get? b = some o ∧ H b = none := by
  have e' : h.get? b = some o := PySem.W.of_hideAll (trk h H) e
  refine ⟨e', ?_⟩
  cases q : H b with
  | none => rfl
  | some x =>
    have hm : b ∈ trk h H := List.mem_filter.mpr ⟨List.mem_range.mpr (Heap.lt_size e'), by simp [q]⟩
    have z : (hidT h H).get? b = none := PySem.W.hideAll_none (trk h H) hm
    rw [z] at e; cases e


noncomputable def allNews (g h : Heap) (L : Addr) : List (Addr × Obj) := (List.range h.objs.size).filterMap fun a => if a = L ∨ (g.get? a).isSome = true then none else (h.get? a).map fun o => (a, o)
noncomputable def rest (g h : Heap) (L d : Addr) : List (Addr × Obj) := (allNews g h L).filter fun p => decide (p.1 ≠ d)
end L2

namespace L2
open PySem PySem.Spec PyProof.Rows


structure Mod (K : PySem.W.Frag) (mg : Str → Option Value) (base : Heap) : Prop where
  kin : K.In base
  glob : base.Ns mainGlobals mg
  blt : ∃ mb, base.Ns builtinsNs mb ∧ ∀ x : Str, x ≠ "__name__" → mb x = bootBuiltins x
  nolimit : base.NoLimit


structure Cx where
  prog : Program
  w : World
  K : PySem.W.Frag
  mg : Str → Option Value
  base : Heap
  A : Around
  N : List Str
  s₀ : Shared
  H₀ : Hp
  env : Env
  outer : List Env
  stack : List Env
  ex : List Addr
  fn : Str → Bool
  calm : Bool
  pn : List (Addr × Obj)
  xe : Value → Shared → Prop

noncomputable def frs (l : List Env) : List Addr := l.filterMap (·.frame)
noncomputable abbrev Cx.fs (X : Cx) : List Addr := frs X.outer

noncomputable def Vis (sc : Scope) (x : Str) : Prop := sc.names.lookup x = some .local ∨ sc.names.lookup x = some .cell ∨ sc.names.lookup x = some .free
noncomputable def Loc (sc : Scope) (x : Str) : Prop := sc.names.lookup x = some .local ∨ sc.names.lookup x = some .cell
noncomputable def Look (env : Env) (h : Heap) (m : Str → Option Value) (x : Str) (u : Value) : Prop :=
  (env.kindOf x = some .local ∧ m x = some u) ∨ ((env.kindOf x = some .cell ∨ env.kindOf x = some .free) ∧ ∃ c, env.cells.lookup x = some c ∧ h.IsCell c (some u))

structure Cx.Ok (X : Cx) : Prop where
  mod : Mod X.K X.mg X.base
  kind : X.env.scope.kind = .function
  glob : X.env.globals = mainGlobals
  blt : X.env.builtins = builtinsNs
  above : X.s₀.heap.objs.size ≤ X.env.locals
  inj : ∀ x y c, X.env.cells.lookup x = some c → X.env.cells.lookup y = some c → x = y
  has : ∀ x, (X.env.kindOf x = some .cell ∨ X.env.kindOf x = some .free) → ∃ c, X.env.cells.lookup x = some c
  cab : ∀ x c, X.fn x = true → X.env.cells.lookup x = some c → X.s₀.heap.objs.size ≤ c
  hd : X.calm = true → X.A.handled = none
  frames : X.A.frames = some X.stack
  stk : X.stack = X.outer ∨ (X.stack = X.env :: X.outer ∧ X.env.frame = some X.env.locals)
  exf : ∀ b ∈ X.ex, b ≠ X.env.locals ∧ ∀ x c, X.env.cells.lookup x = some c → c ≠ b
  bs : ∀ b o, X.base.get? b = some o → X.s₀.heap.get? b = some o ∧ X.H₀ b = none
  bsz : X.base.objs.size ≤ X.s₀.heap.objs.size
  noex : ∀ b o, X.base.get? b = some o → b ∉ X.ex
  exfs : ∀ b ∈ X.ex, b ∉ X.fs
  funs : X.s₀.heap.FunFrames X.base X.outer
  frf : ∀ b ∈ X.fs, X.H₀ b = none

structure Inv (X : Cx) (pins : List (Addr × Obj)) (σ : List (Option V)) (H : Hp) (s : Shared) : Prop where
  ok : X.Ok
  os : s.os = X.s₀.os
  bare : AllBare s.gens
  base : Un X.fs X.ex X.H₀ H X.s₀.heap s.heap
  loc : ∃ m, s.heap.Ns X.env.locals m ∧ ∀ (i : Nat) (x : Str) (v : V), X.N[i]? = some x → σ[i]? = some (some v) → Vis X.env.scope x → ∃ u, RelV v u ∧ Look X.env s.heap m x u
  cell : ∀ x c, X.env.cells.lookup x = some c → ∃ v, s.heap.IsCell c v
  free : H X.env.locals = none
  freeC : ∀ x c, X.env.cells.lookup x = some c → H c = none
  pin : ∀ p ∈ X.pn ++ pins, s.heap.get? p.1 = some p.2 ∧ H p.1 = none ∧ p.1 ≠ X.env.locals ∧ p.1 ∉ X.fs ∧ ∀ v, p.2.data ≠ .cell v
  hok : HOk X.prog X.w H s.heap
  len : σ.length = X.N.length

section
variable {X : Cx} {pins : List (Addr × Obj)} {σ : List (Option V)} {H H' : Hp} {s : Shared} {h' : Heap}

theorem Cx.Ok.nofr (ok : X.Ok) {b : Addr} {o : Obj} (e : X.base.get? b = some o) : b ∉ X.fs := fun hb => by
  have := (ok.funs.mem hb).1
  rw [e] at this; cases this
theorem Inv.bs (I : Inv X pins σ H s) : ∀ b o, X.base.get? b = some o → s.heap.get? b = some o ∧ H b = none := fun b o e =>
  ⟨I.base.keep b o (I.ok.bs b o e).1 (I.ok.bs b o e).2 (I.ok.nofr e) (I.ok.noex b o e), I.base.free b o (I.ok.bs b o e).1 (I.ok.bs b o e).2 (I.ok.noex b o e)⟩
theorem Inv.bk (I : Inv X pins σ H s) : ∀ b o, X.base.get? b = some o → s.heap.get? b = some o := fun b o e => (I.bs b o e).1
theorem Inv.mod (I : Inv X pins σ H s) : Mod X.K X.mg X.base := I.ok.mod
theorem Inv.kIn (I : Inv X pins σ H s) : X.K.In s.heap := I.ok.mod.kin.keeps I.bk
theorem Inv.nolimit (I : Inv X pins σ H s) : s.heap.NoLimit := I.ok.mod.nolimit.keeps I.bk

theorem Inv.fr (I : Inv X pins σ H s) : ∃ m, Fr X.base X.env.locals s.heap m :=
  let ⟨m, hn, _⟩ := I.loc
  ⟨m, hn, I.bk, Nat.le_trans I.ok.bsz I.ok.above⟩
theorem Inv.lt (I : Inv X pins σ H s) : X.env.locals < s.heap.objs.size := let ⟨_, hn, _⟩ := I.loc; hn.lt
theorem Inv.sz (I : Inv X pins σ H s) : X.s₀.heap.objs.size ≤ s.heap.objs.size := Nat.le_trans I.ok.above (Nat.le_of_lt I.lt)
theorem Inv.nofs (I : Inv X pins σ H s) {a : Addr} (h : s.heap.objs.size ≤ a) : a ∉ X.fs := fun hb => by
  obtain ⟨_, o, ho, _⟩ := I.ok.funs.mem hb
  exact absurd (Nat.lt_of_lt_of_le (Heap.lt_size ho) (Nat.le_trans I.sz h)) (Nat.lt_irrefl _)
theorem Inv.cne (I : Inv X pins σ H s) : ∀ x c, X.env.cells.lookup x = some c → c ≠ X.env.locals := fun x c e z => by
  obtain ⟨v, o, ho, hd⟩ := I.cell x c e
  obtain ⟨m, ⟨o', es, ep, ho', hd', _⟩, _⟩ := I.loc
  rw [z, ho'] at ho; cases ho; rw [hd'] at hd; cases hd
theorem Inv.funs (I : Inv X pins σ H s) : s.heap.FunFrames X.base X.outer := by
  have all : ∀ (l : List Env), (∀ b ∈ frs l, b ∈ X.fs) → X.s₀.heap.FunFrames X.base l → s.heap.FunFrames X.base l := by
    intro l
    induction l with
    | nil => intro _ _; trivial
    | cons env r ih =>
      intro hs hl
      obtain ⟨hk, ⟨L, o, hf, hn, ho, hd⟩, hr⟩ := hl
      have hL : L ∈ X.fs := hs L (by unfold frs; rw [List.filterMap_cons, hf]; exact List.mem_cons_self)
      obtain ⟨sl, e⟩ := I.base.slot L o ho (I.ok.frf L hL) hL fun z => I.ok.exfs L z hL
      exact ⟨hk, ⟨L, _, hf, hn, e, hd⟩, ih (fun b hb => hs b (by unfold frs; rw [List.filterMap_cons, hf]; exact List.mem_cons_of_mem _ hb)) hr⟩
  exact all X.outer (fun _ hb => hb) I.ok.funs


theorem Inv.stack (I : Inv X pins σ H s) : s.heap.FunFrames X.base X.stack := by
  rcases I.ok.stk with e | ⟨e, hf⟩
  · rw [e]; exact I.funs
  · rw [e]
    obtain ⟨m, hn, _⟩ := I.loc
    refine .cons (by rw [I.ok.kind]; decide) hf hn ?_ I.funs
    exact Heap.get?_none_of_le (Nat.le_trans I.ok.bsz I.ok.above)
theorem Inv.stkSub (I : Inv X pins σ H s) : ∀ b ∈ frs X.stack, b ∈ X.env.locals :: X.fs := fun b hb => by
  rcases I.ok.stk with e | ⟨e, hf⟩
  · rw [e] at hb; exact List.mem_cons_of_mem _ hb
  · rw [e] at hb
    unfold frs at hb
    rw [List.filterMap_cons, hf] at hb
    exact hb
theorem Inv.stkFree (I : Inv X pins σ H s) : ∀ b ∈ frs X.stack, H b = none := fun b hb => by
  rcases List.mem_cons.mp (I.stkSub b hb) with e | hb
  · rw [e]; exact I.free
  · obtain ⟨_, o, ho, _⟩ := I.ok.funs.mem hb
    exact I.base.free b o ho (I.ok.frf b hb) fun z => I.ok.exfs b z hb


theorem Inv.step {g' : Array GenState} {t' : Nat} {d' : Drawn} {ch : List Addr} (I : Inv X pins σ H s)
    (hch : ∀ b ∈ ch, (b ∈ X.ex ∨ X.s₀.heap.objs.size ≤ b) ∧ b ≠ X.env.locals ∧ (∀ x c, X.env.cells.lookup x = some c → c ≠ b) ∧ ∀ p ∈ X.pn ++ pins, p.1 ≠ b)
    (keep : ∀ b o, b ≠ X.env.locals → b ∉ X.fs → b ∉ ch → s.heap.get? b = some o → H b = none → h'.get? b = some o)
    (slot : ∀ b o, b ≠ X.env.locals → b ∈ X.fs → b ∉ ch → s.heap.get? b = some o → H b = none → ∃ sl, h'.get? b = some { o with slots := sl }) (free : ∀ b o, b ∉ ch → s.heap.get? b = some o → H b = none → H' b = none)
    (there : ∀ b o, b ∉ ch → s.heap.get? b = some o → ∃ o', h'.get? b = some o')
    (tups : ∀ b xs, H b = some (.tup xs) → H' b = some (.tup xs)) (frzs : ∀ b o u, H b = some (.frz o u) → H' b = some (.frz o u)) (tbls : ∀ b ps, H b = some (.tbl ps) → ∃ more, H' b = some (.tbl (ps ++ more)))
    (ns : ∀ m, s.heap.Ns X.env.locals m → h'.Ns X.env.locals m) (hok : HOk X.prog X.w H' h') (hg : AllBare g') :
    Inv X pins σ H' { s with heap := h', gens := g', drawn := d', toks := t' } := by
  have neL : ∀ b o, X.s₀.heap.get? b = some o → b ≠ X.env.locals := fun b o e => Nat.ne_of_lt (Nat.lt_of_lt_of_le (Heap.lt_size e) I.ok.above)
  have neC : ∀ b o, X.s₀.heap.get? b = some o → b ∉ X.ex → b ∉ ch := fun b o e hx hb => by
    rcases (hch b hb).1 with z | z
    · exact hx z
    · exact absurd (Nat.lt_of_lt_of_le (Heap.lt_size e) z) (Nat.lt_irrefl _)
  have cellK : ∀ x c, X.env.cells.lookup x = some c → ∀ v, s.heap.IsCell c v → h'.IsCell c v := fun x c e v ⟨o, ho, hd⟩ => by
    have nch : c ∉ ch := fun z => (hch c z).2.2.1 x c e rfl
    by_cases hc : c ∈ X.fs
    · obtain ⟨sl, q⟩ := slot c o (I.cne x c e) hc nch ho (I.freeC x c e)
      exact ⟨_, q, hd⟩
    · exact ⟨o, keep c o (I.cne x c e) hc nch ho (I.freeC x c e), hd⟩
  refine ⟨I.ok, I.os, hg, ⟨fun b o e n hb hx => ?_, fun b o e n hb hx => ?_, fun b o e n hx => ?_, fun b o e hx => ?_, fun b xs e => tups b xs (I.base.tups b xs e), fun b o xs e => frzs b o xs (I.base.frzs b o xs e), fun b ps e => ?_⟩, ?_, fun x c e => ?_, ?_, fun x c e => ?_, fun p hp => ?_, hok, I.len⟩
  · exact keep b o (neL b o e) hb (neC b o e hx) (I.base.keep b o e n hb hx) (I.base.free b o e n hx)
  · obtain ⟨sl, e1⟩ := I.base.slot b o e n hb hx
    obtain ⟨sl', e2⟩ := slot b _ (neL b o e) hb (neC b o e hx) e1 (I.base.free b o e n hx)
    exact ⟨sl', e2⟩
  · obtain ⟨o', e1⟩ := I.base.there b o e hx
    exact free b o' (neC b o e hx) e1 (I.base.free b o e n hx)
  · obtain ⟨o', e1⟩ := I.base.there b o e hx
    exact there b o' (neC b o e hx) e1
  · obtain ⟨m1, e1⟩ := I.base.tbls b ps e
    obtain ⟨m2, e2⟩ := tbls b _ e1
    exact ⟨m1 ++ m2, by rw [e2, Array.append_assoc]⟩
  · obtain ⟨m, hn, hl⟩ := I.loc
    refine ⟨m, ns m hn, fun i x v e1 e2 e3 => ?_⟩
    obtain ⟨u, r, l⟩ := hl i x v e1 e2 e3
    refine ⟨u, r, ?_⟩
    rcases l with l | ⟨k, c, e, z⟩
    · exact .inl l
    · exact .inr ⟨k, c, e, cellK x c e _ z⟩
  · obtain ⟨v, z⟩ := I.cell x c e
    exact ⟨v, cellK x c e v z⟩
  · obtain ⟨m, ⟨o, _, _, ho, _⟩, _⟩ := I.loc
    exact free _ o (fun z => (hch _ z).2.1 rfl) ho I.free
  · obtain ⟨v, o, ho, hd⟩ := I.cell x c e
    exact free c o (fun z => (hch c z).2.2.1 x c e rfl) ho (I.freeC x c e)
  · obtain ⟨e, n, ne, nf, d⟩ := I.pin p hp
    have nch : p.1 ∉ ch := fun z => (hch p.1 z).2.2.2 p hp rfl
    exact ⟨keep p.1 p.2 ne nf nch e n, free p.1 p.2 nch e n, ne, nf, d⟩

theorem Inv.un {t' : Nat} (I : Inv X pins σ H s) (u : Un X.fs [] H H' s.heap h') (hok : HOk X.prog X.w H' h') : Inv X pins σ H' { s with heap := h', toks := t' } := by
  obtain ⟨m, ⟨o, es, ep, ho, r⟩, _⟩ := id I.loc
  obtain ⟨sl, hL⟩ := u.any ho I.free (by simp)
  exact I.step (g' := s.gens) (d' := s.drawn) (ch := []) (fun _ z => nomatch z) (fun b o _ hb _ e n => u.keep b o e n hb (by simp)) (fun b o _ hb _ e n => u.slot b o e n hb (by simp)) (fun b o _ e n => u.free b o e n (by simp)) (fun b o _ e => u.there b o e (by simp)) u.tups u.frzs u.tbls (fun m' hm => by
    obtain ⟨o', es', ep', ho', r'⟩ := hm
    rw [ho] at ho'; cases ho'
    exact ⟨_, es', ep', hL, r'⟩) hok I.bare

theorem Inv.call {g' : Array GenState} {t' : Nat} {d' : Drawn} {ch : List Addr} (I : Inv X pins σ H s) (u : Un (frs X.stack) ch H H' s.heap h') (hok : HOk X.prog X.w H' h') (hg : AllBare g')
    (hch : ∀ b ∈ ch, (b ∈ X.ex ∨ X.s₀.heap.objs.size ≤ b) ∧ b ≠ X.env.locals ∧ (∀ x c, X.env.cells.lookup x = some c → c ≠ b) ∧ ∀ p ∈ X.pn ++ pins, p.1 ≠ b) :
    Inv X pins σ H' { s with heap := h', gens := g', drawn := d', toks := t' } := by
  obtain ⟨m, ⟨o, es, ep, ho, r⟩, _⟩ := id I.loc
  obtain ⟨sl, hL⟩ := u.any ho I.free fun z => (hch _ z).2.1 rfl
  exact I.step (ch := ch) hch (fun b o hL hb hc e n => u.keep b o e n (fun z => (List.mem_cons.mp (I.stkSub b z)).elim hL hb) hc) (fun b o _ _ hc e n => u.any e n hc) (fun b o hc e n => u.free b o e n hc) (fun b o hc e => u.there b o e hc) u.tups u.frzs u.tbls (fun m' hm => by
    obtain ⟨o', es', ep', ho', r'⟩ := hm
    rw [ho] at ho'; cases ho'
    exact ⟨_, es', ep', hL, r'⟩) hok hg

theorem Inv.turned {t' : Nat} {it : Addr} (I : Inv X pins σ H s) (k : ∀ b o, b ≠ it → s.heap.get? b = some o → h'.get? b = some o) (hn : H it = none) (hL : it ≠ X.env.locals)
    (h1 : it ∈ X.ex ∨ X.s₀.heap.objs.size ≤ it) (h2 : ∀ x c, X.env.cells.lookup x = some c → c ≠ it) (h3 : ∀ p ∈ X.pn ++ pins, p.1 ≠ it) : Inv X pins σ H { s with heap := h', toks := t' } := by
  have nit : ∀ b u, H b = some u → b ≠ it := fun b u e z => by rw [z, hn] at e; cases e
  refine I.step (g' := s.gens) (d' := s.drawn) (ch := [it]) (fun b hb => ?_) (fun b o _ _ hc e _ => k b o (fun z => hc (by simp [z])) e) (fun b o _ _ hc e _ => ⟨o.slots, k b o (fun z => hc (by simp [z])) e⟩) (fun _ _ _ _ n => n)
    (fun b o hc e => ⟨o, k b o (fun z => hc (by simp [z])) e⟩) (fun _ _ e => e) (fun _ _ _ e => e) (fun b ps e => ⟨#[], by rw [e]; simp⟩) (fun m hm => ?_) (fun b u e => ?_) I.bare
  · have e : b = it := by simpa using hb
    subst e
    exact ⟨h1, hL, h2, h3⟩
  · obtain ⟨o, es, ep, ho, r⟩ := hm
    exact ⟨o, es, ep, k _ o (Ne.symm hL) ho, r⟩
  · refine (I.hok b u e).stay (fun c v hc q => k c v ?_ q) (fun _ q => q) fun _ _ q => q
    rcases hc with z | z
    · rw [z]; exact nit b u e
    · exact nit c _ z
theorem Inv.tok (I : Inv X pins σ H s) (t : Nat) : Inv X pins σ H { s with toks := t } := I.un (h' := s.heap) (t' := t) Un.refl I.hok

theorem Inv.kept {t' : Nat} (I : Inv X pins σ H s) (k : ∀ b u, s.heap.get? b = some u → h'.get? b = some u) : Inv X pins σ H { s with heap := h', toks := t' } := I.un (Un.kept k) (I.hok.kept k)

theorem Inv.laid {a : Addr} {o : HO} {t' : Nat} (I : Inv X pins σ H s) (k : ∀ b u, s.heap.get? b = some u → h'.get? b = some u) (hp : s.heap.objs.size ≤ a) (new : ObjOk X.prog X.w (upd H a o) h' a o) :
    Inv X pins σ (upd H a o) { s with heap := h', toks := t' } := I.un (Un.laid k hp (I.hok.fresh hp)) (I.hok.laid k hp new)

theorem Inv.write {x e : Addr} {o : HO} {t' : Nat} (I : Inv X pins σ H s) (mu : Mut (H x)) (he : e = x ∨ H e = some (.own x)) (k : ∀ b u, b ≠ e → s.heap.get? b = some u → h'.get? b = some u) (heo : ∃ u, h'.get? e = some u)
    (new : ObjOk X.prog X.w (upd H x o) h' x o) : Inv X pins σ (upd H x o) { s with heap := h', toks := t' } := I.un (Un.write mu he k heo) (I.hok.write mu he k heo new)
theorem Inv.pins_of {pins' : List (Addr × Obj)} (I : Inv X pins σ H s) (h : ∀ p ∈ pins', s.heap.get? p.1 = some p.2 ∧ H p.1 = none ∧ p.1 ≠ X.env.locals ∧ p.1 ∉ X.fs ∧ ∀ v, p.2.data ≠ .cell v) : Inv X pins' σ H s :=
  ⟨I.ok, I.os, I.bare, I.base, I.loc, I.cell, I.free, I.freeC, fun p hp => (List.mem_append.mp hp).elim (fun z => I.pin p (List.mem_append_left _ z)) (h p), I.hok, I.len⟩

theorem nodup_ix {N : List Str} (hN : N.Nodup) {i j : Nat} {x : Str} (a : N[i]? = some x) (b : N[j]? = some x) : i = j := by
  obtain ⟨h1, e1⟩ := List.getElem?_eq_some_iff.mp a
  obtain ⟨h2, e2⟩ := List.getElem?_eq_some_iff.mp b
  exact (List.getElem_inj hN).mp (e1.trans e2.symm)


theorem store_ok2 {M : Model} {A : Around} {E : Value → Shared → Prop} {i : Nat} {x : Str} {v : V} {u : Value} {Q : Unit → Shared → Prop} (I : Inv X pins σ H s) (hN : X.N.Nodup) (hi : X.N[i]? = some x) (hx : Loc X.env.scope x) (r : RelV v u)
    (h : ∀ s', Inv X pins (σ.set i (some v)) H s' → (∃ a, Heap.SameBut a s.heap s'.heap ∧ (a = X.env.locals ∨ X.env.cells.lookup x = some a)) → Q () s') (hf : X.fn x = true ∨ X.env.scope.names.lookup x = some .local := by first | exact .inl rfl | exact .inr rfl | assumption) : wpAny M A (storeName X.env x u) Q E s := by
  obtain ⟨m, hn, hl⟩ := id I.loc
  have hcls : (X.env.scope.kind == .class || (X.env.scope.kind == .module && X.env.locals != X.env.globals)) = false := by rw [I.ok.kind]; rfl
  have hiσ : i < σ.length := by rw [I.len]; exact (List.getElem?_eq_some_iff.mp hi).1
  have cne := I.cne
  have tracked : ∀ {a : Addr} {h' : Heap}, (∃ o, s.heap.get? a = some o ∧ H a = none) → Heap.SameBut a s.heap h' → HOk X.prog X.w H h' := fun {a h'} ha hs b ob e => by
    obtain ⟨_, _, hfree⟩ := ha
    refine (I.hok b ob e).stay (fun c w' hc q => (hs.2 c ?_).trans q) (fun _ q => q) fun _ _ q => q
    rintro rfl
    rcases hc with rfl | hc
    · rw [hfree] at e; cases e
    · rw [hfree] at hc; cases hc
  rcases hx with hk | hk
  · refine wpAny_storeName_local hk hn (fun h' hn' hs => ?_) hcls
    obtain ⟨oL, _, _, hoL, _⟩ := id hn
    refine h _ ⟨I.ok, I.os, I.bare, ⟨fun b o e n hb hx => ?_, fun b o e n hb hx => ?_, I.base.free, fun b o e hx => ?_, I.base.tups, I.base.frzs, I.base.tbls⟩, ⟨_, hn', fun j y v' e1 e2 e3 => ?_⟩, fun y c e => ?_, I.free, I.freeC, fun p hp => ?_, tracked ⟨oL, hoL, I.free⟩ hs, by simpa using I.len⟩ ⟨_, hs, .inl rfl⟩
    · exact (hs.2 b (Nat.ne_of_lt (Nat.lt_of_lt_of_le (Heap.lt_size e) I.ok.above))).trans (I.base.keep b o e n hb hx)
    · obtain ⟨sl, e1⟩ := I.base.slot b o e n hb hx
      exact ⟨sl, (hs.2 b (Nat.ne_of_lt (Nat.lt_of_lt_of_le (Heap.lt_size e) I.ok.above))).trans e1⟩
    · obtain ⟨o', e1⟩ := I.base.there b o e hx
      exact ⟨o', (hs.2 b (Nat.ne_of_lt (Nat.lt_of_lt_of_le (Heap.lt_size e) I.ok.above))).trans e1⟩
    · by_cases hj : j = i
      · subst hj
        rw [hi] at e1; cases e1
        rw [List.getElem?_set_self hiσ] at e2
        cases e2
        exact ⟨u, r, .inl ⟨hk, by simp⟩⟩
      · rw [List.getElem?_set_ne (Ne.symm hj)] at e2
        obtain ⟨u', r', q⟩ := hl j y v' e1 e2 e3
        refine ⟨u', r', ?_⟩
        rcases q with ⟨k, e⟩ | ⟨k, c, e, z⟩
        · refine .inl ⟨k, ?_⟩
          have : y ≠ x := fun e => hj (nodup_ix hN e1 (e ▸ hi))
          simp [this, e]
        · exact .inr ⟨k, c, e, z.sameBut hs (cne y c e)⟩
    · obtain ⟨w', z⟩ := I.cell y c e
      exact ⟨w', z.sameBut hs (cne y c e)⟩
    · obtain ⟨e, n, ne, nf, d⟩ := I.pin p hp
      exact ⟨(hs.2 p.1 ne).trans e, n, ne, nf, d⟩
  · have hfn : X.fn x = true := by
      rcases hf with z | z
      · exact z
      · rw [z] at hk; cases hk
    obtain ⟨c, hc⟩ := I.ok.has x (.inl hk)
    obtain ⟨w', z⟩ := I.cell x c hc
    refine wpAny_storeName_cell I.ok.kind hk hc z (fun h' hc' hs => ?_)
    obtain ⟨oc, hoc, hocd⟩ := id z
    refine h { s with heap := h' } ⟨I.ok, I.os, I.bare, ⟨fun b o e n hb hx => ?_, fun b o e n hb hx => ?_, I.base.free, fun b o e hx => ?_, I.base.tups, I.base.frzs, I.base.tbls⟩, ⟨m, hn.sameBut hs (Ne.symm (cne x c hc)), fun j y v' e1 e2 e3 => ?_⟩, fun y c' e => ?_, I.free, I.freeC, fun p hp => ?_, tracked ⟨oc, hoc, I.freeC x c hc⟩ hs, by simpa using I.len⟩ ⟨c, hs, .inr hc⟩
    · exact (hs.2 b (Nat.ne_of_lt (Nat.lt_of_lt_of_le (Heap.lt_size e) (I.ok.cab x c hfn hc)))).trans (I.base.keep b o e n hb hx)
    · obtain ⟨sl, e1⟩ := I.base.slot b o e n hb hx
      exact ⟨sl, (hs.2 b (Nat.ne_of_lt (Nat.lt_of_lt_of_le (Heap.lt_size e) (I.ok.cab x c hfn hc)))).trans e1⟩
    · obtain ⟨o', e1⟩ := I.base.there b o e hx
      exact ⟨o', (hs.2 b (Nat.ne_of_lt (Nat.lt_of_lt_of_le (Heap.lt_size e) (I.ok.cab x c hfn hc)))).trans e1⟩
    · by_cases hj : j = i
      · subst hj
        rw [hi] at e1; cases e1
        rw [List.getElem?_set_self hiσ] at e2
        cases e2
        exact ⟨u, r, .inr ⟨.inl hk, c, hc, hc'⟩⟩
      · rw [List.getElem?_set_ne (Ne.symm hj)] at e2
        obtain ⟨u', r', q⟩ := hl j y v' e1 e2 e3
        refine ⟨u', r', ?_⟩
        rcases q with q | ⟨k, c', e, z'⟩
        · exact .inl q
        · refine .inr ⟨k, c', e, z'.sameBut hs ?_⟩
          rintro rfl
          exact hj (nodup_ix hN e1 (I.ok.inj _ _ _ e hc ▸ hi))
    · by_cases hcc : c' = c
      · subst hcc; exact ⟨_, hc'⟩
      · obtain ⟨w2, z2⟩ := I.cell y c' e
        exact ⟨w2, z2.sameBut hs hcc⟩
    · obtain ⟨e, n, ne, nf, d⟩ := I.pin p hp
      refine ⟨(hs.2 p.1 ?_).trans e, n, ne, nf, d⟩
      intro q
      rw [q, hoc] at e
      have q' : oc = p.2 := Option.some.inj e
      exact d w' (by rw [← q']; exact hocd)
theorem store_ok {M : Model} {A : Around} {E : Value → Shared → Prop} {i : Nat} {x : Str} {v : V} {u : Value} {Q : Unit → Shared → Prop} (I : Inv X pins σ H s) (hN : X.N.Nodup) (hi : X.N[i]? = some x) (hx : Loc X.env.scope x) (r : RelV v u)
    (h : ∀ s', Inv X pins (σ.set i (some v)) H s' → Q () s') (hf : X.fn x = true ∨ X.env.scope.names.lookup x = some .local := by first | exact .inl rfl | exact .inr rfl | assumption) : wpAny M A (storeName X.env x u) Q E s :=
  store_ok2 I hN hi hx r (fun s' I' _ => h s' I') hf

theorem Inv.call' {s' : Shared} {ch : List Addr} (I : Inv X pins σ H s) (ho : s'.os = s.os) (u : Un (frs X.stack) ch H H' s.heap s'.heap) (hok : HOk X.prog X.w H' s'.heap) (hg : AllBare s'.gens)
    (hch : ∀ b ∈ ch, (b ∈ X.ex ∨ X.s₀.heap.objs.size ≤ b) ∧ b ≠ X.env.locals ∧ (∀ x c, X.env.cells.lookup x = some c → c ≠ b) ∧ ∀ p ∈ X.pn ++ pins, p.1 ≠ b) : Inv X pins σ H' s' := by
  obtain ⟨h', g', d', t', o'⟩ := s'
  have e : o' = s.os := ho
  subst e
  exact I.call (g' := g') (t' := t') (d' := d') u hok hg hch
end



noncomputable abbrev XK := Value → Option Addr → Hp → Prop
noncomputable abbrev St := List (Option V)
noncomputable abbrev VK := V → Hp → Prop

noncomputable abbrev TE := St → Hp → VK → Prop
noncomputable abbrev TT := St → Hp → (Bool → Hp → Prop) → Prop
noncomputable abbrev TA := St → Hp → (List V → Hp → Prop) → Prop

structure Ends where
  nx : St → Hp → Prop
  rt : VK
  bk : St → Hp → Prop := fun _ _ => False
  ct : St → Hp → Prop := fun _ _ => False
noncomputable abbrev TS := Ends → St → Hp → Prop

noncomputable def EP (X : Cx) (pins : List (Addr × Obj)) (σ : St) (Q : VK) (u : Value) (s' : Shared) : Prop := ∃ v H', Inv X pins σ H' s' ∧ RelV v u ∧ Q v H'
noncomputable def TP (X : Cx) (pins : List (Addr × Obj)) (σ : St) (Q : Bool → Hp → Prop) (b : Bool) (s' : Shared) : Prop := ∃ H', Inv X pins σ H' s' ∧ Q b H'
noncomputable def AP (X : Cx) (pins : List (Addr × Obj)) (σ : St) (Q : List V → Hp → Prop) (us : List Value) (s' : Shared) : Prop := ∃ vs H', Inv X pins σ H' s' ∧ Vals vs us ∧ Q vs H'
noncomputable def SP (X : Cx) (pins : List (Addr × Obj)) (D : Ends) (f : Flow) (s' : Shared) : Prop :=
  match f with
  | .next => ∃ σ' H', Inv X pins σ' H' s' ∧ D.nx σ' H'
  | .brk => ∃ σ' H', Inv X pins σ' H' s' ∧ D.bk σ' H'
  | .cont => ∃ σ' H', Inv X pins σ' H' s' ∧ D.ct σ' H'
  | .ret u => ∃ v σ' H', Inv X pins σ' H' s' ∧ RelV v u ∧ D.rt v H'

noncomputable def PE (X : Cx) (e : Expr) (t : TE) : Prop :=
  ∀ (pins : List (Addr × Obj)) (s : Shared) (σ : St) (H : Hp) (Q : VK), Inv X pins σ H s → t σ H Q → wpAny (model X.prog X.w) X.A (eval e X.env) (EP X pins σ Q) X.xe s
noncomputable def PT (X : Cx) (e : Expr) (t : TT) : Prop :=
  ∀ (pins : List (Addr × Obj)) (s : Shared) (σ : St) (H : Hp) (Q : Bool → Hp → Prop), Inv X pins σ H s → t σ H Q → wpAny (model X.prog X.w) X.A (isTrue e X.env (eval e X.env)) (TP X pins σ Q) X.xe s

noncomputable def PW (X : Cx) (e : Expr) (t : TT) : Prop :=
  ∀ (whole : Sem Value) (pins : List (Addr × Obj)) (s : Shared) (σ : St) (H : Hp) (Q : Bool → Hp → Prop), Inv X pins σ H s → t σ H Q → wpAny (model X.prog X.w) X.A (isTrue e X.env whole) (TP X pins σ Q) X.xe s
theorem PW.pt {X : Cx} {e : Expr} {t : TT} (h : PW X e t) : PT X e t := h _

noncomputable def PA (X : Cx) (es : List Expr) (t : TA) : Prop :=
  ∀ (pos : Pos) (pins : List (Addr × Obj)) (s : Shared) (σ : St) (H : Hp) (Q : List V → Hp → Prop), Inv X pins σ H s → t σ H Q → wpAny (model X.prog X.w) X.A (spliced (backTo pos (starEach es X.env))) (AP X pins σ Q) X.xe s
noncomputable def PS (X : Cx) (st : Stmt) (t : TS) : Prop :=
  ∀ (pins : List (Addr × Obj)) (s : Shared) (σ : St) (H : Hp) (D : Ends), Inv X pins σ H s → t D σ H → wpAny (model X.prog X.w) X.A (exec st X.env) (SP X pins D) X.xe s
noncomputable def PSs (X : Cx) (st : List Stmt) (t : TS) : Prop :=
  ∀ (pins : List (Addr × Obj)) (s : Shared) (σ : St) (H : Hp) (D : Ends), Inv X pins σ H s → t D σ H → wpAny (model X.prog X.w) X.A (execs st X.env) (SP X pins D) X.xe s

theorem thn {α : Type} {t : Sem α} {Q Q' : α → Shared → Prop} {M : Model} {A : Around} {E : Value → Shared → Prop} {s : Shared} (h : wpAny M A t Q E s) (hQ : ∀ a s, Q a s → Q' a s) : wpAny M A t Q' E s := wpAny_mono h hQ fun _ _ x => x
end L2

namespace L2
open PySem PySem.Spec PyProof.Rows
section
variable {X : Cx}


theorem bin {a b : Expr} {ta tb : TE} (ha : PE X a ta) (hb : PE X b tb) {pins : List (Addr × Obj)} {s : Shared} {σ : St} {H : Hp} {R : V → V → Hp → Prop} (I : Inv X pins σ H s) (h : ta σ H fun x H1 => tb σ H1 fun y H2 => R x y H2)
    {α : Type} {Q : α → Shared → Prop} {f : Value → Value → Sem α}
    (hf : ∀ v u s2 x y H2, Inv X pins σ H2 s2 → RelV x v → RelV y u → R x y H2 → wpAny (model X.prog X.w) X.A (f v u) Q X.xe s2) :
    wpAny (model X.prog X.w) X.A (eval a X.env) (fun v s₁ => wpAny (model X.prog X.w) X.A (eval b X.env) (fun u s₂ => wpAny (model X.prog X.w) X.A (f v u) Q X.xe s₂) X.xe s₁) X.xe s := by
  refine thn (ha pins s σ H _ I h) fun v s1 ⟨x, H1, I1, r1, q1⟩ => ?_
  refine thn (hb pins s1 σ H1 _ I1 q1) fun u s2 ⟨y, H2, I2, r2, q2⟩ => ?_
  exact hf v u s2 x y H2 I2 r1 r2 q2


noncomputable def tVar (i : Nat) : TE := fun σ H Q => ∃ v, σ[i]? = some (some v) ∧ Q v H
noncomputable def tC (v : V) : TE := fun _ H Q => Q v H
theorem pe_var {i : Nat} {x : Str} {pos : Pos} (hN : X.N[i]? = some x) (hv : Vis X.env.scope x) (hd : (x == ("__debug__" : Str)) = false := by decide) (hcd : (x == ("__classdict__" : Str)) = false := by decide) : PE X (.Name x pos) (tVar i) := by
  intro pins s σ H Q I h
  obtain ⟨v, e, h⟩ := h
  obtain ⟨m, hn, hl⟩ := I.loc
  obtain ⟨u, r, l⟩ := hl i x v hN e hv
  have fin : EP X pins σ Q u s := ⟨v, H, I, r, h⟩
  rcases l with ⟨hk, hm⟩ | ⟨hk, c, hc, hcell⟩
  · exact wpAny_Name (wpAny_loadName_local I.ok.kind hk hn hm fin) hd
  · rcases hk with hk | hk
    · exact wpAny_Name (wpAny_loadName_cell I.ok.kind hk hc hcell fin) hd
    · exact wpAny_Name (wpAny_loadName_free I.ok.kind hk hc hcell fin hcd) hd
theorem pe_int {i j pos} : PE X (.Constant (.int i) j pos) (tC (.int i)) := fun _ _ _ H _ I h => wpAny_Constant_int ⟨.int i, H, I.tok _, ⟨_, rfl⟩, h⟩
theorem pe_bl {b j pos} : PE X (.Constant (.bool b) j pos) (tC (.bl b)) := fun _ _ _ H _ I h => Constant_bool ⟨.bl b, H, I, rfl, h⟩
theorem pe_non {j pos} : PE X (.Constant .none j pos) (tC .non) := fun _ _ _ H _ I h => Constant_none ⟨.non, H, I, rfl, h⟩
theorem pe_str {x j pos} : PE X (.Constant (.str x) j pos) (tC (.str x)) := fun _ _ _ H _ I h => Calls.Constant_str ⟨.str x, H, I.tok _, ⟨_, rfl⟩, h⟩


noncomputable def Gl (X : Cx) (x : Str) : Prop := X.env.kindOf x = some .globalImplicit
theorem ld_glob {E : Value → Shared → Prop} {pins : List (Addr × Obj)} {s : Shared} {σ : St} {H : Hp} {x : Str} {u : Value} {pos : Pos} {Q : Value → Shared → Prop} (I : Inv X pins σ H s) (hg : Gl X x) (hm : X.mg x = some u) (h : Q u s)
    (hd : (x == ("__debug__" : Str)) = false := by decide) : wpAny (model X.prog X.w) X.A (eval (.Name x pos) X.env) Q E s :=
  Calls.Name_function_global I.ok.kind hg (Calls.loadGlobal_global (by rw [I.ok.glob]; exact I.mod.glob.keeps I.bk) hm h) hd
theorem ld_blt {E : Value → Shared → Prop} {pins : List (Addr × Obj)} {s : Shared} {σ : St} {H : Hp} {x : Str} {u : Value} {pos : Pos} {Q : Value → Shared → Prop} (I : Inv X pins σ H s) (hg : Gl X x) (hm : X.mg x = none) (hv : bootBuiltins x = some u) (h : Q u s)
    (hn : x ≠ "__name__" := by decide) (hd : (x == ("__debug__" : Str)) = false := by decide) : wpAny (model X.prog X.w) X.A (eval (.Name x pos) X.env) Q E s := by
  obtain ⟨mb, h1, h2⟩ := I.mod.blt
  exact Calls.Name_function_global I.ok.kind hg (Calls.loadGlobal_builtin (by rw [I.ok.glob]; exact I.mod.glob.keeps I.bk) hm (by rw [I.ok.blt]; exact h1.keeps I.bk) ((h2 x hn).trans hv) h) hd

theorem pe_glob {x : Str} {v : V} {u : Value} {pos : Pos} (hg : Gl X x) (hm : X.mg x = some u) (r : RelV v u) (hd : (x == ("__debug__" : Str)) = false := by decide) : PE X (.Name x pos) (tC v) :=
  fun _ _ _ H _ I h => ld_glob I hg hm ⟨v, H, I, r, h⟩ hd
theorem pe_bltn {x : Str} {v : V} {u : Value} {pos : Pos} (hg : Gl X x) (hm : X.mg x = none) (hv : bootBuiltins x = some u) (r : RelV v u) (hn : x ≠ "__name__" := by decide) (hd : (x == ("__debug__" : Str)) = false := by decide) : PE X (.Name x pos) (tC v) :=
  fun _ _ _ H _ I h => ld_blt I hg hm hv ⟨v, H, I, r, h⟩ hn hd


variable {a b : Expr} {ta tb : TE} {pos : Pos}


variable {tA tB' : TT} {rest : List Expr}
noncomputable def tNot (t : TT) : TT := fun σ H Q => t σ H fun c H1 => Q (!c) H1
theorem pw_and1 (ha : PT X a tA) : PW X (.BoolOp .And [a] pos) tA := by
  intro wh pins s σ H Q I h
  refine isTrue_and (thn (ha pins s σ H Q I h) fun c s1 e => ?_)
  cases c with
  | true => exact isTrue_and_nil e
  | false => exact e
theorem pw_or1 (ha : PT X a tA) : PW X (.BoolOp .Or [a] pos) tA := by
  intro wh pins s σ H Q I h
  refine isTrue_or (thn (ha pins s σ H Q I h) fun c s1 e => ?_)
  cases c with
  | false => exact isTrue_or_nil e
  | true => exact e
theorem pt_not (ha : PT X a tA) : PT X (.UnaryOp .Not a pos) (tNot tA) := by
  intro pins s σ H Q I h
  exact isTrue_not (ha pins s σ H (fun c H1 => Q (!c) H1) I h)
theorem pe_one {op} {t : TE} (h : PE X a t) : PE X (.BoolOp op [a] pos) t := fun pins s σ H Q I hw => BoolOp_one (h pins s σ H Q I hw)
end
end L2

namespace L2
open PySem PySem.Spec PyProof.Rows


noncomputable def SqL (K : PySem.W.Frag) (H : Hp) (a : Addr) (xs : List V) : Prop :=
  Rd H a (.lst xs) ∨
    ∃ (o : Obj) (its : Array Value) (n : Nat), K.lookup a = some o ∧ o.cls = .type "list" ∧ o.dict = none ∧ o.data = .seq its n ∧ its.size ≤ sizeLine ∧ Vals xs its.toList
noncomputable def SqT (K : PySem.W.Frag) (H : Hp) (a : Addr) (xs : List V) : Prop :=
  Rd H a (.tup xs) ∨
    ∃ (o : Obj) (its : Array Value) (n : Nat), K.lookup a = some o ∧ o.cls = .type "tuple" ∧ o.data = .seq its n ∧ its.size ≤ sizeLine ∧ Vals xs its.toList
noncomputable def absV : Value → Option V
  | .none => some .non
  | .bool b => some (.bl b)
  | .int i _ => some (.int i)
  | .str x _ => some (.str x)
  | .bytes b _ => some (.byt b)
  | .float b _ => some (.flt b)
  | .ref a => some (.ref a)
  | .type n => some (.ty n)
  | _ => none
theorem RelV.abs {x : V} {u : Value} (r : RelV x u) : absV u = some x := by
  cases x with
  | non => cases r; rfl
  | bl _ => cases r; rfl
  | int _ => obtain ⟨t, rfl⟩ := r; rfl
  | str _ => obtain ⟨t, rfl⟩ := r; rfl
  | byt _ => obtain ⟨t, rfl⟩ := r; rfl
  | flt _ => obtain ⟨t, rfl⟩ := r; rfl
  | ref _ => cases r; rfl
  | ty _ => cases r; rfl
theorem RelV.inj {x y : V} {u : Value} (r : RelV x u) (q : RelV y u) : x = y := Option.some.inj (r.abs.symm.trans q.abs)
theorem Vals.inj : ∀ {xs ys : List V} {us : List Value}, Vals xs us → Vals ys us → xs = ys
  | _, _, _, .nil, .nil => rfl
  | _, _, _, .cons r t, .cons r' t' => by rw [r.inj r', Vals.inj t t']
section
variable {X : Cx} {pins : List (Addr × Obj)} {σ : St} {H : Hp} {s : Shared} {a : Addr} {xs ys : List V}
theorem SqL.of {K : PySem.W.Frag} (h : H a = some (.lst xs)) : SqL K H a xs := .inl (.inl h)
theorem SqT.of {K : PySem.W.Frag} (h : H a = some (.tup xs)) : SqT K H a xs := .inl (.inl h)
theorem Inv.list (I : Inv X pins σ H s) (h : SqL X.K H a xs) : ∃ its : List Value, Vals xs its ∧ PlainL s.heap a its.toArray ∧ xs.length ≤ sizeLine := by
  rcases h with h | ⟨o, its, n, hk, hc, hd, hs, hz, r⟩
  · obtain ⟨z, its, n, r, e⟩ := h.ok I.hok
    exact ⟨its, r, ⟨_, n, e, rfl, rfl, rfl⟩, z⟩
  · refine ⟨its.toList, r, ⟨o, n, I.kIn a o hk, hc, hd, by simpa using hs⟩, ?_⟩
    have e := r.length
    simp only [Array.length_toList] at e
    omega
theorem Inv.tuple (I : Inv X pins σ H s) (h : SqT X.K H a xs) : ∃ its : List Value, Vals xs its ∧ IsTup s.heap a its.toArray ∧ xs.length ≤ sizeLine := by
  rcases h with h | ⟨o, its, n, hk, hc, hs, hz, r⟩
  · obtain ⟨z, its, r, p⟩ := h.ok I.hok
    exact ⟨its, r, p, z⟩
  · refine ⟨its.toList, r, ⟨o, I.kIn a o hk, hc, n, by simpa using hs⟩, ?_⟩
    have e := r.length
    simp only [Array.length_toList] at e
    omega
theorem Inv.list_inj (I : Inv X pins σ H s) (h : SqL X.K H a xs) (h' : SqL X.K H a ys) : xs = ys := by
  obtain ⟨its, r, ⟨o, n, e, _, _, d⟩, _⟩ := I.list h
  obtain ⟨its', r', ⟨o', n', e', _, _, d'⟩, _⟩ := I.list h'
  rw [e] at e'; cases e'
  rw [d] at d'
  injection d' with d1 _
  have : its = its' := by simpa using congrArg Array.toList d1
  subst this
  exact r.inj r'
theorem Inv.tuple_inj (I : Inv X pins σ H s) (h : SqT X.K H a xs) (h' : SqT X.K H a ys) : xs = ys := by
  obtain ⟨its, r, ⟨o, e, _, n, d⟩, _⟩ := I.tuple h
  obtain ⟨its', r', ⟨o', e', _, n', d'⟩, _⟩ := I.tuple h'
  rw [e] at e'; cases e'
  rw [d] at d'
  injection d' with d1 _
  have : its = its' := by simpa using congrArg Array.toList d1
  subst this
  exact r.inj r'
end


noncomputable abbrev Cx.wish (X : Cx) (E : Value → Shared → Prop) : Cx := { X with xe := E }

noncomputable abbrev Cx.nox (X : Cx) : Cx := X.wish fun _ _ => False
theorem Cx.Ok.wish {X : Cx} (ok : X.Ok) (E : Value → Shared → Prop) : (X.wish E).Ok :=
  ⟨ok.mod, ok.kind, ok.glob, ok.blt, ok.above, ok.inj, ok.has, ok.cab, ok.hd, ok.frames, ok.stk, ok.exf, ok.bs, ok.bsz, ok.noex, ok.exfs, ok.funs, ok.frf⟩
theorem Cx.Ok.unwish {X : Cx} {E : Value → Shared → Prop} (ok : (X.wish E).Ok) : X.Ok :=
  ⟨ok.mod, ok.kind, ok.glob, ok.blt, ok.above, ok.inj, ok.has, ok.cab, ok.hd, ok.frames, ok.stk, ok.exf, ok.bs, ok.bsz, ok.noex, ok.exfs, ok.funs, ok.frf⟩
section
variable {X : Cx} {pins : List (Addr × Obj)} {σ : St} {H : Hp} {s : Shared} {E : Value → Shared → Prop}
theorem Inv.wish (I : Inv X pins σ H s) (E : Value → Shared → Prop) : Inv (X.wish E) pins σ H s := ⟨I.ok.wish E, I.os, I.bare, I.base, I.loc, I.cell, I.free, I.freeC, I.pin, I.hok, I.len⟩
theorem Inv.unwish (I : Inv (X.wish E) pins σ H s) : Inv X pins σ H s := ⟨I.ok.unwish, I.os, I.bare, I.base, I.loc, I.cell, I.free, I.freeC, I.pin, I.hok, I.len⟩
theorem SP.unwish {D : Ends} {f : Flow} {s' : Shared} (h : SP (X.wish E) pins D f s') : SP X pins D f s' := by
  cases f with
  | next => obtain ⟨σ', H', I, q⟩ := h; exact ⟨σ', H', I.unwish, q⟩
  | brk => obtain ⟨σ', H', I, q⟩ := h; exact ⟨σ', H', I.unwish, q⟩
  | cont => obtain ⟨σ', H', I, q⟩ := h; exact ⟨σ', H', I.unwish, q⟩
  | ret u => obtain ⟨v, σ', H', I, r, q⟩ := h; exact ⟨v, σ', H', I.unwish, r, q⟩
theorem PE.nox {e : Expr} {t : TE} (h : PE X.nox e t) : PE X e t := fun pins s σ H Q I hw =>
  wpAny_mono (h pins s σ H Q (I.wish _) hw) (fun _ _ ⟨v, H', I', r, q⟩ => ⟨v, H', I'.unwish, r, q⟩) fun _ _ z => False.elim z
theorem PT.nox {e : Expr} {t : TT} (h : PT X.nox e t) : PT X e t := fun pins s σ H Q I hw =>
  wpAny_mono (h pins s σ H Q (I.wish _) hw) (fun _ _ ⟨H', I', q⟩ => ⟨H', I'.unwish, q⟩) fun _ _ z => False.elim z
theorem PSs.nox {st : List Stmt} {t : TS} (h : PSs X.nox st t) : PSs X st t := fun pins s σ H D I hw =>
  wpAny_mono (h pins s σ H D (I.wish _) hw) (fun _ _ q => q.unwish) fun _ _ z => False.elim z
end


section
variable {X : Cx} {st : Stmt} {rest : List Stmt} {t u : TS} {e : Expr} {te : TE} {pos : Pos}
noncomputable def tNext : TS := fun D σ H => D.nx σ H
noncomputable def tSeq (t u : TS) : TS := fun D σ H => t { D with nx := u D } σ H
theorem pss_nil : PSs X [] tNext := fun _ _ σ H _ I h => wpAny_execs_nil ⟨σ, H, I, h⟩
theorem pss_cons (h1 : PS X st t) (h2 : PSs X rest u) : PSs X (st :: rest) (tSeq t u) := by
  intro pins s σ H D I h
  refine wpAny_execs_cons (thn (h1 pins s σ H { D with nx := u D } I h) fun f s1 q => ?_)
  cases f with
  | next =>
    obtain ⟨σ', H', I', q⟩ := q
    exact h2 pins s1 σ' H' D I' q
  | ret v => exact q
  | brk => exact q
  | cont => exact q

theorem Inv.quiet {pins : List (Addr × Obj)} {σ : St} {H : Hp} {s : Shared} (I : Inv X pins σ H s) : interactive X.env = false := by simp [interactive, I.ok.kind]

noncomputable def tDrop (te : TE) : TS := fun D σ H => te σ H fun _ H1 => D.nx σ H1
theorem ps_expr (he : PE X e te) (hs : swapsWith e none pos.line X.env = pure false := by rfl) : PS X (.Expr e pos) (tDrop te) := by
  intro pins s σ H D I h
  exact wpAny_Expr_any (thn (he pins s σ H _ I h) fun v s1 ⟨x, H1, I1, r1, q1⟩ => ⟨σ, H1, I1, q1⟩) I.quiet hs
noncomputable def tRet (te : TE) : TS := fun D σ H => te σ H D.rt
theorem ps_ret (he : PE X e te) : PS X (.Return (some e) pos) (tRet te) := by
  intro pins s σ H D I h
  exact wpAny_Return_some (thn (he pins s σ H _ I h) fun v s1 ⟨x, H1, I1, r1, q1⟩ => ⟨x, σ, H1, I1, r1, q1⟩)
end


noncomputable abbrev TG := V → St → Hp → (St → Hp → Prop) → Prop
noncomputable def PG (X : Cx) (target : Expr) (t : TG) : Prop :=
  ∀ (pins : List (Addr × Obj)) (s : Shared) (σ : St) (H : Hp) (v : V) (u : Value) (Q : St → Hp → Prop), Inv X pins σ H s → RelV v u → t v σ H Q →
    wpAny (model X.prog X.w) X.A (assign target X.env u) (fun _ s' => ∃ σ' H', Inv X pins σ' H' s' ∧ Q σ' H') X.xe s

noncomputable abbrev TSet := V → V → V → Hp → (Hp → Prop) → Prop
noncomputable def PSet (X : Cx) (t : TSet) : Prop :=
  ∀ (pins : List (Addr × Obj)) (s : Shared) (σ : St) (H : Hp) (o i v : V) (ov iv u : Value) (Q : Hp → Prop), Inv X pins σ H s → RelV o ov → RelV i iv → RelV v u → t o i v H Q →
    wpAny (model X.prog X.w) X.A (setItem ov iv u) (fun _ s' => ∃ H', Inv X pins σ H' s' ∧ Q H') X.xe s
section
variable {X : Cx} {pos : Pos}
noncomputable def gName (i : Nat) : TG := fun v σ H Q => Q (σ.set i (some v)) H
theorem pg_name {i : Nat} {x : Str} (hN : X.N.Nodup) (hi : X.N[i]? = some x) (hx : Loc X.env.scope x) (hf : X.fn x = true ∨ X.env.scope.names.lookup x = some .local := by first | exact .inl rfl | exact .inr rfl | assumption) : PG X (.Name x pos) (gName i) := by
  intro pins s σ H v u Q I r h
  exact wpAny_assign_Name (store_ok I hN hi hx r (fun s' I' => ⟨_, H, I', h⟩) hf)

noncomputable def gSub (to ti : TE) (t : TSet) : TG := fun v σ H Q => to σ H fun o H1 => ti σ H1 fun i H2 => t o i v H2 fun H3 => Q σ H3
theorem pg_sub {o i : Expr} {to ti : TE} {t : TSet} (ho : PE X o to) (hi : PE X i ti) (hs : PSet X t)
    (ha : ∀ v, assign (.Subscript o i pos) X.env v = (do
      let ov ← holding [v] (eval o X.env)
      let iv ← holding [v, ov] (eval i X.env)
      standAt pos
      holding [v, ov, iv] (setItem ov iv v)
      release [v, ov, iv] []) := by intro _; rfl) : PG X (.Subscript o i pos) (gSub to ti t) := by
  intro pins s σ H v u Q I r h
  rw [ha]
  refine wpAny_bind (wpAny_holding (thn (ho pins s σ H _ I h) fun ov s1 ⟨x, H1, I1, r1, q1⟩ => ?_))
  refine wpAny_bind (wpAny_holding (thn (hi pins s1 σ H1 _ I1 q1) fun iv s2 ⟨y, H2, I2, r2, q2⟩ => ?_))
  refine wpAny_bind (wpAny_standAt (wpAny_bind (wpAny_holding (thn (hs pins s2 σ H2 x y v ov iv u _ I2 r1 r2 r q2) fun _ s3 ⟨H3, I3, q3⟩ => ?_))))
  exact wpAny_release ⟨σ, H3, I3, q3⟩

noncomputable def tAsg (te : TE) (g : TG) : TS := fun D σ H => te σ H fun x H1 => g x σ H1 D.nx
theorem ps_asg {tg e : Expr} {te : TE} {g : TG} (he : PE X e te) (hg : PG X tg g) (hs : swapsWithSole [tg] e pos.line X.env = pure false := by rfl) (hw : swappedStores [tg] e X.env = pure none := by rfl)
    (h1 : (assignEach [tg] X.env).map (·.2) = [assign tg X.env] := by rfl) : PS X (.Assign [tg] e pos) (tAsg te g) := by
  intro pins s σ H D I h
  refine wpAny_Assign_stores (thn (he pins s σ H _ I h) fun v s1 ⟨x, H1, I1, r1, q1⟩ => ?_) hs hw
  rw [h1]
  exact thn (hg pins s1 σ H1 x v _ I1 r1 q1) fun _ s2 q => q

theorem ps_set {i : Nat} {x : Str} {e : Expr} {te : TE} {pos' : Pos} (hN : X.N.Nodup) (hi : X.N[i]? = some x) (hx : Loc X.env.scope x) (he : PE X e te) (hs : swapsWith e (some (.Name x pos')) pos.line X.env = pure false := by rfl) (hf : X.fn x = true ∨ X.env.scope.names.lookup x = some .local := by first | exact .inl rfl | exact .inr rfl | assumption) :
    PS X (.Assign [.Name x pos'] e pos) (tAsg te (gName i)) := by
  intro pins s σ H D I h
  refine wpAny_Assign_Name (thn (he pins s σ H _ I h) fun v s1 ⟨y, H1, I1, r1, q1⟩ => ?_) hs
  exact store_ok I1 hN hi hx r1 (fun s2 I2 => ⟨_, H1, I2, q1⟩) hf
end


section
variable {X : Cx} {pos : Pos}
end



structure It where
  go : Nat → Hp → Prop
  yld : Nat → Hp → V → Hp → Prop
  stop : Nat → Hp → Prop

noncomputable def FpOk (X : Cx) (pins : List (Addr × Obj)) (H : Hp) (b : Addr) : Prop :=
  H b = none ∧ b ≠ X.env.locals ∧ b ∉ X.fs ∧ (b ∈ X.ex ∨ X.s₀.heap.objs.size ≤ b) ∧ (∀ x c, X.env.cells.lookup x = some c → c ≠ b) ∧ ∀ p ∈ X.pn ++ pins, p.1 ≠ b
theorem Inv.fpOk {X : Cx} {pins : List (Addr × Obj)} {σ : St} {H H' : Hp} {s : Shared} {b : Addr} (I : Inv X pins σ H s) (hb : s.heap.objs.size ≤ b) (hn : H' b = none) : FpOk X pins H' b := by
  refine ⟨hn, Nat.ne_of_gt (Nat.lt_of_lt_of_le I.lt hb), I.nofs hb, .inr (Nat.le_trans I.sz hb), fun x c e z => ?_, fun p hp z => ?_⟩
  · obtain ⟨v, q⟩ := I.cell x c e
    exact absurd (Nat.lt_of_lt_of_le q.lt (by rw [z]; exact hb)) (Nat.lt_irrefl _)
  · exact absurd (Nat.lt_of_lt_of_le (Heap.lt_size (I.pin p hp).1) (by rw [z]; exact hb)) (Nat.lt_irrefl _)
structure Turn (P : Program) (w : World) (K : PySem.W.Frag) (tg : Expr) (J : It) (fp : List Addr) (it : Addr) (tn : Nat → Heap → Prop) : Prop where
  mem : it ∈ fp
  obj : ∀ i h, tn i h → ∀ b ∈ fp, ∃ o, h.get? b = some o ∧ ∀ v, o.data ≠ .cell v
  keep : ∀ i h h', tn i h → (∀ b ∈ fp, ∀ o, h.get? b = some o → h'.get? b = some o) → tn i h'
  item : ∀ (X : Cx), X.prog = P → X.w = w → X.K = K → X.calm = true → ∀ (i : Nat) (pins : List (Addr × Obj)) (s : Shared) (σ : St) (H : Hp) (E : Value → Shared → Prop), Inv X pins σ H s → (∀ b ∈ fp, FpOk X pins H b) → tn i s.heap → J.go i H →
    wpAny (model P w) X.A (pyNext (.ref it)) (fun r s1 => ∃ u, r = some u ∧
      wpAny (model P w) X.A (letOwnedTupleGo tg (.ref it) u) (fun _ s2 => ∃ x H', Inv X pins σ H' s2 ∧ RelV x u ∧ J.yld i H x H' ∧ tn (i + 1) s2.heap ∧ ∀ b ∈ fp, H' b = none) E s1) E s
  done : ∀ (X : Cx), X.prog = P → X.w = w → X.K = K → X.calm = true → ∀ (i : Nat) (pins : List (Addr × Obj)) (s : Shared) (σ : St) (H : Hp) (E : Value → Shared → Prop), Inv X pins σ H s → (∀ b ∈ fp, FpOk X pins H b) → tn i s.heap → J.stop i H →
    wpAny (model P w) X.A (pyNext (.ref it)) (fun r s1 => r = none ∧ Inv X pins σ H s1) E s
  self : ∀ (A : Around) (i : Nat) (s : Shared) (Q : Value → Shared → Prop) (E : Value → Shared → Prop), tn i s.heap → Q (.ref it) s → wpAny (model P w) A (pyIter (.ref it)) Q E s
noncomputable abbrev TI := St → Hp → (It → Hp → Prop) → Prop

noncomputable def PIE (X : Cx) (pins : List (Addr × Obj)) (σ : St) (tg : Expr) (R : It → Hp → Prop) (itv : Value) (s2 : Shared) : Prop :=
  ∃ (it : Addr) (fp : List Addr) (tn : Nat → Heap → Prop) (J : It) (H' : Hp), itv = .ref it ∧ Inv X pins σ H' s2 ∧ Turn X.prog X.w X.K tg J fp it tn ∧ tn 0 s2.heap ∧ (∀ b ∈ fp, FpOk X pins H' b) ∧ R J H'
noncomputable def PI (X : Cx) (tg iter : Expr) (wi : TI) : Prop :=
  ∀ (pins : List (Addr × Obj)) (s : Shared) (σ : St) (H : Hp) (R : It → Hp → Prop), Inv X pins σ H s → wi σ H R →
    wpAny (model X.prog X.w) X.A (eval iter X.env) (fun v s1 => wpAny (model X.prog X.w) X.A (pyIter v) (PIE X pins σ tg R) X.xe s1) X.xe s


theorem go_of {M : Model} {A : Around} {E : Value → Shared → Prop} {s : Shared} {tg : Expr} {it : Addr} {u : Value} {o : Obj} {n : String} {vs : Array Value} {Q : Unit → Shared → Prop} (ho : s.heap.get? it = some o) (hc : o.cls = .type n) (hd : o.data = .fields vs)
    (hn : ["enumerate", "zip", "dict_itemiterator", "dict_reverseitemiterator", "odict_iterator", "itertools.zip_longest", "itertools.pairwise"].contains n = false) (hQ : Q () s) : wpAny M A (letOwnedTupleGo tg (.ref it) u) Q E s := by
  unfold letOwnedTupleGo
  cases tg <;> first
    | exact wpAny_pure hQ
    | (cases u <;> first
        | exact wpAny_pure hQ
        | (refine wpAny_bind (wpAny_load ho ?_)
           rw [hc, hd]
           show wpAny M A (if (["enumerate", "zip", "dict_itemiterator", "dict_reverseitemiterator", "odict_iterator", "itertools.zip_longest", "itertools.pairwise"].contains n && vs[0]? == some (rawInt _)) = true then _ else _) Q E s
           rw [if_neg (by intro h; rw [hn, Bool.false_and] at h; cases h)]
           exact wpAny_pure hQ))


noncomputable def Itl (K : PySem.W.Frag) (a : Addr) : It :=
  ⟨fun i H => ∃ xs x, SqL K H a xs ∧ xs[i]? = some x, fun i H x H' => H' = H ∧ ∀ xs, SqL K H a xs → xs[i]? = some x, fun i H => ∃ xs, SqL K H a xs ∧ xs.length ≤ i⟩
noncomputable def Itt (K : PySem.W.Frag) (a : Addr) : It :=
  ⟨fun i H => ∃ xs x, SqT K H a xs ∧ xs[i]? = some x, fun i H x H' => H' = H ∧ ∀ xs, SqT K H a xs → xs[i]? = some x, fun i H => ∃ xs, SqT K H a xs ∧ xs.length ≤ i⟩

noncomputable def Itr (lo : Int) (n : Nat) : It := ⟨fun i _ => i < n, fun i H x H' => H' = H ∧ x = .int (lo + i), fun i _ => n ≤ i⟩
theorem turn_list {P : Program} {w : World} {K : PySem.W.Frag} {tg : Expr} (a it : Addr) : Turn P w K tg (Itl K a) [it] it (fun i h => h.IsListIter it a i) where
  mem := by simp
  obj := fun i h st b hb => by
    have e : b = it := by simpa using hb
    subst e
    obtain ⟨o, e, c, d⟩ := st
    exact ⟨o, e, fun v z => by rw [d] at z; cases z⟩
  keep := fun i h h' st k => st.at fun o e => k it (by simp) o e
  item := by
    intro X hP hw hK hc i pins s σ H E I hf st hg
    subst hP hw hK
    obtain ⟨xs, x, hq, hx⟩ := hg
    obtain ⟨its, rv, p, hz⟩ := I.list hq
    obtain ⟨u, hu, ru⟩ := rv.get hx
    obtain ⟨f0, f1, f2, f3, f4, f5⟩ := hf it (by simp)
    refine wpAny_pyNext_list_item st p.isList (x := u) (by simpa using hu) fun h' st' sb => ?_
    have I1 : Inv X pins σ H { s with heap := h' } := I.turned (t' := s.toks) (fun b o hb e => (sb.2 b hb).trans e) f0 f1 f3 f4 f5
    obtain ⟨o, e, c, d⟩ := id st'
    exact ⟨u, rfl, go_of (s := { s with heap := h' }) e c d (by decide) ⟨x, H, I1, ru, ⟨rfl, fun ys hy => by rw [I.list_inj hy hq]; exact hx⟩, st', fun b hb => (hf b hb).1⟩⟩
  done := by
    intro X hP hw hK hc i pins s σ H E I hf st hg
    subst hP hw hK
    obtain ⟨xs, hq, hx⟩ := hg
    obtain ⟨its, rv, p, hz⟩ := I.list hq
    obtain ⟨f0, f1, f2, f3, f4, f5⟩ := hf it (by simp)
    have hl := rv.length
    exact wpAny_pyNext_list_end (I.ok.hd hc) st p.isList (by simp; omega) fun h' eb => ⟨rfl, I.turned (t' := s.toks) (fun b o hb e => eb b o hb e) f0 f1 f3 f4 f5⟩
  self := fun _ _ _ _ _ st h => wpAny_pyIter_listiter st h
theorem turn_tuple {P : Program} {w : World} {K : PySem.W.Frag} {tg : Expr} (a it : Addr) : Turn P w K tg (Itt K a) [it] it (fun i h => h.IsTupleIter it a i) where
  mem := by simp
  obj := fun i h st b hb => by
    have e : b = it := by simpa using hb
    subst e
    obtain ⟨o, e, c, d⟩ := st
    exact ⟨o, e, fun v z => by rw [d] at z; cases z⟩
  keep := fun i h h' st k => st.at fun o e => k it (by simp) o e
  item := by
    intro X hP hw hK hc i pins s σ H E I hf st hg
    subst hP hw hK
    obtain ⟨xs, x, hq, hx⟩ := hg
    obtain ⟨its, rv, p, hz⟩ := I.tuple hq
    obtain ⟨u, hu, ru⟩ := rv.get hx
    obtain ⟨f0, f1, f2, f3, f4, f5⟩ := hf it (by simp)
    refine wpAny_pyNext_tuple_item st (show s.heap.IsTuple a its.toArray from p) (x := u) (by simpa using hu) fun h' st' sb => ?_
    have I1 : Inv X pins σ H { s with heap := h' } := I.turned (t' := s.toks) (fun b o hb e => (sb.2 b hb).trans e) f0 f1 f3 f4 f5
    obtain ⟨o, e, c, d⟩ := id st'
    exact ⟨u, rfl, go_of (s := { s with heap := h' }) e c d (by decide) ⟨x, H, I1, ru, ⟨rfl, fun ys hy => by rw [I.tuple_inj hy hq]; exact hx⟩, st', fun b hb => (hf b hb).1⟩⟩
  done := by
    intro X hP hw hK hc i pins s σ H E I hf st hg
    subst hP hw hK
    obtain ⟨xs, hq, hx⟩ := hg
    obtain ⟨its, rv, p, hz⟩ := I.tuple hq
    obtain ⟨f0, f1, f2, f3, f4, f5⟩ := hf it (by simp)
    have hl := rv.length
    exact wpAny_pyNext_tuple_end (I.ok.hd hc) st (show s.heap.IsTuple a its.toArray from p) (by simp; omega) fun h' eb => ⟨rfl, I.turned (t' := s.toks) (fun b o hb e => eb b o hb e) f0 f1 f3 f4 f5⟩
  self := fun _ _ _ _ _ st h => wpAny_pyIter_tupleiter st h
theorem turn_range {P : Program} {w : World} {K : PySem.W.Frag} {tg : Expr} (it : Addr) (lo : Int) (n : Nat) : Turn P w K tg (Itr lo n) [it] it (fun i h => IsRangeIter h it (lo + (i : Nat) * 1) ((n : Int) - (i : Nat)) 1) where
  mem := by simp
  obj := fun i h st b hb => by
    have e : b = it := by simpa using hb
    subst e
    exact ⟨_, st, fun v z => by
      have z' : Data.fields _ = Data.cell v := z
      cases z'⟩
  keep := fun i h h' st k => k it (by simp) _ st
  item := by
    intro X hP hw hK hc i pins s σ H E I hf st hg
    subst hP hw hK
    obtain ⟨f0, f1, f2, f3, f4, f5⟩ := hf it (by simp)
    have W := Walks.range (prog := X.prog) (w := X.w) (I.ok.hd hc) it lo 1 n
    refine W.item i s _ _ hg st fun v h' tk hv st' kk => ?_
    obtain ⟨t, rfl⟩ := hv
    have I1 : Inv X pins σ H { s with heap := h', toks := tk } := I.turned (fun b o hb e => kk b o (by simpa using hb) e) f0 f1 f3 f4 f5
    refine ⟨_, rfl, go_of (s := { s with heap := h', toks := tk }) (n := "range_iterator") st' rfl rfl (by decide) ⟨.int (lo + i), H, I1, ⟨t, ?_⟩, ⟨rfl, rfl⟩, st', fun b hb => (hf b hb).1⟩⟩
    rw [Int.mul_one]
  done := by
    intro X hP hw hK hc i pins s σ H E I hf st hg
    subst hP hw hK
    obtain ⟨f0, f1, f2, f3, f4, f5⟩ := hf it (by simp)
    exact wpAny_pyNext_range_end (I.ok.hd hc) st (by have : n ≤ i := hg; omega) fun h' eb => ⟨rfl, I.turned (t' := s.toks) (fun b o hb e => eb b o hb e) f0 f1 f3 f4 f5⟩
  self := fun _ _ _ _ _ st h => wpAny_pyIter_rangeiter st h
end L2

namespace L2
open PySem PySem.Spec PyProof.Rows
section
variable {X : Cx} {tg : Expr}

theorem range_it {pins : List (Addr × Obj)} {σ : St} {H : Hp} {s : Shared} {R : It → Hp → Prop} {E : Value → Shared → Prop} {lo hi : Int} {t u v : Tok} {tk : Nat} (I : Inv X pins σ H s) (h1 : -(2 ^ 62) ≤ lo) (h2 : lo < 2 ^ 62) (h3 : -(2 ^ 62) ≤ hi) (h4 : hi < 2 ^ 62)
    (q : R (Itr lo (hi - lo).toNat) H) : wpAny (model X.prog X.w) X.A (pyIter (.ref s.heap.objs.size)) (PIE X pins σ tg R) E { s with heap := s.heap.push { cls := .type "range", data := .fields #[.int lo t, .int hi u, .int 1 v] }, toks := tk } := by
  refine wpAny_pyIter_range (IsRange.new ..) (small_one h1 h2 h3 h4) ?_
  have I1 : Inv X pins σ H { s with heap := s.heap.push { cls := .type "range", data := .fields #[.int lo t, .int hi u, .int 1 v] }, toks := tk } := I.kept fun b o e => Heap.get?_push_of_some _ e
  refine ⟨(s.heap.push { cls := .type "range", data := .fields #[.int lo t, .int hi u, .int 1 v] }).objs.size, [(s.heap.push { cls := .type "range", data := .fields #[.int lo t, .int hi u, .int 1 v] }).objs.size], _, _, H, rfl,
    I1.kept (t' := tk) fun b o e => Heap.get?_push_of_some _ e, turn_range _ lo (hi - lo).toNat, ?_, fun b hb => ?_, q⟩
  · have e1 : lo + ((0 : Nat) : Int) * 1 = lo := by simp
    have e2 : (((hi - lo).toNat : Nat) : Int) - ((0 : Nat) : Int) = Builtin.Range.rangeSize lo hi 1 := by rw [rangeSize_one]; split <;> omega
    show IsRangeIter _ _ (lo + ((0 : Nat) : Int) * 1) ((((hi - lo).toNat : Nat) : Int) - ((0 : Nat) : Int)) 1
    rw [e1, e2]
    exact Heap.get?_push_size _ rfl
  · have e : b = (s.heap.push { cls := .type "range", data := .fields #[.int lo t, .int hi u, .int 1 v] }).objs.size := by simpa using hb
    subst e
    exact I1.fpOk (Nat.le_refl _) (I1.hok.fresh (Nat.le_refl _))


noncomputable def tFor (wi : TI) (g : TG) (tb : TS) : TS := fun D σ H => wi σ H fun J H1 => ∃ W : Nat → Nat → St → Hp → Prop, (∃ m, W 0 m σ H1) ∧ ∀ i m σ H, W i m σ H →
  (J.stop i H ∧ D.nx σ H) ∨ (J.go i H ∧ ∃ N : St → Hp → Prop, (∀ σ' H', N σ' H' → ∃ m', m' < m ∧ W (i + 1) m' σ' H') ∧ ∀ x H', J.yld i H x H' → g x σ H' fun σ2 H2 => tb { D with nx := N, ct := N, bk := D.nx } σ2 H2)

noncomputable def pinsAt (fp : List Addr) (h : Heap) : List (Addr × Obj) := fp.filterMap fun b => (h.get? b).map fun o => (b, o)
theorem mem_pinsAt {fp : List Addr} {h : Heap} {b : Addr} {o : Obj} (hb : b ∈ fp) (e : h.get? b = some o) : (b, o) ∈ pinsAt fp h := List.mem_filterMap.mpr ⟨b, hb, by rw [e]; rfl⟩
theorem of_pinsAt {fp : List Addr} {h : Heap} {p : Addr × Obj} (hp : p ∈ pinsAt fp h) : p.1 ∈ fp ∧ h.get? p.1 = some p.2 := by
  obtain ⟨b, hb, e⟩ := List.mem_filterMap.mp hp
  cases q : h.get? b with
  | none => rw [q] at e; cases e
  | some o =>
    rw [q] at e
    have e' : (b, o) = p := Option.some.inj e
    subst e'
    exact ⟨hb, q⟩
theorem Inv.pinned {pins : List (Addr × Obj)} {σ : St} {H : Hp} {s : Shared} {fp : List Addr} (I : Inv X pins σ H s) (hf : ∀ b ∈ fp, FpOk X pins H b) (ho : ∀ b ∈ fp, ∃ o, s.heap.get? b = some o ∧ ∀ v, o.data ≠ .cell v) : Inv X (pins ++ pinsAt fp s.heap) σ H s :=
  I.pins_of fun p hp => (List.mem_append.mp hp).elim (fun z => I.pin p (List.mem_append_right _ z)) fun z => by
    obtain ⟨hb, e⟩ := of_pinsAt z
    obtain ⟨f0, f1, f2, _⟩ := hf p.1 hb
    obtain ⟨o, e', d⟩ := ho p.1 hb
    rw [e] at e'; cases e'
    exact ⟨e, f0, f1, f2, d⟩
theorem Inv.unpinned {pins pl : List (Addr × Obj)} {σ : St} {H : Hp} {s : Shared} (I : Inv X (pins ++ pl) σ H s) : Inv X pins σ H s := I.pins_of fun p hp => I.pin p (List.mem_append_right _ (List.mem_append_left _ hp))
theorem ps_for {iter : Expr} {body : List Stmt} {wi : TI} {g : TG} {tb : TS} {pos : Pos} (hp : PassesOwn (model X.prog X.w) X.A X.env X.xe) (hc : X.calm = true) (hi : PI X tg iter wi) (hg : PG X tg g) (hb : PSs X body tb)
    (hs : ∀ x, foldedSetIterable iter X.env x = pure x := by intro _; rfl) : PS X (.For tg iter body [] pos) (tFor wi g tb) := by
  intro pins s σ H D I h
  refine wpAny_For (thn (hi pins s σ H _ I h) fun v s1 h1 => thn h1 fun itv s2 h2 => ?_) hs
  obtain ⟨it, fp, tn, J, H2, e, I2, T, st2, f2, W, ⟨m0, w0⟩, turn⟩ := h2
  subst e
  -- what stays true of the iterator's objects through the loop
  have stat : ∀ {H' : Hp}, (∀ b ∈ fp, H' b = none) → ∀ b ∈ fp, FpOk X pins H' b := fun hn b hb => ⟨hn b hb, (f2 b hb).2⟩
  refine codeAny_forLoop_any (fun n s' => ∃ i σ' H', Inv X pins σ' H' s' ∧ tn i s'.heap ∧ (∀ b ∈ fp, H' b = none) ∧ W i n σ' H') ?_ m0 ⟨0, σ, H2, I2, st2, fun b hb => (f2 b hb).1, w0⟩
  rintro n s3 ⟨i, σ3, H3, I3, st3, fr3, w3⟩
  rcases turn i n σ3 H3 w3 with ⟨stop, qn⟩ | ⟨go, N, hN, step⟩
  · refine wpAny_passesOwn hp (thn (T.done X rfl rfl rfl hc i pins s3 σ3 H3 X.xe I3 (stat fr3) st3 stop) fun r s4 ⟨hr, I4⟩ => ?_)
    subst hr
    exact wpAny_execs_nil ⟨σ3, H3, I4, qn⟩
  · refine wpAny_passesOwn hp (thn (T.item X rfl rfl rfl hc i pins s3 σ3 H3 X.xe I3 (stat fr3) st3 go) fun r s4 ⟨u, hr, h4⟩ => ?_)
    subst hr
    refine wpAny_passesOwn hp (thn h4 fun _ s5 ⟨x, H5, I5, r5, y5, st5, fr5⟩ => ?_)
    have I5' := I5.pinned (stat fr5) (T.obj _ _ st5)
    refine wpAny_passesOwn hp (thn (hg _ s5 σ3 H5 x u _ I5' r5 (step x H5 y5)) fun _ s6 ⟨σ6, H6, I6, q6⟩ => ?_)
    refine wpAny_passesOwn hp (thn (hb _ s6 σ6 H6 _ I6 q6) fun f s7 q7 => ?_)
    have again : ∀ {σ7 : St} {H7 : Hp}, Inv X (pins ++ pinsAt fp s5.heap) σ7 H7 s7 → N σ7 H7 → ∃ m, m < n ∧ ∃ i σ' H', Inv X pins σ' H' s7 ∧ tn i s7.heap ∧ (∀ b ∈ fp, H' b = none) ∧ W i m σ' H' := fun {σ7 H7} I7 n7 => by
      obtain ⟨m', hm, w7⟩ := hN σ7 H7 n7
      refine ⟨m', hm, i + 1, σ7, H7, I7.unpinned, T.keep _ _ _ st5 fun b hb o e => (I7.pin (b, o) (List.mem_append_right _ (List.mem_append_right _ (mem_pinsAt hb e)))).1, fun b hb => ?_, w7⟩
      obtain ⟨o, e, d⟩ := T.obj _ _ st5 b hb
      exact (I7.pin (b, o) (List.mem_append_right _ (List.mem_append_right _ (mem_pinsAt hb e)))).2.1
    cases f with
    | next => obtain ⟨σ7, H7, I7, n7⟩ := q7; exact again I7 n7
    | cont => obtain ⟨σ7, H7, I7, n7⟩ := q7; exact again I7 n7
    | brk => obtain ⟨σ7, H7, I7, q7⟩ := q7; exact ⟨σ7, H7, I7.unpinned, q7⟩
    | ret v => obtain ⟨x7, σ7, H7, I7, r7, q7⟩ := q7; exact ⟨x7, σ7, H7, I7.unpinned, r7, q7⟩
end


theorem for_range {lo : Int} {n : Nat} {g : TG} {tb : TS} {D : Ends} {σ : St} {H : Hp} (Pv : Nat → St → Hp → Prop) (h0 : Pv 0 σ H)
    (hs : ∀ i σ H, i < n → Pv i σ H → g (.int (lo + i)) σ H fun σ2 H2 => tb { D with nx := Pv (i + 1), ct := Pv (i + 1), bk := D.nx } σ2 H2) (hd : ∀ σ H, Pv n σ H → D.nx σ H) :
    ∃ W : Nat → Nat → St → Hp → Prop, (∃ m, W 0 m σ H) ∧ ∀ i m σ H, W i m σ H →
      ((Itr lo n).stop i H ∧ D.nx σ H) ∨ ((Itr lo n).go i H ∧ ∃ N : St → Hp → Prop, (∀ σ' H', N σ' H' → ∃ m', m' < m ∧ W (i + 1) m' σ' H') ∧ ∀ x H', (Itr lo n).yld i H x H' → g x σ H' fun σ2 H2 => tb { D with nx := N, ct := N, bk := D.nx } σ2 H2) := by
  refine ⟨fun i m σ H => m = n - i ∧ i ≤ n ∧ Pv i σ H, ⟨n, by simp, Nat.zero_le _, h0⟩, ?_⟩
  rintro i m σ H ⟨rfl, hi, p⟩
  by_cases hlt : i < n
  · refine .inr ⟨hlt, Pv (i + 1), fun σ' H' p' => ⟨n - (i + 1), by omega, rfl, hlt, p'⟩, fun x H' y => ?_⟩
    obtain ⟨e, y⟩ := y
    subst e y
    exact hs i σ _ hlt p
  · have e : i = n := by omega
    subst e
    exact .inl ⟨Nat.le_refl _, hd σ H p⟩
end L2

namespace L2
open PySem PySem.Spec PyProof.Rows

noncomputable abbrev R2 := V → V → Hp → VK → Prop

noncomputable def OpR (X : Cx) (f : Value → Value → Sem Value) (r : R2) : Prop :=
  ∀ (pins : List (Addr × Obj)) (s : Shared) (σ : St) (H : Hp) (x y : V) (v u : Value) (Q : VK), Inv X pins σ H s → RelV x v → RelV y u → r x y H Q →
    wpAny (model X.prog X.w) X.A (f v u) (EP X pins σ Q) X.xe s

noncomputable def UnR (X : Cx) (f : Value → Sem Value) (r : V → Hp → VK → Prop) : Prop :=
  ∀ (pins : List (Addr × Obj)) (s : Shared) (σ : St) (H : Hp) (x : V) (v : Value) (Q : VK), Inv X pins σ H s → RelV x v → r x H Q →
    wpAny (model X.prog X.w) X.A (f v) (EP X pins σ Q) X.xe s

noncomputable def CallR (X : Cx) (f : Value) (r : List V → Hp → VK → Prop) : Prop :=
  ∀ (pins : List (Addr × Obj)) (s : Shared) (σ : St) (H : Hp) (xs : List V) (us : List Value) (Q : VK), Inv X pins σ H s → Vals xs us → r xs H Q →
    wpAny (model X.prog X.w) X.A (call f us) (EP X pins σ Q) X.xe s

noncomputable def TruR (X : Cx) (r : V → Hp → (Bool → Hp → Prop) → Prop) : Prop :=
  ∀ (pins : List (Addr × Obj)) (s : Shared) (σ : St) (H : Hp) (x : V) (v : Value) (Q : Bool → Hp → Prop), Inv X pins σ H s → RelV x v → r x H Q →
    wpAny (model X.prog X.w) X.A (truthy v) (TP X pins σ Q) X.xe s

noncomputable def tOp (r : R2) (ta tb : TE) : TE := fun σ H Q => ta σ H fun x H1 => tb σ H1 fun y H2 => r x y H2 Q
noncomputable def tUn (r : V → Hp → VK → Prop) (ta : TE) : TE := fun σ H Q => ta σ H fun x H1 => r x H1 Q

noncomputable def rI (C : Int → Int → Prop) (g : Int → Int → V) : R2 := fun x y H Q => ∃ i j, x = .int i ∧ y = .int j ∧ C i j ∧ Q (g i j) H
noncomputable def rI0 (g : Int → Int → V) : R2 := fun x y H Q => ∃ i j, x = .int i ∧ y = .int j ∧ Q (g i j) H
noncomputable def rU (g : Int → V) : V → Hp → VK → Prop := fun x H Q => ∃ i, x = .int i ∧ Q (g i) H

section
variable {X : Cx} {a b c : Expr} {ta tb tc : TE} {pos : Pos}

theorem binT (ha : PE X a ta) (hb : PE X b tb) {pins : List (Addr × Obj)} {s : Shared} {σ : St} {H : Hp} {R : V → V → Hp → Prop} (I : Inv X pins σ H s)
    (h : ta σ H fun x H1 => tb σ H1 fun y H2 => R x y H2) {Q : Value → Shared → Prop} {f : Value → Value → Sem Value}
    (hf : ∀ v u s2 x y H2, Inv X pins σ H2 s2 → RelV x v → RelV y u → R x y H2 → wpAny (model X.prog X.w) X.A (f v u) Q X.xe s2) :
    wpAny (model X.prog X.w) X.A (eval a X.env) (fun v s₁ => wpAny (model X.prog X.w) X.A (eval b X.env) (fun u s₂ => wpAny (model X.prog X.w) X.A (f v u) Q X.xe s₂) X.xe s₁) X.xe s := by
  refine thn (ha pins s σ H _ I h) fun v s1 ⟨x, H1, I1, r1, q1⟩ => ?_
  refine thn (hb pins s1 σ H1 _ I1 q1) fun u s2 ⟨y, H2, I2, r2, q2⟩ => ?_
  exact hf v u s2 x y H2 I2 r1 r2 q2

theorem pe_op {op : Operator} {r : R2} (ho : OpR X (binaryOp op) r) (ha : PE X a ta) (hb : PE X b tb) : PE X (.BinOp a op b pos) (tOp r ta tb) := by
  intro pins s σ H Q I h
  exact wpAny_BinOp (binT ha hb I h fun v u s2 x y H2 I2 rx ry q => ho pins s2 σ H2 x y v u Q I2 rx ry q)
theorem pe_un {op : UnaryOp} {r : V → Hp → VK → Prop} (ho : UnR X (unaryOp op) r) (ha : PE X a ta) : PE X (.UnaryOp op a pos) (tUn r ta) := by
  intro pins s σ H Q I h
  exact UnaryOp_ (thn (ha pins s σ H _ I h) fun v s1 ⟨x, H1, I1, r1, q1⟩ => ho pins s1 σ H1 x v Q I1 r1 q1)

theorem opI {f : Value → Value → Sem Value} {C : Int → Int → Prop} {g : Int → Int → Int}
    (rule : ∀ (i j : Int) (t u : Tok) (s : Shared) (Q : Value → Shared → Prop) (E : Value → Shared → Prop), C i j → Q (.int (g i j) s.toks) { s with toks := s.toks + 1 } → wpAny (model X.prog X.w) X.A (f (.int i t) (.int j u)) Q E s) :
    OpR X f (rI C fun i j => .int (g i j)) := by
  intro pins s σ H x y v u Q I rx ry h
  obtain ⟨i, j, rfl, rfl, hc, q⟩ := h
  obtain ⟨t, rfl⟩ := rx
  obtain ⟨t', rfl⟩ := ry
  exact rule i j t t' s _ _ hc ⟨.int (g i j), H, I.tok _, ⟨_, rfl⟩, q⟩
theorem opI0 {f : Value → Value → Sem Value} {g : Int → Int → Int}
    (rule : ∀ (i j : Int) (t u : Tok) (s : Shared) (Q : Value → Shared → Prop) (E : Value → Shared → Prop), Q (.int (g i j) s.toks) { s with toks := s.toks + 1 } → wpAny (model X.prog X.w) X.A (f (.int i t) (.int j u)) Q E s) :
    OpR X f (rI0 fun i j => .int (g i j)) := by
  intro pins s σ H x y v u Q I rx ry h
  obtain ⟨i, j, rfl, rfl, q⟩ := h
  obtain ⟨t, rfl⟩ := rx
  obtain ⟨t', rfl⟩ := ry
  exact rule i j t t' s _ _ ⟨.int (g i j), H, I.tok _, ⟨_, rfl⟩, q⟩
theorem opB0 {f : Value → Value → Sem Value} {g : Int → Int → Bool}
    (rule : ∀ (i j : Int) (t u : Tok) (s : Shared) (Q : Value → Shared → Prop) (E : Value → Shared → Prop), Q (.bool (g i j)) s → wpAny (model X.prog X.w) X.A (f (.int i t) (.int j u)) Q E s) :
    OpR X f (rI0 fun i j => .bl (g i j)) := by
  intro pins s σ H x y v u Q I rx ry h
  obtain ⟨i, j, rfl, rfl, q⟩ := h
  obtain ⟨t, rfl⟩ := rx
  obtain ⟨t', rfl⟩ := ry
  exact rule i j t t' s _ _ ⟨.bl (g i j), H, I, rfl, q⟩

noncomputable def CDiv (i j : Int) : Prop := 0 < j ∧ j < 1073741824
noncomputable def CMul (i j : Int) : Prop := (-(2 ^ 64) < i ∧ i < 2 ^ 64) ∨ (-(2 ^ 64) < j ∧ j < 2 ^ 64)
theorem CMul.ok {i j : Int} (h : CMul i j) : IntMulOk i j := by
  rcases h with ⟨h1, h2⟩ | ⟨h1, h2⟩
  · exact .of_left (intBits_le_64 h1 h2)
  · exact .of_right (intBits_le_64 h1 h2)
theorem op_add : OpR X (binaryOp .Add) (rI0 fun i j => .int (i + j)) := opI0 fun _ _ _ _ _ _ _ q => add_int q
theorem op_sub : OpR X (binaryOp .Sub) (rI0 fun i j => .int (i - j)) := opI0 fun _ _ _ _ _ _ _ q => sub_int q

theorem op_mod : OpR X (binaryOp .Mod) (rI (fun _ j => 0 < j) fun i j => .int (i % j)) := opI fun i j _ _ _ _ _ hc q => by
  have h1 : (0 : Int) < j := hc
  exact mod_int' (by omega) (by rw [Int.fmod_eq_emod_of_nonneg i (by omega)]; exact q)
theorem unI {f : Value → Sem Value} {g : Int → Int}
    (rule : ∀ (i : Int) (t : Tok) (s : Shared) (Q : Value → Shared → Prop) (E : Value → Shared → Prop), Q (.int (g i) s.toks) { s with toks := s.toks + 1 } → wpAny (model X.prog X.w) X.A (f (.int i t)) Q E s) :
    UnR X f (rU fun i => .int (g i)) := by
  intro pins s σ H x v Q I rx h
  obtain ⟨i, rfl, q⟩ := h
  obtain ⟨t, rfl⟩ := rx
  exact rule i t s _ _ ⟨.int (g i), H, I.tok _, ⟨_, rfl⟩, q⟩
theorem un_neg : UnR X (unaryOp .USub) (rU fun i => .int (-i)) := unI fun _ _ _ _ _ q => neg_int q

theorem op_add_ib : OpR X (binaryOp .Add) (fun x y H Q => ∃ i k, x = .int i ∧ y = .bl k ∧ Q (.int (i + b2i k)) H) := by
  intro pins s σ H x y v u Q I rx ry h
  obtain ⟨i, k, rfl, rfl, q⟩ := h
  obtain ⟨t, rfl⟩ := rx
  cases ry
  exact add_int_bool ⟨.int (i + b2i k), H, I.tok _, ⟨_, rfl⟩, q⟩
end



noncomputable def scal : V → V → Bool
  | .non, .non => true | .non, .int _ => true | .int _, .non => true | .non, .bl _ => true | .bl _, .non => true | .non, .str _ => true | .str _, .non => true
  | .int _, .int _ => true | .bl _, .bl _ => true | .str _, .str _ => true | .byt _, .byt _ => true
  | .int _, .str _ => true | .str _, .int _ => true | .bl _, .str _ => true | .str _, .bl _ => true
  | _, _ => false
noncomputable def rEq : R2 := fun x y H Q => scal x y = true ∧ Q (.bl (decide (x = y))) H
noncomputable def rNe : R2 := fun x y H Q => scal x y = true ∧ Q (.bl (!decide (x = y))) H

theorem dec_int {i j : Int} : decide (V.int i = V.int j) = (i == j) := by
  rw [Bool.eq_iff_iff]
  simp
theorem dec_bl {i j : Bool} : decide (V.bl i = V.bl j) = (i == j) := by
  rw [Bool.eq_iff_iff]
  simp
theorem dec_str {i j : Str} : decide (V.str i = V.str j) = (i == j) := by
  rw [Bool.eq_iff_iff]
  simp
theorem dec_byt {i j : Array UInt8} : decide (V.byt i = V.byt j) = (i.toList == j.toList) := by
  rw [Bool.eq_iff_iff]
  cases i
  cases j
  simp

section
variable {X : Cx} {a b c : Expr} {ta tb tc : TE} {pos : Pos}
theorem fin_bl {pins : List (Addr × Obj)} {σ : St} {H : Hp} {s : Shared} {Q : VK} {k k' : Bool} (I : Inv X pins σ H s) (q : Q (.bl k) H) (e : k = k') : EP X pins σ Q (.bool k') s := by
  subst e
  exact ⟨.bl k, H, I, rfl, q⟩
theorem op_eq : OpR X (compareOp .Eq) rEq := by
  intro pins s σ H x y v u Q I rx ry h
  obtain ⟨hs, q⟩ := h
  cases x with
  | non =>
    cases rx
    cases y with
    | non => cases ry; exact PySem.EqNone.eq_none_none (fin_bl I q (by simp))
    | bl j => cases ry; exact PySem.EqNone.eq_none_bool (fin_bl I q (by simp))
    | int j => obtain ⟨t', rfl⟩ := ry; exact PySem.EqNone.eq_none_int (fin_bl I q (by simp))
    | str j => obtain ⟨t', rfl⟩ := ry; exact PySem.EqNone.eq_none_str (fin_bl I q (by simp))
    | _ => exact absurd (show false = true from hs) Bool.false_ne_true
  | bl i =>
    cases rx
    cases y with
    | non => cases ry; exact PySem.EqNone.eq_bool_none (fin_bl I q (by simp))
    | bl j => cases ry; exact eq_bool (fin_bl I q dec_bl)
    | str j => obtain ⟨t', rfl⟩ := ry; exact PySem.EqMixed.eq_bool_str (fin_bl I q (by simp))
    | _ => exact absurd (show false = true from hs) Bool.false_ne_true
  | int i =>
    obtain ⟨t, rfl⟩ := rx
    cases y with
    | non => cases ry; exact PySem.EqNone.eq_int_none (fin_bl I q (by simp))
    | int j => obtain ⟨t', rfl⟩ := ry; exact eq_int (fin_bl I q dec_int)
    | str j => obtain ⟨t', rfl⟩ := ry; exact PySem.EqMixed.eq_int_str (fin_bl I q (by simp))
    | _ => exact absurd (show false = true from hs) Bool.false_ne_true
  | str i =>
    obtain ⟨t, rfl⟩ := rx
    cases y with
    | non => cases ry; exact PySem.EqNone.eq_str_none (fin_bl I q (by simp))
    | bl j => cases ry; exact PySem.EqMixed.eq_str_bool (fin_bl I q (by simp))
    | int j => obtain ⟨t', rfl⟩ := ry; exact PySem.EqMixed.eq_str_int (fin_bl I q (by simp))
    | str j => obtain ⟨t', rfl⟩ := ry; exact eq_str (fin_bl I q dec_str)
    | _ => exact absurd (show false = true from hs) Bool.false_ne_true
  | byt i =>
    obtain ⟨t, rfl⟩ := rx
    cases y with
    | byt j => obtain ⟨t', rfl⟩ := ry; exact PySem.W.eq_bytes (fin_bl I q dec_byt)
    | _ => exact absurd (show false = true from hs) Bool.false_ne_true
  | _ => cases y <;> exact absurd (show false = true from hs) Bool.false_ne_true
theorem op_ne : OpR X (compareOp .NotEq) rNe := by
  intro pins s σ H x y v u Q I rx ry h
  obtain ⟨hs, q⟩ := h
  cases x with
  | non =>
    cases rx
    cases y with
    | non => cases ry; exact PySem.EqNone.ne_none_none (fin_bl I q (by simp))
    | bl j => cases ry; exact PySem.EqNone.ne_none_bool (fin_bl I q (by simp))
    | int j => obtain ⟨t', rfl⟩ := ry; exact PySem.EqNone.ne_none_int (fin_bl I q (by simp))
    | str j => obtain ⟨t', rfl⟩ := ry; exact PySem.EqNone.ne_none_str (fin_bl I q (by simp))
    | _ => exact absurd (show false = true from hs) Bool.false_ne_true
  | bl i =>
    cases rx
    cases y with
    | non => cases ry; exact PySem.EqNone.ne_bool_none (fin_bl I q (by simp))
    | bl j => cases ry; exact ne_bool (fin_bl I q (congrArg not dec_bl))
    | str j => obtain ⟨t', rfl⟩ := ry; exact PySem.EqMixed.ne_bool_str (fin_bl I q (by simp))
    | _ => exact absurd (show false = true from hs) Bool.false_ne_true
  | int i =>
    obtain ⟨t, rfl⟩ := rx
    cases y with
    | non => cases ry; exact PySem.EqNone.ne_int_none (fin_bl I q (by simp))
    | int j => obtain ⟨t', rfl⟩ := ry; exact ne_int (fin_bl I q (congrArg not dec_int))
    | str j => obtain ⟨t', rfl⟩ := ry; exact PySem.EqMixed.ne_int_str (fin_bl I q (by simp))
    | _ => exact absurd (show false = true from hs) Bool.false_ne_true
  | str i =>
    obtain ⟨t, rfl⟩ := rx
    cases y with
    | non => cases ry; exact PySem.EqNone.ne_str_none (fin_bl I q (by simp))
    | bl j => cases ry; exact PySem.EqMixed.ne_str_bool (fin_bl I q (by simp))
    | int j => obtain ⟨t', rfl⟩ := ry; exact PySem.EqMixed.ne_str_int (fin_bl I q (by simp))
    | str j => obtain ⟨t', rfl⟩ := ry; exact ne_str (fin_bl I q (congrArg not dec_str))
    | _ => exact absurd (show false = true from hs) Bool.false_ne_true
  | byt i =>
    obtain ⟨t, rfl⟩ := rx
    cases y with
    | byt j => obtain ⟨t', rfl⟩ := ry; exact PySem.W.ne_bytes (fin_bl I q (congrArg not dec_byt))
    | _ => exact absurd (show false = true from hs) Bool.false_ne_true
  | _ => cases y <;> exact absurd (show false = true from hs) Bool.false_ne_true

theorem op_lt : OpR X (compareOp .Lt) (rI0 fun i j => .bl (decide (i < j))) := opB0 fun _ _ _ _ _ _ _ q => lt_int q
theorem op_le : OpR X (compareOp .LtE) (rI0 fun i j => .bl (decide (i ≤ j))) := opB0 fun _ _ _ _ _ _ _ q => le_int q
theorem op_gt : OpR X (compareOp .Gt) (rI0 fun i j => .bl (decide (j < i))) := opB0 fun _ _ _ _ _ _ _ q => gt_int q
theorem op_ge : OpR X (compareOp .GtE) (rI0 fun i j => .bl (decide (j ≤ i))) := opB0 fun _ _ _ _ _ _ _ q => ge_int q

theorem op_in_str : OpR X (compareOp .In) (fun x y H Q => ∃ i j, x = .str i ∧ y = .str j ∧ Q (.bl (!(Builtin.Str.occurrences j i 0 j.length 1).isEmpty)) H) := by
  intro pins s σ H x y v u Q I rx ry h
  obtain ⟨i, j, rfl, rfl, q⟩ := h
  obtain ⟨t, rfl⟩ := rx
  obtain ⟨t', rfl⟩ := ry
  exact in_str (fin_bl I q rfl)


theorem op_isN : OpR X (compareOp .Is) (fun x y H Q => y = .non ∧ Q (.bl (decide (x = .non))) H) := by
  intro pins s σ H x y v u Q I rx ry h
  obtain ⟨rfl, q⟩ := h
  cases ry
  refine is_none_gen (fin_bl I q ?_)
  cases x <;> first
    | (cases rx; rfl)
    | (obtain ⟨t, rfl⟩ := rx; rfl)
theorem op_notN : OpR X (compareOp .IsNot) (fun x y H Q => y = .non ∧ Q (.bl (!decide (x = .non))) H) := by
  intro pins s σ H x y v u Q I rx ry h
  obtain ⟨rfl, q⟩ := h
  cases ry
  refine isnot_none_gen (fin_bl I q ?_)
  cases x <;> first
    | (cases rx; rfl)
    | (obtain ⟨t, rfl⟩ := rx; rfl)


theorem OpR.or {f : Value → Value → Sem Value} {r r' : R2} (h : OpR X f r) (h' : OpR X f r') : OpR X f (fun x y H Q => r x y H Q ∨ r' x y H Q) := by
  intro pins s σ H x y v u Q I rx ry q
  rcases q with q | q
  · exact h pins s σ H x y v u Q I rx ry q
  · exact h' pins s σ H x y v u Q I rx ry q

theorem nomark (b : Expr) {op : CmpOp} (h : op ≠ .In := by decide) (h2 : op ≠ .NotIn := by decide) : behindInMarks op b = false := by
  have e1 : (op == CmpOp.In) = false := by cases op <;> first | rfl | exact absurd rfl h
  have e2 : (op == CmpOp.NotIn) = false := by cases op <;> first | rfl | exact absurd rfl h2
  cases b <;> simp [behindInMarks, e1, e2]

theorem pe_cmpR {op : CmpOp} {r : R2} (ho : OpR X (compareOp op) r) (ha : PE X a ta) (hb : PE X b tb) (hm : behindInMarks op b = false) : PE X (.Compare a [op] [b] pos) (tOp r ta tb) := by
  intro pins s σ H Q I h
  exact wpAny_Compare1 (binT ha hb I h fun v u s2 x y H2 I2 rx ry q => ho pins s2 σ H2 x y v u Q I2 rx ry q) hm


noncomputable def TruV (K : PySem.W.Frag) (x : V) (H : Hp) (k : Bool) : Prop :=
  match x with
  | .non => k = false
  | .bl b => k = b
  | .int i => k = (i != 0)
  | .str y => y.length ≤ sizeLine ∧ k = ((y.length : Int) != 0)
  | .byt y => y.size ≤ sizeLine ∧ k = ((y.size : Int) != 0)
  | .ref p => (∃ xs, SqL K H p xs ∧ k = !xs.isEmpty) ∨ (∃ xs, SqT K H p xs ∧ k = !xs.isEmpty) ∨ ∃ kvs, H p = some (.dK kvs) ∧ k = !kvs.isEmpty
  | _ => False
theorem isEmpty_kv {κ : Type} {kvs : List (κ × V)} {vs : List (κ × Value)} (r : KV kvs vs) : (!vs.isEmpty) = !kvs.isEmpty := by
  cases r <;> rfl
theorem isEmpty_of {xs : List V} {its : List Value} (r : Vals xs its) : (!its.toArray.isEmpty) = !xs.isEmpty := by
  cases r <;> simp
theorem line63 : (sizeLine : Nat) < 2 ^ 63 := by rw [sizeLine_eq]; decide
theorem tru_ok : TruR X (fun x H Q => ∃ k, TruV X.K x H k ∧ Q k H) := by
  intro pins s σ H x v Q I rx h
  obtain ⟨k, e, q⟩ := h
  have hl := line63
  have hs : sizeLine = 16777216 := sizeLine_eq
  cases x with
  | non =>
    cases rx
    have e' : k = false := e
    subst e'
    exact truthy_none ⟨H, I, q⟩
  | bl b =>
    cases rx
    have e' : k = b := e
    subst e'
    exact wpAny_truthy_bool ⟨H, I, q⟩
  | int i =>
    obtain ⟨t, rfl⟩ := rx
    have e' : k = (i != 0) := e
    subst e'
    exact PySem.P.truthy_int ⟨H, I, q⟩
  | str y =>
    obtain ⟨t, rfl⟩ := rx
    obtain ⟨hy, e'⟩ : y.length ≤ sizeLine ∧ k = ((y.length : Int) != 0) := e
    subst e'
    exact PySem.P.truthy_str (by omega) ⟨H, I.tok _, q⟩
  | byt y =>
    obtain ⟨t, rfl⟩ := rx
    obtain ⟨hy, e'⟩ : y.size ≤ sizeLine ∧ k = ((y.size : Int) != 0) := e
    subst e'
    exact PySem.W.truthy_bytes (by omega) ⟨H, I.tok _, q⟩
  | ref p =>
    cases rx
    have e' : (∃ xs, SqL X.K H p xs ∧ k = !xs.isEmpty) ∨ (∃ xs, SqT X.K H p xs ∧ k = !xs.isEmpty) ∨ ∃ kvs, H p = some (.dK kvs) ∧ k = !kvs.isEmpty := e
    rcases e' with ⟨xs, hx, e'⟩ | ⟨xs, hx, e'⟩ | ⟨kvs, hx, e'⟩
    · subst e'
      obtain ⟨its, r, pl, hz⟩ := I.list hx
      have hlen := r.length
      exact wpAny_truthy_list pl.isList (by simp only [List.size_toArray]; omega) ⟨H, I.tok _, by rw [isEmpty_of r]; exact q⟩
    · subst e'
      obtain ⟨its, r, pl, hz⟩ := I.tuple hx
      have hlen := r.length
      exact truthy_tuple pl (by simp only [List.size_toArray]; omega) ⟨H, I.tok _, by rw [isEmpty_of r]; exact q⟩
    · subst e'
      obtain ⟨hz, hS, vs, r, m⟩ : kvs.length ≤ sizeLine ∧ (p == sysModules) = false ∧ ∃ vs, KV kvs vs ∧ s.heap.DictOf (mixKind X.prog X.w) p vs := I.hok p _ hx
      have hlen : kvs.length = vs.length := Paired.length r
      exact wpAny_truthy_dict hS m (by omega) ⟨H, I.tok _, by rw [isEmpty_kv r]; exact q⟩
  | _ => exact (show False from e).elim

theorem op_add_str : OpR X (binaryOp .Add) (fun x y H Q => ∃ i j, x = .str i ∧ y = .str j ∧ i.length + j.length ≤ sizeLine ∧ Q (.str (i ++ j)) H) := by
  intro pins s σ H x y v u Q I rx ry h
  obtain ⟨i, j, rfl, rfl, hz, q⟩ := h
  obtain ⟨t, rfl⟩ := rx
  obtain ⟨t', rfl⟩ := ry
  exact add_str (fun t' tk => ⟨.str (i ++ j), H, I.tok _, ⟨_, rfl⟩, q⟩) hz

theorem vals1 {x : V} {us : List Value} (r : Vals [x] us) : ∃ u, us = [u] ∧ RelV x u := by
  cases r with
  | cons r1 r2 => cases r2; exact ⟨_, rfl, r1⟩
theorem vals2 {x y : V} {us : List Value} (r : Vals [x, y] us) : ∃ u w', us = [u, w'] ∧ RelV x u ∧ RelV y w' := by
  cases r with
  | cons r1 r2 =>
    cases r2 with
    | cons r3 r4 => cases r4; exact ⟨_, _, rfl, r1, r3⟩
theorem call_min2 (hc : X.calm = true) : CallR X (.builtin "min") (fun xs H Q => ∃ i j, xs = [.int i, .int j] ∧ Q (.int (if j < i then j else i)) H) := by
  intro pins s σ H xs us Q I r h
  obtain ⟨i, j, rfl, q⟩ := h
  obtain ⟨u, w', rfl, ⟨t, rfl⟩, ⟨t', rfl⟩⟩ := vals2 r
  refine min_two_ints (I.ok.hd hc) fun h' tk k => ⟨_, H, I.kept k, ?_, q⟩
  by_cases hj : j < i
  · rw [if_pos hj, if_pos hj]; exact ⟨_, rfl⟩
  · rw [if_neg hj, if_neg hj]; exact ⟨_, rfl⟩

noncomputable def LenV (K : PySem.W.Frag) (x : V) (H : Hp) (n : Nat) : Prop :=
  match x with
  | .str y => y.length ≤ sizeLine ∧ n = y.length
  | .byt y => y.size ≤ sizeLine ∧ n = y.size
  | .ref p => (∃ xs, SqL K H p xs ∧ n = xs.length) ∨ ∃ xs, SqT K H p xs ∧ n = xs.length
  | _ => False
theorem call_len : CallR X (.builtin "len") (fun xs H Q => ∃ x n, xs = [x] ∧ LenV X.K x H n ∧ Q (.int n) H) := by
  intro pins s σ H xs us Q I r h
  obtain ⟨x, n, rfl, e, q⟩ := h
  obtain ⟨u, rfl, rx⟩ := vals1 r
  have hl := line63
  have hs : sizeLine = 16777216 := sizeLine_eq
  cases x with
  | str y =>
    obtain ⟨t, rfl⟩ := rx
    obtain ⟨hy, e'⟩ : y.length ≤ sizeLine ∧ n = y.length := e
    subst e'
    exact len_str (by omega) ⟨.int _, H, I.tok _, ⟨_, rfl⟩, q⟩
  | byt y =>
    obtain ⟨t, rfl⟩ := rx
    obtain ⟨hy, e'⟩ : y.size ≤ sizeLine ∧ n = y.size := e
    subst e'
    exact PySem.W.len_bytes (by omega) ⟨.int _, H, I.tok _, ⟨_, rfl⟩, q⟩
  | ref p =>
    cases rx
    have e' : (∃ xs, SqL X.K H p xs ∧ n = xs.length) ∨ ∃ xs, SqT X.K H p xs ∧ n = xs.length := e
    rcases e' with ⟨xs, hx, e'⟩ | ⟨xs, hx, e'⟩
    · subst e'
      obtain ⟨its, r', pl, hz⟩ := I.list hx
      have hlen := r'.length
      exact Calls.call_len_list pl.isList (by simp only [List.size_toArray]; omega) ⟨.int xs.length, H, I.tok _, ⟨_, by simp only [List.size_toArray]; rw [hlen]⟩, q⟩
    · subst e'
      obtain ⟨its, r', pl, hz⟩ := I.tuple hx
      have hlen := r'.length
      exact len_tuple pl (by simp only [List.size_toArray]; omega) ⟨.int xs.length, H, I.tok _, ⟨_, by simp only [List.size_toArray]; rw [hlen]⟩, q⟩
  | _ => exact (show False from e).elim
end
end L2

namespace L2
open PySem PySem.Spec PyProof.Rows


structure ObjM (h : Heap) (x dx C : Addr) (mA : Str → Option Value) : Prop where
  obj : h.get? x = some (PySem.W.instObj C dx)
  ns : h.Ns1 dx mA
  ne : dx ≠ x

theorem lookIn_ns {h : Heap} {dx : Addr} {mA : Str → Option Value} (n : h.Ns1 dx mA) : ∃ od, h.get? dx = some od ∧ ∀ name, PySem.W.lookIn name od = some (mA name) := by
  obtain ⟨o, es, ep, ho, hd, hk, _, hm⟩ := n
  refine ⟨o, ho, fun name => ?_⟩
  have e := hm name
  unfold nsFind findBy at e
  rw [← Array.find?_toList] at e
  unfold PySem.W.lookIn
  rw [hd]
  dsimp only
  split
  · rename_i y q
    rw [q] at e
    exact congrArg some e
  · rename_i q
    rw [q] at e
    have a : es.toList.any (·.refKey) = false := by
      rw [List.any_eq_false]
      intro y hy
      obtain ⟨z, t, hkey⟩ := hk y (Array.mem_toList_iff.mp hy)
      simp [DictEntry.refKey, hkey]
    have a' : ¬ es.toList.any (·.refKey) = true := by rw [a]; exact Bool.false_ne_true
    rw [if_neg a']
    exact congrArg some e

theorem ObjM.look {h : Heap} {x dx C : Addr} {mA : Str → Option Value} (I : ObjM h x dx C mA) : ∃ od, PySem.W.InstAt h x (PySem.W.instObj C dx) C (some od) ∧ ∀ name, PySem.W.lookIn name od = some (mA name) :=
  let ⟨od, ho, hl⟩ := lookIn_ns I.ns
  ⟨od, ⟨I.obj, rfl, rfl, ho⟩, hl⟩

section
variable {prog : Program} {w : World} {A : Around} {E : Value → Shared → Prop} {s : Shared} {K : PySem.W.Frag} {x dx C f : Addr} {mA : Str → Option Value} {name : Str} {v : Value}

end


theorem RelO.some_of {v : V} {o : Option Value} (r : RelO (some v) o) : ∃ u, o = some u ∧ RelV v u := by
  cases o with
  | none => exact (show False from r).elim
  | some u => exact ⟨u, rfl, r⟩
section
variable {P : Program} {w : World} {H H' : Hp} {h h' : Heap} {a C dx : Addr} {fs fs' : List (Str × V)}
theorem ins_get (hok : HOk P w H h) (e : H a = some (.ins C dx fs)) : ∃ mA, ObjM h a dx C mA ∧ (∀ f, RelO (fs.lookup f) (mA f)) ∧ PySem.Within mA (fs.map (·.1)) ∧ fs.length ≤ 1000 ∧ H dx = some (.own a) := by
  obtain ⟨d, z, ne, ob, mA, n, r, q⟩ := (show ObjOk P w H h a (.ins C dx fs) from hok a _ e)
  exact ⟨mA, ⟨ob, n, ne⟩, r, q, z, d⟩
end


structure Cls (K : PySem.W.Frag) (C : Addr) : Prop where
  pg : PySem.W.plainGet K C Str.empty = true
  hd : PySem.W.hasDictIn K C = true
  po : PySem.W.plainOver K C = true
  sa : PySem.W.findIn K (.ref C) "__setattr__" = some (some (.builtin "object.__setattr__"))
theorem Cls.get {K : PySem.W.Frag} {C : Addr} (c : Cls K C) (f : Str) : PySem.W.plainGet K C f = true := c.pg

structure Con (K : PySem.W.Frag) (C : Addr) (f : Str) (v : V) (u : Value) : Prop where
  at_ : PySem.W.findIn K (.ref C) f = some (some u)
  rel : RelV v u
  get : PySem.W.specialIn K u "__get__" = some none
  cp : PySem.W.copiedNames.contains f = false

structure Meth (K : PySem.W.Frag) (C : Addr) (m : Str) (f : Addr) : Prop where
  at_ : PySem.W.findIn K (.ref C) m = some (some (.ref f))
  fn : PySem.W.isFn K (.ref f) = true
  kp : PySem.W.keepIn K (.ref f) = true

section
variable {X : Cx} {pins : List (Addr × Obj)} {σ : St} {H : Hp} {s : Shared} {a C dx : Addr} {fs : List (Str × V)} {f : Str} {v : V} {A : Around} {E : Value → Shared → Prop}


theorem Inv.made (I : Inv X pins σ H s) : Inv X pins σ (upd (upd H s.heap.objs.size (.own (s.heap.objs.size + 1))) (s.heap.objs.size + 1) (.ins C s.heap.objs.size []))
    { s with heap := (s.heap.push PySem.W.emptyDict).push (PySem.W.instObj C s.heap.objs.size) } := by
  have e1 : (s.heap.push PySem.W.emptyDict).get? s.heap.objs.size = some PySem.W.emptyDict := Heap.get?_push_size s.heap rfl
  have e2 : ((s.heap.push PySem.W.emptyDict).push (PySem.W.instObj C s.heap.objs.size)).get? (s.heap.objs.size + 1) = some (PySem.W.instObj C s.heap.objs.size) := by
    have := Heap.get?_push_size (s.heap.push PySem.W.emptyDict) (o := PySem.W.instObj C s.heap.objs.size) rfl
    rwa [Heap.size_push] at this
  have e3 : (s.heap.push PySem.W.emptyDict).Ns s.heap.objs.size (fun _ => none) := ⟨PySem.W.emptyDict, #[], _, e1, rfl, (fun e he => absurd he (by simp)), fun _ => rfl⟩
  have I1 := I.laid (a := s.heap.objs.size) (o := .own (s.heap.objs.size + 1)) (h' := s.heap.push PySem.W.emptyDict) (t' := s.toks) (fun b u q => Heap.get?_push_of_some _ q) (Nat.le_refl _) ⟨_, e1⟩
  refine I1.laid (a := s.heap.objs.size + 1) (o := .ins C s.heap.objs.size []) (t' := s.toks) (fun b u q => Heap.get?_push_of_some _ q) (Nat.le_of_eq (Heap.size_push _ _)) ?_
  have ne : s.heap.objs.size ≠ s.heap.objs.size + 1 := Nat.ne_of_lt (Nat.lt_succ_self _)
  refine ⟨by rw [upd_ne ne, upd_same], Nat.zero_le _, ne, e2, fun _ => none, (Heap.Ns1.of_empty e3).at fun o q => Heap.get?_push_of_some _ q, fun _ => True.intro, fun y hy => absurd rfl hy⟩

end


section
variable {X : Cx} {o e value : Expr} {f : Str} {pos pos' tpos : Pos} {ta tv : TE}
end


section
variable {X : Cx} {pins : List (Addr × Obj)} {σ : St} {H : Hp} {s : Shared} {A : Around} {E : Value → Shared → Prop} {Q : Value → Shared → Prop} {c : Value} {b : Bool}

inductive TyOf (K : PySem.W.Frag) (H : Hp) : V → Value → Prop where
  | non : TyOf K H .non (.type "NoneType")
  | bl (x : Bool) : TyOf K H (.bl x) (.type "bool")
  | int (i : Int) : TyOf K H (.int i) (.type "int")
  | str (x : Str) : TyOf K H (.str x) (.type "str")
  | flt (x : UInt64) : TyOf K H (.flt x) (.type "float")
  | lst {a : Addr} {xs : List V} (e : H a = some (.lst xs)) : TyOf K H (.ref a) (.type "list")
  | frz {a : Addr} {o : Obj} {xs : List V} (e : H a = some (.frz o (.lst xs))) : TyOf K H (.ref a) (.type "list")
  | tup {a : Addr} {xs : List V} (e : H a = some (.tup xs)) : TyOf K H (.ref a) (.type "tuple")
  | dK {a : Addr} {kvs : List (Key × V)} (e : H a = some (.dK kvs)) : TyOf K H (.ref a) (.type "dict")
  | dT {a : Addr} {kvs : List (List Key × V)} (e : H a = some (.dT kvs)) : TyOf K H (.ref a) (.type "dict")
  | ins {a C dx : Addr} {fs : List (Str × V)} (e : H a = some (.ins C dx fs)) (cl : Cls K C) (ha : PySem.W.findIn K (.ref C) "__class__" = some (some (.builtin "object.__class__")))
      (hn : PySem.W.specialIn K (.builtin "object.__class__") "__get__" = some (some (.builtin "getset_descriptor.__get__"))) (htk : PySem.W.takesIn K (.builtin "object.__class__") = some true)
      (hm : PySem.W.mroIn K C (.type "object") = some true) : TyOf K H (.ref a) (.ref C)

theorem isinst_ok {x : V} {u t : Value} (I : Inv X pins σ H s) (rx : RelV x u) (ty : TyOf X.K H x t) (e : PySem.W.kitOne X.K t c = some b) (h : ∀ tk, Q (.bool b) { s with toks := tk }) :
    wpAny (model X.prog X.w) A (call (.builtin "isinstance") [u, c]) Q E s := by
  cases ty with
  | non => cases (show u = Value.none from rx); exact PySem.W.kia_one PySem.W.kitx_none I.kIn True.intro e (fun z => nomatch z) h
  | bl y => cases (show u = Value.bool y from rx); exact PySem.W.kia_one PySem.W.kitx_bool I.kIn True.intro e (fun z => nomatch z) h
  | int i => obtain ⟨t, q⟩ := (show ∃ t, u = Value.int i t from rx); cases q; exact PySem.W.kia_one PySem.W.kitx_int I.kIn True.intro e (fun z => nomatch z) h
  | str y => obtain ⟨t, q⟩ := (show ∃ t, u = Value.str y t from rx); cases q; exact PySem.W.kia_one PySem.W.kitx_str I.kIn True.intro e (fun z => nomatch z) h
  | flt y => obtain ⟨t, q⟩ := (show ∃ t, u = Value.float y t from rx); cases q; exact PySem.W.kia_one PySem.W.kitx_float I.kIn True.intro e (fun z => nomatch z) h
  | @lst a xs ea =>
    cases (show u = Value.ref a from rx)
    obtain ⟨_, _, n, _, h1⟩ := (show ObjOk X.prog X.w H s.heap a (.lst xs) from I.hok a _ ea)
    exact PySem.W.kia_one PySem.W.kitx_list I.kIn ⟨_, h1, rfl⟩ e (fun z => nomatch z) h
  | @frz a ob xs ea =>
    cases (show u = Value.ref a from rx)
    obtain ⟨_, _, _, n, _, h1⟩ := (show ObjOk X.prog X.w H s.heap a (.frz ob (.lst xs)) from I.hok a _ ea)
    exact PySem.W.kia_one PySem.W.kitx_list I.kIn ⟨_, h1, rfl⟩ e (fun z => nomatch z) h
  | @tup a xs ea =>
    cases (show u = Value.ref a from rx)
    obtain ⟨_, _, _, p⟩ := (show ObjOk X.prog X.w H s.heap a (.tup xs) from I.hok a _ ea)
    obtain ⟨o, h1, h2, _⟩ := p
    exact PySem.W.kia_one PySem.W.kitx_tuple I.kIn ⟨o, h1, h2⟩ e (fun z => nomatch z) h
  | @dK a kvs ea =>
    cases (show u = Value.ref a from rx)
    obtain ⟨_, _, vs, _, p⟩ := (show ObjOk X.prog X.w H s.heap a (.dK kvs) from I.hok a _ ea)
    obtain ⟨o, es, ep, h1, h2, _⟩ := p
    exact PySem.W.kia_one PySem.W.kitx_dict I.kIn ⟨o, h1, h2.1⟩ e (fun z => nomatch z) h
  | @dT a kvs ea =>
    cases (show u = Value.ref a from rx)
    obtain ⟨_, _, xs, _, o, es, ep, h1, h2, _⟩ := (show ObjOk X.prog X.w H s.heap a (.dT kvs) from I.hok a _ ea)
    exact PySem.W.kia_one PySem.W.kitx_dict I.kIn ⟨o, h1, h2.1⟩ e (fun z => nomatch z) h
  | @ins a C dx fs ea cl ha hn htk hm =>
    cases (show u = Value.ref a from rx)
    obtain ⟨mA, O, _⟩ := ins_get I.hok ea
    obtain ⟨od, J, _⟩ := O.look
    exact PySem.W.kia_one (PySem.W.kitx_own (cl.get _) cl.hd ha hn htk hm) I.kIn J e (fun z => nomatch z) h
end
end L2

namespace L2
open PySem PySem.Spec PyProof.Rows


structure Room (k : Nat) (A : Around) : Prop where
  hd : A.handled = none
  dp : A.depth + 3 * k + 5 < recursionLimit
  un : A.units + 16 * k + 200 < cLine
theorem Room.mono {j k : Nat} {A : Around} (r : Room k A) (h : j ≤ k) : Room j A := ⟨r.hd, by have := r.dp; omega, by have := r.un; omega⟩
theorem Room.deeper {k : Nat} {A : Around} (r : Room (k + 1) A) (env : Env) : Room k (A.deeper env) :=
  ⟨r.hd, by have := r.dp; show A.depth + 1 + 3 * k + 5 < _; omega, by have := r.un; show A.units + 3 + 16 * k + 200 < _; omega⟩
theorem Room.in1 {k : Nat} {A : Around} (r : Room (k + 1) A) : Room k A.in1 :=
  ⟨r.hd, by have := r.dp; show A.depth + 3 * k + 5 < _; omega, by have := r.un; show A.units + 1 + 16 * k + 200 < _; omega⟩
theorem Room.depth {k : Nat} {A : Around} (r : Room k A) : A.depth < recursionLimit := by have := r.dp; omega
theorem Room.units {k : Nat} {A : Around} (r : Room k A) : A.units + 64 < cLine := by have := r.un; omega

noncomputable def tNil : TA := fun _ H Q => Q [] H
noncomputable def tCons (ta : TE) (tr : TA) : TA := fun σ H Q => ta σ H fun x H1 => tr σ H1 fun xs H2 => Q (x :: xs) H2
section
variable {X : Cx} {e : Expr} {es : List Expr} {te : TE} {t : TA} {pos : Pos}
theorem pa_nil : PA X [] tNil := fun _ _ _ _ H Q I h => Calls.spliced_nil ⟨[], H, I, .nil, h⟩
theorem pa_cons (ha : PE X e te) (hr : PA X es t) (hs : starEach (e :: es) X.env = (false, eval e X.env) :: starEach es X.env := by rfl) : PA X (e :: es) (tCons te t) := by
  intro pos pins s σ H Q I h
  rw [hs]
  show wpAny _ _ (spliced ((false, eval e X.env) :: backTo pos (starEach es X.env))) _ _ s
  refine Calls.spliced_cons (thn (ha pins s σ H _ I h) fun u s1 ⟨x, H1, I1, r1, q1⟩ => ?_)
  exact thn (hr pos pins s1 σ H1 _ I1 q1) fun us s2 ⟨xs, H2, I2, r2, q2⟩ => ⟨x :: xs, H2, I2, .cons r1 r2, q2⟩


noncomputable def tTup (t : TA) : TE := fun σ H Q => t σ H fun xs H1 => xs.length ≤ sizeLine ∧ ∀ p, H1 p = none → Q (.ref p) (upd H1 p (.tup xs))
noncomputable def tLst (t : TA) : TE := fun σ H Q => t σ H fun xs H1 => xs.length ≤ sizeLine ∧ ∀ p, H1 p = none → Q (.ref p) (upd H1 p (.lst xs))
theorem pe_tup {x1} (h : PA X es t) : PE X (.Tuple es x1 pos) (tTup t) := by
  intro pins s σ H Q I hq
  refine wpAny_Tuple_spliced (thn (h pos pins s σ H _ I hq) fun us s1 ⟨xs, H1, I1, r, z, q⟩ => ⟨by rw [← r.length]; exact z, ?_⟩)
  have hf : H1 s1.heap.objs.size = none := I1.hok.fresh (Nat.le_refl _)
  refine ⟨.ref s1.heap.objs.size, upd H1 s1.heap.objs.size (.tup xs), I1.laid (t' := s1.toks) (fun b u e => Heap.get?_push_of_some _ e) (Nat.le_refl _) ?_, rfl, q _ hf⟩
  exact ⟨z, us, r, ⟨_, Heap.get?_push_size _ rfl, rfl, _, rfl⟩⟩
theorem pe_lst (h : PA X es t) : PE X (.List es pos) (tLst t) := by
  intro pins s σ H Q I hq
  refine wpAny_List_spliced (thn (h pos pins s σ H _ I hq) fun us s1 ⟨xs, H1, I1, r, z, q⟩ => ⟨by rw [← r.length]; exact z, ?_⟩)
  have hf : H1 s1.heap.objs.size = none := I1.hok.fresh (Nat.le_refl _)
  refine ⟨.ref s1.heap.objs.size, upd H1 s1.heap.objs.size (.lst xs), I1.laid (t' := s1.toks) (fun b u e => Heap.get?_push_of_some _ e) (Nat.le_refl _) ?_, rfl, q _ hf⟩
  exact ⟨z, us, 0, r, Heap.get?_push_size _ rfl⟩
end



noncomputable abbrev Sp := List V → Hp → VK → XK → Prop

noncomputable abbrev CXT := List Env → Hp → Shared → XK → Value → Shared → Prop


structure Env0 (P : Program) (w : World) (K : PySem.W.Frag) (mg : Str → Option Value) (base : Heap) (A : Around) (outer : List Env) (s : Shared) (H : Hp) : Prop where
  frames : A.frames = some outer
  mod : Mod K mg base
  bs : ∀ b o, base.get? b = some o → s.heap.get? b = some o ∧ H b = none
  bsz : base.objs.size ≤ s.heap.objs.size
  funs : s.heap.FunFrames base outer
  frf : ∀ b ∈ frs outer, H b = none
  hok : HOk P w H s.heap
  bare : AllBare s.gens

noncomputable def CE (outer : List Env) (P : Program) (w : World) (H : Hp) (s : Shared) (Q : VK) (u : Value) (s' : Shared) : Prop :=
  ∃ v H', s'.os = s.os ∧ AllBare s'.gens ∧ Un (frs outer) [] H H' s.heap s'.heap ∧ HOk P w H' s'.heap ∧ RelV v u ∧ Q v H'
noncomputable def CR (CX : CXT) (outer : List Env) (P : Program) (w : World) (H : Hp) (s : Shared) (Q : VK) (E : XK) (r : Result) (s' : Shared) : Prop :=
  match r with
  | .ok (.ret u) => CE outer P w H s Q u s'
  | .ok _ => False
  | .error e => CX outer H s E e s'
structure FnOk (P : Program) (w : World) (K : PySem.W.Frag) (mg : Str → Option Value) (base : Heap) (CX : CXT) (k : Nat) (f : Addr) (fd : FuncData) (ps : List Str) (sp : Sp) : Prop where
  len : ∀ vs H Q E, sp vs H Q E → vs.length = ps.length
  run : ∀ (A : Around) (outer : List Env) (s : Shared) (H : Hp) (args : Args) (us : List Value) (vs : List V) (Q : VK) (E : XK), Room k A → Env0 P w K mg base A outer s H → BindsTo s fd args (ps.zip us) → Vals vs us → sp vs H Q E →
    codeAny (model P w) A (.call (.ref f) args) (CR CX outer P w H s Q E) s
theorem FnOk.mono {P : Program} {w : World} {K : PySem.W.Frag} {mg : Str → Option Value} {base : Heap} {CX : CXT} {j k : Nat} {f : Addr} {fd : FuncData} {ps : List Str} {sp : Sp} (F : FnOk P w K mg base CX j f fd ps sp) (h : j ≤ k) :
    FnOk P w K mg base CX k f fd ps sp := ⟨F.len, fun A outer s H args us vs Q E hr => F.run A outer s H args us vs Q E (hr.mono h)⟩

theorem FnOk.imp {P : Program} {w : World} {K : PySem.W.Frag} {mg : Str → Option Value} {base : Heap} {CX : CXT} {k : Nat} {f : Addr} {fd : FuncData} {ps : List Str} {sp sp' : Sp} (F : FnOk P w K mg base CX k f fd ps sp)
    (h : ∀ vs H Q E, sp' vs H Q E → sp vs H Q E) : FnOk P w K mg base CX k f fd ps sp' :=
  ⟨fun vs H Q E q => F.len vs H Q E (h _ _ _ _ q), fun A outer s H args us vs Q E hr he hb hv hs => F.run A outer s H args us vs Q E hr he hb hv (h _ _ _ _ hs)⟩

theorem Env0.in1 {P : Program} {w : World} {K : PySem.W.Frag} {mg : Str → Option Value} {base : Heap} {A : Around} {outer : List Env} {s : Shared} {H : Hp} (e : Env0 P w K mg base A outer s H) :
    Env0 P w K mg base A.in1 outer s H := ⟨e.frames, e.mod, e.bs, e.bsz, e.funs, e.frf, e.hok, e.bare⟩

section
variable {X : Cx} {pins : List (Addr × Obj)} {σ : St} {H : Hp} {s s' : Shared}

theorem Inv.env0 (I : Inv X pins σ H s) : Env0 X.prog X.w X.K X.mg X.base X.A X.stack s H :=
  ⟨I.ok.frames, I.ok.mod, I.bs, Nat.le_trans I.ok.bsz I.sz, I.stack, I.stkFree, I.hok, I.bare⟩

theorem Inv.after {Q : VK} {u : Value} (I : Inv X pins σ H s) (h : CE X.stack X.prog X.w H s Q u s') : EP X pins σ Q u s' := by
  obtain ⟨v, H', os, bare, un, hok, r, q⟩ := h
  obtain ⟨hh, g, d, t, os'⟩ := s'
  obtain rfl : os' = s.os := os
  exact ⟨v, H', I.call (h' := hh) (g' := g) (d' := d) (t' := t) (ch := []) un hok bare (fun b z => absurd z (by simp)), r, q⟩
end



noncomputable def Binds (K : PySem.W.Frag) (fd : FuncData) (ps : List Str) (ds : List Value) : Prop :=
  ∀ (s : Shared) (us : List Value), K.In s.heap → (us ++ ds).length = ps.length → BindsTo s fd ⟨us, []⟩ (ps.zip (us ++ ds))

theorem Binds.all {K : PySem.W.Frag} {fd : FuncData} {ps : List Str} (h : ∀ us : List Value, us.length = ps.length → bindArgs fd ⟨us, []⟩ = pure (ps.zip us)) : Binds K fd ps [] := fun s us _ hl => by
  rw [List.append_nil] at hl ⊢
  exact .of_eq (h us hl)


noncomputable def Passes (CX : CXT) (X : Cx) (E : XK) : Prop := ∀ (pins : List (Addr × Obj)) (σ : St) (H : Hp) (s : Shared) (e : Value) (s' : Shared), Inv X pins σ H s → CX X.stack H s E e s' → X.xe e s'

section
variable {X : Cx} {CX : CXT} {k : Nat} {f C : Addr} {fd : FuncData} {ps : List Str} {sp : Sp} {dvs : List V} {ds : List Value} {E : XK} {x m : Str} {p pos apos : Pos} {e o : Expr} {es : List Expr} {ta : TE} {t : TA}


structure Mk (K : PySem.W.Frag) (C f : Addr) : Prop where
  makes : PySem.W.makesIn K C = true
  init : PySem.W.findIn K (.ref C) "__init__" = some (some (.ref f))
  fn : PySem.W.isFn K (.ref f) = true
  kp : PySem.W.keepIn K (.ref C) = true

end


section
variable {X : Cx} {CX : CXT} {k : Nat} {f C : Addr} {fd : FuncData} {ps ks : List Str} {sp : Sp} {E : XK} {x m : Str} {p pos apos kpos : Pos} {e o : Expr} {es : List Expr} {kws : List Keyword} {te ta : TE} {t tk : TA} {nm : Option Str}

structure KBinds (K : PySem.W.Frag) (fd : FuncData) (ps ks : List Str) (g : List Value → List Value → List Value) (gV : List V → List V → List V) : Prop where
  to : ∀ (s : Shared) (us ws : List Value), K.In s.heap → (g us ws).length = ps.length → BindsTo s fd ⟨us, ks.zip ws⟩ (ps.zip (g us ws))
  rel : ∀ {vs : List V} {us : List Value} {zs : List V} {ws : List Value}, Vals vs us → Vals zs ws → Vals (gV vs zs) (g us ws)
variable {g : List Value → List Value → List Value} {gV : List V → List V → List V}
end



structure FnScope (N P : List Str) (sc : Scope) : Prop where
  kind : sc.kind = .function
  co : sc.isCoroutine = false
  gen : sc.isGenerator = false
  nd : N.Nodup
  pre : N.take P.length = P
  par : ∀ x ∈ P, sc.names.lookup x = some .local ∨ sc.names.lookup x = some .cell
  nofree : ∀ y ∈ sc.names, y.2 ≠ .free

theorem bindL_out {kindOf : Str → Option NameKind} {x : Str} : ∀ {binds : List (Str × Value)} {m : Str → Option Value}, (∀ v, (x, v) ∉ binds) → bindL kindOf binds m x = m x
  | [], _, _ => rfl
  | (n, v) :: r, m, h => by
    unfold bindL
    rw [bindL_out fun w hw => h w (List.mem_cons_of_mem _ hw)]
    split
    · have : x ≠ n := by rintro rfl; exact h v List.mem_cons_self
      simp [this]
    · rfl
theorem bindC_out {kindOf : Str → Option NameKind} {x : Str} : ∀ {binds : List (Str × Value)} {m : Str → Option Value}, (∀ v, (x, v) ∉ binds) → bindC kindOf binds m x = m x
  | [], _, _ => rfl
  | (n, v) :: r, m, h => by
    unfold bindC
    rw [bindC_out fun w hw => h w (List.mem_cons_of_mem _ hw)]
    split
    · rfl
    · have : x ≠ n := by rintro rfl; exact h v List.mem_cons_self
      simp [this]
theorem bindL_get {kindOf : Str → Option NameKind} {x : Str} {v : Value} : ∀ {P : List Str} {vs : List Value} {i : Nat} {m : Str → Option Value}, P.Nodup → P[i]? = some x → vs[i]? = some v → kindOf x = some .local →
    bindL kindOf (P.zip vs) m x = some v
  | [], _, _, _, _, h, _, _ => by simp at h
  | _ :: _, [], _, _, _, _, h, _ => by simp at h
  | p :: P, w :: vs, 0, m, nd, h1, h2, hk => by
    simp at h1 h2; subst h1; subst h2
    show bindL kindOf ((p, w) :: P.zip vs) m p = _
    unfold bindL
    rw [bindL_out fun v hv => (List.nodup_cons.mp nd).1 (List.of_mem_zip hv).1, if_pos hk]
    simp
  | p :: P, w :: vs, i + 1, m, nd, h1, h2, hk => by
    show bindL kindOf ((p, w) :: P.zip vs) m x = _
    unfold bindL
    exact bindL_get (i := i) (List.nodup_cons.mp nd).2 (by simpa using h1) (by simpa using h2) hk
theorem bindC_get {kindOf : Str → Option NameKind} {x : Str} {v : Value} : ∀ {P : List Str} {vs : List Value} {i : Nat} {m : Str → Option Value}, P.Nodup → P[i]? = some x → vs[i]? = some v → kindOf x ≠ some .local →
    bindC kindOf (P.zip vs) m x = some v
  | [], _, _, _, _, h, _, _ => by simp at h
  | _ :: _, [], _, _, _, _, h, _ => by simp at h
  | p :: P, w :: vs, 0, m, nd, h1, h2, hk => by
    simp at h1 h2; subst h1; subst h2
    show bindC kindOf ((p, w) :: P.zip vs) m p = _
    unfold bindC
    rw [bindC_out fun v hv => (List.nodup_cons.mp nd).1 (List.of_mem_zip hv).1, if_neg hk]
    simp
  | p :: P, w :: vs, i + 1, m, nd, h1, h2, hk => by
    show bindC kindOf ((p, w) :: P.zip vs) m x = _
    unfold bindC
    exact bindC_get (i := i) (List.nodup_cons.mp nd).2 (by simpa using h1) (by simpa using h2) hk


noncomputable def start (N : List Str) (vs : List V) : St := vs.map some ++ List.replicate (N.length - vs.length) none


noncomputable def cxOf (CX : CXT) (P : Program) (w : World) (K : PySem.W.Frag) (mg : Str → Option Value) (base : Heap) (N : List Str) (qual : Str) (scope : Scope) (f : Addr) (cd : Value) (A : Around) (outer : List Env) (s : Shared) (H : Hp) (E : XK) : Cx where
  prog := P
  w := w
  K := K
  mg := mg
  base := base
  A := A.deeper (envOfC qual scope s.heap.objs.size f cd)
  N := N
  s₀ := s
  H₀ := H
  env := envOfC qual scope s.heap.objs.size f cd
  outer := outer
  stack := envOfC qual scope s.heap.objs.size f cd :: outer
  ex := []
  calm := true
  fn := fun _ => true
  pn := []
  xe := fun e s' => wpAny (model P w) (A.deeper (envOfC qual scope s.heap.objs.size f cd)) (leaving (envOfC qual scope s.heap.objs.size f cd) e) (fun _ s'' => CX outer H s E e s'') (fun e' s'' => CX outer H s E e' s'') s'

theorem cell_has {sc : Scope} {n : Nat} {x : Str} (h : sc.names.lookup x = some .cell) : ∃ c, (cellsFrom n sc.names []).lookup x = some c := by
  have q := PySem.W.cellsFrom_some sc.names n [] (.inl h)
  exact Option.isSome_iff_exists.mp q

theorem inv_start {CX : CXT} {P : Program} {w : World} {K : PySem.W.Frag} {mg : Str → Option Value} {base : Heap} {N ps : List Str} {qual : Str} {scope : Scope} {f : Addr} {cd : Value} {A : Around} {outer : List Env} {s s1 : Shared} {H : Hp} {E : XK} {us : List Value} {vs : List V}
    (S : FnScope N ps scope) (hd : A.handled = none) (e0 : Env0 P w K mg base A outer s H) (hl : vs.length = ps.length) (r : Vals vs us)
    (x : InCallC s s.heap.objs.size (bindL (envOfC qual scope s.heap.objs.size f cd).kindOf (ps.zip us) fun _ => none) (cellsFrom (s.heap.objs.size + 1) scope.names []) (bindC (envOfC qual scope s.heap.objs.size f cd).kindOf (ps.zip us) fun _ => none) s1) :
    Inv (cxOf CX P w K mg base N qual scope f cd A outer s H E) [] (start N vs) H s1 := by
  have hpl : ps.length ≤ N.length := by have := congrArg List.length S.pre; rw [List.length_take] at this; omega
  obtain ⟨h1, tk, rfl, hk⟩ := x.done
  have noA : ∀ b : Addr, b ∉ (cxOf CX P w K mg base N qual scope f cd A outer s H E).ex := fun b z => absurd (show b ∈ ([] : List Addr) from z) (by simp)
  refine ⟨⟨e0.mod, S.kind, rfl, rfl, Nat.le_refl _, fun y z c h1 h2 => ?_, fun y hy => ?_, fun y c _ h => ?_, fun _ => hd, Around.frames_deeper e0.frames, .inr ⟨rfl, rfl⟩, fun b z => absurd z (noA b), e0.bs, e0.bsz, fun b _ _ => noA b, fun b z => absurd z (noA b), e0.funs, e0.frf⟩,
    rfl, e0.bare, Un.kept hk, ⟨_, x.toInCall.ns, fun i y v h1 h2 h3 => ?_⟩, fun y c h => ⟨_, x.cell y c h⟩, e0.hok.fresh (Nat.le_refl _), fun y c h => ?_, fun p hp => absurd (show p ∈ ([] : List (Addr × Obj)) from hp) (by simp), e0.hok.kept hk, ?_⟩
  · exact name_of_addr x.apart (PySem.mem_of_lookup h1) (PySem.mem_of_lookup h2)
  · have hy : scope.names.lookup y = some .cell ∨ scope.names.lookup y = some .free := hy
    rcases hy with hy | hy
    · exact cell_has hy
    · exact absurd rfl (S.nofree _ (PySem.mem_of_lookup hy))
  · exact Nat.le_of_lt (x.above y c (PySem.mem_of_lookup h))
  · have hi : i < vs.length := by
      unfold start at h2
      by_cases hi : i < vs.length
      · exact hi
      · rw [List.getElem?_append_right (by simpa using hi)] at h2
        rw [List.getElem?_replicate] at h2
        split at h2 <;> cases h2
    have ha : vs[i]? = some v := by
      unfold start at h2
      rw [List.getElem?_append_left (by simpa using hi), List.getElem?_map] at h2
      cases e : vs[i]? with
      | none => rw [e] at h2; cases h2
      | some a => rw [e] at h2; cases h2; rfl
    obtain ⟨u, hu, rv⟩ := r.get ha
    have hp : ps[i]? = some y := by
      rw [← S.pre, List.getElem?_take_of_lt (by omega)]; exact h1
    have ndP : ps.Nodup := by rw [← S.pre]; exact S.nd.sublist (List.take_sublist _ _)
    refine ⟨u, rv, ?_⟩
    rcases S.par y (List.mem_of_getElem? hp) with k | k
    · exact .inl ⟨k, bindL_get ndP hp hu k⟩
    · obtain ⟨c, e⟩ := cell_has (n := s.heap.objs.size + 1) k
      refine .inr ⟨.inl k, c, e, ?_⟩
      have q := x.cell y c e
      rw [bindC_get ndP hp hu (by show scope.names.lookup y ≠ _; rw [k]; decide)] at q
      exact q
  · exact e0.hok.fresh (Nat.le_of_lt (x.above y c (PySem.mem_of_lookup h)))
  · unfold start
    show _ = N.length
    rw [List.length_append, List.length_map, List.length_replicate]
    omega


theorem fn_of {CX : CXT} {P : Program} {w : World} {K : PySem.W.Frag} {mg : Str → Option Value} {base : Heap} {k : Nat} {f : Addr} {name qual : Str} {params : Arguments} {body : List Stmt} {scope : Scope} {dV kV doc pm cdv ct oc : Value} {an od : Option Addr}
    {osl : Array (Option Value)} {N ps : List Str} {sp : Sp} (lk : K.lookup f = some ⟨oc, od, .func (PySem.W.fnOf name qual params body scope dV kV doc pm an cdv ct), osl⟩) (hcd : PySem.W.codeIn K cdv qual = true) (S : FnScope N ps scope)
    (len : ∀ vs H Q E, sp vs H Q E → vs.length = ps.length)
    (hbody : ∀ (A : Around) (outer : List Env) (s : Shared) (H : Hp) (vs : List V) (Q : VK) (E : XK), Room k (A.deeper (envOfC qual scope s.heap.objs.size f cdv)) → sp vs H Q E →
      ∃ t, PSs (cxOf CX P w K mg base N qual scope f cdv A outer s H E) body t ∧ t { nx := fun _ H' => Q .non H', rt := Q } (start N vs) H) :
    FnOk P w K mg base CX (k + 1) f (PySem.W.fnOf name qual params body scope dV kV doc pm an cdv ct) ps sp := by
  refine ⟨len, fun A outer s H args us vs Q E hr e0 hb r hsp => ?_⟩
  have hl := len _ _ _ _ hsp
  have KX : K.In s.heap := e0.mod.kin.keeps fun b o e => (e0.bs b o e).1
  have lim : s.heap.NoLimit := e0.mod.nolimit.keeps fun b o e => (e0.bs b o e).1
  have hkind : ∀ y ∈ ps.zip us, scope.names.lookup y.1 = some .local ∨ (scope.names.lookup y.1 = some .cell ∧ ((cellsFrom (s.heap.objs.size + 1) scope.names []).lookup y.1).isSome = true) := fun ⟨n, v⟩ hy => by
    rcases S.par n (List.of_mem_zip hy).1 with q | q
    · exact .inl q
    · exact .inr ⟨q, PySem.W.cellsFrom_some _ _ _ (.inl q)⟩
  refine codeAny_call_function hr.depth (KX _ _ lk) rfl S.co S.gen rfl (PySem.W.codeRec_of KX hcd) (hb _ _ _ _ ?_)
  refine wpAny_newFunctionEnv_cells S.kind hkind fun env he s1 x => ?_
  subst he
  refine ⟨lim.keeps x.toInCall.keep, codeAny_func ?_⟩
  obtain ⟨t, ht, hq⟩ := hbody A outer s H vs Q E (hr.deeper _) hsp
  have I : Inv (cxOf CX P w K mg base N qual scope f cdv A outer s H E) [] (start N vs) H s1 := inv_start S hr.hd e0 hl r x
  refine wpAny_mono (ht [] s1 (start N vs) H _ I hq) (fun fl s' hs => ?_) fun e s' hs => hs
  have fin : ∀ {σ' : St} {H' : Hp} {v : V} {u : Value}, Inv (cxOf CX P w K mg base N qual scope f cdv A outer s H E) [] σ' H' s' → RelV v u → Q v H' → CE outer P w H s Q u s' :=
    fun {σ' H' v u} J rv q => ⟨v, H', J.os, J.bare, J.base, J.hok, rv, q⟩
  cases fl with
  | ret u =>
    obtain ⟨v, σ', H', J, rv, q⟩ := hs
    exact fin J rv q
  | next =>
    obtain ⟨σ', H', J, q⟩ := hs
    exact fin (v := V.non) (u := Value.none) J rfl q
  | brk =>
    obtain ⟨_, _, _, q⟩ := hs
    exact False.elim q
  | cont =>
    obtain ⟨_, _, _, q⟩ := hs
    exact False.elim q
end L2

namespace L2
open PySem PySem.Spec PyProof.Rows
section
variable {X : Cx} {x : Str} {p pos : Pos} {e : Expr} {es : List Expr} {t : TA} {id T : String} {r : List V → Hp → VK → Prop}

noncomputable def tCB (r : List V → Hp → VK → Prop) (t : TA) : TE := fun σ H Q => t σ H fun vs H1 => r vs H1 Q

theorem pe_callB (hc : CallR X (.builtin id) r) (hg : Gl X x) (hm : X.mg x = none) (hv : bootBuiltins x = some (.builtin id)) (ha : PA X (e :: es) t) (hn : x ≠ "__name__" := by decide) (hdb : (x == ("__debug__" : Str)) = false := by decide)
    (he : starEach (e :: es) X.env = (false, eval e X.env) :: starEach es X.env := by rfl) (hpl : (backTo pos (starEach es X.env)).any (·.1) = false := by rfl) : PE X (.Call (.Name x p) (e :: es) [] pos) (tCB r t) := by
  intro pins s σ H Q I h
  refine wpAny_Call_Name_kw (ld_blt I hg hm hv ?_ hn hdb)
  exact PyProof.Rows.callWith_builtin1 (thn (ha pos pins s σ H _ I h) fun us s1 ⟨vs, H1, I1, r1, q1⟩ => hc pins s1 σ H1 vs us Q I1 r1 q1) he hpl

theorem pe_callTy (hc : CallR X (.type T) r) (hg : Gl X x) (hm : X.mg x = none) (hv : bootBuiltins x = some (.type T)) (ha : PA X (e :: es) t) (hn : x ≠ "__name__" := by decide) (hdb : (x == ("__debug__" : Str)) = false := by decide)
    (he : starEach (e :: es) X.env = (false, eval e X.env) :: starEach es X.env := by rfl) (hpl : (backTo pos (starEach es X.env)).any (·.1) = false := by rfl) : PE X (.Call (.Name x p) (e :: es) [] pos) (tCB r t) := by
  intro pins s σ H Q I h
  refine wpAny_Call_Name_kw (ld_blt I hg hm hv ?_ hn hdb)
  exact PyProof.Rows.callWith_type1 (thn (ha pos pins s σ H _ I h) fun us s1 ⟨vs, H1, I1, r1, q1⟩ => hc pins s1 σ H1 vs us Q I1 r1 q1) he hpl
end
end L2

namespace HT
open PySem PyProof.Rows

section
open PySem.SeqAt
open PySem.AutoSeq1 (wpAny_loadPart')
open PySem.MeetsSeq PySem.MeetsSeq2 PySem.MeetsSeq3

end

section
variable {prog : Program} {w : World} {A : Around} {E : Value → Shared → Prop} {s : Shared}


theorem cat_tup {t b : Addr} {vs ws : List Value} {Q : Value → Shared → Prop} (ht : IsTup s.heap t vs.toArray) (hb : IsTup s.heap b ws.toArray) (hv : vs ≠ [])
    (h1 : ws = [] → Q (.ref t) s) (h2 : ws ≠ [] → Q (.ref s.heap.objs.size) { s with heap := s.heap.push { cls := .type "tuple", data := .seq (vs ++ ws).toArray } })
    (hsz : vs.length + ws.length ≤ sizeLine) : wpAny (model prog w) A (binaryOp .Add (.ref t) (.ref b)) Q E s := by
  obtain ⟨⟨cls, dd, data, sl⟩, ho, hc, n, hd⟩ := id ht
  obtain ⟨⟨cls2, dd2, data2, sl2⟩, ho2, hc2, n2, hd2⟩ := id hb
  simp only at hc hd hc2 hd2
  subst hc hd hc2 hd2
  have e : vs.toArray ++ ws.toArray = (vs ++ ws).toArray := by simp
  by_cases hw : ws = []
  · exact concat_meets ⟨_, ho, rfl⟩ ⟨_, ho2, rfl⟩ noFill_tuple_add seq_tuple_add PySem.F.slot_tuple_add PySem.F.entry_tuple_add (PySem.F.args_tuple_add_2 _ _)
      (tuple_addW1 t b vs.toArray ws.toArray n n2 dd dd2 sl sl2 (by simpa using hv) (by simp [hw])) ⟨ho, ho2, h1 hw⟩
  · refine concat_meets ⟨_, ho, rfl⟩ ⟨_, ho2, rfl⟩ noFill_tuple_add seq_tuple_add PySem.F.slot_tuple_add PySem.F.entry_tuple_add (PySem.F.args_tuple_add_2 _ _)
      (tuple_addW2 t b vs.toArray ws.toArray n n2 dd dd2 sl sl2 (by simpa using hv) (by simpa using hw) (by rw [List.size_toArray, List.size_toArray]; exact hsz)) ⟨ho, ho2, ?_⟩
    rw [e]
    exact h2 hw



noncomputable def sIx (n d : Nat) : Option Int → Nat
  | none => d
  | some v => if v < 0 then (v + (n : Int)).toNat else min v.toNat n
theorem sIx_le (n d : Nat) (hd : d ≤ n) (o : Option Int) : sIx n d o ≤ n := by
  cases o with
  | none => exact hd
  | some v =>
    show (if v < 0 then (v + (n : Int)).toNat else min v.toNat n) ≤ n
    by_cases hv : v < 0
    · rw [if_pos hv]; omega
    · rw [if_neg hv]; exact Nat.min_le_right _ _
theorem clip_eq (v : Int) (n d : Nat) : (if v < 0 then max (v + (n : Int)) 0 else min v (n : Int)) = ((sIx n d (some v) : Nat) : Int) := by
  show (if v < 0 then max (v + (n : Int)) 0 else min v (n : Int)) = (((if v < 0 then (v + (n : Int)).toNat else min v.toNat n) : Nat) : Int)
  by_cases hv : v < 0
  · simp only [if_pos hv]; omega
  · simp only [if_neg hv]; omega
theorem adjust_gen (lo hi : Option Int) (n : Nat) : Builtin.Slice.sliceAdjust lo hi 1 (n : Int) = (((sIx n 0 lo : Nat) : Int), ((sIx n n hi : Nat) : Int)) := by
  have h1 : ¬ ((1 : Int) < 0) := by omega
  unfold Builtin.Slice.sliceAdjust
  simp only [h1, if_false]
  refine Prod.ext ?_ ?_
  · cases lo with
    | none => rfl
    | some v => exact clip_eq v n 0
  · cases hi with
    | none => rfl
    | some v => exact clip_eq v n n
theorem places_gen (i j : Nat) : Builtin.Slice.slicePlaces (i : Int) (j : Int) 1 = j - i := by
  unfold Builtin.Slice.slicePlaces
  have h1 : (1 : Int) > 0 := by omega
  simp only [h1, if_true, Int.ediv_one]
  split <;> omega
theorem slicePart_ {v : Value} {o : Option Int} {Q : Option Int → Shared → Prop} (p : IsPart v o) (h : Q o s) : wpAny (model prog w) A (Builtin.Slice.slicePartIndex v) Q E s := by
  cases p with
  | none => exact slicePart_none h
  | int i t => exact slicePart_int h
theorem sliceApplied_gen {sl : Addr} {vl vu : Value} {lo hi : Option Int} {n : Nat} {Q : Int × Int × Nat → Shared → Prop} (hs : s.heap.IsSliceOf sl vl vu .none) (pl : IsPart vl lo) (pu : IsPart vu hi)
    (h : Q (((sIx n 0 lo : Nat) : Int), 1, sIx n n hi - sIx n 0 lo) s) : wpAny (model prog w) A (Builtin.Slice.sliceApplied (.ref sl) (pure (n : Int))) Q E s := by
  obtain ⟨os, hos, hcs, hds⟩ := id hs
  unfold Builtin.Slice.sliceApplied Builtin.Slice.sliceFields
  refine wpAny_bind (wpAny_bind (wpAny_field hos hds (x := vl) rfl (wpAny_bind (wpAny_field hos hds (x := vu) rfl (wpAny_bind (wpAny_field hos hds (x := .none) rfl (wpAny_pure ?_)))))))
  refine wpAny_bind (slicePart_none ?_)
  show wpAny _ _ (if ((1 : Int) == 0) = true then _ else _) _ _ s
  rw [if_neg (by decide)]
  refine wpAny_bind (slicePart_ pl (wpAny_bind (slicePart_ pu (wpAny_bind (wpAny_pure ?_)))))
  show wpAny _ _ (match Builtin.Slice.sliceAdjust lo hi 1 (n : Int) with | (lo, hi) => pure (lo, (1 : Int), Builtin.Slice.slicePlaces lo hi 1)) _ _ s
  rw [adjust_gen lo hi n]
  show wpAny _ _ (pure (((sIx n 0 lo : Nat) : Int), (1 : Int), Builtin.Slice.slicePlaces ((sIx n 0 lo : Nat) : Int) ((sIx n n hi : Nat) : Int) 1)) _ _ s
  rw [places_gen]
  exact wpAny_pure h
theorem pick_gen (xs : Array Value) (i k : Nat) : ((List.range k).filterMap fun (m : Nat) => xs[((i : Int) + (m : Int) * 1).toNat]?).toArray = ((xs.toList.drop i).take k).toArray := by
  have e : (fun (m : Nat) => xs[((i : Int) + (m : Int) * 1).toNat]?) = fun m => xs[i + m]? := by
    funext m
    have : ((i : Int) + (m : Int) * 1).toNat = i + m := by omega
    rw [this]
  rw [e]
  have := pick_run xs i k
  rw [List.filterMap_map] at this
  have e2 : ((fun x => xs[x]?) ∘ fun x => i + x) = fun m => xs[i + m]? := rfl
  rw [e2] at this
  rw [this]

theorem getItem_tuple_cut {t sl : Addr} {items : Array Value} {vl vu : Value} {lo hi : Option Int} {Q : Value → Shared → Prop} (ht : IsTup s.heap t items) (hs : s.heap.IsSliceOf sl vl vu .none) (pl : IsPart vl lo) (pu : IsPart vu hi)
    (hw : ¬ (sIx items.size 0 lo = 0 ∧ sIx items.size items.size hi = items.size))
    (h : Q (.ref s.heap.objs.size) { s with heap := s.heap.push { cls := .type "tuple", data := .seq ((items.toList.drop (sIx items.size 0 lo)).take (sIx items.size items.size hi - sIx items.size 0 lo)).toArray } })
    (hsz : items.size ≤ sizeLine) : wpAny (model prog w) A (getItem (.ref t) (.ref sl)) Q E s := by
  have htake : sizeOk (.seq ((items.toList.drop (sIx items.size 0 lo)).take (sIx items.size items.size hi - sIx items.size 0 lo)).toArray) := by
    show ((items.toList.drop (sIx items.size 0 lo)).take (sIx items.size items.size hi - sIx items.size 0 lo)).toArray.size ≤ sizeLine
    rw [List.size_toArray, List.length_take, List.length_drop, Array.length_toList]
    omega
  have hj : sIx items.size items.size hi ≤ items.size := sIx_le _ _ (Nat.le_refl _) hi
  obtain ⟨os, hos, hcs, hds⟩ := id hs
  have hTs : s.TypeIs (.ref sl) "slice" := ⟨os, hos, hcs⟩
  unfold getItem
  try with_reducible refine wpAny_holding ?_
  first | refine wpAny_bind (wpAny_pure ?_) | skip
  refine wpAny_bind (wpAny_sequenceKey ht.typeIs (by decide) ?_)
  refine wpAny_bind (wpAny_callSpecial?_slot (name := Str.ofString "__getitem__") ht.typeIs PyProof.Rows.slot_tuple_getitem
    (wpAny_call_entry PyProof.Rows.slot_tuple_getitem ht.typeIs entry_tuple_getitem ?_ (args_tuple_getitem _ _)))
  show wpAny _ _ (Builtin.Tuple.tupleItemsOf (.ref t) >>= _) _ _ s
  refine wpAny_bind (tupleItemsOf_ ht ?_)
  refine wpAny_bind (wpAny_typeOf hTs ?_)
  rw [if_pos (by decide)]
  refine wpAny_bind (sliceApplied_gen hs pl pu ?_)
  have hno : ¬ ((((sIx items.size 0 lo : Nat) : Int) == 0 && (1 : Int) == 1 && (sIx items.size items.size hi - sIx items.size 0 lo) == items.size) = true) := by
    intro q
    rw [Bool.and_eq_true, Bool.and_eq_true] at q
    have q1 : ((sIx items.size 0 lo : Nat) : Int) = 0 := eq_of_beq q.1.1
    have q2 : sIx items.size items.size hi - sIx items.size 0 lo = items.size := eq_of_beq q.2
    exact hw ⟨by omega, by omega⟩
  show wpAny _ _ (if (((sIx items.size 0 lo : Nat) : Int) == 0 && (1 : Int) == 1 && (sIx items.size items.size hi - sIx items.size 0 lo) == items.size) = true then _ else _) _ _ s
  rw [if_neg hno, pick_gen]
  first
    | exact wpAny_bind (m := Builtin.Tuple.tupleExact _) (wpAny_newObj_type (wpAny_pure ⟨_, rfl, wpAny_pure h⟩) htake)
    | exact wpAny_bind (m := Builtin.Tuple.tupleExact _) (wpAny_newObj_type (wpAny_bind (wpAny_pure (wpAny_pure ⟨_, rfl, wpAny_pure h⟩))) htake)
    | exact wpAny_bind (wpAny_bind (m := Builtin.Tuple.tupleExact _) (wpAny_newObj_type (wpAny_pure (wpAny_pure ⟨_, rfl, wpAny_pure h⟩)) htake))
    | exact wpAny_bind (wpAny_bind (m := Builtin.Tuple.tupleExact _) (wpAny_newObj_type (wpAny_pure ⟨_, rfl, wpAny_pure h⟩) htake))
end
end HT

namespace L2
open PySem PySem.Spec PyProof.Rows


noncomputable abbrev TO := St → Hp → (Option Int → Hp → Prop) → Prop

noncomputable def PO (X : Cx) (e : Option Expr) (t : TO) : Prop :=
  ∀ (pins : List (Addr × Obj)) (s : Shared) (σ : St) (H : Hp) (Q : Option Int → Hp → Prop), Inv X pins σ H s → t σ H Q →
    wpAny (model X.prog X.w) X.A (evalPart e X.env) (fun u s' => ∃ o H', Inv X pins σ H' s' ∧ IsPart u o ∧ Q o H') X.xe s
noncomputable def tNoPart : TO := fun _ H Q => Q none H
theorem intsAre_of {ns : List Int} : ∀ {us : List Value}, Vals (ns.map V.int) us → IntsAre us ns := by
  induction ns with
  | nil => intro us r; rw [List.map_nil] at r; cases r; exact .nil
  | cons n ns ih =>
    intro us r
    rw [List.map_cons] at r
    cases r with
    | cons r1 r2 =>
      obtain ⟨t, e⟩ := r1
      subst e
      exact .cons n t (ih r2)

section
variable {X : Cx} {e : Expr} {te : TE} {lo hi : Option Expr} {tl th : TO} {pos p2 : Pos}

theorem po_none : PO X none tNoPart := by
  intro pins s σ H Q I h
  rw [evalPart_none]
  exact wpAny_pure ⟨none, H, I, .none, h⟩

noncomputable def SlR (X : Cx) (r : V → Option Int → Option Int → Hp → VK → Prop) : Prop :=
  ∀ (pins : List (Addr × Obj)) (s : Shared) (σ : St) (H : Hp) (x : V) (v vl vu : Value) (lo hi : Option Int) (sl : Addr) (Q : VK), Inv X pins σ H s → RelV x v → s.heap.IsSliceOf sl vl vu .none → IsPart vl lo → IsPart vu hi → r x lo hi H Q →
    ∃ T id, typeLookup (.type T) "__getitem__" = pure (some (.builtin id)) ∧ s.TypeIs v T ∧ wpAny (model X.prog X.w) X.A (getItem v (.ref sl)) (EP X pins σ Q) X.xe s
theorem SlR.or {r r' : V → Option Int → Option Int → Hp → VK → Prop} (h : SlR X r) (h' : SlR X r') : SlR X (fun x lo hi H Q => r x lo hi H Q ∨ r' x lo hi H Q) := by
  intro pins s σ H x v vl vu lo hi sl Q I rx hs pl pu q
  rcases q with q | q
  · exact h pins s σ H x v vl vu lo hi sl Q I rx hs pl pu q
  · exact h' pins s σ H x v vl vu lo hi sl Q I rx hs pl pu q
noncomputable def tSl (r : V → Option Int → Option Int → Hp → VK → Prop) (te : TE) (tl th : TO) : TE := fun σ H Q => te σ H fun x H1 => tl σ H1 fun l H2 => th σ H2 fun u H3 => r x l u H3 Q

theorem pe_slice {r : V → Option Int → Option Int → Hp → VK → Prop} (hr : SlR X r) (he : PE X e te) (hl : PO X lo tl) (hu : PO X hi th) : PE X (.Subscript e (.Slice lo hi none p2) pos) (tSl r te tl th) := by
  intro pins s σ H Q I h
  refine Subscript_ (thn (he pins s σ H _ I h) fun v s1 ⟨x, H1, I1, r1, q1⟩ => ?_)
  refine wpAny_Slice (thn (hl pins s1 σ H1 _ I1 q1) fun vl s2 ⟨l, H2, I2, pl, q2⟩ => thn (hu pins s2 σ H2 _ I2 q2) fun vu s3 ⟨u, H3, I3, pu, q3⟩ => ?_)
  rw [evalPart_none]
  refine wpAny_pure ?_
  have I4 : Inv X pins σ H3 { s3 with heap := s3.heap.push { cls := .type "slice", data := .fields #[vl, vu, .none] } } := I3.kept (t' := s3.toks) fun b ob q => Heap.get?_push_of_some _ q
  obtain ⟨T, id, hT, ht, hg⟩ := hr pins { s3 with heap := s3.heap.push { cls := .type "slice", data := .fields #[vl, vu, .none] } } σ H3 x v vl vu l u s3.heap.objs.size Q I4 r1 (Heap.IsSliceOf.new ..) pl pu q3
  show wpAny (model X.prog X.w) X.A (subscriptTail e (.Slice lo hi none p2) v (.ref s3.heap.objs.size)) (EP X pins σ Q) X.xe { s3 with heap := s3.heap.push { cls := .type "slice", data := .fields #[vl, vu, .none] } }
  exact tail_any (ops := [.ref s3.heap.objs.size, v]) ht hT hg (by with_unfolding_all rfl)


noncomputable def cutV (xs : List V) (lo hi : Option Int) : List V := (xs.drop (HT.sIx xs.length 0 lo)).take (HT.sIx xs.length xs.length hi - HT.sIx xs.length 0 lo)
theorem cutV_length (xs : List V) (lo hi : Option Int) : (cutV xs lo hi).length ≤ xs.length := by
  unfold cutV
  rw [List.length_take, List.length_drop]
  omega

noncomputable def rSlT (K : PySem.W.Frag) : V → Option Int → Option Int → Hp → VK → Prop := fun x lo hi H Q => ∃ a xs, x = .ref a ∧ SqT K H a xs ∧
  ¬ (HT.sIx xs.length 0 lo = 0 ∧ HT.sIx xs.length xs.length hi = xs.length) ∧ ∀ p, H p = none → Q (.ref p) (upd H p (.tup (cutV xs lo hi)))
theorem sl_tup : SlR X (rSlT X.K) := by
  intro pins s σ H x v vl vu lo hi sl Q I rx hs pl pu h
  obtain ⟨a, xs, rfl, hx, hw, q⟩ := h
  cases rx
  obtain ⟨its, r, ht, hz⟩ := I.tuple hx
  have hlen : its.toArray.size = xs.length := by rw [List.size_toArray]; exact r.length.symm
  refine ⟨"tuple", _, PyProof.Rows.slot_tuple_getitem.lookup, ht.typeIs, ?_⟩
  refine HT.getItem_tuple_cut ht hs pl pu (by rw [hlen]; exact hw) ?_ (by rw [hlen]; exact hz)
  rw [hlen]
  refine ⟨.ref s.heap.objs.size, _, I.laid (t' := s.toks) (o := .tup (cutV xs lo hi)) (fun b ob q => Heap.get?_push_of_some _ q) (Nat.le_refl _) ?_, rfl, q _ (I.hok.fresh (Nat.le_refl _))⟩
  exact ⟨Nat.le_trans (cutV_length xs lo hi) hz, _, (r.drop (HT.sIx xs.length 0 lo)).take (HT.sIx xs.length xs.length hi - HT.sIx xs.length 0 lo), IsTup.new _ _⟩



noncomputable def rCatT (K : PySem.W.Frag) : R2 := fun x y H Q => ∃ a b xs ys, x = .ref a ∧ y = .ref b ∧ SqT K H a xs ∧ SqT K H b ys ∧ xs ≠ [] ∧ xs.length + ys.length ≤ sizeLine ∧
  (ys = [] → Q (.ref a) H) ∧ (ys ≠ [] → ∀ p, H p = none → Q (.ref p) (upd H p (.tup (xs ++ ys))))
theorem Vals.nil_iff {xs : List V} {us : List Value} (r : Vals xs us) : us = [] ↔ xs = [] := by
  cases r with
  | nil => simp
  | cons _ _ => simp
theorem op_catT : OpR X (binaryOp .Add) (rCatT X.K) := by
  intro pins s σ H x y v u Q I rx ry h
  obtain ⟨a, b, xs, ys, rfl, rfl, ha, hb, hx, hz, q1, q2⟩ := h
  cases rx
  cases ry
  obtain ⟨its, r1, p1, _⟩ := I.tuple ha
  obtain ⟨its2, r2, p2, _⟩ := I.tuple hb
  refine HT.cat_tup p1 p2 (fun z => hx (r1.nil_iff.mp z)) (fun z => ⟨.ref a, H, I, rfl, q1 (r2.nil_iff.mp z)⟩) (fun z => ?_) (by rw [← r1.length, ← r2.length]; exact hz)
  refine ⟨.ref s.heap.objs.size, _, I.laid (t' := s.toks) (o := .tup (xs ++ ys)) (fun b ob q => Heap.get?_push_of_some _ q) (Nat.le_refl _) ?_, rfl, q2 (fun w => z (r2.nil_iff.mpr w)) _ (I.hok.fresh (Nat.le_refl _))⟩
  exact ⟨by rw [List.length_append]; exact hz, _, r1.append r2, IsTup.new _ _⟩
end
end L2

namespace L2
open PySem PySem.Spec PyProof.Rows



noncomputable def ixN (n : Nat) (i : Int) : Option Nat := if 0 ≤ i then (if i < n then some i.toNat else none) else if -(n : Int) ≤ i then some (i + n).toNat else none
noncomputable def atI {α : Type} (xs : List α) (i : Int) : Option α := (ixN xs.length i).bind fun j => xs[j]?
theorem ixN_seq {n : Nat} {i : Int} {j : Nat} (h : ixN n i = some j) : seqIndex? i n = some j ∧ j < n ∧ -(n : Int) ≤ i ∧ i < n := by
  unfold ixN at h
  by_cases h0 : 0 ≤ i
  · rw [if_pos h0] at h
    by_cases h1 : i < n
    · rw [if_pos h1] at h
      have e : i.toNat = j := Option.some.inj h
      exact ⟨by rw [seqIndex_of h0 h1, e], by omega, by omega, h1⟩
    · rw [if_neg h1] at h; cases h
  · rw [if_neg h0] at h
    by_cases h1 : -(n : Int) ≤ i
    · rw [if_pos h1] at h
      have e : (i + n).toNat = j := Option.some.inj h
      exact ⟨by rw [seqIndex_neg (by omega) h1, e], by omega, h1, by omega⟩
    · rw [if_neg h1] at h; cases h
theorem atI_get {α : Type} {xs : List α} {i : Int} {v : α} (h : atI xs i = some v) : ∃ j, seqIndex? i xs.length = some j ∧ xs[j]? = some v ∧ j < xs.length ∧ -(xs.length : Int) ≤ i ∧ i < xs.length := by
  unfold atI at h
  cases e : ixN xs.length i with
  | none => rw [e] at h; cases h
  | some j =>
    rw [e] at h
    obtain ⟨h1, h2, h3, h4⟩ := ixN_seq e
    exact ⟨j, h1, h, h2, h3, h4⟩
theorem atI_nat {α : Type} {xs : List α} {j : Nat} {v : α} (h : xs[j]? = some v) : atI xs (j : Int) = some v := by
  have hj : j < xs.length := (List.getElem?_eq_some_iff.mp h).1
  have e : ixN xs.length (j : Int) = some j := by
    unfold ixN
    rw [if_pos (by omega), if_pos (by omega)]; simp
  unfold atI; rw [e]; exact h


noncomputable def PlainIx (b : Expr) : Prop := ∀ o i, subscripted b false o i = operate [o, i] (getItem o i)

noncomputable def IxR (X : Cx) (r : R2) : Prop :=
  ∀ (value slice : Expr) (pins : List (Addr × Obj)) (s : Shared) (σ : St) (H : Hp) (x y : V) (v u : Value) (Q : VK), Inv X pins σ H s → RelV x v → RelV y u → r x y H Q →
    subscripted slice false v u = operate [v, u] (getItem v u) → wpAny (model X.prog X.w) X.A (subscriptTail value slice v u) (EP X pins σ Q) X.xe s

noncomputable def MtR (X : Cx) (id : String) (r : V → List V → Hp → VK → Prop) : Prop :=
  ∀ (pins : List (Addr × Obj)) (s : Shared) (σ : St) (H : Hp) (x : V) (xs : List V) (v : Value) (us : List Value) (Q : VK), Inv X pins σ H s → RelV x v → Vals xs us → r x xs H Q →
    wpAny (model X.prog X.w) X.A (call (.builtin id) (v :: us)) (EP X pins σ Q) X.xe s
section
variable {X : Cx} {a b : Expr} {ta tb : TE} {pos : Pos}
theorem IxR.or {r r' : R2} (h : IxR X r) (h' : IxR X r') : IxR X (fun x y H Q => r x y H Q ∨ r' x y H Q) := by
  intro value slice pins s σ H x y v u Q I rx ry q hs
  rcases q with q | q
  · exact h value slice pins s σ H x y v u Q I rx ry q hs
  · exact h' value slice pins s σ H x y v u Q I rx ry q hs
theorem MtR.or {id : String} {r r' : V → List V → Hp → VK → Prop} (h : MtR X id r) (h' : MtR X id r') : MtR X id (fun x xs H Q => r x xs H Q ∨ r' x xs H Q) := by
  intro pins s σ H x xs v us Q I rx rs q
  rcases q with q | q
  · exact h pins s σ H x xs v us Q I rx rs q
  · exact h' pins s σ H x xs v us Q I rx rs q

theorem pe_ix {r : R2} (hr : IxR X r) (ha : PE X a ta) (hb : PE X b tb) (hs : PlainIx b) : PE X (.Subscript a b pos) (tOp r ta tb) := by
  intro pins s σ H Q I h
  exact Subscript_ (binT ha hb I h fun v u s2 x y H2 I2 rx ry q => hr a b pins s2 σ H2 x y v u Q I2 rx ry q (hs _ _))

noncomputable def rIxL (K : PySem.W.Frag) : R2 := fun x y H Q => ∃ p xs i v, x = .ref p ∧ y = .int i ∧ SqL K H p xs ∧ atI xs i = some v ∧ Q v H
noncomputable def rIxT (K : PySem.W.Frag) : R2 := fun x y H Q => ∃ p xs i v, x = .ref p ∧ y = .int i ∧ SqT K H p xs ∧ atI xs i = some v ∧ Q v H
noncomputable def rIxS : R2 := fun x y H Q => ∃ z i c, x = .str z ∧ y = .int i ∧ z.length ≤ sizeLine ∧ atI z.cps.toList i = some c ∧ Q (.str ⟨#[c]⟩) H
theorem ix_list : IxR X (rIxL X.K) := by
  intro value slice pins s σ H x y v u Q I rx ry h hs
  obtain ⟨p, xs, i, z, rfl, rfl, hq, he, q⟩ := h
  cases rx
  obtain ⟨t, rfl⟩ := ry
  obtain ⟨its, r, pl, hz⟩ := I.list hq
  obtain ⟨j, h1, h2, h3, h4, h5⟩ := atI_get he
  obtain ⟨w, ew, rw'⟩ := r.get h2
  have hl := r.length
  have hn := line63
  have fin : EP X pins σ Q w s := ⟨z, H, I, rw', q⟩
  by_cases h0 : 0 ≤ i
  · have hj : i.toNat = j := by
      rw [seqIndex_of h0 h5] at h1
      exact Option.some.inj h1
    exact item_listR pl.isList h0 (by omega) (by rw [hj]; simpa using ew) fin hs
  · have hj : (i + (its.toArray.size : Int)).toNat = j := by
      rw [seqIndex_neg (by omega) h4] at h1
      rw [List.size_toArray, ← hl]
      exact Option.some.inj h1
    exact subscriptTail_builtinR (x := w) pl.isList.typeIs slot_list_getitem.lookup
      (wpAny_getItem_list_neg (Q := fun r s' => r = w ∧ EP X pins σ Q r s') pl.isList (by omega) (by rw [List.size_toArray] <;> omega) (by omega) (by rw [hj]; simpa using ew) ⟨rfl, fin⟩) hs
theorem ix_tup : IxR X (rIxT X.K) := by
  intro value slice pins s σ H x y v u Q I rx ry h hs
  obtain ⟨p, xs, i, z, rfl, rfl, hq, he, q⟩ := h
  cases rx
  obtain ⟨t, rfl⟩ := ry
  obtain ⟨its, r, pl, hz⟩ := I.tuple hq
  obtain ⟨j, h1, h2, h3, h4, h5⟩ := atI_get he
  obtain ⟨w, ew, rw'⟩ := r.get h2
  have hl := r.length
  have hn := line63
  have fin : EP X pins σ Q w s := ⟨z, H, I, rw', q⟩
  exact subscriptTail_builtinR (x := w) pl.typeIs slot_tuple_getitem.lookup
    (getItem_tuple (j := j) (Q := fun r s' => r = w ∧ EP X pins σ Q r s') pl (by omega) (by omega) (by rw [List.size_toArray, ← hl]; exact h1) (by simpa using ew) ⟨rfl, fin⟩) hs
theorem ix_str : IxR X rIxS := by
  intro value slice pins s σ H x y v u Q I rx ry h hs
  obtain ⟨z, i, c, rfl, rfl, hz, he, q⟩ := h
  obtain ⟨t, rfl⟩ := rx
  obtain ⟨t', rfl⟩ := ry
  obtain ⟨j, h1, h2, h3, h4, h5⟩ := atI_get he
  have hl : z.cps.toList.length = z.length := by simp [Str.length]
  rw [hl] at h1 h4 h5
  have hn := line63
  exact tail_any (typeIs_str s z t) slot_str_getitem.lookup (getItem_str (c := c) (by
    have e1 : decide (i < -(2 ^ 63 : Int)) = false := decide_eq_false (by omega)
    have e2 : decide (i ≥ 2 ^ 63) = false := decide_eq_false (by omega)
    rw [e1, e2, Bool.or_false]) (by rw [h1]; simpa using h2) ⟨.str ⟨#[c]⟩, H, I.tok _, ⟨_, rfl⟩, q⟩) hs


theorem mapSeq_set (its : List Value) (n j : Nat) (u : Value) : Obj.mapSeq (·.setIfInBounds j u) { cls := .type "list", data := .seq its.toArray n } = { cls := .type "list", data := .seq (its.set j u).toArray n } := by
  simp [Obj.mapSeq]
theorem Inv.lst {pins : List (Addr × Obj)} {σ : St} {H : Hp} {s : Shared} {p : Addr} {xs : List V} (I : Inv X pins σ H s) (h : H p = some (.lst xs)) :
    ∃ (its : List Value) (n : Nat), Vals xs its ∧ s.heap.get? p = some { cls := .type "list", data := .seq its.toArray n } ∧ xs.length ≤ sizeLine := by
  obtain ⟨z, its, n, r, e⟩ := I.hok p _ h
  exact ⟨its, n, r, e, z⟩

theorem Inv.lstUpd {pins : List (Addr × Obj)} {σ : St} {H : Hp} {s : Shared} {p : Addr} {xs ys : List V} {its its' : List Value} {n n' : Nat} {f : Obj → Obj} (I : Inv X pins σ H s) (h : H p = some (.lst xs))
    (ho : s.heap.get? p = some { cls := .type "list", data := .seq its.toArray n }) (hf : f { cls := .type "list", data := .seq its.toArray n } = { cls := .type "list", data := .seq its'.toArray n' }) (r : Vals ys its') (hz : ys.length ≤ sizeLine) (t : Nat) :
    Inv X pins σ (upd H p (.lst ys)) { s with heap := s.heap.update p f, toks := t } := by
  have e : (s.heap.update p f).get? p = some { cls := .type "list", data := .seq its'.toArray n' } := by
    rw [Heap.get?_update_self f ho (by rw [hf] <;> rfl), hf]
  refine I.write (x := p) (e := p) (by rw [h]; trivial) (.inl rfl) (fun b u hb q => (Heap.get?_update_other _ _ (Ne.symm hb)).trans q) ⟨_, e⟩ ?_
  exact ⟨hz, its', n', r, e⟩
noncomputable def rSetL : V → V → V → Hp → (Hp → Prop) → Prop := fun o i v H Q => ∃ p xs k j, o = .ref p ∧ i = .int k ∧ H p = some (.lst xs) ∧ ixN xs.length k = some j ∧ Q (upd H p (.lst (xs.set j v)))
theorem set_list : PSet X rSetL := by
  intro pins s σ H o i v ov iv u Q I ro ri rv h
  obtain ⟨p, xs, k, j, rfl, rfl, hp, hj, q⟩ := h
  cases ro
  obtain ⟨t, rfl⟩ := ri
  obtain ⟨its, n, r, ho, hz⟩ := I.lst hp
  obtain ⟨h1, h2, h3, h4⟩ := ixN_seq hj
  have hl := r.length
  have hn := line63
  have I' : Inv X pins σ (upd H p (.lst (xs.set j v))) { s with heap := s.heap.update p (Obj.mapSeq (·.setIfInBounds j u)) } :=
    I.lstUpd hp ho (mapSeq_set its n j u) (r.set rv j) (by rw [List.length_set]; exact hz) s.toks
  by_cases h0 : 0 ≤ k
  · have hk : k.toNat = j := by
      rw [seqIndex_of h0 h4] at h1
      exact Option.some.inj h1
    exact PySem.W.ki_setAt ho h0 (by omega) (by rw [List.size_toArray, ← hl]; exact h4) (by rw [hk]; exact ⟨_, I', q⟩)
  · have hk : (k + (its.toArray.size : Int)).toNat = j := by
      rw [seqIndex_neg (by omega) h3] at h1
      rw [List.size_toArray, ← hl]
      exact Option.some.inj h1
    exact PySem.W.ki_setBack ho (by omega) (by rw [List.size_toArray, ← hl]; exact h3) (by omega) (by rw [hk]; exact ⟨_, I', q⟩)


theorem slice_bounds (lo hi : Option Int) (n : Nat) : (sliceBounds lo hi none n).1 = ((HT.sIx n 0 lo : Nat) : Int) ∧ (sliceBounds lo hi none n).2.1 = ((HT.sIx n n hi : Nat) : Int) ∧ (sliceBounds lo hi none n).2.2 = 1 := by
  refine ⟨?_, ?_, rfl⟩
  · cases lo with
    | none => simp [sliceBounds, HT.sIx]
    | some i =>
      simp only [sliceBounds, HT.sIx, Option.getD_none, show (1 : Int) > 0 by decide, if_true]
      by_cases h : i < 0
      · simp only [h, if_true] <;> omega
      · simp only [h, if_false] <;> omega
  · cases hi with
    | none => simp [sliceBounds, HT.sIx]
    | some i =>
      simp only [sliceBounds, HT.sIx, Option.getD_none, show (1 : Int) > 0 by decide, if_true]
      by_cases h : i < 0
      · simp only [h, if_true] <;> omega
      · simp only [h, if_false] <;> omega
theorem slicePick_cut (its : List Value) (lo hi : Option Int) : slicePick its.toArray lo hi none = ((its.drop (HT.sIx its.length 0 lo)).take (HT.sIx its.length its.length hi - HT.sIx its.length 0 lo)).toArray := by
  obtain ⟨h1, h2, h3⟩ := slice_bounds lo hi its.toArray.size
  unfold slicePick
  rw [h1, h2, h3]
  simp only [sliceRange_one, pick_run, List.size_toArray] <;> rfl

noncomputable def rSlL (K : PySem.W.Frag) : V → Option Int → Option Int → Hp → VK → Prop := fun x lo hi H Q => ∃ a xs, x = .ref a ∧ SqL K H a xs ∧ ∀ p, H p = none → Q (.ref p) (upd H p (.lst (cutV xs lo hi)))
theorem sl_list : SlR X (rSlL X.K) := by
  intro pins s σ H x v vl vu lo hi sl Q I rx hs pl pu h
  obtain ⟨a, xs, rfl, hx, q⟩ := h
  cases rx
  obtain ⟨its, r, ht, hz⟩ := I.list hx
  have hlen := r.length
  refine ⟨"list", _, slot_list_getitem.lookup, ht.isList.typeIs, ?_⟩
  refine wpAny_getItem_list_slice ht.isList hs pl pu .none (by simp) ?_ (by rw [List.size_toArray] <;> omega)
  rw [slicePick_cut, ← hlen]
  refine ⟨.ref s.heap.objs.size, _, I.laid (t' := s.toks) (o := .lst (cutV xs lo hi)) (fun b ob q => Heap.get?_push_of_some _ q) (Nat.le_refl _) ?_, rfl, q _ (I.hok.fresh (Nat.le_refl _))⟩
  exact ⟨Nat.le_trans (cutV_length xs lo hi) hz, _, 0, (r.drop (HT.sIx xs.length 0 lo)).take (HT.sIx xs.length xs.length hi - HT.sIx xs.length 0 lo), Heap.get?_push_size _ rfl⟩


noncomputable def flatV : V → Bool
  | .non => true
  | .bl _ => true
  | .int _ => true
  | .str _ => true
  | _ => false

noncomputable def eqV : V → V → Bool
  | .non, .non => true
  | .bl a, .bl b => a == b
  | .bl a, .int b => (if a then 1 else 0) == b
  | .int a, .bl b => a == (if b then 1 else 0)
  | .int a, .int b => a == b
  | .str a, .str b => a == b
  | _, _ => false
theorem eqAt_V {A : Around} {s : Shared} {y x : V} {u v : Value} (ry : RelV y u) (rx : RelV x v) (fy : flatV y = true) (fx : flatV x = true) : SeqAt.EqAt A s u v (eqV y x) := by
  cases y with
  | non =>
    cases ry
    cases x with
    | non => cases rx; exact SeqAt.EqAt.same _
    | bl b => cases rx; exact SeqAt.EqAt.none_bool b
    | int b => obtain ⟨t, rfl⟩ := rx; exact SeqAt.EqAt.none_int b t
    | str b => obtain ⟨t, rfl⟩ := rx; exact SeqAt.EqAt.none_str b t
    | _ => exact absurd (show false = true from fx) Bool.false_ne_true
  | bl a =>
    cases ry
    cases x with
    | non => cases rx; exact SeqAt.EqAt.bool_none a
    | bl b => cases rx; exact SeqAt.EqAt.bool_bool a b
    | int b => obtain ⟨t, rfl⟩ := rx; exact SeqAt.EqAt.bool_int a b t
    | str b => obtain ⟨t, rfl⟩ := rx; exact SeqAt.EqAt.bool_str a b t
    | _ => exact absurd (show false = true from fx) Bool.false_ne_true
  | int a =>
    obtain ⟨t', rfl⟩ := ry
    cases x with
    | non => cases rx; exact SeqAt.EqAt.int_none a t'
    | bl b => cases rx; exact SeqAt.EqAt.int_bool a t' b
    | int b => obtain ⟨t, rfl⟩ := rx; exact SeqAt.EqAt.int_int a t' b t
    | str b => obtain ⟨t, rfl⟩ := rx; exact SeqAt.EqAt.int_str a t' b t
    | _ => exact absurd (show false = true from fx) Bool.false_ne_true
  | str a =>
    obtain ⟨t', rfl⟩ := ry
    cases x with
    | non => cases rx; exact SeqAt.EqAt.str_none a t'
    | bl b => cases rx; exact SeqAt.EqAt.str_bool a t' b
    | int b => obtain ⟨t, rfl⟩ := rx; exact SeqAt.EqAt.str_int a t' b t
    | str b => obtain ⟨t, rfl⟩ := rx; exact SeqAt.EqAt.str_str a t' b t
    | _ => exact absurd (show false = true from fx) Bool.false_ne_true
  | _ => exact absurd (show false = true from fy) Bool.false_ne_true

noncomputable def eqU (x : V) (u : Value) : Bool := match u with
  | .none => eqV .non x
  | .bool b => eqV (.bl b) x
  | .int i _ => eqV (.int i) x
  | .str z _ => eqV (.str z) x
  | _ => false
theorem eqU_of {x y : V} {u : Value} (r : RelV y u) (f : flatV y = true) : eqU x u = eqV y x := by
  cases y with
  | non => cases r; rfl
  | bl b => cases r; rfl
  | int i => obtain ⟨t, rfl⟩ := r; rfl
  | str z => obtain ⟨t, rfl⟩ := r; rfl
  | _ => exact absurd (show false = true from f) Bool.false_ne_true
theorem any_eqU {x : V} : ∀ {xs : List V} {us : List Value}, Vals xs us → xs.all flatV = true → us.any (eqU x) = xs.any fun y => eqV y x
  | _, _, .nil, _ => rfl
  | y :: xs, u :: us, .cons r t, f => by
    rw [List.all_cons, Bool.and_eq_true] at f
    rw [List.any_cons, List.any_cons, eqU_of r f.1, any_eqU t f.2]
theorem mem_eqAt {A : Around} {s : Shared} {x : V} {v : Value} (rx : RelV x v) (fx : flatV x = true) : ∀ {xs : List V} {us : List Value}, Vals xs us → xs.all flatV = true → ∀ u ∈ us, SeqAt.EqAt A s u v (eqU x u)
  | _, _, .nil, _ => fun u hu => by cases hu
  | y :: xs, u :: us, .cons r t, f => fun u' hu => by
    rw [List.all_cons, Bool.and_eq_true] at f
    rcases List.mem_cons.mp hu with rfl | hu
    · rw [eqU_of r f.1]; exact eqAt_V r rx f.1 fx
    · exact mem_eqAt rx fx t f.2 u' hu
noncomputable def inV (x : V) (xs : List V) : Bool := xs.any fun y => eqV y x

noncomputable def rIn (K : PySem.W.Frag) (neg : Bool) : R2 := fun x y H Q => ∃ p xs, y = .ref p ∧ (SqL K H p xs ∨ SqT K H p xs) ∧ flatV x = true ∧ xs.all flatV = true ∧ Q (.bl (if neg then !inV x xs else inV x xs)) H
theorem op_in_seq : OpR X (compareOp .In) (rIn X.K false) := by
  intro pins s σ H x y v u Q I rx ry h
  obtain ⟨p, xs, rfl, hq, fx, fs, q⟩ := h
  cases ry
  rcases hq with hq | hq
  · obtain ⟨its, r, pl, hz⟩ := I.list hq
    refine SeqAt.in_listAt (eqU x) pl.isList (fun w hw => mem_eqAt rx fx r fs w (by simpa using hw)) ⟨.bl _, H, I, rfl, ?_⟩
    rw [show its.toArray.any (eqU x) = its.any (eqU x) by simp, any_eqU r fs]
    exact q
  · obtain ⟨its, r, pl, hz⟩ := I.tuple hq
    refine SeqAt.in_tupleAt (eqU x) pl (fun w hw => mem_eqAt rx fx r fs w (by simpa using hw)) ⟨.bl _, H, I, rfl, ?_⟩
    rw [show its.toArray.any (eqU x) = its.any (eqU x) by simp, any_eqU r fs]
    exact q
theorem op_notIn_seq : OpR X (compareOp .NotIn) (rIn X.K true) := by
  intro pins s σ H x y v u Q I rx ry h
  obtain ⟨p, xs, rfl, hq, fx, fs, q⟩ := h
  cases ry
  rcases hq with hq | hq
  · obtain ⟨its, r, pl, hz⟩ := I.list hq
    refine SeqAt.notIn_listAt (eqU x) pl.isList (fun w hw => mem_eqAt rx fx r fs w (by simpa using hw)) ⟨.bl _, H, I, rfl, ?_⟩
    rw [show its.toArray.any (eqU x) = its.any (eqU x) by simp, any_eqU r fs]
    exact q
  · obtain ⟨its, r, pl, hz⟩ := I.tuple hq
    refine SeqAt.notIn_tupleAt (eqU x) pl (fun w hw => mem_eqAt rx fx r fs w (by simpa using hw)) ⟨.bl _, H, I, rfl, ?_⟩
    rw [show its.toArray.any (eqU x) = its.any (eqU x) by simp, any_eqU r fs]
    exact q
theorem op_notIn_str : OpR X (compareOp .NotIn) (fun x y H Q => ∃ i j, x = .str i ∧ y = .str j ∧ Q (.bl (!(!(Builtin.Str.occurrences j i 0 j.length 1).isEmpty))) H) := by
  intro pins s σ H x y v u Q I rx ry h
  obtain ⟨i, j, rfl, rfl, q⟩ := h
  obtain ⟨t, rfl⟩ := rx
  obtain ⟨t', rfl⟩ := ry
  exact notIn_str ⟨.bl _, H, I, rfl, q⟩


theorem CallR.or {f : Value} {r r' : List V → Hp → VK → Prop} (h : CallR X f r) (h' : CallR X f r') : CallR X f (fun xs H Q => r xs H Q ∨ r' xs H Q) := by
  intro pins s σ H xs us Q I rs q
  rcases q with q | q
  · exact h pins s σ H xs us Q I rs q
  · exact h' pins s σ H xs us Q I rs q
theorem call_tuple_of : CallR X (.type "tuple") (fun xs H Q => ∃ p ys, xs = [.ref p] ∧ ((SqL X.K H p ys ∧ ∀ l, H l = none → Q (.ref l) (upd H l (.tup ys))) ∨ (SqT X.K H p ys ∧ Q (.ref p) H))) := by
  intro pins s σ H xs us Q I r h
  obtain ⟨p, ys, rfl, h⟩ := h
  obtain ⟨u, rfl, rx⟩ := vals1 r
  cases rx
  rcases h with ⟨hq, q⟩ | ⟨hq, q⟩
  · obtain ⟨its, r', pl, hz⟩ := I.list hq
    have hlen := r'.length
    refine call_tuple_list pl.isList (fun h' kp => ?_) (by simp only [List.size_toArray] <;> omega)
    have I1 : Inv X pins σ H { s with heap := h' } := I.kept (t' := s.toks) kp
    have I2 : Inv X pins σ (upd H h'.objs.size (.tup ys)) { s with heap := h'.push { cls := .type "tuple", data := .seq its.toArray } } :=
      I1.laid (t' := s.toks) (fun b o e => Heap.get?_push_of_some _ e) (Nat.le_refl _) (show ObjOk X.prog X.w _ _ _ (.tup ys) from ⟨hz, its, r', IsTup.new _ _⟩)
    exact ⟨.ref h'.objs.size, _, I2, rfl, q _ (I1.hok.fresh (Nat.le_refl _))⟩
  · obtain ⟨its, r', pl, hz⟩ := I.tuple hq
    exact call_tuple_same pl ⟨.ref p, H, I, rfl, q⟩



noncomputable def tyV (K : PySem.W.Frag) (T : String) (x : V) (H : Hp) : Prop := match x with
  | .str _ => T = "str"
  | .int _ => T = "int"
  | .ref p => (T = "list" ∧ ∃ xs, SqL K H p xs) ∨ (T = "tuple" ∧ ∃ o, K.lookup p = some o ∧ o.cls = .type "tuple" ∧ o.dict = none) ∨
      (T = "dict" ∧ ((∃ kvs, H p = some (.dK kvs)) ∨ ∃ kvs, H p = some (.dT kvs))) ∨ (T = "set" ∧ ∃ S n, H p = some (.set S n))
  | _ => False
theorem tyV_is {pins : List (Addr × Obj)} {σ : St} {H : Hp} {s : Shared} {T : String} {x : V} {v : Value} (I : Inv X pins σ H s) (r : RelV x v) (ty : tyV X.K T x H) :
    s.TypeIs v T ∧ ∀ a, v = .ref a → ∃ ob, s.heap.get? a = some ob ∧ ob.dict = none := by
  cases x with
  | str z =>
    obtain ⟨t, rfl⟩ := r
    cases (show T = "str" from ty)
    exact ⟨typeIs_str s z t, fun _ e => nomatch e⟩
  | int i =>
    obtain ⟨t, rfl⟩ := r
    cases (show T = "int" from ty)
    exact ⟨typeIs_int s i t, fun _ e => nomatch e⟩
  | ref p =>
    cases r
    rcases ty with ⟨rfl, xs, hq⟩ | ⟨rfl, o, hk, hc, hd⟩ | ⟨rfl, hk⟩ | ⟨rfl, S, n, hk⟩
    · obtain ⟨its, _, pl, _⟩ := I.list hq
      refine ⟨pl.isList.typeIs, fun a e => ?_⟩
      cases e
      obtain ⟨o, n, e, c, hd, _⟩ := pl
      exact ⟨o, e, hd⟩
    · refine ⟨⟨o, I.kIn p o hk, hc⟩, fun a e => ?_⟩
      cases e
      exact ⟨o, I.kIn _ o hk, hd⟩
    · have z : ∃ o, s.heap.get? p = some o ∧ o.ExactDict := by
        rcases hk with ⟨kvs, hk⟩ | ⟨kvs, hk⟩
        · obtain ⟨_, _, _, _, o, _, _, e, ex, _⟩ := I.hok p _ hk
          exact ⟨o, e, ex⟩
        · obtain ⟨_, _, _, _, o, _, _, e, ex, _⟩ := I.hok p _ hk
          exact ⟨o, e, ex⟩
      obtain ⟨o, e, ex⟩ := z
      refine ⟨⟨o, e, ex.1⟩, fun a e2 => ?_⟩
      cases e2
      exact ⟨o, e, ex.2.1⟩
    · obtain ⟨o, _, _, _, e, ex, _⟩ := I.hok p _ hk
      refine ⟨⟨o, e, ex.1⟩, fun a e2 => ?_⟩
      cases e2
      exact ⟨o, e, ex.2.1⟩
  | _ => exact False.elim ty
variable {o e : Expr} {es : List Expr} {to : TE} {t : TA} {name : Str} {apos cpos : Pos} {T id : String} {r : V → List V → Hp → VK → Prop}
/- xs.append(e), list.index on a module's tuple .. are MtR facts of 06m -/
end
end L2

namespace L2
open PySem PySem.Spec PyProof.Rows

noncomputable def MtM (X : Cx) (id : String) (r : V → List V → Hp → VK → Prop) : Prop :=
  ∀ (pins : List (Addr × Obj)) (s : Shared) (σ : St) (H : Hp) (x : V) (xs : List V) (v : Value) (us : List Value) (Q : VK), Inv X pins σ H s → RelV x v → Vals xs us → r x xs H Q →
    wpAny (model X.prog X.w) X.A (call (.builtin id) (v :: us)) (EP X pins σ Q) X.xe s


theorem Vals.one : ∀ {x : V} {us : List Value}, Vals [x] us → ∃ u, us = [u] ∧ RelV x u
  | _, _, .cons r .nil => ⟨_, rfl, r⟩
theorem Vals.two : ∀ {x y : V} {us : List Value}, Vals [x, y] us → ∃ u v, us = [u, v] ∧ RelV x u ∧ RelV y v
  | _, _, _, .cons r (.cons q .nil) => ⟨_, _, rfl, r, q⟩
theorem Vals.zero : ∀ {us : List Value}, Vals [] us → us = []
  | _, .nil => rfl
theorem Vals.dropLast {xs : List V} {us : List Value} (h : Vals xs us) : Vals xs.dropLast us.dropLast := by
  induction h with
  | nil => exact .nil
  | cons r t ih =>
    cases t with
    | nil => exact .nil
    | cons q t' => exact .cons r ih
theorem Vals.eraseIdx : ∀ {xs : List V} {us : List Value} (i : Nat), Vals xs us → Vals (xs.eraseIdx i) (us.eraseIdx i)
  | _, _, _, .nil => .nil
  | _, _, 0, .cons _ t => t
  | _, _, i + 1, .cons r t => .cons r (Vals.eraseIdx i t)
theorem Vals.reverse {xs : List V} {us : List Value} (h : Vals xs us) : Vals xs.reverse us.reverse := by
  induction h with
  | nil => exact .nil
  | cons r t ih => rw [List.reverse_cons, List.reverse_cons]; exact Vals.append ih (.cons r .nil)
theorem Vals.rep {xs : List V} {us : List Value} (h : Vals xs us) : ∀ k : Nat, Vals (List.replicate k xs).flatten (List.replicate k us).flatten
  | 0 => .nil
  | k + 1 => by
    rw [List.replicate_succ, List.replicate_succ, List.flatten_cons, List.flatten_cons]
    exact Vals.append h (Vals.rep h k)
theorem foldl_rep (its : List Value) : ∀ (k : Nat) (acc : List Value),
    List.foldl (fun x1 x2 => x1 ++ x2) acc.toArray (List.replicate k its.toArray) = (acc ++ (List.replicate k its).flatten).toArray
  | 0, acc => by simp
  | k + 1, acc => by
    have e : acc.toArray ++ its.toArray = (acc ++ its).toArray := by simp
    have e2 : (acc ++ its) ++ (List.replicate k its).flatten = acc ++ (List.replicate (k + 1) its).flatten := by
      rw [List.replicate_succ, List.flatten_cons, List.append_assoc]
    rw [← e2, ← foldl_rep its k (acc ++ its), ← e, List.replicate_succ, List.foldl_cons]

section
variable {X : Cx} {pins : List (Addr × Obj)} {σ : St} {H : Hp} {s : Shared} {l b : Addr} {xs ys zs : List V}


theorem Inv.lset {its its' : List Value} {n : Nat} {f : Array Value → Array Value} {t' : Nat} (I : Inv X pins σ H s) (hH : H l = some (.lst xs))
    (e : s.heap.get? l = some { cls := .type "list", data := .seq its.toArray n }) (hf : f its.toArray = its'.toArray) (hv : Vals ys its') (hz : ys.length ≤ sizeLine) :
    Inv X pins σ (upd H l (.lst ys)) { s with heap := s.heap.update l (Obj.mapSeq f), toks := t' } := by
  have q := PySem.IsL.update e f
  rw [hf] at q
  refine I.write (x := l) (e := l) (by rw [hH]; exact trivial) (.inl rfl) (fun b' u hb hu => (Heap.get?_update_other s.heap (Obj.mapSeq f) (Ne.symm hb)).trans hu) ⟨_, q⟩ ?_
  exact ⟨hz, its', _, hv, q⟩
theorem Inv.lnew {its : List Value} {t' : Nat} (I : Inv X pins σ H s) (hv : Vals ys its) (hz : ys.length ≤ sizeLine) :
    Inv X pins σ (upd H s.heap.objs.size (.lst ys)) { s with heap := s.heap.push { cls := .type "list", data := .seq its.toArray }, toks := t' } :=
  I.laid (fun _ _ q => Heap.get?_push_of_some _ q) (Nat.le_refl _) ⟨hz, its, 0, hv, Heap.get?_push_size _ rfl⟩
theorem Inv.fresh (I : Inv X pins σ H s) : H s.heap.objs.size = none := I.hok.fresh (Nat.le_refl _)
theorem Inv.lstM (I : Inv X pins σ H s) (hH : H l = some (.lst xs)) : xs.length ≤ sizeLine ∧ ∃ (its : List Value) (n : Nat), Vals xs its ∧ xs.length = its.length ∧ s.heap.get? l = some { cls := .type "list", data := .seq its.toArray n } := by
  obtain ⟨z, its, n, r, e⟩ := I.hok l _ hH
  exact ⟨z, its, n, r, r.length, e⟩

theorem notLongL {n : Nat} (h : n ≤ sizeLine) : Builtin.List.listTooLong n = false := by
  unfold Builtin.List.listTooLong
  exact decide_eq_false (by omega)
end

section
variable {X : Cx}


noncomputable def rAppend : V → List V → Hp → VK → Prop := fun x vs H Q => ∃ l xs y, x = .ref l ∧ vs = [y] ∧ H l = some (.lst xs) ∧ xs.length < sizeLine ∧ Q .non (upd H l (.lst (xs ++ [y])))
theorem mt_append : MtM X "list.append" rAppend := by
  intro pins s σ H x vs v us Q I rx rv h
  obtain ⟨l, xs, y, rfl, rfl, hH, hz, q⟩ := h
  cases rx
  obtain ⟨u, rfl, ru⟩ := rv.one
  obtain ⟨z, its, n, r, hl, e⟩ := I.lstM hH
  refine call_meets F.slot_list_append ⟨_, e, rfl⟩ F.entry_list_append (F.args_list_append_2 _ _) (PySem.list_append l its.toArray n u (by rw [List.size_toArray]; omega)) ⟨e, ?_⟩
  refine ⟨.non, _, I.lset (its' := its ++ [u]) hH e (by simp) (r.append (.cons ru .nil)) ?_, rfl, q⟩
  rw [List.length_append, List.length_singleton]
  omega

noncomputable def rExtend : V → List V → Hp → VK → Prop := fun x vs H Q => ∃ l b xs zs, x = .ref l ∧ vs = [.ref b] ∧ H l = some (.lst xs) ∧ H b = some (.lst zs) ∧ xs.length + zs.length ≤ sizeLine ∧ Q .non (upd H l (.lst (xs ++ zs)))
theorem mt_extend : MtM X "list.extend" rExtend := by
  intro pins s σ H x vs v us Q I rx rv h
  obtain ⟨l, b, xs, zs, rfl, rfl, hH, hB, hz, q⟩ := h
  cases rx
  obtain ⟨u, rfl, ru⟩ := rv.one
  cases ru
  obtain ⟨z, its, n, r, hl, e⟩ := I.lstM hH
  obtain ⟨z2, its2, n2, r2, hl2, e2⟩ := I.lstM hB
  have hsz : its.toArray.size + its2.toArray.size ≤ sizeLine := by rw [List.size_toArray, List.size_toArray]; omega
  have hlong : ¬ (!its.toArray.isEmpty && Builtin.List.listTooLong (its.toArray.size + its2.toArray.size)) = true := by
    rw [notLongL hsz, Bool.and_false]
    exact Bool.false_ne_true
  refine call_meets F.slot_list_extend ⟨_, e, rfl⟩ F.entry_list_extend (F.args_list_extend_2 _ _)
    (AutoSeq1.list_extend_list_list_0 l its.toArray n b its2.toArray n2 hlong (by rw [List.size_toArray]; omega) (by omega)) ⟨e, e2, ?_⟩
  refine ⟨.non, _, I.lset (its' := its ++ its2) hH e (by simp) (r.append r2) ?_, rfl, q⟩
  rw [List.length_append]
  omega


noncomputable def rCat : R2 := fun x y H Q => ∃ l b xs zs, x = .ref l ∧ y = .ref b ∧ H l = some (.lst xs) ∧ H b = some (.lst zs) ∧ xs.length + zs.length ≤ sizeLine ∧ ∀ p, H p = none → Q (.ref p) (upd H p (.lst (xs ++ zs)))
theorem op_cat : OpR X (binaryOp .Add) rCat := by
  intro pins s σ H x y v u Q I rx ry h
  obtain ⟨l, b, xs, zs, rfl, rfl, hH, hB, hz, q⟩ := h
  cases rx
  cases ry
  obtain ⟨z, its, n, r, hl, e⟩ := I.lstM hH
  obtain ⟨z2, its2, n2, r2, hl2, e2⟩ := I.lstM hB
  refine PySem.P.add_list e e2 ?_ (by rw [List.size_toArray, List.size_toArray]; omega)
  have ea : its.toArray ++ its2.toArray = (its ++ its2).toArray := by simp
  rw [ea]
  exact ⟨.ref _, _, I.lnew (t' := s.toks) (r.append r2) (by rw [List.length_append]; omega), rfl, q _ I.fresh⟩

noncomputable def rRep : R2 := fun x y H Q => ∃ l k xs, x = .ref l ∧ y = .int k ∧ H l = some (.lst xs) ∧ -(2 ^ 63) ≤ k ∧ k < 2 ^ 63 ∧ xs.length * k.toNat ≤ sizeLine ∧
  ∀ p, H p = none → Q (.ref p) (upd H p (.lst (List.replicate k.toNat xs).flatten))
theorem len_rep {α : Type} (xs : List α) (k : Nat) : (List.replicate k xs).flatten.length = k * xs.length := by
  induction k with
  | zero => simp
  | succ k ih => rw [List.replicate_succ, List.flatten_cons, List.length_append, ih, Nat.succ_mul, Nat.add_comm]
theorem op_rep : OpR X (binaryOp .Mult) rRep := by
  intro pins s σ H x y v u Q I rx ry h
  obtain ⟨l, k, xs, rfl, rfl, hH, h1, h2, hz, q⟩ := h
  cases rx
  obtain ⟨t, rfl⟩ := ry
  obtain ⟨z, its, n, r, hl, e⟩ := I.lstM hH
  have hlen : its.toArray.size * k.toNat ≤ sizeLine := by rw [List.size_toArray, ← hl]; exact hz
  have hcap : ¬ its.toArray.size * k.toNat > (2 ^ 63 - 1) / 8 := by
    have : (sizeLine : Nat) ≤ (2 ^ 63 - 1) / 8 := by decide
    omega
  have hfit : ¬ (!Builtin.List.listFitsIndex k) = true := by
    rw [fitsIndex_both h1 h2]
    exact Bool.false_ne_true
  have hlong : ¬ Builtin.List.listTooLong (its.toArray.size * k.toNat) = true := by
    rw [notLongL hlen]
    exact Bool.false_ne_true
  have hnew : List.foldl (fun x1 x2 => x1 ++ x2) #[] (List.replicate (if its.toArray.isEmpty = true then 0 else k.toNat) its.toArray) = (List.replicate k.toNat its).flatten.toArray := by
    have f0 : ∀ m : Nat, List.foldl (fun x1 x2 => x1 ++ x2) #[] (List.replicate m its.toArray) = (List.replicate m its).flatten.toArray := fun m => by
      have := foldl_rep its m []
      rw [List.nil_append] at this
      exact this
    rw [f0]
    cases its with
    | nil => simp
    | cons a r' => rw [if_neg (by simp)]
  refine wpAny_binaryOp_repeat_ref (T := "list") (U := "int") (by decide) ⟨_, e, rfl⟩ (fun s' => typeIs_int s' k t) noFill_list_mul F.fills_int_mul F.slot_int_rmul repeat_list F.slot_int_index.lookup
    (call_meets F.slot_int_rmul (typeIs_int s k t) F.entry_int_rmul (F.args_int_rmul_2 _ _) (int___rmul___int_list k t l its.toArray n)
      ⟨e, rfl, ⟨_, e, rfl⟩, call_meets F.slot_list_mul ⟨_, e, rfl⟩ F.entry_list_mul (F.args_list_mul_2 _ _) (AutoListH.list___mul___list_int_3 l its.toArray n k t hfit hcap hlong) ⟨e, ?_⟩⟩)
  rw [hnew]
  exact ⟨.ref _, _, I.lnew (t' := s.toks) (r.rep k.toNat) (by rw [len_rep, Nat.mul_comm]; exact hz), rfl, q _ I.fresh⟩


end


section
variable {prog : Program} {w : World} {A : Around} {E : Value → Shared → Prop} {s : Shared}
end

section
variable {X : Cx}
end
end L2

namespace Att
open PySem PySem.W PySem.Calls PyProof.Rows


theorem ints_of_wellAll {P : Params} {h : Heap} : ∀ (ns : List Int) (vs : List Value), WellAll P h vs (ns.map WData.int) → IntsAre vs ns := by
  intro ns
  induction ns with
  | nil =>
    intro vs w
    rw [List.map_nil] at w
    cases w
    exact .nil
  | cons n ns ih =>
    intro vs w
    rw [List.map_cons] at w
    cases w with
    | cons a b =>
      cases a
      exact .cons _ _ (ih _ b)

theorem script_of {l : OpenLaw} {n : Nat} (hn : l.most = some n) {P : Params} {h : Heap} {args : List WData} {vals : List Value}
    (hpre : l.row.toRowW.claim.pre args = true) (hwl : WellAll P h vals args) :
    ∃ a vs ns, vals = [Value.ref a] ∧ args = [WData.list (ns.map WData.int)] ∧ h.get? a = some { cls := .type "list", data := .seq vs.toArray } ∧ IntsAre vs ns ∧ ns.length ≤ n := by
  have hsh : WShape.hasAll [] args [.list .int] = true := (pre_splitW hpre).1
  have hc : l.pre.holds [] { args := args } = true := (pre_splitW hpre).2
  obtain ⟨d, r, rfl, h1, h2⟩ := hasAllW_cons hsh
  obtain rfl := hasAllW_nil h2
  obtain ⟨xs, rfl, h3⟩ := hasW_list h1
  obtain ⟨ns, rfl⟩ := items_int h3
  have hlen : ns.length ≤ n := by
    unfold OpenLaw.pre at hc
    have h4 : (WTm.not (.lt (.lit (.int (n : Int))) (.len (.arg 0)))).holds [] { args := [.list (ns.map .int)] } = true := by
      have h4 := (holds_andW hc).1
      rw [hn] at h4
      exact h4
    have h5 := condW_of h4 (w_not (w_lt w_lit (w_len_list (w_arg rfl))))
    rw [List.length_map] at h5
    refine Nat.le_of_not_lt fun q => ?_
    have q' : (n : Int) < ((ns.length : Nat) : Int) := by omega
    first
      | (rw [decide_eq_true q'] at h5; exact absurd h5 (by decide))
      | (simp at h5; omega)
  cases hwl with
  | cons w1 w2 =>
    cases w2
    cases w1 with
    | list ho hall => exact ⟨_, _, ns, rfl, rfl, ho, ints_of_wellAll ns _ hall, hlen⟩

theorem post_true (l : OpenLaw) (args : List WData) : l.row.toRowW.claim.post args (.bool true) args = true :=
  postW_of (r := l.row.toRowW) (X := (true == true))
    (show WShape.has [] (.bool true) .bool = true by first | rfl | decide | simp [WShape.has, WShape.arms, WShape.armsAll])
    (show (WTm.eq .res (.lit (.bool true))).value [] { args := args, res := some (.bool true), after := args } = some (.bool (true == true)) from w_eq_bool (w_res rfl) w_lit) rfl



theorem attach_call {l : OpenLaw} {n : Nat} {q : Program} {loose : List Str} {XP : (Str → Option Value) → Heap → Prop} {YP : World → Heap → Prop} {d : DefRec}
    (hn : l.most = some n) (hdf : d.params.defaults = [])
    (call : ∀ (w : World) (s₀ s₁ : Shared) (mg mb : Str → Option Value) (fa : Addr) (o : Obj) (pm cd doc : Value) (a : Addr) (vs : List Value) (ns : List Int),
      Ground q loose [] XP w s₀ mg mb s₁.heap → YP w s₁.heap →
      s₁.heap.get? fa = some o → o.data = .func (docDef d.name d.params d.body d.scope pm cd doc) → s₁.heap.CodeRec cd d.name → mg d.name = some (.ref fa) →
      s₁.heap.get? a = some { cls := .type "list", data := .seq vs.toArray } → IntsAre vs ns → ns.length ≤ n → s₁.gens = #[] →
      codeAny (model l.prog w) callerA (.call (.ref fa) ⟨[.ref a], []⟩) (fun r s' => r = .ok (.ret (.bool true)) ∧ OldK s₁.heap s'.heap ∧ s'.os = s₁.os ∧ AllBare s'.gens) s₁) :
    WalkO q loose XP YP l.row.toRowW d [] (fun f vs => PySem.call f vs) := by
  intro w s₀ s₁ mg mb G Y fa o pm cd doc dV kV ho hd hcd hD hmg hg args vals as hpre hlay hrd hwl hlo
  obtain rfl : dV = .none := Dflts.none hD hdf
  obtain rfl : kV = .none := Dflts.noKw hD
  obtain ⟨a, vs, ns, rfl, rfl, hobj, hints, hlen⟩ := script_of hn hpre hwl
  refine enter_call (codeAny_mono (call w s₀ s₁ mg mb fa o pm cd doc a vs ns G Y ho (fd_plain hd) hcd hmg hobj hints hlen hg) fun r s' hq => ?_)
  obtain ⟨rfl, h2, h3, h4⟩ := hq
  exact ⟨.inl ⟨.bool true, .bool true, [], rfl, fun _ => rfl, .bool true, post_true l _, fun _ => ⟨List.Pairwise.nil, fun _ hm => (nomatch hm)⟩⟩, h2, h3, h4⟩


section
variable {prog : Program} {w : World} {A : Around} {E : Value → Shared → Prop} {s : Shared} {K : Frag}


noncomputable def ledger (h : Heap) (L d : Addr) : List (Addr × Obj) := (List.range h.objs.size).filterMap fun a => if a = L ∨ a = d then none else (h.get? a).map fun o => (a, o)
end
end Att

namespace L2
open PySem PySem.Spec PyProof.Rows

theorem vals_ints : ∀ {vs : List Value} {ns : List Int}, IntsAre vs ns → Vals (ns.map V.int) vs
  | _, _, .nil => .nil
  | _, _, .cons n t h => .cons ⟨t, rfl⟩ (vals_ints h)


noncomputable def Only (H : Hp) : Prop := ∀ b, H b = none ∨ ∃ o xs, H b = some (.frz o (.lst xs))


theorem law_call {P : Program} {w : World} {K : PySem.W.Frag} {mg mb : Str → Option Value} {CX : CXT} {k : Nat} {fa a : Addr} {fd : FuncData} {x : Str} {sp : Sp} {s₁ : Shared} {vs : List Value} {ns : List Int}
    (KX : K.In s₁.heap) (hns : s₁.heap.Ns mainGlobals mg) (hb : s₁.heap.Ns builtinsNs mb) (hbb : ∀ x : Str, x ≠ "__name__" → mb x = bootBuiltins x) (hlim : s₁.heap.NoLimit) (hg : s₁.gens = #[])
    (ha : s₁.heap.get? a = some { cls := .type "list", data := .seq vs.toArray }) (hi : IntsAre vs ns) (hl : ns.length ≤ sizeLine) (hr : Room k callerA)
    (F : ∀ base : Heap, K.In base → base.Ns mainGlobals mg → FnOk P w K mg base CX k fa fd [x] sp) (hbind : ∀ (s : Shared) (u : Value), BindsTo s fd ⟨[u], []⟩ [(x, u)])
    (hsp : ∀ H : Hp, Only H → SqL K H a (ns.map V.int) → sp [.ref a] H (fun v _ => v = .bl true) fun _ _ _ => False)
    (hCX : ∀ H e s', CX [] H s₁ (fun _ _ _ => False) e s' → False) :
    codeAny (model P w) callerA (.call (.ref fa) ⟨[.ref a], []⟩) (fun r s' => r = .ok (.ret (.bool true)) ∧ OldK s₁.heap s'.heap ∧ s'.os = s₁.os ∧ AllBare s'.gens) s₁ := by
  have rv := vals_ints hi
  have lenV := hi.length
  -- from an abstract heap in which nothing but the script may be tracked
  have core : ∀ H : Hp, Only H → SqL K H a (ns.map V.int) → HOk P w H s₁.heap → (∀ b, H b ≠ none → b = a) → (H a ≠ none → K.lookup a = none) →
      codeAny (model P w) callerA (.call (.ref fa) ⟨[.ref a], []⟩) (fun r s' => r = .ok (.ret (.bool true)) ∧ OldK s₁.heap s'.heap ∧ s'.os = s₁.os ∧ AllBare s'.gens) s₁ := by
    intro H hO hS hok hA hK
    have base_of : ∀ {b : Addr} {o : Obj}, s₁.heap.get? b = some o → H b = none → (hidT s₁.heap H).get? b = some o := fun e n => hidT_get e n
    have noA : ∀ {b : Addr} {o : Obj} {es : Array DictEntry} {ep : Nat}, s₁.heap.get? b = some o → o.data = .dict es ep → H b = none := fun {b o es ep} e d => by
      cases q : H b with
      | none => rfl
      | some u =>
        have e' : b = a := hA b (by rw [q]; simp)
        subst e'
        rw [ha] at e; cases e
        have d' : Data.seq vs.toArray _ = Data.dict es ep := d
        cases d'
    have nsK : ∀ {b : Addr} {m : Str → Option Value}, s₁.heap.Ns b m → (hidT s₁.heap H).Ns b m := fun {b m} ⟨o, es, ep, e, d, r⟩ => ⟨o, es, ep, base_of e (noA e d), d, r⟩
    have hKb : K.In (hidT s₁.heap H) := fun b o e => base_of (KX b o e) (by
      cases q : H b with
      | none => rfl
      | some u =>
        have e' : b = a := hA b (by rw [q]; simp)
        subst e'
        rw [hK (by rw [q]; simp)] at e; cases e)
    have hM : Mod K mg (hidT s₁.heap H) := ⟨hKb, nsK hns, ⟨mb, nsK hb, hbb⟩, let ⟨mc, h1, h2⟩ := hlim; ⟨mc, nsK h1, h2⟩⟩
    have e0 : Env0 P w K mg (hidT s₁.heap H) callerA [] s₁ H := ⟨rfl, hM, fun b o e => of_hidT e, Nat.le_of_eq (hidT_size _ _), trivial, fun b hb => absurd (show b ∈ ([] : List Addr) from hb) (by simp), hok, .of_eq hg⟩
    refine codeAny_mono ((F _ hKb (nsK hns)).run callerA [] s₁ H ⟨[.ref a], []⟩ [.ref a] [.ref a] _ _ hr e0 (hbind s₁ (.ref a)) (.cons rfl .nil) (hsp H hO hS)) fun r s' h => ?_
    cases r with
    | error e => exact (hCX H e s' h).elim
    | ok fl =>
      cases fl with
      | next => exact False.elim h
      | brk => exact False.elim h
      | cont => exact False.elim h
      | ret u =>
        obtain ⟨v, H', os, bare, un, hok', r', q⟩ := h
        have q' : v = .bl true := q
        subst q'
        obtain rfl : u = Value.bool true := r'
        refine ⟨rfl, OldK.of_keep fun b o e => ?_, os, bare⟩
        cases q : H b with
        | none => exact un.keep b o e q (by intro z; exact absurd (show b ∈ ([] : List Addr) from z) (by simp)) (by simp)
        | some u =>
          rcases hO b with z | ⟨ob, xs, z⟩
          · rw [q] at z; cases z
          · have z2 := un.frzs b ob _ z
            obtain ⟨e1, _⟩ := hok b _ z
            obtain ⟨e2, _⟩ := hok' b _ z2
            rw [e] at e1; cases e1
            exact e2
  cases hk : K.lookup a with
  | some o =>
    -- the script is one of the module's own objects
    have e := KX a o hk
    rw [ha] at e
    cases e
    refine core (fun _ => none) (fun _ => .inl rfl) (.inr ⟨_, vs.toArray, _, hk, rfl, rfl, rfl, by rw [List.size_toArray, lenV]; exact hl, by simpa using rv⟩) (fun b u z => by have z' : (none : Option HO) = some u := z; cases z') (fun b z => absurd rfl z) fun z => absurd rfl z
  | none =>
    refine core (fun b => if b = a then some (.frz { cls := .type "list", data := .seq vs.toArray } (.lst (ns.map V.int))) else none) (fun b => ?_) (.inl (.inr ⟨{ cls := .type "list", data := .seq vs.toArray }, if_pos rfl⟩)) (fun b u z => ?_) (fun b z => ?_) fun _ => hk
    · by_cases hb : b = a
      · exact .inr ⟨_, _, if_pos hb⟩
      · exact .inl (if_neg hb)
    · by_cases hb : b = a
      · have z' := (if_pos hb).symm.trans z
        cases z'
        subst hb
        exact ⟨ha, by rw [List.length_map]; exact hl, vs, _, rv, ha⟩
      · have z' := (if_neg hb).symm.trans z
        cases z'
    · by_cases hb : b = a
      · exact hb
      · exact absurd (if_neg hb) z
end L2

namespace L2
open PySem PySem.Spec PyProof.Rows

noncomputable abbrev KOf {K : PySem.W.Frag} {h : Heap} (_ : K.In h) : PySem.W.Frag := K


theorem walk_of {l : PySem.W.OpenLaw} {n k : Nat} {q : Program} {loose : List Str} {XP : (Str → Option Value) → Heap → Prop} {YP : World → Heap → Prop} {d : DefRec} {K : Params → PySem.W.Frag} {CX : World → CXT} {sp : World → Sp} {x : Str}
    (hn : l.most = some n) (hn2 : n ≤ sizeLine) (hdf : d.params.defaults = []) (hr : Room k callerA)
    (hY : ∀ (w : World) (h : Heap), YP w h → (K w.params).In h)
    (F : ∀ (w : World) (mg : Str → Option Value) (fa : Addr) (h : Heap), (K w.params).In h → h.Ns mainGlobals mg → mg d.name = some (.ref fa) →
      ∃ fd : FuncData, (∀ (s : Shared) (u : Value), BindsTo s fd ⟨[u], []⟩ [(x, u)]) ∧
        ∀ base : Heap, (K w.params).In base → base.Ns mainGlobals mg → FnOk l.prog w (K w.params) mg base (CX w) k fa fd [x] (sp w))
    (hsp : ∀ (w : World) (H : Hp) (a : Addr) (ns : List Int), ns.length ≤ n → Only H → SqL (K w.params) H a (ns.map V.int) → sp w [.ref a] H (fun v _ => v = .bl true) fun _ _ _ => False)
    (hCX : ∀ (w : World) (H : Hp) (s : Shared) (e : Value) (s' : Shared), CX w [] H s (fun _ _ _ => False) e s' → False) :
    PySem.W.WalkO q loose XP YP l.row.toRowW d [] (fun f vs => PySem.call f vs) := by
  refine Att.attach_call hn hdf fun w s₀ s₁ mg mb fa o pm cd doc a vs ns G Y ho hd hcd hmg hobj hints hlen hg => ?_
  have KX := hY w _ Y
  obtain ⟨fd, hb, hF⟩ := F w mg fa _ KX G.T.g hmg
  exact law_call KX G.T.g G.T.b G.T.builtins G.T.nolimit hg hobj hints (Nat.le_trans hlen hn2) hr hF hb (fun H hO hS => hsp w H a ns hlen hO hS) fun H e s' => hCX w H s₁ e s'
end L2

/- THE LAST THEOREM (shape; LID, My.* are yours):
   My.Adr: a structure of the addresses that your layer names (classes, functions); My.Txt K t: a structure (Prop) of the equations over K;
   My.txt_mk : {K} {implicit addresses ..} (e1 : nsIn K mainGlobals "law" = some (some (.ref f))) (e2 : K.lookup f = some ⟨oc, od, .func (fnOf "law" "law" params body scope dV kV doc pm an cdv ct), sl⟩) (e3 : codeIn K cdv "law" = true) .. : ∃ t, My.Txt K t

set_option maxRecDepth 100000 in
set_option maxHeartbeats 0 in
theorem PySem.Challenge.cw_LID_holds : PySem.Challenge.rw_LID.Holds := by
  w_on; o_law; k_head; (case hw => w_witness2)
  k_fill
  refine L2.walk_of (l := PySem.Challenge.rw_LID) (n := 63) (k := 40) (x := "script") (CX := fun w => ..) (sp := fun _ => My.sp_law) rfl (by decide) rfl ⟨rfl, by decide, by decide⟩ (fun w h Y => PySem.W.kIn_of Y) ?F ?S ?C
  case F =>
    intro w mg fa h KX G hmg
    have T : ∃ t, My.Txt (L2.KOf KX) t := by
      dsimp only [L2.KOf]                          -- K must stand as «<heap const> w.params» for k_is
      refine' My.txt_mk ?e1 ?e2 ?e3 ..
      (case e1 => PySem.W.k_is)                    -- in the order: a name -> its address -> its object -> its parts
      (case e2 => PySem.W.k_is)
      ..
    obtain ⟨t, T⟩ := T
    have e0 := hmg.symm.trans (PySem.W.mg_of KX G T.law)
    cases e0                                       -- fa is the law's own address
    exact ⟨_, fun s u => .of_eq rfl, fun base kb nb => My.law_fn T kb nb⟩     -- if «.of_eq rfl» comes too early: refine' ⟨_, ?b, fun base kb nb => My.law_fn T kb nb⟩; exact fun s u => .of_eq rfl
  case S => exact fun w H a ns hl hO hS => ..
  case C => exact ..
(the tactic k_is has no namespace: write k_is) -/


namespace L2
open PySem PySem.Spec PyProof.Rows


noncomputable def defArgs (s : Stmt) : Arguments := match s with
  | .FunctionDef _ a _ _ _ _ _ _ _ _ => a
  | _ => { posonlyargs := [], args := [], vararg := none, kwonlyargs := [], kw_defaults := [], kwarg := none, defaults := [] }
noncomputable def defBody (s : Stmt) : List Stmt := match s with
  | .FunctionDef _ _ b _ _ _ _ _ _ _ => b
  | _ => []
noncomputable def defScope (s : Stmt) : Scope := match s with
  | .FunctionDef _ _ _ _ _ _ sc _ _ _ => sc
  | _ => { kind := .function, names := [], isGenerator := false, isCoroutine := false }


noncomputable abbrev CX0 : CXT := fun _ _ _ _ _ _ => False
noncomputable abbrev E0 : XK := fun _ _ _ => False

structure Fun (K : PySem.W.Frag) (x qual : Str) (st : Stmt) (f : Addr) (fd : FuncData) : Prop where
  ex : ∃ (oc : Value) (od : Option Addr) (kV doc pm : Value) (an : Option Addr) (cdv ct : Value) (osl : Array (Option Value)),
    fd = PySem.W.fnOf x qual (defArgs st) (defBody st) (defScope st) .none kV doc pm an cdv ct ∧ K.lookup f = some ⟨oc, od, .func fd, osl⟩ ∧ PySem.W.codeIn K cdv qual = true
  kp : PySem.W.keepIn K (.ref f) = true
section
variable {P : Program} {w : World} {K : PySem.W.Frag} {mg : Str → Option Value} {base : Heap}

theorem Fun.ok {x qual : Str} {st : Stmt} {f : Addr} {fd : FuncData} {N ps : List Str} {k : Nat} {sp : Sp} (F : Fun K x qual st f fd) (S : FnScope N ps (defScope st)) (len : ∀ vs H Q E, sp vs H Q E → vs.length = ps.length)
    (hbody : ∀ (cdv : Value) (A : Around) (outer : List Env) (s : Shared) (H : Hp) (vs : List V) (Q : VK) (E : XK), Room k (A.deeper (envOfC qual (defScope st) s.heap.objs.size f cdv)) → sp vs H Q E →
      ∃ t, PSs (cxOf CX0 P w K mg base N qual (defScope st) f cdv A outer s H E).nox (defBody st) t ∧ t { nx := fun _ H' => Q .non H', rt := Q } (start N vs) H) : FnOk P w K mg base CX0 (k + 1) f fd ps sp := by
  obtain ⟨oc, od, kV, doc, pm, an, cdv, ct, osl, rfl, lk, hcd⟩ := F.ex
  refine fn_of lk hcd S len fun A outer s H vs Q E hr hsp => ?_
  obtain ⟨t, h, q⟩ := hbody cdv A outer s H vs Q E hr hsp
  exact ⟨t, h.nox, q⟩

theorem Fun.binds {x qual : Str} {st : Stmt} {f : Addr} {fd : FuncData} {ps : List Str} (F : Fun K x qual st f fd)
    (h : ∀ (kV doc pm : Value) (an : Option Addr) (cdv ct : Value) (us : List Value), us.length = ps.length → bindArgs (PySem.W.fnOf x qual (defArgs st) (defBody st) (defScope st) .none kV doc pm an cdv ct) ⟨us, []⟩ = pure (ps.zip us)) : Binds K fd ps [] := by
  obtain ⟨oc, od, kV, doc, pm, an, cdv, ct, osl, rfl, lk, hcd⟩ := F.ex
  exact .all (h kV doc pm an cdv ct)
theorem fun_mk {x qual : Str} {st : Stmt} {f : Addr} {oc : Value} {od an : Option Addr} {osl : Array (Option Value)} {kV doc pm cdv ct : Value} (l : K.lookup f = some ⟨oc, od, .func (PySem.W.fnOf x qual (defArgs st) (defBody st) (defScope st) .none kV doc pm an cdv ct), osl⟩)
    (c : PySem.W.codeIn K cdv qual = true) (k : PySem.W.keepIn K (.ref f) = true) : Fun K x qual st f (PySem.W.fnOf x qual (defArgs st) (defBody st) (defScope st) .none kV doc pm an cdv ct) := ⟨⟨oc, od, kV, doc, pm, an, cdv, ct, osl, rfl, l, c⟩, k⟩
end
theorem small1000 {n : Nat} (h : n ≤ 1000) : n < sizeLine := Nat.lt_of_le_of_lt h (by decide)


section
variable {X : Cx}
end




noncomputable def Same (H H' : Hp) : Prop := ∀ b o, H b = some o → H' b = some o
theorem Same.refl (H : Hp) : Same H H := fun _ _ h => h
theorem Same.trans {H H1 H2 : Hp} (a : Same H H1) (b : Same H1 H2) : Same H H2 := fun c o h => b c o (a c o h)
theorem Same.free {H H' : Hp} (e : Same H H') {l : Addr} (h : H' l = Option.none) : H l = Option.none := by
  cases q : H l with
  | none => rfl
  | some o =>
    rw [e l o q] at h
    cases h
theorem Same.seq {K : PySem.W.Frag} {H H' : Hp} {a : Addr} {xs : List V} (e : Same H H') (h : SqL K H a xs) : SqL K H' a xs := by
  rcases h with (h | ⟨o, h⟩) | h
  · exact .inl (.inl (e _ _ h))
  · exact .inl (.inr ⟨o, e _ _ h⟩)
  · exact .inr h

end L2

namespace L2
open PySem PySem.Spec PyProof.Rows


section
variable {κ : Type} [DecidableEq κ]
noncomputable def valV (kvs : List (κ × V)) (k : κ) : Option V := (kvs.find? fun kv => decide (kv.1 = k)).map (·.2)

noncomputable def putK (kvs : List (κ × V)) (k : κ) (v : V) : List (κ × V) :=
  if (kvs.any fun kv => decide (kv.1 = k)) = true then kvs.map (fun kv => if kv.1 = k then (kv.1, v) else kv) else kvs ++ [(k, v)]
noncomputable def dropK (kvs : List (κ × V)) (k : κ) : List (κ × V) := kvs.filter fun kv => decide (kv.1 ≠ k)

theorem valV_pos {p : κ × V} {r : List (κ × V)} {k : κ} (e : p.1 = k) : valV (p :: r) k = some p.2 := by simp [valV, List.find?_cons, e]
theorem valV_neg {p : κ × V} {r : List (κ × V)} {k : κ} (e : ¬ p.1 = k) : valV (p :: r) k = valV r k := by simp [valV, List.find?_cons, e]
theorem valV_any (k : κ) : ∀ kvs : List (κ × V), (kvs.any fun kv => decide (kv.1 = k)) = (valV kvs k).isSome
  | [] => rfl
  | p :: r => by
    rw [List.any_cons]
    by_cases e : p.1 = k
    · simp only [valV_pos e, decide_eq_true e, Bool.true_or, Option.isSome_some]
    · rw [valV_neg e, decide_eq_false e, Bool.false_or]; exact valV_any k r
theorem length_putK (kvs : List (κ × V)) (k : κ) (v : V) : (putK kvs k v).length ≤ kvs.length + 1 := by
  unfold putK
  split
  · rw [List.length_map]; omega
  · rw [List.length_append, List.length_cons, List.length_nil]; omega
theorem RelO.isSome_eq {o : Option V} {u : Option Value} (r : RelO o u) : o.isSome = u.isSome := by
  cases o with
  | none => cases u with
    | none => rfl
    | some _ => exact (show False from r).elim
  | some _ => cases u with
    | none => exact (show False from r).elim
    | some _ => rfl
theorem RelO.getD {o : Option V} {u : Option Value} {d : V} {d' : Value} (r : RelO o u) (rd : RelV d d') : RelV (o.getD d) (u.getD d') := by
  cases o with
  | none => cases u with
    | none => exact rd
    | some _ => exact (show False from r).elim
  | some _ => cases u with
    | none => exact (show False from r).elim
    | some _ => exact r


theorem KV.val {kvs : List (κ × V)} {vs : List (κ × Value)} (r : KV kvs vs) (k : κ) : RelO (valV kvs k) (valueAt vs k) := by
  unfold KV at r
  induction r with
  | nil => exact True.intro
  | @cons p q ps qs h t ih =>
    obtain ⟨h1, h2⟩ := h
    by_cases e : p.1 = k
    · have e' : q.1 = k := h1.symm.trans e
      have b : valueAt (q :: qs) k = some q.2 := by simp [valueAt, List.find?_cons, e']
      rw [valV_pos e, b]; exact h2
    · have e' : ¬ q.1 = k := fun z => e (h1.trans z)
      have b : valueAt (q :: qs) k = valueAt qs k := by simp [valueAt, List.find?_cons, e']
      rw [valV_neg e, b]; exact ih
theorem KV.any {kvs : List (κ × V)} {vs : List (κ × Value)} (r : KV kvs vs) (k : κ) : (kvs.any fun kv => decide (kv.1 = k)) = vs.any fun kv => decide (kv.1 = k) := by
  unfold KV at r
  induction r with
  | nil => rfl
  | cons h t ih => rw [List.any_cons, List.any_cons, ih, h.1]
theorem KV.repl {kvs : List (κ × V)} {vs : List (κ × Value)} (r : KV kvs vs) (k : κ) {y : V} {u : Value} (ry : RelV y u) :
    KV (kvs.map fun kv => if kv.1 = k then (kv.1, y) else kv) (vs.map fun kv => if kv.1 = k then (kv.1, u) else kv) := by
  unfold KV at r ⊢
  induction r with
  | nil => exact .nil
  | @cons p q ps qs h t ih =>
    rw [List.map_cons, List.map_cons]
    refine .cons ?_ ih
    obtain ⟨h1, h2⟩ := h
    by_cases e : p.1 = k
    · rw [if_pos e, if_pos (h1.symm.trans e)]; exact ⟨h1, ry⟩
    · rw [if_neg e, if_neg (fun z => e (h1.trans z))]; exact ⟨h1, h2⟩
theorem KV.put {kvs : List (κ × V)} {vs : List (κ × Value)} (r : KV kvs vs) (k : κ) {y : V} {u : Value} (ry : RelV y u) : KV (putK kvs k y) (stored vs k u) := by
  unfold putK stored
  rw [r.any k]
  by_cases e : (vs.any fun kv => decide (kv.1 = k)) = true
  · rw [if_pos e, if_pos e]; exact r.repl k ry
  · rw [if_neg e, if_neg e]; exact Paired.snoc r ⟨rfl, ry⟩
theorem KV.drop {kvs : List (κ × V)} {vs : List (κ × Value)} (r : KV kvs vs) (k : κ) : KV (dropK kvs k) (without vs k) := by
  unfold KV at r ⊢
  unfold dropK without
  induction r with
  | nil => exact .nil
  | @cons p q ps qs h t ih =>
    obtain ⟨h1, h2⟩ := h
    rw [List.filter_cons, List.filter_cons]
    by_cases e : p.1 = k
    · have a : ¬ decide (p.1 ≠ k) = true := by simp [e]
      have b : ¬ decide (q.1 ≠ k) = true := by simp [h1.symm.trans e]
      rw [if_neg a, if_neg b]; exact ih
    · have e' : ¬ q.1 = k := fun z => e (h1.trans z)
      have a : decide (p.1 ≠ k) = true := by simp [e]
      have b : decide (q.1 ≠ k) = true := by simp [e']
      rw [if_pos a, if_pos b]; exact .cons ⟨h1, h2⟩ ih
theorem KV.keys {kvs : List (κ × V)} {vs : List (κ × Value)} (r : KV kvs vs) : kvs.map (·.1) = vs.map (·.1) := by
  unfold KV at r
  induction r with
  | nil => rfl
  | cons h t ih => rw [List.map_cons, List.map_cons, ih, h.1]
theorem KV.length {kvs : List (κ × V)} {vs : List (κ × Value)} (r : KV kvs vs) : kvs.length = vs.length := Paired.length r
end



theorem kV_is {P : Program} {w : World} {k : Key} {u : Value} (r : RelV (kV k) u) : (mixKind P w).is k u = true := by
  cases k with
  | inl i => obtain ⟨t, e⟩ := (show ∃ t, u = Value.int i t from r); subst e; exact mixKind_int P w i t
  | inr x => obtain ⟨t, e⟩ := (show ∃ t, u = Value.str x t from r); subst e; exact mixKind_str P w x t
theorem items_are {P : Program} {w : World} : ∀ {ks : List Key} {us : List Value}, Vals (ks.map kV) us → ItemsAre (mixKind P w) ks us
  | [], _, r => by rw [List.map_nil] at r; cases r; exact .nil
  | k :: ks, _, r => by
    rw [List.map_cons] at r
    cases r with
    | cons h t => exact .cons (kV_is h) (items_are t)


noncomputable abbrev KT (H : Hp) : List (List Key × V) → List (List Key × Addr × Value) → Prop := Paired fun p q => p.1 = q.1 ∧ H q.2.1 = some (.tup (p.1.map kV)) ∧ RelV p.2 q.2.2
theorem KT.val {H : Hp} {kvs : List (List Key × V)} {xs : List (List Key × Addr × Value)} (r : KT H kvs xs) (k : List Key) : RelO (valV kvs k) ((atKey xs k).map (·.2)) := by
  induction r with
  | nil => exact True.intro
  | @cons p q ps qs h t ih =>
    obtain ⟨h1, _, h2⟩ := h
    by_cases e : p.1 = k
    · have e' : q.1 = k := h1.symm.trans e
      have b : atKey (q :: qs) k = some q.2 := by simp [atKey, List.find?_cons, e']
      rw [valV_pos e, b]; exact h2
    · have e' : ¬ q.1 = k := fun z => e (h1.trans z)
      have b : atKey (q :: qs) k = atKey qs k := by simp [atKey, List.find?_cons, e']
      rw [valV_neg e, b]; exact ih
theorem KT.repl {H : Hp} {kvs : List (List Key × V)} {xs : List (List Key × Addr × Value)} (r : KT H kvs xs) (k : List Key) {y : V} {u : Value} (ry : RelV y u) :
    KT H (kvs.map fun kv => if kv.1 = k then (kv.1, y) else kv) (xs.map (putAt k u)) := by
  induction r with
  | nil => exact .nil
  | @cons p q ps qs h t ih =>
    rw [List.map_cons, List.map_cons]
    refine .cons ?_ ih
    obtain ⟨h1, h2, h3⟩ := h
    unfold putAt
    by_cases e : p.1 = k
    · rw [if_pos e, if_pos (h1.symm.trans e)]; exact ⟨h1, h2, ry⟩
    · rw [if_neg e, if_neg (fun z => e (h1.trans z))]; exact ⟨h1, h2, h3⟩
theorem KT.put {H : Hp} {kvs : List (List Key × V)} {xs : List (List Key × Addr × Value)} (r : KT H kvs xs) (k : List Key) {b : Addr} {y : V} {u : Value} (hb : H b = some (.tup (k.map kV))) (ry : RelV y u) :
    KT H (putK kvs k y) (storedH xs k b u) := by
  have e : (kvs.any fun kv => decide (kv.1 = k)) = (atKey xs k).isSome := by
    rw [valV_any, (r.val k).isSome_eq, Option.isSome_map]
  unfold putK storedH
  rw [e]
  by_cases q : (atKey xs k).isSome = true
  · rw [if_pos q, if_pos q]; exact r.repl k ry
  · rw [if_neg q, if_neg q]; exact Paired.snoc r ⟨rfl, hb, ry⟩
theorem KT.keeps {H H' : Hp} {kvs : List (List Key × V)} {xs : List (List Key × Addr × Value)} (r : KT H kvs xs) (ht : ∀ b ys, H b = some (.tup ys) → H' b = some (.tup ys)) : KT H' kvs xs :=
  Paired.mapP r fun _ _ z => ⟨z.1, ht _ _ z.2.1, z.2.2⟩

section
variable {P : Program} {w : World} {H : Hp} {h : Heap} {a : Addr}
theorem rd_of {u : HO} (ok : HOk P w H h) (e : Rd H a u) : ObjOk P w H h a u := e.ok ok
theorem dk_rd {kvs : List (Key × V)} (ok : HOk P w H h) (e : Rd H a (.dK kvs)) : kvs.length ≤ sizeLine ∧ (a == sysModules) = false ∧ ∃ vs, KV kvs vs ∧ h.DictOf (mixKind P w) a vs :=
  show ObjOk P w H h a (.dK kvs) from rd_of ok e
theorem dk_of {kvs : List (Key × V)} (ok : HOk P w H h) (e : H a = some (.dK kvs)) : kvs.length ≤ sizeLine ∧ (a == sysModules) = false ∧ ∃ vs, KV kvs vs ∧ h.DictOf (mixKind P w) a vs := dk_rd ok (.inl e)

theorem key_of {ks : List Key} (ok : HOk P w H h) (e : H a = some (.tup (ks.map kV))) : (tupleKind (mixKind P w)).is h ks a := by
  obtain ⟨_, its, r, o, h1, h2, n, h3⟩ := (show ObjOk P w H h a (.tup (ks.map kV)) from ok a _ e)
  exact ⟨o, its.toArray, n, h1, h2, h3, by simpa using items_are r⟩
theorem dt_rd {kvs : List (List Key × V)} (ok : HOk P w H h) (e : Rd H a (.dT kvs)) : kvs.length ≤ sizeLine ∧ (a == sysModules) = false ∧
    ∃ xs, KT H kvs xs ∧ h.DictOfH (tupleKind (mixKind P w)) a xs := by
  obtain ⟨z, y, xs, r, o, es, ep, h1, h2, h3, h4, h5⟩ := (show ObjOk P w H h a (.dT kvs) from rd_of ok e)
  refine ⟨z, y, xs, r, o, es, ep, h1, h2, h3, h4, fun x hx => ?_, h5⟩
  have all : ∀ {l : List (List Key × V)} {m : List (List Key × Addr × Value)}, KT H l m → ∀ x ∈ m, (tupleKind (mixKind P w)).is h x.1 x.2.1 := by
    intro l m q
    induction q with
    | nil => intro x hx; exact nomatch hx
    | @cons p q ps qs hq t ih =>
      intro x hx
      rcases List.mem_cons.mp hx with e | hx
      · subst e
        exact key_of ok (by rw [← hq.1]; exact hq.2.1)
      · exact ih x hx
  exact all r x hx
theorem dt_of {kvs : List (List Key × V)} (ok : HOk P w H h) (e : H a = some (.dT kvs)) : kvs.length ≤ sizeLine ∧ (a == sysModules) = false ∧
    ∃ xs, KT H kvs xs ∧ h.DictOfH (tupleKind (mixKind P w)) a xs := dt_rd ok (.inl e)
end


noncomputable def DGet (H : Hp) (a : Addr) (y : V) (r : Option V) : Prop :=
  (∃ kvs k, Rd H a (.dK kvs) ∧ y = kV k ∧ r = valV kvs k) ∨ ∃ kvs k b, Rd H a (.dT kvs) ∧ y = .ref b ∧ H b = some (.tup (k.map kV)) ∧ r = valV kvs k

noncomputable def DPut (H : Hp) (a : Addr) (y v : V) (H' : Hp) : Prop :=
  (∃ kvs k, H a = some (.dK kvs) ∧ y = kV k ∧ kvs.length < sizeLine ∧ H' = upd H a (.dK (putK kvs k v))) ∨
  ∃ kvs k b, H a = some (.dT kvs) ∧ y = .ref b ∧ H b = some (.tup (k.map kV)) ∧ kvs.length < sizeLine ∧ H' = upd H a (.dT (putK kvs k v))
theorem DGet.k {H : Hp} {a : Addr} {kvs : List (Key × V)} {k : Key} (e : H a = some (.dK kvs)) : DGet H a (kV k) (valV kvs k) := .inl ⟨kvs, k, .inl e, rfl, rfl⟩
theorem DGet.t {H : Hp} {a b : Addr} {kvs : List (List Key × V)} {k : List Key} (e : H a = some (.dT kvs)) (eb : H b = some (.tup (k.map kV))) : DGet H a (.ref b) (valV kvs k) := .inr ⟨kvs, k, b, .inl e, rfl, eb, rfl⟩
theorem DPut.k {H : Hp} {a : Addr} {kvs : List (Key × V)} {k : Key} {v : V} (e : H a = some (.dK kvs)) (hl : kvs.length < sizeLine) : DPut H a (kV k) v (upd H a (.dK (putK kvs k v))) := .inl ⟨kvs, k, e, rfl, hl, rfl⟩
theorem DPut.t {H : Hp} {a b : Addr} {kvs : List (List Key × V)} {k : List Key} {v : V} (e : H a = some (.dT kvs)) (eb : H b = some (.tup (k.map kV))) (hl : kvs.length < sizeLine) :
    DPut H a (.ref b) v (upd H a (.dT (putK kvs k v))) := .inr ⟨kvs, k, b, e, rfl, eb, hl, rfl⟩


section
variable {X : Cx} {pins : List (Addr × Obj)} {σ : St} {H : Hp} {s : Shared} {a : Addr} {y v : V} {u r : Value} {o : Option V} {A : Around} {E : Value → Shared → Prop}


theorem d_getItem {Q : Value → Shared → Prop} (hu : A.units + 1 < cLine) (I : Inv X pins σ H s) (g : DGet H a y (some v)) (ry : RelV y u) (h : ∀ w' s', Inv X pins σ H s' → RelV v w' → Q w' s') :
    wpAny (model X.prog X.w) A (getItem (.ref a) u) Q E s := by
  rcases g with ⟨kvs, k, e, ey, l⟩ | ⟨kvs, k, b, e, ey, eb, l⟩
  · subst ey
    obtain ⟨z, hd, vs, rel, dd⟩ := dk_rd I.hok e
    obtain ⟨w', hw, rw'⟩ := RelO.some_of (v := v) (o := valueAt vs k) (by rw [l]; exact rel.val k)
    exact wpAny_getItem_of (kV_is ry) dd.mapOf hw (h w' _ (I.tok _) rw')
  · subst ey
    cases (show u = Value.ref b from ry)
    obtain ⟨z, hd, xs, rel, dd⟩ := dt_rd I.hok e
    obtain ⟨w', hw, rw'⟩ := RelO.some_of (v := v) (o := (atKey xs k).map (·.2)) (by rw [l]; exact rel.val k)
    obtain ⟨p, hp, hp2⟩ := Option.map_eq_some_iff.mp hw
    refine wpAny_getItem_heap (tupleKind_room_in1 hu) (key_of I.hok eb) dd hp ?_
    rw [hp2]
    exact h w' _ (I.tok _) rw'

theorem d_write {h' : Heap} {t' : Nat} {ob : HO} (I : Inv X pins σ H s) (mu : Mut (H a)) (hs : Heap.SameBut a s.heap h') (he : ∃ q, h'.get? a = some q) (new : ObjOk X.prog X.w (upd H a ob) h' a ob) :
    Inv X pins σ (upd H a ob) { s with heap := h', toks := t' } :=
  I.write (x := a) (e := a) mu (.inl rfl) (fun b q hb z => (hs.2 b hb).trans z) he new
theorem dk_new {P : Program} {w : World} {H' : Hp} {h' : Heap} {kvs : List (Key × V)} {vs : List (Key × Value)} (z : kvs.length ≤ sizeLine) (hd : (a == sysModules) = false) (rel : KV kvs vs) (dd : h'.DictOf (mixKind P w) a vs) :
    ObjOk P w H' h' a (.dK kvs) := ⟨z, hd, vs, rel, dd⟩

theorem d_setItem {H' : Hp} {Q : Unit → Shared → Prop} (hu : A.units + 1 < cLine) (I : Inv X pins σ H s) (g : DPut H a y v H') (ry : RelV y u) (rv : RelV v r) (h : ∀ s', Inv X pins σ H' s' → Q () s') :
    wpAny (model X.prog X.w) A (setItem (.ref a) u r) Q E s := by
  rcases g with ⟨kvs, k, e, ey, l, eH⟩ | ⟨kvs, k, b, e, ey, eb, l, eH⟩
  · subst ey eH
    obtain ⟨z, hd, vs, rel, dd⟩ := dk_of I.hok e
    have hz : vs.length ≤ sizeLine := by rw [← rel.length]; exact z
    have hl : (putK kvs k v).length ≤ sizeLine := by have := length_putK kvs k v; omega
    refine wpAny_setItem_pairs (hsz := hz) (kV_is ry) dd fun h' dd' hs => h _ ?_
    have he : ∃ q, h'.get? a = some q := let ⟨q, _, _, hq, _⟩ := dd'; ⟨q, hq⟩
    exact d_write I (by rw [e]; exact True.intro) hs he (dk_new hl hd (rel.put k rv) dd')
  · subst ey eH
    cases (show u = Value.ref b from ry)
    obtain ⟨z, hd, xs, rel, dd⟩ := dt_of I.hok e
    have hz : xs.length ≤ sizeLine := by rw [← Paired.length rel]; exact z
    have hl : (putK kvs k v).length ≤ sizeLine := by have := length_putK kvs k v; omega
    refine wpAny_setItem_heap (hsz := hz) (tupleKind_room_in1 hu) (key_of I.hok eb) dd fun h' dd' hs => h _ ?_
    obtain ⟨q, es, ep, hq, h2, h3, h4, _, h5⟩ := dd'
    refine d_write I (by rw [e]; exact True.intro) hs ⟨q, hq⟩ ⟨hl, hd, _, (rel.put k eb rv).keeps fun c ys ec => ?_, q, es, ep, hq, h2, h3, h4, h5⟩
    rw [upd_ne (ne_of ec e (fun z => nomatch z))]
    exact ec
end

section
variable {X : Cx} {pins : List (Addr × Obj)} {σ : St} {H : Hp} {s : Shared} {a : Addr} {kvs : List (Key × V)} {k : Key} {u : Value} {A : Around} {E : Value → Shared → Prop}

theorem d_len {Q : Value → Shared → Prop} (I : Inv X pins σ H s) (e : Rd H a (.dK kvs)) (h : ∀ t s', Inv X pins σ H s' → Q (.int kvs.length t) s') : wpAny (model X.prog X.w) A (call (.builtin "len") [.ref a]) Q E s := by
  obtain ⟨z, hd, vs, rel, dd⟩ := dk_rd I.hok e
  refine call_len_dict hd dd (by rw [← rel.length]; rw [sizeLine_eq] at z; omega) ?_
  rw [← rel.length]
  exact h _ _ (I.tok _)
end



theorem dict_typeIs {X : Cx} {pins : List (Addr × Obj)} {σ : St} {H : Hp} {s : Shared} {a : Addr} {y : V} {o : Option V} (I : Inv X pins σ H s) (g : DGet H a y o) : s.TypeIs (.ref a) "dict" := by
  rcases g with ⟨kvs, k, e, _, _⟩ | ⟨kvs, k, b, e, _, _, _⟩
  · obtain ⟨_, _, vs, _, dd⟩ := dk_rd I.hok e
    exact dd.typeIs
  · obtain ⟨_, _, xs, _, dd⟩ := dt_rd I.hok e
    exact dd.typeIs
section
variable {X : Cx} {o i e value : Expr} {pos pos' tpos : Pos} {td ty tv : TE}
end



section
variable {X : Cx} {pos : Pos}
end



structure M1 (X : Cx) (o : Expr) (m : Str) (apos : Pos) (e : Expr) (cpos : Pos) : Prop where
  base : attributeBase o m X.env (eval o X.env) = eval o X.env
  few : ((backTo cpos (starEach [e] X.env)).all (fun x => !x.1) && (backToKw cpos (keywordEach [] X.env)).all (fun x => x.1.isSome)
    && decide (([e] : List Expr).length + ([] : List Keyword).length + (if ([] : List Keyword).isEmpty then 0 else 1) < 30)) = true
  line : (apos.endLine == cpos.line) = true
  trees : backTo cpos (starEach [e] X.env) = [(false, eval e X.env)]
structure M2 (X : Cx) (o : Expr) (m : Str) (apos : Pos) (e f : Expr) (cpos : Pos) : Prop where
  base : attributeBase o m X.env (eval o X.env) = eval o X.env
  few : ((backTo cpos (starEach [e, f] X.env)).all (fun x => !x.1) && (backToKw cpos (keywordEach [] X.env)).all (fun x => x.1.isSome)
    && decide (([e, f] : List Expr).length + ([] : List Keyword).length + (if ([] : List Keyword).isEmpty then 0 else 1) < 30)) = true
  line : (apos.endLine == cpos.line) = true
  trees : backTo cpos (starEach [e, f] X.env) = [(false, eval e X.env), (false, eval f X.env)]

section
variable {X : Cx} {pins : List (Addr × Obj)} {σ : St} {H : Hp} {s : Shared} {a : Addr} {y d : V} {u r : Value} {o : Option V} {A : Around} {E : Value → Shared → Prop}
end

section
variable {X : Cx} {o e f : Expr} {apos cpos : Pos} {td ty tx : TE}
end


section
variable {X : Cx} {pins : List (Addr × Obj)} {σ : St} {H : Hp} {s : Shared} {a : Addr} {kvs : List (Key × V)} {A : Around} {E : Value → Shared → Prop}
end


section
variable {X : Cx} {pins : List (Addr × Obj)} {σ : St} {H : Hp} {s : Shared} {a : Addr} {y : V} {u : Value} {A : Around} {E : Value → Shared → Prop}
end
end L2




namespace L2.Na
open PySem PySem.Spec PyProof.Rows
theorem layNew_led (t : SetTable) (es : Array (Int × Value)) (h : Int) (x : Value) : (layNew t es h x).2.1.led = t.led := by
  unfold layNew
  split
  · show (SetTable.orStandIn _ _).led = _
    unfold SetTable.orStandIn
    split <;> rfl
  · rfl
theorem relayAll_keeps (t : SetTable) (es : Array (Int × Value)) (m : Nat) : (relayAll t es m).2.1.led = t.led ∧ (t.plain = false → (relayAll t es m).2.1.plain = false) := by
  unfold relayAll
  split
  · rename_i t' order he
    have ht : t'.led = t.led ∧ t'.plain = t.plain := by
      unfold SetTable.relaid SetTable.laid at he
      cases hl : SetTable.layClean (SetTable.sizeAbove m - 1) (es.map (·.1)) with
      | none => rw [hl] at he; cases he
      | some owner =>
        rw [hl] at he
        cases he
        exact ⟨rfl, rfl⟩
    dsimp only
    split
    · exact ⟨ht.1, fun z => ht.2.trans z⟩
    · exact ⟨rfl, fun _ => rfl⟩
  · exact ⟨rfl, fun _ => rfl⟩

noncomputable def keysS (es : Array (Int × Value)) : List Str := es.toList.map fun e => PyProof.Rows.strOf e.2

noncomputable def SetS (prog : Program) (w : World) (bt : Bool) (h : Heap) (a : Addr) (zs : List Str) : Prop :=
  ∃ (o : Obj) (es : Array (Int × Value)) (ep : Nat) (t : SetTable), h.get? a = some o ∧ o.ExactSet ∧ o.data = .set es ep t ∧ ElemsOf (PySem.strKind prog w) es.toList ∧ keysS es = zs ∧ zs.Nodup ∧ es.size < scanBound ∧ t.fits es.size = true ∧ t.led = (!bt) ∧ (es.size ≠ 0 → t.plain = false)
section
variable {prog : Program} {w : World} {A : Around} {E : Value → Shared → Prop} {s : Shared} {bt : Bool} {a : Addr}
theorem SetS.keep {h h' : Heap} {zs : List Str} (hS : SetS prog w bt h a zs) (k : ∀ o, h.get? a = some o → h'.get? a = some o) : SetS prog w bt h' a zs := by
  obtain ⟨o, es, ep, t, ho, r⟩ := hS
  exact ⟨o, es, ep, t, k o ho, r⟩
theorem set_put {h : Heap} {o : Obj} {es es' : Array (Int × Value)} {ep : Nat} {t t' : SetTable} (ho : h.get? a = some o) (hd : o.data = .set es ep t) : (h.update a (Obj.putSet es' t')).get? a = some { o with data := .set es' (ep + 1) t' } := by
  have z := Heap.get?_update_self (Obj.putSet es' t') ho (by rw [putSet_of es' t' hd]; rfl)
  rwa [putSet_of es' t' hd] at z
theorem elem_key {es : Array (Int × Value)} (hel : ElemsOf (PySem.strKind prog w) es.toList) {e : Int × Value} (he : e ∈ es.toList) (x : Str) : (PySem.strKind prog w).is x e.2 = true ↔ PyProof.Rows.strOf e.2 = x := by
  obtain ⟨⟨k, hk, _⟩, _⟩ := hel e he
  obtain ⟨u, hu⟩ := Value.isStrOf_shape hk
  constructor
  · intro h
    obtain ⟨u', hu'⟩ := Value.isStrOf_shape (show Value.isStrOf x e.2 = true from h)
    rw [hu']; rfl
  · intro h
    rw [hu] at h
    have e1 : k = x := h
    rw [← e1]
    exact hk

theorem setS_tail {g : Bool → Sem Unit} (hg : ∀ (b : Bool) (s₁ : Shared) (Q' : Unit → Shared → Prop), Q' () s₁ → wpAny (model prog w) A (g b) Q' E s₁)
    {o : Obj} {es es1 : Array (Int × Value)} {ep : Nat} {t t2 : SetTable} (ho : s.heap.get? a = some o) (hex : o.ExactSet) (hd : o.data = .set es ep t) (hel : ElemsOf (PySem.strKind prog w) es1.toList) (nd : (keysS es1).Nodup)
    (hb : es1.size < scanBound) (hf : t2.fits es1.size = true) (hl : t2.led = !bt) (hp : t2.plain = false) {wd : Bool} {R : Option Bool → Shared → Prop}
    (h : ∀ h' zs, Heap.SameBut a s.heap h' → SetS prog w bt h' a zs → List.Perm zs (keysS es1) → R (some true) { s with heap := h' }) :
    wpAny (model prog w) A (do
        storeSet a es1 t2
        if (!wd && t2.tooFull) = true then do
            g (relayAll t2 es1 (SetTable.grown es1.size)).2.2
            storeSet a (relayAll t2 es1 (SetTable.grown es1.size)).1 (relayAll t2 es1 (SetTable.grown es1.size)).2.1
            pure (some true)
          else pure (some true)) R E s := by
  refine wpAny_bind (wpAny_storeSet_of ho hd ?_ (fits_of_scanBound hb))
  have g1 := set_put (es' := es1) (t' := t2) ho hd
  have sb1 := Heap.SameBut.update s.heap a (Obj.putSet es1 t2)
  split
  · obtain ⟨l3, p3⟩ := relayAll_keeps t2 es1 (SetTable.grown es1.size)
    have pm := relayAll_perm t2 es1 (SetTable.grown es1.size)
    have f3 := relayAll_fits t2 es1 (SetTable.grown es1.size)
    revert l3 p3 pm f3
    generalize relayAll t2 es1 (SetTable.grown es1.size) = r
    obtain ⟨es2, t3, gv⟩ := r
    intro l3 p3 pm f3
    have sz : es2.size = es1.size := by rw [← Array.length_toList, ← Array.length_toList]; exact pm.length_eq
    have pk : List.Perm (keysS es2) (keysS es1) := pm.map _
    refine wpAny_bind (hg _ _ _ ?_)
    refine wpAny_bind (wpAny_storeSet_of g1 rfl ?_ (fits_of_scanBound (by show es2.size < scanBound; rw [sz]; exact hb)))
    refine wpAny_pure (h _ (keysS es2) (sb1.trans (Heap.SameBut.update _ a _)) ?_ pk)
    exact ⟨_, es2, _, t3, set_put g1 rfl, hex, rfl, hel.perm pm, rfl, pk.nodup_iff.mpr nd, by rw [sz]; exact hb, f3, l3.trans hl, fun _ => p3 hp⟩
  · exact wpAny_pure (h _ (keysS es1) sb1 ⟨_, es1, _, t2, g1, hex, rfl, hel, rfl, nd, hb, hf, hl, fun _ => hp⟩ (List.Perm.refl _))
theorem setS_add {zs : List Str} {x : Str} {tk : Tok} {Q : Bool → Shared → Prop} (hS : SetS prog w bt s.heap a zs) (hroom : zs.length + 1 < scanBound)
    (h : ∀ h' zs' b, Heap.SameBut a s.heap h' → SetS prog w bt h' a zs' → (∀ y, y ∈ zs' ↔ y ∈ zs ∨ y = x) → zs'.length ≤ zs.length + 1 → Q b { s with heap := h', toks := s.toks + 1 }) :
    wpAny (model prog w) A (setAdd a (.str x tk)) Q E s := by
  obtain ⟨o, es, ep, t, ho, hex, hd, hel, rfl, nd, hb, hf, hl, hp⟩ := hS
  have hlen : (keysS es).length = es.size := by unfold keysS; rw [List.length_map, Array.length_toList]
  have hkey : (PySem.strKind prog w).is x (.str x tk) = true := by show Value.isStrOf x (.str x tk) = true; simp [Value.isStrOf]
  have hsc : (Value.str x tk).scannable = true := rfl
  unfold setAdd
  refine wpAny_holding (wpAny_bind ((PySem.strKind prog w).pyHash hkey ?_))
  unfold setAddHashed setAddHashedIn
  refine wpAny_holding (wpAny_bind (wpAny_setState_of (s := { s with toks := s.toks + 1 }) ho hd hf ?_))
  dsimp only
  rw [byScan_of hsc hb hel]
  simp only [↓reduceIte]
  unfold setAddByScan
  refine wpAny_bind (wpAny_bind (wpAny_rule (wpAny_bind (wpAny_setScan_of (s := { s with toks := s.toks + 1 }) hkey ho hd hf hel ?_))))
  cases hr : List.findIdx? (fun e => (PySem.strKind prog w).is x e.2) es.toList with
  | some j =>
    dsimp only
    obtain ⟨hj, hpj, _⟩ := List.findIdx?_eq_some_iff_getElem.mp hr
    have hm : x ∈ keysS es := List.mem_map.mpr ⟨_, List.getElem_mem hj, (elem_key hel (List.getElem_mem hj) x).mp hpj⟩
    refine wpAny_pure (wpAny_pure ?_)
    exact h s.heap (keysS es) _ (Heap.SameBut.refl a s.heap) ⟨o, es, ep, t, ho, hex, hd, hel, rfl, nd, hb, hf, hl, hp⟩ (fun y => ⟨.inl, fun z => z.elim id fun e => e ▸ hm⟩) (Nat.le_succ _)
  | none =>
    dsimp only
    have hn : x ∉ keysS es := fun z => by
      obtain ⟨e, he, hx⟩ := List.mem_map.mp z
      have := List.findIdx?_eq_none_iff.mp hr e he
      rw [(elem_key hel he x).mpr hx] at this
      cases this
    have pm := layNew_perm t es ((PySem.strKind prog w).hash x) (.str x tk)
    have ft := layNew_fits t es ((PySem.strKind prog w).hash x) (.str x tk)
    have ld := layNew_led t es ((PySem.strKind prog w).hash x) (.str x tk)
    revert pm ft ld
    generalize layNew t es ((PySem.strKind prog w).hash x) (.str x tk) = L
    obtain ⟨es1, t1, wd, gv⟩ := L
    intro pm ft ld
    dsimp only at pm ft ld ⊢
    rw [Array.toList_push] at pm
    have el1 := (hel.push hkey hsc).perm pm
    have pk : List.Perm (keysS es1) (keysS es ++ [x]) := by
      have := pm.map fun e : Int × Value => PyProof.Rows.strOf e.2
      rw [List.map_append] at this
      exact this
    have nd1 : (keysS es1).Nodup := pk.nodup_iff.mpr (List.nodup_append.mpr ⟨nd, by simp, fun u hu v hv e => by
      have : v = x := by simpa using hv
      rw [this] at e
      exact hn (e ▸ hu)⟩)
    have sz1 : es1.size = es.size + 1 := by rw [← Array.length_toList, pm.length_eq, List.length_append, Array.length_toList]; rfl
    have hb1 : es1.size < scanBound := by rw [sz1, ← hlen]; exact hroom
    have fin : ∀ h' zs', Heap.SameBut a s.heap h' → SetS prog w bt h' a zs' → List.Perm zs' (keysS es1) → Q true { s with heap := h', toks := s.toks + 1 } := fun h' zs' sb hS' pz => by
      refine h h' zs' true sb hS' (fun y => ?_) ?_
      · rw [(pz.trans pk).mem_iff, List.mem_append]
        simp
      · rw [(pz.trans pk).length_eq, List.length_append]
        exact Nat.le_refl _
    have hgw : ∀ (b : Bool) (s₁ : Shared) (Q' : Unit → Shared → Prop), Q' () s₁ → wpAny (model prog w) A (match b with | true => rule "set.scan.the-table-gave-way" | false => pure ()) Q' E s₁ :=
      fun b s₁ Q' hq => by cases b <;> first | exact wpAny_pure hq | exact wpAny_rule hq
    refine wpAny_bind (hgw _ _ _ ?_)
    split
    · refine wpAny_bind ?_
      rw [hashByValue_scannable 8 hsc]
      refine wpAny_pure ?_
      refine setS_tail (s := { s with toks := s.toks + 1 }) (t2 := { t1 with plain := false }) hgw ho hex hd el1 nd1 hb1 (SetTable.fits_plain_off ft) (ld.trans hl) rfl fun h' zs' sb hS' pz => ?_
      exact wpAny_pure (fin h' zs' sb hS' pz)
    · rename_i hpl
      refine wpAny_bind (wpAny_pure ?_)
      simp only [↓reduceIte]
      refine setS_tail (s := { s with toks := s.toks + 1 }) (t2 := t1) hgw ho hex hd el1 nd1 hb1 ft (ld.trans hl) (by simpa using hpl) fun h' zs' sb hS' pz => ?_
      exact wpAny_pure (fin h' zs' sb hS' pz)
end
end L2.Na




namespace L2.Na
open PySem PySem.Spec PyProof.Rows

noncomputable abbrev byT (w : World) : Bool := w.params.followText "set-order"

noncomputable def newSetO (w : World) : Obj := { cls := .type "set", dict := none, data := .set #[] 0 (.fresh 0 0 (!byT w)) }
section
variable {prog : Program} {w : World} {A : Around} {E : Value → Shared → Prop} {s : Shared}
theorem setS_new {h : Heap} {a : Addr} (e : h.get? a = some (newSetO w)) : SetS prog w (byT w) h a [] :=
  ⟨_, #[], 0, _, e, ⟨rfl, rfl, rfl⟩, rfl, fun x hx => by simp at hx, rfl, List.nodup_nil, by decide, by rfl, rfl, fun z => absurd rfl z⟩
theorem codeS_new (x : Value) {Q : Value → Shared → Prop} (h : Q (.ref s.heap.objs.size) { s with heap := s.heap.push (newSetO w) }) :
    codeAny (model prog w) A (.call (.builtin "set.__new__") ⟨[.type "set", x], []⟩) (wants Q E) s := by
  refine codeAny_of_tree ?_
  show wpAny _ A.in1 (do checkBuiltinCall "set.__new__" ⟨[.type "set", x], []⟩; again (.builtin "set.__new__" ⟨[.type "set", x], []⟩)) _ _ s
  refine wpAny_bind (wpAny_of_eq (PySem.F.newCall_set_1 x) (wpAny_pure ⟨plainId_quiet PySem.F.plain_set_new _, codeAny_builtin PySem.F.entry_set_new ?_⟩))
  rw [Around.under_plainId PySem.F.plain_set_new _]
  unfold Builtin.«set.__new__» Builtin.Frozenset.newClass
  have sub := sub_set_self
  obtain ⟨hp, g, d, tk, os⟩ := s
  dsimp only
  wp_walk
  refine wpAny_askSetting (wpAny_pure ?_)
  dsimp only
  simp only [newObj]
  refine wpAny_bind (wpAny_alloc (wpAny_pure (wpAny_pure ?_)))
  exact h
variable {R : Result → Shared → Prop} {I : Addr} {fp wr : List Addr} {G : Array GenState → Array GenState → Prop} {n : Nat} {P : Nat → Value → Prop} {St : Nat → Shared → Prop} {bt : Bool}

theorem updS_loop (W : WalksS prog w A.in1 I fp wr G n P St) (S : Addr) (hSf : S ∉ fp) (val : Nat → Str) (hval : ∀ i v, P i v → ∃ t, v = .str (val i) t) (hb : n + 1 < scanBound) :
    ∀ (k i : Nat) (s : Shared) (zs : List Str), n - i = k → i ≤ n → St i s → SetS prog w bt s.heap S zs → (∀ y, y ∈ zs ↔ ∃ j, j < i ∧ val j = y) → zs.length ≤ i →
      (∀ s' zs', Moved (S :: wr) G s s' → SetS prog w bt s'.heap S zs' → (∀ y, y ∈ zs' ↔ ∃ j, j < n ∧ val j = y) → R (.ok (.ret .none)) s') →
      codeAny (model prog w) A (.builtin "set.update.loop" ⟨[.ref S, .ref I], []⟩) R s := by
  have hSw : S ∉ wr := fun h => hSf (W.sub _ h)
  have up : ∀ b ∈ wr, b ∈ S :: wr := fun b hb => List.mem_cons_of_mem _ hb
  intro k
  induction k with
  | zero =>
    intro i s zs hk hi st hS hm _ fin
    have e : i = n := by omega
    subst e
    refine codeAny_builtin PyProof.Rows.F.entry_set_update_loop ?_
    rw [Around.under_plainId PyProof.Rows.F.plain_set_update_loop _]
    show wpAny _ A.in1 (pyNext (.ref I) >>= _) _ _ s
    refine wpAny_bind (W.done s _ _ st fun s' mv => ?_)
    show wpAny _ A.in1 (ret Value.none) _ _ s'
    exact wpAny_pure (fin s' zs (mv.mono up) (hS.keep fun o ho => mv.heap S o hSw ho) hm)
  | succ k ih =>
    intro i s zs hk hi st hS hm hl fin
    have lt : i < n := by omega
    refine codeAny_builtin PyProof.Rows.F.entry_set_update_loop ?_
    rw [Around.under_plainId PyProof.Rows.F.plain_set_update_loop _]
    show wpAny _ A.in1 (pyNext (.ref I) >>= _) _ _ s
    refine wpAny_bind (W.item i s _ _ lt st fun v s1 hP st1 mv => ?_)
    obtain ⟨t, rfl⟩ := hval i v hP
    have hS1 : SetS prog w bt s1.heap S zs := hS.keep fun o ho => mv.heap S o hSw ho
    show wpAny _ A.in1 (holding [Value.str (val i) t] (setAdd S (.str (val i) t)) >>= _) _ _ s1
    refine wpAny_bind (wpAny_holding (setS_add hS1 (by omega) fun h2 zs2 b sb hS2 hm2 hl2 => ?_))
    refine wpAny_pure ⟨plainId_quiet PyProof.Rows.F.plain_set_update_loop _, ih (i + 1) _ zs2 (by omega) lt (W.frame _ s1 _ _ st1 (Nat.le_succ _) fun b hb o e => ?_) hS2 (fun y => ?_) (by omega) fun s3 zs3 mv3 hS3 hm3 => ?_⟩
    · rw [sb.2 b (fun h : b = S => hSf (by rw [← h]; exact hb))]; exact e
    · rw [hm2 y, hm y]
      constructor
      · rintro (⟨j, hj, rfl⟩ | rfl)
        · exact ⟨j, by omega, rfl⟩
        · exact ⟨i, by omega, rfl⟩
      · rintro ⟨j, hj, rfl⟩
        by_cases e : j = i
        · rw [e]; exact .inr rfl
        · exact .inl ⟨j, by omega, rfl⟩
    · refine fin s3 zs3 (Moved.trans W.gtrans ((mv.mono up).then_heap (Nat.le_succ _) fun b o hb e => ?_) mv3) hS3 hm3
      rw [sb.2 b (fun h : b = S => hb (by rw [h]; exact List.mem_cons_self))]; exact e
end
section
variable {prog : Program} {w : World} {A : Around} {E : Value → Shared → Prop} {s : Shared}
set_option maxHeartbeats 3200000 in

theorem setS_call {z : Str} {t : Tok} {Q : Value → Shared → Prop} (hh : A.handled = none) (hb : z.cps.size + 1 < scanBound)
    (h : ∀ (h' : Heap) (tk : Nat) (zs : List Str), SetS prog w (byT w) h' s.heap.objs.size zs → (∀ y, y ∈ zs ↔ ∃ c ∈ z.cps.toList, y = ⟨#[c]⟩) →
      (∀ b o, s.heap.get? b = some o → h'.get? b = some o) → Q (.ref s.heap.objs.size) { s with heap := h', toks := tk }) :
    wpAny (model prog w) A (call (.type "set") [.str z t]) Q E s := by
  obtain ⟨c, tl, hmro⟩ := PySem.F.called_set.mro
  have hmade := PySem.F.called_set.made
  have hsub := PySem.F.called_set.sub
  refine wpAny_call (codeAny_of_tree ?_)
  show wpAny _ _ (callAny (.type "set") _) _ _ _
  refine wpAny_pure ⟨Code.quiet_builtin _ (by decide +kernel), codeAny_builtin PySem.F.entry_type_call ?_⟩
  rw [Around.under_plain (weight_type_call_type "set" [.str z t] []) rfl]
  have h1 := PySem.F.called_set.notType
  have h2 := PySem.F.called_set.canCreate
  have hct := PySem.F.typeCall_set_1 (.str z t)
  repeat (any_goals (first | assumption | wp_step))
  refine codeAny_mono (codeS_new (.str z t) (E := E) (Q := fun ob s1 => ob = .ref s.heap.objs.size ∧ s1 = { s with heap := s.heap.push (newSetO w) }) ⟨rfl, rfl⟩) fun r s1 hr => ?_
  cases r with
  | error e => exact hr
  | ok fl =>
    cases fl with
    | ret ob =>
      obtain ⟨rfl, rfl⟩ := hr
      have hS : (s.heap.push (newSetO w)).get? s.heap.objs.size = some (newSetO w) := Heap.get?_push_size _ rfl
      have hT : Shared.TypeIs { s with heap := s.heap.push (newSetO w) } (.ref s.heap.objs.size) "set" := ⟨_, hS, rfl⟩
      have hli := PySem.F.called_set.init.lookup
      have hbi := PySem.F.called_set.init.bind (.ref s.heap.objs.size)
      repeat (any_goals (first | assumption | wp_step))
      refine codeAny_mono (codeAny_call_builtin (R := wants (fun r s2 => r = .none ∧ ∃ h' tk zs, s2 = { s with heap := h', toks := tk } ∧ SetS prog w (byT w) h' s.heap.objs.size zs ∧ (∀ y, y ∈ zs ↔ ∃ c ∈ z.cps.toList, y = ⟨#[c]⟩) ∧
          (∀ b o, s.heap.get? b = some o → h'.get? b = some o)) E) PySem.F.called_set.init.plain PySem.F.entry_set_init (check_set_init_1 hT ?_)) fun r2 s2 hr2 => ?_
      · unfold Builtin.«set.__init__» noKeywords Builtin.Frozenset.updateFrom
        have a1 : isSubtype (.type "str") (.type "set") = pure false := by rw [isSubtype_type]; kernel_rfl
        have a2 : isSubtype (.type "str") (.type "frozenset") = pure false := by rw [isSubtype_type]; kernel_rfl
        have a3 : (Value.type "str" == Value.type "dict") = false := by decide
        generalize hPI : pyIter = PI
        wp_walk
        subst hPI
        refine wpAny_pyIter_str fun o St W st => ?_
        refine wpAny_bind (wpAny_runValue ?_)
        have hne : s.heap.objs.size ≠ (s.heap.push (newSetO w)).objs.size := by rw [Heap.size_push]; exact Nat.ne_of_lt (Nat.lt_succ_self _)
        have hh3 : A.in1.in1.in1.handled = none := by simp [hh]
        have hval : ∀ (i : Nat) (v : Value), SignAt z i v → ∃ t, v = .str ((fun i => (⟨#[z.cps.getD i 0]⟩ : Str)) i) t := fun i v hv => by
          obtain ⟨c, u, hc, rfl⟩ := hv
          exact ⟨u, by simp [Array.getD_eq_getD_getElem?, hc]⟩
        refine updS_loop (bt := byT w) ((W _ hh3).toS) s.heap.objs.size (by simpa using hne) (fun i => (⟨#[z.cps.getD i 0]⟩ : Str)) hval hb (z.cps.size - 0) 0 _ [] (by omega) (Nat.zero_le _) st
          (setS_new (Heap.get?_push_of_some _ hS)) (fun y => by simp) (Nat.le_refl _) fun s' zs mv hS' hm => ?_
        obtain ⟨h', g', d', tk', os'⟩ := s'
        have eg : g' = s.gens := mv.gens
        have ed : d' = s.drawn := mv.drawn
        have eo : os' = s.os := mv.os
        subst eg ed eo
        show wpAny _ _ _ _ _ _
        refine wpAny_pure ?_
        show wpAny _ _ (ret Value.none) _ _ _
        refine wpAny_pure ⟨rfl, h', tk', zs, rfl, hS', fun y => ?_, fun b o e => ?_⟩
        · rw [hm y]
          constructor
          · rintro ⟨j, hj, rfl⟩
            exact ⟨z.cps[j], by simp, by simp [Array.getD_eq_getD_getElem?, hj]⟩
          · rintro ⟨c, hc, rfl⟩
            obtain ⟨j, hj, e⟩ := List.getElem_of_mem hc
            exact ⟨j, by simpa using hj, by simp [Array.getD_eq_getD_getElem?, show j < z.cps.size by simpa using hj] at e ⊢; exact e⟩
        · have b1 := Heap.lt_size e
          refine mv.heap b o (by rw [Heap.size_push]; simp only [List.mem_cons, List.not_mem_nil, or_false, not_or]; exact ⟨Nat.ne_of_lt b1, Nat.ne_of_lt (Nat.lt_succ_of_lt b1)⟩) (Heap.get?_push_of_some _ (Heap.get?_push_of_some _ e))
      · cases r2 with
        | error e => exact hr2
        | ok fl2 =>
          cases fl2 with
          | ret r =>
            obtain ⟨rfl, h', tk, zs, rfl, q1, q2, q3⟩ := hr2
            repeat (any_goals (first | assumption | wp_step))
            exact h _ _ zs q1 q2 q3
          | _ => exact hr2.elim
    | _ => exact hr.elim
end
end L2.Na




namespace L2.Na
open PySem PySem.Spec PyProof.Rows
theorem slot_si_next : Slot "set_iterator" "__next__" "set_iterator.__next__" :=
  .of (owner := "set_iterator") (n := "__next__") (by rw [typeLookup_type, builtinLookup_eq_fast]; kernel_rfl) (by decide +kernel) (by decide +kernel) (by decide +kernel)
    (by first | exact .inl (by decide +kernel) | exact .inr (by decide +kernel)) (by rw [isSubtype_type]; kernel_rfl)
theorem entry_si_next : entryFor table "set_iterator.__next__" = some Builtin.«set_iterator.__next__» := entryFor_of_fast (by kernel_rfl)
theorem args_si_next (a : Value) : argsOk "set_iterator.__next__" ⟨[a], []⟩ := by unfold argsOk; kernel_rfl
theorem slot_si_iter : Slot "set_iterator" "__iter__" "set_iterator.__iter__" :=
  .of (owner := "set_iterator") (n := "__iter__") (by rw [typeLookup_type, builtinLookup_eq_fast]; kernel_rfl) (by decide +kernel) (by decide +kernel) (by decide +kernel)
    (by first | exact .inl (by decide +kernel) | exact .inr (by decide +kernel)) (by rw [isSubtype_type]; kernel_rfl)
theorem entry_si_iter : entryFor table "set_iterator.__iter__" = some Builtin.«dict_keyiterator.__iter__» :=
  entryFor_alias (id' := "dict_keyiterator.__iter__") (by kernel_rfl) rfl (by decide +kernel) (by kernel_rfl)
theorem args_si_iter (a : Value) : argsOk "set_iterator.__iter__" ⟨[a], []⟩ := by unfold argsOk; kernel_rfl
theorem entry_set_iter : entryFor table "set.__iter__" = some Builtin.«frozenset.__iter__» :=
  entryFor_alias (id' := "frozenset.__iter__") (by kernel_rfl) rfl (by decide +kernel) (by kernel_rfl)

noncomputable def IsSI (h : Heap) (it : Addr) (first : Value) (i : Nat) (a : Addr) (n ep : Nat) : Prop := ∃ o, h.get? it = some o ∧ o.cls = .type "set_iterator" ∧ o.data = .fields #[first, .int i 0, .ref a, .int n 0, .int ep 0]
section
variable {prog : Program} {w : World} {A : Around} {E : Value → Shared → Prop} {s : Shared} {it a : Addr} {i n ep : Nat} {o : Obj} {es : Array (Int × Value)} {t : SetTable}
theorem IsSI.type {first : Value} (h : IsSI s.heap it first i a n ep) : s.TypeIs (.ref it) "set_iterator" := by
  obtain ⟨o, ho, hc, _⟩ := h
  exact ⟨o, ho, hc⟩
theorem si_self {first : Value} {Q : Value → Shared → Prop} (hit : IsSI s.heap it first i a n ep) (h : Q (.ref it) s) : wpAny (model prog w) A (pyIter (.ref it)) Q E s := by
  refine wpAny_pyIter_slot hit.type slot_si_iter (wpAny_call_entry slot_si_iter hit.type entry_si_iter ?_ (args_si_iter _))
  show wpAny _ _ (ret (.ref it)) _ _ s
  exact wpAny_pure ⟨_, rfl, "set_iterator", _, hit.type, slot_si_next.lookup, h⟩

theorem si_nextA {slot nx : Nat} {x : Value} {Q : Option Value → Shared → Prop} (hit : IsSI s.heap it (.int slot 0) i a n ep) (ho : s.heap.get? a = some o) (hd : o.data = .set es ep t) (hf : t.fits es.size = true) (hn : es.size = n)
    (hx : ∀ (A : Around) (E : Value → Shared → Prop) (Q' : Option (Value × Nat) → Shared → Prop), Q' (some (x, nx)) s → wpAny (model prog w) A (setNext a slot i ep) Q' E s)
    (h : ∀ h', IsSI h' it (.int nx 0) (i + 1) a n ep → Heap.SameBut it s.heap h' → Q (some x) { s with heap := h' }) : wpAny (model prog w) A (pyNext (.ref it)) Q E s := by
  obtain ⟨oi, hoi, hci, hdi⟩ := id hit
  unfold pyNext
  refine wpAny_bind (wpAny_attempt (wpAny_callSpecial?_slot (name := Str.ofString "__next__") hit.type slot_si_next (wpAny_call_entry slot_si_next hit.type entry_si_next ?_ (args_si_next _))))
  show wpAny _ _ (fieldsOf (.ref it) >>= _) _ _ s
  refine wpAny_bind (wpAny_fieldsOf hoi hdi ?_)
  show wpAny _ _ (setEntries a >>= _) _ _ s
  refine wpAny_bind (wpAny_setEntries_of ho hd hf ?_)
  rw [if_neg (by simp [hn])]
  show wpAny _ _ (setNext a (Int.toNat (slot : Nat)) (Int.toNat (i : Nat)) (Int.toNat (ep : Nat)) >>= _) _ _ s
  rw [Int.toNat_natCast, Int.toNat_natCast, Int.toNat_natCast]
  refine wpAny_bind (hx _ _ _ ?_)
  dsimp only
  refine wpAny_bind (wpAny_setField hoi hdi (by simp) ?_)
  have g1 := Heap.get?_update_self (Obj.mapFields (·.setIfInBounds 0 (rawInt nx))) hoi (Obj.isFreed_of_fields (Obj.data_mapFields hdi _))
  have d1 := Obj.data_mapFields hdi (·.setIfInBounds 0 (rawInt nx))
  refine wpAny_bind (wpAny_setField g1 d1 (by simp) ?_)
  have g2 := Heap.get?_update_self (Obj.mapFields (·.setIfInBounds 1 (rawInt ((i : Int) + 1)))) g1 (Obj.isFreed_of_fields (Obj.data_mapFields d1 _))
  have d2 := Obj.data_mapFields d1 (·.setIfInBounds 1 (rawInt ((i : Int) + 1)))
  refine wpAny_pure ⟨x, rfl, wpAny_pure (h _ ⟨_, g2, (Obj.cls_mapFields ..).trans ((Obj.cls_mapFields ..).trans hci), ?_⟩ ((Heap.SameBut.update ..).trans (Heap.SameBut.update ..)))⟩
  rw [d2]
  simp [rawInt]

theorem si_nextB {tp : Addr} {ot : Obj} {ps : Array Value} {m p : Nat} {u : Tok} {x : Value} {hx : Int} {Q : Option Value → Shared → Prop} (hit : IsSI s.heap it (.ref tp) i a n ep) (ho : s.heap.get? a = some o) (hd : o.data = .set es ep t) (hf : t.fits es.size = true) (hn : es.size = n)
    (hot : s.heap.get? tp = some ot) (hdt : ot.data = .seq ps m) (hp : ps[i]? = some (.int p u)) (he : es[p]? = some (hx, x))
    (h : ∀ h', IsSI h' it (.ref tp) (i + 1) a n ep → Heap.SameBut it s.heap h' → Q (some x) { s with heap := h' }) : wpAny (model prog w) A (pyNext (.ref it)) Q E s := by
  obtain ⟨oi, hoi, hci, hdi⟩ := id hit
  unfold pyNext
  refine wpAny_bind (wpAny_attempt (wpAny_callSpecial?_slot (name := Str.ofString "__next__") hit.type slot_si_next (wpAny_call_entry slot_si_next hit.type entry_si_next ?_ (args_si_next _))))
  show wpAny _ _ (fieldsOf (.ref it) >>= _) _ _ s
  refine wpAny_bind (wpAny_fieldsOf hoi hdi ?_)
  show wpAny _ _ (setEntries a >>= _) _ _ s
  refine wpAny_bind (wpAny_setEntries_of ho hd hf ?_)
  rw [if_neg (by simp [hn])]
  show wpAny _ _ (seqItems? (.ref tp) >>= _) _ _ s
  refine wpAny_bind (wpAny_seqItems hot hdt ?_)
  dsimp only
  rw [Int.toNat_natCast, hp]
  dsimp only
  rw [Int.toNat_natCast, Int.toNat_natCast]
  unfold setNextDrawn
  refine wpAny_bind (wpAny_bind (wpAny_setState_of ho hd hf ?_))
  dsimp only
  rw [if_neg (by simp)]
  rw [he]
  refine wpAny_pure ?_
  refine wpAny_bind (wpAny_setField hoi hdi (by simp) ?_)
  have g2 := Heap.get?_update_self (Obj.mapFields (·.setIfInBounds 1 (rawInt ((i : Int) + 1)))) hoi (Obj.isFreed_of_fields (Obj.data_mapFields hdi _))
  have d2 := Obj.data_mapFields hdi (·.setIfInBounds 1 (rawInt ((i : Int) + 1)))
  refine wpAny_pure ⟨x, rfl, wpAny_pure (h _ ⟨_, g2, (Obj.cls_mapFields ..).trans hci, ?_⟩ (Heap.SameBut.update ..))⟩
  rw [d2]
  simp [rawInt]

theorem si_endA {slot : Nat} {Q : Option Value → Shared → Prop} (hh : A.handled = none) (hit : IsSI s.heap it (.int slot 0) i a n ep) (ho : s.heap.get? a = some o) (hd : o.data = .set es ep t) (hf : t.fits es.size = true) (hn : es.size = n)
    (hx : ∀ (A : Around) (E : Value → Shared → Prop) (Q' : Option (Value × Nat) → Shared → Prop), Q' none s → wpAny (model prog w) A (setNext a slot i ep) Q' E s)
    (h : ∀ h', Heap.ExtBut it s.heap h' → Q none { s with heap := h' }) : wpAny (model prog w) A (pyNext (.ref it)) Q E s := by
  obtain ⟨oi, hoi, hci, hdi⟩ := id hit
  unfold pyNext
  refine wpAny_bind (wpAny_attempt (wpAny_callSpecial?_slot (name := Str.ofString "__next__") hit.type slot_si_next (wpAny_call_entry slot_si_next hit.type entry_si_next ?_ (args_si_next _))))
  show wpAny _ _ (fieldsOf (.ref it) >>= _) _ _ s
  refine wpAny_bind (wpAny_fieldsOf hoi hdi ?_)
  show wpAny _ _ (setEntries a >>= _) _ _ s
  refine wpAny_bind (wpAny_setEntries_of ho hd hf ?_)
  rw [if_neg (by simp [hn])]
  show wpAny _ _ (setNext a (Int.toNat (slot : Nat)) (Int.toNat (i : Nat)) (Int.toNat (ep : Nat)) >>= _) _ _ s
  rw [Int.toNat_natCast, Int.toNat_natCast, Int.toNat_natCast]
  refine wpAny_bind (hx _ _ _ ?_)
  dsimp only
  refine wpAny_bind (wpAny_setField hoi hdi (by simp) ?_)
  show wpAny _ _ (newExc (.type "StopIteration") [] >>= _) _ _ _
  refine wpAny_bind ?_
  simp only [newExc, newTuple]
  refine wpAny_bind (wpAny_newObj_type ?_ (by size_fits))
  refine wpAny_bind (m := firstArgMember _ _) (wpAny_of_eq (a := Value.none) (by first | rfl | (simp only [firstArgMember]; rfl)) ?_)
  refine wpAny_newObj_type ?_ (by size_fits)
  simp only [raiseNew]
  refine wpAny_bind (wpAny_handled ?_)
  first | rw [show A.in1.handled = none from hh] | rw [hh]
  refine wpAny_bind (wpAny_pure (wpAny_throw ?_))
  refine wpAny_bind (wpAny_isInstance (T := "StopIteration") (b := true) ⟨_, Heap.get?_push_size _ rfl, rfl⟩ isSubtype_stop ?_)
  exact wpAny_pure (h _ (((Heap.SameBut.update ..).extBut.push _).push _))

theorem si_endB {tp : Addr} {ot : Obj} {ps : Array Value} {m : Nat} {Q : Option Value → Shared → Prop} (hh : A.handled = none) (hit : IsSI s.heap it (.ref tp) i a n ep) (ho : s.heap.get? a = some o) (hd : o.data = .set es ep t) (hf : t.fits es.size = true) (hn : es.size = n)
    (hot : s.heap.get? tp = some ot) (hdt : ot.data = .seq ps m) (hp : ps[i]? = none)
    (h : ∀ h', Heap.ExtBut it s.heap h' → Q none { s with heap := h' }) : wpAny (model prog w) A (pyNext (.ref it)) Q E s := by
  obtain ⟨oi, hoi, hci, hdi⟩ := id hit
  unfold pyNext
  refine wpAny_bind (wpAny_attempt (wpAny_callSpecial?_slot (name := Str.ofString "__next__") hit.type slot_si_next (wpAny_call_entry slot_si_next hit.type entry_si_next ?_ (args_si_next _))))
  show wpAny _ _ (fieldsOf (.ref it) >>= _) _ _ s
  refine wpAny_bind (wpAny_fieldsOf hoi hdi ?_)
  show wpAny _ _ (setEntries a >>= _) _ _ s
  refine wpAny_bind (wpAny_setEntries_of ho hd hf ?_)
  rw [if_neg (by simp [hn])]
  show wpAny _ _ (seqItems? (.ref tp) >>= _) _ _ s
  refine wpAny_bind (wpAny_seqItems hot hdt ?_)
  dsimp only
  rw [Int.toNat_natCast, hp]
  dsimp only
  refine wpAny_bind (wpAny_setField hoi hdi (by simp) ?_)
  have g1 := Heap.get?_update_self (Obj.mapFields (·.setIfInBounds 0 (rawInt 0))) hoi (Obj.isFreed_of_fields (Obj.data_mapFields hdi _))
  have d1 := Obj.data_mapFields hdi (·.setIfInBounds 0 (rawInt 0))
  refine wpAny_bind (wpAny_setField g1 d1 (by simp) ?_)
  show wpAny _ _ (newExc (.type "StopIteration") [] >>= _) _ _ _
  refine wpAny_bind ?_
  simp only [newExc, newTuple]
  refine wpAny_bind (wpAny_newObj_type ?_ (by size_fits))
  refine wpAny_bind (m := firstArgMember _ _) (wpAny_of_eq (a := Value.none) (by first | rfl | (simp only [firstArgMember]; rfl)) ?_)
  refine wpAny_newObj_type ?_ (by size_fits)
  simp only [raiseNew]
  refine wpAny_bind (wpAny_handled ?_)
  first | rw [show A.in1.handled = none from hh] | rw [hh]
  refine wpAny_bind (wpAny_pure (wpAny_throw ?_))
  refine wpAny_bind (wpAny_isInstance (T := "StopIteration") (b := true) ⟨_, Heap.get?_push_size _ rfl, rfl⟩ isSubtype_stop ?_)
  exact wpAny_pure (h _ ((((Heap.SameBut.update ..).trans (Heap.SameBut.update ..)).extBut.push _).push _))
end
end L2.Na




namespace L2.Na
open PySem PySem.Spec PyProof.Rows
section
variable {prog : Program} {w : World} {A : Around} {E : Value → Shared → Prop} {s : Shared}
theorem choose_any {src : Source} {n : Nat} {Q : Nat → Shared → Prop} (hn : n ≠ 0) (h : ∀ i d, i < n → Q i { s with drawn := d }) : wpAny (model prog w) A (choose src n) Q E s := fun Γ p hΓ => by
  unfold choose
  rw [Sem.wp_choose]
  exact ⟨hn, h _ _ (Nat.mod_lt _ (Nat.pos_of_ne_zero hn))⟩
theorem erase_perm {α : Type} : ∀ {l : List α} {i : Nat} (h : i < l.length), List.Perm (l[i] :: l.eraseIdx i) l
  | _ :: _, 0, _ => List.Perm.refl _
  | x :: l, i + 1, h => (List.Perm.swap ..).trans ((erase_perm (l := l) (i := i) (by simpa using h)).cons x)
theorem drawn_any {α : Type} : ∀ (n : Nat) (xs : List α) (s : Shared) (Q : List α → Shared → Prop), xs.length = n → (∀ ys d, List.Perm ys xs → Q ys { s with drawn := d }) → wpAny (model prog w) A (drawOrder n xs) Q E s
  | 0, xs, s, Q, hl, h => by
    have e : xs = [] := List.eq_nil_of_length_eq_zero hl
    subst e
    exact wpAny_pure (h [] s.drawn (List.Perm.refl _))
  | n + 1, [], s, Q, hl, h => nomatch hl
  | n + 1, x :: xs, s, Q, hl, h => by
    unfold drawOrder
    refine wpAny_bind (choose_any (by simp) fun i d hi => ?_)
    rw [List.getElem?_eq_getElem hi]
    dsimp only
    refine wpAny_bind (drawn_any n _ _ _ (by rw [List.length_eraseIdx_of_lt hi]; simpa using hl) fun ys d' hp => ?_)
    exact wpAny_pure (h _ d' ((List.Perm.cons _ hp).trans (erase_perm hi)))
theorem pick_go {α : Type} (next : Nat → Nat) : ∀ (f k : Nat) (left : List α) (out : Array α), left.length = f → List.Perm (pickOrder.go next f k left out).toList (out.toList ++ left)
  | 0, k, left, out, hl => by
    have e : left = [] := List.eq_nil_of_length_eq_zero hl
    subst e
    unfold pickOrder.go
    rw [List.append_nil]
  | f + 1, k, left, out, hl => by
    unfold pickOrder.go
    have hi : next k % left.length < left.length := Nat.mod_lt _ (by omega)
    rw [List.getElem?_eq_getElem hi]
    dsimp only
    refine (pick_go next f (k + 1) _ _ (by rw [List.length_eraseIdx_of_lt hi]; omega)).trans ?_
    rw [Array.toList_push, List.append_assoc]
    exact (List.Perm.refl _).append (erase_perm hi)
theorem pick_perm {α : Type} (next : Nat → Nat) (xs : Array α) : List.Perm (pickOrder next xs).toList xs.toList := by
  unfold pickOrder
  exact pick_go next _ _ _ _ (by simp)
variable {a : Addr} {o : Obj} {es : Array (Int × Value)} {ep : Nat} {t : SetTable}
theorem byText_is {Q : Bool → Shared → Prop} (h : Q (byT w) s) : wpAny (model prog w) A setsByText Q E s := by
  unfold setsByText
  exact wpAny_bind (wpAny_askSetting (wpAny_pure h))
theorem setDrawn_is {Q : Bool → Shared → Prop} (ho : s.heap.get? a = some o) (hd : o.data = .set es ep t) (hf : t.fits es.size = true) (h : Q (!byT w && (!t.plain && decide (es.size > 1))) s) : wpAny (model prog w) A (setDrawn a) Q E s := by
  unfold setDrawn
  refine wpAny_bind (wpAny_setState_of ho hd hf ?_)
  dsimp only
  refine wpAny_bind (byText_is ?_)
  exact wpAny_pure h
theorem setNext_text {Q : Option (Value × Nat) → Shared → Prop} {slot i : Nat} (bt : byT w = true) (ho : s.heap.get? a = some o) (hd : o.data = .set es ep t) (hf : t.fits es.size = true)
    (h : Q (((pickOrder (w.params.setOrder a ep) es)[i]?).map fun e => (e.2, slot)) s) : wpAny (model prog w) A (setNext a slot i ep) Q E s := by
  unfold setNext
  refine wpAny_bind (wpAny_setState_of ho hd hf ?_)
  dsimp only
  refine wpAny_bind (byText_is ?_)
  rw [bt]
  simp only [↓reduceIte, bne_self_eq_false, Bool.false_eq_true]
  refine wpAny_bind ?_
  unfold setWalk
  refine wpAny_bind (wpAny_setState_of ho hd hf ?_)
  dsimp only
  refine wpAny_bind (byText_is ?_)
  rw [bt]
  simp only [↓reduceIte]
  exact wpAny_bind (wpAny_askSetting (wpAny_pure (wpAny_pure h)))
theorem setNext_slot {Q : Option (Value × Nat) → Shared → Prop} {slot i : Nat} (bt : byT w = false) (h1 : es.size ≤ 1) (hl : t.led = true) (ho : s.heap.get? a = some o) (hd : o.data = .set es ep t) (hf : t.fits es.size = true)
    (h : Q (match es[SetTable.below t.place slot]?, t.place[SetTable.below t.place slot]? with
      | some (_, x), some j => some (x, j + 1)
      | _, _ => none) s) : wpAny (model prog w) A (setNext a slot i ep) Q E s := by
  obtain ⟨mk, pl, dm, fg, ld, mv, pn⟩ := t
  cases hl
  have hz : decide (es.size > 1) = false := decide_eq_false (by omega)
  unfold setNext
  refine wpAny_bind (wpAny_setState_of ho hd hf ?_)
  dsimp only
  refine wpAny_bind (byText_is ?_)
  rw [bt]
  simp only [Bool.false_eq_true, ↓reduceIte]
  split
  · rename_i hc
    have hc' : (!pn && decide (es.size > 1)) = true := hc
    rw [hz, Bool.and_false] at hc'
    cases hc'
  · exact wpAny_bind (wpAny_of_eq (a := ()) rfl (wpAny_pure h))
end
end L2.Na




namespace L2.Na
open PySem PySem.Spec PyProof.Rows
section
variable {prog : Program} {w : World} {A : Around} {I a : Addr} {o : Obj} {es : Array (Int × Value)} {ep : Nat} {t : SetTable}
theorem IsSI.keep {h h' : Heap} {it : Addr} {first : Value} {i n : Nat} (hI : IsSI h it first i a n ep) (k : ∀ o, h.get? it = some o → h'.get? it = some o) : IsSI h' it first i a n ep := by
  obtain ⟨o, ho, r⟩ := hI
  exact ⟨o, k o ho, r⟩
theorem walk_text (bt : byT w = true) (hh : A.handled = none) (hne : a ≠ I) (hd : o.data = .set es ep t) (hf : t.fits es.size = true) :
    Walks prog w A I [I, a] [I] es.size (fun i v => ((pickOrder (w.params.setOrder a ep) es).toList.map (·.2))[i]? = some v) (fun i h => IsSI h I (.int (0 : Nat) 0) i a es.size ep ∧ h.get? a = some o) where
  sub := fun b hb => by simp at hb; simp [hb]
  frame := fun _ _ _ st hk => ⟨st.1.keep fun o e => hk I (by simp) o e, hk a (by simp) o st.2⟩
  item := fun i s Q E hi st hQ => by
    have hl : (pickOrder (w.params.setOrder a ep) es).size = es.size := by
      rw [← Array.length_toList, (pick_perm _ es).length_eq, Array.length_toList]
    have hi' : i < (pickOrder (w.params.setOrder a ep) es).size := by omega
    refine si_nextA (x := (pickOrder (w.params.setOrder a ep) es)[i].2) (nx := 0) st.1 st.2 hd hf rfl (fun A' E' Q' q => setNext_text bt st.2 hd hf (by simpa [hi'] using q)) fun h' hit' hs' => ?_
    exact hQ _ h' s.toks (by simp [hi']) ⟨hit', by rw [hs'.2 a hne]; exact st.2⟩ fun b o hb e => hs'.extBut b o (fun h => hb (by simp [h])) e
  done := fun s Q E st hQ => by
    have hl : (pickOrder (w.params.setOrder a ep) es).size = es.size := by
      rw [← Array.length_toList, (pick_perm _ es).length_eq, Array.length_toList]
    exact si_endA hh st.1 st.2 hd hf rfl (fun A' E' Q' q => setNext_text bt st.2 hd hf (by rw [Array.getElem?_eq_none (by omega)]; exact q)) fun h' he' => hQ h' s.toks fun b o hb e => he' b o (fun h => hb (by simp [h])) e
  self := fun i s Q E st hQ => si_self st.1 hQ

noncomputable def slotAt (t : SetTable) : Nat → Nat
  | 0 => 0
  | _ + 1 => t.place.getD 0 0 + 1
theorem below_one (j : Nat) : SetTable.below #[j] 0 = 0 ∧ SetTable.below #[j] (j + 1) = 1 := by
  constructor <;> simp [SetTable.below, SetTable.below.go]
theorem walk_one (bt : byT w = false) (h1 : es.size ≤ 1) (hl : t.led = true) (hh : A.handled = none) (hne : a ≠ I) (hd : o.data = .set es ep t) (hf : t.fits es.size = true) :
    Walks prog w A I [I, a] [I] es.size (fun i v => (es.toList.map (·.2))[i]? = some v) (fun i h => IsSI h I (.int (slotAt t i : Nat) 0) i a es.size ep ∧ h.get? a = some o) where
  sub := fun b hb => by simp at hb; simp [hb]
  frame := fun _ _ _ st hk => ⟨st.1.keep fun o e => hk I (by simp) o e, hk a (by simp) o st.2⟩
  item := fun i s Q E hi st hQ => by
    have i0 : i = 0 := by omega
    subst i0
    have hpl : t.place.size = es.size := by
      simp only [SetTable.fits, Bool.and_eq_true, beq_iff_eq] at hf
      exact hf.1
    obtain ⟨j, hj⟩ : ∃ j, t.place = #[j] := Array.size_eq_one_iff.mp (by omega)
    obtain ⟨e, he⟩ : ∃ e, es = #[e] := Array.size_eq_one_iff.mp (by omega)
    refine si_nextA (x := e.2) (nx := j + 1) st.1 st.2 hd hf rfl (fun A' E' Q' q => setNext_slot bt h1 hl st.2 hd hf (by
      show Q' (match es[SetTable.below t.place 0]?, t.place[SetTable.below t.place 0]? with
        | some (_, x), some j => some (x, j + 1)
        | _, _ => none) s
      rw [hj, (below_one j).1, he]
      exact q)) fun h' hit' hs' => ?_
    refine hQ _ h' s.toks (by simp [he]) ⟨?_, by rw [hs'.2 a hne]; exact st.2⟩ fun b o hb e => hs'.extBut b o (fun h => hb (by simp [h])) e
    have : slotAt t (0 + 1) = j + 1 := by unfold slotAt; rw [hj]; rfl
    rw [this]
    exact hit'
  done := fun s Q E st hQ => by
    have hpl : t.place.size = es.size := by
      simp only [SetTable.fits, Bool.and_eq_true, beq_iff_eq] at hf
      exact hf.1
    refine si_endA hh st.1 st.2 hd hf rfl (fun A' E' Q' q => setNext_slot bt h1 hl st.2 hd hf ?_) fun h' he' => hQ h' s.toks fun b o hb e => he' b o (fun h => hb (by simp [h])) e
    by_cases h0 : es.size = 0
    · rw [Array.getElem?_eq_none (show es.size ≤ _ by omega)]
      exact q
    · obtain ⟨j, hj⟩ : ∃ j, t.place = #[j] := Array.size_eq_one_iff.mp (by omega)
      obtain ⟨e, he⟩ : ∃ e, es = #[e] := Array.size_eq_one_iff.mp (by omega)
      have : slotAt t es.size = j + 1 := by rw [he]; unfold slotAt; rw [hj]; rfl
      rw [this, hj, (below_one j).2, he]
      exact q
  self := fun i s Q E st hQ => si_self st.1 hQ
theorem fm_all {α β : Type} {f : α → Option β} {d : β} : ∀ (l : List α), (∀ x ∈ l, (f x).isSome = true) → l.filterMap f = l.map fun x => (f x).getD d
  | [], _ => rfl
  | x :: l, h => by
    obtain ⟨y, hy⟩ := Option.isSome_iff_exists.mp (h x List.mem_cons_self)
    rw [List.filterMap_cons_some hy, List.map_cons, fm_all l fun z hz => h z (List.mem_cons_of_mem _ hz), hy]
    rfl
theorem walk_drawn {tp : Addr} {ot : Obj} {m : Nat} {ord : List Nat} (hh : A.handled = none) (hne : a ≠ I) (hnt : tp ≠ I) (hd : o.data = .set es ep t) (hf : t.fits es.size = true) (hdt : ot.data = .seq (ord.map fun (i : Nat) => rawInt i).toArray m) (hp : List.Perm ord (List.range es.size)) :
    Walks prog w A I [I, a, tp] [I] es.size (fun i v => (ord.filterMap fun p => es[p]?.map (·.2))[i]? = some v) (fun i h => IsSI h I (.ref tp) i a es.size ep ∧ h.get? a = some o ∧ h.get? tp = some ot) where
  sub := fun b hb => by simp at hb; simp [hb]
  frame := fun _ _ _ st hk => ⟨st.1.keep fun o e => hk I (by simp) o e, hk a (by simp) o st.2.1, hk tp (by simp) ot st.2.2⟩
  item := fun i s Q E hi st hQ => by
    have hl : ord.length = es.size := by rw [hp.length_eq, List.length_range]
    have hlt : ∀ p ∈ ord, p < es.size := fun p hp' => List.mem_range.mp (hp.mem_iff.mp hp')
    have hi' : i < ord.length := by omega
    have hpi := hlt _ (List.getElem_mem hi')
    have hfm : ord.filterMap (fun p => es[p]?.map (·.2)) = ord.map fun p => (es[p]?.map (·.2)).getD .none := fm_all _ fun p hp' => by simp [hlt p hp']
    refine si_nextB (x := es[ord[i]].2) (hx := es[ord[i]].1) (p := ord[i]) (u := 0) st.1 st.2.1 hd hf rfl st.2.2 hdt (by simp [hi', rawInt]) (by simp [hpi]) fun h' hit' hs' => ?_
    exact hQ _ h' s.toks (by rw [hfm]; simp [hi', hpi]) ⟨hit', by rw [hs'.2 a hne]; exact st.2.1, by rw [hs'.2 tp hnt]; exact st.2.2⟩ fun b o hb e => hs'.extBut b o (fun h => hb (by simp [h])) e
  done := fun s Q E st hQ => by
    have hl : ord.length = es.size := by rw [hp.length_eq, List.length_range]
    exact si_endB hh st.1 st.2.1 hd hf rfl st.2.2 hdt (by simp [hl]) fun h' he' => hQ h' s.toks fun b o hb e => he' b o (fun h => hb (by simp [h])) e
  self := fun i s Q E st hQ => si_self st.1 hQ
end
end L2.Na




namespace L2.Na
open PySem PySem.Spec PyProof.Rows
section
variable {prog : Program} {w : World} {A : Around} {E : Value → Shared → Prop} {s : Shared}
theorem walked_strs {es : Array (Int × Value)} {ys : List Value} (hel : ElemsOf (PySem.strKind prog w) es.toList) (hp : List.Perm ys (es.toList.map (·.2))) : ys.length = (keysS es).length ∧ StrsAre ys (ys.map PyProof.Rows.strOf) ∧ List.Perm (ys.map PyProof.Rows.strOf) (keysS es) := by
  refine ⟨by rw [hp.length_eq]; unfold keysS; rw [List.length_map, List.length_map], strsAre_map ys fun v hv => ?_, ?_⟩
  · obtain ⟨e, he, rfl⟩ := List.mem_map.mp (hp.mem_iff.mp hv)
    obtain ⟨⟨k, hk, _⟩, _⟩ := hel e he
    obtain ⟨u, hu⟩ := Value.isStrOf_shape hk
    exact ⟨k, u, hu⟩
  · have := hp.map PyProof.Rows.strOf
    rw [List.map_map] at this
    exact this
theorem setS_iter {a : Addr} {zs : List Str} {Q : Value → Shared → Prop} (hS : SetS prog w (byT w) s.heap a zs)
    (h : ∀ (I : Addr) (s' : Shared) (fp : List Addr) (ys : List Value) (St : Nat → Heap → Prop), (∀ A' : Around, A'.handled = none → Walks prog w A' I fp [I] zs.length (fun i v => ys[i]? = some v) St) → St 0 s'.heap →
      (∀ b o, s.heap.get? b = some o → s'.heap.get? b = some o) → s.heap.objs.size ≤ I → (∀ b ∈ fp, b = a ∨ s.heap.objs.size ≤ b) → ys.length = zs.length → StrsAre ys (ys.map PyProof.Rows.strOf) → List.Perm (ys.map PyProof.Rows.strOf) zs →
      s'.gens = s.gens → s'.os = s.os → s'.toks = s.toks → Q (.ref I) s') :
    wpAny (model prog w) A (pyIter (.ref a)) Q E s := by
  obtain ⟨o, es, ep, t, ho, hex, hd, hel, rfl, nd, hb, hf, hl, hp⟩ := hS
  have hT : s.TypeIs (.ref a) "set" := ⟨o, ho, hex.1⟩
  have hlen : (keysS es).length = es.size := by unfold keysS; rw [List.length_map, Array.length_toList]
  have alt : a < s.heap.objs.size := Heap.lt_size ho
  refine wpAny_pyIter_slot hT PySem.F.slot_set_iter (wpAny_call_entry PySem.F.slot_set_iter hT entry_set_iter ?_ (PySem.F.args_set_iter_1 _))
  unfold Builtin.«frozenset.__iter__» Builtin.Frozenset.slot0 slotArgs
  simp only [List.isEmpty_nil, Bool.not_true, Bool.false_eq_true, ↓reduceIte, bind_assoc, List.length_nil, bne_self_eq_false]
  unfold Builtin.Frozenset.addrOf Builtin.Frozenset.sizeOf
  refine wpAny_bind (wpAny_pure ?_)
  try dsimp only
  refine wpAny_bind (wpAny_pure ?_)
  refine wpAny_bind (wpAny_bind (wpAny_setEntries_of ho hd hf (wpAny_pure ?_)))
  refine wpAny_bind (setDrawn_is ho hd hf ?_)
  split
  · refine wpAny_bind (drawn_any es.size (List.range es.size) s _ List.length_range fun ord d hpo => ?_)
    have hol : ord.length = es.size := by rw [hpo.length_eq, List.length_range]
    refine wpAny_bind (wpAny_newTuple ?_ (by rw [List.length_map, hol]; exact fits_of_scanBound hb))
    refine wpAny_bind (wpAny_setEpoch_of (Heap.get?_push_of_some _ ho) hd hf ?_)
    refine wpAny_bind (wpAny_newObj_type ?_)
    refine wpAny_pure ⟨_, rfl, "set_iterator", _, ⟨_, Heap.get?_push_size _ rfl, rfl⟩, slot_si_next.lookup, ?_⟩
    have pm : List.Perm (ord.filterMap fun p => es[p]?.map (·.2)) (es.toList.map (·.2)) := by
      have z := hpo.filterMap fun p => es[p]?.map (·.2)
      rw [← List.map_filterMap, ← List.map_filterMap, filterMap_getElem?_range] at z
      rwa [← List.map_filterMap]
    obtain ⟨q1, q2, q3⟩ := walked_strs hel pm
    refine h (s.heap.push ({ cls := .type "tuple", data := .seq (ord.map fun (i : Nat) => rawInt i).toArray } : Obj)).objs.size _ [(s.heap.push ({ cls := .type "tuple", data := .seq (ord.map fun (i : Nat) => rawInt i).toArray } : Obj)).objs.size, a, s.heap.objs.size] _ (fun i h => IsSI h (s.heap.push ({ cls := .type "tuple", data := .seq (ord.map fun (i : Nat) => rawInt i).toArray } : Obj)).objs.size (.ref s.heap.objs.size) i a es.size ep ∧ h.get? a = some o ∧ h.get? s.heap.objs.size = some ({ cls := .type "tuple", data := .seq (ord.map fun (i : Nat) => rawInt i).toArray } : Obj)) (fun A' hh' => ?_) ⟨⟨_, Heap.get?_push_size _ rfl, rfl, rfl⟩, Heap.get?_push_of_some _ (Heap.get?_push_of_some _ ho), Heap.get?_push_of_some _ (Heap.get?_push_size _ rfl)⟩ (fun b o e => Heap.get?_push_of_some _ (Heap.get?_push_of_some _ e)) ?_ (fun b hb' => ?_) q1 q2 q3 rfl rfl rfl
    · rw [hlen]
      exact walk_drawn hh' (by rw [Heap.size_push]; exact Nat.ne_of_lt (Nat.lt_succ_of_lt alt)) (by rw [Heap.size_push]; exact Nat.ne_of_lt (Nat.lt_succ_self _)) hd hf rfl hpo
    · rw [Heap.size_push]; exact Nat.le_succ _
    · rcases List.mem_cons.mp hb' with rfl | hb'
      · exact .inr (by rw [Heap.size_push]; exact Nat.le_succ _)
      · rcases List.mem_cons.mp hb' with rfl | hb'
        · exact .inl rfl
        · rw [List.mem_singleton.mp hb']
          exact .inr (Nat.le_refl _)
  · rename_i hc
    refine wpAny_bind (wpAny_pure ?_)
    refine wpAny_bind (wpAny_setEpoch_of ho hd hf ?_)
    refine wpAny_bind (wpAny_newObj_type ?_)
    refine wpAny_pure ⟨_, rfl, "set_iterator", _, ⟨_, Heap.get?_push_size _ rfl, rfl⟩, slot_si_next.lookup, ?_⟩
    have fps : ∀ b ∈ [s.heap.objs.size, a], b = a ∨ s.heap.objs.size ≤ b := fun b hb' => by
      rcases List.mem_cons.mp hb' with rfl | hb'
      · exact .inr (Nat.le_refl _)
      · exact .inl (List.mem_singleton.mp hb')
    cases bt : byT w with
    | true =>
      obtain ⟨q1, q2, q3⟩ := walked_strs hel ((pick_perm (w.params.setOrder a ep) es).map (·.2))
      refine h s.heap.objs.size _ [s.heap.objs.size, a] _ (fun i h => IsSI h s.heap.objs.size (.int (0 : Nat) 0) i a es.size ep ∧ h.get? a = some o) (fun A' hh' => ?_) ⟨⟨_, Heap.get?_push_size _ rfl, rfl, rfl⟩, Heap.get?_push_of_some _ ho⟩ (fun b o e => Heap.get?_push_of_some _ e) (Nat.le_refl _) fps q1 q2 q3 rfl rfl rfl
      rw [hlen]
      exact walk_text bt hh' (Nat.ne_of_lt alt) hd hf
    | false =>
      have h1 : es.size ≤ 1 := by
        rw [bt] at hc
        by_cases z : es.size ≤ 1
        · exact z
        · rw [hp (by omega), decide_eq_true (show es.size > 1 by omega)] at hc
          exact absurd rfl hc
      obtain ⟨q1, q2, q3⟩ := walked_strs hel (List.Perm.refl _)
      refine h s.heap.objs.size _ [s.heap.objs.size, a] _ (fun i h => IsSI h s.heap.objs.size (.int (slotAt t i : Nat) 0) i a es.size ep ∧ h.get? a = some o) (fun A' hh' => ?_) ⟨⟨_, Heap.get?_push_size _ rfl, rfl, rfl⟩, Heap.get?_push_of_some _ ho⟩ (fun b o e => Heap.get?_push_of_some _ e) (Nat.le_refl _) fps q1 q2 q3 rfl rfl rfl
      rw [hlen]
      exact walk_one bt h1 (by rw [hl, bt]; rfl) hh' (Nat.ne_of_lt alt) hd hf
end
end L2.Na




namespace L2.Na
open PySem PySem.Spec PyProof.Rows
section
variable {prog : Program} {w : World} {A : Around} {E : Value → Shared → Prop} {s : Shared}
theorem set_hint {a : Addr} {Q : Bool → Shared → Prop} (hT : s.TypeIs (.ref a) "set") (h : Q false s) : wpAny (model prog w) A (Builtin.List.listLengthHint (.ref a)) Q E s := by
  unfold Builtin.List.listLengthHint
  refine wpAny_bind (wpAny_specialOf hT PySem.F.slot_set_len.lookup ?_)
  generalize hid : ("set.__len__" : String) = id0
  wp_delta
  rw [show splitId id0 = some ("set", "__len__") from by subst hid; decide +kernel]
  subst hid
  refine wpAny_bind (wpAny_isInstance (b := true) hT (by rw [isSubtype_type]; kernel_rfl) ?_)
  refine wpAny_ite_split (fun z => absurd z (by decide)) (fun _ => ?_)
  refine wpAny_ite_split (fun _ => ?_) (fun z => absurd (by decide +kernel) z)
  exact wpAny_bind (wpAny_typeOf hT (wpAny_pure h))
theorem SetS.type {bt : Bool} {a : Addr} {zs : List Str} (hS : SetS prog w bt s.heap a zs) : s.TypeIs (.ref a) "set" := by
  obtain ⟨o, _, _, _, ho, hex, _⟩ := hS
  exact ⟨o, ho, hex.1⟩
theorem setS_collect {a : Addr} {zs : List Str} {Q : List Value → Shared → Prop} (hh : A.handled = none) (hS : SetS prog w (byT w) s.heap a zs) (hn : zs.length ≤ sizeLine)
    (h : ∀ (s' : Shared) (ys : List Value), (∀ b o, s.heap.get? b = some o → s'.heap.get? b = some o) → s.heap.objs.size ≤ s'.heap.objs.size → StrsAre ys (ys.map PyProof.Rows.strOf) → List.Perm (ys.map PyProof.Rows.strOf) zs → s'.gens = s.gens → s'.os = s.os → Q ys s') :
    wpAny (model prog w) A (collect (.ref a)) Q E s := by
  have alt : a < s.heap.objs.size := by
    obtain ⟨o, _, _, _, ho, _⟩ := hS
    exact Heap.lt_size ho
  unfold collect
  refine wpAny_bind (wpAny_runValue (codeAny_builtin entry_proto_collect' ?_))
  rw [Around.under_plainId PySem.F.plain_proto_collect _]
  show wpAny _ A.in1 (newList [] >>= fun l => again (.builtin "list.__iadd__" ⟨[l, .ref a], []⟩)) _ _ s
  refine wpAny_bind (wpAny_newObj_type ?_)
  refine wpAny_pure ⟨plainId_quiet PySem.F.plain_list_iadd _, codeAny_builtin entry_list_iadd' ?_⟩
  rw [Around.under_plainId PySem.F.plain_list_iadd _]
  have g1 : (s.heap.push { cls := .type "list", data := .seq ([] : List Value).toArray }).get? s.heap.objs.size = some { cls := .type "list", data := .seq #[] } := Heap.get?_push_size _ rfl
  have hS1 : SetS prog w (byT w) (s.heap.push { cls := .type "list", data := .seq ([] : List Value).toArray }) a zs := hS.keep fun o e => Heap.get?_push_of_some _ e
  show wpAny _ A.in1 (Builtin.List.listExtendWith (.ref s.heap.objs.size) (.ref a) (.ref s.heap.objs.size)) _ _ _
  unfold Builtin.List.listExtendWith
  refine wpAny_bind (wpAny_typeOf (T := "set") hS1.type ?_)
  have n1 : Builtin.List.listSameRef (.ref s.heap.objs.size) (.ref a) = false := by simp [Builtin.List.listSameRef, Nat.ne_of_gt alt]
  have n2 : (Value.type "set" == Value.type "list") = false := by decide
  have n3 : (Value.type "set" == Value.type "tuple") = false := by decide
  simp only [n1, n2, n3, Bool.or_false, Bool.false_eq_true, if_false]
  refine wpAny_bind (setS_iter (s := { s with heap := s.heap.push { cls := .type "list", data := .seq ([] : List Value).toArray } }) hS1 fun I s2 fp ys St W st kp hI hfp q1 q2 q3 eg eo et => ?_)
  have g2 := kp _ _ g1
  have hI1 : s.heap.objs.size < I := by
    have : (s.heap.push { cls := .type "list", data := .seq ([] : List Value).toArray }).objs.size ≤ I := hI
    rw [Heap.size_push] at this
    exact this
  have hSf : s.heap.objs.size ∉ fp := fun z => by
    rcases hfp _ z with e | e
    · exact absurd e (Nat.ne_of_gt alt)
    · have e' : (s.heap.push { cls := .type "list", data := .seq ([] : List Value).toArray }).objs.size ≤ s.heap.objs.size := e
      rw [Heap.size_push] at e'
      exact absurd e' (Nat.not_le.mpr (Nat.lt_succ_self _))
  have hh2 : A.in1.handled = none := by simp [hh]
  have key : ∀ (h : Heap) (c : Nat), St 0 h → (∀ b o, b ≠ s.heap.objs.size → s2.heap.get? b = some o → h.get? b = some o) → h.get? s.heap.objs.size = some { cls := .type "list", data := .seq #[] c } →
      codeAny (model prog w) A (.builtin "list.extend.loop" ⟨[.ref s.heap.objs.size, .ref I, .ref s.heap.objs.size], []⟩) (fun r s' => match r with
        | .ok (.ret v) => wpAny (model prog w) A (match v with
          | .ref a => do
            let o ← load a
            match o.data with
            | .seq xs _ => pure xs.toList
            | _ => unsupported "internal:collect"
          | _ => unsupported "internal:collect") Q E s'
        | .ok _ => False
        | .error e => E e s') { s2 with heap := h } := fun h3 c st3 k3 g3 => by
    refine codeAny_extend_loopS ((W _ hh2).toS) hn s.heap.objs.size hSf (.ref s.heap.objs.size) zs.length 0 _ #[] c rfl (Nat.zero_le _) st3 g3 (ItemsOf.nil _) fun s4 acc c4 mv g4 ac => ?_
    dsimp only
    refine wpAny_bind (wpAny_load g4 ?_)
    dsimp only
    have ea : acc.toList = ys := by
      refine List.ext_getElem? fun j => ?_
      by_cases hj : j < acc.size
      · have z := ac.2 j acc[j] (by simp [hj])
        rw [z]
        simp [hj]
      · have e1 : acc.size = zs.length := ac.1
        rw [List.getElem?_eq_none (by simpa using hj), List.getElem?_eq_none (by omega)]
    rw [ea]
    refine wpAny_pure (h s4 ys (fun b o e => ?_) (Nat.le_of_lt (Heap.lt_size g4)) q2 q3 (mv.gens.trans eg) (mv.os.trans eo))
    have b1 := Heap.lt_size e
    refine mv.heap b o (by simp only [List.mem_cons, List.not_mem_nil, or_false, not_or]; exact ⟨Nat.ne_of_lt b1, Nat.ne_of_lt (Nat.lt_trans b1 hI1)⟩) (k3 b o (Nat.ne_of_lt b1) (kp b o (Heap.get?_push_of_some _ e)))
  refine wpAny_bind (wpAny_holding (set_hint (SetS.type (hS1.keep fun o e => kp _ _ e)) ?_))
  refine wpAny_ite_split (fun _ => ?_) (fun _ => wpAny_pure ⟨plainId_quiet PySem.F.plain_extend_loop _, key _ _ st (fun b o _ e => e) g2⟩)
  refine wpAny_bind (wpAny_rule ?_)
  refine wpAny_bind ?_
  show wpAny _ _ (updateSeq s.heap.objs.size (·.push .none) >>= fun _ => updateSeq s.heap.objs.size (·.pop)) _ _ _
  refine wpAny_bind (wpAny_updateSeq g2 rfl ?_)
  have g5 := Heap.get?_update_self (Obj.mapSeq (·.push Value.none)) g2 rfl
  refine wpAny_updateSeq (hz := by seq_fits) g5 rfl ?_
  have g6 := Heap.get?_update_self (Obj.mapSeq (·.pop)) g5 rfl
  have oth : ∀ b o, b ≠ s.heap.objs.size → s2.heap.get? b = some o → ((s2.heap.update s.heap.objs.size (Obj.mapSeq (·.push Value.none))).update s.heap.objs.size (Obj.mapSeq (·.pop))).get? b = some o := fun b o hb e =>
    (Heap.get?_update_other _ _ (Ne.symm hb)).trans ((Heap.get?_update_other _ _ (Ne.symm hb)).trans e)
  exact wpAny_pure ⟨plainId_quiet PySem.F.plain_extend_loop _, key _ _ ((W _ hh2).frame 0 _ _ st fun b hb o e => oth b o (fun z => hSf (z ▸ hb)) e) oth g6⟩
end
end L2.Na




namespace L2.Na
open PySem PySem.Spec PyProof.Rows
section
variable {prog : Program} {w : World} {A : Around} {E : Value → Shared → Prop} {s : Shared}
theorem setS_sorted {a : Addr} {zs : List Str} {Q : Value → Shared → Prop} (hh : A.handled = none) (hS : SetS prog w (byT w) s.heap a zs) (h64 : zs.length < 64)
    (h : ∀ (s' : Shared) (D : Addr) (vs : List Value) (ss : List Str) (e : Nat), (∀ b o, s.heap.get? b = some o → s'.heap.get? b = some o) → s.heap.objs.size ≤ D → s'.heap.get? D = some (seqObj "list" vs.toArray e) → StrsAre vs ss → List.Perm ss zs → sortedS ss = true →
      s'.gens = s.gens → s'.os = s.os → Q (.ref D) s') : wpAny (model prog w) A (call (.builtin "sorted") [.ref a]) Q E s := by
  have hn : zs.length ≤ sizeLine := by rw [sizeLine_eq]; omega
  refine Calls.call_function_entry kind_sorted plain_sorted entry_sorted (args_sorted1 _) ?_
  unfold Builtin.«sorted»
  refine wpAny_bind (m := checkCount "sorted" 1 1 _) (wpAny_pure ?_)
  refine wpAny_bind (setS_collect (A := A.in1) (by simp [hh]) hS hn fun s1 ys k1 le q2 q3 eg eo => ?_)
  have hl : ys.length = zs.length := by rw [← q3.length_eq, List.length_map]
  refine wpAny_bind (wpAny_newList ?_ (by rw [hl]; exact hn))
  have hoL : (s1.heap.push (seqObj "list" ys.toArray 0)).get? s1.heap.objs.size = some (seqObj "list" ys.toArray 0) := Heap.get?_push_size _ rfl
  show wpAny _ _ _ _ _ { s1 with heap := s1.heap.push (seqObj "list" ys.toArray 0) }
  refine wpAny_bind (wpAny_holding (wpAny_call_entry slot_list_sort ⟨_, hoL, rfl⟩ entry_list_sort (list_sort_treeK strKind_oneLt hoL q2.keysOf (fun v₁ v₂ rest e => keyKind_strs (by rw [← e]; exact q2)) (by omega) fun st' a1 a2 => ⟨_, rfl, ?_⟩) (args_list_sort _)))
  obtain ⟨ss, b1, b2, b3⟩ := sorted_out_str q2 a1 a2
  obtain ⟨e, he⟩ := sortedHeap_at (out := (arrOf st').map (·.2)) hoL
  refine wpAny_pure ⟨_, rfl, h _ s1.heap.objs.size ((arrOf st').map (·.2)).toList ss e (fun b o z => ?_) le ?_ b1 (b2.trans q3) b3 eg eo⟩
  · have lt := Heap.lt_size (k1 b o z)
    show (sortedHeap _ _ _ _).get? b = some o
    rw [sortedHeap_old (Nat.ne_of_lt lt) (by rw [Heap.size_push]; exact Nat.lt_succ_of_lt lt)]
    exact Heap.get?_push_of_some _ (k1 b o z)
  · rw [Array.toArray_toList]
    exact he
end
end L2.Na




namespace L2.Na
open PySem PySem.Spec PyProof.Rows
noncomputable def subs : List (List Nat) := [[], [0], [1], [2], [3], [0, 1], [0, 2], [0, 3], [1, 2], [1, 3], [2, 3], [0, 1, 2], [0, 1, 3], [0, 2, 3], [1, 2, 3], [0, 1, 2, 3]]
noncomputable def tab (l : List Nat) (ld : Bool) : SetTable := { mask := 7, place := l.toArray, dummies := #[], finger := 0, led := ld, moves := 0, plain := true }
noncomputable def ins (k : Nat) (l : List Nat) : List Nat := [0, 1, 2, 3].filter fun c => decide (c = k) || decide (c ∈ l)
theorem tab_add : ∀ ld : Bool, ∀ l ∈ subs, ∀ k ∈ [0, 1, 2, 3], k ∉ l → (tab l ld).freeSlot ((k : Nat) : Int) = some (k, false) ∧ (tab l ld).put k = (tab (ins k l) ld, (l.filter fun c => decide (c < k)).length) ∧ (tab (ins k l) ld).tooFull = false ∧ ins k l ∈ subs ∧ (tab (ins k l) ld).fits (l.length + 1) = true := by
  decide +kernel
theorem tab_walk : ∀ ld : Bool, ∀ l ∈ subs, SetTable.below l.toArray 0 = 0 ∧ ∀ i, i < l.length → SetTable.below l.toArray (l.getD i 0 + 1) = i + 1 := by
  decide +kernel
theorem ins_cut : ∀ l ∈ subs, ∀ k ∈ [0, 1, 2, 3], k ∉ l → ins k l = l.take (l.filter fun c => decide (c < k)).length ++ k :: l.drop (l.filter fun c => decide (c < k)).length := by
  decide +kernel
theorem hash_small : ∀ k ∈ [0, 1, 2, 3], hashInt ((k : Nat) : Int) = ((k : Nat) : Int) := by decide +kernel
theorem subs_small : ∀ l ∈ subs, l.length ≤ 4 ∧ l.Nodup ∧ (∀ c ∈ l, c ∈ [0, 1, 2, 3]) ∧ l.Pairwise (· < ·) := by decide +kernel
theorem ins_mem : ∀ l ∈ subs, ∀ k ∈ [0, 1, 2, 3], ∀ c ∈ [0, 1, 2, 3], c ∈ ins k l ↔ c = k ∨ c ∈ l := by decide +kernel
theorem ins_same : ∀ l ∈ subs, ∀ k ∈ [0, 1, 2, 3], k ∈ l → ins k l = l := by decide +kernel
noncomputable def iVal : Value → Option Int
  | .int i _ => some i
  | _ => none
theorem iVal_is {v : Value} {i : Int} (h : iVal v = some i) : ∃ t, v = .int i t := by
  cases v <;> simp [iVal] at h
  exact ⟨_, by rw [h]⟩
noncomputable def rowI (e : Int × Value) : Int × Option Int := (e.1, iVal e.2)
noncomputable def numI (k : Nat) : Int × Option Int := (((k : Nat) : Int), some ((k : Nat) : Int))

noncomputable def SetI (bt : Bool) (h : Heap) (a : Addr) (l : List Nat) : Prop :=
  ∃ (o : Obj) (es : Array (Int × Value)) (ep : Nat), h.get? a = some o ∧ o.ExactSet ∧ o.data = .set es ep (tab l (!bt)) ∧ l ∈ subs ∧ es.toList.map rowI = l.map numI
section
variable {prog : Program} {w : World} {A : Around} {E : Value → Shared → Prop} {s : Shared} {bt : Bool} {a : Addr}
theorem SetI.keep {h h' : Heap} {l : List Nat} (hS : SetI bt h a l) (k : ∀ o, h.get? a = some o → h'.get? a = some o) : SetI bt h' a l := by
  obtain ⟨o, es, ep, ho, r⟩ := hS
  exact ⟨o, es, ep, k o ho, r⟩
theorem rows_elem {es : Array (Int × Value)} {l : List Nat} (hr : es.toList.map rowI = l.map numI) {e : Int × Value} (he : e ∈ es.toList) : ∃ k ∈ l, e.1 = ((k : Nat) : Int) ∧ ∃ t, e.2 = .int ((k : Nat) : Int) t := by
  have : rowI e ∈ es.toList.map rowI := List.mem_map.mpr ⟨e, he, rfl⟩
  rw [hr] at this
  obtain ⟨k, hk, e1⟩ := List.mem_map.mp this
  have e2 := congrArg Prod.fst e1
  have e3 := congrArg Prod.snd e1
  exact ⟨k, hk, e2.symm, iVal_is e3.symm⟩
theorem rows_size {es : Array (Int × Value)} {l : List Nat} (hr : es.toList.map rowI = l.map numI) : es.size = l.length := by
  have := congrArg List.length hr
  rw [List.length_map, List.length_map, Array.length_toList] at this
  exact this
theorem rows_elems {es : Array (Int × Value)} {l : List Nat} (hl : l ∈ subs) (hr : es.toList.map rowI = l.map numI) : ElemsOf (PySem.intKind prog w) es.toList := fun e he => by
  obtain ⟨k, hk, h1, t, h2⟩ := rows_elem hr he
  refine ⟨⟨((k : Nat) : Int), ?_, ?_⟩, by rw [h2]; rfl⟩
  · rw [h2]; exact intKind_is _ _ _ _
  · rw [h1]; exact (hash_small k ((subs_small l hl).2.2.1 k hk)).symm
theorem setI_add {l : List Nat} {k : Nat} {tk : Tok} {Q : Bool → Shared → Prop} (hS : SetI bt s.heap a l) (hk : k ∈ [0, 1, 2, 3])
    (h : ∀ h' b, Heap.SameBut a s.heap h' → SetI bt h' a (ins k l) → Q b { s with heap := h', toks := s.toks + 1 }) :
    wpAny (model prog w) A (setAdd a (.int ((k : Nat) : Int) tk)) Q E s := by
  obtain ⟨o, es, ep, ho, hex, hd, hl, hr⟩ := hS
  have sz := rows_size hr
  have sm := subs_small l hl
  have hb : es.size < scanBound := by
    show es.size < 4096
    have := sm.1
    omega
  have hel : ElemsOf (PySem.intKind prog w) es.toList := rows_elems hl hr
  have hf : (tab l (!bt)).fits es.size = true := by
    rw [sz]
    have := sm.1
    simp only [SetTable.fits, SetTable.fill, tab, List.size_toArray]
    simp
    omega
  have hkey : (PySem.intKind prog w).is ((k : Nat) : Int) (.int ((k : Nat) : Int) tk) = true := intKind_is _ _ _ _
  have hsc : (Value.int ((k : Nat) : Int) tk).scannable = true := rfl
  unfold setAdd
  refine wpAny_holding (wpAny_bind ((PySem.intKind prog w).pyHash hkey ?_))
  have hh : (PySem.intKind prog w).hash ((k : Nat) : Int) = ((k : Nat) : Int) := hash_small k hk
  unfold setAddHashed setAddHashedIn
  refine wpAny_holding (wpAny_bind (wpAny_setState_of (s := { s with toks := s.toks + 1 }) ho hd hf ?_))
  dsimp only
  rw [byScan_of hsc hb hel]
  simp only [↓reduceIte]
  unfold setAddByScan
  refine wpAny_bind (wpAny_bind (wpAny_rule (wpAny_bind (wpAny_setScan_of (s := { s with toks := s.toks + 1 }) hkey ho hd hf hel ?_))))
  cases hfi : List.findIdx? (fun e => (PySem.intKind prog w).is ((k : Nat) : Int) e.2) es.toList with
  | some j =>
    dsimp only
    obtain ⟨hj, hpj, _⟩ := List.findIdx?_eq_some_iff_getElem.mp hfi
    have hm : k ∈ l := by
      obtain ⟨c, hc, _, t, e2⟩ := rows_elem hr (List.getElem_mem hj)
      rw [e2] at hpj
      have := (PySem.intKind prog w).inj _ _ _ hpj (intKind_is _ _ ((c : Nat) : Int) t)
      have : k = c := by omega
      rw [this]; exact hc
    refine wpAny_pure (wpAny_pure (h s.heap _ (Heap.SameBut.refl a s.heap) ?_))
    rw [ins_same l hl k hk hm]
    exact ⟨o, es, ep, ho, hex, hd, hl, hr⟩
  | none =>
    dsimp only
    have hn : k ∉ l := fun z => by
      have z1 : numI k ∈ es.toList.map rowI := by rw [hr]; exact List.mem_map.mpr ⟨k, z, rfl⟩
      obtain ⟨e, he, e1⟩ := List.mem_map.mp z1
      obtain ⟨t, e2⟩ := iVal_is (congrArg Prod.snd e1)
      have := List.findIdx?_eq_none_iff.mp hfi e he
      rw [e2] at this
      rw [intKind_is] at this
      cases this
    obtain ⟨a1, a2, a3, a4, a5⟩ := tab_add (!bt) l hl k hk hn
    have hlay : layNew (tab l (!bt)) es ((k : Nat) : Int) (.int ((k : Nat) : Int) tk) = (SetTable.insertAt es (l.filter fun c => decide (c < k)).length (((k : Nat) : Int), .int ((k : Nat) : Int) tk), tab (ins k l) (!bt), false, false) := by
      unfold layNew
      rw [a1]
      dsimp only
      rw [a2]
      have sz2 : (SetTable.insertAt es (l.filter fun c => decide (c < k)).length (((k : Nat) : Int), Value.int ((k : Nat) : Int) tk)).size = l.length + 1 := by
        rw [← Array.length_toList, (SetTable.insertAt_perm es _ _).length_eq, Array.toList_push, List.length_append, Array.length_toList, sz]
        rfl
      dsimp only
      rw [sz2]
      unfold SetTable.orStandIn
      rw [a5]
      rfl
    rw [hh, hlay]
    dsimp only
    refine wpAny_bind (wpAny_of_eq (a := ()) rfl ?_)
    rw [if_pos (show (tab (ins k l) (!bt)).plain = true from rfl)]
    refine wpAny_bind ?_
    rw [hashByValue_scannable 8 hsc]
    refine wpAny_pure ?_
    show wpAny _ _ (storeSet a _ (tab (ins k l) (!bt)) >>= _) _ _ _
    have sz2 : (SetTable.insertAt es (l.filter fun c => decide (c < k)).length (((k : Nat) : Int), Value.int ((k : Nat) : Int) tk)).size = l.length + 1 := by
      rw [← Array.length_toList, (SetTable.insertAt_perm es _ _).length_eq, Array.toList_push, List.length_append, Array.length_toList, sz]
      rfl
    refine wpAny_bind (wpAny_storeSet_of (s := { s with toks := s.toks + 1 }) ho hd ?_ (by rw [sz2, sizeLine_eq]; have := sm.1; omega))
    have hnf : ((!false && (tab (ins k l) (!bt)).tooFull) = true) = False := by rw [a3]; simp
    show wpAny _ _ (if (!false && (tab (ins k l) (!bt)).tooFull) = true then _ else _) _ _ _
    rw [if_neg (by rw [hnf]; exact id)]
    refine wpAny_pure (wpAny_pure (h _ _ (Heap.SameBut.update ..) ⟨_, _, _, set_put ho hd, hex, rfl, a4, ?_⟩))
    rw [SetTable.toList_insertAt, ins_cut l hl k hk hn, List.map_append, List.map_append, List.map_cons, List.map_cons, List.map_take, List.map_drop, hr, List.map_take, List.map_drop]
    rfl
end
end L2.Na




namespace L2.Na
open PySem PySem.Spec PyProof.Rows
section
variable {prog : Program} {w : World} {A : Around} {E : Value → Shared → Prop} {s : Shared}
theorem setI_new {h : Heap} {a : Addr} (e : h.get? a = some (newSetO w)) : SetI (byT w) h a [] := ⟨_, #[], 0, e, ⟨rfl, rfl, rfl⟩, rfl, by decide +kernel, rfl⟩
variable {R : Result → Shared → Prop} {I : Addr} {fp wr : List Addr} {G : Array GenState → Array GenState → Prop} {n : Nat} {P : Nat → Value → Prop} {St : Nat → Shared → Prop} {bt : Bool}
theorem updI_loop (W : WalksS prog w A.in1 I fp wr G n P St) (S : Addr) (hSf : S ∉ fp) (val : Nat → Nat) (hval : ∀ i v, P i v → val i ∈ [0, 1, 2, 3] ∧ ∃ t, v = .int ((val i : Nat) : Int) t) :
    ∀ (k i : Nat) (s : Shared) (l : List Nat), n - i = k → i ≤ n → St i s → SetI bt s.heap S l → (∀ c ∈ [0, 1, 2, 3], c ∈ l ↔ ∃ j, j < i ∧ val j = c) →
      (∀ s' l', Moved (S :: wr) G s s' → SetI bt s'.heap S l' → (∀ c ∈ [0, 1, 2, 3], c ∈ l' ↔ ∃ j, j < n ∧ val j = c) → R (.ok (.ret .none)) s') →
      codeAny (model prog w) A (.builtin "set.update.loop" ⟨[.ref S, .ref I], []⟩) R s := by
  have hSw : S ∉ wr := fun h => hSf (W.sub _ h)
  have up : ∀ b ∈ wr, b ∈ S :: wr := fun b hb => List.mem_cons_of_mem _ hb
  intro k
  induction k with
  | zero =>
    intro i s l hk hi st hS hm fin
    have e : i = n := by omega
    subst e
    refine codeAny_builtin PyProof.Rows.F.entry_set_update_loop ?_
    rw [Around.under_plainId PyProof.Rows.F.plain_set_update_loop _]
    show wpAny _ A.in1 (pyNext (.ref I) >>= _) _ _ s
    refine wpAny_bind (W.done s _ _ st fun s' mv => ?_)
    show wpAny _ A.in1 (ret Value.none) _ _ s'
    exact wpAny_pure (fin s' l (mv.mono up) (hS.keep fun o ho => mv.heap S o hSw ho) hm)
  | succ k ih =>
    intro i s l hk hi st hS hm fin
    have lt : i < n := by omega
    refine codeAny_builtin PyProof.Rows.F.entry_set_update_loop ?_
    rw [Around.under_plainId PyProof.Rows.F.plain_set_update_loop _]
    show wpAny _ A.in1 (pyNext (.ref I) >>= _) _ _ s
    refine wpAny_bind (W.item i s _ _ lt st fun v s1 hP st1 mv => ?_)
    obtain ⟨hv, t, rfl⟩ := hval i v hP
    have hS1 : SetI bt s1.heap S l := hS.keep fun o ho => mv.heap S o hSw ho
    have hls : l ∈ subs := by
      obtain ⟨_, _, _, _, _, _, z, _⟩ := hS1
      exact z
    show wpAny _ A.in1 (holding [Value.int ((val i : Nat) : Int) t] (setAdd S (.int ((val i : Nat) : Int) t)) >>= _) _ _ s1
    refine wpAny_bind (wpAny_holding (setI_add hS1 hv fun h2 b sb hS2 => ?_))
    refine wpAny_pure ⟨plainId_quiet PyProof.Rows.F.plain_set_update_loop _, ih (i + 1) _ (ins (val i) l) (by omega) lt (W.frame _ s1 _ _ st1 (Nat.le_succ _) fun b hb o e => ?_) hS2 (fun c hc => ?_) fun s3 l3 mv3 hS3 hm3 => ?_⟩
    · rw [sb.2 b (fun h : b = S => hSf (by rw [← h]; exact hb))]; exact e
    · rw [ins_mem l hls (val i) hv c hc, hm c hc]
      constructor
      · rintro (rfl | ⟨j, hj, rfl⟩)
        · exact ⟨i, by omega, rfl⟩
        · exact ⟨j, by omega, rfl⟩
      · rintro ⟨j, hj, rfl⟩
        by_cases e : j = i
        · rw [e]; exact .inl rfl
        · exact .inr ⟨j, by omega, rfl⟩
    · refine fin s3 l3 (Moved.trans W.gtrans ((mv.mono up).then_heap (Nat.le_succ _) fun b o hb e => ?_) mv3) hS3 hm3
      rw [sb.2 b (fun h : b = S => hb (by rw [h]; exact List.mem_cons_self))]; exact e
end
section
variable {prog : Program} {w : World} {A : Around} {E : Value → Shared → Prop} {s : Shared}
set_option maxHeartbeats 3200000 in
theorem setI_call {p : Addr} {its : Array Value} {ns : List Nat} {Q : Value → Shared → Prop} (hh : A.handled = none) (hl : s.heap.IsList p its) (hn : its.toList.map iVal = ns.map fun (k : Nat) => some ((k : Nat) : Int)) (h4 : ∀ k ∈ ns, k ∈ [0, 1, 2, 3])
    (h : ∀ (h' : Heap) (tk : Nat) (l : List Nat), SetI (byT w) h' s.heap.objs.size l → (∀ c ∈ [0, 1, 2, 3], c ∈ l ↔ c ∈ ns) →
      (∀ b o, s.heap.get? b = some o → h'.get? b = some o) → Q (.ref s.heap.objs.size) { s with heap := h', toks := tk }) :
    wpAny (model prog w) A (call (.type "set") [.ref p]) Q E s := by
  obtain ⟨c, tl, hmro⟩ := PySem.F.called_set.mro
  have hmade := PySem.F.called_set.made
  have hsub := PySem.F.called_set.sub
  refine wpAny_call (codeAny_of_tree ?_)
  show wpAny _ _ (callAny (.type "set") _) _ _ _
  refine wpAny_pure ⟨Code.quiet_builtin _ (by decide +kernel), codeAny_builtin PySem.F.entry_type_call ?_⟩
  rw [Around.under_plain (weight_type_call_type "set" [.ref p] []) rfl]
  have h1 := PySem.F.called_set.notType
  have h2 := PySem.F.called_set.canCreate
  have hct := PySem.F.typeCall_set_1 (.ref p)
  repeat (any_goals (first | assumption | wp_step))
  refine codeAny_mono (codeS_new (.ref p) (E := E) (Q := fun ob s1 => ob = .ref s.heap.objs.size ∧ s1 = { s with heap := s.heap.push (newSetO w) }) ⟨rfl, rfl⟩) fun r s1 hr => ?_
  cases r with
  | error e => exact hr
  | ok fl =>
    cases fl with
    | ret ob =>
      obtain ⟨rfl, rfl⟩ := hr
      have hS : (s.heap.push (newSetO w)).get? s.heap.objs.size = some (newSetO w) := Heap.get?_push_size _ rfl
      have hT : Shared.TypeIs { s with heap := s.heap.push (newSetO w) } (.ref s.heap.objs.size) "set" := ⟨_, hS, rfl⟩
      have hli := PySem.F.called_set.init.lookup
      have hbi := PySem.F.called_set.init.bind (.ref s.heap.objs.size)
      repeat (any_goals (first | assumption | wp_step))
      refine codeAny_mono (codeAny_call_builtin (R := wants (fun r s2 => r = .none ∧ ∃ h' tk l, s2 = { s with heap := h', toks := tk } ∧ SetI (byT w) h' s.heap.objs.size l ∧ (∀ c ∈ [0, 1, 2, 3], c ∈ l ↔ c ∈ ns) ∧
          (∀ b o, s.heap.get? b = some o → h'.get? b = some o)) E) PySem.F.called_set.init.plain PySem.F.entry_set_init (check_set_init_1 hT ?_)) fun r2 s2 hr2 => ?_
      · obtain ⟨ol, hol, hcl, nl, hdl⟩ := hl
        obtain ⟨ocls, odict, odata, oslots⟩ := ol
        simp only at hcl hdl
        subst hcl; subst hdl
        have hol' : (s.heap.push (newSetO w)).get? p = some { cls := .type "list", dict := odict, data := .seq its nl, slots := oslots } := Heap.get?_push_of_some _ hol
        have a1 := PySem.F.sub_list_set
        have a2 := PySem.F.sub_list_frozenset
        have a3 : (Value.type "list" == Value.type "dict") = false := by decide
        have hl1 : (s.heap.push (newSetO w)).IsList p its := ⟨_, hol', rfl, nl, rfl⟩
        have plt : p < s.heap.objs.size := Heap.lt_size hol
        unfold Builtin.«set.__init__» noKeywords Builtin.Frozenset.updateFrom
        generalize hPI : pyIter = PI
        wp_walk
        subst hPI
        refine wpAny_pyIter_list hl1 ?_
        refine wpAny_bind (wpAny_runValue ?_)
        have hh3 : A.in1.in1.in1.handled = none := by simp [hh]
        have hneI : p ≠ (s.heap.push (newSetO w)).objs.size := by rw [Heap.size_push]; exact Nat.ne_of_lt (Nat.lt_succ_of_lt plt)
        have hSf : s.heap.objs.size ∉ [(s.heap.push (newSetO w)).objs.size, p] := by
          rw [Heap.size_push]; simp only [List.mem_cons, List.not_mem_nil, or_false, not_or]
          exact ⟨Nat.ne_of_lt (Nat.lt_succ_self _), Nat.ne_of_gt plt⟩
        have hlen : its.size = ns.length := by
          have := congrArg List.length hn
          rw [List.length_map, List.length_map, Array.length_toList] at this
          exact this
        have hat : ∀ (i : Nat) (v : Value), its[i]? = some v → ∃ hi : i < ns.length, ∃ t, v = .int ((ns[i] : Nat) : Int) t := fun i v hv => by
          have hi : i < its.size := (Array.getElem?_eq_some_iff.mp hv).1
          refine ⟨by omega, ?_⟩
          have z := congrArg (fun q => q[i]?) hn
          simp only [List.getElem?_map, Array.getElem?_toList, hv, Option.map_some] at z
          rw [List.getElem?_eq_getElem (show i < ns.length by omega)] at z
          exact iVal_is (Option.some.inj z)
        have hval : ∀ (i : Nat) (v : Value), its[i]? = some v → (fun i => ns.getD i 0) i ∈ [0, 1, 2, 3] ∧ ∃ t, v = .int (((fun i => ns.getD i 0) i : Nat) : Int) t := fun i v hv => by
          obtain ⟨hi, t, e⟩ := hat i v hv
          have eg : ns.getD i 0 = ns[i] := by simp [List.getD_eq_getElem?_getD, hi]
          dsimp only
          rw [eg]
          exact ⟨h4 _ (List.getElem_mem hi), t, e⟩
        refine updI_loop (bt := byT w) ((Walks.list hh3 _ p hneI its).toS) s.heap.objs.size hSf (fun i => ns.getD i 0) hval (its.size - 0) 0 _ [] (by omega) (Nat.zero_le _)
          ⟨⟨_, Heap.get?_push_size _ rfl, rfl, rfl⟩, (hl1.push _)⟩ (setI_new (Heap.get?_push_of_some _ hS)) (fun c _ => by simp) fun s' l mv hS' hm => ?_
        obtain ⟨h', g', d', tk', os'⟩ := s'
        have eg : g' = s.gens := mv.gens
        have ed : d' = s.drawn := mv.drawn
        have eo : os' = s.os := mv.os
        subst eg ed eo
        show wpAny _ _ _ _ _ _
        refine wpAny_pure ?_
        show wpAny _ _ (ret Value.none) _ _ _
        refine wpAny_pure ⟨rfl, h', tk', l, rfl, hS', fun c hc => ?_, fun b o e => ?_⟩
        · rw [hm c hc]
          constructor
          · rintro ⟨j, hj, rfl⟩
            have : j < ns.length := by omega
            simp [List.getD_eq_getElem?_getD, this]
          · intro hc'
            obtain ⟨j, hj, e⟩ := List.getElem_of_mem hc'
            exact ⟨j, by omega, by simp [List.getD_eq_getElem?_getD, hj, e]⟩
        · have b1 := Heap.lt_size e
          refine mv.heap b o (by rw [Heap.size_push]; simp only [List.mem_cons, List.not_mem_nil, or_false, not_or]; exact ⟨Nat.ne_of_lt b1, Nat.ne_of_lt (Nat.lt_succ_of_lt b1)⟩) (Heap.get?_push_of_some _ (Heap.get?_push_of_some _ e))
      · cases r2 with
        | error e => exact hr2
        | ok fl2 =>
          cases fl2 with
          | ret r =>
            obtain ⟨rfl, h', tk, l, rfl, q1, q2, q3⟩ := hr2
            repeat (any_goals (first | assumption | wp_step))
            exact h _ _ l q1 q2 q3
          | _ => exact hr2.elim
    | _ => exact hr.elim
end
end L2.Na




namespace L2.Na
open PySem PySem.Spec PyProof.Rows
section
variable {prog : Program} {w : World} {A : Around} {E : Value → Shared → Prop} {s : Shared} {I a : Addr} {o : Obj} {es : Array (Int × Value)} {ep : Nat} {l : List Nat}
theorem tabI_fits {ld : Bool} (hl : l ∈ subs) (sz : es.size = l.length) : (tab l ld).fits es.size = true := by
  rw [sz]
  have := (subs_small l hl).1
  simp only [SetTable.fits, SetTable.fill, tab, List.size_toArray]
  simp
  omega
theorem setNext_place {Q : Option (Value × Nat) → Shared → Prop} {slot i : Nat} (bt : byT w = false) (ho : s.heap.get? a = some o) (hd : o.data = .set es ep (tab l true)) (hf : (tab l true).fits es.size = true)
    (h : Q (match es[SetTable.below l.toArray slot]?, l.toArray[SetTable.below l.toArray slot]? with
      | some (_, x), some j => some (x, j + 1)
      | _, _ => none) s) : wpAny (model prog w) A (setNext a slot i ep) Q E s := by
  unfold setNext
  refine wpAny_bind (wpAny_setState_of ho hd hf ?_)
  dsimp only
  refine wpAny_bind (byText_is ?_)
  rw [bt]
  simp only [Bool.false_eq_true, ↓reduceIte]
  split
  · rename_i hc
    have hc' : (!true && decide (es.size > 1)) = true := hc
    cases hc'
  · exact wpAny_bind (wpAny_of_eq (a := ()) rfl (wpAny_pure h))

noncomputable def slotI (l : List Nat) : Nat → Nat
  | 0 => 0
  | i + 1 => l.getD i 0 + 1
theorem walk_place (bt : byT w = false) (hl : l ∈ subs) (hr : es.toList.map rowI = l.map numI) (hh : A.handled = none) (hne : a ≠ I) (hd : o.data = .set es ep (tab l true)) :
    Walks prog w A I [I, a] [I] es.size (fun i v => (es.toList.map (·.2))[i]? = some v) (fun i h => IsSI h I (.int (slotI l i : Nat) 0) i a es.size ep ∧ h.get? a = some o) where
  sub := fun b hb => by simp at hb; simp [hb]
  frame := fun _ _ _ st hk => ⟨st.1.keep fun o e => hk I (by simp) o e, hk a (by simp) o st.2⟩
  item := fun i s Q E hi st hQ => by
    have sz := rows_size hr
    have hf := tabI_fits (ld := true) hl sz
    have hil : i < l.length := by omega
    have hb : SetTable.below l.toArray (slotI l i) = i := by
      cases i with
      | zero => exact (tab_walk true l hl).1
      | succ i => exact (tab_walk true l hl).2 i (by omega)
    refine si_nextA (x := es[i].2) (nx := slotI l (i + 1)) st.1 st.2 hd hf rfl (fun A' E' Q' q => setNext_place bt st.2 hd hf (by
      rw [hb]
      have e1 : es[i]? = some es[i] := by simp [hi]
      have e2 : l.toArray[i]? = some (l.getD i 0) := by simp [hil]
      rw [e1, e2]
      exact q)) fun h' hit' hs' => ?_
    exact hQ _ h' s.toks (by simp [hi]) ⟨hit', by rw [hs'.2 a hne]; exact st.2⟩ fun b o hb e => hs'.extBut b o (fun h => hb (by simp [h])) e
  done := fun s Q E st hQ => by
    have sz := rows_size hr
    have hf := tabI_fits (ld := true) hl sz
    have hb : SetTable.below l.toArray (slotI l es.size) = es.size := by
      cases h : es.size with
      | zero => exact (tab_walk true l hl).1
      | succ i => exact (tab_walk true l hl).2 i (by omega)
    refine si_endA hh st.1 st.2 hd hf rfl (fun A' E' Q' q => setNext_place bt st.2 hd hf (by
      rw [hb, Array.getElem?_eq_none (Nat.le_refl _)]
      exact q)) fun h' he' => hQ h' s.toks fun b o hb e => he' b o (fun h => hb (by simp [h])) e
  self := fun i s Q E st hQ => si_self st.1 hQ

theorem walked_ints {ys : List Value} (hr : es.toList.map rowI = l.map numI) (hp : List.Perm ys (es.toList.map (·.2))) : ∃ ns : List Int, IntsAre ys ns ∧ List.Perm ns (l.map fun (k : Nat) => ((k : Nat) : Int)) := by
  have all : ∀ v ∈ ys, ∃ i t, v = .int i t := fun v hv => by
    obtain ⟨e, he, rfl⟩ := List.mem_map.mp (hp.mem_iff.mp hv)
    obtain ⟨k, _, _, t, h2⟩ := rows_elem hr he
    exact ⟨_, t, h2⟩
  have mk : ∀ (vs : List Value), (∀ v ∈ vs, ∃ i t, v = .int i t) → IntsAre vs (vs.map fun v => (iVal v).getD 0) := by
    intro vs
    induction vs with
    | nil => intro _; exact .nil
    | cons v vs ih =>
      intro h
      obtain ⟨i, t, rfl⟩ := h v List.mem_cons_self
      exact .cons i t (ih fun u hu => h u (List.mem_cons_of_mem _ hu))
  refine ⟨_, mk ys all, ?_⟩
  have z := hp.map fun v => (iVal v).getD 0
  have e : (es.toList.map (·.2)).map (fun v => (iVal v).getD 0) = l.map fun (k : Nat) => ((k : Nat) : Int) := by
    have := congrArg (List.map fun (x : Int × Option Int) => x.2.getD 0) hr
    rw [List.map_map, List.map_map] at this
    rw [List.map_map]
    exact this
  rw [e] at z
  exact z
theorem setI_iter {Q : Value → Shared → Prop} (hS : SetI (byT w) s.heap a l)
    (h : ∀ (I : Addr) (s' : Shared) (fp : List Addr) (ys : List Value) (ns : List Int) (St : Nat → Heap → Prop), (∀ A' : Around, A'.handled = none → Walks prog w A' I fp [I] l.length (fun i v => ys[i]? = some v) St) → St 0 s'.heap →
      (∀ b o, s.heap.get? b = some o → s'.heap.get? b = some o) → s.heap.objs.size ≤ I → (∀ b ∈ fp, b = a ∨ s.heap.objs.size ≤ b) → ys.length = l.length → IntsAre ys ns → List.Perm ns (l.map fun (k : Nat) => ((k : Nat) : Int)) →
      s'.gens = s.gens → s'.os = s.os → s'.toks = s.toks → Q (.ref I) s') :
    wpAny (model prog w) A (pyIter (.ref a)) Q E s := by
  obtain ⟨o, es, ep, ho, hex, hd, hl, hr⟩ := hS
  have sz := rows_size hr
  have hf : (tab l (!byT w)).fits es.size = true := tabI_fits hl sz
  have hT : s.TypeIs (.ref a) "set" := ⟨o, ho, hex.1⟩
  have alt : a < s.heap.objs.size := Heap.lt_size ho
  refine wpAny_pyIter_slot hT PySem.F.slot_set_iter (wpAny_call_entry PySem.F.slot_set_iter hT entry_set_iter ?_ (PySem.F.args_set_iter_1 _))
  unfold Builtin.«frozenset.__iter__» Builtin.Frozenset.slot0 slotArgs
  simp only [List.isEmpty_nil, Bool.not_true, Bool.false_eq_true, ↓reduceIte, bind_assoc, List.length_nil, bne_self_eq_false]
  unfold Builtin.Frozenset.addrOf Builtin.Frozenset.sizeOf
  refine wpAny_bind (wpAny_pure ?_)
  try dsimp only
  refine wpAny_bind (wpAny_pure ?_)
  refine wpAny_bind (wpAny_bind (wpAny_setEntries_of ho hd hf (wpAny_pure ?_)))
  refine wpAny_bind (setDrawn_is ho hd hf ?_)
  have hno : (!byT w && (!(tab l (!byT w)).plain && decide (es.size > 1))) = false := by
    show (!byT w && (!true && decide (es.size > 1))) = false
    rw [Bool.not_true, Bool.false_and, Bool.and_false]
  rw [hno]
  simp only [Bool.false_eq_true, ↓reduceIte]
  refine wpAny_bind (wpAny_pure ?_)
  refine wpAny_bind (wpAny_setEpoch_of ho hd hf ?_)
  refine wpAny_bind (wpAny_newObj_type ?_)
  refine wpAny_pure ⟨_, rfl, "set_iterator", _, ⟨_, Heap.get?_push_size _ rfl, rfl⟩, slot_si_next.lookup, ?_⟩
  have fps : ∀ b ∈ [s.heap.objs.size, a], b = a ∨ s.heap.objs.size ≤ b := fun b hb' => by
    rcases List.mem_cons.mp hb' with rfl | hb'
    · exact .inr (Nat.le_refl _)
    · exact .inl (List.mem_singleton.mp hb')
  cases bt : byT w with
  | true =>
    have pm := (pick_perm (w.params.setOrder a ep) es).map (·.2)
    obtain ⟨ns, q2, q3⟩ := walked_ints hr pm
    refine h s.heap.objs.size _ [s.heap.objs.size, a] _ ns (fun i h => IsSI h s.heap.objs.size (.int (0 : Nat) 0) i a es.size ep ∧ h.get? a = some o) (fun A' hh' => ?_) ⟨⟨_, Heap.get?_push_size _ rfl, rfl, rfl⟩, Heap.get?_push_of_some _ ho⟩ (fun b o e => Heap.get?_push_of_some _ e) (Nat.le_refl _) fps (by rw [pm.length_eq, List.length_map, Array.length_toList]; exact sz) q2 q3 rfl rfl rfl
    rw [← sz]
    exact walk_text bt hh' (Nat.ne_of_lt alt) hd hf
  | false =>
    obtain ⟨ns, q2, q3⟩ := walked_ints hr (List.Perm.refl _)
    refine h s.heap.objs.size _ [s.heap.objs.size, a] _ ns (fun i h => IsSI h s.heap.objs.size (.int (slotI l i : Nat) 0) i a es.size ep ∧ h.get? a = some o) (fun A' hh' => ?_) ⟨⟨_, Heap.get?_push_size _ rfl, rfl, rfl⟩, Heap.get?_push_of_some _ ho⟩ (fun b o e => Heap.get?_push_of_some _ e) (Nat.le_refl _) fps (by rw [List.length_map, Array.length_toList]; exact sz) q2 q3 rfl rfl rfl
    rw [← sz]
    rw [bt] at hd
    exact walk_place bt hl hr hh' (Nat.ne_of_lt alt) hd
end
end L2.Na




namespace L2.Na
open PySem PySem.Spec PyProof.Rows
section
variable {prog : Program} {w : World} {A : Around} {E : Value → Shared → Prop} {s : Shared}
theorem SetI.type {bt : Bool} {a : Addr} {l : List Nat} (hS : SetI bt s.heap a l) : s.TypeIs (.ref a) "set" := by
  obtain ⟨o, _, _, ho, hex, _⟩ := hS
  exact ⟨o, ho, hex.1⟩
theorem setI_collect {a : Addr} {l : List Nat} {Q : List Value → Shared → Prop} (hh : A.handled = none) (hS : SetI (byT w) s.heap a l) (hn : l.length ≤ sizeLine)
    (h : ∀ (s' : Shared) (ys : List Value) (ns : List Int), (∀ b o, s.heap.get? b = some o → s'.heap.get? b = some o) → s.heap.objs.size ≤ s'.heap.objs.size → IntsAre ys ns → List.Perm ns (l.map fun (k : Nat) => ((k : Nat) : Int)) → s'.gens = s.gens → s'.os = s.os → Q ys s') :
    wpAny (model prog w) A (collect (.ref a)) Q E s := by
  have alt : a < s.heap.objs.size := by
    obtain ⟨o, _, _, ho, _⟩ := hS
    exact Heap.lt_size ho
  unfold collect
  refine wpAny_bind (wpAny_runValue (codeAny_builtin entry_proto_collect' ?_))
  rw [Around.under_plainId PySem.F.plain_proto_collect _]
  show wpAny _ A.in1 (newList [] >>= fun l => again (.builtin "list.__iadd__" ⟨[l, .ref a], []⟩)) _ _ s
  refine wpAny_bind (wpAny_newObj_type ?_)
  refine wpAny_pure ⟨plainId_quiet PySem.F.plain_list_iadd _, codeAny_builtin entry_list_iadd' ?_⟩
  rw [Around.under_plainId PySem.F.plain_list_iadd _]
  have g1 : (s.heap.push { cls := .type "list", data := .seq ([] : List Value).toArray }).get? s.heap.objs.size = some { cls := .type "list", data := .seq #[] } := Heap.get?_push_size _ rfl
  have hS1 : SetI (byT w) (s.heap.push { cls := .type "list", data := .seq ([] : List Value).toArray }) a l := hS.keep fun o e => Heap.get?_push_of_some _ e
  show wpAny _ A.in1 (Builtin.List.listExtendWith (.ref s.heap.objs.size) (.ref a) (.ref s.heap.objs.size)) _ _ _
  unfold Builtin.List.listExtendWith
  refine wpAny_bind (wpAny_typeOf (T := "set") (SetI.type hS1) ?_)
  have n1 : Builtin.List.listSameRef (.ref s.heap.objs.size) (.ref a) = false := by simp [Builtin.List.listSameRef, Nat.ne_of_gt alt]
  have n2 : (Value.type "set" == Value.type "list") = false := by decide
  have n3 : (Value.type "set" == Value.type "tuple") = false := by decide
  simp only [n1, n2, n3, Bool.or_false, Bool.false_eq_true, if_false]
  refine wpAny_bind (setI_iter (s := { s with heap := s.heap.push { cls := .type "list", data := .seq ([] : List Value).toArray } }) hS1 fun I s2 fp ys ns St W st kp hI hfp q1 q2 q3 eg eo et => ?_)
  have g2 := kp _ _ g1
  have hI1 : s.heap.objs.size < I := by
    have : (s.heap.push { cls := .type "list", data := .seq ([] : List Value).toArray }).objs.size ≤ I := hI
    rw [Heap.size_push] at this
    exact this
  have hSf : s.heap.objs.size ∉ fp := fun z => by
    rcases hfp _ z with e | e
    · exact absurd e (Nat.ne_of_gt alt)
    · have e' : (s.heap.push { cls := .type "list", data := .seq ([] : List Value).toArray }).objs.size ≤ s.heap.objs.size := e
      rw [Heap.size_push] at e'
      exact absurd e' (Nat.not_le.mpr (Nat.lt_succ_self _))
  have hh2 : A.in1.handled = none := by simp [hh]
  have key : ∀ (h : Heap) (c : Nat), St 0 h → (∀ b o, b ≠ s.heap.objs.size → s2.heap.get? b = some o → h.get? b = some o) → h.get? s.heap.objs.size = some { cls := .type "list", data := .seq #[] c } →
      codeAny (model prog w) A (.builtin "list.extend.loop" ⟨[.ref s.heap.objs.size, .ref I, .ref s.heap.objs.size], []⟩) (fun r s' => match r with
        | .ok (.ret v) => wpAny (model prog w) A (match v with
          | .ref a => do
            let o ← load a
            match o.data with
            | .seq xs _ => pure xs.toList
            | _ => unsupported "internal:collect"
          | _ => unsupported "internal:collect") Q E s'
        | .ok _ => False
        | .error e => E e s') { s2 with heap := h } := fun h3 c st3 k3 g3 => by
    refine codeAny_extend_loopS ((W _ hh2).toS) hn s.heap.objs.size hSf (.ref s.heap.objs.size) l.length 0 _ #[] c rfl (Nat.zero_le _) st3 g3 (ItemsOf.nil _) fun s4 acc c4 mv g4 ac => ?_
    dsimp only
    refine wpAny_bind (wpAny_load g4 ?_)
    dsimp only
    have ea : acc.toList = ys := by
      refine List.ext_getElem? fun j => ?_
      by_cases hj : j < acc.size
      · have z := ac.2 j acc[j] (by simp [hj])
        rw [z]
        simp [hj]
      · have e1 : acc.size = l.length := ac.1
        rw [List.getElem?_eq_none (by simpa using hj), List.getElem?_eq_none (by omega)]
    rw [ea]
    refine wpAny_pure (h s4 ys ns (fun b o e => ?_) (Nat.le_of_lt (Heap.lt_size g4)) q2 q3 (mv.gens.trans eg) (mv.os.trans eo))
    have b1 := Heap.lt_size e
    refine mv.heap b o (by simp only [List.mem_cons, List.not_mem_nil, or_false, not_or]; exact ⟨Nat.ne_of_lt b1, Nat.ne_of_lt (Nat.lt_trans b1 hI1)⟩) (k3 b o (Nat.ne_of_lt b1) (kp b o (Heap.get?_push_of_some _ e)))
  refine wpAny_bind (wpAny_holding (set_hint (SetI.type (hS1.keep fun o e => kp _ _ e)) ?_))
  refine wpAny_ite_split (fun _ => ?_) (fun _ => wpAny_pure ⟨plainId_quiet PySem.F.plain_extend_loop _, key _ _ st (fun b o _ e => e) g2⟩)
  refine wpAny_bind (wpAny_rule ?_)
  refine wpAny_bind ?_
  show wpAny _ _ (updateSeq s.heap.objs.size (·.push .none) >>= fun _ => updateSeq s.heap.objs.size (·.pop)) _ _ _
  refine wpAny_bind (wpAny_updateSeq g2 rfl ?_)
  have g5 := Heap.get?_update_self (Obj.mapSeq (·.push Value.none)) g2 rfl
  refine wpAny_updateSeq (hz := by seq_fits) g5 rfl ?_
  have g6 := Heap.get?_update_self (Obj.mapSeq (·.pop)) g5 rfl
  have oth : ∀ b o, b ≠ s.heap.objs.size → s2.heap.get? b = some o → ((s2.heap.update s.heap.objs.size (Obj.mapSeq (·.push Value.none))).update s.heap.objs.size (Obj.mapSeq (·.pop))).get? b = some o := fun b o hb e =>
    (Heap.get?_update_other _ _ (Ne.symm hb)).trans ((Heap.get?_update_other _ _ (Ne.symm hb)).trans e)
  exact wpAny_pure ⟨plainId_quiet PySem.F.plain_extend_loop _, key _ _ ((W _ hh2).frame 0 _ _ st fun b hb o e => oth b o (fun z => hSf (z ▸ hb)) e) oth g6⟩
theorem setI_sorted {a : Addr} {l : List Nat} {Q : Value → Shared → Prop} (hh : A.handled = none) (hS : SetI (byT w) s.heap a l) (h64 : l.length < 64)
    (h : ∀ (s' : Shared) (D : Addr) (vs : List Value) (ns : List Int) (e : Nat), (∀ b o, s.heap.get? b = some o → s'.heap.get? b = some o) → s.heap.objs.size ≤ D → s'.heap.get? D = some (seqObj "list" vs.toArray e) → IntsAre vs ns → List.Perm ns (l.map fun (k : Nat) => ((k : Nat) : Int)) → ns.Pairwise (· ≤ ·) →
      s'.gens = s.gens → s'.os = s.os → Q (.ref D) s') : wpAny (model prog w) A (call (.builtin "sorted") [.ref a]) Q E s := by
  have hn : l.length ≤ sizeLine := by rw [sizeLine_eq]; omega
  refine Calls.call_function_entry kind_sorted plain_sorted entry_sorted (args_sorted1 _) ?_
  unfold Builtin.«sorted»
  refine wpAny_bind (m := checkCount "sorted" 1 1 _) (wpAny_pure ?_)
  refine wpAny_bind (setI_collect (A := A.in1) (by simp [hh]) hS hn fun s1 ys ns k1 le q2 q3 eg eo => ?_)
  have hl : ys.length = l.length := by rw [IntsAre.length q2, q3.length_eq, List.length_map]
  refine wpAny_bind (wpAny_newList ?_ (by rw [hl]; exact hn))
  have hoL : (s1.heap.push (seqObj "list" ys.toArray 0)).get? s1.heap.objs.size = some (seqObj "list" ys.toArray 0) := Heap.get?_push_size _ rfl
  show wpAny _ _ _ _ _ { s1 with heap := s1.heap.push (seqObj "list" ys.toArray 0) }
  refine wpAny_bind (wpAny_holding (wpAny_call_entry slot_list_sort ⟨_, hoL, rfl⟩ entry_list_sort (list_sort_tree hoL q2 (by omega) fun out ms b1 b2 b3 => ⟨_, rfl, ?_⟩) (args_list_sort _)))
  obtain ⟨e, he⟩ := sortedHeap_at (out := out) hoL
  refine wpAny_pure ⟨_, rfl, h _ s1.heap.objs.size out.toList ms e (fun b o z => ?_) le ?_ b1 (b2.trans q3) b3 eg eo⟩
  · have lt := Heap.lt_size (k1 b o z)
    show (sortedHeap _ _ _ _).get? b = some o
    rw [sortedHeap_old (Nat.ne_of_lt lt) (by rw [Heap.size_push]; exact Nat.lt_succ_of_lt lt)]
    exact Heap.get?_push_of_some _ (k1 b o z)
  · rw [Array.toArray_toList]
    exact he
end
end L2.Na




namespace L2.L3
open PySem PySem.Spec PyProof.Rows


noncomputable def sgn (c : Nat) : V := .str ⟨#[c]⟩
noncomputable def Its (z : Str) : It := ⟨fun i _ => i < z.cps.size, fun i H x H' => H' = H ∧ ∃ c, z.cps[i]? = some c ∧ x = sgn c, fun i _ => z.cps.size ≤ i⟩
theorem turn_str {P : Program} {w : World} {K : PySem.W.Frag} {tg : Expr} (z : Str) (t : Tok) (it : Addr) (T : String) (hT : T = "str_ascii_iterator" ∨ T = "str_iterator") :
    Turn P w K tg (Its z) [it] it (fun i h => h.IsStrIter it T z t i) where
  mem := by simp
  obj := fun i h st b hb => by
    have e : b = it := by simpa using hb
    subst e
    obtain ⟨o, e, c, d⟩ := st
    exact ⟨o, e, fun v z => by rw [d] at z; cases z⟩
  keep := fun i h h' st k => by
    obtain ⟨o, e, c, d⟩ := st
    exact ⟨o, k it (by simp) o e, c, d⟩
  item := by
    intro X hP hw hK hc i pins s σ H E I hf st hg
    subst hP hw hK
    obtain ⟨f0, f1, f2, f3, f4, f5⟩ := hf it (by simp)
    have hi : i < z.cps.size := hg
    rcases hT with rfl | rfl
    · refine wpAny_pyNext_ascii_item st (c := z.cps[i]) (by simp [hi]) fun h' st' sb => ?_
      have I1 : Inv X pins σ H { s with heap := h', toks := s.toks + 1 } := I.turned (fun b o hb e => (sb.2 b hb).trans e) f0 f1 f3 f4 f5
      obtain ⟨o, e, c, d⟩ := id st'
      exact ⟨_, rfl, go_of (s := { s with heap := h', toks := s.toks + 1 }) e c d (by decide) ⟨sgn z.cps[i], H, I1, ⟨_, rfl⟩, ⟨rfl, _, by simp [hi], rfl⟩, st', fun b hb => (hf b hb).1⟩⟩
    · refine wpAny_pyNext_wide_item st (c := z.cps[i]) (by simp [hi]) fun h' st' sb => ?_
      have I1 : Inv X pins σ H { s with heap := h', toks := s.toks + 1 } := I.turned (fun b o hb e => (sb.2 b hb).trans e) f0 f1 f3 f4 f5
      obtain ⟨o, e, c, d⟩ := id st'
      exact ⟨_, rfl, go_of (s := { s with heap := h', toks := s.toks + 1 }) e c d (by decide) ⟨sgn z.cps[i], H, I1, ⟨_, rfl⟩, ⟨rfl, _, by simp [hi], rfl⟩, st', fun b hb => (hf b hb).1⟩⟩
  done := by
    intro X hP hw hK hc i pins s σ H E I hf st hg
    subst hP hw hK
    obtain ⟨f0, f1, f2, f3, f4, f5⟩ := hf it (by simp)
    have hi : z.cps.size ≤ i := hg
    rcases hT with rfl | rfl
    · exact wpAny_pyNext_ascii_end (I.ok.hd hc) st (by simp [hi]) fun h' eb => ⟨rfl, I.turned (t' := s.toks) (fun b o hb e => eb b o hb e) f0 f1 f3 f4 f5⟩
    · exact wpAny_pyNext_wide_end (I.ok.hd hc) st (by simp [hi]) fun h' eb => ⟨rfl, I.turned (t' := s.toks) (fun b o hb e => eb b o hb e) f0 f1 f3 f4 f5⟩
  self := fun _ _ _ _ _ st h => by
    rcases hT with rfl | rfl
    · exact wpAny_pyIter_striter_ascii st h
    · exact wpAny_pyIter_striter_wide st h


structure Yl (J : It) (P : Hp → Prop) (items : List V) : Prop where
  go : ∀ i H, P H → i < items.length → J.go i H
  yld : ∀ i H x H', P H → i < items.length → J.yld i H x H' → H' = H ∧ items[i]? = some x
  stop : ∀ H, P H → J.stop items.length H
theorem yl_list {K : PySem.W.Frag} {a : Addr} {xs : List V} : Yl (Itl K a) (fun H => SqL K H a xs) xs where
  go := fun i H p h => ⟨xs, xs[i], p, by simp [h]⟩
  yld := fun i H x H' p _ h => ⟨h.1, h.2 xs p⟩
  stop := fun H p => ⟨xs, p, Nat.le_refl _⟩
theorem yl_tup {K : PySem.W.Frag} {a : Addr} {xs : List V} : Yl (Itt K a) (fun H => SqT K H a xs) xs where
  go := fun i H p h => ⟨xs, xs[i], p, by simp [h]⟩
  yld := fun i H x H' p _ h => ⟨h.1, h.2 xs p⟩
  stop := fun H p => ⟨xs, p, Nat.le_refl _⟩
noncomputable def rngV (lo : Int) (n : Nat) : List V := (List.range n).map fun i => .int (lo + (i : Nat))
theorem rngV_len (lo : Int) (n : Nat) : (rngV lo n).length = n := by unfold rngV; rw [List.length_map, List.length_range]
theorem rngV_get {lo : Int} {n i : Nat} {x : V} (h : (rngV lo n)[i]? = some x) : i < n ∧ x = .int (lo + (i : Nat)) := by
  unfold rngV at h
  rw [List.getElem?_map] at h
  by_cases hi : i < n
  · rw [List.getElem?_range hi] at h
    exact ⟨hi, (Option.some.inj h).symm⟩
  · rw [List.getElem?_eq_none_iff.mpr (by rw [List.length_range]; omega)] at h
    cases h
theorem yl_rng {lo : Int} {n : Nat} : Yl (Itr lo n) (fun _ => True) (rngV lo n) where
  go := fun i H _ h => by rw [rngV_len] at h; exact h
  yld := fun i H x H' _ hi h => ⟨h.1, by
    have e : x = .int (lo + (i : Nat)) := h.2
    rw [rngV_len] at hi
    rw [e]
    unfold rngV
    rw [List.getElem?_map, List.getElem?_range hi]
    rfl⟩
  stop := fun H _ => by rw [rngV_len]; exact Nat.le_refl _

noncomputable def sgnV (z : Str) : List V := z.cps.toList.map sgn
theorem sgnV_len (z : Str) : (sgnV z).length = z.cps.size := by unfold sgnV; rw [List.length_map, Array.length_toList]
theorem yl_str {z : Str} : Yl (Its z) (fun _ => True) (sgnV z) where
  go := fun i H _ h => by rw [sgnV_len] at h; exact h
  yld := fun i H x H' _ hi h => by
    obtain ⟨e, c, h1, h2⟩ := h
    refine ⟨e, ?_⟩
    unfold sgnV
    rw [List.getElem?_map, h2]
    have q : z.cps.toList[i]? = some c := by simpa using h1
    rw [q]
    rfl
  stop := fun H _ => by rw [sgnV_len]; exact Nat.le_refl _


theorem for_yl {J : It} {P : Hp → Prop} {xs : List V} {g : TG} {tb : TS} {D : Ends} {σ : St} {H : Hp} (Y : Yl J P xs) (Pv : Nat → St → Hp → Prop) (h0 : Pv 0 σ H) (hl : ∀ i σ H, i ≤ xs.length → Pv i σ H → P H)
    (hs : ∀ i x σ H, xs[i]? = some x → Pv i σ H → g x σ H fun σ2 H2 => tb { D with nx := Pv (i + 1), ct := Pv (i + 1), bk := D.nx } σ2 H2) (hd : ∀ σ H, Pv xs.length σ H → D.nx σ H) :
    ∃ W : Nat → Nat → St → Hp → Prop, (∃ m, W 0 m σ H) ∧ ∀ i m σ H, W i m σ H →
      (J.stop i H ∧ D.nx σ H) ∨ (J.go i H ∧ ∃ N : St → Hp → Prop, (∀ σ' H', N σ' H' → ∃ m', m' < m ∧ W (i + 1) m' σ' H') ∧ ∀ x H', J.yld i H x H' → g x σ H' fun σ2 H2 => tb { D with nx := N, ct := N, bk := D.nx } σ2 H2) := by
  refine ⟨fun i m σ H => m = xs.length - i ∧ i ≤ xs.length ∧ Pv i σ H, ⟨xs.length, by simp, Nat.zero_le _, h0⟩, ?_⟩
  rintro i m σ H ⟨rfl, hi, p⟩
  have q := hl i σ H hi p
  by_cases hlt : i < xs.length
  · refine .inr ⟨Y.go i H q hlt, Pv (i + 1), fun σ' H' p' => ⟨xs.length - (i + 1), by omega, rfl, hlt, p'⟩, fun x H' y => ?_⟩
    obtain ⟨e, hx⟩ := Y.yld i H x H' q hlt y
    subst e
    exact hs i x σ H' hx p
  · have e : i = xs.length := by omega
    subst e
    exact .inl ⟨Y.stop H q, hd σ H p⟩


noncomputable def clOf (names : List (Str × NameKind)) (env : Env) : List (Str × Addr) := ((names.filter fun x => x.2 == .free).filterMap fun x => (env.cells.lookup x.1).map fun c => (x.1, c)).reverse
theorem clOf_mem {names : List (Str × NameKind)} {env : Env} {x : Str} {c : Addr} (h : (x, c) ∈ clOf names env) : env.cells.lookup x = some c := by
  obtain ⟨y, hy, e⟩ := List.mem_filterMap.mp (List.mem_reverse.mp h)
  cases q : env.cells.lookup y.1 with
  | none => rw [q] at e; cases e
  | some d =>
    rw [q] at e
    have e' : (y.1, d) = (x, c) := Option.some.inj e
    cases e'
    exact q
theorem clOf_lookup {names : List (Str × NameKind)} {env : Env} {x : Str} {c : Addr} (h : (clOf names env).lookup x = some c) : env.cells.lookup x = some c := clOf_mem (PySem.mem_of_lookup h)
theorem clOf_has {names : List (Str × NameKind)} {env : Env} {x : Str} {c : Addr} (h : names.lookup x = some .free) (e : env.cells.lookup x = some c) : (clOf names env).lookup x = some c := by
  have hm : (x, c) ∈ clOf names env := List.mem_reverse.mpr (List.mem_filterMap.mpr ⟨(x, .free), List.mem_filter.mpr ⟨PySem.mem_of_lookup h, rfl⟩, by rw [e]; rfl⟩)
  cases q : (clOf names env).lookup x with
  | none =>
    have z := List.lookup_eq_none_iff.mp q _ hm
    simp at z
  | some d =>
    have z := clOf_lookup q
    rw [e] at z
    exact z.symm

theorem relabel_cell {env : Env} : ∀ {names : List (Str × NameKind)} {x : Str}, env.scope.kind = .function → names.lookup x = some .free → env.kindOf x = some .cell →
    (names.map fun (n, k) => if (k == NameKind.free && env.scope.kind == .function && env.kindOf n == some .cell) then (n, NameKind.cell) else (n, k)).lookup x = some .cell
  | [], _, _, h, _ => by simp at h
  | (n, k) :: r, x, hk, h, hc => by
    by_cases hx : x = n
    · subst hx
      rw [List.lookup_cons_self] at h
      cases h
      rw [List.map_cons]
      dsimp only
      rw [if_pos (by rw [hk, hc]; rfl)]
      exact List.lookup_cons_self
    · have hb : (x == n) = false := beq_eq_false_iff_ne.mpr hx
      rw [List.lookup_cons, hb] at h
      have ih := relabel_cell (names := r) hk h hc
      rw [List.map_cons]
      dsimp only
      by_cases c : (k == NameKind.free && env.scope.kind == .function && env.kindOf n == some .cell) = true
      · rw [if_pos c, List.lookup_cons, hb]; exact ih
      · rw [if_neg c, List.lookup_cons, hb]; exact ih

theorem relabel_back {env : Env} : ∀ {names : List (Str × NameKind)} {x : Str} {k : NameKind}, (names.map fun (n, k) => if (k == NameKind.free && env.scope.kind == .function && env.kindOf n == some .cell) then (n, NameKind.cell) else (n, k)).lookup x = some k →
    names.lookup x = some k ∨ (k = .cell ∧ names.lookup x = some .free)
  | [], _, _, h => by simp at h
  | (n, k') :: r, x, k, h => by
    rw [List.map_cons] at h
    dsimp only at h
    by_cases hx : x = n
    · subst hx
      rw [List.lookup_cons_self]
      by_cases c : (k' == NameKind.free && env.scope.kind == .function && env.kindOf x == some .cell) = true
      · rw [if_pos c, List.lookup_cons_self] at h
        cases h
        have z : k' = .free := by
          rw [Bool.and_eq_true, Bool.and_eq_true] at c
          exact beq_iff_eq.mp c.1.1
        exact .inr ⟨rfl, by rw [z]⟩
      · rw [if_neg c, List.lookup_cons_self] at h
        exact .inl h
    · have hb : (x == n) = false := beq_eq_false_iff_ne.mpr hx
      have h' : (r.map fun (n, k) => if (k == NameKind.free && env.scope.kind == .function && env.kindOf n == some .cell) then (n, NameKind.cell) else (n, k)).lookup x = some k := by
        by_cases c : (k' == NameKind.free && env.scope.kind == .function && env.kindOf n == some .cell) = true
        · rw [if_pos c, List.lookup_cons, hb] at h; exact h
        · rw [if_neg c, List.lookup_cons, hb] at h; exact h
      rw [List.lookup_cons, hb]
      exact relabel_back h'


theorem cellsFrom_app : ∀ (names : List (Str × NameKind)) (n : Nat) (acc : List (Str × Addr)), cellsFrom n names acc = cellsFrom n names [] ++ acc
  | [], _, _ => rfl
  | (name, kind) :: r, n, acc => by
    unfold cellsFrom
    split
    · rw [cellsFrom_app r (n + 1) ((name, n) :: acc), cellsFrom_app r (n + 1) [(name, n)], List.append_assoc]; rfl
    · exact cellsFrom_app r n acc
theorem cellsFrom_key : ∀ (names : List (Str × NameKind)) (n : Nat) {x : Str} {c : Addr}, (x, c) ∈ cellsFrom n names [] → (x, NameKind.cell) ∈ names
  | [], _, _, _, h => nomatch h
  | (name, kind) :: r, n, x, c, h => by
    unfold cellsFrom at h
    split at h
    · rename_i hk
      rw [cellsFrom_app] at h
      rcases List.mem_append.mp h with h | h
      · exact List.mem_cons_of_mem _ (cellsFrom_key r _ h)
      · have e := List.mem_singleton.mp h
        have e1 : x = name := congrArg Prod.fst e
        have e2 : kind = NameKind.cell := eq_of_beq hk
        rw [e1, e2]; exact List.mem_cons_self
    · exact List.mem_cons_of_mem _ (cellsFrom_key r _ h)
noncomputable def blkCl (sc : Scope) (C : Addr) (env : Env) : List (Str × Addr) := cellsFrom (C + 1) sc.names (clOf sc.names env)
theorem blkCl_or {sc : Scope} {C : Addr} {env : Env} {x : Str} {c : Addr} (h : (blkCl sc C env).lookup x = some c) : (x, c) ∈ cellsFrom (C + 1) sc.names [] ∨ env.cells.lookup x = some c := by
  unfold blkCl at h
  rw [cellsFrom_app, List.lookup_append] at h
  cases q : (cellsFrom (C + 1) sc.names []).lookup x with
  | some d =>
    rw [q] at h
    have e : d = c := Option.some.inj h
    subst e
    exact .inl (PySem.mem_of_lookup q)
  | none =>
    rw [q] at h
    exact .inr (clOf_lookup h)
theorem blkCl_own {sc : Scope} {C : Addr} {env : Env} {x : Str} {c : Addr} (hx : sc.names.lookup x = some .cell) (h : (blkCl sc C env).lookup x = some c) : (x, c) ∈ cellsFrom (C + 1) sc.names [] := by
  obtain ⟨d, q⟩ := cell_has (n := C + 1) hx
  unfold blkCl at h
  rw [cellsFrom_app, List.lookup_append, q] at h
  have e : d = c := Option.some.inj h
  subst e
  exact PySem.mem_of_lookup q
theorem blkCl_free {sc : Scope} {C : Addr} {env : Env} {x : Str} {c : Addr} (hown : ∀ y ∈ sc.names, y.2 = .cell → sc.names.lookup y.1 = some .cell) (hx : sc.names.lookup x = some .free) (e : env.cells.lookup x = some c) : (blkCl sc C env).lookup x = some c := by
  unfold blkCl
  rw [cellsFrom_app, List.lookup_append]
  cases q : (cellsFrom (C + 1) sc.names []).lookup x with
  | some d =>
    have z := hown _ (cellsFrom_key _ _ (PySem.mem_of_lookup q)) rfl
    have z' : sc.names.lookup x = some .cell := z
    rw [hx] at z'; cases z'
  | none => exact clOf_has hx e
theorem own_ok (h : Heap) (ob : Obj) (sc : Scope) : CellsOk (pushCells (h.push ob) sc.names) (h.objs.size + 1) (cellsFrom (h.objs.size + 1) sc.names []) := by
  have ok := cellsFrom_ok sc.names (h.push ob) (h.objs.size + 1) [] ⟨fun _ _ hm => (nomatch hm), List.Pairwise.nil⟩ (by rw [Heap.size_push]; exact Nat.le_refl _)
  rwa [Heap.size_push] at ok
theorem wpAny_blkEnv {M : Model} {A : Around} {E : Value → Shared → Prop} {s : Shared} {scope : Scope} {globals : Addr} {closure : List (Str × Addr)} {qual : Str} {func : Option Addr} {code : Value} {outer : Env} {builtins : Addr} {Q : Env → Shared → Prop}
    (hQ : Q (newEnv scope s.heap.objs.size globals (cellsFrom (s.heap.objs.size + 1) scope.names closure) qual func code (some outer) builtins) { s with heap := pushCells (s.heap.push { cls := .type "dict", data := .dict #[] }) scope.names }) :
    wpAny M A (newFunctionEnv scope globals closure [] qual func code (some outer) builtins) Q E s := by
  simp only [newFunctionEnv, Option.isSome_some, if_true]
  refine wpAny_bind (wpAny_alloc ?_)
  refine wpAny_bind (wpAny_layCells _ (fun name kind cells => by cases hkc : kind == NameKind.cell <;> simp [hkc]) _ _ _ _ ?_)
  rw [show ({ s with heap := s.heap.push { cls := .type "dict", data := .dict #[] } } : Shared).heap.objs.size = s.heap.objs.size + 1 from Heap.size_push ..]
  refine wpAny_bind ?_
  rw [List.forIn_nil]
  exact wpAny_pure (wpAny_pure hQ)

noncomputable def blk (X : Cx) (N : List Str) (sc : Scope) (C : Addr) (s₀ : Shared) (H₀ : Hp) (ex : List Addr) : Cx :=
  { X with N := N, s₀ := s₀, H₀ := H₀, env := compEnvC sc (blkCl sc C X.env) C X.env, outer := X.stack, ex := ex, fn := fun x => sc.names.lookup x == some .cell, pn := [], xe := fun _ _ => False }

inductive Cap (X : Cx) (sc : Scope) : List Str → List Nat → Prop
  | nil : Cap X sc [] []
  | cons {x : Str} {i : Nat} {xs : List Str} {is : List Nat} (hN : X.N[i]? = some x) (hk : X.env.kindOf x = some .cell) (hf : sc.names.lookup x = some .free) (t : Cap X sc xs is) : Cap X sc (x :: xs) (i :: is)
theorem Cap.length {X : Cx} {sc : Scope} : ∀ {xs : List Str} {is : List Nat}, Cap X sc xs is → xs.length = is.length
  | _, _, .nil => rfl
  | _, _, .cons _ _ _ t => by rw [List.length_cons, List.length_cons, Cap.length t]
theorem Cap.get {X : Cx} {sc : Scope} : ∀ {xs : List Str} {is : List Nat} {j : Nat} {x : Str}, Cap X sc xs is → xs[j]? = some x → ∃ i, is[j]? = some i ∧ X.N[i]? = some x ∧ X.env.kindOf x = some .cell ∧ sc.names.lookup x = some .free
  | _, _, _, _, .nil, e => by simp at e
  | _, _, 0, _, .cons hN hk hf _, e => by
    have e' := Option.some.inj e
    subst e'
    exact ⟨_, rfl, hN, hk, hf⟩
  | _, _, j + 1, x, .cons _ _ _ t, e => by
    obtain ⟨i, h1, h2⟩ := Cap.get (j := j) (x := x) t (by simpa using e)
    exact ⟨i, by simpa using h1, h2⟩
noncomputable def capV (is : List Nat) (σ : St) : St := is.map fun i => (σ[i]?).join
noncomputable def capS (n : Nat) (is : List Nat) (σ : St) : St := List.replicate n none ++ capV is σ

theorem Un.but {fs ex : List Addr} {H H1 : Hp} {h h1 h2 : Heap} {C : Addr} (u : Un fs ex H H1 h h1) (hs : Heap.SameBut C h1 h2) (hC : h.objs.size ≤ C) : Un fs ex H H1 h h2 := by
  have ne : ∀ b o, h.get? b = some o → b ≠ C := fun b o e => Nat.ne_of_lt (Nat.lt_of_lt_of_le (Heap.lt_size e) hC)
  refine ⟨fun b o q n hb hx => (hs.2 b (ne b o q)).trans (u.keep b o q n hb hx), fun b o q n hb hx => ?_, u.free, fun b o q hx => ?_, u.tups, u.frzs, u.tbls⟩
  · obtain ⟨sl, e⟩ := u.slot b o q n hb hx
    exact ⟨sl, (hs.2 b (ne b o q)).trans e⟩
  · obtain ⟨o', e⟩ := u.there b o q hx
    exact ⟨o', (hs.2 b (ne b o q)).trans e⟩
theorem HOk.but {P : Program} {w : World} {H : Hp} {h h' : Heap} {C : Addr} (k : HOk P w H h) (hs : Heap.SameBut C h h') (hn : H C = none) : HOk P w H h' := fun b ob e => by
  refine (k b ob e).stay (fun c w' hc q => (hs.2 c ?_).trans q) (fun _ q => q) fun _ _ q => q
  rintro rfl
  rcases hc with rfl | hc
  · rw [hn] at e; cases e
  · rw [hn] at hc; cases hc

section
variable {X : Cx} {pins : List (Addr × Obj)} {σ : St} {H : Hp} {s : Shared}
theorem blk_ok (I : Inv X pins σ H s) {N : List Str} {sc : Scope} {ex : List Addr} (hkind : sc.kind = .function) (hown : ∀ y ∈ sc.names, y.2 = .cell → sc.names.lookup y.1 = some .cell) (hfr : (sc.names.all fun y => y.2 != .free || X.env.kindOf y.1 == some .cell) = true)
    (hex : ∀ b ∈ ex, FpOk X pins H b) (hob : ∀ b ∈ ex, ∃ o, s.heap.get? b = some o) : (blk X N sc s.heap.objs.size s H ex).Ok := by
  have oc := own_ok s.heap { cls := .type "dict", data := .dict #[] } sc
  have lo : ∀ {x c}, (x, c) ∈ cellsFrom (s.heap.objs.size + 1) sc.names [] → s.heap.objs.size < c := fun hm => (oc.empty _ _ hm).2
  have hi : ∀ {x c}, X.env.cells.lookup x = some c → c < s.heap.objs.size := fun e => by
    obtain ⟨v, o, e', _⟩ := I.cell _ _ e
    exact Heap.lt_size e'
  refine ⟨I.ok.mod, hkind, I.ok.glob, I.ok.blt, Nat.le_refl _, fun x y c h1 h2 => ?_, fun x h => ?_, fun x c hf h => ?_, I.ok.hd, I.ok.frames, .inl rfl, fun b hb => ⟨?_, fun x c h => ?_⟩, I.bs, Nat.le_trans I.ok.bsz I.sz, fun b o e hb => ?_, fun b hb hf => ?_, I.stack, I.stkFree⟩
  · rcases blkCl_or h1 with h1 | h1 <;> rcases blkCl_or h2 with h2 | h2
    · exact PySem.name_of_addr oc.apart h1 h2
    · exact absurd (hi h2) (Nat.lt_asymm (lo h1))
    · exact absurd (hi h1) (Nat.lt_asymm (lo h2))
    · exact I.ok.inj x y c h1 h2
  · have fr : sc.names.lookup x = some .free → ∃ c, (blkCl sc s.heap.objs.size X.env).lookup x = some c := fun q => by
      have z := List.all_eq_true.mp hfr _ (PySem.mem_of_lookup q)
      have z' : (X.env.kindOf x == some .cell) = true := z
      obtain ⟨c, e⟩ := I.ok.has x (.inl (beq_iff_eq.mp z'))
      exact ⟨c, blkCl_free hown q e⟩
    rcases h with h | h
    · rcases relabel_back (show (sc.names.map fun (n, k) => if (k == NameKind.free && X.env.scope.kind == .function && X.env.kindOf n == some .cell) then (n, NameKind.cell) else (n, k)).lookup x = some .cell from h) with q | ⟨_, q⟩
      · exact Option.isSome_iff_exists.mp (PySem.W.cellsFrom_some sc.names _ _ (.inl q))
      · exact fr q
    · rcases relabel_back (show (sc.names.map fun (n, k) => if (k == NameKind.free && X.env.scope.kind == .function && X.env.kindOf n == some .cell) then (n, NameKind.cell) else (n, k)).lookup x = some .free from h) with q | ⟨q, _⟩
      · exact fr q
      · cases q
  · have hx : sc.names.lookup x = some .cell := eq_of_beq hf
    exact Nat.le_of_lt (lo (blkCl_own hx h))
  · obtain ⟨o, e⟩ := hob b hb
    exact Nat.ne_of_lt (Heap.lt_size e)
  · rcases blkCl_or h with h | h
    · obtain ⟨o, e⟩ := hob b hb
      exact Nat.ne_of_gt (Nat.lt_trans (Heap.lt_size e) (lo h))
    · exact (hex b hb).2.2.2.2.1 x c h
  · obtain ⟨_, _, _, q, _⟩ := hex b hb
    rcases q with q | q
    · exact I.ok.noex b o e q
    · exact absurd (Nat.lt_of_lt_of_le (Heap.lt_size (I.ok.bs b o e).1) q) (Nat.lt_irrefl _)
  · obtain ⟨_, n1, n2, _⟩ := hex b hb
    rcases List.mem_cons.mp (I.stkSub b hf) with z | z
    · exact n1 z
    · exact n2 z
theorem blk_start (I : Inv X pins σ H s) {own caps : List Str} {is : List Nat} {sc : Scope} {ex : List Addr} (hkind : sc.kind = .function) (hown : ∀ y ∈ sc.names, y.2 = .cell → sc.names.lookup y.1 = some .cell) (hfr : (sc.names.all fun y => y.2 != .free || X.env.kindOf y.1 == some .cell) = true)
    (hcap : Cap X sc caps is) (hex : ∀ b ∈ ex, FpOk X pins H b) (hob : ∀ b ∈ ex, ∃ o, s.heap.get? b = some o) {h1 : Heap} {tk : Nat} {m0 : Str → Option Value} (hn : h1.Ns s.heap.objs.size m0) (hk : ∀ b o, s.heap.get? b = some o → h1.get? b = some o) (oc : CellsOk h1 (s.heap.objs.size + 1) (cellsFrom (s.heap.objs.size + 1) sc.names [])) :
    Inv (blk X (own ++ caps) sc s.heap.objs.size s H ex) [] (capS own.length is σ) H { s with heap := h1, toks := tk } := by
  refine ⟨blk_ok I hkind hown hfr hex hob, rfl, I.bare, Un.kept hk, ⟨m0, hn, fun i x v e1 e2 _ => ?_⟩, fun x c h => ?_, I.hok.fresh (Nat.le_refl _), fun x c h => (blkCl_or h).elim (fun h => I.hok.fresh (Nat.le_of_lt (oc.empty _ _ h).2)) fun h => I.freeC x c h, fun p hp => absurd (show p ∈ ([] : List (Addr × Obj)) from hp) (by simp), I.hok.kept hk, ?_⟩
  · have e1' : (own ++ caps)[i]? = some x := e1
    by_cases hi : i < own.length
    · unfold capS at e2
      rw [List.getElem?_append_left (by rw [List.length_replicate]; exact hi), List.getElem?_replicate, if_pos hi] at e2
      cases e2
    · rw [List.getElem?_append_right (by omega)] at e1'
      unfold capS at e2
      rw [List.getElem?_append_right (by rw [List.length_replicate]; omega), List.length_replicate] at e2
      obtain ⟨i', q1, q2, q3, q4⟩ := hcap.get e1'
      unfold capV at e2
      rw [List.getElem?_map, q1] at e2
      have e2' : (σ[i']?).join = some v := Option.some.inj e2
      have e3 : σ[i']? = some (some v) := by
        cases z : σ[i']? with
        | none => rw [z] at e2'; cases e2'
        | some w =>
          rw [z] at e2'
          have e4 : w = some v := e2'
          rw [e4]
      obtain ⟨m, _, hl⟩ := I.loc
      obtain ⟨u, r, l⟩ := hl i' x v q2 e3 (.inr (.inl q3))
      refine ⟨u, r, ?_⟩
      rcases l with ⟨z, _⟩ | ⟨_, c, z1, o, z2, z3⟩
      · rw [q3] at z; cases z
      · refine .inr ⟨.inl ?_, c, blkCl_free hown q4 z1, o, hk _ _ z2, z3⟩
        exact relabel_cell I.ok.kind q4 q3
  · rcases blkCl_or h with h | h
    · exact ⟨none, (oc.empty _ _ h).1⟩
    · obtain ⟨v, o, e, d⟩ := I.cell x c h
      exact ⟨v, o, hk _ _ e, d⟩
  · show (capS own.length is σ).length = (own ++ caps).length
    unfold capS capV
    rw [List.length_append, List.length_append, List.length_replicate, List.length_map, hcap.length]

end


section
variable {X : Cx}
noncomputable def rSlS : V → Option Int → Option Int → Hp → VK → Prop := fun x lo hi H Q => ∃ z, x = .str z ∧ z.length ≤ sizeLine ∧ Q (.str (Txt.slice z lo hi)) H
theorem sl_str : SlR X rSlS := by
  intro pins s σ H x v vl vu lo hi sl Q I rx hs pl pu h
  obtain ⟨z, rfl, hz, q⟩ := h
  obtain ⟨t, rfl⟩ := rx
  have fin : ∀ lo hi : Option Int, Q (.str (Txt.slice z lo hi)) H → (Txt.slice z lo hi).length ≤ sizeLine ∧ ∀ t' k, EP X pins σ Q (.str (Txt.slice z lo hi) t') { s with toks := k } := fun lo hi q =>
    ⟨Nat.le_trans (Txt.slice_le z _ _) hz, fun t' k => ⟨.str _, H, I.tok k, ⟨t', rfl⟩, q⟩⟩
  refine ⟨"str", _, F.slot_str_getitem.lookup, typeIs_str _ _ _, ?_⟩
  cases pl with
  | none =>
    cases pu with
    | none => exact wpAny_getItem_str_slice (l := none) (u := none) (st := none) hs rfl (post_val_or_str (fin none none q))
    | int j t2 => exact wpAny_getItem_str_slice (l := none) (u := some (j, t2)) (st := none) hs rfl (post_val_or_str (fin none (some j) q))
  | int i t1 =>
    cases pu with
    | none => exact wpAny_getItem_str_slice (l := some (i, t1)) (u := none) (st := none) hs rfl (post_val_or_str (fin (some i) none q))
    | int j t2 => exact wpAny_getItem_str_slice (l := some (i, t1)) (u := some (j, t2)) (st := none) hs rfl (post_val_or_str (fin (some i) (some j) q))
theorem slice_to {z : Str} {j : Int} (h0 : 0 ≤ j) : (Txt.slice z none (some j)).cps.toList = z.cps.toList.take j.toNat := by
  have hl : z.cps.toList.length = z.length := by simp [Str.length]
  by_cases h : j ≤ z.length
  · have e := beq_iff_eq.mp (slice_closes_to (x := z) (j := j) ⟨h0, by rw [hl]; exact h⟩)
    rw [e]
    simp
  · have e := beq_iff_eq.mp (slice_closes_to (x := z) (j := (z.length : Int)) ⟨by omega, by rw [hl]; exact Int.le_refl _⟩)
    rw [slice_to_beyond (by omega), e]
    show List.take ((z.length : Int) - 0).toNat (z.cps.toList.drop 0) = _
    rw [List.drop_zero, List.take_of_length_le (by omega), List.take_of_length_le (by omega)]
theorem slice_from {z : Str} {i : Int} (h0 : 0 ≤ i) (h1 : i ≤ z.length) : (Txt.slice z (some i) none).cps.toList = z.cps.toList.drop i.toNat := by
  have hl : z.cps.toList.length = z.length := by simp [Str.length]
  rw [slice_from_eq (b := (z.length : Int)) h0 h1 rfl]
  show (z.cps.toList.drop i.toNat).take ((z.length : Int) - i).toNat = _
  rw [List.take_of_length_le (by rw [List.length_drop]; omega)]

noncomputable def rIsi (K : PySem.W.Frag) : List V → Hp → VK → Prop := fun xs H Q => ∃ x n t b, xs = [x, .ty n] ∧ TyOf K H x t ∧ PySem.W.kitOne K t (.type n) = some b ∧ Q (.bl b) H
theorem call_isi : CallR X (.builtin "isinstance") (rIsi X.K) := by
  intro pins s σ H xs us Q I rv h
  obtain ⟨x, n, t, b, rfl, ty, k, q⟩ := h
  obtain ⟨u, w', rfl, rx, ry⟩ := rv.two
  cases (show w' = Value.type n from ry)
  exact isinst_ok I rx ty k fun tk => ⟨.bl b, H, I.tok tk, rfl, q⟩


theorem truth_bool {prog : Program} {w : World} {A : Around} {P : Nat → Value → Prop} {tr : Nat → Bool} (h : ∀ i v, P i v → v = .bool (tr i)) : TruthOf prog w A P tr := by
  intro i v s Q E hP hQ
  rw [h i v hP]
  exact wpAny_pure hQ
noncomputable def rAll (K : PySem.W.Frag) : List V → Hp → VK → Prop := fun xs H Q => ∃ (p : Addr) (bs : List Bool), xs = [.ref p] ∧ H p = some (.lst (bs.map V.bl)) ∧ Q (.bl (bs.all id)) H
theorem call_all (hc : X.calm = true) : CallR X (.builtin "all") (rAll X.K) := by
  intro pins s σ H xs us Q I rv h
  obtain ⟨p, bs, rfl, hp, q⟩ := h
  obtain ⟨u, rfl, ru⟩ := rv.one
  cases (show u = Value.ref p from ru)
  obtain ⟨z, its, n, r, hl, e⟩ := I.lstM hp
  have hlt : p < s.heap.objs.size := Heap.lt_size e
  have isl : s.heap.IsList p its.toArray := ⟨_, e, rfl, n, rfl⟩
  refine call_all_walk ?_
  refine wpAny_pyIter_list isl ?_
  have hitm : ∀ (i : Nat) (v : Value), its.toArray[i]? = some v → v = Value.bool (bs.getD i true) := fun i v hv => by
    have hv' : its[i]? = some v := by simpa using hv
    have hi : i < its.length := (List.getElem?_eq_some_iff.mp hv').1
    have hib : i < bs.length := by rw [List.length_map] at hl; omega
    have hb : (bs.map V.bl)[i]? = some (V.bl bs[i]) := by rw [List.getElem?_map, List.getElem?_eq_getElem hib]; rfl
    obtain ⟨u', h1, h2⟩ := r.get hb
    rw [hv'] at h1
    cases h1
    rw [List.getD_eq_getElem?_getD, List.getElem?_eq_getElem hib]
    exact h2
  refine ⟨s.heap.objs.size, _, _, _, _, _, fun i => bs.getD i true, rfl, Walks.list (A := X.A.in1) (I.ok.hd hc) _ p (Nat.ne_of_lt hlt) its.toArray, ⟨⟨_, Heap.get?_push_size _ rfl, rfl, rfl⟩, isl.at fun o e => Heap.get?_push_of_some _ e⟩, truth_bool hitm, fun h' tk hk => ?_⟩
  have I1 : Inv X pins σ H { s with heap := h', toks := tk } := by
    have I0 : Inv X pins σ H { s with heap := s.heap.push { cls := .type "list_iterator", data := .fields #[.ref p, .int 0 0] } } := I.kept (t' := s.toks) fun b o e => Heap.get?_push_of_some _ e
    obtain ⟨f0, f1, f2, f3, f4, f5⟩ := I.fpOk (H' := H) (Nat.le_refl _) (I.hok.fresh (Nat.le_refl _))
    exact I0.turned (t' := tk) (fun b o hb e => hk b o (by simpa using hb) e) f0 f1 f3 f4 f5
  refine ⟨.bl _, H, I1, rfl, ?_⟩
  have ea : (List.range its.toArray.size).all (fun i => bs.getD i true) = bs.all id := by
    rw [List.size_toArray, ← hl, List.length_map]
    rw [Bool.eq_iff_iff, List.all_eq_true, List.all_eq_true]
    constructor
    · intro h b hb
      obtain ⟨i, hi, rfl⟩ := List.mem_iff_getElem.mp hb
      have q := h i (List.mem_range.mpr hi)
      rw [List.getD_eq_getElem?_getD, List.getElem?_eq_getElem hi] at q
      exact q
    · intro h i hi
      have hi := List.mem_range.mp hi
      rw [List.getD_eq_getElem?_getD, List.getElem?_eq_getElem hi]
      exact h _ (List.getElem_mem hi)
  rw [ea]
  exact q
end
end L2.L3




namespace L2.L3
open PySem PySem.Spec PyProof.Rows

structure Dn (P : Program) (w : World) (K : PySem.W.Frag) (mg : Str → Option Value) (base : Heap) (k : Nat) (x : Str) (ps : List Str) (sp : Sp) (f : Addr) (fd : FuncData) : Prop where
  ok : FnOk P w K mg base CX0 k f fd ps sp
  bd : Binds K fd ps []
  kp : PySem.W.keepIn K (.ref f) = true
  gl : mg x = some (.ref f)

noncomputable def constV : Const → Option V
  | .none => some .non
  | .bool b => some (.bl b)
  | .int i => some (.int i)
  | .str x => some (.str x)
  | _ => none
theorem pe_constV {X : Cx} {c : Const} {v : V} {j : Nat} {pos : Pos} (h : constV c = some v) : PE X (.Constant c j pos) (tC v) := by
  cases c with
  | none => cases h; exact pe_non
  | bool b => cases h; exact pe_bl
  | int i => cases h; exact pe_int
  | str x => cases h; exact pe_str
  | _ => cases h
theorem same_new {H : Hp} {p : Addr} (h : H p = none) (o : HO) : Same H (upd H p o) := fun b u q => by rw [upd_ne (ne_of_none q h)]; exact q
theorem big_dict {X : Cx} {pins : List (Addr × Obj)} {σ : St} {H : Hp} {s : Shared} (I : Inv X pins σ H s) : sysModules < s.heap.objs.size := by
  have h : mainGlobals < s.heap.objs.size := (I.mod.glob.keeps I.bk).lt
  exact Nat.lt_trans (by decide) h
end L2.L3



namespace ZD
open PySem PySem.Spec PyProof.Rows
section
variable {prog : Program} {w : World} {A : Around} {E : Value → Shared → Prop} {s : Shared}

theorem alive {α : Type} {M : Model} {a : Addr} {o : Obj} {k : Option Obj → Sem α} {Q : α → Shared → Prop} (ho : s.heap.get? a = some o) (h : wpAny M A (k (some o)) Q E s) : wpAny M A (.loadIfAlive a k) Q E s := fun Γ p hi => by
  rw [Sem.wp_loadIfAlive, ho]
  exact h Γ p hi

theorem next_tup {it t : Addr} {i : Nat} {items : Array Value} {x : Value} {Q : Value → Shared → Prop} (hit : s.heap.IsTupleIter it t i) (ht : s.heap.IsTuple t items) (hx : items[i]? = some x)
    (hQ : ∀ h', h'.IsTupleIter it t (i + 1) → Heap.SameBut it s.heap h' → Q x { s with heap := h' }) : wpAny (model prog w) A (Builtin.SmallTypes.nextOf (.ref it)) Q E s := by
  obtain ⟨oi, hoi, hci, hdi⟩ := id hit
  obtain ⟨ot, hot, _, nt, hdt⟩ := ht
  unfold Builtin.SmallTypes.nextOf
  refine wpAny_bind (wpAny_callSpecial?_slot (name := Str.ofString "__next__") hit.typeIs F.slot_tuple_iterator_next
    (wpAny_call_entry F.slot_tuple_iterator_next hit.typeIs F.entry_tuple_iterator_next ?_ (F.args_tuple_iterator_next_1 _)))
  show wpAny _ _ (field (.ref it) 0 >>= _) _ _ s
  refine wpAny_bind (wpAny_field hoi hdi (x := .ref t) rfl ?_)
  show wpAny _ _ (if (Value.ref t == Value.none) = true then _ else _) _ _ s
  rw [if_neg (show ¬ ((Value.ref t == Value.none) = true) from Bool.false_ne_true)]
  show wpAny _ _ (field (.ref it) 1 >>= _) _ _ s
  refine wpAny_bind (wpAny_field hoi hdi (x := .int i 0) rfl ?_)
  show wpAny _ _ (seqItems? (.ref t) >>= _) _ _ s
  refine wpAny_bind (wpAny_seqItems hot hdt ?_)
  simp only [Int.toNat_natCast, hx]
  refine wpAny_bind (wpAny_setField hoi hdi (by simp) (wpAny_pure ⟨x, rfl, wpAny_pure (hQ _ ?_ (Heap.SameBut.update ..))⟩))
  exact ⟨_, Heap.get?_update_self _ hoi (Obj.isFreed_of_fields (Obj.data_mapFields hdi _)), (Obj.cls_mapFields ..).trans hci, by
    rw [Obj.data_mapFields hdi]; simp [rawInt]⟩


structure IsSI (h : Heap) (it : Addr) (x : Str) (t : Tok) (i : Nat) : Prop where
  ex : ∃ T : String, (T = "str_ascii_iterator" ∨ T = "str_iterator") ∧ h.IsStrIter it T x t i
theorem IsSI.at' {h h' : Heap} {it : Addr} {x : Str} {t : Tok} {i : Nat} (z : IsSI h it x t i) (k : ∀ o, h.get? it = some o → h'.get? it = some o) : IsSI h' it x t i := by
  obtain ⟨T, hT, o, e, r⟩ := z.ex
  exact ⟨T, hT, o, k o e, r⟩
theorem IsSI.lt {h : Heap} {it : Addr} {x : Str} {t : Tok} {i : Nat} (z : IsSI h it x t i) : it < h.objs.size := by
  obtain ⟨T, hT, o, e, r⟩ := z.ex
  exact Heap.lt_size e
theorem next_si {it : Addr} {x : Str} {t : Tok} {i c : Nat} {Q : Value → Shared → Prop} (hit : IsSI s.heap it x t i) (hx : x.cps[i]? = some c)
    (hQ : ∀ h' u tk, IsSI h' it x t (i + 1) → Heap.SameBut it s.heap h' → Q (.str ⟨#[c]⟩ u) { s with heap := h', toks := tk }) : wpAny (model prog w) A (Builtin.SmallTypes.nextOf (.ref it)) Q E s := by
  obtain ⟨T, hT, z⟩ := hit.ex
  rcases hT with rfl | rfl
  · exact wpAny_nextOf_ascii_item z hx fun h' z' sb => hQ h' _ _ ⟨_, .inl rfl, z'⟩ sb
  · exact wpAny_nextOf_wide_item z hx fun h' z' sb => hQ h' _ _ ⟨_, .inr rfl, z'⟩ sb
theorem next_si_end {it : Addr} {x : Str} {t : Tok} {i : Nat} {Q : Value → Shared → Prop} (hh : A.handled = none) (hit : IsSI s.heap it x t i) (hx : x.cps[i]? = none)
    (hE : ∀ h' e, Heap.ExtBut it s.heap h' → (∃ o, h'.get? e = some o ∧ o.cls = .type "StopIteration") → E (.ref e) { s with heap := h' }) : wpAny (model prog w) A (Builtin.SmallTypes.nextOf (.ref it)) Q E s := by
  obtain ⟨T, hT, z⟩ := hit.ex
  rcases hT with rfl | rfl
  · exact wpAny_nextOf_ascii_end hh z hx hE
  · exact wpAny_nextOf_wide_end hh z hx hE


noncomputable def It2 (h : Heap) (i2 t : Addr) (items : Array Value) (k : Nat) : Prop := (h.IsTupleIter i2 t k ∧ h.IsTuple t items) ∨ (h.IsListIter i2 t k ∧ h.IsList t items)
theorem It2.at {h h' : Heap} {i2 t : Addr} {items : Array Value} {k : Nat} (z : It2 h i2 t items k) (k1 : ∀ o, h.get? i2 = some o → h'.get? i2 = some o) (k2 : ∀ o, h.get? t = some o → h'.get? t = some o) : It2 h' i2 t items k := by
  rcases z with ⟨a, o, e, r⟩ | ⟨a, o, e, r⟩
  · exact .inl ⟨a.at k1, o, k2 _ e, r⟩
  · exact .inr ⟨a.at k1, o, k2 _ e, r⟩
theorem It2.lt {h : Heap} {i2 t : Addr} {items : Array Value} {k : Nat} (z : It2 h i2 t items k) : i2 < h.objs.size := by
  rcases z with ⟨⟨o, e, _⟩, _⟩ | ⟨⟨o, e, _⟩, _⟩
  · exact Heap.lt_size e
  · exact Heap.lt_size e
theorem It2.ltT {h : Heap} {i2 t : Addr} {items : Array Value} {k : Nat} (z : It2 h i2 t items k) : t < h.objs.size := by
  rcases z with ⟨_, o, e, _⟩ | ⟨_, o, e, _⟩
  · exact Heap.lt_size e
  · exact Heap.lt_size e
theorem next_it2 {i2 t : Addr} {k : Nat} {items : Array Value} {x : Value} {Q : Value → Shared → Prop} (z : It2 s.heap i2 t items k) (ht : t ≠ i2) (hx : items[k]? = some x)
    (hQ : ∀ h', It2 h' i2 t items (k + 1) → Heap.SameBut i2 s.heap h' → Q x { s with heap := h' }) : wpAny (model prog w) A (Builtin.SmallTypes.nextOf (.ref i2)) Q E s := by
  rcases z with ⟨a, b⟩ | ⟨a, b⟩
  · exact next_tup a b hx fun h' j sb => hQ h' (.inl ⟨j, let ⟨o, e, r⟩ := b; ⟨o, sb.extBut _ _ ht e, r⟩⟩) sb
  · exact wpAny_nextOf_list_item a b hx fun h' j sb => hQ h' (.inr ⟨j, let ⟨o, e, r⟩ := b; ⟨o, sb.extBut _ _ ht e, r⟩⟩) sb

noncomputable def ZipO (f0 f1 : Value) (TI TO : Addr) : Obj := { cls := .type "zip", dict := none, data := .fields #[f0, f1, .bool false, .ref TI, .ref TO], slots := #[] }
structure Apart (z TI TO i1 i2 t : Addr) : Prop where
  TIz : TI ≠ z
  TOz : TO ≠ z
  i1z : i1 ≠ z
  i2z : i2 ≠ z
  TITO : TI ≠ TO
  TIi1 : TI ≠ i1
  TIi2 : TI ≠ i2
  TOi1 : TO ≠ i1
  TOi2 : TO ≠ i2
  i12 : i1 ≠ i2
  tz : t ≠ z
  tTO : t ≠ TO
  ti1 : t ≠ i1
  ti2 : t ≠ i2
structure ZSt (h : Heap) (z TI TO i1 i2 t : Addr) (x : Str) (tk : Tok) (items : Array Value) (k : Nat) : Prop where
  zip : ∃ f0 f1, h.get? z = some (ZipO f0 f1 TI TO) ∧ (f0 = .none ∨ ∃ a o, f0 = rawInt (a : Nat) ∧ h.get? a = some o ∧ a ≠ z ∧ a ≠ TO ∧ a ≠ i1 ∧ a ≠ i2)
  pTI : IsPair h TI (.ref i1) (.ref i2)
  pTO : ∃ a b, IsPair h TO a b
  s1 : IsSI h i1 x tk k
  s2 : It2 h i2 t items k
theorem ZSt.keep {h h' : Heap} {z TI TO i1 i2 t : Addr} {x : Str} {tk : Tok} {items : Array Value} {k : Nat} (y : ZSt h z TI TO i1 i2 t x tk items k) (kp : ∀ b o, h.get? b = some o → h'.get? b = some o) : ZSt h' z TI TO i1 i2 t x tk items k := by
  obtain ⟨⟨f0, f1, e, r⟩, p1, ⟨a, b, p2⟩, s1, s2⟩ := y
  refine ⟨⟨f0, f1, kp _ _ e, ?_⟩, kp _ _ p1, ⟨a, b, kp _ _ p2⟩, s1.at' fun o => kp _ o, s2.at (fun o => kp _ o) fun o => kp _ o⟩
  rcases r with r | ⟨a, o, r1, r2, r3⟩
  · exact .inl r
  · exact .inr ⟨a, o, r1, kp _ _ r2, r3⟩


theorem zip_next {z TI TO i1 i2 t : Addr} {x : Str} {tk : Tok} {items : Array Value} {k c : Nat} {y : Value} {Q : Value → Shared → Prop} (D : Apart z TI TO i1 i2 t) (S : ZSt s.heap z TI TO i1 i2 t x tk items k) (hx : x.cps[k]? = some c) (hy : items[k]? = some y)
    (hQ : ∀ h' T u tk', ZSt h' z TI TO i1 i2 t x tk items (k + 1) → IsPair h' T (.str ⟨#[c]⟩ u) y → s.heap.objs.size ≤ T → (∀ b o, b ≠ z → b ≠ TO → b ≠ i1 → b ≠ i2 → s.heap.get? b = some o → h'.get? b = some o) → Q (.ref T) { s with heap := h', toks := tk' }) :
    wpAny (model prog w) A (Builtin.«zip.__next__» ⟨[.ref z], []⟩) (fun fin s' => ∃ v, fin = .done (.ret v) ∧ Q v s') E s := by
  obtain ⟨⟨f0, f1, hz, hf⟩, hTI, ⟨a, b, hTO⟩, h1, h2⟩ := S
  show wpAny _ _ (field (.ref z) 2 >>= _) _ _ _
  refine wpAny_bind (wpAny_field hz rfl (x := .bool false) rfl ?_)
  show wpAny _ _ (field (.ref z) 3 >>= _) _ _ _
  refine wpAny_bind (wpAny_field hz rfl (x := .ref TI) rfl ?_)
  refine wpAny_bind (wpAny_seqItems hTI rfl ?_)
  show wpAny _ _ (Builtin.SmallTypes.ownedTupleIsFree (.ref z) >>= _) _ _ _
  refine wpAny_bind ?_
  unfold Builtin.SmallTypes.ownedTupleIsFree
  rcases hf with rfl | ⟨q, oq, rfl, hq, q1, q2, q3, q4⟩
  · refine wpAny_bind (wpAny_field hz rfl (x := .none) rfl (wpAny_pure ?_))
    simp only [if_true]
    refine wpAny_bind (wpAny_rule ?_)
    refine wpAny_bind (wpAny_field hz rfl (x := .ref TO) rfl ?_)
    refine wpAny_bind (wpAny_setField_rec hz (by simp) fun g1 z1 b1 => ?_)
    replace z1 : g1.get? z = some (ZipO .ellipsis f1 TI TO) := z1
    refine wpAny_bind ?_
    simp only [List.zipIdx_cons, List.zipIdx_nil, List.forIn_cons, List.forIn_nil]
    refine wpAny_bind (wpAny_bind (wpAny_onRaise ?_))
    show wpAny _ _ (Builtin.SmallTypes.nextOf (.ref i1) >>= _) _ _ _
    refine wpAny_bind (next_si (h1.at' fun o e => b1.extBut _ _ D.i1z e) hx fun g2 u tk2 i2' b2 => wpAny_pure ?_)
    have o2 : IsPair g2 TO a b := b2.extBut _ _ D.TOi1 (b1.extBut _ _ D.TOz hTO)
    refine wpAny_bind (wpAny_seqItems o2 rfl ?_)
    refine wpAny_bind (wpAny_updateSeq_pair o2 fun g3 o3 b3 => ?_)
    replace o3 : IsPair g3 TO (.str ⟨#[c]⟩ u) b := o3
    refine wpAny_bind (wpAny_letGo (wpAny_pure ?_))
    refine wpAny_bind (wpAny_bind (wpAny_onRaise ?_))
    show wpAny _ _ (Builtin.SmallTypes.nextOf (.ref i2) >>= _) _ _ _
    have up3 : ∀ c o, c ≠ z → c ≠ TO → c ≠ i1 → s.heap.get? c = some o → g3.get? c = some o := fun c o c1 c2 c3 e => b3.extBut _ _ c2 (b2.extBut _ _ c3 (b1.extBut _ _ c1 e))
    refine wpAny_bind (next_it2 (h2.at (fun o e => up3 _ _ D.i2z D.TOi2.symm D.i12.symm e) fun o e => up3 _ _ D.tz D.tTO D.ti1 e) D.ti2 hy fun g4 j4 b4 => wpAny_pure ?_)
    have o4 : IsPair g4 TO (.str ⟨#[c]⟩ u) b := b4.extBut _ _ D.TOi2 o3
    refine wpAny_bind (wpAny_seqItems o4 rfl ?_)
    refine wpAny_bind (wpAny_updateSeq_pair o4 fun g5 o5 b5 => ?_)
    replace o5 : IsPair g5 TO (.str ⟨#[c]⟩ u) y := o5
    refine wpAny_bind (wpAny_letGo (wpAny_pure (wpAny_pure ?_)))
    refine wpAny_bind (wpAny_seqItems o5 rfl ?_)
    refine wpAny_bind (wpAny_newTuple ?_)
    have sz : g5.objs.size = s.heap.objs.size := by rw [b5.1, b4.1, b3.1, b2.1, b1.1]
    have z5 : g5.get? z = some (ZipO .ellipsis f1 TI TO) := b5.extBut _ _ D.TOz.symm (b4.extBut _ _ D.i2z.symm (b3.extBut _ _ D.TOz.symm (b2.extBut _ _ D.i1z.symm z1)))
    have up5 : ∀ c o, c ≠ z → c ≠ TO → c ≠ i1 → c ≠ i2 → s.heap.get? c = some o → g5.get? c = some o := fun c o c1 c2 c3 c4 e => b5.extBut _ _ c2 (b4.extBut _ _ c4 (up3 c o c1 c2 c3 e))
    have s5 : IsSI g5 i1 x tk (k + 1) := i2'.at' fun o e => b5.extBut _ _ D.TOi1.symm (b4.extBut _ _ D.i12 (b3.extBut _ _ D.TOi1.symm e))
    have j5 : It2 g5 i2 t items (k + 1) := j4.at (fun o e => b5.extBut _ _ D.TOi2.symm e) fun o e => b5.extBut _ _ D.tTO e
    show wpAny _ _ (Builtin.SmallTypes.ownedTupleHandOut (.ref z) (.ref g5.objs.size) >>= _) _ _ _
    refine wpAny_bind ?_
    unfold Builtin.SmallTypes.ownedTupleHandOut
    have z6 : (g5.push { cls := .type "tuple", data := .seq #[.str ⟨#[c]⟩ u, y] }).get? z = some (ZipO .ellipsis f1 TI TO) := Heap.get?_push_of_some _ z5
    refine wpAny_bind (wpAny_setField_rec z6 (by simp) fun g7 z7 b7 => ?_)
    replace z7 : g7.get? z = some (ZipO (rawInt g5.objs.size) f1 TI TO) := z7
    refine wpAny_setField_rec z7 (by simp) fun g8 z8 b8 => ?_
    replace z8 : g8.get? z = some (ZipO (rawInt g5.objs.size) (.bool false) TI TO) := z8
    have up : ∀ c o, c ≠ z → g5.get? c = some o → g8.get? c = some o := fun c o c1 e => b8.extBut _ _ c1 (b7.extBut _ _ c1 (Heap.get?_push_of_some _ e))
    have zlt : z < g5.objs.size := Heap.lt_size z5
    have T8 : IsPair g8 g5.objs.size (.str ⟨#[c]⟩ u) y := b8.extBut _ _ (Nat.ne_of_gt zlt) (b7.extBut _ _ (Nat.ne_of_gt zlt) (Heap.get?_push_size _ rfl))
    refine wpAny_pure ⟨_, rfl, ?_⟩
    refine hQ g8 g5.objs.size u tk2 ⟨⟨_, _, z8, .inr ⟨g5.objs.size, _, rfl, T8, Nat.ne_of_gt zlt, Nat.ne_of_gt (Heap.lt_size o5), Nat.ne_of_gt s5.lt, ?_⟩⟩, up _ _ D.TIz (up5 _ _ D.TIz D.TITO D.TIi1 D.TIi2 hTI), ⟨_, _, up _ _ D.TOz o5⟩, s5.at' fun o e => up _ _ D.i1z e, j5.at (fun o e => up _ _ D.i2z e) fun o e => up _ _ D.tz e⟩ T8 (Nat.le_of_eq sz.symm) fun c o c1 c2 c3 c4 e => up c o c1 (up5 c o c1 c2 c3 c4 e)
    exact Nat.ne_of_gt j5.lt
  · refine wpAny_bind (wpAny_field hz rfl (x := rawInt (q : Nat)) rfl ?_)
    show wpAny _ _ (loadIfAlive ((q : Int)).toNat >>= _) _ _ _
    refine wpAny_bind ?_
    unfold loadIfAlive
    refine alive (o := oq) (by simpa using hq) (wpAny_pure ?_)
    simp only [Option.isNone_some, Bool.false_eq_true, if_false]
    refine wpAny_bind (wpAny_field hz rfl (x := f1) rfl ?_)
    refine wpAny_mono (Q := fun r s' => r = false ∧ ∃ g1 f1', s' = { s with heap := g1 } ∧ g1.get? z = some (ZipO (rawInt (q : Nat)) f1' TI TO) ∧ Heap.SameBut z s.heap g1) ?_ (fun r s' hr => ?_) (fun _ _ e => e)
    · by_cases hb : (f1 != Value.bool true) = true
      · rw [if_pos hb]
        exact wpAny_bind (wpAny_setField_rec hz (by simp) fun g1 z1 b1 => wpAny_pure ⟨rfl, g1, .bool true, rfl, z1, b1⟩)
      · rw [if_neg hb]
        exact wpAny_pure ⟨rfl, s.heap, f1, rfl, hz, .refl ..⟩
    obtain ⟨rfl, g1, f1', rfl, z1, b1⟩ := hr
    simp only [Bool.false_eq_true, if_false]
    refine wpAny_bind ?_
    simp only [List.forIn_toArray, List.forIn_cons, List.forIn_nil]
    refine wpAny_bind (wpAny_bind (wpAny_holding ?_))
    show wpAny _ _ (Builtin.SmallTypes.nextOf (.ref i1) >>= _) _ _ _
    refine wpAny_bind (next_si (h1.at' fun o e => b1.extBut _ _ D.i1z e) hx fun g2 u tk2 i2' b2 => wpAny_pure ?_)
    refine wpAny_pure ?_
    refine wpAny_bind (wpAny_bind (wpAny_holding ?_))
    show wpAny _ _ (Builtin.SmallTypes.nextOf (.ref i2) >>= _) _ _ _
    have up2 : ∀ c o, c ≠ z → c ≠ i1 → s.heap.get? c = some o → g2.get? c = some o := fun c o c1 c3 e => b2.extBut _ _ c3 (b1.extBut _ _ c1 e)
    refine wpAny_bind (next_it2 (h2.at (fun o e => up2 _ _ D.i2z D.i12.symm e) fun o e => up2 _ _ D.tz D.ti1 e) D.ti2 hy fun g4 j4 b4 => wpAny_pure ?_)
    refine wpAny_pure (wpAny_pure ?_)
    refine wpAny_bind (wpAny_newTuple (hsz := by show 2 ≤ sizeLine; decide) ?_)
    have up4 : ∀ c o, c ≠ z → c ≠ i1 → c ≠ i2 → s.heap.get? c = some o → g4.get? c = some o := fun c o c1 c3 c4 e => b4.extBut _ _ c4 (up2 c o c1 c3 e)
    have sz : g4.objs.size = s.heap.objs.size := by rw [b4.1, b2.1, b1.1]
    have z4 : g4.get? z = some (ZipO (rawInt (q : Nat)) f1' TI TO) := b4.extBut _ _ D.i2z.symm (b2.extBut _ _ D.i1z.symm z1)
    refine wpAny_pure ⟨_, rfl, ?_⟩
    refine hQ _ g4.objs.size u tk2 ⟨⟨_, _, Heap.get?_push_of_some _ z4, .inr ⟨q, oq, rfl, Heap.get?_push_of_some _ (up4 _ _ q1 q3 q4 hq), q1, q2, q3, q4⟩⟩, Heap.get?_push_of_some _ (up4 _ _ D.TIz D.TIi1 D.TIi2 hTI), ⟨_, _, Heap.get?_push_of_some _ (up4 _ _ D.TOz D.TOi1 D.TOi2 hTO)⟩,
      i2'.at' fun o e => Heap.get?_push_of_some _ (b4.extBut _ _ D.i12 e), j4.at (fun o e => Heap.get?_push_of_some _ e) fun o e => Heap.get?_push_of_some _ e⟩ (Heap.get?_push_size _ rfl) (Nat.le_of_eq sz.symm) fun c o c1 c2 c3 c4 e => Heap.get?_push_of_some _ (up4 c o c1 c3 c4 e)


theorem zip_end {z TI TO i1 i2 t : Addr} {x : Str} {tk : Tok} {items : Array Value} {k : Nat} {Q : Fin → Shared → Prop} (hh : A.handled = none) (D : Apart z TI TO i1 i2 t) (S : ZSt s.heap z TI TO i1 i2 t x tk items k) (hx : x.cps[k]? = none)
    (hE : ∀ h' e, (∀ b o, b ≠ z → b ≠ TO → b ≠ i1 → b ≠ i2 → s.heap.get? b = some o → h'.get? b = some o) → (∃ o, h'.get? e = some o ∧ o.cls = .type "StopIteration") → E (.ref e) { s with heap := h' }) :
    wpAny (model prog w) A (Builtin.«zip.__next__» ⟨[.ref z], []⟩) Q E s := by
  obtain ⟨⟨f0, f1, hz, hf⟩, hTI, ⟨a, b, hTO⟩, h1, h2⟩ := S
  show wpAny _ _ (field (.ref z) 2 >>= _) _ _ _
  refine wpAny_bind (wpAny_field hz rfl (x := .bool false) rfl ?_)
  show wpAny _ _ (field (.ref z) 3 >>= _) _ _ _
  refine wpAny_bind (wpAny_field hz rfl (x := .ref TI) rfl ?_)
  refine wpAny_bind (wpAny_seqItems hTI rfl ?_)
  show wpAny _ _ (Builtin.SmallTypes.ownedTupleIsFree (.ref z) >>= _) _ _ _
  refine wpAny_bind ?_
  unfold Builtin.SmallTypes.ownedTupleIsFree
  rcases hf with rfl | ⟨q, oq, rfl, hq, q1, q2, q3, q4⟩
  · refine wpAny_bind (wpAny_field hz rfl (x := .none) rfl (wpAny_pure ?_))
    simp only [if_true]
    refine wpAny_bind (wpAny_rule ?_)
    refine wpAny_bind (wpAny_field hz rfl (x := .ref TO) rfl ?_)
    refine wpAny_bind (wpAny_setField_rec hz (by simp) fun g1 z1 b1 => ?_)
    replace z1 : g1.get? z = some (ZipO .ellipsis f1 TI TO) := z1
    refine wpAny_bind ?_
    simp only [List.zipIdx_cons, List.zipIdx_nil, List.forIn_cons, List.forIn_nil]
    refine wpAny_bind (wpAny_bind (wpAny_onRaise ?_))
    show wpAny _ _ (Builtin.SmallTypes.nextOf (.ref i1) >>= _) _ _ _
    refine wpAny_bind (next_si_end hh (h1.at' fun o e => b1.extBut _ _ D.i1z e) hx fun g2 e b2 he => ?_)
    obtain ⟨oe, hoe, hce⟩ := he
    have z2 : g2.get? z = some (ZipO .ellipsis f1 TI TO) := b2 _ _ D.i1z.symm z1
    have ne : e ≠ z := fun y => by
      subst y
      rw [z2] at hoe
      cases hoe
      have c' : (Value.type "zip") = .type "StopIteration" := hce
      simp at c'
    exact wpAny_setField_rec z2 (by simp) fun g3 _ b3 => hE g3 e (fun c o c1 _ c3 _ y => b3.extBut _ _ c1 (b2 _ _ c3 (b1.extBut _ _ c1 y))) ⟨oe, b3.extBut _ _ ne hoe, hce⟩
  · refine wpAny_bind (wpAny_field hz rfl (x := rawInt (q : Nat)) rfl ?_)
    show wpAny _ _ (loadIfAlive ((q : Int)).toNat >>= _) _ _ _
    refine wpAny_bind ?_
    unfold loadIfAlive
    refine alive (o := oq) (by simpa using hq) (wpAny_pure ?_)
    simp only [Option.isNone_some, Bool.false_eq_true, if_false]
    refine wpAny_bind (wpAny_field hz rfl (x := f1) rfl ?_)
    refine wpAny_mono (Q := fun r s' => r = false ∧ ∃ g1, s' = { s with heap := g1 } ∧ Heap.SameBut z s.heap g1) ?_ (fun r s' hr => ?_) (fun _ _ e => e)
    · by_cases hb : (f1 != Value.bool true) = true
      · rw [if_pos hb]
        exact wpAny_bind (wpAny_setField_rec hz (by simp) fun g1 z1 b1 => wpAny_pure ⟨rfl, g1, rfl, b1⟩)
      · rw [if_neg hb]
        exact wpAny_pure ⟨rfl, s.heap, rfl, .refl ..⟩
    obtain ⟨rfl, g1, rfl, b1⟩ := hr
    simp only [Bool.false_eq_true, if_false]
    refine wpAny_bind ?_
    simp only [List.forIn_toArray, List.forIn_cons, List.forIn_nil]
    refine wpAny_bind (wpAny_bind (wpAny_holding ?_))
    show wpAny _ _ (Builtin.SmallTypes.nextOf (.ref i1) >>= _) _ _ _
    exact wpAny_bind (next_si_end hh (h1.at' fun o e => b1.extBut _ _ D.i1z e) hx fun g2 e b2 he => hE g2 e (fun c o c1 _ c3 _ y => b2 _ _ c3 (b1.extBut _ _ c1 y)) he)


theorem py_next {z TI TO i1 i2 t : Addr} {x : Str} {tk : Tok} {items : Array Value} {k c : Nat} {y : Value} {Q : Option Value → Shared → Prop} (D : Apart z TI TO i1 i2 t) (S : ZSt s.heap z TI TO i1 i2 t x tk items k) (hx : x.cps[k]? = some c) (hy : items[k]? = some y)
    (hQ : ∀ h' T u tk', ZSt h' z TI TO i1 i2 t x tk items (k + 1) → IsPair h' T (.str ⟨#[c]⟩ u) y → s.heap.objs.size ≤ T → (∀ b o, b ≠ z → b ≠ TO → b ≠ i1 → b ≠ i2 → s.heap.get? b = some o → h'.get? b = some o) → Q (some (.ref T)) { s with heap := h', toks := tk' }) :
    wpAny (model prog w) A (pyNext (.ref z)) Q E s := by
  have hT : s.TypeIs (.ref z) "zip" := let ⟨_, _, e, _⟩ := S.zip; ⟨_, e, rfl⟩
  unfold pyNext
  exact wpAny_bind (wpAny_attempt (wpAny_callSpecial?_slot (name := Str.ofString "__next__") hT F.slot_zip_next
    (wpAny_call_entry F.slot_zip_next hT F.entry_zip_next (zip_next D S hx hy fun h' T u tk' a1 a2 a3 a4 => wpAny_pure (hQ h' T u tk' a1 a2 a3 a4)) (F.args_zip_next_1 _))))
theorem py_end {z TI TO i1 i2 t : Addr} {x : Str} {tk : Tok} {items : Array Value} {k : Nat} {Q : Option Value → Shared → Prop} (hh : A.handled = none) (D : Apart z TI TO i1 i2 t) (S : ZSt s.heap z TI TO i1 i2 t x tk items k) (hx : x.cps[k]? = none)
    (hQ : ∀ h', (∀ b o, b ≠ z → b ≠ TO → b ≠ i1 → b ≠ i2 → s.heap.get? b = some o → h'.get? b = some o) → Q none { s with heap := h' }) : wpAny (model prog w) A (pyNext (.ref z)) Q E s := by
  have hT : s.TypeIs (.ref z) "zip" := let ⟨_, _, e, _⟩ := S.zip; ⟨_, e, rfl⟩
  unfold pyNext
  refine wpAny_bind (wpAny_attempt (wpAny_callSpecial?_slot (name := Str.ofString "__next__") hT F.slot_zip_next
    (wpAny_call_entry F.slot_zip_next hT F.entry_zip_next (zip_end hh D S hx fun h' e hk he => ?_) (F.args_zip_next_1 _))))
  obtain ⟨o, ho, hc⟩ := he
  refine wpAny_bind (wpAny_isInstance (T := "StopIteration") (b := true) ⟨o, ho, hc⟩ isSubtype_stop ?_)
  exact wpAny_pure (hQ _ hk)
end
theorem entry_ga : entryFor table "zip.__getattribute__" = some Builtin.«object.__getattribute__» :=
  entryFor_alias (id' := "object.__getattribute__") (by kernel_rfl) (by decide +kernel) (by decide +kernel) (by kernel_rfl)
theorem no_keys : typeLookup (.type "zip") "keys" = pure none := by rw [typeLookup_type, builtinLookup_eq_fast]; kernel_rfl
theorem no_getattr : typeLookup (.type "zip") "__getattr__" = pure none := by rw [typeLookup_type, builtinLookup_eq_fast]; kernel_rfl
theorem meets_miss (a : Addr) (vs : Array Value) (name : Str) (u : Tok) (hmiss : typeLookup (.type "zip") name = pure none) (hname : (["__module__", "__name__", "__qualname__", "__doc__", "__annotations__"] : List Str).contains name = false) (hsz : name.length + 100 ≤ sizeLine) :
    Meets (Builtin.«object.__getattribute__» ⟨[.ref a, .str name u], []⟩) (fun A R s => s.heap.get? a = some { cls := .type "zip", dict := none, data := .fields vs, slots := #[] } ∧ raisesAttr (.ref a) name A R s) :=
  Meets.of_wp fun prog w A R s hs => by
    obtain ⟨hp, g, d, tk, os⟩ := s
    obtain ⟨hx, hs⟩ := hs
    have hT : (⟨hp, g, d, tk, os⟩ : Shared).TypeIs (.ref a) "zip" := ⟨_, hx, rfl⟩
    unfold Builtin.«object.__getattribute__»
    repeat (any_goals (first | assumption | wp_step))
    simp only [hname, Bool.false_eq_true, if_false]
    repeat (any_goals (first | assumption | wp_step))
    exact wpAny_raiseAttrError hs.1 hs.2 (attrMsg_fits (by decide +kernel) hsz)
section
variable {prog : Program} {w : World} {A : Around} {E : Value → Shared → Prop} {s : Shared}
theorem no_attr_keys {a : Addr} {vs : Array Value} {Q : Option Value → Shared → Prop} (hx : s.heap.get? a = some { cls := .type "zip", dict := none, data := .fields vs, slots := #[] }) (hA : A.handled = none)
    (h : ∀ h' tk, (∀ b o, s.heap.get? b = some o → h'.get? b = some o) → Q none { s with heap := h', toks := tk }) : wpAny (model prog w) A (getAttr? (.ref a) "keys") Q E s := by
  obtain ⟨hp, g, d, tk, os⟩ := s
  have hT : ∀ tk', (⟨hp, g, d, tk', os⟩ : Shared).TypeIs (.ref a) "zip" := fun _ => ⟨_, hx, rfl⟩
  have f1 := sub_AttributeError
  have f3 := F.slot_zip_getattribute.lookup
  have f4 := F.slot_zip_getattribute.bind (.ref a)
  have f5 := no_getattr
  unfold getAttr? getAttrBy? getAttrBy
  repeat (any_goals (first | assumption | exact hT _ | ((with_reducible show wpAny _ _ (call (Value.builtin "zip.__getattribute__") _ _) _ _ _); refine call_meets F.slot_zip_getattribute (hT _) entry_ga (F.args_zip_getattribute_2 _ _) (meets_miss a vs "keys" _ no_keys (by decide +kernel) (by decide +kernel)) ⟨hx, hA, fun h' tk' e hx' => ?_⟩) | wp_step))
  obtain ⟨t', u', he⟩ := hx'.there
  show wpAny _ _ (getattributeRaised _ _ _ _ _ _ _) _ _ _
  unfold getattributeRaised
  repeat (any_goals (first | assumption | wp_step))
  exact h _ _ hx'.keeps
end
end ZD


namespace ZD
open PySem PySem.Spec PyProof.Rows
theorem entry_loop : entryFor table "dict.update.loop" = some Builtin.«dict.update.loop» := entryFor_of_tree (by kernel_rfl)
theorem plain_loop : plainId "dict.update.loop" = true := by decide +kernel
noncomputable def storeAll {K : Type} [DecidableEq K] (kk : Nat → K) (items : Array Value) : Nat → Nat → List (K × Value) → List (K × Value)
  | 0, _, kvs => kvs
  | n + 1, k, kvs => storeAll kk items n (k + 1) (stored kvs (kk k) (items[k]?.getD .none))
theorem stored_len {K : Type} [DecidableEq K] (kvs : List (K × Value)) (k : K) (v : Value) : (stored kvs k v).length ≤ kvs.length + 1 := by
  unfold stored
  split
  · simp
  · simp
theorem ZSt.but {h h' : Heap} {d z TI TO i1 i2 t : Addr} {x : Str} {tk : Tok} {items : Array Value} {k : Nat} (y : ZSt h z TI TO i1 i2 t x tk items k) (sb : Heap.SameBut d h h') (d1 : d ≠ z) (d2 : d ≠ TO) (d3 : d ≠ i1) (d4 : d ≠ i2) (d5 : d ≠ TI) (d6 : d ≠ t) (ob : ∃ o, h'.get? d = some o) :
    ZSt h' z TI TO i1 i2 t x tk items k := by
  obtain ⟨⟨f0, f1, e, r⟩, p1, ⟨a, b, p2⟩, s1, s2⟩ := y
  refine ⟨⟨f0, f1, sb.extBut _ _ d1.symm e, ?_⟩, sb.extBut _ _ d5.symm p1, ⟨a, b, sb.extBut _ _ d2.symm p2⟩, s1.at' fun o e => sb.extBut _ _ d3.symm e, s2.at (fun o e => sb.extBut _ _ d4.symm e) fun o e => sb.extBut _ _ d6.symm e⟩
  rcases r with r | ⟨a, o, r1, r2, r3⟩
  · exact .inl r
  · by_cases ha : a = d
    · obtain ⟨o', e'⟩ := ob
      exact .inr ⟨a, o', r1, by rw [ha]; exact e', r3⟩
    · exact .inr ⟨a, o, r1, sb.extBut _ _ ha r2, r3⟩
section
variable {prog : Program} {w : World} {A : Around} {K : Type} [DecidableEq K] {knd : KeyKind prog w K} {R : Result → Shared → Prop} {d z TI TO i1 i2 t : Addr} {x : Str} {tk : Tok} {items : Array Value}
theorem upd_loop {kk : Nat → K} (hk : ∀ i c u, x.cps[i]? = some c → knd.is (kk i) (.str ⟨#[c]⟩ u) = true) (D : Apart z TI TO i1 i2 t) (hh : A.handled = none) (d1 : d ≠ z) (d2 : d ≠ TO) (d3 : d ≠ i1) (d4 : d ≠ i2) (d5 : d ≠ TI) (d6 : d ≠ t) (hsz : x.cps.size = items.size) (hle : x.cps.size ≤ 1000) :
    ∀ (n k : Nat) (j : Int) (s : Shared) (kvs : List (K × Value)), k + n = x.cps.size → ZSt s.heap z TI TO i1 i2 t x tk items k → s.heap.DictOf knd d kvs → kvs.length ≤ k →
      (∀ h' tk', h'.DictOf knd d (storeAll kk items n k kvs) → (∀ b o, b ≠ z → b ≠ TO → b ≠ i1 → b ≠ i2 → b ≠ d → s.heap.get? b = some o → h'.get? b = some o) → R (.ok (.ret .none)) { s with heap := h', toks := tk' }) →
      codeAny (model prog w) A (.builtin "dict.update.loop" ⟨[.ref d, .ref z, rawInt j, .none], []⟩) R s := by
  intro n
  induction n with
  | zero =>
    intro k j s kvs hkn S hd hl hR
    refine codeAny_builtin entry_loop ?_
    rw [Around.under_plainId plain_loop _]
    show wpAny _ A.in1 (pyNext (.ref z) >>= _) _ _ s
    refine wpAny_bind (py_end hh D S (by simp; omega) fun h' hk' => ?_)
    show wpAny _ _ (Builtin.Dict.addKeywords d [] >>= _) _ _ _
    refine wpAny_bind (wpAny_pure (wpAny_pure ?_))
    exact hR h' s.toks (let ⟨o, es, ep, ho, r⟩ := hd; ⟨o, es, ep, hk' d o d1 d2 d3 d4 ho, r⟩) fun b o b1 b2 b3 b4 _ e => hk' b o b1 b2 b3 b4 e
  | succ n ih =>
    intro k j s kvs hkn S hd hl hR
    have hkx : k < x.cps.size := by omega
    have hx : x.cps[k]? = some x.cps[k] := by simp [hkx]
    have hy : items[k]? = some items[k] := by simp
    refine codeAny_builtin entry_loop ?_
    rw [Around.under_plainId plain_loop _]
    show wpAny _ A.in1 (pyNext (.ref z) >>= _) _ _ s
    refine wpAny_bind (py_next D S hx hy fun h' T u tk' S' pT hT hk' => ?_)
    refine wpAny_bind (wpAny_holding ?_)
    have hTy : (⟨h', s.gens, s.drawn, tk', s.os⟩ : Shared).TypeIs (.ref T) "tuple" := ⟨_, pT, rfl⟩
    refine wpAny_bind (wpAny_tryCatch ?_)
    unfold Builtin.Dict.pairItems
    refine wpAny_bind (wpAny_typeOf hTy ?_)
    rw [if_pos (by decide)]
    refine wpAny_bind (wpAny_seqItems (s := ⟨h', s.gens, s.drawn, tk', s.os⟩) pT rfl (wpAny_pure ?_))
    show wpAny _ _ (holding [.str ⟨#[x.cps[k]]⟩ u, items[k]] (dictSet d (.str ⟨#[x.cps[k]]⟩ u) items[k])) _ _ _
    have hd' : h'.DictOf knd d kvs := let ⟨o, es, ep, ho, r⟩ := hd; ⟨o, es, ep, hk' d o d1 d2 d3 d4 ho, r⟩
    refine wpAny_holding (wpAny_dictSet_pairs (s := ⟨h', s.gens, s.drawn, tk', s.os⟩) (hk k _ u hx) hd' (fun h2 hd2 sb => ?_) (Nat.le_of_lt (Nat.lt_of_le_of_lt (show kvs.length ≤ 1000 by omega) (by decide))))
    refine wpAny_pure ⟨plainId_quiet plain_loop _, ?_⟩
    have ob : ∃ o, h2.get? d = some o := let ⟨o, _, _, ho, _⟩ := hd2; ⟨o, ho⟩
    refine ih (k + 1) (j + 1) _ _ (by omega) (S'.but sb d1 d2 d3 d4 d5 d6 ob) hd2 ?_ (fun h3 tk3 hd3 hk3 => ?_)
    · have := stored_len kvs (kk k) items[k]
      omega
    · have e : storeAll kk items (n + 1) k kvs = storeAll kk items n (k + 1) (stored kvs (kk k) items[k]) := by
        show storeAll kk items n (k + 1) (stored kvs (kk k) (items[k]?.getD .none)) = _
        rw [hy]
        rfl
      refine hR h3 tk3 (by rw [e]; exact hd3) fun b o b1 b2 b3 b4 b5 eb => hk3 b o b1 b2 b3 b4 b5 (sb.extBut b o b5 (hk' b o b1 b2 b3 b4 eb))
end
end ZD


namespace ZD
open PySem PySem.Spec PyProof.Rows
noncomputable abbrev zA (h : Heap) (x : Str) (tk : Tok) : Heap := h.push { cls := .type "str_ascii_iterator", data := .fields #[.str x tk, .int 0 0] }
noncomputable abbrev zB (T : String) (h : Heap) (x : Str) (tk : Tok) (t : Addr) : Heap := (zA h x tk).push { cls := .type T, data := .fields #[.ref t, .int 0 0] }
noncomputable abbrev zC (T : String) (h : Heap) (x : Str) (tk : Tok) (t : Addr) : Heap := (zB T h x tk t).push { cls := .type "tuple", data := .seq #[.ref h.objs.size, .ref (zA h x tk).objs.size] }
noncomputable abbrev zD (T : String) (h : Heap) (x : Str) (tk : Tok) (t : Addr) : Heap := (zC T h x tk t).push { cls := .type "tuple", data := .seq #[.none, .none] }
noncomputable abbrev zE (T : String) (h : Heap) (x : Str) (tk : Tok) (t : Addr) : Heap := (zD T h x tk t).push { cls := .type "zip", data := .fields #[.none, .bool false, .bool false, .ref (zB T h x tk t).objs.size, .ref (zC T h x tk t).objs.size] }
theorem meets_new (x : Str) (tk : Tok) (t : Addr) (items : Array Value) (ha : x.cps.all (· < 128) = true) :
    Meets (Builtin.«zip.__new__» ⟨[.type "zip", .str x tk, .ref t], []⟩) (fun _ R s => s.heap.IsTuple t items ∧ R (.ok (.ret (.ref (zD "tuple_iterator" s.heap x tk t).objs.size))) { s with heap := zE "tuple_iterator" s.heap x tk t }) :=
  .of_wp fun prog w A R s h => by
    obtain ⟨hp, g, d, tks, os⟩ := s
    obtain ⟨ht, h⟩ := h
    have hsub := sub_zip
    have hT : Heap.IsTuple (Shared.heap ⟨hp.push { cls := .type "str_ascii_iterator", data := .fields #[.str x tk, .int 0 0] }, g, d, tks, os⟩) t items := let ⟨o, e, r⟩ := ht; ⟨o, Heap.get?_push_of_some _ e, r⟩
    wp_walk using wpAny_pyIter_ascii (t := tk) ha, wpAny_pyIter_tuple hT
    exact ⟨_, rfl, h⟩
theorem meets_newL (x : Str) (tk : Tok) (t : Addr) (items : Array Value) (ha : x.cps.all (· < 128) = true) :
    Meets (Builtin.«zip.__new__» ⟨[.type "zip", .str x tk, .ref t], []⟩) (fun _ R s => s.heap.IsList t items ∧ R (.ok (.ret (.ref (zD "list_iterator" s.heap x tk t).objs.size))) { s with heap := zE "list_iterator" s.heap x tk t }) :=
  .of_wp fun prog w A R s h => by
    obtain ⟨hp, g, d, tks, os⟩ := s
    obtain ⟨ht, h⟩ := h
    have hsub := sub_zip
    have hT : Heap.IsList (Shared.heap ⟨hp.push { cls := .type "str_ascii_iterator", data := .fields #[.str x tk, .int 0 0] }, g, d, tks, os⟩) t items := let ⟨o, e, r⟩ := ht; ⟨o, Heap.get?_push_of_some _ e, r⟩
    wp_walk using wpAny_pyIter_ascii (t := tk) ha, wpAny_pyIter_list hT
    exact ⟨_, rfl, h⟩
section
variable {prog : Program} {w : World} {A : Around} {E : Value → Shared → Prop} {s : Shared}
theorem zipped (T : String) (hT : T = "tuple_iterator" ∨ T = "list_iterator") {x : Str} {tk : Tok} {t : Addr} {items : Array Value} {Q : Value → Shared → Prop} (ht : (T = "tuple_iterator" ∧ s.heap.IsTuple t items) ∨ (T = "list_iterator" ∧ s.heap.IsList t items))
    (h : ∀ h', ZSt h' (s.heap.objs.size + 4) (s.heap.objs.size + 2) (s.heap.objs.size + 3) s.heap.objs.size (s.heap.objs.size + 1) t x tk items 0 → h'.objs.size = s.heap.objs.size + 5 → (∀ c o, s.heap.get? c = some o → h'.get? c = some o) → Q (.ref (s.heap.objs.size + 4)) { s with heap := h' }) :
    ({ s with heap := zE T s.heap x tk t } : Shared).TypeIs (.ref (zD T s.heap x tk t).objs.size) "zip" ∧ Q (.ref (zD T s.heap x tk t).objs.size) { s with heap := zE T s.heap x tk t } := by
  have z1 : (zA s.heap x tk).objs.size = s.heap.objs.size + 1 := Heap.size_push ..
  have z2 : (zB T s.heap x tk t).objs.size = s.heap.objs.size + 2 := by rw [Heap.size_push, z1]
  have z3 : (zC T s.heap x tk t).objs.size = s.heap.objs.size + 3 := by rw [Heap.size_push, z2]
  have z4 : (zD T s.heap x tk t).objs.size = s.heap.objs.size + 4 := by rw [Heap.size_push, z3]
  have z5 : (zE T s.heap x tk t).objs.size = s.heap.objs.size + 5 := by rw [Heap.size_push, z4]
  have g5 : (zE T s.heap x tk t).get? (zD T s.heap x tk t).objs.size = some _ := Heap.get?_push_size _ rfl
  have g4 : (zE T s.heap x tk t).get? (zC T s.heap x tk t).objs.size = some _ := Heap.get?_push_of_some _ (Heap.get?_push_size _ rfl)
  have g3 : (zE T s.heap x tk t).get? (zB T s.heap x tk t).objs.size = some _ := Heap.get?_push_of_some _ (Heap.get?_push_of_some _ (Heap.get?_push_size _ rfl))
  have g2 : (zE T s.heap x tk t).get? (zA s.heap x tk).objs.size = some _ := Heap.get?_push_of_some _ (Heap.get?_push_of_some _ (Heap.get?_push_of_some _ (Heap.get?_push_size _ rfl)))
  have g1 : (zE T s.heap x tk t).get? s.heap.objs.size = some _ := Heap.get?_push_of_some _ (Heap.get?_push_of_some _ (Heap.get?_push_of_some _ (Heap.get?_push_of_some _ (Heap.get?_push_size _ rfl))))
  have up : ∀ c o, s.heap.get? c = some o → (zE T s.heap x tk t).get? c = some o := fun c o y => Heap.get?_push_of_some _ (Heap.get?_push_of_some _ (Heap.get?_push_of_some _ (Heap.get?_push_of_some _ (Heap.get?_push_of_some _ y))))
  rw [z2, z3, z4] at g5
  rw [z1, z2] at g3
  rw [z3] at g4
  rw [z1] at g2
  rw [z4]
  refine ⟨⟨_, g5, rfl⟩, h _ ⟨⟨_, _, g5, .inl rfl⟩, g3, ⟨_, _, g4⟩, ⟨_, .inl rfl, _, g1, rfl, rfl⟩, ?_⟩ z5 up⟩
  rcases ht with ⟨rfl, o, e, r⟩ | ⟨rfl, o, e, r⟩
  · exact .inl ⟨⟨_, g2, rfl, rfl⟩, o, up _ _ e, r⟩
  · exact .inr ⟨⟨_, g2, rfl, rfl⟩, o, up _ _ e, r⟩
theorem call_zip {x : Str} {tk : Tok} {t : Addr} {items : Array Value} {Q : Value → Shared → Prop} (ha : x.cps.all (· < 128) = true) (ht : s.heap.IsTuple t items ∨ s.heap.IsList t items)
    (h : ∀ h', ZSt h' (s.heap.objs.size + 4) (s.heap.objs.size + 2) (s.heap.objs.size + 3) s.heap.objs.size (s.heap.objs.size + 1) t x tk items 0 → h'.objs.size = s.heap.objs.size + 5 → (∀ c o, s.heap.get? c = some o → h'.get? c = some o) → Q (.ref (s.heap.objs.size + 4)) { s with heap := h' }) :
    wpAny (model prog w) A (call (.type "zip") [.str x tk, .ref t]) Q E s := by
  rcases ht with ht | ht
  · exact callType_new F.called_zip (by decide) (F.typeCall_zip_2 _ _) (F.newCall_zip_2 _ _) (fun obj => F.args_object_init_3 obj _ _) F.entry_zip_new (meets_new x tk t items ha) ⟨ht, zipped "tuple_iterator" (.inl rfl) (.inl ⟨rfl, ht⟩) h⟩
  · exact callType_new F.called_zip (by decide) (F.typeCall_zip_2 _ _) (F.newCall_zip_2 _ _) (fun obj => F.args_object_init_3 obj _ _) F.entry_zip_new (meets_newL x tk t items ha) ⟨ht, zipped "list_iterator" (.inr rfl) (.inr ⟨rfl, ht⟩) h⟩
theorem apart_new {n t : Nat} (h : t < n) : Apart (n + 4) (n + 2) (n + 3) n (n + 1) t := by
  constructor <;> (intro (e : (_ : Nat) = _); omega)

end
end ZD


namespace ZD
open PySem PySem.Spec PyProof.Rows
section
variable {prog : Program} {w : World} {A : Around} {E : Value → Shared → Prop} {s : Shared}
theorem dict_of_zip {K : Type} [DecidableEq K] {knd : KeyKind prog w K} {z TI TO i1 i2 t : Addr} {x : Str} {tk : Tok} {items : Array Value} {kk : Nat → K} {Q : Value → Shared → Prop} (hk : ∀ i c u, x.cps[i]? = some c → knd.is (kk i) (.str ⟨#[c]⟩ u) = true) (D : Apart z TI TO i1 i2 t) (hh : A.handled = none)
    (hsz : x.cps.size = items.size) (hle : x.cps.size ≤ 1000) (S : ZSt s.heap z TI TO i1 i2 t x tk items 0)
    (h : ∀ h' d tk', s.heap.objs.size ≤ d → h'.DictOf knd d (storeAll kk items x.cps.size 0 []) → (∀ b o, b ≠ z → b ≠ TO → b ≠ i1 → b ≠ i2 → s.heap.get? b = some o → h'.get? b = some o) → Q (.ref d) { s with heap := h', toks := tk' }) :
    wpAny (model prog w) A (call (.type "dict") [.ref z]) Q E s := by
  refine callType_codes (Q₁ := fun obj s₁ => obj = .ref s.heap.objs.size ∧ s₁ = { s with heap := s.heap.push { cls := .type "dict", data := .dict #[] } }) F.kt_called_dict (F.kt_typeCall_dict_1 _) F.entry_dict_init (kt_code_dict_new _ ⟨rfl, rfl⟩) ?_
  rintro obj s₁ ⟨rfl, rfl⟩
  have hnew : (s.heap.push { cls := .type "dict", data := .dict #[] }).DictOf knd s.heap.objs.size [] := Heap.DictOf.new s.heap
  have S1 := S.keep (h' := s.heap.push { cls := .type "dict", data := .dict #[] }) fun b o e => Heap.get?_push_of_some _ e
  refine ⟨hnew.typeIs, F.args_dict_init_2 _ _, ?_⟩
  unfold Builtin.«dict.__init__»
  refine wpAny_bind ?_
  unfold Builtin.Dict.selfAndRest
  refine wpAny_bind (wpAny_notOrdered_dict hnew.typeIs ?_)
  show wpAny _ _ (pure (s.heap.objs.size, [Value.ref z])) _ _ _
  refine wpAny_pure ?_
  show wpAny _ _ (Builtin.Dict.updateFrom "dict.__init__" s.heap.objs.size (.ref z) [] .none) _ _ _
  unfold Builtin.Dict.updateFrom
  obtain ⟨f0, f1, ez, _⟩ := S1.zip
  have hTz : (⟨s.heap.push { cls := .type "dict", data := .dict #[] }, s.gens, s.drawn, s.toks, s.os⟩ : Shared).TypeIs (.ref z) "zip" := ⟨_, ez, rfl⟩
  refine wpAny_bind (wpAny_typeOf hTz ?_)
  rw [if_pos (by decide)]
  refine wpAny_bind (no_attr_keys ez hh fun h1 tk1 k1 => ?_)
  simp only [Option.isNone_none, if_true]
  refine wpAny_bind (wpAny_rule ?_)
  have S2 := S1.keep k1
  obtain ⟨f0', f1', ez2, _⟩ := id S2.zip
  have hT2 : (⟨h1, s.gens, s.drawn, tk1, s.os⟩ : Shared).TypeIs (.ref z) "zip" := ⟨_, ez2, rfl⟩
  have lt : ∀ {b : Addr} {o : Obj}, s.heap.get? b = some o → s.heap.objs.size ≠ b := fun e => Nat.ne_of_gt (Heap.lt_size e)
  obtain ⟨⟨g0, g1, e0, _⟩, e1, ⟨pa, pb, e2⟩, s1, s2⟩ := id S
  refine wpAny_bind ?_
  refine wpAny_pyIter_slot hT2 F.slot_zip_iter (wpAny_call_entry F.slot_zip_iter hT2 F.entry_zip_iter ?_ (F.args_zip_iter_1 _))
  show wpAny _ _ (ret (.ref z)) _ _ _
  refine wpAny_pure ⟨_, rfl, "zip", _, hT2, F.slot_zip_next.lookup, ?_⟩
  refine wpAny_pure ⟨plainId_quiet plain_loop _, ?_⟩
  have hd1 : h1.DictOf knd s.heap.objs.size [] := let ⟨o, es, ep, ho, r⟩ := hnew; ⟨o, es, ep, k1 _ o ho, r⟩
  refine upd_loop (A := A.in1) hk D hh (lt e0) (lt e2) (Nat.ne_of_gt s1.lt) (Nat.ne_of_gt s2.lt) (lt e1) (Nat.ne_of_gt s2.ltT) hsz hle x.cps.size 0 0 ⟨h1, s.gens, s.drawn, tk1, s.os⟩ [] (by omega) S2 hd1 (Nat.zero_le _) fun h2 tk2 hd2 hk2 => ?_
  refine ⟨rfl, ?_⟩
  exact h h2 _ tk2 (Nat.le_refl _) hd2 fun b o b1 b2 b3 b4 e => hk2 b o b1 b2 b3 b4 (lt e).symm (k1 b o (Heap.get?_push_of_some _ e))
end
end ZD




namespace L2.L3
open PySem PySem.Spec PyProof.Rows
section
variable {X : Cx}


theorem strsAre_of {ys : List Str} : ∀ {us : List Value}, Vals (ys.map V.str) us → StrsAre us ys := by
  induction ys with
  | nil => intro us r; rw [List.map_nil] at r; cases r; exact .nil
  | cons y ys ih =>
    intro us r
    rw [List.map_cons] at r
    cases r with
    | cons r1 r2 =>
      obtain ⟨t, e⟩ := r1
      subst e
      exact .cons y t (ih r2)
noncomputable def rJoin : V → List V → Hp → VK → Prop := fun x vs H Q => ∃ (z : Str) (p : Addr) (ys : List Str), x = .str z ∧ vs = [.ref p] ∧ H p = some (.lst (ys.map V.str)) ∧ (ys.map (·.length)).sum + ys.length * z.length ≤ 16777216 ∧ Q (.str (Txt.join z ys)) H
theorem mt_join : MtM X "str.join" rJoin := by
  intro pins s σ H x vs v us Q I rx rv h
  obtain ⟨z, p, ys, rfl, rfl, hp, hok, q⟩ := h
  obtain ⟨t, rfl⟩ := rx
  obtain ⟨u, rfl, ru⟩ := rv.one
  cases (show u = Value.ref p from ru)
  obtain ⟨hz, its, n, r, hl, e⟩ := I.lstM hp
  have isl : s.heap.IsList p its.toArray := ⟨_, e, rfl, n, rfl⟩
  exact join_list isl (strsAre_of r) hok fun t' k => ⟨.str _, H, I.tok k, ⟨t', rfl⟩, q⟩
noncomputable def rJoinT (K : PySem.W.Frag) : V → List V → Hp → VK → Prop := fun x vs H Q => ∃ (z : Str) (p : Addr) (ys : List Str), x = .str z ∧ vs = [.ref p] ∧ SqT K H p (ys.map V.str) ∧ (ys.map (·.length)).sum + ys.length * z.length ≤ 16777216 ∧ Q (.str (Txt.join z ys)) H
theorem mt_joinT : MtM X "str.join" (rJoinT X.K) := by
  intro pins s σ H x vs v us Q I rx rv h
  obtain ⟨z, p, ys, rfl, rfl, hp, hok, q⟩ := h
  obtain ⟨t, rfl⟩ := rx
  obtain ⟨u, rfl, ru⟩ := rv.one
  cases (show u = Value.ref p from ru)
  obtain ⟨its, r, ht, hz⟩ := I.tuple hp
  exact join_tuple ht (strsAre_of r) hok fun t' k => ⟨.str _, H, I.tok k, ⟨t', rfl⟩, q⟩
noncomputable def rIndex : V → List V → Hp → VK → Prop := fun x vs H Q => ∃ (z y : Str) (i : Nat) (rest : List Nat), x = .str z ∧ vs = [.str y] ∧ Builtin.Str.occurrences z y 0 z.length 1 = i :: rest ∧ Q (.int i) H
theorem mt_index : MtM X "str.index" rIndex := by
  intro pins s σ H x vs v us Q I rx rv h
  obtain ⟨z, y, i, rest, rfl, rfl, ho, q⟩ := h
  obtain ⟨t, rfl⟩ := rx
  obtain ⟨u, rfl, ru⟩ := rv.one
  obtain ⟨t2, rfl⟩ := ru
  exact SC.index ho ⟨.int _, H, I.tok _, ⟨_, rfl⟩, q⟩


noncomputable def rSum : List V → Hp → VK → Prop := fun xs H Q => ∃ (p : Addr) (ns : List Int), xs = [.ref p] ∧ H p = some (.lst (ns.map V.int)) ∧ Q (.int ns.sum) H
theorem call_sum (hc : X.calm = true) : CallR X (.builtin "sum") rSum := by
  intro pins s σ H xs us Q I rv h
  obtain ⟨p, ns, rfl, hp, q⟩ := h
  obtain ⟨u, rfl, ru⟩ := rv.one
  cases (show u = Value.ref p from ru)
  obtain ⟨hz, its, n, r, hl, e⟩ := I.lstM hp
  have isl : s.heap.IsList p its.toArray := ⟨_, e, rfl, n, rfl⟩
  have hi := intsAre_of r
  have hn : numsOf its = ns := hi.numsOf
  obtain ⟨ys, ey⟩ := hi.allInts.items
  have en : numsOf its = numsOf (intItems ys).toList := by rw [← ey]
  rw [ey] at isl
  refine sum_intListG (I.ok.hd hc) isl fun h' tk t' hk => ⟨.int ns.sum, H, I.kept (t' := tk) hk, ⟨t', ?_⟩, q⟩
  rw [preSum_eq, List.take_of_length_le (by simp), ← hn, en, nums_intItems]


theorem stored_new {K : Type} [DecidableEq K] {kvs : List (K × Value)} {k : K} {v : Value} (h : ∀ p ∈ kvs, p.1 ≠ k) : stored kvs k v = kvs ++ [(k, v)] := by
  unfold stored
  rw [if_neg]
  intro z
  obtain ⟨p, hp, e⟩ := List.any_eq_true.mp z
  exact h p hp (of_decide_eq_true e)
theorem storeAll_range {K : Type} [DecidableEq K] {kk : Nat → K} {items : Array Value} : ∀ (n k : Nat), (∀ i j, i < k + n → j < k + n → kk i = kk j → i = j) →
    ZD.storeAll kk items n k ((List.range k).map fun i => (kk i, items[i]?.getD .none)) = (List.range (k + n)).map fun i => (kk i, items[i]?.getD .none)
  | 0, k, _ => rfl
  | n + 1, k, hi => by
    show ZD.storeAll kk items n (k + 1) (stored _ (kk k) (items[k]?.getD .none)) = _
    rw [stored_new]
    · have ih := storeAll_range (kk := kk) (items := items) n (k + 1) (fun i j a b => hi i j (by omega) (by omega))
      rw [List.range_succ, List.map_append] at ih
      rw [show k + (n + 1) = k + 1 + n by omega]
      exact ih
    · intro p hp
      obtain ⟨i, hm, rfl⟩ := List.mem_map.mp hp
      have hlt := List.mem_range.mp hm
      intro e
      have := hi i k (by omega) (by omega) e
      omega
theorem paired_map {α β γ : Type} {R : β → γ → Prop} {f : α → β} {g : α → γ} : ∀ (l : List α), (∀ a ∈ l, R (f a) (g a)) → Paired R (l.map f) (l.map g)
  | [], _ => .nil
  | a :: l, h => .cons (h a List.mem_cons_self) (paired_map l fun b hb => h b (List.mem_cons_of_mem _ hb))
noncomputable def zkey (x : Str) (i : Nat) : Key := .inr ⟨#[x.cps.getD i 0]⟩
noncomputable def zipKV (x : Str) (ws : List V) : List (Key × V) := (List.range x.cps.size).map fun i => (zkey x i, ws[i]?.getD .non)
noncomputable def tDZ (K : PySem.W.Frag) (ta : TA) : TE := fun σ H Q => ta σ H fun vs H1 => ∃ (x : Str) (t : Addr) (ws : List V), vs = [.str x, .ref t] ∧ (SqT K H1 t ws ∨ SqL K H1 t ws) ∧ x.cps.size = ws.length ∧ x.cps.size ≤ 1000 ∧ x.cps.all (· < 128) = true ∧ (∀ i j, i < x.cps.size → j < x.cps.size → zkey x i = zkey x j → i = j) ∧
  ∀ d, H1 d = none → Q (.ref d) (upd H1 d (.dK (zipKV x ws)))
theorem dz_run {pins : List (Addr × Obj)} {σ : St} {H : Hp} {s : Shared} {Q : VK} {x : Str} {tk : Tok} {t : Addr} {ws : List V} (hc : X.calm = true) (I : Inv X pins σ H s) (ht : SqT X.K H t ws ∨ SqL X.K H t ws) (hl : x.cps.size = ws.length) (hle : x.cps.size ≤ 1000) (ha : x.cps.all (· < 128) = true)
    (hinj : ∀ i j, i < x.cps.size → j < x.cps.size → zkey x i = zkey x j → i = j) (q : ∀ d, H d = none → Q (.ref d) (upd H d (.dK (zipKV x ws)))) :
    wpAny (model X.prog X.w) X.A (call (.type "zip") [.str x tk, .ref t]) (fun z s1 => wpAny (model X.prog X.w) X.A (call (.type "dict") [z]) (EP X pins σ Q) X.xe s1) X.xe s := by
  obtain ⟨its, r, it, hlt⟩ : ∃ its : List Value, Vals ws its ∧ (s.heap.IsTuple t its.toArray ∨ s.heap.IsList t its.toArray) ∧ t < s.heap.objs.size := by
    rcases ht with ht | ht
    · obtain ⟨its, r, it, hz⟩ := I.tuple ht
      exact ⟨its, r, .inl it, let ⟨o, e, _⟩ := it; Heap.lt_size e⟩
    · obtain ⟨its, r, it, hz⟩ := I.list ht
      exact ⟨its, r, .inr it.isList, let ⟨o, n, e, _⟩ := it; Heap.lt_size e⟩
  have hlen : ws.length = its.length := r.length
  refine ZD.call_zip ha it fun h1 S1 sz1 k1 => ?_
  refine ZD.dict_of_zip (s := { s with heap := h1 }) (knd := mixKind X.prog X.w) (kk := zkey x) (fun i c u hx => ?_) (ZD.apart_new hlt) (I.ok.hd hc) (by rw [hl, hlen, List.size_toArray]) hle S1 fun h2 d tk2 hd hdict k2 => ?_
  · show keyIs (.inr ⟨#[x.cps.getD i 0]⟩) (.str ⟨#[c]⟩ u) = true
    have e : x.cps.getD i 0 = c := by
      rw [Array.getD_eq_getD_getElem?, hx]
      rfl
    rw [e]
    exact keyIs_str _ _
  · have hd' : s.heap.objs.size ≤ d := by
      have : h1.objs.size ≤ d := hd
      omega
    have kept : ∀ b o, s.heap.get? b = some o → h2.get? b = some o := fun b o e => by
      have lb : b < s.heap.objs.size := Heap.lt_size e
      exact k2 b o (Nat.ne_of_lt (Nat.lt_add_right _ lb)) (Nat.ne_of_lt (Nat.lt_add_right _ lb)) (Nat.ne_of_lt lb) (Nat.ne_of_lt (Nat.lt_add_right _ lb)) (k1 b o e)
    have e0 := storeAll_range (kk := zkey x) (items := its.toArray) x.cps.size 0 (fun i j a b => hinj i j (by omega) (by omega))
    have e1 : ZD.storeAll (zkey x) its.toArray x.cps.size 0 [] = (List.range x.cps.size).map fun i => (zkey x i, its.toArray[i]?.getD .none) := by
      rw [show 0 + x.cps.size = x.cps.size by omega] at e0
      exact e0
    rw [e1] at hdict
    have hrel : KV (zipKV x ws) ((List.range x.cps.size).map fun i => (zkey x i, its.toArray[i]?.getD .none)) := by
      refine paired_map _ fun i hi => ⟨rfl, ?_⟩
      have hi' := List.mem_range.mp hi
      have hw : ws[i]? = some (ws[i]'(by omega)) := List.getElem?_eq_getElem (by omega)
      obtain ⟨u, hu, ru⟩ := r.get hw
      have hu' : its.toArray[i]? = some u := by simpa using hu
      show RelV (ws[i]?.getD .non) (its.toArray[i]?.getD .none)
      rw [hw, hu']
      exact ru
    refine ⟨.ref d, upd H d (.dK (zipKV x ws)), ?_, rfl, q d (I.hok.fresh hd')⟩
    refine I.laid (t' := tk2) kept hd' ⟨?_, beq_eq_false_iff_ne.mpr (Ne.symm (Nat.ne_of_lt (Nat.lt_of_lt_of_le (big_dict I) hd'))), _, hrel, hdict⟩
    show (zipKV x ws).length ≤ sizeLine
    unfold zipKV
    rw [List.length_map, List.length_range]
    exact Nat.le_of_lt (small1000 hle)
theorem pe_dictzip {a b : Expr} {ta : TA} {p1 p2 pos1 pos2 : Pos} (hc : X.calm = true) (hgd : Gl X "dict") (hmd : X.mg "dict" = none) (hgz : Gl X "zip") (hmz : X.mg "zip" = none) (ha : PA X [a, b] ta)
    (hs : starEach [a, b] X.env = (false, eval a X.env) :: starEach [b] X.env := by rfl) (hpl : (backTo pos2 (starEach [b] X.env)).any (·.1) = false := by rfl)
    (hs1 : starEach [.Call (.Name "zip" p2) [a, b] [] pos2] X.env = (false, eval (.Call (.Name "zip" p2) [a, b] [] pos2) X.env) :: starEach [] X.env := by rfl) (hpl1 : (backTo pos1 (starEach [] X.env)).any (·.1) = false := by rfl) :
    PE X (.Call (.Name "dict" p1) [.Call (.Name "zip" p2) [a, b] [] pos2] [] pos1) (tDZ X.K ta) := by
  intro pins s σ H Q I h
  refine wpAny_Call_Name_kw (ld_blt I hgd hmd PyProof.Rows.Boot.dict ?_ (by decide) (by decide))
  refine PyProof.Rows.callWith_type1 ?_ hs1 hpl1
  rw [hs1]
  show wpAny _ _ (spliced ((false, eval (.Call (.Name "zip" p2) [a, b] [] pos2) X.env) :: backTo pos1 (starEach [] X.env))) _ _ s
  refine Calls.spliced_cons ?_
  refine thn (Q := fun z s1 => wpAny (model X.prog X.w) X.A (call (.type "dict") [z]) (EP X pins σ Q) X.xe s1) ?_ fun z s1 hz => Calls.spliced_nil hz
  refine wpAny_Call_Name_kw (ld_blt I hgz hmz PyProof.Rows.Boot.zip ?_ (by decide) (by decide))
  refine PyProof.Rows.callWith_type1 (thn (ha pos2 pins s σ H _ I h) fun us s1 ⟨vs, H1, I1, r1, q1⟩ => ?_) hs hpl
  obtain ⟨x, t, ws, rfl, ht, hl, hle, hasc, hinj, q⟩ := q1
  obtain ⟨u, v, rfl, ru, rv⟩ := r1.two
  obtain ⟨tk, rfl⟩ := ru
  cases (show v = Value.ref t from rv)
  exact dz_run hc I1 ht hl hle hasc hinj q

theorem val_range {n : Nat} {key : Nat → Key} {f : Nat → V} {j : Nat} (hinj : ∀ i j, i < n → j < n → key i = key j → i = j) (hj : j < n) : valV ((List.range n).map fun i => (key i, f i)) (key j) = some (f j) := by
  unfold valV
  rw [List.find?_map]
  have e : (List.range n).find? ((fun kv : Key × V => decide (kv.1 = key j)) ∘ fun i => (key i, f i)) = some j := by
    cases q : (List.range n).find? ((fun kv : Key × V => decide (kv.1 = key j)) ∘ fun i => (key i, f i)) with
    | none =>
      have z := List.find?_eq_none.mp q j (List.mem_range.mpr hj)
      simp at z
    | some i =>
      have z1 := List.mem_range.mp (List.mem_of_find?_eq_some q)
      have z2 := List.find?_some q
      have z3 : key i = key j := of_decide_eq_true z2
      rw [hinj i j z1 hj z3]
  rw [e]
  rfl
end
end L2.L3




namespace L2.L3
open PySem PySem.Spec PyProof.Rows
section
variable {X : Cx} {pins : List (Addr × Obj)} {σ : St} {H : Hp} {s : Shared}

theorem Inv.but {C : Addr} {h' : Heap} (I : Inv X pins σ H s) (hs : Heap.SameBut C s.heap h') (hC : X.s₀.heap.objs.size ≤ C) (hL : X.env.locals ≠ C) (hcl : ∀ x c, X.env.cells.lookup x = some c → c ≠ C) (hp : ∀ p ∈ X.pn ++ pins, p.1 ≠ C) (hn : H C = none) :
    Inv X pins σ H { s with heap := h' } := by
  have kp : ∀ b o, b ≠ C → s.heap.get? b = some o → h'.get? b = some o := fun b o hb e => (hs.2 b hb).trans e
  obtain ⟨m, hm, hl⟩ := I.loc
  have cells : ∀ c v, c ≠ C → s.heap.IsCell c v → h'.IsCell c v := fun c v hc ⟨o, e, d⟩ => ⟨o, kp _ _ hc e, d⟩
  refine ⟨I.ok, I.os, I.bare, Un.but I.base hs hC, ⟨m, hm.sameBut hs hL, fun i x v e1 e2 e3 => ?_⟩, fun x c e => ?_, I.free, I.freeC, fun p hpp => ⟨kp _ _ (hp p hpp) (I.pin p hpp).1, (I.pin p hpp).2⟩, HOk.but I.hok hs hn, I.len⟩
  · obtain ⟨u, r, l⟩ := hl i x v e1 e2 e3
    refine ⟨u, r, ?_⟩
    rcases l with l | ⟨hk, c, hc, hcell⟩
    · exact .inl l
    · exact .inr ⟨hk, c, hc, cells c _ (hcl x c hc) hcell⟩
  · obtain ⟨v, hv⟩ := I.cell x c e
    exact ⟨v, cells c v (hcl x c e) hv⟩

theorem compLoop_ifs {prog : Program} {w : World} {A : Around} {R : Result → Shared → Prop} {s : Shared} {elt target iter : Expr} {ifs : List Expr} {scope : Scope} {pos : Pos} {it acc : Value} {env : Env} (Iv : Nat → Shared → Prop)
    (turn : ∀ n s, Iv n s → wpAny (model prog w) A (pyNext it) (fun r s1 => match r with
      | none => R (.ok .next) s1
      | some v => wpAny (model prog w) A (letOwnedTupleGo target it v) (fun _ s1' => wpAny (model prog w) A (assign target env v) (fun _ s2 =>
          wpAny (model prog w) A (forIn ifs true fun c r => if r = true then do let ok ← isTrue c env (eval c env); pure (ForInStep.yield ok) else pure (ForInStep.yield r)) (fun ok s3 =>
            if ok = true then wpAny (model prog w) A (eval elt env) (fun x s4 => wpAny (model prog w) A (call (.builtin "list.append") [acc, x]) (fun _ s5 => ∃ m, m < n ∧ Iv m s5) (notedBy (model prog w) A env fun e s' => R (.error e) s') s4) (notedBy (model prog w) A env fun e s' => R (.error e) s') s3
            else ∃ m, m < n ∧ Iv m s3) (notedBy (model prog w) A env fun e s' => R (.error e) s') s2)
          (notedBy (model prog w) A env fun e s' => R (.error e) s') s1') (notedBy (model prog w) A env fun e s' => R (.error e) s') s1) (notedBy (model prog w) A env fun e s' => R (.error e) s') s)
    (n : Nat) (h : Iv n s) : codeAny (model prog w) A (.compLoop (.ListComp elt [⟨target, iter, ifs, 0⟩] scope pos) 0 it acc env) R s := by
  refine codeAny_loop rfl Iv (fun n s hI => ?_) n h
  show wpAny _ _ ((compTurn (.ListComp elt [⟨target, iter, ifs, 0⟩] scope pos) 0 it acc env).onRaise (fun x => do noteFrame x env; theTreesLotGoes x)) _ _ s
  refine wpAny_noted ?_
  rw [compTurn_list]
  refine wpAny_bind (wpAny_standAt (wpAny_bind (wpAny_mono (turn n s hI) (fun r s1 h1 => ?_) fun _ _ h' => h')))
  cases r with
  | none => exact wpAny_pure h1
  | some v =>
    refine wpAny_bind (wpAny_mono h1 (fun _ s1' h1' => wpAny_bind (wpAny_mono h1' (fun _ s2 h2 => wpAny_bind (wpAny_mono h2 (fun ok s3 h3 => ?_) fun _ _ h' => h')) fun _ _ h' => h')) fun _ _ h' => h')
    cases ok with
    | true =>
      rw [if_pos rfl] at h3 ⊢
      exact wpAny_bind (wpAny_bind (wpAny_mono h3 (fun x s4 h4 => wpAny_bind (wpAny_mono h4 (fun _ s5 h5 => wpAny_pure (wpAny_pure ⟨rfl, h5⟩)) fun _ _ h' => h')) fun _ _ h' => h'))
    | false =>
      rw [if_neg Bool.false_ne_true] at h3 ⊢
      first
        | exact wpAny_pure ⟨rfl, h3⟩
        | exact wpAny_bind (wpAny_pure (wpAny_pure ⟨rfl, h3⟩))


inductive Tests (X : Cx) : List Expr → TT → Prop
  | nil : Tests X [] (fun _ H Q => Q true H)
  | one {c : Expr} {t : TT} (h : PT X c t) : Tests X [c] t
theorem Tests.run {ifs : List Expr} {t : TT} (T : Tests X ifs t) {QB : Bool → Hp → Prop} (I : Inv X pins σ H s) (h : t σ H QB) :
    wpAny (model X.prog X.w) X.A (forIn ifs true fun c r => if r = true then do let ok ← isTrue c X.env (eval c X.env); pure (ForInStep.yield ok) else pure (ForInStep.yield r)) (TP X pins σ QB) X.xe s := by
  cases T with
  | nil => exact wpAny_tests_nil ⟨H, I, h⟩
  | one hc => exact wpAny_tests_one (hc pins s σ H QB I h)

noncomputable def CompBodyI (J : It) (g : TG) (tc : TT) (te : TE) (n : Nat) (is : List Nat) (σ : St) (D : Addr) (H1 : Hp) (Q : VK) : Prop := ∃ W : Nat → Nat → St → Hp → Prop, (∃ m, W 0 m (capS n is σ) (upd H1 D (.lst []))) ∧
  ∀ i m σ' H, W i m σ' H → (J.stop i H ∧ Q (.ref D) H) ∨ (J.go i H ∧ ∀ x H', J.yld i H x H' → g x σ' H' fun σ2 H2 => tc σ2 H2 fun b H3 =>
    (b = true → te σ2 H3 fun y H4 => ∃ xs, H4 D = some (.lst xs) ∧ xs.length < sizeLine ∧ ∃ m', m' < m ∧ W (i + 1) m' σ2 (upd H4 D (.lst (xs ++ [y])))) ∧ (b = false → ∃ m', m' < m ∧ W (i + 1) m' σ2 H3))
noncomputable def tCompI (wi : TI) (g : TG) (tc : TT) (te : TE) (n : Nat) (is : List Nat) : TE := fun σ H Q => wi σ H fun J H1 => ∀ D, H1 D = none → CompBodyI J g tc te n is σ D H1 Q

theorem comp_core {elt target iter : Expr} {ifs : List Expr} {sc : Scope} {pos pos2 : Pos} {own caps : List Str} {is : List Nat} {wi : TI} {g : TG} {tc : TT} {te : TE} {Q : VK} {QQ : Value → Shared → Prop} (use : Option (Value → Sem Unit)) (hc : X.calm = true) (hi : PI X target iter wi)
    (hg : ∀ C s₀ H₀ ex, PG (blk X (own ++ caps) sc C s₀ H₀ ex) target g) (ht : ∀ C s₀ H₀ ex, Tests (blk X (own ++ caps) sc C s₀ H₀ ex) ifs tc) (he : ∀ C s₀ H₀ ex, PE (blk X (own ++ caps) sc C s₀ H₀ ex) elt te) (hcap : Cap X sc caps is)
    (hkind : sc.kind = .function) (hown : ∀ y ∈ sc.names, y.2 = .cell → sc.names.lookup y.1 = some .cell) (hfr : (sc.names.all fun y => y.2 != .free || X.env.kindOf y.1 == some .cell) = true)
    (hclos : closureFor sc X.env = pure (clOf sc.names X.env)) (hnames : ∀ y ∈ sc.names, y.2 = .local → sc.names.lookup y.1 = some .local)
    (hs : ∀ x, foldedSetIterable iter X.env x = pure x) (I : Inv X pins σ H s) (h : tCompI wi g tc te own.length is σ H Q)
    (fin : ∀ (D C : Addr) (H' : Hp) (s' : Shared) (m : Str → Option Value), Inv X pins σ H' s' → s'.heap.Ns C m → H' C = none → X.s₀.heap.objs.size ≤ C → X.env.locals ≠ C → (∀ x c, X.env.cells.lookup x = some c → c ≠ C) → (∀ p ∈ X.pn ++ pins, p.1 ≠ C) → Q (.ref D) H' →
      compPost (model X.prog X.w) X.A X.xe use QQ (.ref D) C (.ok .next) s') :
    wpAny (model X.prog X.w) X.A (comprehension (.ListComp elt [⟨target, iter, ifs, 0⟩] sc pos) sc X.env pos2 (newList []) false (eval iter X.env) use) QQ X.xe s := by
  refine wpAny_comprehension_free (use := use) rfl hs hclos hkind hnames ?_
  refine thn (hi pins s σ H _ I h) fun v s1 h1 => thn h1 fun itv s2 h2 => ?_
  obtain ⟨it, fp, tn, J, H2, e, I2, T, st2, f2, q2⟩ := h2
  subst e
  have ob2 : ∀ b ∈ fp, ∃ o, s2.heap.get? b = some o := fun b hb => let ⟨o, e, _⟩ := T.obj _ _ st2 b hb; ⟨o, e⟩
  refine wpAny_newObj_type (wpAny_blkEnv ?_)
  have hns₁ : (pushCells ((s2.heap.push { cls := .type "list", data := .seq ([] : List Value).toArray }).push { cls := .type "dict", data := .dict #[] }) sc.names).Ns (s2.heap.push { cls := .type "list", data := .seq ([] : List Value).toArray }).objs.size (fun _ => none) := (Heap.Ns.new _ (.type "dict")).keeps (pushCells_keeps _ _)
  have oc₁ := own_ok (s2.heap.push { cls := .type "list", data := .seq ([] : List Value).toArray }) { cls := .type "dict", data := .dict #[] } sc
  have hk₁ : ∀ b o, (s2.heap.push { cls := .type "list", data := .seq ([] : List Value).toArray }).get? b = some o → (pushCells ((s2.heap.push { cls := .type "list", data := .seq ([] : List Value).toArray }).push { cls := .type "dict", data := .dict #[] }) sc.names).get? b = some o := fun b o e => pushCells_keeps _ _ b o (Heap.get?_push_of_some _ e)
  generalize hh₁ : pushCells ((s2.heap.push { cls := .type "list", data := .seq ([] : List Value).toArray }).push { cls := .type "dict", data := .dict #[] }) sc.names = h₁ at hns₁ oc₁ hk₁
  have I3 := I2.lnew (its := []) (ys := []) (t' := s2.toks) .nil (Nat.zero_le _)
  have hD : H2 s2.heap.objs.size = none := I2.hok.fresh (Nat.le_refl _)
  obtain ⟨W, ⟨m0, w0⟩, turn⟩ := q2 s2.heap.objs.size hD
  have f3 : ∀ b ∈ fp, FpOk X pins (upd H2 s2.heap.objs.size (.lst [])) b := fun b hb => by
    obtain ⟨o, e⟩ := ob2 b hb
    exact ⟨by rw [upd_ne (Nat.ne_of_lt (Heap.lt_size e))]; exact (f2 b hb).1, (f2 b hb).2⟩
  have hk3 := hk₁
  have ob3 : ∀ b ∈ fp, ∃ o, (s2.heap.push { cls := .type "list", data := .seq ([] : List Value).toArray }).get? b = some o := fun b hb => by
    obtain ⟨o, e⟩ := ob2 b hb
    exact ⟨o, Heap.get?_push_of_some _ e⟩
  have I4 := blk_start (own := own) I3 hkind hown hfr hcap f3 ob3 (tk := s2.toks) hns₁ hk3 oc₁
  have st4 : tn 0 h₁ := T.keep 0 s2.heap h₁ st2 fun b hb o e => hk3 b o (Heap.get?_push_of_some _ e)
  have stat : ∀ {H' : Hp}, (∀ b ∈ fp, H' b = none) → ∀ b ∈ fp, FpOk (blk X (own ++ caps) sc (s2.heap.push { cls := .type "list", data := .seq ([] : List Value).toArray }).objs.size { s2 with heap := s2.heap.push { cls := .type "list", data := .seq ([] : List Value).toArray } } (upd H2 s2.heap.objs.size (.lst [])) fp) [] H' b := fun {H'} hn b hb => by
    obtain ⟨o, e⟩ := ob3 b hb
    refine ⟨hn b hb, Nat.ne_of_lt (Heap.lt_size e), I4.ok.exfs b hb, .inl hb, (I4.ok.exf b hb).2, fun p hp => absurd (show p ∈ ([] : List (Addr × Obj)) from hp) (by simp)⟩
  have loop : ∀ s4 : Shared, s4 = { s2 with heap := h₁ } →
      codeAny (model X.prog X.w) X.A (.compLoop (.ListComp elt [⟨target, iter, ifs, 0⟩] sc pos) 0 (.ref it) (.ref s2.heap.objs.size) (compEnvC sc (blkCl sc (s2.heap.push { cls := .type "list", data := .seq ([] : List Value).toArray }).objs.size X.env) (s2.heap.push { cls := .type "list", data := .seq ([] : List Value).toArray }).objs.size X.env))
        (compPost (model X.prog X.w) X.A X.xe use QQ (.ref s2.heap.objs.size) (s2.heap.push { cls := .type "list", data := .seq ([] : List Value).toArray }).objs.size) s4 := by
    rintro s4 rfl
    refine compLoop_ifs (fun n s' => ∃ i σ' H', Inv (blk X (own ++ caps) sc (s2.heap.push { cls := .type "list", data := .seq ([] : List Value).toArray }).objs.size { s2 with heap := s2.heap.push { cls := .type "list", data := .seq ([] : List Value).toArray } } (upd H2 s2.heap.objs.size (.lst [])) fp) [] σ' H' s' ∧ tn i s'.heap ∧ (∀ b ∈ fp, H' b = none) ∧ W i n σ' H') ?_ m0
      ⟨0, _, _, I4, st4, fun b hb => (f3 b hb).1, w0⟩
    rintro n s5 ⟨i, σ5, H5, I5, st5, fr5, w5⟩
    rcases turn i n σ5 H5 w5 with ⟨stop, qn⟩ | ⟨go, step⟩
    · refine wpAny_mono (T.done (blk X (own ++ caps) sc _ _ _ fp) rfl rfl rfl hc i [] s5 σ5 H5 (fun _ _ => False) I5 (stat fr5) st5 stop) (fun r s6 ⟨hr, I6⟩ => ?_) fun _ _ z => z.elim
      subst hr
      obtain ⟨m, hn, _⟩ := I6.loc
      have IX : Inv X pins σ H5 s6 := I3.call' (s' := s6) I6.os I6.base I6.hok I6.bare (ch := fp) fun b hb => by
        obtain ⟨_, n1, _, n3, n4, n5⟩ := f3 b hb
        exact ⟨n3, n1, n4, n5⟩
      have lt3 : ∀ {b : Addr} {o : Obj}, (s2.heap.push { cls := .type "list", data := .seq ([] : List Value).toArray }).get? b = some o → b ≠ (s2.heap.push { cls := .type "list", data := .seq ([] : List Value).toArray }).objs.size := fun e => Nat.ne_of_lt (Heap.lt_size e)
      refine fin _ _ H5 s6 m IX hn I6.free I3.sz (Nat.ne_of_lt I3.lt) (fun x c e => ?_) (fun p hp => lt3 (I3.pin p hp).1) qn
      obtain ⟨v, o, e', _⟩ := I3.cell x c e
      exact lt3 e'
    · refine wpAny_mono (T.item (blk X (own ++ caps) sc _ _ _ fp) rfl rfl rfl hc i [] s5 σ5 H5 (fun _ _ => False) I5 (stat fr5) st5 go) (fun r s6 ⟨u, hr, h6⟩ => ?_) fun _ _ z => z.elim
      subst hr
      refine wpAny_mono h6 (fun _ s7 ⟨x, H7, I7, r7, y7, st7, fr7⟩ => ?_) fun _ _ z => z.elim
      have I7' := I7.pinned (stat fr7) (T.obj _ _ st7)
      refine wpAny_mono (hg _ _ _ _ _ s7 σ5 H7 x u _ I7' r7 (step x H7 y7)) (fun _ s8 ⟨σ8, H8, I8, q8⟩ => ?_) fun _ _ z => z.elim
      refine wpAny_mono ((ht _ _ _ _).run I8 q8) (fun b s8' ⟨H8', I8', q8'⟩ => ?_) fun _ _ z => z.elim
      have back : ∀ {σ9 : St} {H9 : Hp} {s9 : Shared}, Inv (blk X (own ++ caps) sc (s2.heap.push { cls := .type "list", data := .seq ([] : List Value).toArray }).objs.size { s2 with heap := s2.heap.push { cls := .type "list", data := .seq ([] : List Value).toArray } } (upd H2 s2.heap.objs.size (.lst [])) fp) ([] ++ pinsAt fp s7.heap) σ9 H9 s9 → tn (i + 1) s9.heap ∧ ∀ b ∈ fp, H9 b = none := fun {σ9 H9 s9} I9 =>
        ⟨T.keep _ _ _ st7 fun b hb o e => (I9.pin (b, o) (List.mem_append_right _ (List.mem_append_right _ (mem_pinsAt hb e)))).1, fun b hb => by
          obtain ⟨o, e, d⟩ := T.obj _ _ st7 b hb
          exact (I9.pin (b, o) (List.mem_append_right _ (List.mem_append_right _ (mem_pinsAt hb e)))).2.1⟩
      cases b with
      | false =>
        rw [if_neg Bool.false_ne_true]
        obtain ⟨m', hm, w9⟩ := q8'.2 rfl
        exact ⟨m', hm, i + 1, σ8, _, I8'.unpinned, (back I8').1, (back I8').2, w9⟩
      | true =>
        rw [if_pos rfl]
        refine wpAny_mono (he _ _ _ _ _ s8' σ8 H8' _ I8' (q8'.1 rfl)) (fun yv s9 ⟨y, H9, I9, r9, xs, hx, hz, m', hm, w9⟩ => ?_) fun _ _ z => z.elim
        refine wpAny_mono (mt_append (X := blk X (own ++ caps) sc _ _ _ fp) _ s9 σ8 H9 (.ref s2.heap.objs.size) [y] (.ref s2.heap.objs.size) [yv] (fun v Hn => v = .non ∧ Hn = upd H9 s2.heap.objs.size (.lst (xs ++ [y]))) I9 rfl (.cons r9 .nil) ⟨_, xs, y, rfl, rfl, hx, hz, rfl, rfl⟩)
          (fun v s10 ⟨v10, H10, I10, r10, q10⟩ => ?_) fun _ _ z => z.elim
        obtain ⟨_, rfl⟩ := q10
        exact ⟨m', hm, i + 1, σ8, _, I10.unpinned, (back I10).1, (back I10).2, w9⟩
  exact codeAny_compStart_list (loop _ rfl) (T.self _ 0 _ _ _ st4 (loop _ rfl))
end
end L2.L3




namespace L2.Na
open PySem PySem.Spec PyProof.Rows L2 L2.L3
structure ZApart (z TI TO i1 i2 : Addr) : Prop where
  TIz : TI ≠ z
  TOz : TO ≠ z
  i1z : i1 ≠ z
  i2z : i2 ≠ z
  TITO : TI ≠ TO
  TIi1 : TI ≠ i1
  TIi2 : TI ≠ i2
  TOi1 : TO ≠ i1
  TOi2 : TO ≠ i2
  i12 : i1 ≠ i2
theorem cls_ne {h : Heap} {a b : Addr} {o u : Obj} {m n : String} (e1 : h.get? a = some o) (e2 : h.get? b = some u) (c1 : o.cls = .type m) (c2 : u.cls = .type n) (hn : m ≠ n) : a ≠ b := fun z => by
  subst z
  rw [e1] at e2
  cases e2
  rw [c1] at c2
  exact hn (by simpa using c2)
noncomputable def ZTn (z TI TO i1 i2 a b : Addr) (i : Nat) (h : Heap) : Prop := IsZip h z TI TO .none ∧ IsPair h TI (.ref i1) (.ref i2) ∧ (∃ u v, IsPair h TO u v) ∧ h.IsListIter i1 a i ∧ h.IsListIter i2 b i
theorem ZTn.apart {z TI TO i1 i2 a b : Addr} {i : Nat} {h : Heap} {xs ys : Array Value} (Z : ZApart z TI TO i1 i2) (t : ZTn z TI TO i1 i2 a b i h) (h1 : h.IsList a xs) (h2 : h.IsList b ys) : ZipApart z TI TO i1 i2 a b := by
  obtain ⟨hz, _, ⟨u, v, hTO⟩, ⟨o1, e1, c1, _⟩, ⟨o2, e2, c2, _⟩⟩ := t
  obtain ⟨oa, ea, ca, _⟩ := h1
  obtain ⟨ob, eb, cb, _⟩ := h2
  exact ⟨Z.TIz, Z.TOz, Z.i1z, Z.i2z, Z.TITO, Z.TIi1, Z.TIi2, Z.TOi1, Z.TOi2, Z.i12,
    cls_ne ea hz ca rfl (by decide), cls_ne ea hTO ca rfl (by decide), cls_ne ea e1 ca c1 (by decide), cls_ne ea e2 ca c2 (by decide),
    cls_ne eb hz cb rfl (by decide), cls_ne eb hTO cb rfl (by decide), cls_ne eb e1 cb c1 (by decide), cls_ne eb e2 cb c2 (by decide)⟩
end L2.Na




namespace L2.L3
open PySem PySem.Spec PyProof.Rows L2 PySem.SeqAt

noncomputable def Eqv : Nat → Hp → V → V → Prop
  | 0, _, x, y => (∃ i, x = .int i ∧ y = .int i) ∨ (∃ z, x = .str z ∧ y = .str z) ∨ (x = .non ∧ y = .non)
  | n + 1, H, x, y => Eqv n H x y ∨ ∃ p q xs ys, x = .ref p ∧ y = .ref q ∧ ((H p = some (.lst xs) ∧ H q = some (.lst ys)) ∨ (H p = some (.tup xs) ∧ H q = some (.tup ys))) ∧ xs.length = ys.length ∧ ∀ (i : Nat) (x y : V), xs[i]? = some x → ys[i]? = some y → Eqv n H x y
theorem Eqv.same {H H' : Hp} (e : Same H H') : ∀ {n : Nat} {x y : V}, Eqv n H x y → Eqv n H' x y
  | 0, _, _, h => h
  | n + 1, _, _, .inl h => .inl (Eqv.same e h)
  | n + 1, _, _, .inr ⟨p, q, xs, ys, h1, h2, h3, h4, h5⟩ => .inr ⟨p, q, xs, ys, h1, h2, by
      rcases h3 with ⟨a, b⟩ | ⟨a, b⟩
      · exact .inl ⟨e _ _ a, e _ _ b⟩
      · exact .inr ⟨e _ _ a, e _ _ b⟩, h4, fun i x y a b => Eqv.same e (h5 i x y a b)⟩
theorem Eqv.up {H : Hp} {n : Nat} {x y : V} (h : Eqv n H x y) : Eqv (n + 1) H x y := .inl h
section
variable {X : Cx} {pins : List (Addr × Obj)} {σ : St} {H : Hp} {s : Shared}
theorem all_true (n : Nat) : (List.range n).all (fun _ => true) = true := List.all_eq_true.mpr fun _ _ => rfl
theorem vals_at {xs : List V} {us : List Value} (r : Vals xs us) {j : Nat} (h : j < us.toArray.size) : ∃ x, xs[j]? = some x ∧ RelV x us.toArray[j] := by
  have hj : j < us.length := by simpa using h
  have hx : j < xs.length := by rw [r.length]; exact hj
  obtain ⟨u, h1, h2⟩ := r.get (List.getElem?_eq_getElem hx)
  have e : us.toArray[j] = u := by
    rw [List.getElem?_eq_getElem hj] at h1
    simpa using Option.some.inj h1
  exact ⟨xs[j], List.getElem?_eq_getElem hx, by rw [e]; exact h2⟩
theorem eqv_items {A : Around} {n : Nat} {xs ys : List V} {us vs : List Value} (r1 : Vals xs us) (r2 : Vals ys vs) (hi : ∀ (i : Nat) (x y : V), xs[i]? = some x → ys[i]? = some y → Eqv n H x y)
    (ih : ∀ (x y : V) (u v : Value), Eqv n H x y → RelV x u → RelV y v → EqAt A s u v true) : ∀ j (h1 : j < us.toArray.size) (h2 : j < vs.toArray.size), EqAt A s us.toArray[j] vs.toArray[j] ((fun _ => true) j) := fun j h1 h2 => by
  obtain ⟨x, e1, q1⟩ := vals_at r1 h1
  obtain ⟨y, e2, q2⟩ := vals_at r2 h2
  exact ih x y _ _ (hi j x y e1 e2) q1 q2
theorem eqv_at (I : Inv X pins σ H s) : ∀ (n : Nat) (A : Around) (x y : V) (u v : Value), A.units + n < cLine → Eqv n H x y → RelV x u → RelV y v → EqAt A s u v true
  | 0, A, x, y, u, v, hu, h, r1, r2 => by
    rcases h with ⟨i, rfl, rfl⟩ | ⟨z, rfl, rfl⟩ | ⟨rfl, rfl⟩
    · obtain ⟨t, rfl⟩ := r1
      obtain ⟨t2, rfl⟩ := r2
      have e := EqAt.int_int (A := A) (s := s) i t i t2
      rwa [beq_self_eq_true] at e
    · obtain ⟨t, rfl⟩ := r1
      obtain ⟨t2, rfl⟩ := r2
      have e := EqAt.str_str (A := A) (s := s) z t z t2
      rwa [beq_self_eq_true] at e
    · cases r1
      cases r2
      exact EqAt.same _
  | n + 1, A, x, y, u, v, hu, .inl h, r1, r2 => eqv_at I n A x y u v (by omega) h r1 r2
  | n + 1, A, x, y, u, v, hu, .inr ⟨p, q, xs, ys, e1, e2, hh, hl, hi⟩, r1, r2 => by
    subst e1 e2
    cases r1
    cases r2
    by_cases e : p = q
    · subst e; exact EqAt.same _
    refine EqAt.of_refs e ?_
    have hu1 : A.in1.units + n < cLine := by show A.units + 1 + n < cLine; omega
    rcases hh with ⟨h1, h2⟩ | ⟨h1, h2⟩
    · obtain ⟨_, its, n1, k1, l1, g1⟩ := I.lstM h1
      obtain ⟨_, its2, n2, k2, l2, g2⟩ := I.lstM h2
      have z := RcAt.lists (A := A) (e := fun _ => true) (⟨_, g1, rfl, n1, rfl⟩ : s.heap.IsList p its.toArray) (⟨_, g2, rfl, n2, rfl⟩ : s.heap.IsList q its2.toArray) (by rw [List.size_toArray, List.size_toArray]; omega) (by omega)
        (eqv_items k1 k2 hi fun x y u v => eqv_at I n A.in1 x y u v hu1)
      rwa [all_true] at z
    · obtain ⟨its, k1, p1, _⟩ := I.tuple (SqT.of h1)
      obtain ⟨its2, k2, p2, _⟩ := I.tuple (SqT.of h2)
      have z := RcAt.tuples (A := A) (e := fun _ => true) (show s.heap.IsTuple p its.toArray from p1) (show s.heap.IsTuple q its2.toArray from p2) (by omega)
        (eqv_items k1 k2 hi fun x y u v => eqv_at I n A.in1 x y u v hu1)
      have e3 : its.toArray.size = its2.toArray.size := by rw [List.size_toArray, List.size_toArray, ← k1.length, ← k2.length]; exact hl
      rwa [all_true, e3, beq_self_eq_true, Bool.true_and] at z

noncomputable def EqvR (n : Nat) (H : Hp) (p q : Addr) : Prop := ∃ xs ys, ((H p = some (.lst xs) ∧ H q = some (.lst ys)) ∨ (H p = some (.tup xs) ∧ H q = some (.tup ys))) ∧ xs.length = ys.length ∧ ∀ (i : Nat) (x y : V), xs[i]? = some x → ys[i]? = some y → Eqv n H x y
noncomputable def rEqA : R2 := fun x y H Q => ∃ p q n, x = .ref p ∧ y = .ref q ∧ n ≤ 40 ∧ EqvR n H p q ∧ Q (.bl true) H
noncomputable def rNeA : R2 := fun x y H Q => ∃ p q n, x = .ref p ∧ y = .ref q ∧ n ≤ 40 ∧ EqvR n H p q ∧ Q (.bl false) H
theorem op_eqA (hu : X.A.units + 64 < cLine) : OpR X (compareOp .Eq) rEqA := by
  intro pins s σ H x y v u Q I rx ry h
  obtain ⟨p, q, n, rfl, rfl, hn, ⟨xs, ys, hh, hl, hi⟩, qq⟩ := h
  cases rx
  cases ry
  have hu1 : X.A.in1.units + n < cLine := by show X.A.units + 1 + n < cLine; omega
  rcases hh with ⟨h1, h2⟩ | ⟨h1, h2⟩
  · obtain ⟨_, its, n1, k1, l1, g1⟩ := I.lstM h1
    obtain ⟨_, its2, n2, k2, l2, g2⟩ := I.lstM h2
    have z := RcAt.lists (A := X.A) (e := fun _ => true) (⟨_, g1, rfl, n1, rfl⟩ : s.heap.IsList p its.toArray) (⟨_, g2, rfl, n2, rfl⟩ : s.heap.IsList q its2.toArray) (by rw [List.size_toArray, List.size_toArray]; omega) (by omega)
      (eqv_items k1 k2 hi fun x y u v => eqv_at I n X.A.in1 x y u v hu1)
    rw [all_true] at z
    exact z X.prog X.w X.xe _ ⟨.bl true, H, I, rfl, qq⟩
  · obtain ⟨its, k1, p1, _⟩ := I.tuple (SqT.of h1)
    obtain ⟨its2, k2, p2, _⟩ := I.tuple (SqT.of h2)
    have z := RcAt.tuples (A := X.A) (e := fun _ => true) (show s.heap.IsTuple p its.toArray from p1) (show s.heap.IsTuple q its2.toArray from p2) (by omega)
      (eqv_items k1 k2 hi fun x y u v => eqv_at I n X.A.in1 x y u v hu1)
    have e3 : its.toArray.size = its2.toArray.size := by rw [List.size_toArray, List.size_toArray, ← k1.length, ← k2.length]; exact hl
    rw [all_true, e3, beq_self_eq_true, Bool.true_and] at z
    exact z X.prog X.w X.xe _ ⟨.bl true, H, I, rfl, qq⟩

noncomputable def rEqN : R2 := fun x y H Q => ∃ p q xs ys, x = .ref p ∧ y = .ref q ∧ H p = some (.lst xs) ∧ H q = some (.lst ys) ∧ xs.length ≠ ys.length ∧ Q (.bl false) H
theorem op_eqN (hu : X.A.units + 64 < cLine) : OpR X (compareOp .Eq) rEqN := by
  intro pins s σ H x y v u Q I rx ry h
  obtain ⟨p, q, xs, ys, rfl, rfl, h1, h2, hl, qq⟩ := h
  cases rx
  cases ry
  obtain ⟨_, its, n1, k1, l1, g1⟩ := I.lstM h1
  obtain ⟨_, its2, n2, k2, l2, g2⟩ := I.lstM h2
  have hne : (its.toArray.size != its2.toArray.size) = true := by
    rw [List.size_toArray, List.size_toArray, ← l1, ← l2]
    exact bne_iff_ne.mpr hl
  exact RcAt.lists_lengths (A := X.A) (⟨_, g1, rfl, n1, rfl⟩ : s.heap.IsList p its.toArray) (⟨_, g2, rfl, n2, rfl⟩ : s.heap.IsList q its2.toArray) hne (by omega) X.prog X.w X.xe _ ⟨.bl false, H, I, rfl, qq⟩
theorem op_neA (hu : X.A.units + 64 < cLine) : OpR X (compareOp .NotEq) rNeA := by
  intro pins s σ H x y v u Q I rx ry h
  obtain ⟨p, q, n, rfl, rfl, hn, ⟨xs, ys, hh, hl, hi⟩, qq⟩ := h
  cases rx
  cases ry
  have hu1 : X.A.in1.units + n < cLine := by show X.A.units + 1 + n < cLine; omega
  rcases hh with ⟨h1, h2⟩ | ⟨h1, h2⟩
  · obtain ⟨_, its, n1, k1, l1, g1⟩ := I.lstM h1
    obtain ⟨_, its2, n2, k2, l2, g2⟩ := I.lstM h2
    have z := RcNeAt.lists (A := X.A) (e := fun _ => true) (⟨_, g1, rfl, n1, rfl⟩ : s.heap.IsList p its.toArray) (⟨_, g2, rfl, n2, rfl⟩ : s.heap.IsList q its2.toArray) (by rw [List.size_toArray, List.size_toArray]; omega) (by omega)
      (eqv_items k1 k2 hi fun x y u v => eqv_at I n X.A.in1 x y u v hu1)
    rw [all_true] at z
    exact z X.prog X.w X.xe _ ⟨.bl false, H, I, rfl, qq⟩
  · obtain ⟨its, k1, p1, _⟩ := I.tuple (SqT.of h1)
    obtain ⟨its2, k2, p2, _⟩ := I.tuple (SqT.of h2)
    have z := RcNeAt.tuples (A := X.A) (e := fun _ => true) (show s.heap.IsTuple p its.toArray from p1) (show s.heap.IsTuple q its2.toArray from p2) (by omega)
      (eqv_items k1 k2 hi fun x y u v => eqv_at I n X.A.in1 x y u v hu1)
    have e3 : its.toArray.size = its2.toArray.size := by rw [List.size_toArray, List.size_toArray, ← k1.length, ← k2.length]; exact hl
    rw [all_true, e3, beq_self_eq_true, Bool.true_and] at z
    exact z X.prog X.w X.xe _ ⟨.bl false, H, I, rfl, qq⟩

noncomputable def rNeN : R2 := fun x y H Q => ∃ p q xs ys, x = .ref p ∧ y = .ref q ∧ H p = some (.lst xs) ∧ H q = some (.lst ys) ∧ xs.length ≠ ys.length ∧ Q (.bl true) H
theorem op_neN (hu : X.A.units + 64 < cLine) : OpR X (compareOp .NotEq) rNeN := by
  intro pins s σ H x y v u Q I rx ry h
  obtain ⟨p, q, xs, ys, rfl, rfl, h1, h2, hl, qq⟩ := h
  cases rx
  cases ry
  obtain ⟨_, its, n1, k1, l1, g1⟩ := I.lstM h1
  obtain ⟨_, its2, n2, k2, l2, g2⟩ := I.lstM h2
  have hne : (its.toArray.size != its2.toArray.size) = true := by
    rw [List.size_toArray, List.size_toArray, ← l1, ← l2]
    exact bne_iff_ne.mpr hl
  exact RcNeAt.lists_lengths (A := X.A) (⟨_, g1, rfl, n1, rfl⟩ : s.heap.IsList p its.toArray) (⟨_, g2, rfl, n2, rfl⟩ : s.heap.IsList q its2.toArray) hne (by omega) X.prog X.w X.xe _ ⟨.bl true, H, I, rfl, qq⟩

noncomputable def rCatT0 (K : PySem.W.Frag) : R2 := fun x y H Q => ∃ a b ys, x = .ref a ∧ y = .ref b ∧ SqT K H a [] ∧ SqT K H b ys ∧ Q (.ref b) H
theorem op_catT0 : OpR X (binaryOp .Add) (rCatT0 X.K) := by
  intro pins s σ H x y v u Q I rx ry h
  obtain ⟨a, b, ys, rfl, rfl, ha, hb, q⟩ := h
  cases rx
  cases ry
  obtain ⟨its, r1, p1, _⟩ := I.tuple ha
  obtain ⟨its2, r2, p2, _⟩ := I.tuple hb
  have e : its = [] := r1.nil_iff.mpr rfl
  subst e
  obtain ⟨⟨cls, dd, data, sl⟩, ho, hc, n, hd⟩ := id p1
  obtain ⟨⟨cls2, dd2, data2, sl2⟩, ho2, hc2, n2, hd2⟩ := id p2
  simp only at hc hd hc2 hd2
  subst hc hd hc2 hd2
  exact concat_meets ⟨_, ho, rfl⟩ ⟨_, ho2, rfl⟩ noFill_tuple_add seq_tuple_add PySem.F.slot_tuple_add PySem.F.entry_tuple_add (PySem.F.args_tuple_add_2 _ _)
    (tuple_addW0 a b [].toArray its2.toArray n n2 dd dd2 sl sl2 rfl) ⟨ho, ho2, ⟨.ref b, H, I, rfl, q⟩⟩

noncomputable def CMulS (z : Str) (k : Int) : Prop := 0 ≤ k ∧ k < 2 ^ 31 ∧ z.length * k.toNat ≤ sizeLine
theorem op_mulS : OpR X (binaryOp .Mult) (fun x y H Q => ∃ i k, x = .str i ∧ y = .int k ∧ CMulS i k ∧ Q (.str (Txt.mul i k)) H) := by
  intro pins s σ H x y v u Q I rx ry h
  obtain ⟨i, k, rfl, rfl, ⟨h1, h2, h3⟩, q⟩ := h
  obtain ⟨t, rfl⟩ := rx
  obtain ⟨t', rfl⟩ := ry
  have e1 : (decide (k < -(2 ^ 63 : Int)) || decide (k ≥ 2 ^ 63)) = false := by
    rw [decide_eq_false (by omega), decide_eq_false (by omega)]
    rfl
  have hs : (sizeLine : Nat) ≤ 2 ^ 40 := by rw [sizeLine_eq]; decide
  refine SB.mul ⟨e1, fun g1 _ c => ?_, fun g1 _ => ?_⟩ (fun t' tk => ⟨.str (Txt.mul i k), H, I.tok _, ⟨_, rfl⟩, q⟩)
  · have c1 : (2 ^ 63 - 1) / k < (i.length : Int) := c
    have c2 : ¬ (i.length : Int) ≤ (2 ^ 63 - 1) / k := by omega
    refine c2 ((Int.le_ediv_iff_mul_le (by omega)).mpr ?_)
    have e : ((i.length * k.toNat : Nat) : Int) = (i.length : Int) * k := by rw [Int.natCast_mul, Int.toNat_of_nonneg (by omega)]
    omega
  · show decide _ = false
    exact decide_eq_false (by omega)

noncomputable def CPw (i j : Int) : Prop := 0 ≤ j ∧ (Builtin.Int.intBits i : Int) * j ≤ 2 ^ 27
noncomputable def CDv (_ j : Int) : Prop := 0 < j ∧ j < 2 ^ 64
theorem op_fdivA : OpR X (binaryOp .FloorDiv) (rI CDv fun i j => .int (i / j)) := opI fun i j _ _ _ _ _ hc q => by
  have h1 : (0 : Int) < j := hc.1
  have h2 : j < 2 ^ 64 := hc.2
  refine floordiv_int (by omega) (by rw [Int.fdiv_eq_ediv_of_nonneg i (by omega)]; exact q) (.inl (PyProof.noPylong_of_log2 ?_))
  have h3 : j.natAbs.log2 < 64 := (Nat.log2_lt (by omega)).mpr (by omega)
  omega
theorem op_mulA : OpR X (binaryOp .Mult) (rI IntMulOk fun i j => .int (i * j)) := opI fun _ _ _ _ _ _ _ hc q => mul_int q hc
theorem op_powA : OpR X (binaryOp .Pow) (rI CPw fun i j => .int (i ^ j.toNat)) := opI fun _ _ _ _ _ _ _ hc q => pow_int hc.1 hc.2 q
end
end L2.L3




namespace L2.Na
open PySem PySem.Spec PyProof.Rows L2 L2.L3
theorem dict_mapFields (o : Obj) (f : Array Value → Array Value) : (o.mapFields f).dict = o.dict := by
  unfold Obj.mapFields
  split <;> rfl

noncomputable def TrD (h B : Heap) (e : Addr) (c : Value) (dx : Option Addr) (fl : Value) : Prop :=
  ∃ oe vs T oT ts, h.get? e = some oe ∧ oe.cls = c ∧ oe.dict = dx ∧ oe.data = .fields vs ∧ vs[1]? = some (.ref T) ∧ B.get? T = none ∧ T ≠ e ∧ h.get? T = some oT ∧ oT.data = .fields ts ∧ ts[3]? = some fl

structure Went (B : Heap) (l : List Env) (e : Addr) (c : Value) (dx : Option Addr) (fl : Value) (h h' : Heap) : Prop where
  stay : B.StaysIn h'
  frames : h'.FunFrames B l
  tr : TrD h' B e c dx fl
  slots : h.UpToSlots h'
structure FlyD (B : Heap) (l : List Env) (e : Addr) (c : Value) (dx : Option Addr) (fl : Value) (h : Heap) : Prop where
  stay : B.StaysIn h
  new : B.get? e = none
  frames : h.FunFrames B l
  tr : TrD h B e c dx fl
section
variable {M : Model} {A : Around} {E : Value → Shared → Prop} {s : Shared} {B : Heap} {env : Env} {outer : List Env} {L e : Addr} {Q : Unit → Shared → Prop}

theorem frameOf_in {env2 : Env} {R : Value → Shared → Prop} (fr : A.frames = some (env :: outer)) (ff : s.heap.FunFrames B (env :: outer)) (ef : env.frame = some L) (ef2 : env2.frame = some L)
    (h : ∀ h', Heap.SlotsOnly ((env :: outer).filterMap (·.frame)) s.heap h' → R (.ref L) { s with heap := h' }) : wpAny M A (PySem.frameOf env2) R E s := by
  unfold PySem.frameOf
  refine wpAny_bind (wpAny_frameEnvs fr ?_)
  have hdw : ((env :: outer).dropWhile fun x => x.frame != env2.frame) = env :: outer := by simp [List.dropWhile, ef, ef2]
  rw [hdw]
  unfold frameObject
  refine wpAny_bind (wpAny_bind (wpAny_readyFrames_fun ff fun h₁ hs₁ => wpAny_pure ?_))
  rw [ef]
  exact wpAny_pure (h h₁ hs₁)
theorem entry_run {env2 : Env} {oe : Obj} {vs : Array Value} {hd0 : Value} {nx : Bool} (fr : A.frames = some (env :: outer)) (ff : s.heap.FunFrames B (env :: outer)) (ef : env.frame = some L) (ef2 : env2.frame = some L) (eo : s.heap.get? e = some oe) (st : B.StaysIn s.heap)
    (en : B.get? e = none) (dt : oe.data = .fields vs) (sz : 1 < vs.size) (k : ∀ g, Went B (env :: outer) e oe.cls oe.dict (rawInt L) s.heap g → Q () { s with heap := g }) :
    wpAny M A (do let a ← frameOf env2; let pl ← entryPlaceOf L nx; let b ← EntryCells.newEntry hd0 a .none (rawInt L) .none pl; setField (.ref e) 1 b) Q E s := by
  have nf : e ∉ (env :: outer).filterMap (·.frame) := fun m => by
    obtain ⟨_, o, ho, n⟩ := ff.mem m
    rw [eo] at ho
    cases ho
    exact n vs dt
  refine wpAny_bind (frameOf_in fr ff ef ef2 fun g1 s1 => wpAny_bind (wpAny_entryPlaceOf fun pl ip => ?_))
  unfold EntryCells.newEntry newFields
  refine wpAny_bind (wpAny_newObj_type ?_ (ip.sizeOk5 _ _ _ _ _))
  have e1 : g1.get? e = some oe := by rw [s1.2.1 e nf]; exact eo
  have b1 : B.StaysIn g1 := fun b o q => by
    rw [s1.2.1 b fun m => by rw [(ff.mem m).1] at q; cases q]
    exact st b o q
  generalize ho : ({ cls := .type "traceback", dict := none, data := .fields ([hd0, .ref L, .none, rawInt L, .none] ++ (if pl.isEmpty then List.replicate 6 Value.none else pl)).toArray } : Obj) = ot
  have od : ot.data = .fields ([hd0, .ref L, .none, rawInt L, .none] ++ (if pl.isEmpty then List.replicate 6 Value.none else pl)).toArray := by rw [← ho]
  have of3 : ([hd0, .ref L, .none, rawInt L, .none] ++ (if pl.isEmpty then List.replicate 6 Value.none else pl)).toArray[3]? = some (rawInt L) := by simp
  have onf : ot.isFreed = false := Obj.isFreed_of_fields od
  have e2 : (g1.push ot).get? e = some oe := Heap.get?_push_of_some _ e1
  have ne : g1.objs.size ≠ e := Nat.ne_of_gt (Heap.lt_size e1)
  refine wpAny_setField e2 dt sz (k _ ?_)
  have d3 : (oe.mapFields (·.setIfInBounds 1 (Value.ref g1.objs.size))).data = .fields (vs.setIfInBounds 1 (Value.ref g1.objs.size)) := Obj.data_mapFields dt _
  have e3 : ((g1.push ot).update e (Obj.mapFields (·.setIfInBounds 1 (Value.ref g1.objs.size)))).get? e = some (oe.mapFields (·.setIfInBounds 1 (Value.ref g1.objs.size))) := Heap.get?_update_self _ e2 (Obj.isFreed_of_fields d3)
  have kp : ∀ b o, b ≠ e → g1.get? b = some o → ((g1.push ot).update e (Obj.mapFields (·.setIfInBounds 1 (Value.ref g1.objs.size)))).get? b = some o := fun b o hb q => by
    rw [Heap.get?_update_other _ _ hb.symm]
    exact Heap.get?_push_of_some _ q
  have nr : ∀ b o, s.heap.get? b = some o → (∀ ws, o.data ≠ .fields ws) → b ≠ e := fun b o q n z => by
    subst z
    rw [eo] at q
    cases q
    exact n vs dt
  refine ⟨fun b o q => kp b o (fun z => by rw [z, en] at q; cases q) (b1 b o q), ff.of_keeps fun b o q n => ?_, ⟨_, _, g1.objs.size, ot, _, e3, Obj.cls_mapFields _ _, dict_mapFields _ _, d3, by simp [sz], b1.fresh, ne, ?_, od, of3⟩, fun b o q n => ?_⟩
  · obtain ⟨sl, z⟩ := s1.2.2 b o q
    exact ⟨_, kp b _ (nr b o q n) z, rfl⟩
  · rw [Heap.get?_update_other _ _ ne.symm]
    exact Heap.get?_push_size g1 onf
  · obtain ⟨sl, z⟩ := s1.2.2 b o q
    exact ⟨sl, kp b _ (nr b o q n) z⟩

theorem note_new {env2 : Env} {oe : Obj} {vs : Array Value} (fr : A.frames = some (env :: outer)) (ff : s.heap.FunFrames B (env :: outer)) (ef : env.frame = some L) (ef2 : env2.frame = some L) (eo : s.heap.get? e = some oe) (st : B.StaysIn s.heap)
    (en : B.get? e = none) (dt : oe.data = .fields vs) (v1 : vs[1]? = some .none) (k : ∀ g, FlyD B (env :: outer) e oe.cls oe.dict (rawInt L) g → s.heap.UpToSlots g → Q () { s with heap := g }) : wpAny M A (noteFrame (.ref e) env2) Q E s := by
  unfold noteFrame
  simp only [ef2]
  refine wpAny_bind (wpAny_field eo dt v1 ?_)
  rw [if_neg (show ¬ ((Value.none != Value.none) = true) by decide)]
  exact entry_run fr ff ef ef2 eo st en dt (Array.getElem?_eq_some_iff.mp v1).1 fun g w => k g ⟨w.stay, en, w.frames, w.tr⟩ w.slots

theorem note_fly {env2 : Env} {c fl : Value} {dx : Option Addr} (fr : A.frames = some (env :: outer)) (ef : env.frame = some L) (ef2 : env2.frame = some L) (F : FlyD B (env :: outer) e c dx fl s.heap)
    (k : ∀ g fl', FlyD B (env :: outer) e c dx fl' g → s.heap.UpToSlots g → Q () { s with heap := g }) : wpAny M A (noteFrame (.ref e) env2) Q E s := by
  have F0 := F
  obtain ⟨st, en, ff, oe, vs, T, oT, ts, eo, rfl, rfl, dt, v1, nT, ne, eT, dT, t3⟩ := F
  unfold noteFrame
  simp only [ef2]
  refine wpAny_bind (wpAny_field eo dt v1 ?_)
  rw [if_pos (show (Value.ref T != Value.none) = true by simp)]
  refine wpAny_bind (wpAny_field eT dT t3 ?_)
  by_cases hfl : (fl == rawInt L) = true
  · rw [if_pos hfl]
    exact wpAny_pure (k s.heap fl F0 (Heap.UpToSlots.refl _))
  rw [if_neg hfl]
  refine wpAny_bind (wpAny_setField eT dT (Array.getElem?_eq_some_iff.mp t3).1 ?_)
  have ot : ∀ b, b ≠ T → (s.heap.update T (Obj.mapFields (·.setIfInBounds 3 Value.none))).get? b = s.heap.get? b := fun b hb => Heap.get?_update_other _ _ hb.symm
  have nr : ∀ b o, s.heap.get? b = some o → (∀ ws, o.data ≠ .fields ws) → b ≠ T := fun b o q n z => by
    subst z
    rw [eT] at q
    cases q
    exact n ts dT
  refine entry_run (s := { s with heap := s.heap.update T (Obj.mapFields (·.setIfInBounds 3 Value.none)) }) fr (ff.of_keeps fun b o q n => ⟨o, by rw [ot b (nr b o q n)]; exact q, rfl⟩) ef ef2 (by show (s.heap.update T _).get? e = _; rw [ot e ne.symm]; exact eo)
    (fun b o q => by show (s.heap.update T _).get? b = _; rw [ot b fun z => by rw [z, nT] at q; cases q]; exact st b o q) en dt (Array.getElem?_eq_some_iff.mp v1).1 fun g w => k g _ ⟨w.stay, en, w.frames, w.tr⟩ fun b o q n => w.slots b o (by rw [ot b (nr b o q n)]; exact q) n

theorem mark_fly {l : List Env} {c fl : Value} {dx : Option Addr} (fo : Option Addr) (F : FlyD B l e c dx fl s.heap) (k : ∀ g, FlyD B l e c dx (fo.elim Value.none fun f => rawInt f) g → s.heap.UpToSlots g → Q () { s with heap := g }) : wpAny M A (setFlight (.ref e) fo) Q E s := by
  obtain ⟨st, en, ff, oe, vs, T, oT, ts, eo, hc, hx, dt, v1, nT, ne, eT, dT, t3⟩ := F
  have ot : ∀ b, b ≠ T → (s.heap.update T (Obj.mapFields (·.setIfInBounds 3 (fo.elim Value.none fun f => rawInt f)))).get? b = s.heap.get? b := fun b hb => Heap.get?_update_other _ _ hb.symm
  have nr : ∀ b o, s.heap.get? b = some o → (∀ ws, o.data ≠ .fields ws) → b ≠ T := fun b o q n z => by
    subst z
    rw [eT] at q
    cases q
    exact n ts dT
  have s3 := (Array.getElem?_eq_some_iff.mp t3).1
  unfold setFlight
  refine wpAny_bind (wpAny_field eo dt v1 ?_)
  rw [if_pos (show (Value.ref T != Value.none) = true by simp)]
  refine wpAny_setField eT dT s3 (k _ ⟨fun b o q => ?_, en, ff.of_keeps fun b o q n => ⟨o, by rw [ot b (nr b o q n)]; exact q, rfl⟩, oe, vs, T, _, _, by rw [ot e ne.symm]; exact eo, hc, hx, dt, v1, nT, ne, Heap.get?_update_self _ eT (Obj.isFreed_of_fields (Obj.data_mapFields dT _)), Obj.data_mapFields dT _, by simp [s3]⟩
    fun b o q n => ⟨o.slots, by rw [ot b (nr b o q n)]; exact q⟩)
  rw [ot b fun z => by rw [z, nT] at q; cases q]
  exact st b o q

theorem land_fly {l : List Env} {c fl : Value} {dx : Option Addr} (F : FlyD B l e c dx fl s.heap) (k : ∀ g, FlyD B l e c dx .none g → s.heap.UpToSlots g → Q () { s with heap := g }) : wpAny M A (setFlight (.ref e) none) Q E s := mark_fly none F k
theorem FlyD.tail {c fl : Value} {dx : Option Addr} {h : Heap} (F : FlyD B (env :: outer) e c dx fl h) : FlyD B outer e c dx fl h := ⟨F.stay, F.new, F.frames.2.2, F.tr⟩
theorem leave_new {oe : Obj} {vs : Array Value} (fr : A.frames = some (env :: outer)) (ff : s.heap.FunFrames B (env :: outer)) (ef : env.frame = some L) (eo : s.heap.get? e = some oe) (st : B.StaysIn s.heap)
    (en : B.get? e = none) (dt : oe.data = .fields vs) (v1 : vs[1]? = some .none) (k : ∀ g, FlyD B outer e oe.cls oe.dict .none g → s.heap.UpToSlots g → Q () { s with heap := g }) : wpAny M A (leaving env (.ref e)) Q E s := by
  unfold leaving
  exact wpAny_bind (note_new fr ff ef ef eo st en dt v1 fun g F u => land_fly F fun g2 F2 u2 => k g2 F2.tail (u.trans u2))
theorem leave_fly {c fl : Value} {dx : Option Addr} (fr : A.frames = some (env :: outer)) (ef : env.frame = some L) (F : FlyD B (env :: outer) e c dx fl s.heap)
    (k : ∀ g, FlyD B outer e c dx .none g → s.heap.UpToSlots g → Q () { s with heap := g }) : wpAny M A (leaving env (.ref e)) Q E s := by
  unfold leaving
  exact wpAny_bind (note_fly fr ef ef F fun g _ F1 u => land_fly F1 fun g2 F2 u2 => k g2 F2.tail (u.trans u2))
end
end L2.Na




namespace L2.Na
open PySem PySem.Spec PyProof.Rows L2 L2.L3

noncomputable def CXF (P : Program) (w : World) : CXT := fun outer H s E ev s' => ∃ (e : Addr) (c : Value) (dx : Option Addr) (H' : Hp) (B : Heap), ev = .ref e ∧ s'.os = s.os ∧ AllBare s'.gens ∧ Un (frs outer) [] H H' s.heap s'.heap ∧ HOk P w H' s'.heap ∧
  (∃ fl, FlyD B outer e c dx fl s'.heap) ∧ (∀ b o, s.heap.get? b = some o → b ∉ frs outer → ∃ u, B.get? b = some u) ∧ (∀ b o, H' b = some o → ∃ u, B.get? b = some u) ∧ E c dx H'
theorem CXF.no {P : Program} {w : World} {outer : List Env} {H : Hp} {s s' : Shared} {ev : Value} (h : CXF P w outer H s E0 ev s') : False := by
  obtain ⟨_, _, _, _, _, _, _, _, _, _, _, _, _, z⟩ := h
  exact z
theorem there_of {P : Program} {w : World} {H : Hp} {h : Heap} {a : Addr} {o : HO} (x : ObjOk P w H h a o) : ∃ u, h.get? a = some u := by
  induction o with
  | lst xs => obtain ⟨_, _, _, _, e⟩ := x; exact ⟨_, e⟩
  | tup xs => obtain ⟨_, _, _, u, e, _⟩ := x; exact ⟨_, e⟩
  | dK kvs => obtain ⟨_, _, _, _, o, _, _, e, _⟩ := x; exact ⟨_, e⟩
  | dT kvs => obtain ⟨_, _, _, _, o, _, _, e, _⟩ := x; exact ⟨_, e⟩
  | set S n => obtain ⟨o, _, _, _, e, _⟩ := x; exact ⟨_, e⟩
  | ins C dx fs => obtain ⟨_, _, _, e, _⟩ := x; exact ⟨_, e⟩
  | own y => exact x
  | xd fs => obtain ⟨_, ⟨_, _, _, e, _⟩, _⟩ := x; exact ⟨_, e⟩
  | rng lo hi => obtain ⟨_, _, _, e⟩ := x; exact ⟨_, e⟩
  | frz ob u _ => exact ⟨_, x.1⟩
  | tbl ps => exact ⟨_, x⟩
  | met f y => exact ⟨_, x⟩
  | ext φ => exact x.2.1
section
variable {P : Program} {w : World} {K : PySem.W.Frag} {mg : Str → Option Value} {base : Heap} {N : List Str} {qual : Str} {scope : Scope} {f : Addr} {cd : Value} {A : Around} {outer : List Env} {s : Shared} {H : Hp} {E : XK}
theorem hok_in {H' : Hp} {h g B : Heap} (x : HOk P w H' h) (c2 : ∀ b o, H' b = some o → ∃ u, B.get? b = some u) (s1 : B.StaysIn h) (s2 : B.StaysIn g) : HOk P w H' g := fun b o q =>
  (x b o q).stay (fun b' u' hb' q' => by
    obtain ⟨u, hu⟩ : ∃ u, B.get? b' = some u := by
      rcases hb' with rfl | hb'
      · exact c2 _ _ q
      · exact c2 _ _ hb'
    have z := s1 _ _ hu
    rw [q'] at z
    cases z
    exact s2 _ _ hu) (fun _ z => z) fun _ _ z => z
theorem pass_def : Passes (CXF P w) (cxOf (CXF P w) P w K mg base N qual scope f cd A outer s H E) E := by
  intro pins σ H1 s1 ev s' I hc
  obtain ⟨e, c, dx, H', B, rfl, os, bare, un, hok, ⟨fl, F⟩, c1, c2, hE⟩ := hc
  have un' : Un (frs (envOfC qual scope s.heap.objs.size f cd :: outer)) [] H1 H' s1.heap s'.heap := un
  have I0 : Un (frs outer) [] H H1 s.heap s1.heap := I.base
  have nl : ∀ b o, s.heap.get? b = some o → b ∉ frs outer → b ∉ frs (envOfC qual scope s.heap.objs.size f cd :: outer) := fun b o q hb z => by
    have z' : b = s.heap.objs.size ∨ b ∈ frs outer := by simpa [frs, envOfC] using z
    rcases z' with z' | z'
    · exact absurd (Heap.lt_size q) (by rw [z']; exact Nat.lt_irrefl _)
    · exact hb z'
  have fs : ∀ b, b ∈ frs outer → b ∈ frs (envOfC qual scope s.heap.objs.size f cd :: outer) := fun b z => by
    have : b = s.heap.objs.size ∨ b ∈ frs outer := .inr z
    simpa [frs, envOfC] using this
  show wpAny _ _ (leaving _ (.ref e)) _ _ s'
  refine leave_fly (L := s.heap.objs.size) I.ok.frames rfl F fun g F2 u => ?_
  have bg : ∀ b o, s'.heap.get? b = some o → (∃ u, B.get? b = some u) → g.get? b = some o := fun b o q ⟨v, hv⟩ => by
    have z := F.stay _ _ hv
    rw [q] at z
    cases z
    exact F2.stay _ _ hv
  have c1' : ∀ b o, s.heap.get? b = some o → b ∉ frs outer → ∃ u, B.get? b = some u := fun b o q hb => by
    obtain ⟨o1, q1⟩ := I0.there b o q (by simp)
    exact c1 b o1 q1 (nl b o q hb)
  have slot : ∀ b o, s.heap.get? b = some o → H b = none → b ∈ frs outer → ∃ sl, g.get? b = some { o with slots := sl } := fun b o q n hb => by
    obtain ⟨sl, q1⟩ := I0.slot b o q n hb (by simp)
    obtain ⟨sl2, q2⟩ := un'.slot b _ q1 (I0.free b o q n (by simp)) (fs b hb) (by simp)
    have nf : ∀ ws, o.data ≠ .fields ws := by
      obtain ⟨_, o', q', n'⟩ := (show s.heap.FunFrames base outer from I.ok.funs).mem hb
      rw [q] at q'
      cases q'
      exact n'
    obtain ⟨sl3, q3⟩ := u b _ q2 nf
    exact ⟨sl3, q3⟩
  refine ⟨e, c, dx, H', B, rfl, os.trans I.os, bare, ⟨fun b o q n hb _ => ?_, fun b o q n hb _ => slot b o q n hb, fun b o q n _ => ?_, fun b o q _ => ?_, fun b xs q => un.tups b xs (I0.tups b xs q), fun b o xs q => un.frzs b o xs (I0.frzs b o xs q), fun b ps q => ?_⟩, hok_in hok c2 F.stay F2.stay, ⟨_, F2⟩, c1', c2, hE⟩
  · exact bg b o (un'.keep b o (I0.keep b o q n hb (by simp)) (I0.free b o q n (by simp)) (nl b o q hb) (by simp)) (c1' b o q hb)
  · obtain ⟨o1, q1⟩ := I0.there b o q (by simp)
    exact un'.free b o1 q1 (I0.free b o q n (by simp)) (by simp)
  · by_cases hb : b ∈ frs outer
    · obtain ⟨sl, z⟩ := slot b o q (I.ok.frf b hb) hb
      exact ⟨_, z⟩
    · obtain ⟨v, hv⟩ := c1' b o q hb
      exact ⟨v, F2.stay _ _ hv⟩
  · obtain ⟨m1, e1⟩ := I0.tbls b ps q
    obtain ⟨m2, e2⟩ := un.tbls b _ e1
    exact ⟨m1 ++ m2, by rw [e2, Array.append_assoc]⟩

theorem made_def {pins : List (Addr × Obj)} {σ : St} {H1 : Hp} {s1 : Shared} {e : Addr} {oe : Obj} {vs : Array Value} (I : Inv (cxOf (CXF P w) P w K mg base N qual scope f cd A outer s H E) pins σ H1 s1)
    (eo : s1.heap.get? e = some oe) (dt : oe.data = .fields vs) (v1 : vs[1]? = some .none) (en : H1 e = none) (e0 : ∀ b o, s.heap.get? b = some o → b ≠ e) (hE : E oe.cls oe.dict H1) :
    (cxOf (CXF P w) P w K mg base N qual scope f cd A outer s H E).xe (.ref e) s1 := by
  have I0 : Un (frs outer) [] H H1 s.heap s1.heap := I.base
  have ff : s1.heap.FunFrames base (envOfC qual scope s.heap.objs.size f cd :: outer) := I.stack
  have nl : ∀ b o, s.heap.get? b = some o → b ∉ frs outer → b ∉ frs (envOfC qual scope s.heap.objs.size f cd :: outer) := fun b o q hb z => by
    have z' : b = s.heap.objs.size ∨ b ∈ frs outer := by simpa [frs, envOfC] using z
    rcases z' with z' | z'
    · exact absurd (Heap.lt_size q) (by rw [z']; exact Nat.lt_irrefl _)
    · exact hb z'
  have ne : e ∉ frs (envOfC qual scope s.heap.objs.size f cd :: outer) := fun z => by
    obtain ⟨_, o, q, n⟩ := ff.mem z
    rw [eo] at q
    cases q
    exact n vs dt
  have hid : ∀ {b o}, (PySem.W.hideAll s1.heap (e :: frs (envOfC qual scope s.heap.objs.size f cd :: outer))).get? b = some o → s1.heap.get? b = some o := fun q => PySem.W.of_hideAll _ q
  have has : ∀ {b o}, s1.heap.get? b = some o → b ≠ e → b ∉ frs (envOfC qual scope s.heap.objs.size f cd :: outer) → (PySem.W.hideAll s1.heap (e :: frs (envOfC qual scope s.heap.objs.size f cd :: outer))).get? b = some o :=
    fun q h1 h2 => PySem.W.hideAll_get _ q (by simp only [List.mem_cons, not_or]; exact ⟨h1, h2⟩)
  have ff2 : s1.heap.FunFrames (PySem.W.hideAll s1.heap (e :: frs (envOfC qual scope s.heap.objs.size f cd :: outer))) (envOfC qual scope s.heap.objs.size f cd :: outer) :=
    PySem.W.funFrames_hide ff fun env' he' a ha => List.mem_cons_of_mem _ (List.mem_filterMap.mpr ⟨env', he', ha⟩)
  show wpAny _ _ (leaving _ (.ref e)) _ _ s1
  refine leave_new (L := s.heap.objs.size) I.ok.frames ff2 rfl eo (fun b o q => hid q) (PySem.W.hideAll_none _ (by simp)) dt v1 fun g F2 u => ?_
  have c1' : ∀ b o, s.heap.get? b = some o → b ∉ frs outer → ∃ u, (PySem.W.hideAll s1.heap (e :: frs (envOfC qual scope s.heap.objs.size f cd :: outer))).get? b = some u := fun b o q hb => by
    obtain ⟨o1, q1⟩ := I0.there b o q (by simp)
    exact ⟨o1, has q1 (e0 b o q) (nl b o q hb)⟩
  have c2 : ∀ b o, H1 b = some o → ∃ u, (PySem.W.hideAll s1.heap (e :: frs (envOfC qual scope s.heap.objs.size f cd :: outer))).get? b = some u := fun b o q => by
    obtain ⟨o1, q1⟩ : ∃ o1, s1.heap.get? b = some o1 := there_of (I.hok b o q)
    refine ⟨o1, has q1 (fun z => by rw [z, en] at q; cases q) fun z => ?_⟩
    have := I.stkFree b z
    rw [q] at this
    cases this
  have slot : ∀ b o, s.heap.get? b = some o → H b = none → b ∈ frs outer → ∃ sl, g.get? b = some { o with slots := sl } := fun b o q n hb => by
    obtain ⟨sl, q1⟩ := I0.slot b o q n hb (by simp)
    have nf : ∀ ws, o.data ≠ .fields ws := by
      obtain ⟨_, o', q', n'⟩ := (show s.heap.FunFrames base outer from I.ok.funs).mem hb
      rw [q] at q'
      cases q'
      exact n'
    obtain ⟨sl3, q3⟩ := u b _ q1 nf
    exact ⟨sl3, q3⟩
  refine ⟨e, oe.cls, oe.dict, H1, _, rfl, I.os, I.bare, ⟨fun b o q n hb _ => ?_, fun b o q n hb _ => slot b o q n hb, fun b o q n _ => I0.free b o q n (by simp), fun b o q _ => ?_, I0.tups, I0.frzs, I0.tbls⟩, hok_in I.hok c2 (fun b o q => hid q) F2.stay, ⟨_, F2⟩, c1', c2, hE⟩
  · exact F2.stay _ _ (has (I0.keep b o q n hb (by simp)) (e0 b o q) (nl b o q hb))
  · by_cases hb : b ∈ frs outer
    · obtain ⟨sl, z⟩ := slot b o q (I.ok.frf b hb) hb
      exact ⟨_, z⟩
    · obtain ⟨v, hv⟩ := c1' b o q hb
      exact ⟨v, F2.stay _ _ hv⟩
end
end L2.Na




namespace L2.Na
open PySem PySem.Spec PyProof.Rows L2 L2.L3

theorem ff {P : Prop} (h : false = true) : P := nomatch h

noncomputable abbrev XS := St → XK
noncomputable abbrev E0 : XS := fun _ _ _ _ => False

noncomputable def blts : List Str := ["len", "range", "sum", "all", "any", "min", "max", "sorted", "isinstance", "list", "tuple", "int", "str", "bool", "dict", "zip", "set", "abs", "enumerate", "reversed", "divmod", "ValueError"]
structure Rt where
  P : Program
  w : World
  K : PySem.W.Frag
  mg : Str → Option Value
  base : Heap
  A : Around
noncomputable def rtOf (X : Cx) : Rt := ⟨X.prog, X.w, X.K, X.mg, X.base, X.A⟩

noncomputable def FnAt (R : Rt) (x : Str) (sp : Sp) : Prop := ∃ (k : Nat) (f : Addr) (fd : FuncData) (ps : List Str), Room k R.A ∧ FnOk R.P R.w R.K R.mg R.base (CXF R.P R.w) k f fd ps sp ∧ Binds R.K fd ps [] ∧ PySem.W.keepIn R.K (.ref f) = true ∧ R.mg x = some (.ref f)
noncomputable def GlAt (R : Rt) (x : Str) (v : V) : Prop := ∃ u, R.mg x = some u ∧ RelV v u

inductive Fb where
  | all
  | own (l : List Str)
  | hot
noncomputable def Fb.of : Bool → Fb
  | true => .all
  | false => .own []
noncomputable instance : Coe Bool Fb := ⟨Fb.of⟩
structure Sc where
  N : List Str
  nm : List (Str × NameKind)
  fo : Fb
noncomputable def Sc.fb (C : Sc) : Bool := match C.fo with
  | .all => true
  | .own _ => false
  | .hot => true

noncomputable def Sc.cm (C : Sc) : Bool := match C.fo with
  | .hot => false
  | _ => true

noncomputable def Sc.ow (C : Sc) : List Str := match C.fo with
  | .all => []
  | .own l => l
  | .hot => []
structure Gd (X : Cx) (C : Sc) : Prop where
  N : X.N = C.N
  nm : X.env.scope.names = C.nm
  nd : C.N.Nodup
  calm : C.cm = true → X.calm = true
  bl : ∀ x ∈ blts, X.mg x = none
  hu : X.A.units + 64 < cLine
  fb : C.fb = true → ∀ x, X.fn x = true
  top : C.fb = true → X.stack = X.env :: X.outer ∧ X.env.frame = some X.env.locals
  ow : ∀ x ∈ C.ow, X.fn x = true

structure Thr (X : Cx) (E : XS) : Prop where
  pass : ∀ (pins : List (Addr × Obj)) (σ : St) (H : Hp) (s : Shared) (ev : Value) (s' : Shared), Inv X pins σ H s → CXF X.prog X.w X.stack H s (E σ) ev s' → X.xe ev s'
  made : ∀ (pins : List (Addr × Obj)) (σ : St) (H H' : Hp) (s s' : Shared) (e : Addr) (oe : Obj) (vs : Array Value), Inv X pins σ H s → s'.os = s.os → AllBare s'.gens → Un (frs X.stack) [] H H' s.heap s'.heap → HOk X.prog X.w H' s'.heap → s.heap.get? e = none → H' e = none →
    s'.heap.get? e = some oe → oe.data = .fields vs → vs[1]? = some .none → E σ oe.cls oe.dict H' → X.xe (.ref e) s'
  own : PassesOwn (model X.prog X.w) X.A X.env X.xe


inductive Shp where
  | pl | cp | zc
  deriving DecidableEq
noncomputable def shpOf : Expr → Option Shp
  | .Starred .. => none
  | .Slice .. => none
  | .Set .. => none
  | .SetComp .. => none
  | .DictComp .. => none
  | .GeneratorExp .. => none
  | .ListComp .. => some .cp
  | .Call (.Name _ _) [] [] _ => some .zc
  | _ => some .pl
noncomputable def tstOf : Expr → Bool
  | .UnaryOp .Not _ _ => false
  | .BoolOp .. => false
  | .IfExp .. => false
  | .Compare .. => false
  | _ => true
section
variable {e b o : Expr} {es : List Expr} {env : Env} {s : Shp}
theorem shp_star (h : shpOf e = some s) : starEach (e :: es) env = (false, eval e env) :: starEach es env := by
  cases e <;> first | rfl | cases h
theorem shp_swap {tgt : Option Expr} {line : Nat} (h : shpOf e = some s) (hs : s ≠ .cp) : swapsWith e tgt line env = pure false := by
  cases e with
  | ListComp a b c d => exact absurd (Option.some.inj h).symm hs
  | SetComp a b c d => cases h
  | DictComp a b c d => cases h
  | _ => rfl
theorem shp_ix (h : shpOf b = some s) : PlainIx b := by
  cases b with
  | Slice a b c d => cases h
  | _ => exact fun _ _ => rfl
theorem shp_mark {op : CmpOp} (h : shpOf b = some s) : behindInMarks op b = false := by
  cases b with
  | Set a b c => cases h
  | _ => rfl
theorem shp_fold (h : shpOf e = some s) (x : Value) : foldedSetIterable e env x = pure x := by
  cases e with
  | Set a b c => cases h
  | _ => rfl
theorem shp_base {attr : Str} {w : Sem Value} (h : shpOf o = some s) (hs : s ≠ .zc) : attributeBase o attr env w = w := by
  cases o with
  | Call f a k p =>
    cases f with
    | Name x q =>
      cases a with
      | nil =>
        cases k with
        | nil => exact absurd (Option.some.inj h).symm hs
        | cons _ _ => rfl
      | cons _ _ => rfl
    | _ => rfl
  | _ => rfl
theorem tst_ok (h : tstOf e = true) (whole : Sem Value) : isTrue e env whole = (do let v ← whole; standAt e.pos; holding [v] (truthy v)) := by
  cases e with
  | UnaryOp op x p =>
    cases op with
    | Not => cases h
    | _ => rfl
  | BoolOp a b c => cases h
  | IfExp a b c d => cases h
  | Compare a b c d => cases h
  | _ => rfl
end


noncomputable def br (b : Bool) (A B : Prop) : Prop := (b = true → A) ∧ (b = false → B)
theorem brT {A B : Prop} (h : A) : br true A B := ⟨fun _ => h, fun z => nomatch z⟩
theorem brF {A B : Prop} (h : B) : br false A B := ⟨fun z => (nomatch z), fun _ => h⟩
theorem br_d {c A B : Prop} [Decidable c] (h1 : c → A) (h2 : ¬ c → B) : br (decide c) A B := ⟨fun z => h1 (of_decide_eq_true z), fun z => h2 (of_decide_eq_false z)⟩
noncomputable def rTru (K : PySem.W.Frag) (x : V) (H : Hp) (Q : Bool → Hp → Prop) : Prop := match x with
  | .bl b => Q b H
  | .non => Q false H
  | .int i => Q (i != 0) H
  | .str y => y.length ≤ sizeLine ∧ Q ((y.length : Int) != 0) H
  | .ref p => ∃ k, TruV K (.ref p) H k ∧ Q k H
  | _ => False
theorem rTru_ok {K : PySem.W.Frag} {x : V} {H : Hp} {Q : Bool → Hp → Prop} (h : rTru K x H Q) : ∃ k, TruV K x H k ∧ Q k H := by
  cases x with
  | bl b => exact ⟨b, rfl, h⟩
  | non => exact ⟨false, rfl, h⟩
  | int i => exact ⟨_, rfl, h⟩
  | str y => exact ⟨_, ⟨h.1, rfl⟩, h.2⟩
  | ref p => exact h
  | byt _ => exact h.elim
  | flt _ => exact h.elim
  | ty _ => exact h.elim
theorem tru_run {X : Cx} : TruR X (rTru X.K) := fun pins s σ H x v Q I rx h => tru_ok pins s σ H x v Q I rx (rTru_ok h)
noncomputable def truT (K : PySem.W.Frag) (t : TE) : TT := fun σ H Q => t σ H fun x H' => rTru K x H' Q
theorem pt_tru {X : Cx} {a : Expr} {ta : TE} (ha : PE X a ta) (he : tstOf a = true) : PT X a (truT X.K ta) := by
  intro pins s σ H Q I h
  exact isTrue_plain (thn (ha pins s σ H _ I h) fun v s1 ⟨x, H1, I1, r1, q1⟩ => tru_run pins s1 σ H1 x v Q I1 r1 q1) (tst_ok he _)
theorem PE.imp {X : Cx} {e : Expr} {t t' : TE} (h : PE X e t) (f : ∀ σ H Q, t' σ H Q → t σ H Q) : PE X e t' := fun pins s σ H Q I q => h pins s σ H Q I (f σ H Q q)


structure EX (K : PySem.W.Frag) where
  t : XS → TE
  tt : XS → TT
  m : Sc → Expr → Bool
  q : Rt → Prop
  s : Shp
  ok : ∀ (X : Cx) (C : Sc) (E : XS) (e : Expr), X.K = K → Gd X C → Thr X E → q (rtOf X) → m C e = true → PE X e (t E)
  okT : ∀ (X : Cx) (C : Sc) (E : XS) (e : Expr), X.K = K → Gd X C → Thr X E → q (rtOf X) → m C e = true → PT X e (tt E)
  sok : ∀ (C : Sc) (e : Expr), m C e = true → shpOf e = some s

noncomputable def mkE {K : PySem.W.Frag} (t : XS → TE) (m : Sc → Expr → Bool) (q : Rt → Prop) (s : Shp)
    (ok : ∀ (X : Cx) (C : Sc) (E : XS) (e : Expr), X.K = K → Gd X C → Thr X E → q (rtOf X) → m C e = true → PE X e (t E))
    (sok : ∀ (C : Sc) (e : Expr), m C e = true → shpOf e = some s) (hT : ∀ (C : Sc) (e : Expr), m C e = true → tstOf e = true) : EX K :=
  ⟨t, fun E => truT K (t E), m, q, s, ok, fun X C E e hK G hE hq hm => by subst hK; exact pt_tru (ok X C E e rfl G hE hq hm) (hT C e hm), sok⟩


noncomputable def mkE2 {K : PySem.W.Frag} (t : XS → TE) (m : Sc → Expr → Bool) (q : Rt → Prop) (s : Shp)
    (ok : ∀ (X : Cx) (C : Sc) (E : XS) (e : Expr), X.K = K → Gd X C → Thr X E → q (rtOf X) → m C e = true → PE X e (t E))
    (both : ∀ (C : Sc) (e : Expr), m C e = true → shpOf e = some s ∧ tstOf e = true) : EX K := mkE t m q s ok (fun C e h => (both C e h).1) fun C e h => (both C e h).2
section
variable {K : PySem.W.Frag}
noncomputable def tV (i : Nat) : TE := fun σ H Q => match σ[i]? with
  | some (some v) => Q v H
  | _ => False
noncomputable def visB : Option NameKind → Bool
  | some .local => true
  | some .cell => true
  | some .free => true
  | _ => false
theorem visB_of {sc : Scope} {x : Str} (h : visB (sc.names.lookup x) = true) : Vis sc x := by
  unfold Vis
  cases e : sc.names.lookup x with
  | none => rw [e] at h; cases h
  | some k =>
    cases k with
    | «local» => exact .inl rfl
    | cell => exact .inr (.inl rfl)
    | free => exact .inr (.inr rfl)
    | globalExplicit => rw [e] at h; cases h
    | globalImplicit => rw [e] at h; cases h
theorem ne_of_bne {x y : Str} (h : (x != y) = true) : (x == y) = false := by
  cases e : x == y with
  | false => rfl
  | true => rw [bne, e] at h; cases h
noncomputable def var (i : Nat) : EX K := mkE2 (fun _ => tV i)
  (fun C e => match e with
    | .Name x _ => C.N[i]? == some x && (visB (C.nm.lookup x) && (x != "__debug__" && x != "__classdict__"))
    | _ => false) (fun _ => True) .pl
  (fun X C E e hK G hE hq hm => by
    cases e with
    | Name x p =>
      simp only [Bool.and_eq_true] at hm
      obtain ⟨h1, h2, h3, h4⟩ := hm
      refine PE.imp (pe_var (i := i) (by rw [G.N]; exact eq_of_beq h1) (visB_of (by rw [G.nm]; exact h2)) (ne_of_bne h3) (ne_of_bne h4)) fun σ H Q h => ?_
      unfold tV at h
      split at h
      · exact ⟨_, by assumption, h⟩
      · exact h.elim
    | _ => exact ff hm)
  (fun C e hm => by cases e with | Name x p => exact ⟨rfl, rfl⟩ | _ => exact ff hm)
noncomputable def cst (v : V) : EX K := mkE2 (fun _ => tC v)
  (fun _ e => match e with
    | .Constant c _ _ => decide (constV c = some v)
    | _ => false) (fun _ => True) .pl
  (fun X C E e hK G hE hq hm => by
    cases e with
    | Constant c k p => exact pe_constV (of_decide_eq_true hm)
    | _ => exact ff hm)
  (fun C e hm => by cases e with | Constant c k p => exact ⟨rfl, rfl⟩ | _ => exact ff hm)

noncomputable def glB (C : Sc) (x y : Str) : Bool := y == x && (C.nm.lookup x == some .globalImplicit && x != "__debug__")
theorem glB_eq {C : Sc} {x y : Str} (h : glB C x y = true) : y = x := by
  unfold glB at h
  simp only [Bool.and_eq_true] at h
  exact eq_of_beq h.1
theorem glB_gl {X : Cx} {C : Sc} {x y : Str} (G : Gd X C) (h : glB C x y = true) : Gl X x ∧ (x == ("__debug__" : Str)) = false := by
  unfold glB at h
  simp only [Bool.and_eq_true] at h
  obtain ⟨_, h2, h3⟩ := h
  exact ⟨by show X.env.scope.names.lookup x = _; rw [G.nm]; exact eq_of_beq h2, ne_of_bne h3⟩
noncomputable def glb (x : Str) (v : V) : EX K := mkE2 (fun _ => tC v)
  (fun C e => match e with
    | .Name y _ => glB C x y
    | _ => false) (fun R => GlAt R x v) .pl
  (fun X C E e hK G hE hq hm => by
    cases e with
    | Name y p =>
      obtain ⟨u, h1, h2⟩ := hq
      have e := glB_eq hm
      subst e
      obtain ⟨g, d⟩ := glB_gl G hm
      exact pe_glob g h1 h2 d
    | _ => exact ff hm)
  (fun C e hm => by cases e with | Name x p => exact ⟨rfl, rfl⟩ | _ => exact ff hm)

noncomputable def bty (x : Str) (T : String) (hb : bootBuiltins x = some (.type T)) (hi : x ∈ blts) (hn : x ≠ "__name__") : EX K := mkE2 (fun _ => tC (.ty T))
  (fun C e => match e with
    | .Name y _ => glB C x y
    | _ => false) (fun _ => True) .pl
  (fun X C E e hK G hE hq hm => by
    cases e with
    | Name y p =>
      have e := glB_eq hm
      subst e
      obtain ⟨g, d⟩ := glB_gl G hm
      exact pe_bltn g (G.bl _ hi) hb rfl hn d
    | _ => exact ff hm)
  (fun C e hm => by cases e with | Name x p => exact ⟨rfl, rfl⟩ | _ => exact ff hm)


noncomputable def iOp (f : Int → Int → Hp → (V → Hp → Prop) → Prop) : R2 := fun x y H Q => match x with
  | .int i => (match y with
    | .int j => f i j H Q
    | _ => False)
  | _ => False
theorem iOp_of {f : Int → Int → Hp → (V → Hp → Prop) → Prop} {x y : V} {H : Hp} {Q : V → Hp → Prop} (h : iOp f x y H Q) : ∃ i j, x = .int i ∧ y = .int j ∧ f i j H Q := by
  cases x with
  | int i => cases y with
    | int j => exact ⟨i, j, rfl, rfl, h⟩
    | _ => exact False.elim h
  | _ => exact False.elim h
noncomputable def rAdd (K : PySem.W.Frag) : R2 := fun x y H Q => match x with
  | .int i => (match y with
    | .int j => Q (.int (i + j)) H
    | .bl k => Q (.int (i + b2i k)) H
    | _ => False)
  | .str a => (match y with
    | .str b => a.length + b.length ≤ sizeLine ∧ Q (.str (a ++ b)) H
    | _ => False)
  | .ref a => (match y with
    | .ref b => rCat (.ref a) (.ref b) H Q ∨ rCatT K (.ref a) (.ref b) H Q ∨ rCatT0 K (.ref a) (.ref b) H Q
    | _ => False)
  | _ => False
noncomputable def rMul : R2 := fun x y H Q => match y with
  | .int j => (match x with
    | .int i => IntMulOk i j ∧ Q (.int (i * j)) H
    | .ref a => rRep (.ref a) (.int j) H Q
    | .str a => CMulS a j ∧ Q (.str (Txt.mul a j)) H
    | _ => False)
  | _ => False
noncomputable def rBin (K : PySem.W.Frag) : Operator → R2
  | .Add => rAdd K
  | .Sub => iOp fun i j H Q => Q (.int (i - j)) H
  | .Mult => rMul
  | .FloorDiv => iOp fun i j H Q => CDv i j ∧ Q (.int (i / j)) H
  | .Mod => iOp fun i j H Q => 0 < j ∧ Q (.int (i % j)) H
  | .Pow => iOp fun i j H Q => CPw i j ∧ Q (.int (i ^ j.toNat)) H
  | _ => fun _ _ _ _ => False
theorem bin_ok {X : Cx} (op : Operator) : OpR X (binaryOp op) (rBin X.K op) := by
  intro pins s σ H x y v u Q I rx ry h
  cases op with
  | Add =>
    cases x with
    | int i => cases y with
      | int j => exact op_add pins s σ H _ _ v u Q I rx ry ⟨_, _, rfl, rfl, h⟩
      | bl k => exact op_add_ib pins s σ H _ _ v u Q I rx ry ⟨_, _, rfl, rfl, h⟩
      | _ => exact False.elim h
    | str a => cases y with
      | str b => exact op_add_str pins s σ H _ _ v u Q I rx ry ⟨_, _, rfl, rfl, h.1, h.2⟩
      | _ => exact False.elim h
    | ref a => cases y with
      | ref b =>
        rcases h with h | h | h
        · exact op_cat pins s σ H _ _ v u Q I rx ry h
        · exact op_catT pins s σ H _ _ v u Q I rx ry h
        · exact op_catT0 pins s σ H _ _ v u Q I rx ry h
      | _ => exact False.elim h
    | _ => exact False.elim h
  | Sub => exact op_sub pins s σ H _ _ v u Q I rx ry (iOp_of (f := fun i j H Q => Q (.int (i - j)) H) h)
  | Mult =>
    cases y with
    | int j => cases x with
      | int i => exact op_mulA pins s σ H _ _ v u Q I rx ry ⟨_, _, rfl, rfl, h.1, h.2⟩
      | ref a => exact op_rep pins s σ H _ _ v u Q I rx ry h
      | str a => exact op_mulS pins s σ H _ _ v u Q I rx ry ⟨_, _, rfl, rfl, h.1, h.2⟩
      | _ => exact False.elim h
    | _ => exact False.elim h
  | FloorDiv => exact op_fdivA pins s σ H _ _ v u Q I rx ry (iOp_of (f := fun i j H Q => CDv i j ∧ Q (.int (i / j)) H) h)
  | Mod => exact op_mod pins s σ H _ _ v u Q I rx ry (iOp_of (f := fun i j H Q => 0 < j ∧ Q (.int (i % j)) H) h)
  | Pow => exact op_powA pins s σ H _ _ v u Q I rx ry (iOp_of (f := fun i j H Q => CPw i j ∧ Q (.int (i ^ j.toNat)) H) h)
  | _ => exact False.elim h
noncomputable def bin (op : Operator) (a b : EX K) : EX K := mkE2 (fun E => tOp (rBin K op) (a.t E) (b.t E))
  (fun C e => match e with
    | .BinOp l o r _ => decide (o = op) && (a.m C l && b.m C r)
    | _ => false) (fun R => a.q R ∧ b.q R) .pl
  (fun X C E e hK G hE hq hm => by
    subst hK
    cases e with
    | BinOp l o r p =>
      simp only [Bool.and_eq_true] at hm
      obtain ⟨h1, h2, h3⟩ := hm
      have e := of_decide_eq_true h1
      subst e
      exact pe_op (bin_ok _) (a.ok X C E l rfl G hE hq.1 h2) (b.ok X C E r rfl G hE hq.2 h3)
    | _ => exact ff hm)
  (fun C e hm => by cases e with | BinOp l o r p => exact ⟨rfl, rfl⟩ | _ => exact ff hm)
noncomputable def rNeg : V → Hp → VK → Prop
  | .int i, H, Q => Q (.int (-i)) H
  | _, _, _ => False
noncomputable def neg (a : EX K) : EX K := mkE (fun E => tUn rNeg (a.t E))
  (fun C e => match e with
    | .UnaryOp .USub l _ => a.m C l
    | _ => false) a.q .pl
  (fun X C E e hK G hE hq hm => by
    cases e with
    | UnaryOp o l p =>
      cases o with
      | USub =>
        refine pe_un (fun pins s σ H x v Q I rx h => ?_) (a.ok X C E l hK G hE hq hm)
        unfold rNeg at h
        split at h
        · exact un_neg pins s σ H _ v Q I rx ⟨_, rfl, h⟩
        · exact h.elim
      | _ => exact ff hm
    | _ => exact ff hm)
  (fun C e hm => by cases e with | UnaryOp o l p => rfl | _ => exact ff hm)
  (fun C e hm => by cases e with | UnaryOp o l p => (cases o with | USub => rfl | _ => exact ff hm) | _ => exact ff hm)


theorem op_isB {X : Cx} : OpR X (compareOp .Is) (fun x y H Q => ∃ c d, x = .bl c ∧ y = .bl d ∧ Q (.bl (c == d)) H) := by
  intro pins s σ H x y v u Q I rx ry h
  obtain ⟨c, d, rfl, rfl, q⟩ := h
  cases (show v = Value.bool c from rx)
  cases (show u = Value.bool d from ry)
  exact is_bool ⟨.bl _, H, I, rfl, q⟩
theorem op_isnotB {X : Cx} : OpR X (compareOp .IsNot) (fun x y H Q => ∃ c d, x = .bl c ∧ y = .bl d ∧ Q (.bl (c != d)) H) := by
  intro pins s σ H x y v u Q I rx ry h
  obtain ⟨c, d, rfl, rfl, q⟩ := h
  cases (show v = Value.bool c from rx)
  cases (show u = Value.bool d from ry)
  exact isnot_bool ⟨.bl _, H, I, rfl, q⟩
noncomputable def rIs (f : Bool → Bool) : R2 := fun x y H Q => match y with
  | .non => Q (.bl (f (decide (x = .non)))) H
  | .bl d => (match x with
    | .bl c => Q (.bl (f (c == d))) H
    | _ => False)
  | _ => False
noncomputable def rInS (K : PySem.W.Frag) (n : Bool) (f : Bool → Bool) : R2 := fun x y H Q => match y with
  | .ref b => rIn K n x (.ref b) H Q
  | .str j => (match x with
    | .str i => Q (.bl (f (!(Builtin.Str.occurrences j i 0 j.length 1).isEmpty))) H
    | _ => False)
  | _ => False
noncomputable def rCmp (K : PySem.W.Frag) : CmpOp → R2
  | .Eq => fun x y H Q => (scal x y = true ∧ Q (.bl (decide (x = y))) H) ∨ rEqA x y H Q ∨ rEqN x y H Q
  | .NotEq => fun x y H Q => (scal x y = true ∧ Q (.bl (!decide (x = y))) H) ∨ rNeA x y H Q ∨ rNeN x y H Q
  | .Lt => iOp fun i j H Q => Q (.bl (decide (i < j))) H
  | .LtE => iOp fun i j H Q => Q (.bl (decide (i ≤ j))) H
  | .Gt => iOp fun i j H Q => Q (.bl (decide (j < i))) H
  | .GtE => iOp fun i j H Q => Q (.bl (decide (j ≤ i))) H
  | .Is => rIs fun b => b
  | .IsNot => rIs fun b => !b
  | .In => rInS K false fun b => b
  | .NotIn => rInS K true fun b => !b
theorem cmp_ok {X : Cx} (hu : X.A.units + 64 < cLine) (op : CmpOp) : OpR X (compareOp op) (rCmp X.K op) := by
  intro pins s σ H x y v u Q I rx ry h
  cases op with
  | Eq =>
    rcases h with h | h | h
    · exact op_eq pins s σ H _ _ v u Q I rx ry h
    · exact op_eqA hu pins s σ H _ _ v u Q I rx ry h
    · exact op_eqN hu pins s σ H _ _ v u Q I rx ry h
  | NotEq =>
    rcases h with h | h | h
    · exact op_ne pins s σ H _ _ v u Q I rx ry h
    · exact op_neA hu pins s σ H _ _ v u Q I rx ry h
    · exact op_neN hu pins s σ H _ _ v u Q I rx ry h
  | Lt => exact op_lt pins s σ H _ _ v u Q I rx ry (iOp_of (f := fun i j H Q => Q (.bl (decide (i < j))) H) h)
  | LtE => exact op_le pins s σ H _ _ v u Q I rx ry (iOp_of (f := fun i j H Q => Q (.bl (decide (i ≤ j))) H) h)
  | Gt => exact op_gt pins s σ H _ _ v u Q I rx ry (iOp_of (f := fun i j H Q => Q (.bl (decide (j < i))) H) h)
  | GtE => exact op_ge pins s σ H _ _ v u Q I rx ry (iOp_of (f := fun i j H Q => Q (.bl (decide (j ≤ i))) H) h)
  | Is =>
    cases y with
    | non => exact op_isN pins s σ H _ _ v u Q I rx ry ⟨rfl, h⟩
    | bl d => cases x with
      | bl c => exact op_isB pins s σ H _ _ v u Q I rx ry ⟨_, _, rfl, rfl, h⟩
      | _ => exact False.elim h
    | _ => exact False.elim h
  | IsNot =>
    cases y with
    | non => exact op_notN pins s σ H _ _ v u Q I rx ry ⟨rfl, h⟩
    | bl d => cases x with
      | bl c => exact op_isnotB pins s σ H _ _ v u Q I rx ry ⟨_, _, rfl, rfl, h⟩
      | _ => exact False.elim h
    | _ => exact False.elim h
  | In =>
    cases y with
    | ref b => exact op_in_seq pins s σ H _ _ v u Q I rx ry h
    | str j => cases x with
      | str i => exact op_in_str pins s σ H _ _ v u Q I rx ry ⟨_, _, rfl, rfl, h⟩
      | _ => exact False.elim h
    | _ => exact False.elim h
  | NotIn =>
    cases y with
    | ref b => exact op_notIn_seq pins s σ H _ _ v u Q I rx ry h
    | str j => cases x with
      | str i => exact op_notIn_str pins s σ H _ _ v u Q I rx ry ⟨_, _, rfl, rfl, h⟩
      | _ => exact False.elim h
    | _ => exact False.elim h

noncomputable def bV (Q : Bool → Hp → Prop) : V → Hp → Prop
  | .bl b, H => Q b H
  | _, _ => False
noncomputable def rB (r : R2) : V → V → Hp → (Bool → Hp → Prop) → Prop := fun x y H Q => r x y H (bV Q)
theorem bl_of {z : V} {H : Hp} {Q : Bool → Hp → Prop} (h : bV Q z H) : ∃ b, z = .bl b ∧ Q b H := by
  cases z with
  | bl b => exact ⟨b, rfl, h⟩
  | _ => exact h.elim
noncomputable def cmp (op : CmpOp) (a b : EX K) : EX K where
  t := fun E => tOp (rCmp K op) (a.t E) (b.t E)
  tt := fun E σ H Q => a.t E σ H fun x H1 => b.t E σ H1 fun y H2 => rB (rCmp K op) x y H2 Q
  m := fun C e => match e with
    | .Compare l [o] [r] _ => decide (o = op) && (a.m C l && b.m C r)
    | _ => false
  q := fun R => a.q R ∧ b.q R
  s := .pl
  ok := fun X C E e hK G hE hq hm => by
    subst hK
    cases e with
    | Compare l os rs p =>
      match os, rs, hm with
      | [o], [r], hm =>
        simp only [Bool.and_eq_true] at hm
        obtain ⟨h1, h2, h3⟩ := hm
        have e := of_decide_eq_true h1
        subst e
        exact pe_cmpR (cmp_ok G.hu _) (a.ok X C E l rfl G hE hq.1 h2) (b.ok X C E r rfl G hE hq.2 h3) (shp_mark (b.sok C r h3))
    | _ => exact ff hm
  okT := fun X C E e hK G hE hq hm => by
    subst hK
    cases e with
    | Compare l os rs p =>
      match os, rs, hm with
      | [o], [r], hm =>
        simp only [Bool.and_eq_true] at hm
        obtain ⟨h1, h2, h3⟩ := hm
        have e := of_decide_eq_true h1
        subst e
        intro pins s σ H Q I hw
        refine wpAny_isTrue_Compare1 (thn (a.ok X C E l rfl G hE hq.1 h2 pins s σ H _ I hw) fun v s1 ⟨x, H1, I1, r1, q1⟩ => thn (b.ok X C E r rfl G hE hq.2 h3 pins s1 σ H1 _ I1 q1) fun u s2 ⟨y, H2, I2, r2, q2⟩ =>
          thn (cmp_ok G.hu _ pins s2 σ H2 x y v u _ I2 r1 r2 q2) fun c s3 ⟨z, H3, I3, r3, q3⟩ => ?_) (shp_mark (b.sok C r h3))
        obtain ⟨d, rfl, q⟩ := bl_of q3
        cases r3
        exact wpAny_truthy_bool ⟨H3, I3, q⟩
    | _ => exact ff hm
  sok := fun C e hm => by cases e with | Compare l o r p => rfl | _ => exact ff hm

noncomputable def notE (a : EX K) : EX K where
  t := fun E σ H Q => a.t E σ H fun x H1 => rTru K x H1 fun b H2 => Q (.bl (!b)) H2
  tt := fun E σ H Q => a.tt E σ H fun b H1 => Q (!b) H1
  m := fun C e => match e with
    | .UnaryOp .Not l _ => a.m C l
    | _ => false
  q := a.q
  s := .pl
  ok := fun X C E e hK G hE hq hm => by
    subst hK
    cases e with
    | UnaryOp o l p =>
      cases o with
      | Not =>
        intro pins s σ H Q I h
        refine UnaryOp_ (thn (a.ok X C E l rfl G hE hq hm pins s σ H _ I h) fun v s1 ⟨x, H1, I1, r1, q1⟩ => ?_)
        exact not_of (thn (tru_run pins s1 σ H1 x v _ I1 r1 q1) fun b s2 ⟨H2, I2, q2⟩ => ⟨.bl (!b), H2, I2, rfl, q2⟩)
      | _ => exact ff hm
    | _ => exact ff hm
  okT := fun X C E e hK G hE hq hm => by
    cases e with
    | UnaryOp o l p =>
      cases o with
      | Not => exact pt_not (a.okT X C E l hK G hE hq hm)
      | _ => exact ff hm
    | _ => exact ff hm
  sok := fun C e hm => by cases e with | UnaryOp o l p => rfl | _ => exact ff hm

noncomputable def tBop (K : PySem.W.Frag) (op : BoolOp) (E : XS) : TE → List (EX K) → TE
  | t, [] => t
  | t, y :: ys => fun σ H Q => t σ H fun x H1 => rTru K x H1 fun b H2 => match op with
    | .And => br b (tBop K op E (y.t E) ys σ H2 Q) (Q x H2)
    | .Or => br b (Q x H2) (tBop K op E (y.t E) ys σ H2 Q)
noncomputable def tBopT (K : PySem.W.Frag) (op : BoolOp) (E : XS) : TT → List (EX K) → TT
  | t, [] => t
  | t, y :: ys => fun σ H Q => t σ H fun b H1 => match op with
    | .And => br b (tBopT K op E (y.tt E) ys σ H1 Q) (Q false H1)
    | .Or => br b (Q true H1) (tBopT K op E (y.tt E) ys σ H1 Q)
noncomputable def mAs : List (EX K) → Sc → List Expr → Bool
  | [], _, [] => true
  | x :: xs, C, e :: es => x.m C e && mAs xs C es
  | _, _, _ => false
noncomputable def qAs : List (EX K) → Rt → Prop
  | [], _ => True
  | x :: xs, R => x.q R ∧ qAs xs R
theorem bop_ok {X : Cx} {C : Sc} {E : XS} {pos : Pos} (op : BoolOp) (G : Gd X C) (hE : Thr X E) : ∀ (xs : List (EX X.K)) (e : Expr) (es : List Expr) (t : TE), PE X e t → qAs xs (rtOf X) → mAs xs C es = true → PE X (.BoolOp op (e :: es) pos) (tBop X.K op E t xs)
  | [], e, [], t, he, _, _ => pe_one he
  | [], e, _ :: _, t, he, _, hm => nomatch hm
  | x :: xs, e, [], t, he, _, hm => nomatch hm
  | x :: xs, e, e2 :: es, t, he, hq, hm => by
    have hm' : (x.m C e2 && mAs xs C es) = true := hm
    simp only [Bool.and_eq_true] at hm'
    have h2 := bop_ok (pos := pos) op G hE xs e2 es (x.t E) (x.ok X C E e2 rfl G hE hq.1 hm'.1) hq.2 hm'.2
    cases op with
    | And =>
      intro pins s σ H Q I h
      refine BoolOp_and (thn (he pins s σ H _ I h) fun v s1 ⟨y, H1, I1, r1, q1⟩ => ?_)
      refine thn (tru_run pins s1 σ H1 y v _ I1 r1 q1) fun b s2 ⟨H2, I2, q2⟩ => ?_
      cases b with
      | true => exact h2 pins s2 σ H2 Q I2 (q2.1 rfl)
      | false => exact ⟨y, H2, I2, r1, q2.2 rfl⟩
    | Or =>
      intro pins s σ H Q I h
      refine BoolOp_or (thn (he pins s σ H _ I h) fun v s1 ⟨y, H1, I1, r1, q1⟩ => ?_)
      refine thn (tru_run pins s1 σ H1 y v _ I1 r1 q1) fun b s2 ⟨H2, I2, q2⟩ => ?_
      cases b with
      | true => exact ⟨y, H2, I2, r1, q2.1 rfl⟩
      | false => exact h2 pins s2 σ H2 Q I2 (q2.2 rfl)
theorem bopT_ok {X : Cx} {C : Sc} {E : XS} {pos : Pos} (op : BoolOp) (G : Gd X C) (hE : Thr X E) : ∀ (xs : List (EX X.K)) (e : Expr) (es : List Expr) (t : TT), PT X e t → qAs xs (rtOf X) → mAs xs C es = true → PW X (.BoolOp op (e :: es) pos) (tBopT X.K op E t xs)
  | [], e, [], t, he, _, _ => by
    cases op with
    | And => exact pw_and1 he
    | Or => exact pw_or1 he
  | [], e, _ :: _, t, he, _, hm => nomatch hm
  | x :: xs, e, [], t, he, _, hm => nomatch hm
  | x :: xs, e, e2 :: es, t, he, hq, hm => by
    have hm' : (x.m C e2 && mAs xs C es) = true := hm
    simp only [Bool.and_eq_true] at hm'
    have h2 := bopT_ok (pos := pos) op G hE xs e2 es (x.tt E) (x.okT X C E e2 rfl G hE hq.1 hm'.1) hq.2 hm'.2
    cases op with
    | And =>
      intro wh pins s σ H Q I h
      refine isTrue_and (thn (he pins s σ H _ I h) fun b s1 ⟨H1, I1, q1⟩ => ?_)
      cases b with
      | true => exact h2 wh pins s1 σ H1 Q I1 (q1.1 rfl)
      | false => exact ⟨H1, I1, q1.2 rfl⟩
    | Or =>
      intro wh pins s σ H Q I h
      refine isTrue_or (thn (he pins s σ H _ I h) fun b s1 ⟨H1, I1, q1⟩ => ?_)
      cases b with
      | true => exact ⟨H1, I1, q1.1 rfl⟩
      | false => exact h2 wh pins s1 σ H1 Q I1 (q1.2 rfl)
noncomputable def bop (op : BoolOp) (x : EX K) (xs : List (EX K)) : EX K where
  t := fun E => tBop K op E (x.t E) xs
  tt := fun E => tBopT K op E (x.tt E) xs
  m := fun C e => match e with
    | .BoolOp o (l :: ls) _ => decide (o = op) && (x.m C l && mAs xs C ls)
    | _ => false
  q := fun R => x.q R ∧ qAs xs R
  s := .pl
  ok := fun X C E e hK G hE hq hm => by
    subst hK
    cases e with
    | BoolOp o ls p =>
      cases ls with
      | nil => cases hm
      | cons l ls =>
        simp only [Bool.and_eq_true] at hm
        obtain ⟨h1, h2, h3⟩ := hm
        have e := of_decide_eq_true h1
        subst e
        exact bop_ok _ G hE xs l ls _ (x.ok X C E l rfl G hE hq.1 h2) hq.2 h3
    | _ => exact ff hm
  okT := fun X C E e hK G hE hq hm => by
    subst hK
    cases e with
    | BoolOp o ls p =>
      cases ls with
      | nil => cases hm
      | cons l ls =>
        simp only [Bool.and_eq_true] at hm
        obtain ⟨h1, h2, h3⟩ := hm
        have e := of_decide_eq_true h1
        subst e
        exact (bopT_ok _ G hE xs l ls _ (x.okT X C E l rfl G hE hq.1 h2) hq.2 h3).pt
    | _ => exact ff hm
  sok := fun C e hm => by cases e with | BoolOp o l p => rfl | _ => exact ff hm
noncomputable def andE (x : EX K) (xs : List (EX K)) : EX K := bop .And x xs
noncomputable def orE (x : EX K) (xs : List (EX K)) : EX K := bop .Or x xs
end
end L2.Na




namespace L2.Na
open PySem PySem.Spec PyProof.Rows L2 L2.L3
section
variable {K : PySem.W.Frag}
noncomputable def tAs : List (EX K) → XS → TA
  | [], _ => tNil
  | x :: xs, E => tCons (x.t E) (tAs xs E)
theorem mAs_cons {x : EX K} {xs : List (EX K)} {C : Sc} {e : Expr} {es : List Expr} (h : mAs (x :: xs) C (e :: es) = true) : x.m C e = true ∧ mAs xs C es = true := by
  have h' : (x.m C e && mAs xs C es) = true := h
  simpa only [Bool.and_eq_true] using h'
theorem as_ok {X : Cx} {C : Sc} {E : XS} (G : Gd X C) (hE : Thr X E) : ∀ (xs : List (EX X.K)) (es : List Expr), qAs xs (rtOf X) → mAs xs C es = true → PA X es (tAs xs E)
  | [], [], _, _ => pa_nil
  | [], _ :: _, _, hm => nomatch hm
  | _ :: _, [], _, hm => nomatch hm
  | x :: xs, e :: es, hq, hm => pa_cons (x.ok X C E e rfl G hE hq.1 (mAs_cons hm).1) (as_ok G hE xs es hq.2 (mAs_cons hm).2) (shp_star (x.sok C e (mAs_cons hm).1))
theorem as_plain {C : Sc} {env : Env} {pos : Pos} : ∀ (xs : List (EX K)) (es : List Expr), mAs xs C es = true → (backTo pos (starEach es env)).any (·.1) = false
  | [], [], _ => rfl
  | [], _ :: _, hm => nomatch hm
  | _ :: _, [], hm => nomatch hm
  | x :: xs, e :: es, hm => by
    rw [shp_star (x.sok C e (mAs_cons hm).1)]
    show (false || (backTo pos (starEach es env)).any (·.1)) = false
    rw [as_plain xs es (mAs_cons hm).2]
    rfl
theorem as_none {C : Sc} {env : Env} {pos : Pos} : ∀ (xs : List (EX K)) (es : List Expr), mAs xs C es = true → (backTo pos (starEach es env)).all (fun x => !x.1) = true
  | [], [], _ => rfl
  | [], _ :: _, hm => nomatch hm
  | _ :: _, [], hm => nomatch hm
  | x :: xs, e :: es, hm => by
    rw [shp_star (x.sok C e (mAs_cons hm).1)]
    show (true && (backTo pos (starEach es env)).all (fun x => !x.1)) = true
    rw [as_none xs es (mAs_cons hm).2]
    rfl
noncomputable def shA : List (EX K) → Shp
  | [] => .zc
  | _ => .pl
theorem shA_ok {C : Sc} {y : Str} {p q : Pos} : ∀ (xs : List (EX K)) (es : List Expr), mAs xs C es = true → shpOf (.Call (.Name y p) es [] q) = some (shA xs)
  | [], [], _ => rfl
  | [], _ :: _, hm => nomatch hm
  | _ :: _, [], hm => nomatch hm
  | _ :: _, _ :: _, _ => rfl

noncomputable def tCallS (sp : Sp) (E : XS) (t : TA) : TE := fun σ H Q => t σ H fun vs H1 => sp vs H1 Q (E σ)
theorem run_own {X : Cx} {E : XS} {k : Nat} {f : Addr} {fd : FuncData} {ps : List Str} {sp : Sp} {pins : List (Addr × Obj)} {σ : St} {H1 : Hp} {s1 : Shared} {Q1 : VK} {us : List Value} {vs : List V} (hE : Thr X E) (F : FnOk X.prog X.w X.K X.mg X.base (CXF X.prog X.w) k f fd ps sp)
    (room : Room k X.A) (bd : Binds X.K fd ps []) (I1 : Inv X pins σ H1 s1) (rl : Vals vs us) (pr : sp vs H1 Q1 (E σ)) : wpAny (model X.prog X.w) X.A (PySem.call (.ref f) us) (EP X pins σ Q1) X.xe s1 := by
  have ln : (us ++ []).length = ps.length := by rw [List.append_nil, ← rl.length]; exact F.len _ _ _ _ pr
  have b := bd s1 us I1.kIn ln
  rw [List.append_nil] at b
  refine wpAny_call (codeAny_mono (F.run X.A X.stack s1 H1 ⟨us, []⟩ us vs Q1 (E σ) room I1.env0 b rl pr) fun res s2 fin => ?_)
  cases res with
  | error ev => exact hE.pass pins σ H1 s1 ev s2 I1 fin
  | ok fl =>
    cases fl with
    | ret v => exact I1.after fin
    | next => exact fin.elim
    | brk => exact fin.elim
    | cont => exact fin.elim

noncomputable def call (x : Str) (sp : Sp) (as : List (EX K)) : EX K := mkE (fun E => tCallS sp E (tAs as E))
  (fun C e => match e with
    | .Call (.Name y _) es [] _ => glB C x y && mAs as C es
    | _ => false) (fun R => FnAt R x sp ∧ qAs as R) (shA as)
  (fun X C E e hK G hE hq hm => by
    subst hK
    cases e with
    | Call f es ks p =>
      cases f with
      | Name y py =>
        cases ks with
        | nil =>
          simp only [Bool.and_eq_true] at hm
          obtain ⟨h1, h2⟩ := hm
          have e := glB_eq h1
          subst e
          obtain ⟨g, d⟩ := glB_gl G h1
          obtain ⟨⟨k, f, fd, ps, hr, F, hb, kp, hg⟩, hqa⟩ := hq
          cases as with
          | nil =>
            cases es with
            | nil =>
              intro pins s σ H Q I h
              exact wpAny_Call_Name_kw (ld_glob I g hg (PySem.W.callWith_K0 I.kIn kp (run_own (us := []) hE F hr hb I .nil h)) d)
            | cons _ _ => cases h2
          | cons a as =>
            cases es with
            | nil => cases h2
            | cons e es =>
              intro pins s σ H Q I h
              exact wpAny_Call_Name_kw (ld_glob I g hg (PySem.W.callWith_K (h₀ := X.base) I.ok.mod.kin kp (thn (as_ok G hE (a :: as) (e :: es) hqa h2 p pins s σ H _ I h) fun us s1 ⟨vs, H1, I1, r, q⟩ => ⟨I1.kIn, run_own hE F hr hb I1 r q⟩) (shp_star (a.sok C e (mAs_cons h2).1)) (as_plain as es (mAs_cons h2).2)) d)
        | cons _ _ => cases hm
      | _ => exact ff hm
    | _ => exact ff hm)
  (fun C e hm => by
    cases e with
    | Call f es ks p =>
      cases f with
      | Name y py =>
        cases ks with
        | nil =>
          simp only [Bool.and_eq_true] at hm
          exact shA_ok as es hm.2
        | cons _ _ => cases hm
      | _ => exact ff hm
    | _ => exact ff hm)
  (fun C e hm => by cases e with | Call f es ks p => rfl | _ => exact ff hm)

noncomputable def bfn (x : Str) (id : String) (r : List V → Hp → VK → Prop) (ok : ∀ X : Cx, X.K = K → X.calm = true → X.A.units + 64 < cLine → CallR X (.builtin id) r) (hb : bootBuiltins x = some (.builtin id)) (hi : x ∈ blts) (hn : x ≠ "__name__") (a : EX K) (as : List (EX K)) : EX K :=
  mkE (fun E => tCB r (tAs (a :: as) E))
  (fun C e => match e with
    | .Call (.Name y _) es [] _ => (C.cm && glB C x y) && mAs (a :: as) C es
    | _ => false) (fun R => qAs (a :: as) R) .pl
  (fun X C E e hK G hE hq hm => by
    subst hK
    cases e with
    | Call f es ks p =>
      cases f with
      | Name y py =>
        cases ks with
        | nil =>
          simp only [Bool.and_eq_true] at hm
          obtain ⟨⟨hcm, h1⟩, h2⟩ := hm
          have e := glB_eq h1
          subst e
          obtain ⟨g, d⟩ := glB_gl G h1
          cases es with
          | nil => cases h2
          | cons e es => exact pe_callB (ok X rfl (G.calm hcm) G.hu) g (G.bl _ hi) hb (as_ok G hE (a :: as) (e :: es) hq h2) hn d (shp_star (a.sok C e (mAs_cons h2).1)) (as_plain as es (mAs_cons h2).2)
        | cons _ _ => cases hm
      | _ => exact ff hm
    | _ => exact ff hm)
  (fun C e hm => by
    cases e with
    | Call f es ks p =>
      cases f with
      | Name y py =>
        cases ks with
        | nil =>
          simp only [Bool.and_eq_true] at hm
          exact shA_ok (a :: as) es hm.2
        | cons _ _ => cases hm
      | _ => exact ff hm
    | _ => exact ff hm)
  (fun C e hm => by cases e with | Call f es ks p => rfl | _ => exact ff hm)

noncomputable def bfT (x : Str) (T : String) (r : List V → Hp → VK → Prop) (ok : ∀ X : Cx, X.K = K → X.calm = true → X.A.units + 64 < cLine → CallR X (.type T) r) (hb : bootBuiltins x = some (.type T)) (hi : x ∈ blts) (hn : x ≠ "__name__") (a : EX K) (as : List (EX K)) : EX K :=
  mkE (fun E => tCB r (tAs (a :: as) E))
  (fun C e => match e with
    | .Call (.Name y _) es [] _ => (C.cm && glB C x y) && mAs (a :: as) C es
    | _ => false) (fun R => qAs (a :: as) R) .pl
  (fun X C E e hK G hE hq hm => by
    subst hK
    cases e with
    | Call f es ks p =>
      cases f with
      | Name y py =>
        cases ks with
        | nil =>
          simp only [Bool.and_eq_true] at hm
          obtain ⟨⟨hcm, h1⟩, h2⟩ := hm
          have e := glB_eq h1
          subst e
          obtain ⟨g, d⟩ := glB_gl G h1
          cases es with
          | nil => cases h2
          | cons e es => exact pe_callTy (ok X rfl (G.calm hcm) G.hu) g (G.bl _ hi) hb (as_ok G hE (a :: as) (e :: es) hq h2) hn d (shp_star (a.sok C e (mAs_cons h2).1)) (as_plain as es (mAs_cons h2).2)
        | cons _ _ => cases hm
      | _ => exact ff hm
    | _ => exact ff hm)
  (fun C e hm => by
    cases e with
    | Call f es ks p =>
      cases f with
      | Name y py =>
        cases ks with
        | nil =>
          simp only [Bool.and_eq_true] at hm
          exact shA_ok (a :: as) es hm.2
        | cons _ _ => cases hm
      | _ => exact ff hm
    | _ => exact ff hm)
  (fun C e hm => by cases e with | Call f es ks p => rfl | _ => exact ff hm)


noncomputable def rLen (K : PySem.W.Frag) : List V → Hp → VK → Prop
  | [.str z], H, Q => z.length ≤ sizeLine ∧ Q (.int z.length) H
  | [.ref a], H, Q => (∃ n, LenV K (.ref a) H n ∧ Q (.int n) H) ∨ ∃ kvs, H a = some (.dK kvs) ∧ Q (.int kvs.length) H
  | _, _, _ => False
theorem callLenD {X : Cx} : CallR X (.builtin "len") (fun xs H Q => ∃ a kvs, xs = [V.ref a] ∧ H a = some (.dK kvs) ∧ Q (.int kvs.length) H) := by
  intro pins s σ H xs us Q I r h
  obtain ⟨a, kvs, rfl, ha, q⟩ := h
  obtain ⟨u, rfl, ru⟩ := vals1 r
  cases ru
  exact d_len I (.inl ha) fun t s' I' => ⟨.int kvs.length, H, I', ⟨t, rfl⟩, q⟩
theorem len_ok (X : Cx) : CallR X (.builtin "len") (rLen X.K) := by
  intro pins s σ H xs us Q I r h
  unfold rLen at h
  split at h
  · exact call_len pins s σ H _ us Q I r ⟨_, _, rfl, ⟨h.1, rfl⟩, h.2⟩
  · rcases h with ⟨n, h1, h2⟩ | ⟨kvs, h1, h2⟩
    · exact call_len pins s σ H _ us Q I r ⟨_, n, rfl, h1, h2⟩
    · exact callLenD pins s σ H _ us Q I r ⟨_, kvs, rfl, h1, h2⟩
  · exact h.elim
noncomputable def len (a : EX K) : EX K := bfn "len" "len" (rLen K) (fun X hK _ _ => by subst hK; exact len_ok X) PySem.boot_len (by decide +kernel) (by decide +kernel) a []
noncomputable def sum (a : EX K) : EX K := bfn "sum" "sum" rSum (fun X hK hc _ => call_sum hc) PyProof.Rows.Boot.sum (by decide +kernel) (by decide +kernel) a []
noncomputable def allE (a : EX K) : EX K := bfn "all" "all" (rAll K) (fun X hK hc _ => by subst hK; exact call_all hc) PyProof.Rows.Boot.all (by decide +kernel) (by decide +kernel) a []
noncomputable def rMin2 : List V → Hp → VK → Prop
  | [.int i, .int j], H, Q => Q (.int (min i j)) H
  | _, _, _ => False
theorem min_ok {X : Cx} (hc : X.calm = true) : CallR X (.builtin "min") rMin2 := by
  intro pins s σ H xs us Q I r h
  unfold rMin2 at h
  split at h
  · rename_i i j
    refine call_min2 hc pins s σ H _ us Q I r ⟨i, j, rfl, ?_⟩
    have e : (if j < i then j else i) = min i j := by split <;> omega
    rw [e]; exact h
  · exact h.elim
noncomputable def min2 (a b : EX K) : EX K := bfn "min" "min" rMin2 (fun X hK hc _ => min_ok hc) PyProof.Rows.Boot.min (by decide +kernel) (by decide +kernel) a [b]

noncomputable def rIsiV (K : PySem.W.Frag) : List V → Hp → VK → Prop
  | [x, .ty n], H, Q => ∃ t b, TyOf K H x t ∧ PySem.W.kitOne K t (.type n) = some b ∧ Q (.bl b) H
  | _, _, _ => False
theorem isi_ok (X : Cx) : CallR X (.builtin "isinstance") (rIsiV X.K) := by
  intro pins s σ H xs us Q I r h
  unfold rIsiV at h
  split at h
  · obtain ⟨t, b, h1, h2, h3⟩ := h
    exact call_isi pins s σ H _ us Q I r ⟨_, _, t, b, rfl, h1, h2, h3⟩
  · exact h.elim
noncomputable def isi (a b : EX K) : EX K := bfn "isinstance" "isinstance" (rIsiV K) (fun X hK _ _ => by subst hK; exact isi_ok X) PyProof.Rows.Boot.isinstance (by decide +kernel) (by decide +kernel) a [b]
noncomputable def tyBool : EX K := bty "bool" "bool" PyProof.Rows.Boot.bool (by decide +kernel) (by decide +kernel)
noncomputable def tyTuple : EX K := bty "tuple" "tuple" PyProof.Rows.Boot.tuple (by decide +kernel) (by decide +kernel)
noncomputable def rListOf (K : PySem.W.Frag) : List V → Hp → VK → Prop
  | [.ref p], H, Q => ∃ ys, (SqL K H p ys ∨ SqT K H p ys) ∧ ∀ l, H l = none → Q (.ref l) (upd H l (.lst ys))
  | _, _, _ => False
noncomputable def rTupOf (K : PySem.W.Frag) : List V → Hp → VK → Prop
  | [.ref p], H, Q => (∃ ys, SqL K H p ys ∧ ∀ l, H l = none → Q (.ref l) (upd H l (.tup ys))) ∨ ∃ ys, SqT K H p ys ∧ Q (.ref p) H
  | _, _, _ => False
theorem tuple_ok (X : Cx) : CallR X (.type "tuple") (rTupOf X.K) := by
  intro pins s σ H xs us Q I r h
  unfold rTupOf at h
  split at h
  · rcases h with ⟨ys, h1, h2⟩ | ⟨ys, h1, h2⟩
    · exact call_tuple_of pins s σ H _ us Q I r ⟨_, ys, rfl, .inl ⟨h1, h2⟩⟩
    · exact call_tuple_of pins s σ H _ us Q I r ⟨_, ys, rfl, .inr ⟨h1, h2⟩⟩
  · exact h.elim
noncomputable def tupleE (a : EX K) : EX K := bfT "tuple" "tuple" (rTupOf K) (fun X hK _ _ => by subst hK; exact tuple_ok X) PyProof.Rows.Boot.tuple (by decide +kernel) (by decide +kernel) a []


theorem pe_bmG {X : Cx} {o : Expr} {es : List Expr} {to : TE} {name : Str} {apos cpos : Pos} {T id : String} {r : V → List V → Hp → VK → Prop} {RR : V → St → Hp → VK → Prop} {C : Sc} {E : XS} {xs : List (EX X.K)}
    (pa : PlainAttrs T) (slot : Slot T name id) (hty : typeOf (.builtin id) = pure (.type "method_descriptor")) (hm : MtR X id r) (ho : PE X o to) (ha : PA X es (tAs xs E))
    (hR : ∀ x σ H Q, RR x σ H Q → tyV X.K T x H ∧ tAs xs E σ H fun ys H2 => r x ys H2 Q)
    (hbase : attributeBase o name X.env (eval o X.env) = eval o X.env) (hx : mAs xs C es = true) (h30 : es.length < 30) (hline : (apos.endLine == cpos.line) = true) :
    PE X (.Call (.Attribute o name apos) es [] cpos) (fun σ H Q => to σ H fun x H1 => RR x σ H1 Q) := by
  intro pins s σ H Q I h
  cases es with
  | nil =>
    refine wpAny_Call_method0_late hbase hline (thn (ho pins s σ H _ I h) fun v s1 ⟨x, H1, I1, r1, q0⟩ => ?_)
    obtain ⟨ty, q1⟩ := hR x σ H1 Q q0
    obtain ⟨h1, h2⟩ := tyV_is I1 r1 ty
    cases xs with
    | nil => exact ⟨T, id, pa, slot, hty, h1, h2, Calls.callWith_builtin rfl (PySem.evalArgs_none (hm pins s1 σ H1 x [] v [] Q I1 r1 .nil q1))⟩
    | cons _ _ => cases hx
  | cons e es =>
    cases xs with
    | nil => cases hx
    | cons a as =>
      have hs := shp_star (env := X.env) (es := es) (a.sok C e (mAs_cons hx).1)
      have hplain := as_plain (env := X.env) (pos := cpos) as es (mAs_cons hx).2
      have hfew : ((backTo cpos (starEach (e :: es) X.env)).all (fun x => !x.1) && (backToKw cpos (keywordEach [] X.env)).all (fun x => x.1.isSome)
          && decide ((e :: es).length + ([] : List Keyword).length + (if ([] : List Keyword).isEmpty then 0 else 1) < 30)) = true := by
        rw [as_none (env := X.env) (pos := cpos) (a :: as) (e :: es) hx]
        have h30' : (e :: es).length + ([] : List Keyword).length + (if ([] : List Keyword).isEmpty then 0 else 1) < 30 := h30
        rw [decide_eq_true h30']
        rfl
      refine wpAny_Call_method_late hbase hfew hline rfl (thn (ho pins s σ H _ I h) fun v s1 ⟨x, H1, I1, r1, q0⟩ => ?_)
      obtain ⟨ty, q1⟩ := hR x σ H1 Q q0
      obtain ⟨h1, h2⟩ := tyV_is I1 r1 ty
      refine ⟨T, id, pa, slot, hty, h1, h2, ?_⟩
      have hA := ha cpos pins s1 σ H1 _ I1 q1
      rw [hs] at hA ⊢
      refine Calls.callWith_builtin (by show (false || (backTo cpos (starEach es X.env)).any (·.1)) = false; rw [hplain] <;> rfl) (Calls.evalArgs_plain ?_)
      exact thn hA fun us s2 ⟨vs, H2, I2, r2, q2⟩ => hm pins s2 σ H2 x vs v us Q I2 r1 r2 q2
noncomputable def methG (name : Str) (T id : String) (r : V → List V → Hp → VK → Prop) (RR : TA → V → St → Hp → VK → Prop) (pa : PlainAttrs T) (slot : Slot T name id) (hty : typeOf (.builtin id) = pure (.type "method_descriptor")) (ok : ∀ X : Cx, X.K = K → X.calm = true → X.A.units + 64 < cLine → MtR X id r)
    (hR : ∀ t x σ H Q, RR t x σ H Q → tyV K T x H ∧ t σ H fun ys H2 => r x ys H2 Q) (o : EX K) (ho : o.s ≠ .zc) (as : List (EX K)) : EX K := mkE (fun E σ H Q => o.t E σ H fun x H1 => RR (tAs as E) x σ H1 Q)
  (fun C e => match e with
    | .Call (.Attribute l y p) es [] p2 => (y == name && (C.cm && (p.endLine == p2.line && decide (es.length < 30)))) && (o.m C l && mAs as C es)
    | _ => false) (fun R => o.q R ∧ qAs as R) .pl
  (fun X C E e hK G hE hq hm => by
    subst hK
    cases e with
    | Call f es ks p =>
      cases f with
      | Attribute l y py =>
        cases ks with
        | nil =>
          simp only [Bool.and_eq_true] at hm
          obtain ⟨⟨h1, hcm, h2, h3⟩, h4, h5⟩ := hm
          have e := eq_of_beq h1
          subst e
          exact pe_bmG pa slot hty (ok X rfl (G.calm hcm) G.hu) (o.ok X C E l rfl G hE hq.1 h4) (as_ok G hE as es hq.2 h5) (hR _) (shp_base (o.sok C l h4) ho) h5 (of_decide_eq_true h3) h2
        | cons _ _ => cases hm
      | _ => exact ff hm
    | _ => exact ff hm)
  (fun C e hm => by
    cases e with
    | Call f es ks p =>
      cases f with
      | Attribute l y py => rfl
      | _ => exact ff hm
    | _ => exact ff hm)
  (fun C e hm => by cases e with | Call f es ks p => rfl | _ => exact ff hm)

noncomputable def RS (r : Str → List V → Hp → VK → Prop) (t : TA) : V → St → Hp → VK → Prop
  | .str z, σ, H, Q => t σ H fun ys H2 => r z ys H2 Q
  | _, _, _, _ => False
noncomputable def rS (r : Str → List V → Hp → VK → Prop) : V → List V → Hp → VK → Prop
  | .str z, ys, H, Q => r z ys H Q
  | _, _, _, _ => False
noncomputable def methS (name : Str) (id : String) (r : Str → List V → Hp → VK → Prop) (slot : Slot "str" name id) (hty : typeOf (.builtin id) = pure (.type "method_descriptor")) (ok : ∀ X : Cx, X.K = K → X.calm = true → X.A.units + 64 < cLine → MtR X id (rS r)) (o : EX K) (ho : o.s ≠ .zc) (as : List (EX K)) : EX K :=
  methG name "str" id (rS r) (RS r) PySem.F.plainAttrs_str slot hty ok (fun t x σ H Q h => by
    cases x with
    | str z => exact ⟨rfl, h⟩
    | _ => exact h.elim) o ho as

noncomputable def RL (K : PySem.W.Frag) (r : V → List V → Hp → VK → Prop) (t : TA) : V → St → Hp → VK → Prop
  | .ref p, σ, H, Q => (∃ xs, SqL K H p xs) ∧ t σ H fun ys H2 => r (.ref p) ys H2 Q
  | _, _, _, _ => False
noncomputable def methL (name : Str) (id : String) (r : V → List V → Hp → VK → Prop) (slot : Slot "list" name id) (hty : typeOf (.builtin id) = pure (.type "method_descriptor")) (ok : ∀ X : Cx, X.K = K → X.calm = true → X.A.units + 64 < cLine → MtR X id r) (o : EX K) (ho : o.s ≠ .zc) (as : List (EX K)) : EX K :=
  methG name "list" id r (RL K r) PySem.F.plainAttrs_list slot hty ok (fun t x σ H Q h => by
    cases x with
    | ref p => exact ⟨.inl ⟨rfl, h.1⟩, h.2⟩
    | _ => exact h.elim) o ho as


theorem ix_dict {X : Cx} (hu : X.A.units + 1 < cLine) : IxR X (fun x y H Q => ∃ a v, x = .ref a ∧ DGet H a y (some v) ∧ Q v H) := by
  intro value slice pins s σ H x y v u Q I rx ry h hs
  obtain ⟨a, z, rfl, g, q⟩ := h
  obtain rfl : v = Value.ref a := rx
  exact tail_any (dict_typeIs I g) PySem.F.slot_dict_getitem.lookup (d_getItem hu I g ry fun w' s3 I3 rw' => ⟨z, H, I3, rw', q⟩) hs
noncomputable def rIxU (K : PySem.W.Frag) : R2
  | .str z, .int i, H, Q => z.length ≤ sizeLine ∧ ∃ c, atI z.cps.toList i = some c ∧ Q (sgn c) H
  | .ref a, y, H, Q => rIxL K (.ref a) y H Q ∨ rIxT K (.ref a) y H Q ∨ ∃ v, DGet H a y (some v) ∧ Q v H
  | _, _, _, _ => False
theorem ix_ok {X : Cx} (hu : X.A.units + 1 < cLine) : IxR X (rIxU X.K) := by
  intro value slice pins s σ H x y v u Q I rx ry h hs
  unfold rIxU at h
  split at h
  · obtain ⟨h1, c, h2, h3⟩ := h
    exact ix_str value slice pins s σ H _ _ v u Q I rx ry ⟨_, _, c, rfl, rfl, h1, h2, h3⟩ hs
  · rcases h with h | h | ⟨z, h, q⟩
    · exact ix_list value slice pins s σ H _ _ v u Q I rx ry h hs
    · exact ix_tup value slice pins s σ H _ _ v u Q I rx ry h hs
    · exact ix_dict hu value slice pins s σ H _ _ v u Q I rx ry ⟨_, z, rfl, h, q⟩ hs
  · exact h.elim
noncomputable def ix (a b : EX K) : EX K := mkE2 (fun E => tOp (rIxU K) (a.t E) (b.t E))
  (fun C e => match e with
    | .Subscript l r _ => a.m C l && b.m C r
    | _ => false) (fun R => a.q R ∧ b.q R) .pl
  (fun X C E e hK G hE hq hm => by
    subst hK
    cases e with
    | Subscript l r p =>
      simp only [Bool.and_eq_true] at hm
      exact pe_ix (ix_ok (by have := G.hu; omega)) (a.ok X C E l rfl G hE hq.1 hm.1) (b.ok X C E r rfl G hE hq.2 hm.2) (shp_ix (b.sok C r hm.2))
    | _ => exact ff hm)
  (fun C e hm => by cases e with | Subscript l r p => exact ⟨rfl, rfl⟩ | _ => exact ff hm)
noncomputable def rO (QO : Option Int → Hp → Prop) : V → Hp → Prop
  | .int i, H => QO (some i) H
  | _, _ => False
noncomputable def tO (E : XS) : Option (EX K) → TO
  | none => tNoPart
  | some x => fun σ H Q => x.t E σ H (rO Q)
noncomputable def mO : Option (EX K) → Sc → Option Expr → Bool
  | none, _, none => true
  | some x, C, some e => x.m C e
  | _, _, _ => false
noncomputable def qO : Option (EX K) → Rt → Prop
  | none, _ => True
  | some x, R => x.q R
theorem o_ok {X : Cx} {C : Sc} {E : XS} (G : Gd X C) (hE : Thr X E) : ∀ (o : Option (EX X.K)) (e : Option Expr), qO o (rtOf X) → mO o C e = true → PO X e (tO E o)
  | none, none, _, _ => po_none
  | none, some _, _, hm => nomatch hm
  | some _, none, _, hm => nomatch hm
  | some x, some e, hq, hm => by
    intro pins s σ H Q I hw
    rw [evalPart_some]
    refine thn (x.ok X C E e rfl G hE hq hm pins s σ H _ I hw) fun u s1 ⟨y, H1, I1, r1, q1⟩ => ?_
    cases y with
    | int i =>
      obtain ⟨t, rfl⟩ := r1
      exact ⟨some i, H1, I1, .int i t, q1⟩
    | _ => exact q1.elim
noncomputable def rSlU (K : PySem.W.Frag) : V → Option Int → Option Int → Hp → VK → Prop
  | .str z, lo, hi, H, Q => z.length ≤ sizeLine ∧ Q (.str (Txt.slice z lo hi)) H
  | .ref a, lo, hi, H, Q => rSlL K (.ref a) lo hi H Q ∨ rSlT K (.ref a) lo hi H Q
  | _, _, _, _, _ => False
theorem sl_ok {X : Cx} : SlR X (rSlU X.K) := by
  intro pins s σ H x v vl vu lo hi sl Q I rx hs pl pu h
  unfold rSlU at h
  split at h
  · exact sl_str pins s σ H _ v vl vu _ _ sl Q I rx hs pl pu ⟨_, rfl, h.1, h.2⟩
  · rcases h with h | h
    · exact sl_list pins s σ H _ v vl vu _ _ sl Q I rx hs pl pu h
    · exact sl_tup pins s σ H _ v vl vu _ _ sl Q I rx hs pl pu h
  · exact h.elim
noncomputable def slc (a : EX K) (lo hi : Option (EX K)) : EX K := mkE2 (fun E => tSl (rSlU K) (a.t E) (tO E lo) (tO E hi))
  (fun C e => match e with
    | .Subscript l (.Slice x y none _) _ => a.m C l && (mO lo C x && mO hi C y)
    | _ => false) (fun R => a.q R ∧ qO lo R ∧ qO hi R) .pl
  (fun X C E e hK G hE hq hm => by
    subst hK
    cases e with
    | Subscript l r p =>
      cases r with
      | Slice x y z p2 =>
        cases z with
        | none =>
          simp only [Bool.and_eq_true] at hm
          exact pe_slice sl_ok (a.ok X C E l rfl G hE hq.1 hm.1) (o_ok G hE lo x hq.2.1 hm.2.1) (o_ok G hE hi y hq.2.2 hm.2.2)
        | some _ => cases hm
      | _ => exact ff hm
    | _ => exact ff hm)
  (fun C e hm => by cases e with | Subscript l r p => exact ⟨rfl, rfl⟩ | _ => exact ff hm)


noncomputable def lst (as : List (EX K)) : EX K := mkE2 (fun E => tLst (tAs as E))
  (fun C e => match e with
    | .List es _ => mAs as C es
    | _ => false) (fun R => qAs as R) .pl
  (fun X C E e hK G hE hq hm => by
    subst hK
    cases e with
    | List es p => exact pe_lst (as_ok G hE as es hq hm)
    | _ => exact ff hm)
  (fun C e hm => by cases e with | List es p => exact ⟨rfl, rfl⟩ | _ => exact ff hm)
noncomputable def tup (as : List (EX K)) : EX K := mkE2 (fun E => tTup (tAs as E))
  (fun C e => match e with
    | .Tuple es _ _ => mAs as C es
    | _ => false) (fun R => qAs as R) .pl
  (fun X C E e hK G hE hq hm => by
    subst hK
    cases e with
    | Tuple es k p => exact pe_tup (as_ok G hE as es hq hm)
    | _ => exact ff hm)
  (fun C e hm => by cases e with | Tuple es k p => exact ⟨rfl, rfl⟩ | _ => exact ff hm)
end
end L2.Na




namespace L2.Na
open PySem PySem.Spec PyProof.Rows L2 L2.L3
section
variable {K : PySem.W.Frag}

theorem shp_sole {e t : Expr} {line : Nat} {env : Env} {s : Shp} (h : shpOf e = some s) (hs : s ≠ .cp) : swapsWithSole [t] e line env = pure false := shp_swap (tgt := some t) h hs
structure IX (K : PySem.W.Frag) where
  t : XS → TI
  tm : Expr → Bool
  m : Sc → Expr → Bool
  q : Rt → Prop
  ok : ∀ (X : Cx) (C : Sc) (E : XS) (tg e : Expr), X.K = K → Gd X C → Thr X E → q (rtOf X) → tm tg = true → m C e = true → PI X tg e (t E)
  fs : ∀ (C : Sc) (e : Expr) (env : Env) (x : Value), m C e = true → foldedSetIterable e env x = pure x
noncomputable def rIter (K : PySem.W.Frag) : V → Hp → (It → Hp → Prop) → Prop
  | .str z, H, R => R (Its z) H
  | .ref a, H, R => ((∃ xs, SqL K H a xs) ∧ R (Itl K a) H) ∨ ((∃ xs, SqT K H a xs) ∧ R (Itt K a) H)
  | _, _, _ => False
theorem iter_run {X : Cx} {tg : Expr} {pins : List (Addr × Obj)} {s1 : Shared} {σ : St} {H1 : Hp} {x : V} {v : Value} {R : It → Hp → Prop} (I1 : Inv X pins σ H1 s1) (r1 : RelV x v) (q1 : rIter X.K x H1 R) :
    wpAny (model X.prog X.w) X.A (pyIter v) (PIE X pins σ tg R) X.xe s1 := by
  unfold rIter at q1
  split at q1
  · rename_i z
    obtain ⟨t, rfl⟩ := r1
    have fin : ∀ T : String, (T = "str_ascii_iterator" ∨ T = "str_iterator") → PIE X pins σ tg R (.ref s1.heap.objs.size) { s1 with heap := s1.heap.push { cls := .type T, data := .fields #[.str z t, .int 0 0] } } := fun T hT => by
      refine ⟨s1.heap.objs.size, [s1.heap.objs.size], _, _, H1, rfl, I1.kept (t' := s1.toks) fun b o e => Heap.get?_push_of_some _ e, turn_str z t _ T hT, ⟨_, Heap.get?_push_size _ rfl, rfl, rfl⟩, fun b hb => ?_, q1⟩
      have e : b = s1.heap.objs.size := by simpa using hb
      subst e
      exact I1.fpOk (Nat.le_refl _) (I1.hok.fresh (Nat.le_refl _))
    cases ha : z.cps.all (· < 128) with
    | true => exact wpAny_pyIter_ascii ha (fin _ (.inl rfl))
    | false => exact wpAny_pyIter_wide ha (fin _ (.inr rfl))
  · rename_i a
    cases (show v = Value.ref a from r1)
    rcases q1 with ⟨⟨xs, hq⟩, q⟩ | ⟨⟨xs, hq⟩, q⟩
    · obtain ⟨its, rv, p, hz⟩ := I1.list hq
      refine wpAny_pyIter_list p.isList ?_
      refine ⟨s1.heap.objs.size, [s1.heap.objs.size], _, _, H1, rfl, I1.kept (t' := s1.toks) fun b o e => Heap.get?_push_of_some _ e, turn_list a _, ⟨_, Heap.get?_push_size _ rfl, rfl, rfl⟩, fun b hb => ?_, q⟩
      have e : b = s1.heap.objs.size := by simpa using hb
      subst e
      exact I1.fpOk (Nat.le_refl _) (I1.hok.fresh (Nat.le_refl _))
    · obtain ⟨its, rv, p, hz⟩ := I1.tuple hq
      refine wpAny_pyIter_tuple (show s1.heap.IsTuple a its.toArray from p) ?_
      refine ⟨s1.heap.objs.size, [s1.heap.objs.size], _, _, H1, rfl, I1.kept (t' := s1.toks) fun b o e => Heap.get?_push_of_some _ e, turn_tuple a _, ⟨_, Heap.get?_push_size _ rfl, rfl, rfl⟩, fun b hb => ?_, q⟩
      have e : b = s1.heap.objs.size := by simpa using hb
      subst e
      exact I1.fpOk (Nat.le_refl _) (I1.hok.fresh (Nat.le_refl _))
  · exact q1.elim
noncomputable def iSeq (a : EX K) : IX K where
  t := fun E σ H R => a.t E σ H fun x H1 => rIter K x H1 R
  tm := fun _ => true
  m := a.m
  q := a.q
  ok := fun X C E tg e hK G hE hq _ hm => by
    subst hK
    intro pins s σ H R I h
    exact thn (a.ok X C E e rfl G hE hq hm pins s σ H _ I h) fun v s1 ⟨x, H1, I1, r1, q1⟩ => iter_run I1 r1 q1
  fs := fun C e env x hm => shp_fold (a.sok C e hm) x

noncomputable def rRng : List V → Hp → (It → Hp → Prop) → Prop
  | [.int j], H, R => (-(2 ^ 62) ≤ j ∧ j < 2 ^ 62) ∧ R (Itr 0 j.toNat) H
  | [.int i, .int j], H, R => (-(2 ^ 62) ≤ i ∧ i < 2 ^ 62 ∧ -(2 ^ 62) ≤ j ∧ j < 2 ^ 62) ∧ R (Itr i (j - i).toNat) H
  | _, _, _ => False
noncomputable def iRng (a : EX K) (as : List (EX K)) : IX K where
  t := fun E σ H R => tAs (a :: as) E σ H fun vs H1 => rRng vs H1 R
  tm := fun _ => true
  m := fun C e => match e with
    | .Call (.Name y _) es [] _ => glB C "range" y && mAs (a :: as) C es
    | _ => false
  q := fun R => qAs (a :: as) R
  ok := fun X C E tg e hK G hE hq _ hm => by
    subst hK
    cases e with
    | Call f es ks p =>
      cases f with
      | Name y py =>
        cases ks with
        | nil =>
          simp only [Bool.and_eq_true] at hm
          obtain ⟨h1, h2⟩ := hm
          have e := glB_eq h1
          subst e
          obtain ⟨g, d⟩ := glB_gl G h1
          cases es with
          | nil => cases h2
          | cons e es =>
            intro pins s σ H R I h
            refine Call_ (ld_blt I g (G.bl _ (by decide +kernel)) boot_range (PyProof.Rows.callWith_type1 (thn (as_ok G hE (a :: as) (e :: es) hq h2 p pins s σ H _ I h) fun us s1 ⟨vs, H1, I1, r1, q1⟩ => ?_) (shp_star (a.sok C e (mAs_cons h2).1)) (as_plain as es (mAs_cons h2).2)))
            replace q1 : rRng vs H1 R := q1
            unfold rRng at q1
            split at q1
            · cases r1 with
              | cons r rr =>
                cases rr
                obtain ⟨t, rfl⟩ := r
                exact call_range_1 (range_it I1 (by omega) (by omega) q1.1.1 q1.1.2 (by simpa using q1.2))
            · cases r1 with
              | cons r rr =>
                cases rr with
                | cons r' rr =>
                  cases rr
                  obtain ⟨t, rfl⟩ := r
                  obtain ⟨t', rfl⟩ := r'
                  exact call_range_2 (range_it I1 q1.1.1 q1.1.2.1 q1.1.2.2.1 q1.1.2.2.2 q1.2)
            · exact q1.elim
        | cons _ _ => cases hm
      | _ => exact ff hm
    | _ => exact ff hm
  fs := fun C e env x hm => by cases e with | Call f es ks p => rfl | _ => exact ff hm


structure TX (K : PySem.W.Frag) where
  g : TG
  m : Sc → Expr → Bool
  ok : ∀ (X : Cx) (C : Sc) (e : Expr), X.K = K → Gd X C → m C e = true → PG X e g
noncomputable def stB (C : Sc) (i : Nat) (x : Str) : Bool := C.N[i]? == some x && (C.nm.lookup x == some .local || (C.nm.lookup x == some .cell && (C.fb || C.ow.contains x)))
theorem stB_ok {X : Cx} {C : Sc} {i : Nat} {x : Str} (G : Gd X C) (h : stB C i x = true) : X.N[i]? = some x ∧ Loc X.env.scope x ∧ (X.fn x = true ∨ X.env.scope.names.lookup x = some .local) := by
  unfold stB at h
  simp only [Bool.and_eq_true, Bool.or_eq_true] at h
  obtain ⟨h1, h2⟩ := h
  refine ⟨by rw [G.N]; exact eq_of_beq h1, ?_, ?_⟩
  · rcases h2 with h2 | ⟨h2, _⟩
    · exact .inl (by rw [G.nm]; exact eq_of_beq h2)
    · exact .inr (by rw [G.nm]; exact eq_of_beq h2)
  · rcases h2 with h2 | ⟨_, h2⟩
    · exact .inr (by rw [G.nm]; exact eq_of_beq h2)
    · rcases h2 with h2 | h2
      · exact .inl (G.fb h2 x)
      · exact .inl (G.ow x (List.contains_iff_mem.mp h2))
noncomputable def nam (i : Nat) : TX K where
  g := gName i
  m := fun C e => match e with
    | .Name x _ => stB C i x
    | _ => false
  ok := fun X C e hK G hm => by
    cases e with
    | Name x p =>
      obtain ⟨h1, h2, h3⟩ := stB_ok G hm
      exact pg_name (by rw [G.N]; exact G.nd) h1 h2 h3
    | _ => exact ff hm

structure SX (K : PySem.W.Frag) where
  t : XS → TS
  m : Sc → Stmt → Bool
  q : Rt → Prop
  ok : ∀ (X : Cx) (C : Sc) (E : XS) (s : Stmt), X.K = K → Gd X C → Thr X E → q (rtOf X) → m C s = true → PS X s (t E)
noncomputable def tSs : List (SX K) → XS → TS
  | [], _ => tNext
  | s :: ss, E => tSeq (s.t E) (tSs ss E)
noncomputable def mSs : List (SX K) → Sc → List Stmt → Bool
  | [], _, [] => true
  | s :: ss, C, e :: es => s.m C e && mSs ss C es
  | _, _, _ => false
noncomputable def qSs : List (SX K) → Rt → Prop
  | [], _ => True
  | s :: ss, R => s.q R ∧ qSs ss R
theorem ss_ok {X : Cx} {C : Sc} {E : XS} (G : Gd X C) (hE : Thr X E) : ∀ (xs : List (SX X.K)) (es : List Stmt), qSs xs (rtOf X) → mSs xs C es = true → PSs X es (tSs xs E)
  | [], [], _, _ => pss_nil
  | [], _ :: _, _, hm => nomatch hm
  | _ :: _, [], _, hm => nomatch hm
  | x :: xs, e :: es, hq, hm => by
    have hm' : (x.m C e && mSs xs C es) = true := hm
    simp only [Bool.and_eq_true] at hm'
    exact pss_cons (x.ok X C E e rfl G hE hq.1 hm'.1) (ss_ok G hE xs es hq.2 hm'.2)
noncomputable def set (i : Nat) (a : EX K) : SX K where
  t := fun E D σ H => a.t E σ H fun x H1 => D.nx (σ.set i (some x)) H1
  m := fun C s => match s with
    | .Assign [.Name x _] e _ => decide (a.s ≠ .cp) && (stB C i x && a.m C e)
    | _ => false
  q := a.q
  ok := fun X C E s hK G hE hq hm => by
    split at hm
    · rename_i x px e p
      simp only [Bool.and_eq_true] at hm
      obtain ⟨h1, h2, h3⟩ := hm
      obtain ⟨g1, g2, g3⟩ := stB_ok G h2
      exact ps_set (by rw [G.N]; exact G.nd) g1 g2 (a.ok X C E e hK G hE hq h3) (shp_swap (a.sok C e h3) (of_decide_eq_true h1)) g3
    · cases hm
noncomputable def rPut (o i v : V) (H : Hp) (Q : Hp → Prop) : Prop := rSetL o i v H Q ∨ ∃ a H', o = .ref a ∧ DPut H a i v H' ∧ Q H'
theorem put_ok {X : Cx} (hu : X.A.units + 1 < cLine) : PSet X rPut := by
  intro pins s σ H o i v ov iv u Q I ro ri rv h
  rcases h with h | ⟨a, H', rfl, g, q⟩
  · exact set_list pins s σ H o i v ov iv u Q I ro ri rv h
  · obtain rfl : ov = Value.ref a := ro
    exact d_setItem hu I g ri rv fun s4 I4 => ⟨H', I4, q⟩

noncomputable def put (o i a : EX K) : SX K where
  t := fun E D σ H => a.t E σ H fun x H1 => o.t E σ H1 fun y H2 => i.t E σ H2 fun z H3 => rPut y z x H3 fun H4 => D.nx σ H4
  m := fun C s => match s with
    | .Assign [.Subscript l r _] e _ => decide (a.s ≠ .cp) && ((match r with | .Slice .. => false | _ => true) && (o.m C l && (i.m C r && a.m C e)))
    | _ => false
  q := fun R => o.q R ∧ i.q R ∧ a.q R
  ok := fun X C E s hK G hE hq hm => by
    split at hm
    · rename_i l r p' e p
      simp only [Bool.and_eq_true] at hm
      obtain ⟨h1, h0, h2, h3, h4⟩ := hm
      refine ps_asg (a.ok X C E e hK G hE hq.2.2 h4) (pg_sub (o.ok X C E l hK G hE hq.1 h2) (i.ok X C E r hK G hE hq.2.1 h3) (put_ok (by have := G.hu; omega)) ?_) (shp_sole (a.sok C e h4) (of_decide_eq_true h1)) ?_ rfl
      · intro v
        cases r with
        | Slice _ _ _ _ => cases h0
        | _ => rfl
      · cases e <;> rfl
    · cases hm
noncomputable def ex (a : EX K) : SX K where
  t := fun E D σ H => a.t E σ H fun _ H1 => D.nx σ H1
  m := fun C s => match s with
    | .Expr e _ => decide (a.s ≠ .cp) && a.m C e
    | _ => false
  q := a.q
  ok := fun X C E s hK G hE hq hm => by
    cases s with
    | Expr e p =>
      simp only [Bool.and_eq_true] at hm
      exact ps_expr (a.ok X C E e hK G hE hq hm.2) (shp_swap (a.sok C e hm.2) (of_decide_eq_true hm.1))
    | _ => exact ff hm
noncomputable def ret (a : EX K) : SX K where
  t := fun E D σ H => a.t E σ H D.rt
  m := fun C s => match s with
    | .Return (some e) _ => a.m C e
    | _ => false
  q := a.q
  ok := fun X C E s hK G hE hq hm => by
    cases s with
    | Return o p =>
      cases o with
      | some e => exact ps_ret (a.ok X C E e hK G hE hq hm)
      | none => cases hm
    | _ => exact ff hm
noncomputable def ifS (c : EX K) (t f : List (SX K)) : SX K where
  t := fun E D σ H => c.tt E σ H fun b H1 => br b (tSs t E D σ H1) (tSs f E D σ H1)
  m := fun C s => match s with
    | .If e x y _ => c.m C e && (mSs t C x && mSs f C y)
    | _ => false
  q := fun R => c.q R ∧ qSs t R ∧ qSs f R
  ok := fun X C E s hK G hE hq hm => by
    subst hK
    cases s with
    | If e x y p =>
      simp only [Bool.and_eq_true] at hm
      obtain ⟨h1, h2, h3⟩ := hm
      intro pins s σ H D I h
      refine wpAny_If (thn (c.okT X C E e rfl G hE hq.1 h1 pins s σ H _ I h) fun d s1 ⟨H1, I1, q1⟩ => ?_)
      cases d with
      | true => exact ss_ok G hE t x hq.2.1 h2 pins s1 σ H1 D I1 (q1.1 rfl)
      | false => exact ss_ok G hE f y hq.2.2 h3 pins s1 σ H1 D I1 (q1.2 rfl)
    | _ => exact ff hm
noncomputable def forS (tg : TX K) (it : IX K) (b : List (SX K)) : SX K where
  t := fun E => tFor (it.t E) tg.g (tSs b E)
  m := fun C s => match s with
    | .For x e y [] _ => (C.cm && it.tm x) && (tg.m C x && (it.m C e && mSs b C y))
    | _ => false
  q := fun R => it.q R ∧ qSs b R
  ok := fun X C E s hK G hE hq hm => by
    subst hK
    cases s with
    | For x e y z p =>
      cases z with
      | nil =>
        simp only [Bool.and_eq_true] at hm
        obtain ⟨⟨hcm, h0⟩, h1, h2, h3⟩ := hm
        exact ps_for hE.own (G.calm hcm) (it.ok X C E x e rfl G hE hq.1 h0 h2) (tg.ok X C x rfl G h1) (ss_ok G hE b y hq.2 h3) (fun v => it.fs C e X.env v h2)
      | cons _ _ => cases hm
    | _ => exact ff hm

noncomputable def relab (nm names : List (Str × NameKind)) : List (Str × NameKind) := names.map fun (n, k) => if (k == NameKind.free && nm.lookup n == some .cell) then (n, NameKind.cell) else (n, k)
noncomputable def capB (C : Sc) (sc : Scope) : List Str → List Nat → Bool
  | [], [] => true
  | x :: xs, i :: is => (C.N[i]? == some x && (C.nm.lookup x == some .cell && sc.names.lookup x == some .free)) && capB C sc xs is
  | _, _ => false
theorem capB_ok {X : Cx} {C : Sc} {sc : Scope} (G : Gd X C) : ∀ (xs : List Str) (is : List Nat), capB C sc xs is = true → Cap X sc xs is
  | [], [], _ => .nil
  | [], _ :: _, h => nomatch h
  | _ :: _, [], h => nomatch h
  | x :: xs, i :: is, h => by
    have h' : ((C.N[i]? == some x && (C.nm.lookup x == some .cell && sc.names.lookup x == some .free)) && capB C sc xs is) = true := h
    simp only [Bool.and_eq_true] at h'
    obtain ⟨⟨h1, h2, h3⟩, h4⟩ := h'
    exact .cons (by rw [G.N]; exact eq_of_beq h1) (by show X.env.scope.names.lookup x = _; rw [G.nm]; exact eq_of_beq h2) (eq_of_beq h3) (capB_ok G xs is h4)
noncomputable def compB (C : Sc) (sc : Scope) (own caps : List Str) (is : List Nat) : Bool :=
  (decide (sc.kind = .function) && decide (own ++ caps).Nodup) && ((sc.names.all fun y => y.2 != .cell || sc.names.lookup y.1 == some .cell) && ((sc.names.all fun y => y.2 != .free || C.nm.lookup y.1 == some .cell) && ((sc.names.all fun y => y.2 != .local || sc.names.lookup y.1 == some .local) && capB C sc caps is)))
theorem clos_loop (env : Env) : ∀ (names : List (Str × NameKind)) (acc : List (Str × Addr)), (∀ y ∈ names, y.2 = .free → ∃ c, env.cells.lookup y.1 = some c) →
    (forIn names acc (fun (x : Str × NameKind) (r : List (Str × Addr)) => (if (x.2 == NameKind.free) = true then (do let c ← cellOf env x.1; pure (ForInStep.yield ((x.1, c) :: r))) else pure (ForInStep.yield r) : Sem (ForInStep (List (Str × Addr)))))) =
      (pure (((names.filter fun x => x.2 == .free).filterMap fun x => (env.cells.lookup x.1).map fun c => (x.1, c)).reverse ++ acc) : Sem (List (Str × Addr)))
  | [], acc, _ => rfl
  | (n, k) :: r, acc, h => by
    have ih := fun acc' => clos_loop env r acc' fun y hy => h y (List.mem_cons_of_mem _ hy)
    rw [List.forIn_cons]
    cases hk : (k == NameKind.free) with
    | false =>
      rw [if_neg Bool.false_ne_true]
      have e : ((n, k) :: r).filter (fun x => x.2 == NameKind.free) = r.filter (fun x => x.2 == NameKind.free) := by rw [List.filter_cons, if_neg (by show ¬ (k == NameKind.free) = true; rw [hk]; exact Bool.false_ne_true)]
      rw [e]
      exact ih acc
    | true =>
      rw [if_pos rfl]
      obtain ⟨c, hc⟩ := h (n, k) List.mem_cons_self (eq_of_beq hk)
      have e : ((n, k) :: r).filter (fun x => x.2 == NameKind.free) = (n, k) :: r.filter (fun x => x.2 == NameKind.free) := by rw [List.filter_cons, if_pos (by show (k == NameKind.free) = true; exact hk)]
      have hcell : cellOf env n = pure c := by
        unfold cellOf
        rw [hc]
      rw [e, List.filterMap_cons, hcell]
      have hc' : (env.cells.lookup n) = some c := hc
      simp only [hc', Option.map_some, List.reverse_cons, List.append_assoc, List.singleton_append]
      exact ih ((n, c) :: acc)
theorem clos_ok {X : Cx} {sc : Scope} (ok : X.Ok) (hfr : (sc.names.all fun y => y.2 != .free || X.env.kindOf y.1 == some .cell) = true) : closureFor sc X.env = pure (clOf sc.names X.env) := by
  have h := clos_loop X.env sc.names [] fun y hy hf => by
    have z := List.all_eq_true.mp hfr y hy
    simp only [Bool.or_eq_true] at z
    rcases z with z | z
    · rw [hf] at z; cases z
    · exact ok.has y.1 (.inl (eq_of_beq z))
  rw [List.append_nil] at h
  have h3 : closureFor sc X.env = (forIn sc.names ([] : List (Str × Addr)) (fun (x : Str × NameKind) (r : List (Str × Addr)) => (if (x.2 == NameKind.free) = true then (do let c ← cellOf X.env x.1; pure (ForInStep.yield ((x.1, c) :: r))) else pure (ForInStep.yield r) : Sem (ForInStep (List (Str × Addr))))) >>= fun r => pure r) := rfl
  rw [h3, h]
  rfl
noncomputable def owOf (names : List (Str × NameKind)) : List Str := (names.filter fun y => names.lookup y.1 == some .cell).map (·.1)
theorem blk_gd {X : Cx} {C : Sc} {own caps : List Str} {sc : Scope} {Ca : Addr} {s₀ : Shared} {H₀ : Hp} {ex : List Addr} (G : Gd X C) (hcm : C.cm = true) (hk : X.env.scope.kind = .function) (hnd : (own ++ caps).Nodup) : Gd (blk X (own ++ caps) sc Ca s₀ H₀ ex) ⟨own ++ caps, relab C.nm sc.names, .own (owOf sc.names)⟩ where
  N := rfl
  nm := by
    show (sc.names.map fun (n, k) => if (k == NameKind.free && X.env.scope.kind == .function && X.env.kindOf n == some .cell) then (n, NameKind.cell) else (n, k)) = relab C.nm sc.names
    unfold relab
    rw [hk]
    show (sc.names.map fun (n, k) => if (k == NameKind.free && true && X.env.scope.names.lookup n == some NameKind.cell) then (n, NameKind.cell) else (n, k)) = _
    rw [G.nm]
    simp only [Bool.and_true]
  nd := hnd
  calm := fun _ => G.calm hcm
  bl := G.bl
  top := fun z => nomatch z
  hu := G.hu
  fb := fun h => nomatch h
  ow := fun x hx => by
    obtain ⟨y, hy, rfl⟩ := List.mem_map.mp (show x ∈ owOf sc.names from hx)
    exact (List.mem_filter.mp hy).2
theorem thr0 {X : Cx} (h : X.xe = fun _ _ => False) : Thr X E0 := ⟨fun _ _ _ _ _ _ _ z => (CXF.no z).elim, fun _ _ _ _ _ _ _ _ _ _ _ _ _ _ _ _ _ _ _ z => z.elim, by rw [h]; exact PassesOwn.never⟩

structure CPX (K : PySem.W.Frag) where
  t : XS → TE
  m : Sc → Expr → Bool
  q : Rt → Prop
  sok : ∀ (C : Sc) (e : Expr), m C e = true → shpOf e = some .cp ∧ tstOf e = true
  ok : ∀ (X : Cx) (C : Sc) (E : XS) (e : Expr), X.K = K → Gd X C → Thr X E → q (rtOf X) → m C e = true → PE X e (t E)
  okS : ∀ (X : Cx) (C : Sc) (E : XS) (i : Nat) (x : Str) (p' pos : Pos) (e : Expr), X.K = K → Gd X C → Thr X E → q (rtOf X) → m C e = true → stB C i x = true → PS X (.Assign [.Name x p'] e pos) (fun D σ H => t E σ H fun v H1 => D.nx (σ.set i (some v)) H1)
noncomputable def cT (c : Option (EX K)) : TT := match c with
  | none => fun _ H Q => Q true H
  | some c => c.tt E0
noncomputable def mC (c : Option (EX K)) (C : Sc) (ifs : List Expr) : Bool := match c, ifs with
  | none, [] => true
  | some c, [e] => c.m C e
  | _, _ => false
noncomputable def qC (c : Option (EX K)) (R : Rt) : Prop := match c with
  | none => True
  | some c => c.q R
theorem tests_ok {X : Cx} {C : Sc} (G : Gd X C) (hE : Thr X E0) : ∀ (c : Option (EX X.K)) (ifs : List Expr), qC c (rtOf X) → mC c C ifs = true → Tests X ifs (cT c)
  | none, [], _, _ => .nil
  | none, _ :: _, _, hm => nomatch hm
  | some _, [], _, hm => nomatch hm
  | some c, [e], hq, hm => .one (c.okT X C E0 e rfl G hE hq hm)
  | some _, _ :: _ :: _, _, hm => nomatch hm
noncomputable def mCp (c : Option (EX K)) (elt : EX K) (tg : TX K) (it : IX K) (own caps : List Str) (is : List Nat) (C : Sc) (e : Expr) : Bool := match e with
  | .ListComp l [⟨x, y, ifs, asy⟩] sc _ => ((C.cm && decide (asy = 0)) && it.tm x) && (compB C sc own caps is && (it.m C y && (tg.m ⟨own ++ caps, relab C.nm sc.names, .own (owOf sc.names)⟩ x && (mC c ⟨own ++ caps, relab C.nm sc.names, .own (owOf sc.names)⟩ ifs && elt.m ⟨own ++ caps, relab C.nm sc.names, .own (owOf sc.names)⟩ l))))
  | _ => false
theorem cp_run {X : Cx} {C : Sc} {E : XS} {e : Expr} {c : Option (EX X.K)} {elt : EX X.K} {tg : TX X.K} {it : IX X.K} {own caps : List Str} {is : List Nat} (G : Gd X C) (hE : Thr X E) (hq : it.q (rtOf X) ∧ elt.q (rtOf X) ∧ qC c (rtOf X)) (hm : mCp c elt tg it own caps is C e = true) :
    ∃ l x y ifs sc p, e = .ListComp l [⟨x, y, ifs, 0⟩] sc p ∧ ∀ (use : Option (Value → Sem Unit)) (p2 : Pos) (pins : List (Addr × Obj)) (s : Shared) (σ : St) (H : Hp) (Q : VK) (QQ : Value → Shared → Prop), Inv X pins σ H s → tCompI (it.t E) tg.g (cT c) (elt.t E0) own.length is σ H Q →
      (∀ (D C : Addr) (H' : Hp) (s' : Shared) (m : Str → Option Value), Inv X pins σ H' s' → s'.heap.Ns C m → H' C = none → X.s₀.heap.objs.size ≤ C → X.env.locals ≠ C → (∀ x c, X.env.cells.lookup x = some c → c ≠ C) → (∀ p ∈ X.pn ++ pins, p.1 ≠ C) → Q (.ref D) H' →
        compPost (model X.prog X.w) X.A X.xe use QQ (.ref D) C (.ok .next) s') →
      wpAny (model X.prog X.w) X.A (comprehension (.ListComp l [⟨x, y, ifs, 0⟩] sc p) sc X.env p2 (newList []) false (eval y X.env) use) QQ X.xe s := by
  unfold mCp at hm
  cases e with
  | ListComp l gs sc p =>
    match gs, hm with
    | [⟨x, y, ifs, asy⟩], hm =>
      simp only [Bool.and_eq_true] at hm
      obtain ⟨⟨⟨hcm, h1⟩, h0⟩, h2, h3, h4, h6, h5⟩ := hm
      have e1 := of_decide_eq_true h1
      subst e1
      unfold compB at h2
      simp only [Bool.and_eq_true] at h2
      obtain ⟨⟨k1, k2⟩, k3, k4, k5, k6⟩ := h2
      have k4' : (sc.names.all fun y => y.2 != .free || X.env.kindOf y.1 == some .cell) = true := by
        show (sc.names.all fun y => y.2 != .free || X.env.scope.names.lookup y.1 == some .cell) = true
        rw [G.nm]; exact k4
      refine ⟨l, x, y, ifs, sc, p, rfl, fun use p2 pins s σ H Q QQ I h fin => ?_⟩
      have hg := fun Ca s₀ H₀ ex => blk_gd (own := own) (caps := caps) (sc := sc) (Ca := Ca) (s₀ := s₀) (H₀ := H₀) (ex := ex) G hcm I.ok.kind (of_decide_eq_true k2)
      refine comp_core (own := own) (caps := caps) (is := is) use (G.calm hcm) (it.ok X C E x y rfl G hE hq.1 h0 h3) (fun Ca s₀ H₀ ex => tg.ok _ _ x rfl (hg Ca s₀ H₀ ex) h4)
        (fun Ca s₀ H₀ ex => tests_ok (X := blk X (own ++ caps) sc Ca s₀ H₀ ex) (hg Ca s₀ H₀ ex) (thr0 rfl) c ifs hq.2.2 h6) (fun Ca s₀ H₀ ex => elt.ok _ _ E0 l rfl (hg Ca s₀ H₀ ex) (thr0 rfl) hq.2.1 h5) (capB_ok G caps is k6) (of_decide_eq_true k1)
        (fun z hz => ?_) k4' (clos_ok I.ok k4') (fun z hz hl => ?_) (fun v => it.fs C y X.env v h3) I h fin
      · have := List.all_eq_true.mp k3 z hz
        simp only [Bool.or_eq_true] at this
        intro hl
        rcases this with q | q
        · rw [hl] at q; cases q
        · exact eq_of_beq q
      · have := List.all_eq_true.mp k5 z hz
        simp only [Bool.or_eq_true] at this
        rcases this with q | q
        · rw [hl] at q; cases q
        · exact eq_of_beq q
  | _ => exact ff hm
theorem cp_pe {X : Cx} {C : Sc} {E : XS} {e : Expr} {c : Option (EX X.K)} {elt : EX X.K} {tg : TX X.K} {it : IX X.K} {own caps : List Str} {is : List Nat} (G : Gd X C) (hE : Thr X E) (hq : it.q (rtOf X) ∧ elt.q (rtOf X) ∧ qC c (rtOf X)) (hm : mCp c elt tg it own caps is C e = true) :
    PE X e (tCompI (it.t E) tg.g (cT c) (elt.t E0) own.length is) := by
  obtain ⟨l, x, y, ifs, sc, p, rfl, R⟩ := cp_run G hE hq hm
  intro pins s σ H Q I h
  rw [eval_ListComp]
  refine R none _ pins s σ H Q _ I h fun D C H' s' m I' hn hC h1 h2 h3 h4 q => ?_
  exact ⟨m, hn, fun h' hs' => ⟨.ref D, H', Inv.but I' hs' h1 h2 h3 h4 hC, rfl, q⟩⟩
theorem cp_ps {X : Cx} {C : Sc} {E : XS} {e : Expr} {i : Nat} {nm : Str} {p' pos : Pos} {c : Option (EX X.K)} {elt : EX X.K} {tg : TX X.K} {it : IX X.K} {own caps : List Str} {is : List Nat} (G : Gd X C) (hE : Thr X E) (hq : it.q (rtOf X) ∧ elt.q (rtOf X) ∧ qC c (rtOf X)) (hm : mCp c elt tg it own caps is C e = true) (hst : stB C i nm = true) :
    PS X (.Assign [.Name nm p'] e pos) (fun D σ H => tCompI (it.t E) tg.g (cT c) (elt.t E0) own.length is σ H fun v H1 => D.nx (σ.set i (some v)) H1) := by
  have P := cp_pe G hE hq hm
  obtain ⟨g1, g2, g3⟩ := stB_ok G hst
  have nd : X.N.Nodup := by rw [G.N]; exact G.nd
  obtain ⟨l, x, y, ifs, sc, p, rfl, R⟩ := cp_run G hE hq hm
  obtain ⟨b, hb⟩ : ∃ b : Bool, swapsWith (.ListComp l [⟨x, y, ifs, 0⟩] sc p) (some (.Name nm p')) pos.line X.env = pure b := ⟨_, rfl⟩
  cases b with
  | false => exact ps_set nd g1 g2 P hb g3
  | true =>
    intro pins s σ H D I h
    rw [exec_Assign_Name_used _ _ _ _ hb]
    refine wpAny_bind (wpAny_standAt (wpAny_bind ?_))
    show wpAny _ _ (do let _ ← comprehension (.ListComp l [⟨x, y, ifs, 0⟩] sc p) sc X.env _ (newList []) false (eval y X.env) (some (assign (.Name nm p') X.env))) _ _ s
    refine wpAny_bind (wpAny_mono (R (some (assign (.Name nm p') X.env)) _ pins s σ H _ (fun _ s' => SP X pins D .next s') I h fun A C H' s' m I' hn hC h1 h2 h3 h4 q => ?_) (fun _ s' hq => wpAny_pure (wpAny_pure hq)) fun _ _ z => z)
    show wpAny _ _ (assign (.Name nm p') X.env (.ref A)) _ _ s'
    refine wpAny_assign_Name (store_ok2 I' nd g1 g2 (v := .ref A) rfl (fun s'' I'' ⟨a, sb, ha⟩ => ?_) g3)
    have hne : C ≠ a := by
      rcases ha with ha | ha
      · rw [ha]; exact h2.symm
      · exact (h3 _ _ ha).symm
    exact ⟨m, hn.sameBut sb hne, fun h' hs' => ⟨_, H', Inv.but I'' hs' h1 h2 h3 h4 hC, q⟩⟩
noncomputable def compC (c : Option (EX K)) (elt : EX K) (tg : TX K) (it : IX K) (own caps : List Str) (is : List Nat) : CPX K where
  t := fun E => tCompI (it.t E) tg.g (cT c) (elt.t E0) own.length is
  m := mCp c elt tg it own caps is
  q := fun R => it.q R ∧ elt.q R ∧ qC c R
  sok := fun C e hm => by
    unfold mCp at hm
    cases e with
    | ListComp l gs sc p => exact ⟨rfl, rfl⟩
    | _ => exact ff hm
  ok := fun X C E e hK G hE hq hm => by subst hK; exact cp_pe G hE hq hm
  okS := fun X C E i x p' pos e hK G hE hq hm hst => by subst hK; exact cp_ps G hE hq hm hst
noncomputable def cpE (c : CPX K) : EX K := mkE c.t c.m c.q .cp c.ok (fun C e hm => (c.sok C e hm).1) (fun C e hm => (c.sok C e hm).2)

noncomputable def setC (i : Nat) (c : CPX K) : SX K where
  t := fun E D σ H => c.t E σ H fun v H1 => D.nx (σ.set i (some v)) H1
  m := fun C s => match s with
    | .Assign [.Name x _] e _ => stB C i x && c.m C e
    | _ => false
  q := c.q
  ok := fun X C E s hK G hE hq hm => by
    split at hm
    · rename_i x px e p
      simp only [Bool.and_eq_true] at hm
      exact c.okS X C E i x _ p e hK G hE hq hm.2 hm.1
    · cases hm
noncomputable def comp (elt : EX K) (tg : TX K) (it : IX K) (own caps : List Str) (is : List Nat) : EX K := cpE (compC none elt tg it own caps is)


noncomputable def DnK (P : Program) (w : World) (K : PySem.W.Frag) (mg : Str → Option Value) (base : Heap) (k : Nat) (x : Str) (sp : Sp) : Prop :=
  ∃ (f : Addr) (fd : FuncData) (ps : List Str), FnOk P w K mg base (CXF P w) k f fd ps sp ∧ Binds K fd ps [] ∧ PySem.W.keepIn K (.ref f) = true ∧ mg x = some (.ref f)
theorem DnK.at {P : Program} {w : World} {mg : Str → Option Value} {base : Heap} {j k : Nat} {x : Str} {sp : Sp} {A : Around} (D : DnK P w K mg base j x sp) (hr : Room k A) (h : j ≤ k) : FnAt ⟨P, w, K, mg, base, A⟩ x sp := by
  obtain ⟨f, fd, ps, F, hb, kp, hg⟩ := D
  exact ⟨j, f, fd, ps, hr.mono h, F, hb, kp, hg⟩
theorem def_ok {P : Program} {w : World} {mg : Str → Option Value} {base : Heap} {x qual : Str} {st : Stmt} {f : Addr} {fd : FuncData} {N ps : List Str} {k : Nat} {sp : Sp} (F : Fun K x qual st f fd) (b : List (SX K)) (S : FnScope N ps (defScope st))
    (hm : mSs b ⟨N, (defScope st).names, true⟩ (defBody st) = true) (bl : ∀ x ∈ blts, mg x = none) (hq : ∀ A, Room k A → qSs b ⟨P, w, K, mg, base, A⟩) (len : ∀ vs H Q E, sp vs H Q E → vs.length = ps.length)
    (h : ∀ vs H Q E, sp vs H Q E → tSs b (fun _ => E) { nx := fun _ H' => Q .non H', rt := Q } (start N vs) H) : FnOk P w K mg base (CXF P w) (k + 1) f fd ps sp := by
  obtain ⟨oc, od, kV, doc, pm, an, cdv, ct, osl, rfl, lk, hcd⟩ := F.ex
  refine fn_of lk hcd S len fun A outer s H vs Q E hr hsp => ?_
  have G : Gd (cxOf (CXF P w) P w K mg base N qual (defScope st) f cdv A outer s H E) ⟨N, (defScope st).names, true⟩ := ⟨rfl, rfl, S.nd, fun _ => rfl, bl, hr.units, fun _ _ => rfl, fun _ => ⟨rfl, rfl⟩, fun _ h => nomatch h⟩
  have T : Thr (cxOf (CXF P w) P w K mg base N qual (defScope st) f cdv A outer s H E) (fun _ => E) := ⟨fun pins σ H1 s1 ev s' I z => pass_def pins σ H1 s1 ev s' I z, fun _ _ _ _ _ _ e _ _ I o1 b1 u1 k1 n1 en eo dt v1 z => made_def (I.call' o1 u1 k1 b1 fun b y => absurd y (by simp)) eo dt v1 en (fun b o q y => by obtain ⟨v, hv⟩ := I.base.there b o q (fun y => nomatch y); rw [y, n1] at hv; cases hv) z, PassesOwn.leaving⟩
  exact ⟨_, ss_ok G T b (defBody st) (hq _ hr) hm, h vs H Q E hsp⟩
end
end L2.Na




namespace L2.Na
open PySem
noncomputable abbrev ls (z : Str) : List Nat := z.cps.toList
noncomputable def mkS (l : List Nat) : Str := ⟨l.toArray⟩
theorem ls_mk (l : List Nat) : ls (mkS l) = l := by simp [ls, mkS]
theorem ls_len (z : Str) : (ls z).length = z.length := by show z.cps.toList.length = z.cps.size; simp
theorem mk_len (l : List Nat) : (mkS l).length = l.length := by rw [← ls_len, ls_mk]
theorem ls_inj {a b : Str} (h : ls a = ls b) : a = b := by
  cases a; cases b
  simp only [ls] at h
  congr 1
  exact Array.toList_inj.mp h
theorem mk_ls (z : Str) : mkS (ls z) = z := ls_inj (ls_mk _)
theorem ls_app (a b : Str) : ls (a ++ b) = ls a ++ ls b := by
  show (a.cps ++ b.cps).toList = a.cps.toList ++ b.cps.toList
  simp
theorem len_app (a b : Str) : (a ++ b).length = a.length + b.length := by rw [← ls_len, ls_app, List.length_append, ls_len, ls_len]
theorem glued_fold (g : Array Nat) : ∀ (r : List Str) (acc : Array Nat), (r.foldl (fun acc p => acc ++ g ++ p.cps) acc).toList = acc.toList ++ (r.map fun p => g.toList ++ p.cps.toList).flatten
  | [], acc => by simp
  | p :: r, acc => by
    rw [List.foldl_cons, glued_fold g r]
    simp [List.append_assoc]
theorem ls_join0 (ys : List Str) : ls (Txt.join (Str.ofString "") ys) = (ys.map ls).flatten := by
  have e : (Str.ofString "").cps = #[] := by decide +kernel
  cases ys with
  | nil => decide +kernel
  | cons y r =>
    show ((r.foldl (fun acc p => acc ++ (Str.ofString "").cps ++ p.cps) y.cps)).toList = _
    rw [e, glued_fold]
    simp

noncomputable def IsW (m : Nat) (z : Str) : Prop := ∀ c ∈ ls z, 97 ≤ c ∧ c < 97 + m
theorem IsW.mono {m n : Nat} {z : Str} (h : IsW m z) (l : m ≤ n) : IsW n z := fun c hc => ⟨(h c hc).1, Nat.lt_of_lt_of_le (h c hc).2 (by omega)⟩
theorem IsW.app {m : Nat} {a b : Str} (ha : IsW m a) (hb : IsW m b) : IsW m (a ++ b) := fun c hc => by
  rw [ls_app] at hc
  rcases List.mem_append.mp hc with h | h
  · exact ha c h
  · exact hb c h
theorem IsW.sgn {m c : Nat} (h : 97 ≤ c) (l : c < 97 + m) : IsW m ⟨#[c]⟩ := fun d hd => by
  have : d = c := by simpa [ls] using hd
  subst this
  exact ⟨h, l⟩
theorem IsW.nil {m : Nat} : IsW m (Str.ofString "") := fun c hc => by
  have e : ls (Str.ofString "") = [] := by decide +kernel
  rw [e] at hc; cases hc
theorem IsW.of_ls {m : Nat} {z y : Str} (h : IsW m z) (e : ∀ c ∈ ls y, c ∈ ls z) : IsW m y := fun c hc => h c (e c hc)

noncomputable def wd (ws : List Str) (c : Nat) : List Nat := ls (ws[c - 97]?.getD ⟨#[]⟩)
noncomputable def img (ws : List Str) (z : Str) : Str := mkS ((ls z).flatMap (wd ws))
theorem ls_img (ws : List Str) (z : Str) : ls (img ws z) = (ls z).flatMap (wd ws) := ls_mk _
theorem img_isW {ws : List Str} {z : Str} {m : Nat} (hw : ∀ w ∈ ws, IsW m w) : IsW m (img ws z) := fun c hc => by
  rw [ls_img] at hc
  obtain ⟨d, _, h2⟩ := List.mem_flatMap.mp hc
  unfold wd at h2
  cases e : ws[d - 97]? with
  | none => rw [e] at h2; simp [ls] at h2
  | some w => rw [e] at h2; exact hw w (List.mem_of_getElem? e) c h2
theorem sum_le {l : List Nat} {B : Nat} (h : ∀ x ∈ l, x ≤ B) : l.sum ≤ l.length * B := by
  induction l with
  | nil => simp
  | cons a l ih =>
    have h1 := h a List.mem_cons_self
    have h2 := ih fun x hx => h x (List.mem_cons_of_mem _ hx)
    rw [List.sum_cons, List.length_cons, Nat.add_mul, Nat.one_mul]
    omega
theorem img_le {ws : List Str} {z : Str} {B : Nat} (h : ∀ w ∈ ws, w.length ≤ B) : (img ws z).length ≤ z.length * B := by
  rw [← ls_len, ls_img, List.length_flatMap, ← ls_len z]
  refine Nat.le_trans (sum_le (B := B) fun x hx => ?_) (by rw [List.length_map]; exact Nat.le_refl _)
  obtain ⟨c, hc, rfl⟩ := List.mem_map.mp hx
  unfold wd
  cases e : ws[c - 97]? with
  | none => simp [ls]
  | some w => rw [show (some w).getD ⟨#[]⟩ = w from rfl, ls_len]; exact h w (List.mem_of_getElem? e)
end L2.Na




namespace L2.Na
open PySem PySem.Spec PyProof.Rows L2 L2.L3
section
variable {K : PySem.W.Frag}

theorem ms_ok {X : Cx} {id : String} {r : Str → List V → Hp → VK → Prop} {r' : V → List V → Hp → VK → Prop} (h : MtM X id r') (f : ∀ z ys H Q, r z ys H Q → r' (.str z) ys H Q) : MtR X id (rS r) := by
  intro pins s σ H x xs v us Q I rx rs q
  cases x with
  | str z => exact h pins s σ H _ xs v us Q I rx rs (f z xs H Q q)
  | _ => exact q.elim
noncomputable def rJoinU (K : PySem.W.Frag) : Str → List V → Hp → VK → Prop
  | z, [.ref p], H, Q => ∃ ys : List Str, (H p = some (.lst (ys.map V.str)) ∨ SqT K H p (ys.map V.str)) ∧ (ys.map (·.length)).sum + ys.length * z.length ≤ 16777216 ∧ Q (.str (Txt.join z ys)) H
  | _, _, _, _ => False
noncomputable def m_join (o a : EX K) (ho : o.s ≠ .zc := by intro z; cases z) : EX K := methS "join" "str.join" (rJoinU K) PySem.F.slot_str_join PySem.F.type_str_join (fun X hK _ _ => by
  subst hK
  intro pins s σ H x xs v us Q I rx rs q
  cases x with
  | str z =>
    have q' : rJoinU X.K z xs H Q := q
    unfold rJoinU at q'
    split at q'
    · obtain ⟨ys, h1 | h1, h2, h3⟩ := q'
      · exact mt_join pins s σ H _ _ v us Q I rx rs ⟨_, _, ys, rfl, rfl, h1, h2, h3⟩
      · exact mt_joinT pins s σ H _ _ v us Q I rx rs ⟨_, _, ys, rfl, rfl, h1, h2, h3⟩
    · exact q'.elim
  | _ => exact q.elim) o ho [a]
noncomputable def rCountU : Str → List V → Hp → VK → Prop
  | z, [.str y], H, Q => Q (.int (Txt.count z y)) H
  | _, _, _, _ => False
noncomputable def rIndexU : Str → List V → Hp → VK → Prop
  | z, [.str y], H, Q => ∃ (i : Nat) (rest : List Nat), Builtin.Str.occurrences z y 0 z.length 1 = i :: rest ∧ Q (.int i) H
  | _, _, _, _ => False
noncomputable def m_index (o a : EX K) (ho : o.s ≠ .zc := by intro z; cases z) : EX K := methS "index" "str.index" rIndexU PySem.F.slot_str_index PySem.F.type_str_index (fun X hK _ _ => ms_ok mt_index (fun z ys H Q h => by
  unfold rIndexU at h
  split at h
  · obtain ⟨i, rest, h1, h2⟩ := h
    exact ⟨_, _, i, rest, rfl, rfl, h1, h2⟩
  · exact h.elim)) o ho [a]
noncomputable def m_append (o a : EX K) (ho : o.s ≠ .zc := by intro z; cases z) : EX K := methL "append" "list.append" rAppend PySem.F.slot_list_append PySem.F.type_list_append (fun X hK _ _ => mt_append) o ho [a]

noncomputable def dzip (a b : EX K) : EX K := mkE (fun E => tDZ K (tAs [a, b] E))
  (fun C e => match e with
    | .Call (.Name y _) [.Call (.Name z _) es [] _] [] _ => (C.cm && glB C "dict" y) && (glB C "zip" z && mAs [a, b] C es)
    | _ => false) (fun R => qAs [a, b] R) .pl
  (fun X C E e hK G hE hq hm => by
    subst hK
    split at hm
    · rename_i y py z pz es p2 p
      · simp only [Bool.and_eq_true] at hm
        obtain ⟨⟨hcm, h1⟩, h2, h3⟩ := hm
        have e := glB_eq h1
        have e2 := glB_eq h2
        subst e e2
        match es, h3 with
        | [], h3 => exact nomatch h3
        | [x], h3 => exact nomatch (mAs_cons h3).2
        | x :: y :: z :: r, h3 => exact nomatch (mAs_cons (mAs_cons h3).2).2
        | [x, y], h3 =>
          have s1 := shp_star (env := X.env) (es := [y]) (a.sok C x (mAs_cons h3).1)
          have s2 := shp_star (env := X.env) (es := []) (b.sok C y (mAs_cons (mAs_cons h3).2).1)
          exact pe_dictzip (G.calm hcm) (glB_gl G h1).1 (G.bl _ (by decide +kernel)) (glB_gl G h2).1 (G.bl _ (by decide +kernel)) (as_ok G hE [a, b] [x, y] hq h3)
            s1 (as_plain [b] [y] (mAs_cons h3).2)
    · cases hm)
  (fun C e hm => by
    split at hm
    · rfl
    · cases hm)
  (fun C e hm => by cases e with | Call f es ks p => rfl | _ => exact ff hm)


section
variable {E : XS} {σ : St} {H : Hp} {Q : VK} {D : Ends} {QB : Bool → Hp → Prop} {QL : List V → Hp → Prop} {v : V} {i j : Int} {n : Nat} {a b c : EX K} {as : List (EX K)} {ss : List (SX K)} {s : SX K} {op : Operator} {co : CmpOp} {x : Str} {sp : Sp}
theorem i_seq (h : s.t E { D with nx := tSs ss E D } σ H) : tSs (s :: ss) E D σ H := h
theorem i_nil (h : D.nx σ H) : tSs ([] : List (SX K)) E D σ H := h
theorem i_set (h : a.t E σ H fun x H1 => D.nx (σ.set n (some x)) H1) : (set n a).t E D σ H := h
theorem i_ret (h : a.t E σ H D.rt) : (ret a).t E D σ H := h
theorem i_ex (h : a.t E σ H fun _ H1 => D.nx σ H1) : (ex a).t E D σ H := h
theorem i_if {t f : List (SX K)} (h : c.tt E σ H fun b H1 => br b (tSs t E D σ H1) (tSs f E D σ H1)) : (ifS c t f).t E D σ H := h
theorem i_var (e : σ[n]? = some (some v)) (h : Q v H) : (var n : EX K).t E σ H Q := by
  show tV n σ H Q
  unfold tV
  rw [e]
  exact h
theorem i_cst (h : Q v H) : (cst v : EX K).t E σ H Q := h
theorem i_glb (h : Q v H) : (glb x v : EX K).t E σ H Q := h
theorem i_bin (h : a.t E σ H fun x H1 => b.t E σ H1 fun y H2 => rBin K op x y H2 Q) : (bin op a b).t E σ H Q := h
theorem i_add (h : Q (.int (i + j)) H) : rBin K .Add (.int i) (.int j) H Q := h
theorem i_mul (c : CMul i j) (h : Q (.int (i * j)) H) : rBin K .Mult (.int i) (.int j) H Q := ⟨c.ok, h⟩
theorem i_mulS {z : Str} (c : CMulS z j) (h : Q (.str (Txt.mul z j)) H) : rBin K .Mult (.str z) (.int j) H Q := ⟨c, h⟩
theorem i_div (c : CDiv i j) (h : Q (.int (i / j)) H) : rBin K .FloorDiv (.int i) (.int j) H Q := ⟨⟨c.1, by have := c.2; omega⟩, h⟩
theorem i_mod (c : 0 < j) (h : Q (.int (i % j)) H) : rBin K .Mod (.int i) (.int j) H Q := ⟨c, h⟩
theorem i_addS {y z : Str} (c : y.length + z.length ≤ sizeLine) (h : Q (.str (y ++ z)) H) : rBin K .Add (.str y) (.str z) H Q := ⟨c, h⟩
theorem i_cmp (h : a.t E σ H fun x H1 => b.t E σ H1 fun y H2 => rCmp K co x y H2 Q) : (cmp co a b).t E σ H Q := h
theorem j_cmp (h : a.t E σ H fun x H1 => b.t E σ H1 fun y H2 => rB (rCmp K co) x y H2 QB) : (cmp co a b).tt E σ H QB := h
theorem dI : decide (V.int i = V.int j) = decide (i = j) := decide_eq_decide.mpr ⟨fun z => V.int.inj z, fun z => by rw [z]⟩
theorem dS {y z : Str} : decide (V.str y = V.str z) = decide (y = z) := decide_eq_decide.mpr ⟨fun e => V.str.inj e, fun e => by rw [e]⟩
theorem i_eqS {y z : Str} (h : Q (.bl (decide (y = z))) H) : rCmp K .Eq (.str y) (.str z) H Q := .inl ⟨rfl, by rw [dS]; exact h⟩
theorem i_isB {k l : Bool} (h : Q (.bl (k == l)) H) : rCmp K .Is (.bl k) (.bl l) H Q := h
theorem j_lt (h : QB (decide (i < j)) H) : rB (rCmp K .Lt) (.int i) (.int j) H QB := h
theorem j_gt (h : QB (decide (j < i)) H) : rB (rCmp K .Gt) (.int i) (.int j) H QB := h
theorem j_eq (h : QB (decide (i = j)) H) : rB (rCmp K .Eq) (.int i) (.int j) H QB := .inl ⟨rfl, by show QB _ H; rw [dI]; exact h⟩
theorem j_tru (e : a.tt E = truT K (a.t E)) (h : a.t E σ H fun x H1 => rTru K x H1 QB) : a.tt E σ H QB := by rw [e]; exact h
theorem j_not (h : a.tt E σ H fun b H1 => QB (!b) H1) : (notE a).tt E σ H QB := h
theorem i_truB {k : Bool} (h : QB k H) : rTru K (.bl k) H QB := h
theorem i_and (h : a.t E σ H fun x H1 => rTru K x H1 fun k H2 => br k (tBop K .And E (b.t E) as σ H2 Q) (Q x H2)) : (andE a (b :: as)).t E σ H Q := h
theorem j_and (h : a.tt E σ H fun k H1 => br k (tBopT K .And E (b.tt E) as σ H1 QB) (QB false H1)) : (andE a (b :: as)).tt E σ H QB := h
theorem j_or (h : a.tt E σ H fun k H1 => br k (QB true H1) (tBopT K .Or E (b.tt E) as σ H1 QB)) : (orE a (b :: as)).tt E σ H QB := h
theorem i_bop0 {bo : BoolOp} {t : TE} (h : t σ H Q) : tBop K bo E t [] σ H Q := h
theorem j_bop0 {bo : BoolOp} {t : TT} (h : t σ H QB) : tBopT K bo E t [] σ H QB := h
theorem i_bopA {t : TE} (h : t σ H fun x H1 => rTru K x H1 fun k H2 => br k (tBop K .And E (b.t E) as σ H2 Q) (Q x H2)) : tBop K .And E t (b :: as) σ H Q := h
theorem i_acons (h : a.t E σ H fun x H1 => tAs as E σ H1 fun xs H2 => QL (x :: xs) H2) : tAs (a :: as) E σ H QL := h
theorem i_anil (h : QL [] H) : tAs ([] : List (EX K)) E σ H QL := h
theorem i_call (h : tAs as E σ H fun vs H1 => sp vs H1 Q (E σ)) : (call x sp as).t E σ H Q := h
theorem i_len (h : a.t E σ H fun x H1 => rLen K [x] H1 Q) : (len a).t E σ H Q := h
theorem i_lenS {z : Str} (c : z.length ≤ sizeLine) (h : Q (.int z.length) H) : rLen K [.str z] H Q := ⟨c, h⟩
theorem i_lenL {p : Addr} {xs : List V} (c : SqL K H p xs) (h : Q (.int xs.length) H) : rLen K [.ref p] H Q := .inl ⟨_, .inl ⟨xs, c, rfl⟩, h⟩
theorem i_lenT {p : Addr} {xs : List V} (c : SqT K H p xs) (h : Q (.int xs.length) H) : rLen K [.ref p] H Q := .inl ⟨_, .inr ⟨xs, c, rfl⟩, h⟩
theorem i_all (h : a.t E σ H fun x H1 => rAll K [x] H1 Q) : (allE a).t E σ H Q := h
theorem i_min (h : a.t E σ H fun x H1 => b.t E σ H1 fun y H2 => rMin2 [x, y] H2 Q) : (min2 a b).t E σ H Q := h
theorem i_min2 (h : Q (.int (min i j)) H) : rMin2 [.int i, .int j] H Q := h
theorem i_isi (h : a.t E σ H fun x H1 => b.t E σ H1 fun y H2 => rIsiV K [x, y] H2 Q) : (isi a b).t E σ H Q := h
theorem i_tyBool (h : Q (.ty "bool") H) : (tyBool : EX K).t E σ H Q := h
theorem i_tupleE (h : a.t E σ H fun x H1 => rTupOf K [x] H1 Q) : (tupleE a).t E σ H Q := h
theorem i_ix (h : a.t E σ H fun x H1 => b.t E σ H1 fun y H2 => rIxU K x y H2 Q) : (ix a b).t E σ H Q := h
theorem i_ixS {z : Str} {k : Nat} (c : z.length ≤ sizeLine) (e : atI z.cps.toList i = some k) (h : Q (sgn k) H) : rIxU K (.str z) (.int i) H Q := ⟨c, k, e, h⟩
theorem i_ixL {p : Addr} {xs : List V} (c : SqL K H p xs) (e : atI xs i = some v) (h : Q v H) : rIxU K (.ref p) (.int i) H Q := .inl ⟨p, xs, i, v, rfl, rfl, c, e, h⟩
theorem i_ixD {p : Addr} {y : V} (c : DGet H p y (some v)) (h : Q v H) : rIxU K (.ref p) y H Q := .inr (.inr ⟨v, c, h⟩)
theorem i_slc {lo hi : Option (EX K)} (h : a.t E σ H fun x H1 => tO E lo σ H1 fun l H2 => tO E hi σ H2 fun u H3 => rSlU K x l u H3 Q) : (slc a lo hi).t E σ H Q := h
theorem i_o0 {QO : Option Int → Hp → Prop} (h : QO none H) : tO E (none : Option (EX K)) σ H QO := h
theorem i_o1 {QO : Option Int → Hp → Prop} (h : a.t E σ H (rO QO)) : tO E (some a) σ H QO := h
theorem i_rO {QO : Option Int → Hp → Prop} (h : QO (some i) H) : rO QO (.int i) H := h
theorem i_slS {z : Str} {lo hi : Option Int} (c : z.length ≤ sizeLine) (h : Q (.str (Txt.slice z lo hi)) H) : rSlU K (.str z) lo hi H Q := ⟨c, h⟩
theorem i_slL {p : Addr} {xs : List V} {lo hi : Option Int} (c : SqL K H p xs) (h : ∀ q, H q = none → Q (.ref q) (upd H q (.lst (cutV xs lo hi)))) : rSlU K (.ref p) lo hi H Q := .inl ⟨p, xs, rfl, c, h⟩
theorem i_lst (h : tAs as E σ H fun xs H1 => xs.length ≤ sizeLine ∧ ∀ p, H1 p = none → Q (.ref p) (upd H1 p (.lst xs))) : (lst as).t E σ H Q := h
theorem i_tup (h : tAs as E σ H fun xs H1 => xs.length ≤ sizeLine ∧ ∀ p, H1 p = none → Q (.ref p) (upd H1 p (.tup xs))) : (tup as).t E σ H Q := h
theorem i_join {ho : a.s ≠ .zc} (h : a.t E σ H fun x H1 => RS (rJoinU K) (tAs [b] E) x σ H1 Q) : (m_join a b ho).t E σ H Q := h
theorem i_index {ho : a.s ≠ .zc} (h : a.t E σ H fun x H1 => RS rIndexU (tAs [b] E) x σ H1 Q) : (m_index a b ho).t E σ H Q := h
theorem i_append {ho : a.s ≠ .zc} (h : a.t E σ H fun x H1 => RL K rAppend (tAs [b] E) x σ H1 Q) : (m_append a b ho).t E σ H Q := h
theorem i_RS {r : Str → List V → Hp → VK → Prop} {t : TA} {z : Str} (h : t σ H fun ys H2 => r z ys H2 Q) : RS r t (.str z) σ H Q := h
theorem i_RL {r : V → List V → Hp → VK → Prop} {t : TA} {p : Addr} {xs : List V} (c : SqL K H p xs) (h : t σ H fun ys H2 => r (.ref p) ys H2 Q) : RL K r t (.ref p) σ H Q := ⟨⟨xs, c⟩, h⟩
theorem i_indexU {z y : Str} {k : Nat} {r : List Nat} (e : Builtin.Str.occurrences z y 0 z.length 1 = k :: r) (h : Q (.int k) H) : rIndexU z [.str y] H Q := ⟨k, r, e, h⟩
theorem i_appendU {p : Addr} {xs : List V} {y : V} (e : H p = some (.lst xs)) (c : xs.length < sizeLine) (h : Q .non (upd H p (.lst (xs ++ [y])))) : rAppend (.ref p) [y] H Q := ⟨p, xs, y, rfl, rfl, e, c, h⟩

noncomputable def LoopW (J : It) (g : TG) (tb : TS) (D : Ends) (σ : St) (H : Hp) : Prop := ∃ W : Nat → Nat → St → Hp → Prop, (∃ m, W 0 m σ H) ∧ ∀ i m σ H, W i m σ H →
  (J.stop i H ∧ D.nx σ H) ∨ (J.go i H ∧ ∃ N : St → Hp → Prop, (∀ σ' H', N σ' H' → ∃ m', m' < m ∧ W (i + 1) m' σ' H') ∧ ∀ x H', J.yld i H x H' → g x σ H' fun σ2 H2 => tb { D with nx := N, ct := N, bk := D.nx } σ2 H2)
theorem i_for {tg : TX K} {it : IX K} {bd : List (SX K)} (h : it.t E σ H fun J H1 => LoopW J tg.g (tSs bd E) D σ H1) : (forS tg it bd).t E D σ H := h
theorem i_rng {R : It → Hp → Prop} (h : tAs (a :: as) E σ H fun vs H1 => rRng vs H1 R) : (iRng a as).t E σ H R := h
theorem i_rng1 {R : It → Hp → Prop} (c : -(2 ^ 62) ≤ j ∧ j < 2 ^ 62) (h : R (Itr 0 j.toNat) H) : rRng [.int j] H R := ⟨c, h⟩
theorem i_iseq {R : It → Hp → Prop} (h : a.t E σ H fun x H1 => rIter K x H1 R) : (iSeq a).t E σ H R := h
theorem i_itS {R : It → Hp → Prop} {z : Str} (h : R (Its z) H) : rIter K (.str z) H R := h
theorem i_itL {R : It → Hp → Prop} {p : Addr} {xs : List V} (c : SqL K H p xs) (h : R (Itl K p) H) : rIter K (.ref p) H R := .inl ⟨⟨xs, c⟩, h⟩
theorem i_itT {R : It → Hp → Prop} {p : Addr} {xs : List V} (c : SqT K H p xs) (h : R (Itt K p) H) : rIter K (.ref p) H R := .inr ⟨⟨xs, c⟩, h⟩
theorem loop_yl {J : It} {P : Hp → Prop} {xs : List V} {g : TG} {tb : TS} (Y : Yl J P xs) (Pv : Nat → St → Hp → Prop) (h0 : Pv 0 σ H) (hl : ∀ i σ H, i ≤ xs.length → Pv i σ H → P H)
    (hs : ∀ i x σ H, xs[i]? = some x → Pv i σ H → g x σ H fun σ2 H2 => tb { D with nx := Pv (i + 1), ct := Pv (i + 1), bk := D.nx } σ2 H2) (hd : ∀ σ H, Pv xs.length σ H → D.nx σ H) : LoopW J g tb D σ H := for_yl Y Pv h0 hl hs hd
theorem loop_rng {lo : Int} {k : Nat} {g : TG} {tb : TS} (Pv : Nat → St → Hp → Prop) (h0 : Pv 0 σ H)
    (hs : ∀ i σ H, i < k → Pv i σ H → g (.int (lo + (i : Nat))) σ H fun σ2 H2 => tb { D with nx := Pv (i + 1), ct := Pv (i + 1), bk := D.nx } σ2 H2) (hd : ∀ σ H, Pv k σ H → D.nx σ H) : LoopW (Itr lo k) g tb D σ H := for_range Pv h0 hs hd
theorem loop_str {z : Str} {g : TG} {tb : TS} (Pv : Nat → St → Hp → Prop) (h0 : Pv 0 σ H)
    (hs : ∀ i k σ H, z.cps.toList[i]? = some k → Pv i σ H → g (sgn k) σ H fun σ2 H2 => tb { D with nx := Pv (i + 1), ct := Pv (i + 1), bk := D.nx } σ2 H2) (hd : ∀ σ H, Pv z.cps.toList.length σ H → D.nx σ H) : LoopW (Its z) g tb D σ H := by
  refine loop_yl yl_str Pv h0 (fun _ _ _ _ _ => trivial) (fun i x σ1 H1 hx hp => ?_) (fun σ1 H1 hp => hd σ1 H1 ?_)
  · unfold sgnV at hx
    rw [List.getElem?_map] at hx
    cases e : z.cps.toList[i]? with
    | none => rw [e] at hx; cases hx
    | some k =>
      rw [e] at hx
      have hx' : sgn k = x := Option.some.inj hx
      subst hx'
      exact hs i k σ1 H1 e hp
  · rw [sgnV_len] at hp
    rw [Array.length_toList]
    exact hp
theorem i_nam {QS : St → Hp → Prop} (h : QS (σ.set n (some v)) H) : (nam n : TX K).g v σ H QS := h
theorem i_dzip (h : a.t E σ H fun x H1 => b.t E σ H1 fun y H2 => ∃ (z : Str) (t : Addr) (ws : List V), [x, y] = [V.str z, .ref t] ∧ (SqT K H2 t ws ∨ SqL K H2 t ws) ∧ z.cps.size = ws.length ∧ z.cps.size ≤ 1000 ∧ z.cps.all (· < 128) = true ∧ (∀ i j, i < z.cps.size → j < z.cps.size → zkey z i = zkey z j → i = j) ∧
  ∀ d, H2 d = none → Q (.ref d) (upd H2 d (.dK (zipKV z ws)))) : (dzip a b).t E σ H Q := h
theorem loop_rngS {lo : Int} {k : Nat} {g : TG} {tb : TS} (S : Nat → St → Prop) (h0 : S 0 σ)
    (hs : ∀ i σ1 H1, i < k → S i σ1 → Same H H1 → g (.int (lo + (i : Nat))) σ1 H1 fun σ2 H2 => tb { D with nx := fun σ3 H3 => S (i + 1) σ3 ∧ Same H H3, ct := fun σ3 H3 => S (i + 1) σ3 ∧ Same H H3, bk := D.nx } σ2 H2) (hd : ∀ σ1 H1, S k σ1 → Same H H1 → D.nx σ1 H1) :
    LoopW (Itr lo k) g tb D σ H := loop_rng (fun i σ1 H1 => S i σ1 ∧ Same H H1) ⟨h0, Same.refl _⟩ (fun i σ1 H1 hi p => hs i σ1 H1 hi p.1 p.2) fun σ1 H1 p => hd σ1 H1 p.1 p.2

theorem comp_base {J : It} {P : Hp → Prop} {items : List V} (Y : Yl J P items) {tc : TT} {te : TE} {is : List Nat} {D : Addr} (keep : Nat → Bool) (f : Nat → V) (hD : H D = none) (hP : ∀ H1, Same H H1 → P H1) (hz : items.length ≤ sizeLine)
    (test : ∀ (i : Nat) (x : V) (H1 : Hp) (QB : Bool → Hp → Prop), items[i]? = some x → Same H H1 → (∀ H2, Same H1 H2 → QB (keep i) H2) → tc (some x :: capV is σ) H1 QB)
    (step : ∀ (i : Nat) (x : V) (H1 : Hp) (Q' : VK), items[i]? = some x → keep i = true → Same H H1 → (∀ H3, Same H1 H3 → Q' (f i) H3) → te (some x :: capV is σ) H1 Q')
    (fin : ∀ H1, Same H H1 → H1 D = some (.lst (((List.range items.length).filter keep).map f)) → Q (.ref D) H1) : CompBodyI J (nam 0 : TX K).g tc te 1 is σ D H Q := by
  have hn : ∀ i, (((List.range i).filter keep).map f).length ≤ i := fun i => by
    rw [List.length_map]
    exact Nat.le_trans (List.length_filter_le _ _) (by rw [List.length_range]; exact Nat.le_refl _)
  refine ⟨fun i m σ' H1 => m = items.length - i ∧ i ≤ items.length ∧ (∃ a, σ' = a :: capV is σ) ∧ Same H H1 ∧ H1 D = some (.lst (((List.range i).filter keep).map f)), ⟨items.length, by simp, Nat.zero_le _, ⟨none, rfl⟩, fun b o e => by rw [upd_ne (ne_of_none e hD)]; exact e, upd_same⟩, ?_⟩
  rintro i m σ' H1 ⟨rfl, hi, ⟨a, rfl⟩, hS, hO⟩
  have p := hP H1 hS
  by_cases hlt : i < items.length
  · refine .inr ⟨Y.go i H1 p hlt, fun x H' hy => ?_⟩
    obtain ⟨e, hx⟩ := Y.yld i H1 x H' p hlt hy
    subst e
    show tc (some x :: capV is σ) H' _
    refine test i x H' _ hx hS fun H2 s2 => ⟨fun hk => ?_, fun hk => ?_⟩
    · refine step i x H2 _ hx hk (hS.trans s2) fun H3 s3 => ?_
      refine ⟨_, s3 _ _ (s2 _ _ hO), Nat.lt_of_le_of_lt (hn i) (Nat.lt_of_lt_of_le hlt hz), items.length - (i + 1), by omega, rfl, hlt, ⟨_, rfl⟩, fun b o q => ?_, ?_⟩
      · rw [upd_ne (ne_of_none q hD)]
        exact s3 _ _ (s2 _ _ (hS b o q))
      · rw [upd_same, List.range_succ, List.filter_append, List.map_append, List.filter_cons, if_pos hk]
        rfl
    · refine ⟨items.length - (i + 1), by omega, rfl, hlt, ⟨_, rfl⟩, hS.trans s2, ?_⟩
      rw [s2 _ _ hO, List.range_succ, List.filter_append, List.filter_cons, if_neg (by rw [hk]; exact Bool.false_ne_true), List.filter_nil, List.append_nil]
  · have e : i = items.length := by omega
    subst e
    exact .inl ⟨Y.stop H1 p, fin H1 hS hO⟩
theorem filter_all {α : Type} (l : List α) : (l.filter fun _ => true) = l := List.filter_eq_self.mpr fun _ _ => rfl
theorem comp_all {J : It} {P : Hp → Prop} {items : List V} (Y : Yl J P items) {te : TE} {is : List Nat} {D : Addr} (f : Nat → V) (hD : H D = none) (hP : ∀ H1, Same H H1 → P H1) (hz : items.length ≤ sizeLine)
    (step : ∀ (i : Nat) (x : V) (H1 : Hp) (Q' : VK), items[i]? = some x → Same H H1 → (∀ H3, Same H1 H3 → Q' (f i) H3) → te (some x :: capV is σ) H1 Q')
    (fin : ∀ H1, Same H H1 → H1 D = some (.lst ((List.range items.length).map f)) → Q (.ref D) H1) : CompBodyI J (nam 0 : TX K).g (cT (none : Option (EX K))) te 1 is σ D H Q :=
  comp_base Y (fun _ => true) f hD hP hz (fun _ _ _ _ _ _ q => q _ (Same.refl _)) (fun i x H1 Q' hx _ hS q => step i x H1 Q' hx hS q) fun H1 hS hO => fin H1 hS (by rw [filter_all] at hO; exact hO)
theorem comp_rng {lo : Int} {m : Nat} {te : TE} {is : List Nat} {D : Addr} (f : Nat → V) (hD : H D = none) (hz : m ≤ sizeLine)
    (step : ∀ (i : Nat) (H1 : Hp) (Q' : VK), i < m → Same H H1 → (∀ H3, Same H1 H3 → Q' (f i) H3) → te (some (.int (lo + (i : Nat))) :: capV is σ) H1 Q')
    (fin : ∀ H1, Same H H1 → H1 D = some (.lst ((List.range m).map f)) → Q (.ref D) H1) : CompBodyI (Itr lo m) (nam 0 : TX K).g (cT (none : Option (EX K))) te 1 is σ D H Q := by
  refine comp_all yl_rng f hD (fun _ _ => trivial) (by rw [rngV_len]; exact hz) (fun i x H1 Q' hx hS q => ?_) (fun H1 hS hO => fin H1 hS (by rw [rngV_len] at hO; exact hO))
  obtain ⟨hi, rfl⟩ := rngV_get hx
  exact step i H1 Q' hi hS q
theorem range_get {α β : Type} (l : List α) (f : α → β) (d : β) : ((List.range l.length).map fun i => (l[i]?.map f).getD d) = l.map f := by
  refine List.ext_getElem? fun i => ?_
  rw [List.getElem?_map, List.getElem?_map]
  by_cases hi : i < l.length
  · rw [List.getElem?_range hi]
    show some ((l[i]?.map f).getD d) = l[i]?.map f
    rw [List.getElem?_eq_getElem hi]
    rfl
  · rw [List.getElem?_eq_none_iff.mpr (by rw [List.length_range]; omega), List.getElem?_eq_none_iff.mpr (by omega)]
    rfl
theorem comp_items {J : It} {P : Hp → Prop} {xs : List V} (Y : Yl J P xs) {te : TE} {is : List Nat} {D : Addr} (f : V → V) (hD : H D = none) (hP : ∀ H1, Same H H1 → P H1) (hz : xs.length ≤ sizeLine)
    (step : ∀ (i : Nat) (x : V) (H1 : Hp) (Q' : VK), xs[i]? = some x → Same H H1 → (∀ H3, Same H1 H3 → Q' (f x) H3) → te (some x :: capV is σ) H1 Q')
    (fin : ∀ H1, Same H H1 → H1 D = some (.lst (xs.map f)) → Q (.ref D) H1) : CompBodyI J (nam 0 : TX K).g (cT (none : Option (EX K))) te 1 is σ D H Q := by
  refine comp_all Y (fun i => (xs[i]?.map f).getD .non) hD hP hz (fun i x H1 Q' hx hS q => ?_) fun H1 hS hO => fin H1 hS (by rw [range_get] at hO; exact hO)
  rw [hx] at q
  exact step i x H1 Q' hx hS q
theorem comp_str {z : Str} {te : TE} {is : List Nat} {D : Addr} (f : Nat → V) (hD : H D = none) (hz : z.length ≤ sizeLine)
    (step : ∀ (i c : Nat) (H1 : Hp) (Q' : VK), z.cps.toList[i]? = some c → Same H H1 → (∀ H3, Same H1 H3 → Q' (f c) H3) → te (some (sgn c) :: capV is σ) H1 Q')
    (fin : ∀ H1, Same H H1 → H1 D = some (.lst (z.cps.toList.map f)) → Q (.ref D) H1) : CompBodyI (Its z) (nam 0 : TX K).g (cT (none : Option (EX K))) te 1 is σ D H Q := by
  refine comp_all yl_str (fun i => (z.cps.toList[i]?.map f).getD .non) hD (fun _ _ => trivial) (by rw [sgnV_len]; exact hz) (fun i x H1 Q' hx hS q => ?_) fun H1 hS hO => fin H1 hS (by
    rw [show (sgnV z).length = z.cps.toList.length by rw [sgnV_len]; simp, range_get] at hO; exact hO)
  unfold sgnV at hx
  rw [List.getElem?_map] at hx
  cases e : z.cps.toList[i]? with
  | none => rw [e] at hx; cases hx
  | some c =>
    rw [e] at hx q
    have hx' : sgn c = x := Option.some.inj hx
    subst hx'
    exact step i c H1 Q' e hS q
theorem sqT_same {p : Addr} {xs : List V} (hp : SqT K H p xs) (H1 : Hp) (hS : Same H H1) : SqT K H1 p xs := by
  rcases hp with (h | ⟨o, h⟩) | h
  · exact .inl (.inl (hS _ _ h))
  · exact .inl (.inr ⟨o, hS _ _ h⟩)
  · exact .inr h
theorem comp_tup {p : Addr} {xs : List V} {te : TE} {is : List Nat} {D : Addr} (f : V → V) (hp : SqT K H p xs) (hD : H D = none) (hz : xs.length ≤ sizeLine)
    (step : ∀ (i : Nat) (x : V) (H1 : Hp) (Q' : VK), xs[i]? = some x → Same H H1 → (∀ H3, Same H1 H3 → Q' (f x) H3) → te (some x :: capV is σ) H1 Q')
    (fin : ∀ H1, Same H H1 → H1 D = some (.lst (xs.map f)) → Q (.ref D) H1) : CompBodyI (Itt K p) (nam 0 : TX K).g (cT (none : Option (EX K))) te 1 is σ D H Q := comp_items (yl_tup (xs := xs)) f hD (sqT_same hp) hz step fin
theorem i_compC {elt : EX K} {c : Option (EX K)} {tg : TX K} {it : IX K} {own caps : List Str} {is : List Nat} (h : it.t E σ H fun J H1 => ∀ D, H1 D = none → CompBodyI J tg.g (cT c) (elt.t E0) own.length is σ D H1 Q) : (compC c elt tg it own caps is).t E σ H Q := h
theorem i_comp {elt : EX K} {tg : TX K} {it : IX K} {own caps : List Str} {is : List Nat} (h : it.t E σ H fun J H1 => ∀ D, H1 D = none → CompBodyI J tg.g (cT (none : Option (EX K))) (elt.t E0) own.length is σ D H1 Q) : (comp elt tg it own caps is).t E σ H Q := h
theorem i_setC {c : CPX K} (h : c.t E σ H fun x H1 => D.nx (σ.set n (some x)) H1) : (setC n c).t E D σ H := h
end
end
end L2.Na




namespace L2.Na
open PySem PySem.Spec PyProof.Rows L2 L2.L3

noncomputable def FD (K : PySem.W.Frag) (x : Str) (st : Stmt) : Prop := ∃ (f : Addr) (fd : FuncData), Fun K x x st f fd ∧ PySem.W.nsIn K mainGlobals x = some (some (.ref f))
theorem fd_mk {K : PySem.W.Frag} {x : Str} {st : Stmt} {f : Addr} {oc : Value} {od an : Option Addr} {osl : Array (Option Value)} {kV doc pm cdv ct : Value} (a : PySem.W.nsIn K mainGlobals x = some (some (.ref f)))
    (l : K.lookup f = some ⟨oc, od, .func (PySem.W.fnOf x x (defArgs st) (defBody st) (defScope st) .none kV doc pm an cdv ct), osl⟩) (c : PySem.W.codeIn K cdv x = true) (k : PySem.W.keepIn K (.ref f) = true) : FD K x st := ⟨f, _, fun_mk l c k, a⟩
noncomputable def AllN (K : PySem.W.Frag) : List Str → Prop
  | [] => True
  | x :: xs => PySem.W.nsIn K mainGlobals x = some none ∧ AllN K xs
theorem all_none {K : PySem.W.Frag} {h : Heap} {mg : Str → Option Value} (X : K.In h) (G : h.Ns mainGlobals mg) : ∀ {xs : List Str}, AllN K xs → ∀ x ∈ xs, mg x = none
  | [], _, _, hx => nomatch hx
  | y :: ys, z, x, hx => by
    rcases List.mem_cons.mp hx with rfl | hx
    · exact PySem.W.mg_none_of X G z.1
    · exact all_none X G z.2 x hx
noncomputable def GC (K : PySem.W.Frag) (x : Str) (v : V) : Prop := ∃ u, PySem.W.nsIn K mainGlobals x = some (some u) ∧ RelV v u
theorem gc_at {K : PySem.W.Frag} {h : Heap} {mg : Str → Option Value} {P : Program} {w : World} {base : Heap} {A : Around} {x : Str} {v : V} (X : K.In h) (G : h.Ns mainGlobals mg) (c : GC K x v) : GlAt ⟨P, w, K, mg, base, A⟩ x v := by
  obtain ⟨u, h1, h2⟩ := c
  exact ⟨u, PySem.W.mg_of X G h1, h2⟩
theorem gc_str {K : PySem.W.Frag} {x z : Str} {t : Tok} (h : PySem.W.nsIn K mainGlobals x = some (some (.str z t))) : GC K x (.str z) := ⟨_, h, t, rfl⟩
theorem gc_int {K : PySem.W.Frag} {x : Str} {i : Int} {t : Tok} (h : PySem.W.nsIn K mainGlobals x = some (some (.int i t))) : GC K x (.int i) := ⟨_, h, t, rfl⟩
section
variable {K : PySem.W.Frag} {P : Program} {w : World} {h base : Heap} {mg : Str → Option Value} {x : Str} {st : Stmt} {N ps : List Str} {k : Nat} {sp : Sp}
theorem dn_of (F : FD K x st) (X : K.In h) (G : h.Ns mainGlobals mg) (bl : ∀ x ∈ blts, mg x = none) (b : List (SX K)) (S : FnScope N ps (defScope st)) (hm : mSs b ⟨N, (defScope st).names, true⟩ (defBody st) = true)
    (hb : ∀ (kV doc pm : Value) (an : Option Addr) (cdv ct : Value) (us : List Value), us.length = ps.length → bindArgs (PySem.W.fnOf x x (defArgs st) (defBody st) (defScope st) .none kV doc pm an cdv ct) ⟨us, []⟩ = pure (ps.zip us))
    (len : ∀ vs H Q E, sp vs H Q E → vs.length = ps.length) (t : ∀ vs H Q E, sp vs H Q E → tSs b (fun _ => E) { nx := fun _ H' => Q .non H', rt := Q } (start N vs) H) (hq : ∀ A, Room k A → qSs b ⟨P, w, K, mg, base, A⟩) : DnK P w K mg base (k + 1) x sp := by
  obtain ⟨f, fd, F, a⟩ := F
  exact ⟨f, fd, ps, def_ok F b S hm bl hq len t, F.binds hb, F.kp, PySem.W.mg_of X G a⟩
end
theorem law_of {l : PySem.W.OpenLaw} {q : Program} {loose : List Str} {XP : (Str → Option Value) → Heap → Prop} {YP : World → Heap → Prop} {d : DefRec} {K : Params → PySem.W.Frag} {st : Stmt} {N : List Str} {k : Nat} {x : Str} {sp : PySem.W.Frag → Sp} (hn : l.most = some 63) (hdf : d.params.defaults = []) (hr : Room (k + 1) callerA)
    (hY : ∀ (w : World) (h : Heap), YP w h → (K w.params).In h) (hd : d.name = "law") (b : ∀ K : PySem.W.Frag, List (SX K)) (S : FnScope N [x] (defScope st)) (hm : ∀ K, mSs (b K) ⟨N, (defScope st).names, true⟩ (defBody st) = true)
    (hb : ∀ (kV doc pm : Value) (an : Option Addr) (cdv ct : Value) (u : Value), bindArgs (PySem.W.fnOf "law" "law" (defArgs st) (defBody st) (defScope st) .none kV doc pm an cdv ct) ⟨[u], []⟩ = pure [(x, u)])
    (len : ∀ K vs H Q E, sp K vs H Q E → vs.length = 1) (t : ∀ K vs H Q E, sp K vs H Q E → tSs (b K) (fun _ => E) { nx := fun _ H' => Q .non H', rt := Q } (start N vs) H)
    (F : ∀ (w : World) (h : Heap), (K w.params).In h → FD (K w.params) "law" st ∧ AllN (K w.params) blts)
    (hq : ∀ (w : World) (mg : Str → Option Value) (h base : Heap), (K w.params).In h → h.Ns mainGlobals mg → (∀ x ∈ blts, mg x = none) → ∀ A, Room k A → qSs (b (K w.params)) ⟨l.prog, w, K w.params, mg, base, A⟩)
    (hsp : ∀ (K : PySem.W.Frag) (H : Hp) (a : Addr) (ns : List Int), ns.length ≤ 63 → SqL K H a (ns.map V.int) → sp K [.ref a] H (fun v _ => v = .bl true) fun _ _ _ => False) :
    PySem.W.WalkO q loose XP YP l.row.toRowW d [] (fun f vs => PySem.call f vs) := by
  refine L2.walk_of (n := 63) (k := k + 1) (x := x) (CX := fun w => CXF l.prog w) (sp := fun w => sp (K w.params)) hn (by decide) hdf hr hY (fun w mg fa h KX G hmg => ?_) (fun w H a ns hl _ hS => hsp _ H a ns hl hS) fun _ _ _ _ _ z => CXF.no z
  obtain ⟨⟨f, fd, Fn, a⟩, bl⟩ := F w h KX
  rw [hd] at hmg
  have e := hmg.symm.trans (PySem.W.mg_of KX G a)
  cases e
  refine ⟨fd, fun s u => ?_, fun base _ _ => ?_⟩
  · obtain ⟨oc, od, kV, doc, pm, an, cdv, ct, osl, rfl, lk, hcd⟩ := Fn.ex
    exact .of_eq (hb kV doc pm an cdv ct u)
  · exact def_ok Fn (b (K w.params)) S (hm _) (all_none KX G bl) (hq w mg h base KX G (all_none KX G bl)) (fun vs H Q E z => len _ vs H Q E z) (t _)

theorem by1 {Z : List Value → Prop} (h : ∀ a : Value, Z [a]) (us : List Value) (hl : us.length = 1) : Z us := match us, hl with | [_], _ => h _
theorem by2 {Z : List Value → Prop} (h : ∀ a b : Value, Z [a, b]) (us : List Value) (hl : us.length = 2) : Z us := match us, hl with | [_, _], _ => h _ _
theorem by3 {Z : List Value → Prop} (h : ∀ a b c : Value, Z [a, b, c]) (us : List Value) (hl : us.length = 3) : Z us := match us, hl with | [_, _, _], _ => h _ _ _
theorem by4 {Z : List Value → Prop} (h : ∀ a b c d : Value, Z [a, b, c, d]) (us : List Value) (hl : us.length = 4) : Z us := match us, hl with | [_, _, _, _], _ => h _ _ _ _
end L2.Na




namespace L2.Na
open PySem PySem.Spec PyProof.Rows L2 L2.L3 PySem.Builtin PySem.Builtin.Str
section
variable {K : PySem.W.Frag}


section
variable {E : XS} {σ : St} {H : Hp} {Q : VK} {D : Ends} {QB : Bool → Hp → Prop} {v : V} {i j : Int} {n : Nat} {a b c : EX K}
theorem dB {c d : Bool} : decide (V.bl c = V.bl d) = (c == d) := by cases c <;> cases d <;> rfl
theorem j_neB {c d : Bool} (h : QB (!(c == d)) H) : rB (rCmp K .NotEq) (.bl c) (.bl d) H QB := .inl ⟨rfl, by show QB _ H; rw [dB]; exact h⟩
theorem i_catL {p q : Addr} {xs ys : List V} (h1 : H p = some (.lst xs)) (h2 : H q = some (.lst ys)) (hz : xs.length + ys.length ≤ sizeLine) (h : ∀ r, H r = none → Q (.ref r) (upd H r (.lst (xs ++ ys)))) : rBin K .Add (.ref p) (.ref q) H Q :=
  .inl ⟨p, q, xs, ys, rfl, rfl, h1, h2, hz, h⟩
theorem i_rep {p : Addr} {xs : List V} {k : Int} (h1 : H p = some (.lst xs)) (h2 : -(2 ^ 63) ≤ k ∧ k < 2 ^ 63) (hz : xs.length * k.toNat ≤ sizeLine) (h : ∀ r, H r = none → Q (.ref r) (upd H r (.lst (List.replicate k.toNat xs).flatten))) : rBin K .Mult (.ref p) (.int k) H Q :=
  ⟨p, k, xs, rfl, rfl, h1, h2.1, h2.2, hz, h⟩
end
end
end L2.Na




namespace L2.Na
open PySem PySem.Spec PyProof.Rows L2 L2.L3
section
variable {K : PySem.W.Frag} {σ : St} {H : Hp} {Q : VK}
theorem comp_rel {J : It} {P : Hp → Prop} {items : List V} (Y : Yl J P items) {te : TE} {is : List Nat} {D : Addr} (R : Nat → V → Hp → Prop) (hD : H D = none) (hP : ∀ H1, Same H H1 → P H1) (hz : items.length ≤ sizeLine)
    (mono : ∀ i y H1 H2, (∀ b o, b ≠ D → H1 b = some o → H2 b = some o) → R i y H1 → R i y H2)
    (step : ∀ (i : Nat) (x : V) (H1 : Hp) (Q' : VK), items[i]? = some x → Same H H1 → (∃ o, H1 D = some o) → (∀ y H3, Same H1 H3 → R i y H3 → Q' y H3) → te (some x :: capV is σ) H1 Q')
    (fin : ∀ H1 ys, Same H H1 → H1 D = some (.lst ys) → ys.length = items.length → (∀ i y, ys[i]? = some y → R i y H1) → Q (.ref D) H1) : CompBodyI J (nam 0 : TX K).g (cT (none : Option (EX K))) te 1 is σ D H Q := by
  refine ⟨fun i m σ' H1 => m = items.length - i ∧ i ≤ items.length ∧ (∃ a, σ' = a :: capV is σ) ∧ Same H H1 ∧ ∃ ys : List V, H1 D = some (.lst ys) ∧ ys.length = i ∧ ∀ j y, ys[j]? = some y → R j y H1, ⟨items.length, by simp, Nat.zero_le _, ⟨none, rfl⟩, fun b o e => by rw [upd_ne (ne_of_none e hD)]; exact e, [], upd_same, rfl, fun j y z => by simp at z⟩, ?_⟩
  rintro i m σ' H1 ⟨rfl, hi, ⟨a, rfl⟩, hS, ys, hO, hl, hr⟩
  have p := hP H1 hS
  by_cases hlt : i < items.length
  · refine .inr ⟨Y.go i H1 p hlt, fun x H' hy => ?_⟩
    obtain ⟨e, hx⟩ := Y.yld i H1 x H' p hlt hy
    subst e
    refine ⟨fun _ => ?_, fun z => nomatch z⟩
    refine step i x H' _ hx hS ⟨_, hO⟩ fun y H3 s3 hy3 => ?_
    refine ⟨ys, s3 _ _ hO, by rw [hl]; omega, items.length - (i + 1), by omega, rfl, hlt, ⟨_, rfl⟩, fun b o q => ?_, ys ++ [y], upd_same, by rw [List.length_append, hl]; rfl, fun j y' hj => ?_⟩
    · rw [upd_ne (ne_of_none q hD)]
      exact s3 _ _ (hS b o q)
    · by_cases hj2 : j < ys.length
      · rw [List.getElem?_append_left hj2] at hj
        exact mono j y' H' _ (fun b o hb q => by rw [upd_ne hb]; exact s3 _ _ q) (hr j y' hj)
      · rw [List.getElem?_append_right (by omega)] at hj
        have e0 : j - ys.length = 0 := by
          have := (List.getElem?_eq_some_iff.mp hj).1
          simp at this
          omega
        rw [e0] at hj
        have e1 : y = y' := by simpa using hj
        subst e1
        have e2 : j = i := by omega
        subst e2
        exact mono j y H3 _ (fun b o hb q => by rw [upd_ne hb]; exact q) hy3
  · have e : i = items.length := by omega
    subst e
    exact .inl ⟨Y.stop H1 p, fin H1 ys hS hO hl hr⟩
theorem comp_lstI {p : Addr} {xs : List V} {te : TE} {is : List Nat} {D : Addr} (f : Nat → V) (hp : SqL K H p xs) (hD : H D = none) (hz : xs.length ≤ sizeLine)
    (step : ∀ (i : Nat) (x : V) (H1 : Hp) (Q' : VK), xs[i]? = some x → Same H H1 → (∀ H3, Same H1 H3 → Q' (f i) H3) → te (some x :: capV is σ) H1 Q')
    (fin : ∀ H1, Same H H1 → H1 D = some (.lst ((List.range xs.length).map f)) → Q (.ref D) H1) : CompBodyI (Itl K p) (nam 0 : TX K).g (cT (none : Option (EX K))) te 1 is σ D H Q := comp_all (yl_list (xs := xs)) f hD (fun H1 hS => hS.seq hp) hz step fin
end
end L2.Na




namespace L2.Na
open PySem PySem.Spec PyProof.Rows L2 L2.L3
section
variable {K : PySem.W.Frag}
section
variable {E : XS} {σ : St} {H : Hp} {Q : VK} {D : Ends} {a c : EX K} {bd : List (SX K)}
end
end
end L2.Na


set_option compiler.extract_closed false


set_option hygiene false in
local macro_rules | `(tactic| walk_at "t") => `(tactic| (with_reducible first | refine L2.Na.i_seq ?_ | refine L2.Na.i_nil ?_ | refine L2.Na.i_set ?_ | refine L2.Na.i_ret ?_ | refine L2.Na.i_ex ?_ | refine L2.Na.i_if ?_ | refine L2.Na.i_cst ?_ | refine L2.Na.i_glb ?_ | refine L2.Na.i_bin ?_ | refine L2.Na.i_call ?_ | refine L2.Na.i_acons ?_ | refine L2.Na.i_anil ?_ | refine L2.Na.i_add ?_ | refine L2.Na.i_cmp ?_ | refine L2.Na.j_cmp ?_ | refine L2.Na.i_eqS ?_ | refine L2.Na.j_lt ?_ | refine L2.Na.j_gt ?_ | refine L2.Na.j_eq ?_ | refine L2.Na.j_not ?_ | refine L2.Na.i_truB ?_ | refine L2.Na.i_and ?_ | refine L2.Na.j_and ?_ | refine L2.Na.j_or ?_ | refine L2.Na.i_bop0 ?_ | refine L2.Na.j_bop0 ?_ | refine L2.Na.i_bopA ?_ | refine L2.Na.i_len ?_ | refine L2.Na.i_all ?_ | refine L2.Na.i_min ?_ | refine L2.Na.i_min2 ?_ | refine L2.Na.i_isi ?_ | refine L2.Na.i_tyBool ?_ | refine L2.Na.i_dzip ?_ | refine L2.Na.i_tupleE ?_ | refine L2.Na.i_ix ?_ | refine L2.Na.i_slc ?_ | refine L2.Na.i_o0 ?_ | refine L2.Na.i_o1 ?_ | refine L2.Na.i_rO ?_ | refine L2.Na.i_lst ?_ | refine L2.Na.i_tup ?_ | refine L2.Na.i_join ?_ | refine L2.Na.i_index ?_ | refine L2.Na.i_append ?_ | refine L2.Na.i_RS ?_ | refine L2.Na.i_isB ?_ | refine L2.Na.i_for ?_ | refine L2.Na.i_rng ?_ | refine L2.Na.i_iseq ?_ | refine L2.Na.i_itS ?_ | refine L2.Na.i_comp ?_ | refine L2.Na.i_compC ?_ | refine L2.Na.i_setC ?_ | refine L2.Na.i_nam ?_ | refine L2.Na.j_neB ?_))
local macro_rules | `(tactic| walk_at "s") => `(tactic| first
  | ((with_reducible refine L2.Na.i_var (v := ?v) ?h1 ?_); (case h1 => exact rfl))
  | walk_at "t"
  | ((with_reducible refine L2.Na.i_mul ?h1 ?_); (case h1 => first | exact Or.inl ⟨by omega, by omega⟩ | exact Or.inr ⟨by omega, by omega⟩))
  | ((with_reducible refine L2.Na.i_div ?h1 ?_); (case h1 => exact ⟨by omega, by omega⟩))
  | ((with_reducible refine L2.Na.i_mod ?h1 ?_); (case h1 => omega))
  | ((with_reducible refine L2.Na.i_rng1 ?h1 ?_); (case h1 => exact ⟨by omega, by omega⟩))
  | ((with_reducible refine L2.Na.i_lenL (xs := ?xs) ?h1 ?_); (case h1 => assumption))
  | ((with_reducible refine L2.Na.i_lenT (xs := ?xs) ?h1 ?_); (case h1 => assumption))
  | ((with_reducible refine L2.Na.j_tru ?h1 ?_); (case h1 => rfl)))
local macro_rules | `(tactic| walk_at "go") => `(tactic| repeat (walk_at "s"))




namespace L2.Na
open PySem PySem.Spec PyProof.Rows L2 L2.L3
section
variable {K : PySem.W.Frag} {σ : St} {H : Hp} {Q : VK}
end
end L2.Na




namespace PySem
namespace F
end F
noncomputable def Heap.IsRvs (h : Heap) (a : Addr) (z : Str) (t : Tok) (i : Int) : Prop := ∃ o, h.get? a = some o ∧ o.cls = .type "reversed" ∧ o.data = .fields #[.str z t, rawInt i]
theorem Heap.IsRvs.typeIs {s : Shared} {a : Addr} {z : Str} {t : Tok} {i : Int} (x : s.heap.IsRvs a z t i) : s.TypeIs (.ref a) "reversed" := let ⟨o, ho, hc, _⟩ := x; ⟨o, ho, hc⟩
theorem Heap.IsRvs.at {h h' : Heap} {a : Addr} {z : Str} {t : Tok} {i : Int} (x : h.IsRvs a z t i) (e : ∀ o, h.get? a = some o → h'.get? a = some o) : h'.IsRvs a z t i := let ⟨o, ho, r⟩ := x; ⟨o, e _ ho, r⟩
section
variable {prog : Program} {w : World} {A : Around} {E : Value → Shared → Prop} {s : Shared}
end
end PySem

namespace L2.Na
open PySem PySem.Spec PyProof.Rows L2 L2.L3
section
variable {K : PySem.W.Frag}
section
variable {E : XS} {σ : St} {H : Hp} {a : EX K}
end
end
end L2.Na




namespace L2.Na
open PySem PySem.Spec PyProof.Rows L2 L2.L3
section
variable {K : PySem.W.Frag}

noncomputable def cmpR (op : CmpOp) (r : R2) (hr : ∀ X : Cx, X.K = K → X.A.units + 64 < cLine → OpR X (compareOp op) r) (a b : EX K) : EX K where
  t := fun E => tOp r (a.t E) (b.t E)
  tt := fun E σ H Q => a.t E σ H fun x H1 => b.t E σ H1 fun y H2 => r x y H2 fun v H3 => ∃ c, v = .bl c ∧ Q c H3
  m := fun C e => match e with
    | .Compare l [o] [r] _ => decide (o = op) && (a.m C l && b.m C r)
    | _ => false
  q := fun R => a.q R ∧ b.q R
  s := .pl
  ok := fun X C E e hK G hE hq hm => by
    subst hK
    cases e with
    | Compare l os rs p =>
      match os, rs, hm with
      | [o], [r'], hm =>
        simp only [Bool.and_eq_true] at hm
        obtain ⟨h1, h2, h3⟩ := hm
        have e := of_decide_eq_true h1
        subst e
        exact pe_cmpR (hr X rfl G.hu) (a.ok X C E l rfl G hE hq.1 h2) (b.ok X C E r' rfl G hE hq.2 h3) (shp_mark (b.sok C r' h3))
    | _ => exact ff hm
  okT := fun X C E e hK G hE hq hm => by
    subst hK
    cases e with
    | Compare l os rs p =>
      match os, rs, hm with
      | [o], [r'], hm =>
        simp only [Bool.and_eq_true] at hm
        obtain ⟨h1, h2, h3⟩ := hm
        have e := of_decide_eq_true h1
        subst e
        intro pins s σ H Q I hw
        refine wpAny_isTrue_Compare1 (thn (a.ok X C E l rfl G hE hq.1 h2 pins s σ H _ I hw) fun v s1 ⟨x, H1, I1, r1, q1⟩ => thn (b.ok X C E r' rfl G hE hq.2 h3 pins s1 σ H1 _ I1 q1) fun u s2 ⟨y, H2, I2, r2, q2⟩ =>
          thn (hr X rfl G.hu pins s2 σ H2 x y v u _ I2 r1 r2 q2) fun c s3 ⟨z, H3, I3, r3, q3⟩ => ?_) (shp_mark (b.sok C r' h3))
        obtain ⟨d, rfl, q⟩ := q3
        cases r3
        exact wpAny_truthy_bool ⟨H3, I3, q⟩
    | _ => exact ff hm
  sok := fun C e hm => by cases e with | Compare l o r p => rfl | _ => exact ff hm
section
variable {E : XS} {σ : St} {H : Hp} {a b : EX K}
end
end
end L2.Na




namespace L2.Na
open PySem PySem.Spec PyProof.Rows L2 L2.L3 PySem.SeqAt

noncomputable def EqI0 (x y : V) (b : Bool) : Prop := (∃ i j, x = .int i ∧ y = .int j ∧ b = (i == j)) ∨ (∃ w z, x = .str w ∧ y = .str z ∧ b = (w == z)) ∨ (∃ k l, x = .bl k ∧ y = .bl l ∧ b = (k == l)) ∨ (x = .non ∧ y = .non ∧ b = true) ∨ (∃ i, x = .non ∧ y = .int i ∧ b = false) ∨ (∃ i, x = .int i ∧ y = .non ∧ b = false)

noncomputable def EqI (H : Hp) (x y : V) (b : Bool) : Prop := EqI0 x y b ∨ ∃ p q xs ys e, x = .ref p ∧ y = .ref q ∧ p ≠ q ∧ H p = some (.lst xs) ∧ H q = some (.lst ys) ∧ xs.length = ys.length ∧ (∀ (i : Nat) (x y : V), xs[i]? = some x → ys[i]? = some y → EqI0 x y (e i)) ∧ b = (List.range xs.length).all e
section
variable {X : Cx} {pins : List (Addr × Obj)} {σ : St} {H : Hp} {s : Shared}
theorem eqi0_at {A : Around} {x y : V} {u v : Value} {b : Bool} (h : EqI0 x y b) (r1 : RelV x u) (r2 : RelV y v) : EqAt A s u v b := by
  rcases h with ⟨i, j, rfl, rfl, rfl⟩ | ⟨w, z, rfl, rfl, rfl⟩ | ⟨k, l, rfl, rfl, rfl⟩ | ⟨rfl, rfl, rfl⟩ | ⟨i, rfl, rfl, rfl⟩ | ⟨i, rfl, rfl, rfl⟩
  · obtain ⟨t, rfl⟩ := r1
    obtain ⟨t2, rfl⟩ := r2
    exact EqAt.int_int i t j t2
  · obtain ⟨t, rfl⟩ := r1
    obtain ⟨t2, rfl⟩ := r2
    exact EqAt.str_str w t z t2
  · cases r1
    cases r2
    exact EqAt.bool_bool k l
  · cases r1
    cases r2
    exact EqAt.same _
  · cases r1
    obtain ⟨t, rfl⟩ := r2
    exact EqAt.none_int i t
  · obtain ⟨t, rfl⟩ := r1
    cases r2
    exact EqAt.int_none i t
theorem eqi_items {A : Around} {R : V → V → Bool → Prop} {e : Nat → Bool} {xs ys : List V} {us vs : List Value} (r1 : Vals xs us) (r2 : Vals ys vs) (hi : ∀ (i : Nat) (x y : V), xs[i]? = some x → ys[i]? = some y → R x y (e i))
    (ih : ∀ (x y : V) (u v : Value) (b : Bool), R x y b → RelV x u → RelV y v → EqAt A s u v b) : ∀ j (h1 : j < us.toArray.size) (h2 : j < vs.toArray.size), EqAt A s us.toArray[j] vs.toArray[j] (e j) := fun j h1 h2 => by
  obtain ⟨x, e1, q1⟩ := vals_at r1 h1
  obtain ⟨y, e2, q2⟩ := vals_at r2 h2
  exact ih x y _ _ _ (hi j x y e1 e2) q1 q2
theorem eqi_at (I : Inv X pins σ H s) {A : Around} {x y : V} {u v : Value} {b : Bool} (hu : A.units + 4 < cLine) (h : EqI H x y b) (r1 : RelV x u) (r2 : RelV y v) : EqAt A s u v b := by
  rcases h with h | ⟨p, q, xs, ys, e, rfl, rfl, hne, h1, h2, hl, hi, rfl⟩
  · exact eqi0_at h r1 r2
  · cases r1
    cases r2
    refine EqAt.of_refs hne ?_
    obtain ⟨_, its, n1, k1, l1, g1⟩ := I.lstM h1
    obtain ⟨_, its2, n2, k2, l2, g2⟩ := I.lstM h2
    have z := RcAt.lists (A := A) (e := e) (⟨_, g1, rfl, n1, rfl⟩ : s.heap.IsList p its.toArray) (⟨_, g2, rfl, n2, rfl⟩ : s.heap.IsList q its2.toArray) (by rw [List.size_toArray, List.size_toArray]; omega) (by omega)
      (eqi_items k1 k2 hi fun x y u v b => eqi0_at)
    rw [List.size_toArray, ← k1.length] at z
    exact z

noncomputable def rEqG : R2 := fun x y H Q => ∃ p q xs ys e, x = .ref p ∧ y = .ref q ∧ ((H p = some (.lst xs) ∧ H q = some (.lst ys)) ∨ (H p = some (.tup xs) ∧ H q = some (.tup ys))) ∧ xs.length = ys.length ∧ (∀ (i : Nat) (x y : V), xs[i]? = some x → ys[i]? = some y → EqI H x y (e i)) ∧ Q (.bl ((List.range xs.length).all e)) H
theorem op_eqG (hu : X.A.units + 64 < cLine) : OpR X (compareOp .Eq) rEqG := by
  intro pins s σ H x y v u Q I rx ry h
  obtain ⟨p, q, xs, ys, e, rfl, rfl, hh, hl, hi, qq⟩ := h
  cases rx
  cases ry
  have hu1 : X.A.in1.units + 4 < cLine := by show X.A.units + 1 + 4 < cLine; omega
  rcases hh with ⟨h1, h2⟩ | ⟨h1, h2⟩
  · obtain ⟨_, its, n1, k1, l1, g1⟩ := I.lstM h1
    obtain ⟨_, its2, n2, k2, l2, g2⟩ := I.lstM h2
    have z := RcAt.lists (A := X.A) (e := e) (⟨_, g1, rfl, n1, rfl⟩ : s.heap.IsList p its.toArray) (⟨_, g2, rfl, n2, rfl⟩ : s.heap.IsList q its2.toArray) (by rw [List.size_toArray, List.size_toArray]; omega) (by omega)
      (eqi_items k1 k2 hi fun x y u v b h r1 r2 => eqi_at I hu1 h r1 r2)
    rw [List.size_toArray, ← k1.length] at z
    exact z X.prog X.w X.xe _ ⟨.bl _, H, I, rfl, qq⟩
  · obtain ⟨its, k1, p1, _⟩ := I.tuple (SqT.of h1)
    obtain ⟨its2, k2, p2, _⟩ := I.tuple (SqT.of h2)
    have z := RcAt.tuples (A := X.A) (e := e) (show s.heap.IsTuple p its.toArray from p1) (show s.heap.IsTuple q its2.toArray from p2) (by omega)
      (eqi_items k1 k2 hi fun x y u v b h r1 r2 => eqi_at I hu1 h r1 r2)
    have e3 : its.toArray.size = its2.toArray.size := by rw [List.size_toArray, List.size_toArray, ← k1.length, ← k2.length]; exact hl
    rw [e3, beq_self_eq_true, Bool.and_true] at z
    have e4 : its2.toArray.size = xs.length := by rw [List.size_toArray, ← k2.length]; exact hl.symm
    simp only [e4, Nat.min_self] at z
    exact z X.prog X.w X.xe _ ⟨.bl _, H, I, rfl, qq⟩
end
section
variable {K : PySem.W.Frag}
noncomputable def eqG (a b : EX K) : EX K := cmpR .Eq rEqG (fun _ _ hu => op_eqG hu) a b
variable {E : XS} {σ : St} {H : Hp} {a b : EX K}
theorem i_eqG {Q : VK} (h : a.t E σ H fun x H1 => b.t E σ H1 fun y H2 => rEqG x y H2 Q) : (eqG a b).t E σ H Q := h
end
end L2.Na




namespace L2.Na
open PySem PySem.Spec PyProof.Rows L2 L2.L3
section
variable {K : PySem.W.Frag}
theorem vals_ofget : ∀ {xs : List V} {us : List Value}, xs.length = us.length → (∀ (i : Nat) (x : V) (u : Value), xs[i]? = some x → us[i]? = some u → RelV x u) → Vals xs us
  | [], [], _, _ => .nil
  | [], _ :: _, h, _ => by simp at h
  | _ :: _, [], h, _ => by simp at h
  | x :: xs, u :: us, h, g => .cons (g 0 x u rfl rfl) (vals_ofget (by simpa using h) fun i y v a b => g (i + 1) y v (by simpa using a) (by simpa using b))
noncomputable def rListS : List V → Hp → VK → Prop
  | [.str z], H, Q => z.length ≤ sizeLine ∧ ∀ l, H l = none → Q (.ref l) (upd H l (.lst (sgnV z)))
  | _, _, _ => False
theorem listS_ok (X : Cx) (hc : X.calm = true) : CallR X (.type "list") rListS := by
  intro pins s σ H xs us Q I r h
  unfold rListS at h
  split at h
  · rename_i z
    obtain ⟨hz, q⟩ := h
    obtain ⟨u, rfl, r1⟩ := r.one
    obtain ⟨t, rfl⟩ := r1
    refine call_list_str (I.ok.hd hc) z t (fun h' tk acc' c' kp hS hI => ?_) hz
    have hv : Vals (sgnV z) acc'.toList := vals_ofget (by rw [sgnV_len, Array.length_toList]; exact hI.1.symm) fun i x u hx hu => by
      have hu' : acc'[i]? = some u := by rw [← Array.getElem?_toList]; exact hu
      obtain ⟨c, tu, hc, rfl⟩ := hI.2 i u hu'
      have hc' : z.cps.toList[i]? = some c := by rw [Array.getElem?_toList]; exact hc
      unfold sgnV at hx
      rw [List.getElem?_map, hc'] at hx
      cases hx
      exact ⟨tu, rfl⟩
    refine ⟨.ref s.heap.objs.size, _, I.laid (a := s.heap.objs.size) (o := .lst (sgnV z)) (t' := tk) kp (Nat.le_refl _) ⟨by rw [sgnV_len]; exact hz, acc'.toList, c', hv, hS⟩, rfl, q _ (I.hok.fresh (Nat.le_refl _))⟩
  · exact h.elim
noncomputable def listS (a : EX K) : EX K := bfT "list" "list" rListS (fun X _ hc _ => listS_ok X hc) PyProof.Rows.Boot.list (by decide +kernel) (by decide +kernel) a []
theorem i_listS {E : XS} {σ : St} {H : Hp} {Q : VK} {a : EX K} (h : a.t E σ H fun x H1 => rListS [x] H1 Q) : (listS a).t E σ H Q := h
end
end L2.Na




namespace L2.Na
open PySem PySem.Spec PyProof.Rows L2 L2.L3
section
variable {K : PySem.W.Frag}
noncomputable def sp_law_cell (K : PySem.W.Frag) : Sp := fun vs H Q _ => ∃ (a : Addr) (ns : List Int) (k : Int), vs = [.ref a, .int k] ∧ SqL K H a (ns.map V.int) ∧ 0 ≤ k ∧ ∀ v : Int, Q (.int v) H
noncomputable def b_law_cell (K : PySem.W.Frag) : List (SX K) :=
  [ifS (cmp .Lt (var 1) (len (var 0))) [ret (ix (var 0) (var 1))] [],
    ret (cst (.int 0))]
theorem atI_ints {ns : List Int} {k : Int} (h0 : 0 ≤ k) (h : k < ns.length) : ∃ v : Int, atI (ns.map V.int) k = some (.int v) := by
  have hk : k.toNat < ns.length := by omega
  have ek : k = ((k.toNat : Nat) : Int) := by omega
  have z : atI (ns.map V.int) ((k.toNat : Nat) : Int) = some (.int ns[k.toNat]) := atI_nat (by rw [List.getElem?_map, List.getElem?_eq_getElem hk] <;> rfl)
  rw [← ek] at z
  exact ⟨_, z⟩
theorem l_law_cell : ∀ vs H Q E, sp_law_cell K vs H Q E → vs.length = 2 := by
  rintro vs H Q E ⟨_, _, _, rfl, _⟩
  rfl
theorem t_law_cell (vs : List V) (H : Hp) (Q : VK) (E : XK) (h : sp_law_cell K vs H Q E) : tSs (b_law_cell K) (fun _ => E) { nx := fun _ H' => Q .non H', rt := Q } (start ["_law_script", "_law_k"] vs) H := by
  obtain ⟨a, ns, k, rfl, hS, h0, q⟩ := h
  unfold b_law_cell
  walk_at "go"
  refine br_d (fun c => ?_) fun c => ?_
  · rw [List.length_map] at c
    obtain ⟨v, hv⟩ := atI_ints h0 c
    walk_at "go"
    exact i_ixL hS hv (q v)
  · walk_at "go"
    exact q 0

noncomputable def sp_law_mixed (K : PySem.W.Frag) : Sp := fun vs H Q _ => ∃ c k : Int, vs = [.int c, .int k] ∧ 0 ≤ k ∧ k ≤ 1000 ∧ ∀ v : Int, 0 ≤ v → v < 2147483587 → Q (.int v) H
noncomputable def b_law_mixed (K : PySem.W.Frag) : List (SX K) :=
  [set 2 (bin .Mod (bin .Add (bin .Add (bin .Mult (bin .Mod (var 0) (cst (.int 2147483647))) (cst (.int 69621))) (bin .Mult (bin .Mult (cst (.int 104659)) (var 1)) (var 1))) (cst (.int 7877))) (cst (.int 2147483647))),
    ret (bin .Mod (bin .Mult (var 2) (var 2)) (cst (.int 2147483587)))]
theorem l_law_mixed : ∀ vs H Q E, sp_law_mixed K vs H Q E → vs.length = 2 := by
  rintro vs H Q E ⟨_, _, rfl, _⟩
  rfl
theorem t_law_mixed (vs : List V) (H : Hp) (Q : VK) (E : XK) (h : sp_law_mixed K vs H Q E) : tSs (b_law_mixed K) (fun _ => E) { nx := fun _ H' => Q .non H', rt := Q } (start ["_law_cell_here", "_law_k", "_law_number"] vs) H := by
  obtain ⟨c, k, rfl, h0, h1, q⟩ := h
  unfold b_law_mixed
  walk_at "go"
  exact q _ (Int.emod_nonneg _ (by decide)) (Int.emod_lt_of_pos _ (by decide))

noncomputable abbrev abcd : Str := Str.ofString "abcd"
theorem abcd_len : abcd.length = 4 := by decide +kernel
theorem abcd_cps : abcd.cps.toList = [97, 98, 99, 100] := by decide +kernel
theorem small {n : Nat} (h : n ≤ 1000000) : n ≤ sizeLine := Nat.le_trans h (by rw [sizeLine_eq]; decide)
theorem abcd_at {r m : Int} (h0 : 0 ≤ r) (hm : r < m) (h4 : m ≤ 4) : atI abcd.cps.toList r = some (97 + r.toNat) := by
  have : r = 0 ∨ r = 1 ∨ r = 2 ∨ r = 3 := by omega
  rw [abcd_cps]
  rcases this with rfl | rfl | rfl | rfl <;> rfl
noncomputable def sp_law_word (K : PySem.W.Frag) : Sp := fun vs H Q _ => ∃ n m s : Int, vs = [.int n, .int m, .int s] ∧ 1 ≤ m ∧ m ≤ 4 ∧ 0 ≤ s ∧ s ≤ 1000 ∧ ∀ z : Str, IsW m.toNat z → z.length = s.toNat → Q (.str z) H
noncomputable def b_law_word (K : PySem.W.Frag) : List (SX K) :=
  [set 3 (cst (.str "")),
    forS (nam 4) (iRng (var 2) []) [set 0 (bin .Mod (bin .Mult (bin .Add (bin .Add (var 0) (var 4)) (cst (.int 3))) (cst (.int 48271))) (cst (.int 2147483647))),
      set 3 (bin .Add (var 3) (ix (cst (.str "abcd")) (bin .Mod (bin .FloorDiv (var 0) (cst (.int 64))) (var 1))))],
    ret (var 3)]
theorem l_law_word : ∀ vs H Q E, sp_law_word K vs H Q E → vs.length = 3 := by
  rintro vs H Q E ⟨_, _, _, rfl, _⟩
  rfl
theorem t_law_word (vs : List V) (H : Hp) (Q : VK) (E : XK) (h : sp_law_word K vs H Q E) : tSs (b_law_word K) (fun _ => E) { nx := fun _ H' => Q .non H', rt := Q } (start ["_law_number", "_law_many", "_law_size", "_law_word_here", "_law_k"] vs) H := by
  obtain ⟨n, m, s, rfl, h1, h4, hs0, hs, q⟩ := h
  unfold b_law_word
  walk_at "go"
  refine loop_rng (fun i σ H' => H' = H ∧ ∃ (n' : Int) (z : Str) (a4 : Option V), IsW m.toNat z ∧ z.length = i ∧ σ = [some (.int n'), some (.int m), some (.int s), some (.str z), a4]) ⟨rfl, n, _, none, IsW.nil, by decide +kernel, rfl⟩ (fun i σ H' hi hp => ?_) fun σ H' hp => ?_
  · obtain ⟨rfl, n', z, a4, hz, hl, rfl⟩ := hp
    walk_at "go"
    refine i_ixS (by rw [abcd_len]; decide) (abcd_at (Int.emod_nonneg _ (by omega)) (Int.emod_lt_of_pos _ (by omega)) h4) ?_
    refine i_addS (small (by show z.length + 1 ≤ 1000000; omega)) ?_
    refine ⟨rfl, _, _, _, IsW.app hz (IsW.sgn (by omega) ?_), by rw [len_app, hl]; rfl, rfl⟩
    have := Int.emod_lt_of_pos ((n' + (0 + (i : Nat)) + 3) * 48271 % 2147483647 / 64) (show (0 : Int) < m by omega)
    have := Int.emod_nonneg ((n' + (0 + (i : Nat)) + 3) * 48271 % 2147483647 / 64) (show m ≠ 0 by omega)
    omega
  · obtain ⟨rfl, n', z, a4, hz, hl, rfl⟩ := hp
    walk_at "go"
    exact q z hz hl


structure Rl (K : PySem.W.Frag) (H : Hp) (a : Addr) (ws : List Str) (most : Nat) : Prop where
  tp : H a = some (.tup (ws.map V.str))
  pos : 1 ≤ ws.length
  four : ws.length ≤ 4
  isw : ∀ w ∈ ws, IsW ws.length w
  one : ∀ w ∈ ws, 1 ≤ w.length
  le : ∀ w ∈ ws, w.length ≤ most
theorem Same.seqT {H H' : Hp} {a : Addr} {xs : List V} (e : Same H H') (h : SqT K H a xs) : SqT K H' a xs := by
  rcases h with (h | ⟨o, h⟩) | h
  · exact .inl (.inl (e _ _ h))
  · exact .inl (.inr ⟨o, e _ _ h⟩)
  · exact .inr h
theorem Rl.sq {H : Hp} {a : Addr} {ws : List Str} {m : Nat} (h : Rl K H a ws m) : SqT K H a (ws.map V.str) := SqT.of h.tp
theorem Rl.same {H H' : Hp} {a : Addr} {ws : List Str} {m : Nat} (h : Rl K H a ws m) (e : Same H H') : Rl K H' a ws m := ⟨e _ _ h.tp, h.pos, h.four, h.isw, h.one, h.le⟩
theorem Rl.mono {H : Hp} {a : Addr} {ws : List Str} {m n : Nat} (h : Rl K H a ws m) (e : m ≤ n) : Rl K H a ws n := ⟨h.tp, h.pos, h.four, h.isw, h.one, fun w hw => Nat.le_trans (h.le w hw) e⟩

theorem same_upd {H0 H : Hp} {p : Addr} {o : HO} (e : Same H0 H) (hp : H0 p = none) : Same H0 (upd H p o) := fun b u q => by rw [upd_ne (ne_of_none q hp)]; exact e b u q
noncomputable def sp_law_rule (K : PySem.W.Frag) : Sp := fun vs H Q _ => ∃ (a : Addr) (ns : List Int) (m s : Int), vs = [.ref a, .int m, .int s] ∧ SqL K H a (ns.map V.int) ∧ 1 ≤ m ∧ m ≤ 4 ∧ 1 ≤ s ∧ s ≤ 100 ∧
  ∀ (p : Addr) (ws : List Str) (H' : Hp), Same H H' → Rl K H' p ws s.toNat → ws.length = m.toNat → Q (.ref p) H'
noncomputable def b_law_rule (K : PySem.W.Frag) : List (SX K) :=
  [set 3 (lst []),
    forS (nam 4) (iRng (var 1) []) [set 5 (call "_law_mixed" (sp_law_mixed K) [call "_law_cell" (sp_law_cell K) [var 0, bin .Add (var 4) (cst (.int 1))], var 4]),
      ex (m_append (var 3) (call "_law_word" (sp_law_word K) [var 5, var 1, bin .Add (cst (.int 1)) (bin .Mod (bin .FloorDiv (var 5) (cst (.int 16))) (var 2))]))],
    ret (tupleE (var 3))]
theorem l_law_rule : ∀ vs H Q E, sp_law_rule K vs H Q E → vs.length = 3 := by
  rintro vs H Q E ⟨_, _, _, _, rfl, _⟩
  rfl
theorem t_law_rule (vs : List V) (H : Hp) (Q : VK) (E : XK) (h : sp_law_rule K vs H Q E) : tSs (b_law_rule K) (fun _ => E) { nx := fun _ H' => Q .non H', rt := Q } (start ["_law_script", "_law_many", "_law_most", "_law_words", "_law_k", "_law_number"] vs) H := by
  obtain ⟨a, ns, m, s, rfl, hS, h1, h4, hs1, hs, q⟩ := h
  unfold b_law_rule
  walk_at "go"
  refine ⟨Nat.zero_le _, fun p hp => ?_⟩
  walk_at "go"
  refine loop_rng (fun i σ H' => Same H H' ∧ ∃ (ws : List Str) (a4 a5 : Option V), ws.length = i ∧ H' p = some (.lst (ws.map V.str)) ∧ (∀ w ∈ ws, IsW m.toNat w ∧ 1 ≤ w.length ∧ w.length ≤ s.toNat) ∧ σ = [some (.ref a), some (.int m), some (.int s), some (.ref p), a4, a5])
    ⟨same_new hp _, [], none, none, rfl, upd_same, (fun w hw => nomatch hw), rfl⟩ (fun i σ H' hi hP => ?_) fun σ H' hP => ?_
  · obtain ⟨hSm, ws, a4, a5, hl, hpl, hw, rfl⟩ := hP
    walk_at "go"
    refine ⟨a, ns, _, rfl, hSm.seq hS, by omega, fun v => ?_⟩
    walk_at "go"
    refine ⟨v, _, rfl, by omega, by omega, fun v2 h20 h2l => ?_⟩
    walk_at "go"
    refine i_RL (SqL.of hpl) ?_
    walk_at "go"
    have e1 := Int.emod_nonneg (v2 / 16) (show s ≠ 0 by omega)
    have e2 := Int.emod_lt_of_pos (v2 / 16) (show 0 < s by omega)
    refine ⟨v2, m, _, rfl, h1, h4, by omega, by omega, fun z hz hzl => ?_⟩
    walk_at "go"
    refine i_appendU hpl (by rw [List.length_map, hl]; exact Nat.lt_of_lt_of_le (show i < 100 by omega) (small (by decide))) ?_
    refine ⟨same_upd hSm hp, ws ++ [z], _, _, by rw [List.length_append, hl]; rfl, by rw [upd_same, List.map_append]; rfl, fun w hw' => ?_, rfl⟩
    rcases List.mem_append.mp hw' with h | h
    · exact hw w h
    · have e : w = z := by simpa using h
      subst e
      exact ⟨hz, by omega, by omega⟩
  · obtain ⟨hSm, ws, a4, a5, hl, hpl, hw, rfl⟩ := hP
    walk_at "go"
    refine .inl ⟨_, SqL.of hpl, fun t ht => ?_⟩
    refine q t ws _ (hSm.trans (same_new ht _)) ⟨upd_same, by omega, by omega, fun w h => ?_, fun w h => (hw w h).2.1, fun w h => (hw w h).2.2⟩ hl
    rw [hl]
    exact (hw w h).1

theorem IsW.to {m : Nat} {z : Str} {k : Int} (h : IsW m z) (h0 : 0 ≤ k) : IsW m (Txt.slice z none (some k)) := h.of_ls fun c hc => by
  rw [show ls (Txt.slice z none (some k)) = (ls z).take k.toNat from slice_to h0] at hc
  exact List.mem_of_mem_take hc
theorem IsW.from {m : Nat} {z : Str} {k : Int} (h : IsW m z) (h0 : 0 ≤ k) (h1 : k ≤ z.length) : IsW m (Txt.slice z (some k) none) := h.of_ls fun c hc => by
  rw [show ls (Txt.slice z (some k) none) = (ls z).drop k.toNat from slice_from h0 h1] at hc
  exact List.mem_of_mem_drop hc

theorem occ_letter {c : Nat} (h1 : 97 ≤ c) (h2 : c < 101) : ∃ r, Builtin.Str.occurrences abcd ⟨#[c]⟩ 0 abcd.length 1 = (c - 97) :: r := by
  have : c = 97 ∨ c = 98 ∨ c = 99 ∨ c = 100 := by omega
  rcases this with rfl | rfl | rfl | rfl
  · exact ⟨[], by decide +kernel⟩
  · exact ⟨[], by decide +kernel⟩
  · exact ⟨[], by decide +kernel⟩
  · exact ⟨[], by decide +kernel⟩
end
end L2.Na




namespace L2.Na
open PySem PySem.Spec PyProof.Rows L2 L2.L3
section
variable {K : PySem.W.Frag}
noncomputable def known (m : Int) : Str := Txt.slice abcd none (some m)
theorem ls_known {m : Int} (h0 : 0 ≤ m) (h4 : m ≤ 4) : ls (known m) = (List.range m.toNat).map (97 + ·) := by
  unfold known
  rw [show ls (Txt.slice abcd none (some m)) = abcd.cps.toList.take m.toNat from slice_to h0, abcd_cps]
  have : m = 0 ∨ m = 1 ∨ m = 2 ∨ m = 3 ∨ m = 4 := by omega
  rcases this with rfl | rfl | rfl | rfl | rfl <;> rfl
theorem known_len {m : Int} (h0 : 0 ≤ m) (h4 : m ≤ 4) : (known m).length = m.toNat := by rw [← ls_len, ls_known h0 h4, List.length_map, List.length_range]
theorem known_at {m : Int} (h0 : 0 ≤ m) (h4 : m ≤ 4) {k : Nat} (hk : k < m.toNat) : (known m).cps.toList[k]? = some (97 + k) := by
  rw [show (known m).cps.toList = ls (known m) from rfl, ls_known h0 h4, List.getElem?_map, List.getElem?_range hk]
  rfl
noncomputable def sp_letters (K : PySem.W.Frag) : Sp := fun vs H Q _ => ∃ m : Int, vs = [.int m] ∧ Q (.str (known m)) H
noncomputable def b_letters (K : PySem.W.Frag) : List (SX K) :=
  [ret (slc (glb "LETTERS" (.str "abcd")) none (some (var 0)))]
theorem l_letters : ∀ vs H Q E, sp_letters K vs H Q E → vs.length = 1 := by
  rintro vs H Q E ⟨_, rfl, _⟩
  rfl
theorem t_letters (vs : List V) (H : Hp) (Q : VK) (E : XK) (h : sp_letters K vs H Q E) : tSs (b_letters K) (fun _ => E) { nx := fun _ H' => Q .non H', rt := Q } (start ["many"] vs) H := by
  obtain ⟨m, rfl, q⟩ := h
  unfold b_letters
  walk_at "go"
  exact i_slS (by rw [abcd_len]; decide) q


noncomputable def WB (H : Hp) (d : Addr) (ws : List Str) : Prop := ∃ kvs, H d = some (.dK kvs) ∧ (∀ k w, ws[k]? = some w → valV kvs (.inr ⟨#[97 + k]⟩) = some (.str w)) ∧ ∀ c, ¬ (97 ≤ c ∧ c < 97 + ws.length) → valV kvs (.inr ⟨#[c]⟩) = none
theorem WB.same {H H' : Hp} {d : Addr} {ws : List Str} (h : WB H d ws) (e : Same H H') : WB H' d ws := by
  obtain ⟨kvs, h1, h2, h3⟩ := h
  exact ⟨kvs, e _ _ h1, h2, h3⟩
theorem WB.get {H : Hp} {d : Addr} {ws : List Str} (h : WB H d ws) {c : Nat} {w : Str} (hc : 97 ≤ c) (hw : ws[c - 97]? = some w) : DGet H d (sgn c) (some (.str w)) := by
  obtain ⟨kvs, h1, h2, _⟩ := h
  have e := h2 (c - 97) w hw
  have : 97 + (c - 97) = c := by omega
  rw [this] at e
  rw [← e]
  exact DGet.k (k := .inr ⟨#[c]⟩) h1

structure Rt4 (K : PySem.W.Frag) (H : Hp) (a : Addr) (ws : List Str) : Prop where
  tp : SqT K H a (ws.map V.str)
  pos : 1 ≤ ws.length
  four : ws.length ≤ 4
theorem Rt4.same {H H' : Hp} {a : Addr} {ws : List Str} (h : Rt4 K H a ws) (e : Same H H') : Rt4 K H' a ws := ⟨Same.seqT e h.tp, h.pos, h.four⟩
theorem Rl.rt {H : Hp} {a : Addr} {ws : List Str} {m : Nat} (h : Rl K H a ws m) : Rt4 K H a ws := ⟨h.sq, h.pos, h.four⟩
noncomputable def sp_words_by_letter (K : PySem.W.Frag) : Sp := fun vs H Q _ => ∃ (a : Addr) (ws : List Str), vs = [.ref a] ∧ Rt4 K H a ws ∧ ∀ d H', Same H H' → H d = none → WB H' d ws → Q (.ref d) H'
noncomputable def b_words_by_letter (K : PySem.W.Frag) : List (SX K) :=
  [ret (dzip (call "letters" (sp_letters K) [len (var 0)]) (var 0))]
theorem zkey_known {m : Int} (h0 : 0 ≤ m) (h4 : m ≤ 4) {k : Nat} (hk : k < m.toNat) : zkey (known m) k = .inr ⟨#[97 + k]⟩ := by
  unfold zkey
  rw [StrLaws.getD_of_getElem? (known_at h0 h4 hk)]
theorem sgn_inj {c d : Nat} (h : (Sum.inr ⟨#[c]⟩ : Key) = .inr ⟨#[d]⟩) : c = d := by
  have e2 : (⟨#[c]⟩ : Str) = ⟨#[d]⟩ := Sum.inr.inj h
  have e3 := congrArg ls e2
  simp [ls] at e3
  exact e3
theorem l_words_by_letter : ∀ vs H Q E, sp_words_by_letter K vs H Q E → vs.length = 1 := by
  rintro vs H Q E ⟨_, _, rfl, _⟩
  rfl
theorem t_words_by_letter (vs : List V) (H : Hp) (Q : VK) (E : XK) (h : sp_words_by_letter K vs H Q E) : tSs (b_words_by_letter K) (fun _ => E) { nx := fun _ H' => Q .non H', rt := Q } (start ["rule"] vs) H := by
  obtain ⟨a, ws, rfl, hR, q⟩ := h
  have h4 := hR.four
  have hq := hR.tp
  have hlen : (ws.map V.str).length = ws.length := List.length_map _
  unfold b_words_by_letter
  walk_at "go"
  refine ⟨_, rfl, ?_⟩
  walk_at "go"
  have k0 : (0 : Int) ≤ ((ws.map V.str).length : Nat) := by omega
  have k4 : (((ws.map V.str).length : Nat) : Int) ≤ 4 := by omega
  have hkl : (known ((ws.map V.str).length : Nat)).cps.size = ws.length := by
    show (known ((ws.map V.str).length : Nat)).length = _
    rw [known_len k0 k4]; omega
  have hinj : ∀ i j, i < (known ((ws.map V.str).length : Nat)).cps.size → j < (known ((ws.map V.str).length : Nat)).cps.size → zkey (known ((ws.map V.str).length : Nat)) i = zkey (known ((ws.map V.str).length : Nat)) j → i = j := fun i j hi hj e => by
    rw [hkl] at hi hj
    rw [zkey_known k0 k4 (by omega), zkey_known k0 k4 (by omega)] at e
    have := sgn_inj e
    omega
  refine ⟨_, _, ws.map V.str, rfl, .inl hq, by rw [hkl, hlen], by rw [hkl]; omega, ?_, hinj, fun d hd => ?_⟩
  · rw [Array.all_eq_true']
    intro c hc
    have hc' : c ∈ ls (known ((ws.map V.str).length : Nat)) := by simpa [ls] using hc
    rw [ls_known k0 k4] at hc'
    obtain ⟨k, hk, rfl⟩ := List.mem_map.mp hc'
    have := List.mem_range.mp hk
    simp
    omega
  refine q d _ (same_new hd _) hd ⟨_, upd_same, fun k w hw => ?_, fun c hc => ?_⟩
  · have hl : k < ws.length := (List.getElem?_eq_some_iff.mp hw).1
    unfold zipKV
    rw [← zkey_known k0 k4 (show k < (((ws.map V.str).length : Nat) : Int).toNat by omega), val_range hinj (by rw [hkl]; exact hl), List.getElem?_map, hw]
    rfl
  · unfold zipKV valV
    rw [List.find?_map]
    have e : (List.range (known ((ws.map V.str).length : Nat)).cps.size).find? ((fun kv : Key × V => decide (kv.1 = .inr ⟨#[c]⟩)) ∘ fun i => (zkey (known ((ws.map V.str).length : Nat)) i, (ws.map V.str)[i]?.getD .non)) = none := by
      refine List.find?_eq_none.mpr fun i hi z => hc ?_
      have hi' := List.mem_range.mp hi
      rw [hkl] at hi'
      have z1 : zkey (known ((ws.map V.str).length : Nat)) i = .inr ⟨#[c]⟩ := of_decide_eq_true z
      rw [zkey_known k0 k4 (by omega)] at z1
      have := sgn_inj z1
      omega
    rw [e]
    rfl

noncomputable def sp_put (K : PySem.W.Frag) : Sp := fun vs H Q _ => ∃ (a : Addr) (ws : List Str) (z : Str), vs = [.ref a, .str z] ∧ Rt4 K H a ws ∧ (∀ w ∈ ws, w.length ≤ 100) ∧ IsW ws.length z ∧ z.length ≤ 100000 ∧ ∀ H', Same H H' → Q (.str (img ws z)) H'
noncomputable def b_put (K : PySem.W.Frag) : List (SX K) :=
  [set 2 (call "words_by_letter" (sp_words_by_letter K) [var 0]),
    ret (m_join (cst (.str "")) (comp (ix (var 1) (var 0)) (nam 0) (iSeq (var 1)) ["sign"] ["word_for"] [2]))]
theorem l_put : ∀ vs H Q E, sp_put K vs H Q E → vs.length = 2 := by
  rintro vs H Q E ⟨_, _, _, rfl, _⟩
  rfl
theorem t_put (vs : List V) (H : Hp) (Q : VK) (E : XK) (h : sp_put K vs H Q E) : tSs (b_put K) (fun _ => E) { nx := fun _ H' => Q .non H', rt := Q } (start ["rule", "word", "word_for"] vs) H := by
  obtain ⟨a, ws, z, rfl, hR, hle, hz, hzl, q⟩ := h
  unfold b_put
  walk_at "go"
  refine ⟨a, ws, rfl, hR, fun d H1 hS1 _ hd => ?_⟩
  walk_at "go"
  intro D hD
  refine comp_str (fun c => .str (mkS (wd ws c))) hD (small (by omega)) (fun i c H2 Q' hc hS2 fin => ?_) fun H2 hS2 hO => ?_
  · have hcw := hz c (List.mem_of_getElem? hc)
    have hl : c - 97 < ws.length := by omega
    walk_at "go"
    have e : mkS (wd ws c) = ws[c - 97] := by
      unfold wd
      rw [List.getElem?_eq_getElem hl]
      exact mk_ls _
    have f2 := fin H2 (Same.refl _)
    rw [e] at f2
    exact i_ixD ((hd.same hS2).get hcw.1 (List.getElem?_eq_getElem hl)) f2
  · walk_at "go"
    have hb : (((ls z).map fun c => mkS (wd ws c)).map (·.length)).sum ≤ 100000 * 100 := by
      refine Nat.le_trans (sum_le (B := 100) fun x hx => ?_) (by rw [List.length_map, List.length_map, ls_len]; exact Nat.mul_le_mul_right _ hzl)
      obtain ⟨y, hy, rfl⟩ := List.mem_map.mp hx
      obtain ⟨c, hc, rfl⟩ := List.mem_map.mp hy
      have hcw := hz c hc
      have hl : c - 97 < ws.length := by omega
      rw [mk_len]
      unfold wd
      rw [List.getElem?_eq_getElem hl]
      show (ls ws[c - 97]).length ≤ 100
      rw [ls_len]
      exact hle _ (List.getElem_mem hl)
    refine ⟨(ls z).map fun c => mkS (wd ws c), .inl ?_, ?_, ?_⟩
    · rw [hO, List.map_map]; rfl
    · have e : (Str.ofString "").length = 0 := by decide +kernel
      rw [e]
      omega
    · have e : Txt.join (Str.ofString "") ((ls z).map fun c => mkS (wd ws c)) = img ws z := ls_inj (by
        rw [ls_join0, ls_img, List.map_map, List.flatMap_def]
        congr 1)
      rw [e]
      exact q H2 (hS1.trans hS2)
end
end L2.Na




namespace L2.Na
open PySem
end L2.Na




namespace L2.Na
open PySem PySem.Spec PyProof.Rows L2 L2.L3
section
variable {K : PySem.W.Frag}
end
end L2.Na




namespace L2.Na
open PySem PySem.Spec PyProof.Rows L2 L2.L3
section
variable {K : PySem.W.Frag}
noncomputable instance (m : Nat) (z : Str) : Decidable (IsW m z) := by unfold IsW; infer_instance

noncomputable def okI (n : Nat) (m : Int) : V → Bool
  | .str z => decide (IsW n z) && decide (1 ≤ z.length ∧ (z.length : Int) ≤ m)
  | _ => false
noncomputable def strOf : V → Str
  | .str z => z
  | _ => ⟨#[]⟩
end
end L2.Na




namespace L2.Na
open PySem PySem.Spec PyProof.Rows L2 L2.L3
section
variable {K : PySem.W.Frag}
end
end L2.Na




namespace L2.Na
open PySem

noncomputable def sg (ds : List Int) (z : Str) : Int := ((ls z).map fun c => ds[c - 97]?.getD 0).sum

noncomputable def szs (ws : List Str) : Nat → List Int
  | 0 => List.replicate ws.length 1
  | t + 1 => ws.map (sg (szs ws t))
end L2.Na




namespace L2.Na
open PySem PySem.Spec PyProof.Rows L2 L2.L3
section
variable {K : PySem.W.Frag}

noncomputable def TbR (H : Hp) (p : Addr) (rs : List Addr) (rows : List (List Int)) : Prop := H p = some (.lst (rs.map V.ref)) ∧ rs.length = rows.length ∧ ∀ (i : Nat) (r : Addr) (row : List Int), rs[i]? = some r → rows[i]? = some row → H r = some (.lst (row.map V.int))
theorem TbR.same {H H' : Hp} {p : Addr} {rs : List Addr} {rows : List (List Int)} (h : TbR H p rs rows) (e : Same H H') : TbR H' p rs rows := ⟨e _ _ h.1, h.2.1, fun i r row a b => e _ _ (h.2.2 i r row a b)⟩
theorem refs_of : ∀ (ys : List V), (∀ y ∈ ys, ∃ r, y = V.ref r) → ∃ rs : List Addr, ys = rs.map V.ref
  | [], _ => ⟨[], rfl⟩
  | y :: ys, h => by
    obtain ⟨r, rfl⟩ := h y List.mem_cons_self
    obtain ⟨rs, rfl⟩ := refs_of ys fun y hy => h y (List.mem_cons_of_mem _ hy)
    exact ⟨r :: rs, rfl⟩
theorem none_of {H H' : Hp} {r : Addr} (e : Same H H') (h : H' r = none) : H r = none := by
  cases q : H r with
  | none => rfl
  | some o => rw [e _ _ q] at h; cases h
end
end L2.Na




namespace L2.Na
open PySem PySem.Spec PyProof.Rows L2 L2.L3
section
variable {K : PySem.W.Frag}
theorem str_get {ws : List Str} {i : Nat} {x : V} (h : (ws.map V.str)[i]? = some x) : ∃ w, ws[i]? = some w ∧ x = .str w := by
  rw [List.getElem?_map] at h
  cases e : ws[i]? with
  | none => rw [e] at h; cases h
  | some w => rw [e] at h; exact ⟨w, rfl, (Option.some.inj h).symm⟩
theorem cut_map (ns : List Int) (lo hi : Option Int) : ∃ ms : List Int, cutV (ns.map V.int) lo hi = ms.map V.int ∧ ms.length ≤ ns.length := by
  refine ⟨(ns.drop (HT.sIx ns.length 0 lo)).take (HT.sIx ns.length ns.length hi - HT.sIx ns.length 0 lo), ?_, ?_⟩
  · unfold cutV
    rw [List.length_map, List.map_take, List.map_drop]
  · rw [List.length_take, List.length_drop]
    omega
end
end L2.Na




namespace L2.Na
open PySem

noncomputable def sz (ws : List Str) (k c : Nat) : Int := (szs ws k)[c - 97]?.getD 0
noncomputable def sumsz (ws : List Str) (k : Nat) (l : List Nat) : Int := (l.map (sz ws k)).sum
theorem sz_succ {ws : List Str} {k c : Nat} (h2 : c - 97 < ws.length) : sz ws (k + 1) c = sumsz ws k (wd ws c) := by
  show (ws.map (sg (szs ws k)))[c - 97]?.getD 0 = _
  rw [List.getElem?_map, List.getElem?_eq_getElem h2]
  unfold wd
  rw [List.getElem?_eq_getElem h2]
  rfl

structure Ru (ws : List Str) : Prop where
  pos : 1 ≤ ws.length
  four : ws.length ≤ 4
  isw : ∀ w ∈ ws, IsW ws.length w
  one : ∀ w ∈ ws, 1 ≤ w.length
  le : ∀ w ∈ ws, w.length ≤ 100
theorem Ru.word {ws : List Str} (h : Ru ws) {c : Nat} (h2 : c - 97 < ws.length) : ∃ w, ws[c - 97]? = some w ∧ wd ws c = ls w ∧ w ∈ ws := by
  refine ⟨ws[c - 97], List.getElem?_eq_getElem h2, ?_, List.getElem_mem h2⟩
  unfold wd
  rw [List.getElem?_eq_getElem h2]
  rfl
theorem Ru.sign {ws : List Str} (h : Ru ws) {c d : Nat} (h2 : c - 97 < ws.length) (hd : d ∈ wd ws c) : 97 ≤ d ∧ d - 97 < ws.length := by
  obtain ⟨w, _, e, hm⟩ := h.word h2
  rw [e] at hd
  have := h.isw w hm d hd
  omega

noncomputable def fst' (ws : List Str) (k : Nat) : List Nat → Int → Nat × Int
  | [], x => (0, x)
  | c :: l, x => if sz ws k c ≤ x then ((fst' ws k l (x - sz ws k c)).1 + 1, (fst' ws k l (x - sz ws k c)).2) else (0, x)
theorem fst_ok {ws : List Str} {k : Nat} : ∀ (l : List Nat) (x : Int), 0 ≤ x → x < sumsz ws k l → (fst' ws k l x).1 < l.length ∧ 0 ≤ (fst' ws k l x).2 ∧ (∀ d, l[(fst' ws k l x).1]? = some d → (fst' ws k l x).2 < sz ws k d) ∧ (fst' ws k l x).2 = x - sumsz ws k (l.take (fst' ws k l x).1)
  | [], x, h0, h => by
    have e : sumsz ws k [] = 0 := rfl
    rw [e] at h
    omega
  | c :: l, x, h0, h => by
    have e : sumsz ws k (c :: l) = sz ws k c + sumsz ws k l := by unfold sumsz; rw [List.map_cons, List.sum_cons]
    rw [e] at h
    unfold fst'
    by_cases hc : sz ws k c ≤ x
    · rw [if_pos hc]
      obtain ⟨h1, h2, h3, h4⟩ := fst_ok (ws := ws) (k := k) l (x - sz ws k c) (by omega) (by omega)
      refine ⟨by rw [List.length_cons]; show _ + 1 < _; omega, h2, fun d hd => h3 d (by simpa using hd), ?_⟩
      show (fst' ws k l (x - sz ws k c)).2 = x - sumsz ws k ((c :: l).take ((fst' ws k l (x - sz ws k c)).1 + 1))
      rw [List.take_succ_cons]
      have e2 : sumsz ws k (c :: l.take (fst' ws k l (x - sz ws k c)).1) = sz ws k c + sumsz ws k (l.take (fst' ws k l (x - sz ws k c)).1) := by unfold sumsz; rw [List.map_cons, List.sum_cons]
      rw [e2, h4]
      omega
    · rw [if_neg hc]
      refine ⟨by rw [List.length_cons]; show 0 < _; omega, h0, fun d hd => ?_, ?_⟩
      · have hd' : c = d := by simpa using hd
        subst hd'
        show x < _
        omega
      · show x = x - sumsz ws k ((c :: l).take 0)
        rw [List.take_zero]
        have e0 : sumsz ws k [] = 0 := rfl
        rw [e0]
        omega

noncomputable def Good (ws : List Str) (k c : Nat) (x : Int) : Prop := 97 ≤ c ∧ c - 97 < ws.length ∧ 0 ≤ x ∧ x < sz ws k c
theorem Good.step {ws : List Str} (h : Ru ws) {k c : Nat} {x : Int} (g : Good ws (k + 1) c x) : ∃ d, (wd ws c)[(fst' ws k (wd ws c) x).1]? = some d ∧ Good ws k d (fst' ws k (wd ws c) x).2 := by
  obtain ⟨g1, g2, g3, g4⟩ := g
  rw [sz_succ g2] at g4
  obtain ⟨h1, h2, h3, h4⟩ := fst_ok (wd ws c) x g3 g4
  refine ⟨(wd ws c)[(fst' ws k (wd ws c) x).1], List.getElem?_eq_getElem h1, ?_⟩
  obtain ⟨s1, s2⟩ := h.sign g2 (List.getElem_mem h1)
  exact ⟨s1, s2, h2, h3 _ (List.getElem?_eq_getElem h1)⟩

theorem least {P : Nat → Prop} [DecidablePred P] : ∀ {m : Nat}, P m → ∃ k, k ≤ m ∧ P k ∧ ∀ i, i < k → ¬ P i
  | 0, h => ⟨0, Nat.le_refl _, h, fun i hi => absurd hi (Nat.not_lt_zero _)⟩
  | m + 1, h => by
    by_cases h0 : P 0
    · exact ⟨0, Nat.zero_le _, h0, fun i hi => absurd hi (Nat.not_lt_zero _)⟩
    · obtain ⟨k, h1, h2, h3⟩ := least (P := fun k => P (k + 1)) (m := m) h
      refine ⟨k + 1, by omega, h2, fun i hi => ?_⟩
      cases i with
      | zero => exact h0
      | succ i => exact h3 i (by omega)
end L2.Na




namespace L2.Na
open PySem PySem.Spec PyProof.Rows L2 L2.L3

noncomputable def SetX (X : Cx) (p : Addr) (zs : List Str) : Heap → Prop := fun h => SetS X.prog X.w (byT X.w) h p zs
noncomputable def rSetX (X : Cx) : List V → Hp → VK → Prop := fun vs H Q => ∃ z : Str, vs = [.str z] ∧ z.cps.size + 1 < scanBound ∧ ∀ p zs, H p = none → (∀ y, y ∈ zs ↔ ∃ c ∈ ls z, y = ⟨#[c]⟩) → zs.Nodup → Q (.ref p) (upd H p (.ext (SetX X p zs)))
theorem setX_ok (X : Cx) (hc : X.calm = true) : CallR X (.type "set") (rSetX X) := by
  intro pins s σ H xs us Q I r h
  obtain ⟨z, rfl, hb, q⟩ := h
  obtain ⟨u, rfl, ru⟩ := r.one
  obtain ⟨t, rfl⟩ := ru
  refine setS_call (I.ok.hd hc) hb fun h' tk zs hS hm kp => ?_
  have hg : ∃ o, h'.get? s.heap.objs.size = some o := by
    obtain ⟨o, _, _, _, ho, _⟩ := hS
    exact ⟨o, ho⟩
  have nd : zs.Nodup := by
    obtain ⟨_, _, _, _, _, _, _, _, rfl, nd, _⟩ := id hS
    exact nd
  exact ⟨.ref _, _, I.laid (t' := tk) (o := .ext (SetX X s.heap.objs.size zs)) kp (Nat.le_refl _) ⟨hS, hg, fun h1 h2 x k => SetS.keep x k⟩, rfl, q _ zs I.fresh hm nd⟩
noncomputable def rSrtX (X : Cx) : List V → Hp → VK → Prop := fun vs H Q => ∃ (p : Addr) (zs : List Str), vs = [.ref p] ∧ H p = some (.ext (SetX X p zs)) ∧ zs.length < 64 ∧ ∀ D ss, H D = none → List.Perm ss zs → ss.Nodup → sortedS ss = true → Q (.ref D) (upd H D (.lst (ss.map V.str)))
theorem vals_of_strs : ∀ {vs : List Value} {ss : List Str}, StrsAre vs ss → Vals (ss.map V.str) vs
  | _, _, .nil => .nil
  | _, _, .cons x t h => .cons ⟨t, rfl⟩ (vals_of_strs h)
theorem srtX_ok (X : Cx) (hc : X.calm = true) : CallR X (.builtin "sorted") (rSrtX X) := by
  intro pins s σ H xs us Q I r h
  obtain ⟨p, zs, rfl, hp, h64, q⟩ := h
  obtain ⟨u, rfl, ru⟩ := r.one
  obtain rfl : u = Value.ref p := ru
  have hS : SetS X.prog X.w (byT X.w) s.heap p zs := (show ObjOk X.prog X.w H s.heap p (.ext (SetX X p zs)) from I.hok p _ hp).1
  have nd : zs.Nodup := by
    obtain ⟨_, _, _, _, _, _, _, _, rfl, nd, _⟩ := hS
    exact nd
  refine setS_sorted (I.ok.hd hc) hS h64 fun s' D vs ss e kp le hD hs pm st eg eo => ?_
  obtain ⟨h', g', d', tk', os'⟩ := s'
  have eg' : g' = s.gens := eg
  have eo' : os' = s.os := eo
  subst eg' eo'
  have fr : H D = none := I.hok.fresh le
  have hl : ss.length < 64 := by rw [pm.length_eq]; exact h64
  have I1 : Inv X pins σ (upd H D (.lst (ss.map V.str))) { s with heap := h', toks := tk' } := I.laid (t' := tk') (o := .lst (ss.map V.str)) kp le ⟨by rw [List.length_map, sizeLine_eq]; omega, vs, e, vals_of_strs hs, hD⟩
  exact ⟨.ref D, _, ⟨I1.ok, I1.os, I1.bare, I1.base, I1.loc, I1.cell, I1.free, I1.freeC, I1.pin, I1.hok, I1.len⟩, rfl, q D ss fr pm (pm.nodup_iff.mpr nd) st⟩
end L2.Na




namespace L2.Na
open PySem PySem.Spec PyProof.Rows L2 L2.L3

noncomputable def lets (l : List Nat) : List Nat := [97, 98, 99, 100].filter fun c => decide (c ∈ l)
theorem lets_mem {l : List Nat} (hl : ∀ c ∈ l, 97 ≤ c ∧ c < 101) (c : Nat) : c ∈ lets l ↔ c ∈ l := by
  unfold lets
  rw [List.mem_filter]
  constructor
  · intro h; exact of_decide_eq_true h.2
  · intro h
    have := hl c h
    refine ⟨?_, decide_eq_true h⟩
    have : c = 97 ∨ c = 98 ∨ c = 99 ∨ c = 100 := by omega
    rcases this with rfl | rfl | rfl | rfl <;> simp
theorem inc_eq : ∀ {l m : List Nat}, l.Pairwise (· < ·) → m.Pairwise (· < ·) → (∀ c, c ∈ l ↔ c ∈ m) → l = m
  | [], [], _, _, _ => rfl
  | [], c :: m, _, _, h => absurd ((h c).mpr List.mem_cons_self) List.not_mem_nil
  | c :: l, [], _, _, h => absurd ((h c).mp List.mem_cons_self) List.not_mem_nil
  | c :: l, d :: m, hl, hm, h => by
    have h1 := List.pairwise_cons.mp hl
    have h2 := List.pairwise_cons.mp hm
    have e : c = d := by
      rcases List.mem_cons.mp ((h c).mp List.mem_cons_self) with e | e
      · exact e
      · rcases List.mem_cons.mp ((h d).mpr List.mem_cons_self) with e' | e'
        · exact e'.symm
        · have := h2.1 c e
          have := h1.1 d e'
          omega
    subst e
    rw [inc_eq h1.2 h2.2 fun x => ?_]
    constructor
    · intro hx
      rcases List.mem_cons.mp ((h x).mp (List.mem_cons_of_mem _ hx)) with e | e
      · have := h1.1 x hx; omega
      · exact e
    · intro hx
      rcases List.mem_cons.mp ((h x).mpr (List.mem_cons_of_mem _ hx)) with e | e
      · have := h2.1 x hx; omega
      · exact e
theorem lets_inc (l : List Nat) : (lets l).Pairwise (· < ·) := List.Pairwise.filter _ (by decide)
theorem rising_inc : ∀ (p : Nat) (cs : List Nat), risingS ⟨#[p]⟩ (cs.map fun c => (⟨#[c]⟩ : Str)) = true → (p :: cs).Nodup → (p :: cs).Pairwise (· < ·)
  | p, [], _, _ => List.pairwise_cons.mpr ⟨(fun _ h => absurd h List.not_mem_nil), List.Pairwise.nil⟩
  | p, c :: cs, h, nd => by
    have h' : (!ltCps [c] [p] && risingS ⟨#[c]⟩ (cs.map fun c => (⟨#[c]⟩ : Str))) = true := h
    rw [Bool.and_eq_true] at h'
    have n1 := List.nodup_cons.mp nd
    have ih := rising_inc c cs h'.2 n1.2
    have hle : ¬ c < p := fun z => by
      have lt : ltCps [c] [p] = true := by rw [ltCps_eq]; exact decide_eq_true (List.Lex.rel z)
      have h1 := h'.1
      rw [lt] at h1
      cases h1
    have hne : p ≠ c := fun e => n1.1 (by rw [e]; exact List.mem_cons_self)
    refine List.pairwise_cons.mpr ⟨fun x hx => ?_, ih⟩
    rcases List.mem_cons.mp hx with rfl | hx
    · omega
    · have := (List.pairwise_cons.mp ih).1 x hx
      omega
theorem srt_letters {ss : List Str} {l : List Nat} (hl : ∀ c ∈ l, 97 ≤ c ∧ c < 101) (hm : ∀ y, y ∈ ss ↔ ∃ c ∈ l, y = ⟨#[c]⟩) (nd : ss.Nodup) (st : sortedS ss = true) : ss = (lets l).map fun c => (⟨#[c]⟩ : Str) := by
  obtain ⟨cs, rfl⟩ : ∃ cs : List Nat, ss = cs.map fun c => (⟨#[c]⟩ : Str) := by
    refine ⟨ss.map fun y => y.cps.toList.headD 0, ?_⟩
    rw [List.map_map]
    conv => lhs; rw [← List.map_id ss]
    refine List.map_congr_left fun y hy => ?_
    obtain ⟨c, _, rfl⟩ := (hm y).mp hy
    rfl
  have inj : ∀ a b : Nat, (⟨#[a]⟩ : Str) = ⟨#[b]⟩ → a = b := fun a b e => by
    have e3 := congrArg ls e
    simp [ls] at e3
    exact e3
  have nd' : cs.Nodup := by
    have := List.pairwise_map.mp (show List.Pairwise (· ≠ ·) (cs.map fun c => (⟨#[c]⟩ : Str)) from nd)
    exact this.imp fun h e => h (by rw [e])
  have inc : cs.Pairwise (· < ·) := by
    cases cs with
    | nil => exact List.Pairwise.nil
    | cons p cs => exact rising_inc p cs st nd'
  rw [inc_eq inc (lets_inc l) fun c => ?_]
  rw [lets_mem hl]
  constructor
  · intro h
    obtain ⟨d, hd, e⟩ := (hm ⟨#[c]⟩).mp (List.mem_map.mpr ⟨c, h, rfl⟩)
    rw [inj _ _ e]; exact hd
  · intro h
    obtain ⟨d, hd, e⟩ := List.mem_map.mp ((hm ⟨#[c]⟩).mpr ⟨c, h, rfl⟩)
    rw [← inj _ _ e]; exact hd
theorem few_letters {zs : List Str} {l : List Nat} (hl : ∀ c ∈ l, 97 ≤ c ∧ c < 101) (hm : ∀ y, y ∈ zs ↔ ∃ c ∈ l, y = ⟨#[c]⟩) (nd : zs.Nodup) : zs.length < 64 := by
  have sub : zs ⊆ [97, 98, 99, 100].map fun c => (⟨#[c]⟩ : Str) := fun y hy => by
    obtain ⟨c, hc, rfl⟩ := (hm y).mp hy
    have := hl c hc
    have : c = 97 ∨ c = 98 ∨ c = 99 ∨ c = 100 := by omega
    rcases this with rfl | rfl | rfl | rfl <;> simp
  have : zs.length ≤ 4 := List.Nodup.length_le_of_subset nd sub
  omega

noncomputable def rSrtS (x : V) (H : Hp) (Q : VK) : Prop := ∃ z : Str, x = .str z ∧ z.length ≤ 4000 ∧ (∀ c ∈ ls z, 97 ≤ c ∧ c < 101) ∧ ∀ D H', Same H H' → H D = none → H' D = some (.lst ((lets (ls z)).map sgn)) → Q (.ref D) H'
section
variable {K : PySem.W.Frag}
noncomputable def mSS (a : EX K) (C : Sc) : Expr → Bool
  | .Call (.Name y _) [.Call (.Name y2 _) es [] _] [] _ => (C.cm && glB C "sorted" y) && (glB C "set" y2 && mAs [a] C es)
  | _ => false
theorem mSS_is {a : EX K} {C : Sc} {e : Expr} (h : mSS a C e = true) : ∃ y p y2 p2 es q2 q, e = .Call (.Name y p) [.Call (.Name y2 p2) es [] q2] [] q ∧ C.cm = true ∧ glB C "sorted" y = true ∧ glB C "set" y2 = true ∧ mAs [a] C es = true := by
  unfold mSS at h
  split at h
  · simp only [Bool.and_eq_true] at h
    exact ⟨_, _, _, _, _, _, _, rfl, h.1.1, h.1.2, h.2.1, h.2.2⟩
  · cases h
noncomputable def rSrtA : List V → Hp → VK → Prop
  | [x], H, Q => rSrtS x H Q
  | _, _, _ => False
noncomputable def srtS (a : EX K) : EX K := mkE2 (fun E => tCB rSrtA (tAs [a] E)) (mSS a) (fun R => qAs [a] R ∧ True) .pl
  (fun X C E e hK G hE hq hm => by
    subst hK
    obtain ⟨y, p, y2, p2, es, q2, q, rfl, hcm, h1, h2, h3⟩ := mSS_is hm
    have e1 := glB_eq h1
    have e2 := glB_eq h2
    subst e1 e2
    obtain ⟨g1, d1⟩ := glB_gl G h1
    obtain ⟨g2, d2⟩ := glB_gl G h2
    have calm := G.calm hcm
    cases es with
    | nil => cases h3
    | cons e0 es =>
      intro pins s σ H Q I h
      have inner : PE X (.Call (.Name "set" p2) (e0 :: es) [] q2) (fun σ H Q2 => tAs [a] E σ H (fun vs H1 => rSrtA vs H1 Q) ∧ ∀ vs H1, rSrtA vs H1 Q → rSetX X vs H1 Q2) := by
        intro pins s σ H Q2 I ⟨k1, k2⟩
        refine wpAny_Call_Name_kw (ld_blt I g2 (G.bl _ (by decide +kernel)) PyProof.Rows.Boot.set ?_ (by decide +kernel) d2)
        exact PyProof.Rows.callWith_type1 (thn (as_ok G hE [a] (e0 :: es) hq.1 h3 q2 pins s σ H _ I k1) fun us s1 ⟨vs, H1, I1, r1, z1⟩ => setX_ok X calm pins s1 σ H1 vs us Q2 I1 r1 (k2 vs H1 z1)) (shp_star (a.sok C e0 (mAs_cons h3).1)) (as_plain [] es (mAs_cons h3).2)
      refine pe_callB (srtX_ok X calm) g1 (G.bl _ (by decide +kernel)) PyProof.Rows.Boot.sorted (pa_cons inner pa_nil) (by decide +kernel) d1 rfl rfl pins s σ H Q I ⟨h, fun vs H1 z1 => ?_⟩
      match vs, z1 with
      | [x], ⟨z, ez, b4, hl, fin⟩ =>
        refine ⟨z, by rw [ez], ?_, fun p zs fr hm nd => ?_⟩
        · have : z.cps.size = z.length := rfl
          show z.cps.size + 1 < 4096
          omega
        · refine ⟨p, zs, rfl, upd_same, few_letters hl hm nd, fun D ss frD pm nds st => ?_⟩
          have es' := srt_letters hl (fun y => by rw [pm.mem_iff]; exact hm y) nds st
          have s1 := same_new fr (.ext (SetX X p zs))
          refine fin D _ (s1.trans (same_new frD _)) (none_of s1 frD) ?_
          rw [upd_same, es', List.map_map]
          rfl)
  (fun C e hm => by
    obtain ⟨y, p, y2, p2, es, q2, q, rfl, _⟩ := mSS_is hm
    exact ⟨rfl, rfl⟩)
theorem i_srtS {E : XS} {σ : St} {H : Hp} {Q : VK} {a : EX K} (h : a.t E σ H fun x H1 => rSrtS x H1 Q) : (srtS a).t E σ H Q := h
theorem i_srtSU {H : Hp} {Q : VK} {z : Str} (h1 : z.length ≤ 4000) (h2 : ∀ c ∈ ls z, 97 ≤ c ∧ c < 101) (h : ∀ D H', Same H H' → H D = none → H' D = some (.lst ((lets (ls z)).map sgn)) → Q (.ref D) H') : rSrtS (.str z) H Q := ⟨z, rfl, h1, h2, h⟩
end
end L2.Na




namespace L2.Na
open PySem PySem.Spec PyProof.Rows L2 L2.L3

theorem ixC_tok {X : Cx} {z : Str} {kd : Nat} {p1 p2 : Pos} {e1 : Expr} {t1 : TE} (hb : PE X e1 t1) (hs : PlainIx e1) {pins : List (Addr × Obj)} {s : Shared} {σ : St} {H : Hp} {R : V → Hp → Prop} (I : Inv X pins σ H s) (h : t1 σ H R)
    (hR : ∀ y H1, R y H1 → ∃ a c, y = .int a ∧ atI z.cps.toList a = some c) (hz : z.length ≤ sizeLine) :
    wpAny (model X.prog X.w) X.A (eval (.Subscript (.Constant (.str z) kd p1) e1 p2) X.env) (fun v s' => ∃ a c u H1, v = .str ⟨#[c]⟩ u ∧ atI z.cps.toList a = some c ∧ s.toks < u ∧ u < s'.toks ∧ Inv X pins σ H1 s' ∧ R (.int a) H1) X.xe s := by
  refine Subscript_ (Calls.Constant_str ?_)
  have I1 : Inv X pins σ H { s with toks := s.toks + 1 } := I.tok _
  refine wpAny_with_toks (n := s.toks + 1) (Nat.le_refl _) (wpAny_mono (hb pins _ σ H R I1 h) (fun u s2 ⟨y, H2, I2, r2, q2⟩ ht => ?_) fun _ _ x _ => x)
  obtain ⟨a, c, rfl, hc⟩ := hR y H2 q2
  obtain ⟨t', rfl⟩ := r2
  obtain ⟨j, h1, h2, h3, h4, h5⟩ := atI_get hc
  have hl : z.cps.toList.length = z.length := by simp [Str.length]
  rw [hl] at h1 h4 h5
  have hn := line63
  exact tail_any (typeIs_str s2 z _) slot_str_getitem.lookup (getItem_str (c := c) (by
    have e1 : decide (a < -(2 ^ 63 : Int)) = false := decide_eq_false (by omega)
    have e2 : decide (a ≥ 2 ^ 63) = false := decide_eq_false (by omega)
    rw [e1, e2, Bool.or_false]) (by rw [h1]; simpa using h2) ⟨a, c, s2.toks, H2, rfl, hc, ht, Nat.lt_succ_self _, I2.tok _, q2⟩) (hs _ _)
noncomputable def rRepl (z : Str) (x y1 y2 : V) (H : Hp) (Q : VK) : Prop := ∃ (w : Str) (a b : Int) (c d : Nat), x = .str w ∧ y1 = .int a ∧ y2 = .int b ∧ atI z.cps.toList a = some c ∧ atI z.cps.toList b = some d ∧ c ≠ d ∧ w.length ≤ 1000 ∧ Q (.str (Txt.replace w ⟨#[c]⟩ ⟨#[d]⟩)) H
section
variable {K : PySem.W.Frag}
noncomputable def mRp (o : EX K) (z : Str) (i j : EX K) (C : Sc) : Expr → Bool
  | .Call (.Attribute l y p) [.Subscript (.Constant (.str z1) _ _) e1 _, .Subscript (.Constant (.str z2) _ _) e2 _] [] p2 => (y == "replace" && (C.cm && (p.endLine == p2.line && (z1 == z && z2 == z)))) && (o.m C l && (i.m C e1 && j.m C e2))
  | _ => false
theorem mRp_is {o : EX K} {z : Str} {i j : EX K} {C : Sc} {e : Expr} (h : mRp o z i j C e = true) : ∃ l p k1 q1 e1 q2 k2 q3 e2 q4 p2, e = .Call (.Attribute l "replace" p) [.Subscript (.Constant (.str z) k1 q1) e1 q2, .Subscript (.Constant (.str z) k2 q3) e2 q4] [] p2 ∧ C.cm = true ∧ (p.endLine == p2.line) = true ∧ o.m C l = true ∧ i.m C e1 = true ∧ j.m C e2 = true := by
  unfold mRp at h
  split at h
  · simp only [Bool.and_eq_true] at h
    obtain ⟨⟨h1, h2, h3, h4, h5⟩, h6, h7, h8⟩ := h
    have e1 := eq_of_beq h1
    have e2 := eq_of_beq h4
    have e3 := eq_of_beq h5
    subst e1 e2 e3
    exact ⟨_, _, _, _, _, _, _, _, _, _, _, rfl, h2, h3, h6, h7, h8⟩
  · cases h

noncomputable def m_repl (o : EX K) (z : Str) (hz : z.length ≤ sizeLine) (i j : EX K) (ho : o.s ≠ .zc := by intro z; cases z) : EX K := mkE2 (fun E σ H Q => o.t E σ H fun x H1 => (∃ w : Str, x = .str w) ∧ i.t E σ H1 fun y1 H2 => (∃ a c, y1 = .int a ∧ atI z.cps.toList a = some c) ∧ j.t E σ H2 fun y2 H3 => rRepl z x y1 y2 H3 Q)
  (mRp o z i j) (fun R => o.q R ∧ ((True ∧ i.q R) ∧ ((True ∧ j.q R) ∧ True))) .pl
  (fun X C E e hK G hE hq hm => by
    subst hK
    obtain ⟨l, p, k1, q1, e1, q2, k2, q3, e2, q4, p2, rfl, hcm, hline, ml, m1, m2⟩ := mRp_is hm
    intro pins s σ H Q I h
    refine wpAny_Call_method_late (shp_base (o.sok C l ml) ho) rfl hline rfl (thn (o.ok X C E l rfl G hE hq.1 ml pins s σ H _ I h) fun v s1 ⟨x, H1, I1, r1, z0⟩ => ?_)
    obtain ⟨⟨w, rfl⟩, z1⟩ := z0
    obtain ⟨t, rfl⟩ := r1
    refine ⟨"str", "str.replace", PySem.F.plainAttrs_str, PySem.F.slot_str_replace, PySem.F.type_str_replace, typeIs_str _ _ _, (fun b e => nomatch e), ?_⟩
    refine Calls.callWith_builtin rfl (Calls.evalArgs_plain ?_)
    refine Calls.spliced_cons (thn (ixC_tok (i.ok X C E e1 rfl G hE hq.2.1.2 m1) (shp_ix (i.sok C e1 m1)) I1 z1 (fun y H1 q => q.1) hz) fun v1 s2 ⟨a, c, u, H2, ev, hc, t1, t2, I2, z2⟩ => ?_)
    refine Calls.spliced_cons (thn (ixC_tok (j.ok X C E e2 rfl G hE hq.2.2.1.2 m2) (shp_ix (j.sok C e2 m2)) I2 z2.2 (fun y H1 q => ?_) hz) fun v2 s3 ⟨b, d, u2, H3, ev2, hd, t3, t4, I3, z3⟩ => ?_)
    · obtain ⟨_, _, b, _, d, _, _, e3, _, e5, _⟩ := q
      exact ⟨b, d, e3, e5⟩
    refine Calls.spliced_nil ?_
    subst ev ev2
    obtain ⟨w', a', b', c', d', e1', e2', e3', h1, h2, hne, hw, q⟩ := z3
    cases e1'
    cases e2'
    cases e3'
    rw [hc] at h1
    cases h1
    rw [hd] at h2
    cases h2
    refine SC.replace (show u ≠ 0 from ?_) (show u2 ≠ 0 from ?_) (show u ≠ u2 from ?_) ?_ ?_ fun t' k => ⟨.str _, H3, I3.tok _, ⟨_, rfl⟩, q⟩
    · exact Nat.ne_of_gt (Nat.lt_of_le_of_lt (Nat.zero_le _) t1)
    · exact Nat.ne_of_gt (Nat.lt_of_le_of_lt (Nat.zero_le _) t3)
    · exact Nat.ne_of_lt (Nat.lt_trans t2 t3)
    · have : (⟨#[c]⟩ : Str) ≠ ⟨#[d]⟩ := fun e => hne (by
        have e3 := congrArg ls e
        simp [ls] at e3
        exact e3)
      simpa using this
    · show w.length + (w.length + 1) * 1 ≤ 16777216
      omega)
  (fun C e hm => by
    obtain ⟨l, p, k1, q1, e1, q2, k2, q3, e2, q4, p2, rfl, _⟩ := mRp_is hm
    exact ⟨rfl, rfl⟩)
end
end L2.Na




namespace L2.Na
open PySem PySem.Spec PyProof.Rows L2 L2.L3

noncomputable def smalls (ns : List Nat) : List Nat := [0, 1, 2, 3].filter fun c => decide (c ∈ ns)
theorem smalls_inc (l : List Nat) : (smalls l).Pairwise (· < ·) := List.Pairwise.filter _ (by decide)
theorem smalls_mem {ns : List Nat} (h : ∀ k ∈ ns, k < 4) (c : Nat) : c ∈ smalls ns ↔ c ∈ ns := by
  unfold smalls
  rw [List.mem_filter]
  constructor
  · intro h; exact of_decide_eq_true h.2
  · intro hc
    have := h c hc
    refine ⟨?_, decide_eq_true hc⟩
    have : c = 0 ∨ c = 1 ∨ c = 2 ∨ c = 3 := by omega
    rcases this with rfl | rfl | rfl | rfl <;> simp
theorem incZ : ∀ {l : List Int}, l.Pairwise (· ≤ ·) → l.Nodup → l.Pairwise (· < ·)
  | [], _, _ => List.Pairwise.nil
  | x :: l, h, n => by
    have h1 := List.pairwise_cons.mp h
    have n1 := List.nodup_cons.mp n
    refine List.pairwise_cons.mpr ⟨fun y hy => ?_, incZ h1.2 n1.2⟩
    have := h1.1 y hy
    have : x ≠ y := fun e => n1.1 (e ▸ hy)
    omega
theorem inc_eqZ : ∀ {l m : List Int}, l.Pairwise (· < ·) → m.Pairwise (· < ·) → (∀ c, c ∈ l ↔ c ∈ m) → l = m
  | [], [], _, _, _ => rfl
  | [], c :: m, _, _, h => absurd ((h c).mpr List.mem_cons_self) List.not_mem_nil
  | c :: l, [], _, _, h => absurd ((h c).mp List.mem_cons_self) List.not_mem_nil
  | c :: l, d :: m, hl, hm, h => by
    have h1 := List.pairwise_cons.mp hl
    have h2 := List.pairwise_cons.mp hm
    have e : c = d := by
      rcases List.mem_cons.mp ((h c).mp List.mem_cons_self) with e | e
      · exact e
      · rcases List.mem_cons.mp ((h d).mpr List.mem_cons_self) with e' | e'
        · exact e'.symm
        · have := h2.1 c e
          have := h1.1 d e'
          omega
    subst e
    rw [inc_eqZ h1.2 h2.2 fun x => ?_]
    constructor
    · intro hx
      rcases List.mem_cons.mp ((h x).mp (List.mem_cons_of_mem _ hx)) with e | e
      · have := h1.1 x hx; omega
      · exact e
    · intro hx
      rcases List.mem_cons.mp ((h x).mpr (List.mem_cons_of_mem _ hx)) with e | e
      · have := h2.1 x hx; omega
      · exact e
theorem srt_smalls {l ns : List Nat} {ms : List Int} (h4 : ∀ k ∈ ns, k < 4) (hl : l ∈ subs) (hm : ∀ c ∈ [0, 1, 2, 3], c ∈ l ↔ c ∈ ns) (pm : List.Perm ms (l.map fun (k : Nat) => ((k : Nat) : Int))) (st : ms.Pairwise (· ≤ ·)) : ms = (smalls ns).map fun (k : Nat) => ((k : Nat) : Int) := by
  obtain ⟨_, nd, sm, inc⟩ := subs_small l hl
  have el : l = smalls ns := inc_eq inc (smalls_inc ns) fun c => by
    rw [smalls_mem h4]
    constructor
    · intro hc; exact (hm c (sm c hc)).mp hc
    · intro hc
      have := h4 c hc
      have hc4 : c ∈ [0, 1, 2, 3] := by
        have : c = 0 ∨ c = 1 ∨ c = 2 ∨ c = 3 := by omega
        rcases this with rfl | rfl | rfl | rfl <;> simp
      exact (hm c hc4).mpr hc
  have inc2 : (l.map fun (k : Nat) => ((k : Nat) : Int)).Pairwise (· < ·) := List.pairwise_map.mpr (inc.imp fun h => by omega)
  have nd2 : ms.Nodup := pm.nodup_iff.mpr (inc2.imp fun h => by omega)
  rw [← el]
  exact inc_eqZ (incZ st nd2) inc2 fun c => pm.mem_iff

noncomputable def SetXI (X : Cx) (p : Addr) (l : List Nat) : Heap → Prop := fun h => SetI (byT X.w) h p l
noncomputable def rSetXI (X : Cx) : List V → Hp → VK → Prop := fun vs H Q => ∃ (p : Addr) (ns : List Nat), vs = [.ref p] ∧ H p = some (.lst (ns.map fun (k : Nat) => V.int ((k : Nat) : Int))) ∧ (∀ k ∈ ns, k < 4) ∧
  ∀ q l, H q = none → (∀ c ∈ [0, 1, 2, 3], c ∈ l ↔ c ∈ ns) → l ∈ subs → Q (.ref q) (upd H q (.ext (SetXI X q l)))
theorem vals_iVal : ∀ {ns : List Nat} {its : List Value}, Vals (ns.map fun (k : Nat) => V.int ((k : Nat) : Int)) its → its.map iVal = ns.map fun (k : Nat) => some ((k : Nat) : Int)
  | [], [], _ => rfl
  | [], _ :: _, h => nomatch h
  | _ :: _, [], h => nomatch h
  | k :: ns, v :: its, h => by
    cases h with
    | cons r t =>
      obtain ⟨tk, rfl⟩ := r
      rw [List.map_cons, List.map_cons, vals_iVal t]
      rfl
theorem setXI_ok (X : Cx) (hc : X.calm = true) : CallR X (.type "set") (rSetXI X) := by
  intro pins s σ H xs us Q I r h
  obtain ⟨p, ns, rfl, hp, h4, q⟩ := h
  obtain ⟨u, rfl, ru⟩ := r.one
  obtain rfl : u = Value.ref p := ru
  obtain ⟨_, its, n1, k1, l1, g1⟩ := I.lstM hp
  have h4' : ∀ k ∈ ns, k ∈ [0, 1, 2, 3] := fun k hk => by
    have := h4 k hk
    have : k = 0 ∨ k = 1 ∨ k = 2 ∨ k = 3 := by omega
    rcases this with rfl | rfl | rfl | rfl <;> simp
  refine setI_call (I.ok.hd hc) (its := its.toArray) (ns := ns) ⟨_, g1, rfl, n1, rfl⟩ (by simpa using vals_iVal k1) h4' fun h' tk l hS hm kp => ?_
  have hg : ∃ o, h'.get? s.heap.objs.size = some o := by
    obtain ⟨o, _, _, ho, _⟩ := hS
    exact ⟨o, ho⟩
  have hls : l ∈ subs := by
    obtain ⟨_, _, _, _, _, _, z, _⟩ := id hS
    exact z
  exact ⟨.ref _, _, I.laid (t' := tk) (o := .ext (SetXI X s.heap.objs.size l)) kp (Nat.le_refl _) ⟨hS, hg, fun h1 h2 x k => SetI.keep x k⟩, rfl, q _ l I.fresh hm hls⟩
noncomputable def rSrtXI (X : Cx) : List V → Hp → VK → Prop := fun vs H Q => ∃ (p : Addr) (l : List Nat), vs = [.ref p] ∧ H p = some (.ext (SetXI X p l)) ∧ l ∈ subs ∧ ∀ D ms, H D = none → List.Perm ms (l.map fun (k : Nat) => ((k : Nat) : Int)) → ms.Pairwise (· ≤ ·) → Q (.ref D) (upd H D (.lst (ms.map V.int)))
theorem vals_of_intsA : ∀ {vs : List Value} {ms : List Int}, IntsAre vs ms → Vals (ms.map V.int) vs
  | _, _, .nil => .nil
  | _, _, .cons x t h => .cons ⟨t, rfl⟩ (vals_of_intsA h)
theorem srtXI_ok (X : Cx) (hc : X.calm = true) : CallR X (.builtin "sorted") (rSrtXI X) := by
  intro pins s σ H xs us Q I r h
  obtain ⟨p, l, rfl, hp, hl, q⟩ := h
  obtain ⟨u, rfl, ru⟩ := r.one
  obtain rfl : u = Value.ref p := ru
  have hS : SetI (byT X.w) s.heap p l := (show ObjOk X.prog X.w H s.heap p (.ext (SetXI X p l)) from I.hok p _ hp).1
  have l4 := (subs_small l hl).1
  refine setI_sorted (I.ok.hd hc) hS (by omega) fun s' D vs ms e kp le hD hs pm st eg eo => ?_
  obtain ⟨h', g', d', tk', os'⟩ := s'
  have eg' : g' = s.gens := eg
  have eo' : os' = s.os := eo
  subst eg' eo'
  have fr : H D = none := I.hok.fresh le
  have ml : ms.length = l.length := by rw [pm.length_eq, List.length_map]
  have I1 : Inv X pins σ (upd H D (.lst (ms.map V.int))) { s with heap := h', toks := tk' } := I.laid (t' := tk') (o := .lst (ms.map V.int)) kp le ⟨by rw [List.length_map, sizeLine_eq]; omega, vs, e, vals_of_intsA hs, hD⟩
  exact ⟨.ref D, _, ⟨I1.ok, I1.os, I1.bare, I1.base, I1.loc, I1.cell, I1.free, I1.freeC, I1.pin, I1.hok, I1.len⟩, rfl, q D ms fr pm st⟩
noncomputable def rSrtI (x : V) (H : Hp) (Q : VK) : Prop := ∃ (p : Addr) (ns : List Nat), x = .ref p ∧ H p = some (.lst (ns.map fun (k : Nat) => V.int ((k : Nat) : Int))) ∧ (∀ k ∈ ns, k < 4) ∧ ∀ D H', Same H H' → H D = none → H' D = some (.lst ((smalls ns).map fun (k : Nat) => V.int ((k : Nat) : Int))) → Q (.ref D) H'
noncomputable def rSrtIA : List V → Hp → VK → Prop
  | [x], H, Q => rSrtI x H Q
  | _, _, _ => False
section
variable {K : PySem.W.Frag}
noncomputable def srtI (a : EX K) : EX K := mkE2 (fun E => tCB rSrtIA (tAs [a] E)) (mSS a) (fun R => qAs [a] R ∧ True) .pl
  (fun X C E e hK G hE hq hm => by
    subst hK
    obtain ⟨y, p, y2, p2, es, q2, q, rfl, hcm, h1, h2, h3⟩ := mSS_is hm
    have e1 := glB_eq h1
    have e2 := glB_eq h2
    subst e1 e2
    obtain ⟨g1, d1⟩ := glB_gl G h1
    obtain ⟨g2, d2⟩ := glB_gl G h2
    have calm := G.calm hcm
    cases es with
    | nil => cases h3
    | cons e0 es =>
      intro pins s σ H Q I h
      have inner : PE X (.Call (.Name "set" p2) (e0 :: es) [] q2) (fun σ H Q2 => tAs [a] E σ H (fun vs H1 => rSrtIA vs H1 Q) ∧ ∀ vs H1, rSrtIA vs H1 Q → rSetXI X vs H1 Q2) := by
        intro pins s σ H Q2 I ⟨k1, k2⟩
        refine wpAny_Call_Name_kw (ld_blt I g2 (G.bl _ (by decide +kernel)) PyProof.Rows.Boot.set ?_ (by decide +kernel) d2)
        exact PyProof.Rows.callWith_type1 (thn (as_ok G hE [a] (e0 :: es) hq.1 h3 q2 pins s σ H _ I k1) fun us s1 ⟨vs, H1, I1, r1, z1⟩ => setXI_ok X calm pins s1 σ H1 vs us Q2 I1 r1 (k2 vs H1 z1)) (shp_star (a.sok C e0 (mAs_cons h3).1)) (as_plain [] es (mAs_cons h3).2)
      refine pe_callB (srtXI_ok X calm) g1 (G.bl _ (by decide +kernel)) PyProof.Rows.Boot.sorted (pa_cons inner pa_nil) (by decide +kernel) d1 rfl rfl pins s σ H Q I ⟨h, fun vs H1 z1 => ?_⟩
      match vs, z1 with
      | [x], ⟨p0, ns, ex, hp0, b4, fin⟩ =>
        refine ⟨p0, ns, by rw [ex], hp0, b4, fun p l fr hm hl => ?_⟩
        refine ⟨p, l, rfl, upd_same, hl, fun D ms frD pm st => ?_⟩
        have es' := srt_smalls b4 hl hm pm st
        have s1 := same_new fr (.ext (SetXI X p l))
        refine fin D _ (s1.trans (same_new frD _)) (none_of s1 frD) ?_
        rw [upd_same, es', List.map_map]
        rfl)
  (fun C e hm => by
    obtain ⟨y, p, y2, p2, es, q2, q, rfl, _⟩ := mSS_is hm
    exact ⟨rfl, rfl⟩)
theorem i_srtI {E : XS} {σ : St} {H : Hp} {Q : VK} {a : EX K} (h : a.t E σ H fun x H1 => rSrtI x H1 Q) : (srtI a).t E σ H Q := h
theorem i_srtIU {H : Hp} {Q : VK} {p : Addr} {ns : List Nat} (h1 : H p = some (.lst (ns.map fun (k : Nat) => V.int ((k : Nat) : Int)))) (h2 : ∀ k ∈ ns, k < 4) (h : ∀ D H', Same H H' → H D = none → H' D = some (.lst ((smalls ns).map fun (k : Nat) => V.int ((k : Nat) : Int))) → Q (.ref D) H') : rSrtI (.ref p) H Q := ⟨p, ns, rfl, h1, h2, h⟩
end
end L2.Na




namespace L2.Na.Mx

noncomputable def Rch (R : Nat → Nat → Prop) : Nat → Nat → Nat → Prop
  | 0, i, j => i = j
  | k + 1, i, j => ∃ m, R i m ∧ Rch R k m j
section
variable {R : Nat → Nat → Prop}
theorem Rch.add : ∀ {a b i m j : Nat}, Rch R a i m → Rch R b m j → Rch R (a + b) i j
  | 0, b, i, m, j, h, g => by have e : i = m := h; subst e; rw [Nat.zero_add]; exact g
  | a + 1, b, i, m, j, ⟨l, h1, h2⟩, g => by rw [show a + 1 + b = (a + b) + 1 by omega]; exact ⟨l, h1, Rch.add h2 g⟩
theorem Rch.cut : ∀ {a b i j : Nat}, Rch R (a + b) i j → ∃ m, Rch R a i m ∧ Rch R b m j
  | 0, b, i, j, h => ⟨i, rfl, by rw [Nat.zero_add] at h; exact h⟩
  | a + 1, b, i, j, h => by
    rw [show a + 1 + b = (a + b) + 1 by omega] at h
    obtain ⟨l, h1, h2⟩ := h
    obtain ⟨m, h3, h4⟩ := Rch.cut h2
    exact ⟨m, ⟨l, h1, h3⟩, h4⟩
theorem Rch.walk : ∀ {k i j : Nat}, Rch R k i j → ∃ w : Nat → Nat, w 0 = i ∧ w k = j ∧ ∀ t, t < k → R (w t) (w (t + 1))
  | 0, i, j, h => ⟨fun _ => i, rfl, h, fun t ht => absurd ht (Nat.not_lt_zero _)⟩
  | k + 1, i, j, ⟨m, h1, h2⟩ => by
    obtain ⟨w, e0, ek, hw⟩ := Rch.walk h2
    refine ⟨fun t => match t with | 0 => i | t + 1 => w t, rfl, ek, fun t ht => ?_⟩
    cases t with
    | zero => show R i (w 0); rw [e0]; exact h1
    | succ t => exact hw t (by omega)
theorem walk_rch {w : Nat → Nat} : ∀ (d a : Nat), (∀ t, a ≤ t → t < a + d → R (w t) (w (t + 1))) → Rch R d (w a) (w (a + d))
  | 0, a, _ => rfl
  | d + 1, a, h => ⟨w (a + 1), h a (Nat.le_refl _) (by omega), by
    have := walk_rch d (a + 1) fun t h1 h2 => h t (by omega) (by omega)
    rw [show a + 1 + d = a + (d + 1) by omega] at this
    exact this⟩
end

noncomputable def cnt (F : Nat → Prop) : Nat → Nat
  | 0 => 0
  | n + 1 => cnt F n + (open Classical in if F n then 1 else 0)
theorem cnt_le (F : Nat → Prop) : ∀ n, cnt F n ≤ n
  | 0 => Nat.le_refl _
  | n + 1 => by
    have := cnt_le F n
    unfold cnt
    split <;> omega
theorem cnt_full {F : Nat → Prop} : ∀ {n : Nat}, n ≤ cnt F n → ∀ i, i < n → F i
  | 0, _, i, h => absurd h (Nat.not_lt_zero _)
  | n + 1, h, i, hi => by
    have := cnt_le F n
    unfold cnt at h
    split at h
    · rename_i hF
      by_cases e : i = n
      · subst e; exact hF
      · exact cnt_full (n := n) (by omega) i (by omega)
    · omega
theorem cnt_mono {F G : Nat → Prop} : ∀ {n : Nat}, (∀ i, i < n → F i → G i) → cnt F n ≤ cnt G n
  | 0, _ => Nat.le_refl _
  | n + 1, h => by
    have := cnt_mono (n := n) fun i hi => h i (by omega)
    unfold cnt
    by_cases hF : F n
    · rw [if_pos hF, if_pos (h n (by omega) hF)]; omega
    · rw [if_neg hF]; omega
theorem cnt_eq {F G : Nat → Prop} : ∀ {n : Nat}, (∀ i, i < n → F i → G i) → cnt G n ≤ cnt F n → ∀ i, i < n → G i → F i
  | 0, _, _, i, h, _ => absurd h (Nat.not_lt_zero _)
  | n + 1, h, hc, i, hi, hG => by
    have hm := cnt_mono (n := n) fun i hi => h i (by omega)
    unfold cnt at hc
    by_cases hF : F n
    · rw [if_pos hF, if_pos (h n (by omega) hF)] at hc
      by_cases e : i = n
      · subst e; exact hF
      · exact cnt_eq (n := n) (fun i hi => h i (by omega)) (by omega) i (by omega) hG
    · rw [if_neg hF] at hc
      by_cases hGn : G n
      · rw [if_pos hGn] at hc; omega
      · rw [if_neg hGn] at hc
        by_cases e : i = n
        · subst e; exact absurd hG hGn
        · exact cnt_eq (n := n) (fun i hi => h i (by omega)) (by omega) i (by omega) hG

theorem grow {F : Nat → Nat → Prop} {n T : Nat} (up : ∀ k i, i < n → F k i → F (k + 1) i) (still : ∀ k, (∀ i, i < n → F (k + 1) i → F k i) → ∀ i, i < n → F (k + 2) i → F (k + 1) i) (full : ∀ k, T ≤ k → ∀ i, i < n → F k i) {s : Nat} (hs : s ≤ cnt (F 0) n) (hn : s ≤ n) :
    ∀ i, i < n → F (n - s) i := by
  have up' : ∀ d k i, i < n → F k i → F (k + d) i := by
    intro d
    induction d with
    | zero => exact fun k i _ h => h
    | succ d ih => exact fun k i hi h => up (k + d) i hi (ih k i hi h)
  have stop : ∀ k, (∀ i, i < n → F (k + 1) i → F k i) → ∀ i, i < n → F k i := by
    intro k h
    have all : ∀ d, ∀ i, i < n → F (k + d + 1) i → F (k + d) i := by
      intro d
      induction d with
      | zero => exact h
      | succ d ih => exact still (k + d) ih
    have back : ∀ d, ∀ i, i < n → F (k + d) i → F k i := by
      intro d
      induction d with
      | zero => exact fun i _ h => h
      | succ d ih => exact fun i hi h => ih i hi (all d i hi h)
    exact fun i hi => back T i hi (full (k + T) (by omega) i hi)
  have size : ∀ k, (∀ i, i < n → F k i) ∨ s + k ≤ cnt (F k) n := by
    intro k
    induction k with
    | zero => exact .inr (by simpa using hs)
    | succ k ih =>
      rcases ih with h | h
      · exact .inl fun i hi => up k i hi (h i hi)
      · by_cases hc : cnt (F (k + 1)) n ≤ cnt (F k) n
        · exact .inl fun i hi => up k i hi (stop k (cnt_eq (fun i hi => up k i hi) hc) i hi)
        · exact .inr (by omega)
  rcases size (n - s) with h | h
  · exact h
  · exact cnt_full (by omega)
section
variable {R : Nat → Nat → Prop} {n : Nat}

noncomputable def Full (R : Nat → Nat → Prop) (n k : Nat) : Prop := ∀ i j, i < n → j < n → Rch R k i j
theorem Full.succ (hr : ∀ i, i < n → ∃ j, j < n ∧ R i j) {k : Nat} (h : Full R n k) : Full R n (k + 1) := fun i j hi hj => by
  obtain ⟨m, hm, hR⟩ := hr i hi
  exact ⟨m, hR, h m j hm hj⟩
theorem Full.more (hr : ∀ i, i < n → ∃ j, j < n ∧ R i j) {k : Nat} (h : Full R n k) : ∀ {m : Nat}, k ≤ m → Full R n m := by
  intro m hm
  induction m with
  | zero => have : k = 0 := by omega
            subst this; exact h
  | succ m ih =>
    by_cases e : k = m + 1
    · subst e; exact h
    · exact (ih (by omega)).succ hr

theorem short (h4 : n ≤ 4) (h1 : 1 ≤ n) (hb : ∀ i j, i < n → R i j → j < n) (h : Full R n 17) : ∃ v s, v < n ∧ 1 ≤ s ∧ s ≤ 3 ∧ Rch R s v v := by
  obtain ⟨w, e0, e17, hw⟩ := (h 0 0 h1 h1).walk
  refine Classical.byContradiction fun no => ?_
  have lt : ∀ t, t ≤ 17 → w t < n := by
    intro t
    induction t with
    | zero => intro _; rw [e0]; exact h1
    | succ t ih => intro ht; exact hb _ _ (ih (by omega)) (hw t (by omega))
  have ne : ∀ a d, 1 ≤ d → d ≤ 3 → a + d ≤ 17 → w a ≠ w (a + d) := fun a d hd1 hd3 ha e => no ⟨w a, d, lt a (by omega), hd1, hd3, by
    have := walk_rch d a fun t _ h2 => hw t (by omega)
    rw [← e] at this
    exact this⟩
  have per : ∀ a, a + 4 ≤ 17 → w (a + 4) = w a := fun a ha => by
    have n1 := ne a 1 (by omega) (by omega) (by omega)
    have n2 := ne a 2 (by omega) (by omega) (by omega)
    have n3 := ne a 3 (by omega) (by omega) (by omega)
    have n4 := ne (a + 1) 1 (by omega) (by omega) (by omega)
    have n5 := ne (a + 1) 2 (by omega) (by omega) (by omega)
    have n6 := ne (a + 1) 3 (by omega) (by omega) (by omega)
    have n7 := ne (a + 2) 1 (by omega) (by omega) (by omega)
    have n8 := ne (a + 2) 2 (by omega) (by omega) (by omega)
    have n9 := ne (a + 3) 1 (by omega) (by omega) (by omega)
    have l0 := lt a (by omega)
    have l1 := lt (a + 1) (by omega)
    have l2 := lt (a + 2) (by omega)
    have l3 := lt (a + 3) (by omega)
    have l4 := lt (a + 4) (by omega)
    have q1 : w (a + 1 + 1) = w (a + 2) := rfl
    have q2 : w (a + 1 + 2) = w (a + 3) := rfl
    have q3 : w (a + 1 + 3) = w (a + 4) := rfl
    have q4 : w (a + 2 + 1) = w (a + 3) := rfl
    have q5 : w (a + 2 + 2) = w (a + 4) := rfl
    have q6 : w (a + 3 + 1) = w (a + 4) := rfl
    omega
  have p1 := per 0 (by omega)
  have p2 := per 4 (by omega)
  have p3 := per 8 (by omega)
  have p4 := per 12 (by omega)
  have n17 := ne 16 1 (by omega) (by omega) (by omega)
  have q1 : w (0 + 4) = w 4 := rfl
  have q2 : w (4 + 4) = w 8 := rfl
  have q3 : w (8 + 4) = w 12 := rfl
  have q4 : w (12 + 4) = w 16 := rfl
  have q5 : w (16 + 1) = w 17 := rfl
  omega
theorem cnt_pos {F : Nat → Prop} {v : Nat} (hF : F v) : ∀ {n : Nat}, v < n → 1 ≤ cnt F n
  | 0, h => absurd h (Nat.not_lt_zero _)
  | n + 1, h => by
    unfold cnt
    by_cases e : v = n
    · subst e; rw [if_pos hF]; omega
    · have := cnt_pos (n := n) hF (by omega)
      omega
theorem cnt_two {F : Nat → Prop} {u v : Nat} (hu : F u) (hv : F v) (hl : u < v) : ∀ {n : Nat}, v < n → 2 ≤ cnt F n
  | 0, h => absurd h (Nat.not_lt_zero _)
  | n + 1, h => by
    unfold cnt
    by_cases e : v = n
    · subst e; rw [if_pos hv]; have := cnt_pos hu hl; omega
    · have := cnt_two (n := n) hu hv hl (by omega)
      omega
theorem cnt_three {F : Nat → Prop} {u v x : Nat} (hu : F u) (hv : F v) (hx : F x) (hl : u < v) (hl2 : v < x) : ∀ {n : Nat}, x < n → 3 ≤ cnt F n
  | 0, h => absurd h (Nat.not_lt_zero _)
  | n + 1, h => by
    unfold cnt
    by_cases e : x = n
    · subst e; rw [if_pos hx]; have := cnt_two hu hv hl hl2; omega
    · have := cnt_three (n := n) hu hv hx hl hl2 (by omega)
      omega

structure Cyc (R : Nat → Nat → Prop) (n s : Nat) (D : Nat → Prop) : Prop where
  lt : ∀ c, D c → c < n
  back : ∀ c, D c → Rch R s c c
  next : ∀ c, D c → ∃ d, D d ∧ R c d
  many : s ≤ cnt D n
theorem cyc (h4 : n ≤ 4) (h1 : 1 ≤ n) (hb : ∀ i j, i < n → R i j → j < n) (h : Full R n 17) : ∃ s D, 1 ≤ s ∧ s ≤ 3 ∧ Cyc R n s D := by
  by_cases c1 : ∃ v, v < n ∧ R v v
  · obtain ⟨v, hv, hR⟩ := c1
    exact ⟨1, fun c => c = v, by omega, by omega, fun c e => e ▸ hv, fun c e => by subst e; exact ⟨c, hR, rfl⟩, fun c e => ⟨v, rfl, by subst e; exact hR⟩, cnt_pos (F := fun c => c = v) rfl hv⟩
  have no1 : ∀ v, v < n → ¬ R v v := fun v hv hR => c1 ⟨v, hv, hR⟩
  by_cases c2 : ∃ u v, u < n ∧ v < n ∧ R u v ∧ R v u
  · obtain ⟨u, v, hu, hv, h1, h2⟩ := c2
    have ne : u ≠ v := fun e => no1 u hu (by rw [← e] at h1; exact h1)
    have m : 2 ≤ cnt (fun c => c = u ∨ c = v) n := by
      rcases Nat.lt_or_gt_of_ne ne with l | l
      · exact cnt_two (F := fun c => c = u ∨ c = v) (.inl rfl) (.inr rfl) l hv
      · exact cnt_two (F := fun c => c = u ∨ c = v) (.inr rfl) (.inl rfl) l hu
    refine ⟨2, fun c => c = u ∨ c = v, by omega, by omega, fun c e => ?_, fun c e => ?_, fun c e => ?_, m⟩
    · rcases e with rfl | rfl <;> assumption
    · rcases e with rfl | rfl
      · exact ⟨v, h1, c, h2, rfl⟩
      · exact ⟨u, h2, c, h1, rfl⟩
    · rcases e with rfl | rfl
      · exact ⟨v, .inr rfl, h1⟩
      · exact ⟨u, .inl rfl, h2⟩
  have no2 : ∀ u v, u < n → v < n → R u v → ¬ R v u := fun u v hu hv a b => c2 ⟨u, v, hu, hv, a, b⟩
  obtain ⟨v, s, hv, hs1, hs3, hc⟩ := short h4 h1 hb h
  have : s = 1 ∨ s = 2 ∨ s = 3 := by omega
  rcases this with rfl | rfl | rfl
  · obtain ⟨m, hR, e⟩ := hc
    have e' : m = v := e
    subst e'
    exact absurd hR (no1 m hv)
  · obtain ⟨m, hR, l, hR2, e⟩ := hc
    have e' : l = v := e
    subst e'
    exact absurd hR2 (no2 l m hv (hb _ _ hv hR) hR)
  · obtain ⟨a, h1, b, h2, l, h3, e⟩ := hc
    have e' : l = v := e
    subst e'
    have ha := hb _ _ hv h1
    have hb' := hb _ _ ha h2
    have n1 : l ≠ a := fun e => no1 l hv (by rw [← e] at h1; exact h1)
    have n2 : a ≠ b := fun e => no1 a ha (by rw [← e] at h2; exact h2)
    have n3 : b ≠ l := fun e => no1 b hb' (by rw [← e] at h3; exact h3)
    have mk : ∀ x y z, (l = x ∨ l = y ∨ l = z) → (a = x ∨ a = y ∨ a = z) → (b = x ∨ b = y ∨ b = z) → (x = l ∨ x = a ∨ x = b) → (y = l ∨ y = a ∨ y = b) → (z = l ∨ z = a ∨ z = b) → x < y → y < z → z < n → 3 ≤ cnt (fun c => c = l ∨ c = a ∨ c = b) n :=
      fun x y z _ _ _ hx hy hz l1 l2 l3 => cnt_three (F := fun c => c = l ∨ c = a ∨ c = b) hx hy hz l1 l2 l3
    have m : 3 ≤ cnt (fun c => c = l ∨ c = a ∨ c = b) n := by
      rcases Nat.lt_or_gt_of_ne n1 with p1 | p1 <;> rcases Nat.lt_or_gt_of_ne n2 with p2 | p2 <;> rcases Nat.lt_or_gt_of_ne n3 with p3 | p3
      · omega
      · exact mk l a b (by omega) (by omega) (by omega) (by omega) (by omega) (by omega) p1 p2 hb'
      · exact mk b l a (by omega) (by omega) (by omega) (by omega) (by omega) (by omega) p3 p1 ha
      · exact mk l b a (by omega) (by omega) (by omega) (by omega) (by omega) (by omega) p3 p2 ha
      · exact mk a b l (by omega) (by omega) (by omega) (by omega) (by omega) (by omega) p2 p3 hv
      · exact mk a l b (by omega) (by omega) (by omega) (by omega) (by omega) (by omega) p1 p3 hb'
      · exact mk b a l (by omega) (by omega) (by omega) (by omega) (by omega) (by omega) p2 p1 hv
      · omega
    refine ⟨3, fun c => c = l ∨ c = a ∨ c = b, by omega, by omega, fun c e => ?_, fun c e => ?_, fun c e => ?_, m⟩
    · rcases e with rfl | rfl | rfl <;> assumption
    · rcases e with rfl | rfl | rfl
      · exact ⟨a, h1, b, h2, c, h3, rfl⟩
      · exact ⟨b, h2, l, h3, c, h1, rfl⟩
      · exact ⟨l, h3, a, h1, c, h2, rfl⟩
    · rcases e with rfl | rfl | rfl
      · exact ⟨a, .inr (.inl rfl), h1⟩
      · exact ⟨b, .inr (.inr rfl), h2⟩
      · exact ⟨l, .inl rfl, h3⟩
theorem ten (h4 : n ≤ 4) (h1 : 1 ≤ n) (hb : ∀ i j, i < n → R i j → j < n) (hr : ∀ i, i < n → ∃ j, j < n ∧ R i j) : Full R n 16 ↔ Full R n 10 := by
  refine ⟨fun h => ?_, fun h => h.more hr (by omega)⟩
  obtain ⟨s, D, hs1, hs3, C⟩ := cyc h4 h1 hb (h.more hr (by omega))
  have hsn : s ≤ n := Nat.le_trans C.many (cnt_le D n)
  have inn : ∀ {k i j}, i < n → Rch R k i j → j < n := by
    intro k
    induction k with
    | zero => intro i j hi e; have e' : i = j := e; exact e' ▸ hi
    | succ k ih => rintro i j hi ⟨m, hR, g⟩; exact ih (hb _ _ hi hR) g
  obtain ⟨c0, hc0⟩ : ∃ c, D c := Classical.byContradiction fun no => by
    have : cnt D n ≤ cnt (fun _ => False) n := cnt_mono fun i _ h => no ⟨i, h⟩
    have z : ∀ m, cnt (fun _ => False) m = 0 := by
      intro m
      induction m with
      | zero => rfl
      | succ m ih => unfold cnt; rw [ih, if_neg (fun h => h)]
    rw [z] at this
    have := C.many
    omega
  -- to the closed walk in n - s steps
  have to : ∀ i, i < n → ∃ c, D c ∧ Rch R (n - s) i c := by
    refine grow (F := fun k i => ∃ c, D c ∧ Rch R k i c) (T := 16) (s := s) ?_ ?_ ?_ ?_ hsn
    · rintro k i hi ⟨c, hc, g⟩
      obtain ⟨d, hd, hR⟩ := C.next c hc
      exact ⟨d, hd, g.add (b := 1) ⟨d, hR, rfl⟩⟩
    · rintro k st i hi ⟨c, hc, m, hR, g⟩
      obtain ⟨c', hc', g'⟩ := st m (hb _ _ hi hR) ⟨c, hc, g⟩
      exact ⟨c', hc', m, hR, g'⟩
    · exact fun k hk i hi => ⟨c0, hc0, h.more hr hk i c0 hi (C.lt c0 hc0)⟩
    · exact Nat.le_trans C.many (cnt_mono fun i _ hi => ⟨i, hi, rfl⟩)
  -- from there to all
  have fro : ∀ c, D c → ∀ j, j < n → Rch R (s * (n - 1)) c j := fun c hc => by
    have hcn := C.lt c hc
    refine grow (F := fun k j => Rch R (s * k) c j) (T := 16) (s := 1) ?_ ?_ ?_ (cnt_pos (F := fun j => Rch R (s * 0) c j) (v := c) rfl hcn) h1
    · intro k j hj g
      have := (C.back c hc).add g
      rw [show s + s * k = s * (k + 1) by rw [Nat.mul_succ, Nat.add_comm]] at this
      exact this
    · intro k st j hj g
      rw [show s * (k + 2) = s * (k + 1) + s by rw [Nat.mul_succ]] at g
      obtain ⟨m, g1, g2⟩ := g.cut
      have g3 := (st m (inn hcn g1) g1).add g2
      rw [show s * k + s = s * (k + 1) by rw [Nat.mul_succ]] at g3
      exact g3
    · intro k hk j hj
      refine h.more hr ?_ c j hcn hj
      exact Nat.le_trans hk (Nat.le_mul_of_pos_left k (by omega))
  have all : Full R n (n - s + s * (n - 1)) := fun i j hi hj => by
    obtain ⟨c, hc, g⟩ := to i hi
    exact g.add (fro c hc j hj)
  refine all.more hr ?_
  have hs : s = 1 ∨ s = 2 ∨ s = 3 := by omega
  rcases hs with rfl | rfl | rfl <;> omega
end
end L2.Na.Mx




namespace L2.Na.K41
open PySem PySem.Spec PyProof.Rows L2 L2.L3

noncomputable def Rw (ws : List Str) (i j : Nat) : Prop := ∃ w, ws[i]? = some w ∧ 97 + j ∈ ls w

noncomputable def rs (ws : List Str) : Nat → Nat → List Nat
  | 0, i => [i]
  | k + 1, i => smalls ((ls (ws[i]?.getD ⟨#[]⟩)).flatMap fun c => rs ws k (c - 97))

noncomputable def hs (ws : List Str) : Nat → Nat → List Nat
  | 0, i => [97 + i]
  | k + 1, i => lets ((hs ws k i).flatMap (wd ws))
theorem smalls_of {ns : List Nat} {c : Nat} (h : c ∈ smalls ns) : c ∈ ns ∧ c < 4 := by
  unfold smalls at h
  rw [List.mem_filter] at h
  refine ⟨of_decide_eq_true h.2, ?_⟩
  have := h.1
  simp at this
  omega
theorem lets_of {ns : List Nat} {c : Nat} (h : c ∈ lets ns) : c ∈ ns ∧ 97 ≤ c ∧ c < 101 := by
  unfold lets at h
  rw [List.mem_filter] at h
  refine ⟨of_decide_eq_true h.2, ?_⟩
  have := h.1
  simp at this
  omega
theorem in_smalls {ns : List Nat} {c : Nat} (h : c ∈ ns) (h4 : c < 4) : c ∈ smalls ns := by
  unfold smalls
  rw [List.mem_filter]
  refine ⟨?_, decide_eq_true h⟩
  have : c = 0 ∨ c = 1 ∨ c = 2 ∨ c = 3 := by omega
  rcases this with rfl | rfl | rfl | rfl <;> simp
theorem in_lets {ns : List Nat} {c : Nat} (h : c ∈ ns) (h1 : 97 ≤ c) (h4 : c < 101) : c ∈ lets ns := by
  unfold lets
  rw [List.mem_filter]
  refine ⟨?_, decide_eq_true h⟩
  have : c = 97 ∨ c = 98 ∨ c = 99 ∨ c = 100 := by omega
  rcases this with rfl | rfl | rfl | rfl <;> simp
section
variable {ws : List Str} (hU : Ru ws)
include hU
theorem Rw_lt {i j : Nat} (h : Rw ws i j) : j < ws.length := by
  obtain ⟨w, hw, hj⟩ := h
  have := hU.isw w (List.mem_of_getElem? hw) _ hj
  omega
theorem Rw_ex {i : Nat} (hi : i < ws.length) : ∃ j, j < ws.length ∧ Rw ws i j := by
  have hm := List.getElem_mem hi
  have h1 := hU.one _ hm
  rw [← ls_len] at h1
  have hc := List.getElem_mem (l := ls ws[i]) (show 0 < (ls ws[i]).length by omega)
  have hb := hU.isw _ hm _ hc
  exact ⟨(ls ws[i])[0] - 97, by omega, ws[i], List.getElem?_eq_getElem hi, by rw [show 97 + ((ls ws[i])[0] - 97) = (ls ws[i])[0] by omega]; exact hc⟩
theorem rch_lt : ∀ {k i j : Nat}, i < ws.length → Mx.Rch (Rw ws) k i j → j < ws.length
  | 0, i, j, hi, h => by have e : i = j := h; exact e ▸ hi
  | k + 1, i, j, hi, ⟨m, h1, h2⟩ => rch_lt (Rw_lt hU h1) h2
theorem rs_mem : ∀ (k i j : Nat), i < ws.length → (j ∈ rs ws k i ↔ Mx.Rch (Rw ws) k i j)
  | 0, i, j, _ => by
    show j ∈ [i] ↔ i = j
    rw [List.mem_singleton]
    exact eq_comm
  | k + 1, i, j, hi => by
    have h4 := hU.four
    have hg : ws[i]?.getD ⟨#[]⟩ = ws[i] := by rw [List.getElem?_eq_getElem hi]; rfl
    have sub : ∀ c ∈ ls ws[i], 97 ≤ c ∧ c - 97 < ws.length := fun c hc => by
      have := hU.isw _ (List.getElem_mem hi) c hc
      omega
    show j ∈ smalls ((ls (ws[i]?.getD ⟨#[]⟩)).flatMap fun c => rs ws k (c - 97)) ↔ ∃ m, Rw ws i m ∧ Mx.Rch (Rw ws) k m j
    rw [hg]
    constructor
    · intro h
      obtain ⟨c, hc, hj⟩ := List.mem_flatMap.mp (smalls_of h).1
      have b := sub c hc
      exact ⟨c - 97, ⟨ws[i], List.getElem?_eq_getElem hi, by rw [show 97 + (c - 97) = c by omega]; exact hc⟩, (rs_mem k (c - 97) j b.2).mp hj⟩
    · rintro ⟨m, ⟨w, hw, hm⟩, h2⟩
      rw [List.getElem?_eq_getElem hi] at hw
      cases hw
      have b := sub _ hm
      rw [show 97 + m - 97 = m by omega] at b
      have hj := rch_lt hU b.2 h2
      refine in_smalls (List.mem_flatMap.mpr ⟨97 + m, hm, ?_⟩) (by omega)
      rw [show 97 + m - 97 = m by omega]
      exact (rs_mem k m j b.2).mpr h2
theorem hs_mem : ∀ (k i c : Nat), i < ws.length → (c ∈ hs ws k i ↔ 97 ≤ c ∧ Mx.Rch (Rw ws) k i (c - 97))
  | 0, i, c, _ => by
    show c ∈ [97 + i] ↔ 97 ≤ c ∧ i = c - 97
    rw [List.mem_singleton]
    omega
  | k + 1, i, c, hi => by
    have h4 := hU.four
    show c ∈ lets ((hs ws k i).flatMap (wd ws)) ↔ _
    have wdm : ∀ d, 97 ≤ d → d - 97 < ws.length → ∀ e, e ∈ wd ws d ↔ 97 ≤ e ∧ Rw ws (d - 97) (e - 97) := fun d h1 h2 e => by
      unfold wd
      rw [List.getElem?_eq_getElem h2]
      constructor
      · intro he
        have b := hU.isw _ (List.getElem_mem h2) e he
        exact ⟨b.1, ws[d - 97], List.getElem?_eq_getElem h2, by rw [show 97 + (e - 97) = e by omega]; exact he⟩
      · rintro ⟨he, w, hw, hm⟩
        rw [List.getElem?_eq_getElem h2] at hw
        cases hw
        rw [show 97 + (e - 97) = e by omega] at hm
        exact hm
    constructor
    · intro h
      obtain ⟨d, hd, hc⟩ := List.mem_flatMap.mp (lets_of h).1
      obtain ⟨d1, d2⟩ := (hs_mem k i d hi).mp hd
      have dl := rch_lt hU hi d2
      obtain ⟨c1, c2⟩ := (wdm d d1 dl c).mp hc
      exact ⟨c1, Mx.Rch.add d2 (b := 1) ⟨c - 97, c2, rfl⟩⟩
    · rintro ⟨c1, h⟩
      obtain ⟨m, g1, m2, g2, g3⟩ := Mx.Rch.cut (a := k) (b := 1) h
      have e3 : m2 = c - 97 := g3
      subst e3
      have ml := rch_lt hU hi g1
      have cl := Rw_lt hU g2
      refine in_lets (List.mem_flatMap.mpr ⟨97 + m, (hs_mem k i (97 + m) hi).mpr ⟨by omega, by rw [show 97 + m - 97 = m by omega]; exact g1⟩, (wdm (97 + m) (by omega) (by omega) c).mpr ⟨c1, ?_⟩⟩) c1 (by omega)
      rw [show 97 + m - 97 = m by omega]
      exact g2
omit hU in
theorem rs_inc : ∀ (k i : Nat), (rs ws k i).Pairwise (· < ·)
  | 0, i => List.pairwise_singleton _ _
  | k + 1, i => smalls_inc _
omit hU in
theorem hs_inc : ∀ (k i : Nat), (hs ws k i).Pairwise (· < ·)
  | 0, i => List.pairwise_singleton _ _
  | k + 1, i => lets_inc _
theorem hs_full {k : Nat} : (∀ i, i < ws.length → hs ws k i = (List.range ws.length).map (97 + ·)) ↔ Mx.Full (Rw ws) ws.length k := by
  constructor
  · intro h i j hi hj
    have z : 97 + j ∈ hs ws k i := by rw [h i hi]; exact List.mem_map.mpr ⟨j, List.mem_range.mpr hj, rfl⟩
    have := ((hs_mem hU k i (97 + j) hi).mp z).2
    rwa [show 97 + j - 97 = j by omega] at this
  · intro h i hi
    refine inc_eq (hs_inc k i) (List.pairwise_map.mpr (List.pairwise_lt_range.imp fun z => by omega)) fun c => ?_
    rw [hs_mem hU k i c hi]
    constructor
    · rintro ⟨c1, c2⟩
      exact List.mem_map.mpr ⟨c - 97, List.mem_range.mpr (rch_lt hU hi c2), by omega⟩
    · intro hc
      obtain ⟨j, hj, rfl⟩ := List.mem_map.mp hc
      exact ⟨by omega, by rw [show 97 + j - 97 = j by omega]; exact h i j hi (List.mem_range.mp hj)⟩
omit hU in
theorem inc_len : ∀ (n : Nat) (l : List Nat), l.Pairwise (· < ·) → (∀ x ∈ l, x < n) → l.length = n → l = List.range n
  | 0, l, _, _, hl => List.eq_nil_of_length_eq_zero hl
  | n + 1, l, inc, lt, hl => by
    have hne : l ≠ [] := fun e => by rw [e] at hl; cases hl
    have e := List.dropLast_concat_getLast hne
    have d1 : l.dropLast.Pairwise (· < ·) := by
      rw [← e] at inc
      exact (List.pairwise_append.mp inc).1
    have d2 : ∀ x ∈ l.dropLast, x < l.getLast hne := fun x hx => by
      rw [← e] at inc
      exact (List.pairwise_append.mp inc).2.2 x hx _ (List.mem_singleton.mpr rfl)
    have gl := lt _ (List.getLast_mem hne)
    have ih := inc_len n l.dropLast d1 (fun x hx => by have := d2 x hx; omega) (by rw [List.length_dropLast, hl]; rfl)
    have gn : l.getLast hne = n := by
      by_cases z : l.getLast hne = n
      · exact z
      · cases n with
        | zero => omega
        | succ m =>
          have := d2 m (by rw [ih]; exact List.mem_range.mpr (Nat.lt_succ_self _))
          omega
    rw [← e, ih, gn, List.range_succ]
theorem rs_full {k : Nat} : (∀ i, i < ws.length → (rs ws k i).length = ws.length) ↔ Mx.Full (Rw ws) ws.length k := by
  constructor
  · intro h i j hi hj
    have lt : ∀ x ∈ rs ws k i, x < ws.length := fun x hx => rch_lt hU hi ((rs_mem hU k i x hi).mp hx)
    have e := inc_len ws.length _ (rs_inc k i) lt (h i hi)
    exact (rs_mem hU k i j hi).mp (by rw [e]; exact List.mem_range.mpr hj)
  · intro h i hi
    have e : rs ws k i = List.range ws.length := inc_eq (rs_inc k i) List.pairwise_lt_range fun c => by
      rw [rs_mem hU k i c hi, List.mem_range]
      exact ⟨fun z => rch_lt hU hi z, fun z => h i c hi z⟩
    rw [e, List.length_range]
end

noncomputable def mxB (ws : List Str) : Bool := (List.range ws.length).all fun i => decide (hs ws 10 i = (List.range ws.length).map (97 + ·))
theorem mxB_law {ws : List Str} (hU : Ru ws) : ((List.range ws.length).all fun i => decide ((rs ws 16 i).length = ws.length)) = mxB ws := by
  rw [Bool.eq_iff_iff]
  unfold mxB
  rw [List.all_eq_true, List.all_eq_true]
  have h10 := hs_full hU (k := 10)
  have h16 := rs_full hU (k := 16)
  have t := Mx.ten (R := Rw ws) hU.four hU.pos (fun i j _ h => Rw_lt hU h) (fun i hi => Rw_ex hU hi)
  constructor
  · intro h i hi
    exact decide_eq_true (h10.mpr (t.mp (h16.mp fun i hi => of_decide_eq_true (h i (List.mem_range.mpr hi)))) i (List.mem_range.mp hi))
  · intro h i hi
    exact decide_eq_true (h16.mpr (t.mpr (h10.mp fun i hi => of_decide_eq_true (h i (List.mem_range.mpr hi)))) i (List.mem_range.mp hi))
theorem lets_len (l : List Nat) : (lets l).length ≤ 4 := by
  unfold lets
  exact Nat.le_trans (List.length_filter_le _ _) (by decide)
theorem smalls_len (l : List Nat) : (smalls l).length ≤ 4 := by
  unfold smalls
  exact Nat.le_trans (List.length_filter_le _ _) (by decide)

theorem map_free (c d : Nat) : ∀ l : List Nat, c ∉ l → l.map (fun x => if x = c then d else x) = l
  | [], _ => rfl
  | k :: r, h => by
    have h1 : ¬ k = c := fun e => h (e ▸ List.mem_cons_self)
    rw [List.map_cons, if_neg h1, map_free c d r fun m => h (List.mem_cons_of_mem _ m)]
theorem map_join (c d : Nat) : ∀ parts : List Str, (∀ p ∈ parts, c ∉ p.cps.toList) → (Str.join ⟨#[c]⟩ parts).cps.toList.map (fun x => if x = c then d else x) = (Str.join ⟨#[d]⟩ parts).cps.toList
  | [], _ => rfl
  | [p], h => map_free c d _ (h p (List.mem_singleton.mpr rfl))
  | p :: q :: r, h => by
    have ih := map_join c d (q :: r) fun a ha => h a (List.mem_cons_of_mem _ ha)
    show (p ++ ⟨#[c]⟩ ++ Str.join ⟨#[c]⟩ (q :: r)).cps.toList.map _ = (p ++ ⟨#[d]⟩ ++ Str.join ⟨#[d]⟩ (q :: r)).cps.toList
    simp only [Str.cps_append, Array.toList_append, List.map_append]
    rw [ih, map_free c d _ (h p List.mem_cons_self)]
    simp
theorem ls_replace (x : Str) (c d : Nat) : ls (Txt.replace x ⟨#[c]⟩ ⟨#[d]⟩) = (ls x).map fun a => if a = c then d else a := by
  show (Txt.replace x ⟨#[c]⟩ ⟨#[d]⟩).cps.toList = x.cps.toList.map _
  rw [StrLaws.replace_one, ← map_join c d _ (StrLaws.split_free x c), StrLaws.join_split]
end L2.Na.K41



namespace L2.Na.K41
open PySem PySem.Spec PyProof.Rows L2 L2.L3
section
variable {K : PySem.W.Frag}
noncomputable def sp_letters_in (K : PySem.W.Frag) : Sp := fun vs H Q _ => ∃ z : Str, vs = [.str z] ∧ z.length ≤ 4000 ∧ (∀ c ∈ ls z, 97 ≤ c ∧ c < 101) ∧ ∀ H', Same H H' → Q (.str (mkS (lets (ls z)))) H'
noncomputable def b_letters_in (K : PySem.W.Frag) : List (SX K) :=
  [ret (m_join (cst (.str "")) (srtS (var 0)))]
theorem l_letters_in : ∀ vs H Q E, sp_letters_in K vs H Q E → vs.length = 1 := by
  rintro vs H Q E ⟨_, rfl, _⟩
  rfl
theorem t_letters_in (vs : List V) (H : Hp) (Q : VK) (E : XK) (h : sp_letters_in K vs H Q E) : tSs (b_letters_in K) (fun _ => E) { nx := fun _ H' => Q .non H', rt := Q } (start ["word"] vs) H := by
  obtain ⟨z, rfl, h1, h2, q⟩ := h
  unfold b_letters_in
  walk_at "go"
  refine i_srtS ?_
  walk_at "go"
  refine i_srtSU h1 h2 fun D H1 hS nD hD => ?_
  walk_at "go"
  have l4 := lets_len (ls z)
  have hb : (((lets (ls z)).map fun c => (⟨#[c]⟩ : Str)).map (·.length)).sum ≤ 4 * 1 := by
    refine Nat.le_trans (sum_le (B := 1) fun x hx => ?_) (by rw [List.length_map, List.length_map]; exact Nat.mul_le_mul_right _ l4)
    obtain ⟨y, hy, rfl⟩ := List.mem_map.mp hx
    obtain ⟨c, _, rfl⟩ := List.mem_map.mp hy
    exact Nat.le_refl _
  refine ⟨(lets (ls z)).map fun c => (⟨#[c]⟩ : Str), .inl ?_, ?_, ?_⟩
  · rw [hD, List.map_map]; rfl
  · have e : (Str.ofString "").length = 0 := by decide +kernel
    rw [e]
    omega
  · have e : Txt.join (Str.ofString "") ((lets (ls z)).map fun c => (⟨#[c]⟩ : Str)) = mkS (lets (ls z)) := ls_inj (by
      rw [ls_join0, ls_mk, List.map_map]
      have : ∀ l : List Nat, (l.map (ls ∘ fun c => (⟨#[c]⟩ : Str))).flatten = l := by
        intro l
        induction l with
        | nil => rfl
        | cons c l ih => rw [List.map_cons, List.flatten_cons, ih]; rfl
      exact this _)
    rw [e]
    exact q H1 hS
noncomputable def sp_mixes (K : PySem.W.Frag) : Sp := fun vs H Q _ => ∃ (a : Addr) (ws : List Str), vs = [.ref a] ∧ Rt4 K H a ws ∧ Ru ws ∧ ∀ H', Same H H' → Q (.bl (mxB ws)) H'
noncomputable def b_mixes (K : PySem.W.Frag) : List (SX K) :=
  [set 1 (call "letters" (sp_letters K) [len (var 0)]),
    set 2 (listS (var 1)),
    forS (nam 3) (iRng (glb "ENOUGH_TURNS" (.int 10)) []) [setC 2 (compC none (call "letters_in" (sp_letters_in K) [call "put" (sp_put K) [var 1, var 0]]) (nam 0) (iSeq (var 2)) ["word"] ["rule"] [0])],
    ret (allE (comp (cmp .Eq (var 0) (var 1)) (nam 0) (iSeq (var 2)) ["word"] ["known"] [1]))]
theorem l_mixes : ∀ vs H Q E, sp_mixes K vs H Q E → vs.length = 1 := by
  rintro vs H Q E ⟨_, _, rfl, _⟩
  rfl
theorem hs_ok {ws : List Str} (hU : Ru ws) {k i : Nat} (hi : i < ws.length) : (hs ws k i).length ≤ 4 ∧ ∀ c ∈ hs ws k i, 97 ≤ c ∧ c < 97 + ws.length := by
  refine ⟨?_, fun c hc => ?_⟩
  · cases k with
    | zero => exact (by decide : 1 ≤ 4)
    | succ k => exact lets_len _
  · obtain ⟨h1, h2⟩ := (hs_mem hU k i c hi).mp hc
    have := rch_lt hU hi h2
    omega
theorem all_id {α : Type} (f : α → Bool) : ∀ l : List α, (l.map f).all id = l.all f
  | [] => rfl
  | x :: l => by rw [List.map_cons, List.all_cons, List.all_cons, all_id f l]; rfl
theorem t_mixes (vs : List V) (H : Hp) (Q : VK) (E : XK) (h : sp_mixes K vs H Q E) : tSs (b_mixes K) (fun _ => E) { nx := fun _ H' => Q .non H', rt := Q } (start ["rule", "known", "held", "turn"] vs) H := by
  obtain ⟨a, ws, rfl, hR, hU, q⟩ := h
  have hq := hR.tp
  have h4 := hR.four
  have hlen : (ws.map V.str).length = ws.length := List.length_map _
  have k0 : (0 : Int) ≤ ((ws.length : Nat) : Int) := by omega
  have k4 : ((ws.length : Nat) : Int) ≤ 4 := by omega
  unfold b_mixes
  walk_at "go"
  rw [hlen]
  refine ⟨_, rfl, ?_⟩
  walk_at "go"
  refine i_listS ?_
  walk_at "go"
  refine ⟨small (by rw [known_len k0 k4]; omega), fun l nl => ?_⟩
  have hl0 : (upd H l (.lst (sgnV (known ((ws.length : Nat) : Int))))) l = some (.lst ((List.range ws.length).map fun i => V.str (mkS (hs ws 0 i)))) := by
    rw [upd_same]
    have e : sgnV (known ((ws.length : Nat) : Int)) = (List.range ws.length).map fun i => V.str (mkS (hs ws 0 i)) := by
      unfold sgnV
      rw [show (known ((ws.length : Nat) : Int)).cps.toList = ls (known ((ws.length : Nat) : Int)) from rfl, ls_known k0 k4, List.map_map, Int.toNat_natCast]
      rfl
    rw [e]
  have s0 := same_new nl (.lst (sgnV (known ((ws.length : Nat) : Int))))
  revert hl0 s0
  generalize upd H l (.lst (sgnV (known ((ws.length : Nat) : Int)))) = H0
  intro hl0 s0
  walk_at "go"
  refine loop_rng (fun k σ H' => Same H H' ∧ ∃ (r : Addr) (a3 : Option V), H' r = some (.lst ((List.range ws.length).map fun i => V.str (mkS (hs ws k i)))) ∧ σ = [some (.ref a), some (.str (known ((ws.length : Nat) : Int))), some (.ref r), a3])
    ⟨s0, l, none, hl0, rfl⟩ (fun k σ H' hk hP => ?_) fun σ H' hP => ?_
  · obtain ⟨hS, r, a3, hr, rfl⟩ := hP
    walk_at "go"
    refine i_itL (SqL.of hr) ?_
    intro D hD
    refine comp_lstI (fun i => V.str (mkS (hs ws (k + 1) i))) (SqL.of hr) hD (small (by rw [List.length_map, List.length_range]; omega)) (fun i x H1 Q' hx hS1 fin => ?_) fun H1 hS1 hO => ?_
    · have hi : i < ws.length := by
        have := (List.getElem?_eq_some_iff.mp hx).1
        rw [List.length_map, List.length_range] at this
        exact this
      have ex : x = V.str (mkS (hs ws k i)) := by
        rw [List.getElem?_map, List.getElem?_range hi] at hx
        exact (Option.some.inj hx).symm
      subst ex
      obtain ⟨g1, g2⟩ := hs_ok hU (k := k) hi
      have hw : IsW ws.length (mkS (hs ws k i)) := fun c hc => by rw [ls_mk] at hc; exact g2 c hc
      have hwl : (mkS (hs ws k i)).length ≤ 4 := by rw [mk_len]; exact g1
      walk_at "go"
      refine ⟨a, ws, _, rfl, (hR.same hS).same hS1, hU.le, hw, by omega, fun H2 hS2 => ?_⟩
      walk_at "go"
      have il : (img ws (mkS (hs ws k i))).length ≤ 4 * 100 := Nat.le_trans (img_le hU.le) (Nat.mul_le_mul_right _ hwl)
      have iw := img_isW (z := mkS (hs ws k i)) hU.isw
      refine ⟨_, rfl, by omega, fun c hc => by have := iw c hc; omega, fun H3 hS3 => ?_⟩
      have := fin H3 (hS2.trans hS3)
      have e : lets (ls (img ws (mkS (hs ws k i)))) = hs ws (k + 1) i := by rw [ls_img, ls_mk]; rfl
      rw [e]
      exact this
    · refine ⟨hS.trans hS1, D, _, ?_, rfl⟩
      rw [hO, List.length_map, List.length_range]
  · obtain ⟨hS, r, a3, hr, rfl⟩ := hP
    walk_at "go"
    refine i_itL (SqL.of hr) ?_
    intro D hD
    refine comp_lstI (fun i => V.bl (decide (hs ws 10 i = (List.range ws.length).map (97 + ·)))) (SqL.of hr) hD (small (by rw [List.length_map, List.length_range]; omega)) (fun i x H1 Q' hx hS1 fin => ?_) fun H1 hS1 hO => ?_
    · have hi : i < ws.length := by
        have := (List.getElem?_eq_some_iff.mp hx).1
        rw [List.length_map, List.length_range] at this
        exact this
      have ex : x = V.str (mkS (hs ws 10 i)) := by
        rw [List.getElem?_map, List.getElem?_range hi] at hx
        exact (Option.some.inj hx).symm
      subst ex
      walk_at "go"
      have := fin H1 (Same.refl _)
      have e : decide (mkS (hs ws 10 i) = known ((ws.length : Nat) : Int)) = decide (hs ws 10 i = (List.range ws.length).map (97 + ·)) := decide_eq_decide.mpr ⟨fun e => by
        have e2 := congrArg ls e
        rw [ls_mk, ls_known k0 k4, Int.toNat_natCast] at e2
        exact e2, fun e => ls_inj (by rw [ls_mk, ls_known k0 k4, Int.toNat_natCast]; exact e)⟩
      rw [e]
      exact this
    · refine ⟨D, (List.range ws.length).map fun i => decide (hs ws 10 i = (List.range ws.length).map (97 + ·)), rfl, ?_, ?_⟩
      · rw [hO, List.length_map, List.length_range, List.map_map]
        rfl
      · have z := q H1 (hS.trans hS1)
        unfold mxB at z
        rw [all_id]
        exact z
end
end L2.Na.K41



namespace L2.Na.K41
open PySem PySem.Spec PyProof.Rows L2 L2.L3
section
variable {K : PySem.W.Frag}

noncomputable def Tb (H : Hp) (p : Addr) (f : Nat → List Nat) (n : Nat) : Prop := ∃ rs : List Addr, H p = some (.lst (rs.map V.ref)) ∧ rs.length = n ∧ ∀ (i : Nat) (r : Addr), rs[i]? = some r → H r = some (.lst ((f i).map fun (k : Nat) => V.int ((k : Nat) : Int)))
theorem Tb.same {H H' : Hp} {p : Addr} {f : Nat → List Nat} {n : Nat} (h : Tb H p f n) (e : Same H H') : Tb H' p f n := by
  obtain ⟨rs, h1, h2, h3⟩ := h
  exact ⟨rs, e _ _ h1, h2, fun i r a => e _ _ (h3 i r a)⟩
theorem Tb.get {H : Hp} {p : Addr} {f : Nat → List Nat} {n i : Nat} (h : Tb H p f n) (hi : i < n) : ∃ rs : List Addr, ∃ r, H p = some (.lst (rs.map V.ref)) ∧ rs[i]? = some r ∧ H r = some (.lst ((f i).map fun (k : Nat) => V.int ((k : Nat) : Int))) := by
  obtain ⟨rs, h1, h2, h3⟩ := h
  have hl : i < rs.length := by omega
  exact ⟨rs, rs[i], h1, List.getElem?_eq_getElem hl, h3 i _ (List.getElem?_eq_getElem hl)⟩
noncomputable def sp_law_mixes (K : PySem.W.Frag) : Sp := fun vs H Q _ => ∃ (a : Addr) (ws : List Str), vs = [.ref a] ∧ Rt4 K H a ws ∧ Ru ws ∧ ∀ H', Same H H' → Q (.bl (mxB ws)) H'
noncomputable def b_mx3 (K : PySem.W.Frag) : List (SX K) := [set 6 (bin .Add (var 6) (ix (var 2) (m_index (cst (.str "abcd")) (var 7))))]
noncomputable def b_mx2 (K : PySem.W.Frag) : List (SX K) := [set 6 (lst []), forS (nam 7) (iSeq (var 5)) (b_mx3 K), ex (m_append (var 4) (srtI (var 6)))]
noncomputable def b_mx1 (K : PySem.W.Frag) : List (SX K) := [set 4 (lst []), forS (nam 5) (iSeq (var 0)) (b_mx2 K), set 2 (var 4)]
noncomputable def b_mx0 (K : PySem.W.Frag) : List (SX K) := [ret (eqG (comp (len (var 0)) (nam 0) (iSeq (var 2)) ["_law_some"] [] []) (bin .Mult (lst [var 1]) (var 1)))]
noncomputable def b_law_mixes (K : PySem.W.Frag) : List (SX K) :=
  set 1 (len (var 0)) ::
    setC 2 (compC none (lst [var 0]) (nam 0) (iRng (var 1) []) ["_law_k"] [] []) ::
    forS (nam 3) (iRng (cst (.int 16)) []) (b_mx1 K) :: b_mx0 K
theorem l_law_mixes : ∀ vs H Q E, sp_law_mixes K vs H Q E → vs.length = 1 := by
  rintro vs H Q E ⟨_, _, rfl, _⟩
  rfl
theorem rs_ok {ws : List Str} (hU : Ru ws) {k i : Nat} (hi : i < ws.length) : (rs ws k i).length ≤ 4 ∧ ∀ c ∈ rs ws k i, c < 4 := by
  have h4 := hU.four
  refine ⟨?_, fun c hc => ?_⟩
  · cases k with
    | zero => exact (by decide : 1 ≤ 4)
    | succ k => exact smalls_len _
  · have := rch_lt hU hi ((rs_mem hU k i c hi).mp hc)
    omega
noncomputable abbrev nV (l : List Nat) : List V := l.map fun (k : Nat) => V.int ((k : Nat) : Int)

theorem t_mx3 {H : Hp} {D : Ends} {E : XS} {ws : List Str} {k : Nat} {w : Str} {v0 v1 v3 v4 v7 : Option V} {r p6 : Addr} (hU : Ru ws) (hw : IsW ws.length w) (hwl : w.length ≤ 100) (hr : Tb H r (rs ws k) ws.length) (h6 : H p6 = some (.lst []))
    (fin : ∀ (H' : Hp) (p : Addr) (u7 : Option V), Same H H' → H' p = some (.lst (nV ((ls w).flatMap fun c => rs ws k (c - 97)))) → D.nx [v0, v1, some (.ref r), v3, v4, some (.str w), some (.ref p), u7] H') :
    LoopW (Its w) (nam 7 : TX K).g (tSs (b_mx3 K) E) D [v0, v1, some (.ref r), v3, v4, some (.str w), some (.ref p6), v7] H := by
  have h4 := hU.four
  have hn : (ls w).length ≤ 100 := by rw [ls_len]; exact hwl
  refine loop_str (fun i σ H' => Same H H' ∧ i ≤ (ls w).length ∧ ∃ (p : Addr) (u7 : Option V), H' p = some (.lst (nV (((ls w).take i).flatMap fun c => rs ws k (c - 97)))) ∧ σ = [v0, v1, some (.ref r), v3, v4, some (.str w), some (.ref p), u7])
    ⟨Same.refl _, Nat.zero_le _, p6, v7, h6, rfl⟩ (fun i c σ H' hc hP => ?_) fun σ H' hP => ?_
  · obtain ⟨hS, hi, p, u7, hp, rfl⟩ := hP
    have hilt := (List.getElem?_eq_some_iff.mp hc).1
    have hcw := hw c (List.mem_of_getElem? hc)
    obtain ⟨rr, hrr⟩ := occ_letter hcw.1 (show c < 101 by omega)
    obtain ⟨rl, r1, g1, g2, g3⟩ := (hr.same hS).get (show c - 97 < ws.length by omega)
    unfold b_mx3
    walk_at "go"
    refine i_indexU hrr ?_
    refine i_ixL (v := .ref r1) (SqL.of g1) (atI_nat (by rw [List.getElem?_map, g2]; rfl)) ?_
    have len1 : (((ls w).take i).flatMap fun c => rs ws k (c - 97)).length ≤ 100 * 4 := by
      rw [List.length_flatMap]
      refine Nat.le_trans (sum_le (B := 4) fun x hx => ?_) (by rw [List.length_map, List.length_take]; exact Nat.mul_le_mul_right _ (by omega))
      obtain ⟨d, hd, rfl⟩ := List.mem_map.mp hx
      have := hw d (List.mem_of_mem_take hd)
      exact (rs_ok hU (k := k) (show d - 97 < ws.length by omega)).1
    have len2 := (rs_ok hU (k := k) (show c - 97 < ws.length by omega)).1
    refine i_catL hp g3 (small (by rw [List.length_map, List.length_map]; omega)) fun q nq => ?_
    refine ⟨hS.trans (same_new nq _), hilt, q, _, ?_, rfl⟩
    rw [upd_same, List.take_add_one, hc]
    show _ = some (HO.lst (nV (((ls w).take i ++ [c]).flatMap fun c => rs ws k (c - 97))))
    rw [List.flatMap_append]
    unfold nV
    rw [List.map_append]
    simp
  · obtain ⟨hS, hi, p, u7, hp, rfl⟩ := hP
    refine fin H' p u7 hS ?_
    rw [hp]
    have e : (ls w).take w.cps.toList.length = ls w := List.take_length
    rw [e]
theorem rs_succ {ws : List Str} {k i : Nat} {w : Str} (hw : ws[i]? = some w) : rs ws (k + 1) i = smalls ((ls w).flatMap fun c => rs ws k (c - 97)) := by
  show smalls ((ls (ws[i]?.getD ⟨#[]⟩)).flatMap fun c => rs ws k (c - 97)) = _
  rw [hw]
  rfl
end
end L2.Na.K41



namespace L2.Na.K41
open PySem PySem.Spec PyProof.Rows L2 L2.L3
section
variable {K : PySem.W.Frag}

theorem t_mx1 {H : Hp} {D : Ends} {E : XS} {ws : List Str} {k : Nat} {v1 v3 v4 v5 v6 v7 : Option V} {a r : Addr} (hR : Rt4 K H a ws) (hU : Ru ws) (hr : Tb H r (rs ws k) ws.length)
    (fin : ∀ (H' : Hp) (p : Addr) (u5 u6 u7 : Option V), Same H H' → Tb H' p (rs ws (k + 1)) ws.length → D.nx [some (.ref a), v1, some (.ref p), v3, some (.ref p), u5, u6, u7] H') :
    tSs (b_mx1 K) E D [some (.ref a), v1, some (.ref r), v3, v4, v5, v6, v7] H := by
  have h4 := hR.four
  have hlen : (ws.map V.str).length = ws.length := List.length_map _
  unfold b_mx1
  walk_at "go"
  refine ⟨Nat.zero_le _, fun p np => ?_⟩
  walk_at "go"
  refine i_itT (Same.seqT (same_new np _) hR.tp) ?_
  refine loop_yl (yl_tup (xs := ws.map V.str)) (fun i σ H2 => Same H H2 ∧ ∃ (rl : List Addr) (u5 u6 u7 : Option V), H2 p = some (.lst (rl.map V.ref)) ∧ rl.length = i ∧ (∀ (j : Nat) (q : Addr), rl[j]? = some q → q ≠ p ∧ H2 q = some (.lst (nV (rs ws (k + 1) j)))) ∧ σ = [some (.ref a), v1, some (.ref r), v3, some (.ref p), u5, u6, u7])
    ⟨same_new np _, [], v5, v6, v7, upd_same, rfl, (fun j q hq => by simp at hq), rfl⟩ (fun i σ H2 _ hP => Same.seqT hP.1 hR.tp) (fun i x σ H2 hx hP => ?_) fun σ H2 hP => ?_
  · obtain ⟨hS, rl, u5, u6, u7, hp, hl, hq, rfl⟩ := hP
    obtain ⟨w, hw, rfl⟩ := str_get hx
    have hm := List.mem_of_getElem? hw
    have hi : i < ws.length := (List.getElem?_eq_some_iff.mp hw).1
    unfold b_mx2
    walk_at "go"
    refine ⟨Nat.zero_le _, fun p6 np6 => ?_⟩
    have s6 := same_new np6 (.lst [])
    walk_at "go"
    refine t_mx3 (k := k) hU (hU.isw w hm) (hU.le w hm) ((hr.same hS).same s6) upd_same fun H3 q3 w7 hS3 hq3 => ?_
    have s3 := s6.trans hS3
    have sm : ∀ c ∈ (ls w).flatMap (fun c => rs ws k (c - 97)), c < 4 := fun c hc => by
      obtain ⟨d, hd, hc'⟩ := List.mem_flatMap.mp hc
      have := hU.isw w hm d hd
      exact (rs_ok hU (k := k) (show d - 97 < ws.length by omega)).2 c hc'
    walk_at "go"
    refine i_RL (SqL.of (s3 _ _ hp)) ?_
    walk_at "go"
    refine i_srtI ?_
    walk_at "go"
    refine i_srtIU hq3 sm fun q4 H4 hS4 nq4 hq4 => ?_
    have s4 := s3.trans hS4
    walk_at "go"
    refine i_appendU (s4 _ _ hp) (by rw [List.length_map, hl]; exact Nat.lt_of_lt_of_le (show i < 100 by omega) (small (by decide))) ?_
    have n4 : q4 ≠ p := fun e => by
      rw [e, s3 _ _ hp] at nq4
      cases nq4
    refine ⟨same_upd (hS.trans s4) np, rl ++ [q4], _, _, _, by rw [upd_same, List.map_append]; rfl, by rw [List.length_append, hl]; rfl, fun j q hj => ?_, rfl⟩
    by_cases hlt : j < rl.length
    · rw [List.getElem?_append_left hlt] at hj
      obtain ⟨g1, g2⟩ := hq j q hj
      exact ⟨g1, by rw [upd_ne g1]; exact s4 _ _ g2⟩
    · rw [List.getElem?_append_right (by omega)] at hj
      have hz : j - rl.length = 0 := by
        cases hd : j - rl.length with
        | zero => rfl
        | succ m => rw [hd] at hj; simp at hj
      rw [hz] at hj
      have eq4 : q4 = q := by simpa using hj
      subst eq4
      have ej : j = i := by omega
      subst ej
      refine ⟨n4, ?_⟩
      rw [upd_ne n4, rs_succ hw]
      exact hq4
  · obtain ⟨hS, rl, u5, u6, u7, hp, hl, hq, rfl⟩ := hP
    walk_at "go"
    exact fin H2 p _ _ _ hS ⟨rl, hp, by rw [hl, hlen], fun i q hi => (hq i q hi).2⟩
theorem t_law_mixes (vs : List V) (H : Hp) (Q : VK) (E : XK) (h : sp_law_mixes K vs H Q E) : tSs (b_law_mixes K) (fun _ => E) { nx := fun _ H' => Q .non H', rt := Q } (start ["_law_rule_here", "_law_many", "_law_reach", "_law_turn", "_law_fresh", "_law_word_here", "_law_some", "_law_sign"] vs) H := by
  obtain ⟨a, ws, rfl, hR, hU, q⟩ := h
  have hq := hR.tp
  have h4 := hR.four
  have hlen : (ws.map V.str).length = ws.length := List.length_map _
  unfold b_law_mixes
  walk_at "go"
  rw [hlen]
  walk_at "go"
  intro D hD
  refine comp_rel (yl_rng (lo := 0) (n := ws.length)) (fun i y H1 => ∃ r, y = .ref r ∧ r ≠ D ∧ H1 r = some (.lst (nV [i]))) hD (fun _ _ => trivial) (small (by rw [rngV_len]; omega)) (fun i y H1 H2 hh => ?_) (fun i x H1 Q' hx hS hDs fin => ?_) fun H1 ys hS hO hl hr => ?_
  · rintro ⟨r, e1, e2, e3⟩
    exact ⟨r, e1, e2, hh r _ e2 e3⟩
  · obtain ⟨hi, rfl⟩ := rngV_get hx
    obtain ⟨o, ho⟩ := hDs
    walk_at "go"
    refine ⟨by show 1 ≤ sizeLine; decide, fun r nr => ?_⟩
    refine fin (.ref r) _ (same_new nr _) ⟨r, rfl, (ne_of_none ho nr).symm, ?_⟩
    rw [upd_same, show (0 : Int) + (i : Nat) = ((i : Nat) : Int) by omega]
    rfl
  obtain ⟨rl, rfl⟩ := refs_of ys fun y hy => by
    obtain ⟨i, hi⟩ := List.getElem?_of_mem hy
    obtain ⟨r, e, _⟩ := hr i y hi
    exact ⟨r, e⟩
  have T0 : Tb H1 D (rs ws 0) ws.length := ⟨rl, hO, by rw [rngV_len, List.length_map] at hl; exact hl, fun i r hi => by
    obtain ⟨r', e1, _, e3⟩ := hr i (.ref r) (by rw [List.getElem?_map, hi]; rfl)
    cases e1
    exact e3⟩
  walk_at "go"
  refine loop_rng (fun k σ H2 => Same H H2 ∧ ∃ (r : Addr) (u3 u4 u5 u6 u7 : Option V), Tb H2 r (rs ws k) ws.length ∧ σ = [some (.ref a), some (.int ((ws.length : Nat) : Int)), some (.ref r), u3, u4, u5, u6, u7])
    ⟨hS, D, none, none, none, none, none, T0, rfl⟩ (fun k σ H2 hk hP => ?_) fun σ H2 hP => ?_
  · obtain ⟨hS2, r, u3, u4, u5, u6, u7, T, rfl⟩ := hP
    refine i_nam ?_
    exact t_mx1 (k := k) (hR.same hS2) hU T fun H3 p w5 w6 w7 hS3 T3 => ⟨hS2.trans hS3, p, _, _, _, _, _, T3, rfl⟩
  · obtain ⟨hS2, r, u3, u4, u5, u6, u7, T, rfl⟩ := hP
    obtain ⟨rl2, g1, g2, g3⟩ := T
    unfold b_mx0
    walk_at "go"
    refine i_eqG ?_
    walk_at "go"
    refine i_itL (SqL.of g1) ?_
    intro D2 hD2
    refine comp_lstI (fun i => .int (((rs ws 16 i).length : Nat) : Int)) (SqL.of g1) hD2 (small (by rw [List.length_map, g2]; omega)) (fun i x H3 Q' hx hS3 fin => ?_) fun H3 hS3 hO3 => ?_
    · rw [List.getElem?_map] at hx
      cases hri : rl2[i]? with
      | none => rw [hri] at hx; cases hx
      | some q1 =>
        rw [hri] at hx
        cases hx
        have hq1 := hS3 _ _ (g3 i q1 hri)
        walk_at "go"
        refine i_lenL (SqL.of hq1) ?_
        have := fin H3 (Same.refl _)
        rw [List.length_map]
        exact this
    · walk_at "go"
      refine ⟨by show 1 ≤ sizeLine; decide, fun p np => ?_⟩
      walk_at "go"
      refine i_rep (xs := [V.int ((ws.length : Nat) : Int)]) upd_same ⟨by omega, by omega⟩ (small (by show 1 * _ ≤ _; omega)) fun l2 nl2 => ?_
      have s5 := same_new np (.lst [V.int ((ws.length : Nat) : Int)])
      have s6 := same_new nl2 (.lst (List.replicate ((ws.length : Nat) : Int).toNat [V.int ((ws.length : Nat) : Int)]).flatten)
      have erep : (List.replicate ((ws.length : Nat) : Int).toNat [V.int ((ws.length : Nat) : Int)]).flatten = List.replicate ws.length (V.int ((ws.length : Nat) : Int)) := by
        rw [Int.toNat_natCast]
        have : ∀ (n : Nat) (x : V), (List.replicate n [x]).flatten = List.replicate n x := by
          intro n x
          induction n with
          | zero => rfl
          | succ n ih => rw [List.replicate_succ, List.flatten_cons, ih]; rfl
        exact this _ _
      rw [erep] at s6 ⊢
      refine ⟨D2, l2, _, _, fun i => decide ((rs ws 16 i).length = ws.length), rfl, rfl, .inl ⟨s6 _ _ (s5 _ _ hO3), upd_same⟩, ?_, fun i x y hx hy => ?_, ?_⟩
      · rw [List.length_map, List.length_range, List.length_map, List.length_replicate, g2]
      · rw [List.length_map, g2] at hx
        have hi : i < ws.length := by
          have := (List.getElem?_eq_some_iff.mp hx).1
          rw [List.length_map, List.length_range] at this
          exact this
        rw [List.getElem?_map, List.getElem?_range hi] at hx
        rw [List.getElem?_replicate, if_pos hi] at hy
        have ex := (Option.some.inj hx).symm
        have ey := (Option.some.inj hy).symm
        subst ex ey
        exact .inl (.inl ⟨_, _, rfl, rfl, by rw [Bool.eq_iff_iff, decide_eq_true_iff, beq_iff_eq]; omega⟩)
      · have e : ((List.range ((List.range (rl2.map V.ref).length).map fun i => V.int (((rs ws 16 i).length : Nat) : Int)).length).all fun i => decide ((rs ws 16 i).length = ws.length)) = mxB ws := by
          rw [List.length_map, List.length_range, List.length_map, g2]
          exact mxB_law hU
        rw [e]
        exact q _ (((hS2.trans hS3).trans s5).trans s6)
end
end L2.Na.K41



namespace L2.Na.K41
open PySem PySem.Spec PyProof.Rows L2 L2.L3
section
variable {K : PySem.W.Frag}
theorem fold_rep (x : Array Nat) : ∀ (k : Nat) (acc : Array Nat), ((List.replicate k x).foldl (· ++ ·) acc).toList = acc.toList ++ (List.replicate k x.toList).flatten
  | 0, acc => by simp
  | k + 1, acc => by
    rw [List.replicate_succ, List.foldl_cons, fold_rep x k, Array.toList_append, List.replicate_succ, List.flatten_cons, List.append_assoc]
theorem flat_one (c : Nat) : ∀ k : Nat, (List.replicate k [c]).flatten = List.replicate k c
  | 0 => rfl
  | k + 1 => by rw [List.replicate_succ, List.flatten_cons, flat_one c k]; rfl
theorem ls_mul1 {x : Str} {c : Nat} (hx : ls x = [c]) {n : Int} (h0 : 0 ≤ n) : ls (Txt.mul x n) = List.replicate n.toNat c := by
  unfold Txt.mul
  by_cases h1 : n < 1
  · have e : n = 0 := by omega
    subst e
    rw [if_pos h1]
    rfl
  · rw [if_neg h1]
    by_cases h2 : (n == 1 || x.length == 0) = true
    · rw [if_pos h2]
      rw [Bool.or_eq_true] at h2
      rcases h2 with h2 | h2
      · have e : n = 1 := by simpa using h2
        subst e
        exact hx
      · have : x.length = 0 := by simpa using h2
        rw [← ls_len, hx] at this
        simp at this
    · rw [if_neg h2]
      show ((List.replicate n.toNat x.cps).foldl (· ++ ·) #[]).toList = _
      rw [fold_rep]
      have hx' : x.cps.toList = [c] := hx
      rw [hx', flat_one]
      rfl

theorem mul_ok {c m : Nat} {n : Int} (h0 : 0 ≤ n) (h1 : 97 ≤ c) (h2 : c < 97 + m) : IsW m (Txt.mul ⟨#[c]⟩ n) ∧ (Txt.mul ⟨#[c]⟩ n).length = n.toNat := by
  have e := ls_mul1 (x := ⟨#[c]⟩) (c := c) rfl h0
  refine ⟨fun d hd => ?_, by rw [← ls_len, e, List.length_replicate]⟩
  rw [e] at hd
  rw [List.eq_of_mem_replicate hd]
  exact ⟨h1, h2⟩
theorem mul_fit {c : Nat} {n : Int} (h0 : 0 ≤ n) (h1 : n ≤ 100) : CMulS ⟨#[c]⟩ n := ⟨h0, by omega, small (by show 1 * n.toNat ≤ 1000000; omega)⟩

theorem sl_from {z : Str} {k : Nat} (h : k ≤ z.length) : ls (Txt.slice z (some ((k : Nat) : Int)) none) = (ls z).drop k := by
  show (Txt.slice z (some ((k : Nat) : Int)) none).cps.toList = _
  rw [slice_from (by omega) (by omega), Int.toNat_natCast]
theorem sl_to {z : Str} {k : Nat} : ls (Txt.slice z none (some ((k : Nat) : Int))) = (ls z).take k := by
  show (Txt.slice z none (some ((k : Nat) : Int))).cps.toList = _
  rw [slice_to (by omega), Int.toNat_natCast]

structure RB (ws : List Str) (n : Nat) : Prop where
  len : ws.length = n
  ok : ∀ w ∈ ws, IsW n w ∧ 1 ≤ w.length ∧ w.length ≤ 100
theorem RB.ru {ws : List Str} {n : Nat} (h : RB ws n) (h1 : 1 ≤ n) (h4 : n ≤ 4) : Ru ws :=
  ⟨by rw [h.len]; exact h1, by rw [h.len]; exact h4, fun w hw => by rw [h.len]; exact (h.ok w hw).1, fun w hw => (h.ok w hw).2.1, fun w hw => (h.ok w hw).2.2⟩
theorem RB.rt {H : Hp} {a : Addr} {ws : List Str} {n : Nat} (h : RB ws n) (hp : H a = some (.tup (ws.map V.str))) (h1 : 1 ≤ n) (h4 : n ≤ 4) : Rt4 K H a ws := ⟨SqT.of hp, by rw [h.len]; exact h1, by rw [h.len]; exact h4⟩
noncomputable def sp_law_mixing (K : PySem.W.Frag) : Sp := fun vs H Q _ => ∃ (a : Addr) (ns : List Int) (m : Int) (st : Nat), vs = [.ref a, .int m, .int (st : Nat), .int 3] ∧ SqL K H a (ns.map V.int) ∧ 1 ≤ m ∧ m ≤ 4 ∧ (st : Int) < m ∧
  ∀ (p : Addr) (ws : List Str) (H' : Hp), Same H H' → H' p = some (.tup (ws.map V.str)) → RB ws m.toNat → Q (.ref p) H'
noncomputable def b_law_mixing (K : PySem.W.Frag) : List (SX K) :=
  [set 4 (lst []),
    forS (nam 5) (iRng (var 1) []) [set 6 (call "_law_mixed" (sp_law_mixed K) [call "_law_cell" (sp_law_cell K) [var 0, bin .Add (var 5) (cst (.int 1))], var 5]),
      set 7 (call "_law_word" (sp_law_word K) [var 6, var 1, bin .Mod (bin .FloorDiv (var 6) (cst (.int 16))) (var 3)]),
      set 8 (bin .Mod (bin .FloorDiv (var 6) (cst (.int 64))) (bin .Add (len (var 7)) (cst (.int 1)))),
      set 7 (bin .Add (bin .Add (slc (var 7) none (some (var 8))) (ix (cst (.str "abcd")) (bin .Mod (bin .Add (var 5) (cst (.int 1))) (var 1)))) (slc (var 7) (some (var 8)) none)),
      ifS (cmp .Eq (var 5) (var 2)) [set 7 (bin .Add (ix (cst (.str "abcd")) (var 2)) (var 7))] [],
      ex (m_append (var 4) (var 7))],
    ret (tupleE (var 4))]
theorem l_law_mixing : ∀ vs H Q E, sp_law_mixing K vs H Q E → vs.length = 4 := by
  rintro vs H Q E ⟨_, _, _, _, rfl, _⟩
  rfl
theorem t_law_mixing (vs : List V) (H : Hp) (Q : VK) (E : XK) (h : sp_law_mixing K vs H Q E) : tSs (b_law_mixing K) (fun _ => E) { nx := fun _ H' => Q .non H', rt := Q } (start ["_law_script", "_law_many", "_law_start", "_law_most", "_law_words", "_law_k", "_law_number", "_law_word_here", "_law_at"] vs) H := by
  obtain ⟨a, ns, m, st, rfl, hS, h1, h4, hst, q⟩ := h
  unfold b_law_mixing
  walk_at "go"
  refine ⟨Nat.zero_le _, fun p hp => ?_⟩
  walk_at "go"
  refine loop_rng (fun i σ H' => Same H H' ∧ ∃ (ws : List Str) (a5 a6 a7 a8 : Option V), ws.length = i ∧ H' p = some (.lst (ws.map V.str)) ∧ (∀ w ∈ ws, IsW m.toNat w ∧ 1 ≤ w.length ∧ w.length ≤ 100) ∧ σ = [some (.ref a), some (.int m), some (.int (st : Nat)), some (.int 3), some (.ref p), a5, a6, a7, a8])
    ⟨same_new hp _, [], none, none, none, none, rfl, upd_same, (fun w hw => nomatch hw), rfl⟩ (fun i σ H' hi hP => ?_) fun σ H' hP => ?_
  · obtain ⟨hSm, ws, a5, a6, a7, a8, hl, hpl, hw, rfl⟩ := hP
    walk_at "go"
    refine ⟨a, ns, _, rfl, hSm.seq hS, by omega, fun v => ?_⟩
    walk_at "go"
    refine ⟨v, _, rfl, by omega, by omega, fun n n0 n1 => ?_⟩
    walk_at "go"
    refine ⟨n, m, _, rfl, h1, h4, by omega, by omega, fun z hz hzl => ?_⟩
    walk_at "go"
    refine i_lenS (small (by omega)) ?_
    walk_at "go"
    obtain ⟨g, hg, hgl⟩ : ∃ g : Nat, n / 64 % (((z.length : Nat) : Int) + 1) = ((g : Nat) : Int) ∧ g ≤ z.length := by
      have e1 := Int.emod_nonneg (n / 64) (show (((z.length : Nat) : Int) + 1) ≠ 0 by omega)
      have e2 := Int.emod_lt_of_pos (n / 64) (show (0 : Int) < ((z.length : Nat) : Int) + 1 by omega)
      exact ⟨(n / 64 % (((z.length : Nat) : Int) + 1)).toNat, by omega, by omega⟩
    rw [hg]
    have l1 : (Txt.slice z none (some ((g : Nat) : Int))).length = g := by
      rw [← ls_len, sl_to, List.length_take, ls_len]
      omega
    have l2 : (Txt.slice z (some ((g : Nat) : Int)) none).length = z.length - g := by
      rw [← ls_len, sl_from hgl, List.length_drop, ls_len]
    refine i_slS (small (by omega)) ?_
    walk_at "go"
    have d1 := Int.emod_nonneg ((0 : Int) + (i : Nat) + 1) (show m ≠ 0 by omega)
    have d2 := Int.emod_lt_of_pos ((0 : Int) + (i : Nat) + 1) (show 0 < m by omega)
    refine i_ixS (by rw [abcd_len]; decide) (abcd_at d1 d2 h4) ?_
    refine i_addS (z := ⟨#[97 + (((0 : Int) + (i : Nat) + 1) % m).toNat]⟩) (small (by rw [l1]; show g + 1 ≤ 1000000; omega)) ?_
    walk_at "go"
    refine i_slS (small (by omega)) ?_
    have l3 : (Txt.slice z none (some ((g : Nat) : Int)) ++ (⟨#[97 + (((0 : Int) + (i : Nat) + 1) % m).toNat]⟩ : Str)).length = g + 1 := by
      rw [len_app, l1]
      rfl
    refine i_addS (small (by omega)) ?_
    have wx : IsW m.toNat (Txt.slice z none (some ((g : Nat) : Int)) ++ (⟨#[97 + (((0 : Int) + (i : Nat) + 1) % m).toNat]⟩ : Str) ++ Txt.slice z (some ((g : Nat) : Int)) none) := ((hz.to (by omega)).app (IsW.sgn (by omega) (by omega))).app (hz.from (by omega) (by omega))
    have lx : (Txt.slice z none (some ((g : Nat) : Int)) ++ (⟨#[97 + (((0 : Int) + (i : Nat) + 1) % m).toNat]⟩ : Str) ++ Txt.slice z (some ((g : Nat) : Int)) none).length = z.length + 1 := by
      rw [len_app, l3, l2]
      omega
    revert wx lx
    generalize Txt.slice z none (some ((g : Nat) : Int)) ++ (⟨#[97 + (((0 : Int) + (i : Nat) + 1) % m).toNat]⟩ : Str) ++ Txt.slice z (some ((g : Nat) : Int)) none = y
    intro wx lx
    have next : ∀ (x : Str) (b5 b6 b7 b8 : Option V), IsW m.toNat x → 1 ≤ x.length → x.length ≤ 100 → Same H (upd H' p (.lst (ws.map V.str ++ [V.str x]))) ∧ ∃ (us : List Str) (c5 c6 c7 c8 : Option V), us.length = i + 1 ∧ (upd H' p (.lst (ws.map V.str ++ [V.str x]))) p = some (.lst (us.map V.str)) ∧ (∀ w ∈ us, IsW m.toNat w ∧ 1 ≤ w.length ∧ w.length ≤ 100) ∧ [some (.ref a), some (.int m), some (.int (st : Nat)), some (.int 3), some (.ref p), b5, b6, b7, b8] = [some (.ref a), some (.int m), some (.int (st : Nat)), some (.int 3), some (.ref p), c5, c6, c7, c8] := fun x b5 b6 b7 b8 x1 x2 x3 => by
      refine ⟨same_upd hSm hp, ws ++ [x], b5, b6, b7, b8, by rw [List.length_append, hl]; rfl, by rw [upd_same, List.map_append]; rfl, fun w hw' => ?_, rfl⟩
      rcases List.mem_append.mp hw' with h | h
      · exact hw w h
      · have e : w = x := by simpa using h
        subst e
        exact ⟨x1, x2, x3⟩
    walk_at "go"
    refine br_d (fun c => ?_) fun c => ?_
    · walk_at "go"
      refine i_ixS (by rw [abcd_len]; decide) (abcd_at (m := m) (by omega) hst h4) ?_
      rw [Int.toNat_natCast]
      walk_at "go"
      have lz : ((⟨#[97 + st]⟩ : Str) ++ y).length = 1 + y.length := by rw [len_app]; rfl
      refine i_addS (y := ⟨#[97 + st]⟩) (small (by show 1 + y.length ≤ 1000000; omega)) ?_
      walk_at "go"
      refine i_RL (SqL.of hpl) ?_
      walk_at "go"
      refine i_appendU hpl (by rw [List.length_map, hl]; exact Nat.lt_of_lt_of_le (show i < 100 by omega) (small (by decide))) ?_
      exact next _ _ _ _ _ ((IsW.sgn (by omega) (by omega)).app wx) (by omega) (by omega)
    · walk_at "go"
      refine i_RL (SqL.of hpl) ?_
      walk_at "go"
      refine i_appendU hpl (by rw [List.length_map, hl]; exact Nat.lt_of_lt_of_le (show i < 100 by omega) (small (by decide))) ?_
      exact next _ _ _ _ _ wx (by omega) (by omega)
  · obtain ⟨hSm, ws, a5, a6, a7, a8, hl, hpl, hw, rfl⟩ := hP
    walk_at "go"
    refine .inl ⟨_, SqL.of hpl, fun t ht => ?_⟩
    exact q t ws _ (hSm.trans (same_new ht _)) upd_same ⟨hl, hw⟩
noncomputable def sp_law_made (K : PySem.W.Frag) : Sp := fun vs H Q _ => ∃ (a : Addr) (ns : List Int) (hd : Int), vs = [.ref a, .int hd] ∧ SqL K H a (ns.map V.int) ∧ 0 ≤ hd ∧ hd < 2147483587 ∧
  ∀ (p : Addr) (ws : List Str) (n : Nat) (H' : Hp), Same H H' → H' p = some (.tup (ws.map V.str)) → 1 ≤ n → n ≤ 4 → RB ws n → Q (.ref p) H'
theorem abcd_fit : (Str.ofString "abcd").length ≤ sizeLine := by rw [show (Str.ofString "abcd").length = 4 from abcd_len]; decide
noncomputable def b_law_made (K : PySem.W.Frag) : List (SX K) :=
  [set 2 (bin .Add (cst (.int 1)) (bin .Mod (var 1) (cst (.int 4)))),
    set 3 (bin .Mod (bin .FloorDiv (var 1) (cst (.int 4))) (cst (.int 4))),
    ifS (cmp .Eq (var 3) (cst (.int 0))) [ret (call "_law_mixing" (sp_law_mixing K) [var 0, var 2, bin .Mod (bin .FloorDiv (var 1) (cst (.int 16))) (var 2), cst (.int 3)])] [],
    set 4 (call "_law_rule" (sp_law_rule K) [var 0, var 2, cst (.int 4)]),
    ifS (cmp .Eq (var 3) (cst (.int 1))) [ret (tupleE (comp (bin .Mult (ix (cst (.str "abcd")) (bin .Mod (bin .Add (var 0) (cst (.int 1))) (var 1))) (bin .Add (cst (.int 1)) (bin .Mod (bin .FloorDiv (var 2) (cst (.int 16))) (cst (.int 2))))) (nam 0) (iRng (var 2) []) ["_law_k"] ["_law_many", "_law_head"] [2, 1]))] [],
    ifS (andE (cmp .Eq (var 3) (cst (.int 2))) [cmp .Gt (var 2) (cst (.int 1))]) [set 5 (bin .Mod (bin .FloorDiv (var 1) (cst (.int 16))) (var 2)),
      ret (tupleE (comp (m_repl (var 0) "abcd" abcd_fit (var 1) (bin .Mod (bin .Add (var 1) (cst (.int 1))) (var 2))) (nam 0) (iSeq (var 4)) ["_law_word_here"] ["_law_lost", "_law_many"] [5, 2]))] [],
    ret (var 4)]
theorem l_law_made : ∀ vs H Q E, sp_law_made K vs H Q E → vs.length = 2 := by
  rintro vs H Q E ⟨_, _, _, rfl, _⟩
  rfl
theorem i_repl {E : XS} {σ : St} {H : Hp} {Q : VK} {o i j : EX K} {z : Str} {hz : z.length ≤ sizeLine} {ho : o.s ≠ .zc} (h : o.t E σ H fun x H1 => (∃ w : Str, x = .str w) ∧ i.t E σ H1 fun y1 H2 => (∃ a c, y1 = .int a ∧ atI z.cps.toList a = some c) ∧ j.t E σ H2 fun y2 H3 => rRepl z x y1 y2 H3 Q) : (m_repl o z hz i j ho).t E σ H Q := h
theorem t_law_made (vs : List V) (H : Hp) (Q : VK) (E : XK) (h : sp_law_made K vs H Q E) : tSs (b_law_made K) (fun _ => E) { nx := fun _ H' => Q .non H', rt := Q } (start ["_law_script", "_law_head", "_law_many", "_law_way", "_law_rule_here", "_law_lost"] vs) H := by
  obtain ⟨a, ns, hd, rfl, hS, h0, h1, q⟩ := h
  unfold b_law_made
  walk_at "go"
  obtain ⟨m, hm, m1, m4⟩ : ∃ m : Int, 1 + hd % 4 = m ∧ 1 ≤ m ∧ m ≤ 4 := ⟨_, rfl, by omega, by omega⟩
  rw [hm]
  refine br_d (fun _ => ?_) fun _ => ?_
  · walk_at "go"
    obtain ⟨st, hst, hsm⟩ : ∃ st : Nat, hd / 16 % m = ((st : Nat) : Int) ∧ ((st : Nat) : Int) < m := by
      have e1 := Int.emod_nonneg (hd / 16) (show m ≠ 0 by omega)
      have e2 := Int.emod_lt_of_pos (hd / 16) (show 0 < m by omega)
      exact ⟨(hd / 16 % m).toNat, by omega, by omega⟩
    rw [hst]
    exact ⟨a, ns, m, st, rfl, hS, m1, m4, hsm, fun p ws H1 hS1 hp hb => q p ws _ H1 hS1 hp (by omega) (by omega) hb⟩
  walk_at "go"
  refine ⟨a, ns, m, 4, rfl, hS, m1, m4, by decide, by decide, fun p ws H1 hS1 hR hwl => ?_⟩
  have hb : RB ws m.toNat := ⟨hwl, fun w hw => ⟨by rw [← hwl]; exact hR.isw w hw, hR.one w hw, by have := hR.le w hw; have e : (4 : Int).toNat = 4 := rfl; omega⟩⟩
  walk_at "go"
  have rest : tSs ([ret (var 4)] : List (SX K)) (fun _ => E) { nx := fun _ H' => Q .non H', rt := Q } [some (.ref a), some (.int hd), some (.int m), some (.int (hd / 4 % 4)), some (.ref p), none] H1 := by
    walk_at "go"
    exact q p ws _ H1 hS1 hR.tp (by omega) (by omega) hb
  refine br_d (fun _ => ?_) fun _ => ?_
  · walk_at "go"
    intro D hD
    refine comp_rng (fun k => V.str (Txt.mul ⟨#[97 + (((k : Nat) : Int) + 1).toNat % m.toNat]⟩ (1 + hd / 16 % 2))) hD (small (by omega)) (fun k H2 Q' hk hS2 fin => ?_) fun H2 hS2 hO => ?_
    · have e0 : (0 : Int) + (k : Nat) = ((k : Nat) : Int) := by omega
      rw [e0]
      walk_at "go"
      obtain ⟨d, hd1, hd2⟩ : ∃ d : Nat, (((k : Nat) : Int) + 1) % m = ((d : Nat) : Int) ∧ (d : Int) < m := by
        have e1 := Int.emod_nonneg (((k : Nat) : Int) + 1) (show m ≠ 0 by omega)
        have e2 := Int.emod_lt_of_pos (((k : Nat) : Int) + 1) (show 0 < m by omega)
        exact ⟨((((k : Nat) : Int) + 1) % m).toNat, by omega, by omega⟩
      have ed : (((k : Nat) : Int) + 1).toNat % m.toNat = d := by
        have z : ((((((k : Nat) : Int) + 1).toNat % m.toNat : Nat)) : Int) = (((k : Nat) : Int) + 1) % m := by
          rw [Int.natCast_emod]
          congr 1 <;> omega
        omega
      rw [hd1]
      refine i_ixS (by rw [abcd_len]; decide) (abcd_at (m := m) (by omega) hd2 m4) ?_
      rw [Int.toNat_natCast]
      walk_at "go"
      refine i_mulS (z := ⟨#[97 + d]⟩) (mul_fit (by omega) (by omega)) ?_
      have := fin H2 (Same.refl _)
      rw [ed] at this
      exact this
    · refine .inl ⟨_, SqL.of hO, fun t nt => ?_⟩
      refine q t ((List.range m.toNat).map fun k => Txt.mul ⟨#[97 + (((k : Nat) : Int) + 1).toNat % m.toNat]⟩ (1 + hd / 16 % 2)) m.toNat _ ((hS1.trans hS2).trans (same_new nt _)) ?_ (by omega) (by omega) ⟨by rw [List.length_map, List.length_range], fun w hw => ?_⟩
      · rw [upd_same, List.map_map]
        rfl
      · obtain ⟨k, hk, rfl⟩ := List.mem_map.mp hw
        have lt : (((k : Nat) : Int) + 1).toNat % m.toNat < m.toNat := Nat.mod_lt _ (by omega)
        obtain ⟨g1, g2⟩ := mul_ok (c := 97 + (((k : Nat) : Int) + 1).toNat % m.toNat) (m := m.toNat) (n := 1 + hd / 16 % 2) (by omega) (by omega) (by omega)
        exact ⟨g1, by rw [g2]; omega, by rw [g2]; omega⟩
  walk_at "go"
  refine br_d (fun _ => ?_) fun _ => brF (i_nil rest)
  walk_at "go"
  refine br_d (fun c2 => ?_) fun _ => i_nil rest
  walk_at "go"
  obtain ⟨st, hst, hsm⟩ : ∃ st : Nat, hd / 16 % m = ((st : Nat) : Int) ∧ ((st : Nat) : Int) < m := by
    have e1 := Int.emod_nonneg (hd / 16) (show m ≠ 0 by omega)
    have e2 := Int.emod_lt_of_pos (hd / 16) (show 0 < m by omega)
    exact ⟨(hd / 16 % m).toNat, by omega, by omega⟩
  rw [hst]
  obtain ⟨d, hd1, hd2, hne⟩ : ∃ d : Nat, (((st : Nat) : Int) + 1) % m = ((d : Nat) : Int) ∧ (d : Int) < m ∧ d ≠ st := by
    have e1 := Int.emod_nonneg (((st : Nat) : Int) + 1) (show m ≠ 0 by omega)
    have e2 := Int.emod_lt_of_pos (((st : Nat) : Int) + 1) (show 0 < m by omega)
    refine ⟨((((st : Nat) : Int) + 1) % m).toNat, by omega, by omega, fun e => ?_⟩
    by_cases hl : ((st : Nat) : Int) + 1 < m
    · rw [Int.emod_eq_of_lt (by omega) hl] at e
      omega
    · have : ((st : Nat) : Int) + 1 = m := by omega
      rw [this, Int.emod_self] at e
      omega
  refine i_itT (SqT.of hR.tp) ?_
  intro D hD
  refine comp_tup (fun y => V.str (Txt.replace (strOf y) ⟨#[97 + st]⟩ ⟨#[97 + d]⟩)) (SqT.of hR.tp) hD (small (by rw [List.length_map]; omega)) (fun i y H2 Q' hy hS2 fin => ?_) fun H2 hS2 hO => ?_
  · obtain ⟨w, hw, rfl⟩ := str_get hy
    have hwm := hb.ok w (List.mem_of_getElem? hw)
    refine i_repl ?_
    walk_at "go"
    refine ⟨⟨w, rfl⟩, ?_⟩
    walk_at "go"
    have a1 := abcd_at (r := ((st : Nat) : Int)) (m := m) (by omega) hsm m4
    rw [Int.toNat_natCast] at a1
    refine ⟨⟨_, _, rfl, a1⟩, ?_⟩
    walk_at "go"
    rw [hd1]
    have a2 := abcd_at (r := ((d : Nat) : Int)) (m := m) (by omega) hd2 m4
    rw [Int.toNat_natCast] at a2
    exact ⟨w, _, _, 97 + st, 97 + d, rfl, rfl, rfl, a1, a2, by omega, by omega, fin H2 (Same.refl _)⟩
  · refine .inl ⟨_, SqL.of hO, fun t nt => ?_⟩
    refine q t (ws.map fun w => Txt.replace w ⟨#[97 + st]⟩ ⟨#[97 + d]⟩) m.toNat _ ((hS1.trans hS2).trans (same_new nt _)) ?_ (by omega) (by omega) ⟨by rw [List.length_map]; exact hwl, fun w hw => ?_⟩
    · rw [upd_same, List.map_map, List.map_map]
      rfl
    · obtain ⟨x, hx, rfl⟩ := List.mem_map.mp hw
      obtain ⟨x1, x2, x3⟩ := hb.ok x hx
      have e := ls_replace x (97 + st) (97 + d)
      have el : (Txt.replace x ⟨#[97 + st]⟩ ⟨#[97 + d]⟩).length = x.length := by rw [← ls_len, e, List.length_map, ls_len]
      refine ⟨fun c hc => ?_, by omega, by omega⟩
      rw [e] at hc
      obtain ⟨b, hb', rfl⟩ := List.mem_map.mp hc
      by_cases z : b = 97 + st
      · rw [if_pos z]; omega
      · rw [if_neg z]; exact x1 b hb'
end
end L2.Na.K41



namespace L2.Na.K41
open PySem PySem.Spec PyProof.Rows L2 L2.L3
section
variable {K : PySem.W.Frag}
theorem kBool : PySem.W.kitOne K (.type "bool") (.type "bool") = some true := by kernel_rfl
noncomputable def sp_law (K : PySem.W.Frag) : Sp := fun vs H Q _ => ∃ (a : Addr) (ns : List Int), vs = [.ref a] ∧ SqL K H a (ns.map V.int) ∧ ns.length ≤ 63 ∧ ∀ H', Q (.bl true) H'
noncomputable def b_law (K : PySem.W.Frag) : List (SX K) :=
  [forS (nam 1) (iRng (bin .Add (min2 (len (var 0)) (cst (.int 12))) (cst (.int 1))) []) [set 2 (call "_law_made" (sp_law_made K) [slc (var 0) (some (var 1)) (some (bin .Add (var 1) (cst (.int 5)))), call "_law_mixed" (sp_law_mixed K) [call "_law_cell" (sp_law_cell K) [var 0, var 1], cst (.int 0)]]),
      set 3 (call "mixes" (sp_mixes K) [var 2]),
      ifS (orE (notE (isi (var 3) tyBool)) [cmp .NotEq (var 3) (call "_law_mixes" (sp_law_mixes K) [var 2])]) [ret (cst (.bl false))] []],
    ret (andE (cmp .Is (call "mixes" (sp_mixes K) [tup [cst (.str "ab"), cst (.str "a")]]) (cst (.bl true))) [cmp .Is (call "mixes" (sp_mixes K) [tup [cst (.str "b"), cst (.str "a")]]) (cst (.bl false)), cmp .Is (call "mixes" (sp_mixes K) [tup [cst (.str "a")]]) (cst (.bl true))])]
theorem l_law : ∀ vs H Q E, sp_law K vs H Q E → vs.length = 1 := by
  rintro vs H Q E ⟨_, _, rfl, _⟩
  rfl
theorem isW_of {n : Nat} {w : Str} (h : (ls w).all (fun c => decide (97 ≤ c) && decide (c < 97 + n)) = true) : IsW n w := fun c hc => by
  have := List.all_eq_true.mp h c hc
  simpa using this
noncomputable def okW (ws : List Str) : Bool := decide (1 ≤ ws.length) && (decide (ws.length ≤ 4) && ws.all fun w => (ls w).all (fun c => decide (97 ≤ c) && decide (c < 97 + ws.length)) && (decide (1 ≤ w.length) && decide (w.length ≤ 100)))
theorem ru_of {ws : List Str} (h : okW ws = true) : Ru ws := by
  unfold okW at h
  simp only [Bool.and_eq_true] at h
  obtain ⟨h1, h2, h3⟩ := h
  have h3' := List.all_eq_true.mp h3
  refine ⟨of_decide_eq_true h1, of_decide_eq_true h2, fun w hw => ?_, fun w hw => ?_, fun w hw => ?_⟩
  · have := h3' w hw
    rw [Bool.and_eq_true] at this
    exact isW_of this.1
  · have := h3' w hw
    rw [Bool.and_eq_true, Bool.and_eq_true] at this
    exact of_decide_eq_true this.2.1
  · have := h3' w hw
    rw [Bool.and_eq_true, Bool.and_eq_true] at this
    exact of_decide_eq_true this.2.2
theorem ok1 : okW [Str.ofString "ab", Str.ofString "a"] = true := by decide +kernel
theorem ok2 : okW [Str.ofString "b", Str.ofString "a"] = true := by decide +kernel
theorem ok3 : okW [Str.ofString "a"] = true := by decide +kernel
theorem mx1 : mxB [Str.ofString "ab", Str.ofString "a"] = true := by decide +kernel
theorem mx2 : mxB [Str.ofString "b", Str.ofString "a"] = false := by decide +kernel
theorem mx3 : mxB [Str.ofString "a"] = true := by decide +kernel
theorem t_law (vs : List V) (H : Hp) (Q : VK) (E : XK) (h : sp_law K vs H Q E) : tSs (b_law K) (fun _ => E) { nx := fun _ H' => Q .non H', rt := Q } (start ["_law_script", "_law_k", "_law_rule_here", "_law_found"] vs) H := by
  obtain ⟨a, ns, rfl, hS, h63, q⟩ := h
  have hlen : (ns.map V.int).length = ns.length := List.length_map _
  unfold b_law
  walk_at "go"
  refine loop_rngS (fun i σ => ∃ a1 a2 a3, σ = [some (.ref a), a1, a2, a3]) ⟨none, none, none, rfl⟩ (fun i σ1 H1 hi hP hS1 => ?_) fun σ1 H1 hP hS1 => ?_
  · obtain ⟨a1, a2, a3, rfl⟩ := hP
    have hA := hS1.seq hS
    walk_at "go"
    refine i_slL hA fun p hp => ?_
    obtain ⟨ms, em, _⟩ := cut_map ns (some ((0 : Int) + (i : Nat))) (some ((0 : Int) + (i : Nat) + 5))
    have s2 := same_new hp (.lst (cutV (ns.map V.int) (some ((0 : Int) + (i : Nat))) (some ((0 : Int) + (i : Nat) + 5))))
    walk_at "go"
    refine ⟨a, ns, _, rfl, s2.seq hA, by omega, fun v => ?_⟩
    walk_at "go"
    refine ⟨v, 0, rfl, by omega, by omega, fun hd h0 h1 => ?_⟩
    walk_at "go"
    refine ⟨p, ms, hd, rfl, SqL.of (by rw [← em]; exact upd_same), h0, h1, fun r ws n H2 hS2 hr n1 n4 hb => ?_⟩
    have hS02 := (hS1.trans s2).trans hS2
    have hU := hb.ru n1 n4
    have hRt : Rt4 K H2 r ws := hb.rt hr n1 n4
    walk_at "go"
    refine ⟨r, ws, rfl, hRt, hU, fun H3 hS3 => ?_⟩
    walk_at "go"
    refine ⟨_, _, TyOf.bl _, kBool, ?_⟩
    walk_at "go"
    refine brF ?_
    walk_at "go"
    refine ⟨r, ws, rfl, hRt.same hS3, hU, fun H4 hS4 => ?_⟩
    walk_at "go"
    rw [beq_self_eq_true]
    refine brF ?_
    walk_at "go"
    exact ⟨⟨_, _, _, rfl⟩, (hS02.trans hS3).trans hS4⟩
  · obtain ⟨a1, a2, a3, rfl⟩ := hP
    walk_at "go"
    refine ⟨by show 2 ≤ sizeLine; decide, fun p1 np1 => ?_⟩
    walk_at "go"
    refine ⟨p1, [Str.ofString "ab", Str.ofString "a"], rfl, ⟨SqT.of upd_same, by decide, by decide⟩, ru_of ok1, fun H2 hS2 => ?_⟩
    rw [mx1]
    walk_at "go"
    refine brT ?_
    walk_at "go"
    refine ⟨by show 2 ≤ sizeLine; decide, fun p2 np2 => ?_⟩
    walk_at "go"
    refine ⟨p2, [Str.ofString "b", Str.ofString "a"], rfl, ⟨SqT.of upd_same, by decide, by decide⟩, ru_of ok2, fun H3 hS3 => ?_⟩
    rw [mx2]
    walk_at "go"
    refine brT ?_
    walk_at "go"
    refine ⟨by show 1 ≤ sizeLine; decide, fun p3 np3 => ?_⟩
    walk_at "go"
    refine ⟨p3, [Str.ofString "a"], rfl, ⟨SqT.of upd_same, by decide, by decide⟩, ru_of ok3, fun H4 hS4 => ?_⟩
    rw [mx3]
    walk_at "go"
    exact q H4
theorem s_law (K : PySem.W.Frag) (H : Hp) (a : Addr) (ns : List Int) (h : ns.length ≤ 63) (hS : SqL K H a (ns.map V.int)) : sp_law K [.ref a] H (fun v _ => v = .bl true) fun _ _ _ => False := ⟨a, ns, rfl, hS, h, fun _ => rfl⟩
end
end L2.Na.K41



namespace L2.Na.K41
open PySem PySem.Spec PyProof.Rows L2 L2.L3 L2.Na
noncomputable def top (i : Nat) : Stmt := PySem.Challenge.pw_neveragain_k41_mixes.main.body.getD i (.Pass ⟨0, 0, 0, 0⟩)
theorem sc_law_mixed : FnScope ["_law_cell_here", "_law_k", "_law_number"] ["_law_cell_here", "_law_k"] (defScope (top 12)) := ⟨rfl, rfl, rfl, by decide +kernel, rfl, by decide +kernel, by decide +kernel⟩
theorem m_law_mixed (K : PySem.W.Frag) : mSs (b_law_mixed K) ⟨["_law_cell_here", "_law_k", "_law_number"], (defScope (top 12)).names, true⟩ (defBody (top 12)) = true := by kernel_rfl
theorem sc_law_cell : FnScope ["_law_script", "_law_k"] ["_law_script", "_law_k"] (defScope (top 11)) := ⟨rfl, rfl, rfl, by decide +kernel, rfl, by decide +kernel, by decide +kernel⟩
theorem m_law_cell (K : PySem.W.Frag) : mSs (b_law_cell K) ⟨["_law_script", "_law_k"], (defScope (top 11)).names, true⟩ (defBody (top 11)) = true := by kernel_rfl
theorem sc_law_word : FnScope ["_law_number", "_law_many", "_law_size", "_law_word_here", "_law_k"] ["_law_number", "_law_many", "_law_size"] (defScope (top 13)) := ⟨rfl, rfl, rfl, by decide +kernel, rfl, by decide +kernel, by decide +kernel⟩
theorem m_law_word (K : PySem.W.Frag) : mSs (b_law_word K) ⟨["_law_number", "_law_many", "_law_size", "_law_word_here", "_law_k"], (defScope (top 13)).names, true⟩ (defBody (top 13)) = true := by kernel_rfl
theorem sc_law_rule : FnScope ["_law_script", "_law_many", "_law_most", "_law_words", "_law_k", "_law_number"] ["_law_script", "_law_many", "_law_most"] (defScope (top 14)) := ⟨rfl, rfl, rfl, by decide +kernel, rfl, by decide +kernel, by decide +kernel⟩
theorem m_law_rule (K : PySem.W.Frag) : mSs (b_law_rule K) ⟨["_law_script", "_law_many", "_law_most", "_law_words", "_law_k", "_law_number"], (defScope (top 14)).names, true⟩ (defBody (top 14)) = true := by kernel_rfl
theorem sc_law_mixing : FnScope ["_law_script", "_law_many", "_law_start", "_law_most", "_law_words", "_law_k", "_law_number", "_law_word_here", "_law_at"] ["_law_script", "_law_many", "_law_start", "_law_most"] (defScope (top 15)) := ⟨rfl, rfl, rfl, by decide +kernel, rfl, by decide +kernel, by decide +kernel⟩
theorem m_law_mixing (K : PySem.W.Frag) : mSs (b_law_mixing K) ⟨["_law_script", "_law_many", "_law_start", "_law_most", "_law_words", "_law_k", "_law_number", "_law_word_here", "_law_at"], (defScope (top 15)).names, true⟩ (defBody (top 15)) = true := by kernel_rfl
theorem sc_law_made : FnScope ["_law_script", "_law_head", "_law_many", "_law_way", "_law_rule_here", "_law_lost"] ["_law_script", "_law_head"] (defScope (top 17)) := ⟨rfl, rfl, rfl, by decide +kernel, rfl, by decide +kernel, by decide +kernel⟩
theorem m_law_made (K : PySem.W.Frag) : mSs (b_law_made K) ⟨["_law_script", "_law_head", "_law_many", "_law_way", "_law_rule_here", "_law_lost"], (defScope (top 17)).names, true⟩ (defBody (top 17)) = true := by kernel_rfl
theorem sc_letters : FnScope ["many"] ["many"] (defScope (top 2)) := ⟨rfl, rfl, rfl, by decide +kernel, rfl, by decide +kernel, by decide +kernel⟩
theorem m_letters (K : PySem.W.Frag) : mSs (b_letters K) ⟨["many"], (defScope (top 2)).names, true⟩ (defBody (top 2)) = true := by kernel_rfl
theorem sc_letters_in : FnScope ["word"] ["word"] (defScope (top 9)) := ⟨rfl, rfl, rfl, by decide +kernel, rfl, by decide +kernel, by decide +kernel⟩
theorem m_letters_in (K : PySem.W.Frag) : mSs (b_letters_in K) ⟨["word"], (defScope (top 9)).names, true⟩ (defBody (top 9)) = true := by kernel_rfl
theorem sc_words_by_letter : FnScope ["rule"] ["rule"] (defScope (top 5)) := ⟨rfl, rfl, rfl, by decide +kernel, rfl, by decide +kernel, by decide +kernel⟩
theorem m_words_by_letter (K : PySem.W.Frag) : mSs (b_words_by_letter K) ⟨["rule"], (defScope (top 5)).names, true⟩ (defBody (top 5)) = true := by kernel_rfl
theorem sc_put : FnScope ["rule", "word", "word_for"] ["rule", "word"] (defScope (top 4)) := ⟨rfl, rfl, rfl, by decide +kernel, rfl, by decide +kernel, by decide +kernel⟩
theorem m_put (K : PySem.W.Frag) : mSs (b_put K) ⟨["rule", "word", "word_for"], (defScope (top 4)).names, true⟩ (defBody (top 4)) = true := by kernel_rfl
theorem sc_mixes : FnScope ["rule", "known", "held", "turn"] ["rule"] (defScope (top 8)) := ⟨rfl, rfl, rfl, by decide +kernel, rfl, by decide +kernel, by decide +kernel⟩
theorem m_mixes (K : PySem.W.Frag) : mSs (b_mixes K) ⟨["rule", "known", "held", "turn"], (defScope (top 8)).names, true⟩ (defBody (top 8)) = true := by kernel_rfl
theorem sc_law_mixes : FnScope ["_law_rule_here", "_law_many", "_law_reach", "_law_turn", "_law_fresh", "_law_word_here", "_law_some", "_law_sign"] ["_law_rule_here"] (defScope (top 16)) := ⟨rfl, rfl, rfl, by decide +kernel, rfl, by decide +kernel, by decide +kernel⟩
theorem m_law_mixes (K : PySem.W.Frag) : mSs (b_law_mixes K) ⟨["_law_rule_here", "_law_many", "_law_reach", "_law_turn", "_law_fresh", "_law_word_here", "_law_some", "_law_sign"], (defScope (top 16)).names, true⟩ (defBody (top 16)) = true := by kernel_rfl
theorem sc_law : FnScope ["_law_script", "_law_k", "_law_rule_here", "_law_found"] ["_law_script"] (defScope (top 18)) := ⟨rfl, rfl, rfl, by decide +kernel, rfl, by decide +kernel, by decide +kernel⟩
theorem m_law (K : PySem.W.Frag) : mSs (b_law K) ⟨["_law_script", "_law_k", "_law_rule_here", "_law_found"], (defScope (top 18)).names, true⟩ (defBody (top 18)) = true := by kernel_rfl
theorem all_q {K : PySem.W.Frag} {P : Program} {w : World} {h base : Heap} {mg : Str → Option Value} (X : K.In h) (G : h.Ns mainGlobals mg) (bl : ∀ x ∈ blts, mg x = none) (F_law_mixed : FD K "_law_mixed" (top 12)) (F_law_cell : FD K "_law_cell" (top 11)) (F_law_word : FD K "_law_word" (top 13)) (F_law_rule : FD K "_law_rule" (top 14)) (F_law_mixing : FD K "_law_mixing" (top 15)) (F_law_made : FD K "_law_made" (top 17)) (F_letters : FD K "letters" (top 2)) (F_letters_in : FD K "letters_in" (top 9)) (F_words_by_letter : FD K "words_by_letter" (top 5)) (F_put : FD K "put" (top 4)) (F_mixes : FD K "mixes" (top 8)) (F_law_mixes : FD K "_law_mixes" (top 16)) (k_ENOUGH_TURNS : GC K "ENOUGH_TURNS" (.int 10)) (k_LETTERS : GC K "LETTERS" (.str "abcd")) (A : Around) (hr : Room 4 A) : qSs (b_law K) ⟨P, w, K, mg, base, A⟩ := by
  have D_law_mixed : DnK P w K mg base 1 "_law_mixed" (sp_law_mixed K) := dn_of F_law_mixed X G bl (b_law_mixed K) sc_law_mixed (m_law_mixed K) (fun _ _ _ _ _ _ us hl => by2 (Z := fun us => bindArgs _ ⟨us, []⟩ = pure (List.zip _ us)) (fun _ _ => by exact rfl) us hl) l_law_mixed t_law_mixed (fun A hr => ⟨⟨⟨⟨⟨⟨True.intro, True.intro⟩, True.intro⟩, ⟨⟨True.intro, True.intro⟩, True.intro⟩⟩, True.intro⟩, True.intro⟩, ⟨⟨⟨True.intro, True.intro⟩, True.intro⟩, True.intro⟩⟩)
  have D_law_cell : DnK P w K mg base 1 "_law_cell" (sp_law_cell K) := dn_of F_law_cell X G bl (b_law_cell K) sc_law_cell (m_law_cell K) (fun _ _ _ _ _ _ us hl => by2 (Z := fun us => bindArgs _ ⟨us, []⟩ = pure (List.zip _ us)) (fun _ _ => by exact rfl) us hl) l_law_cell t_law_cell (fun A hr => ⟨⟨⟨True.intro, ⟨True.intro, True.intro⟩⟩, ⟨⟨True.intro, True.intro⟩, True.intro⟩, True.intro⟩, ⟨True.intro, True.intro⟩⟩)
  have D_law_word : DnK P w K mg base 1 "_law_word" (sp_law_word K) := dn_of F_law_word X G bl (b_law_word K) sc_law_word (m_law_word K) (fun _ _ _ _ _ _ us hl => by3 (Z := fun us => bindArgs _ ⟨us, []⟩ = pure (List.zip _ us)) (fun _ _ _ => by exact rfl) us hl) l_law_word t_law_word (fun A hr => ⟨True.intro, ⟨⟨⟨True.intro, True.intro⟩, ⟨⟨⟨⟨⟨True.intro, True.intro⟩, True.intro⟩, True.intro⟩, True.intro⟩, ⟨⟨True.intro, ⟨True.intro, ⟨⟨True.intro, True.intro⟩, True.intro⟩⟩⟩, True.intro⟩⟩⟩, ⟨True.intro, True.intro⟩⟩⟩)
  have D_law_rule : DnK P w K mg base 2 "_law_rule" (sp_law_rule K) := dn_of F_law_rule X G bl (b_law_rule K) sc_law_rule (m_law_rule K) (fun _ _ _ _ _ _ us hl => by3 (Z := fun us => bindArgs _ ⟨us, []⟩ = pure (List.zip _ us)) (fun _ _ _ => by exact rfl) us hl) l_law_rule t_law_rule (fun A hr => ⟨True.intro, ⟨⟨⟨True.intro, True.intro⟩, ⟨⟨D_law_mixed.at hr (by decide), ⟨⟨D_law_cell.at hr (by decide), ⟨True.intro, ⟨⟨True.intro, True.intro⟩, True.intro⟩⟩⟩, ⟨True.intro, True.intro⟩⟩⟩, ⟨⟨True.intro, ⟨⟨D_law_word.at hr (by decide), ⟨True.intro, ⟨True.intro, ⟨⟨True.intro, ⟨⟨True.intro, True.intro⟩, True.intro⟩⟩, True.intro⟩⟩⟩⟩, True.intro⟩⟩, True.intro⟩⟩⟩, ⟨⟨True.intro, True.intro⟩, True.intro⟩⟩⟩)
  have D_law_mixing : DnK P w K mg base 2 "_law_mixing" (sp_law_mixing K) := dn_of F_law_mixing X G bl (b_law_mixing K) sc_law_mixing (m_law_mixing K) (fun _ _ _ _ _ _ us hl => by4 (Z := fun us => bindArgs _ ⟨us, []⟩ = pure (List.zip _ us)) (fun _ _ _ _ => by exact rfl) us hl) l_law_mixing t_law_mixing (fun A hr => ⟨True.intro, ⟨⟨⟨True.intro, True.intro⟩, ⟨⟨D_law_mixed.at hr (by decide), ⟨⟨D_law_cell.at hr (by decide), ⟨True.intro, ⟨⟨True.intro, True.intro⟩, True.intro⟩⟩⟩, ⟨True.intro, True.intro⟩⟩⟩, ⟨⟨D_law_word.at hr (by decide), ⟨True.intro, ⟨True.intro, ⟨⟨⟨True.intro, True.intro⟩, True.intro⟩, True.intro⟩⟩⟩⟩, ⟨⟨⟨True.intro, True.intro⟩, ⟨⟨True.intro, True.intro⟩, True.intro⟩⟩, ⟨⟨⟨⟨True.intro, True.intro, True.intro⟩, ⟨True.intro, ⟨⟨True.intro, True.intro⟩, True.intro⟩⟩⟩, ⟨True.intro, True.intro, True.intro⟩⟩, ⟨⟨⟨True.intro, True.intro⟩, ⟨⟨⟨True.intro, True.intro⟩, True.intro⟩, True.intro⟩, True.intro⟩, ⟨⟨True.intro, ⟨True.intro, True.intro⟩⟩, True.intro⟩⟩⟩⟩⟩⟩⟩, ⟨⟨True.intro, True.intro⟩, True.intro⟩⟩⟩)
  have D_law_made : DnK P w K mg base 3 "_law_made" (sp_law_made K) := dn_of F_law_made X G bl (b_law_made K) sc_law_made (m_law_made K) (fun _ _ _ _ _ _ us hl => by2 (Z := fun us => bindArgs _ ⟨us, []⟩ = pure (List.zip _ us)) (fun _ _ => by exact rfl) us hl) l_law_made t_law_made (fun A hr => ⟨⟨True.intro, ⟨True.intro, True.intro⟩⟩, ⟨⟨⟨True.intro, True.intro⟩, True.intro⟩, ⟨⟨⟨True.intro, True.intro⟩, ⟨⟨D_law_mixing.at hr (by decide), ⟨True.intro, ⟨True.intro, ⟨⟨⟨True.intro, True.intro⟩, True.intro⟩, ⟨True.intro, True.intro⟩⟩⟩⟩⟩, True.intro⟩, True.intro⟩, ⟨⟨D_law_rule.at hr (by decide), ⟨True.intro, ⟨True.intro, ⟨True.intro, True.intro⟩⟩⟩⟩, ⟨⟨⟨True.intro, True.intro⟩, ⟨⟨⟨⟨True.intro, True.intro⟩, ⟨⟨True.intro, ⟨⟨True.intro, True.intro⟩, True.intro⟩⟩, ⟨True.intro, ⟨⟨True.intro, True.intro⟩, True.intro⟩⟩⟩, True.intro⟩, True.intro⟩, True.intro⟩, True.intro⟩, ⟨⟨⟨⟨True.intro, True.intro⟩, ⟨⟨True.intro, True.intro⟩, True.intro⟩⟩, ⟨⟨⟨True.intro, True.intro⟩, True.intro⟩, ⟨⟨⟨True.intro, ⟨True.intro, ⟨⟨True.intro, True.intro⟩, ⟨⟨True.intro, ⟨⟨True.intro, True.intro⟩, True.intro⟩⟩, True.intro⟩⟩⟩, True.intro⟩, True.intro⟩, True.intro⟩⟩, True.intro⟩, ⟨True.intro, True.intro⟩⟩⟩⟩⟩⟩⟩)
  have D_letters : DnK P w K mg base 1 "letters" (sp_letters K) := dn_of F_letters X G bl (b_letters K) sc_letters (m_letters K) (fun _ _ _ _ _ _ us hl => by1 (Z := fun us => bindArgs _ ⟨us, []⟩ = pure (List.zip _ us)) (fun _ => by exact rfl) us hl) l_letters t_letters (fun A hr => ⟨⟨(gc_at X G k_LETTERS), True.intro, True.intro⟩, True.intro⟩)
  have D_letters_in : DnK P w K mg base 1 "letters_in" (sp_letters_in K) := dn_of F_letters_in X G bl (b_letters_in K) sc_letters_in (m_letters_in K) (fun _ _ _ _ _ _ us hl => by1 (Z := fun us => bindArgs _ ⟨us, []⟩ = pure (List.zip _ us)) (fun _ => by exact rfl) us hl) l_letters_in t_letters_in (fun A hr => ⟨⟨True.intro, ⟨⟨⟨True.intro, True.intro⟩, True.intro⟩, True.intro⟩⟩, True.intro⟩)
  have D_words_by_letter : DnK P w K mg base 2 "words_by_letter" (sp_words_by_letter K) := dn_of F_words_by_letter X G bl (b_words_by_letter K) sc_words_by_letter (m_words_by_letter K) (fun _ _ _ _ _ _ us hl => by1 (Z := fun us => bindArgs _ ⟨us, []⟩ = pure (List.zip _ us)) (fun _ => by exact rfl) us hl) l_words_by_letter t_words_by_letter (fun A hr => ⟨⟨⟨D_letters.at hr (by decide), ⟨⟨True.intro, True.intro⟩, True.intro⟩⟩, ⟨True.intro, True.intro⟩⟩, True.intro⟩)
  have D_put : DnK P w K mg base 3 "put" (sp_put K) := dn_of F_put X G bl (b_put K) sc_put (m_put K) (fun _ _ _ _ _ _ us hl => by2 (Z := fun us => bindArgs _ ⟨us, []⟩ = pure (List.zip _ us)) (fun _ _ => by exact rfl) us hl) l_put t_put (fun A hr => ⟨⟨D_words_by_letter.at hr (by decide), ⟨True.intro, True.intro⟩⟩, ⟨⟨True.intro, ⟨⟨True.intro, ⟨True.intro, True.intro⟩, True.intro⟩, True.intro⟩⟩, True.intro⟩⟩)
  have D_mixes : DnK P w K mg base 4 "mixes" (sp_mixes K) := dn_of F_mixes X G bl (b_mixes K) sc_mixes (m_mixes K) (fun _ _ _ _ _ _ us hl => by1 (Z := fun us => bindArgs _ ⟨us, []⟩ = pure (List.zip _ us)) (fun _ => by exact rfl) us hl) l_mixes t_mixes (fun A hr => ⟨⟨D_letters.at hr (by decide), ⟨⟨True.intro, True.intro⟩, True.intro⟩⟩, ⟨⟨True.intro, True.intro⟩, ⟨⟨⟨(gc_at X G k_ENOUGH_TURNS), True.intro⟩, ⟨⟨True.intro, ⟨D_letters_in.at hr (by decide), ⟨⟨D_put.at hr (by decide), ⟨True.intro, ⟨True.intro, True.intro⟩⟩⟩, True.intro⟩⟩, True.intro⟩, True.intro⟩⟩, ⟨⟨⟨True.intro, ⟨True.intro, True.intro⟩, True.intro⟩, True.intro⟩, True.intro⟩⟩⟩⟩)
  have D_law_mixes : DnK P w K mg base 1 "_law_mixes" (sp_law_mixes K) := dn_of F_law_mixes X G bl (b_law_mixes K) sc_law_mixes (m_law_mixes K) (fun _ _ _ _ _ _ us hl => by1 (Z := fun us => bindArgs _ ⟨us, []⟩ = pure (List.zip _ us)) (fun _ => by exact rfl) us hl) l_law_mixes t_law_mixes (fun A hr => ⟨⟨True.intro, True.intro⟩, ⟨⟨⟨True.intro, True.intro⟩, ⟨True.intro, True.intro⟩, True.intro⟩, ⟨⟨⟨True.intro, True.intro⟩, ⟨True.intro, ⟨⟨True.intro, ⟨True.intro, ⟨⟨True.intro, ⟨⟨True.intro, ⟨True.intro, ⟨True.intro, ⟨True.intro, True.intro⟩⟩⟩⟩, True.intro⟩⟩, ⟨⟨True.intro, ⟨⟨⟨True.intro, True.intro⟩, True.intro⟩, True.intro⟩⟩, True.intro⟩⟩⟩⟩, ⟨True.intro, True.intro⟩⟩⟩⟩, ⟨⟨⟨True.intro, ⟨True.intro, True.intro⟩, True.intro⟩, ⟨⟨True.intro, True.intro⟩, True.intro⟩⟩, True.intro⟩⟩⟩⟩)
  exact ⟨⟨⟨⟨⟨⟨True.intro, True.intro⟩, ⟨True.intro, True.intro⟩⟩, True.intro⟩, True.intro⟩, ⟨⟨D_law_made.at hr (by decide), ⟨⟨True.intro, True.intro, ⟨True.intro, True.intro⟩⟩, ⟨⟨D_law_mixed.at hr (by decide), ⟨⟨D_law_cell.at hr (by decide), ⟨True.intro, ⟨True.intro, True.intro⟩⟩⟩, ⟨True.intro, True.intro⟩⟩⟩, True.intro⟩⟩⟩, ⟨⟨D_mixes.at hr (by decide), ⟨True.intro, True.intro⟩⟩, ⟨⟨⟨⟨True.intro, ⟨True.intro, True.intro⟩⟩, ⟨⟨True.intro, ⟨D_law_mixes.at hr (by decide), ⟨True.intro, True.intro⟩⟩⟩, True.intro⟩⟩, ⟨True.intro, True.intro⟩, True.intro⟩, True.intro⟩⟩⟩⟩, ⟨⟨⟨⟨D_mixes.at hr (by decide), ⟨⟨True.intro, ⟨True.intro, True.intro⟩⟩, True.intro⟩⟩, True.intro⟩, ⟨⟨⟨D_mixes.at hr (by decide), ⟨⟨True.intro, ⟨True.intro, True.intro⟩⟩, True.intro⟩⟩, True.intro⟩, ⟨⟨⟨D_mixes.at hr (by decide), ⟨⟨True.intro, True.intro⟩, True.intro⟩⟩, True.intro⟩, True.intro⟩⟩⟩, True.intro⟩⟩
end L2.Na.K41
open PySem PySem.W PyProof.Rows
set_option maxRecDepth 100000 in
set_option maxHeartbeats 0 in
theorem PySem.Challenge.cw_neveragain_k41_mixes_holds : PySem.Challenge.rw_neveragain_k41_mixes.Holds := by
  w_on; o_law; k_head; (case hw => w_witness2)
  k_fill
  refine L2.Na.law_of (l := PySem.Challenge.rw_neveragain_k41_mixes) (k := 4) (x := "_law_script") (sp := L2.Na.K41.sp_law) rfl rfl ⟨rfl, by decide, by decide⟩ (fun w h Y => PySem.W.kIn_of Y) rfl L2.Na.K41.b_law L2.Na.K41.sc_law L2.Na.K41.m_law (fun _ _ _ _ _ _ _ => rfl) (fun _ => L2.Na.K41.l_law) (fun _ => L2.Na.K41.t_law) ?F ?Q L2.Na.K41.s_law
  case F =>
    intro w h KX
    refine ⟨?a, ?b⟩
    case a =>
      refine' L2.Na.fd_mk ?a1 ?a2 ?a3 ?a4
      (case a1 => k_is); (case a2 => k_is); (case a3 => k_is); (case a4 => k_is)
    case b =>
      unfold L2.Na.blts
      refine ⟨?_, ?_, ?_, ?_, ?_, ?_, ?_, ?_, ?_, ?_, ?_, ?_, ?_, ?_, ?_, ?_, ?_, ?_, ?_, ?_, ?_, ?_, True.intro⟩ <;> k_is
  case Q =>
    intro w mg h base KX G bl A hr
    refine' L2.Na.K41.all_q KX G bl ?f0 ?f1 ?f2 ?f3 ?f4 ?f5 ?f6 ?f7 ?f8 ?f9 ?f10 ?f11 ?c0 ?c1 A hr
    case f0 =>
      refine' L2.Na.fd_mk ?a1 ?a2 ?a3 ?a4
      (case a1 => k_is); (case a2 => k_is); (case a3 => k_is); (case a4 => k_is)
    case f1 =>
      refine' L2.Na.fd_mk ?a1 ?a2 ?a3 ?a4
      (case a1 => k_is); (case a2 => k_is); (case a3 => k_is); (case a4 => k_is)
    case f2 =>
      refine' L2.Na.fd_mk ?a1 ?a2 ?a3 ?a4
      (case a1 => k_is); (case a2 => k_is); (case a3 => k_is); (case a4 => k_is)
    case f3 =>
      refine' L2.Na.fd_mk ?a1 ?a2 ?a3 ?a4
      (case a1 => k_is); (case a2 => k_is); (case a3 => k_is); (case a4 => k_is)
    case f4 =>
      refine' L2.Na.fd_mk ?a1 ?a2 ?a3 ?a4
      (case a1 => k_is); (case a2 => k_is); (case a3 => k_is); (case a4 => k_is)
    case f5 =>
      refine' L2.Na.fd_mk ?a1 ?a2 ?a3 ?a4
      (case a1 => k_is); (case a2 => k_is); (case a3 => k_is); (case a4 => k_is)
    case f6 =>
      refine' L2.Na.fd_mk ?a1 ?a2 ?a3 ?a4
      (case a1 => k_is); (case a2 => k_is); (case a3 => k_is); (case a4 => k_is)
    case f7 =>
      refine' L2.Na.fd_mk ?a1 ?a2 ?a3 ?a4
      (case a1 => k_is); (case a2 => k_is); (case a3 => k_is); (case a4 => k_is)
    case f8 =>
      refine' L2.Na.fd_mk ?a1 ?a2 ?a3 ?a4
      (case a1 => k_is); (case a2 => k_is); (case a3 => k_is); (case a4 => k_is)
    case f9 =>
      refine' L2.Na.fd_mk ?a1 ?a2 ?a3 ?a4
      (case a1 => k_is); (case a2 => k_is); (case a3 => k_is); (case a4 => k_is)
    case f10 =>
      refine' L2.Na.fd_mk ?a1 ?a2 ?a3 ?a4
      (case a1 => k_is); (case a2 => k_is); (case a3 => k_is); (case a4 => k_is)
    case f11 =>
      refine' L2.Na.fd_mk ?a1 ?a2 ?a3 ?a4
      (case a1 => k_is); (case a2 => k_is); (case a3 => k_is); (case a4 => k_is)
    case c0 =>
      refine' L2.Na.gc_int ?a1
      (case a1 => k_is)
    case c1 =>
      refine' L2.Na.gc_str ?a1
      (case a1 => k_is)
#print axioms PySem.Challenge.cw_neveragain_k41_mixes_holds

