import PyProof.Rows.All
import Wide.All
import OpenK.AllK
import Wide.FinOn
import Lean
import PyProof.EqAt
import PyProof.EqKinds
import PyProof.TupleCall
import PyProof.AttrMissSeq
import KE.KDictOf
import PySem.Challenge.RW_neveragain_k72_whole_each_word_has_its_c
set_option genSizeOfSpec false
set_option Elab.async false
set_option linter.all false
set_option maxRecDepth 100000
set_option maxHeartbeats 4000000


namespace L2
open PySem PySem.Spec PyProof.Rows


noncomputable abbrev Key := Sum Int Str
noncomputable def keyIs : Key → Value → Bool
  | .inl k, v => Value.isInt k v
  | .inr x, v => Value.isStrOf x v
noncomputable def keyH (w : World) : Key → Int
  | .inl k => hashInt k
  | .inr x => hashStr w x
theorem keyIs_shape : ∀ {k : Key} {v : Value}, keyIs k v = true → (∃ i t, k = Sum.inl i ∧ v = Value.int i t) ∨ (∃ x t, k = Sum.inr x ∧ v = Value.str x t)
  | .inl i, v, h => by
    obtain ⟨t, e⟩ := Value.isInt_shape (k := i) (v := v) h
    exact .inl ⟨i, t, rfl, e⟩
  | .inr x, v, h => by
    obtain ⟨t, e⟩ := Value.isStrOf_shape (x := x) (v := v) h
    exact .inr ⟨x, t, rfl, e⟩
theorem keyIs_int (i : Int) (t : Tok) : keyIs (.inl i) (.int i t) = true := by simp [keyIs, Value.isInt]
theorem keyIs_str (x : Str) (t : Tok) : keyIs (.inr x) (.str x t) = true := by simp [keyIs, Value.isStrOf]
theorem key_ll (a b : Int) : decide ((Sum.inl a : Key) = Sum.inl b) = (a == b) := by
  by_cases e : a = b
  · subst e; simp
  · have h : ¬ (Sum.inl a : Key) = Sum.inl b := fun q => e (Sum.inl.inj q)
    rw [decide_eq_false h]
    exact (beq_eq_false_iff_ne.mpr e).symm
theorem key_rr (a b : Str) : decide ((Sum.inr a : Key) = Sum.inr b) = decide (a = b) := by
  by_cases e : a = b
  · subst e; simp
  · have h : ¬ (Sum.inr a : Key) = Sum.inr b := fun q => e (Sum.inr.inj q)
    rw [decide_eq_false h, decide_eq_false e]
theorem key_lr (a : Int) (b : Str) : decide ((Sum.inl a : Key) = Sum.inr b) = false := decide_eq_false (fun q => nomatch q)
theorem key_rl (a : Str) (b : Int) : decide ((Sum.inr a : Key) = Sum.inl b) = false := decide_eq_false (fun q => nomatch q)

noncomputable def mixKind (prog : Program) (w : World) : PySem.KeyKind prog w Key where
  is := keyIs
  hash := keyH w
  inj := fun v a b ha hb => by
    rcases keyIs_shape ha with ⟨i, t, rfl, rfl⟩ | ⟨x, t, rfl, rfl⟩
    · rcases keyIs_shape hb with ⟨j, u, rfl, e⟩ | ⟨y, u, rfl, e⟩
      · injection e with e1 _; rw [e1]
      · exact nomatch e
    · rcases keyIs_shape hb with ⟨j, u, rfl, e⟩ | ⟨y, u, rfl, e⟩
      · exact nomatch e
      · injection e with e1 _; rw [e1]
  byValue := fun k v h => by
    rcases keyIs_shape h with ⟨i, t, rfl, rfl⟩ | ⟨x, t, rfl, rfl⟩ <;> rfl
  pyHash := fun hv h => by
    rcases keyIs_shape hv with ⟨i, t, rfl, rfl⟩ | ⟨x, t, rfl, rfl⟩
    · exact wpAny_pyHash_int h
    · exact wpAny_pyHash_str h
  eqBool := fun hu hv h => by
    rcases keyIs_shape hu with ⟨i, t, rfl, rfl⟩ | ⟨x, t, rfl, rfl⟩
    · rcases keyIs_shape hv with ⟨j, u, rfl, rfl⟩ | ⟨y, u, rfl, rfl⟩
      · rw [key_ll] at h; exact wpAny_eqBool_int h
      · rw [key_lr] at h; exact SeqAt.EqAt.int_str i t y u _ _ _ _ h
    · rcases keyIs_shape hv with ⟨j, u, rfl, rfl⟩ | ⟨y, u, rfl, rfl⟩
      · rw [key_rl] at h; exact SeqAt.EqAt.str_int x t j u _ _ _ _ h
      · rw [key_rr] at h; exact wpAny_eqBool_str h
  «strs» := fun k x t v h => by
    rcases keyIs_shape h with ⟨i, u, rfl, e⟩ | ⟨y, u, rfl, e⟩
    · exact nomatch e
    · injection e with e1 _
      subst e1
      cases v <;> rfl

theorem mixKind_int (prog : Program) (w : World) (i : Int) (t : Tok) : (mixKind prog w).is (.inl i) (.int i t) = true := keyIs_int i t
theorem mixKind_str (prog : Program) (w : World) (x : Str) (t : Tok) : (mixKind prog w).is (.inr x) (.str x t) = true := keyIs_str x t
end L2

namespace L2
open PySem PySem.Spec PyProof.Rows


inductive V where
  | non | bl (b : Bool) | int (i : Int) | str (x : Str) | byt (b : Array UInt8) | flt (b : UInt64) | ref (a : Addr) | ty (n : String)
  deriving DecidableEq

noncomputable def RelV : V → Value → Prop
  | .non, u => u = Value.none
  | .bl b, u => u = Value.bool b
  | .int i, u => ∃ t, u = Value.int i t
  | .str x, u => ∃ t, u = Value.str x t
  | .byt b, u => ∃ t, u = Value.bytes b t
  | .flt b, u => ∃ t, u = Value.float b t
  | .ref a, u => u = Value.ref a
  | .ty n, u => u = Value.type n

noncomputable abbrev Vals : List V → List Value → Prop := Paired RelV
theorem Vals.length {xs : List V} {us : List Value} (r : Vals xs us) : xs.length = us.length := Paired.length r
theorem Vals.get : ∀ {xs : List V} {us : List Value} {i : Nat} {x : V}, Vals xs us → xs[i]? = some x → ∃ u, us[i]? = some u ∧ RelV x u
  | _, _, _, _, .nil, e => by simp at e
  | _, _, 0, _, .cons r _, e => by simp at e; subst e; exact ⟨_, rfl, r⟩
  | _, _, i + 1, x, .cons _ t, e => by
    obtain ⟨u, h1, h2⟩ := Vals.get (i := i) (x := x) t (by simpa using e)
    exact ⟨u, by simpa using h1, h2⟩
theorem Vals.set {x : V} {u : Value} (r : RelV x u) : ∀ {xs : List V} {us : List Value} (i : Nat), Vals xs us → Vals (xs.set i x) (us.set i u)
  | _, _, _, .nil => .nil
  | _, _, 0, .cons _ t => .cons r t
  | _, _, i + 1, .cons q t => .cons q (Vals.set r i t)
theorem Vals.append : ∀ {xs ys : List V} {us ws : List Value}, Vals xs us → Vals ys ws → Vals (xs ++ ys) (us ++ ws)
  | _, _, _, _, .nil, s => s
  | _, _, _, _, .cons r t, s => .cons r (Vals.append t s)
theorem Vals.take : ∀ {xs : List V} {us : List Value} (n : Nat), Vals xs us → Vals (xs.take n) (us.take n)
  | _, _, 0, _ => .nil
  | _, _, _ + 1, .nil => .nil
  | _, _, n + 1, .cons r t => .cons r (Vals.take n t)
theorem Vals.drop : ∀ {xs : List V} {us : List Value} (n : Nat), Vals xs us → Vals (xs.drop n) (us.drop n)
  | _, _, 0, r => r
  | _, _, _ + 1, .nil => .nil
  | _, _, n + 1, .cons _ t => Vals.drop n t
theorem Vals.none_of : ∀ {xs : List V} {us : List Value} {i : Nat}, Vals xs us → xs[i]? = none → us[i]? = none := fun {xs us i} r e => by
  have h1 := r.length
  have h2 : xs.length ≤ i := List.getElem?_eq_none_iff.mp e
  exact List.getElem?_eq_none_iff.mpr (by omega)

noncomputable def RelO : Option V → Option Value → Prop
  | some v, some u => RelV v u
  | none, none => True
  | _, _ => False
noncomputable def KV {κ : Type} : List (κ × V) → List (κ × Value) → Prop := Paired fun (p : κ × V) (q : κ × Value) => p.1 = q.1 ∧ RelV p.2 q.2


noncomputable def kV : Key → V
  | .inl i => .int i
  | .inr x => .str x


inductive HO where
  
  | lst (xs : List V)
  
  | tup (xs : List V)
  
  | dK (kvs : List (Key × V)) | dT (kvs : List (List Key × V))
  
  | set (S : Int → Bool) (n : Nat)
  
  | ins (C dx : Addr) (fs : List (Str × V))
  
  | own (x : Addr)
  
  | xd (fs : List (Str × V))
  
  | met (f x : Addr)
  
  | rng (lo hi : Int)
  
  | frz (o : Obj) (u : HO)
  
  | tbl (ps : Array Value)
  
  | ext (φ : Heap → Prop)

noncomputable abbrev Hp := Addr → Option HO
noncomputable def upd (H : Hp) (a : Addr) (o : HO) : Hp := fun b => if b = a then some o else H b
theorem upd_same {H : Hp} {a : Addr} {o : HO} : upd H a o a = some o := by unfold upd; rw [if_pos rfl]
theorem upd_ne {H : Hp} {a b : Addr} {o : HO} (h : b ≠ a) : upd H a o b = H b := by unfold upd; rw [if_neg h]
theorem upd_upd {H : Hp} {a : Addr} {o u : HO} : upd (upd H a o) a u = upd H a u := by
  funext b; unfold upd; split <;> rfl

theorem ne_of {H : Hp} {a b : Addr} {o u : HO} (h : H a = some o) (h' : H b = some u) (d : o ≠ u) : a ≠ b := by
  intro e; subst e; rw [h] at h'; exact d (Option.some.inj h')
theorem ne_of_none {H : Hp} {a b : Addr} {o : HO} (h : H a = some o) (h' : H b = none) : a ≠ b := by
  intro e; subst e; rw [h] at h'; cases h'

section
variable (P : Program) (w : World)
noncomputable def ObjOk (H : Hp) (h : Heap) (a : Addr) : HO → Prop
  | .lst xs => xs.length ≤ sizeLine ∧ ∃ (its : List Value) (n : Nat), Vals xs its ∧ h.get? a = some { cls := .type "list", data := .seq its.toArray n }
  | .tup xs => xs.length ≤ sizeLine ∧ ∃ its : List Value, Vals xs its ∧ IsTup h a its.toArray
  | .dK kvs => kvs.length ≤ sizeLine ∧ (a == sysModules) = false ∧ ∃ vs, KV kvs vs ∧ h.DictOf (mixKind P w) a vs
  | .dT kvs => kvs.length ≤ sizeLine ∧ (a == sysModules) = false ∧ ∃ xs : List (List Key × Addr × Value),
      Paired (fun (p : List Key × V) (q : List Key × Addr × Value) => p.1 = q.1 ∧ H q.2.1 = some (.tup (p.1.map kV)) ∧ RelV p.2 q.2.2) kvs xs ∧
      ∃ o es ep, h.get? a = some o ∧ o.ExactDict ∧ o.data = .dict es ep ∧ es.toList = xs.map (entryOfKey (tupleKind (mixKind P w))) ∧ (xs.map (·.1)).Nodup
  | .set S n => h.SetOf (intKind P w) a S n
  | .ins C dx fs => H dx = some (.own a) ∧ fs.length ≤ 1000 ∧ dx ≠ a ∧ h.get? a = some (PySem.W.instObj C dx) ∧
      ∃ mA, h.Ns1 dx mA ∧ (∀ f, RelO (fs.lookup f) (mA f)) ∧ PySem.Within mA (fs.map (·.1))
  | .own _ => ∃ o, h.get? a = some o
  | .xd fs => ∃ mA, h.Ns1 a mA ∧ ∀ f, RelO (fs.lookup f) (mA f)
  | .rng lo hi => ∃ t u v, h.get? a = some { cls := .type "range", data := .fields #[.int lo t, .int hi u, .int 1 v] }
  | .frz o u => h.get? a = some o ∧ ObjOk H h a u
  | .tbl ps => h.get? a = some { cls := .none, data := .fields ps }
  | .met f x => h.get? a = some (PySem.W.methodObj (.ref f) (.ref x))
  | .ext φ => φ h ∧ (∃ o, h.get? a = some o) ∧ ∀ h1 h2 : Heap, φ h1 → (∀ o, h1.get? a = some o → h2.get? a = some o) → φ h2

noncomputable def HOk (H : Hp) (h : Heap) : Prop := ∀ a o, H a = some o → ObjOk P w H h a o
end

section
variable {P : Program} {w : World} {H H' : Hp} {h h' : Heap} {a : Addr} {o : HO}
theorem ObjOk.lt (x : ObjOk P w H h a o) : a < h.objs.size := by
  cases o with
  | lst xs => obtain ⟨_, _, _, _, e⟩ := x; exact Heap.lt_size e
  | tup xs => obtain ⟨_, _, _, p⟩ := x; exact p.lt
  | dK kvs => obtain ⟨_, _, _, _, o, _, _, e, _⟩ := x; exact Heap.lt_size e
  | dT kvs => obtain ⟨_, _, _, _, o, _, _, e, _⟩ := x; exact Heap.lt_size e
  | set S n => obtain ⟨o, _, _, _, e, _⟩ := x; exact Heap.lt_size e
  | ins C dx fs => obtain ⟨_, _, _, e, _⟩ := x; exact Heap.lt_size e
  | own y => obtain ⟨_, e⟩ := x; exact Heap.lt_size e
  | xd fs => obtain ⟨_, ⟨_, _, _, e, _⟩, _⟩ := x; exact Heap.lt_size e
  | rng lo hi => obtain ⟨_, _, _, e⟩ := x; exact Heap.lt_size e
  | frz ob u => obtain ⟨e, _⟩ := x; exact Heap.lt_size e
  | tbl ps => exact Heap.lt_size (show h.get? a = some _ from x)
  | met f y => exact Heap.lt_size (show h.get? a = some _ from x)
  | ext φ => obtain ⟨_, ⟨_, e⟩, _⟩ := x; exact Heap.lt_size e
theorem Paired.mapP {α β : Type} {F G : α → β → Prop} : ∀ {l₁ : List α} {l₂ : List β}, Paired F l₁ l₂ → (∀ a b, F a b → G a b) → Paired G l₁ l₂
  | _, _, .nil, _ => .nil
  | _, _, .cons r t, f => .cons (f _ _ r) (Paired.mapP t f)

theorem ObjOk.stay (x : ObjOk P w H h a o) (k : ∀ b u, (b = a ∨ H b = some (.own a)) → h.get? b = some u → h'.get? b = some u)
    (ho : ∀ b, H b = some (.own a) → H' b = some (.own a)) (ht : ∀ b xs, H b = some (.tup xs) → H' b = some (.tup xs)) : ObjOk P w H' h' a o := by
  induction o with
  | lst xs => obtain ⟨z, its, n, r, e⟩ := x; exact ⟨z, its, n, r, k _ _ (.inl rfl) e⟩
  | tup xs => obtain ⟨z, its, r, ob, e, c⟩ := x; exact ⟨z, its, r, ob, k _ _ (.inl rfl) e, c⟩
  | dK kvs => obtain ⟨z, y, vs, r, ob, es, ep, e, c⟩ := x; exact ⟨z, y, vs, r, ob, es, ep, k _ _ (.inl rfl) e, c⟩
  | dT kvs =>
    obtain ⟨z, y, xs, r, ob, es, ep, e, c⟩ := x
    exact ⟨z, y, xs, Paired.mapP r fun p q z => ⟨z.1, ht _ _ z.2.1, z.2.2⟩, ob, es, ep, k _ _ (.inl rfl) e, c⟩
  | set S n => obtain ⟨ob, es, ep, t, e, c⟩ := x; exact ⟨ob, es, ep, t, k _ _ (.inl rfl) e, c⟩
  | ins C dx fs =>
    obtain ⟨d, z, ne, e, mA, ⟨od, es, ep, e2, c⟩, r⟩ := x
    exact ⟨ho _ d, z, ne, k _ _ (.inl rfl) e, mA, ⟨od, es, ep, k _ _ (.inr d) e2, c⟩, r⟩
  | own y => obtain ⟨ob, e⟩ := x; exact ⟨ob, k _ _ (.inl rfl) e⟩
  | xd fs => obtain ⟨mA, ⟨od, es, ep, e, c⟩, r⟩ := x; exact ⟨mA, ⟨od, es, ep, k _ _ (.inl rfl) e, c⟩, r⟩
  | rng lo hi => obtain ⟨t, u, v, e⟩ := x; exact ⟨t, u, v, k _ _ (.inl rfl) e⟩
  | frz ob u ih => obtain ⟨e, q⟩ := x; exact ⟨k _ _ (.inl rfl) e, ih q⟩
  | tbl ps =>
    have e : h.get? a = some { cls := .none, data := .fields ps } := x
    show h'.get? a = some { cls := .none, data := .fields ps }
    exact k a _ (.inl rfl) e
  | met f y =>
    have e : h.get? a = some (PySem.W.methodObj (.ref f) (.ref y)) := x
    show h'.get? a = some (PySem.W.methodObj (.ref f) (.ref y))
    exact k a _ (.inl rfl) e
  | ext φ => obtain ⟨p, ⟨o, e⟩, st⟩ := x; exact ⟨st _ _ p fun o q => k _ _ (.inl rfl) q, ⟨o, k _ _ (.inl rfl) e⟩, st⟩
theorem HOk.lt (x : HOk P w H h) (e : H a = some o) : a < h.objs.size := (x a o e).lt
theorem HOk.fresh (x : HOk P w H h) (e : h.objs.size ≤ a) : H a = none := by
  cases q : H a with
  | none => rfl
  | some u => exact absurd (Nat.lt_of_lt_of_le (x.lt q) e) (Nat.lt_irrefl _)

theorem HOk.kept (x : HOk P w H h) (k : ∀ b u, h.get? b = some u → h'.get? b = some u) : HOk P w H h' := fun a o e =>
  (x a o e).stay (fun b u _ q => k b u q) (fun _ q => q) fun _ _ q => q

theorem HOk.laid (x : HOk P w H h) (k : ∀ b u, h.get? b = some u → h'.get? b = some u) (hp : h.objs.size ≤ a) (new : ObjOk P w (upd H a o) h' a o) : HOk P w (upd H a o) h' := fun b u e => by
  have hn := x.fresh hp
  by_cases hb : b = a
  · subst hb; rw [upd_same] at e; cases e; exact new
  · rw [upd_ne hb] at e
    exact (x b u e).stay (fun c v _ q => k c v q) (fun c q => by rw [upd_ne (ne_of_none q hn)]; exact q) fun c xs q => by rw [upd_ne (ne_of_none q hn)]; exact q
end


noncomputable def Rd (H : Hp) (a : Addr) (u : HO) : Prop := H a = some u ∨ ∃ o, H a = some (.frz o u)
theorem Rd.of {H : Hp} {a : Addr} {u : HO} (h : H a = some u) : Rd H a u := .inl h
theorem Rd.ok {P : Program} {w : World} {H : Hp} {h : Heap} {a : Addr} {u : HO} (r : Rd H a u) (x : HOk P w H h) : ObjOk P w H h a u := by
  rcases r with r | ⟨o, r⟩
  · exact x a u r
  · obtain ⟨_, q⟩ := x a _ r
    exact q

noncomputable def Mut : Option HO → Prop
  | some (.lst _) => True
  | some (.dK _) => True
  | some (.dT _) => True
  | some (.set _ _) => True
  | some (.ins _ _ _) => True
  | some (.ext _) => True
  | _ => False
section
variable {P : Program} {w : World} {H : Hp} {h h' : Heap} {x e : Addr} {o' : HO}

theorem HOk.write (ok : HOk P w H h) (mu : Mut (H x)) (he : e = x ∨ H e = some (.own x)) (k : ∀ b u, b ≠ e → h.get? b = some u → h'.get? b = some u) (heo : ∃ u, h'.get? e = some u)
    (new : ObjOk P w (upd H x o') h' x o') : HOk P w (upd H x o') h' := fun b u q => by
  have nown : ∀ c y, H c = some (.own y) → c ≠ x := fun c y r z => by subst z; rw [r] at mu; exact mu
  have ntup : ∀ c xs, H c = some (.tup xs) → c ≠ x := fun c xs r z => by subst z; rw [r] at mu; exact mu
  by_cases hb : b = x
  · subst hb; rw [upd_same] at q; cases q; exact new
  · rw [upd_ne hb] at q
    by_cases hbe : b = e
    · have q' : H b = some (.own x) := by
        rcases he with z | z
        · exact absurd (hbe.trans z) hb
        · rw [hbe]; exact z
      rw [q] at q'; cases q'
      obtain ⟨v, hv⟩ := heo
      exact ⟨v, by rw [hbe]; exact hv⟩
    · refine (ok b u q).stay (fun c v hc r => k c v ?_ r) (fun c r => by rw [upd_ne (nown c b r)]; exact r) fun c xs r => by rw [upd_ne (ntup c xs r)]; exact r
      rcases hc with rfl | hc
      · exact hbe
      · rintro rfl
        rcases he with z | z
        · exact nown c b hc z
        · rw [hc] at z; cases z; exact hb rfl
end


structure Un (fs ex : List Addr) (H H' : Hp) (h h' : Heap) : Prop where
  keep : ∀ b o, h.get? b = some o → H b = none → b ∉ fs → b ∉ ex → h'.get? b = some o
  slot : ∀ b o, h.get? b = some o → H b = none → b ∈ fs → b ∉ ex → ∃ sl, h'.get? b = some { o with slots := sl }
  free : ∀ b o, h.get? b = some o → H b = none → b ∉ ex → H' b = none
  there : ∀ b o, h.get? b = some o → b ∉ ex → ∃ o', h'.get? b = some o'
  tups : ∀ b xs, H b = some (.tup xs) → H' b = some (.tup xs)
  frzs : ∀ b o u, H b = some (.frz o u) → H' b = some (.frz o u)
  tbls : ∀ b ps, H b = some (.tbl ps) → ∃ more, H' b = some (.tbl (ps ++ more))
section
variable {fs fs' ex ex' : List Addr} {H H1 H2 : Hp} {h h1 h2 h' : Heap} {a x e : Addr} {o : HO}
theorem Un.any (u : Un fs ex H H1 h h1) {b : Addr} {ob : Obj} (q : h.get? b = some ob) (n : H b = none) (hx : b ∉ ex) : ∃ sl, h1.get? b = some { ob with slots := sl } := by
  by_cases hb : b ∈ fs
  · exact u.slot b ob q n hb hx
  · exact ⟨ob.slots, u.keep b ob q n hb hx⟩
theorem Un.trans (a : Un fs ex H H1 h h1) (b : Un fs ex H1 H2 h1 h2) : Un fs ex H H2 h h2 where
  keep := fun c ob q n hc hx => b.keep c ob (a.keep c ob q n hc hx) (a.free c ob q n hx) hc hx
  slot := fun c ob q n hc hx => by
    obtain ⟨sl, e1⟩ := a.slot c ob q n hc hx
    obtain ⟨sl', e2⟩ := b.slot c _ e1 (a.free c ob q n hx) hc hx
    exact ⟨sl', e2⟩
  free := fun c ob q n hx => by
    obtain ⟨o', e1⟩ := a.there c ob q hx
    exact b.free c o' e1 (a.free c ob q n hx) hx
  there := fun c ob q hx => by
    obtain ⟨o', e1⟩ := a.there c ob q hx
    exact b.there c o' e1 hx
  tups := fun c xs q => b.tups c xs (a.tups c xs q)
  frzs := fun c ob xs q => b.frzs c ob xs (a.frzs c ob xs q)
  tbls := fun c ps q => by
    obtain ⟨m1, e1⟩ := a.tbls c ps q
    obtain ⟨m2, e2⟩ := b.tbls c _ e1
    exact ⟨m1 ++ m2, by rw [e2, Array.append_assoc]⟩
theorem Un.kept (k : ∀ b u, h.get? b = some u → h'.get? b = some u) : Un fs ex H H h h' :=
  ⟨fun b ob q _ _ _ => k b ob q, fun b ob q _ _ _ => ⟨ob.slots, k b ob q⟩, fun _ _ _ n _ => n, fun b ob q _ => ⟨ob, k b ob q⟩, fun _ _ q => q, fun _ _ _ q => q, fun _ ps q => ⟨#[], by rw [q]; simp⟩⟩
theorem Un.refl : Un fs ex H H h h := Un.kept fun _ _ q => q
theorem Un.laid (k : ∀ b u, h.get? b = some u → h'.get? b = some u) (hp : h.objs.size ≤ a) (hn : H a = none) : Un fs ex H (upd H a o) h h' where
  keep := fun b u q _ _ _ => k b u q
  slot := fun b u q _ _ _ => ⟨u.slots, k b u q⟩
  free := fun b u q n _ => by rw [upd_ne (Nat.ne_of_lt (Nat.lt_of_lt_of_le (Heap.lt_size q) hp))]; exact n
  there := fun b u q _ => ⟨u, k b u q⟩
  tups := fun b xs q => by rw [upd_ne (ne_of_none q hn)]; exact q
  frzs := fun b u xs q => by rw [upd_ne (ne_of_none q hn)]; exact q
  tbls := fun b ps q => ⟨#[], by rw [upd_ne (ne_of_none q hn), q]; simp⟩
theorem Un.write (mu : Mut (H x)) (he : e = x ∨ H e = some (.own x)) (k : ∀ b u, b ≠ e → h.get? b = some u → h'.get? b = some u) (heo : ∃ u, h'.get? e = some u) : Un fs ex H (upd H x o) h h' := by
  have hx : ∀ b, H b = none → b ≠ x := fun b n z => by subst z; rw [n] at mu; exact mu
  have hb : ∀ b, H b = none → b ≠ e := fun b n z => by
    subst z
    rcases he with r | r
    · exact hx b n r
    · rw [n] at r; cases r
  have hm : ∀ b u, H b = some u → ¬ Mut (some u) → b ≠ x := fun b u q nm z => by subst z; rw [q] at mu; exact nm mu
  refine ⟨fun b u q n _ _ => k b u (hb b n) q, fun b u q n _ _ => ⟨u.slots, k b u (hb b n) q⟩, fun b u q n _ => by rw [upd_ne (hx b n)]; exact n, fun b u q _ => ?_,
    fun b xs q => by rw [upd_ne (hm b _ q fun z => z)]; exact q, fun b u xs q => by rw [upd_ne (hm b _ q fun z => z)]; exact q, fun b ps q => ⟨#[], by rw [upd_ne (hm b _ q fun z => z), q]; simp⟩⟩
  by_cases hbe : b = e
  · subst hbe; exact heo
  · exact ⟨u, k b u hbe q⟩
theorem Un.mono (u : Un fs ex H H1 h h1) (hs : ∀ b ∈ fs, b ∈ fs') (hx : ∀ b ∈ ex, b ∈ ex') : Un fs' ex' H H1 h h1 :=
  ⟨fun b ob q n hb he => u.keep b ob q n (fun z => hb (hs b z)) fun z => he (hx b z), fun _ _ q n _ he => u.any q n fun z => he (hx _ z), fun b ob q n he => u.free b ob q n fun z => he (hx b z), fun b ob q he => u.there b ob q fun z => he (hx b z), u.tups, u.frzs, u.tbls⟩
end


noncomputable def trk (h : Heap) (H : Hp) : List Addr := (List.range h.objs.size).filter fun a => (H a).isSome
noncomputable def hidT (h : Heap) (H : Hp) : Heap := PySem.W.hideAll h (trk h H)
theorem hidT_size (h : Heap) (H : Hp) : (hidT h H).objs.size = h.objs.size := PySem.W.hideAll_size _ _
theorem hidT_get {h : Heap} {H : Hp} {b : Addr} {o : Obj} (e : h.get? b = some o) (n : H b = none) : (hidT h H).get? b = some o :=
  PySem.W.hideAll_get _ e fun hm => by
    have q : (H b).isSome = true := (List.mem_filter.mp hm).2
    rw [n] at q; simp at q
theorem of_hidT {h : Heap} {H : Hp} {b : Addr} {o : Obj} (e : (hidT h H).get? b = some o) : h.get? b = some o ∧ H b = none := by
  have e' : h.get? b = some o := PySem.W.of_hideAll (trk h H) e
  refine ⟨e', ?_⟩
  cases q : H b with
  | none => rfl
  | some x =>
    have hm : b ∈ trk h H := List.mem_filter.mpr ⟨List.mem_range.mpr (Heap.lt_size e'), by simp [q]⟩
    have z : (hidT h H).get? b = none := PySem.W.hideAll_none (trk h H) hm
    rw [z] at e; cases e


noncomputable def allNews (g h : Heap) (L : Addr) : List (Addr × Obj) := (List.range h.objs.size).filterMap fun a => if a = L ∨ (g.get? a).isSome = true then none else (h.get? a).map fun o => (a, o)
noncomputable def rest (g h : Heap) (L d : Addr) : List (Addr × Obj) := (allNews g h L).filter fun p => decide (p.1 ≠ d)
end L2

namespace L2
open PySem PySem.Spec PyProof.Rows


structure Mod (K : PySem.W.Frag) (mg : Str → Option Value) (base : Heap) : Prop where
  kin : K.In base
  glob : base.Ns mainGlobals mg
  blt : ∃ mb, base.Ns builtinsNs mb ∧ ∀ x : Str, x ≠ "__name__" → mb x = bootBuiltins x
  nolimit : base.NoLimit


structure Cx where
  prog : Program
  w : World
  K : PySem.W.Frag
  mg : Str → Option Value
  base : Heap
  A : Around
  N : List Str
  s₀ : Shared
  H₀ : Hp
  env : Env
  outer : List Env
  stack : List Env
  ex : List Addr
  fn : Str → Bool
  calm : Bool
  pn : List (Addr × Obj)
  xe : Value → Shared → Prop

noncomputable def frs (l : List Env) : List Addr := l.filterMap (·.frame)
noncomputable abbrev Cx.fs (X : Cx) : List Addr := frs X.outer

noncomputable def Vis (sc : Scope) (x : Str) : Prop := sc.names.lookup x = some .local ∨ sc.names.lookup x = some .cell ∨ sc.names.lookup x = some .free
noncomputable def Loc (sc : Scope) (x : Str) : Prop := sc.names.lookup x = some .local ∨ sc.names.lookup x = some .cell
noncomputable def Look (env : Env) (h : Heap) (m : Str → Option Value) (x : Str) (u : Value) : Prop :=
  (env.kindOf x = some .local ∧ m x = some u) ∨ ((env.kindOf x = some .cell ∨ env.kindOf x = some .free) ∧ ∃ c, env.cells.lookup x = some c ∧ h.IsCell c (some u))

structure Cx.Ok (X : Cx) : Prop where
  mod : Mod X.K X.mg X.base
  kind : X.env.scope.kind = .function
  glob : X.env.globals = mainGlobals
  blt : X.env.builtins = builtinsNs
  above : X.s₀.heap.objs.size ≤ X.env.locals
  inj : ∀ x y c, X.env.cells.lookup x = some c → X.env.cells.lookup y = some c → x = y
  has : ∀ x, (X.env.kindOf x = some .cell ∨ X.env.kindOf x = some .free) → ∃ c, X.env.cells.lookup x = some c
  cab : ∀ x c, X.fn x = true → X.env.cells.lookup x = some c → X.s₀.heap.objs.size ≤ c
  hd : X.calm = true → X.A.handled = none
  frames : X.A.frames = some X.stack
  stk : X.stack = X.outer ∨ (X.stack = X.env :: X.outer ∧ X.env.frame = some X.env.locals)
  exf : ∀ b ∈ X.ex, b ≠ X.env.locals ∧ ∀ x c, X.env.cells.lookup x = some c → c ≠ b
  bs : ∀ b o, X.base.get? b = some o → X.s₀.heap.get? b = some o ∧ X.H₀ b = none
  bsz : X.base.objs.size ≤ X.s₀.heap.objs.size
  noex : ∀ b o, X.base.get? b = some o → b ∉ X.ex
  exfs : ∀ b ∈ X.ex, b ∉ X.fs
  funs : X.s₀.heap.FunFrames X.base X.outer
  frf : ∀ b ∈ X.fs, X.H₀ b = none

structure Inv (X : Cx) (pins : List (Addr × Obj)) (σ : List (Option V)) (H : Hp) (s : Shared) : Prop where
  ok : X.Ok
  os : s.os = X.s₀.os
  bare : AllBare s.gens
  base : Un X.fs X.ex X.H₀ H X.s₀.heap s.heap
  loc : ∃ m, s.heap.Ns X.env.locals m ∧ ∀ (i : Nat) (x : Str) (v : V), X.N[i]? = some x → σ[i]? = some (some v) → Vis X.env.scope x → ∃ u, RelV v u ∧ Look X.env s.heap m x u
  cell : ∀ x c, X.env.cells.lookup x = some c → ∃ v, s.heap.IsCell c v
  free : H X.env.locals = none
  freeC : ∀ x c, X.env.cells.lookup x = some c → H c = none
  pin : ∀ p ∈ X.pn ++ pins, s.heap.get? p.1 = some p.2 ∧ H p.1 = none ∧ p.1 ≠ X.env.locals ∧ p.1 ∉ X.fs ∧ ∀ v, p.2.data ≠ .cell v
  hok : HOk X.prog X.w H s.heap
  len : σ.length = X.N.length

section
variable {X : Cx} {pins : List (Addr × Obj)} {σ : List (Option V)} {H H' : Hp} {s : Shared} {h' : Heap}

theorem Cx.Ok.nofr (ok : X.Ok) {b : Addr} {o : Obj} (e : X.base.get? b = some o) : b ∉ X.fs := fun hb => by
  have := (ok.funs.mem hb).1
  rw [e] at this; cases this
theorem Inv.bs (I : Inv X pins σ H s) : ∀ b o, X.base.get? b = some o → s.heap.get? b = some o ∧ H b = none := fun b o e =>
  ⟨I.base.keep b o (I.ok.bs b o e).1 (I.ok.bs b o e).2 (I.ok.nofr e) (I.ok.noex b o e), I.base.free b o (I.ok.bs b o e).1 (I.ok.bs b o e).2 (I.ok.noex b o e)⟩
theorem Inv.bk (I : Inv X pins σ H s) : ∀ b o, X.base.get? b = some o → s.heap.get? b = some o := fun b o e => (I.bs b o e).1
theorem Inv.mod (I : Inv X pins σ H s) : Mod X.K X.mg X.base := I.ok.mod
theorem Inv.kIn (I : Inv X pins σ H s) : X.K.In s.heap := I.ok.mod.kin.keeps I.bk
theorem Inv.nolimit (I : Inv X pins σ H s) : s.heap.NoLimit := I.ok.mod.nolimit.keeps I.bk

theorem Inv.fr (I : Inv X pins σ H s) : ∃ m, Fr X.base X.env.locals s.heap m :=
  let ⟨m, hn, _⟩ := I.loc
  ⟨m, hn, I.bk, Nat.le_trans I.ok.bsz I.ok.above⟩
theorem Inv.lt (I : Inv X pins σ H s) : X.env.locals < s.heap.objs.size := let ⟨_, hn, _⟩ := I.loc; hn.lt
theorem Inv.sz (I : Inv X pins σ H s) : X.s₀.heap.objs.size ≤ s.heap.objs.size := Nat.le_trans I.ok.above (Nat.le_of_lt I.lt)
theorem Inv.nofs (I : Inv X pins σ H s) {a : Addr} (h : s.heap.objs.size ≤ a) : a ∉ X.fs := fun hb => by
  obtain ⟨_, o, ho, _⟩ := I.ok.funs.mem hb
  exact absurd (Nat.lt_of_lt_of_le (Heap.lt_size ho) (Nat.le_trans I.sz h)) (Nat.lt_irrefl _)
theorem Inv.cne (I : Inv X pins σ H s) : ∀ x c, X.env.cells.lookup x = some c → c ≠ X.env.locals := fun x c e z => by
  obtain ⟨v, o, ho, hd⟩ := I.cell x c e
  obtain ⟨m, ⟨o', es, ep, ho', hd', _⟩, _⟩ := I.loc
  rw [z, ho'] at ho; cases ho; rw [hd'] at hd; cases hd
theorem Inv.funs (I : Inv X pins σ H s) : s.heap.FunFrames X.base X.outer := by
  have all : ∀ (l : List Env), (∀ b ∈ frs l, b ∈ X.fs) → X.s₀.heap.FunFrames X.base l → s.heap.FunFrames X.base l := by
    intro l
    induction l with
    | nil => intro _ _; trivial
    | cons env r ih =>
      intro hs hl
      obtain ⟨hk, ⟨L, o, hf, hn, ho, hd⟩, hr⟩ := hl
      have hL : L ∈ X.fs := hs L (by unfold frs; rw [List.filterMap_cons, hf]; exact List.mem_cons_self)
      obtain ⟨sl, e⟩ := I.base.slot L o ho (I.ok.frf L hL) hL fun z => I.ok.exfs L z hL
      exact ⟨hk, ⟨L, _, hf, hn, e, hd⟩, ih (fun b hb => hs b (by unfold frs; rw [List.filterMap_cons, hf]; exact List.mem_cons_of_mem _ hb)) hr⟩
  exact all X.outer (fun _ hb => hb) I.ok.funs


theorem Inv.stack (I : Inv X pins σ H s) : s.heap.FunFrames X.base X.stack := by
  rcases I.ok.stk with e | ⟨e, hf⟩
  · rw [e]; exact I.funs
  · rw [e]
    obtain ⟨m, hn, _⟩ := I.loc
    refine .cons (by rw [I.ok.kind]; decide) hf hn ?_ I.funs
    exact Heap.get?_none_of_le (Nat.le_trans I.ok.bsz I.ok.above)
theorem Inv.stkSub (I : Inv X pins σ H s) : ∀ b ∈ frs X.stack, b ∈ X.env.locals :: X.fs := fun b hb => by
  rcases I.ok.stk with e | ⟨e, hf⟩
  · rw [e] at hb; exact List.mem_cons_of_mem _ hb
  · rw [e] at hb
    unfold frs at hb
    rw [List.filterMap_cons, hf] at hb
    exact hb
theorem Inv.stkFree (I : Inv X pins σ H s) : ∀ b ∈ frs X.stack, H b = none := fun b hb => by
  rcases List.mem_cons.mp (I.stkSub b hb) with e | hb
  · rw [e]; exact I.free
  · obtain ⟨_, o, ho, _⟩ := I.ok.funs.mem hb
    exact I.base.free b o ho (I.ok.frf b hb) fun z => I.ok.exfs b z hb


theorem Inv.step {g' : Array GenState} {t' : Nat} {d' : Drawn} {ch : List Addr} (I : Inv X pins σ H s)
    (hch : ∀ b ∈ ch, (b ∈ X.ex ∨ X.s₀.heap.objs.size ≤ b) ∧ b ≠ X.env.locals ∧ (∀ x c, X.env.cells.lookup x = some c → c ≠ b) ∧ ∀ p ∈ X.pn ++ pins, p.1 ≠ b)
    (keep : ∀ b o, b ≠ X.env.locals → b ∉ X.fs → b ∉ ch → s.heap.get? b = some o → H b = none → h'.get? b = some o)
    (slot : ∀ b o, b ≠ X.env.locals → b ∈ X.fs → b ∉ ch → s.heap.get? b = some o → H b = none → ∃ sl, h'.get? b = some { o with slots := sl }) (free : ∀ b o, b ∉ ch → s.heap.get? b = some o → H b = none → H' b = none)
    (there : ∀ b o, b ∉ ch → s.heap.get? b = some o → ∃ o', h'.get? b = some o')
    (tups : ∀ b xs, H b = some (.tup xs) → H' b = some (.tup xs)) (frzs : ∀ b o u, H b = some (.frz o u) → H' b = some (.frz o u)) (tbls : ∀ b ps, H b = some (.tbl ps) → ∃ more, H' b = some (.tbl (ps ++ more)))
    (ns : ∀ m, s.heap.Ns X.env.locals m → h'.Ns X.env.locals m) (hok : HOk X.prog X.w H' h') (hg : AllBare g') :
    Inv X pins σ H' { s with heap := h', gens := g', drawn := d', toks := t' } := by
  have neL : ∀ b o, X.s₀.heap.get? b = some o → b ≠ X.env.locals := fun b o e => Nat.ne_of_lt (Nat.lt_of_lt_of_le (Heap.lt_size e) I.ok.above)
  have neC : ∀ b o, X.s₀.heap.get? b = some o → b ∉ X.ex → b ∉ ch := fun b o e hx hb => by
    rcases (hch b hb).1 with z | z
    · exact hx z
    · exact absurd (Nat.lt_of_lt_of_le (Heap.lt_size e) z) (Nat.lt_irrefl _)
  have cellK : ∀ x c, X.env.cells.lookup x = some c → ∀ v, s.heap.IsCell c v → h'.IsCell c v := fun x c e v ⟨o, ho, hd⟩ => by
    have nch : c ∉ ch := fun z => (hch c z).2.2.1 x c e rfl
    by_cases hc : c ∈ X.fs
    · obtain ⟨sl, q⟩ := slot c o (I.cne x c e) hc nch ho (I.freeC x c e)
      exact ⟨_, q, hd⟩
    · exact ⟨o, keep c o (I.cne x c e) hc nch ho (I.freeC x c e), hd⟩
  refine ⟨I.ok, I.os, hg, ⟨fun b o e n hb hx => ?_, fun b o e n hb hx => ?_, fun b o e n hx => ?_, fun b o e hx => ?_, fun b xs e => tups b xs (I.base.tups b xs e), fun b o xs e => frzs b o xs (I.base.frzs b o xs e), fun b ps e => ?_⟩, ?_, fun x c e => ?_, ?_, fun x c e => ?_, fun p hp => ?_, hok, I.len⟩
  · exact keep b o (neL b o e) hb (neC b o e hx) (I.base.keep b o e n hb hx) (I.base.free b o e n hx)
  · obtain ⟨sl, e1⟩ := I.base.slot b o e n hb hx
    obtain ⟨sl', e2⟩ := slot b _ (neL b o e) hb (neC b o e hx) e1 (I.base.free b o e n hx)
    exact ⟨sl', e2⟩
  · obtain ⟨o', e1⟩ := I.base.there b o e hx
    exact free b o' (neC b o e hx) e1 (I.base.free b o e n hx)
  · obtain ⟨o', e1⟩ := I.base.there b o e hx
    exact there b o' (neC b o e hx) e1
  · obtain ⟨m1, e1⟩ := I.base.tbls b ps e
    obtain ⟨m2, e2⟩ := tbls b _ e1
    exact ⟨m1 ++ m2, by rw [e2, Array.append_assoc]⟩
  · obtain ⟨m, hn, hl⟩ := I.loc
    refine ⟨m, ns m hn, fun i x v e1 e2 e3 => ?_⟩
    obtain ⟨u, r, l⟩ := hl i x v e1 e2 e3
    refine ⟨u, r, ?_⟩
    rcases l with l | ⟨k, c, e, z⟩
    · exact .inl l
    · exact .inr ⟨k, c, e, cellK x c e _ z⟩
  · obtain ⟨v, z⟩ := I.cell x c e
    exact ⟨v, cellK x c e v z⟩
  · obtain ⟨m, ⟨o, _, _, ho, _⟩, _⟩ := I.loc
    exact free _ o (fun z => (hch _ z).2.1 rfl) ho I.free
  · obtain ⟨v, o, ho, hd⟩ := I.cell x c e
    exact free c o (fun z => (hch c z).2.2.1 x c e rfl) ho (I.freeC x c e)
  · obtain ⟨e, n, ne, nf, d⟩ := I.pin p hp
    have nch : p.1 ∉ ch := fun z => (hch p.1 z).2.2.2 p hp rfl
    exact ⟨keep p.1 p.2 ne nf nch e n, free p.1 p.2 nch e n, ne, nf, d⟩

theorem Inv.un {t' : Nat} (I : Inv X pins σ H s) (u : Un X.fs [] H H' s.heap h') (hok : HOk X.prog X.w H' h') : Inv X pins σ H' { s with heap := h', toks := t' } := by
  obtain ⟨m, ⟨o, es, ep, ho, r⟩, _⟩ := id I.loc
  obtain ⟨sl, hL⟩ := u.any ho I.free (by simp)
  exact I.step (g' := s.gens) (d' := s.drawn) (ch := []) (fun _ z => nomatch z) (fun b o _ hb _ e n => u.keep b o e n hb (by simp)) (fun b o _ hb _ e n => u.slot b o e n hb (by simp)) (fun b o _ e n => u.free b o e n (by simp)) (fun b o _ e => u.there b o e (by simp)) u.tups u.frzs u.tbls (fun m' hm => by
    obtain ⟨o', es', ep', ho', r'⟩ := hm
    rw [ho] at ho'; cases ho'
    exact ⟨_, es', ep', hL, r'⟩) hok I.bare

theorem Inv.call {g' : Array GenState} {t' : Nat} {d' : Drawn} {ch : List Addr} (I : Inv X pins σ H s) (u : Un (frs X.stack) ch H H' s.heap h') (hok : HOk X.prog X.w H' h') (hg : AllBare g')
    (hch : ∀ b ∈ ch, (b ∈ X.ex ∨ X.s₀.heap.objs.size ≤ b) ∧ b ≠ X.env.locals ∧ (∀ x c, X.env.cells.lookup x = some c → c ≠ b) ∧ ∀ p ∈ X.pn ++ pins, p.1 ≠ b) :
    Inv X pins σ H' { s with heap := h', gens := g', drawn := d', toks := t' } := by
  obtain ⟨m, ⟨o, es, ep, ho, r⟩, _⟩ := id I.loc
  obtain ⟨sl, hL⟩ := u.any ho I.free fun z => (hch _ z).2.1 rfl
  exact I.step (ch := ch) hch (fun b o hL hb hc e n => u.keep b o e n (fun z => (List.mem_cons.mp (I.stkSub b z)).elim hL hb) hc) (fun b o _ _ hc e n => u.any e n hc) (fun b o hc e n => u.free b o e n hc) (fun b o hc e => u.there b o e hc) u.tups u.frzs u.tbls (fun m' hm => by
    obtain ⟨o', es', ep', ho', r'⟩ := hm
    rw [ho] at ho'; cases ho'
    exact ⟨_, es', ep', hL, r'⟩) hok hg

theorem Inv.turned {t' : Nat} {it : Addr} (I : Inv X pins σ H s) (k : ∀ b o, b ≠ it → s.heap.get? b = some o → h'.get? b = some o) (hn : H it = none) (hL : it ≠ X.env.locals)
    (h1 : it ∈ X.ex ∨ X.s₀.heap.objs.size ≤ it) (h2 : ∀ x c, X.env.cells.lookup x = some c → c ≠ it) (h3 : ∀ p ∈ X.pn ++ pins, p.1 ≠ it) : Inv X pins σ H { s with heap := h', toks := t' } := by
  have nit : ∀ b u, H b = some u → b ≠ it := fun b u e z => by rw [z, hn] at e; cases e
  refine I.step (g' := s.gens) (d' := s.drawn) (ch := [it]) (fun b hb => ?_) (fun b o _ _ hc e _ => k b o (fun z => hc (by simp [z])) e) (fun b o _ _ hc e _ => ⟨o.slots, k b o (fun z => hc (by simp [z])) e⟩) (fun _ _ _ _ n => n)
    (fun b o hc e => ⟨o, k b o (fun z => hc (by simp [z])) e⟩) (fun _ _ e => e) (fun _ _ _ e => e) (fun b ps e => ⟨#[], by rw [e]; simp⟩) (fun m hm => ?_) (fun b u e => ?_) I.bare
  · have e : b = it := by simpa using hb
    subst e
    exact ⟨h1, hL, h2, h3⟩
  · obtain ⟨o, es, ep, ho, r⟩ := hm
    exact ⟨o, es, ep, k _ o (Ne.symm hL) ho, r⟩
  · refine (I.hok b u e).stay (fun c v hc q => k c v ?_ q) (fun _ q => q) fun _ _ q => q
    rcases hc with z | z
    · rw [z]; exact nit b u e
    · exact nit c _ z
theorem Inv.tok (I : Inv X pins σ H s) (t : Nat) : Inv X pins σ H { s with toks := t } := I.un (h' := s.heap) (t' := t) Un.refl I.hok

theorem Inv.kept {t' : Nat} (I : Inv X pins σ H s) (k : ∀ b u, s.heap.get? b = some u → h'.get? b = some u) : Inv X pins σ H { s with heap := h', toks := t' } := I.un (Un.kept k) (I.hok.kept k)

theorem Inv.laid {a : Addr} {o : HO} {t' : Nat} (I : Inv X pins σ H s) (k : ∀ b u, s.heap.get? b = some u → h'.get? b = some u) (hp : s.heap.objs.size ≤ a) (new : ObjOk X.prog X.w (upd H a o) h' a o) :
    Inv X pins σ (upd H a o) { s with heap := h', toks := t' } := I.un (Un.laid k hp (I.hok.fresh hp)) (I.hok.laid k hp new)

theorem Inv.write {x e : Addr} {o : HO} {t' : Nat} (I : Inv X pins σ H s) (mu : Mut (H x)) (he : e = x ∨ H e = some (.own x)) (k : ∀ b u, b ≠ e → s.heap.get? b = some u → h'.get? b = some u) (heo : ∃ u, h'.get? e = some u)
    (new : ObjOk X.prog X.w (upd H x o) h' x o) : Inv X pins σ (upd H x o) { s with heap := h', toks := t' } := I.un (Un.write mu he k heo) (I.hok.write mu he k heo new)
theorem Inv.pins_of {pins' : List (Addr × Obj)} (I : Inv X pins σ H s) (h : ∀ p ∈ pins', s.heap.get? p.1 = some p.2 ∧ H p.1 = none ∧ p.1 ≠ X.env.locals ∧ p.1 ∉ X.fs ∧ ∀ v, p.2.data ≠ .cell v) : Inv X pins' σ H s :=
  ⟨I.ok, I.os, I.bare, I.base, I.loc, I.cell, I.free, I.freeC, fun p hp => (List.mem_append.mp hp).elim (fun z => I.pin p (List.mem_append_left _ z)) (h p), I.hok, I.len⟩

theorem nodup_ix {N : List Str} (hN : N.Nodup) {i j : Nat} {x : Str} (a : N[i]? = some x) (b : N[j]? = some x) : i = j := by
  obtain ⟨h1, e1⟩ := List.getElem?_eq_some_iff.mp a
  obtain ⟨h2, e2⟩ := List.getElem?_eq_some_iff.mp b
  exact (List.getElem_inj hN).mp (e1.trans e2.symm)


theorem store_ok2 {M : Model} {A : Around} {E : Value → Shared → Prop} {i : Nat} {x : Str} {v : V} {u : Value} {Q : Unit → Shared → Prop} (I : Inv X pins σ H s) (hN : X.N.Nodup) (hi : X.N[i]? = some x) (hx : Loc X.env.scope x) (r : RelV v u)
    (h : ∀ s', Inv X pins (σ.set i (some v)) H s' → (∃ a, Heap.SameBut a s.heap s'.heap ∧ (a = X.env.locals ∨ X.env.cells.lookup x = some a)) → Q () s') (hf : X.fn x = true ∨ X.env.scope.names.lookup x = some .local := by first | exact .inl rfl | exact .inr rfl | assumption) : wpAny M A (storeName X.env x u) Q E s := by
  obtain ⟨m, hn, hl⟩ := id I.loc
  have hcls : (X.env.scope.kind == .class || (X.env.scope.kind == .module && X.env.locals != X.env.globals)) = false := by rw [I.ok.kind]; rfl
  have hiσ : i < σ.length := by rw [I.len]; exact (List.getElem?_eq_some_iff.mp hi).1
  have cne := I.cne
  have tracked : ∀ {a : Addr} {h' : Heap}, (∃ o, s.heap.get? a = some o ∧ H a = none) → Heap.SameBut a s.heap h' → HOk X.prog X.w H h' := fun {a h'} ha hs b ob e => by
    obtain ⟨_, _, hfree⟩ := ha
    refine (I.hok b ob e).stay (fun c w' hc q => (hs.2 c ?_).trans q) (fun _ q => q) fun _ _ q => q
    rintro rfl
    rcases hc with rfl | hc
    · rw [hfree] at e; cases e
    · rw [hfree] at hc; cases hc
  rcases hx with hk | hk
  · refine wpAny_storeName_local hk hn (fun h' hn' hs => ?_) hcls
    obtain ⟨oL, _, _, hoL, _⟩ := id hn
    refine h _ ⟨I.ok, I.os, I.bare, ⟨fun b o e n hb hx => ?_, fun b o e n hb hx => ?_, I.base.free, fun b o e hx => ?_, I.base.tups, I.base.frzs, I.base.tbls⟩, ⟨_, hn', fun j y v' e1 e2 e3 => ?_⟩, fun y c e => ?_, I.free, I.freeC, fun p hp => ?_, tracked ⟨oL, hoL, I.free⟩ hs, by simpa using I.len⟩ ⟨_, hs, .inl rfl⟩
    · exact (hs.2 b (Nat.ne_of_lt (Nat.lt_of_lt_of_le (Heap.lt_size e) I.ok.above))).trans (I.base.keep b o e n hb hx)
    · obtain ⟨sl, e1⟩ := I.base.slot b o e n hb hx
      exact ⟨sl, (hs.2 b (Nat.ne_of_lt (Nat.lt_of_lt_of_le (Heap.lt_size e) I.ok.above))).trans e1⟩
    · obtain ⟨o', e1⟩ := I.base.there b o e hx
      exact ⟨o', (hs.2 b (Nat.ne_of_lt (Nat.lt_of_lt_of_le (Heap.lt_size e) I.ok.above))).trans e1⟩
    · by_cases hj : j = i
      · subst hj
        rw [hi] at e1; cases e1
        rw [List.getElem?_set_self hiσ] at e2
        cases e2
        exact ⟨u, r, .inl ⟨hk, by simp⟩⟩
      · rw [List.getElem?_set_ne (Ne.symm hj)] at e2
        obtain ⟨u', r', q⟩ := hl j y v' e1 e2 e3
        refine ⟨u', r', ?_⟩
        rcases q with ⟨k, e⟩ | ⟨k, c, e, z⟩
        · refine .inl ⟨k, ?_⟩
          have : y ≠ x := fun e => hj (nodup_ix hN e1 (e ▸ hi))
          simp [this, e]
        · exact .inr ⟨k, c, e, z.sameBut hs (cne y c e)⟩
    · obtain ⟨w', z⟩ := I.cell y c e
      exact ⟨w', z.sameBut hs (cne y c e)⟩
    · obtain ⟨e, n, ne, nf, d⟩ := I.pin p hp
      exact ⟨(hs.2 p.1 ne).trans e, n, ne, nf, d⟩
  · have hfn : X.fn x = true := by
      rcases hf with z | z
      · exact z
      · rw [z] at hk; cases hk
    obtain ⟨c, hc⟩ := I.ok.has x (.inl hk)
    obtain ⟨w', z⟩ := I.cell x c hc
    refine wpAny_storeName_cell I.ok.kind hk hc z (fun h' hc' hs => ?_)
    obtain ⟨oc, hoc, hocd⟩ := id z
    refine h { s with heap := h' } ⟨I.ok, I.os, I.bare, ⟨fun b o e n hb hx => ?_, fun b o e n hb hx => ?_, I.base.free, fun b o e hx => ?_, I.base.tups, I.base.frzs, I.base.tbls⟩, ⟨m, hn.sameBut hs (Ne.symm (cne x c hc)), fun j y v' e1 e2 e3 => ?_⟩, fun y c' e => ?_, I.free, I.freeC, fun p hp => ?_, tracked ⟨oc, hoc, I.freeC x c hc⟩ hs, by simpa using I.len⟩ ⟨c, hs, .inr hc⟩
    · exact (hs.2 b (Nat.ne_of_lt (Nat.lt_of_lt_of_le (Heap.lt_size e) (I.ok.cab x c hfn hc)))).trans (I.base.keep b o e n hb hx)
    · obtain ⟨sl, e1⟩ := I.base.slot b o e n hb hx
      exact ⟨sl, (hs.2 b (Nat.ne_of_lt (Nat.lt_of_lt_of_le (Heap.lt_size e) (I.ok.cab x c hfn hc)))).trans e1⟩
    · obtain ⟨o', e1⟩ := I.base.there b o e hx
      exact ⟨o', (hs.2 b (Nat.ne_of_lt (Nat.lt_of_lt_of_le (Heap.lt_size e) (I.ok.cab x c hfn hc)))).trans e1⟩
    · by_cases hj : j = i
      · subst hj
        rw [hi] at e1; cases e1
        rw [List.getElem?_set_self hiσ] at e2
        cases e2
        exact ⟨u, r, .inr ⟨.inl hk, c, hc, hc'⟩⟩
      · rw [List.getElem?_set_ne (Ne.symm hj)] at e2
        obtain ⟨u', r', q⟩ := hl j y v' e1 e2 e3
        refine ⟨u', r', ?_⟩
        rcases q with q | ⟨k, c', e, z'⟩
        · exact .inl q
        · refine .inr ⟨k, c', e, z'.sameBut hs ?_⟩
          rintro rfl
          exact hj (nodup_ix hN e1 (I.ok.inj _ _ _ e hc ▸ hi))
    · by_cases hcc : c' = c
      · subst hcc; exact ⟨_, hc'⟩
      · obtain ⟨w2, z2⟩ := I.cell y c' e
        exact ⟨w2, z2.sameBut hs hcc⟩
    · obtain ⟨e, n, ne, nf, d⟩ := I.pin p hp
      refine ⟨(hs.2 p.1 ?_).trans e, n, ne, nf, d⟩
      intro q
      rw [q, hoc] at e
      have q' : oc = p.2 := Option.some.inj e
      exact d w' (by rw [← q']; exact hocd)
theorem store_ok {M : Model} {A : Around} {E : Value → Shared → Prop} {i : Nat} {x : Str} {v : V} {u : Value} {Q : Unit → Shared → Prop} (I : Inv X pins σ H s) (hN : X.N.Nodup) (hi : X.N[i]? = some x) (hx : Loc X.env.scope x) (r : RelV v u)
    (h : ∀ s', Inv X pins (σ.set i (some v)) H s' → Q () s') (hf : X.fn x = true ∨ X.env.scope.names.lookup x = some .local := by first | exact .inl rfl | exact .inr rfl | assumption) : wpAny M A (storeName X.env x u) Q E s :=
  store_ok2 I hN hi hx r (fun s' I' _ => h s' I') hf

theorem Inv.call' {s' : Shared} {ch : List Addr} (I : Inv X pins σ H s) (ho : s'.os = s.os) (u : Un (frs X.stack) ch H H' s.heap s'.heap) (hok : HOk X.prog X.w H' s'.heap) (hg : AllBare s'.gens)
    (hch : ∀ b ∈ ch, (b ∈ X.ex ∨ X.s₀.heap.objs.size ≤ b) ∧ b ≠ X.env.locals ∧ (∀ x c, X.env.cells.lookup x = some c → c ≠ b) ∧ ∀ p ∈ X.pn ++ pins, p.1 ≠ b) : Inv X pins σ H' s' := by
  obtain ⟨h', g', d', t', o'⟩ := s'
  have e : o' = s.os := ho
  subst e
  exact I.call (g' := g') (t' := t') (d' := d') u hok hg hch
end



noncomputable abbrev XK := Value → Option Addr → Hp → Prop
noncomputable abbrev St := List (Option V)
noncomputable abbrev VK := V → Hp → Prop

noncomputable abbrev TE := St → Hp → VK → Prop
noncomputable abbrev TT := St → Hp → (Bool → Hp → Prop) → Prop
noncomputable abbrev TA := St → Hp → (List V → Hp → Prop) → Prop

structure Ends where
  nx : St → Hp → Prop
  rt : VK
  bk : St → Hp → Prop := fun _ _ => False
  ct : St → Hp → Prop := fun _ _ => False
noncomputable abbrev TS := Ends → St → Hp → Prop

noncomputable def EP (X : Cx) (pins : List (Addr × Obj)) (σ : St) (Q : VK) (u : Value) (s' : Shared) : Prop := ∃ v H', Inv X pins σ H' s' ∧ RelV v u ∧ Q v H'
noncomputable def TP (X : Cx) (pins : List (Addr × Obj)) (σ : St) (Q : Bool → Hp → Prop) (b : Bool) (s' : Shared) : Prop := ∃ H', Inv X pins σ H' s' ∧ Q b H'
noncomputable def AP (X : Cx) (pins : List (Addr × Obj)) (σ : St) (Q : List V → Hp → Prop) (us : List Value) (s' : Shared) : Prop := ∃ vs H', Inv X pins σ H' s' ∧ Vals vs us ∧ Q vs H'
noncomputable def SP (X : Cx) (pins : List (Addr × Obj)) (D : Ends) (f : Flow) (s' : Shared) : Prop :=
  match f with
  | .next => ∃ σ' H', Inv X pins σ' H' s' ∧ D.nx σ' H'
  | .brk => ∃ σ' H', Inv X pins σ' H' s' ∧ D.bk σ' H'
  | .cont => ∃ σ' H', Inv X pins σ' H' s' ∧ D.ct σ' H'
  | .ret u => ∃ v σ' H', Inv X pins σ' H' s' ∧ RelV v u ∧ D.rt v H'

noncomputable def PE (X : Cx) (e : Expr) (t : TE) : Prop :=
  ∀ (pins : List (Addr × Obj)) (s : Shared) (σ : St) (H : Hp) (Q : VK), Inv X pins σ H s → t σ H Q → wpAny (model X.prog X.w) X.A (eval e X.env) (EP X pins σ Q) X.xe s
noncomputable def PT (X : Cx) (e : Expr) (t : TT) : Prop :=
  ∀ (pins : List (Addr × Obj)) (s : Shared) (σ : St) (H : Hp) (Q : Bool → Hp → Prop), Inv X pins σ H s → t σ H Q → wpAny (model X.prog X.w) X.A (isTrue e X.env (eval e X.env)) (TP X pins σ Q) X.xe s

noncomputable def PW (X : Cx) (e : Expr) (t : TT) : Prop :=
  ∀ (whole : Sem Value) (pins : List (Addr × Obj)) (s : Shared) (σ : St) (H : Hp) (Q : Bool → Hp → Prop), Inv X pins σ H s → t σ H Q → wpAny (model X.prog X.w) X.A (isTrue e X.env whole) (TP X pins σ Q) X.xe s
theorem PW.pt {X : Cx} {e : Expr} {t : TT} (h : PW X e t) : PT X e t := h _

noncomputable def PA (X : Cx) (es : List Expr) (t : TA) : Prop :=
  ∀ (pos : Pos) (pins : List (Addr × Obj)) (s : Shared) (σ : St) (H : Hp) (Q : List V → Hp → Prop), Inv X pins σ H s → t σ H Q → wpAny (model X.prog X.w) X.A (spliced (backTo pos (starEach es X.env))) (AP X pins σ Q) X.xe s
noncomputable def PS (X : Cx) (st : Stmt) (t : TS) : Prop :=
  ∀ (pins : List (Addr × Obj)) (s : Shared) (σ : St) (H : Hp) (D : Ends), Inv X pins σ H s → t D σ H → wpAny (model X.prog X.w) X.A (exec st X.env) (SP X pins D) X.xe s
noncomputable def PSs (X : Cx) (st : List Stmt) (t : TS) : Prop :=
  ∀ (pins : List (Addr × Obj)) (s : Shared) (σ : St) (H : Hp) (D : Ends), Inv X pins σ H s → t D σ H → wpAny (model X.prog X.w) X.A (execs st X.env) (SP X pins D) X.xe s

theorem thn {α : Type} {t : Sem α} {Q Q' : α → Shared → Prop} {M : Model} {A : Around} {E : Value → Shared → Prop} {s : Shared} (h : wpAny M A t Q E s) (hQ : ∀ a s, Q a s → Q' a s) : wpAny M A t Q' E s := wpAny_mono h hQ fun _ _ x => x
end L2

namespace L2
open PySem PySem.Spec PyProof.Rows
section
variable {X : Cx}


theorem bin {a b : Expr} {ta tb : TE} (ha : PE X a ta) (hb : PE X b tb) {pins : List (Addr × Obj)} {s : Shared} {σ : St} {H : Hp} {R : V → V → Hp → Prop} (I : Inv X pins σ H s) (h : ta σ H fun x H1 => tb σ H1 fun y H2 => R x y H2)
    {α : Type} {Q : α → Shared → Prop} {f : Value → Value → Sem α}
    (hf : ∀ v u s2 x y H2, Inv X pins σ H2 s2 → RelV x v → RelV y u → R x y H2 → wpAny (model X.prog X.w) X.A (f v u) Q X.xe s2) :
    wpAny (model X.prog X.w) X.A (eval a X.env) (fun v s₁ => wpAny (model X.prog X.w) X.A (eval b X.env) (fun u s₂ => wpAny (model X.prog X.w) X.A (f v u) Q X.xe s₂) X.xe s₁) X.xe s := by
  refine thn (ha pins s σ H _ I h) fun v s1 ⟨x, H1, I1, r1, q1⟩ => ?_
  refine thn (hb pins s1 σ H1 _ I1 q1) fun u s2 ⟨y, H2, I2, r2, q2⟩ => ?_
  exact hf v u s2 x y H2 I2 r1 r2 q2


noncomputable def tVar (i : Nat) : TE := fun σ H Q => ∃ v, σ[i]? = some (some v) ∧ Q v H
noncomputable def tC (v : V) : TE := fun _ H Q => Q v H
theorem pe_var {i : Nat} {x : Str} {pos : Pos} (hN : X.N[i]? = some x) (hv : Vis X.env.scope x) (hd : (x == ("__debug__" : Str)) = false := by decide) (hcd : (x == ("__classdict__" : Str)) = false := by decide) : PE X (.Name x pos) (tVar i) := by
  intro pins s σ H Q I h
  obtain ⟨v, e, h⟩ := h
  obtain ⟨m, hn, hl⟩ := I.loc
  obtain ⟨u, r, l⟩ := hl i x v hN e hv
  have fin : EP X pins σ Q u s := ⟨v, H, I, r, h⟩
  rcases l with ⟨hk, hm⟩ | ⟨hk, c, hc, hcell⟩
  · exact wpAny_Name (wpAny_loadName_local I.ok.kind hk hn hm fin) hd
  · rcases hk with hk | hk
    · exact wpAny_Name (wpAny_loadName_cell I.ok.kind hk hc hcell fin) hd
    · exact wpAny_Name (wpAny_loadName_free I.ok.kind hk hc hcell fin hcd) hd
theorem pe_int {i j pos} : PE X (.Constant (.int i) j pos) (tC (.int i)) := fun _ _ _ H _ I h => wpAny_Constant_int ⟨.int i, H, I.tok _, ⟨_, rfl⟩, h⟩
theorem pe_bl {b j pos} : PE X (.Constant (.bool b) j pos) (tC (.bl b)) := fun _ _ _ H _ I h => Constant_bool ⟨.bl b, H, I, rfl, h⟩
theorem pe_non {j pos} : PE X (.Constant .none j pos) (tC .non) := fun _ _ _ H _ I h => Constant_none ⟨.non, H, I, rfl, h⟩
theorem pe_str {x j pos} : PE X (.Constant (.str x) j pos) (tC (.str x)) := fun _ _ _ H _ I h => Calls.Constant_str ⟨.str x, H, I.tok _, ⟨_, rfl⟩, h⟩


noncomputable def Gl (X : Cx) (x : Str) : Prop := X.env.kindOf x = some .globalImplicit
theorem ld_glob {E : Value → Shared → Prop} {pins : List (Addr × Obj)} {s : Shared} {σ : St} {H : Hp} {x : Str} {u : Value} {pos : Pos} {Q : Value → Shared → Prop} (I : Inv X pins σ H s) (hg : Gl X x) (hm : X.mg x = some u) (h : Q u s)
    (hd : (x == ("__debug__" : Str)) = false := by decide) : wpAny (model X.prog X.w) X.A (eval (.Name x pos) X.env) Q E s :=
  Calls.Name_function_global I.ok.kind hg (Calls.loadGlobal_global (by rw [I.ok.glob]; exact I.mod.glob.keeps I.bk) hm h) hd
theorem ld_blt {E : Value → Shared → Prop} {pins : List (Addr × Obj)} {s : Shared} {σ : St} {H : Hp} {x : Str} {u : Value} {pos : Pos} {Q : Value → Shared → Prop} (I : Inv X pins σ H s) (hg : Gl X x) (hm : X.mg x = none) (hv : bootBuiltins x = some u) (h : Q u s)
    (hn : x ≠ "__name__" := by decide) (hd : (x == ("__debug__" : Str)) = false := by decide) : wpAny (model X.prog X.w) X.A (eval (.Name x pos) X.env) Q E s := by
  obtain ⟨mb, h1, h2⟩ := I.mod.blt
  exact Calls.Name_function_global I.ok.kind hg (Calls.loadGlobal_builtin (by rw [I.ok.glob]; exact I.mod.glob.keeps I.bk) hm (by rw [I.ok.blt]; exact h1.keeps I.bk) ((h2 x hn).trans hv) h) hd

theorem pe_glob {x : Str} {v : V} {u : Value} {pos : Pos} (hg : Gl X x) (hm : X.mg x = some u) (r : RelV v u) (hd : (x == ("__debug__" : Str)) = false := by decide) : PE X (.Name x pos) (tC v) :=
  fun _ _ _ H _ I h => ld_glob I hg hm ⟨v, H, I, r, h⟩ hd
theorem pe_bltn {x : Str} {v : V} {u : Value} {pos : Pos} (hg : Gl X x) (hm : X.mg x = none) (hv : bootBuiltins x = some u) (r : RelV v u) (hn : x ≠ "__name__" := by decide) (hd : (x == ("__debug__" : Str)) = false := by decide) : PE X (.Name x pos) (tC v) :=
  fun _ _ _ H _ I h => ld_blt I hg hm hv ⟨v, H, I, r, h⟩ hn hd


variable {a b : Expr} {ta tb : TE} {pos : Pos}


variable {tA tB' : TT} {rest : List Expr}
noncomputable def tNot (t : TT) : TT := fun σ H Q => t σ H fun c H1 => Q (!c) H1
theorem pw_and1 (ha : PT X a tA) : PW X (.BoolOp .And [a] pos) tA := by
  intro wh pins s σ H Q I h
  refine isTrue_and (thn (ha pins s σ H Q I h) fun c s1 e => ?_)
  cases c with
  | true => exact isTrue_and_nil e
  | false => exact e
theorem pw_or1 (ha : PT X a tA) : PW X (.BoolOp .Or [a] pos) tA := by
  intro wh pins s σ H Q I h
  refine isTrue_or (thn (ha pins s σ H Q I h) fun c s1 e => ?_)
  cases c with
  | false => exact isTrue_or_nil e
  | true => exact e
theorem pt_not (ha : PT X a tA) : PT X (.UnaryOp .Not a pos) (tNot tA) := by
  intro pins s σ H Q I h
  exact isTrue_not (ha pins s σ H (fun c H1 => Q (!c) H1) I h)
theorem pe_one {op} {t : TE} (h : PE X a t) : PE X (.BoolOp op [a] pos) t := fun pins s σ H Q I hw => BoolOp_one (h pins s σ H Q I hw)
end
end L2

namespace L2
open PySem PySem.Spec PyProof.Rows


noncomputable def SqL (K : PySem.W.Frag) (H : Hp) (a : Addr) (xs : List V) : Prop :=
  Rd H a (.lst xs) ∨
    ∃ (o : Obj) (its : Array Value) (n : Nat), K.lookup a = some o ∧ o.cls = .type "list" ∧ o.dict = none ∧ o.data = .seq its n ∧ its.size ≤ sizeLine ∧ Vals xs its.toList
noncomputable def SqT (K : PySem.W.Frag) (H : Hp) (a : Addr) (xs : List V) : Prop :=
  Rd H a (.tup xs) ∨
    ∃ (o : Obj) (its : Array Value) (n : Nat), K.lookup a = some o ∧ o.cls = .type "tuple" ∧ o.data = .seq its n ∧ its.size ≤ sizeLine ∧ Vals xs its.toList
noncomputable def absV : Value → Option V
  | .none => some .non
  | .bool b => some (.bl b)
  | .int i _ => some (.int i)
  | .str x _ => some (.str x)
  | .bytes b _ => some (.byt b)
  | .float b _ => some (.flt b)
  | .ref a => some (.ref a)
  | .type n => some (.ty n)
  | _ => none
theorem RelV.abs {x : V} {u : Value} (r : RelV x u) : absV u = some x := by
  cases x with
  | non => cases r; rfl
  | bl _ => cases r; rfl
  | int _ => obtain ⟨t, rfl⟩ := r; rfl
  | str _ => obtain ⟨t, rfl⟩ := r; rfl
  | byt _ => obtain ⟨t, rfl⟩ := r; rfl
  | flt _ => obtain ⟨t, rfl⟩ := r; rfl
  | ref _ => cases r; rfl
  | ty _ => cases r; rfl
theorem RelV.inj {x y : V} {u : Value} (r : RelV x u) (q : RelV y u) : x = y := Option.some.inj (r.abs.symm.trans q.abs)
theorem Vals.inj : ∀ {xs ys : List V} {us : List Value}, Vals xs us → Vals ys us → xs = ys
  | _, _, _, .nil, .nil => rfl
  | _, _, _, .cons r t, .cons r' t' => by rw [r.inj r', Vals.inj t t']
section
variable {X : Cx} {pins : List (Addr × Obj)} {σ : St} {H : Hp} {s : Shared} {a : Addr} {xs ys : List V}
theorem SqL.of {K : PySem.W.Frag} (h : H a = some (.lst xs)) : SqL K H a xs := .inl (.inl h)
theorem SqT.of {K : PySem.W.Frag} (h : H a = some (.tup xs)) : SqT K H a xs := .inl (.inl h)
theorem Inv.list (I : Inv X pins σ H s) (h : SqL X.K H a xs) : ∃ its : List Value, Vals xs its ∧ PlainL s.heap a its.toArray ∧ xs.length ≤ sizeLine := by
  rcases h with h | ⟨o, its, n, hk, hc, hd, hs, hz, r⟩
  · obtain ⟨z, its, n, r, e⟩ := h.ok I.hok
    exact ⟨its, r, ⟨_, n, e, rfl, rfl, rfl⟩, z⟩
  · refine ⟨its.toList, r, ⟨o, n, I.kIn a o hk, hc, hd, by simpa using hs⟩, ?_⟩
    have e := r.length
    simp only [Array.length_toList] at e
    omega
theorem Inv.tuple (I : Inv X pins σ H s) (h : SqT X.K H a xs) : ∃ its : List Value, Vals xs its ∧ IsTup s.heap a its.toArray ∧ xs.length ≤ sizeLine := by
  rcases h with h | ⟨o, its, n, hk, hc, hs, hz, r⟩
  · obtain ⟨z, its, r, p⟩ := h.ok I.hok
    exact ⟨its, r, p, z⟩
  · refine ⟨its.toList, r, ⟨o, I.kIn a o hk, hc, n, by simpa using hs⟩, ?_⟩
    have e := r.length
    simp only [Array.length_toList] at e
    omega
theorem Inv.list_inj (I : Inv X pins σ H s) (h : SqL X.K H a xs) (h' : SqL X.K H a ys) : xs = ys := by
  obtain ⟨its, r, ⟨o, n, e, _, _, d⟩, _⟩ := I.list h
  obtain ⟨its', r', ⟨o', n', e', _, _, d'⟩, _⟩ := I.list h'
  rw [e] at e'; cases e'
  rw [d] at d'
  injection d' with d1 _
  have : its = its' := by simpa using congrArg Array.toList d1
  subst this
  exact r.inj r'
theorem Inv.tuple_inj (I : Inv X pins σ H s) (h : SqT X.K H a xs) (h' : SqT X.K H a ys) : xs = ys := by
  obtain ⟨its, r, ⟨o, e, _, n, d⟩, _⟩ := I.tuple h
  obtain ⟨its', r', ⟨o', e', _, n', d'⟩, _⟩ := I.tuple h'
  rw [e] at e'; cases e'
  rw [d] at d'
  injection d' with d1 _
  have : its = its' := by simpa using congrArg Array.toList d1
  subst this
  exact r.inj r'
end


noncomputable abbrev Cx.wish (X : Cx) (E : Value → Shared → Prop) : Cx := { X with xe := E }

noncomputable abbrev Cx.nox (X : Cx) : Cx := X.wish fun _ _ => False
theorem Cx.Ok.wish {X : Cx} (ok : X.Ok) (E : Value → Shared → Prop) : (X.wish E).Ok :=
  ⟨ok.mod, ok.kind, ok.glob, ok.blt, ok.above, ok.inj, ok.has, ok.cab, ok.hd, ok.frames, ok.stk, ok.exf, ok.bs, ok.bsz, ok.noex, ok.exfs, ok.funs, ok.frf⟩
theorem Cx.Ok.unwish {X : Cx} {E : Value → Shared → Prop} (ok : (X.wish E).Ok) : X.Ok :=
  ⟨ok.mod, ok.kind, ok.glob, ok.blt, ok.above, ok.inj, ok.has, ok.cab, ok.hd, ok.frames, ok.stk, ok.exf, ok.bs, ok.bsz, ok.noex, ok.exfs, ok.funs, ok.frf⟩
section
variable {X : Cx} {pins : List (Addr × Obj)} {σ : St} {H : Hp} {s : Shared} {E : Value → Shared → Prop}
theorem Inv.wish (I : Inv X pins σ H s) (E : Value → Shared → Prop) : Inv (X.wish E) pins σ H s := ⟨I.ok.wish E, I.os, I.bare, I.base, I.loc, I.cell, I.free, I.freeC, I.pin, I.hok, I.len⟩
theorem Inv.unwish (I : Inv (X.wish E) pins σ H s) : Inv X pins σ H s := ⟨I.ok.unwish, I.os, I.bare, I.base, I.loc, I.cell, I.free, I.freeC, I.pin, I.hok, I.len⟩
theorem SP.unwish {D : Ends} {f : Flow} {s' : Shared} (h : SP (X.wish E) pins D f s') : SP X pins D f s' := by
  cases f with
  | next => obtain ⟨σ', H', I, q⟩ := h; exact ⟨σ', H', I.unwish, q⟩
  | brk => obtain ⟨σ', H', I, q⟩ := h; exact ⟨σ', H', I.unwish, q⟩
  | cont => obtain ⟨σ', H', I, q⟩ := h; exact ⟨σ', H', I.unwish, q⟩
  | ret u => obtain ⟨v, σ', H', I, r, q⟩ := h; exact ⟨v, σ', H', I.unwish, r, q⟩
theorem PE.nox {e : Expr} {t : TE} (h : PE X.nox e t) : PE X e t := fun pins s σ H Q I hw =>
  wpAny_mono (h pins s σ H Q (I.wish _) hw) (fun _ _ ⟨v, H', I', r, q⟩ => ⟨v, H', I'.unwish, r, q⟩) fun _ _ z => False.elim z
theorem PT.nox {e : Expr} {t : TT} (h : PT X.nox e t) : PT X e t := fun pins s σ H Q I hw =>
  wpAny_mono (h pins s σ H Q (I.wish _) hw) (fun _ _ ⟨H', I', q⟩ => ⟨H', I'.unwish, q⟩) fun _ _ z => False.elim z
theorem PSs.nox {st : List Stmt} {t : TS} (h : PSs X.nox st t) : PSs X st t := fun pins s σ H D I hw =>
  wpAny_mono (h pins s σ H D (I.wish _) hw) (fun _ _ q => q.unwish) fun _ _ z => False.elim z
end


section
variable {X : Cx} {st : Stmt} {rest : List Stmt} {t u : TS} {e : Expr} {te : TE} {pos : Pos}
noncomputable def tNext : TS := fun D σ H => D.nx σ H
noncomputable def tSeq (t u : TS) : TS := fun D σ H => t { D with nx := u D } σ H
theorem pss_nil : PSs X [] tNext := fun _ _ σ H _ I h => wpAny_execs_nil ⟨σ, H, I, h⟩
theorem pss_cons (h1 : PS X st t) (h2 : PSs X rest u) : PSs X (st :: rest) (tSeq t u) := by
  intro pins s σ H D I h
  refine wpAny_execs_cons (thn (h1 pins s σ H { D with nx := u D } I h) fun f s1 q => ?_)
  cases f with
  | next =>
    obtain ⟨σ', H', I', q⟩ := q
    exact h2 pins s1 σ' H' D I' q
  | ret v => exact q
  | brk => exact q
  | cont => exact q

theorem Inv.quiet {pins : List (Addr × Obj)} {σ : St} {H : Hp} {s : Shared} (I : Inv X pins σ H s) : interactive X.env = false := by simp [interactive, I.ok.kind]

noncomputable def tDrop (te : TE) : TS := fun D σ H => te σ H fun _ H1 => D.nx σ H1
theorem ps_expr (he : PE X e te) (hs : swapsWith e none pos.line X.env = pure false := by rfl) : PS X (.Expr e pos) (tDrop te) := by
  intro pins s σ H D I h
  exact wpAny_Expr_any (thn (he pins s σ H _ I h) fun v s1 ⟨x, H1, I1, r1, q1⟩ => ⟨σ, H1, I1, q1⟩) I.quiet hs
noncomputable def tRet (te : TE) : TS := fun D σ H => te σ H D.rt
theorem ps_ret (he : PE X e te) : PS X (.Return (some e) pos) (tRet te) := by
  intro pins s σ H D I h
  exact wpAny_Return_some (thn (he pins s σ H _ I h) fun v s1 ⟨x, H1, I1, r1, q1⟩ => ⟨x, σ, H1, I1, r1, q1⟩)
end


noncomputable abbrev TG := V → St → Hp → (St → Hp → Prop) → Prop
noncomputable abbrev TGs := List V → St → Hp → (St → Hp → Prop) → Prop
noncomputable def PG (X : Cx) (target : Expr) (t : TG) : Prop :=
  ∀ (pins : List (Addr × Obj)) (s : Shared) (σ : St) (H : Hp) (v : V) (u : Value) (Q : St → Hp → Prop), Inv X pins σ H s → RelV v u → t v σ H Q →
    wpAny (model X.prog X.w) X.A (assign target X.env u) (fun _ s' => ∃ σ' H', Inv X pins σ' H' s' ∧ Q σ' H') X.xe s

noncomputable def PGs (X : Cx) (ts : List Expr) (t : TGs) : Prop :=
  ∀ (pins : List (Addr × Obj)) (s : Shared) (σ : St) (H : Hp) (vs : List V) (us : List Value) (Q : St → Hp → Prop), Inv X pins σ H s → Vals vs us → t vs σ H Q →
    wpAny (model X.prog X.w) X.A (assignInOrder ((assignEach ts X.env).map (·.2)) us) (fun _ s' => ∃ σ' H', Inv X pins σ' H' s' ∧ Q σ' H') X.xe s

noncomputable abbrev TSet := V → V → V → Hp → (Hp → Prop) → Prop
noncomputable def PSet (X : Cx) (t : TSet) : Prop :=
  ∀ (pins : List (Addr × Obj)) (s : Shared) (σ : St) (H : Hp) (o i v : V) (ov iv u : Value) (Q : Hp → Prop), Inv X pins σ H s → RelV o ov → RelV i iv → RelV v u → t o i v H Q →
    wpAny (model X.prog X.w) X.A (setItem ov iv u) (fun _ s' => ∃ H', Inv X pins σ H' s' ∧ Q H') X.xe s
section
variable {X : Cx} {pos : Pos}
noncomputable def gName (i : Nat) : TG := fun v σ H Q => Q (σ.set i (some v)) H
theorem pg_name {i : Nat} {x : Str} (hN : X.N.Nodup) (hi : X.N[i]? = some x) (hx : Loc X.env.scope x) (hf : X.fn x = true ∨ X.env.scope.names.lookup x = some .local := by first | exact .inl rfl | exact .inr rfl | assumption) : PG X (.Name x pos) (gName i) := by
  intro pins s σ H v u Q I r h
  exact wpAny_assign_Name (store_ok I hN hi hx r (fun s' I' => ⟨_, H, I', h⟩) hf)
noncomputable def gNil : TGs := fun vs σ H Q => vs = [] ∧ Q σ H
noncomputable def gCons (t : TG) (u : TGs) : TGs := fun vs σ H Q => ∃ v r, vs = v :: r ∧ t v σ H fun σ' H' => u r σ' H' Q
theorem pgs_nil : PGs X [] gNil := by
  intro pins s σ H vs us Q I r h
  obtain ⟨e, h⟩ := h
  subst e
  cases r
  exact assignInOrder_nil ⟨σ, H, I, h⟩
theorem pgs_cons {e : Expr} {es : List Expr} {t : TG} {u : TGs} (h1 : PG X e t) (h2 : PGs X es u)
    (hs : (assignEach (e :: es) X.env).map (·.2) = assign e X.env :: (assignEach es X.env).map (·.2) := by rfl) : PGs X (e :: es) (gCons t u) := by
  intro pins s σ H vs us Q I r h
  obtain ⟨v, vr, e1, h⟩ := h
  subst e1
  cases r with
  | cons r rr =>
    rw [hs]
    refine assignInOrder_cons (thn (h1 pins s σ H _ _ _ I r h) fun _ s1 ⟨σ1, H1, I1, q1⟩ => ?_)
    exact h2 pins s1 σ1 H1 _ _ Q I1 rr q1

noncomputable def gTup (K : PySem.W.Frag) (n : Nat) (t : TGs) : TG := fun v σ H Q => ∃ a xs, v = .ref a ∧ SqT K H a xs ∧ xs.length = n ∧ t xs σ H Q
theorem pg_tup {es : List Expr} {k : Nat} {t : TGs} {n : Nat} (hc : X.calm = true) (h : PGs X es t)
    (hn : (assignEach es X.env).length = n := by rfl) (hst : (assignEach es X.env).findIdx? (·.1) = none := by rfl) : PG X (.Tuple es k pos) (gTup X.K n t) := by
  intro pins s σ H v u Q I r hw
  obtain ⟨a, xs, e1, hq, hl, hw⟩ := hw
  subst e1
  cases r
  obtain ⟨its, rv, ht, hz⟩ := I.tuple hq
  refine assign_Tuple_tuple (I.ok.hd hc) ht (by simp [hn, ← hl, rv.length]) hst fun h' hx => ?_
  have I1 : Inv X pins σ H { s with heap := h' } := I.kept (t' := s.toks) fun b o e => hx b o (Nat.ne_of_lt (Heap.lt_size e)) e
  exact h pins _ σ H xs _ Q I1 (by simpa using rv) hw

noncomputable def gSub (to ti : TE) (t : TSet) : TG := fun v σ H Q => to σ H fun o H1 => ti σ H1 fun i H2 => t o i v H2 fun H3 => Q σ H3
theorem pg_sub {o i : Expr} {to ti : TE} {t : TSet} (ho : PE X o to) (hi : PE X i ti) (hs : PSet X t)
    (ha : ∀ v, assign (.Subscript o i pos) X.env v = (do
      let ov ← holding [v] (eval o X.env)
      let iv ← holding [v, ov] (eval i X.env)
      standAt pos
      holding [v, ov, iv] (setItem ov iv v)
      release [v, ov, iv] []) := by intro _; rfl) : PG X (.Subscript o i pos) (gSub to ti t) := by
  intro pins s σ H v u Q I r h
  rw [ha]
  refine wpAny_bind (wpAny_holding (thn (ho pins s σ H _ I h) fun ov s1 ⟨x, H1, I1, r1, q1⟩ => ?_))
  refine wpAny_bind (wpAny_holding (thn (hi pins s1 σ H1 _ I1 q1) fun iv s2 ⟨y, H2, I2, r2, q2⟩ => ?_))
  refine wpAny_bind (wpAny_standAt (wpAny_bind (wpAny_holding (thn (hs pins s2 σ H2 x y v ov iv u _ I2 r1 r2 r q2) fun _ s3 ⟨H3, I3, q3⟩ => ?_))))
  exact wpAny_release ⟨σ, H3, I3, q3⟩

noncomputable def tAsg (te : TE) (g : TG) : TS := fun D σ H => te σ H fun x H1 => g x σ H1 D.nx
theorem ps_asg {tg e : Expr} {te : TE} {g : TG} (he : PE X e te) (hg : PG X tg g) (hs : swapsWithSole [tg] e pos.line X.env = pure false := by rfl) (hw : swappedStores [tg] e X.env = pure none := by rfl)
    (h1 : (assignEach [tg] X.env).map (·.2) = [assign tg X.env] := by rfl) : PS X (.Assign [tg] e pos) (tAsg te g) := by
  intro pins s σ H D I h
  refine wpAny_Assign_stores (thn (he pins s σ H _ I h) fun v s1 ⟨x, H1, I1, r1, q1⟩ => ?_) hs hw
  rw [h1]
  exact thn (hg pins s1 σ H1 x v _ I1 r1 q1) fun _ s2 q => q

theorem ps_set {i : Nat} {x : Str} {e : Expr} {te : TE} {pos' : Pos} (hN : X.N.Nodup) (hi : X.N[i]? = some x) (hx : Loc X.env.scope x) (he : PE X e te) (hs : swapsWith e (some (.Name x pos')) pos.line X.env = pure false := by rfl) (hf : X.fn x = true ∨ X.env.scope.names.lookup x = some .local := by first | exact .inl rfl | exact .inr rfl | assumption) :
    PS X (.Assign [.Name x pos'] e pos) (tAsg te (gName i)) := by
  intro pins s σ H D I h
  refine wpAny_Assign_Name (thn (he pins s σ H _ I h) fun v s1 ⟨y, H1, I1, r1, q1⟩ => ?_) hs
  exact store_ok I1 hN hi hx r1 (fun s2 I2 => ⟨_, H1, I2, q1⟩) hf
end


section
variable {X : Cx} {pos : Pos}
end



structure It where
  go : Nat → Hp → Prop
  yld : Nat → Hp → V → Hp → Prop
  stop : Nat → Hp → Prop

noncomputable def FpOk (X : Cx) (pins : List (Addr × Obj)) (H : Hp) (b : Addr) : Prop :=
  H b = none ∧ b ≠ X.env.locals ∧ b ∉ X.fs ∧ (b ∈ X.ex ∨ X.s₀.heap.objs.size ≤ b) ∧ (∀ x c, X.env.cells.lookup x = some c → c ≠ b) ∧ ∀ p ∈ X.pn ++ pins, p.1 ≠ b
theorem Inv.fpOk {X : Cx} {pins : List (Addr × Obj)} {σ : St} {H H' : Hp} {s : Shared} {b : Addr} (I : Inv X pins σ H s) (hb : s.heap.objs.size ≤ b) (hn : H' b = none) : FpOk X pins H' b := by
  refine ⟨hn, Nat.ne_of_gt (Nat.lt_of_lt_of_le I.lt hb), I.nofs hb, .inr (Nat.le_trans I.sz hb), fun x c e z => ?_, fun p hp z => ?_⟩
  · obtain ⟨v, q⟩ := I.cell x c e
    exact absurd (Nat.lt_of_lt_of_le q.lt (by rw [z]; exact hb)) (Nat.lt_irrefl _)
  · exact absurd (Nat.lt_of_lt_of_le (Heap.lt_size (I.pin p hp).1) (by rw [z]; exact hb)) (Nat.lt_irrefl _)
structure Turn (P : Program) (w : World) (K : PySem.W.Frag) (tg : Expr) (J : It) (fp : List Addr) (it : Addr) (tn : Nat → Heap → Prop) : Prop where
  mem : it ∈ fp
  obj : ∀ i h, tn i h → ∀ b ∈ fp, ∃ o, h.get? b = some o ∧ ∀ v, o.data ≠ .cell v
  keep : ∀ i h h', tn i h → (∀ b ∈ fp, ∀ o, h.get? b = some o → h'.get? b = some o) → tn i h'
  item : ∀ (X : Cx), X.prog = P → X.w = w → X.K = K → X.calm = true → ∀ (i : Nat) (pins : List (Addr × Obj)) (s : Shared) (σ : St) (H : Hp) (E : Value → Shared → Prop), Inv X pins σ H s → (∀ b ∈ fp, FpOk X pins H b) → tn i s.heap → J.go i H →
    wpAny (model P w) X.A (pyNext (.ref it)) (fun r s1 => ∃ u, r = some u ∧
      wpAny (model P w) X.A (letOwnedTupleGo tg (.ref it) u) (fun _ s2 => ∃ x H', Inv X pins σ H' s2 ∧ RelV x u ∧ J.yld i H x H' ∧ tn (i + 1) s2.heap ∧ ∀ b ∈ fp, H' b = none) E s1) E s
  done : ∀ (X : Cx), X.prog = P → X.w = w → X.K = K → X.calm = true → ∀ (i : Nat) (pins : List (Addr × Obj)) (s : Shared) (σ : St) (H : Hp) (E : Value → Shared → Prop), Inv X pins σ H s → (∀ b ∈ fp, FpOk X pins H b) → tn i s.heap → J.stop i H →
    wpAny (model P w) X.A (pyNext (.ref it)) (fun r s1 => r = none ∧ Inv X pins σ H s1) E s
  self : ∀ (A : Around) (i : Nat) (s : Shared) (Q : Value → Shared → Prop) (E : Value → Shared → Prop), tn i s.heap → Q (.ref it) s → wpAny (model P w) A (pyIter (.ref it)) Q E s
noncomputable abbrev TI := St → Hp → (It → Hp → Prop) → Prop

noncomputable def PIE (X : Cx) (pins : List (Addr × Obj)) (σ : St) (tg : Expr) (R : It → Hp → Prop) (itv : Value) (s2 : Shared) : Prop :=
  ∃ (it : Addr) (fp : List Addr) (tn : Nat → Heap → Prop) (J : It) (H' : Hp), itv = .ref it ∧ Inv X pins σ H' s2 ∧ Turn X.prog X.w X.K tg J fp it tn ∧ tn 0 s2.heap ∧ (∀ b ∈ fp, FpOk X pins H' b) ∧ R J H'
noncomputable def PI (X : Cx) (tg iter : Expr) (wi : TI) : Prop :=
  ∀ (pins : List (Addr × Obj)) (s : Shared) (σ : St) (H : Hp) (R : It → Hp → Prop), Inv X pins σ H s → wi σ H R →
    wpAny (model X.prog X.w) X.A (eval iter X.env) (fun v s1 => wpAny (model X.prog X.w) X.A (pyIter v) (PIE X pins σ tg R) X.xe s1) X.xe s


theorem go_of {M : Model} {A : Around} {E : Value → Shared → Prop} {s : Shared} {tg : Expr} {it : Addr} {u : Value} {o : Obj} {n : String} {vs : Array Value} {Q : Unit → Shared → Prop} (ho : s.heap.get? it = some o) (hc : o.cls = .type n) (hd : o.data = .fields vs)
    (hn : ["enumerate", "zip", "dict_itemiterator", "dict_reverseitemiterator", "odict_iterator", "itertools.zip_longest", "itertools.pairwise"].contains n = false) (hQ : Q () s) : wpAny M A (letOwnedTupleGo tg (.ref it) u) Q E s := by
  unfold letOwnedTupleGo
  cases tg <;> first
    | exact wpAny_pure hQ
    | (cases u <;> first
        | exact wpAny_pure hQ
        | (refine wpAny_bind (wpAny_load ho ?_)
           rw [hc, hd]
           show wpAny M A (if (["enumerate", "zip", "dict_itemiterator", "dict_reverseitemiterator", "odict_iterator", "itertools.zip_longest", "itertools.pairwise"].contains n && vs[0]? == some (rawInt _)) = true then _ else _) Q E s
           rw [if_neg (by intro h; rw [hn, Bool.false_and] at h; cases h)]
           exact wpAny_pure hQ))


noncomputable def Itl (K : PySem.W.Frag) (a : Addr) : It :=
  ⟨fun i H => ∃ xs x, SqL K H a xs ∧ xs[i]? = some x, fun i H x H' => H' = H ∧ ∀ xs, SqL K H a xs → xs[i]? = some x, fun i H => ∃ xs, SqL K H a xs ∧ xs.length ≤ i⟩
noncomputable def Itt (K : PySem.W.Frag) (a : Addr) : It :=
  ⟨fun i H => ∃ xs x, SqT K H a xs ∧ xs[i]? = some x, fun i H x H' => H' = H ∧ ∀ xs, SqT K H a xs → xs[i]? = some x, fun i H => ∃ xs, SqT K H a xs ∧ xs.length ≤ i⟩

noncomputable def Itr (lo : Int) (n : Nat) : It := ⟨fun i _ => i < n, fun i H x H' => H' = H ∧ x = .int (lo + i), fun i _ => n ≤ i⟩
theorem turn_list {P : Program} {w : World} {K : PySem.W.Frag} {tg : Expr} (a it : Addr) : Turn P w K tg (Itl K a) [it] it (fun i h => h.IsListIter it a i) where
  mem := by simp
  obj := fun i h st b hb => by
    have e : b = it := by simpa using hb
    subst e
    obtain ⟨o, e, c, d⟩ := st
    exact ⟨o, e, fun v z => by rw [d] at z; cases z⟩
  keep := fun i h h' st k => st.at fun o e => k it (by simp) o e
  item := by
    intro X hP hw hK hc i pins s σ H E I hf st hg
    subst hP hw hK
    obtain ⟨xs, x, hq, hx⟩ := hg
    obtain ⟨its, rv, p, hz⟩ := I.list hq
    obtain ⟨u, hu, ru⟩ := rv.get hx
    obtain ⟨f0, f1, f2, f3, f4, f5⟩ := hf it (by simp)
    refine wpAny_pyNext_list_item st p.isList (x := u) (by simpa using hu) fun h' st' sb => ?_
    have I1 : Inv X pins σ H { s with heap := h' } := I.turned (t' := s.toks) (fun b o hb e => (sb.2 b hb).trans e) f0 f1 f3 f4 f5
    obtain ⟨o, e, c, d⟩ := id st'
    exact ⟨u, rfl, go_of (s := { s with heap := h' }) e c d (by decide) ⟨x, H, I1, ru, ⟨rfl, fun ys hy => by rw [I.list_inj hy hq]; exact hx⟩, st', fun b hb => (hf b hb).1⟩⟩
  done := by
    intro X hP hw hK hc i pins s σ H E I hf st hg
    subst hP hw hK
    obtain ⟨xs, hq, hx⟩ := hg
    obtain ⟨its, rv, p, hz⟩ := I.list hq
    obtain ⟨f0, f1, f2, f3, f4, f5⟩ := hf it (by simp)
    have hl := rv.length
    exact wpAny_pyNext_list_end (I.ok.hd hc) st p.isList (by simp; omega) fun h' eb => ⟨rfl, I.turned (t' := s.toks) (fun b o hb e => eb b o hb e) f0 f1 f3 f4 f5⟩
  self := fun _ _ _ _ _ st h => wpAny_pyIter_listiter st h
theorem turn_tuple {P : Program} {w : World} {K : PySem.W.Frag} {tg : Expr} (a it : Addr) : Turn P w K tg (Itt K a) [it] it (fun i h => h.IsTupleIter it a i) where
  mem := by simp
  obj := fun i h st b hb => by
    have e : b = it := by simpa using hb
    subst e
    obtain ⟨o, e, c, d⟩ := st
    exact ⟨o, e, fun v z => by rw [d] at z; cases z⟩
  keep := fun i h h' st k => st.at fun o e => k it (by simp) o e
  item := by
    intro X hP hw hK hc i pins s σ H E I hf st hg
    subst hP hw hK
    obtain ⟨xs, x, hq, hx⟩ := hg
    obtain ⟨its, rv, p, hz⟩ := I.tuple hq
    obtain ⟨u, hu, ru⟩ := rv.get hx
    obtain ⟨f0, f1, f2, f3, f4, f5⟩ := hf it (by simp)
    refine wpAny_pyNext_tuple_item st (show s.heap.IsTuple a its.toArray from p) (x := u) (by simpa using hu) fun h' st' sb => ?_
    have I1 : Inv X pins σ H { s with heap := h' } := I.turned (t' := s.toks) (fun b o hb e => (sb.2 b hb).trans e) f0 f1 f3 f4 f5
    obtain ⟨o, e, c, d⟩ := id st'
    exact ⟨u, rfl, go_of (s := { s with heap := h' }) e c d (by decide) ⟨x, H, I1, ru, ⟨rfl, fun ys hy => by rw [I.tuple_inj hy hq]; exact hx⟩, st', fun b hb => (hf b hb).1⟩⟩
  done := by
    intro X hP hw hK hc i pins s σ H E I hf st hg
    subst hP hw hK
    obtain ⟨xs, hq, hx⟩ := hg
    obtain ⟨its, rv, p, hz⟩ := I.tuple hq
    obtain ⟨f0, f1, f2, f3, f4, f5⟩ := hf it (by simp)
    have hl := rv.length
    exact wpAny_pyNext_tuple_end (I.ok.hd hc) st (show s.heap.IsTuple a its.toArray from p) (by simp; omega) fun h' eb => ⟨rfl, I.turned (t' := s.toks) (fun b o hb e => eb b o hb e) f0 f1 f3 f4 f5⟩
  self := fun _ _ _ _ _ st h => wpAny_pyIter_tupleiter st h
theorem turn_range {P : Program} {w : World} {K : PySem.W.Frag} {tg : Expr} (it : Addr) (lo : Int) (n : Nat) : Turn P w K tg (Itr lo n) [it] it (fun i h => IsRangeIter h it (lo + (i : Nat) * 1) ((n : Int) - (i : Nat)) 1) where
  mem := by simp
  obj := fun i h st b hb => by
    have e : b = it := by simpa using hb
    subst e
    exact ⟨_, st, fun v z => by
      have z' : Data.fields _ = Data.cell v := z
      cases z'⟩
  keep := fun i h h' st k => k it (by simp) _ st
  item := by
    intro X hP hw hK hc i pins s σ H E I hf st hg
    subst hP hw hK
    obtain ⟨f0, f1, f2, f3, f4, f5⟩ := hf it (by simp)
    have W := Walks.range (prog := X.prog) (w := X.w) (I.ok.hd hc) it lo 1 n
    refine W.item i s _ _ hg st fun v h' tk hv st' kk => ?_
    obtain ⟨t, rfl⟩ := hv
    have I1 : Inv X pins σ H { s with heap := h', toks := tk } := I.turned (fun b o hb e => kk b o (by simpa using hb) e) f0 f1 f3 f4 f5
    refine ⟨_, rfl, go_of (s := { s with heap := h', toks := tk }) (n := "range_iterator") st' rfl rfl (by decide) ⟨.int (lo + i), H, I1, ⟨t, ?_⟩, ⟨rfl, rfl⟩, st', fun b hb => (hf b hb).1⟩⟩
    rw [Int.mul_one]
  done := by
    intro X hP hw hK hc i pins s σ H E I hf st hg
    subst hP hw hK
    obtain ⟨f0, f1, f2, f3, f4, f5⟩ := hf it (by simp)
    exact wpAny_pyNext_range_end (I.ok.hd hc) st (by have : n ≤ i := hg; omega) fun h' eb => ⟨rfl, I.turned (t' := s.toks) (fun b o hb e => eb b o hb e) f0 f1 f3 f4 f5⟩
  self := fun _ _ _ _ _ st h => wpAny_pyIter_rangeiter st h
end L2

namespace L2
open PySem PySem.Spec PyProof.Rows
section
variable {X : Cx} {tg : Expr}

theorem range_it {pins : List (Addr × Obj)} {σ : St} {H : Hp} {s : Shared} {R : It → Hp → Prop} {E : Value → Shared → Prop} {lo hi : Int} {t u v : Tok} {tk : Nat} (I : Inv X pins σ H s) (h1 : -(2 ^ 62) ≤ lo) (h2 : lo < 2 ^ 62) (h3 : -(2 ^ 62) ≤ hi) (h4 : hi < 2 ^ 62)
    (q : R (Itr lo (hi - lo).toNat) H) : wpAny (model X.prog X.w) X.A (pyIter (.ref s.heap.objs.size)) (PIE X pins σ tg R) E { s with heap := s.heap.push { cls := .type "range", data := .fields #[.int lo t, .int hi u, .int 1 v] }, toks := tk } := by
  refine wpAny_pyIter_range (IsRange.new ..) (small_one h1 h2 h3 h4) ?_
  have I1 : Inv X pins σ H { s with heap := s.heap.push { cls := .type "range", data := .fields #[.int lo t, .int hi u, .int 1 v] }, toks := tk } := I.kept fun b o e => Heap.get?_push_of_some _ e
  refine ⟨(s.heap.push { cls := .type "range", data := .fields #[.int lo t, .int hi u, .int 1 v] }).objs.size, [(s.heap.push { cls := .type "range", data := .fields #[.int lo t, .int hi u, .int 1 v] }).objs.size], _, _, H, rfl,
    I1.kept (t' := tk) fun b o e => Heap.get?_push_of_some _ e, turn_range _ lo (hi - lo).toNat, ?_, fun b hb => ?_, q⟩
  · have e1 : lo + ((0 : Nat) : Int) * 1 = lo := by simp
    have e2 : (((hi - lo).toNat : Nat) : Int) - ((0 : Nat) : Int) = Builtin.Range.rangeSize lo hi 1 := by rw [rangeSize_one]; split <;> omega
    show IsRangeIter _ _ (lo + ((0 : Nat) : Int) * 1) ((((hi - lo).toNat : Nat) : Int) - ((0 : Nat) : Int)) 1
    rw [e1, e2]
    exact Heap.get?_push_size _ rfl
  · have e : b = (s.heap.push { cls := .type "range", data := .fields #[.int lo t, .int hi u, .int 1 v] }).objs.size := by simpa using hb
    subst e
    exact I1.fpOk (Nat.le_refl _) (I1.hok.fresh (Nat.le_refl _))


noncomputable def tFor (wi : TI) (g : TG) (tb : TS) : TS := fun D σ H => wi σ H fun J H1 => ∃ W : Nat → Nat → St → Hp → Prop, (∃ m, W 0 m σ H1) ∧ ∀ i m σ H, W i m σ H →
  (J.stop i H ∧ D.nx σ H) ∨ (J.go i H ∧ ∃ N : St → Hp → Prop, (∀ σ' H', N σ' H' → ∃ m', m' < m ∧ W (i + 1) m' σ' H') ∧ ∀ x H', J.yld i H x H' → g x σ H' fun σ2 H2 => tb { D with nx := N, ct := N, bk := D.nx } σ2 H2)

noncomputable def pinsAt (fp : List Addr) (h : Heap) : List (Addr × Obj) := fp.filterMap fun b => (h.get? b).map fun o => (b, o)
theorem mem_pinsAt {fp : List Addr} {h : Heap} {b : Addr} {o : Obj} (hb : b ∈ fp) (e : h.get? b = some o) : (b, o) ∈ pinsAt fp h := List.mem_filterMap.mpr ⟨b, hb, by rw [e]; rfl⟩
theorem of_pinsAt {fp : List Addr} {h : Heap} {p : Addr × Obj} (hp : p ∈ pinsAt fp h) : p.1 ∈ fp ∧ h.get? p.1 = some p.2 := by
  obtain ⟨b, hb, e⟩ := List.mem_filterMap.mp hp
  cases q : h.get? b with
  | none => rw [q] at e; cases e
  | some o =>
    rw [q] at e
    have e' : (b, o) = p := Option.some.inj e
    subst e'
    exact ⟨hb, q⟩
theorem Inv.pinned {pins : List (Addr × Obj)} {σ : St} {H : Hp} {s : Shared} {fp : List Addr} (I : Inv X pins σ H s) (hf : ∀ b ∈ fp, FpOk X pins H b) (ho : ∀ b ∈ fp, ∃ o, s.heap.get? b = some o ∧ ∀ v, o.data ≠ .cell v) : Inv X (pins ++ pinsAt fp s.heap) σ H s :=
  I.pins_of fun p hp => (List.mem_append.mp hp).elim (fun z => I.pin p (List.mem_append_right _ z)) fun z => by
    obtain ⟨hb, e⟩ := of_pinsAt z
    obtain ⟨f0, f1, f2, _⟩ := hf p.1 hb
    obtain ⟨o, e', d⟩ := ho p.1 hb
    rw [e] at e'; cases e'
    exact ⟨e, f0, f1, f2, d⟩
theorem Inv.unpinned {pins pl : List (Addr × Obj)} {σ : St} {H : Hp} {s : Shared} (I : Inv X (pins ++ pl) σ H s) : Inv X pins σ H s := I.pins_of fun p hp => I.pin p (List.mem_append_right _ (List.mem_append_left _ hp))
theorem ps_for {iter : Expr} {body : List Stmt} {wi : TI} {g : TG} {tb : TS} {pos : Pos} (hp : PassesOwn (model X.prog X.w) X.A X.env X.xe) (hc : X.calm = true) (hi : PI X tg iter wi) (hg : PG X tg g) (hb : PSs X body tb)
    (hs : ∀ x, foldedSetIterable iter X.env x = pure x := by intro _; rfl) : PS X (.For tg iter body [] pos) (tFor wi g tb) := by
  intro pins s σ H D I h
  refine wpAny_For (thn (hi pins s σ H _ I h) fun v s1 h1 => thn h1 fun itv s2 h2 => ?_) hs
  obtain ⟨it, fp, tn, J, H2, e, I2, T, st2, f2, W, ⟨m0, w0⟩, turn⟩ := h2
  subst e
  -- what stays true of the iterator's objects through the loop
  have stat : ∀ {H' : Hp}, (∀ b ∈ fp, H' b = none) → ∀ b ∈ fp, FpOk X pins H' b := fun hn b hb => ⟨hn b hb, (f2 b hb).2⟩
  refine codeAny_forLoop_any (fun n s' => ∃ i σ' H', Inv X pins σ' H' s' ∧ tn i s'.heap ∧ (∀ b ∈ fp, H' b = none) ∧ W i n σ' H') ?_ m0 ⟨0, σ, H2, I2, st2, fun b hb => (f2 b hb).1, w0⟩
  rintro n s3 ⟨i, σ3, H3, I3, st3, fr3, w3⟩
  rcases turn i n σ3 H3 w3 with ⟨stop, qn⟩ | ⟨go, N, hN, step⟩
  · refine wpAny_passesOwn hp (thn (T.done X rfl rfl rfl hc i pins s3 σ3 H3 X.xe I3 (stat fr3) st3 stop) fun r s4 ⟨hr, I4⟩ => ?_)
    subst hr
    exact wpAny_execs_nil ⟨σ3, H3, I4, qn⟩
  · refine wpAny_passesOwn hp (thn (T.item X rfl rfl rfl hc i pins s3 σ3 H3 X.xe I3 (stat fr3) st3 go) fun r s4 ⟨u, hr, h4⟩ => ?_)
    subst hr
    refine wpAny_passesOwn hp (thn h4 fun _ s5 ⟨x, H5, I5, r5, y5, st5, fr5⟩ => ?_)
    have I5' := I5.pinned (stat fr5) (T.obj _ _ st5)
    refine wpAny_passesOwn hp (thn (hg _ s5 σ3 H5 x u _ I5' r5 (step x H5 y5)) fun _ s6 ⟨σ6, H6, I6, q6⟩ => ?_)
    refine wpAny_passesOwn hp (thn (hb _ s6 σ6 H6 _ I6 q6) fun f s7 q7 => ?_)
    have again : ∀ {σ7 : St} {H7 : Hp}, Inv X (pins ++ pinsAt fp s5.heap) σ7 H7 s7 → N σ7 H7 → ∃ m, m < n ∧ ∃ i σ' H', Inv X pins σ' H' s7 ∧ tn i s7.heap ∧ (∀ b ∈ fp, H' b = none) ∧ W i m σ' H' := fun {σ7 H7} I7 n7 => by
      obtain ⟨m', hm, w7⟩ := hN σ7 H7 n7
      refine ⟨m', hm, i + 1, σ7, H7, I7.unpinned, T.keep _ _ _ st5 fun b hb o e => (I7.pin (b, o) (List.mem_append_right _ (List.mem_append_right _ (mem_pinsAt hb e)))).1, fun b hb => ?_, w7⟩
      obtain ⟨o, e, d⟩ := T.obj _ _ st5 b hb
      exact (I7.pin (b, o) (List.mem_append_right _ (List.mem_append_right _ (mem_pinsAt hb e)))).2.1
    cases f with
    | next => obtain ⟨σ7, H7, I7, n7⟩ := q7; exact again I7 n7
    | cont => obtain ⟨σ7, H7, I7, n7⟩ := q7; exact again I7 n7
    | brk => obtain ⟨σ7, H7, I7, q7⟩ := q7; exact ⟨σ7, H7, I7.unpinned, q7⟩
    | ret v => obtain ⟨x7, σ7, H7, I7, r7, q7⟩ := q7; exact ⟨x7, σ7, H7, I7.unpinned, r7, q7⟩
end


theorem for_range {lo : Int} {n : Nat} {g : TG} {tb : TS} {D : Ends} {σ : St} {H : Hp} (Pv : Nat → St → Hp → Prop) (h0 : Pv 0 σ H)
    (hs : ∀ i σ H, i < n → Pv i σ H → g (.int (lo + i)) σ H fun σ2 H2 => tb { D with nx := Pv (i + 1), ct := Pv (i + 1), bk := D.nx } σ2 H2) (hd : ∀ σ H, Pv n σ H → D.nx σ H) :
    ∃ W : Nat → Nat → St → Hp → Prop, (∃ m, W 0 m σ H) ∧ ∀ i m σ H, W i m σ H →
      ((Itr lo n).stop i H ∧ D.nx σ H) ∨ ((Itr lo n).go i H ∧ ∃ N : St → Hp → Prop, (∀ σ' H', N σ' H' → ∃ m', m' < m ∧ W (i + 1) m' σ' H') ∧ ∀ x H', (Itr lo n).yld i H x H' → g x σ H' fun σ2 H2 => tb { D with nx := N, ct := N, bk := D.nx } σ2 H2) := by
  refine ⟨fun i m σ H => m = n - i ∧ i ≤ n ∧ Pv i σ H, ⟨n, by simp, Nat.zero_le _, h0⟩, ?_⟩
  rintro i m σ H ⟨rfl, hi, p⟩
  by_cases hlt : i < n
  · refine .inr ⟨hlt, Pv (i + 1), fun σ' H' p' => ⟨n - (i + 1), by omega, rfl, hlt, p'⟩, fun x H' y => ?_⟩
    obtain ⟨e, y⟩ := y
    subst e y
    exact hs i σ _ hlt p
  · have e : i = n := by omega
    subst e
    exact .inl ⟨Nat.le_refl _, hd σ H p⟩
end L2

namespace L2
open PySem PySem.Spec PyProof.Rows

noncomputable abbrev R2 := V → V → Hp → VK → Prop

noncomputable def OpR (X : Cx) (f : Value → Value → Sem Value) (r : R2) : Prop :=
  ∀ (pins : List (Addr × Obj)) (s : Shared) (σ : St) (H : Hp) (x y : V) (v u : Value) (Q : VK), Inv X pins σ H s → RelV x v → RelV y u → r x y H Q →
    wpAny (model X.prog X.w) X.A (f v u) (EP X pins σ Q) X.xe s

noncomputable def UnR (X : Cx) (f : Value → Sem Value) (r : V → Hp → VK → Prop) : Prop :=
  ∀ (pins : List (Addr × Obj)) (s : Shared) (σ : St) (H : Hp) (x : V) (v : Value) (Q : VK), Inv X pins σ H s → RelV x v → r x H Q →
    wpAny (model X.prog X.w) X.A (f v) (EP X pins σ Q) X.xe s

noncomputable def CallR (X : Cx) (f : Value) (r : List V → Hp → VK → Prop) : Prop :=
  ∀ (pins : List (Addr × Obj)) (s : Shared) (σ : St) (H : Hp) (xs : List V) (us : List Value) (Q : VK), Inv X pins σ H s → Vals xs us → r xs H Q →
    wpAny (model X.prog X.w) X.A (call f us) (EP X pins σ Q) X.xe s

noncomputable def TruR (X : Cx) (r : V → Hp → (Bool → Hp → Prop) → Prop) : Prop :=
  ∀ (pins : List (Addr × Obj)) (s : Shared) (σ : St) (H : Hp) (x : V) (v : Value) (Q : Bool → Hp → Prop), Inv X pins σ H s → RelV x v → r x H Q →
    wpAny (model X.prog X.w) X.A (truthy v) (TP X pins σ Q) X.xe s

noncomputable def tOp (r : R2) (ta tb : TE) : TE := fun σ H Q => ta σ H fun x H1 => tb σ H1 fun y H2 => r x y H2 Q
noncomputable def tUn (r : V → Hp → VK → Prop) (ta : TE) : TE := fun σ H Q => ta σ H fun x H1 => r x H1 Q

noncomputable def rI (C : Int → Int → Prop) (g : Int → Int → V) : R2 := fun x y H Q => ∃ i j, x = .int i ∧ y = .int j ∧ C i j ∧ Q (g i j) H
noncomputable def rI0 (g : Int → Int → V) : R2 := fun x y H Q => ∃ i j, x = .int i ∧ y = .int j ∧ Q (g i j) H
noncomputable def rU (g : Int → V) : V → Hp → VK → Prop := fun x H Q => ∃ i, x = .int i ∧ Q (g i) H

section
variable {X : Cx} {a b c : Expr} {ta tb tc : TE} {pos : Pos}

theorem binT (ha : PE X a ta) (hb : PE X b tb) {pins : List (Addr × Obj)} {s : Shared} {σ : St} {H : Hp} {R : V → V → Hp → Prop} (I : Inv X pins σ H s)
    (h : ta σ H fun x H1 => tb σ H1 fun y H2 => R x y H2) {Q : Value → Shared → Prop} {f : Value → Value → Sem Value}
    (hf : ∀ v u s2 x y H2, Inv X pins σ H2 s2 → RelV x v → RelV y u → R x y H2 → wpAny (model X.prog X.w) X.A (f v u) Q X.xe s2) :
    wpAny (model X.prog X.w) X.A (eval a X.env) (fun v s₁ => wpAny (model X.prog X.w) X.A (eval b X.env) (fun u s₂ => wpAny (model X.prog X.w) X.A (f v u) Q X.xe s₂) X.xe s₁) X.xe s := by
  refine thn (ha pins s σ H _ I h) fun v s1 ⟨x, H1, I1, r1, q1⟩ => ?_
  refine thn (hb pins s1 σ H1 _ I1 q1) fun u s2 ⟨y, H2, I2, r2, q2⟩ => ?_
  exact hf v u s2 x y H2 I2 r1 r2 q2

theorem pe_op {op : Operator} {r : R2} (ho : OpR X (binaryOp op) r) (ha : PE X a ta) (hb : PE X b tb) : PE X (.BinOp a op b pos) (tOp r ta tb) := by
  intro pins s σ H Q I h
  exact wpAny_BinOp (binT ha hb I h fun v u s2 x y H2 I2 rx ry q => ho pins s2 σ H2 x y v u Q I2 rx ry q)
theorem pe_un {op : UnaryOp} {r : V → Hp → VK → Prop} (ho : UnR X (unaryOp op) r) (ha : PE X a ta) : PE X (.UnaryOp op a pos) (tUn r ta) := by
  intro pins s σ H Q I h
  exact UnaryOp_ (thn (ha pins s σ H _ I h) fun v s1 ⟨x, H1, I1, r1, q1⟩ => ho pins s1 σ H1 x v Q I1 r1 q1)

theorem opI {f : Value → Value → Sem Value} {C : Int → Int → Prop} {g : Int → Int → Int}
    (rule : ∀ (i j : Int) (t u : Tok) (s : Shared) (Q : Value → Shared → Prop) (E : Value → Shared → Prop), C i j → Q (.int (g i j) s.toks) { s with toks := s.toks + 1 } → wpAny (model X.prog X.w) X.A (f (.int i t) (.int j u)) Q E s) :
    OpR X f (rI C fun i j => .int (g i j)) := by
  intro pins s σ H x y v u Q I rx ry h
  obtain ⟨i, j, rfl, rfl, hc, q⟩ := h
  obtain ⟨t, rfl⟩ := rx
  obtain ⟨t', rfl⟩ := ry
  exact rule i j t t' s _ _ hc ⟨.int (g i j), H, I.tok _, ⟨_, rfl⟩, q⟩
theorem opI0 {f : Value → Value → Sem Value} {g : Int → Int → Int}
    (rule : ∀ (i j : Int) (t u : Tok) (s : Shared) (Q : Value → Shared → Prop) (E : Value → Shared → Prop), Q (.int (g i j) s.toks) { s with toks := s.toks + 1 } → wpAny (model X.prog X.w) X.A (f (.int i t) (.int j u)) Q E s) :
    OpR X f (rI0 fun i j => .int (g i j)) := by
  intro pins s σ H x y v u Q I rx ry h
  obtain ⟨i, j, rfl, rfl, q⟩ := h
  obtain ⟨t, rfl⟩ := rx
  obtain ⟨t', rfl⟩ := ry
  exact rule i j t t' s _ _ ⟨.int (g i j), H, I.tok _, ⟨_, rfl⟩, q⟩
theorem opB0 {f : Value → Value → Sem Value} {g : Int → Int → Bool}
    (rule : ∀ (i j : Int) (t u : Tok) (s : Shared) (Q : Value → Shared → Prop) (E : Value → Shared → Prop), Q (.bool (g i j)) s → wpAny (model X.prog X.w) X.A (f (.int i t) (.int j u)) Q E s) :
    OpR X f (rI0 fun i j => .bl (g i j)) := by
  intro pins s σ H x y v u Q I rx ry h
  obtain ⟨i, j, rfl, rfl, q⟩ := h
  obtain ⟨t, rfl⟩ := rx
  obtain ⟨t', rfl⟩ := ry
  exact rule i j t t' s _ _ ⟨.bl (g i j), H, I, rfl, q⟩

noncomputable def CDiv (i j : Int) : Prop := 0 < j ∧ j < 1073741824
noncomputable def CMul (i j : Int) : Prop := (-(2 ^ 64) < i ∧ i < 2 ^ 64) ∨ (-(2 ^ 64) < j ∧ j < 2 ^ 64)
theorem CMul.ok {i j : Int} (h : CMul i j) : IntMulOk i j := by
  rcases h with ⟨h1, h2⟩ | ⟨h1, h2⟩
  · exact .of_left (intBits_le_64 h1 h2)
  · exact .of_right (intBits_le_64 h1 h2)
theorem op_add : OpR X (binaryOp .Add) (rI0 fun i j => .int (i + j)) := opI0 fun _ _ _ _ _ _ _ q => add_int q
theorem op_sub : OpR X (binaryOp .Sub) (rI0 fun i j => .int (i - j)) := opI0 fun _ _ _ _ _ _ _ q => sub_int q

theorem op_mod : OpR X (binaryOp .Mod) (rI (fun _ j => 0 < j) fun i j => .int (i % j)) := opI fun i j _ _ _ _ _ hc q => by
  have h1 : (0 : Int) < j := hc
  exact mod_int' (by omega) (by rw [Int.fmod_eq_emod_of_nonneg i (by omega)]; exact q)
theorem unI {f : Value → Sem Value} {g : Int → Int}
    (rule : ∀ (i : Int) (t : Tok) (s : Shared) (Q : Value → Shared → Prop) (E : Value → Shared → Prop), Q (.int (g i) s.toks) { s with toks := s.toks + 1 } → wpAny (model X.prog X.w) X.A (f (.int i t)) Q E s) :
    UnR X f (rU fun i => .int (g i)) := by
  intro pins s σ H x v Q I rx h
  obtain ⟨i, rfl, q⟩ := h
  obtain ⟨t, rfl⟩ := rx
  exact rule i t s _ _ ⟨.int (g i), H, I.tok _, ⟨_, rfl⟩, q⟩
theorem un_neg : UnR X (unaryOp .USub) (rU fun i => .int (-i)) := unI fun _ _ _ _ _ q => neg_int q

theorem op_add_ib : OpR X (binaryOp .Add) (fun x y H Q => ∃ i k, x = .int i ∧ y = .bl k ∧ Q (.int (i + b2i k)) H) := by
  intro pins s σ H x y v u Q I rx ry h
  obtain ⟨i, k, rfl, rfl, q⟩ := h
  obtain ⟨t, rfl⟩ := rx
  cases ry
  exact add_int_bool ⟨.int (i + b2i k), H, I.tok _, ⟨_, rfl⟩, q⟩
end



noncomputable def scal : V → V → Bool
  | .non, .non => true | .non, .int _ => true | .int _, .non => true | .non, .bl _ => true | .bl _, .non => true | .non, .str _ => true | .str _, .non => true
  | .int _, .int _ => true | .bl _, .bl _ => true | .str _, .str _ => true | .byt _, .byt _ => true
  | .int _, .str _ => true | .str _, .int _ => true | .bl _, .str _ => true | .str _, .bl _ => true
  | _, _ => false
noncomputable def rEq : R2 := fun x y H Q => scal x y = true ∧ Q (.bl (decide (x = y))) H
noncomputable def rNe : R2 := fun x y H Q => scal x y = true ∧ Q (.bl (!decide (x = y))) H

theorem dec_int {i j : Int} : decide (V.int i = V.int j) = (i == j) := by
  rw [Bool.eq_iff_iff]
  simp
theorem dec_bl {i j : Bool} : decide (V.bl i = V.bl j) = (i == j) := by
  rw [Bool.eq_iff_iff]
  simp
theorem dec_str {i j : Str} : decide (V.str i = V.str j) = (i == j) := by
  rw [Bool.eq_iff_iff]
  simp
theorem dec_byt {i j : Array UInt8} : decide (V.byt i = V.byt j) = (i.toList == j.toList) := by
  rw [Bool.eq_iff_iff]
  cases i
  cases j
  simp

section
variable {X : Cx} {a b c : Expr} {ta tb tc : TE} {pos : Pos}
theorem fin_bl {pins : List (Addr × Obj)} {σ : St} {H : Hp} {s : Shared} {Q : VK} {k k' : Bool} (I : Inv X pins σ H s) (q : Q (.bl k) H) (e : k = k') : EP X pins σ Q (.bool k') s := by
  subst e
  exact ⟨.bl k, H, I, rfl, q⟩
theorem op_eq : OpR X (compareOp .Eq) rEq := by
  intro pins s σ H x y v u Q I rx ry h
  obtain ⟨hs, q⟩ := h
  cases x with
  | non =>
    cases rx
    cases y with
    | non => cases ry; exact PySem.EqNone.eq_none_none (fin_bl I q (by simp))
    | bl j => cases ry; exact PySem.EqNone.eq_none_bool (fin_bl I q (by simp))
    | int j => obtain ⟨t', rfl⟩ := ry; exact PySem.EqNone.eq_none_int (fin_bl I q (by simp))
    | str j => obtain ⟨t', rfl⟩ := ry; exact PySem.EqNone.eq_none_str (fin_bl I q (by simp))
    | _ => exact absurd (show false = true from hs) Bool.false_ne_true
  | bl i =>
    cases rx
    cases y with
    | non => cases ry; exact PySem.EqNone.eq_bool_none (fin_bl I q (by simp))
    | bl j => cases ry; exact eq_bool (fin_bl I q dec_bl)
    | str j => obtain ⟨t', rfl⟩ := ry; exact PySem.EqMixed.eq_bool_str (fin_bl I q (by simp))
    | _ => exact absurd (show false = true from hs) Bool.false_ne_true
  | int i =>
    obtain ⟨t, rfl⟩ := rx
    cases y with
    | non => cases ry; exact PySem.EqNone.eq_int_none (fin_bl I q (by simp))
    | int j => obtain ⟨t', rfl⟩ := ry; exact eq_int (fin_bl I q dec_int)
    | str j => obtain ⟨t', rfl⟩ := ry; exact PySem.EqMixed.eq_int_str (fin_bl I q (by simp))
    | _ => exact absurd (show false = true from hs) Bool.false_ne_true
  | str i =>
    obtain ⟨t, rfl⟩ := rx
    cases y with
    | non => cases ry; exact PySem.EqNone.eq_str_none (fin_bl I q (by simp))
    | bl j => cases ry; exact PySem.EqMixed.eq_str_bool (fin_bl I q (by simp))
    | int j => obtain ⟨t', rfl⟩ := ry; exact PySem.EqMixed.eq_str_int (fin_bl I q (by simp))
    | str j => obtain ⟨t', rfl⟩ := ry; exact eq_str (fin_bl I q dec_str)
    | _ => exact absurd (show false = true from hs) Bool.false_ne_true
  | byt i =>
    obtain ⟨t, rfl⟩ := rx
    cases y with
    | byt j => obtain ⟨t', rfl⟩ := ry; exact PySem.W.eq_bytes (fin_bl I q dec_byt)
    | _ => exact absurd (show false = true from hs) Bool.false_ne_true
  | _ => cases y <;> exact absurd (show false = true from hs) Bool.false_ne_true
theorem op_ne : OpR X (compareOp .NotEq) rNe := by
  intro pins s σ H x y v u Q I rx ry h
  obtain ⟨hs, q⟩ := h
  cases x with
  | non =>
    cases rx
    cases y with
    | non => cases ry; exact PySem.EqNone.ne_none_none (fin_bl I q (by simp))
    | bl j => cases ry; exact PySem.EqNone.ne_none_bool (fin_bl I q (by simp))
    | int j => obtain ⟨t', rfl⟩ := ry; exact PySem.EqNone.ne_none_int (fin_bl I q (by simp))
    | str j => obtain ⟨t', rfl⟩ := ry; exact PySem.EqNone.ne_none_str (fin_bl I q (by simp))
    | _ => exact absurd (show false = true from hs) Bool.false_ne_true
  | bl i =>
    cases rx
    cases y with
    | non => cases ry; exact PySem.EqNone.ne_bool_none (fin_bl I q (by simp))
    | bl j => cases ry; exact ne_bool (fin_bl I q (congrArg not dec_bl))
    | str j => obtain ⟨t', rfl⟩ := ry; exact PySem.EqMixed.ne_bool_str (fin_bl I q (by simp))
    | _ => exact absurd (show false = true from hs) Bool.false_ne_true
  | int i =>
    obtain ⟨t, rfl⟩ := rx
    cases y with
    | non => cases ry; exact PySem.EqNone.ne_int_none (fin_bl I q (by simp))
    | int j => obtain ⟨t', rfl⟩ := ry; exact ne_int (fin_bl I q (congrArg not dec_int))
    | str j => obtain ⟨t', rfl⟩ := ry; exact PySem.EqMixed.ne_int_str (fin_bl I q (by simp))
    | _ => exact absurd (show false = true from hs) Bool.false_ne_true
  | str i =>
    obtain ⟨t, rfl⟩ := rx
    cases y with
    | non => cases ry; exact PySem.EqNone.ne_str_none (fin_bl I q (by simp))
    | bl j => cases ry; exact PySem.EqMixed.ne_str_bool (fin_bl I q (by simp))
    | int j => obtain ⟨t', rfl⟩ := ry; exact PySem.EqMixed.ne_str_int (fin_bl I q (by simp))
    | str j => obtain ⟨t', rfl⟩ := ry; exact ne_str (fin_bl I q (congrArg not dec_str))
    | _ => exact absurd (show false = true from hs) Bool.false_ne_true
  | byt i =>
    obtain ⟨t, rfl⟩ := rx
    cases y with
    | byt j => obtain ⟨t', rfl⟩ := ry; exact PySem.W.ne_bytes (fin_bl I q (congrArg not dec_byt))
    | _ => exact absurd (show false = true from hs) Bool.false_ne_true
  | _ => cases y <;> exact absurd (show false = true from hs) Bool.false_ne_true

theorem op_lt : OpR X (compareOp .Lt) (rI0 fun i j => .bl (decide (i < j))) := opB0 fun _ _ _ _ _ _ _ q => lt_int q
theorem op_le : OpR X (compareOp .LtE) (rI0 fun i j => .bl (decide (i ≤ j))) := opB0 fun _ _ _ _ _ _ _ q => le_int q
theorem op_gt : OpR X (compareOp .Gt) (rI0 fun i j => .bl (decide (j < i))) := opB0 fun _ _ _ _ _ _ _ q => gt_int q
theorem op_ge : OpR X (compareOp .GtE) (rI0 fun i j => .bl (decide (j ≤ i))) := opB0 fun _ _ _ _ _ _ _ q => ge_int q

theorem op_in_str : OpR X (compareOp .In) (fun x y H Q => ∃ i j, x = .str i ∧ y = .str j ∧ Q (.bl (!(Builtin.Str.occurrences j i 0 j.length 1).isEmpty)) H) := by
  intro pins s σ H x y v u Q I rx ry h
  obtain ⟨i, j, rfl, rfl, q⟩ := h
  obtain ⟨t, rfl⟩ := rx
  obtain ⟨t', rfl⟩ := ry
  exact in_str (fin_bl I q rfl)


theorem op_isN : OpR X (compareOp .Is) (fun x y H Q => y = .non ∧ Q (.bl (decide (x = .non))) H) := by
  intro pins s σ H x y v u Q I rx ry h
  obtain ⟨rfl, q⟩ := h
  cases ry
  refine is_none_gen (fin_bl I q ?_)
  cases x <;> first
    | (cases rx; rfl)
    | (obtain ⟨t, rfl⟩ := rx; rfl)
theorem op_notN : OpR X (compareOp .IsNot) (fun x y H Q => y = .non ∧ Q (.bl (!decide (x = .non))) H) := by
  intro pins s σ H x y v u Q I rx ry h
  obtain ⟨rfl, q⟩ := h
  cases ry
  refine isnot_none_gen (fin_bl I q ?_)
  cases x <;> first
    | (cases rx; rfl)
    | (obtain ⟨t, rfl⟩ := rx; rfl)


theorem OpR.or {f : Value → Value → Sem Value} {r r' : R2} (h : OpR X f r) (h' : OpR X f r') : OpR X f (fun x y H Q => r x y H Q ∨ r' x y H Q) := by
  intro pins s σ H x y v u Q I rx ry q
  rcases q with q | q
  · exact h pins s σ H x y v u Q I rx ry q
  · exact h' pins s σ H x y v u Q I rx ry q

theorem nomark (b : Expr) {op : CmpOp} (h : op ≠ .In := by decide) (h2 : op ≠ .NotIn := by decide) : behindInMarks op b = false := by
  have e1 : (op == CmpOp.In) = false := by cases op <;> first | rfl | exact absurd rfl h
  have e2 : (op == CmpOp.NotIn) = false := by cases op <;> first | rfl | exact absurd rfl h2
  cases b <;> simp [behindInMarks, e1, e2]

theorem pe_cmpR {op : CmpOp} {r : R2} (ho : OpR X (compareOp op) r) (ha : PE X a ta) (hb : PE X b tb) (hm : behindInMarks op b = false) : PE X (.Compare a [op] [b] pos) (tOp r ta tb) := by
  intro pins s σ H Q I h
  exact wpAny_Compare1 (binT ha hb I h fun v u s2 x y H2 I2 rx ry q => ho pins s2 σ H2 x y v u Q I2 rx ry q) hm


noncomputable def TruV (K : PySem.W.Frag) (x : V) (H : Hp) (k : Bool) : Prop :=
  match x with
  | .non => k = false
  | .bl b => k = b
  | .int i => k = (i != 0)
  | .str y => y.length ≤ sizeLine ∧ k = ((y.length : Int) != 0)
  | .byt y => y.size ≤ sizeLine ∧ k = ((y.size : Int) != 0)
  | .ref p => (∃ xs, SqL K H p xs ∧ k = !xs.isEmpty) ∨ (∃ xs, SqT K H p xs ∧ k = !xs.isEmpty) ∨ ∃ kvs, H p = some (.dK kvs) ∧ k = !kvs.isEmpty
  | _ => False
theorem isEmpty_kv {κ : Type} {kvs : List (κ × V)} {vs : List (κ × Value)} (r : KV kvs vs) : (!vs.isEmpty) = !kvs.isEmpty := by
  cases r <;> rfl
theorem isEmpty_of {xs : List V} {its : List Value} (r : Vals xs its) : (!its.toArray.isEmpty) = !xs.isEmpty := by
  cases r <;> simp
theorem line63 : (sizeLine : Nat) < 2 ^ 63 := by rw [sizeLine_eq]; decide
theorem tru_ok : TruR X (fun x H Q => ∃ k, TruV X.K x H k ∧ Q k H) := by
  intro pins s σ H x v Q I rx h
  obtain ⟨k, e, q⟩ := h
  have hl := line63
  have hs : sizeLine = 16777216 := sizeLine_eq
  cases x with
  | non =>
    cases rx
    have e' : k = false := e
    subst e'
    exact truthy_none ⟨H, I, q⟩
  | bl b =>
    cases rx
    have e' : k = b := e
    subst e'
    exact wpAny_truthy_bool ⟨H, I, q⟩
  | int i =>
    obtain ⟨t, rfl⟩ := rx
    have e' : k = (i != 0) := e
    subst e'
    exact PySem.P.truthy_int ⟨H, I, q⟩
  | str y =>
    obtain ⟨t, rfl⟩ := rx
    obtain ⟨hy, e'⟩ : y.length ≤ sizeLine ∧ k = ((y.length : Int) != 0) := e
    subst e'
    exact PySem.P.truthy_str (by omega) ⟨H, I.tok _, q⟩
  | byt y =>
    obtain ⟨t, rfl⟩ := rx
    obtain ⟨hy, e'⟩ : y.size ≤ sizeLine ∧ k = ((y.size : Int) != 0) := e
    subst e'
    exact PySem.W.truthy_bytes (by omega) ⟨H, I.tok _, q⟩
  | ref p =>
    cases rx
    have e' : (∃ xs, SqL X.K H p xs ∧ k = !xs.isEmpty) ∨ (∃ xs, SqT X.K H p xs ∧ k = !xs.isEmpty) ∨ ∃ kvs, H p = some (.dK kvs) ∧ k = !kvs.isEmpty := e
    rcases e' with ⟨xs, hx, e'⟩ | ⟨xs, hx, e'⟩ | ⟨kvs, hx, e'⟩
    · subst e'
      obtain ⟨its, r, pl, hz⟩ := I.list hx
      have hlen := r.length
      exact wpAny_truthy_list pl.isList (by simp only [List.size_toArray]; omega) ⟨H, I.tok _, by rw [isEmpty_of r]; exact q⟩
    · subst e'
      obtain ⟨its, r, pl, hz⟩ := I.tuple hx
      have hlen := r.length
      exact truthy_tuple pl (by simp only [List.size_toArray]; omega) ⟨H, I.tok _, by rw [isEmpty_of r]; exact q⟩
    · subst e'
      obtain ⟨hz, hS, vs, r, m⟩ : kvs.length ≤ sizeLine ∧ (p == sysModules) = false ∧ ∃ vs, KV kvs vs ∧ s.heap.DictOf (mixKind X.prog X.w) p vs := I.hok p _ hx
      have hlen : kvs.length = vs.length := Paired.length r
      exact wpAny_truthy_dict hS m (by omega) ⟨H, I.tok _, by rw [isEmpty_kv r]; exact q⟩
  | _ => exact (show False from e).elim

theorem op_add_str : OpR X (binaryOp .Add) (fun x y H Q => ∃ i j, x = .str i ∧ y = .str j ∧ i.length + j.length ≤ sizeLine ∧ Q (.str (i ++ j)) H) := by
  intro pins s σ H x y v u Q I rx ry h
  obtain ⟨i, j, rfl, rfl, hz, q⟩ := h
  obtain ⟨t, rfl⟩ := rx
  obtain ⟨t', rfl⟩ := ry
  exact add_str (fun t' tk => ⟨.str (i ++ j), H, I.tok _, ⟨_, rfl⟩, q⟩) hz

theorem vals1 {x : V} {us : List Value} (r : Vals [x] us) : ∃ u, us = [u] ∧ RelV x u := by
  cases r with
  | cons r1 r2 => cases r2; exact ⟨_, rfl, r1⟩
theorem vals2 {x y : V} {us : List Value} (r : Vals [x, y] us) : ∃ u w', us = [u, w'] ∧ RelV x u ∧ RelV y w' := by
  cases r with
  | cons r1 r2 =>
    cases r2 with
    | cons r3 r4 => cases r4; exact ⟨_, _, rfl, r1, r3⟩
theorem call_max2 (hc : X.calm = true) : CallR X (.builtin "max") (fun xs H Q => ∃ i j, xs = [.int i, .int j] ∧ Q (.int (if j > i then j else i)) H) := by
  intro pins s σ H xs us Q I r h
  obtain ⟨i, j, rfl, q⟩ := h
  obtain ⟨u, w', rfl, ⟨t, rfl⟩, ⟨t', rfl⟩⟩ := vals2 r
  refine max_two_ints (I.ok.hd hc) fun h' tk k => ⟨_, H, I.kept k, ?_, q⟩
  by_cases hj : j > i
  · rw [if_pos hj, if_pos hj]; exact ⟨_, rfl⟩
  · rw [if_neg hj, if_neg hj]; exact ⟨_, rfl⟩
theorem call_min2 (hc : X.calm = true) : CallR X (.builtin "min") (fun xs H Q => ∃ i j, xs = [.int i, .int j] ∧ Q (.int (if j < i then j else i)) H) := by
  intro pins s σ H xs us Q I r h
  obtain ⟨i, j, rfl, q⟩ := h
  obtain ⟨u, w', rfl, ⟨t, rfl⟩, ⟨t', rfl⟩⟩ := vals2 r
  refine min_two_ints (I.ok.hd hc) fun h' tk k => ⟨_, H, I.kept k, ?_, q⟩
  by_cases hj : j < i
  · rw [if_pos hj, if_pos hj]; exact ⟨_, rfl⟩
  · rw [if_neg hj, if_neg hj]; exact ⟨_, rfl⟩

noncomputable def LenV (K : PySem.W.Frag) (x : V) (H : Hp) (n : Nat) : Prop :=
  match x with
  | .str y => y.length ≤ sizeLine ∧ n = y.length
  | .byt y => y.size ≤ sizeLine ∧ n = y.size
  | .ref p => (∃ xs, SqL K H p xs ∧ n = xs.length) ∨ ∃ xs, SqT K H p xs ∧ n = xs.length
  | _ => False
theorem call_len : CallR X (.builtin "len") (fun xs H Q => ∃ x n, xs = [x] ∧ LenV X.K x H n ∧ Q (.int n) H) := by
  intro pins s σ H xs us Q I r h
  obtain ⟨x, n, rfl, e, q⟩ := h
  obtain ⟨u, rfl, rx⟩ := vals1 r
  have hl := line63
  have hs : sizeLine = 16777216 := sizeLine_eq
  cases x with
  | str y =>
    obtain ⟨t, rfl⟩ := rx
    obtain ⟨hy, e'⟩ : y.length ≤ sizeLine ∧ n = y.length := e
    subst e'
    exact len_str (by omega) ⟨.int _, H, I.tok _, ⟨_, rfl⟩, q⟩
  | byt y =>
    obtain ⟨t, rfl⟩ := rx
    obtain ⟨hy, e'⟩ : y.size ≤ sizeLine ∧ n = y.size := e
    subst e'
    exact PySem.W.len_bytes (by omega) ⟨.int _, H, I.tok _, ⟨_, rfl⟩, q⟩
  | ref p =>
    cases rx
    have e' : (∃ xs, SqL X.K H p xs ∧ n = xs.length) ∨ ∃ xs, SqT X.K H p xs ∧ n = xs.length := e
    rcases e' with ⟨xs, hx, e'⟩ | ⟨xs, hx, e'⟩
    · subst e'
      obtain ⟨its, r', pl, hz⟩ := I.list hx
      have hlen := r'.length
      exact Calls.call_len_list pl.isList (by simp only [List.size_toArray]; omega) ⟨.int xs.length, H, I.tok _, ⟨_, by simp only [List.size_toArray]; rw [hlen]⟩, q⟩
    · subst e'
      obtain ⟨its, r', pl, hz⟩ := I.tuple hx
      have hlen := r'.length
      exact len_tuple pl (by simp only [List.size_toArray]; omega) ⟨.int xs.length, H, I.tok _, ⟨_, by simp only [List.size_toArray]; rw [hlen]⟩, q⟩
  | _ => exact (show False from e).elim
end
end L2

namespace L2
open PySem PySem.Spec PyProof.Rows


structure ObjM (h : Heap) (x dx C : Addr) (mA : Str → Option Value) : Prop where
  obj : h.get? x = some (PySem.W.instObj C dx)
  ns : h.Ns1 dx mA
  ne : dx ≠ x

theorem lookIn_ns {h : Heap} {dx : Addr} {mA : Str → Option Value} (n : h.Ns1 dx mA) : ∃ od, h.get? dx = some od ∧ ∀ name, PySem.W.lookIn name od = some (mA name) := by
  obtain ⟨o, es, ep, ho, hd, hk, _, hm⟩ := n
  refine ⟨o, ho, fun name => ?_⟩
  have e := hm name
  unfold nsFind findBy at e
  rw [← Array.find?_toList] at e
  unfold PySem.W.lookIn
  rw [hd]
  dsimp only
  split
  · rename_i y q
    rw [q] at e
    exact congrArg some e
  · rename_i q
    rw [q] at e
    have a : es.toList.any (·.refKey) = false := by
      rw [List.any_eq_false]
      intro y hy
      obtain ⟨z, t, hkey⟩ := hk y (Array.mem_toList_iff.mp hy)
      simp [DictEntry.refKey, hkey]
    have a' : ¬ es.toList.any (·.refKey) = true := by rw [a]; exact Bool.false_ne_true
    rw [if_neg a']
    exact congrArg some e

theorem ObjM.look {h : Heap} {x dx C : Addr} {mA : Str → Option Value} (I : ObjM h x dx C mA) : ∃ od, PySem.W.InstAt h x (PySem.W.instObj C dx) C (some od) ∧ ∀ name, PySem.W.lookIn name od = some (mA name) :=
  let ⟨od, ho, hl⟩ := lookIn_ns I.ns
  ⟨od, ⟨I.obj, rfl, rfl, ho⟩, hl⟩

section
variable {prog : Program} {w : World} {A : Around} {E : Value → Shared → Prop} {s : Shared} {K : PySem.W.Frag} {x dx C f : Addr} {mA : Str → Option Value} {name : Str} {v : Value}

theorem set_map {ns : List Str} {Q : Unit → Shared → Prop} (X : K.In s.heap) (I : ObjM s.heap x dx C mA)
    (hs : PySem.W.findIn K (.ref C) "__setattr__" = some (some (.builtin "object.__setattr__"))) (hp : PySem.W.plainOver K C = true) (ht : PySem.W.takerIn K C name = some none) (hh : PySem.W.hasDictIn K C = true)
    (hw : PySem.Within mA ns) (hsz : ns.length ≤ sizeLine)
    (h : ∀ h', ObjM h' x dx C (fun y => if y = name then some v else mA y) → Heap.SameBut dx s.heap h' → Q () { s with heap := h', toks := s.toks + 2 }) :
    wpAny (model prog w) A (setAttr (.ref x) name v) Q E s := by
  obtain ⟨od, J, hl⟩ := I.look
  refine PySem.W.set_plain X J hs (PySem.W.osa_open (s := { s with toks := s.toks + 1 }) (r := none) X J hp ht fun b => ?_)
  obtain ⟨cd, hc, hd'⟩ := PySem.W.any_some hh
  have hx : s.heap.get? x = some ⟨.ref C, some dx, .plain, #[]⟩ := I.obj
  refine wpAny_bind (wpAny_pure (wpAny_bind (wpAny_bind (wpAny_loadPart hx (wpAny_bind (PySem.W.Looks.here (s := { s with toks := s.toks + 1 }) (PySem.W.looks_clsIn X hc) ?_))))))
  rw [hd']
  refine wpAny_pure (a := some dx) (wpAny_bind (wpAny_pure (wpAny_bind ?_)))
  refine wpAny_nsSet1 (s := { s with toks := s.toks + 1 }) I.ns fun h' hn2 hs2 => ?_
  obtain ⟨oD, esD, epD, hoD, hdD, hcD⟩ := hn2.count (PySem.Within.cons name v hw)
  refine wpAny_bind (wpAny_lookBehind hoD (by rw [hdD]; exact pastItsLine_dict (Nat.le_trans hcD (by rw [List.length_cons]; omega))) ?_)
  exact wpAny_pure (h _ ⟨(hs2.2 _ (Ne.symm I.ne)).trans I.obj, hn2, I.ne⟩ hs2)

end


theorem RelO.some_of {v : V} {o : Option Value} (r : RelO (some v) o) : ∃ u, o = some u ∧ RelV v u := by
  cases o with
  | none => exact (show False from r).elim
  | some u => exact ⟨u, rfl, r⟩
theorem RelO.none_of {o : Option Value} (r : RelO none o) : o = none := by
  cases o with
  | none => rfl
  | some u => exact (show False from r).elim
section
variable {P : Program} {w : World} {H H' : Hp} {h h' : Heap} {a C dx : Addr} {fs fs' : List (Str × V)}
theorem ins_get (hok : HOk P w H h) (e : H a = some (.ins C dx fs)) : ∃ mA, ObjM h a dx C mA ∧ (∀ f, RelO (fs.lookup f) (mA f)) ∧ PySem.Within mA (fs.map (·.1)) ∧ fs.length ≤ 1000 ∧ H dx = some (.own a) := by
  obtain ⟨d, z, ne, ob, mA, n, r, q⟩ := (show ObjOk P w H h a (.ins C dx fs) from hok a _ e)
  exact ⟨mA, ⟨ob, n, ne⟩, r, q, z, d⟩
end


structure Cls (K : PySem.W.Frag) (C : Addr) : Prop where
  pg : PySem.W.plainGet K C Str.empty = true
  hd : PySem.W.hasDictIn K C = true
  po : PySem.W.plainOver K C = true
  sa : PySem.W.findIn K (.ref C) "__setattr__" = some (some (.builtin "object.__setattr__"))
theorem Cls.get {K : PySem.W.Frag} {C : Addr} (c : Cls K C) (f : Str) : PySem.W.plainGet K C f = true := c.pg

structure Con (K : PySem.W.Frag) (C : Addr) (f : Str) (v : V) (u : Value) : Prop where
  at_ : PySem.W.findIn K (.ref C) f = some (some u)
  rel : RelV v u
  get : PySem.W.specialIn K u "__get__" = some none
  cp : PySem.W.copiedNames.contains f = false

structure Meth (K : PySem.W.Frag) (C : Addr) (m : Str) (f : Addr) : Prop where
  at_ : PySem.W.findIn K (.ref C) m = some (some (.ref f))
  fn : PySem.W.isFn K (.ref f) = true
  kp : PySem.W.keepIn K (.ref f) = true

section
variable {X : Cx} {pins : List (Addr × Obj)} {σ : St} {H : Hp} {s : Shared} {a C dx : Addr} {fs : List (Str × V)} {f : Str} {v : V} {A : Around} {E : Value → Shared → Prop}


theorem Inv.made (I : Inv X pins σ H s) : Inv X pins σ (upd (upd H s.heap.objs.size (.own (s.heap.objs.size + 1))) (s.heap.objs.size + 1) (.ins C s.heap.objs.size []))
    { s with heap := (s.heap.push PySem.W.emptyDict).push (PySem.W.instObj C s.heap.objs.size) } := by
  have e1 : (s.heap.push PySem.W.emptyDict).get? s.heap.objs.size = some PySem.W.emptyDict := Heap.get?_push_size s.heap rfl
  have e2 : ((s.heap.push PySem.W.emptyDict).push (PySem.W.instObj C s.heap.objs.size)).get? (s.heap.objs.size + 1) = some (PySem.W.instObj C s.heap.objs.size) := by
    have := Heap.get?_push_size (s.heap.push PySem.W.emptyDict) (o := PySem.W.instObj C s.heap.objs.size) rfl
    rwa [Heap.size_push] at this
  have e3 : (s.heap.push PySem.W.emptyDict).Ns s.heap.objs.size (fun _ => none) := ⟨PySem.W.emptyDict, #[], _, e1, rfl, (fun e he => absurd he (by simp)), fun _ => rfl⟩
  have I1 := I.laid (a := s.heap.objs.size) (o := .own (s.heap.objs.size + 1)) (h' := s.heap.push PySem.W.emptyDict) (t' := s.toks) (fun b u q => Heap.get?_push_of_some _ q) (Nat.le_refl _) ⟨_, e1⟩
  refine I1.laid (a := s.heap.objs.size + 1) (o := .ins C s.heap.objs.size []) (t' := s.toks) (fun b u q => Heap.get?_push_of_some _ q) (Nat.le_of_eq (Heap.size_push _ _)) ?_
  have ne : s.heap.objs.size ≠ s.heap.objs.size + 1 := Nat.ne_of_lt (Nat.lt_succ_self _)
  refine ⟨by rw [upd_ne ne, upd_same], Nat.zero_le _, ne, e2, fun _ => none, (Heap.Ns1.of_empty e3).at fun o q => Heap.get?_push_of_some _ q, fun _ => True.intro, fun y hy => absurd rfl hy⟩

end


section
variable {X : Cx} {o e value : Expr} {f : Str} {pos pos' tpos : Pos} {ta tv : TE}
noncomputable def rAdd : V → V → Hp → VK → Prop := fun x y H Q => ∃ i j, x = .int i ∧ y = .int j ∧ Q (.int (i + j)) H
end


section
variable {X : Cx} {pins : List (Addr × Obj)} {σ : St} {H : Hp} {s : Shared} {A : Around} {E : Value → Shared → Prop} {Q : Value → Shared → Prop} {c : Value} {b : Bool}

inductive TyOf (K : PySem.W.Frag) (H : Hp) : V → Value → Prop where
  | non : TyOf K H .non (.type "NoneType")
  | bl (x : Bool) : TyOf K H (.bl x) (.type "bool")
  | int (i : Int) : TyOf K H (.int i) (.type "int")
  | str (x : Str) : TyOf K H (.str x) (.type "str")
  | flt (x : UInt64) : TyOf K H (.flt x) (.type "float")
  | lst {a : Addr} {xs : List V} (e : H a = some (.lst xs)) : TyOf K H (.ref a) (.type "list")
  | frz {a : Addr} {o : Obj} {xs : List V} (e : H a = some (.frz o (.lst xs))) : TyOf K H (.ref a) (.type "list")
  | tup {a : Addr} {xs : List V} (e : H a = some (.tup xs)) : TyOf K H (.ref a) (.type "tuple")
  | dK {a : Addr} {kvs : List (Key × V)} (e : H a = some (.dK kvs)) : TyOf K H (.ref a) (.type "dict")
  | dT {a : Addr} {kvs : List (List Key × V)} (e : H a = some (.dT kvs)) : TyOf K H (.ref a) (.type "dict")
  | ins {a C dx : Addr} {fs : List (Str × V)} (e : H a = some (.ins C dx fs)) (cl : Cls K C) (ha : PySem.W.findIn K (.ref C) "__class__" = some (some (.builtin "object.__class__")))
      (hn : PySem.W.specialIn K (.builtin "object.__class__") "__get__" = some (some (.builtin "getset_descriptor.__get__"))) (htk : PySem.W.takesIn K (.builtin "object.__class__") = some true)
      (hm : PySem.W.mroIn K C (.type "object") = some true) : TyOf K H (.ref a) (.ref C)

theorem isinst_ok {x : V} {u t : Value} (I : Inv X pins σ H s) (rx : RelV x u) (ty : TyOf X.K H x t) (e : PySem.W.kitOne X.K t c = some b) (h : ∀ tk, Q (.bool b) { s with toks := tk }) :
    wpAny (model X.prog X.w) A (call (.builtin "isinstance") [u, c]) Q E s := by
  cases ty with
  | non => cases (show u = Value.none from rx); exact PySem.W.kia_one PySem.W.kitx_none I.kIn True.intro e (fun z => nomatch z) h
  | bl y => cases (show u = Value.bool y from rx); exact PySem.W.kia_one PySem.W.kitx_bool I.kIn True.intro e (fun z => nomatch z) h
  | int i => obtain ⟨t, q⟩ := (show ∃ t, u = Value.int i t from rx); cases q; exact PySem.W.kia_one PySem.W.kitx_int I.kIn True.intro e (fun z => nomatch z) h
  | str y => obtain ⟨t, q⟩ := (show ∃ t, u = Value.str y t from rx); cases q; exact PySem.W.kia_one PySem.W.kitx_str I.kIn True.intro e (fun z => nomatch z) h
  | flt y => obtain ⟨t, q⟩ := (show ∃ t, u = Value.float y t from rx); cases q; exact PySem.W.kia_one PySem.W.kitx_float I.kIn True.intro e (fun z => nomatch z) h
  | @lst a xs ea =>
    cases (show u = Value.ref a from rx)
    obtain ⟨_, _, n, _, h1⟩ := (show ObjOk X.prog X.w H s.heap a (.lst xs) from I.hok a _ ea)
    exact PySem.W.kia_one PySem.W.kitx_list I.kIn ⟨_, h1, rfl⟩ e (fun z => nomatch z) h
  | @frz a ob xs ea =>
    cases (show u = Value.ref a from rx)
    obtain ⟨_, _, _, n, _, h1⟩ := (show ObjOk X.prog X.w H s.heap a (.frz ob (.lst xs)) from I.hok a _ ea)
    exact PySem.W.kia_one PySem.W.kitx_list I.kIn ⟨_, h1, rfl⟩ e (fun z => nomatch z) h
  | @tup a xs ea =>
    cases (show u = Value.ref a from rx)
    obtain ⟨_, _, _, p⟩ := (show ObjOk X.prog X.w H s.heap a (.tup xs) from I.hok a _ ea)
    obtain ⟨o, h1, h2, _⟩ := p
    exact PySem.W.kia_one PySem.W.kitx_tuple I.kIn ⟨o, h1, h2⟩ e (fun z => nomatch z) h
  | @dK a kvs ea =>
    cases (show u = Value.ref a from rx)
    obtain ⟨_, _, vs, _, p⟩ := (show ObjOk X.prog X.w H s.heap a (.dK kvs) from I.hok a _ ea)
    obtain ⟨o, es, ep, h1, h2, _⟩ := p
    exact PySem.W.kia_one PySem.W.kitx_dict I.kIn ⟨o, h1, h2.1⟩ e (fun z => nomatch z) h
  | @dT a kvs ea =>
    cases (show u = Value.ref a from rx)
    obtain ⟨_, _, xs, _, o, es, ep, h1, h2, _⟩ := (show ObjOk X.prog X.w H s.heap a (.dT kvs) from I.hok a _ ea)
    exact PySem.W.kia_one PySem.W.kitx_dict I.kIn ⟨o, h1, h2.1⟩ e (fun z => nomatch z) h
  | @ins a C dx fs ea cl ha hn htk hm =>
    cases (show u = Value.ref a from rx)
    obtain ⟨mA, O, _⟩ := ins_get I.hok ea
    obtain ⟨od, J, _⟩ := O.look
    exact PySem.W.kia_one (PySem.W.kitx_own (cl.get _) cl.hd ha hn htk hm) I.kIn J e (fun z => nomatch z) h
end
end L2

namespace L2
open PySem PySem.Spec PyProof.Rows


structure Room (k : Nat) (A : Around) : Prop where
  hd : A.handled = none
  dp : A.depth + 3 * k + 5 < recursionLimit
  un : A.units + 16 * k + 200 < cLine
theorem Room.mono {j k : Nat} {A : Around} (r : Room k A) (h : j ≤ k) : Room j A := ⟨r.hd, by have := r.dp; omega, by have := r.un; omega⟩
theorem Room.deeper {k : Nat} {A : Around} (r : Room (k + 1) A) (env : Env) : Room k (A.deeper env) :=
  ⟨r.hd, by have := r.dp; show A.depth + 1 + 3 * k + 5 < _; omega, by have := r.un; show A.units + 3 + 16 * k + 200 < _; omega⟩
theorem Room.in1 {k : Nat} {A : Around} (r : Room (k + 1) A) : Room k A.in1 :=
  ⟨r.hd, by have := r.dp; show A.depth + 3 * k + 5 < _; omega, by have := r.un; show A.units + 1 + 16 * k + 200 < _; omega⟩
theorem make_depth {A : Around} {C : Addr} {us : List Value} {kw : List (Str × Value)} : (A.under (.builtin "type.__call__" ⟨.ref C :: us, kw⟩)).depth = A.depth + 1 := by
  first | rfl | simp [Around.under, Code.weight, Code.isCreation, Code.isGuard, Code.isCaller, Code.frames, Code.isFrame, guardIds]
theorem Room.depth {k : Nat} {A : Around} (r : Room k A) : A.depth < recursionLimit := by have := r.dp; omega
theorem Room.units {k : Nat} {A : Around} (r : Room k A) : A.units + 64 < cLine := by have := r.un; omega

noncomputable def tNil : TA := fun _ H Q => Q [] H
noncomputable def tCons (ta : TE) (tr : TA) : TA := fun σ H Q => ta σ H fun x H1 => tr σ H1 fun xs H2 => Q (x :: xs) H2
section
variable {X : Cx} {e : Expr} {es : List Expr} {te : TE} {t : TA} {pos : Pos}
theorem pa_nil : PA X [] tNil := fun _ _ _ _ H Q I h => Calls.spliced_nil ⟨[], H, I, .nil, h⟩
theorem pa_cons (ha : PE X e te) (hr : PA X es t) (hs : starEach (e :: es) X.env = (false, eval e X.env) :: starEach es X.env := by rfl) : PA X (e :: es) (tCons te t) := by
  intro pos pins s σ H Q I h
  rw [hs]
  show wpAny _ _ (spliced ((false, eval e X.env) :: backTo pos (starEach es X.env))) _ _ s
  refine Calls.spliced_cons (thn (ha pins s σ H _ I h) fun u s1 ⟨x, H1, I1, r1, q1⟩ => ?_)
  exact thn (hr pos pins s1 σ H1 _ I1 q1) fun us s2 ⟨xs, H2, I2, r2, q2⟩ => ⟨x :: xs, H2, I2, .cons r1 r2, q2⟩


noncomputable def tTup (t : TA) : TE := fun σ H Q => t σ H fun xs H1 => xs.length ≤ sizeLine ∧ ∀ p, H1 p = none → Q (.ref p) (upd H1 p (.tup xs))
noncomputable def tLst (t : TA) : TE := fun σ H Q => t σ H fun xs H1 => xs.length ≤ sizeLine ∧ ∀ p, H1 p = none → Q (.ref p) (upd H1 p (.lst xs))
theorem pe_tup {x1} (h : PA X es t) : PE X (.Tuple es x1 pos) (tTup t) := by
  intro pins s σ H Q I hq
  refine wpAny_Tuple_spliced (thn (h pos pins s σ H _ I hq) fun us s1 ⟨xs, H1, I1, r, z, q⟩ => ⟨by rw [← r.length]; exact z, ?_⟩)
  have hf : H1 s1.heap.objs.size = none := I1.hok.fresh (Nat.le_refl _)
  refine ⟨.ref s1.heap.objs.size, upd H1 s1.heap.objs.size (.tup xs), I1.laid (t' := s1.toks) (fun b u e => Heap.get?_push_of_some _ e) (Nat.le_refl _) ?_, rfl, q _ hf⟩
  exact ⟨z, us, r, ⟨_, Heap.get?_push_size _ rfl, rfl, _, rfl⟩⟩
theorem pe_lst (h : PA X es t) : PE X (.List es pos) (tLst t) := by
  intro pins s σ H Q I hq
  refine wpAny_List_spliced (thn (h pos pins s σ H _ I hq) fun us s1 ⟨xs, H1, I1, r, z, q⟩ => ⟨by rw [← r.length]; exact z, ?_⟩)
  have hf : H1 s1.heap.objs.size = none := I1.hok.fresh (Nat.le_refl _)
  refine ⟨.ref s1.heap.objs.size, upd H1 s1.heap.objs.size (.lst xs), I1.laid (t' := s1.toks) (fun b u e => Heap.get?_push_of_some _ e) (Nat.le_refl _) ?_, rfl, q _ hf⟩
  exact ⟨z, us, 0, r, Heap.get?_push_size _ rfl⟩
end



noncomputable abbrev Sp := List V → Hp → VK → XK → Prop

noncomputable abbrev CXT := List Env → Hp → Shared → XK → Value → Shared → Prop


structure Env0 (P : Program) (w : World) (K : PySem.W.Frag) (mg : Str → Option Value) (base : Heap) (A : Around) (outer : List Env) (s : Shared) (H : Hp) : Prop where
  frames : A.frames = some outer
  mod : Mod K mg base
  bs : ∀ b o, base.get? b = some o → s.heap.get? b = some o ∧ H b = none
  bsz : base.objs.size ≤ s.heap.objs.size
  funs : s.heap.FunFrames base outer
  frf : ∀ b ∈ frs outer, H b = none
  hok : HOk P w H s.heap
  bare : AllBare s.gens

noncomputable def CE (outer : List Env) (P : Program) (w : World) (H : Hp) (s : Shared) (Q : VK) (u : Value) (s' : Shared) : Prop :=
  ∃ v H', s'.os = s.os ∧ AllBare s'.gens ∧ Un (frs outer) [] H H' s.heap s'.heap ∧ HOk P w H' s'.heap ∧ RelV v u ∧ Q v H'
noncomputable def CR (CX : CXT) (outer : List Env) (P : Program) (w : World) (H : Hp) (s : Shared) (Q : VK) (E : XK) (r : Result) (s' : Shared) : Prop :=
  match r with
  | .ok (.ret u) => CE outer P w H s Q u s'
  | .ok _ => False
  | .error e => CX outer H s E e s'
structure FnOk (P : Program) (w : World) (K : PySem.W.Frag) (mg : Str → Option Value) (base : Heap) (CX : CXT) (k : Nat) (f : Addr) (fd : FuncData) (ps : List Str) (sp : Sp) : Prop where
  len : ∀ vs H Q E, sp vs H Q E → vs.length = ps.length
  run : ∀ (A : Around) (outer : List Env) (s : Shared) (H : Hp) (args : Args) (us : List Value) (vs : List V) (Q : VK) (E : XK), Room k A → Env0 P w K mg base A outer s H → BindsTo s fd args (ps.zip us) → Vals vs us → sp vs H Q E →
    codeAny (model P w) A (.call (.ref f) args) (CR CX outer P w H s Q E) s
theorem FnOk.mono {P : Program} {w : World} {K : PySem.W.Frag} {mg : Str → Option Value} {base : Heap} {CX : CXT} {j k : Nat} {f : Addr} {fd : FuncData} {ps : List Str} {sp : Sp} (F : FnOk P w K mg base CX j f fd ps sp) (h : j ≤ k) :
    FnOk P w K mg base CX k f fd ps sp := ⟨F.len, fun A outer s H args us vs Q E hr => F.run A outer s H args us vs Q E (hr.mono h)⟩

theorem FnOk.imp {P : Program} {w : World} {K : PySem.W.Frag} {mg : Str → Option Value} {base : Heap} {CX : CXT} {k : Nat} {f : Addr} {fd : FuncData} {ps : List Str} {sp sp' : Sp} (F : FnOk P w K mg base CX k f fd ps sp)
    (h : ∀ vs H Q E, sp' vs H Q E → sp vs H Q E) : FnOk P w K mg base CX k f fd ps sp' :=
  ⟨fun vs H Q E q => F.len vs H Q E (h _ _ _ _ q), fun A outer s H args us vs Q E hr he hb hv hs => F.run A outer s H args us vs Q E hr he hb hv (h _ _ _ _ hs)⟩

theorem Env0.in1 {P : Program} {w : World} {K : PySem.W.Frag} {mg : Str → Option Value} {base : Heap} {A : Around} {outer : List Env} {s : Shared} {H : Hp} (e : Env0 P w K mg base A outer s H) :
    Env0 P w K mg base A.in1 outer s H := ⟨e.frames, e.mod, e.bs, e.bsz, e.funs, e.frf, e.hok, e.bare⟩

section
variable {X : Cx} {pins : List (Addr × Obj)} {σ : St} {H : Hp} {s s' : Shared}

theorem Inv.env0 (I : Inv X pins σ H s) : Env0 X.prog X.w X.K X.mg X.base X.A X.stack s H :=
  ⟨I.ok.frames, I.ok.mod, I.bs, Nat.le_trans I.ok.bsz I.sz, I.stack, I.stkFree, I.hok, I.bare⟩

theorem Inv.after {Q : VK} {u : Value} (I : Inv X pins σ H s) (h : CE X.stack X.prog X.w H s Q u s') : EP X pins σ Q u s' := by
  obtain ⟨v, H', os, bare, un, hok, r, q⟩ := h
  obtain ⟨hh, g, d, t, os'⟩ := s'
  obtain rfl : os' = s.os := os
  exact ⟨v, H', I.call (h' := hh) (g' := g) (d' := d) (t' := t) (ch := []) un hok bare (fun b z => absurd z (by simp)), r, q⟩
end



noncomputable def Binds (K : PySem.W.Frag) (fd : FuncData) (ps : List Str) (ds : List Value) : Prop :=
  ∀ (s : Shared) (us : List Value), K.In s.heap → (us ++ ds).length = ps.length → BindsTo s fd ⟨us, []⟩ (ps.zip (us ++ ds))

theorem Binds.all {K : PySem.W.Frag} {fd : FuncData} {ps : List Str} (h : ∀ us : List Value, us.length = ps.length → bindArgs fd ⟨us, []⟩ = pure (ps.zip us)) : Binds K fd ps [] := fun s us _ hl => by
  rw [List.append_nil] at hl ⊢
  exact .of_eq (h us hl)


noncomputable def Passes (CX : CXT) (X : Cx) (E : XK) : Prop := ∀ (pins : List (Addr × Obj)) (σ : St) (H : Hp) (s : Shared) (e : Value) (s' : Shared), Inv X pins σ H s → CX X.stack H s E e s' → X.xe e s'

section
variable {X : Cx} {CX : CXT} {k : Nat} {f C : Addr} {fd : FuncData} {ps : List Str} {sp : Sp} {dvs : List V} {ds : List Value} {E : XK} {x m : Str} {p pos apos : Pos} {e o : Expr} {es : List Expr} {ta : TE} {t : TA}


structure Mk (K : PySem.W.Frag) (C f : Addr) : Prop where
  makes : PySem.W.makesIn K C = true
  init : PySem.W.findIn K (.ref C) "__init__" = some (some (.ref f))
  fn : PySem.W.isFn K (.ref f) = true
  kp : PySem.W.keepIn K (.ref C) = true

end


section
variable {X : Cx} {CX : CXT} {k : Nat} {f C : Addr} {fd : FuncData} {ps ks : List Str} {sp : Sp} {E : XK} {x m : Str} {p pos apos kpos : Pos} {e o : Expr} {es : List Expr} {kws : List Keyword} {te ta : TE} {t tk : TA} {nm : Option Str}

structure KBinds (K : PySem.W.Frag) (fd : FuncData) (ps ks : List Str) (g : List Value → List Value → List Value) (gV : List V → List V → List V) : Prop where
  to : ∀ (s : Shared) (us ws : List Value), K.In s.heap → (g us ws).length = ps.length → BindsTo s fd ⟨us, ks.zip ws⟩ (ps.zip (g us ws))
  rel : ∀ {vs : List V} {us : List Value} {zs : List V} {ws : List Value}, Vals vs us → Vals zs ws → Vals (gV vs zs) (g us ws)
variable {g : List Value → List Value → List Value} {gV : List V → List V → List V}
end



structure FnScope (N P : List Str) (sc : Scope) : Prop where
  kind : sc.kind = .function
  co : sc.isCoroutine = false
  gen : sc.isGenerator = false
  nd : N.Nodup
  pre : N.take P.length = P
  par : ∀ x ∈ P, sc.names.lookup x = some .local ∨ sc.names.lookup x = some .cell
  nofree : ∀ y ∈ sc.names, y.2 ≠ .free

theorem bindL_out {kindOf : Str → Option NameKind} {x : Str} : ∀ {binds : List (Str × Value)} {m : Str → Option Value}, (∀ v, (x, v) ∉ binds) → bindL kindOf binds m x = m x
  | [], _, _ => rfl
  | (n, v) :: r, m, h => by
    unfold bindL
    rw [bindL_out fun w hw => h w (List.mem_cons_of_mem _ hw)]
    split
    · have : x ≠ n := by rintro rfl; exact h v List.mem_cons_self
      simp [this]
    · rfl
theorem bindC_out {kindOf : Str → Option NameKind} {x : Str} : ∀ {binds : List (Str × Value)} {m : Str → Option Value}, (∀ v, (x, v) ∉ binds) → bindC kindOf binds m x = m x
  | [], _, _ => rfl
  | (n, v) :: r, m, h => by
    unfold bindC
    rw [bindC_out fun w hw => h w (List.mem_cons_of_mem _ hw)]
    split
    · rfl
    · have : x ≠ n := by rintro rfl; exact h v List.mem_cons_self
      simp [this]
theorem bindL_get {kindOf : Str → Option NameKind} {x : Str} {v : Value} : ∀ {P : List Str} {vs : List Value} {i : Nat} {m : Str → Option Value}, P.Nodup → P[i]? = some x → vs[i]? = some v → kindOf x = some .local →
    bindL kindOf (P.zip vs) m x = some v
  | [], _, _, _, _, h, _, _ => by simp at h
  | _ :: _, [], _, _, _, _, h, _ => by simp at h
  | p :: P, w :: vs, 0, m, nd, h1, h2, hk => by
    simp at h1 h2; subst h1; subst h2
    show bindL kindOf ((p, w) :: P.zip vs) m p = _
    unfold bindL
    rw [bindL_out fun v hv => (List.nodup_cons.mp nd).1 (List.of_mem_zip hv).1, if_pos hk]
    simp
  | p :: P, w :: vs, i + 1, m, nd, h1, h2, hk => by
    show bindL kindOf ((p, w) :: P.zip vs) m x = _
    unfold bindL
    exact bindL_get (i := i) (List.nodup_cons.mp nd).2 (by simpa using h1) (by simpa using h2) hk
theorem bindC_get {kindOf : Str → Option NameKind} {x : Str} {v : Value} : ∀ {P : List Str} {vs : List Value} {i : Nat} {m : Str → Option Value}, P.Nodup → P[i]? = some x → vs[i]? = some v → kindOf x ≠ some .local →
    bindC kindOf (P.zip vs) m x = some v
  | [], _, _, _, _, h, _, _ => by simp at h
  | _ :: _, [], _, _, _, _, h, _ => by simp at h
  | p :: P, w :: vs, 0, m, nd, h1, h2, hk => by
    simp at h1 h2; subst h1; subst h2
    show bindC kindOf ((p, w) :: P.zip vs) m p = _
    unfold bindC
    rw [bindC_out fun v hv => (List.nodup_cons.mp nd).1 (List.of_mem_zip hv).1, if_neg hk]
    simp
  | p :: P, w :: vs, i + 1, m, nd, h1, h2, hk => by
    show bindC kindOf ((p, w) :: P.zip vs) m x = _
    unfold bindC
    exact bindC_get (i := i) (List.nodup_cons.mp nd).2 (by simpa using h1) (by simpa using h2) hk


noncomputable def start (N : List Str) (vs : List V) : St := vs.map some ++ List.replicate (N.length - vs.length) none


noncomputable def cxOf (CX : CXT) (P : Program) (w : World) (K : PySem.W.Frag) (mg : Str → Option Value) (base : Heap) (N : List Str) (qual : Str) (scope : Scope) (f : Addr) (cd : Value) (A : Around) (outer : List Env) (s : Shared) (H : Hp) (E : XK) : Cx where
  prog := P
  w := w
  K := K
  mg := mg
  base := base
  A := A.deeper (envOfC qual scope s.heap.objs.size f cd)
  N := N
  s₀ := s
  H₀ := H
  env := envOfC qual scope s.heap.objs.size f cd
  outer := outer
  stack := envOfC qual scope s.heap.objs.size f cd :: outer
  ex := []
  calm := true
  fn := fun _ => true
  pn := []
  xe := fun e s' => wpAny (model P w) (A.deeper (envOfC qual scope s.heap.objs.size f cd)) (leaving (envOfC qual scope s.heap.objs.size f cd) e) (fun _ s'' => CX outer H s E e s'') (fun e' s'' => CX outer H s E e' s'') s'

theorem cell_has {sc : Scope} {n : Nat} {x : Str} (h : sc.names.lookup x = some .cell) : ∃ c, (cellsFrom n sc.names []).lookup x = some c := by
  have q := PySem.W.cellsFrom_some sc.names n [] (.inl h)
  exact Option.isSome_iff_exists.mp q

theorem inv_start {CX : CXT} {P : Program} {w : World} {K : PySem.W.Frag} {mg : Str → Option Value} {base : Heap} {N ps : List Str} {qual : Str} {scope : Scope} {f : Addr} {cd : Value} {A : Around} {outer : List Env} {s s1 : Shared} {H : Hp} {E : XK} {us : List Value} {vs : List V}
    (S : FnScope N ps scope) (hd : A.handled = none) (e0 : Env0 P w K mg base A outer s H) (hl : vs.length = ps.length) (r : Vals vs us)
    (x : InCallC s s.heap.objs.size (bindL (envOfC qual scope s.heap.objs.size f cd).kindOf (ps.zip us) fun _ => none) (cellsFrom (s.heap.objs.size + 1) scope.names []) (bindC (envOfC qual scope s.heap.objs.size f cd).kindOf (ps.zip us) fun _ => none) s1) :
    Inv (cxOf CX P w K mg base N qual scope f cd A outer s H E) [] (start N vs) H s1 := by
  have hpl : ps.length ≤ N.length := by have := congrArg List.length S.pre; rw [List.length_take] at this; omega
  obtain ⟨h1, tk, rfl, hk⟩ := x.done
  have noA : ∀ b : Addr, b ∉ (cxOf CX P w K mg base N qual scope f cd A outer s H E).ex := fun b z => absurd (show b ∈ ([] : List Addr) from z) (by simp)
  refine ⟨⟨e0.mod, S.kind, rfl, rfl, Nat.le_refl _, fun y z c h1 h2 => ?_, fun y hy => ?_, fun y c _ h => ?_, fun _ => hd, Around.frames_deeper e0.frames, .inr ⟨rfl, rfl⟩, fun b z => absurd z (noA b), e0.bs, e0.bsz, fun b _ _ => noA b, fun b z => absurd z (noA b), e0.funs, e0.frf⟩,
    rfl, e0.bare, Un.kept hk, ⟨_, x.toInCall.ns, fun i y v h1 h2 h3 => ?_⟩, fun y c h => ⟨_, x.cell y c h⟩, e0.hok.fresh (Nat.le_refl _), fun y c h => ?_, fun p hp => absurd (show p ∈ ([] : List (Addr × Obj)) from hp) (by simp), e0.hok.kept hk, ?_⟩
  · exact name_of_addr x.apart (PySem.mem_of_lookup h1) (PySem.mem_of_lookup h2)
  · have hy : scope.names.lookup y = some .cell ∨ scope.names.lookup y = some .free := hy
    rcases hy with hy | hy
    · exact cell_has hy
    · exact absurd rfl (S.nofree _ (PySem.mem_of_lookup hy))
  · exact Nat.le_of_lt (x.above y c (PySem.mem_of_lookup h))
  · have hi : i < vs.length := by
      unfold start at h2
      by_cases hi : i < vs.length
      · exact hi
      · rw [List.getElem?_append_right (by simpa using hi)] at h2
        rw [List.getElem?_replicate] at h2
        split at h2 <;> cases h2
    have ha : vs[i]? = some v := by
      unfold start at h2
      rw [List.getElem?_append_left (by simpa using hi), List.getElem?_map] at h2
      cases e : vs[i]? with
      | none => rw [e] at h2; cases h2
      | some a => rw [e] at h2; cases h2; rfl
    obtain ⟨u, hu, rv⟩ := r.get ha
    have hp : ps[i]? = some y := by
      rw [← S.pre, List.getElem?_take_of_lt (by omega)]; exact h1
    have ndP : ps.Nodup := by rw [← S.pre]; exact S.nd.sublist (List.take_sublist _ _)
    refine ⟨u, rv, ?_⟩
    rcases S.par y (List.mem_of_getElem? hp) with k | k
    · exact .inl ⟨k, bindL_get ndP hp hu k⟩
    · obtain ⟨c, e⟩ := cell_has (n := s.heap.objs.size + 1) k
      refine .inr ⟨.inl k, c, e, ?_⟩
      have q := x.cell y c e
      rw [bindC_get ndP hp hu (by show scope.names.lookup y ≠ _; rw [k]; decide)] at q
      exact q
  · exact e0.hok.fresh (Nat.le_of_lt (x.above y c (PySem.mem_of_lookup h)))
  · unfold start
    show _ = N.length
    rw [List.length_append, List.length_map, List.length_replicate]
    omega


theorem fn_of {CX : CXT} {P : Program} {w : World} {K : PySem.W.Frag} {mg : Str → Option Value} {base : Heap} {k : Nat} {f : Addr} {name qual : Str} {params : Arguments} {body : List Stmt} {scope : Scope} {dV kV doc pm cdv ct oc : Value} {an od : Option Addr}
    {osl : Array (Option Value)} {N ps : List Str} {sp : Sp} (lk : K.lookup f = some ⟨oc, od, .func (PySem.W.fnOf name qual params body scope dV kV doc pm an cdv ct), osl⟩) (hcd : PySem.W.codeIn K cdv qual = true) (S : FnScope N ps scope)
    (len : ∀ vs H Q E, sp vs H Q E → vs.length = ps.length)
    (hbody : ∀ (A : Around) (outer : List Env) (s : Shared) (H : Hp) (vs : List V) (Q : VK) (E : XK), Room k (A.deeper (envOfC qual scope s.heap.objs.size f cdv)) → sp vs H Q E →
      ∃ t, PSs (cxOf CX P w K mg base N qual scope f cdv A outer s H E) body t ∧ t { nx := fun _ H' => Q .non H', rt := Q } (start N vs) H) :
    FnOk P w K mg base CX (k + 1) f (PySem.W.fnOf name qual params body scope dV kV doc pm an cdv ct) ps sp := by
  refine ⟨len, fun A outer s H args us vs Q E hr e0 hb r hsp => ?_⟩
  have hl := len _ _ _ _ hsp
  have KX : K.In s.heap := e0.mod.kin.keeps fun b o e => (e0.bs b o e).1
  have lim : s.heap.NoLimit := e0.mod.nolimit.keeps fun b o e => (e0.bs b o e).1
  have hkind : ∀ y ∈ ps.zip us, scope.names.lookup y.1 = some .local ∨ (scope.names.lookup y.1 = some .cell ∧ ((cellsFrom (s.heap.objs.size + 1) scope.names []).lookup y.1).isSome = true) := fun ⟨n, v⟩ hy => by
    rcases S.par n (List.of_mem_zip hy).1 with q | q
    · exact .inl q
    · exact .inr ⟨q, PySem.W.cellsFrom_some _ _ _ (.inl q)⟩
  refine codeAny_call_function hr.depth (KX _ _ lk) rfl S.co S.gen rfl (PySem.W.codeRec_of KX hcd) (hb _ _ _ _ ?_)
  refine wpAny_newFunctionEnv_cells S.kind hkind fun env he s1 x => ?_
  subst he
  refine ⟨lim.keeps x.toInCall.keep, codeAny_func ?_⟩
  obtain ⟨t, ht, hq⟩ := hbody A outer s H vs Q E (hr.deeper _) hsp
  have I : Inv (cxOf CX P w K mg base N qual scope f cdv A outer s H E) [] (start N vs) H s1 := inv_start S hr.hd e0 hl r x
  refine wpAny_mono (ht [] s1 (start N vs) H _ I hq) (fun fl s' hs => ?_) fun e s' hs => hs
  have fin : ∀ {σ' : St} {H' : Hp} {v : V} {u : Value}, Inv (cxOf CX P w K mg base N qual scope f cdv A outer s H E) [] σ' H' s' → RelV v u → Q v H' → CE outer P w H s Q u s' :=
    fun {σ' H' v u} J rv q => ⟨v, H', J.os, J.bare, J.base, J.hok, rv, q⟩
  cases fl with
  | ret u =>
    obtain ⟨v, σ', H', J, rv, q⟩ := hs
    exact fin J rv q
  | next =>
    obtain ⟨σ', H', J, q⟩ := hs
    exact fin (v := V.non) (u := Value.none) J rfl q
  | brk =>
    obtain ⟨_, _, _, q⟩ := hs
    exact False.elim q
  | cont =>
    obtain ⟨_, _, _, q⟩ := hs
    exact False.elim q
end L2

namespace L2
open PySem PySem.Spec PyProof.Rows
section
variable {X : Cx} {x : Str} {p pos : Pos} {e : Expr} {es : List Expr} {t : TA} {id T : String} {r : List V → Hp → VK → Prop}

noncomputable def tCB (r : List V → Hp → VK → Prop) (t : TA) : TE := fun σ H Q => t σ H fun vs H1 => r vs H1 Q

theorem pe_callB (hc : CallR X (.builtin id) r) (hg : Gl X x) (hm : X.mg x = none) (hv : bootBuiltins x = some (.builtin id)) (ha : PA X (e :: es) t) (hn : x ≠ "__name__" := by decide) (hdb : (x == ("__debug__" : Str)) = false := by decide)
    (he : starEach (e :: es) X.env = (false, eval e X.env) :: starEach es X.env := by rfl) (hpl : (backTo pos (starEach es X.env)).any (·.1) = false := by rfl) : PE X (.Call (.Name x p) (e :: es) [] pos) (tCB r t) := by
  intro pins s σ H Q I h
  refine wpAny_Call_Name_kw (ld_blt I hg hm hv ?_ hn hdb)
  exact PyProof.Rows.callWith_builtin1 (thn (ha pos pins s σ H _ I h) fun us s1 ⟨vs, H1, I1, r1, q1⟩ => hc pins s1 σ H1 vs us Q I1 r1 q1) he hpl

theorem pe_callTy (hc : CallR X (.type T) r) (hg : Gl X x) (hm : X.mg x = none) (hv : bootBuiltins x = some (.type T)) (ha : PA X (e :: es) t) (hn : x ≠ "__name__" := by decide) (hdb : (x == ("__debug__" : Str)) = false := by decide)
    (he : starEach (e :: es) X.env = (false, eval e X.env) :: starEach es X.env := by rfl) (hpl : (backTo pos (starEach es X.env)).any (·.1) = false := by rfl) : PE X (.Call (.Name x p) (e :: es) [] pos) (tCB r t) := by
  intro pins s σ H Q I h
  refine wpAny_Call_Name_kw (ld_blt I hg hm hv ?_ hn hdb)
  exact PyProof.Rows.callWith_type1 (thn (ha pos pins s σ H _ I h) fun us s1 ⟨vs, H1, I1, r1, q1⟩ => hc pins s1 σ H1 vs us Q I1 r1 q1) he hpl
end
end L2

namespace HT
open PySem PyProof.Rows

section
open PySem.SeqAt
open PySem.AutoSeq1 (wpAny_loadPart')
open PySem.MeetsSeq PySem.MeetsSeq2 PySem.MeetsSeq3

end

section
variable {prog : Program} {w : World} {A : Around} {E : Value → Shared → Prop} {s : Shared}


theorem cat_tup {t b : Addr} {vs ws : List Value} {Q : Value → Shared → Prop} (ht : IsTup s.heap t vs.toArray) (hb : IsTup s.heap b ws.toArray) (hv : vs ≠ [])
    (h1 : ws = [] → Q (.ref t) s) (h2 : ws ≠ [] → Q (.ref s.heap.objs.size) { s with heap := s.heap.push { cls := .type "tuple", data := .seq (vs ++ ws).toArray } })
    (hsz : vs.length + ws.length ≤ sizeLine) : wpAny (model prog w) A (binaryOp .Add (.ref t) (.ref b)) Q E s := by
  obtain ⟨⟨cls, dd, data, sl⟩, ho, hc, n, hd⟩ := id ht
  obtain ⟨⟨cls2, dd2, data2, sl2⟩, ho2, hc2, n2, hd2⟩ := id hb
  simp only at hc hd hc2 hd2
  subst hc hd hc2 hd2
  have e : vs.toArray ++ ws.toArray = (vs ++ ws).toArray := by simp
  by_cases hw : ws = []
  · exact concat_meets ⟨_, ho, rfl⟩ ⟨_, ho2, rfl⟩ noFill_tuple_add seq_tuple_add PySem.F.slot_tuple_add PySem.F.entry_tuple_add (PySem.F.args_tuple_add_2 _ _)
      (tuple_addW1 t b vs.toArray ws.toArray n n2 dd dd2 sl sl2 (by simpa using hv) (by simp [hw])) ⟨ho, ho2, h1 hw⟩
  · refine concat_meets ⟨_, ho, rfl⟩ ⟨_, ho2, rfl⟩ noFill_tuple_add seq_tuple_add PySem.F.slot_tuple_add PySem.F.entry_tuple_add (PySem.F.args_tuple_add_2 _ _)
      (tuple_addW2 t b vs.toArray ws.toArray n n2 dd dd2 sl sl2 (by simpa using hv) (by simpa using hw) (by rw [List.size_toArray, List.size_toArray]; exact hsz)) ⟨ho, ho2, ?_⟩
    rw [e]
    exact h2 hw



noncomputable def sIx (n d : Nat) : Option Int → Nat
  | none => d
  | some v => if v < 0 then (v + (n : Int)).toNat else min v.toNat n
theorem sIx_none (n d : Nat) : sIx n d none = d := rfl
theorem sIx_nat (n d k : Nat) : sIx n d (some (k : Int)) = min k n := by
  show (if (k : Int) < 0 then ((k : Int) + (n : Int)).toNat else min (k : Int).toNat n) = min k n
  rw [if_neg (by omega), Int.toNat_natCast]
theorem sIx_le (n d : Nat) (hd : d ≤ n) (o : Option Int) : sIx n d o ≤ n := by
  cases o with
  | none => exact hd
  | some v =>
    show (if v < 0 then (v + (n : Int)).toNat else min v.toNat n) ≤ n
    by_cases hv : v < 0
    · rw [if_pos hv]; omega
    · rw [if_neg hv]; exact Nat.min_le_right _ _
theorem clip_eq (v : Int) (n d : Nat) : (if v < 0 then max (v + (n : Int)) 0 else min v (n : Int)) = ((sIx n d (some v) : Nat) : Int) := by
  show (if v < 0 then max (v + (n : Int)) 0 else min v (n : Int)) = (((if v < 0 then (v + (n : Int)).toNat else min v.toNat n) : Nat) : Int)
  by_cases hv : v < 0
  · simp only [if_pos hv]; omega
  · simp only [if_neg hv]; omega
theorem adjust_gen (lo hi : Option Int) (n : Nat) : Builtin.Slice.sliceAdjust lo hi 1 (n : Int) = (((sIx n 0 lo : Nat) : Int), ((sIx n n hi : Nat) : Int)) := by
  have h1 : ¬ ((1 : Int) < 0) := by omega
  unfold Builtin.Slice.sliceAdjust
  simp only [h1, if_false]
  refine Prod.ext ?_ ?_
  · cases lo with
    | none => rfl
    | some v => exact clip_eq v n 0
  · cases hi with
    | none => rfl
    | some v => exact clip_eq v n n
theorem places_gen (i j : Nat) : Builtin.Slice.slicePlaces (i : Int) (j : Int) 1 = j - i := by
  unfold Builtin.Slice.slicePlaces
  have h1 : (1 : Int) > 0 := by omega
  simp only [h1, if_true, Int.ediv_one]
  split <;> omega
theorem slicePart_ {v : Value} {o : Option Int} {Q : Option Int → Shared → Prop} (p : IsPart v o) (h : Q o s) : wpAny (model prog w) A (Builtin.Slice.slicePartIndex v) Q E s := by
  cases p with
  | none => exact slicePart_none h
  | int i t => exact slicePart_int h
theorem sliceApplied_gen {sl : Addr} {vl vu : Value} {lo hi : Option Int} {n : Nat} {Q : Int × Int × Nat → Shared → Prop} (hs : s.heap.IsSliceOf sl vl vu .none) (pl : IsPart vl lo) (pu : IsPart vu hi)
    (h : Q (((sIx n 0 lo : Nat) : Int), 1, sIx n n hi - sIx n 0 lo) s) : wpAny (model prog w) A (Builtin.Slice.sliceApplied (.ref sl) (pure (n : Int))) Q E s := by
  obtain ⟨os, hos, hcs, hds⟩ := id hs
  unfold Builtin.Slice.sliceApplied Builtin.Slice.sliceFields
  refine wpAny_bind (wpAny_bind (wpAny_field hos hds (x := vl) rfl (wpAny_bind (wpAny_field hos hds (x := vu) rfl (wpAny_bind (wpAny_field hos hds (x := .none) rfl (wpAny_pure ?_)))))))
  refine wpAny_bind (slicePart_none ?_)
  show wpAny _ _ (if ((1 : Int) == 0) = true then _ else _) _ _ s
  rw [if_neg (by decide)]
  refine wpAny_bind (slicePart_ pl (wpAny_bind (slicePart_ pu (wpAny_bind (wpAny_pure ?_)))))
  show wpAny _ _ (match Builtin.Slice.sliceAdjust lo hi 1 (n : Int) with | (lo, hi) => pure (lo, (1 : Int), Builtin.Slice.slicePlaces lo hi 1)) _ _ s
  rw [adjust_gen lo hi n]
  show wpAny _ _ (pure (((sIx n 0 lo : Nat) : Int), (1 : Int), Builtin.Slice.slicePlaces ((sIx n 0 lo : Nat) : Int) ((sIx n n hi : Nat) : Int) 1)) _ _ s
  rw [places_gen]
  exact wpAny_pure h
theorem pick_gen (xs : Array Value) (i k : Nat) : ((List.range k).filterMap fun (m : Nat) => xs[((i : Int) + (m : Int) * 1).toNat]?).toArray = ((xs.toList.drop i).take k).toArray := by
  have e : (fun (m : Nat) => xs[((i : Int) + (m : Int) * 1).toNat]?) = fun m => xs[i + m]? := by
    funext m
    have : ((i : Int) + (m : Int) * 1).toNat = i + m := by omega
    rw [this]
  rw [e]
  have := pick_run xs i k
  rw [List.filterMap_map] at this
  have e2 : ((fun x => xs[x]?) ∘ fun x => i + x) = fun m => xs[i + m]? := rfl
  rw [e2] at this
  rw [this]

theorem getItem_tuple_cut {t sl : Addr} {items : Array Value} {vl vu : Value} {lo hi : Option Int} {Q : Value → Shared → Prop} (ht : IsTup s.heap t items) (hs : s.heap.IsSliceOf sl vl vu .none) (pl : IsPart vl lo) (pu : IsPart vu hi)
    (hw : ¬ (sIx items.size 0 lo = 0 ∧ sIx items.size items.size hi = items.size))
    (h : Q (.ref s.heap.objs.size) { s with heap := s.heap.push { cls := .type "tuple", data := .seq ((items.toList.drop (sIx items.size 0 lo)).take (sIx items.size items.size hi - sIx items.size 0 lo)).toArray } })
    (hsz : items.size ≤ sizeLine) : wpAny (model prog w) A (getItem (.ref t) (.ref sl)) Q E s := by
  have htake : sizeOk (.seq ((items.toList.drop (sIx items.size 0 lo)).take (sIx items.size items.size hi - sIx items.size 0 lo)).toArray) := by
    show ((items.toList.drop (sIx items.size 0 lo)).take (sIx items.size items.size hi - sIx items.size 0 lo)).toArray.size ≤ sizeLine
    rw [List.size_toArray, List.length_take, List.length_drop, Array.length_toList]
    omega
  have hj : sIx items.size items.size hi ≤ items.size := sIx_le _ _ (Nat.le_refl _) hi
  obtain ⟨os, hos, hcs, hds⟩ := id hs
  have hTs : s.TypeIs (.ref sl) "slice" := ⟨os, hos, hcs⟩
  unfold getItem
  try with_reducible refine wpAny_holding ?_
  first | refine wpAny_bind (wpAny_pure ?_) | skip
  refine wpAny_bind (wpAny_sequenceKey ht.typeIs (by decide) ?_)
  refine wpAny_bind (wpAny_callSpecial?_slot (name := Str.ofString "__getitem__") ht.typeIs PyProof.Rows.slot_tuple_getitem
    (wpAny_call_entry PyProof.Rows.slot_tuple_getitem ht.typeIs entry_tuple_getitem ?_ (args_tuple_getitem _ _)))
  show wpAny _ _ (Builtin.Tuple.tupleItemsOf (.ref t) >>= _) _ _ s
  refine wpAny_bind (tupleItemsOf_ ht ?_)
  refine wpAny_bind (wpAny_typeOf hTs ?_)
  rw [if_pos (by decide)]
  refine wpAny_bind (sliceApplied_gen hs pl pu ?_)
  have hno : ¬ ((((sIx items.size 0 lo : Nat) : Int) == 0 && (1 : Int) == 1 && (sIx items.size items.size hi - sIx items.size 0 lo) == items.size) = true) := by
    intro q
    rw [Bool.and_eq_true, Bool.and_eq_true] at q
    have q1 : ((sIx items.size 0 lo : Nat) : Int) = 0 := eq_of_beq q.1.1
    have q2 : sIx items.size items.size hi - sIx items.size 0 lo = items.size := eq_of_beq q.2
    exact hw ⟨by omega, by omega⟩
  show wpAny _ _ (if (((sIx items.size 0 lo : Nat) : Int) == 0 && (1 : Int) == 1 && (sIx items.size items.size hi - sIx items.size 0 lo) == items.size) = true then _ else _) _ _ s
  rw [if_neg hno, pick_gen]
  first
    | exact wpAny_bind (m := Builtin.Tuple.tupleExact _) (wpAny_newObj_type (wpAny_pure ⟨_, rfl, wpAny_pure h⟩) htake)
    | exact wpAny_bind (m := Builtin.Tuple.tupleExact _) (wpAny_newObj_type (wpAny_bind (wpAny_pure (wpAny_pure ⟨_, rfl, wpAny_pure h⟩))) htake)
    | exact wpAny_bind (wpAny_bind (m := Builtin.Tuple.tupleExact _) (wpAny_newObj_type (wpAny_pure (wpAny_pure ⟨_, rfl, wpAny_pure h⟩)) htake))
    | exact wpAny_bind (wpAny_bind (m := Builtin.Tuple.tupleExact _) (wpAny_newObj_type (wpAny_pure ⟨_, rfl, wpAny_pure h⟩) htake))
end
end HT

namespace L2
open PySem PySem.Spec PyProof.Rows


noncomputable abbrev TO := St → Hp → (Option Int → Hp → Prop) → Prop

noncomputable def PO (X : Cx) (e : Option Expr) (t : TO) : Prop :=
  ∀ (pins : List (Addr × Obj)) (s : Shared) (σ : St) (H : Hp) (Q : Option Int → Hp → Prop), Inv X pins σ H s → t σ H Q →
    wpAny (model X.prog X.w) X.A (evalPart e X.env) (fun u s' => ∃ o H', Inv X pins σ H' s' ∧ IsPart u o ∧ Q o H') X.xe s
noncomputable def tNoPart : TO := fun _ H Q => Q none H
theorem intsAre_of {ns : List Int} : ∀ {us : List Value}, Vals (ns.map V.int) us → IntsAre us ns := by
  induction ns with
  | nil => intro us r; rw [List.map_nil] at r; cases r; exact .nil
  | cons n ns ih =>
    intro us r
    rw [List.map_cons] at r
    cases r with
    | cons r1 r2 =>
      obtain ⟨t, e⟩ := r1
      subst e
      exact .cons n t (ih r2)

section
variable {X : Cx} {e : Expr} {te : TE} {lo hi : Option Expr} {tl th : TO} {pos p2 : Pos}

theorem po_none : PO X none tNoPart := by
  intro pins s σ H Q I h
  rw [evalPart_none]
  exact wpAny_pure ⟨none, H, I, .none, h⟩

noncomputable def SlR (X : Cx) (r : V → Option Int → Option Int → Hp → VK → Prop) : Prop :=
  ∀ (pins : List (Addr × Obj)) (s : Shared) (σ : St) (H : Hp) (x : V) (v vl vu : Value) (lo hi : Option Int) (sl : Addr) (Q : VK), Inv X pins σ H s → RelV x v → s.heap.IsSliceOf sl vl vu .none → IsPart vl lo → IsPart vu hi → r x lo hi H Q →
    ∃ T id, typeLookup (.type T) "__getitem__" = pure (some (.builtin id)) ∧ s.TypeIs v T ∧ wpAny (model X.prog X.w) X.A (getItem v (.ref sl)) (EP X pins σ Q) X.xe s
theorem SlR.or {r r' : V → Option Int → Option Int → Hp → VK → Prop} (h : SlR X r) (h' : SlR X r') : SlR X (fun x lo hi H Q => r x lo hi H Q ∨ r' x lo hi H Q) := by
  intro pins s σ H x v vl vu lo hi sl Q I rx hs pl pu q
  rcases q with q | q
  · exact h pins s σ H x v vl vu lo hi sl Q I rx hs pl pu q
  · exact h' pins s σ H x v vl vu lo hi sl Q I rx hs pl pu q
noncomputable def tSl (r : V → Option Int → Option Int → Hp → VK → Prop) (te : TE) (tl th : TO) : TE := fun σ H Q => te σ H fun x H1 => tl σ H1 fun l H2 => th σ H2 fun u H3 => r x l u H3 Q

theorem pe_slice {r : V → Option Int → Option Int → Hp → VK → Prop} (hr : SlR X r) (he : PE X e te) (hl : PO X lo tl) (hu : PO X hi th) : PE X (.Subscript e (.Slice lo hi none p2) pos) (tSl r te tl th) := by
  intro pins s σ H Q I h
  refine Subscript_ (thn (he pins s σ H _ I h) fun v s1 ⟨x, H1, I1, r1, q1⟩ => ?_)
  refine wpAny_Slice (thn (hl pins s1 σ H1 _ I1 q1) fun vl s2 ⟨l, H2, I2, pl, q2⟩ => thn (hu pins s2 σ H2 _ I2 q2) fun vu s3 ⟨u, H3, I3, pu, q3⟩ => ?_)
  rw [evalPart_none]
  refine wpAny_pure ?_
  have I4 : Inv X pins σ H3 { s3 with heap := s3.heap.push { cls := .type "slice", data := .fields #[vl, vu, .none] } } := I3.kept (t' := s3.toks) fun b ob q => Heap.get?_push_of_some _ q
  obtain ⟨T, id, hT, ht, hg⟩ := hr pins { s3 with heap := s3.heap.push { cls := .type "slice", data := .fields #[vl, vu, .none] } } σ H3 x v vl vu l u s3.heap.objs.size Q I4 r1 (Heap.IsSliceOf.new ..) pl pu q3
  show wpAny (model X.prog X.w) X.A (subscriptTail e (.Slice lo hi none p2) v (.ref s3.heap.objs.size)) (EP X pins σ Q) X.xe { s3 with heap := s3.heap.push { cls := .type "slice", data := .fields #[vl, vu, .none] } }
  exact tail_any (ops := [.ref s3.heap.objs.size, v]) ht hT hg (by with_unfolding_all rfl)


noncomputable def cutV (xs : List V) (lo hi : Option Int) : List V := (xs.drop (HT.sIx xs.length 0 lo)).take (HT.sIx xs.length xs.length hi - HT.sIx xs.length 0 lo)
theorem cutV_length (xs : List V) (lo hi : Option Int) : (cutV xs lo hi).length ≤ xs.length := by
  unfold cutV
  rw [List.length_take, List.length_drop]
  omega

noncomputable def rSlT (K : PySem.W.Frag) : V → Option Int → Option Int → Hp → VK → Prop := fun x lo hi H Q => ∃ a xs, x = .ref a ∧ SqT K H a xs ∧
  ¬ (HT.sIx xs.length 0 lo = 0 ∧ HT.sIx xs.length xs.length hi = xs.length) ∧ ∀ p, H p = none → Q (.ref p) (upd H p (.tup (cutV xs lo hi)))
theorem sl_tup : SlR X (rSlT X.K) := by
  intro pins s σ H x v vl vu lo hi sl Q I rx hs pl pu h
  obtain ⟨a, xs, rfl, hx, hw, q⟩ := h
  cases rx
  obtain ⟨its, r, ht, hz⟩ := I.tuple hx
  have hlen : its.toArray.size = xs.length := by rw [List.size_toArray]; exact r.length.symm
  refine ⟨"tuple", _, PyProof.Rows.slot_tuple_getitem.lookup, ht.typeIs, ?_⟩
  refine HT.getItem_tuple_cut ht hs pl pu (by rw [hlen]; exact hw) ?_ (by rw [hlen]; exact hz)
  rw [hlen]
  refine ⟨.ref s.heap.objs.size, _, I.laid (t' := s.toks) (o := .tup (cutV xs lo hi)) (fun b ob q => Heap.get?_push_of_some _ q) (Nat.le_refl _) ?_, rfl, q _ (I.hok.fresh (Nat.le_refl _))⟩
  exact ⟨Nat.le_trans (cutV_length xs lo hi) hz, _, (r.drop (HT.sIx xs.length 0 lo)).take (HT.sIx xs.length xs.length hi - HT.sIx xs.length 0 lo), IsTup.new _ _⟩



noncomputable def rCatT (K : PySem.W.Frag) : R2 := fun x y H Q => ∃ a b xs ys, x = .ref a ∧ y = .ref b ∧ SqT K H a xs ∧ SqT K H b ys ∧ xs ≠ [] ∧ xs.length + ys.length ≤ sizeLine ∧
  (ys = [] → Q (.ref a) H) ∧ (ys ≠ [] → ∀ p, H p = none → Q (.ref p) (upd H p (.tup (xs ++ ys))))
theorem Vals.nil_iff {xs : List V} {us : List Value} (r : Vals xs us) : us = [] ↔ xs = [] := by
  cases r with
  | nil => simp
  | cons _ _ => simp
theorem op_catT : OpR X (binaryOp .Add) (rCatT X.K) := by
  intro pins s σ H x y v u Q I rx ry h
  obtain ⟨a, b, xs, ys, rfl, rfl, ha, hb, hx, hz, q1, q2⟩ := h
  cases rx
  cases ry
  obtain ⟨its, r1, p1, _⟩ := I.tuple ha
  obtain ⟨its2, r2, p2, _⟩ := I.tuple hb
  refine HT.cat_tup p1 p2 (fun z => hx (r1.nil_iff.mp z)) (fun z => ⟨.ref a, H, I, rfl, q1 (r2.nil_iff.mp z)⟩) (fun z => ?_) (by rw [← r1.length, ← r2.length]; exact hz)
  refine ⟨.ref s.heap.objs.size, _, I.laid (t' := s.toks) (o := .tup (xs ++ ys)) (fun b ob q => Heap.get?_push_of_some _ q) (Nat.le_refl _) ?_, rfl, q2 (fun w => z (r2.nil_iff.mpr w)) _ (I.hok.fresh (Nat.le_refl _))⟩
  exact ⟨by rw [List.length_append]; exact hz, _, r1.append r2, IsTup.new _ _⟩
end
end L2

namespace L2
open PySem PySem.Spec PyProof.Rows



noncomputable def ixN (n : Nat) (i : Int) : Option Nat := if 0 ≤ i then (if i < n then some i.toNat else none) else if -(n : Int) ≤ i then some (i + n).toNat else none
noncomputable def atI {α : Type} (xs : List α) (i : Int) : Option α := (ixN xs.length i).bind fun j => xs[j]?
theorem ixN_seq {n : Nat} {i : Int} {j : Nat} (h : ixN n i = some j) : seqIndex? i n = some j ∧ j < n ∧ -(n : Int) ≤ i ∧ i < n := by
  unfold ixN at h
  by_cases h0 : 0 ≤ i
  · rw [if_pos h0] at h
    by_cases h1 : i < n
    · rw [if_pos h1] at h
      have e : i.toNat = j := Option.some.inj h
      exact ⟨by rw [seqIndex_of h0 h1, e], by omega, by omega, h1⟩
    · rw [if_neg h1] at h; cases h
  · rw [if_neg h0] at h
    by_cases h1 : -(n : Int) ≤ i
    · rw [if_pos h1] at h
      have e : (i + n).toNat = j := Option.some.inj h
      exact ⟨by rw [seqIndex_neg (by omega) h1, e], by omega, h1, by omega⟩
    · rw [if_neg h1] at h; cases h
theorem atI_get {α : Type} {xs : List α} {i : Int} {v : α} (h : atI xs i = some v) : ∃ j, seqIndex? i xs.length = some j ∧ xs[j]? = some v ∧ j < xs.length ∧ -(xs.length : Int) ≤ i ∧ i < xs.length := by
  unfold atI at h
  cases e : ixN xs.length i with
  | none => rw [e] at h; cases h
  | some j =>
    rw [e] at h
    obtain ⟨h1, h2, h3, h4⟩ := ixN_seq e
    exact ⟨j, h1, h, h2, h3, h4⟩
theorem atI_nat {α : Type} {xs : List α} {j : Nat} {v : α} (h : xs[j]? = some v) : atI xs (j : Int) = some v := by
  have hj : j < xs.length := (List.getElem?_eq_some_iff.mp h).1
  have e : ixN xs.length (j : Int) = some j := by
    unfold ixN
    rw [if_pos (by omega), if_pos (by omega)]; simp
  unfold atI; rw [e]; exact h


noncomputable def PlainIx (b : Expr) : Prop := ∀ o i, subscripted b false o i = operate [o, i] (getItem o i)

noncomputable def IxR (X : Cx) (r : R2) : Prop :=
  ∀ (value slice : Expr) (pins : List (Addr × Obj)) (s : Shared) (σ : St) (H : Hp) (x y : V) (v u : Value) (Q : VK), Inv X pins σ H s → RelV x v → RelV y u → r x y H Q →
    subscripted slice false v u = operate [v, u] (getItem v u) → wpAny (model X.prog X.w) X.A (subscriptTail value slice v u) (EP X pins σ Q) X.xe s

noncomputable def MtR (X : Cx) (id : String) (r : V → List V → Hp → VK → Prop) : Prop :=
  ∀ (pins : List (Addr × Obj)) (s : Shared) (σ : St) (H : Hp) (x : V) (xs : List V) (v : Value) (us : List Value) (Q : VK), Inv X pins σ H s → RelV x v → Vals xs us → r x xs H Q →
    wpAny (model X.prog X.w) X.A (call (.builtin id) (v :: us)) (EP X pins σ Q) X.xe s
section
variable {X : Cx} {a b : Expr} {ta tb : TE} {pos : Pos}
theorem IxR.or {r r' : R2} (h : IxR X r) (h' : IxR X r') : IxR X (fun x y H Q => r x y H Q ∨ r' x y H Q) := by
  intro value slice pins s σ H x y v u Q I rx ry q hs
  rcases q with q | q
  · exact h value slice pins s σ H x y v u Q I rx ry q hs
  · exact h' value slice pins s σ H x y v u Q I rx ry q hs
theorem MtR.or {id : String} {r r' : V → List V → Hp → VK → Prop} (h : MtR X id r) (h' : MtR X id r') : MtR X id (fun x xs H Q => r x xs H Q ∨ r' x xs H Q) := by
  intro pins s σ H x xs v us Q I rx rs q
  rcases q with q | q
  · exact h pins s σ H x xs v us Q I rx rs q
  · exact h' pins s σ H x xs v us Q I rx rs q

theorem pe_ix {r : R2} (hr : IxR X r) (ha : PE X a ta) (hb : PE X b tb) (hs : PlainIx b) : PE X (.Subscript a b pos) (tOp r ta tb) := by
  intro pins s σ H Q I h
  exact Subscript_ (binT ha hb I h fun v u s2 x y H2 I2 rx ry q => hr a b pins s2 σ H2 x y v u Q I2 rx ry q (hs _ _))

noncomputable def rIxL (K : PySem.W.Frag) : R2 := fun x y H Q => ∃ p xs i v, x = .ref p ∧ y = .int i ∧ SqL K H p xs ∧ atI xs i = some v ∧ Q v H
noncomputable def rIxT (K : PySem.W.Frag) : R2 := fun x y H Q => ∃ p xs i v, x = .ref p ∧ y = .int i ∧ SqT K H p xs ∧ atI xs i = some v ∧ Q v H
noncomputable def rIxS : R2 := fun x y H Q => ∃ z i c, x = .str z ∧ y = .int i ∧ z.length ≤ sizeLine ∧ atI z.cps.toList i = some c ∧ Q (.str ⟨#[c]⟩) H
theorem ix_list : IxR X (rIxL X.K) := by
  intro value slice pins s σ H x y v u Q I rx ry h hs
  obtain ⟨p, xs, i, z, rfl, rfl, hq, he, q⟩ := h
  cases rx
  obtain ⟨t, rfl⟩ := ry
  obtain ⟨its, r, pl, hz⟩ := I.list hq
  obtain ⟨j, h1, h2, h3, h4, h5⟩ := atI_get he
  obtain ⟨w, ew, rw'⟩ := r.get h2
  have hl := r.length
  have hn := line63
  have fin : EP X pins σ Q w s := ⟨z, H, I, rw', q⟩
  by_cases h0 : 0 ≤ i
  · have hj : i.toNat = j := by
      rw [seqIndex_of h0 h5] at h1
      exact Option.some.inj h1
    exact item_listR pl.isList h0 (by omega) (by rw [hj]; simpa using ew) fin hs
  · have hj : (i + (its.toArray.size : Int)).toNat = j := by
      rw [seqIndex_neg (by omega) h4] at h1
      rw [List.size_toArray, ← hl]
      exact Option.some.inj h1
    exact subscriptTail_builtinR (x := w) pl.isList.typeIs slot_list_getitem.lookup
      (wpAny_getItem_list_neg (Q := fun r s' => r = w ∧ EP X pins σ Q r s') pl.isList (by omega) (by rw [List.size_toArray] <;> omega) (by omega) (by rw [hj]; simpa using ew) ⟨rfl, fin⟩) hs
theorem ix_tup : IxR X (rIxT X.K) := by
  intro value slice pins s σ H x y v u Q I rx ry h hs
  obtain ⟨p, xs, i, z, rfl, rfl, hq, he, q⟩ := h
  cases rx
  obtain ⟨t, rfl⟩ := ry
  obtain ⟨its, r, pl, hz⟩ := I.tuple hq
  obtain ⟨j, h1, h2, h3, h4, h5⟩ := atI_get he
  obtain ⟨w, ew, rw'⟩ := r.get h2
  have hl := r.length
  have hn := line63
  have fin : EP X pins σ Q w s := ⟨z, H, I, rw', q⟩
  exact subscriptTail_builtinR (x := w) pl.typeIs slot_tuple_getitem.lookup
    (getItem_tuple (j := j) (Q := fun r s' => r = w ∧ EP X pins σ Q r s') pl (by omega) (by omega) (by rw [List.size_toArray, ← hl]; exact h1) (by simpa using ew) ⟨rfl, fin⟩) hs
theorem ix_str : IxR X rIxS := by
  intro value slice pins s σ H x y v u Q I rx ry h hs
  obtain ⟨z, i, c, rfl, rfl, hz, he, q⟩ := h
  obtain ⟨t, rfl⟩ := rx
  obtain ⟨t', rfl⟩ := ry
  obtain ⟨j, h1, h2, h3, h4, h5⟩ := atI_get he
  have hl : z.cps.toList.length = z.length := by simp [Str.length]
  rw [hl] at h1 h4 h5
  have hn := line63
  exact tail_any (typeIs_str s z t) slot_str_getitem.lookup (getItem_str (c := c) (by
    have e1 : decide (i < -(2 ^ 63 : Int)) = false := decide_eq_false (by omega)
    have e2 : decide (i ≥ 2 ^ 63) = false := decide_eq_false (by omega)
    rw [e1, e2, Bool.or_false]) (by rw [h1]; simpa using h2) ⟨.str ⟨#[c]⟩, H, I.tok _, ⟨_, rfl⟩, q⟩) hs


theorem mapSeq_set (its : List Value) (n j : Nat) (u : Value) : Obj.mapSeq (·.setIfInBounds j u) { cls := .type "list", data := .seq its.toArray n } = { cls := .type "list", data := .seq (its.set j u).toArray n } := by
  simp [Obj.mapSeq]
theorem Inv.lst {pins : List (Addr × Obj)} {σ : St} {H : Hp} {s : Shared} {p : Addr} {xs : List V} (I : Inv X pins σ H s) (h : H p = some (.lst xs)) :
    ∃ (its : List Value) (n : Nat), Vals xs its ∧ s.heap.get? p = some { cls := .type "list", data := .seq its.toArray n } ∧ xs.length ≤ sizeLine := by
  obtain ⟨z, its, n, r, e⟩ := I.hok p _ h
  exact ⟨its, n, r, e, z⟩

theorem Inv.lstUpd {pins : List (Addr × Obj)} {σ : St} {H : Hp} {s : Shared} {p : Addr} {xs ys : List V} {its its' : List Value} {n n' : Nat} {f : Obj → Obj} (I : Inv X pins σ H s) (h : H p = some (.lst xs))
    (ho : s.heap.get? p = some { cls := .type "list", data := .seq its.toArray n }) (hf : f { cls := .type "list", data := .seq its.toArray n } = { cls := .type "list", data := .seq its'.toArray n' }) (r : Vals ys its') (hz : ys.length ≤ sizeLine) (t : Nat) :
    Inv X pins σ (upd H p (.lst ys)) { s with heap := s.heap.update p f, toks := t } := by
  have e : (s.heap.update p f).get? p = some { cls := .type "list", data := .seq its'.toArray n' } := by
    rw [Heap.get?_update_self f ho (by rw [hf] <;> rfl), hf]
  refine I.write (x := p) (e := p) (by rw [h]; trivial) (.inl rfl) (fun b u hb q => (Heap.get?_update_other _ _ (Ne.symm hb)).trans q) ⟨_, e⟩ ?_
  exact ⟨hz, its', n', r, e⟩
noncomputable def rSetL : V → V → V → Hp → (Hp → Prop) → Prop := fun o i v H Q => ∃ p xs k j, o = .ref p ∧ i = .int k ∧ H p = some (.lst xs) ∧ ixN xs.length k = some j ∧ Q (upd H p (.lst (xs.set j v)))
theorem set_list : PSet X rSetL := by
  intro pins s σ H o i v ov iv u Q I ro ri rv h
  obtain ⟨p, xs, k, j, rfl, rfl, hp, hj, q⟩ := h
  cases ro
  obtain ⟨t, rfl⟩ := ri
  obtain ⟨its, n, r, ho, hz⟩ := I.lst hp
  obtain ⟨h1, h2, h3, h4⟩ := ixN_seq hj
  have hl := r.length
  have hn := line63
  have I' : Inv X pins σ (upd H p (.lst (xs.set j v))) { s with heap := s.heap.update p (Obj.mapSeq (·.setIfInBounds j u)) } :=
    I.lstUpd hp ho (mapSeq_set its n j u) (r.set rv j) (by rw [List.length_set]; exact hz) s.toks
  by_cases h0 : 0 ≤ k
  · have hk : k.toNat = j := by
      rw [seqIndex_of h0 h4] at h1
      exact Option.some.inj h1
    exact PySem.W.ki_setAt ho h0 (by omega) (by rw [List.size_toArray, ← hl]; exact h4) (by rw [hk]; exact ⟨_, I', q⟩)
  · have hk : (k + (its.toArray.size : Int)).toNat = j := by
      rw [seqIndex_neg (by omega) h3] at h1
      rw [List.size_toArray, ← hl]
      exact Option.some.inj h1
    exact PySem.W.ki_setBack ho (by omega) (by rw [List.size_toArray, ← hl]; exact h3) (by omega) (by rw [hk]; exact ⟨_, I', q⟩)


theorem slice_bounds (lo hi : Option Int) (n : Nat) : (sliceBounds lo hi none n).1 = ((HT.sIx n 0 lo : Nat) : Int) ∧ (sliceBounds lo hi none n).2.1 = ((HT.sIx n n hi : Nat) : Int) ∧ (sliceBounds lo hi none n).2.2 = 1 := by
  refine ⟨?_, ?_, rfl⟩
  · cases lo with
    | none => simp [sliceBounds, HT.sIx]
    | some i =>
      simp only [sliceBounds, HT.sIx, Option.getD_none, show (1 : Int) > 0 by decide, if_true]
      by_cases h : i < 0
      · simp only [h, if_true] <;> omega
      · simp only [h, if_false] <;> omega
  · cases hi with
    | none => simp [sliceBounds, HT.sIx]
    | some i =>
      simp only [sliceBounds, HT.sIx, Option.getD_none, show (1 : Int) > 0 by decide, if_true]
      by_cases h : i < 0
      · simp only [h, if_true] <;> omega
      · simp only [h, if_false] <;> omega
theorem slicePick_cut (its : List Value) (lo hi : Option Int) : slicePick its.toArray lo hi none = ((its.drop (HT.sIx its.length 0 lo)).take (HT.sIx its.length its.length hi - HT.sIx its.length 0 lo)).toArray := by
  obtain ⟨h1, h2, h3⟩ := slice_bounds lo hi its.toArray.size
  unfold slicePick
  rw [h1, h2, h3]
  simp only [sliceRange_one, pick_run, List.size_toArray] <;> rfl

noncomputable def rSlL (K : PySem.W.Frag) : V → Option Int → Option Int → Hp → VK → Prop := fun x lo hi H Q => ∃ a xs, x = .ref a ∧ SqL K H a xs ∧ ∀ p, H p = none → Q (.ref p) (upd H p (.lst (cutV xs lo hi)))
theorem sl_list : SlR X (rSlL X.K) := by
  intro pins s σ H x v vl vu lo hi sl Q I rx hs pl pu h
  obtain ⟨a, xs, rfl, hx, q⟩ := h
  cases rx
  obtain ⟨its, r, ht, hz⟩ := I.list hx
  have hlen := r.length
  refine ⟨"list", _, slot_list_getitem.lookup, ht.isList.typeIs, ?_⟩
  refine wpAny_getItem_list_slice ht.isList hs pl pu .none (by simp) ?_ (by rw [List.size_toArray] <;> omega)
  rw [slicePick_cut, ← hlen]
  refine ⟨.ref s.heap.objs.size, _, I.laid (t' := s.toks) (o := .lst (cutV xs lo hi)) (fun b ob q => Heap.get?_push_of_some _ q) (Nat.le_refl _) ?_, rfl, q _ (I.hok.fresh (Nat.le_refl _))⟩
  exact ⟨Nat.le_trans (cutV_length xs lo hi) hz, _, 0, (r.drop (HT.sIx xs.length 0 lo)).take (HT.sIx xs.length xs.length hi - HT.sIx xs.length 0 lo), Heap.get?_push_size _ rfl⟩


noncomputable def flatV : V → Bool
  | .non => true
  | .bl _ => true
  | .int _ => true
  | .str _ => true
  | _ => false

noncomputable def eqV : V → V → Bool
  | .non, .non => true
  | .bl a, .bl b => a == b
  | .bl a, .int b => (if a then 1 else 0) == b
  | .int a, .bl b => a == (if b then 1 else 0)
  | .int a, .int b => a == b
  | .str a, .str b => a == b
  | _, _ => false
theorem eqAt_V {A : Around} {s : Shared} {y x : V} {u v : Value} (ry : RelV y u) (rx : RelV x v) (fy : flatV y = true) (fx : flatV x = true) : SeqAt.EqAt A s u v (eqV y x) := by
  cases y with
  | non =>
    cases ry
    cases x with
    | non => cases rx; exact SeqAt.EqAt.same _
    | bl b => cases rx; exact SeqAt.EqAt.none_bool b
    | int b => obtain ⟨t, rfl⟩ := rx; exact SeqAt.EqAt.none_int b t
    | str b => obtain ⟨t, rfl⟩ := rx; exact SeqAt.EqAt.none_str b t
    | _ => exact absurd (show false = true from fx) Bool.false_ne_true
  | bl a =>
    cases ry
    cases x with
    | non => cases rx; exact SeqAt.EqAt.bool_none a
    | bl b => cases rx; exact SeqAt.EqAt.bool_bool a b
    | int b => obtain ⟨t, rfl⟩ := rx; exact SeqAt.EqAt.bool_int a b t
    | str b => obtain ⟨t, rfl⟩ := rx; exact SeqAt.EqAt.bool_str a b t
    | _ => exact absurd (show false = true from fx) Bool.false_ne_true
  | int a =>
    obtain ⟨t', rfl⟩ := ry
    cases x with
    | non => cases rx; exact SeqAt.EqAt.int_none a t'
    | bl b => cases rx; exact SeqAt.EqAt.int_bool a t' b
    | int b => obtain ⟨t, rfl⟩ := rx; exact SeqAt.EqAt.int_int a t' b t
    | str b => obtain ⟨t, rfl⟩ := rx; exact SeqAt.EqAt.int_str a t' b t
    | _ => exact absurd (show false = true from fx) Bool.false_ne_true
  | str a =>
    obtain ⟨t', rfl⟩ := ry
    cases x with
    | non => cases rx; exact SeqAt.EqAt.str_none a t'
    | bl b => cases rx; exact SeqAt.EqAt.str_bool a t' b
    | int b => obtain ⟨t, rfl⟩ := rx; exact SeqAt.EqAt.str_int a t' b t
    | str b => obtain ⟨t, rfl⟩ := rx; exact SeqAt.EqAt.str_str a t' b t
    | _ => exact absurd (show false = true from fx) Bool.false_ne_true
  | _ => exact absurd (show false = true from fy) Bool.false_ne_true

noncomputable def eqU (x : V) (u : Value) : Bool := match u with
  | .none => eqV .non x
  | .bool b => eqV (.bl b) x
  | .int i _ => eqV (.int i) x
  | .str z _ => eqV (.str z) x
  | _ => false
theorem eqU_of {x y : V} {u : Value} (r : RelV y u) (f : flatV y = true) : eqU x u = eqV y x := by
  cases y with
  | non => cases r; rfl
  | bl b => cases r; rfl
  | int i => obtain ⟨t, rfl⟩ := r; rfl
  | str z => obtain ⟨t, rfl⟩ := r; rfl
  | _ => exact absurd (show false = true from f) Bool.false_ne_true
theorem any_eqU {x : V} : ∀ {xs : List V} {us : List Value}, Vals xs us → xs.all flatV = true → us.any (eqU x) = xs.any fun y => eqV y x
  | _, _, .nil, _ => rfl
  | y :: xs, u :: us, .cons r t, f => by
    rw [List.all_cons, Bool.and_eq_true] at f
    rw [List.any_cons, List.any_cons, eqU_of r f.1, any_eqU t f.2]
theorem mem_eqAt {A : Around} {s : Shared} {x : V} {v : Value} (rx : RelV x v) (fx : flatV x = true) : ∀ {xs : List V} {us : List Value}, Vals xs us → xs.all flatV = true → ∀ u ∈ us, SeqAt.EqAt A s u v (eqU x u)
  | _, _, .nil, _ => fun u hu => by cases hu
  | y :: xs, u :: us, .cons r t, f => fun u' hu => by
    rw [List.all_cons, Bool.and_eq_true] at f
    rcases List.mem_cons.mp hu with rfl | hu
    · rw [eqU_of r f.1]; exact eqAt_V r rx f.1 fx
    · exact mem_eqAt rx fx t f.2 u' hu
noncomputable def inV (x : V) (xs : List V) : Bool := xs.any fun y => eqV y x

noncomputable def rIn (K : PySem.W.Frag) (neg : Bool) : R2 := fun x y H Q => ∃ p xs, y = .ref p ∧ (SqL K H p xs ∨ SqT K H p xs) ∧ flatV x = true ∧ xs.all flatV = true ∧ Q (.bl (if neg then !inV x xs else inV x xs)) H
theorem op_in_seq : OpR X (compareOp .In) (rIn X.K false) := by
  intro pins s σ H x y v u Q I rx ry h
  obtain ⟨p, xs, rfl, hq, fx, fs, q⟩ := h
  cases ry
  rcases hq with hq | hq
  · obtain ⟨its, r, pl, hz⟩ := I.list hq
    refine SeqAt.in_listAt (eqU x) pl.isList (fun w hw => mem_eqAt rx fx r fs w (by simpa using hw)) ⟨.bl _, H, I, rfl, ?_⟩
    rw [show its.toArray.any (eqU x) = its.any (eqU x) by simp, any_eqU r fs]
    exact q
  · obtain ⟨its, r, pl, hz⟩ := I.tuple hq
    refine SeqAt.in_tupleAt (eqU x) pl (fun w hw => mem_eqAt rx fx r fs w (by simpa using hw)) ⟨.bl _, H, I, rfl, ?_⟩
    rw [show its.toArray.any (eqU x) = its.any (eqU x) by simp, any_eqU r fs]
    exact q
theorem op_notIn_seq : OpR X (compareOp .NotIn) (rIn X.K true) := by
  intro pins s σ H x y v u Q I rx ry h
  obtain ⟨p, xs, rfl, hq, fx, fs, q⟩ := h
  cases ry
  rcases hq with hq | hq
  · obtain ⟨its, r, pl, hz⟩ := I.list hq
    refine SeqAt.notIn_listAt (eqU x) pl.isList (fun w hw => mem_eqAt rx fx r fs w (by simpa using hw)) ⟨.bl _, H, I, rfl, ?_⟩
    rw [show its.toArray.any (eqU x) = its.any (eqU x) by simp, any_eqU r fs]
    exact q
  · obtain ⟨its, r, pl, hz⟩ := I.tuple hq
    refine SeqAt.notIn_tupleAt (eqU x) pl (fun w hw => mem_eqAt rx fx r fs w (by simpa using hw)) ⟨.bl _, H, I, rfl, ?_⟩
    rw [show its.toArray.any (eqU x) = its.any (eqU x) by simp, any_eqU r fs]
    exact q
theorem op_notIn_str : OpR X (compareOp .NotIn) (fun x y H Q => ∃ i j, x = .str i ∧ y = .str j ∧ Q (.bl (!(!(Builtin.Str.occurrences j i 0 j.length 1).isEmpty))) H) := by
  intro pins s σ H x y v u Q I rx ry h
  obtain ⟨i, j, rfl, rfl, q⟩ := h
  obtain ⟨t, rfl⟩ := rx
  obtain ⟨t', rfl⟩ := ry
  exact notIn_str ⟨.bl _, H, I, rfl, q⟩


theorem CallR.or {f : Value} {r r' : List V → Hp → VK → Prop} (h : CallR X f r) (h' : CallR X f r') : CallR X f (fun xs H Q => r xs H Q ∨ r' xs H Q) := by
  intro pins s σ H xs us Q I rs q
  rcases q with q | q
  · exact h pins s σ H xs us Q I rs q
  · exact h' pins s σ H xs us Q I rs q
theorem call_list_of : CallR X (.type "list") (fun xs H Q => ∃ p ys, xs = [.ref p] ∧ (SqL X.K H p ys ∨ SqT X.K H p ys) ∧ ∀ l, H l = none → Q (.ref l) (upd H l (.lst ys))) := by
  intro pins s σ H xs us Q I r h
  obtain ⟨p, ys, rfl, hq, q⟩ := h
  obtain ⟨u, rfl, rx⟩ := vals1 r
  cases rx
  have fin : ∀ (its : List Value), Vals ys its → ys.length ≤ sizeLine → ∀ (h' : Heap) (c' : Nat), (∀ b o', s.heap.get? b = some o' → h'.get? b = some o') →
      h'.get? s.heap.objs.size = some { cls := .type "list", dict := none, data := .seq its.toArray c', slots := #[] } → EP X pins σ Q (.ref s.heap.objs.size) { s with heap := h' } := fun its r' hz h' c' kp e =>
    ⟨.ref s.heap.objs.size, _, I.laid (t' := s.toks) kp (Nat.le_refl _) (show ObjOk X.prog X.w _ h' _ (.lst ys) from ⟨hz, its, c', r', e⟩), rfl, q _ (I.hok.fresh (Nat.le_refl _))⟩
  rcases hq with hq | hq
  · obtain ⟨its, r', pl, hz⟩ := I.list hq
    have hlen := r'.length
    obtain ⟨o, ho, hc, n, hd⟩ := pl.isList
    exact call_list_seq p (.inl rfl) ho hc hd (fun h' c' kp e => fin its r' hz h' c' kp e) (by simp only [List.size_toArray] <;> omega)
  · obtain ⟨its, r', pl, hz⟩ := I.tuple hq
    have hlen := r'.length
    obtain ⟨o, ho, hc, n, hd⟩ := pl
    exact call_list_seq p (.inr rfl) ho hc hd (fun h' c' kp e => fin its r' hz h' c' kp e) (by simp only [List.size_toArray] <;> omega)


noncomputable def tyV (K : PySem.W.Frag) (T : String) (x : V) (H : Hp) : Prop := match x with
  | .str _ => T = "str"
  | .int _ => T = "int"
  | .ref p => (T = "list" ∧ ∃ xs, SqL K H p xs) ∨ (T = "tuple" ∧ ∃ o, K.lookup p = some o ∧ o.cls = .type "tuple" ∧ o.dict = none) ∨
      (T = "dict" ∧ ((∃ kvs, H p = some (.dK kvs)) ∨ ∃ kvs, H p = some (.dT kvs))) ∨ (T = "set" ∧ ∃ S n, H p = some (.set S n))
  | _ => False
theorem tyV_is {pins : List (Addr × Obj)} {σ : St} {H : Hp} {s : Shared} {T : String} {x : V} {v : Value} (I : Inv X pins σ H s) (r : RelV x v) (ty : tyV X.K T x H) :
    s.TypeIs v T ∧ ∀ a, v = .ref a → ∃ ob, s.heap.get? a = some ob ∧ ob.dict = none := by
  cases x with
  | str z =>
    obtain ⟨t, rfl⟩ := r
    cases (show T = "str" from ty)
    exact ⟨typeIs_str s z t, fun _ e => nomatch e⟩
  | int i =>
    obtain ⟨t, rfl⟩ := r
    cases (show T = "int" from ty)
    exact ⟨typeIs_int s i t, fun _ e => nomatch e⟩
  | ref p =>
    cases r
    rcases ty with ⟨rfl, xs, hq⟩ | ⟨rfl, o, hk, hc, hd⟩ | ⟨rfl, hk⟩ | ⟨rfl, S, n, hk⟩
    · obtain ⟨its, _, pl, _⟩ := I.list hq
      refine ⟨pl.isList.typeIs, fun a e => ?_⟩
      cases e
      obtain ⟨o, n, e, c, hd, _⟩ := pl
      exact ⟨o, e, hd⟩
    · refine ⟨⟨o, I.kIn p o hk, hc⟩, fun a e => ?_⟩
      cases e
      exact ⟨o, I.kIn _ o hk, hd⟩
    · have z : ∃ o, s.heap.get? p = some o ∧ o.ExactDict := by
        rcases hk with ⟨kvs, hk⟩ | ⟨kvs, hk⟩
        · obtain ⟨_, _, _, _, o, _, _, e, ex, _⟩ := I.hok p _ hk
          exact ⟨o, e, ex⟩
        · obtain ⟨_, _, _, _, o, _, _, e, ex, _⟩ := I.hok p _ hk
          exact ⟨o, e, ex⟩
      obtain ⟨o, e, ex⟩ := z
      refine ⟨⟨o, e, ex.1⟩, fun a e2 => ?_⟩
      cases e2
      exact ⟨o, e, ex.2.1⟩
    · obtain ⟨o, _, _, _, e, ex, _⟩ := I.hok p _ hk
      refine ⟨⟨o, e, ex.1⟩, fun a e2 => ?_⟩
      cases e2
      exact ⟨o, e, ex.2.1⟩
  | _ => exact False.elim ty
variable {o e : Expr} {es : List Expr} {to : TE} {t : TA} {name : Str} {apos cpos : Pos} {T id : String} {r : V → List V → Hp → VK → Prop}
/- xs.append(e), list.index on a module's tuple .. are MtR facts of 06m -/
end
end L2

namespace L2
open PySem PySem.Spec PyProof.Rows

noncomputable def MtM (X : Cx) (id : String) (r : V → List V → Hp → VK → Prop) : Prop :=
  ∀ (pins : List (Addr × Obj)) (s : Shared) (σ : St) (H : Hp) (x : V) (xs : List V) (v : Value) (us : List Value) (Q : VK), Inv X pins σ H s → RelV x v → Vals xs us → r x xs H Q →
    wpAny (model X.prog X.w) X.A (call (.builtin id) (v :: us)) (EP X pins σ Q) X.xe s


theorem Vals.one : ∀ {x : V} {us : List Value}, Vals [x] us → ∃ u, us = [u] ∧ RelV x u
  | _, _, .cons r .nil => ⟨_, rfl, r⟩
theorem Vals.two : ∀ {x y : V} {us : List Value}, Vals [x, y] us → ∃ u v, us = [u, v] ∧ RelV x u ∧ RelV y v
  | _, _, _, .cons r (.cons q .nil) => ⟨_, _, rfl, r, q⟩
theorem Vals.zero : ∀ {us : List Value}, Vals [] us → us = []
  | _, .nil => rfl
theorem Vals.dropLast {xs : List V} {us : List Value} (h : Vals xs us) : Vals xs.dropLast us.dropLast := by
  induction h with
  | nil => exact .nil
  | cons r t ih =>
    cases t with
    | nil => exact .nil
    | cons q t' => exact .cons r ih
theorem Vals.eraseIdx : ∀ {xs : List V} {us : List Value} (i : Nat), Vals xs us → Vals (xs.eraseIdx i) (us.eraseIdx i)
  | _, _, _, .nil => .nil
  | _, _, 0, .cons _ t => t
  | _, _, i + 1, .cons r t => .cons r (Vals.eraseIdx i t)
theorem Vals.reverse {xs : List V} {us : List Value} (h : Vals xs us) : Vals xs.reverse us.reverse := by
  induction h with
  | nil => exact .nil
  | cons r t ih => rw [List.reverse_cons, List.reverse_cons]; exact Vals.append ih (.cons r .nil)
theorem Vals.rep {xs : List V} {us : List Value} (h : Vals xs us) : ∀ k : Nat, Vals (List.replicate k xs).flatten (List.replicate k us).flatten
  | 0 => .nil
  | k + 1 => by
    rw [List.replicate_succ, List.replicate_succ, List.flatten_cons, List.flatten_cons]
    exact Vals.append h (Vals.rep h k)
theorem erase_last {α : Type} (l : List α) : l.eraseIdx (l.length - 1) = l.dropLast := by
  induction l with
  | nil => rfl
  | cons a r ih =>
    cases r with
    | nil => rfl
    | cons b r =>
      have e : (a :: b :: r).length - 1 = ((b :: r).length - 1) + 1 := by
        have h1 : (a :: b :: r).length = r.length + 2 := rfl
        have h2 : (b :: r).length = r.length + 1 := rfl
        omega
      rw [e, List.eraseIdx_cons_succ, ih]
      all_goals rfl
theorem foldl_rep (its : List Value) : ∀ (k : Nat) (acc : List Value),
    List.foldl (fun x1 x2 => x1 ++ x2) acc.toArray (List.replicate k its.toArray) = (acc ++ (List.replicate k its).flatten).toArray
  | 0, acc => by simp
  | k + 1, acc => by
    have e : acc.toArray ++ its.toArray = (acc ++ its).toArray := by simp
    have e2 : (acc ++ its) ++ (List.replicate k its).flatten = acc ++ (List.replicate (k + 1) its).flatten := by
      rw [List.replicate_succ, List.flatten_cons, List.append_assoc]
    rw [← e2, ← foldl_rep its k (acc ++ its), ← e, List.replicate_succ, List.foldl_cons]

section
variable {X : Cx} {pins : List (Addr × Obj)} {σ : St} {H : Hp} {s : Shared} {l b : Addr} {xs ys zs : List V}


theorem Inv.lset {its its' : List Value} {n : Nat} {f : Array Value → Array Value} {t' : Nat} (I : Inv X pins σ H s) (hH : H l = some (.lst xs))
    (e : s.heap.get? l = some { cls := .type "list", data := .seq its.toArray n }) (hf : f its.toArray = its'.toArray) (hv : Vals ys its') (hz : ys.length ≤ sizeLine) :
    Inv X pins σ (upd H l (.lst ys)) { s with heap := s.heap.update l (Obj.mapSeq f), toks := t' } := by
  have q := PySem.IsL.update e f
  rw [hf] at q
  refine I.write (x := l) (e := l) (by rw [hH]; exact trivial) (.inl rfl) (fun b' u hb hu => (Heap.get?_update_other s.heap (Obj.mapSeq f) (Ne.symm hb)).trans hu) ⟨_, q⟩ ?_
  exact ⟨hz, its', _, hv, q⟩
theorem Inv.lnew {its : List Value} {t' : Nat} (I : Inv X pins σ H s) (hv : Vals ys its) (hz : ys.length ≤ sizeLine) :
    Inv X pins σ (upd H s.heap.objs.size (.lst ys)) { s with heap := s.heap.push { cls := .type "list", data := .seq its.toArray }, toks := t' } :=
  I.laid (fun _ _ q => Heap.get?_push_of_some _ q) (Nat.le_refl _) ⟨hz, its, 0, hv, Heap.get?_push_size _ rfl⟩
theorem Inv.fresh (I : Inv X pins σ H s) : H s.heap.objs.size = none := I.hok.fresh (Nat.le_refl _)
theorem Inv.lstM (I : Inv X pins σ H s) (hH : H l = some (.lst xs)) : xs.length ≤ sizeLine ∧ ∃ (its : List Value) (n : Nat), Vals xs its ∧ xs.length = its.length ∧ s.heap.get? l = some { cls := .type "list", data := .seq its.toArray n } := by
  obtain ⟨z, its, n, r, e⟩ := I.hok l _ hH
  exact ⟨z, its, n, r, r.length, e⟩

theorem notLongL {n : Nat} (h : n ≤ sizeLine) : Builtin.List.listTooLong n = false := by
  unfold Builtin.List.listTooLong
  exact decide_eq_false (by omega)
end

section
variable {X : Cx}


noncomputable def rAppend : V → List V → Hp → VK → Prop := fun x vs H Q => ∃ l xs y, x = .ref l ∧ vs = [y] ∧ H l = some (.lst xs) ∧ xs.length < sizeLine ∧ Q .non (upd H l (.lst (xs ++ [y])))
theorem mt_append : MtM X "list.append" rAppend := by
  intro pins s σ H x vs v us Q I rx rv h
  obtain ⟨l, xs, y, rfl, rfl, hH, hz, q⟩ := h
  cases rx
  obtain ⟨u, rfl, ru⟩ := rv.one
  obtain ⟨z, its, n, r, hl, e⟩ := I.lstM hH
  refine call_meets F.slot_list_append ⟨_, e, rfl⟩ F.entry_list_append (F.args_list_append_2 _ _) (PySem.list_append l its.toArray n u (by rw [List.size_toArray]; omega)) ⟨e, ?_⟩
  refine ⟨.non, _, I.lset (its' := its ++ [u]) hH e (by simp) (r.append (.cons ru .nil)) ?_, rfl, q⟩
  rw [List.length_append, List.length_singleton]
  omega

noncomputable def rExtend : V → List V → Hp → VK → Prop := fun x vs H Q => ∃ l b xs zs, x = .ref l ∧ vs = [.ref b] ∧ H l = some (.lst xs) ∧ H b = some (.lst zs) ∧ xs.length + zs.length ≤ sizeLine ∧ Q .non (upd H l (.lst (xs ++ zs)))
theorem mt_extend : MtM X "list.extend" rExtend := by
  intro pins s σ H x vs v us Q I rx rv h
  obtain ⟨l, b, xs, zs, rfl, rfl, hH, hB, hz, q⟩ := h
  cases rx
  obtain ⟨u, rfl, ru⟩ := rv.one
  cases ru
  obtain ⟨z, its, n, r, hl, e⟩ := I.lstM hH
  obtain ⟨z2, its2, n2, r2, hl2, e2⟩ := I.lstM hB
  have hsz : its.toArray.size + its2.toArray.size ≤ sizeLine := by rw [List.size_toArray, List.size_toArray]; omega
  have hlong : ¬ (!its.toArray.isEmpty && Builtin.List.listTooLong (its.toArray.size + its2.toArray.size)) = true := by
    rw [notLongL hsz, Bool.and_false]
    exact Bool.false_ne_true
  refine call_meets F.slot_list_extend ⟨_, e, rfl⟩ F.entry_list_extend (F.args_list_extend_2 _ _)
    (AutoSeq1.list_extend_list_list_0 l its.toArray n b its2.toArray n2 hlong (by rw [List.size_toArray]; omega) (by omega)) ⟨e, e2, ?_⟩
  refine ⟨.non, _, I.lset (its' := its ++ its2) hH e (by simp) (r.append r2) ?_, rfl, q⟩
  rw [List.length_append]
  omega

noncomputable def rPop : V → List V → Hp → VK → Prop := fun x vs H Q => ∃ l xs y, x = .ref l ∧ vs = [] ∧ H l = some (.lst xs) ∧ xs[xs.length - 1]? = some y ∧ Q y (upd H l (.lst xs.dropLast))
theorem mt_pop : MtM X "list.pop" rPop := by
  intro pins s σ H x vs v us Q I rx rv h
  obtain ⟨l, xs, y, rfl, rfl, hH, hy, q⟩ := h
  cases rx
  have hus := rv.zero
  subst hus
  obtain ⟨z, its, n, r, hl, e⟩ := I.lstM hH
  obtain ⟨u, hu, ru⟩ := r.get hy
  have hy' : its.toArray[its.toArray.size - 1]? = some u := by
    show its.toArray[its.length - 1]? = some u
    rw [← Array.getElem?_toList, ← hl]
    exact hu
  refine call_meets F.slot_list_pop ⟨_, e, rfl⟩ F.entry_list_pop (F.args_list_pop_1 _) (MeetsSeq.list_pop_last l its.toArray n u hy' (by rw [List.size_toArray]; omega)) ⟨e, ?_⟩
  refine ⟨y, _, I.lset (its' := its.dropLast) hH e ?_ r.dropLast ?_, ru, q⟩
  · show its.toArray.eraseIdxIfInBounds (its.toArray.size - 1) = its.dropLast.toArray
    rw [List.size_toArray, List.eraseIdxIfInBounds_toArray, erase_last]
  · rw [List.length_dropLast]
    omega


noncomputable def rCat : R2 := fun x y H Q => ∃ l b xs zs, x = .ref l ∧ y = .ref b ∧ H l = some (.lst xs) ∧ H b = some (.lst zs) ∧ xs.length + zs.length ≤ sizeLine ∧ ∀ p, H p = none → Q (.ref p) (upd H p (.lst (xs ++ zs)))
theorem op_cat : OpR X (binaryOp .Add) rCat := by
  intro pins s σ H x y v u Q I rx ry h
  obtain ⟨l, b, xs, zs, rfl, rfl, hH, hB, hz, q⟩ := h
  cases rx
  cases ry
  obtain ⟨z, its, n, r, hl, e⟩ := I.lstM hH
  obtain ⟨z2, its2, n2, r2, hl2, e2⟩ := I.lstM hB
  refine PySem.P.add_list e e2 ?_ (by rw [List.size_toArray, List.size_toArray]; omega)
  have ea : its.toArray ++ its2.toArray = (its ++ its2).toArray := by simp
  rw [ea]
  exact ⟨.ref _, _, I.lnew (t' := s.toks) (r.append r2) (by rw [List.length_append]; omega), rfl, q _ I.fresh⟩

noncomputable def rRep : R2 := fun x y H Q => ∃ l k xs, x = .ref l ∧ y = .int k ∧ H l = some (.lst xs) ∧ -(2 ^ 63) ≤ k ∧ k < 2 ^ 63 ∧ xs.length * k.toNat ≤ sizeLine ∧
  ∀ p, H p = none → Q (.ref p) (upd H p (.lst (List.replicate k.toNat xs).flatten))
theorem len_rep {α : Type} (xs : List α) (k : Nat) : (List.replicate k xs).flatten.length = k * xs.length := by
  induction k with
  | zero => simp
  | succ k ih => rw [List.replicate_succ, List.flatten_cons, List.length_append, ih, Nat.succ_mul, Nat.add_comm]
theorem op_rep : OpR X (binaryOp .Mult) rRep := by
  intro pins s σ H x y v u Q I rx ry h
  obtain ⟨l, k, xs, rfl, rfl, hH, h1, h2, hz, q⟩ := h
  cases rx
  obtain ⟨t, rfl⟩ := ry
  obtain ⟨z, its, n, r, hl, e⟩ := I.lstM hH
  have hlen : its.toArray.size * k.toNat ≤ sizeLine := by rw [List.size_toArray, ← hl]; exact hz
  have hcap : ¬ its.toArray.size * k.toNat > (2 ^ 63 - 1) / 8 := by
    have : (sizeLine : Nat) ≤ (2 ^ 63 - 1) / 8 := by decide
    omega
  have hfit : ¬ (!Builtin.List.listFitsIndex k) = true := by
    rw [fitsIndex_both h1 h2]
    exact Bool.false_ne_true
  have hlong : ¬ Builtin.List.listTooLong (its.toArray.size * k.toNat) = true := by
    rw [notLongL hlen]
    exact Bool.false_ne_true
  have hnew : List.foldl (fun x1 x2 => x1 ++ x2) #[] (List.replicate (if its.toArray.isEmpty = true then 0 else k.toNat) its.toArray) = (List.replicate k.toNat its).flatten.toArray := by
    have f0 : ∀ m : Nat, List.foldl (fun x1 x2 => x1 ++ x2) #[] (List.replicate m its.toArray) = (List.replicate m its).flatten.toArray := fun m => by
      have := foldl_rep its m []
      rw [List.nil_append] at this
      exact this
    rw [f0]
    cases its with
    | nil => simp
    | cons a r' => rw [if_neg (by simp)]
  refine wpAny_binaryOp_repeat_ref (T := "list") (U := "int") (by decide) ⟨_, e, rfl⟩ (fun s' => typeIs_int s' k t) noFill_list_mul F.fills_int_mul F.slot_int_rmul repeat_list F.slot_int_index.lookup
    (call_meets F.slot_int_rmul (typeIs_int s k t) F.entry_int_rmul (F.args_int_rmul_2 _ _) (int___rmul___int_list k t l its.toArray n)
      ⟨e, rfl, ⟨_, e, rfl⟩, call_meets F.slot_list_mul ⟨_, e, rfl⟩ F.entry_list_mul (F.args_list_mul_2 _ _) (AutoListH.list___mul___list_int_3 l its.toArray n k t hfit hcap hlong) ⟨e, ?_⟩⟩)
  rw [hnew]
  exact ⟨.ref _, _, I.lnew (t' := s.toks) (r.rep k.toNat) (by rw [len_rep, Nat.mul_comm]; exact hz), rfl, q _ I.fresh⟩


end


section
variable {prog : Program} {w : World} {A : Around} {E : Value → Shared → Prop} {s : Shared}
end

section
variable {X : Cx}
end
end L2

namespace Att
open PySem PySem.W PySem.Calls PyProof.Rows


theorem ints_of_wellAll {P : Params} {h : Heap} : ∀ (ns : List Int) (vs : List Value), WellAll P h vs (ns.map WData.int) → IntsAre vs ns := by
  intro ns
  induction ns with
  | nil =>
    intro vs w
    rw [List.map_nil] at w
    cases w
    exact .nil
  | cons n ns ih =>
    intro vs w
    rw [List.map_cons] at w
    cases w with
    | cons a b =>
      cases a
      exact .cons _ _ (ih _ b)

theorem script_of {l : OpenLaw} {n : Nat} (hn : l.most = some n) {P : Params} {h : Heap} {args : List WData} {vals : List Value}
    (hpre : l.row.toRowW.claim.pre args = true) (hwl : WellAll P h vals args) :
    ∃ a vs ns, vals = [Value.ref a] ∧ args = [WData.list (ns.map WData.int)] ∧ h.get? a = some { cls := .type "list", data := .seq vs.toArray } ∧ IntsAre vs ns ∧ ns.length ≤ n := by
  have hsh : WShape.hasAll [] args [.list .int] = true := (pre_splitW hpre).1
  have hc : l.pre.holds [] { args := args } = true := (pre_splitW hpre).2
  obtain ⟨d, r, rfl, h1, h2⟩ := hasAllW_cons hsh
  obtain rfl := hasAllW_nil h2
  obtain ⟨xs, rfl, h3⟩ := hasW_list h1
  obtain ⟨ns, rfl⟩ := items_int h3
  have hlen : ns.length ≤ n := by
    unfold OpenLaw.pre at hc
    have h4 : (WTm.not (.lt (.lit (.int (n : Int))) (.len (.arg 0)))).holds [] { args := [.list (ns.map .int)] } = true := by
      have h4 := (holds_andW hc).1
      rw [hn] at h4
      exact h4
    have h5 := condW_of h4 (w_not (w_lt w_lit (w_len_list (w_arg rfl))))
    rw [List.length_map] at h5
    refine Nat.le_of_not_lt fun q => ?_
    have q' : (n : Int) < ((ns.length : Nat) : Int) := by omega
    first
      | (rw [decide_eq_true q'] at h5; exact absurd h5 (by decide))
      | (simp at h5; omega)
  cases hwl with
  | cons w1 w2 =>
    cases w2
    cases w1 with
    | list ho hall => exact ⟨_, _, ns, rfl, rfl, ho, ints_of_wellAll ns _ hall, hlen⟩

theorem post_true (l : OpenLaw) (args : List WData) : l.row.toRowW.claim.post args (.bool true) args = true :=
  postW_of (r := l.row.toRowW) (X := (true == true))
    (show WShape.has [] (.bool true) .bool = true by first | rfl | decide | simp [WShape.has, WShape.arms, WShape.armsAll])
    (show (WTm.eq .res (.lit (.bool true))).value [] { args := args, res := some (.bool true), after := args } = some (.bool (true == true)) from w_eq_bool (w_res rfl) w_lit) rfl



theorem attach_call {l : OpenLaw} {n : Nat} {q : Program} {loose : List Str} {XP : (Str → Option Value) → Heap → Prop} {YP : World → Heap → Prop} {d : DefRec}
    (hn : l.most = some n) (hdf : d.params.defaults = [])
    (call : ∀ (w : World) (s₀ s₁ : Shared) (mg mb : Str → Option Value) (fa : Addr) (o : Obj) (pm cd doc : Value) (a : Addr) (vs : List Value) (ns : List Int),
      Ground q loose [] XP w s₀ mg mb s₁.heap → YP w s₁.heap →
      s₁.heap.get? fa = some o → o.data = .func (docDef d.name d.params d.body d.scope pm cd doc) → s₁.heap.CodeRec cd d.name → mg d.name = some (.ref fa) →
      s₁.heap.get? a = some { cls := .type "list", data := .seq vs.toArray } → IntsAre vs ns → ns.length ≤ n → s₁.gens = #[] →
      codeAny (model l.prog w) callerA (.call (.ref fa) ⟨[.ref a], []⟩) (fun r s' => r = .ok (.ret (.bool true)) ∧ OldK s₁.heap s'.heap ∧ s'.os = s₁.os ∧ AllBare s'.gens) s₁) :
    WalkO q loose XP YP l.row.toRowW d [] (fun f vs => PySem.call f vs) := by
  intro w s₀ s₁ mg mb G Y fa o pm cd doc dV kV ho hd hcd hD hmg hg args vals as hpre hlay hrd hwl hlo
  obtain rfl : dV = .none := Dflts.none hD hdf
  obtain rfl : kV = .none := Dflts.noKw hD
  obtain ⟨a, vs, ns, rfl, rfl, hobj, hints, hlen⟩ := script_of hn hpre hwl
  refine enter_call (codeAny_mono (call w s₀ s₁ mg mb fa o pm cd doc a vs ns G Y ho (fd_plain hd) hcd hmg hobj hints hlen hg) fun r s' hq => ?_)
  obtain ⟨rfl, h2, h3, h4⟩ := hq
  exact ⟨.inl ⟨.bool true, .bool true, [], rfl, fun _ => rfl, .bool true, post_true l _, fun _ => ⟨List.Pairwise.nil, fun _ hm => (nomatch hm)⟩⟩, h2, h3, h4⟩


section
variable {prog : Program} {w : World} {A : Around} {E : Value → Shared → Prop} {s : Shared} {K : Frag}


theorem call_fn {R : Result → Shared → Prop} {name qual : Str} {params : Arguments} {body : List Stmt} {scope : Scope} {dV kV doc pm cdv ct oc : Value} {an od : Option Addr} {osl : Array (Option Value)} {f : Addr} {args : Args} {binds : List (Str × Value)}
    (X : K.In s.heap) (hlim : s.heap.NoLimit) (ho : K.lookup f = some ⟨oc, od, .func (fnOf name qual params body scope dV kV doc pm an cdv ct), osl⟩) (hcd : codeIn K cdv qual = true) (hroom : A.depth < recursionLimit)
    (hbind : BindsTo s (fnOf name qual params body scope dV kV doc pm an cdv ct) args binds)
    (hkind : (binds.all fun y => scope.names.lookup y.1 == some .local || scope.names.lookup y.1 == some .cell) = true)
    (h : ∀ s₁, InCallC s s.heap.objs.size (bindL (envOfC qual scope s.heap.objs.size f cdv).kindOf binds fun _ => none) (cellsFrom (s.heap.objs.size + 1) scope.names [])
        (bindC (envOfC qual scope s.heap.objs.size f cdv).kindOf binds fun _ => none) s₁ →
      wpAny (model prog w) (A.deeper (envOfC qual scope s.heap.objs.size f cdv)) (execs body (envOfC qual scope s.heap.objs.size f cdv))
        (fun fl s' => R (.ok (.ret (match fl with | .ret v => v | _ => .none))) s')
        (fun e s' => wpAny (model prog w) (A.deeper (envOfC qual scope s.heap.objs.size f cdv)) (leaving (envOfC qual scope s.heap.objs.size f cdv) e) (fun _ s'' => R (.error e) s'') (fun e' s'' => R (.error e') s'') s') s₁)
    (hco : scope.isCoroutine = false) (hgen : scope.isGenerator = false) (hk : scope.kind = .function) : codeAny (model prog w) A (.call (.ref f) args) R s := by
  refine codeAny_call_function hroom (X _ _ ho) rfl hco hgen rfl (codeRec_of X hcd) (hbind _ _ _ _ ?_)
  refine wpAny_newFunctionEnv_cells hk (kindsX hkind _) fun env he s₁ x => ?_
  subst he
  exact ⟨hlim.keeps x.toInCall.keep, codeAny_func (h s₁ x)⟩


noncomputable def ledger (h : Heap) (L d : Addr) : List (Addr × Obj) := (List.range h.objs.size).filterMap fun a => if a = L ∨ a = d then none else (h.get? a).map fun o => (a, o)
end
end Att

namespace L2
open PySem PySem.Spec PyProof.Rows

theorem vals_ints : ∀ {vs : List Value} {ns : List Int}, IntsAre vs ns → Vals (ns.map V.int) vs
  | _, _, .nil => .nil
  | _, _, .cons n t h => .cons ⟨t, rfl⟩ (vals_ints h)


noncomputable def Only (H : Hp) : Prop := ∀ b, H b = none ∨ ∃ o xs, H b = some (.frz o (.lst xs))


theorem law_call {P : Program} {w : World} {K : PySem.W.Frag} {mg mb : Str → Option Value} {CX : CXT} {k : Nat} {fa a : Addr} {fd : FuncData} {x : Str} {sp : Sp} {s₁ : Shared} {vs : List Value} {ns : List Int}
    (KX : K.In s₁.heap) (hns : s₁.heap.Ns mainGlobals mg) (hb : s₁.heap.Ns builtinsNs mb) (hbb : ∀ x : Str, x ≠ "__name__" → mb x = bootBuiltins x) (hlim : s₁.heap.NoLimit) (hg : s₁.gens = #[])
    (ha : s₁.heap.get? a = some { cls := .type "list", data := .seq vs.toArray }) (hi : IntsAre vs ns) (hl : ns.length ≤ sizeLine) (hr : Room k callerA)
    (F : ∀ base : Heap, K.In base → base.Ns mainGlobals mg → FnOk P w K mg base CX k fa fd [x] sp) (hbind : ∀ (s : Shared) (u : Value), BindsTo s fd ⟨[u], []⟩ [(x, u)])
    (hsp : ∀ H : Hp, Only H → SqL K H a (ns.map V.int) → sp [.ref a] H (fun v _ => v = .bl true) fun _ _ _ => False)
    (hCX : ∀ H e s', CX [] H s₁ (fun _ _ _ => False) e s' → False) :
    codeAny (model P w) callerA (.call (.ref fa) ⟨[.ref a], []⟩) (fun r s' => r = .ok (.ret (.bool true)) ∧ OldK s₁.heap s'.heap ∧ s'.os = s₁.os ∧ AllBare s'.gens) s₁ := by
  have rv := vals_ints hi
  have lenV := hi.length
  -- from an abstract heap in which nothing but the script may be tracked
  have core : ∀ H : Hp, Only H → SqL K H a (ns.map V.int) → HOk P w H s₁.heap → (∀ b, H b ≠ none → b = a) → (H a ≠ none → K.lookup a = none) →
      codeAny (model P w) callerA (.call (.ref fa) ⟨[.ref a], []⟩) (fun r s' => r = .ok (.ret (.bool true)) ∧ OldK s₁.heap s'.heap ∧ s'.os = s₁.os ∧ AllBare s'.gens) s₁ := by
    intro H hO hS hok hA hK
    have base_of : ∀ {b : Addr} {o : Obj}, s₁.heap.get? b = some o → H b = none → (hidT s₁.heap H).get? b = some o := fun e n => hidT_get e n
    have noA : ∀ {b : Addr} {o : Obj} {es : Array DictEntry} {ep : Nat}, s₁.heap.get? b = some o → o.data = .dict es ep → H b = none := fun {b o es ep} e d => by
      cases q : H b with
      | none => rfl
      | some u =>
        have e' : b = a := hA b (by rw [q]; simp)
        subst e'
        rw [ha] at e; cases e
        have d' : Data.seq vs.toArray _ = Data.dict es ep := d
        cases d'
    have nsK : ∀ {b : Addr} {m : Str → Option Value}, s₁.heap.Ns b m → (hidT s₁.heap H).Ns b m := fun {b m} ⟨o, es, ep, e, d, r⟩ => ⟨o, es, ep, base_of e (noA e d), d, r⟩
    have hKb : K.In (hidT s₁.heap H) := fun b o e => base_of (KX b o e) (by
      cases q : H b with
      | none => rfl
      | some u =>
        have e' : b = a := hA b (by rw [q]; simp)
        subst e'
        rw [hK (by rw [q]; simp)] at e; cases e)
    have hM : Mod K mg (hidT s₁.heap H) := ⟨hKb, nsK hns, ⟨mb, nsK hb, hbb⟩, let ⟨mc, h1, h2⟩ := hlim; ⟨mc, nsK h1, h2⟩⟩
    have e0 : Env0 P w K mg (hidT s₁.heap H) callerA [] s₁ H := ⟨rfl, hM, fun b o e => of_hidT e, Nat.le_of_eq (hidT_size _ _), trivial, fun b hb => absurd (show b ∈ ([] : List Addr) from hb) (by simp), hok, .of_eq hg⟩
    refine codeAny_mono ((F _ hKb (nsK hns)).run callerA [] s₁ H ⟨[.ref a], []⟩ [.ref a] [.ref a] _ _ hr e0 (hbind s₁ (.ref a)) (.cons rfl .nil) (hsp H hO hS)) fun r s' h => ?_
    cases r with
    | error e => exact (hCX H e s' h).elim
    | ok fl =>
      cases fl with
      | next => exact False.elim h
      | brk => exact False.elim h
      | cont => exact False.elim h
      | ret u =>
        obtain ⟨v, H', os, bare, un, hok', r', q⟩ := h
        have q' : v = .bl true := q
        subst q'
        obtain rfl : u = Value.bool true := r'
        refine ⟨rfl, OldK.of_keep fun b o e => ?_, os, bare⟩
        cases q : H b with
        | none => exact un.keep b o e q (by intro z; exact absurd (show b ∈ ([] : List Addr) from z) (by simp)) (by simp)
        | some u =>
          rcases hO b with z | ⟨ob, xs, z⟩
          · rw [q] at z; cases z
          · have z2 := un.frzs b ob _ z
            obtain ⟨e1, _⟩ := hok b _ z
            obtain ⟨e2, _⟩ := hok' b _ z2
            rw [e] at e1; cases e1
            exact e2
  cases hk : K.lookup a with
  | some o =>
    -- the script is one of the module's own objects
    have e := KX a o hk
    rw [ha] at e
    cases e
    refine core (fun _ => none) (fun _ => .inl rfl) (.inr ⟨_, vs.toArray, _, hk, rfl, rfl, rfl, by rw [List.size_toArray, lenV]; exact hl, by simpa using rv⟩) (fun b u z => by have z' : (none : Option HO) = some u := z; cases z') (fun b z => absurd rfl z) fun z => absurd rfl z
  | none =>
    refine core (fun b => if b = a then some (.frz { cls := .type "list", data := .seq vs.toArray } (.lst (ns.map V.int))) else none) (fun b => ?_) (.inl (.inr ⟨{ cls := .type "list", data := .seq vs.toArray }, if_pos rfl⟩)) (fun b u z => ?_) (fun b z => ?_) fun _ => hk
    · by_cases hb : b = a
      · exact .inr ⟨_, _, if_pos hb⟩
      · exact .inl (if_neg hb)
    · by_cases hb : b = a
      · have z' := (if_pos hb).symm.trans z
        cases z'
        subst hb
        exact ⟨ha, by rw [List.length_map]; exact hl, vs, _, rv, ha⟩
      · have z' := (if_neg hb).symm.trans z
        cases z'
    · by_cases hb : b = a
      · exact hb
      · exact absurd (if_neg hb) z
end L2

namespace L2
open PySem PySem.Spec PyProof.Rows

noncomputable abbrev KOf {K : PySem.W.Frag} {h : Heap} (_ : K.In h) : PySem.W.Frag := K


theorem walk_of {l : PySem.W.OpenLaw} {n k : Nat} {q : Program} {loose : List Str} {XP : (Str → Option Value) → Heap → Prop} {YP : World → Heap → Prop} {d : DefRec} {K : Params → PySem.W.Frag} {CX : World → CXT} {sp : World → Sp} {x : Str}
    (hn : l.most = some n) (hn2 : n ≤ sizeLine) (hdf : d.params.defaults = []) (hr : Room k callerA)
    (hY : ∀ (w : World) (h : Heap), YP w h → (K w.params).In h)
    (F : ∀ (w : World) (mg : Str → Option Value) (fa : Addr) (h : Heap), (K w.params).In h → h.Ns mainGlobals mg → mg d.name = some (.ref fa) →
      ∃ fd : FuncData, (∀ (s : Shared) (u : Value), BindsTo s fd ⟨[u], []⟩ [(x, u)]) ∧
        ∀ base : Heap, (K w.params).In base → base.Ns mainGlobals mg → FnOk l.prog w (K w.params) mg base (CX w) k fa fd [x] (sp w))
    (hsp : ∀ (w : World) (H : Hp) (a : Addr) (ns : List Int), ns.length ≤ n → Only H → SqL (K w.params) H a (ns.map V.int) → sp w [.ref a] H (fun v _ => v = .bl true) fun _ _ _ => False)
    (hCX : ∀ (w : World) (H : Hp) (s : Shared) (e : Value) (s' : Shared), CX w [] H s (fun _ _ _ => False) e s' → False) :
    PySem.W.WalkO q loose XP YP l.row.toRowW d [] (fun f vs => PySem.call f vs) := by
  refine Att.attach_call hn hdf fun w s₀ s₁ mg mb fa o pm cd doc a vs ns G Y ho hd hcd hmg hobj hints hlen hg => ?_
  have KX := hY w _ Y
  obtain ⟨fd, hb, hF⟩ := F w mg fa _ KX G.T.g hmg
  exact law_call KX G.T.g G.T.b G.T.builtins G.T.nolimit hg hobj hints (Nat.le_trans hlen hn2) hr hF hb (fun H hO hS => hsp w H a ns hlen hO hS) fun H e s' => hCX w H s₁ e s'
end L2

/- THE LAST THEOREM (shape; LID, My.* are yours):
   My.Adr: a structure of the addresses that your layer names (classes, functions); My.Txt K t: a structure (Prop) of the equations over K;
   My.txt_mk : {K} {implicit addresses ..} (e1 : nsIn K mainGlobals "law" = some (some (.ref f))) (e2 : K.lookup f = some ⟨oc, od, .func (fnOf "law" "law" params body scope dV kV doc pm an cdv ct), sl⟩) (e3 : codeIn K cdv "law" = true) .. : ∃ t, My.Txt K t

set_option maxRecDepth 100000 in
set_option maxHeartbeats 0 in
theorem PySem.Challenge.cw_LID_holds : PySem.Challenge.rw_LID.Holds := by
  w_on; o_law; k_head; (case hw => w_witness2)
  k_fill
  refine L2.walk_of (l := PySem.Challenge.rw_LID) (n := 63) (k := 40) (x := "script") (CX := fun w => ..) (sp := fun _ => My.sp_law) rfl (by decide) rfl ⟨rfl, by decide, by decide⟩ (fun w h Y => PySem.W.kIn_of Y) ?F ?S ?C
  case F =>
    intro w mg fa h KX G hmg
    have T : ∃ t, My.Txt (L2.KOf KX) t := by
      dsimp only [L2.KOf]                          -- K must stand as «<heap const> w.params» for k_is
      refine' My.txt_mk ?e1 ?e2 ?e3 ..
      (case e1 => PySem.W.k_is)                    -- in the order: a name -> its address -> its object -> its parts
      (case e2 => PySem.W.k_is)
      ..
    obtain ⟨t, T⟩ := T
    have e0 := hmg.symm.trans (PySem.W.mg_of KX G T.law)
    cases e0                                       -- fa is the law's own address
    exact ⟨_, fun s u => .of_eq rfl, fun base kb nb => My.law_fn T kb nb⟩     -- if «.of_eq rfl» comes too early: refine' ⟨_, ?b, fun base kb nb => My.law_fn T kb nb⟩; exact fun s u => .of_eq rfl
  case S => exact fun w H a ns hl hO hS => ..
  case C => exact ..
(the tactic k_is has no namespace: write k_is) -/


namespace L2
open PySem PySem.Spec PyProof.Rows


noncomputable def defArgs (s : Stmt) : Arguments := match s with
  | .FunctionDef _ a _ _ _ _ _ _ _ _ => a
  | _ => { posonlyargs := [], args := [], vararg := none, kwonlyargs := [], kw_defaults := [], kwarg := none, defaults := [] }
noncomputable def defBody (s : Stmt) : List Stmt := match s with
  | .FunctionDef _ _ b _ _ _ _ _ _ _ => b
  | _ => []
noncomputable def defScope (s : Stmt) : Scope := match s with
  | .FunctionDef _ _ _ _ _ _ sc _ _ _ => sc
  | _ => { kind := .function, names := [], isGenerator := false, isCoroutine := false }


noncomputable abbrev CX0 : CXT := fun _ _ _ _ _ _ => False
noncomputable abbrev E0 : XK := fun _ _ _ => False

structure Fun (K : PySem.W.Frag) (x qual : Str) (st : Stmt) (f : Addr) (fd : FuncData) : Prop where
  ex : ∃ (oc : Value) (od : Option Addr) (kV doc pm : Value) (an : Option Addr) (cdv ct : Value) (osl : Array (Option Value)),
    fd = PySem.W.fnOf x qual (defArgs st) (defBody st) (defScope st) .none kV doc pm an cdv ct ∧ K.lookup f = some ⟨oc, od, .func fd, osl⟩ ∧ PySem.W.codeIn K cdv qual = true
  kp : PySem.W.keepIn K (.ref f) = true
section
variable {P : Program} {w : World} {K : PySem.W.Frag} {mg : Str → Option Value} {base : Heap}

theorem Fun.ok {x qual : Str} {st : Stmt} {f : Addr} {fd : FuncData} {N ps : List Str} {k : Nat} {sp : Sp} (F : Fun K x qual st f fd) (S : FnScope N ps (defScope st)) (len : ∀ vs H Q E, sp vs H Q E → vs.length = ps.length)
    (hbody : ∀ (cdv : Value) (A : Around) (outer : List Env) (s : Shared) (H : Hp) (vs : List V) (Q : VK) (E : XK), Room k (A.deeper (envOfC qual (defScope st) s.heap.objs.size f cdv)) → sp vs H Q E →
      ∃ t, PSs (cxOf CX0 P w K mg base N qual (defScope st) f cdv A outer s H E).nox (defBody st) t ∧ t { nx := fun _ H' => Q .non H', rt := Q } (start N vs) H) : FnOk P w K mg base CX0 (k + 1) f fd ps sp := by
  obtain ⟨oc, od, kV, doc, pm, an, cdv, ct, osl, rfl, lk, hcd⟩ := F.ex
  refine fn_of lk hcd S len fun A outer s H vs Q E hr hsp => ?_
  obtain ⟨t, h, q⟩ := hbody cdv A outer s H vs Q E hr hsp
  exact ⟨t, h.nox, q⟩

theorem Fun.binds {x qual : Str} {st : Stmt} {f : Addr} {fd : FuncData} {ps : List Str} (F : Fun K x qual st f fd)
    (h : ∀ (kV doc pm : Value) (an : Option Addr) (cdv ct : Value) (us : List Value), us.length = ps.length → bindArgs (PySem.W.fnOf x qual (defArgs st) (defBody st) (defScope st) .none kV doc pm an cdv ct) ⟨us, []⟩ = pure (ps.zip us)) : Binds K fd ps [] := by
  obtain ⟨oc, od, kV, doc, pm, an, cdv, ct, osl, rfl, lk, hcd⟩ := F.ex
  exact .all (h kV doc pm an cdv ct)
theorem fun_mk {x qual : Str} {st : Stmt} {f : Addr} {oc : Value} {od an : Option Addr} {osl : Array (Option Value)} {kV doc pm cdv ct : Value} (l : K.lookup f = some ⟨oc, od, .func (PySem.W.fnOf x qual (defArgs st) (defBody st) (defScope st) .none kV doc pm an cdv ct), osl⟩)
    (c : PySem.W.codeIn K cdv qual = true) (k : PySem.W.keepIn K (.ref f) = true) : Fun K x qual st f (PySem.W.fnOf x qual (defArgs st) (defBody st) (defScope st) .none kV doc pm an cdv ct) := ⟨⟨oc, od, kV, doc, pm, an, cdv, ct, osl, rfl, l, c⟩, k⟩
end

section
variable {X : Cx}
end




noncomputable def Same (H H' : Hp) : Prop := ∀ b o, H b = some o → H' b = some o
theorem Same.refl (H : Hp) : Same H H := fun _ _ h => h
theorem Same.trans {H H1 H2 : Hp} (a : Same H H1) (b : Same H1 H2) : Same H H2 := fun c o h => b c o (a c o h)
theorem Same.free {H H' : Hp} (e : Same H H') {l : Addr} (h : H' l = Option.none) : H l = Option.none := by
  cases q : H l with
  | none => rfl
  | some o =>
    rw [e l o q] at h
    cases h
theorem Same.seq {K : PySem.W.Frag} {H H' : Hp} {a : Addr} {xs : List V} (e : Same H H') (h : SqL K H a xs) : SqL K H' a xs := by
  rcases h with (h | ⟨o, h⟩) | h
  · exact .inl (.inl (e _ _ h))
  · exact .inl (.inr ⟨o, e _ _ h⟩)
  · exact .inr h

end L2

namespace L2
open PySem PySem.Spec PyProof.Rows


section
variable {κ : Type} [DecidableEq κ]
noncomputable def valV (kvs : List (κ × V)) (k : κ) : Option V := (kvs.find? fun kv => decide (kv.1 = k)).map (·.2)

noncomputable def putK (kvs : List (κ × V)) (k : κ) (v : V) : List (κ × V) :=
  if (kvs.any fun kv => decide (kv.1 = k)) = true then kvs.map (fun kv => if kv.1 = k then (kv.1, v) else kv) else kvs ++ [(k, v)]
noncomputable def dropK (kvs : List (κ × V)) (k : κ) : List (κ × V) := kvs.filter fun kv => decide (kv.1 ≠ k)

theorem valV_pos {p : κ × V} {r : List (κ × V)} {k : κ} (e : p.1 = k) : valV (p :: r) k = some p.2 := by simp [valV, List.find?_cons, e]
theorem valV_neg {p : κ × V} {r : List (κ × V)} {k : κ} (e : ¬ p.1 = k) : valV (p :: r) k = valV r k := by simp [valV, List.find?_cons, e]
theorem valV_any (k : κ) : ∀ kvs : List (κ × V), (kvs.any fun kv => decide (kv.1 = k)) = (valV kvs k).isSome
  | [] => rfl
  | p :: r => by
    rw [List.any_cons]
    by_cases e : p.1 = k
    · simp only [valV_pos e, decide_eq_true e, Bool.true_or, Option.isSome_some]
    · rw [valV_neg e, decide_eq_false e, Bool.false_or]; exact valV_any k r
theorem length_putK (kvs : List (κ × V)) (k : κ) (v : V) : (putK kvs k v).length ≤ kvs.length + 1 := by
  unfold putK
  split
  · rw [List.length_map]; omega
  · rw [List.length_append, List.length_cons, List.length_nil]; omega
theorem putK_new {kvs : List (κ × V)} {k : κ} (v : V) (h : valV kvs k = none) : putK kvs k v = kvs ++ [(k, v)] := by
  unfold putK
  rw [valV_any, h]
  exact if_neg (by decide)

theorem RelO.isSome_eq {o : Option V} {u : Option Value} (r : RelO o u) : o.isSome = u.isSome := by
  cases o with
  | none => cases u with
    | none => rfl
    | some _ => exact (show False from r).elim
  | some _ => cases u with
    | none => exact (show False from r).elim
    | some _ => rfl
theorem RelO.getD {o : Option V} {u : Option Value} {d : V} {d' : Value} (r : RelO o u) (rd : RelV d d') : RelV (o.getD d) (u.getD d') := by
  cases o with
  | none => cases u with
    | none => exact rd
    | some _ => exact (show False from r).elim
  | some _ => cases u with
    | none => exact (show False from r).elim
    | some _ => exact r


theorem KV.val {kvs : List (κ × V)} {vs : List (κ × Value)} (r : KV kvs vs) (k : κ) : RelO (valV kvs k) (valueAt vs k) := by
  unfold KV at r
  induction r with
  | nil => exact True.intro
  | @cons p q ps qs h t ih =>
    obtain ⟨h1, h2⟩ := h
    by_cases e : p.1 = k
    · have e' : q.1 = k := h1.symm.trans e
      have b : valueAt (q :: qs) k = some q.2 := by simp [valueAt, List.find?_cons, e']
      rw [valV_pos e, b]; exact h2
    · have e' : ¬ q.1 = k := fun z => e (h1.trans z)
      have b : valueAt (q :: qs) k = valueAt qs k := by simp [valueAt, List.find?_cons, e']
      rw [valV_neg e, b]; exact ih
theorem KV.any {kvs : List (κ × V)} {vs : List (κ × Value)} (r : KV kvs vs) (k : κ) : (kvs.any fun kv => decide (kv.1 = k)) = vs.any fun kv => decide (kv.1 = k) := by
  unfold KV at r
  induction r with
  | nil => rfl
  | cons h t ih => rw [List.any_cons, List.any_cons, ih, h.1]
theorem KV.repl {kvs : List (κ × V)} {vs : List (κ × Value)} (r : KV kvs vs) (k : κ) {y : V} {u : Value} (ry : RelV y u) :
    KV (kvs.map fun kv => if kv.1 = k then (kv.1, y) else kv) (vs.map fun kv => if kv.1 = k then (kv.1, u) else kv) := by
  unfold KV at r ⊢
  induction r with
  | nil => exact .nil
  | @cons p q ps qs h t ih =>
    rw [List.map_cons, List.map_cons]
    refine .cons ?_ ih
    obtain ⟨h1, h2⟩ := h
    by_cases e : p.1 = k
    · rw [if_pos e, if_pos (h1.symm.trans e)]; exact ⟨h1, ry⟩
    · rw [if_neg e, if_neg (fun z => e (h1.trans z))]; exact ⟨h1, h2⟩
theorem KV.put {kvs : List (κ × V)} {vs : List (κ × Value)} (r : KV kvs vs) (k : κ) {y : V} {u : Value} (ry : RelV y u) : KV (putK kvs k y) (stored vs k u) := by
  unfold putK stored
  rw [r.any k]
  by_cases e : (vs.any fun kv => decide (kv.1 = k)) = true
  · rw [if_pos e, if_pos e]; exact r.repl k ry
  · rw [if_neg e, if_neg e]; exact Paired.snoc r ⟨rfl, ry⟩
theorem KV.drop {kvs : List (κ × V)} {vs : List (κ × Value)} (r : KV kvs vs) (k : κ) : KV (dropK kvs k) (without vs k) := by
  unfold KV at r ⊢
  unfold dropK without
  induction r with
  | nil => exact .nil
  | @cons p q ps qs h t ih =>
    obtain ⟨h1, h2⟩ := h
    rw [List.filter_cons, List.filter_cons]
    by_cases e : p.1 = k
    · have a : ¬ decide (p.1 ≠ k) = true := by simp [e]
      have b : ¬ decide (q.1 ≠ k) = true := by simp [h1.symm.trans e]
      rw [if_neg a, if_neg b]; exact ih
    · have e' : ¬ q.1 = k := fun z => e (h1.trans z)
      have a : decide (p.1 ≠ k) = true := by simp [e]
      have b : decide (q.1 ≠ k) = true := by simp [e']
      rw [if_pos a, if_pos b]; exact .cons ⟨h1, h2⟩ ih
theorem KV.keys {kvs : List (κ × V)} {vs : List (κ × Value)} (r : KV kvs vs) : kvs.map (·.1) = vs.map (·.1) := by
  unfold KV at r
  induction r with
  | nil => rfl
  | cons h t ih => rw [List.map_cons, List.map_cons, ih, h.1]
theorem KV.length {kvs : List (κ × V)} {vs : List (κ × Value)} (r : KV kvs vs) : kvs.length = vs.length := Paired.length r
end



theorem kV_is {P : Program} {w : World} {k : Key} {u : Value} (r : RelV (kV k) u) : (mixKind P w).is k u = true := by
  cases k with
  | inl i => obtain ⟨t, e⟩ := (show ∃ t, u = Value.int i t from r); subst e; exact mixKind_int P w i t
  | inr x => obtain ⟨t, e⟩ := (show ∃ t, u = Value.str x t from r); subst e; exact mixKind_str P w x t
theorem items_are {P : Program} {w : World} : ∀ {ks : List Key} {us : List Value}, Vals (ks.map kV) us → ItemsAre (mixKind P w) ks us
  | [], _, r => by rw [List.map_nil] at r; cases r; exact .nil
  | k :: ks, _, r => by
    rw [List.map_cons] at r
    cases r with
    | cons h t => exact .cons (kV_is h) (items_are t)


noncomputable abbrev KT (H : Hp) : List (List Key × V) → List (List Key × Addr × Value) → Prop := Paired fun p q => p.1 = q.1 ∧ H q.2.1 = some (.tup (p.1.map kV)) ∧ RelV p.2 q.2.2
theorem KT.val {H : Hp} {kvs : List (List Key × V)} {xs : List (List Key × Addr × Value)} (r : KT H kvs xs) (k : List Key) : RelO (valV kvs k) ((atKey xs k).map (·.2)) := by
  induction r with
  | nil => exact True.intro
  | @cons p q ps qs h t ih =>
    obtain ⟨h1, _, h2⟩ := h
    by_cases e : p.1 = k
    · have e' : q.1 = k := h1.symm.trans e
      have b : atKey (q :: qs) k = some q.2 := by simp [atKey, List.find?_cons, e']
      rw [valV_pos e, b]; exact h2
    · have e' : ¬ q.1 = k := fun z => e (h1.trans z)
      have b : atKey (q :: qs) k = atKey qs k := by simp [atKey, List.find?_cons, e']
      rw [valV_neg e, b]; exact ih
theorem KT.repl {H : Hp} {kvs : List (List Key × V)} {xs : List (List Key × Addr × Value)} (r : KT H kvs xs) (k : List Key) {y : V} {u : Value} (ry : RelV y u) :
    KT H (kvs.map fun kv => if kv.1 = k then (kv.1, y) else kv) (xs.map (putAt k u)) := by
  induction r with
  | nil => exact .nil
  | @cons p q ps qs h t ih =>
    rw [List.map_cons, List.map_cons]
    refine .cons ?_ ih
    obtain ⟨h1, h2, h3⟩ := h
    unfold putAt
    by_cases e : p.1 = k
    · rw [if_pos e, if_pos (h1.symm.trans e)]; exact ⟨h1, h2, ry⟩
    · rw [if_neg e, if_neg (fun z => e (h1.trans z))]; exact ⟨h1, h2, h3⟩
theorem KT.put {H : Hp} {kvs : List (List Key × V)} {xs : List (List Key × Addr × Value)} (r : KT H kvs xs) (k : List Key) {b : Addr} {y : V} {u : Value} (hb : H b = some (.tup (k.map kV))) (ry : RelV y u) :
    KT H (putK kvs k y) (storedH xs k b u) := by
  have e : (kvs.any fun kv => decide (kv.1 = k)) = (atKey xs k).isSome := by
    rw [valV_any, (r.val k).isSome_eq, Option.isSome_map]
  unfold putK storedH
  rw [e]
  by_cases q : (atKey xs k).isSome = true
  · rw [if_pos q, if_pos q]; exact r.repl k ry
  · rw [if_neg q, if_neg q]; exact Paired.snoc r ⟨rfl, hb, ry⟩
theorem KT.keeps {H H' : Hp} {kvs : List (List Key × V)} {xs : List (List Key × Addr × Value)} (r : KT H kvs xs) (ht : ∀ b ys, H b = some (.tup ys) → H' b = some (.tup ys)) : KT H' kvs xs :=
  Paired.mapP r fun _ _ z => ⟨z.1, ht _ _ z.2.1, z.2.2⟩

section
variable {P : Program} {w : World} {H : Hp} {h : Heap} {a : Addr}
theorem rd_of {u : HO} (ok : HOk P w H h) (e : Rd H a u) : ObjOk P w H h a u := e.ok ok
theorem dk_rd {kvs : List (Key × V)} (ok : HOk P w H h) (e : Rd H a (.dK kvs)) : kvs.length ≤ sizeLine ∧ (a == sysModules) = false ∧ ∃ vs, KV kvs vs ∧ h.DictOf (mixKind P w) a vs :=
  show ObjOk P w H h a (.dK kvs) from rd_of ok e
theorem dk_of {kvs : List (Key × V)} (ok : HOk P w H h) (e : H a = some (.dK kvs)) : kvs.length ≤ sizeLine ∧ (a == sysModules) = false ∧ ∃ vs, KV kvs vs ∧ h.DictOf (mixKind P w) a vs := dk_rd ok (.inl e)

theorem key_of {ks : List Key} (ok : HOk P w H h) (e : H a = some (.tup (ks.map kV))) : (tupleKind (mixKind P w)).is h ks a := by
  obtain ⟨_, its, r, o, h1, h2, n, h3⟩ := (show ObjOk P w H h a (.tup (ks.map kV)) from ok a _ e)
  exact ⟨o, its.toArray, n, h1, h2, h3, by simpa using items_are r⟩
theorem dt_rd {kvs : List (List Key × V)} (ok : HOk P w H h) (e : Rd H a (.dT kvs)) : kvs.length ≤ sizeLine ∧ (a == sysModules) = false ∧
    ∃ xs, KT H kvs xs ∧ h.DictOfH (tupleKind (mixKind P w)) a xs := by
  obtain ⟨z, y, xs, r, o, es, ep, h1, h2, h3, h4, h5⟩ := (show ObjOk P w H h a (.dT kvs) from rd_of ok e)
  refine ⟨z, y, xs, r, o, es, ep, h1, h2, h3, h4, fun x hx => ?_, h5⟩
  have all : ∀ {l : List (List Key × V)} {m : List (List Key × Addr × Value)}, KT H l m → ∀ x ∈ m, (tupleKind (mixKind P w)).is h x.1 x.2.1 := by
    intro l m q
    induction q with
    | nil => intro x hx; exact nomatch hx
    | @cons p q ps qs hq t ih =>
      intro x hx
      rcases List.mem_cons.mp hx with e | hx
      · subst e
        exact key_of ok (by rw [← hq.1]; exact hq.2.1)
      · exact ih x hx
  exact all r x hx
theorem dt_of {kvs : List (List Key × V)} (ok : HOk P w H h) (e : H a = some (.dT kvs)) : kvs.length ≤ sizeLine ∧ (a == sysModules) = false ∧
    ∃ xs, KT H kvs xs ∧ h.DictOfH (tupleKind (mixKind P w)) a xs := dt_rd ok (.inl e)
end


noncomputable def DGet (H : Hp) (a : Addr) (y : V) (r : Option V) : Prop :=
  (∃ kvs k, Rd H a (.dK kvs) ∧ y = kV k ∧ r = valV kvs k) ∨ ∃ kvs k b, Rd H a (.dT kvs) ∧ y = .ref b ∧ H b = some (.tup (k.map kV)) ∧ r = valV kvs k

noncomputable def DPut (H : Hp) (a : Addr) (y v : V) (H' : Hp) : Prop :=
  (∃ kvs k, H a = some (.dK kvs) ∧ y = kV k ∧ kvs.length < sizeLine ∧ H' = upd H a (.dK (putK kvs k v))) ∨
  ∃ kvs k b, H a = some (.dT kvs) ∧ y = .ref b ∧ H b = some (.tup (k.map kV)) ∧ kvs.length < sizeLine ∧ H' = upd H a (.dT (putK kvs k v))
theorem DGet.k {H : Hp} {a : Addr} {kvs : List (Key × V)} {k : Key} (e : H a = some (.dK kvs)) : DGet H a (kV k) (valV kvs k) := .inl ⟨kvs, k, .inl e, rfl, rfl⟩
theorem DGet.t {H : Hp} {a b : Addr} {kvs : List (List Key × V)} {k : List Key} (e : H a = some (.dT kvs)) (eb : H b = some (.tup (k.map kV))) : DGet H a (.ref b) (valV kvs k) := .inr ⟨kvs, k, b, .inl e, rfl, eb, rfl⟩
theorem DPut.k {H : Hp} {a : Addr} {kvs : List (Key × V)} {k : Key} {v : V} (e : H a = some (.dK kvs)) (hl : kvs.length < sizeLine) : DPut H a (kV k) v (upd H a (.dK (putK kvs k v))) := .inl ⟨kvs, k, e, rfl, hl, rfl⟩
theorem DPut.t {H : Hp} {a b : Addr} {kvs : List (List Key × V)} {k : List Key} {v : V} (e : H a = some (.dT kvs)) (eb : H b = some (.tup (k.map kV))) (hl : kvs.length < sizeLine) :
    DPut H a (.ref b) v (upd H a (.dT (putK kvs k v))) := .inr ⟨kvs, k, b, e, rfl, eb, hl, rfl⟩


section
variable {X : Cx} {pins : List (Addr × Obj)} {σ : St} {H : Hp} {s : Shared} {a : Addr} {y v : V} {u r : Value} {o : Option V} {A : Around} {E : Value → Shared → Prop}

theorem Inv.big (I : Inv X pins σ H s) : sysModules < s.heap.objs.size := by
  have h : mainGlobals < s.heap.objs.size := (I.mod.glob.keeps I.bk).lt
  exact Nat.lt_trans (by decide) h


theorem d_getItem {Q : Value → Shared → Prop} (hu : A.units + 1 < cLine) (I : Inv X pins σ H s) (g : DGet H a y (some v)) (ry : RelV y u) (h : ∀ w' s', Inv X pins σ H s' → RelV v w' → Q w' s') :
    wpAny (model X.prog X.w) A (getItem (.ref a) u) Q E s := by
  rcases g with ⟨kvs, k, e, ey, l⟩ | ⟨kvs, k, b, e, ey, eb, l⟩
  · subst ey
    obtain ⟨z, hd, vs, rel, dd⟩ := dk_rd I.hok e
    obtain ⟨w', hw, rw'⟩ := RelO.some_of (v := v) (o := valueAt vs k) (by rw [l]; exact rel.val k)
    exact wpAny_getItem_of (kV_is ry) dd.mapOf hw (h w' _ (I.tok _) rw')
  · subst ey
    cases (show u = Value.ref b from ry)
    obtain ⟨z, hd, xs, rel, dd⟩ := dt_rd I.hok e
    obtain ⟨w', hw, rw'⟩ := RelO.some_of (v := v) (o := (atKey xs k).map (·.2)) (by rw [l]; exact rel.val k)
    obtain ⟨p, hp, hp2⟩ := Option.map_eq_some_iff.mp hw
    refine wpAny_getItem_heap (tupleKind_room_in1 hu) (key_of I.hok eb) dd hp ?_
    rw [hp2]
    exact h w' _ (I.tok _) rw'

theorem d_in {Q : Value → Shared → Prop} (hu : A.units + 1 < cLine) (I : Inv X pins σ H s) (g : DGet H a y o) (ry : RelV y u) (h : ∀ s', Inv X pins σ H s' → Q (.bool o.isSome) s') :
    wpAny (model X.prog X.w) A (compareOp .In u (.ref a)) Q E s := by
  rcases g with ⟨kvs, k, e, ey, l⟩ | ⟨kvs, k, b, e, ey, eb, l⟩
  · subst ey
    obtain ⟨z, hd, vs, rel, dd⟩ := dk_rd I.hok e
    refine wpAny_in_of (kV_is ry) hd dd.mapOf ?_
    rw [← (rel.val k).isSome_eq, ← l]
    exact h _ (I.tok _)
  · subst ey
    cases (show u = Value.ref b from ry)
    obtain ⟨z, hd, xs, rel, dd⟩ := dt_rd I.hok e
    refine wpAny_in_heap (tupleKind_room_in1 hu) (key_of I.hok eb) hd dd ?_
    have q := (rel.val k).isSome_eq
    rw [Option.isSome_map] at q
    rw [← q, ← l]
    exact h _ (I.tok _)

theorem d_write {h' : Heap} {t' : Nat} {ob : HO} (I : Inv X pins σ H s) (mu : Mut (H a)) (hs : Heap.SameBut a s.heap h') (he : ∃ q, h'.get? a = some q) (new : ObjOk X.prog X.w (upd H a ob) h' a ob) :
    Inv X pins σ (upd H a ob) { s with heap := h', toks := t' } :=
  I.write (x := a) (e := a) mu (.inl rfl) (fun b q hb z => (hs.2 b hb).trans z) he new
theorem dk_new {P : Program} {w : World} {H' : Hp} {h' : Heap} {kvs : List (Key × V)} {vs : List (Key × Value)} (z : kvs.length ≤ sizeLine) (hd : (a == sysModules) = false) (rel : KV kvs vs) (dd : h'.DictOf (mixKind P w) a vs) :
    ObjOk P w H' h' a (.dK kvs) := ⟨z, hd, vs, rel, dd⟩

theorem d_setItem {H' : Hp} {Q : Unit → Shared → Prop} (hu : A.units + 1 < cLine) (I : Inv X pins σ H s) (g : DPut H a y v H') (ry : RelV y u) (rv : RelV v r) (h : ∀ s', Inv X pins σ H' s' → Q () s') :
    wpAny (model X.prog X.w) A (setItem (.ref a) u r) Q E s := by
  rcases g with ⟨kvs, k, e, ey, l, eH⟩ | ⟨kvs, k, b, e, ey, eb, l, eH⟩
  · subst ey eH
    obtain ⟨z, hd, vs, rel, dd⟩ := dk_of I.hok e
    have hz : vs.length ≤ sizeLine := by rw [← rel.length]; exact z
    have hl : (putK kvs k v).length ≤ sizeLine := by have := length_putK kvs k v; omega
    refine wpAny_setItem_pairs (hsz := hz) (kV_is ry) dd fun h' dd' hs => h _ ?_
    have he : ∃ q, h'.get? a = some q := let ⟨q, _, _, hq, _⟩ := dd'; ⟨q, hq⟩
    exact d_write I (by rw [e]; exact True.intro) hs he (dk_new hl hd (rel.put k rv) dd')
  · subst ey eH
    cases (show u = Value.ref b from ry)
    obtain ⟨z, hd, xs, rel, dd⟩ := dt_of I.hok e
    have hz : xs.length ≤ sizeLine := by rw [← Paired.length rel]; exact z
    have hl : (putK kvs k v).length ≤ sizeLine := by have := length_putK kvs k v; omega
    refine wpAny_setItem_heap (hsz := hz) (tupleKind_room_in1 hu) (key_of I.hok eb) dd fun h' dd' hs => h _ ?_
    obtain ⟨q, es, ep, hq, h2, h3, h4, _, h5⟩ := dd'
    refine d_write I (by rw [e]; exact True.intro) hs ⟨q, hq⟩ ⟨hl, hd, _, (rel.put k eb rv).keeps fun c ys ec => ?_, q, es, ep, hq, h2, h3, h4, h5⟩
    rw [upd_ne (ne_of ec e (fun z => nomatch z))]
    exact ec
end

section
variable {X : Cx} {pins : List (Addr × Obj)} {σ : St} {H : Hp} {s : Shared} {a : Addr} {kvs : List (Key × V)} {k : Key} {u : Value} {A : Around} {E : Value → Shared → Prop}

theorem d_len {Q : Value → Shared → Prop} (I : Inv X pins σ H s) (e : Rd H a (.dK kvs)) (h : ∀ t s', Inv X pins σ H s' → Q (.int kvs.length t) s') : wpAny (model X.prog X.w) A (call (.builtin "len") [.ref a]) Q E s := by
  obtain ⟨z, hd, vs, rel, dd⟩ := dk_rd I.hok e
  refine call_len_dict hd dd (by rw [← rel.length]; rw [sizeLine_eq] at z; omega) ?_
  rw [← rel.length]
  exact h _ _ (I.tok _)
end



theorem dict_typeIs {X : Cx} {pins : List (Addr × Obj)} {σ : St} {H : Hp} {s : Shared} {a : Addr} {y : V} {o : Option V} (I : Inv X pins σ H s) (g : DGet H a y o) : s.TypeIs (.ref a) "dict" := by
  rcases g with ⟨kvs, k, e, _, _⟩ | ⟨kvs, k, b, e, _, _, _⟩
  · obtain ⟨_, _, vs, _, dd⟩ := dk_rd I.hok e
    exact dd.typeIs
  · obtain ⟨_, _, xs, _, dd⟩ := dt_rd I.hok e
    exact dd.typeIs
section
variable {X : Cx} {o i e value : Expr} {pos pos' tpos : Pos} {td ty tv : TE}
end



section
variable {X : Cx} {pos : Pos}
end



structure M1 (X : Cx) (o : Expr) (m : Str) (apos : Pos) (e : Expr) (cpos : Pos) : Prop where
  base : attributeBase o m X.env (eval o X.env) = eval o X.env
  few : ((backTo cpos (starEach [e] X.env)).all (fun x => !x.1) && (backToKw cpos (keywordEach [] X.env)).all (fun x => x.1.isSome)
    && decide (([e] : List Expr).length + ([] : List Keyword).length + (if ([] : List Keyword).isEmpty then 0 else 1) < 30)) = true
  line : (apos.endLine == cpos.line) = true
  trees : backTo cpos (starEach [e] X.env) = [(false, eval e X.env)]
structure M2 (X : Cx) (o : Expr) (m : Str) (apos : Pos) (e f : Expr) (cpos : Pos) : Prop where
  base : attributeBase o m X.env (eval o X.env) = eval o X.env
  few : ((backTo cpos (starEach [e, f] X.env)).all (fun x => !x.1) && (backToKw cpos (keywordEach [] X.env)).all (fun x => x.1.isSome)
    && decide (([e, f] : List Expr).length + ([] : List Keyword).length + (if ([] : List Keyword).isEmpty then 0 else 1) < 30)) = true
  line : (apos.endLine == cpos.line) = true
  trees : backTo cpos (starEach [e, f] X.env) = [(false, eval e X.env), (false, eval f X.env)]

section
variable {X : Cx} {pins : List (Addr × Obj)} {σ : St} {H : Hp} {s : Shared} {a : Addr} {y d : V} {u r : Value} {o : Option V} {A : Around} {E : Value → Shared → Prop}
end

section
variable {X : Cx} {o e f : Expr} {apos cpos : Pos} {td ty tx : TE}
end


section
variable {X : Cx} {pins : List (Addr × Obj)} {σ : St} {H : Hp} {s : Shared} {a : Addr} {kvs : List (Key × V)} {A : Around} {E : Value → Shared → Prop}
end


section
variable {X : Cx} {pins : List (Addr × Obj)} {σ : St} {H : Hp} {s : Shared} {a : Addr} {y : V} {u : Value} {A : Around} {E : Value → Shared → Prop}
end
end L2




namespace L2.L3
open PySem PySem.Spec PyProof.Rows


noncomputable def sgn (c : Nat) : V := .str ⟨#[c]⟩
noncomputable def Its (z : Str) : It := ⟨fun i _ => i < z.cps.size, fun i H x H' => H' = H ∧ ∃ c, z.cps[i]? = some c ∧ x = sgn c, fun i _ => z.cps.size ≤ i⟩
theorem turn_str {P : Program} {w : World} {K : PySem.W.Frag} {tg : Expr} (z : Str) (t : Tok) (it : Addr) (T : String) (hT : T = "str_ascii_iterator" ∨ T = "str_iterator") :
    Turn P w K tg (Its z) [it] it (fun i h => h.IsStrIter it T z t i) where
  mem := by simp
  obj := fun i h st b hb => by
    have e : b = it := by simpa using hb
    subst e
    obtain ⟨o, e, c, d⟩ := st
    exact ⟨o, e, fun v z => by rw [d] at z; cases z⟩
  keep := fun i h h' st k => by
    obtain ⟨o, e, c, d⟩ := st
    exact ⟨o, k it (by simp) o e, c, d⟩
  item := by
    intro X hP hw hK hc i pins s σ H E I hf st hg
    subst hP hw hK
    obtain ⟨f0, f1, f2, f3, f4, f5⟩ := hf it (by simp)
    have hi : i < z.cps.size := hg
    rcases hT with rfl | rfl
    · refine wpAny_pyNext_ascii_item st (c := z.cps[i]) (by simp [hi]) fun h' st' sb => ?_
      have I1 : Inv X pins σ H { s with heap := h', toks := s.toks + 1 } := I.turned (fun b o hb e => (sb.2 b hb).trans e) f0 f1 f3 f4 f5
      obtain ⟨o, e, c, d⟩ := id st'
      exact ⟨_, rfl, go_of (s := { s with heap := h', toks := s.toks + 1 }) e c d (by decide) ⟨sgn z.cps[i], H, I1, ⟨_, rfl⟩, ⟨rfl, _, by simp [hi], rfl⟩, st', fun b hb => (hf b hb).1⟩⟩
    · refine wpAny_pyNext_wide_item st (c := z.cps[i]) (by simp [hi]) fun h' st' sb => ?_
      have I1 : Inv X pins σ H { s with heap := h', toks := s.toks + 1 } := I.turned (fun b o hb e => (sb.2 b hb).trans e) f0 f1 f3 f4 f5
      obtain ⟨o, e, c, d⟩ := id st'
      exact ⟨_, rfl, go_of (s := { s with heap := h', toks := s.toks + 1 }) e c d (by decide) ⟨sgn z.cps[i], H, I1, ⟨_, rfl⟩, ⟨rfl, _, by simp [hi], rfl⟩, st', fun b hb => (hf b hb).1⟩⟩
  done := by
    intro X hP hw hK hc i pins s σ H E I hf st hg
    subst hP hw hK
    obtain ⟨f0, f1, f2, f3, f4, f5⟩ := hf it (by simp)
    have hi : z.cps.size ≤ i := hg
    rcases hT with rfl | rfl
    · exact wpAny_pyNext_ascii_end (I.ok.hd hc) st (by simp [hi]) fun h' eb => ⟨rfl, I.turned (t' := s.toks) (fun b o hb e => eb b o hb e) f0 f1 f3 f4 f5⟩
    · exact wpAny_pyNext_wide_end (I.ok.hd hc) st (by simp [hi]) fun h' eb => ⟨rfl, I.turned (t' := s.toks) (fun b o hb e => eb b o hb e) f0 f1 f3 f4 f5⟩
  self := fun _ _ _ _ _ st h => by
    rcases hT with rfl | rfl
    · exact wpAny_pyIter_striter_ascii st h
    · exact wpAny_pyIter_striter_wide st h


structure Yl (J : It) (P : Hp → Prop) (items : List V) : Prop where
  go : ∀ i H, P H → i < items.length → J.go i H
  yld : ∀ i H x H', P H → i < items.length → J.yld i H x H' → H' = H ∧ items[i]? = some x
  stop : ∀ H, P H → J.stop items.length H
theorem yl_list {K : PySem.W.Frag} {a : Addr} {xs : List V} : Yl (Itl K a) (fun H => SqL K H a xs) xs where
  go := fun i H p h => ⟨xs, xs[i], p, by simp [h]⟩
  yld := fun i H x H' p _ h => ⟨h.1, h.2 xs p⟩
  stop := fun H p => ⟨xs, p, Nat.le_refl _⟩
theorem yl_tup {K : PySem.W.Frag} {a : Addr} {xs : List V} : Yl (Itt K a) (fun H => SqT K H a xs) xs where
  go := fun i H p h => ⟨xs, xs[i], p, by simp [h]⟩
  yld := fun i H x H' p _ h => ⟨h.1, h.2 xs p⟩
  stop := fun H p => ⟨xs, p, Nat.le_refl _⟩
noncomputable def rngV (lo : Int) (n : Nat) : List V := (List.range n).map fun i => .int (lo + (i : Nat))
theorem rngV_len (lo : Int) (n : Nat) : (rngV lo n).length = n := by unfold rngV; rw [List.length_map, List.length_range]
theorem rngV_get {lo : Int} {n i : Nat} {x : V} (h : (rngV lo n)[i]? = some x) : i < n ∧ x = .int (lo + (i : Nat)) := by
  unfold rngV at h
  rw [List.getElem?_map] at h
  by_cases hi : i < n
  · rw [List.getElem?_range hi] at h
    exact ⟨hi, (Option.some.inj h).symm⟩
  · rw [List.getElem?_eq_none_iff.mpr (by rw [List.length_range]; omega)] at h
    cases h
theorem yl_rng {lo : Int} {n : Nat} : Yl (Itr lo n) (fun _ => True) (rngV lo n) where
  go := fun i H _ h => by rw [rngV_len] at h; exact h
  yld := fun i H x H' _ hi h => ⟨h.1, by
    have e : x = .int (lo + (i : Nat)) := h.2
    rw [rngV_len] at hi
    rw [e]
    unfold rngV
    rw [List.getElem?_map, List.getElem?_range hi]
    rfl⟩
  stop := fun H _ => by rw [rngV_len]; exact Nat.le_refl _

noncomputable def sgnV (z : Str) : List V := z.cps.toList.map sgn
theorem sgnV_len (z : Str) : (sgnV z).length = z.cps.size := by unfold sgnV; rw [List.length_map, Array.length_toList]
theorem yl_str {z : Str} : Yl (Its z) (fun _ => True) (sgnV z) where
  go := fun i H _ h => by rw [sgnV_len] at h; exact h
  yld := fun i H x H' _ hi h => by
    obtain ⟨e, c, h1, h2⟩ := h
    refine ⟨e, ?_⟩
    unfold sgnV
    rw [List.getElem?_map, h2]
    have q : z.cps.toList[i]? = some c := by simpa using h1
    rw [q]
    rfl
  stop := fun H _ => by rw [sgnV_len]; exact Nat.le_refl _


theorem for_yl {J : It} {P : Hp → Prop} {xs : List V} {g : TG} {tb : TS} {D : Ends} {σ : St} {H : Hp} (Y : Yl J P xs) (Pv : Nat → St → Hp → Prop) (h0 : Pv 0 σ H) (hl : ∀ i σ H, i ≤ xs.length → Pv i σ H → P H)
    (hs : ∀ i x σ H, xs[i]? = some x → Pv i σ H → g x σ H fun σ2 H2 => tb { D with nx := Pv (i + 1), ct := Pv (i + 1), bk := D.nx } σ2 H2) (hd : ∀ σ H, Pv xs.length σ H → D.nx σ H) :
    ∃ W : Nat → Nat → St → Hp → Prop, (∃ m, W 0 m σ H) ∧ ∀ i m σ H, W i m σ H →
      (J.stop i H ∧ D.nx σ H) ∨ (J.go i H ∧ ∃ N : St → Hp → Prop, (∀ σ' H', N σ' H' → ∃ m', m' < m ∧ W (i + 1) m' σ' H') ∧ ∀ x H', J.yld i H x H' → g x σ H' fun σ2 H2 => tb { D with nx := N, ct := N, bk := D.nx } σ2 H2) := by
  refine ⟨fun i m σ H => m = xs.length - i ∧ i ≤ xs.length ∧ Pv i σ H, ⟨xs.length, by simp, Nat.zero_le _, h0⟩, ?_⟩
  rintro i m σ H ⟨rfl, hi, p⟩
  have q := hl i σ H hi p
  by_cases hlt : i < xs.length
  · refine .inr ⟨Y.go i H q hlt, Pv (i + 1), fun σ' H' p' => ⟨xs.length - (i + 1), by omega, rfl, hlt, p'⟩, fun x H' y => ?_⟩
    obtain ⟨e, hx⟩ := Y.yld i H x H' q hlt y
    subst e
    exact hs i x σ H' hx p
  · have e : i = xs.length := by omega
    subst e
    exact .inl ⟨Y.stop H q, hd σ H p⟩


noncomputable def clOf (names : List (Str × NameKind)) (env : Env) : List (Str × Addr) := ((names.filter fun x => x.2 == .free).filterMap fun x => (env.cells.lookup x.1).map fun c => (x.1, c)).reverse
theorem clOf_mem {names : List (Str × NameKind)} {env : Env} {x : Str} {c : Addr} (h : (x, c) ∈ clOf names env) : env.cells.lookup x = some c := by
  obtain ⟨y, hy, e⟩ := List.mem_filterMap.mp (List.mem_reverse.mp h)
  cases q : env.cells.lookup y.1 with
  | none => rw [q] at e; cases e
  | some d =>
    rw [q] at e
    have e' : (y.1, d) = (x, c) := Option.some.inj e
    cases e'
    exact q
theorem clOf_lookup {names : List (Str × NameKind)} {env : Env} {x : Str} {c : Addr} (h : (clOf names env).lookup x = some c) : env.cells.lookup x = some c := clOf_mem (PySem.mem_of_lookup h)
theorem clOf_has {names : List (Str × NameKind)} {env : Env} {x : Str} {c : Addr} (h : names.lookup x = some .free) (e : env.cells.lookup x = some c) : (clOf names env).lookup x = some c := by
  have hm : (x, c) ∈ clOf names env := List.mem_reverse.mpr (List.mem_filterMap.mpr ⟨(x, .free), List.mem_filter.mpr ⟨PySem.mem_of_lookup h, rfl⟩, by rw [e]; rfl⟩)
  cases q : (clOf names env).lookup x with
  | none =>
    have z := List.lookup_eq_none_iff.mp q _ hm
    simp at z
  | some d =>
    have z := clOf_lookup q
    rw [e] at z
    exact z.symm

theorem relabel_cell {env : Env} : ∀ {names : List (Str × NameKind)} {x : Str}, env.scope.kind = .function → names.lookup x = some .free → env.kindOf x = some .cell →
    (names.map fun (n, k) => if (k == NameKind.free && env.scope.kind == .function && env.kindOf n == some .cell) then (n, NameKind.cell) else (n, k)).lookup x = some .cell
  | [], _, _, h, _ => by simp at h
  | (n, k) :: r, x, hk, h, hc => by
    by_cases hx : x = n
    · subst hx
      rw [List.lookup_cons_self] at h
      cases h
      rw [List.map_cons]
      dsimp only
      rw [if_pos (by rw [hk, hc]; rfl)]
      exact List.lookup_cons_self
    · have hb : (x == n) = false := beq_eq_false_iff_ne.mpr hx
      rw [List.lookup_cons, hb] at h
      have ih := relabel_cell (names := r) hk h hc
      rw [List.map_cons]
      dsimp only
      by_cases c : (k == NameKind.free && env.scope.kind == .function && env.kindOf n == some .cell) = true
      · rw [if_pos c, List.lookup_cons, hb]; exact ih
      · rw [if_neg c, List.lookup_cons, hb]; exact ih

theorem relabel_back {env : Env} : ∀ {names : List (Str × NameKind)} {x : Str} {k : NameKind}, (names.map fun (n, k) => if (k == NameKind.free && env.scope.kind == .function && env.kindOf n == some .cell) then (n, NameKind.cell) else (n, k)).lookup x = some k →
    names.lookup x = some k ∨ (k = .cell ∧ names.lookup x = some .free)
  | [], _, _, h => by simp at h
  | (n, k') :: r, x, k, h => by
    rw [List.map_cons] at h
    dsimp only at h
    by_cases hx : x = n
    · subst hx
      rw [List.lookup_cons_self]
      by_cases c : (k' == NameKind.free && env.scope.kind == .function && env.kindOf x == some .cell) = true
      · rw [if_pos c, List.lookup_cons_self] at h
        cases h
        have z : k' = .free := by
          rw [Bool.and_eq_true, Bool.and_eq_true] at c
          exact beq_iff_eq.mp c.1.1
        exact .inr ⟨rfl, by rw [z]⟩
      · rw [if_neg c, List.lookup_cons_self] at h
        exact .inl h
    · have hb : (x == n) = false := beq_eq_false_iff_ne.mpr hx
      have h' : (r.map fun (n, k) => if (k == NameKind.free && env.scope.kind == .function && env.kindOf n == some .cell) then (n, NameKind.cell) else (n, k)).lookup x = some k := by
        by_cases c : (k' == NameKind.free && env.scope.kind == .function && env.kindOf n == some .cell) = true
        · rw [if_pos c, List.lookup_cons, hb] at h; exact h
        · rw [if_neg c, List.lookup_cons, hb] at h; exact h
      rw [List.lookup_cons, hb]
      exact relabel_back h'


theorem cellsFrom_app : ∀ (names : List (Str × NameKind)) (n : Nat) (acc : List (Str × Addr)), cellsFrom n names acc = cellsFrom n names [] ++ acc
  | [], _, _ => rfl
  | (name, kind) :: r, n, acc => by
    unfold cellsFrom
    split
    · rw [cellsFrom_app r (n + 1) ((name, n) :: acc), cellsFrom_app r (n + 1) [(name, n)], List.append_assoc]; rfl
    · exact cellsFrom_app r n acc
theorem cellsFrom_key : ∀ (names : List (Str × NameKind)) (n : Nat) {x : Str} {c : Addr}, (x, c) ∈ cellsFrom n names [] → (x, NameKind.cell) ∈ names
  | [], _, _, _, h => nomatch h
  | (name, kind) :: r, n, x, c, h => by
    unfold cellsFrom at h
    split at h
    · rename_i hk
      rw [cellsFrom_app] at h
      rcases List.mem_append.mp h with h | h
      · exact List.mem_cons_of_mem _ (cellsFrom_key r _ h)
      · have e := List.mem_singleton.mp h
        have e1 : x = name := congrArg Prod.fst e
        have e2 : kind = NameKind.cell := eq_of_beq hk
        rw [e1, e2]; exact List.mem_cons_self
    · exact List.mem_cons_of_mem _ (cellsFrom_key r _ h)
noncomputable def blkCl (sc : Scope) (C : Addr) (env : Env) : List (Str × Addr) := cellsFrom (C + 1) sc.names (clOf sc.names env)
theorem blkCl_or {sc : Scope} {C : Addr} {env : Env} {x : Str} {c : Addr} (h : (blkCl sc C env).lookup x = some c) : (x, c) ∈ cellsFrom (C + 1) sc.names [] ∨ env.cells.lookup x = some c := by
  unfold blkCl at h
  rw [cellsFrom_app, List.lookup_append] at h
  cases q : (cellsFrom (C + 1) sc.names []).lookup x with
  | some d =>
    rw [q] at h
    have e : d = c := Option.some.inj h
    subst e
    exact .inl (PySem.mem_of_lookup q)
  | none =>
    rw [q] at h
    exact .inr (clOf_lookup h)
theorem blkCl_own {sc : Scope} {C : Addr} {env : Env} {x : Str} {c : Addr} (hx : sc.names.lookup x = some .cell) (h : (blkCl sc C env).lookup x = some c) : (x, c) ∈ cellsFrom (C + 1) sc.names [] := by
  obtain ⟨d, q⟩ := cell_has (n := C + 1) hx
  unfold blkCl at h
  rw [cellsFrom_app, List.lookup_append, q] at h
  have e : d = c := Option.some.inj h
  subst e
  exact PySem.mem_of_lookup q
theorem blkCl_free {sc : Scope} {C : Addr} {env : Env} {x : Str} {c : Addr} (hown : ∀ y ∈ sc.names, y.2 = .cell → sc.names.lookup y.1 = some .cell) (hx : sc.names.lookup x = some .free) (e : env.cells.lookup x = some c) : (blkCl sc C env).lookup x = some c := by
  unfold blkCl
  rw [cellsFrom_app, List.lookup_append]
  cases q : (cellsFrom (C + 1) sc.names []).lookup x with
  | some d =>
    have z := hown _ (cellsFrom_key _ _ (PySem.mem_of_lookup q)) rfl
    have z' : sc.names.lookup x = some .cell := z
    rw [hx] at z'; cases z'
  | none => exact clOf_has hx e
theorem own_ok (h : Heap) (ob : Obj) (sc : Scope) : CellsOk (pushCells (h.push ob) sc.names) (h.objs.size + 1) (cellsFrom (h.objs.size + 1) sc.names []) := by
  have ok := cellsFrom_ok sc.names (h.push ob) (h.objs.size + 1) [] ⟨fun _ _ hm => (nomatch hm), List.Pairwise.nil⟩ (by rw [Heap.size_push]; exact Nat.le_refl _)
  rwa [Heap.size_push] at ok
theorem wpAny_blkEnv {M : Model} {A : Around} {E : Value → Shared → Prop} {s : Shared} {scope : Scope} {globals : Addr} {closure : List (Str × Addr)} {qual : Str} {func : Option Addr} {code : Value} {outer : Env} {builtins : Addr} {Q : Env → Shared → Prop}
    (hQ : Q (newEnv scope s.heap.objs.size globals (cellsFrom (s.heap.objs.size + 1) scope.names closure) qual func code (some outer) builtins) { s with heap := pushCells (s.heap.push { cls := .type "dict", data := .dict #[] }) scope.names }) :
    wpAny M A (newFunctionEnv scope globals closure [] qual func code (some outer) builtins) Q E s := by
  simp only [newFunctionEnv, Option.isSome_some, if_true]
  refine wpAny_bind (wpAny_alloc ?_)
  refine wpAny_bind (wpAny_layCells _ (fun name kind cells => by cases hkc : kind == NameKind.cell <;> simp [hkc]) _ _ _ _ ?_)
  rw [show ({ s with heap := s.heap.push { cls := .type "dict", data := .dict #[] } } : Shared).heap.objs.size = s.heap.objs.size + 1 from Heap.size_push ..]
  refine wpAny_bind ?_
  rw [List.forIn_nil]
  exact wpAny_pure (wpAny_pure hQ)

noncomputable def blk (X : Cx) (N : List Str) (sc : Scope) (C : Addr) (s₀ : Shared) (H₀ : Hp) (ex : List Addr) : Cx :=
  { X with N := N, s₀ := s₀, H₀ := H₀, env := compEnvC sc (blkCl sc C X.env) C X.env, outer := X.stack, ex := ex, fn := fun x => sc.names.lookup x == some .cell, pn := [], xe := fun _ _ => False }

inductive Cap (X : Cx) (sc : Scope) : List Str → List Nat → Prop
  | nil : Cap X sc [] []
  | cons {x : Str} {i : Nat} {xs : List Str} {is : List Nat} (hN : X.N[i]? = some x) (hk : X.env.kindOf x = some .cell) (hf : sc.names.lookup x = some .free) (t : Cap X sc xs is) : Cap X sc (x :: xs) (i :: is)
theorem Cap.length {X : Cx} {sc : Scope} : ∀ {xs : List Str} {is : List Nat}, Cap X sc xs is → xs.length = is.length
  | _, _, .nil => rfl
  | _, _, .cons _ _ _ t => by rw [List.length_cons, List.length_cons, Cap.length t]
theorem Cap.get {X : Cx} {sc : Scope} : ∀ {xs : List Str} {is : List Nat} {j : Nat} {x : Str}, Cap X sc xs is → xs[j]? = some x → ∃ i, is[j]? = some i ∧ X.N[i]? = some x ∧ X.env.kindOf x = some .cell ∧ sc.names.lookup x = some .free
  | _, _, _, _, .nil, e => by simp at e
  | _, _, 0, _, .cons hN hk hf _, e => by
    have e' := Option.some.inj e
    subst e'
    exact ⟨_, rfl, hN, hk, hf⟩
  | _, _, j + 1, x, .cons _ _ _ t, e => by
    obtain ⟨i, h1, h2⟩ := Cap.get (j := j) (x := x) t (by simpa using e)
    exact ⟨i, by simpa using h1, h2⟩
noncomputable def capV (is : List Nat) (σ : St) : St := is.map fun i => (σ[i]?).join
noncomputable def capS (n : Nat) (is : List Nat) (σ : St) : St := List.replicate n none ++ capV is σ

theorem Un.but {fs ex : List Addr} {H H1 : Hp} {h h1 h2 : Heap} {C : Addr} (u : Un fs ex H H1 h h1) (hs : Heap.SameBut C h1 h2) (hC : h.objs.size ≤ C) : Un fs ex H H1 h h2 := by
  have ne : ∀ b o, h.get? b = some o → b ≠ C := fun b o e => Nat.ne_of_lt (Nat.lt_of_lt_of_le (Heap.lt_size e) hC)
  refine ⟨fun b o q n hb hx => (hs.2 b (ne b o q)).trans (u.keep b o q n hb hx), fun b o q n hb hx => ?_, u.free, fun b o q hx => ?_, u.tups, u.frzs, u.tbls⟩
  · obtain ⟨sl, e⟩ := u.slot b o q n hb hx
    exact ⟨sl, (hs.2 b (ne b o q)).trans e⟩
  · obtain ⟨o', e⟩ := u.there b o q hx
    exact ⟨o', (hs.2 b (ne b o q)).trans e⟩
theorem HOk.but {P : Program} {w : World} {H : Hp} {h h' : Heap} {C : Addr} (k : HOk P w H h) (hs : Heap.SameBut C h h') (hn : H C = none) : HOk P w H h' := fun b ob e => by
  refine (k b ob e).stay (fun c w' hc q => (hs.2 c ?_).trans q) (fun _ q => q) fun _ _ q => q
  rintro rfl
  rcases hc with rfl | hc
  · rw [hn] at e; cases e
  · rw [hn] at hc; cases hc

section
variable {X : Cx} {pins : List (Addr × Obj)} {σ : St} {H : Hp} {s : Shared}
theorem blk_ok (I : Inv X pins σ H s) {N : List Str} {sc : Scope} {ex : List Addr} (hkind : sc.kind = .function) (hown : ∀ y ∈ sc.names, y.2 = .cell → sc.names.lookup y.1 = some .cell) (hfr : (sc.names.all fun y => y.2 != .free || X.env.kindOf y.1 == some .cell) = true)
    (hex : ∀ b ∈ ex, FpOk X pins H b) (hob : ∀ b ∈ ex, ∃ o, s.heap.get? b = some o) : (blk X N sc s.heap.objs.size s H ex).Ok := by
  have oc := own_ok s.heap { cls := .type "dict", data := .dict #[] } sc
  have lo : ∀ {x c}, (x, c) ∈ cellsFrom (s.heap.objs.size + 1) sc.names [] → s.heap.objs.size < c := fun hm => (oc.empty _ _ hm).2
  have hi : ∀ {x c}, X.env.cells.lookup x = some c → c < s.heap.objs.size := fun e => by
    obtain ⟨v, o, e', _⟩ := I.cell _ _ e
    exact Heap.lt_size e'
  refine ⟨I.ok.mod, hkind, I.ok.glob, I.ok.blt, Nat.le_refl _, fun x y c h1 h2 => ?_, fun x h => ?_, fun x c hf h => ?_, I.ok.hd, I.ok.frames, .inl rfl, fun b hb => ⟨?_, fun x c h => ?_⟩, I.bs, Nat.le_trans I.ok.bsz I.sz, fun b o e hb => ?_, fun b hb hf => ?_, I.stack, I.stkFree⟩
  · rcases blkCl_or h1 with h1 | h1 <;> rcases blkCl_or h2 with h2 | h2
    · exact PySem.name_of_addr oc.apart h1 h2
    · exact absurd (hi h2) (Nat.lt_asymm (lo h1))
    · exact absurd (hi h1) (Nat.lt_asymm (lo h2))
    · exact I.ok.inj x y c h1 h2
  · have fr : sc.names.lookup x = some .free → ∃ c, (blkCl sc s.heap.objs.size X.env).lookup x = some c := fun q => by
      have z := List.all_eq_true.mp hfr _ (PySem.mem_of_lookup q)
      have z' : (X.env.kindOf x == some .cell) = true := z
      obtain ⟨c, e⟩ := I.ok.has x (.inl (beq_iff_eq.mp z'))
      exact ⟨c, blkCl_free hown q e⟩
    rcases h with h | h
    · rcases relabel_back (show (sc.names.map fun (n, k) => if (k == NameKind.free && X.env.scope.kind == .function && X.env.kindOf n == some .cell) then (n, NameKind.cell) else (n, k)).lookup x = some .cell from h) with q | ⟨_, q⟩
      · exact Option.isSome_iff_exists.mp (PySem.W.cellsFrom_some sc.names _ _ (.inl q))
      · exact fr q
    · rcases relabel_back (show (sc.names.map fun (n, k) => if (k == NameKind.free && X.env.scope.kind == .function && X.env.kindOf n == some .cell) then (n, NameKind.cell) else (n, k)).lookup x = some .free from h) with q | ⟨q, _⟩
      · exact fr q
      · cases q
  · have hx : sc.names.lookup x = some .cell := eq_of_beq hf
    exact Nat.le_of_lt (lo (blkCl_own hx h))
  · obtain ⟨o, e⟩ := hob b hb
    exact Nat.ne_of_lt (Heap.lt_size e)
  · rcases blkCl_or h with h | h
    · obtain ⟨o, e⟩ := hob b hb
      exact Nat.ne_of_gt (Nat.lt_trans (Heap.lt_size e) (lo h))
    · exact (hex b hb).2.2.2.2.1 x c h
  · obtain ⟨_, _, _, q, _⟩ := hex b hb
    rcases q with q | q
    · exact I.ok.noex b o e q
    · exact absurd (Nat.lt_of_lt_of_le (Heap.lt_size (I.ok.bs b o e).1) q) (Nat.lt_irrefl _)
  · obtain ⟨_, n1, n2, _⟩ := hex b hb
    rcases List.mem_cons.mp (I.stkSub b hf) with z | z
    · exact n1 z
    · exact n2 z
theorem blk_start (I : Inv X pins σ H s) {own caps : List Str} {is : List Nat} {sc : Scope} {ex : List Addr} (hkind : sc.kind = .function) (hown : ∀ y ∈ sc.names, y.2 = .cell → sc.names.lookup y.1 = some .cell) (hfr : (sc.names.all fun y => y.2 != .free || X.env.kindOf y.1 == some .cell) = true)
    (hcap : Cap X sc caps is) (hex : ∀ b ∈ ex, FpOk X pins H b) (hob : ∀ b ∈ ex, ∃ o, s.heap.get? b = some o) {h1 : Heap} {tk : Nat} {m0 : Str → Option Value} (hn : h1.Ns s.heap.objs.size m0) (hk : ∀ b o, s.heap.get? b = some o → h1.get? b = some o) (oc : CellsOk h1 (s.heap.objs.size + 1) (cellsFrom (s.heap.objs.size + 1) sc.names [])) :
    Inv (blk X (own ++ caps) sc s.heap.objs.size s H ex) [] (capS own.length is σ) H { s with heap := h1, toks := tk } := by
  refine ⟨blk_ok I hkind hown hfr hex hob, rfl, I.bare, Un.kept hk, ⟨m0, hn, fun i x v e1 e2 _ => ?_⟩, fun x c h => ?_, I.hok.fresh (Nat.le_refl _), fun x c h => (blkCl_or h).elim (fun h => I.hok.fresh (Nat.le_of_lt (oc.empty _ _ h).2)) fun h => I.freeC x c h, fun p hp => absurd (show p ∈ ([] : List (Addr × Obj)) from hp) (by simp), I.hok.kept hk, ?_⟩
  · have e1' : (own ++ caps)[i]? = some x := e1
    by_cases hi : i < own.length
    · unfold capS at e2
      rw [List.getElem?_append_left (by rw [List.length_replicate]; exact hi), List.getElem?_replicate, if_pos hi] at e2
      cases e2
    · rw [List.getElem?_append_right (by omega)] at e1'
      unfold capS at e2
      rw [List.getElem?_append_right (by rw [List.length_replicate]; omega), List.length_replicate] at e2
      obtain ⟨i', q1, q2, q3, q4⟩ := hcap.get e1'
      unfold capV at e2
      rw [List.getElem?_map, q1] at e2
      have e2' : (σ[i']?).join = some v := Option.some.inj e2
      have e3 : σ[i']? = some (some v) := by
        cases z : σ[i']? with
        | none => rw [z] at e2'; cases e2'
        | some w =>
          rw [z] at e2'
          have e4 : w = some v := e2'
          rw [e4]
      obtain ⟨m, _, hl⟩ := I.loc
      obtain ⟨u, r, l⟩ := hl i' x v q2 e3 (.inr (.inl q3))
      refine ⟨u, r, ?_⟩
      rcases l with ⟨z, _⟩ | ⟨_, c, z1, o, z2, z3⟩
      · rw [q3] at z; cases z
      · refine .inr ⟨.inl ?_, c, blkCl_free hown q4 z1, o, hk _ _ z2, z3⟩
        exact relabel_cell I.ok.kind q4 q3
  · rcases blkCl_or h with h | h
    · exact ⟨none, (oc.empty _ _ h).1⟩
    · obtain ⟨v, o, e, d⟩ := I.cell x c h
      exact ⟨v, o, hk _ _ e, d⟩
  · show (capS own.length is σ).length = (own ++ caps).length
    unfold capS capV
    rw [List.length_append, List.length_append, List.length_replicate, List.length_map, hcap.length]

end


section
variable {X : Cx}
noncomputable def rSlS : V → Option Int → Option Int → Hp → VK → Prop := fun x lo hi H Q => ∃ z, x = .str z ∧ z.length ≤ sizeLine ∧ Q (.str (Txt.slice z lo hi)) H
theorem sl_str : SlR X rSlS := by
  intro pins s σ H x v vl vu lo hi sl Q I rx hs pl pu h
  obtain ⟨z, rfl, hz, q⟩ := h
  obtain ⟨t, rfl⟩ := rx
  have fin : ∀ lo hi : Option Int, Q (.str (Txt.slice z lo hi)) H → (Txt.slice z lo hi).length ≤ sizeLine ∧ ∀ t' k, EP X pins σ Q (.str (Txt.slice z lo hi) t') { s with toks := k } := fun lo hi q =>
    ⟨Nat.le_trans (Txt.slice_le z _ _) hz, fun t' k => ⟨.str _, H, I.tok k, ⟨t', rfl⟩, q⟩⟩
  refine ⟨"str", _, F.slot_str_getitem.lookup, typeIs_str _ _ _, ?_⟩
  cases pl with
  | none =>
    cases pu with
    | none => exact wpAny_getItem_str_slice (l := none) (u := none) (st := none) hs rfl (post_val_or_str (fin none none q))
    | int j t2 => exact wpAny_getItem_str_slice (l := none) (u := some (j, t2)) (st := none) hs rfl (post_val_or_str (fin none (some j) q))
  | int i t1 =>
    cases pu with
    | none => exact wpAny_getItem_str_slice (l := some (i, t1)) (u := none) (st := none) hs rfl (post_val_or_str (fin (some i) none q))
    | int j t2 => exact wpAny_getItem_str_slice (l := some (i, t1)) (u := some (j, t2)) (st := none) hs rfl (post_val_or_str (fin (some i) (some j) q))
theorem slice_to {z : Str} {j : Int} (h0 : 0 ≤ j) : (Txt.slice z none (some j)).cps.toList = z.cps.toList.take j.toNat := by
  have hl : z.cps.toList.length = z.length := by simp [Str.length]
  by_cases h : j ≤ z.length
  · have e := beq_iff_eq.mp (slice_closes_to (x := z) (j := j) ⟨h0, by rw [hl]; exact h⟩)
    rw [e]
    simp
  · have e := beq_iff_eq.mp (slice_closes_to (x := z) (j := (z.length : Int)) ⟨by omega, by rw [hl]; exact Int.le_refl _⟩)
    rw [slice_to_beyond (by omega), e]
    show List.take ((z.length : Int) - 0).toNat (z.cps.toList.drop 0) = _
    rw [List.drop_zero, List.take_of_length_le (by omega), List.take_of_length_le (by omega)]
theorem slice_from {z : Str} {i : Int} (h0 : 0 ≤ i) (h1 : i ≤ z.length) : (Txt.slice z (some i) none).cps.toList = z.cps.toList.drop i.toNat := by
  have hl : z.cps.toList.length = z.length := by simp [Str.length]
  rw [slice_from_eq (b := (z.length : Int)) h0 h1 rfl]
  show (z.cps.toList.drop i.toNat).take ((z.length : Int) - i).toNat = _
  rw [List.take_of_length_le (by rw [List.length_drop]; omega)]
theorem slice_len (z : Str) (lo hi : Option Int) : (Txt.slice z lo hi).length ≤ z.length := Txt.slice_le z lo hi


noncomputable def rIsi (K : PySem.W.Frag) : List V → Hp → VK → Prop := fun xs H Q => ∃ x n t b, xs = [x, .ty n] ∧ TyOf K H x t ∧ PySem.W.kitOne K t (.type n) = some b ∧ Q (.bl b) H
theorem call_isi : CallR X (.builtin "isinstance") (rIsi X.K) := by
  intro pins s σ H xs us Q I rv h
  obtain ⟨x, n, t, b, rfl, ty, k, q⟩ := h
  obtain ⟨u, w', rfl, rx, ry⟩ := rv.two
  cases (show w' = Value.type n from ry)
  exact isinst_ok I rx ty k fun tk => ⟨.bl b, H, I.tok tk, rfl, q⟩


end
end L2.L3




namespace L2.L3
open PySem PySem.Spec PyProof.Rows

structure Dn (P : Program) (w : World) (K : PySem.W.Frag) (mg : Str → Option Value) (base : Heap) (k : Nat) (x : Str) (ps : List Str) (sp : Sp) (f : Addr) (fd : FuncData) : Prop where
  ok : FnOk P w K mg base CX0 k f fd ps sp
  bd : Binds K fd ps []
  kp : PySem.W.keepIn K (.ref f) = true
  gl : mg x = some (.ref f)

noncomputable def constV : Const → Option V
  | .none => some .non
  | .bool b => some (.bl b)
  | .int i => some (.int i)
  | .str x => some (.str x)
  | _ => none
theorem pe_constV {X : Cx} {c : Const} {v : V} {j : Nat} {pos : Pos} (h : constV c = some v) : PE X (.Constant c j pos) (tC v) := by
  cases c with
  | none => cases h; exact pe_non
  | bool b => cases h; exact pe_bl
  | int i => cases h; exact pe_int
  | str x => cases h; exact pe_str
  | _ => cases h
theorem same_new {H : Hp} {p : Addr} (h : H p = none) (o : HO) : Same H (upd H p o) := fun b u q => by rw [upd_ne (ne_of_none q h)]; exact q
theorem big_dict {X : Cx} {pins : List (Addr × Obj)} {σ : St} {H : Hp} {s : Shared} (I : Inv X pins σ H s) : sysModules < s.heap.objs.size := by
  have h : mainGlobals < s.heap.objs.size := (I.mod.glob.keeps I.bk).lt
  exact Nat.lt_trans (by decide) h
noncomputable def tDNew : TE := fun _ H Q => ∀ p, H p = none → Q (.ref p) (upd H p (.dK []))
theorem pe_dnew {X : Cx} {pos : Pos} : PE X (.Dict [] [] pos) tDNew := fun pins s σ H Q I h =>
  wpAny_Dict_empty ⟨.ref s.heap.objs.size, _, I.laid (a := s.heap.objs.size) (o := .dK []) (t' := s.toks) (fun _ _ q => Heap.get?_push_of_some _ q) (Nat.le_refl _)
    ⟨Nat.zero_le _, beq_eq_false_iff_ne.mpr (Ne.symm (Nat.ne_of_lt (big_dict I))), [], .nil, Heap.DictOf.new _⟩, rfl, h _ (I.hok.fresh (Nat.le_refl _))⟩
end L2.L3



namespace ZD
open PySem PySem.Spec PyProof.Rows
section
variable {prog : Program} {w : World} {A : Around} {E : Value → Shared → Prop} {s : Shared}


structure IsSI (h : Heap) (it : Addr) (x : Str) (t : Tok) (i : Nat) : Prop where
  ex : ∃ T : String, (T = "str_ascii_iterator" ∨ T = "str_iterator") ∧ h.IsStrIter it T x t i
theorem IsSI.at' {h h' : Heap} {it : Addr} {x : Str} {t : Tok} {i : Nat} (z : IsSI h it x t i) (k : ∀ o, h.get? it = some o → h'.get? it = some o) : IsSI h' it x t i := by
  obtain ⟨T, hT, o, e, r⟩ := z.ex
  exact ⟨T, hT, o, k o e, r⟩
theorem IsSI.lt {h : Heap} {it : Addr} {x : Str} {t : Tok} {i : Nat} (z : IsSI h it x t i) : it < h.objs.size := by
  obtain ⟨T, hT, o, e, r⟩ := z.ex
  exact Heap.lt_size e

noncomputable def It2 (h : Heap) (i2 t : Addr) (items : Array Value) (k : Nat) : Prop := (h.IsTupleIter i2 t k ∧ h.IsTuple t items) ∨ (h.IsListIter i2 t k ∧ h.IsList t items)
theorem It2.at {h h' : Heap} {i2 t : Addr} {items : Array Value} {k : Nat} (z : It2 h i2 t items k) (k1 : ∀ o, h.get? i2 = some o → h'.get? i2 = some o) (k2 : ∀ o, h.get? t = some o → h'.get? t = some o) : It2 h' i2 t items k := by
  rcases z with ⟨a, o, e, r⟩ | ⟨a, o, e, r⟩
  · exact .inl ⟨a.at k1, o, k2 _ e, r⟩
  · exact .inr ⟨a.at k1, o, k2 _ e, r⟩
theorem It2.lt {h : Heap} {i2 t : Addr} {items : Array Value} {k : Nat} (z : It2 h i2 t items k) : i2 < h.objs.size := by
  rcases z with ⟨⟨o, e, _⟩, _⟩ | ⟨⟨o, e, _⟩, _⟩
  · exact Heap.lt_size e
  · exact Heap.lt_size e

noncomputable def ZipO (f0 f1 : Value) (TI TO : Addr) : Obj := { cls := .type "zip", dict := none, data := .fields #[f0, f1, .bool false, .ref TI, .ref TO], slots := #[] }
structure Apart (z TI TO i1 i2 t : Addr) : Prop where
  TIz : TI ≠ z
  TOz : TO ≠ z
  i1z : i1 ≠ z
  i2z : i2 ≠ z
  TITO : TI ≠ TO
  TIi1 : TI ≠ i1
  TIi2 : TI ≠ i2
  TOi1 : TO ≠ i1
  TOi2 : TO ≠ i2
  i12 : i1 ≠ i2
  tz : t ≠ z
  tTO : t ≠ TO
  ti1 : t ≠ i1
  ti2 : t ≠ i2
structure ZSt (h : Heap) (z TI TO i1 i2 t : Addr) (x : Str) (tk : Tok) (items : Array Value) (k : Nat) : Prop where
  zip : ∃ f0 f1, h.get? z = some (ZipO f0 f1 TI TO) ∧ (f0 = .none ∨ ∃ a o, f0 = rawInt (a : Nat) ∧ h.get? a = some o ∧ a ≠ z ∧ a ≠ TO ∧ a ≠ i1 ∧ a ≠ i2)
  pTI : IsPair h TI (.ref i1) (.ref i2)
  pTO : ∃ a b, IsPair h TO a b
  s1 : IsSI h i1 x tk k
  s2 : It2 h i2 t items k
theorem ZSt.keep {h h' : Heap} {z TI TO i1 i2 t : Addr} {x : Str} {tk : Tok} {items : Array Value} {k : Nat} (y : ZSt h z TI TO i1 i2 t x tk items k) (kp : ∀ b o, h.get? b = some o → h'.get? b = some o) : ZSt h' z TI TO i1 i2 t x tk items k := by
  obtain ⟨⟨f0, f1, e, r⟩, p1, ⟨a, b, p2⟩, s1, s2⟩ := y
  refine ⟨⟨f0, f1, kp _ _ e, ?_⟩, kp _ _ p1, ⟨a, b, kp _ _ p2⟩, s1.at' fun o => kp _ o, s2.at (fun o => kp _ o) fun o => kp _ o⟩
  rcases r with r | ⟨a, o, r1, r2, r3⟩
  · exact .inl r
  · exact .inr ⟨a, o, r1, kp _ _ r2, r3⟩

end
section
variable {prog : Program} {w : World} {A : Around} {E : Value → Shared → Prop} {s : Shared}
end
end ZD


namespace ZD
open PySem PySem.Spec PyProof.Rows
theorem ZSt.but {h h' : Heap} {d z TI TO i1 i2 t : Addr} {x : Str} {tk : Tok} {items : Array Value} {k : Nat} (y : ZSt h z TI TO i1 i2 t x tk items k) (sb : Heap.SameBut d h h') (d1 : d ≠ z) (d2 : d ≠ TO) (d3 : d ≠ i1) (d4 : d ≠ i2) (d5 : d ≠ TI) (d6 : d ≠ t) (ob : ∃ o, h'.get? d = some o) :
    ZSt h' z TI TO i1 i2 t x tk items k := by
  obtain ⟨⟨f0, f1, e, r⟩, p1, ⟨a, b, p2⟩, s1, s2⟩ := y
  refine ⟨⟨f0, f1, sb.extBut _ _ d1.symm e, ?_⟩, sb.extBut _ _ d5.symm p1, ⟨a, b, sb.extBut _ _ d2.symm p2⟩, s1.at' fun o e => sb.extBut _ _ d3.symm e, s2.at (fun o e => sb.extBut _ _ d4.symm e) fun o e => sb.extBut _ _ d6.symm e⟩
  rcases r with r | ⟨a, o, r1, r2, r3⟩
  · exact .inl r
  · by_cases ha : a = d
    · obtain ⟨o', e'⟩ := ob
      exact .inr ⟨a, o', r1, by rw [ha]; exact e', r3⟩
    · exact .inr ⟨a, o, r1, sb.extBut _ _ ha r2, r3⟩
section
variable {prog : Program} {w : World} {A : Around} {K : Type} [DecidableEq K] {knd : KeyKind prog w K} {R : Result → Shared → Prop} {d z TI TO i1 i2 t : Addr} {x : Str} {tk : Tok} {items : Array Value}
end
end ZD


namespace ZD
open PySem PySem.Spec PyProof.Rows
section
variable {prog : Program} {w : World} {A : Around} {E : Value → Shared → Prop} {s : Shared}
end
end ZD


namespace ZD
open PySem PySem.Spec PyProof.Rows
section
variable {prog : Program} {w : World} {A : Around} {E : Value → Shared → Prop} {s : Shared}
end
end ZD




namespace L2.L3
open PySem PySem.Spec PyProof.Rows
section
variable {X : Cx}


theorem strsAre_of {ys : List Str} : ∀ {us : List Value}, Vals (ys.map V.str) us → StrsAre us ys := by
  induction ys with
  | nil => intro us r; rw [List.map_nil] at r; cases r; exact .nil
  | cons y ys ih =>
    intro us r
    rw [List.map_cons] at r
    cases r with
    | cons r1 r2 =>
      obtain ⟨t, e⟩ := r1
      subst e
      exact .cons y t (ih r2)
noncomputable def rJoin : V → List V → Hp → VK → Prop := fun x vs H Q => ∃ (z : Str) (p : Addr) (ys : List Str), x = .str z ∧ vs = [.ref p] ∧ H p = some (.lst (ys.map V.str)) ∧ (ys.map (·.length)).sum + ys.length * z.length ≤ 16777216 ∧ Q (.str (Txt.join z ys)) H
theorem mt_join : MtM X "str.join" rJoin := by
  intro pins s σ H x vs v us Q I rx rv h
  obtain ⟨z, p, ys, rfl, rfl, hp, hok, q⟩ := h
  obtain ⟨t, rfl⟩ := rx
  obtain ⟨u, rfl, ru⟩ := rv.one
  cases (show u = Value.ref p from ru)
  obtain ⟨hz, its, n, r, hl, e⟩ := I.lstM hp
  have isl : s.heap.IsList p its.toArray := ⟨_, e, rfl, n, rfl⟩
  exact join_list isl (strsAre_of r) hok fun t' k => ⟨.str _, H, I.tok k, ⟨t', rfl⟩, q⟩
noncomputable def rJoinT (K : PySem.W.Frag) : V → List V → Hp → VK → Prop := fun x vs H Q => ∃ (z : Str) (p : Addr) (ys : List Str), x = .str z ∧ vs = [.ref p] ∧ SqT K H p (ys.map V.str) ∧ (ys.map (·.length)).sum + ys.length * z.length ≤ 16777216 ∧ Q (.str (Txt.join z ys)) H
theorem mt_joinT : MtM X "str.join" (rJoinT X.K) := by
  intro pins s σ H x vs v us Q I rx rv h
  obtain ⟨z, p, ys, rfl, rfl, hp, hok, q⟩ := h
  obtain ⟨t, rfl⟩ := rx
  obtain ⟨u, rfl, ru⟩ := rv.one
  cases (show u = Value.ref p from ru)
  obtain ⟨its, r, ht, hz⟩ := I.tuple hp
  exact join_tuple ht (strsAre_of r) hok fun t' k => ⟨.str _, H, I.tok k, ⟨t', rfl⟩, q⟩

noncomputable def rSum : List V → Hp → VK → Prop := fun xs H Q => ∃ (p : Addr) (ns : List Int), xs = [.ref p] ∧ H p = some (.lst (ns.map V.int)) ∧ Q (.int ns.sum) H
theorem call_sum (hc : X.calm = true) : CallR X (.builtin "sum") rSum := by
  intro pins s σ H xs us Q I rv h
  obtain ⟨p, ns, rfl, hp, q⟩ := h
  obtain ⟨u, rfl, ru⟩ := rv.one
  cases (show u = Value.ref p from ru)
  obtain ⟨hz, its, n, r, hl, e⟩ := I.lstM hp
  have isl : s.heap.IsList p its.toArray := ⟨_, e, rfl, n, rfl⟩
  have hi := intsAre_of r
  have hn : numsOf its = ns := hi.numsOf
  obtain ⟨ys, ey⟩ := hi.allInts.items
  have en : numsOf its = numsOf (intItems ys).toList := by rw [← ey]
  rw [ey] at isl
  refine sum_intListG (I.ok.hd hc) isl fun h' tk t' hk => ⟨.int ns.sum, H, I.kept (t' := tk) hk, ⟨t', ?_⟩, q⟩
  rw [preSum_eq, List.take_of_length_le (by simp), ← hn, en, nums_intItems]


end
end L2.L3




namespace L2.L3
open PySem PySem.Spec PyProof.Rows
section
variable {X : Cx} {pins : List (Addr × Obj)} {σ : St} {H : Hp} {s : Shared}

theorem Inv.but {C : Addr} {h' : Heap} (I : Inv X pins σ H s) (hs : Heap.SameBut C s.heap h') (hC : X.s₀.heap.objs.size ≤ C) (hL : X.env.locals ≠ C) (hcl : ∀ x c, X.env.cells.lookup x = some c → c ≠ C) (hp : ∀ p ∈ X.pn ++ pins, p.1 ≠ C) (hn : H C = none) :
    Inv X pins σ H { s with heap := h' } := by
  have kp : ∀ b o, b ≠ C → s.heap.get? b = some o → h'.get? b = some o := fun b o hb e => (hs.2 b hb).trans e
  obtain ⟨m, hm, hl⟩ := I.loc
  have cells : ∀ c v, c ≠ C → s.heap.IsCell c v → h'.IsCell c v := fun c v hc ⟨o, e, d⟩ => ⟨o, kp _ _ hc e, d⟩
  refine ⟨I.ok, I.os, I.bare, Un.but I.base hs hC, ⟨m, hm.sameBut hs hL, fun i x v e1 e2 e3 => ?_⟩, fun x c e => ?_, I.free, I.freeC, fun p hpp => ⟨kp _ _ (hp p hpp) (I.pin p hpp).1, (I.pin p hpp).2⟩, HOk.but I.hok hs hn, I.len⟩
  · obtain ⟨u, r, l⟩ := hl i x v e1 e2 e3
    refine ⟨u, r, ?_⟩
    rcases l with l | ⟨hk, c, hc, hcell⟩
    · exact .inl l
    · exact .inr ⟨hk, c, hc, cells c _ (hcl x c hc) hcell⟩
  · obtain ⟨v, hv⟩ := I.cell x c e
    exact ⟨v, cells c v (hcl x c e) hv⟩

theorem compLoop_ifs {prog : Program} {w : World} {A : Around} {R : Result → Shared → Prop} {s : Shared} {elt target iter : Expr} {ifs : List Expr} {scope : Scope} {pos : Pos} {it acc : Value} {env : Env} (Iv : Nat → Shared → Prop)
    (turn : ∀ n s, Iv n s → wpAny (model prog w) A (pyNext it) (fun r s1 => match r with
      | none => R (.ok .next) s1
      | some v => wpAny (model prog w) A (letOwnedTupleGo target it v) (fun _ s1' => wpAny (model prog w) A (assign target env v) (fun _ s2 =>
          wpAny (model prog w) A (forIn ifs true fun c r => if r = true then do let ok ← isTrue c env (eval c env); pure (ForInStep.yield ok) else pure (ForInStep.yield r)) (fun ok s3 =>
            if ok = true then wpAny (model prog w) A (eval elt env) (fun x s4 => wpAny (model prog w) A (call (.builtin "list.append") [acc, x]) (fun _ s5 => ∃ m, m < n ∧ Iv m s5) (notedBy (model prog w) A env fun e s' => R (.error e) s') s4) (notedBy (model prog w) A env fun e s' => R (.error e) s') s3
            else ∃ m, m < n ∧ Iv m s3) (notedBy (model prog w) A env fun e s' => R (.error e) s') s2)
          (notedBy (model prog w) A env fun e s' => R (.error e) s') s1') (notedBy (model prog w) A env fun e s' => R (.error e) s') s1) (notedBy (model prog w) A env fun e s' => R (.error e) s') s)
    (n : Nat) (h : Iv n s) : codeAny (model prog w) A (.compLoop (.ListComp elt [⟨target, iter, ifs, 0⟩] scope pos) 0 it acc env) R s := by
  refine codeAny_loop rfl Iv (fun n s hI => ?_) n h
  show wpAny _ _ ((compTurn (.ListComp elt [⟨target, iter, ifs, 0⟩] scope pos) 0 it acc env).onRaise (fun x => do noteFrame x env; theTreesLotGoes x)) _ _ s
  refine wpAny_noted ?_
  rw [compTurn_list]
  refine wpAny_bind (wpAny_standAt (wpAny_bind (wpAny_mono (turn n s hI) (fun r s1 h1 => ?_) fun _ _ h' => h')))
  cases r with
  | none => exact wpAny_pure h1
  | some v =>
    refine wpAny_bind (wpAny_mono h1 (fun _ s1' h1' => wpAny_bind (wpAny_mono h1' (fun _ s2 h2 => wpAny_bind (wpAny_mono h2 (fun ok s3 h3 => ?_) fun _ _ h' => h')) fun _ _ h' => h')) fun _ _ h' => h')
    cases ok with
    | true =>
      rw [if_pos rfl] at h3 ⊢
      exact wpAny_bind (wpAny_bind (wpAny_mono h3 (fun x s4 h4 => wpAny_bind (wpAny_mono h4 (fun _ s5 h5 => wpAny_pure (wpAny_pure ⟨rfl, h5⟩)) fun _ _ h' => h')) fun _ _ h' => h'))
    | false =>
      rw [if_neg Bool.false_ne_true] at h3 ⊢
      first
        | exact wpAny_pure ⟨rfl, h3⟩
        | exact wpAny_bind (wpAny_pure (wpAny_pure ⟨rfl, h3⟩))


inductive Tests (X : Cx) : List Expr → TT → Prop
  | nil : Tests X [] (fun _ H Q => Q true H)
  | one {c : Expr} {t : TT} (h : PT X c t) : Tests X [c] t
theorem Tests.run {ifs : List Expr} {t : TT} (T : Tests X ifs t) {QB : Bool → Hp → Prop} (I : Inv X pins σ H s) (h : t σ H QB) :
    wpAny (model X.prog X.w) X.A (forIn ifs true fun c r => if r = true then do let ok ← isTrue c X.env (eval c X.env); pure (ForInStep.yield ok) else pure (ForInStep.yield r)) (TP X pins σ QB) X.xe s := by
  cases T with
  | nil => exact wpAny_tests_nil ⟨H, I, h⟩
  | one hc => exact wpAny_tests_one (hc pins s σ H QB I h)

noncomputable def CompBodyI (J : It) (g : TG) (tc : TT) (te : TE) (n : Nat) (is : List Nat) (σ : St) (D : Addr) (H1 : Hp) (Q : VK) : Prop := ∃ W : Nat → Nat → St → Hp → Prop, (∃ m, W 0 m (capS n is σ) (upd H1 D (.lst []))) ∧
  ∀ i m σ' H, W i m σ' H → (J.stop i H ∧ Q (.ref D) H) ∨ (J.go i H ∧ ∀ x H', J.yld i H x H' → g x σ' H' fun σ2 H2 => tc σ2 H2 fun b H3 =>
    (b = true → te σ2 H3 fun y H4 => ∃ xs, H4 D = some (.lst xs) ∧ xs.length < sizeLine ∧ ∃ m', m' < m ∧ W (i + 1) m' σ2 (upd H4 D (.lst (xs ++ [y])))) ∧ (b = false → ∃ m', m' < m ∧ W (i + 1) m' σ2 H3))
noncomputable def tCompI (wi : TI) (g : TG) (tc : TT) (te : TE) (n : Nat) (is : List Nat) : TE := fun σ H Q => wi σ H fun J H1 => ∀ D, H1 D = none → CompBodyI J g tc te n is σ D H1 Q

theorem comp_core {elt target iter : Expr} {ifs : List Expr} {sc : Scope} {pos pos2 : Pos} {own caps : List Str} {is : List Nat} {wi : TI} {g : TG} {tc : TT} {te : TE} {Q : VK} {QQ : Value → Shared → Prop} (use : Option (Value → Sem Unit)) (hc : X.calm = true) (hi : PI X target iter wi)
    (hg : ∀ C s₀ H₀ ex, PG (blk X (own ++ caps) sc C s₀ H₀ ex) target g) (ht : ∀ C s₀ H₀ ex, Tests (blk X (own ++ caps) sc C s₀ H₀ ex) ifs tc) (he : ∀ C s₀ H₀ ex, PE (blk X (own ++ caps) sc C s₀ H₀ ex) elt te) (hcap : Cap X sc caps is)
    (hkind : sc.kind = .function) (hown : ∀ y ∈ sc.names, y.2 = .cell → sc.names.lookup y.1 = some .cell) (hfr : (sc.names.all fun y => y.2 != .free || X.env.kindOf y.1 == some .cell) = true)
    (hclos : closureFor sc X.env = pure (clOf sc.names X.env)) (hnames : ∀ y ∈ sc.names, y.2 = .local → sc.names.lookup y.1 = some .local)
    (hs : ∀ x, foldedSetIterable iter X.env x = pure x) (I : Inv X pins σ H s) (h : tCompI wi g tc te own.length is σ H Q)
    (fin : ∀ (D C : Addr) (H' : Hp) (s' : Shared) (m : Str → Option Value), Inv X pins σ H' s' → s'.heap.Ns C m → H' C = none → X.s₀.heap.objs.size ≤ C → X.env.locals ≠ C → (∀ x c, X.env.cells.lookup x = some c → c ≠ C) → (∀ p ∈ X.pn ++ pins, p.1 ≠ C) → Q (.ref D) H' →
      compPost (model X.prog X.w) X.A X.xe use QQ (.ref D) C (.ok .next) s') :
    wpAny (model X.prog X.w) X.A (comprehension (.ListComp elt [⟨target, iter, ifs, 0⟩] sc pos) sc X.env pos2 (newList []) false (eval iter X.env) use) QQ X.xe s := by
  refine wpAny_comprehension_free (use := use) rfl hs hclos hkind hnames ?_
  refine thn (hi pins s σ H _ I h) fun v s1 h1 => thn h1 fun itv s2 h2 => ?_
  obtain ⟨it, fp, tn, J, H2, e, I2, T, st2, f2, q2⟩ := h2
  subst e
  have ob2 : ∀ b ∈ fp, ∃ o, s2.heap.get? b = some o := fun b hb => let ⟨o, e, _⟩ := T.obj _ _ st2 b hb; ⟨o, e⟩
  refine wpAny_newObj_type (wpAny_blkEnv ?_)
  have hns₁ : (pushCells ((s2.heap.push { cls := .type "list", data := .seq ([] : List Value).toArray }).push { cls := .type "dict", data := .dict #[] }) sc.names).Ns (s2.heap.push { cls := .type "list", data := .seq ([] : List Value).toArray }).objs.size (fun _ => none) := (Heap.Ns.new _ (.type "dict")).keeps (pushCells_keeps _ _)
  have oc₁ := own_ok (s2.heap.push { cls := .type "list", data := .seq ([] : List Value).toArray }) { cls := .type "dict", data := .dict #[] } sc
  have hk₁ : ∀ b o, (s2.heap.push { cls := .type "list", data := .seq ([] : List Value).toArray }).get? b = some o → (pushCells ((s2.heap.push { cls := .type "list", data := .seq ([] : List Value).toArray }).push { cls := .type "dict", data := .dict #[] }) sc.names).get? b = some o := fun b o e => pushCells_keeps _ _ b o (Heap.get?_push_of_some _ e)
  generalize hh₁ : pushCells ((s2.heap.push { cls := .type "list", data := .seq ([] : List Value).toArray }).push { cls := .type "dict", data := .dict #[] }) sc.names = h₁ at hns₁ oc₁ hk₁
  have I3 := I2.lnew (its := []) (ys := []) (t' := s2.toks) .nil (Nat.zero_le _)
  have hD : H2 s2.heap.objs.size = none := I2.hok.fresh (Nat.le_refl _)
  obtain ⟨W, ⟨m0, w0⟩, turn⟩ := q2 s2.heap.objs.size hD
  have f3 : ∀ b ∈ fp, FpOk X pins (upd H2 s2.heap.objs.size (.lst [])) b := fun b hb => by
    obtain ⟨o, e⟩ := ob2 b hb
    exact ⟨by rw [upd_ne (Nat.ne_of_lt (Heap.lt_size e))]; exact (f2 b hb).1, (f2 b hb).2⟩
  have hk3 := hk₁
  have ob3 : ∀ b ∈ fp, ∃ o, (s2.heap.push { cls := .type "list", data := .seq ([] : List Value).toArray }).get? b = some o := fun b hb => by
    obtain ⟨o, e⟩ := ob2 b hb
    exact ⟨o, Heap.get?_push_of_some _ e⟩
  have I4 := blk_start (own := own) I3 hkind hown hfr hcap f3 ob3 (tk := s2.toks) hns₁ hk3 oc₁
  have st4 : tn 0 h₁ := T.keep 0 s2.heap h₁ st2 fun b hb o e => hk3 b o (Heap.get?_push_of_some _ e)
  have stat : ∀ {H' : Hp}, (∀ b ∈ fp, H' b = none) → ∀ b ∈ fp, FpOk (blk X (own ++ caps) sc (s2.heap.push { cls := .type "list", data := .seq ([] : List Value).toArray }).objs.size { s2 with heap := s2.heap.push { cls := .type "list", data := .seq ([] : List Value).toArray } } (upd H2 s2.heap.objs.size (.lst [])) fp) [] H' b := fun {H'} hn b hb => by
    obtain ⟨o, e⟩ := ob3 b hb
    refine ⟨hn b hb, Nat.ne_of_lt (Heap.lt_size e), I4.ok.exfs b hb, .inl hb, (I4.ok.exf b hb).2, fun p hp => absurd (show p ∈ ([] : List (Addr × Obj)) from hp) (by simp)⟩
  have loop : ∀ s4 : Shared, s4 = { s2 with heap := h₁ } →
      codeAny (model X.prog X.w) X.A (.compLoop (.ListComp elt [⟨target, iter, ifs, 0⟩] sc pos) 0 (.ref it) (.ref s2.heap.objs.size) (compEnvC sc (blkCl sc (s2.heap.push { cls := .type "list", data := .seq ([] : List Value).toArray }).objs.size X.env) (s2.heap.push { cls := .type "list", data := .seq ([] : List Value).toArray }).objs.size X.env))
        (compPost (model X.prog X.w) X.A X.xe use QQ (.ref s2.heap.objs.size) (s2.heap.push { cls := .type "list", data := .seq ([] : List Value).toArray }).objs.size) s4 := by
    rintro s4 rfl
    refine compLoop_ifs (fun n s' => ∃ i σ' H', Inv (blk X (own ++ caps) sc (s2.heap.push { cls := .type "list", data := .seq ([] : List Value).toArray }).objs.size { s2 with heap := s2.heap.push { cls := .type "list", data := .seq ([] : List Value).toArray } } (upd H2 s2.heap.objs.size (.lst [])) fp) [] σ' H' s' ∧ tn i s'.heap ∧ (∀ b ∈ fp, H' b = none) ∧ W i n σ' H') ?_ m0
      ⟨0, _, _, I4, st4, fun b hb => (f3 b hb).1, w0⟩
    rintro n s5 ⟨i, σ5, H5, I5, st5, fr5, w5⟩
    rcases turn i n σ5 H5 w5 with ⟨stop, qn⟩ | ⟨go, step⟩
    · refine wpAny_mono (T.done (blk X (own ++ caps) sc _ _ _ fp) rfl rfl rfl hc i [] s5 σ5 H5 (fun _ _ => False) I5 (stat fr5) st5 stop) (fun r s6 ⟨hr, I6⟩ => ?_) fun _ _ z => z.elim
      subst hr
      obtain ⟨m, hn, _⟩ := I6.loc
      have IX : Inv X pins σ H5 s6 := I3.call' (s' := s6) I6.os I6.base I6.hok I6.bare (ch := fp) fun b hb => by
        obtain ⟨_, n1, _, n3, n4, n5⟩ := f3 b hb
        exact ⟨n3, n1, n4, n5⟩
      have lt3 : ∀ {b : Addr} {o : Obj}, (s2.heap.push { cls := .type "list", data := .seq ([] : List Value).toArray }).get? b = some o → b ≠ (s2.heap.push { cls := .type "list", data := .seq ([] : List Value).toArray }).objs.size := fun e => Nat.ne_of_lt (Heap.lt_size e)
      refine fin _ _ H5 s6 m IX hn I6.free I3.sz (Nat.ne_of_lt I3.lt) (fun x c e => ?_) (fun p hp => lt3 (I3.pin p hp).1) qn
      obtain ⟨v, o, e', _⟩ := I3.cell x c e
      exact lt3 e'
    · refine wpAny_mono (T.item (blk X (own ++ caps) sc _ _ _ fp) rfl rfl rfl hc i [] s5 σ5 H5 (fun _ _ => False) I5 (stat fr5) st5 go) (fun r s6 ⟨u, hr, h6⟩ => ?_) fun _ _ z => z.elim
      subst hr
      refine wpAny_mono h6 (fun _ s7 ⟨x, H7, I7, r7, y7, st7, fr7⟩ => ?_) fun _ _ z => z.elim
      have I7' := I7.pinned (stat fr7) (T.obj _ _ st7)
      refine wpAny_mono (hg _ _ _ _ _ s7 σ5 H7 x u _ I7' r7 (step x H7 y7)) (fun _ s8 ⟨σ8, H8, I8, q8⟩ => ?_) fun _ _ z => z.elim
      refine wpAny_mono ((ht _ _ _ _).run I8 q8) (fun b s8' ⟨H8', I8', q8'⟩ => ?_) fun _ _ z => z.elim
      have back : ∀ {σ9 : St} {H9 : Hp} {s9 : Shared}, Inv (blk X (own ++ caps) sc (s2.heap.push { cls := .type "list", data := .seq ([] : List Value).toArray }).objs.size { s2 with heap := s2.heap.push { cls := .type "list", data := .seq ([] : List Value).toArray } } (upd H2 s2.heap.objs.size (.lst [])) fp) ([] ++ pinsAt fp s7.heap) σ9 H9 s9 → tn (i + 1) s9.heap ∧ ∀ b ∈ fp, H9 b = none := fun {σ9 H9 s9} I9 =>
        ⟨T.keep _ _ _ st7 fun b hb o e => (I9.pin (b, o) (List.mem_append_right _ (List.mem_append_right _ (mem_pinsAt hb e)))).1, fun b hb => by
          obtain ⟨o, e, d⟩ := T.obj _ _ st7 b hb
          exact (I9.pin (b, o) (List.mem_append_right _ (List.mem_append_right _ (mem_pinsAt hb e)))).2.1⟩
      cases b with
      | false =>
        rw [if_neg Bool.false_ne_true]
        obtain ⟨m', hm, w9⟩ := q8'.2 rfl
        exact ⟨m', hm, i + 1, σ8, _, I8'.unpinned, (back I8').1, (back I8').2, w9⟩
      | true =>
        rw [if_pos rfl]
        refine wpAny_mono (he _ _ _ _ _ s8' σ8 H8' _ I8' (q8'.1 rfl)) (fun yv s9 ⟨y, H9, I9, r9, xs, hx, hz, m', hm, w9⟩ => ?_) fun _ _ z => z.elim
        refine wpAny_mono (mt_append (X := blk X (own ++ caps) sc _ _ _ fp) _ s9 σ8 H9 (.ref s2.heap.objs.size) [y] (.ref s2.heap.objs.size) [yv] (fun v Hn => v = .non ∧ Hn = upd H9 s2.heap.objs.size (.lst (xs ++ [y]))) I9 rfl (.cons r9 .nil) ⟨_, xs, y, rfl, rfl, hx, hz, rfl, rfl⟩)
          (fun v s10 ⟨v10, H10, I10, r10, q10⟩ => ?_) fun _ _ z => z.elim
        obtain ⟨_, rfl⟩ := q10
        exact ⟨m', hm, i + 1, σ8, _, I10.unpinned, (back I10).1, (back I10).2, w9⟩
  exact codeAny_compStart_list (loop _ rfl) (T.self _ 0 _ _ _ st4 (loop _ rfl))
end
end L2.L3




namespace L2.Na
open PySem PySem.Spec PyProof.Rows L2 L2.L3
theorem Inv.turnedN {X : Cx} {pins : List (Addr × Obj)} {σ : St} {H : Hp} {s : Shared} {h' : Heap} {t' : Nat} {fp : List Addr} (I : Inv X pins σ H s) (k : ∀ b o, b ∉ fp → s.heap.get? b = some o → h'.get? b = some o) (hf : ∀ b ∈ fp, FpOk X pins H b) : Inv X pins σ H { s with heap := h', toks := t' } := by
  have nit : ∀ b u, H b = some u → b ∉ fp := fun b u e z => by rw [(hf b z).1] at e; cases e
  refine I.step (g' := s.gens) (d' := s.drawn) (ch := fp) (fun b hb => ?_) (fun b o _ _ hc e _ => k b o hc e) (fun b o _ _ hc e _ => ⟨o.slots, k b o hc e⟩) (fun _ _ _ _ n => n)
    (fun b o hc e => ⟨o, k b o hc e⟩) (fun _ _ e => e) (fun _ _ _ e => e) (fun b ps e => ⟨#[], by rw [e]; simp⟩) (fun m hm => ?_) (fun b u e => ?_) I.bare
  · obtain ⟨_, hL, _, h1, h2, h3⟩ := hf b hb
    exact ⟨h1, hL, h2, h3⟩
  · obtain ⟨o, es, ep, ho, r⟩ := hm
    exact ⟨o, es, ep, k _ o (fun z => (hf _ z).2.1 rfl) ho, r⟩
  · refine (I.hok b u e).stay (fun c v hc q => k c v ?_ q) (fun _ q => q) fun _ _ q => q
    rcases hc with z | z
    · rw [z]; exact nit b u e
    · exact nit c _ z

noncomputable def Itz (K : PySem.W.Frag) (a b : Addr) : It :=
  ⟨fun i H => ∃ xs ys x y, SqL K H a xs ∧ SqL K H b ys ∧ xs[i]? = some x ∧ ys[i]? = some y,
   fun i H v H' => ∃ p x y, H p = none ∧ v = .ref p ∧ H' = upd H p (.tup [x, y]) ∧ (∀ xs, SqL K H a xs → xs[i]? = some x) ∧ ∀ ys, SqL K H b ys → ys[i]? = some y,
   fun i H => ∃ xs ys, SqL K H a xs ∧ SqL K H b ys ∧ (xs.length ≤ i ∨ ys.length ≤ i)⟩
structure ZApart (z TI TO i1 i2 : Addr) : Prop where
  TIz : TI ≠ z
  TOz : TO ≠ z
  i1z : i1 ≠ z
  i2z : i2 ≠ z
  TITO : TI ≠ TO
  TIi1 : TI ≠ i1
  TIi2 : TI ≠ i2
  TOi1 : TO ≠ i1
  TOi2 : TO ≠ i2
  i12 : i1 ≠ i2
theorem cls_ne {h : Heap} {a b : Addr} {o u : Obj} {m n : String} (e1 : h.get? a = some o) (e2 : h.get? b = some u) (c1 : o.cls = .type m) (c2 : u.cls = .type n) (hn : m ≠ n) : a ≠ b := fun z => by
  subst z
  rw [e1] at e2
  cases e2
  rw [c1] at c2
  exact hn (by simpa using c2)
noncomputable def ZTn (z TI TO i1 i2 a b : Addr) (i : Nat) (h : Heap) : Prop := IsZip h z TI TO .none ∧ IsPair h TI (.ref i1) (.ref i2) ∧ (∃ u v, IsPair h TO u v) ∧ h.IsListIter i1 a i ∧ h.IsListIter i2 b i
theorem ZTn.apart {z TI TO i1 i2 a b : Addr} {i : Nat} {h : Heap} {xs ys : Array Value} (Z : ZApart z TI TO i1 i2) (t : ZTn z TI TO i1 i2 a b i h) (h1 : h.IsList a xs) (h2 : h.IsList b ys) : ZipApart z TI TO i1 i2 a b := by
  obtain ⟨hz, _, ⟨u, v, hTO⟩, ⟨o1, e1, c1, _⟩, ⟨o2, e2, c2, _⟩⟩ := t
  obtain ⟨oa, ea, ca, _⟩ := h1
  obtain ⟨ob, eb, cb, _⟩ := h2
  exact ⟨Z.TIz, Z.TOz, Z.i1z, Z.i2z, Z.TITO, Z.TIi1, Z.TIi2, Z.TOi1, Z.TOi2, Z.i12,
    cls_ne ea hz ca rfl (by decide), cls_ne ea hTO ca rfl (by decide), cls_ne ea e1 ca c1 (by decide), cls_ne ea e2 ca c2 (by decide),
    cls_ne eb hz cb rfl (by decide), cls_ne eb hTO cb rfl (by decide), cls_ne eb e1 cb c1 (by decide), cls_ne eb e2 cb c2 (by decide)⟩
theorem turn_zip {P : Program} {w : World} {K : PySem.W.Frag} {elts : List Expr} {k : Nat} {pos : Pos} (a b z TI TO i1 i2 : Addr) (Z : ZApart z TI TO i1 i2) : Turn P w K (.Tuple elts k pos) (Itz K a b) [z, TI, TO, i1, i2] z (ZTn z TI TO i1 i2 a b) where
  mem := by simp
  obj := fun i h st c hc => by
    obtain ⟨hz, hTI, ⟨u, v, hTO⟩, ⟨o1, e1, c1, d1⟩, ⟨o2, e2, c2, d2⟩⟩ := st
    simp only [List.mem_cons, List.not_mem_nil, or_false] at hc
    rcases hc with rfl | rfl | rfl | rfl | rfl
    · exact ⟨_, hz, fun _ q => by have q' : Data.fields _ = Data.cell _ := q; cases q'⟩
    · exact ⟨_, hTI, fun _ q => by have q' : Data.seq _ = Data.cell _ := q; cases q'⟩
    · exact ⟨_, hTO, fun _ q => by have q' : Data.seq _ = Data.cell _ := q; cases q'⟩
    · exact ⟨_, e1, fun _ q => by rw [d1] at q; cases q⟩
    · exact ⟨_, e2, fun _ q => by rw [d2] at q; cases q⟩
  keep := fun i h h' st kp => by
    obtain ⟨hz, hTI, ⟨u, v, hTO⟩, l1, l2⟩ := st
    exact ⟨kp z (by simp) _ hz, kp TI (by simp) _ hTI, ⟨u, v, kp TO (by simp) _ hTO⟩, l1.at fun o e => kp i1 (by simp) o e, l2.at fun o e => kp i2 (by simp) o e⟩
  item := by
    intro X hP hw hK hc i pins s σ H E I hf st hg
    subst hP hw hK
    obtain ⟨xs, ys, x, y, hqa, hqb, hx, hy⟩ := hg
    obtain ⟨ia, ra, pa, _⟩ := I.list hqa
    obtain ⟨ib, rb, pb, _⟩ := I.list hqb
    obtain ⟨u, hu, ru⟩ := ra.get hx
    obtain ⟨v, hv, rv⟩ := rb.get hy
    have D := ZTn.apart Z st pa.isList pb.isList
    obtain ⟨hz, hTI, ⟨u0, v0, hTO⟩, l1, l2⟩ := st
    refine wpAny_pyNext_zip_item D hz hTI hTO l1 l2 pa.isList pb.isList (x := u) (y := v) (by simpa using hu) (by simpa using hv) fun h' a1 a2 a3 a4 a5 a6 hk => ?_
    refine ⟨_, rfl, ?_⟩
    refine wpAny_letOwnedTupleGo_zip (s := { s with heap := h' }) a1 fun h2 z2 sb => ?_
    have fr : H s.heap.objs.size = none := I.hok.fresh (Nat.le_refl _)
    have zlt : z < s.heap.objs.size := Heap.lt_size hz
    have k2 : ∀ c o, c ∉ [z, TI, TO, i1, i2] → s.heap.get? c = some o → h2.get? c = some o := fun c o hc' e => by
      simp only [List.mem_cons, List.not_mem_nil, or_false, not_or] at hc'
      exact sb.extBut _ _ hc'.1 (hk c o hc'.1 hc'.2.2.1 hc'.2.2.2.1 hc'.2.2.2.2 e)
    have T2 : IsPair h2 s.heap.objs.size u v := sb.extBut _ _ (Nat.ne_of_gt zlt) a5
    have ne : ∀ c ∈ [z, TI, TO, i1, i2], c ≠ s.heap.objs.size := fun c hc' => by
      obtain ⟨o, e⟩ : ∃ o, s.heap.get? c = some o := by
        simp only [List.mem_cons, List.not_mem_nil, or_false] at hc'
        obtain ⟨o1, e1, _⟩ := l1
        obtain ⟨o2, e2, _⟩ := l2
        rcases hc' with rfl | rfl | rfl | rfl | rfl
        · exact ⟨_, hz⟩
        · exact ⟨_, hTI⟩
        · exact ⟨_, hTO⟩
        · exact ⟨_, e1⟩
        · exact ⟨_, e2⟩
      exact Nat.ne_of_lt (Heap.lt_size e)
    have I0 : Inv X pins σ (upd H s.heap.objs.size (.tup [x, y])) { s with heap := s.heap.push { cls := .type "tuple", data := .seq #[u, v] } } :=
      I.laid (t' := s.toks) (fun c o e => Heap.get?_push_of_some _ e) (Nat.le_refl _) (show ObjOk X.prog X.w _ _ _ (.tup [x, y]) from ⟨by show 2 ≤ sizeLine; decide, [u, v], .cons ru (.cons rv .nil), IsTup.new _ _⟩)
    have hf' : ∀ c ∈ [z, TI, TO, i1, i2], FpOk X pins (upd H s.heap.objs.size (.tup [x, y])) c := fun c hc' => ⟨by rw [upd_ne (ne c hc')]; exact (hf c hc').1, (hf c hc').2⟩
    have I1 : Inv X pins σ (upd H s.heap.objs.size (.tup [x, y])) { s with heap := h2 } := Inv.turnedN (s := { s with heap := s.heap.push { cls := .type "tuple", data := .seq #[u, v] } }) (t' := s.toks) I0 (fun c o hc' e => by
      rcases Heap.get?_push_cases e with ⟨hcs, ho⟩ | e
      · subst hcs ho
        exact T2
      · exact k2 c o hc' e) hf'
    exact ⟨.ref s.heap.objs.size, _, I1, rfl, ⟨_, x, y, fr, rfl, rfl, fun xs' h' => by rw [I.list_inj h' hqa]; exact hx, fun ys' h' => by rw [I.list_inj h' hqb]; exact hy⟩,
      ⟨z2, sb.extBut _ _ Z.TIz (hk _ _ Z.TIz Z.TITO Z.TIi1 Z.TIi2 hTI), ⟨_, _, sb.extBut _ _ Z.TOz a2⟩, a3.at fun o e => sb.extBut _ _ Z.i1z e, a4.at fun o e => sb.extBut _ _ Z.i2z e⟩, fun c hc' => (hf' c hc').1⟩
  done := by
    intro X hP hw hK hc i pins s σ H E I hf st hg
    subst hP hw hK
    obtain ⟨xs, ys, hqa, hqb, hx⟩ := hg
    obtain ⟨ia, ra, pa, _⟩ := I.list hqa
    obtain ⟨ib, rb, pb, _⟩ := I.list hqb
    have D := ZTn.apart Z st pa.isList pb.isList
    obtain ⟨hz, hTI, ⟨u0, v0, hTO⟩, l1, l2⟩ := st
    have n1 := ra.length
    have n2 := rb.length
    refine wpAny_pyNext_zip_end (I.ok.hd hc) D hz hTI hTO l1 l2 pa.isList pb.isList (by rcases hx with hx | hx; exact .inl (by simp; omega); exact .inr (by simp; omega)) fun h' hk => ⟨rfl, Inv.turnedN (t' := s.toks) I (fun c o hc' e => ?_) hf⟩
    simp only [List.mem_cons, List.not_mem_nil, or_false, not_or] at hc'
    exact hk c o hc'.1 hc'.2.2.1 hc'.2.2.2.1 hc'.2.2.2.2 e
  self := fun _ _ _ _ _ st h => wpAny_pyIter_zip st.1 h
end L2.Na




namespace L2.L3
open PySem PySem.Spec PyProof.Rows L2 PySem.SeqAt

noncomputable def Eqv : Nat → Hp → V → V → Prop
  | 0, _, x, y => (∃ i, x = .int i ∧ y = .int i) ∨ (∃ z, x = .str z ∧ y = .str z) ∨ (x = .non ∧ y = .non)
  | n + 1, H, x, y => Eqv n H x y ∨ ∃ p q xs ys, x = .ref p ∧ y = .ref q ∧ ((H p = some (.lst xs) ∧ H q = some (.lst ys)) ∨ (H p = some (.tup xs) ∧ H q = some (.tup ys))) ∧ xs.length = ys.length ∧ ∀ (i : Nat) (x y : V), xs[i]? = some x → ys[i]? = some y → Eqv n H x y
theorem Eqv.same {H H' : Hp} (e : Same H H') : ∀ {n : Nat} {x y : V}, Eqv n H x y → Eqv n H' x y
  | 0, _, _, h => h
  | n + 1, _, _, .inl h => .inl (Eqv.same e h)
  | n + 1, _, _, .inr ⟨p, q, xs, ys, h1, h2, h3, h4, h5⟩ => .inr ⟨p, q, xs, ys, h1, h2, by
      rcases h3 with ⟨a, b⟩ | ⟨a, b⟩
      · exact .inl ⟨e _ _ a, e _ _ b⟩
      · exact .inr ⟨e _ _ a, e _ _ b⟩, h4, fun i x y a b => Eqv.same e (h5 i x y a b)⟩
theorem Eqv.up {H : Hp} {n : Nat} {x y : V} (h : Eqv n H x y) : Eqv (n + 1) H x y := .inl h
section
variable {X : Cx} {pins : List (Addr × Obj)} {σ : St} {H : Hp} {s : Shared}
theorem all_true (n : Nat) : (List.range n).all (fun _ => true) = true := List.all_eq_true.mpr fun _ _ => rfl
theorem vals_at {xs : List V} {us : List Value} (r : Vals xs us) {j : Nat} (h : j < us.toArray.size) : ∃ x, xs[j]? = some x ∧ RelV x us.toArray[j] := by
  have hj : j < us.length := by simpa using h
  have hx : j < xs.length := by rw [r.length]; exact hj
  obtain ⟨u, h1, h2⟩ := r.get (List.getElem?_eq_getElem hx)
  have e : us.toArray[j] = u := by
    rw [List.getElem?_eq_getElem hj] at h1
    simpa using Option.some.inj h1
  exact ⟨xs[j], List.getElem?_eq_getElem hx, by rw [e]; exact h2⟩
theorem eqv_items {A : Around} {n : Nat} {xs ys : List V} {us vs : List Value} (r1 : Vals xs us) (r2 : Vals ys vs) (hi : ∀ (i : Nat) (x y : V), xs[i]? = some x → ys[i]? = some y → Eqv n H x y)
    (ih : ∀ (x y : V) (u v : Value), Eqv n H x y → RelV x u → RelV y v → EqAt A s u v true) : ∀ j (h1 : j < us.toArray.size) (h2 : j < vs.toArray.size), EqAt A s us.toArray[j] vs.toArray[j] ((fun _ => true) j) := fun j h1 h2 => by
  obtain ⟨x, e1, q1⟩ := vals_at r1 h1
  obtain ⟨y, e2, q2⟩ := vals_at r2 h2
  exact ih x y _ _ (hi j x y e1 e2) q1 q2
theorem eqv_at (I : Inv X pins σ H s) : ∀ (n : Nat) (A : Around) (x y : V) (u v : Value), A.units + n < cLine → Eqv n H x y → RelV x u → RelV y v → EqAt A s u v true
  | 0, A, x, y, u, v, hu, h, r1, r2 => by
    rcases h with ⟨i, rfl, rfl⟩ | ⟨z, rfl, rfl⟩ | ⟨rfl, rfl⟩
    · obtain ⟨t, rfl⟩ := r1
      obtain ⟨t2, rfl⟩ := r2
      have e := EqAt.int_int (A := A) (s := s) i t i t2
      rwa [beq_self_eq_true] at e
    · obtain ⟨t, rfl⟩ := r1
      obtain ⟨t2, rfl⟩ := r2
      have e := EqAt.str_str (A := A) (s := s) z t z t2
      rwa [beq_self_eq_true] at e
    · cases r1
      cases r2
      exact EqAt.same _
  | n + 1, A, x, y, u, v, hu, .inl h, r1, r2 => eqv_at I n A x y u v (by omega) h r1 r2
  | n + 1, A, x, y, u, v, hu, .inr ⟨p, q, xs, ys, e1, e2, hh, hl, hi⟩, r1, r2 => by
    subst e1 e2
    cases r1
    cases r2
    by_cases e : p = q
    · subst e; exact EqAt.same _
    refine EqAt.of_refs e ?_
    have hu1 : A.in1.units + n < cLine := by show A.units + 1 + n < cLine; omega
    rcases hh with ⟨h1, h2⟩ | ⟨h1, h2⟩
    · obtain ⟨_, its, n1, k1, l1, g1⟩ := I.lstM h1
      obtain ⟨_, its2, n2, k2, l2, g2⟩ := I.lstM h2
      have z := RcAt.lists (A := A) (e := fun _ => true) (⟨_, g1, rfl, n1, rfl⟩ : s.heap.IsList p its.toArray) (⟨_, g2, rfl, n2, rfl⟩ : s.heap.IsList q its2.toArray) (by rw [List.size_toArray, List.size_toArray]; omega) (by omega)
        (eqv_items k1 k2 hi fun x y u v => eqv_at I n A.in1 x y u v hu1)
      rwa [all_true] at z
    · obtain ⟨its, k1, p1, _⟩ := I.tuple (SqT.of h1)
      obtain ⟨its2, k2, p2, _⟩ := I.tuple (SqT.of h2)
      have z := RcAt.tuples (A := A) (e := fun _ => true) (show s.heap.IsTuple p its.toArray from p1) (show s.heap.IsTuple q its2.toArray from p2) (by omega)
        (eqv_items k1 k2 hi fun x y u v => eqv_at I n A.in1 x y u v hu1)
      have e3 : its.toArray.size = its2.toArray.size := by rw [List.size_toArray, List.size_toArray, ← k1.length, ← k2.length]; exact hl
      rwa [all_true, e3, beq_self_eq_true, Bool.true_and] at z

noncomputable def EqvR (n : Nat) (H : Hp) (p q : Addr) : Prop := ∃ xs ys, ((H p = some (.lst xs) ∧ H q = some (.lst ys)) ∨ (H p = some (.tup xs) ∧ H q = some (.tup ys))) ∧ xs.length = ys.length ∧ ∀ (i : Nat) (x y : V), xs[i]? = some x → ys[i]? = some y → Eqv n H x y
noncomputable def rEqA : R2 := fun x y H Q => ∃ p q n, x = .ref p ∧ y = .ref q ∧ n ≤ 40 ∧ EqvR n H p q ∧ Q (.bl true) H
noncomputable def rNeA : R2 := fun x y H Q => ∃ p q n, x = .ref p ∧ y = .ref q ∧ n ≤ 40 ∧ EqvR n H p q ∧ Q (.bl false) H
theorem op_eqA (hu : X.A.units + 64 < cLine) : OpR X (compareOp .Eq) rEqA := by
  intro pins s σ H x y v u Q I rx ry h
  obtain ⟨p, q, n, rfl, rfl, hn, ⟨xs, ys, hh, hl, hi⟩, qq⟩ := h
  cases rx
  cases ry
  have hu1 : X.A.in1.units + n < cLine := by show X.A.units + 1 + n < cLine; omega
  rcases hh with ⟨h1, h2⟩ | ⟨h1, h2⟩
  · obtain ⟨_, its, n1, k1, l1, g1⟩ := I.lstM h1
    obtain ⟨_, its2, n2, k2, l2, g2⟩ := I.lstM h2
    have z := RcAt.lists (A := X.A) (e := fun _ => true) (⟨_, g1, rfl, n1, rfl⟩ : s.heap.IsList p its.toArray) (⟨_, g2, rfl, n2, rfl⟩ : s.heap.IsList q its2.toArray) (by rw [List.size_toArray, List.size_toArray]; omega) (by omega)
      (eqv_items k1 k2 hi fun x y u v => eqv_at I n X.A.in1 x y u v hu1)
    rw [all_true] at z
    exact z X.prog X.w X.xe _ ⟨.bl true, H, I, rfl, qq⟩
  · obtain ⟨its, k1, p1, _⟩ := I.tuple (SqT.of h1)
    obtain ⟨its2, k2, p2, _⟩ := I.tuple (SqT.of h2)
    have z := RcAt.tuples (A := X.A) (e := fun _ => true) (show s.heap.IsTuple p its.toArray from p1) (show s.heap.IsTuple q its2.toArray from p2) (by omega)
      (eqv_items k1 k2 hi fun x y u v => eqv_at I n X.A.in1 x y u v hu1)
    have e3 : its.toArray.size = its2.toArray.size := by rw [List.size_toArray, List.size_toArray, ← k1.length, ← k2.length]; exact hl
    rw [all_true, e3, beq_self_eq_true, Bool.true_and] at z
    exact z X.prog X.w X.xe _ ⟨.bl true, H, I, rfl, qq⟩

noncomputable def rEqN : R2 := fun x y H Q => ∃ p q xs ys, x = .ref p ∧ y = .ref q ∧ H p = some (.lst xs) ∧ H q = some (.lst ys) ∧ xs.length ≠ ys.length ∧ Q (.bl false) H
theorem op_eqN (hu : X.A.units + 64 < cLine) : OpR X (compareOp .Eq) rEqN := by
  intro pins s σ H x y v u Q I rx ry h
  obtain ⟨p, q, xs, ys, rfl, rfl, h1, h2, hl, qq⟩ := h
  cases rx
  cases ry
  obtain ⟨_, its, n1, k1, l1, g1⟩ := I.lstM h1
  obtain ⟨_, its2, n2, k2, l2, g2⟩ := I.lstM h2
  have hne : (its.toArray.size != its2.toArray.size) = true := by
    rw [List.size_toArray, List.size_toArray, ← l1, ← l2]
    exact bne_iff_ne.mpr hl
  exact RcAt.lists_lengths (A := X.A) (⟨_, g1, rfl, n1, rfl⟩ : s.heap.IsList p its.toArray) (⟨_, g2, rfl, n2, rfl⟩ : s.heap.IsList q its2.toArray) hne (by omega) X.prog X.w X.xe _ ⟨.bl false, H, I, rfl, qq⟩
theorem op_neA (hu : X.A.units + 64 < cLine) : OpR X (compareOp .NotEq) rNeA := by
  intro pins s σ H x y v u Q I rx ry h
  obtain ⟨p, q, n, rfl, rfl, hn, ⟨xs, ys, hh, hl, hi⟩, qq⟩ := h
  cases rx
  cases ry
  have hu1 : X.A.in1.units + n < cLine := by show X.A.units + 1 + n < cLine; omega
  rcases hh with ⟨h1, h2⟩ | ⟨h1, h2⟩
  · obtain ⟨_, its, n1, k1, l1, g1⟩ := I.lstM h1
    obtain ⟨_, its2, n2, k2, l2, g2⟩ := I.lstM h2
    have z := RcNeAt.lists (A := X.A) (e := fun _ => true) (⟨_, g1, rfl, n1, rfl⟩ : s.heap.IsList p its.toArray) (⟨_, g2, rfl, n2, rfl⟩ : s.heap.IsList q its2.toArray) (by rw [List.size_toArray, List.size_toArray]; omega) (by omega)
      (eqv_items k1 k2 hi fun x y u v => eqv_at I n X.A.in1 x y u v hu1)
    rw [all_true] at z
    exact z X.prog X.w X.xe _ ⟨.bl false, H, I, rfl, qq⟩
  · obtain ⟨its, k1, p1, _⟩ := I.tuple (SqT.of h1)
    obtain ⟨its2, k2, p2, _⟩ := I.tuple (SqT.of h2)
    have z := RcNeAt.tuples (A := X.A) (e := fun _ => true) (show s.heap.IsTuple p its.toArray from p1) (show s.heap.IsTuple q its2.toArray from p2) (by omega)
      (eqv_items k1 k2 hi fun x y u v => eqv_at I n X.A.in1 x y u v hu1)
    have e3 : its.toArray.size = its2.toArray.size := by rw [List.size_toArray, List.size_toArray, ← k1.length, ← k2.length]; exact hl
    rw [all_true, e3, beq_self_eq_true, Bool.true_and] at z
    exact z X.prog X.w X.xe _ ⟨.bl false, H, I, rfl, qq⟩

noncomputable def rNeN : R2 := fun x y H Q => ∃ p q xs ys, x = .ref p ∧ y = .ref q ∧ H p = some (.lst xs) ∧ H q = some (.lst ys) ∧ xs.length ≠ ys.length ∧ Q (.bl true) H
theorem op_neN (hu : X.A.units + 64 < cLine) : OpR X (compareOp .NotEq) rNeN := by
  intro pins s σ H x y v u Q I rx ry h
  obtain ⟨p, q, xs, ys, rfl, rfl, h1, h2, hl, qq⟩ := h
  cases rx
  cases ry
  obtain ⟨_, its, n1, k1, l1, g1⟩ := I.lstM h1
  obtain ⟨_, its2, n2, k2, l2, g2⟩ := I.lstM h2
  have hne : (its.toArray.size != its2.toArray.size) = true := by
    rw [List.size_toArray, List.size_toArray, ← l1, ← l2]
    exact bne_iff_ne.mpr hl
  exact RcNeAt.lists_lengths (A := X.A) (⟨_, g1, rfl, n1, rfl⟩ : s.heap.IsList p its.toArray) (⟨_, g2, rfl, n2, rfl⟩ : s.heap.IsList q its2.toArray) hne (by omega) X.prog X.w X.xe _ ⟨.bl true, H, I, rfl, qq⟩

noncomputable def rCatT0 (K : PySem.W.Frag) : R2 := fun x y H Q => ∃ a b ys, x = .ref a ∧ y = .ref b ∧ SqT K H a [] ∧ SqT K H b ys ∧ Q (.ref b) H
theorem op_catT0 : OpR X (binaryOp .Add) (rCatT0 X.K) := by
  intro pins s σ H x y v u Q I rx ry h
  obtain ⟨a, b, ys, rfl, rfl, ha, hb, q⟩ := h
  cases rx
  cases ry
  obtain ⟨its, r1, p1, _⟩ := I.tuple ha
  obtain ⟨its2, r2, p2, _⟩ := I.tuple hb
  have e : its = [] := r1.nil_iff.mpr rfl
  subst e
  obtain ⟨⟨cls, dd, data, sl⟩, ho, hc, n, hd⟩ := id p1
  obtain ⟨⟨cls2, dd2, data2, sl2⟩, ho2, hc2, n2, hd2⟩ := id p2
  simp only at hc hd hc2 hd2
  subst hc hd hc2 hd2
  exact concat_meets ⟨_, ho, rfl⟩ ⟨_, ho2, rfl⟩ noFill_tuple_add seq_tuple_add PySem.F.slot_tuple_add PySem.F.entry_tuple_add (PySem.F.args_tuple_add_2 _ _)
    (tuple_addW0 a b [].toArray its2.toArray n n2 dd dd2 sl sl2 rfl) ⟨ho, ho2, ⟨.ref b, H, I, rfl, q⟩⟩

noncomputable def CMulS (z : Str) (k : Int) : Prop := 1 ≤ k ∧ k < 2 ^ 31 ∧ z.length * k.toNat ≤ sizeLine
theorem op_mulS : OpR X (binaryOp .Mult) (fun x y H Q => ∃ i k, x = .str i ∧ y = .int k ∧ CMulS i k ∧ Q (.str (Txt.mul i k)) H) := by
  intro pins s σ H x y v u Q I rx ry h
  obtain ⟨i, k, rfl, rfl, ⟨h1, h2, h3⟩, q⟩ := h
  obtain ⟨t, rfl⟩ := rx
  obtain ⟨t', rfl⟩ := ry
  have e1 : (decide (k < -(2 ^ 63 : Int)) || decide (k ≥ 2 ^ 63)) = false := by
    rw [decide_eq_false (by omega), decide_eq_false (by omega)]
    rfl
  have hs : (sizeLine : Nat) ≤ 2 ^ 40 := by rw [sizeLine_eq]; decide
  refine SB.mul ⟨e1, fun _ _ c => ?_, fun _ _ => ?_⟩ (fun t' tk => ⟨.str (Txt.mul i k), H, I.tok _, ⟨_, rfl⟩, q⟩)
  · have c1 : (2 ^ 63 - 1) / k < (i.length : Int) := c
    have c2 : ¬ (i.length : Int) ≤ (2 ^ 63 - 1) / k := by omega
    refine c2 ((Int.le_ediv_iff_mul_le (by omega)).mpr ?_)
    have e : ((i.length * k.toNat : Nat) : Int) = (i.length : Int) * k := by rw [Int.natCast_mul, Int.toNat_of_nonneg (by omega)]
    omega
  · show decide _ = false
    exact decide_eq_false (by omega)

noncomputable def CPw (i j : Int) : Prop := 0 ≤ j ∧ (Builtin.Int.intBits i : Int) * j ≤ 2 ^ 27
noncomputable def CDv (_ j : Int) : Prop := 0 < j ∧ j < 2 ^ 64
theorem op_fdivA : OpR X (binaryOp .FloorDiv) (rI CDv fun i j => .int (i / j)) := opI fun i j _ _ _ _ _ hc q => by
  have h1 : (0 : Int) < j := hc.1
  have h2 : j < 2 ^ 64 := hc.2
  refine floordiv_int (by omega) (by rw [Int.fdiv_eq_ediv_of_nonneg i (by omega)]; exact q) (.inl (PyProof.noPylong_of_log2 ?_))
  have h3 : j.natAbs.log2 < 64 := (Nat.log2_lt (by omega)).mpr (by omega)
  omega
theorem op_mulA : OpR X (binaryOp .Mult) (rI IntMulOk fun i j => .int (i * j)) := opI fun _ _ _ _ _ _ _ hc q => mul_int q hc
theorem op_powA : OpR X (binaryOp .Pow) (rI CPw fun i j => .int (i ^ j.toNat)) := opI fun _ _ _ _ _ _ _ hc q => pow_int hc.1 hc.2 q
end
end L2.L3




namespace L2.Na
open PySem PySem.Spec PyProof.Rows L2 L2.L3
theorem dict_mapFields (o : Obj) (f : Array Value → Array Value) : (o.mapFields f).dict = o.dict := by
  unfold Obj.mapFields
  split <;> rfl

noncomputable def TrD (h B : Heap) (e : Addr) (c : Value) (dx : Option Addr) (fl : Value) : Prop :=
  ∃ oe vs T oT ts, h.get? e = some oe ∧ oe.cls = c ∧ oe.dict = dx ∧ oe.data = .fields vs ∧ vs[1]? = some (.ref T) ∧ B.get? T = none ∧ T ≠ e ∧ h.get? T = some oT ∧ oT.data = .fields ts ∧ ts[3]? = some fl

structure Went (B : Heap) (l : List Env) (e : Addr) (c : Value) (dx : Option Addr) (fl : Value) (h h' : Heap) : Prop where
  stay : B.StaysIn h'
  frames : h'.FunFrames B l
  tr : TrD h' B e c dx fl
  slots : h.UpToSlots h'
structure FlyD (B : Heap) (l : List Env) (e : Addr) (c : Value) (dx : Option Addr) (fl : Value) (h : Heap) : Prop where
  stay : B.StaysIn h
  new : B.get? e = none
  frames : h.FunFrames B l
  tr : TrD h B e c dx fl
section
variable {M : Model} {A : Around} {E : Value → Shared → Prop} {s : Shared} {B : Heap} {env : Env} {outer : List Env} {L e : Addr} {Q : Unit → Shared → Prop}
theorem entry_run {oe : Obj} {vs : Array Value} {hd0 : Value} {nx : Bool} (fr : A.frames = some (env :: outer)) (ff : s.heap.FunFrames B (env :: outer)) (ef : env.frame = some L) (eo : s.heap.get? e = some oe) (st : B.StaysIn s.heap)
    (en : B.get? e = none) (dt : oe.data = .fields vs) (sz : 1 < vs.size) (k : ∀ g, Went B (env :: outer) e oe.cls oe.dict (rawInt L) s.heap g → Q () { s with heap := g }) :
    wpAny M A (do let a ← frameOf env; let pl ← entryPlaceOf L nx; let b ← EntryCells.newEntry hd0 a .none (rawInt L) .none pl; setField (.ref e) 1 b) Q E s := by
  have nf : e ∉ (env :: outer).filterMap (·.frame) := fun m => by
    obtain ⟨_, o, ho, n⟩ := ff.mem m
    rw [eo] at ho
    cases ho
    exact n vs dt
  refine wpAny_bind (wpAny_frameOf_fun fr ff ef fun g1 s1 => wpAny_bind (wpAny_entryPlaceOf fun pl ip => ?_))
  unfold EntryCells.newEntry newFields
  refine wpAny_bind (wpAny_newObj_type ?_ (ip.sizeOk5 _ _ _ _ _))
  have e1 : g1.get? e = some oe := by rw [s1.2.1 e nf]; exact eo
  have b1 : B.StaysIn g1 := fun b o q => by
    rw [s1.2.1 b fun m => by rw [(ff.mem m).1] at q; cases q]
    exact st b o q
  generalize ho : ({ cls := .type "traceback", dict := none, data := .fields ([hd0, .ref L, .none, rawInt L, .none] ++ (if pl.isEmpty then List.replicate 6 Value.none else pl)).toArray } : Obj) = ot
  have od : ot.data = .fields ([hd0, .ref L, .none, rawInt L, .none] ++ (if pl.isEmpty then List.replicate 6 Value.none else pl)).toArray := by rw [← ho]
  have of3 : ([hd0, .ref L, .none, rawInt L, .none] ++ (if pl.isEmpty then List.replicate 6 Value.none else pl)).toArray[3]? = some (rawInt L) := by simp
  have onf : ot.isFreed = false := Obj.isFreed_of_fields od
  have e2 : (g1.push ot).get? e = some oe := Heap.get?_push_of_some _ e1
  have ne : g1.objs.size ≠ e := Nat.ne_of_gt (Heap.lt_size e1)
  refine wpAny_setField e2 dt sz (k _ ?_)
  have d3 : (oe.mapFields (·.setIfInBounds 1 (Value.ref g1.objs.size))).data = .fields (vs.setIfInBounds 1 (Value.ref g1.objs.size)) := Obj.data_mapFields dt _
  have e3 : ((g1.push ot).update e (Obj.mapFields (·.setIfInBounds 1 (Value.ref g1.objs.size)))).get? e = some (oe.mapFields (·.setIfInBounds 1 (Value.ref g1.objs.size))) := Heap.get?_update_self _ e2 (Obj.isFreed_of_fields d3)
  have kp : ∀ b o, b ≠ e → g1.get? b = some o → ((g1.push ot).update e (Obj.mapFields (·.setIfInBounds 1 (Value.ref g1.objs.size)))).get? b = some o := fun b o hb q => by
    rw [Heap.get?_update_other _ _ hb.symm]
    exact Heap.get?_push_of_some _ q
  have nr : ∀ b o, s.heap.get? b = some o → (∀ ws, o.data ≠ .fields ws) → b ≠ e := fun b o q n z => by
    subst z
    rw [eo] at q
    cases q
    exact n vs dt
  refine ⟨fun b o q => kp b o (fun z => by rw [z, en] at q; cases q) (b1 b o q), ff.of_keeps fun b o q n => ?_, ⟨_, _, g1.objs.size, ot, _, e3, Obj.cls_mapFields _ _, dict_mapFields _ _, d3, by simp [sz], b1.fresh, ne, ?_, od, of3⟩, fun b o q n => ?_⟩
  · obtain ⟨sl, z⟩ := s1.2.2 b o q
    exact ⟨_, kp b _ (nr b o q n) z, rfl⟩
  · rw [Heap.get?_update_other _ _ ne.symm]
    exact Heap.get?_push_size g1 onf
  · obtain ⟨sl, z⟩ := s1.2.2 b o q
    exact ⟨sl, kp b _ (nr b o q n) z⟩

theorem note_new {oe : Obj} {vs : Array Value} (fr : A.frames = some (env :: outer)) (ff : s.heap.FunFrames B (env :: outer)) (ef : env.frame = some L) (eo : s.heap.get? e = some oe) (st : B.StaysIn s.heap)
    (en : B.get? e = none) (dt : oe.data = .fields vs) (v1 : vs[1]? = some .none) (k : ∀ g, FlyD B (env :: outer) e oe.cls oe.dict (rawInt L) g → s.heap.UpToSlots g → Q () { s with heap := g }) : wpAny M A (noteFrame (.ref e) env) Q E s := by
  unfold noteFrame
  simp only [ef]
  refine wpAny_bind (wpAny_field eo dt v1 ?_)
  rw [if_neg (show ¬ ((Value.none != Value.none) = true) by decide)]
  exact entry_run fr ff ef eo st en dt (Array.getElem?_eq_some_iff.mp v1).1 fun g w => k g ⟨w.stay, en, w.frames, w.tr⟩ w.slots

theorem note_fly {c : Value} {dx : Option Addr} (fr : A.frames = some (env :: outer)) (ef : env.frame = some L) (F : FlyD B (env :: outer) e c dx .none s.heap)
    (k : ∀ g, FlyD B (env :: outer) e c dx (rawInt L) g → s.heap.UpToSlots g → Q () { s with heap := g }) : wpAny M A (noteFrame (.ref e) env) Q E s := by
  obtain ⟨st, en, ff, oe, vs, T, oT, ts, eo, rfl, rfl, dt, v1, nT, ne, eT, dT, t3⟩ := F
  unfold noteFrame
  simp only [ef]
  refine wpAny_bind (wpAny_field eo dt v1 ?_)
  rw [if_pos (show (Value.ref T != Value.none) = true by simp)]
  refine wpAny_bind (wpAny_field eT dT t3 ?_)
  rw [if_neg (show ¬ ((Value.none == rawInt L) = true) by simp [rawInt])]
  refine wpAny_bind (wpAny_setField eT dT (Array.getElem?_eq_some_iff.mp t3).1 ?_)
  have ot : ∀ b, b ≠ T → (s.heap.update T (Obj.mapFields (·.setIfInBounds 3 Value.none))).get? b = s.heap.get? b := fun b hb => Heap.get?_update_other _ _ hb.symm
  have nr : ∀ b o, s.heap.get? b = some o → (∀ ws, o.data ≠ .fields ws) → b ≠ T := fun b o q n z => by
    subst z
    rw [eT] at q
    cases q
    exact n ts dT
  refine entry_run (s := { s with heap := s.heap.update T (Obj.mapFields (·.setIfInBounds 3 Value.none)) }) fr (ff.of_keeps fun b o q n => ⟨o, by rw [ot b (nr b o q n)]; exact q, rfl⟩) ef (by show (s.heap.update T _).get? e = _; rw [ot e ne.symm]; exact eo)
    (fun b o q => by show (s.heap.update T _).get? b = _; rw [ot b fun z => by rw [z, nT] at q; cases q]; exact st b o q) en dt (Array.getElem?_eq_some_iff.mp v1).1 fun g w => k g ⟨w.stay, en, w.frames, w.tr⟩ fun b o q n => w.slots b o (by rw [ot b (nr b o q n)]; exact q) n

theorem land_fly {l : List Env} {c fl : Value} {dx : Option Addr} (F : FlyD B l e c dx fl s.heap) (k : ∀ g, FlyD B l e c dx .none g → s.heap.UpToSlots g → Q () { s with heap := g }) : wpAny M A (setFlight (.ref e) none) Q E s := by
  obtain ⟨st, en, ff, oe, vs, T, oT, ts, eo, hc, hx, dt, v1, nT, ne, eT, dT, t3⟩ := F
  have ot : ∀ b, b ≠ T → (s.heap.update T (Obj.mapFields (·.setIfInBounds 3 ((none : Option Addr).elim Value.none fun f => rawInt f)))).get? b = s.heap.get? b := fun b hb => Heap.get?_update_other _ _ hb.symm
  have nr : ∀ b o, s.heap.get? b = some o → (∀ ws, o.data ≠ .fields ws) → b ≠ T := fun b o q n z => by
    subst z
    rw [eT] at q
    cases q
    exact n ts dT
  have s3 := (Array.getElem?_eq_some_iff.mp t3).1
  unfold setFlight
  refine wpAny_bind (wpAny_field eo dt v1 ?_)
  rw [if_pos (show (Value.ref T != Value.none) = true by simp)]
  refine wpAny_setField eT dT s3 (k _ ⟨fun b o q => ?_, en, ff.of_keeps fun b o q n => ⟨o, by rw [ot b (nr b o q n)]; exact q, rfl⟩, oe, vs, T, _, _, by rw [ot e ne.symm]; exact eo, hc, hx, dt, v1, nT, ne, Heap.get?_update_self _ eT (Obj.isFreed_of_fields (Obj.data_mapFields dT _)), Obj.data_mapFields dT _, by simp [s3]⟩
    fun b o q n => ⟨o.slots, by rw [ot b (nr b o q n)]; exact q⟩)
  rw [ot b fun z => by rw [z, nT] at q; cases q]
  exact st b o q
theorem FlyD.tail {c fl : Value} {dx : Option Addr} {h : Heap} (F : FlyD B (env :: outer) e c dx fl h) : FlyD B outer e c dx fl h := ⟨F.stay, F.new, F.frames.2.2, F.tr⟩
theorem leave_new {oe : Obj} {vs : Array Value} (fr : A.frames = some (env :: outer)) (ff : s.heap.FunFrames B (env :: outer)) (ef : env.frame = some L) (eo : s.heap.get? e = some oe) (st : B.StaysIn s.heap)
    (en : B.get? e = none) (dt : oe.data = .fields vs) (v1 : vs[1]? = some .none) (k : ∀ g, FlyD B outer e oe.cls oe.dict .none g → s.heap.UpToSlots g → Q () { s with heap := g }) : wpAny M A (leaving env (.ref e)) Q E s := by
  unfold leaving
  exact wpAny_bind (note_new fr ff ef eo st en dt v1 fun g F u => land_fly F fun g2 F2 u2 => k g2 F2.tail (u.trans u2))
theorem leave_fly {c : Value} {dx : Option Addr} (fr : A.frames = some (env :: outer)) (ef : env.frame = some L) (F : FlyD B (env :: outer) e c dx .none s.heap)
    (k : ∀ g, FlyD B outer e c dx .none g → s.heap.UpToSlots g → Q () { s with heap := g }) : wpAny M A (leaving env (.ref e)) Q E s := by
  unfold leaving
  exact wpAny_bind (note_fly fr ef F fun g F1 u => land_fly F1 fun g2 F2 u2 => k g2 F2.tail (u.trans u2))
end
end L2.Na




namespace L2.Na
open PySem PySem.Spec PyProof.Rows L2 L2.L3

noncomputable def CXF (P : Program) (w : World) : CXT := fun outer H s E ev s' => ∃ (e : Addr) (c : Value) (dx : Option Addr) (H' : Hp) (B : Heap), ev = .ref e ∧ s'.os = s.os ∧ AllBare s'.gens ∧ Un (frs outer) [] H H' s.heap s'.heap ∧ HOk P w H' s'.heap ∧
  FlyD B outer e c dx .none s'.heap ∧ (∀ b o, s.heap.get? b = some o → b ∉ frs outer → ∃ u, B.get? b = some u) ∧ (∀ b o, H' b = some o → ∃ u, B.get? b = some u) ∧ E c dx H'
theorem CXF.no {P : Program} {w : World} {outer : List Env} {H : Hp} {s s' : Shared} {ev : Value} (h : CXF P w outer H s E0 ev s') : False := by
  obtain ⟨_, _, _, _, _, _, _, _, _, _, _, _, _, z⟩ := h
  exact z
theorem there_of {P : Program} {w : World} {H : Hp} {h : Heap} {a : Addr} {o : HO} (x : ObjOk P w H h a o) : ∃ u, h.get? a = some u := by
  induction o with
  | lst xs => obtain ⟨_, _, _, _, e⟩ := x; exact ⟨_, e⟩
  | tup xs => obtain ⟨_, _, _, u, e, _⟩ := x; exact ⟨_, e⟩
  | dK kvs => obtain ⟨_, _, _, _, o, _, _, e, _⟩ := x; exact ⟨_, e⟩
  | dT kvs => obtain ⟨_, _, _, _, o, _, _, e, _⟩ := x; exact ⟨_, e⟩
  | set S n => obtain ⟨o, _, _, _, e, _⟩ := x; exact ⟨_, e⟩
  | ins C dx fs => obtain ⟨_, _, _, e, _⟩ := x; exact ⟨_, e⟩
  | own y => exact x
  | xd fs => obtain ⟨_, ⟨_, _, _, e, _⟩, _⟩ := x; exact ⟨_, e⟩
  | rng lo hi => obtain ⟨_, _, _, e⟩ := x; exact ⟨_, e⟩
  | frz ob u _ => exact ⟨_, x.1⟩
  | tbl ps => exact ⟨_, x⟩
  | met f y => exact ⟨_, x⟩
  | ext φ => exact x.2.1
section
variable {P : Program} {w : World} {K : PySem.W.Frag} {mg : Str → Option Value} {base : Heap} {N : List Str} {qual : Str} {scope : Scope} {f : Addr} {cd : Value} {A : Around} {outer : List Env} {s : Shared} {H : Hp} {E : XK}
theorem hok_in {H' : Hp} {h g B : Heap} (x : HOk P w H' h) (c2 : ∀ b o, H' b = some o → ∃ u, B.get? b = some u) (s1 : B.StaysIn h) (s2 : B.StaysIn g) : HOk P w H' g := fun b o q =>
  (x b o q).stay (fun b' u' hb' q' => by
    obtain ⟨u, hu⟩ : ∃ u, B.get? b' = some u := by
      rcases hb' with rfl | hb'
      · exact c2 _ _ q
      · exact c2 _ _ hb'
    have z := s1 _ _ hu
    rw [q'] at z
    cases z
    exact s2 _ _ hu) (fun _ z => z) fun _ _ z => z
theorem pass_def : Passes (CXF P w) (cxOf (CXF P w) P w K mg base N qual scope f cd A outer s H E) E := by
  intro pins σ H1 s1 ev s' I hc
  obtain ⟨e, c, dx, H', B, rfl, os, bare, un, hok, F, c1, c2, hE⟩ := hc
  have un' : Un (frs (envOfC qual scope s.heap.objs.size f cd :: outer)) [] H1 H' s1.heap s'.heap := un
  have I0 : Un (frs outer) [] H H1 s.heap s1.heap := I.base
  have nl : ∀ b o, s.heap.get? b = some o → b ∉ frs outer → b ∉ frs (envOfC qual scope s.heap.objs.size f cd :: outer) := fun b o q hb z => by
    have z' : b = s.heap.objs.size ∨ b ∈ frs outer := by simpa [frs, envOfC] using z
    rcases z' with z' | z'
    · exact absurd (Heap.lt_size q) (by rw [z']; exact Nat.lt_irrefl _)
    · exact hb z'
  have fs : ∀ b, b ∈ frs outer → b ∈ frs (envOfC qual scope s.heap.objs.size f cd :: outer) := fun b z => by
    have : b = s.heap.objs.size ∨ b ∈ frs outer := .inr z
    simpa [frs, envOfC] using this
  show wpAny _ _ (leaving _ (.ref e)) _ _ s'
  refine leave_fly (L := s.heap.objs.size) I.ok.frames rfl F fun g F2 u => ?_
  have bg : ∀ b o, s'.heap.get? b = some o → (∃ u, B.get? b = some u) → g.get? b = some o := fun b o q ⟨v, hv⟩ => by
    have z := F.stay _ _ hv
    rw [q] at z
    cases z
    exact F2.stay _ _ hv
  have c1' : ∀ b o, s.heap.get? b = some o → b ∉ frs outer → ∃ u, B.get? b = some u := fun b o q hb => by
    obtain ⟨o1, q1⟩ := I0.there b o q (by simp)
    exact c1 b o1 q1 (nl b o q hb)
  have slot : ∀ b o, s.heap.get? b = some o → H b = none → b ∈ frs outer → ∃ sl, g.get? b = some { o with slots := sl } := fun b o q n hb => by
    obtain ⟨sl, q1⟩ := I0.slot b o q n hb (by simp)
    obtain ⟨sl2, q2⟩ := un'.slot b _ q1 (I0.free b o q n (by simp)) (fs b hb) (by simp)
    have nf : ∀ ws, o.data ≠ .fields ws := by
      obtain ⟨_, o', q', n'⟩ := (show s.heap.FunFrames base outer from I.ok.funs).mem hb
      rw [q] at q'
      cases q'
      exact n'
    obtain ⟨sl3, q3⟩ := u b _ q2 nf
    exact ⟨sl3, q3⟩
  refine ⟨e, c, dx, H', B, rfl, os.trans I.os, bare, ⟨fun b o q n hb _ => ?_, fun b o q n hb _ => slot b o q n hb, fun b o q n _ => ?_, fun b o q _ => ?_, fun b xs q => un.tups b xs (I0.tups b xs q), fun b o xs q => un.frzs b o xs (I0.frzs b o xs q), fun b ps q => ?_⟩, hok_in hok c2 F.stay F2.stay, F2, c1', c2, hE⟩
  · exact bg b o (un'.keep b o (I0.keep b o q n hb (by simp)) (I0.free b o q n (by simp)) (nl b o q hb) (by simp)) (c1' b o q hb)
  · obtain ⟨o1, q1⟩ := I0.there b o q (by simp)
    exact un'.free b o1 q1 (I0.free b o q n (by simp)) (by simp)
  · by_cases hb : b ∈ frs outer
    · obtain ⟨sl, z⟩ := slot b o q (I.ok.frf b hb) hb
      exact ⟨_, z⟩
    · obtain ⟨v, hv⟩ := c1' b o q hb
      exact ⟨v, F2.stay _ _ hv⟩
  · obtain ⟨m1, e1⟩ := I0.tbls b ps q
    obtain ⟨m2, e2⟩ := un.tbls b _ e1
    exact ⟨m1 ++ m2, by rw [e2, Array.append_assoc]⟩

theorem made_def {pins : List (Addr × Obj)} {σ : St} {H1 : Hp} {s1 : Shared} {e : Addr} {oe : Obj} {vs : Array Value} (I : Inv (cxOf (CXF P w) P w K mg base N qual scope f cd A outer s H E) pins σ H1 s1)
    (eo : s1.heap.get? e = some oe) (dt : oe.data = .fields vs) (v1 : vs[1]? = some .none) (en : H1 e = none) (e0 : ∀ b o, s.heap.get? b = some o → b ≠ e) (hE : E oe.cls oe.dict H1) :
    (cxOf (CXF P w) P w K mg base N qual scope f cd A outer s H E).xe (.ref e) s1 := by
  have I0 : Un (frs outer) [] H H1 s.heap s1.heap := I.base
  have ff : s1.heap.FunFrames base (envOfC qual scope s.heap.objs.size f cd :: outer) := I.stack
  have nl : ∀ b o, s.heap.get? b = some o → b ∉ frs outer → b ∉ frs (envOfC qual scope s.heap.objs.size f cd :: outer) := fun b o q hb z => by
    have z' : b = s.heap.objs.size ∨ b ∈ frs outer := by simpa [frs, envOfC] using z
    rcases z' with z' | z'
    · exact absurd (Heap.lt_size q) (by rw [z']; exact Nat.lt_irrefl _)
    · exact hb z'
  have ne : e ∉ frs (envOfC qual scope s.heap.objs.size f cd :: outer) := fun z => by
    obtain ⟨_, o, q, n⟩ := ff.mem z
    rw [eo] at q
    cases q
    exact n vs dt
  have hid : ∀ {b o}, (PySem.W.hideAll s1.heap (e :: frs (envOfC qual scope s.heap.objs.size f cd :: outer))).get? b = some o → s1.heap.get? b = some o := fun q => PySem.W.of_hideAll _ q
  have has : ∀ {b o}, s1.heap.get? b = some o → b ≠ e → b ∉ frs (envOfC qual scope s.heap.objs.size f cd :: outer) → (PySem.W.hideAll s1.heap (e :: frs (envOfC qual scope s.heap.objs.size f cd :: outer))).get? b = some o :=
    fun q h1 h2 => PySem.W.hideAll_get _ q (by simp only [List.mem_cons, not_or]; exact ⟨h1, h2⟩)
  have ff2 : s1.heap.FunFrames (PySem.W.hideAll s1.heap (e :: frs (envOfC qual scope s.heap.objs.size f cd :: outer))) (envOfC qual scope s.heap.objs.size f cd :: outer) :=
    PySem.W.funFrames_hide ff fun env' he' a ha => List.mem_cons_of_mem _ (List.mem_filterMap.mpr ⟨env', he', ha⟩)
  show wpAny _ _ (leaving _ (.ref e)) _ _ s1
  refine leave_new (L := s.heap.objs.size) I.ok.frames ff2 rfl eo (fun b o q => hid q) (PySem.W.hideAll_none _ (by simp)) dt v1 fun g F2 u => ?_
  have c1' : ∀ b o, s.heap.get? b = some o → b ∉ frs outer → ∃ u, (PySem.W.hideAll s1.heap (e :: frs (envOfC qual scope s.heap.objs.size f cd :: outer))).get? b = some u := fun b o q hb => by
    obtain ⟨o1, q1⟩ := I0.there b o q (by simp)
    exact ⟨o1, has q1 (e0 b o q) (nl b o q hb)⟩
  have c2 : ∀ b o, H1 b = some o → ∃ u, (PySem.W.hideAll s1.heap (e :: frs (envOfC qual scope s.heap.objs.size f cd :: outer))).get? b = some u := fun b o q => by
    obtain ⟨o1, q1⟩ : ∃ o1, s1.heap.get? b = some o1 := there_of (I.hok b o q)
    refine ⟨o1, has q1 (fun z => by rw [z, en] at q; cases q) fun z => ?_⟩
    have := I.stkFree b z
    rw [q] at this
    cases this
  have slot : ∀ b o, s.heap.get? b = some o → H b = none → b ∈ frs outer → ∃ sl, g.get? b = some { o with slots := sl } := fun b o q n hb => by
    obtain ⟨sl, q1⟩ := I0.slot b o q n hb (by simp)
    have nf : ∀ ws, o.data ≠ .fields ws := by
      obtain ⟨_, o', q', n'⟩ := (show s.heap.FunFrames base outer from I.ok.funs).mem hb
      rw [q] at q'
      cases q'
      exact n'
    obtain ⟨sl3, q3⟩ := u b _ q1 nf
    exact ⟨sl3, q3⟩
  refine ⟨e, oe.cls, oe.dict, H1, _, rfl, I.os, I.bare, ⟨fun b o q n hb _ => ?_, fun b o q n hb _ => slot b o q n hb, fun b o q n _ => I0.free b o q n (by simp), fun b o q _ => ?_, I0.tups, I0.frzs, I0.tbls⟩, hok_in I.hok c2 (fun b o q => hid q) F2.stay, F2, c1', c2, hE⟩
  · exact F2.stay _ _ (has (I0.keep b o q n hb (by simp)) (e0 b o q) (nl b o q hb))
  · by_cases hb : b ∈ frs outer
    · obtain ⟨sl, z⟩ := slot b o q (I.ok.frf b hb) hb
      exact ⟨_, z⟩
    · obtain ⟨v, hv⟩ := c1' b o q hb
      exact ⟨v, F2.stay _ _ hv⟩
end
end L2.Na




namespace L2.Na
open PySem PySem.Spec PyProof.Rows L2 L2.L3

theorem ff {P : Prop} (h : false = true) : P := nomatch h

noncomputable abbrev XS := St → XK
noncomputable abbrev E0 : XS := fun _ _ _ _ => False

noncomputable def blts : List Str := ["len", "range", "sum", "all", "any", "min", "max", "sorted", "isinstance", "list", "tuple", "int", "str", "bool", "dict", "zip", "set", "abs", "enumerate", "reversed", "divmod", "ValueError"]
structure Rt where
  P : Program
  w : World
  K : PySem.W.Frag
  mg : Str → Option Value
  base : Heap
  A : Around
noncomputable def rtOf (X : Cx) : Rt := ⟨X.prog, X.w, X.K, X.mg, X.base, X.A⟩

noncomputable def FnAt (R : Rt) (x : Str) (sp : Sp) : Prop := ∃ (k : Nat) (f : Addr) (fd : FuncData) (ps : List Str), Room k R.A ∧ FnOk R.P R.w R.K R.mg R.base (CXF R.P R.w) k f fd ps sp ∧ Binds R.K fd ps [] ∧ PySem.W.keepIn R.K (.ref f) = true ∧ R.mg x = some (.ref f)
noncomputable def GlAt (R : Rt) (x : Str) (v : V) : Prop := ∃ u, R.mg x = some u ∧ RelV v u

inductive Fb where
  | all
  | own (l : List Str)
noncomputable def Fb.of : Bool → Fb
  | true => .all
  | false => .own []
noncomputable instance : Coe Bool Fb := ⟨Fb.of⟩
structure Sc where
  N : List Str
  nm : List (Str × NameKind)
  fo : Fb
noncomputable def Sc.fb (C : Sc) : Bool := match C.fo with
  | .all => true
  | .own _ => false

noncomputable def Sc.ow (C : Sc) : List Str := match C.fo with
  | .all => []
  | .own l => l
structure Gd (X : Cx) (C : Sc) : Prop where
  N : X.N = C.N
  nm : X.env.scope.names = C.nm
  nd : C.N.Nodup
  calm : X.calm = true
  bl : ∀ x ∈ blts, X.mg x = none
  hu : X.A.units + 64 < cLine
  fb : C.fb = true → ∀ x, X.fn x = true
  top : C.fb = true → X.stack = X.env :: X.outer ∧ X.env.frame = some X.env.locals
  ow : ∀ x ∈ C.ow, X.fn x = true

structure Thr (X : Cx) (E : XS) : Prop where
  pass : ∀ (pins : List (Addr × Obj)) (σ : St) (H : Hp) (s : Shared) (ev : Value) (s' : Shared), Inv X pins σ H s → CXF X.prog X.w X.stack H s (E σ) ev s' → X.xe ev s'
  made : ∀ (pins : List (Addr × Obj)) (σ : St) (H H' : Hp) (s s' : Shared) (e : Addr) (oe : Obj) (vs : Array Value), Inv X pins σ H s → s'.os = s.os → AllBare s'.gens → Un (frs X.stack) [] H H' s.heap s'.heap → HOk X.prog X.w H' s'.heap → s.heap.get? e = none → H' e = none →
    s'.heap.get? e = some oe → oe.data = .fields vs → vs[1]? = some .none → E σ oe.cls oe.dict H' → X.xe (.ref e) s'
  own : PassesOwn (model X.prog X.w) X.A X.env X.xe


inductive Shp where
  | pl | cp | zc
  deriving DecidableEq
noncomputable def shpOf : Expr → Option Shp
  | .Starred .. => none
  | .Slice .. => none
  | .Set .. => none
  | .SetComp .. => none
  | .DictComp .. => none
  | .GeneratorExp .. => none
  | .ListComp .. => some .cp
  | .Call (.Name _ _) [] [] _ => some .zc
  | _ => some .pl
noncomputable def tstOf : Expr → Bool
  | .UnaryOp .Not _ _ => false
  | .BoolOp .. => false
  | .IfExp .. => false
  | .Compare .. => false
  | _ => true
section
variable {e b o : Expr} {es : List Expr} {env : Env} {s : Shp}
theorem shp_star (h : shpOf e = some s) : starEach (e :: es) env = (false, eval e env) :: starEach es env := by
  cases e <;> first | rfl | cases h
theorem shp_swap {tgt : Option Expr} {line : Nat} (h : shpOf e = some s) (hs : s ≠ .cp) : swapsWith e tgt line env = pure false := by
  cases e with
  | ListComp a b c d => exact absurd (Option.some.inj h).symm hs
  | SetComp a b c d => cases h
  | DictComp a b c d => cases h
  | _ => rfl
theorem shp_ix (h : shpOf b = some s) : PlainIx b := by
  cases b with
  | Slice a b c d => cases h
  | _ => exact fun _ _ => rfl
theorem shp_mark {op : CmpOp} (h : shpOf b = some s) : behindInMarks op b = false := by
  cases b with
  | Set a b c => cases h
  | _ => rfl
theorem shp_fold (h : shpOf e = some s) (x : Value) : foldedSetIterable e env x = pure x := by
  cases e with
  | Set a b c => cases h
  | _ => rfl
theorem shp_base {attr : Str} {w : Sem Value} (h : shpOf o = some s) (hs : s ≠ .zc) : attributeBase o attr env w = w := by
  cases o with
  | Call f a k p =>
    cases f with
    | Name x q =>
      cases a with
      | nil =>
        cases k with
        | nil => exact absurd (Option.some.inj h).symm hs
        | cons _ _ => rfl
      | cons _ _ => rfl
    | _ => rfl
  | _ => rfl
theorem tst_ok (h : tstOf e = true) (whole : Sem Value) : isTrue e env whole = (do let v ← whole; standAt e.pos; holding [v] (truthy v)) := by
  cases e with
  | UnaryOp op x p =>
    cases op with
    | Not => cases h
    | _ => rfl
  | BoolOp a b c => cases h
  | IfExp a b c d => cases h
  | Compare a b c d => cases h
  | _ => rfl
end


noncomputable def br (b : Bool) (A B : Prop) : Prop := (b = true → A) ∧ (b = false → B)
theorem brT {A B : Prop} (h : A) : br true A B := ⟨fun _ => h, fun z => nomatch z⟩
theorem brF {A B : Prop} (h : B) : br false A B := ⟨fun z => (nomatch z), fun _ => h⟩
theorem br_d {c A B : Prop} [Decidable c] (h1 : c → A) (h2 : ¬ c → B) : br (decide c) A B := ⟨fun z => h1 (of_decide_eq_true z), fun z => h2 (of_decide_eq_false z)⟩
theorem br_n {c A B : Prop} [Decidable c] (h1 : ¬ c → A) (h2 : c → B) : br (!decide c) A B :=
  ⟨fun z => h1 (by simpa using z), fun z => h2 (by simpa using z)⟩
noncomputable def rTru (K : PySem.W.Frag) (x : V) (H : Hp) (Q : Bool → Hp → Prop) : Prop := match x with
  | .bl b => Q b H
  | .non => Q false H
  | .int i => Q (i != 0) H
  | .str y => y.length ≤ sizeLine ∧ Q ((y.length : Int) != 0) H
  | .ref p => ∃ k, TruV K (.ref p) H k ∧ Q k H
  | _ => False
theorem rTru_ok {K : PySem.W.Frag} {x : V} {H : Hp} {Q : Bool → Hp → Prop} (h : rTru K x H Q) : ∃ k, TruV K x H k ∧ Q k H := by
  cases x with
  | bl b => exact ⟨b, rfl, h⟩
  | non => exact ⟨false, rfl, h⟩
  | int i => exact ⟨_, rfl, h⟩
  | str y => exact ⟨_, ⟨h.1, rfl⟩, h.2⟩
  | ref p => exact h
  | byt _ => exact h.elim
  | flt _ => exact h.elim
  | ty _ => exact h.elim
theorem tru_run {X : Cx} : TruR X (rTru X.K) := fun pins s σ H x v Q I rx h => tru_ok pins s σ H x v Q I rx (rTru_ok h)
noncomputable def truT (K : PySem.W.Frag) (t : TE) : TT := fun σ H Q => t σ H fun x H' => rTru K x H' Q
theorem pt_tru {X : Cx} {a : Expr} {ta : TE} (ha : PE X a ta) (he : tstOf a = true) : PT X a (truT X.K ta) := by
  intro pins s σ H Q I h
  exact isTrue_plain (thn (ha pins s σ H _ I h) fun v s1 ⟨x, H1, I1, r1, q1⟩ => tru_run pins s1 σ H1 x v Q I1 r1 q1) (tst_ok he _)
theorem PE.imp {X : Cx} {e : Expr} {t t' : TE} (h : PE X e t) (f : ∀ σ H Q, t' σ H Q → t σ H Q) : PE X e t' := fun pins s σ H Q I q => h pins s σ H Q I (f σ H Q q)


structure EX (K : PySem.W.Frag) where
  t : XS → TE
  tt : XS → TT
  m : Sc → Expr → Bool
  q : Rt → Prop
  s : Shp
  ok : ∀ (X : Cx) (C : Sc) (E : XS) (e : Expr), X.K = K → Gd X C → Thr X E → q (rtOf X) → m C e = true → PE X e (t E)
  okT : ∀ (X : Cx) (C : Sc) (E : XS) (e : Expr), X.K = K → Gd X C → Thr X E → q (rtOf X) → m C e = true → PT X e (tt E)
  sok : ∀ (C : Sc) (e : Expr), m C e = true → shpOf e = some s

noncomputable def mkE {K : PySem.W.Frag} (t : XS → TE) (m : Sc → Expr → Bool) (q : Rt → Prop) (s : Shp)
    (ok : ∀ (X : Cx) (C : Sc) (E : XS) (e : Expr), X.K = K → Gd X C → Thr X E → q (rtOf X) → m C e = true → PE X e (t E))
    (sok : ∀ (C : Sc) (e : Expr), m C e = true → shpOf e = some s) (hT : ∀ (C : Sc) (e : Expr), m C e = true → tstOf e = true) : EX K :=
  ⟨t, fun E => truT K (t E), m, q, s, ok, fun X C E e hK G hE hq hm => by subst hK; exact pt_tru (ok X C E e rfl G hE hq hm) (hT C e hm), sok⟩


noncomputable def mkE2 {K : PySem.W.Frag} (t : XS → TE) (m : Sc → Expr → Bool) (q : Rt → Prop) (s : Shp)
    (ok : ∀ (X : Cx) (C : Sc) (E : XS) (e : Expr), X.K = K → Gd X C → Thr X E → q (rtOf X) → m C e = true → PE X e (t E))
    (both : ∀ (C : Sc) (e : Expr), m C e = true → shpOf e = some s ∧ tstOf e = true) : EX K := mkE t m q s ok (fun C e h => (both C e h).1) fun C e h => (both C e h).2
section
variable {K : PySem.W.Frag}
noncomputable def tV (i : Nat) : TE := fun σ H Q => match σ[i]? with
  | some (some v) => Q v H
  | _ => False
noncomputable def visB : Option NameKind → Bool
  | some .local => true
  | some .cell => true
  | some .free => true
  | _ => false
theorem visB_of {sc : Scope} {x : Str} (h : visB (sc.names.lookup x) = true) : Vis sc x := by
  unfold Vis
  cases e : sc.names.lookup x with
  | none => rw [e] at h; cases h
  | some k =>
    cases k with
    | «local» => exact .inl rfl
    | cell => exact .inr (.inl rfl)
    | free => exact .inr (.inr rfl)
    | globalExplicit => rw [e] at h; cases h
    | globalImplicit => rw [e] at h; cases h
theorem ne_of_bne {x y : Str} (h : (x != y) = true) : (x == y) = false := by
  cases e : x == y with
  | false => rfl
  | true => rw [bne, e] at h; cases h
noncomputable def var (i : Nat) : EX K := mkE2 (fun _ => tV i)
  (fun C e => match e with
    | .Name x _ => C.N[i]? == some x && (visB (C.nm.lookup x) && (x != "__debug__" && x != "__classdict__"))
    | _ => false) (fun _ => True) .pl
  (fun X C E e hK G hE hq hm => by
    cases e with
    | Name x p =>
      simp only [Bool.and_eq_true] at hm
      obtain ⟨h1, h2, h3, h4⟩ := hm
      refine PE.imp (pe_var (i := i) (by rw [G.N]; exact eq_of_beq h1) (visB_of (by rw [G.nm]; exact h2)) (ne_of_bne h3) (ne_of_bne h4)) fun σ H Q h => ?_
      unfold tV at h
      split at h
      · exact ⟨_, by assumption, h⟩
      · exact h.elim
    | _ => exact ff hm)
  (fun C e hm => by cases e with | Name x p => exact ⟨rfl, rfl⟩ | _ => exact ff hm)
noncomputable def cst (v : V) : EX K := mkE2 (fun _ => tC v)
  (fun _ e => match e with
    | .Constant c _ _ => decide (constV c = some v)
    | _ => false) (fun _ => True) .pl
  (fun X C E e hK G hE hq hm => by
    cases e with
    | Constant c k p => exact pe_constV (of_decide_eq_true hm)
    | _ => exact ff hm)
  (fun C e hm => by cases e with | Constant c k p => exact ⟨rfl, rfl⟩ | _ => exact ff hm)

noncomputable def glB (C : Sc) (x y : Str) : Bool := y == x && (C.nm.lookup x == some .globalImplicit && x != "__debug__")
theorem glB_eq {C : Sc} {x y : Str} (h : glB C x y = true) : y = x := by
  unfold glB at h
  simp only [Bool.and_eq_true] at h
  exact eq_of_beq h.1
theorem glB_gl {X : Cx} {C : Sc} {x y : Str} (G : Gd X C) (h : glB C x y = true) : Gl X x ∧ (x == ("__debug__" : Str)) = false := by
  unfold glB at h
  simp only [Bool.and_eq_true] at h
  obtain ⟨_, h2, h3⟩ := h
  exact ⟨by show X.env.scope.names.lookup x = _; rw [G.nm]; exact eq_of_beq h2, ne_of_bne h3⟩
noncomputable def glb (x : Str) (v : V) : EX K := mkE2 (fun _ => tC v)
  (fun C e => match e with
    | .Name y _ => glB C x y
    | _ => false) (fun R => GlAt R x v) .pl
  (fun X C E e hK G hE hq hm => by
    cases e with
    | Name y p =>
      obtain ⟨u, h1, h2⟩ := hq
      have e := glB_eq hm
      subst e
      obtain ⟨g, d⟩ := glB_gl G hm
      exact pe_glob g h1 h2 d
    | _ => exact ff hm)
  (fun C e hm => by cases e with | Name x p => exact ⟨rfl, rfl⟩ | _ => exact ff hm)

noncomputable def bty (x : Str) (T : String) (hb : bootBuiltins x = some (.type T)) (hi : x ∈ blts) (hn : x ≠ "__name__") : EX K := mkE2 (fun _ => tC (.ty T))
  (fun C e => match e with
    | .Name y _ => glB C x y
    | _ => false) (fun _ => True) .pl
  (fun X C E e hK G hE hq hm => by
    cases e with
    | Name y p =>
      have e := glB_eq hm
      subst e
      obtain ⟨g, d⟩ := glB_gl G hm
      exact pe_bltn g (G.bl _ hi) hb rfl hn d
    | _ => exact ff hm)
  (fun C e hm => by cases e with | Name x p => exact ⟨rfl, rfl⟩ | _ => exact ff hm)


noncomputable def iOp (f : Int → Int → Hp → (V → Hp → Prop) → Prop) : R2 := fun x y H Q => match x with
  | .int i => (match y with
    | .int j => f i j H Q
    | _ => False)
  | _ => False
theorem iOp_of {f : Int → Int → Hp → (V → Hp → Prop) → Prop} {x y : V} {H : Hp} {Q : V → Hp → Prop} (h : iOp f x y H Q) : ∃ i j, x = .int i ∧ y = .int j ∧ f i j H Q := by
  cases x with
  | int i => cases y with
    | int j => exact ⟨i, j, rfl, rfl, h⟩
    | _ => exact False.elim h
  | _ => exact False.elim h
noncomputable def rAdd (K : PySem.W.Frag) : R2 := fun x y H Q => match x with
  | .int i => (match y with
    | .int j => Q (.int (i + j)) H
    | .bl k => Q (.int (i + b2i k)) H
    | _ => False)
  | .str a => (match y with
    | .str b => a.length + b.length ≤ sizeLine ∧ Q (.str (a ++ b)) H
    | _ => False)
  | .ref a => (match y with
    | .ref b => rCat (.ref a) (.ref b) H Q ∨ rCatT K (.ref a) (.ref b) H Q ∨ rCatT0 K (.ref a) (.ref b) H Q
    | _ => False)
  | _ => False
noncomputable def rMul : R2 := fun x y H Q => match y with
  | .int j => (match x with
    | .int i => IntMulOk i j ∧ Q (.int (i * j)) H
    | .ref a => rRep (.ref a) (.int j) H Q
    | .str a => CMulS a j ∧ Q (.str (Txt.mul a j)) H
    | _ => False)
  | _ => False
noncomputable def rBin (K : PySem.W.Frag) : Operator → R2
  | .Add => rAdd K
  | .Sub => iOp fun i j H Q => Q (.int (i - j)) H
  | .Mult => rMul
  | .FloorDiv => iOp fun i j H Q => CDv i j ∧ Q (.int (i / j)) H
  | .Mod => iOp fun i j H Q => 0 < j ∧ Q (.int (i % j)) H
  | .Pow => iOp fun i j H Q => CPw i j ∧ Q (.int (i ^ j.toNat)) H
  | _ => fun _ _ _ _ => False
theorem bin_ok {X : Cx} (op : Operator) : OpR X (binaryOp op) (rBin X.K op) := by
  intro pins s σ H x y v u Q I rx ry h
  cases op with
  | Add =>
    cases x with
    | int i => cases y with
      | int j => exact op_add pins s σ H _ _ v u Q I rx ry ⟨_, _, rfl, rfl, h⟩
      | bl k => exact op_add_ib pins s σ H _ _ v u Q I rx ry ⟨_, _, rfl, rfl, h⟩
      | _ => exact False.elim h
    | str a => cases y with
      | str b => exact op_add_str pins s σ H _ _ v u Q I rx ry ⟨_, _, rfl, rfl, h.1, h.2⟩
      | _ => exact False.elim h
    | ref a => cases y with
      | ref b =>
        rcases h with h | h | h
        · exact op_cat pins s σ H _ _ v u Q I rx ry h
        · exact op_catT pins s σ H _ _ v u Q I rx ry h
        · exact op_catT0 pins s σ H _ _ v u Q I rx ry h
      | _ => exact False.elim h
    | _ => exact False.elim h
  | Sub => exact op_sub pins s σ H _ _ v u Q I rx ry (iOp_of (f := fun i j H Q => Q (.int (i - j)) H) h)
  | Mult =>
    cases y with
    | int j => cases x with
      | int i => exact op_mulA pins s σ H _ _ v u Q I rx ry ⟨_, _, rfl, rfl, h.1, h.2⟩
      | ref a => exact op_rep pins s σ H _ _ v u Q I rx ry h
      | str a => exact op_mulS pins s σ H _ _ v u Q I rx ry ⟨_, _, rfl, rfl, h.1, h.2⟩
      | _ => exact False.elim h
    | _ => exact False.elim h
  | FloorDiv => exact op_fdivA pins s σ H _ _ v u Q I rx ry (iOp_of (f := fun i j H Q => CDv i j ∧ Q (.int (i / j)) H) h)
  | Mod => exact op_mod pins s σ H _ _ v u Q I rx ry (iOp_of (f := fun i j H Q => 0 < j ∧ Q (.int (i % j)) H) h)
  | Pow => exact op_powA pins s σ H _ _ v u Q I rx ry (iOp_of (f := fun i j H Q => CPw i j ∧ Q (.int (i ^ j.toNat)) H) h)
  | _ => exact False.elim h
noncomputable def bin (op : Operator) (a b : EX K) : EX K := mkE2 (fun E => tOp (rBin K op) (a.t E) (b.t E))
  (fun C e => match e with
    | .BinOp l o r _ => decide (o = op) && (a.m C l && b.m C r)
    | _ => false) (fun R => a.q R ∧ b.q R) .pl
  (fun X C E e hK G hE hq hm => by
    subst hK
    cases e with
    | BinOp l o r p =>
      simp only [Bool.and_eq_true] at hm
      obtain ⟨h1, h2, h3⟩ := hm
      have e := of_decide_eq_true h1
      subst e
      exact pe_op (bin_ok _) (a.ok X C E l rfl G hE hq.1 h2) (b.ok X C E r rfl G hE hq.2 h3)
    | _ => exact ff hm)
  (fun C e hm => by cases e with | BinOp l o r p => exact ⟨rfl, rfl⟩ | _ => exact ff hm)
noncomputable def rNeg : V → Hp → VK → Prop
  | .int i, H, Q => Q (.int (-i)) H
  | _, _, _ => False
noncomputable def neg (a : EX K) : EX K := mkE (fun E => tUn rNeg (a.t E))
  (fun C e => match e with
    | .UnaryOp .USub l _ => a.m C l
    | _ => false) a.q .pl
  (fun X C E e hK G hE hq hm => by
    cases e with
    | UnaryOp o l p =>
      cases o with
      | USub =>
        refine pe_un (fun pins s σ H x v Q I rx h => ?_) (a.ok X C E l hK G hE hq hm)
        unfold rNeg at h
        split at h
        · exact un_neg pins s σ H _ v Q I rx ⟨_, rfl, h⟩
        · exact h.elim
      | _ => exact ff hm
    | _ => exact ff hm)
  (fun C e hm => by cases e with | UnaryOp o l p => rfl | _ => exact ff hm)
  (fun C e hm => by cases e with | UnaryOp o l p => (cases o with | USub => rfl | _ => exact ff hm) | _ => exact ff hm)


theorem op_isB {X : Cx} : OpR X (compareOp .Is) (fun x y H Q => ∃ c d, x = .bl c ∧ y = .bl d ∧ Q (.bl (c == d)) H) := by
  intro pins s σ H x y v u Q I rx ry h
  obtain ⟨c, d, rfl, rfl, q⟩ := h
  cases (show v = Value.bool c from rx)
  cases (show u = Value.bool d from ry)
  exact is_bool ⟨.bl _, H, I, rfl, q⟩
theorem op_isnotB {X : Cx} : OpR X (compareOp .IsNot) (fun x y H Q => ∃ c d, x = .bl c ∧ y = .bl d ∧ Q (.bl (c != d)) H) := by
  intro pins s σ H x y v u Q I rx ry h
  obtain ⟨c, d, rfl, rfl, q⟩ := h
  cases (show v = Value.bool c from rx)
  cases (show u = Value.bool d from ry)
  exact isnot_bool ⟨.bl _, H, I, rfl, q⟩
noncomputable def rIs (f : Bool → Bool) : R2 := fun x y H Q => match y with
  | .non => Q (.bl (f (decide (x = .non)))) H
  | .bl d => (match x with
    | .bl c => Q (.bl (f (c == d))) H
    | _ => False)
  | _ => False
noncomputable def rInS (K : PySem.W.Frag) (n : Bool) (f : Bool → Bool) : R2 := fun x y H Q => match y with
  | .ref b => rIn K n x (.ref b) H Q
  | .str j => (match x with
    | .str i => Q (.bl (f (!(Builtin.Str.occurrences j i 0 j.length 1).isEmpty))) H
    | _ => False)
  | _ => False
noncomputable def rCmp (K : PySem.W.Frag) : CmpOp → R2
  | .Eq => fun x y H Q => (scal x y = true ∧ Q (.bl (decide (x = y))) H) ∨ rEqA x y H Q ∨ rEqN x y H Q
  | .NotEq => fun x y H Q => (scal x y = true ∧ Q (.bl (!decide (x = y))) H) ∨ rNeA x y H Q ∨ rNeN x y H Q
  | .Lt => iOp fun i j H Q => Q (.bl (decide (i < j))) H
  | .LtE => iOp fun i j H Q => Q (.bl (decide (i ≤ j))) H
  | .Gt => iOp fun i j H Q => Q (.bl (decide (j < i))) H
  | .GtE => iOp fun i j H Q => Q (.bl (decide (j ≤ i))) H
  | .Is => rIs fun b => b
  | .IsNot => rIs fun b => !b
  | .In => rInS K false fun b => b
  | .NotIn => rInS K true fun b => !b
theorem cmp_ok {X : Cx} (hu : X.A.units + 64 < cLine) (op : CmpOp) : OpR X (compareOp op) (rCmp X.K op) := by
  intro pins s σ H x y v u Q I rx ry h
  cases op with
  | Eq =>
    rcases h with h | h | h
    · exact op_eq pins s σ H _ _ v u Q I rx ry h
    · exact op_eqA hu pins s σ H _ _ v u Q I rx ry h
    · exact op_eqN hu pins s σ H _ _ v u Q I rx ry h
  | NotEq =>
    rcases h with h | h | h
    · exact op_ne pins s σ H _ _ v u Q I rx ry h
    · exact op_neA hu pins s σ H _ _ v u Q I rx ry h
    · exact op_neN hu pins s σ H _ _ v u Q I rx ry h
  | Lt => exact op_lt pins s σ H _ _ v u Q I rx ry (iOp_of (f := fun i j H Q => Q (.bl (decide (i < j))) H) h)
  | LtE => exact op_le pins s σ H _ _ v u Q I rx ry (iOp_of (f := fun i j H Q => Q (.bl (decide (i ≤ j))) H) h)
  | Gt => exact op_gt pins s σ H _ _ v u Q I rx ry (iOp_of (f := fun i j H Q => Q (.bl (decide (j < i))) H) h)
  | GtE => exact op_ge pins s σ H _ _ v u Q I rx ry (iOp_of (f := fun i j H Q => Q (.bl (decide (j ≤ i))) H) h)
  | Is =>
    cases y with
    | non => exact op_isN pins s σ H _ _ v u Q I rx ry ⟨rfl, h⟩
    | bl d => cases x with
      | bl c => exact op_isB pins s σ H _ _ v u Q I rx ry ⟨_, _, rfl, rfl, h⟩
      | _ => exact False.elim h
    | _ => exact False.elim h
  | IsNot =>
    cases y with
    | non => exact op_notN pins s σ H _ _ v u Q I rx ry ⟨rfl, h⟩
    | bl d => cases x with
      | bl c => exact op_isnotB pins s σ H _ _ v u Q I rx ry ⟨_, _, rfl, rfl, h⟩
      | _ => exact False.elim h
    | _ => exact False.elim h
  | In =>
    cases y with
    | ref b => exact op_in_seq pins s σ H _ _ v u Q I rx ry h
    | str j => cases x with
      | str i => exact op_in_str pins s σ H _ _ v u Q I rx ry ⟨_, _, rfl, rfl, h⟩
      | _ => exact False.elim h
    | _ => exact False.elim h
  | NotIn =>
    cases y with
    | ref b => exact op_notIn_seq pins s σ H _ _ v u Q I rx ry h
    | str j => cases x with
      | str i => exact op_notIn_str pins s σ H _ _ v u Q I rx ry ⟨_, _, rfl, rfl, h⟩
      | _ => exact False.elim h
    | _ => exact False.elim h

noncomputable def bV (Q : Bool → Hp → Prop) : V → Hp → Prop
  | .bl b, H => Q b H
  | _, _ => False
noncomputable def rB (r : R2) : V → V → Hp → (Bool → Hp → Prop) → Prop := fun x y H Q => r x y H (bV Q)
theorem bl_of {z : V} {H : Hp} {Q : Bool → Hp → Prop} (h : bV Q z H) : ∃ b, z = .bl b ∧ Q b H := by
  cases z with
  | bl b => exact ⟨b, rfl, h⟩
  | _ => exact h.elim
noncomputable def cmp (op : CmpOp) (a b : EX K) : EX K where
  t := fun E => tOp (rCmp K op) (a.t E) (b.t E)
  tt := fun E σ H Q => a.t E σ H fun x H1 => b.t E σ H1 fun y H2 => rB (rCmp K op) x y H2 Q
  m := fun C e => match e with
    | .Compare l [o] [r] _ => decide (o = op) && (a.m C l && b.m C r)
    | _ => false
  q := fun R => a.q R ∧ b.q R
  s := .pl
  ok := fun X C E e hK G hE hq hm => by
    subst hK
    cases e with
    | Compare l os rs p =>
      match os, rs, hm with
      | [o], [r], hm =>
        simp only [Bool.and_eq_true] at hm
        obtain ⟨h1, h2, h3⟩ := hm
        have e := of_decide_eq_true h1
        subst e
        exact pe_cmpR (cmp_ok G.hu _) (a.ok X C E l rfl G hE hq.1 h2) (b.ok X C E r rfl G hE hq.2 h3) (shp_mark (b.sok C r h3))
    | _ => exact ff hm
  okT := fun X C E e hK G hE hq hm => by
    subst hK
    cases e with
    | Compare l os rs p =>
      match os, rs, hm with
      | [o], [r], hm =>
        simp only [Bool.and_eq_true] at hm
        obtain ⟨h1, h2, h3⟩ := hm
        have e := of_decide_eq_true h1
        subst e
        intro pins s σ H Q I hw
        refine wpAny_isTrue_Compare1 (thn (a.ok X C E l rfl G hE hq.1 h2 pins s σ H _ I hw) fun v s1 ⟨x, H1, I1, r1, q1⟩ => thn (b.ok X C E r rfl G hE hq.2 h3 pins s1 σ H1 _ I1 q1) fun u s2 ⟨y, H2, I2, r2, q2⟩ =>
          thn (cmp_ok G.hu _ pins s2 σ H2 x y v u _ I2 r1 r2 q2) fun c s3 ⟨z, H3, I3, r3, q3⟩ => ?_) (shp_mark (b.sok C r h3))
        obtain ⟨d, rfl, q⟩ := bl_of q3
        cases r3
        exact wpAny_truthy_bool ⟨H3, I3, q⟩
    | _ => exact ff hm
  sok := fun C e hm => by cases e with | Compare l o r p => rfl | _ => exact ff hm

noncomputable def notE (a : EX K) : EX K where
  t := fun E σ H Q => a.t E σ H fun x H1 => rTru K x H1 fun b H2 => Q (.bl (!b)) H2
  tt := fun E σ H Q => a.tt E σ H fun b H1 => Q (!b) H1
  m := fun C e => match e with
    | .UnaryOp .Not l _ => a.m C l
    | _ => false
  q := a.q
  s := .pl
  ok := fun X C E e hK G hE hq hm => by
    subst hK
    cases e with
    | UnaryOp o l p =>
      cases o with
      | Not =>
        intro pins s σ H Q I h
        refine UnaryOp_ (thn (a.ok X C E l rfl G hE hq hm pins s σ H _ I h) fun v s1 ⟨x, H1, I1, r1, q1⟩ => ?_)
        exact not_of (thn (tru_run pins s1 σ H1 x v _ I1 r1 q1) fun b s2 ⟨H2, I2, q2⟩ => ⟨.bl (!b), H2, I2, rfl, q2⟩)
      | _ => exact ff hm
    | _ => exact ff hm
  okT := fun X C E e hK G hE hq hm => by
    cases e with
    | UnaryOp o l p =>
      cases o with
      | Not => exact pt_not (a.okT X C E l hK G hE hq hm)
      | _ => exact ff hm
    | _ => exact ff hm
  sok := fun C e hm => by cases e with | UnaryOp o l p => rfl | _ => exact ff hm

noncomputable def tBop (K : PySem.W.Frag) (op : BoolOp) (E : XS) : TE → List (EX K) → TE
  | t, [] => t
  | t, y :: ys => fun σ H Q => t σ H fun x H1 => rTru K x H1 fun b H2 => match op with
    | .And => br b (tBop K op E (y.t E) ys σ H2 Q) (Q x H2)
    | .Or => br b (Q x H2) (tBop K op E (y.t E) ys σ H2 Q)
noncomputable def tBopT (K : PySem.W.Frag) (op : BoolOp) (E : XS) : TT → List (EX K) → TT
  | t, [] => t
  | t, y :: ys => fun σ H Q => t σ H fun b H1 => match op with
    | .And => br b (tBopT K op E (y.tt E) ys σ H1 Q) (Q false H1)
    | .Or => br b (Q true H1) (tBopT K op E (y.tt E) ys σ H1 Q)
noncomputable def mAs : List (EX K) → Sc → List Expr → Bool
  | [], _, [] => true
  | x :: xs, C, e :: es => x.m C e && mAs xs C es
  | _, _, _ => false
noncomputable def qAs : List (EX K) → Rt → Prop
  | [], _ => True
  | x :: xs, R => x.q R ∧ qAs xs R
theorem bop_ok {X : Cx} {C : Sc} {E : XS} {pos : Pos} (op : BoolOp) (G : Gd X C) (hE : Thr X E) : ∀ (xs : List (EX X.K)) (e : Expr) (es : List Expr) (t : TE), PE X e t → qAs xs (rtOf X) → mAs xs C es = true → PE X (.BoolOp op (e :: es) pos) (tBop X.K op E t xs)
  | [], e, [], t, he, _, _ => pe_one he
  | [], e, _ :: _, t, he, _, hm => nomatch hm
  | x :: xs, e, [], t, he, _, hm => nomatch hm
  | x :: xs, e, e2 :: es, t, he, hq, hm => by
    have hm' : (x.m C e2 && mAs xs C es) = true := hm
    simp only [Bool.and_eq_true] at hm'
    have h2 := bop_ok (pos := pos) op G hE xs e2 es (x.t E) (x.ok X C E e2 rfl G hE hq.1 hm'.1) hq.2 hm'.2
    cases op with
    | And =>
      intro pins s σ H Q I h
      refine BoolOp_and (thn (he pins s σ H _ I h) fun v s1 ⟨y, H1, I1, r1, q1⟩ => ?_)
      refine thn (tru_run pins s1 σ H1 y v _ I1 r1 q1) fun b s2 ⟨H2, I2, q2⟩ => ?_
      cases b with
      | true => exact h2 pins s2 σ H2 Q I2 (q2.1 rfl)
      | false => exact ⟨y, H2, I2, r1, q2.2 rfl⟩
    | Or =>
      intro pins s σ H Q I h
      refine BoolOp_or (thn (he pins s σ H _ I h) fun v s1 ⟨y, H1, I1, r1, q1⟩ => ?_)
      refine thn (tru_run pins s1 σ H1 y v _ I1 r1 q1) fun b s2 ⟨H2, I2, q2⟩ => ?_
      cases b with
      | true => exact ⟨y, H2, I2, r1, q2.1 rfl⟩
      | false => exact h2 pins s2 σ H2 Q I2 (q2.2 rfl)
theorem bopT_ok {X : Cx} {C : Sc} {E : XS} {pos : Pos} (op : BoolOp) (G : Gd X C) (hE : Thr X E) : ∀ (xs : List (EX X.K)) (e : Expr) (es : List Expr) (t : TT), PT X e t → qAs xs (rtOf X) → mAs xs C es = true → PW X (.BoolOp op (e :: es) pos) (tBopT X.K op E t xs)
  | [], e, [], t, he, _, _ => by
    cases op with
    | And => exact pw_and1 he
    | Or => exact pw_or1 he
  | [], e, _ :: _, t, he, _, hm => nomatch hm
  | x :: xs, e, [], t, he, _, hm => nomatch hm
  | x :: xs, e, e2 :: es, t, he, hq, hm => by
    have hm' : (x.m C e2 && mAs xs C es) = true := hm
    simp only [Bool.and_eq_true] at hm'
    have h2 := bopT_ok (pos := pos) op G hE xs e2 es (x.tt E) (x.okT X C E e2 rfl G hE hq.1 hm'.1) hq.2 hm'.2
    cases op with
    | And =>
      intro wh pins s σ H Q I h
      refine isTrue_and (thn (he pins s σ H _ I h) fun b s1 ⟨H1, I1, q1⟩ => ?_)
      cases b with
      | true => exact h2 wh pins s1 σ H1 Q I1 (q1.1 rfl)
      | false => exact ⟨H1, I1, q1.2 rfl⟩
    | Or =>
      intro wh pins s σ H Q I h
      refine isTrue_or (thn (he pins s σ H _ I h) fun b s1 ⟨H1, I1, q1⟩ => ?_)
      cases b with
      | true => exact ⟨H1, I1, q1.1 rfl⟩
      | false => exact h2 wh pins s1 σ H1 Q I1 (q1.2 rfl)
noncomputable def bop (op : BoolOp) (x : EX K) (xs : List (EX K)) : EX K where
  t := fun E => tBop K op E (x.t E) xs
  tt := fun E => tBopT K op E (x.tt E) xs
  m := fun C e => match e with
    | .BoolOp o (l :: ls) _ => decide (o = op) && (x.m C l && mAs xs C ls)
    | _ => false
  q := fun R => x.q R ∧ qAs xs R
  s := .pl
  ok := fun X C E e hK G hE hq hm => by
    subst hK
    cases e with
    | BoolOp o ls p =>
      cases ls with
      | nil => cases hm
      | cons l ls =>
        simp only [Bool.and_eq_true] at hm
        obtain ⟨h1, h2, h3⟩ := hm
        have e := of_decide_eq_true h1
        subst e
        exact bop_ok _ G hE xs l ls _ (x.ok X C E l rfl G hE hq.1 h2) hq.2 h3
    | _ => exact ff hm
  okT := fun X C E e hK G hE hq hm => by
    subst hK
    cases e with
    | BoolOp o ls p =>
      cases ls with
      | nil => cases hm
      | cons l ls =>
        simp only [Bool.and_eq_true] at hm
        obtain ⟨h1, h2, h3⟩ := hm
        have e := of_decide_eq_true h1
        subst e
        exact (bopT_ok _ G hE xs l ls _ (x.okT X C E l rfl G hE hq.1 h2) hq.2 h3).pt
    | _ => exact ff hm
  sok := fun C e hm => by cases e with | BoolOp o l p => rfl | _ => exact ff hm
noncomputable def andE (x : EX K) (xs : List (EX K)) : EX K := bop .And x xs
noncomputable def orE (x : EX K) (xs : List (EX K)) : EX K := bop .Or x xs
end
end L2.Na




namespace L2.Na
open PySem PySem.Spec PyProof.Rows L2 L2.L3
section
variable {K : PySem.W.Frag}
noncomputable def tAs : List (EX K) → XS → TA
  | [], _ => tNil
  | x :: xs, E => tCons (x.t E) (tAs xs E)
theorem mAs_cons {x : EX K} {xs : List (EX K)} {C : Sc} {e : Expr} {es : List Expr} (h : mAs (x :: xs) C (e :: es) = true) : x.m C e = true ∧ mAs xs C es = true := by
  have h' : (x.m C e && mAs xs C es) = true := h
  simpa only [Bool.and_eq_true] using h'
theorem as_ok {X : Cx} {C : Sc} {E : XS} (G : Gd X C) (hE : Thr X E) : ∀ (xs : List (EX X.K)) (es : List Expr), qAs xs (rtOf X) → mAs xs C es = true → PA X es (tAs xs E)
  | [], [], _, _ => pa_nil
  | [], _ :: _, _, hm => nomatch hm
  | _ :: _, [], _, hm => nomatch hm
  | x :: xs, e :: es, hq, hm => pa_cons (x.ok X C E e rfl G hE hq.1 (mAs_cons hm).1) (as_ok G hE xs es hq.2 (mAs_cons hm).2) (shp_star (x.sok C e (mAs_cons hm).1))
theorem as_plain {C : Sc} {env : Env} {pos : Pos} : ∀ (xs : List (EX K)) (es : List Expr), mAs xs C es = true → (backTo pos (starEach es env)).any (·.1) = false
  | [], [], _ => rfl
  | [], _ :: _, hm => nomatch hm
  | _ :: _, [], hm => nomatch hm
  | x :: xs, e :: es, hm => by
    rw [shp_star (x.sok C e (mAs_cons hm).1)]
    show (false || (backTo pos (starEach es env)).any (·.1)) = false
    rw [as_plain xs es (mAs_cons hm).2]
    rfl
theorem as_none {C : Sc} {env : Env} {pos : Pos} : ∀ (xs : List (EX K)) (es : List Expr), mAs xs C es = true → (backTo pos (starEach es env)).all (fun x => !x.1) = true
  | [], [], _ => rfl
  | [], _ :: _, hm => nomatch hm
  | _ :: _, [], hm => nomatch hm
  | x :: xs, e :: es, hm => by
    rw [shp_star (x.sok C e (mAs_cons hm).1)]
    show (true && (backTo pos (starEach es env)).all (fun x => !x.1)) = true
    rw [as_none xs es (mAs_cons hm).2]
    rfl
noncomputable def shA : List (EX K) → Shp
  | [] => .zc
  | _ => .pl
theorem shA_ok {C : Sc} {y : Str} {p q : Pos} : ∀ (xs : List (EX K)) (es : List Expr), mAs xs C es = true → shpOf (.Call (.Name y p) es [] q) = some (shA xs)
  | [], [], _ => rfl
  | [], _ :: _, hm => nomatch hm
  | _ :: _, [], hm => nomatch hm
  | _ :: _, _ :: _, _ => rfl

noncomputable def tCallS (sp : Sp) (E : XS) (t : TA) : TE := fun σ H Q => t σ H fun vs H1 => sp vs H1 Q (E σ)
theorem run_own {X : Cx} {E : XS} {k : Nat} {f : Addr} {fd : FuncData} {ps : List Str} {sp : Sp} {pins : List (Addr × Obj)} {σ : St} {H1 : Hp} {s1 : Shared} {Q1 : VK} {us : List Value} {vs : List V} (hE : Thr X E) (F : FnOk X.prog X.w X.K X.mg X.base (CXF X.prog X.w) k f fd ps sp)
    (room : Room k X.A) (bd : Binds X.K fd ps []) (I1 : Inv X pins σ H1 s1) (rl : Vals vs us) (pr : sp vs H1 Q1 (E σ)) : wpAny (model X.prog X.w) X.A (PySem.call (.ref f) us) (EP X pins σ Q1) X.xe s1 := by
  have ln : (us ++ []).length = ps.length := by rw [List.append_nil, ← rl.length]; exact F.len _ _ _ _ pr
  have b := bd s1 us I1.kIn ln
  rw [List.append_nil] at b
  refine wpAny_call (codeAny_mono (F.run X.A X.stack s1 H1 ⟨us, []⟩ us vs Q1 (E σ) room I1.env0 b rl pr) fun res s2 fin => ?_)
  cases res with
  | error ev => exact hE.pass pins σ H1 s1 ev s2 I1 fin
  | ok fl =>
    cases fl with
    | ret v => exact I1.after fin
    | next => exact fin.elim
    | brk => exact fin.elim
    | cont => exact fin.elim

noncomputable def call (x : Str) (sp : Sp) (as : List (EX K)) : EX K := mkE (fun E => tCallS sp E (tAs as E))
  (fun C e => match e with
    | .Call (.Name y _) es [] _ => glB C x y && mAs as C es
    | _ => false) (fun R => FnAt R x sp ∧ qAs as R) (shA as)
  (fun X C E e hK G hE hq hm => by
    subst hK
    cases e with
    | Call f es ks p =>
      cases f with
      | Name y py =>
        cases ks with
        | nil =>
          simp only [Bool.and_eq_true] at hm
          obtain ⟨h1, h2⟩ := hm
          have e := glB_eq h1
          subst e
          obtain ⟨g, d⟩ := glB_gl G h1
          obtain ⟨⟨k, f, fd, ps, hr, F, hb, kp, hg⟩, hqa⟩ := hq
          cases as with
          | nil =>
            cases es with
            | nil =>
              intro pins s σ H Q I h
              exact wpAny_Call_Name_kw (ld_glob I g hg (PySem.W.callWith_K0 I.kIn kp (run_own (us := []) hE F hr hb I .nil h)) d)
            | cons _ _ => cases h2
          | cons a as =>
            cases es with
            | nil => cases h2
            | cons e es =>
              intro pins s σ H Q I h
              exact wpAny_Call_Name_kw (ld_glob I g hg (PySem.W.callWith_K (h₀ := X.base) I.ok.mod.kin kp (thn (as_ok G hE (a :: as) (e :: es) hqa h2 p pins s σ H _ I h) fun us s1 ⟨vs, H1, I1, r, q⟩ => ⟨I1.kIn, run_own hE F hr hb I1 r q⟩) (shp_star (a.sok C e (mAs_cons h2).1)) (as_plain as es (mAs_cons h2).2)) d)
        | cons _ _ => cases hm
      | _ => exact ff hm
    | _ => exact ff hm)
  (fun C e hm => by
    cases e with
    | Call f es ks p =>
      cases f with
      | Name y py =>
        cases ks with
        | nil =>
          simp only [Bool.and_eq_true] at hm
          exact shA_ok as es hm.2
        | cons _ _ => cases hm
      | _ => exact ff hm
    | _ => exact ff hm)
  (fun C e hm => by cases e with | Call f es ks p => rfl | _ => exact ff hm)

noncomputable def bfn (x : Str) (id : String) (r : List V → Hp → VK → Prop) (ok : ∀ X : Cx, X.K = K → X.calm = true → X.A.units + 64 < cLine → CallR X (.builtin id) r) (hb : bootBuiltins x = some (.builtin id)) (hi : x ∈ blts) (hn : x ≠ "__name__") (a : EX K) (as : List (EX K)) : EX K :=
  mkE (fun E => tCB r (tAs (a :: as) E))
  (fun C e => match e with
    | .Call (.Name y _) es [] _ => glB C x y && mAs (a :: as) C es
    | _ => false) (fun R => qAs (a :: as) R) .pl
  (fun X C E e hK G hE hq hm => by
    subst hK
    cases e with
    | Call f es ks p =>
      cases f with
      | Name y py =>
        cases ks with
        | nil =>
          simp only [Bool.and_eq_true] at hm
          obtain ⟨h1, h2⟩ := hm
          have e := glB_eq h1
          subst e
          obtain ⟨g, d⟩ := glB_gl G h1
          cases es with
          | nil => cases h2
          | cons e es => exact pe_callB (ok X rfl G.calm G.hu) g (G.bl _ hi) hb (as_ok G hE (a :: as) (e :: es) hq h2) hn d (shp_star (a.sok C e (mAs_cons h2).1)) (as_plain as es (mAs_cons h2).2)
        | cons _ _ => cases hm
      | _ => exact ff hm
    | _ => exact ff hm)
  (fun C e hm => by
    cases e with
    | Call f es ks p =>
      cases f with
      | Name y py =>
        cases ks with
        | nil =>
          simp only [Bool.and_eq_true] at hm
          exact shA_ok (a :: as) es hm.2
        | cons _ _ => cases hm
      | _ => exact ff hm
    | _ => exact ff hm)
  (fun C e hm => by cases e with | Call f es ks p => rfl | _ => exact ff hm)

noncomputable def bfT (x : Str) (T : String) (r : List V → Hp → VK → Prop) (ok : ∀ X : Cx, X.K = K → X.calm = true → X.A.units + 64 < cLine → CallR X (.type T) r) (hb : bootBuiltins x = some (.type T)) (hi : x ∈ blts) (hn : x ≠ "__name__") (a : EX K) (as : List (EX K)) : EX K :=
  mkE (fun E => tCB r (tAs (a :: as) E))
  (fun C e => match e with
    | .Call (.Name y _) es [] _ => glB C x y && mAs (a :: as) C es
    | _ => false) (fun R => qAs (a :: as) R) .pl
  (fun X C E e hK G hE hq hm => by
    subst hK
    cases e with
    | Call f es ks p =>
      cases f with
      | Name y py =>
        cases ks with
        | nil =>
          simp only [Bool.and_eq_true] at hm
          obtain ⟨h1, h2⟩ := hm
          have e := glB_eq h1
          subst e
          obtain ⟨g, d⟩ := glB_gl G h1
          cases es with
          | nil => cases h2
          | cons e es => exact pe_callTy (ok X rfl G.calm G.hu) g (G.bl _ hi) hb (as_ok G hE (a :: as) (e :: es) hq h2) hn d (shp_star (a.sok C e (mAs_cons h2).1)) (as_plain as es (mAs_cons h2).2)
        | cons _ _ => cases hm
      | _ => exact ff hm
    | _ => exact ff hm)
  (fun C e hm => by
    cases e with
    | Call f es ks p =>
      cases f with
      | Name y py =>
        cases ks with
        | nil =>
          simp only [Bool.and_eq_true] at hm
          exact shA_ok (a :: as) es hm.2
        | cons _ _ => cases hm
      | _ => exact ff hm
    | _ => exact ff hm)
  (fun C e hm => by cases e with | Call f es ks p => rfl | _ => exact ff hm)


noncomputable def rLen (K : PySem.W.Frag) : List V → Hp → VK → Prop
  | [.str z], H, Q => z.length ≤ sizeLine ∧ Q (.int z.length) H
  | [.ref a], H, Q => (∃ n, LenV K (.ref a) H n ∧ Q (.int n) H) ∨ ∃ kvs, H a = some (.dK kvs) ∧ Q (.int kvs.length) H
  | _, _, _ => False
theorem callLenD {X : Cx} : CallR X (.builtin "len") (fun xs H Q => ∃ a kvs, xs = [V.ref a] ∧ H a = some (.dK kvs) ∧ Q (.int kvs.length) H) := by
  intro pins s σ H xs us Q I r h
  obtain ⟨a, kvs, rfl, ha, q⟩ := h
  obtain ⟨u, rfl, ru⟩ := vals1 r
  cases ru
  exact d_len I (.inl ha) fun t s' I' => ⟨.int kvs.length, H, I', ⟨t, rfl⟩, q⟩
theorem len_ok (X : Cx) : CallR X (.builtin "len") (rLen X.K) := by
  intro pins s σ H xs us Q I r h
  unfold rLen at h
  split at h
  · exact call_len pins s σ H _ us Q I r ⟨_, _, rfl, ⟨h.1, rfl⟩, h.2⟩
  · rcases h with ⟨n, h1, h2⟩ | ⟨kvs, h1, h2⟩
    · exact call_len pins s σ H _ us Q I r ⟨_, n, rfl, h1, h2⟩
    · exact callLenD pins s σ H _ us Q I r ⟨_, kvs, rfl, h1, h2⟩
  · exact h.elim
noncomputable def len (a : EX K) : EX K := bfn "len" "len" (rLen K) (fun X hK _ _ => by subst hK; exact len_ok X) PySem.boot_len (by decide +kernel) (by decide +kernel) a []
noncomputable def sum (a : EX K) : EX K := bfn "sum" "sum" rSum (fun X hK hc _ => call_sum hc) PyProof.Rows.Boot.sum (by decide +kernel) (by decide +kernel) a []
noncomputable def rMin2 : List V → Hp → VK → Prop
  | [.int i, .int j], H, Q => Q (.int (min i j)) H
  | _, _, _ => False
noncomputable def rMax2 : List V → Hp → VK → Prop
  | [.int i, .int j], H, Q => Q (.int (max i j)) H
  | _, _, _ => False
theorem min_ok {X : Cx} (hc : X.calm = true) : CallR X (.builtin "min") rMin2 := by
  intro pins s σ H xs us Q I r h
  unfold rMin2 at h
  split at h
  · rename_i i j
    refine call_min2 hc pins s σ H _ us Q I r ⟨i, j, rfl, ?_⟩
    have e : (if j < i then j else i) = min i j := by split <;> omega
    rw [e]; exact h
  · exact h.elim
theorem max_ok {X : Cx} (hc : X.calm = true) : CallR X (.builtin "max") rMax2 := by
  intro pins s σ H xs us Q I r h
  unfold rMax2 at h
  split at h
  · rename_i i j
    refine call_max2 hc pins s σ H _ us Q I r ⟨i, j, rfl, ?_⟩
    have e : (if j > i then j else i) = max i j := by split <;> omega
    rw [e]; exact h
  · exact h.elim
noncomputable def min2 (a b : EX K) : EX K := bfn "min" "min" rMin2 (fun X hK hc _ => min_ok hc) PyProof.Rows.Boot.min (by decide +kernel) (by decide +kernel) a [b]
noncomputable def max2 (a b : EX K) : EX K := bfn "max" "max" rMax2 (fun X hK hc _ => max_ok hc) PyProof.Rows.Boot.max (by decide +kernel) (by decide +kernel) a [b]

noncomputable def rIsiV (K : PySem.W.Frag) : List V → Hp → VK → Prop
  | [x, .ty n], H, Q => ∃ t b, TyOf K H x t ∧ PySem.W.kitOne K t (.type n) = some b ∧ Q (.bl b) H
  | _, _, _ => False
theorem isi_ok (X : Cx) : CallR X (.builtin "isinstance") (rIsiV X.K) := by
  intro pins s σ H xs us Q I r h
  unfold rIsiV at h
  split at h
  · obtain ⟨t, b, h1, h2, h3⟩ := h
    exact call_isi pins s σ H _ us Q I r ⟨_, _, t, b, rfl, h1, h2, h3⟩
  · exact h.elim
noncomputable def isi (a b : EX K) : EX K := bfn "isinstance" "isinstance" (rIsiV K) (fun X hK _ _ => by subst hK; exact isi_ok X) PyProof.Rows.Boot.isinstance (by decide +kernel) (by decide +kernel) a [b]
noncomputable def tyInt : EX K := bty "int" "int" PyProof.Rows.Boot.int (by decide +kernel) (by decide +kernel)
noncomputable def tyStr : EX K := bty "str" "str" PyProof.Rows.Boot.str (by decide +kernel) (by decide +kernel)
noncomputable def tyBool : EX K := bty "bool" "bool" PyProof.Rows.Boot.bool (by decide +kernel) (by decide +kernel)
noncomputable def tyList : EX K := bty "list" "list" PyProof.Rows.Boot.list (by decide +kernel) (by decide +kernel)
noncomputable def tyTuple : EX K := bty "tuple" "tuple" PyProof.Rows.Boot.tuple (by decide +kernel) (by decide +kernel)
noncomputable def rListOf (K : PySem.W.Frag) : List V → Hp → VK → Prop
  | [.ref p], H, Q => ∃ ys, (SqL K H p ys ∨ SqT K H p ys) ∧ ∀ l, H l = none → Q (.ref l) (upd H l (.lst ys))
  | _, _, _ => False
theorem list_ok (X : Cx) : CallR X (.type "list") (rListOf X.K) := by
  intro pins s σ H xs us Q I r h
  unfold rListOf at h
  split at h
  · obtain ⟨ys, h1, h2⟩ := h
    exact call_list_of pins s σ H _ us Q I r ⟨_, ys, rfl, h1, h2⟩
  · exact h.elim
noncomputable def listE (a : EX K) : EX K := bfT "list" "list" (rListOf K) (fun X hK _ _ => by subst hK; exact list_ok X) PyProof.Rows.Boot.list (by decide +kernel) (by decide +kernel) a []


theorem pe_bmG {X : Cx} {o : Expr} {es : List Expr} {to : TE} {name : Str} {apos cpos : Pos} {T id : String} {r : V → List V → Hp → VK → Prop} {RR : V → St → Hp → VK → Prop} {C : Sc} {E : XS} {xs : List (EX X.K)}
    (pa : PlainAttrs T) (slot : Slot T name id) (hty : typeOf (.builtin id) = pure (.type "method_descriptor")) (hm : MtR X id r) (ho : PE X o to) (ha : PA X es (tAs xs E))
    (hR : ∀ x σ H Q, RR x σ H Q → tyV X.K T x H ∧ tAs xs E σ H fun ys H2 => r x ys H2 Q)
    (hbase : attributeBase o name X.env (eval o X.env) = eval o X.env) (hx : mAs xs C es = true) (h30 : es.length < 30) (hline : (apos.endLine == cpos.line) = true) :
    PE X (.Call (.Attribute o name apos) es [] cpos) (fun σ H Q => to σ H fun x H1 => RR x σ H1 Q) := by
  intro pins s σ H Q I h
  cases es with
  | nil =>
    refine wpAny_Call_method0_late hbase hline (thn (ho pins s σ H _ I h) fun v s1 ⟨x, H1, I1, r1, q0⟩ => ?_)
    obtain ⟨ty, q1⟩ := hR x σ H1 Q q0
    obtain ⟨h1, h2⟩ := tyV_is I1 r1 ty
    cases xs with
    | nil => exact ⟨T, id, pa, slot, hty, h1, h2, Calls.callWith_builtin rfl (PySem.evalArgs_none (hm pins s1 σ H1 x [] v [] Q I1 r1 .nil q1))⟩
    | cons _ _ => cases hx
  | cons e es =>
    cases xs with
    | nil => cases hx
    | cons a as =>
      have hs := shp_star (env := X.env) (es := es) (a.sok C e (mAs_cons hx).1)
      have hplain := as_plain (env := X.env) (pos := cpos) as es (mAs_cons hx).2
      have hfew : ((backTo cpos (starEach (e :: es) X.env)).all (fun x => !x.1) && (backToKw cpos (keywordEach [] X.env)).all (fun x => x.1.isSome)
          && decide ((e :: es).length + ([] : List Keyword).length + (if ([] : List Keyword).isEmpty then 0 else 1) < 30)) = true := by
        rw [as_none (env := X.env) (pos := cpos) (a :: as) (e :: es) hx]
        have h30' : (e :: es).length + ([] : List Keyword).length + (if ([] : List Keyword).isEmpty then 0 else 1) < 30 := h30
        rw [decide_eq_true h30']
        rfl
      refine wpAny_Call_method_late hbase hfew hline rfl (thn (ho pins s σ H _ I h) fun v s1 ⟨x, H1, I1, r1, q0⟩ => ?_)
      obtain ⟨ty, q1⟩ := hR x σ H1 Q q0
      obtain ⟨h1, h2⟩ := tyV_is I1 r1 ty
      refine ⟨T, id, pa, slot, hty, h1, h2, ?_⟩
      have hA := ha cpos pins s1 σ H1 _ I1 q1
      rw [hs] at hA ⊢
      refine Calls.callWith_builtin (by show (false || (backTo cpos (starEach es X.env)).any (·.1)) = false; rw [hplain] <;> rfl) (Calls.evalArgs_plain ?_)
      exact thn hA fun us s2 ⟨vs, H2, I2, r2, q2⟩ => hm pins s2 σ H2 x vs v us Q I2 r1 r2 q2
noncomputable def methG (name : Str) (T id : String) (r : V → List V → Hp → VK → Prop) (RR : TA → V → St → Hp → VK → Prop) (pa : PlainAttrs T) (slot : Slot T name id) (hty : typeOf (.builtin id) = pure (.type "method_descriptor")) (ok : ∀ X : Cx, X.K = K → X.calm = true → X.A.units + 64 < cLine → MtR X id r)
    (hR : ∀ t x σ H Q, RR t x σ H Q → tyV K T x H ∧ t σ H fun ys H2 => r x ys H2 Q) (o : EX K) (ho : o.s ≠ .zc) (as : List (EX K)) : EX K := mkE (fun E σ H Q => o.t E σ H fun x H1 => RR (tAs as E) x σ H1 Q)
  (fun C e => match e with
    | .Call (.Attribute l y p) es [] p2 => (y == name && (p.endLine == p2.line && decide (es.length < 30))) && (o.m C l && mAs as C es)
    | _ => false) (fun R => o.q R ∧ qAs as R) .pl
  (fun X C E e hK G hE hq hm => by
    subst hK
    cases e with
    | Call f es ks p =>
      cases f with
      | Attribute l y py =>
        cases ks with
        | nil =>
          simp only [Bool.and_eq_true] at hm
          obtain ⟨⟨h1, h2, h3⟩, h4, h5⟩ := hm
          have e := eq_of_beq h1
          subst e
          exact pe_bmG pa slot hty (ok X rfl G.calm G.hu) (o.ok X C E l rfl G hE hq.1 h4) (as_ok G hE as es hq.2 h5) (hR _) (shp_base (o.sok C l h4) ho) h5 (of_decide_eq_true h3) h2
        | cons _ _ => cases hm
      | _ => exact ff hm
    | _ => exact ff hm)
  (fun C e hm => by
    cases e with
    | Call f es ks p =>
      cases f with
      | Attribute l y py => rfl
      | _ => exact ff hm
    | _ => exact ff hm)
  (fun C e hm => by cases e with | Call f es ks p => rfl | _ => exact ff hm)

noncomputable def RS (r : Str → List V → Hp → VK → Prop) (t : TA) : V → St → Hp → VK → Prop
  | .str z, σ, H, Q => t σ H fun ys H2 => r z ys H2 Q
  | _, _, _, _ => False
noncomputable def rS (r : Str → List V → Hp → VK → Prop) : V → List V → Hp → VK → Prop
  | .str z, ys, H, Q => r z ys H Q
  | _, _, _, _ => False
noncomputable def methS (name : Str) (id : String) (r : Str → List V → Hp → VK → Prop) (slot : Slot "str" name id) (hty : typeOf (.builtin id) = pure (.type "method_descriptor")) (ok : ∀ X : Cx, X.K = K → X.calm = true → X.A.units + 64 < cLine → MtR X id (rS r)) (o : EX K) (ho : o.s ≠ .zc) (as : List (EX K)) : EX K :=
  methG name "str" id (rS r) (RS r) PySem.F.plainAttrs_str slot hty ok (fun t x σ H Q h => by
    cases x with
    | str z => exact ⟨rfl, h⟩
    | _ => exact h.elim) o ho as

noncomputable def RL (K : PySem.W.Frag) (r : V → List V → Hp → VK → Prop) (t : TA) : V → St → Hp → VK → Prop
  | .ref p, σ, H, Q => (∃ xs, SqL K H p xs) ∧ t σ H fun ys H2 => r (.ref p) ys H2 Q
  | _, _, _, _ => False
noncomputable def methL (name : Str) (id : String) (r : V → List V → Hp → VK → Prop) (slot : Slot "list" name id) (hty : typeOf (.builtin id) = pure (.type "method_descriptor")) (ok : ∀ X : Cx, X.K = K → X.calm = true → X.A.units + 64 < cLine → MtR X id r) (o : EX K) (ho : o.s ≠ .zc) (as : List (EX K)) : EX K :=
  methG name "list" id r (RL K r) PySem.F.plainAttrs_list slot hty ok (fun t x σ H Q h => by
    cases x with
    | ref p => exact ⟨.inl ⟨rfl, h.1⟩, h.2⟩
    | _ => exact h.elim) o ho as


theorem ix_dict {X : Cx} (hu : X.A.units + 1 < cLine) : IxR X (fun x y H Q => ∃ a v, x = .ref a ∧ DGet H a y (some v) ∧ Q v H) := by
  intro value slice pins s σ H x y v u Q I rx ry h hs
  obtain ⟨a, z, rfl, g, q⟩ := h
  obtain rfl : v = Value.ref a := rx
  exact tail_any (dict_typeIs I g) PySem.F.slot_dict_getitem.lookup (d_getItem hu I g ry fun w' s3 I3 rw' => ⟨z, H, I3, rw', q⟩) hs
noncomputable def rIxU (K : PySem.W.Frag) : R2
  | .str z, .int i, H, Q => z.length ≤ sizeLine ∧ ∃ c, atI z.cps.toList i = some c ∧ Q (sgn c) H
  | .ref a, y, H, Q => rIxL K (.ref a) y H Q ∨ rIxT K (.ref a) y H Q ∨ ∃ v, DGet H a y (some v) ∧ Q v H
  | _, _, _, _ => False
theorem ix_ok {X : Cx} (hu : X.A.units + 1 < cLine) : IxR X (rIxU X.K) := by
  intro value slice pins s σ H x y v u Q I rx ry h hs
  unfold rIxU at h
  split at h
  · obtain ⟨h1, c, h2, h3⟩ := h
    exact ix_str value slice pins s σ H _ _ v u Q I rx ry ⟨_, _, c, rfl, rfl, h1, h2, h3⟩ hs
  · rcases h with h | h | ⟨z, h, q⟩
    · exact ix_list value slice pins s σ H _ _ v u Q I rx ry h hs
    · exact ix_tup value slice pins s σ H _ _ v u Q I rx ry h hs
    · exact ix_dict hu value slice pins s σ H _ _ v u Q I rx ry ⟨_, z, rfl, h, q⟩ hs
  · exact h.elim
noncomputable def ix (a b : EX K) : EX K := mkE2 (fun E => tOp (rIxU K) (a.t E) (b.t E))
  (fun C e => match e with
    | .Subscript l r _ => a.m C l && b.m C r
    | _ => false) (fun R => a.q R ∧ b.q R) .pl
  (fun X C E e hK G hE hq hm => by
    subst hK
    cases e with
    | Subscript l r p =>
      simp only [Bool.and_eq_true] at hm
      exact pe_ix (ix_ok (by have := G.hu; omega)) (a.ok X C E l rfl G hE hq.1 hm.1) (b.ok X C E r rfl G hE hq.2 hm.2) (shp_ix (b.sok C r hm.2))
    | _ => exact ff hm)
  (fun C e hm => by cases e with | Subscript l r p => exact ⟨rfl, rfl⟩ | _ => exact ff hm)
noncomputable def rO (QO : Option Int → Hp → Prop) : V → Hp → Prop
  | .int i, H => QO (some i) H
  | _, _ => False
noncomputable def tO (E : XS) : Option (EX K) → TO
  | none => tNoPart
  | some x => fun σ H Q => x.t E σ H (rO Q)
noncomputable def mO : Option (EX K) → Sc → Option Expr → Bool
  | none, _, none => true
  | some x, C, some e => x.m C e
  | _, _, _ => false
noncomputable def qO : Option (EX K) → Rt → Prop
  | none, _ => True
  | some x, R => x.q R
theorem o_ok {X : Cx} {C : Sc} {E : XS} (G : Gd X C) (hE : Thr X E) : ∀ (o : Option (EX X.K)) (e : Option Expr), qO o (rtOf X) → mO o C e = true → PO X e (tO E o)
  | none, none, _, _ => po_none
  | none, some _, _, hm => nomatch hm
  | some _, none, _, hm => nomatch hm
  | some x, some e, hq, hm => by
    intro pins s σ H Q I hw
    rw [evalPart_some]
    refine thn (x.ok X C E e rfl G hE hq hm pins s σ H _ I hw) fun u s1 ⟨y, H1, I1, r1, q1⟩ => ?_
    cases y with
    | int i =>
      obtain ⟨t, rfl⟩ := r1
      exact ⟨some i, H1, I1, .int i t, q1⟩
    | _ => exact q1.elim
noncomputable def rSlU (K : PySem.W.Frag) : V → Option Int → Option Int → Hp → VK → Prop
  | .str z, lo, hi, H, Q => z.length ≤ sizeLine ∧ Q (.str (Txt.slice z lo hi)) H
  | .ref a, lo, hi, H, Q => rSlL K (.ref a) lo hi H Q ∨ rSlT K (.ref a) lo hi H Q
  | _, _, _, _, _ => False
theorem sl_ok {X : Cx} : SlR X (rSlU X.K) := by
  intro pins s σ H x v vl vu lo hi sl Q I rx hs pl pu h
  unfold rSlU at h
  split at h
  · exact sl_str pins s σ H _ v vl vu _ _ sl Q I rx hs pl pu ⟨_, rfl, h.1, h.2⟩
  · rcases h with h | h
    · exact sl_list pins s σ H _ v vl vu _ _ sl Q I rx hs pl pu h
    · exact sl_tup pins s σ H _ v vl vu _ _ sl Q I rx hs pl pu h
  · exact h.elim
noncomputable def slc (a : EX K) (lo hi : Option (EX K)) : EX K := mkE2 (fun E => tSl (rSlU K) (a.t E) (tO E lo) (tO E hi))
  (fun C e => match e with
    | .Subscript l (.Slice x y none _) _ => a.m C l && (mO lo C x && mO hi C y)
    | _ => false) (fun R => a.q R ∧ qO lo R ∧ qO hi R) .pl
  (fun X C E e hK G hE hq hm => by
    subst hK
    cases e with
    | Subscript l r p =>
      cases r with
      | Slice x y z p2 =>
        cases z with
        | none =>
          simp only [Bool.and_eq_true] at hm
          exact pe_slice sl_ok (a.ok X C E l rfl G hE hq.1 hm.1) (o_ok G hE lo x hq.2.1 hm.2.1) (o_ok G hE hi y hq.2.2 hm.2.2)
        | some _ => cases hm
      | _ => exact ff hm
    | _ => exact ff hm)
  (fun C e hm => by cases e with | Subscript l r p => exact ⟨rfl, rfl⟩ | _ => exact ff hm)


noncomputable def lst (as : List (EX K)) : EX K := mkE2 (fun E => tLst (tAs as E))
  (fun C e => match e with
    | .List es _ => mAs as C es
    | _ => false) (fun R => qAs as R) .pl
  (fun X C E e hK G hE hq hm => by
    subst hK
    cases e with
    | List es p => exact pe_lst (as_ok G hE as es hq hm)
    | _ => exact ff hm)
  (fun C e hm => by cases e with | List es p => exact ⟨rfl, rfl⟩ | _ => exact ff hm)
noncomputable def tup (as : List (EX K)) : EX K := mkE2 (fun E => tTup (tAs as E))
  (fun C e => match e with
    | .Tuple es _ _ => mAs as C es
    | _ => false) (fun R => qAs as R) .pl
  (fun X C E e hK G hE hq hm => by
    subst hK
    cases e with
    | Tuple es k p => exact pe_tup (as_ok G hE as es hq hm)
    | _ => exact ff hm)
  (fun C e hm => by cases e with | Tuple es k p => exact ⟨rfl, rfl⟩ | _ => exact ff hm)
noncomputable def dct0 : EX K := mkE2 (fun _ => tDNew)
  (fun _ e => match e with
    | .Dict [] [] _ => true
    | _ => false) (fun _ => True) .pl
  (fun X C E e hK G hE hq hm => by
    cases e with
    | Dict ks vs p =>
      cases ks with
      | nil =>
        cases vs with
        | nil => exact pe_dnew
        | cons _ _ => cases hm
      | cons _ _ => cases hm
    | _ => exact ff hm)
  (fun C e hm => by cases e with | Dict es k p => exact ⟨rfl, rfl⟩ | _ => exact ff hm)
end
end L2.Na




namespace L2.Na
open PySem PySem.Spec PyProof.Rows L2 L2.L3
section
variable {K : PySem.W.Frag}

theorem shp_sole {e t : Expr} {line : Nat} {env : Env} {s : Shp} (h : shpOf e = some s) (hs : s ≠ .cp) : swapsWithSole [t] e line env = pure false := shp_swap (tgt := some t) h hs
structure IX (K : PySem.W.Frag) where
  t : XS → TI
  tm : Expr → Bool
  m : Sc → Expr → Bool
  q : Rt → Prop
  ok : ∀ (X : Cx) (C : Sc) (E : XS) (tg e : Expr), X.K = K → Gd X C → Thr X E → q (rtOf X) → tm tg = true → m C e = true → PI X tg e (t E)
  fs : ∀ (C : Sc) (e : Expr) (env : Env) (x : Value), m C e = true → foldedSetIterable e env x = pure x
noncomputable def rIter (K : PySem.W.Frag) : V → Hp → (It → Hp → Prop) → Prop
  | .str z, H, R => R (Its z) H
  | .ref a, H, R => ((∃ xs, SqL K H a xs) ∧ R (Itl K a) H) ∨ ((∃ xs, SqT K H a xs) ∧ R (Itt K a) H)
  | _, _, _ => False
theorem iter_run {X : Cx} {tg : Expr} {pins : List (Addr × Obj)} {s1 : Shared} {σ : St} {H1 : Hp} {x : V} {v : Value} {R : It → Hp → Prop} (I1 : Inv X pins σ H1 s1) (r1 : RelV x v) (q1 : rIter X.K x H1 R) :
    wpAny (model X.prog X.w) X.A (pyIter v) (PIE X pins σ tg R) X.xe s1 := by
  unfold rIter at q1
  split at q1
  · rename_i z
    obtain ⟨t, rfl⟩ := r1
    have fin : ∀ T : String, (T = "str_ascii_iterator" ∨ T = "str_iterator") → PIE X pins σ tg R (.ref s1.heap.objs.size) { s1 with heap := s1.heap.push { cls := .type T, data := .fields #[.str z t, .int 0 0] } } := fun T hT => by
      refine ⟨s1.heap.objs.size, [s1.heap.objs.size], _, _, H1, rfl, I1.kept (t' := s1.toks) fun b o e => Heap.get?_push_of_some _ e, turn_str z t _ T hT, ⟨_, Heap.get?_push_size _ rfl, rfl, rfl⟩, fun b hb => ?_, q1⟩
      have e : b = s1.heap.objs.size := by simpa using hb
      subst e
      exact I1.fpOk (Nat.le_refl _) (I1.hok.fresh (Nat.le_refl _))
    cases ha : z.cps.all (· < 128) with
    | true => exact wpAny_pyIter_ascii ha (fin _ (.inl rfl))
    | false => exact wpAny_pyIter_wide ha (fin _ (.inr rfl))
  · rename_i a
    cases (show v = Value.ref a from r1)
    rcases q1 with ⟨⟨xs, hq⟩, q⟩ | ⟨⟨xs, hq⟩, q⟩
    · obtain ⟨its, rv, p, hz⟩ := I1.list hq
      refine wpAny_pyIter_list p.isList ?_
      refine ⟨s1.heap.objs.size, [s1.heap.objs.size], _, _, H1, rfl, I1.kept (t' := s1.toks) fun b o e => Heap.get?_push_of_some _ e, turn_list a _, ⟨_, Heap.get?_push_size _ rfl, rfl, rfl⟩, fun b hb => ?_, q⟩
      have e : b = s1.heap.objs.size := by simpa using hb
      subst e
      exact I1.fpOk (Nat.le_refl _) (I1.hok.fresh (Nat.le_refl _))
    · obtain ⟨its, rv, p, hz⟩ := I1.tuple hq
      refine wpAny_pyIter_tuple (show s1.heap.IsTuple a its.toArray from p) ?_
      refine ⟨s1.heap.objs.size, [s1.heap.objs.size], _, _, H1, rfl, I1.kept (t' := s1.toks) fun b o e => Heap.get?_push_of_some _ e, turn_tuple a _, ⟨_, Heap.get?_push_size _ rfl, rfl, rfl⟩, fun b hb => ?_, q⟩
      have e : b = s1.heap.objs.size := by simpa using hb
      subst e
      exact I1.fpOk (Nat.le_refl _) (I1.hok.fresh (Nat.le_refl _))
  · exact q1.elim
noncomputable def iSeq (a : EX K) : IX K where
  t := fun E σ H R => a.t E σ H fun x H1 => rIter K x H1 R
  tm := fun _ => true
  m := a.m
  q := a.q
  ok := fun X C E tg e hK G hE hq _ hm => by
    subst hK
    intro pins s σ H R I h
    exact thn (a.ok X C E e rfl G hE hq hm pins s σ H _ I h) fun v s1 ⟨x, H1, I1, r1, q1⟩ => iter_run I1 r1 q1
  fs := fun C e env x hm => shp_fold (a.sok C e hm) x

noncomputable def rRng : List V → Hp → (It → Hp → Prop) → Prop
  | [.int j], H, R => (-(2 ^ 62) ≤ j ∧ j < 2 ^ 62) ∧ R (Itr 0 j.toNat) H
  | [.int i, .int j], H, R => (-(2 ^ 62) ≤ i ∧ i < 2 ^ 62 ∧ -(2 ^ 62) ≤ j ∧ j < 2 ^ 62) ∧ R (Itr i (j - i).toNat) H
  | _, _, _ => False
noncomputable def iRng (a : EX K) (as : List (EX K)) : IX K where
  t := fun E σ H R => tAs (a :: as) E σ H fun vs H1 => rRng vs H1 R
  tm := fun _ => true
  m := fun C e => match e with
    | .Call (.Name y _) es [] _ => glB C "range" y && mAs (a :: as) C es
    | _ => false
  q := fun R => qAs (a :: as) R
  ok := fun X C E tg e hK G hE hq _ hm => by
    subst hK
    cases e with
    | Call f es ks p =>
      cases f with
      | Name y py =>
        cases ks with
        | nil =>
          simp only [Bool.and_eq_true] at hm
          obtain ⟨h1, h2⟩ := hm
          have e := glB_eq h1
          subst e
          obtain ⟨g, d⟩ := glB_gl G h1
          cases es with
          | nil => cases h2
          | cons e es =>
            intro pins s σ H R I h
            refine Call_ (ld_blt I g (G.bl _ (by decide +kernel)) boot_range (PyProof.Rows.callWith_type1 (thn (as_ok G hE (a :: as) (e :: es) hq h2 p pins s σ H _ I h) fun us s1 ⟨vs, H1, I1, r1, q1⟩ => ?_) (shp_star (a.sok C e (mAs_cons h2).1)) (as_plain as es (mAs_cons h2).2)))
            replace q1 : rRng vs H1 R := q1
            unfold rRng at q1
            split at q1
            · cases r1 with
              | cons r rr =>
                cases rr
                obtain ⟨t, rfl⟩ := r
                exact call_range_1 (range_it I1 (by omega) (by omega) q1.1.1 q1.1.2 (by simpa using q1.2))
            · cases r1 with
              | cons r rr =>
                cases rr with
                | cons r' rr =>
                  cases rr
                  obtain ⟨t, rfl⟩ := r
                  obtain ⟨t', rfl⟩ := r'
                  exact call_range_2 (range_it I1 q1.1.1 q1.1.2.1 q1.1.2.2.1 q1.1.2.2.2 q1.2)
            · exact q1.elim
        | cons _ _ => cases hm
      | _ => exact ff hm
    | _ => exact ff hm
  fs := fun C e env x hm => by cases e with | Call f es ks p => rfl | _ => exact ff hm


noncomputable def rZip (K : PySem.W.Frag) : List V → Hp → (It → Hp → Prop) → Prop
  | [.ref p, .ref q], H, R => ((∃ xs, SqL K H p xs) ∧ ∃ ys, SqL K H q ys) ∧ R (Itz K p q) H
  | _, _, _ => False
noncomputable def iZip (a b : EX K) : IX K where
  t := fun E σ H R => tAs [a, b] E σ H fun vs H1 => rZip K vs H1 R
  tm := fun e => match e with
    | .Tuple _ _ _ => true
    | _ => false
  m := fun C e => match e with
    | .Call (.Name y _) es [] _ => glB C "zip" y && mAs [a, b] C es
    | _ => false
  q := fun R => qAs [a, b] R
  ok := fun X C E tg e hK G hE hq ht hm => by
    subst hK
    cases tg with
    | Tuple ts tk tp =>
      cases e with
      | Call f es ks p =>
        cases f with
        | Name y py =>
          cases ks with
          | nil =>
            simp only [Bool.and_eq_true] at hm
            obtain ⟨h1, h2⟩ := hm
            have e := glB_eq h1
            subst e
            obtain ⟨g, d⟩ := glB_gl G h1
            cases es with
            | nil => cases h2
            | cons e es =>
              intro pins s σ H R I h
              refine Call_ (ld_blt I g (G.bl _ (by decide +kernel)) boot_zip (PyProof.Rows.callWith_type1 (thn (as_ok G hE [a, b] (e :: es) hq h2 p pins s σ H _ I h) fun us s1 ⟨vs, H1, I1, r1, q1⟩ => ?_) (shp_star (a.sok C e (mAs_cons h2).1)) (as_plain [b] es (mAs_cons h2).2)))
              replace q1 : rZip X.K vs H1 R := q1
              unfold rZip at q1
              split at q1
              · rename_i p1 p2
                cases r1 with
                | cons r rr =>
                  cases rr with
                  | cons r' rr =>
                    cases rr
                    cases r
                    cases r'
                    obtain ⟨⟨⟨xs, hx⟩, ys, hy⟩, q⟩ := q1
                    obtain ⟨ia, ra, pa, _⟩ := I1.list hx
                    obtain ⟨ib, rb, pb, _⟩ := I1.list hy
                    refine call_zip_2 pa.isList pb.isList fun h' z1 z2 z3 z4 z5 z6 kp => ?_
                    refine wpAny_pyIter_zip (s := { s1 with heap := h' }) z1 ?_
                    have Z : ZApart (s1.heap.objs.size + 4) (s1.heap.objs.size + 2) (s1.heap.objs.size + 3) s1.heap.objs.size (s1.heap.objs.size + 1) := by constructor <;> simp <;> omega
                    have big : ∀ c ∈ [s1.heap.objs.size + 4, s1.heap.objs.size + 2, s1.heap.objs.size + 3, s1.heap.objs.size, s1.heap.objs.size + 1], s1.heap.objs.size ≤ c := by
                      intro c hc
                      simp only [List.mem_cons, List.not_mem_nil, or_false] at hc
                      omega
                    exact ⟨_, [s1.heap.objs.size + 4, s1.heap.objs.size + 2, s1.heap.objs.size + 3, s1.heap.objs.size, s1.heap.objs.size + 1], _, _, H1, rfl, I1.kept (t' := s1.toks) kp, turn_zip p1 p2 _ _ _ _ _ Z, ⟨z1, z2, ⟨_, _, z3⟩, z4, z5⟩, fun c hc => I1.fpOk (big c hc) (I1.hok.fresh (big c hc)), q⟩
              · exact q1.elim
          | cons _ _ => cases hm
        | _ => exact ff hm
      | _ => exact ff hm
    | _ => cases ht
  fs := fun C e env x hm => by cases e with | Call f es ks p => rfl | _ => exact ff hm


structure TX (K : PySem.W.Frag) where
  g : TG
  m : Sc → Expr → Bool
  ok : ∀ (X : Cx) (C : Sc) (e : Expr), X.K = K → Gd X C → m C e = true → PG X e g
noncomputable def stB (C : Sc) (i : Nat) (x : Str) : Bool := C.N[i]? == some x && (C.nm.lookup x == some .local || (C.nm.lookup x == some .cell && (C.fb || C.ow.contains x)))
theorem stB_ok {X : Cx} {C : Sc} {i : Nat} {x : Str} (G : Gd X C) (h : stB C i x = true) : X.N[i]? = some x ∧ Loc X.env.scope x ∧ (X.fn x = true ∨ X.env.scope.names.lookup x = some .local) := by
  unfold stB at h
  simp only [Bool.and_eq_true, Bool.or_eq_true] at h
  obtain ⟨h1, h2⟩ := h
  refine ⟨by rw [G.N]; exact eq_of_beq h1, ?_, ?_⟩
  · rcases h2 with h2 | ⟨h2, _⟩
    · exact .inl (by rw [G.nm]; exact eq_of_beq h2)
    · exact .inr (by rw [G.nm]; exact eq_of_beq h2)
  · rcases h2 with h2 | ⟨_, h2⟩
    · exact .inr (by rw [G.nm]; exact eq_of_beq h2)
    · rcases h2 with h2 | h2
      · exact .inl (G.fb h2 x)
      · exact .inl (G.ow x (List.contains_iff_mem.mp h2))
noncomputable def nam (i : Nat) : TX K where
  g := gName i
  m := fun C e => match e with
    | .Name x _ => stB C i x
    | _ => false
  ok := fun X C e hK G hm => by
    cases e with
    | Name x p =>
      obtain ⟨h1, h2, h3⟩ := stB_ok G hm
      exact pg_name (by rw [G.N]; exact G.nd) h1 h2 h3
    | _ => exact ff hm
noncomputable def gNs : List Nat → TGs
  | [] => gNil
  | i :: is => gCons (gName i) (gNs is)
noncomputable def mNs : List Nat → Sc → List Expr → Bool
  | [], _, [] => true
  | i :: is, C, .Name x _ :: es => stB C i x && mNs is C es
  | _, _, _ => false
theorem ns_ok {X : Cx} {C : Sc} (G : Gd X C) : ∀ (is : List Nat) (es : List Expr), mNs is C es = true → PGs X es (gNs is) ∧ (assignEach es X.env).length = is.length ∧ (assignEach es X.env).findIdx? (·.1) = none
  | [], [], _ => ⟨pgs_nil, rfl, rfl⟩
  | [], _ :: _, hm => nomatch hm
  | _ :: _, [], hm => nomatch hm
  | i :: is, e :: es, hm => by
    cases e with
    | Name x p =>
      have hm' : (stB C i x && mNs is C es) = true := hm
      simp only [Bool.and_eq_true] at hm'
      obtain ⟨h1, h2, h3⟩ := ns_ok G is es hm'.2
      obtain ⟨g1, g2, g3⟩ := stB_ok G hm'.1
      refine ⟨pgs_cons (pg_name (by rw [G.N]; exact G.nd) g1 g2 g3) h1 rfl, ?_, ?_⟩
      · show (assignEach es X.env).length + 1 = is.length + 1
        rw [h2]
      · show List.findIdx? (·.1) ((false, assign (.Name x p) X.env) :: assignEach es X.env) = none
        rw [List.findIdx?_cons, h3]
        rfl
    | _ => exact nomatch hm
noncomputable def unp (is : List Nat) : TX K where
  g := gTup K is.length (gNs is)
  m := fun C e => match e with
    | .Tuple es _ _ => mNs is C es
    | _ => false
  ok := fun X C e hK G hm => by
    subst hK
    cases e with
    | Tuple es k p =>
      obtain ⟨h1, h2, h3⟩ := ns_ok G is es hm
      exact pg_tup G.calm h1 h2 h3
    | _ => exact ff hm


structure SX (K : PySem.W.Frag) where
  t : XS → TS
  m : Sc → Stmt → Bool
  q : Rt → Prop
  ok : ∀ (X : Cx) (C : Sc) (E : XS) (s : Stmt), X.K = K → Gd X C → Thr X E → q (rtOf X) → m C s = true → PS X s (t E)
noncomputable def tSs : List (SX K) → XS → TS
  | [], _ => tNext
  | s :: ss, E => tSeq (s.t E) (tSs ss E)
noncomputable def mSs : List (SX K) → Sc → List Stmt → Bool
  | [], _, [] => true
  | s :: ss, C, e :: es => s.m C e && mSs ss C es
  | _, _, _ => false
noncomputable def qSs : List (SX K) → Rt → Prop
  | [], _ => True
  | s :: ss, R => s.q R ∧ qSs ss R
theorem ss_ok {X : Cx} {C : Sc} {E : XS} (G : Gd X C) (hE : Thr X E) : ∀ (xs : List (SX X.K)) (es : List Stmt), qSs xs (rtOf X) → mSs xs C es = true → PSs X es (tSs xs E)
  | [], [], _, _ => pss_nil
  | [], _ :: _, _, hm => nomatch hm
  | _ :: _, [], _, hm => nomatch hm
  | x :: xs, e :: es, hq, hm => by
    have hm' : (x.m C e && mSs xs C es) = true := hm
    simp only [Bool.and_eq_true] at hm'
    exact pss_cons (x.ok X C E e rfl G hE hq.1 hm'.1) (ss_ok G hE xs es hq.2 hm'.2)
noncomputable def set (i : Nat) (a : EX K) : SX K where
  t := fun E D σ H => a.t E σ H fun x H1 => D.nx (σ.set i (some x)) H1
  m := fun C s => match s with
    | .Assign [.Name x _] e _ => decide (a.s ≠ .cp) && (stB C i x && a.m C e)
    | _ => false
  q := a.q
  ok := fun X C E s hK G hE hq hm => by
    split at hm
    · rename_i x px e p
      simp only [Bool.and_eq_true] at hm
      obtain ⟨h1, h2, h3⟩ := hm
      obtain ⟨g1, g2, g3⟩ := stB_ok G h2
      exact ps_set (by rw [G.N]; exact G.nd) g1 g2 (a.ok X C E e hK G hE hq h3) (shp_swap (a.sok C e h3) (of_decide_eq_true h1)) g3
    · cases hm

noncomputable def setT (tg : TX K) (a : EX K) : SX K where
  t := fun E => tAsg (a.t E) tg.g
  m := fun C s => match s with
    | .Assign [.Tuple ts k p'] e _ => (match e with | .Tuple .. => false | _ => true) && (decide (a.s ≠ .cp) && (tg.m C (.Tuple ts k p') && a.m C e))
    | _ => false
  q := a.q
  ok := fun X C E s hK G hE hq hm => by
    split at hm
    · rename_i ts k p' e p
      simp only [Bool.and_eq_true] at hm
      obtain ⟨h0, h1, h2, h3⟩ := hm
      refine ps_asg (a.ok X C E e hK G hE hq h3) (tg.ok X C _ hK G h2) (shp_sole (a.sok C e h3) (of_decide_eq_true h1)) ?_ rfl
      cases e with
      | Tuple _ _ _ => cases h0
      | _ => rfl
    · cases hm
noncomputable def rPut (o i v : V) (H : Hp) (Q : Hp → Prop) : Prop := rSetL o i v H Q ∨ ∃ a H', o = .ref a ∧ DPut H a i v H' ∧ Q H'
theorem put_ok {X : Cx} (hu : X.A.units + 1 < cLine) : PSet X rPut := by
  intro pins s σ H o i v ov iv u Q I ro ri rv h
  rcases h with h | ⟨a, H', rfl, g, q⟩
  · exact set_list pins s σ H o i v ov iv u Q I ro ri rv h
  · obtain rfl : ov = Value.ref a := ro
    exact d_setItem hu I g ri rv fun s4 I4 => ⟨H', I4, q⟩

noncomputable def put (o i a : EX K) : SX K where
  t := fun E D σ H => a.t E σ H fun x H1 => o.t E σ H1 fun y H2 => i.t E σ H2 fun z H3 => rPut y z x H3 fun H4 => D.nx σ H4
  m := fun C s => match s with
    | .Assign [.Subscript l r _] e _ => decide (a.s ≠ .cp) && ((match r with | .Slice .. => false | _ => true) && (o.m C l && (i.m C r && a.m C e)))
    | _ => false
  q := fun R => o.q R ∧ i.q R ∧ a.q R
  ok := fun X C E s hK G hE hq hm => by
    split at hm
    · rename_i l r p' e p
      simp only [Bool.and_eq_true] at hm
      obtain ⟨h1, h0, h2, h3, h4⟩ := hm
      refine ps_asg (a.ok X C E e hK G hE hq.2.2 h4) (pg_sub (o.ok X C E l hK G hE hq.1 h2) (i.ok X C E r hK G hE hq.2.1 h3) (put_ok (by have := G.hu; omega)) ?_) (shp_sole (a.sok C e h4) (of_decide_eq_true h1)) ?_ rfl
      · intro v
        cases r with
        | Slice _ _ _ _ => cases h0
        | _ => rfl
      · cases e <;> rfl
    · cases hm
noncomputable def ex (a : EX K) : SX K where
  t := fun E D σ H => a.t E σ H fun _ H1 => D.nx σ H1
  m := fun C s => match s with
    | .Expr e _ => decide (a.s ≠ .cp) && a.m C e
    | _ => false
  q := a.q
  ok := fun X C E s hK G hE hq hm => by
    cases s with
    | Expr e p =>
      simp only [Bool.and_eq_true] at hm
      exact ps_expr (a.ok X C E e hK G hE hq hm.2) (shp_swap (a.sok C e hm.2) (of_decide_eq_true hm.1))
    | _ => exact ff hm
noncomputable def ret (a : EX K) : SX K where
  t := fun E D σ H => a.t E σ H D.rt
  m := fun C s => match s with
    | .Return (some e) _ => a.m C e
    | _ => false
  q := a.q
  ok := fun X C E s hK G hE hq hm => by
    cases s with
    | Return o p =>
      cases o with
      | some e => exact ps_ret (a.ok X C E e hK G hE hq hm)
      | none => cases hm
    | _ => exact ff hm
noncomputable def ifS (c : EX K) (t f : List (SX K)) : SX K where
  t := fun E D σ H => c.tt E σ H fun b H1 => br b (tSs t E D σ H1) (tSs f E D σ H1)
  m := fun C s => match s with
    | .If e x y _ => c.m C e && (mSs t C x && mSs f C y)
    | _ => false
  q := fun R => c.q R ∧ qSs t R ∧ qSs f R
  ok := fun X C E s hK G hE hq hm => by
    subst hK
    cases s with
    | If e x y p =>
      simp only [Bool.and_eq_true] at hm
      obtain ⟨h1, h2, h3⟩ := hm
      intro pins s σ H D I h
      refine wpAny_If (thn (c.okT X C E e rfl G hE hq.1 h1 pins s σ H _ I h) fun d s1 ⟨H1, I1, q1⟩ => ?_)
      cases d with
      | true => exact ss_ok G hE t x hq.2.1 h2 pins s1 σ H1 D I1 (q1.1 rfl)
      | false => exact ss_ok G hE f y hq.2.2 h3 pins s1 σ H1 D I1 (q1.2 rfl)
    | _ => exact ff hm
noncomputable def forS (tg : TX K) (it : IX K) (b : List (SX K)) : SX K where
  t := fun E => tFor (it.t E) tg.g (tSs b E)
  m := fun C s => match s with
    | .For x e y [] _ => it.tm x && (tg.m C x && (it.m C e && mSs b C y))
    | _ => false
  q := fun R => it.q R ∧ qSs b R
  ok := fun X C E s hK G hE hq hm => by
    subst hK
    cases s with
    | For x e y z p =>
      cases z with
      | nil =>
        simp only [Bool.and_eq_true] at hm
        obtain ⟨h0, h1, h2, h3⟩ := hm
        exact ps_for hE.own G.calm (it.ok X C E x e rfl G hE hq.1 h0 h2) (tg.ok X C x rfl G h1) (ss_ok G hE b y hq.2 h3) (fun v => it.fs C e X.env v h2)
      | cons _ _ => cases hm
    | _ => exact ff hm
noncomputable def tWh (c : TT) (tb : TS) : TS := fun D σ H => ∃ W : Nat → St → Hp → Prop, (∃ m, W m σ H) ∧ ∀ m σ H, W m σ H →
  c σ H fun b H1 => br b (∃ N : St → Hp → Prop, (∀ σ' H', N σ' H' → ∃ m', m' < m ∧ W m' σ' H') ∧ tb { D with nx := N, ct := N, bk := D.nx } σ H1) (D.nx σ H1)
theorem ps_wh {X : Cx} {c : Expr} {body : List Stmt} {tc : TT} {tb : TS} {pos : Pos} (hp : PassesOwn (model X.prog X.w) X.A X.env X.xe) (hc : PT X c tc) (hb : PSs X body tb) : PS X (.While c body [] pos) (tWh tc tb) := by
  intro pins s σ H D I h
  obtain ⟨W, ⟨m0, w0⟩, turn⟩ := h
  refine wpAny_While (codeAny_whileLoop (fun n s' => ∃ σ' H', Inv X pins σ' H' s' ∧ W n σ' H') ?_ m0 ⟨σ, H, I, w0⟩)
  rintro n s1 ⟨σ1, H1, I1, w1⟩
  refine wpAny_passesOwn hp (thn (hc pins s1 σ1 H1 _ I1 (turn n σ1 H1 w1)) fun b s2 ⟨H2, I2, q2⟩ => ?_)
  cases b with
  | true =>
    obtain ⟨N, hN, q2⟩ := q2.1 rfl
    rw [if_pos rfl]
    refine wpAny_passesOwn hp (thn (hb pins s2 σ1 H2 _ I2 q2) fun f s3 q3 => ?_)
    cases f with
    | next =>
      obtain ⟨σ3, H3, I3, n3⟩ := q3
      obtain ⟨m', hm, w3⟩ := hN σ3 H3 n3
      exact ⟨m', hm, σ3, H3, I3, w3⟩
    | cont =>
      obtain ⟨σ3, H3, I3, n3⟩ := q3
      obtain ⟨m', hm, w3⟩ := hN σ3 H3 n3
      exact ⟨m', hm, σ3, H3, I3, w3⟩
    | brk => exact q3
    | ret v => exact q3
  | false =>
    rw [if_neg Bool.false_ne_true]
    exact wpAny_execs_nil ⟨σ1, H2, I2, q2.2 rfl⟩
noncomputable def whS (c : EX K) (b : List (SX K)) : SX K where
  t := fun E => tWh (c.tt E) (tSs b E)
  m := fun C s => match s with
    | .While e y [] _ => c.m C e && mSs b C y
    | _ => false
  q := fun R => c.q R ∧ qSs b R
  ok := fun X C E s hK G hE hq hm => by
    subst hK
    cases s with
    | While e y z p =>
      cases z with
      | nil =>
        simp only [Bool.and_eq_true] at hm
        exact ps_wh hE.own (c.okT X C E e rfl G hE hq.1 hm.1) (ss_ok G hE b y hq.2 hm.2)
      | cons _ _ => cases hm
    | _ => exact ff hm

noncomputable def relab (nm names : List (Str × NameKind)) : List (Str × NameKind) := names.map fun (n, k) => if (k == NameKind.free && nm.lookup n == some .cell) then (n, NameKind.cell) else (n, k)
noncomputable def capB (C : Sc) (sc : Scope) : List Str → List Nat → Bool
  | [], [] => true
  | x :: xs, i :: is => (C.N[i]? == some x && (C.nm.lookup x == some .cell && sc.names.lookup x == some .free)) && capB C sc xs is
  | _, _ => false
theorem capB_ok {X : Cx} {C : Sc} {sc : Scope} (G : Gd X C) : ∀ (xs : List Str) (is : List Nat), capB C sc xs is = true → Cap X sc xs is
  | [], [], _ => .nil
  | [], _ :: _, h => nomatch h
  | _ :: _, [], h => nomatch h
  | x :: xs, i :: is, h => by
    have h' : ((C.N[i]? == some x && (C.nm.lookup x == some .cell && sc.names.lookup x == some .free)) && capB C sc xs is) = true := h
    simp only [Bool.and_eq_true] at h'
    obtain ⟨⟨h1, h2, h3⟩, h4⟩ := h'
    exact .cons (by rw [G.N]; exact eq_of_beq h1) (by show X.env.scope.names.lookup x = _; rw [G.nm]; exact eq_of_beq h2) (eq_of_beq h3) (capB_ok G xs is h4)
noncomputable def compB (C : Sc) (sc : Scope) (own caps : List Str) (is : List Nat) : Bool :=
  (decide (sc.kind = .function) && decide (own ++ caps).Nodup) && ((sc.names.all fun y => y.2 != .cell || sc.names.lookup y.1 == some .cell) && ((sc.names.all fun y => y.2 != .free || C.nm.lookup y.1 == some .cell) && ((sc.names.all fun y => y.2 != .local || sc.names.lookup y.1 == some .local) && capB C sc caps is)))
theorem clos_loop (env : Env) : ∀ (names : List (Str × NameKind)) (acc : List (Str × Addr)), (∀ y ∈ names, y.2 = .free → ∃ c, env.cells.lookup y.1 = some c) →
    (forIn names acc (fun (x : Str × NameKind) (r : List (Str × Addr)) => (if (x.2 == NameKind.free) = true then (do let c ← cellOf env x.1; pure (ForInStep.yield ((x.1, c) :: r))) else pure (ForInStep.yield r) : Sem (ForInStep (List (Str × Addr)))))) =
      (pure (((names.filter fun x => x.2 == .free).filterMap fun x => (env.cells.lookup x.1).map fun c => (x.1, c)).reverse ++ acc) : Sem (List (Str × Addr)))
  | [], acc, _ => rfl
  | (n, k) :: r, acc, h => by
    have ih := fun acc' => clos_loop env r acc' fun y hy => h y (List.mem_cons_of_mem _ hy)
    rw [List.forIn_cons]
    cases hk : (k == NameKind.free) with
    | false =>
      rw [if_neg Bool.false_ne_true]
      have e : ((n, k) :: r).filter (fun x => x.2 == NameKind.free) = r.filter (fun x => x.2 == NameKind.free) := by rw [List.filter_cons, if_neg (by show ¬ (k == NameKind.free) = true; rw [hk]; exact Bool.false_ne_true)]
      rw [e]
      exact ih acc
    | true =>
      rw [if_pos rfl]
      obtain ⟨c, hc⟩ := h (n, k) List.mem_cons_self (eq_of_beq hk)
      have e : ((n, k) :: r).filter (fun x => x.2 == NameKind.free) = (n, k) :: r.filter (fun x => x.2 == NameKind.free) := by rw [List.filter_cons, if_pos (by show (k == NameKind.free) = true; exact hk)]
      have hcell : cellOf env n = pure c := by
        unfold cellOf
        rw [hc]
      rw [e, List.filterMap_cons, hcell]
      have hc' : (env.cells.lookup n) = some c := hc
      simp only [hc', Option.map_some, List.reverse_cons, List.append_assoc, List.singleton_append]
      exact ih ((n, c) :: acc)
theorem clos_ok {X : Cx} {sc : Scope} (ok : X.Ok) (hfr : (sc.names.all fun y => y.2 != .free || X.env.kindOf y.1 == some .cell) = true) : closureFor sc X.env = pure (clOf sc.names X.env) := by
  have h := clos_loop X.env sc.names [] fun y hy hf => by
    have z := List.all_eq_true.mp hfr y hy
    simp only [Bool.or_eq_true] at z
    rcases z with z | z
    · rw [hf] at z; cases z
    · exact ok.has y.1 (.inl (eq_of_beq z))
  rw [List.append_nil] at h
  have h3 : closureFor sc X.env = (forIn sc.names ([] : List (Str × Addr)) (fun (x : Str × NameKind) (r : List (Str × Addr)) => (if (x.2 == NameKind.free) = true then (do let c ← cellOf X.env x.1; pure (ForInStep.yield ((x.1, c) :: r))) else pure (ForInStep.yield r) : Sem (ForInStep (List (Str × Addr))))) >>= fun r => pure r) := rfl
  rw [h3, h]
  rfl
noncomputable def owOf (names : List (Str × NameKind)) : List Str := (names.filter fun y => names.lookup y.1 == some .cell).map (·.1)
theorem blk_gd {X : Cx} {C : Sc} {own caps : List Str} {sc : Scope} {Ca : Addr} {s₀ : Shared} {H₀ : Hp} {ex : List Addr} (G : Gd X C) (hk : X.env.scope.kind = .function) (hnd : (own ++ caps).Nodup) : Gd (blk X (own ++ caps) sc Ca s₀ H₀ ex) ⟨own ++ caps, relab C.nm sc.names, .own (owOf sc.names)⟩ where
  N := rfl
  nm := by
    show (sc.names.map fun (n, k) => if (k == NameKind.free && X.env.scope.kind == .function && X.env.kindOf n == some .cell) then (n, NameKind.cell) else (n, k)) = relab C.nm sc.names
    unfold relab
    rw [hk]
    show (sc.names.map fun (n, k) => if (k == NameKind.free && true && X.env.scope.names.lookup n == some NameKind.cell) then (n, NameKind.cell) else (n, k)) = _
    rw [G.nm]
    simp only [Bool.and_true]
  nd := hnd
  calm := G.calm
  bl := G.bl
  top := fun z => nomatch z
  hu := G.hu
  fb := fun h => nomatch h
  ow := fun x hx => by
    obtain ⟨y, hy, rfl⟩ := List.mem_map.mp (show x ∈ owOf sc.names from hx)
    exact (List.mem_filter.mp hy).2
theorem thr0 {X : Cx} (h : X.xe = fun _ _ => False) : Thr X E0 := ⟨fun _ _ _ _ _ _ _ z => (CXF.no z).elim, fun _ _ _ _ _ _ _ _ _ _ _ _ _ _ _ _ _ _ _ z => z.elim, by rw [h]; exact PassesOwn.never⟩

structure CPX (K : PySem.W.Frag) where
  t : XS → TE
  m : Sc → Expr → Bool
  q : Rt → Prop
  sok : ∀ (C : Sc) (e : Expr), m C e = true → shpOf e = some .cp ∧ tstOf e = true
  ok : ∀ (X : Cx) (C : Sc) (E : XS) (e : Expr), X.K = K → Gd X C → Thr X E → q (rtOf X) → m C e = true → PE X e (t E)
  okS : ∀ (X : Cx) (C : Sc) (E : XS) (i : Nat) (x : Str) (p' pos : Pos) (e : Expr), X.K = K → Gd X C → Thr X E → q (rtOf X) → m C e = true → stB C i x = true → PS X (.Assign [.Name x p'] e pos) (fun D σ H => t E σ H fun v H1 => D.nx (σ.set i (some v)) H1)
noncomputable def cT (c : Option (EX K)) : TT := match c with
  | none => fun _ H Q => Q true H
  | some c => c.tt E0
noncomputable def mC (c : Option (EX K)) (C : Sc) (ifs : List Expr) : Bool := match c, ifs with
  | none, [] => true
  | some c, [e] => c.m C e
  | _, _ => false
noncomputable def qC (c : Option (EX K)) (R : Rt) : Prop := match c with
  | none => True
  | some c => c.q R
theorem tests_ok {X : Cx} {C : Sc} (G : Gd X C) (hE : Thr X E0) : ∀ (c : Option (EX X.K)) (ifs : List Expr), qC c (rtOf X) → mC c C ifs = true → Tests X ifs (cT c)
  | none, [], _, _ => .nil
  | none, _ :: _, _, hm => nomatch hm
  | some _, [], _, hm => nomatch hm
  | some c, [e], hq, hm => .one (c.okT X C E0 e rfl G hE hq hm)
  | some _, _ :: _ :: _, _, hm => nomatch hm
noncomputable def mCp (c : Option (EX K)) (elt : EX K) (tg : TX K) (it : IX K) (own caps : List Str) (is : List Nat) (C : Sc) (e : Expr) : Bool := match e with
  | .ListComp l [⟨x, y, ifs, asy⟩] sc _ => (decide (asy = 0) && it.tm x) && (compB C sc own caps is && (it.m C y && (tg.m ⟨own ++ caps, relab C.nm sc.names, .own (owOf sc.names)⟩ x && (mC c ⟨own ++ caps, relab C.nm sc.names, .own (owOf sc.names)⟩ ifs && elt.m ⟨own ++ caps, relab C.nm sc.names, .own (owOf sc.names)⟩ l))))
  | _ => false
theorem cp_run {X : Cx} {C : Sc} {E : XS} {e : Expr} {c : Option (EX X.K)} {elt : EX X.K} {tg : TX X.K} {it : IX X.K} {own caps : List Str} {is : List Nat} (G : Gd X C) (hE : Thr X E) (hq : it.q (rtOf X) ∧ elt.q (rtOf X) ∧ qC c (rtOf X)) (hm : mCp c elt tg it own caps is C e = true) :
    ∃ l x y ifs sc p, e = .ListComp l [⟨x, y, ifs, 0⟩] sc p ∧ ∀ (use : Option (Value → Sem Unit)) (p2 : Pos) (pins : List (Addr × Obj)) (s : Shared) (σ : St) (H : Hp) (Q : VK) (QQ : Value → Shared → Prop), Inv X pins σ H s → tCompI (it.t E) tg.g (cT c) (elt.t E0) own.length is σ H Q →
      (∀ (D C : Addr) (H' : Hp) (s' : Shared) (m : Str → Option Value), Inv X pins σ H' s' → s'.heap.Ns C m → H' C = none → X.s₀.heap.objs.size ≤ C → X.env.locals ≠ C → (∀ x c, X.env.cells.lookup x = some c → c ≠ C) → (∀ p ∈ X.pn ++ pins, p.1 ≠ C) → Q (.ref D) H' →
        compPost (model X.prog X.w) X.A X.xe use QQ (.ref D) C (.ok .next) s') →
      wpAny (model X.prog X.w) X.A (comprehension (.ListComp l [⟨x, y, ifs, 0⟩] sc p) sc X.env p2 (newList []) false (eval y X.env) use) QQ X.xe s := by
  unfold mCp at hm
  cases e with
  | ListComp l gs sc p =>
    match gs, hm with
    | [⟨x, y, ifs, asy⟩], hm =>
      simp only [Bool.and_eq_true] at hm
      obtain ⟨⟨h1, h0⟩, h2, h3, h4, h6, h5⟩ := hm
      have e1 := of_decide_eq_true h1
      subst e1
      unfold compB at h2
      simp only [Bool.and_eq_true] at h2
      obtain ⟨⟨k1, k2⟩, k3, k4, k5, k6⟩ := h2
      have k4' : (sc.names.all fun y => y.2 != .free || X.env.kindOf y.1 == some .cell) = true := by
        show (sc.names.all fun y => y.2 != .free || X.env.scope.names.lookup y.1 == some .cell) = true
        rw [G.nm]; exact k4
      refine ⟨l, x, y, ifs, sc, p, rfl, fun use p2 pins s σ H Q QQ I h fin => ?_⟩
      have hg := fun Ca s₀ H₀ ex => blk_gd (own := own) (caps := caps) (sc := sc) (Ca := Ca) (s₀ := s₀) (H₀ := H₀) (ex := ex) G I.ok.kind (of_decide_eq_true k2)
      refine comp_core (own := own) (caps := caps) (is := is) use G.calm (it.ok X C E x y rfl G hE hq.1 h0 h3) (fun Ca s₀ H₀ ex => tg.ok _ _ x rfl (hg Ca s₀ H₀ ex) h4)
        (fun Ca s₀ H₀ ex => tests_ok (X := blk X (own ++ caps) sc Ca s₀ H₀ ex) (hg Ca s₀ H₀ ex) (thr0 rfl) c ifs hq.2.2 h6) (fun Ca s₀ H₀ ex => elt.ok _ _ E0 l rfl (hg Ca s₀ H₀ ex) (thr0 rfl) hq.2.1 h5) (capB_ok G caps is k6) (of_decide_eq_true k1)
        (fun z hz => ?_) k4' (clos_ok I.ok k4') (fun z hz hl => ?_) (fun v => it.fs C y X.env v h3) I h fin
      · have := List.all_eq_true.mp k3 z hz
        simp only [Bool.or_eq_true] at this
        intro hl
        rcases this with q | q
        · rw [hl] at q; cases q
        · exact eq_of_beq q
      · have := List.all_eq_true.mp k5 z hz
        simp only [Bool.or_eq_true] at this
        rcases this with q | q
        · rw [hl] at q; cases q
        · exact eq_of_beq q
  | _ => exact ff hm
theorem cp_pe {X : Cx} {C : Sc} {E : XS} {e : Expr} {c : Option (EX X.K)} {elt : EX X.K} {tg : TX X.K} {it : IX X.K} {own caps : List Str} {is : List Nat} (G : Gd X C) (hE : Thr X E) (hq : it.q (rtOf X) ∧ elt.q (rtOf X) ∧ qC c (rtOf X)) (hm : mCp c elt tg it own caps is C e = true) :
    PE X e (tCompI (it.t E) tg.g (cT c) (elt.t E0) own.length is) := by
  obtain ⟨l, x, y, ifs, sc, p, rfl, R⟩ := cp_run G hE hq hm
  intro pins s σ H Q I h
  rw [eval_ListComp]
  refine R none _ pins s σ H Q _ I h fun D C H' s' m I' hn hC h1 h2 h3 h4 q => ?_
  exact ⟨m, hn, fun h' hs' => ⟨.ref D, H', Inv.but I' hs' h1 h2 h3 h4 hC, rfl, q⟩⟩
theorem cp_ps {X : Cx} {C : Sc} {E : XS} {e : Expr} {i : Nat} {nm : Str} {p' pos : Pos} {c : Option (EX X.K)} {elt : EX X.K} {tg : TX X.K} {it : IX X.K} {own caps : List Str} {is : List Nat} (G : Gd X C) (hE : Thr X E) (hq : it.q (rtOf X) ∧ elt.q (rtOf X) ∧ qC c (rtOf X)) (hm : mCp c elt tg it own caps is C e = true) (hst : stB C i nm = true) :
    PS X (.Assign [.Name nm p'] e pos) (fun D σ H => tCompI (it.t E) tg.g (cT c) (elt.t E0) own.length is σ H fun v H1 => D.nx (σ.set i (some v)) H1) := by
  have P := cp_pe G hE hq hm
  obtain ⟨g1, g2, g3⟩ := stB_ok G hst
  have nd : X.N.Nodup := by rw [G.N]; exact G.nd
  obtain ⟨l, x, y, ifs, sc, p, rfl, R⟩ := cp_run G hE hq hm
  obtain ⟨b, hb⟩ : ∃ b : Bool, swapsWith (.ListComp l [⟨x, y, ifs, 0⟩] sc p) (some (.Name nm p')) pos.line X.env = pure b := ⟨_, rfl⟩
  cases b with
  | false => exact ps_set nd g1 g2 P hb g3
  | true =>
    intro pins s σ H D I h
    rw [exec_Assign_Name_used _ _ _ _ hb]
    refine wpAny_bind (wpAny_standAt (wpAny_bind ?_))
    show wpAny _ _ (do let _ ← comprehension (.ListComp l [⟨x, y, ifs, 0⟩] sc p) sc X.env _ (newList []) false (eval y X.env) (some (assign (.Name nm p') X.env))) _ _ s
    refine wpAny_bind (wpAny_mono (R (some (assign (.Name nm p') X.env)) _ pins s σ H _ (fun _ s' => SP X pins D .next s') I h fun A C H' s' m I' hn hC h1 h2 h3 h4 q => ?_) (fun _ s' hq => wpAny_pure (wpAny_pure hq)) fun _ _ z => z)
    show wpAny _ _ (assign (.Name nm p') X.env (.ref A)) _ _ s'
    refine wpAny_assign_Name (store_ok2 I' nd g1 g2 (v := .ref A) rfl (fun s'' I'' ⟨a, sb, ha⟩ => ?_) g3)
    have hne : C ≠ a := by
      rcases ha with ha | ha
      · rw [ha]; exact h2.symm
      · exact (h3 _ _ ha).symm
    exact ⟨m, hn.sameBut sb hne, fun h' hs' => ⟨_, H', Inv.but I'' hs' h1 h2 h3 h4 hC, q⟩⟩
noncomputable def compC (c : Option (EX K)) (elt : EX K) (tg : TX K) (it : IX K) (own caps : List Str) (is : List Nat) : CPX K where
  t := fun E => tCompI (it.t E) tg.g (cT c) (elt.t E0) own.length is
  m := mCp c elt tg it own caps is
  q := fun R => it.q R ∧ elt.q R ∧ qC c R
  sok := fun C e hm => by
    unfold mCp at hm
    cases e with
    | ListComp l gs sc p => exact ⟨rfl, rfl⟩
    | _ => exact ff hm
  ok := fun X C E e hK G hE hq hm => by subst hK; exact cp_pe G hE hq hm
  okS := fun X C E i x p' pos e hK G hE hq hm hst => by subst hK; exact cp_ps G hE hq hm hst
noncomputable def cpE (c : CPX K) : EX K := mkE c.t c.m c.q .cp c.ok (fun C e hm => (c.sok C e hm).1) (fun C e hm => (c.sok C e hm).2)
noncomputable def comp (elt : EX K) (tg : TX K) (it : IX K) (own caps : List Str) (is : List Nat) : EX K := cpE (compC none elt tg it own caps is)
noncomputable def compI (elt c : EX K) (tg : TX K) (it : IX K) (own caps : List Str) (is : List Nat) : EX K := cpE (compC (some c) elt tg it own caps is)



noncomputable def DnK (P : Program) (w : World) (K : PySem.W.Frag) (mg : Str → Option Value) (base : Heap) (k : Nat) (x : Str) (sp : Sp) : Prop :=
  ∃ (f : Addr) (fd : FuncData) (ps : List Str), FnOk P w K mg base (CXF P w) k f fd ps sp ∧ Binds K fd ps [] ∧ PySem.W.keepIn K (.ref f) = true ∧ mg x = some (.ref f)
theorem DnK.at {P : Program} {w : World} {mg : Str → Option Value} {base : Heap} {j k : Nat} {x : Str} {sp : Sp} {A : Around} (D : DnK P w K mg base j x sp) (hr : Room k A) (h : j ≤ k) : FnAt ⟨P, w, K, mg, base, A⟩ x sp := by
  obtain ⟨f, fd, ps, F, hb, kp, hg⟩ := D
  exact ⟨j, f, fd, ps, hr.mono h, F, hb, kp, hg⟩
theorem def_ok {P : Program} {w : World} {mg : Str → Option Value} {base : Heap} {x qual : Str} {st : Stmt} {f : Addr} {fd : FuncData} {N ps : List Str} {k : Nat} {sp : Sp} (F : Fun K x qual st f fd) (b : List (SX K)) (S : FnScope N ps (defScope st))
    (hm : mSs b ⟨N, (defScope st).names, true⟩ (defBody st) = true) (bl : ∀ x ∈ blts, mg x = none) (hq : ∀ A, Room k A → qSs b ⟨P, w, K, mg, base, A⟩) (len : ∀ vs H Q E, sp vs H Q E → vs.length = ps.length)
    (h : ∀ vs H Q E, sp vs H Q E → tSs b (fun _ => E) { nx := fun _ H' => Q .non H', rt := Q } (start N vs) H) : FnOk P w K mg base (CXF P w) (k + 1) f fd ps sp := by
  obtain ⟨oc, od, kV, doc, pm, an, cdv, ct, osl, rfl, lk, hcd⟩ := F.ex
  refine fn_of lk hcd S len fun A outer s H vs Q E hr hsp => ?_
  have G : Gd (cxOf (CXF P w) P w K mg base N qual (defScope st) f cdv A outer s H E) ⟨N, (defScope st).names, true⟩ := ⟨rfl, rfl, S.nd, rfl, bl, hr.units, fun _ _ => rfl, fun _ => ⟨rfl, rfl⟩, fun _ h => nomatch h⟩
  have T : Thr (cxOf (CXF P w) P w K mg base N qual (defScope st) f cdv A outer s H E) (fun _ => E) := ⟨fun pins σ H1 s1 ev s' I z => pass_def pins σ H1 s1 ev s' I z, fun _ _ _ _ _ _ e _ _ I o1 b1 u1 k1 n1 en eo dt v1 z => made_def (I.call' o1 u1 k1 b1 fun b y => absurd y (by simp)) eo dt v1 en (fun b o q y => by obtain ⟨v, hv⟩ := I.base.there b o q (fun y => nomatch y); rw [y, n1] at hv; cases hv) z, PassesOwn.leaving⟩
  exact ⟨_, ss_ok G T b (defBody st) (hq _ hr) hm, h vs H Q E hsp⟩
end
end L2.Na




namespace L2.Na
open PySem
noncomputable abbrev ls (z : Str) : List Nat := z.cps.toList
noncomputable def mkS (l : List Nat) : Str := ⟨l.toArray⟩
theorem ls_mk (l : List Nat) : ls (mkS l) = l := by simp [ls, mkS]
theorem ls_len (z : Str) : (ls z).length = z.length := by show z.cps.toList.length = z.cps.size; simp
theorem mk_len (l : List Nat) : (mkS l).length = l.length := by rw [← ls_len, ls_mk]
theorem ls_inj {a b : Str} (h : ls a = ls b) : a = b := by
  cases a; cases b
  simp only [ls] at h
  congr 1
  exact Array.toList_inj.mp h
theorem ls_app (a b : Str) : ls (a ++ b) = ls a ++ ls b := by
  show (a.cps ++ b.cps).toList = a.cps.toList ++ b.cps.toList
  simp
theorem len_app (a b : Str) : (a ++ b).length = a.length + b.length := by rw [← ls_len, ls_app, List.length_append, ls_len, ls_len]
theorem mk_app (a b : List Nat) : mkS a ++ mkS b = mkS (a ++ b) := ls_inj (by rw [ls_app, ls_mk, ls_mk, ls_mk])
theorem glued_fold (g : Array Nat) : ∀ (r : List Str) (acc : Array Nat), (r.foldl (fun acc p => acc ++ g ++ p.cps) acc).toList = acc.toList ++ (r.map fun p => g.toList ++ p.cps.toList).flatten
  | [], acc => by simp
  | p :: r, acc => by
    rw [List.foldl_cons, glued_fold g r]
    simp [List.append_assoc]
theorem ls_join0 (ys : List Str) : ls (Txt.join (Str.ofString "") ys) = (ys.map ls).flatten := by
  have e : (Str.ofString "").cps = #[] := by decide +kernel
  cases ys with
  | nil => decide +kernel
  | cons y r =>
    show ((r.foldl (fun acc p => acc ++ (Str.ofString "").cps ++ p.cps) y.cps)).toList = _
    rw [e, glued_fold]
    simp

noncomputable def IsW (m : Nat) (z : Str) : Prop := ∀ c ∈ ls z, 97 ≤ c ∧ c < 97 + m
theorem IsW.mono {m n : Nat} {z : Str} (h : IsW m z) (l : m ≤ n) : IsW n z := fun c hc => ⟨(h c hc).1, Nat.lt_of_lt_of_le (h c hc).2 (by omega)⟩
theorem IsW.app {m : Nat} {a b : Str} (ha : IsW m a) (hb : IsW m b) : IsW m (a ++ b) := fun c hc => by
  rw [ls_app] at hc
  rcases List.mem_append.mp hc with h | h
  · exact ha c h
  · exact hb c h
theorem IsW.sgn {m c : Nat} (h : 97 ≤ c) (l : c < 97 + m) : IsW m ⟨#[c]⟩ := fun d hd => by
  have : d = c := by simpa [ls] using hd
  subst this
  exact ⟨h, l⟩
theorem IsW.nil {m : Nat} : IsW m (Str.ofString "") := fun c hc => by
  have e : ls (Str.ofString "") = [] := by decide +kernel
  rw [e] at hc; cases hc
theorem IsW.of_ls {m : Nat} {z y : Str} (h : IsW m z) (e : ∀ c ∈ ls y, c ∈ ls z) : IsW m y := fun c hc => h c (e c hc)

noncomputable def wd (ws : List Str) (c : Nat) : List Nat := ls (ws[c - 97]?.getD ⟨#[]⟩)
noncomputable def img (ws : List Str) (z : Str) : Str := mkS ((ls z).flatMap (wd ws))
end L2.Na




namespace L2.Na
open PySem PySem.Spec PyProof.Rows L2 L2.L3
section
variable {K : PySem.W.Frag}

noncomputable def rJoinU (K : PySem.W.Frag) : Str → List V → Hp → VK → Prop
  | z, [.ref p], H, Q => ∃ ys : List Str, (H p = some (.lst (ys.map V.str)) ∨ SqT K H p (ys.map V.str)) ∧ (ys.map (·.length)).sum + ys.length * z.length ≤ 16777216 ∧ Q (.str (Txt.join z ys)) H
  | _, _, _, _ => False
noncomputable def m_join (o a : EX K) (ho : o.s ≠ .zc := by intro z; cases z) : EX K := methS "join" "str.join" (rJoinU K) PySem.F.slot_str_join PySem.F.type_str_join (fun X hK _ _ => by
  subst hK
  intro pins s σ H x xs v us Q I rx rs q
  cases x with
  | str z =>
    have q' : rJoinU X.K z xs H Q := q
    unfold rJoinU at q'
    split at q'
    · obtain ⟨ys, h1 | h1, h2, h3⟩ := q'
      · exact mt_join pins s σ H _ _ v us Q I rx rs ⟨_, _, ys, rfl, rfl, h1, h2, h3⟩
      · exact mt_joinT pins s σ H _ _ v us Q I rx rs ⟨_, _, ys, rfl, rfl, h1, h2, h3⟩
    · exact q'.elim
  | _ => exact q.elim) o ho [a]
noncomputable def m_append (o a : EX K) (ho : o.s ≠ .zc := by intro z; cases z) : EX K := methL "append" "list.append" rAppend PySem.F.slot_list_append PySem.F.type_list_append (fun X hK _ _ => mt_append) o ho [a]

section
variable {E : XS} {σ : St} {H : Hp} {Q : VK} {D : Ends} {QB : Bool → Hp → Prop} {QL : List V → Hp → Prop} {v : V} {i j : Int} {n : Nat} {a b c : EX K} {as : List (EX K)} {ss : List (SX K)} {s : SX K} {op : Operator} {co : CmpOp} {x : Str} {sp : Sp}
theorem i_setT {tg : TX K} (h : a.t E σ H fun x H1 => tg.g x σ H1 D.nx) : (setT tg a).t E D σ H := h
theorem i_seq (h : s.t E { D with nx := tSs ss E D } σ H) : tSs (s :: ss) E D σ H := h
theorem i_nil (h : D.nx σ H) : tSs ([] : List (SX K)) E D σ H := h
theorem i_set (h : a.t E σ H fun x H1 => D.nx (σ.set n (some x)) H1) : (set n a).t E D σ H := h
theorem i_ret (h : a.t E σ H D.rt) : (ret a).t E D σ H := h
theorem i_ex (h : a.t E σ H fun _ H1 => D.nx σ H1) : (ex a).t E D σ H := h
theorem i_if {t f : List (SX K)} (h : c.tt E σ H fun b H1 => br b (tSs t E D σ H1) (tSs f E D σ H1)) : (ifS c t f).t E D σ H := h
theorem i_var (e : σ[n]? = some (some v)) (h : Q v H) : (var n : EX K).t E σ H Q := by
  show tV n σ H Q
  unfold tV
  rw [e]
  exact h
theorem i_cst (h : Q v H) : (cst v : EX K).t E σ H Q := h
theorem i_glb (h : Q v H) : (glb x v : EX K).t E σ H Q := h
theorem i_bin (h : a.t E σ H fun x H1 => b.t E σ H1 fun y H2 => rBin K op x y H2 Q) : (bin op a b).t E σ H Q := h
theorem i_add (h : Q (.int (i + j)) H) : rBin K .Add (.int i) (.int j) H Q := h
theorem i_sub (h : Q (.int (i - j)) H) : rBin K .Sub (.int i) (.int j) H Q := h
theorem i_mul (c : CMul i j) (h : Q (.int (i * j)) H) : rBin K .Mult (.int i) (.int j) H Q := ⟨c.ok, h⟩
theorem i_div (c : CDiv i j) (h : Q (.int (i / j)) H) : rBin K .FloorDiv (.int i) (.int j) H Q := ⟨⟨c.1, by have := c.2; omega⟩, h⟩
theorem i_divX (c : 0 < j ∧ j < 2 ^ 64) (h : Q (.int (i / j)) H) : rBin K .FloorDiv (.int i) (.int j) H Q := ⟨c, h⟩
theorem i_mod (c : 0 < j) (h : Q (.int (i % j)) H) : rBin K .Mod (.int i) (.int j) H Q := ⟨c, h⟩
theorem i_addS {y z : Str} (c : y.length + z.length ≤ sizeLine) (h : Q (.str (y ++ z)) H) : rBin K .Add (.str y) (.str z) H Q := ⟨c, h⟩
theorem i_cmp (h : a.t E σ H fun x H1 => b.t E σ H1 fun y H2 => rCmp K co x y H2 Q) : (cmp co a b).t E σ H Q := h
theorem j_cmp (h : a.t E σ H fun x H1 => b.t E σ H1 fun y H2 => rB (rCmp K co) x y H2 QB) : (cmp co a b).tt E σ H QB := h
theorem i_gt (h : Q (.bl (decide (j < i))) H) : rCmp K .Gt (.int i) (.int j) H Q := h
theorem i_ge (h : Q (.bl (decide (j ≤ i))) H) : rCmp K .GtE (.int i) (.int j) H Q := h
theorem dI : decide (V.int i = V.int j) = decide (i = j) := decide_eq_decide.mpr ⟨fun z => V.int.inj z, fun z => by rw [z]⟩
theorem dS {y z : Str} : decide (V.str y = V.str z) = decide (y = z) := decide_eq_decide.mpr ⟨fun e => V.str.inj e, fun e => by rw [e]⟩
theorem i_eq (h : Q (.bl (decide (i = j))) H) : rCmp K .Eq (.int i) (.int j) H Q := .inl ⟨rfl, by rw [dI]; exact h⟩
theorem i_eqS {y z : Str} (h : Q (.bl (decide (y = z))) H) : rCmp K .Eq (.str y) (.str z) H Q := .inl ⟨rfl, by rw [dS]; exact h⟩
theorem j_isN (h : QB (decide (v = .non)) H) : rB (rCmp K .Is) v .non H QB := h
theorem j_isnN (h : QB (!decide (v = .non)) H) : rB (rCmp K .IsNot) v .non H QB := h
theorem j_lt (h : QB (decide (i < j)) H) : rB (rCmp K .Lt) (.int i) (.int j) H QB := h
theorem j_gt (h : QB (decide (j < i)) H) : rB (rCmp K .Gt) (.int i) (.int j) H QB := h
theorem j_ge (h : QB (decide (j ≤ i)) H) : rB (rCmp K .GtE) (.int i) (.int j) H QB := h
theorem j_eq (h : QB (decide (i = j)) H) : rB (rCmp K .Eq) (.int i) (.int j) H QB := .inl ⟨rfl, by show QB _ H; rw [dI]; exact h⟩
theorem j_ne (h : QB (!decide (i = j)) H) : rB (rCmp K .NotEq) (.int i) (.int j) H QB := .inl ⟨rfl, by show QB _ H; rw [dI]; exact h⟩
theorem j_eqS {y z : Str} (h : QB (decide (y = z)) H) : rB (rCmp K .Eq) (.str y) (.str z) H QB := .inl ⟨rfl, by show QB _ H; rw [dS]; exact h⟩
theorem j_neS {y z : Str} (h : QB (!decide (y = z)) H) : rB (rCmp K .NotEq) (.str y) (.str z) H QB := .inl ⟨rfl, by show QB _ H; rw [dS]; exact h⟩
theorem j_tru (e : a.tt E = truT K (a.t E)) (h : a.t E σ H fun x H1 => rTru K x H1 QB) : a.tt E σ H QB := by rw [e]; exact h
theorem j_not (h : a.tt E σ H fun b H1 => QB (!b) H1) : (notE a).tt E σ H QB := h
theorem i_not (h : a.t E σ H fun x H1 => rTru K x H1 fun b H2 => Q (.bl (!b)) H2) : (notE a).t E σ H Q := h
theorem i_truB {k : Bool} (h : QB k H) : rTru K (.bl k) H QB := h
theorem i_and (h : a.t E σ H fun x H1 => rTru K x H1 fun k H2 => br k (tBop K .And E (b.t E) as σ H2 Q) (Q x H2)) : (andE a (b :: as)).t E σ H Q := h
theorem i_or (h : a.t E σ H fun x H1 => rTru K x H1 fun k H2 => br k (Q x H2) (tBop K .Or E (b.t E) as σ H2 Q)) : (orE a (b :: as)).t E σ H Q := h
theorem j_and (h : a.tt E σ H fun k H1 => br k (tBopT K .And E (b.tt E) as σ H1 QB) (QB false H1)) : (andE a (b :: as)).tt E σ H QB := h
theorem j_or (h : a.tt E σ H fun k H1 => br k (QB true H1) (tBopT K .Or E (b.tt E) as σ H1 QB)) : (orE a (b :: as)).tt E σ H QB := h
theorem i_bop0 {bo : BoolOp} {t : TE} (h : t σ H Q) : tBop K bo E t [] σ H Q := h
theorem j_bop0 {bo : BoolOp} {t : TT} (h : t σ H QB) : tBopT K bo E t [] σ H QB := h
theorem j_bopO {t : TT} (h : t σ H fun k H1 => br k (QB true H1) (tBopT K .Or E (b.tt E) as σ H1 QB)) : tBopT K .Or E t (b :: as) σ H QB := h
theorem i_acons (h : a.t E σ H fun x H1 => tAs as E σ H1 fun xs H2 => QL (x :: xs) H2) : tAs (a :: as) E σ H QL := h
theorem i_anil (h : QL [] H) : tAs ([] : List (EX K)) E σ H QL := h
theorem i_call (h : tAs as E σ H fun vs H1 => sp vs H1 Q (E σ)) : (call x sp as).t E σ H Q := h
theorem i_len (h : a.t E σ H fun x H1 => rLen K [x] H1 Q) : (len a).t E σ H Q := h
theorem i_lenS {z : Str} (c : z.length ≤ sizeLine) (h : Q (.int z.length) H) : rLen K [.str z] H Q := ⟨c, h⟩
theorem i_lenL {p : Addr} {xs : List V} (c : SqL K H p xs) (h : Q (.int xs.length) H) : rLen K [.ref p] H Q := .inl ⟨_, .inl ⟨xs, c, rfl⟩, h⟩
theorem i_lenT {p : Addr} {xs : List V} (c : SqT K H p xs) (h : Q (.int xs.length) H) : rLen K [.ref p] H Q := .inl ⟨_, .inr ⟨xs, c, rfl⟩, h⟩
theorem i_min (h : a.t E σ H fun x H1 => b.t E σ H1 fun y H2 => rMin2 [x, y] H2 Q) : (min2 a b).t E σ H Q := h
theorem i_max (h : a.t E σ H fun x H1 => b.t E σ H1 fun y H2 => rMax2 [x, y] H2 Q) : (max2 a b).t E σ H Q := h
theorem i_min2 (h : Q (.int (min i j)) H) : rMin2 [.int i, .int j] H Q := h
theorem i_max2 (h : Q (.int (max i j)) H) : rMax2 [.int i, .int j] H Q := h
theorem i_isi (h : a.t E σ H fun x H1 => b.t E σ H1 fun y H2 => rIsiV K [x, y] H2 Q) : (isi a b).t E σ H Q := h
theorem i_tyStr (h : Q (.ty "str") H) : (tyStr : EX K).t E σ H Q := h
theorem i_tyInt (h : Q (.ty "int") H) : (tyInt : EX K).t E σ H Q := h
theorem i_tyBool (h : Q (.ty "bool") H) : (tyBool : EX K).t E σ H Q := h
theorem i_tyList (h : Q (.ty "list") H) : (tyList : EX K).t E σ H Q := h
theorem i_tyTuple (h : Q (.ty "tuple") H) : (tyTuple : EX K).t E σ H Q := h
theorem i_listE (h : a.t E σ H fun x H1 => rListOf K [x] H1 Q) : (listE a).t E σ H Q := h
theorem i_ix (h : a.t E σ H fun x H1 => b.t E σ H1 fun y H2 => rIxU K x y H2 Q) : (ix a b).t E σ H Q := h
theorem i_ixS {z : Str} {k : Nat} (c : z.length ≤ sizeLine) (e : atI z.cps.toList i = some k) (h : Q (sgn k) H) : rIxU K (.str z) (.int i) H Q := ⟨c, k, e, h⟩
theorem i_ixL {p : Addr} {xs : List V} (c : SqL K H p xs) (e : atI xs i = some v) (h : Q v H) : rIxU K (.ref p) (.int i) H Q := .inl ⟨p, xs, i, v, rfl, rfl, c, e, h⟩
theorem i_ixT {p : Addr} {xs : List V} (c : SqT K H p xs) (e : atI xs i = some v) (h : Q v H) : rIxU K (.ref p) (.int i) H Q := .inr (.inl ⟨p, xs, i, v, rfl, rfl, c, e, h⟩)
theorem i_slc {lo hi : Option (EX K)} (h : a.t E σ H fun x H1 => tO E lo σ H1 fun l H2 => tO E hi σ H2 fun u H3 => rSlU K x l u H3 Q) : (slc a lo hi).t E σ H Q := h
theorem i_o0 {QO : Option Int → Hp → Prop} (h : QO none H) : tO E (none : Option (EX K)) σ H QO := h
theorem i_o1 {QO : Option Int → Hp → Prop} (h : a.t E σ H (rO QO)) : tO E (some a) σ H QO := h
theorem i_rO {QO : Option Int → Hp → Prop} (h : QO (some i) H) : rO QO (.int i) H := h
theorem i_slS {z : Str} {lo hi : Option Int} (c : z.length ≤ sizeLine) (h : Q (.str (Txt.slice z lo hi)) H) : rSlU K (.str z) lo hi H Q := ⟨c, h⟩
theorem i_slL {p : Addr} {xs : List V} {lo hi : Option Int} (c : SqL K H p xs) (h : ∀ q, H q = none → Q (.ref q) (upd H q (.lst (cutV xs lo hi)))) : rSlU K (.ref p) lo hi H Q := .inl ⟨p, xs, rfl, c, h⟩
theorem i_lst (h : tAs as E σ H fun xs H1 => xs.length ≤ sizeLine ∧ ∀ p, H1 p = none → Q (.ref p) (upd H1 p (.lst xs))) : (lst as).t E σ H Q := h
theorem i_tup (h : tAs as E σ H fun xs H1 => xs.length ≤ sizeLine ∧ ∀ p, H1 p = none → Q (.ref p) (upd H1 p (.tup xs))) : (tup as).t E σ H Q := h
theorem i_join {ho : a.s ≠ .zc} (h : a.t E σ H fun x H1 => RS (rJoinU K) (tAs [b] E) x σ H1 Q) : (m_join a b ho).t E σ H Q := h
theorem i_append {ho : a.s ≠ .zc} (h : a.t E σ H fun x H1 => RL K rAppend (tAs [b] E) x σ H1 Q) : (m_append a b ho).t E σ H Q := h
theorem i_RS {r : Str → List V → Hp → VK → Prop} {t : TA} {z : Str} (h : t σ H fun ys H2 => r z ys H2 Q) : RS r t (.str z) σ H Q := h
theorem i_RL {r : V → List V → Hp → VK → Prop} {t : TA} {p : Addr} {xs : List V} (c : SqL K H p xs) (h : t σ H fun ys H2 => r (.ref p) ys H2 Q) : RL K r t (.ref p) σ H Q := ⟨⟨xs, c⟩, h⟩
theorem i_appendU {p : Addr} {xs : List V} {y : V} (e : H p = some (.lst xs)) (c : xs.length < sizeLine) (h : Q .non (upd H p (.lst (xs ++ [y])))) : rAppend (.ref p) [y] H Q := ⟨p, xs, y, rfl, rfl, e, c, h⟩

noncomputable def LoopW (J : It) (g : TG) (tb : TS) (D : Ends) (σ : St) (H : Hp) : Prop := ∃ W : Nat → Nat → St → Hp → Prop, (∃ m, W 0 m σ H) ∧ ∀ i m σ H, W i m σ H →
  (J.stop i H ∧ D.nx σ H) ∨ (J.go i H ∧ ∃ N : St → Hp → Prop, (∀ σ' H', N σ' H' → ∃ m', m' < m ∧ W (i + 1) m' σ' H') ∧ ∀ x H', J.yld i H x H' → g x σ H' fun σ2 H2 => tb { D with nx := N, ct := N, bk := D.nx } σ2 H2)
theorem i_for {tg : TX K} {it : IX K} {bd : List (SX K)} (h : it.t E σ H fun J H1 => LoopW J tg.g (tSs bd E) D σ H1) : (forS tg it bd).t E D σ H := h
theorem i_rng {R : It → Hp → Prop} (h : tAs (a :: as) E σ H fun vs H1 => rRng vs H1 R) : (iRng a as).t E σ H R := h
theorem i_rng1 {R : It → Hp → Prop} (c : -(2 ^ 62) ≤ j ∧ j < 2 ^ 62) (h : R (Itr 0 j.toNat) H) : rRng [.int j] H R := ⟨c, h⟩
theorem i_rng2 {R : It → Hp → Prop} (c : -(2 ^ 62) ≤ i ∧ i < 2 ^ 62 ∧ -(2 ^ 62) ≤ j ∧ j < 2 ^ 62) (h : R (Itr i (j - i).toNat) H) : rRng [.int i, .int j] H R := ⟨c, h⟩
theorem i_iseq {R : It → Hp → Prop} (h : a.t E σ H fun x H1 => rIter K x H1 R) : (iSeq a).t E σ H R := h
theorem i_itS {R : It → Hp → Prop} {z : Str} (h : R (Its z) H) : rIter K (.str z) H R := h
theorem i_itL {R : It → Hp → Prop} {p : Addr} {xs : List V} (c : SqL K H p xs) (h : R (Itl K p) H) : rIter K (.ref p) H R := .inl ⟨⟨xs, c⟩, h⟩
theorem i_itT {R : It → Hp → Prop} {p : Addr} {xs : List V} (c : SqT K H p xs) (h : R (Itt K p) H) : rIter K (.ref p) H R := .inr ⟨⟨xs, c⟩, h⟩
theorem loop_yl {J : It} {P : Hp → Prop} {xs : List V} {g : TG} {tb : TS} (Y : Yl J P xs) (Pv : Nat → St → Hp → Prop) (h0 : Pv 0 σ H) (hl : ∀ i σ H, i ≤ xs.length → Pv i σ H → P H)
    (hs : ∀ i x σ H, xs[i]? = some x → Pv i σ H → g x σ H fun σ2 H2 => tb { D with nx := Pv (i + 1), ct := Pv (i + 1), bk := D.nx } σ2 H2) (hd : ∀ σ H, Pv xs.length σ H → D.nx σ H) : LoopW J g tb D σ H := for_yl Y Pv h0 hl hs hd
theorem loop_rng {lo : Int} {k : Nat} {g : TG} {tb : TS} (Pv : Nat → St → Hp → Prop) (h0 : Pv 0 σ H)
    (hs : ∀ i σ H, i < k → Pv i σ H → g (.int (lo + (i : Nat))) σ H fun σ2 H2 => tb { D with nx := Pv (i + 1), ct := Pv (i + 1), bk := D.nx } σ2 H2) (hd : ∀ σ H, Pv k σ H → D.nx σ H) : LoopW (Itr lo k) g tb D σ H := for_range Pv h0 hs hd
theorem i_nam {QS : St → Hp → Prop} (h : QS (σ.set n (some v)) H) : (nam n : TX K).g v σ H QS := h
theorem i_unp2 {QS : St → Hp → Prop} {k l : Nat} {p : Addr} {x y : V} (c : SqT K H p [x, y]) (h : QS ((σ.set k (some x)).set l (some y)) H) : (unp [k, l] : TX K).g (.ref p) σ H QS :=
  ⟨p, [x, y], rfl, c, rfl, x, [y], rfl, y, [], rfl, rfl, h⟩

theorem comp_base {J : It} {P : Hp → Prop} {items : List V} (Y : Yl J P items) {tc : TT} {te : TE} {is : List Nat} {D : Addr} (keep : Nat → Bool) (f : Nat → V) (hD : H D = none) (hP : ∀ H1, Same H H1 → P H1) (hz : items.length ≤ sizeLine)
    (test : ∀ (i : Nat) (x : V) (H1 : Hp) (QB : Bool → Hp → Prop), items[i]? = some x → Same H H1 → (∀ H2, Same H1 H2 → QB (keep i) H2) → tc (some x :: capV is σ) H1 QB)
    (step : ∀ (i : Nat) (x : V) (H1 : Hp) (Q' : VK), items[i]? = some x → keep i = true → Same H H1 → (∀ H3, Same H1 H3 → Q' (f i) H3) → te (some x :: capV is σ) H1 Q')
    (fin : ∀ H1, Same H H1 → H1 D = some (.lst (((List.range items.length).filter keep).map f)) → Q (.ref D) H1) : CompBodyI J (nam 0 : TX K).g tc te 1 is σ D H Q := by
  have hn : ∀ i, (((List.range i).filter keep).map f).length ≤ i := fun i => by
    rw [List.length_map]
    exact Nat.le_trans (List.length_filter_le _ _) (by rw [List.length_range]; exact Nat.le_refl _)
  refine ⟨fun i m σ' H1 => m = items.length - i ∧ i ≤ items.length ∧ (∃ a, σ' = a :: capV is σ) ∧ Same H H1 ∧ H1 D = some (.lst (((List.range i).filter keep).map f)), ⟨items.length, by simp, Nat.zero_le _, ⟨none, rfl⟩, fun b o e => by rw [upd_ne (ne_of_none e hD)]; exact e, upd_same⟩, ?_⟩
  rintro i m σ' H1 ⟨rfl, hi, ⟨a, rfl⟩, hS, hO⟩
  have p := hP H1 hS
  by_cases hlt : i < items.length
  · refine .inr ⟨Y.go i H1 p hlt, fun x H' hy => ?_⟩
    obtain ⟨e, hx⟩ := Y.yld i H1 x H' p hlt hy
    subst e
    show tc (some x :: capV is σ) H' _
    refine test i x H' _ hx hS fun H2 s2 => ⟨fun hk => ?_, fun hk => ?_⟩
    · refine step i x H2 _ hx hk (hS.trans s2) fun H3 s3 => ?_
      refine ⟨_, s3 _ _ (s2 _ _ hO), Nat.lt_of_le_of_lt (hn i) (Nat.lt_of_lt_of_le hlt hz), items.length - (i + 1), by omega, rfl, hlt, ⟨_, rfl⟩, fun b o q => ?_, ?_⟩
      · rw [upd_ne (ne_of_none q hD)]
        exact s3 _ _ (s2 _ _ (hS b o q))
      · rw [upd_same, List.range_succ, List.filter_append, List.map_append, List.filter_cons, if_pos hk]
        rfl
    · refine ⟨items.length - (i + 1), by omega, rfl, hlt, ⟨_, rfl⟩, hS.trans s2, ?_⟩
      rw [s2 _ _ hO, List.range_succ, List.filter_append, List.filter_cons, if_neg (by rw [hk]; exact Bool.false_ne_true), List.filter_nil, List.append_nil]
  · have e : i = items.length := by omega
    subst e
    exact .inl ⟨Y.stop H1 p, fin H1 hS hO⟩
theorem filter_all {α : Type} (l : List α) : (l.filter fun _ => true) = l := List.filter_eq_self.mpr fun _ _ => rfl
theorem comp_all {J : It} {P : Hp → Prop} {items : List V} (Y : Yl J P items) {te : TE} {is : List Nat} {D : Addr} (f : Nat → V) (hD : H D = none) (hP : ∀ H1, Same H H1 → P H1) (hz : items.length ≤ sizeLine)
    (step : ∀ (i : Nat) (x : V) (H1 : Hp) (Q' : VK), items[i]? = some x → Same H H1 → (∀ H3, Same H1 H3 → Q' (f i) H3) → te (some x :: capV is σ) H1 Q')
    (fin : ∀ H1, Same H H1 → H1 D = some (.lst ((List.range items.length).map f)) → Q (.ref D) H1) : CompBodyI J (nam 0 : TX K).g (cT (none : Option (EX K))) te 1 is σ D H Q :=
  comp_base Y (fun _ => true) f hD hP hz (fun _ _ _ _ _ _ q => q _ (Same.refl _)) (fun i x H1 Q' hx _ hS q => step i x H1 Q' hx hS q) fun H1 hS hO => fin H1 hS (by rw [filter_all] at hO; exact hO)
theorem compI_rng {lo : Int} {m : Nat} {tc : TT} {te : TE} {is : List Nat} {D : Addr} (keep : Nat → Bool) (f : Nat → V) (hD : H D = none) (hz : m ≤ sizeLine)
    (test : ∀ (i : Nat) (H1 : Hp) (QB : Bool → Hp → Prop), i < m → Same H H1 → (∀ H2, Same H1 H2 → QB (keep i) H2) → tc (some (.int (lo + (i : Nat))) :: capV is σ) H1 QB)
    (step : ∀ (i : Nat) (H1 : Hp) (Q' : VK), i < m → keep i = true → Same H H1 → (∀ H3, Same H1 H3 → Q' (f i) H3) → te (some (.int (lo + (i : Nat))) :: capV is σ) H1 Q')
    (fin : ∀ H1, Same H H1 → H1 D = some (.lst (((List.range m).filter keep).map f)) → Q (.ref D) H1) : CompBodyI (Itr lo m) (nam 0 : TX K).g tc te 1 is σ D H Q := by
  refine comp_base yl_rng keep f hD (fun _ _ => trivial) (by rw [rngV_len]; exact hz) (fun i x H1 QB hx hS q => ?_) (fun i x H1 Q' hx hk hS q => ?_) (fun H1 hS hO => fin H1 hS (by rw [rngV_len] at hO; exact hO))
  · obtain ⟨hi, rfl⟩ := rngV_get hx
    exact test i H1 QB hi hS q
  · obtain ⟨hi, rfl⟩ := rngV_get hx
    exact step i H1 Q' hi hk hS q
theorem range_get {α β : Type} (l : List α) (f : α → β) (d : β) : ((List.range l.length).map fun i => (l[i]?.map f).getD d) = l.map f := by
  refine List.ext_getElem? fun i => ?_
  rw [List.getElem?_map, List.getElem?_map]
  by_cases hi : i < l.length
  · rw [List.getElem?_range hi]
    show some ((l[i]?.map f).getD d) = l[i]?.map f
    rw [List.getElem?_eq_getElem hi]
    rfl
  · rw [List.getElem?_eq_none_iff.mpr (by rw [List.length_range]; omega), List.getElem?_eq_none_iff.mpr (by omega)]
    rfl
theorem range_filter {α β : Type} (l : List α) (k : α → Bool) (f : α → β) (d : β) : (((List.range l.length).filter fun i => (l[i]?.map k).getD false).map fun i => (l[i]?.map f).getD d) = (l.filter k).map f := by
  induction l with
  | nil => rfl
  | cons a l ih =>
    rw [List.length_cons, List.range_succ_eq_map, List.filter_cons, List.filter_cons, List.filter_map]
    have e : (((fun i => ((a :: l)[i]?.map k).getD false) ∘ Nat.succ)) = fun i => (l[i]?.map k).getD false := rfl
    have e2 : (List.map (fun i => ((a :: l)[i]?.map f).getD d) (List.map Nat.succ ((List.range l.length).filter fun i => (l[i]?.map k).getD false))) = (l.filter k).map f := by
      rw [List.map_map, ← ih]
      rfl
    rw [e]
    show List.map _ (if k a = true then _ else _) = List.map f (if k a = true then _ else _)
    cases k a with
    | true =>
      rw [if_pos rfl, if_pos rfl, List.map_cons, List.map_cons, e2]
      rfl
    | false => rw [if_neg Bool.false_ne_true, if_neg Bool.false_ne_true, e2]
theorem comp_items {J : It} {P : Hp → Prop} {xs : List V} (Y : Yl J P xs) {te : TE} {is : List Nat} {D : Addr} (f : V → V) (hD : H D = none) (hP : ∀ H1, Same H H1 → P H1) (hz : xs.length ≤ sizeLine)
    (step : ∀ (i : Nat) (x : V) (H1 : Hp) (Q' : VK), xs[i]? = some x → Same H H1 → (∀ H3, Same H1 H3 → Q' (f x) H3) → te (some x :: capV is σ) H1 Q')
    (fin : ∀ H1, Same H H1 → H1 D = some (.lst (xs.map f)) → Q (.ref D) H1) : CompBodyI J (nam 0 : TX K).g (cT (none : Option (EX K))) te 1 is σ D H Q := by
  refine comp_all Y (fun i => (xs[i]?.map f).getD .non) hD hP hz (fun i x H1 Q' hx hS q => ?_) fun H1 hS hO => fin H1 hS (by rw [range_get] at hO; exact hO)
  rw [hx] at q
  exact step i x H1 Q' hx hS q
theorem compI_items {J : It} {P : Hp → Prop} {xs : List V} (Y : Yl J P xs) {tc : TT} {te : TE} {is : List Nat} {D : Addr} (keep : V → Bool) (f : V → V) (hD : H D = none) (hP : ∀ H1, Same H H1 → P H1) (hz : xs.length ≤ sizeLine)
    (test : ∀ (i : Nat) (x : V) (H1 : Hp) (QB : Bool → Hp → Prop), xs[i]? = some x → Same H H1 → (∀ H2, Same H1 H2 → QB (keep x) H2) → tc (some x :: capV is σ) H1 QB)
    (step : ∀ (i : Nat) (x : V) (H1 : Hp) (Q' : VK), xs[i]? = some x → keep x = true → Same H H1 → (∀ H3, Same H1 H3 → Q' (f x) H3) → te (some x :: capV is σ) H1 Q')
    (fin : ∀ H1, Same H H1 → H1 D = some (.lst ((xs.filter keep).map f)) → Q (.ref D) H1) : CompBodyI J (nam 0 : TX K).g tc te 1 is σ D H Q := by
  refine comp_base Y (fun i => (xs[i]?.map keep).getD false) (fun i => (xs[i]?.map f).getD .non) hD hP hz (fun i x H1 QB hx hS q => ?_) (fun i x H1 Q' hx hk hS q => ?_) fun H1 hS hO => fin H1 hS (by rw [range_filter] at hO; exact hO)
  · rw [hx] at q
    exact test i x H1 QB hx hS q
  · rw [hx] at q hk
    exact step i x H1 Q' hx hk hS q
theorem compI_str {z : Str} {tc : TT} {te : TE} {is : List Nat} {D : Addr} (keep : Nat → Bool) (f : Nat → V) (hD : H D = none) (hz : z.length ≤ sizeLine)
    (test : ∀ (i c : Nat) (H1 : Hp) (QB : Bool → Hp → Prop), z.cps.toList[i]? = some c → Same H H1 → (∀ H2, Same H1 H2 → QB (keep c) H2) → tc (some (sgn c) :: capV is σ) H1 QB)
    (step : ∀ (i c : Nat) (H1 : Hp) (Q' : VK), z.cps.toList[i]? = some c → keep c = true → Same H H1 → (∀ H3, Same H1 H3 → Q' (f c) H3) → te (some (sgn c) :: capV is σ) H1 Q')
    (fin : ∀ H1, Same H H1 → H1 D = some (.lst ((z.cps.toList.filter keep).map f)) → Q (.ref D) H1) : CompBodyI (Its z) (nam 0 : TX K).g tc te 1 is σ D H Q := by
  have key : ∀ i x, (sgnV z)[i]? = some x → ∃ c, z.cps.toList[i]? = some c ∧ x = sgn c := fun i x hx => by
    unfold sgnV at hx
    rw [List.getElem?_map] at hx
    cases e : z.cps.toList[i]? with
    | none => rw [e] at hx; cases hx
    | some c => rw [e] at hx; exact ⟨c, e, (Option.some.inj hx).symm⟩
  refine comp_base yl_str (fun i => (z.cps.toList[i]?.map keep).getD false) (fun i => (z.cps.toList[i]?.map f).getD .non) hD (fun _ _ => trivial) (by rw [sgnV_len]; exact hz) (fun i x H1 QB hx hS q => ?_) (fun i x H1 Q' hx hk hS q => ?_) fun H1 hS hO => fin H1 hS (by
    rw [show (sgnV z).length = z.cps.toList.length by rw [sgnV_len]; simp, range_filter] at hO; exact hO)
  · obtain ⟨c, e, rfl⟩ := key i x hx
    rw [e] at q
    exact test i c H1 QB e hS q
  · obtain ⟨c, e, rfl⟩ := key i x hx
    rw [e] at q hk
    exact step i c H1 Q' e hk hS q
theorem sqT_same {p : Addr} {xs : List V} (hp : SqT K H p xs) (H1 : Hp) (hS : Same H H1) : SqT K H1 p xs := by
  rcases hp with (h | ⟨o, h⟩) | h
  · exact .inl (.inl (hS _ _ h))
  · exact .inl (.inr ⟨o, hS _ _ h⟩)
  · exact .inr h
theorem i_comp {elt : EX K} {tg : TX K} {it : IX K} {own caps : List Str} {is : List Nat} (h : it.t E σ H fun J H1 => ∀ D, H1 D = none → CompBodyI J tg.g (cT (none : Option (EX K))) (elt.t E0) own.length is σ D H1 Q) : (comp elt tg it own caps is).t E σ H Q := h
theorem i_compI {elt c : EX K} {tg : TX K} {it : IX K} {own caps : List Str} {is : List Nat} (h : it.t E σ H fun J H1 => ∀ D, H1 D = none → CompBodyI J tg.g (c.tt E0) (elt.t E0) own.length is σ D H1 Q) : (compI elt c tg it own caps is).t E σ H Q := h
end
end
end L2.Na




namespace L2.Na
open PySem PySem.Spec PyProof.Rows L2 L2.L3

noncomputable def FD (K : PySem.W.Frag) (x : Str) (st : Stmt) : Prop := ∃ (f : Addr) (fd : FuncData), Fun K x x st f fd ∧ PySem.W.nsIn K mainGlobals x = some (some (.ref f))
theorem fd_mk {K : PySem.W.Frag} {x : Str} {st : Stmt} {f : Addr} {oc : Value} {od an : Option Addr} {osl : Array (Option Value)} {kV doc pm cdv ct : Value} (a : PySem.W.nsIn K mainGlobals x = some (some (.ref f)))
    (l : K.lookup f = some ⟨oc, od, .func (PySem.W.fnOf x x (defArgs st) (defBody st) (defScope st) .none kV doc pm an cdv ct), osl⟩) (c : PySem.W.codeIn K cdv x = true) (k : PySem.W.keepIn K (.ref f) = true) : FD K x st := ⟨f, _, fun_mk l c k, a⟩
noncomputable def AllN (K : PySem.W.Frag) : List Str → Prop
  | [] => True
  | x :: xs => PySem.W.nsIn K mainGlobals x = some none ∧ AllN K xs
theorem all_none {K : PySem.W.Frag} {h : Heap} {mg : Str → Option Value} (X : K.In h) (G : h.Ns mainGlobals mg) : ∀ {xs : List Str}, AllN K xs → ∀ x ∈ xs, mg x = none
  | [], _, _, hx => nomatch hx
  | y :: ys, z, x, hx => by
    rcases List.mem_cons.mp hx with rfl | hx
    · exact PySem.W.mg_none_of X G z.1
    · exact all_none X G z.2 x hx
noncomputable def GC (K : PySem.W.Frag) (x : Str) (v : V) : Prop := ∃ u, PySem.W.nsIn K mainGlobals x = some (some u) ∧ RelV v u
theorem gc_at {K : PySem.W.Frag} {h : Heap} {mg : Str → Option Value} {P : Program} {w : World} {base : Heap} {A : Around} {x : Str} {v : V} (X : K.In h) (G : h.Ns mainGlobals mg) (c : GC K x v) : GlAt ⟨P, w, K, mg, base, A⟩ x v := by
  obtain ⟨u, h1, h2⟩ := c
  exact ⟨u, PySem.W.mg_of X G h1, h2⟩
theorem gc_str {K : PySem.W.Frag} {x z : Str} {t : Tok} (h : PySem.W.nsIn K mainGlobals x = some (some (.str z t))) : GC K x (.str z) := ⟨_, h, t, rfl⟩
theorem gc_int {K : PySem.W.Frag} {x : Str} {i : Int} {t : Tok} (h : PySem.W.nsIn K mainGlobals x = some (some (.int i t))) : GC K x (.int i) := ⟨_, h, t, rfl⟩
section
variable {K : PySem.W.Frag} {P : Program} {w : World} {h base : Heap} {mg : Str → Option Value} {x : Str} {st : Stmt} {N ps : List Str} {k : Nat} {sp : Sp}
theorem dn_of (F : FD K x st) (X : K.In h) (G : h.Ns mainGlobals mg) (bl : ∀ x ∈ blts, mg x = none) (b : List (SX K)) (S : FnScope N ps (defScope st)) (hm : mSs b ⟨N, (defScope st).names, true⟩ (defBody st) = true)
    (hb : ∀ (kV doc pm : Value) (an : Option Addr) (cdv ct : Value) (us : List Value), us.length = ps.length → bindArgs (PySem.W.fnOf x x (defArgs st) (defBody st) (defScope st) .none kV doc pm an cdv ct) ⟨us, []⟩ = pure (ps.zip us))
    (len : ∀ vs H Q E, sp vs H Q E → vs.length = ps.length) (t : ∀ vs H Q E, sp vs H Q E → tSs b (fun _ => E) { nx := fun _ H' => Q .non H', rt := Q } (start N vs) H) (hq : ∀ A, Room k A → qSs b ⟨P, w, K, mg, base, A⟩) : DnK P w K mg base (k + 1) x sp := by
  obtain ⟨f, fd, F, a⟩ := F
  exact ⟨f, fd, ps, def_ok F b S hm bl hq len t, F.binds hb, F.kp, PySem.W.mg_of X G a⟩
end

theorem by1 {Z : List Value → Prop} (h : ∀ a : Value, Z [a]) (us : List Value) (hl : us.length = 1) : Z us := match us, hl with | [_], _ => h _
theorem by2 {Z : List Value → Prop} (h : ∀ a b : Value, Z [a, b]) (us : List Value) (hl : us.length = 2) : Z us := match us, hl with | [_, _], _ => h _ _
theorem by3 {Z : List Value → Prop} (h : ∀ a b c : Value, Z [a, b, c]) (us : List Value) (hl : us.length = 3) : Z us := match us, hl with | [_, _, _], _ => h _ _ _
theorem by4 {Z : List Value → Prop} (h : ∀ a b c d : Value, Z [a, b, c, d]) (us : List Value) (hl : us.length = 4) : Z us := match us, hl with | [_, _, _, _], _ => h _ _ _ _
end L2.Na




namespace L2.Na
open PySem PySem.Spec PyProof.Rows L2 L2.L3

noncomputable def clsAt (K : PySem.W.Frag) (x : Str) : Addr := match PySem.W.nsIn K mainGlobals x with
  | some (some (.ref C)) => C
  | _ => 0
noncomputable abbrev mroVE : List Value := [.type "ValueError", .type "Exception", .type "BaseException", .type "object"]
structure ExcK (K : PySem.W.Frag) (x : Str) : Prop where
  at_ : PySem.W.nsIn K mainGlobals x = some (some (.ref (clsAt K x)))
  exc : PySem.W.excIn K (clsAt K x) mroVE "ValueError.__new__" = true
section
variable {K : PySem.W.Frag}
end
end L2.Na




namespace L2.Na
open PySem PySem.Spec PyProof.Rows L2 L2.L3

noncomputable def IsX (e : Addr) (c : Value) (dx : Option Addr) : Heap → Prop := fun h => ∃ oe vs, h.get? e = some oe ∧ oe.cls = c ∧ oe.dict = dx ∧ oe.data = .fields vs
section
variable {X : Cx} {pins : List (Addr × Obj)} {σ : St} {H1 H' : Hp} {s1 s' : Shared} {B g : Heap} {e : Addr} {c fl : Value} {dx : Option Addr}
theorem caught_inv (I1 : Inv X pins σ H1 s1) (os : s'.os = s1.os) (bare : AllBare s'.gens) (un : Un (frs X.stack) [] H1 H' s1.heap s'.heap) (hok : HOk X.prog X.w H' s'.heap) (st : B.StaysIn s'.heap)
    (c1 : ∀ b o, s1.heap.get? b = some o → b ∉ frs X.stack → ∃ u, B.get? b = some u) (c2 : ∀ b o, H' b = some o → ∃ u, B.get? b = some u) (F2 : FlyD B X.stack e c dx fl g) (u : s'.heap.UpToSlots g) :
    Inv X pins σ (upd H' e (.ext (IsX e c dx))) { s' with heap := g } ∧ H' e = none := by
  obtain ⟨oe, vs, T, oT, ts, eo, hc, hx, dt, _⟩ := id F2.tr
  have nfe : e ∉ frs X.stack := fun z => by
    obtain ⟨_, o, q, n⟩ := F2.frames.mem z
    rw [eo] at q
    cases q
    exact n vs dt
  have neq : ∀ b o, s1.heap.get? b = some o → b ≠ e := fun b o q z => by
    subst z
    obtain ⟨v, hv⟩ := c1 b o q nfe
    rw [F2.new] at hv
    cases hv
  have ne' : H' e = none := by
    cases q : H' e with
    | none => rfl
    | some o =>
      obtain ⟨v, hv⟩ := c2 e o q
      rw [F2.new] at hv
      cases hv
  have tr : ∀ b o, H1 b = some o → b ≠ e := fun b o q => by
    obtain ⟨v, hv⟩ := there_of (I1.hok b o q)
    exact neq b v hv
  have bg : ∀ b o, s'.heap.get? b = some o → (∃ v, B.get? b = some v) → g.get? b = some o := fun b o q ⟨v, hv⟩ => by
    have z := st _ _ hv
    rw [q] at z
    cases z
    exact F2.stay _ _ hv
  have slot : ∀ b o, s1.heap.get? b = some o → H1 b = none → b ∈ frs X.stack → ∃ sl, g.get? b = some { o with slots := sl } := fun b o q n hb => by
    obtain ⟨sl, q1⟩ := un.slot b o q n hb (by simp)
    have nf : ∀ ws, o.data ≠ .fields ws := by
      obtain ⟨_, o', q', n'⟩ := I1.stack.mem hb
      rw [q] at q'
      cases q'
      exact n'
    obtain ⟨sl3, q3⟩ := u b _ q1 nf
    exact ⟨sl3, q3⟩
  have un2 : Un (frs X.stack) [] H1 (upd H' e (.ext (IsX e c dx))) s1.heap g := by
    refine ⟨fun b o q n hb _ => bg b o (un.keep b o q n hb (by simp)) (c1 b o q hb), fun b o q n hb _ => slot b o q n hb, fun b o q n _ => ?_, fun b o q _ => ?_, fun b xs q => ?_, fun b o xs q => ?_, fun b ps q => ?_⟩
    · rw [upd_ne (neq b o q)]
      exact un.free b o q n (by simp)
    · by_cases hb : b ∈ frs X.stack
      · obtain ⟨sl, z⟩ := slot b o q (I1.stkFree b hb) hb
        exact ⟨_, z⟩
      · obtain ⟨v, hv⟩ := c1 b o q hb
        exact ⟨v, F2.stay _ _ hv⟩
    · rw [upd_ne (tr b _ q)]
      exact un.tups b xs q
    · rw [upd_ne (tr b _ q)]
      exact un.frzs b o xs q
    · rw [upd_ne (tr b _ q)]
      exact un.tbls b ps q
  have hok1 : HOk X.prog X.w H' g := hok_in hok c2 st F2.stay
  have hok2 : HOk X.prog X.w (upd H' e (.ext (IsX e c dx))) g := fun b o q => by
    by_cases hb : b = e
    · subst hb
      rw [upd_same] at q
      cases q
      exact ⟨⟨oe, vs, eo, hc, hx, dt⟩, ⟨oe, eo⟩, fun h1 h2 ⟨o1, v1, q1, q2⟩ k => ⟨o1, v1, k _ q1, q2⟩⟩
    · rw [upd_ne hb] at q
      exact (hok1 b o q).stay (fun _ _ _ z => z) (fun b' z => by rw [upd_ne (ne_of_none z ne')]; exact z) fun b' xs z => by rw [upd_ne (ne_of_none z ne')]; exact z
  exact ⟨I1.call' (s' := { s' with heap := g }) os un2 hok2 bare (fun b z => absurd z (by simp)), ne'⟩
end
section
variable {X : Cx} {pins : List (Addr × Obj)} {σ : St} {H : Hp} {s : Shared} {M : Model} {A : Around} {E : Value → Shared → Prop} {Q : Unit → Shared → Prop}
end
end L2.Na




namespace L2.Na
open PySem PySem.Spec PyProof.Rows L2 L2.L3

noncomputable abbrev wishP (X : Cx) (pins : List (Addr × Obj)) (W : Value → Shared → Prop) : Cx := { X with xe := W, pn := X.pn ++ pins }
section
variable {X : Cx} {pins pins' : List (Addr × Obj)} {σ : St} {H : Hp} {s : Shared} {W : Value → Shared → Prop}
theorem ok_wishP (ok : X.Ok) : (wishP X pins W).Ok := ⟨ok.mod, ok.kind, ok.glob, ok.blt, ok.above, ok.inj, ok.has, ok.cab, ok.hd, ok.frames, ok.stk, ok.exf, ok.bs, ok.bsz, ok.noex, ok.exfs, ok.funs, ok.frf⟩
theorem ok_unP (ok : (wishP X pins W).Ok) : X.Ok := ⟨ok.mod, ok.kind, ok.glob, ok.blt, ok.above, ok.inj, ok.has, ok.cab, ok.hd, ok.frames, ok.stk, ok.exf, ok.bs, ok.bsz, ok.noex, ok.exfs, ok.funs, ok.frf⟩
theorem inv_wishP (I : Inv X pins σ H s) : Inv (wishP X pins W) [] σ H s := ⟨ok_wishP I.ok, I.os, I.bare, I.base, I.loc, I.cell, I.free, I.freeC, fun p hp => I.pin p (by simpa using hp), I.hok, I.len⟩
theorem inv_unP (I : Inv (wishP X pins W) pins' σ H s) : Inv X pins σ H s := ⟨ok_unP I.ok, I.os, I.bare, I.base, I.loc, I.cell, I.free, I.freeC, fun p hp => I.pin p (List.mem_append_left _ hp), I.hok, I.len⟩
theorem sp_unP {D : Ends} {f : Flow} {s' : Shared} (h : SP (wishP X pins W) pins' D f s') : SP X pins D f s' := by
  cases f with
  | next => obtain ⟨σ', H', I, q⟩ := h; exact ⟨σ', H', inv_unP I, q⟩
  | brk => obtain ⟨σ', H', I, q⟩ := h; exact ⟨σ', H', inv_unP I, q⟩
  | cont => obtain ⟨σ', H', I, q⟩ := h; exact ⟨σ', H', inv_unP I, q⟩
  | ret u => obtain ⟨v, σ', H', I, r, q⟩ := h; exact ⟨v, σ', H', inv_unP I, r, q⟩
end
theorem looks_ty {M : Model} {h : Heap} {e : Addr} {c : Value} {dx : Option Addr} (x : IsX e c dx h) : PySem.W.Looks M h (typeOf (.ref e)) c := by
  obtain ⟨oe, vs, eo, rfl, _, _⟩ := x
  exact (PySem.W.Looks.ld eo).andThen .now
end L2.Na



namespace L2.Na
open PySem PySem.Spec PyProof.Rows L2 L2.L3
section
variable {K : PySem.W.Frag}

noncomputable def hnd (h : ExceptHandler) : Option (Str × Pos × Str × Str × Pos × Str × Pos × Pos × Pos) := match h with
  | .ExceptHandler (some t) (some n) [st] hp => (match t with
    | .Name y tp => (match st with
      | .Assign [tg] v ap => (match tg with
        | .Name m mp => (match v with
          | .Name n' np => some (y, tp, n, m, mp, n', np, ap, hp)
          | _ => none)
        | _ => none)
      | _ => none)
    | _ => none)
  | _ => none
end
end L2.Na




namespace L2.Na
open PySem PySem.Spec PyProof.Rows PySem.W
section
variable {prog : Program} {w : World} {A : Around} {E : Value → Shared → Prop} {s : Shared} {K : Frag} {x D : Addr} {ox : Obj} {od : Option Obj} {name : Str}
end
end L2.Na




namespace L2.Na
open PySem PySem.Spec PyProof.Rows L2 L2.L3
theorem law_ofK {KF : PySem.W.Frag → Prop} {l : PySem.W.OpenLaw} {q : Program} {loose : List Str} {XP : (Str → Option Value) → Heap → Prop} {YP : World → Heap → Prop} {d : DefRec} {K : Params → PySem.W.Frag} {st : Stmt} {N : List Str} {k : Nat} {x : Str} {sp : PySem.W.Frag → Sp} (hn : l.most = some 63) (hdf : d.params.defaults = []) (hr : Room (k + 1) callerA)
    (hY : ∀ (w : World) (h : Heap), YP w h → (K w.params).In h) (hK : ∀ w : World, KF (K w.params)) (hd : d.name = "law") (b : ∀ K : PySem.W.Frag, List (SX K)) (S : FnScope N [x] (defScope st)) (hm : ∀ K, mSs (b K) ⟨N, (defScope st).names, true⟩ (defBody st) = true)
    (hb : ∀ (kV doc pm : Value) (an : Option Addr) (cdv ct : Value) (u : Value), bindArgs (PySem.W.fnOf "law" "law" (defArgs st) (defBody st) (defScope st) .none kV doc pm an cdv ct) ⟨[u], []⟩ = pure [(x, u)])
    (len : ∀ K vs H Q E, sp K vs H Q E → vs.length = 1) (t : ∀ K, KF K → ∀ vs H Q E, sp K vs H Q E → tSs (b K) (fun _ => E) { nx := fun _ H' => Q .non H', rt := Q } (start N vs) H)
    (F : ∀ (w : World) (h : Heap), (K w.params).In h → FD (K w.params) "law" st ∧ AllN (K w.params) blts)
    (hq : ∀ (w : World) (mg : Str → Option Value) (h base : Heap), KF (K w.params) → (K w.params).In h → h.Ns mainGlobals mg → (∀ x ∈ blts, mg x = none) → ∀ A, Room k A → qSs (b (K w.params)) ⟨l.prog, w, K w.params, mg, base, A⟩)
    (hsp : ∀ (K : PySem.W.Frag) (H : Hp) (a : Addr) (ns : List Int), KF K → ns.length ≤ 63 → SqL K H a (ns.map V.int) → sp K [.ref a] H (fun v _ => v = .bl true) fun _ _ _ => False) :
    PySem.W.WalkO q loose XP YP l.row.toRowW d [] (fun f vs => PySem.call f vs) := by
  refine L2.walk_of (n := 63) (k := k + 1) (x := x) (CX := fun w => CXF l.prog w) (sp := fun w => sp (K w.params)) hn (by decide) hdf hr hY (fun w mg fa h KX G hmg => ?_) (fun w H a ns hl _ hS => hsp _ H a ns (hK w) hl hS) fun _ _ _ _ _ z => CXF.no z
  obtain ⟨⟨f, fd, Fn, a⟩, bl⟩ := F w h KX
  rw [hd] at hmg
  have e := hmg.symm.trans (PySem.W.mg_of KX G a)
  cases e
  refine ⟨fd, fun s u => ?_, fun base _ _ => ?_⟩
  · obtain ⟨oc, od, kV, doc, pm, an, cdv, ct, osl, rfl, lk, hcd⟩ := Fn.ex
    exact .of_eq (hb kV doc pm an cdv ct u)
  · exact def_ok Fn (b (K w.params)) S (hm _) (all_none KX G bl) (hq w mg h base (hK w) KX G (all_none KX G bl)) (fun vs H Q E z => len _ vs H Q E z) (t _ (hK w))
end L2.Na




namespace L2.Na
open PySem PySem.Spec PyProof.Rows L2 L2.L3
section
variable {prog : Program} {w : World} {A : Around} {E : Value → Shared → Prop} {h : Heap} {g : Array GenState} {d : Drawn} {t : Nat} {os : OsState}
variable {nm q : Str} {C N : Addr} {bs bm bmB : List Value} {hdct : Bool} {sn : List Str} {sub : List Value} {ab : Bool} {col : Option Bool} {dd : Option Addr} {k0 k1 k2 k3 k5 : Option Value} {B newId initId : String}
theorem type_call_initT (F : ExcBaseFacts B newId initId bmB) (T : OwnTail h bmB bm) {mN : Str → Option Value} {rest : List Value} {fI : Addr} {oI : Obj} {Q : Fin → Shared → Prop}
    (hC : h.get? C = some (excClassObj nm q C N bs bm hdct sn sub ab col dd k0 k1 k2 k3 k5 newId)) (hn : h.Ns N mN) (hi : mN "__init__" = some (.ref fI)) (hfI : h.get? fI = some oI) (hfc : oI.cls = .type "function")
    (hq : ∀ h' e, Heap.MadeExcOf h h' e (.ref C) rest → wpAny (model prog w) A (PySem.call (.ref fI) (.ref e :: rest)) (fun r s' => r = .none ∧ Q (.done (.ret (.ref e))) s') E ⟨h', g, d, t, os⟩) (hrest : rest.length ≤ sizeLine) :
    wpAny (model prog w) A (Builtin.«type.__call__» ⟨.ref C :: rest, []⟩) Q E ⟨h, g, d, t, os⟩ := by
  repeat (first | with_reducible refine wpAny_loadPart_at hC ?_ | with_reducible refine wpAny_madeBy_exc hC ?_ | wp_step)
  refine codeAny_call_builtin_code (Code.quiet_builtin _ F.quiet) (wpAny_check_new_subT F T hC ?_)
  refine codeAny_exc_new_subT F T hC ?_ hrest
  show wpAny _ _ _ _ _ _
  have kp : ∀ b o, h.get? b = some o → ((h.push { cls := .type "tuple", data := .seq rest.toArray }).push { cls := .ref C, data := .fields #[.ref h.objs.size, .none, .none, .none, .bool false, .none] }).get? b = some o := fun b o e => Heap.get?_push_of_some _ (Heap.get?_push_of_some _ e)
  have hget : ((h.push { cls := .type "tuple", data := .seq rest.toArray }).push { cls := .ref C, data := .fields #[.ref h.objs.size, .none, .none, .none, .bool false, .none] }).get? (h.objs.size + 1) = some ({ cls := .ref C, data := .fields #[.ref h.objs.size, .none, .none, .none, .bool false, .none] } : Obj) := by heap_get
  have hcC : (Value.ref C :: bm).contains (.ref C) = true := by simp
  have hC₁ := kp _ _ hC
  unfold isInstance
  repeat (first | with_reducible refine wpAny_loadPart_at hget ?_ | (with_reducible refine wpAny_isSubtype_exc hC₁ ?_; rw [hcC]) | wp_step)
  show wpAny _ _ (typeLookup (.ref C) _) _ _ _
  refine wpAny_typeLookup_tail hC₁ (hn.keeps kp) (T.keeps kp) F.mroIs F.init.lookup ?_
  rw [hi]
  refine wpAny_holding (wpAny_bind ?_)
  unfold bindSpecial
  refine wpAny_bind (wpAny_typeOf (T := "function") ⟨_, kp _ _ hfI, hfc⟩ ?_)
  rw [if_pos (by decide)]
  refine wpAny_pure (wpAny_bind (wpAny_mono (hq _ (h.objs.size + 1) ⟨kp, Heap.get?_none_of_le (Nat.le_succ _), h.objs.size, hget, Heap.get?_none_of_le (Nat.le_refl _), ?_⟩) (fun r s' hr => ?_) fun _ _ x => x))
  · exact Heap.get?_push_of_some _ (Heap.get?_push_at rfl rfl)
  · obtain ⟨rfl, hQ⟩ := hr
    wp_walk
    exact hQ
theorem call_initT (F : ExcBaseFacts B newId initId bmB) (T : OwnTail h bmB bm) {mN : Str → Option Value} {rest : List Value} {fI : Addr} {oI : Obj} {Q : Value → Shared → Prop}
    (hC : h.get? C = some (excClassObj nm q C N bs bm hdct sn sub ab col dd k0 k1 k2 k3 k5 newId)) (hn : h.Ns N mN) (hi : mN "__init__" = some (.ref fI)) (hfI : h.get? fI = some oI) (hfc : oI.cls = .type "function")
    (hq : ∀ h' e, Heap.MadeExcOf h h' e (.ref C) rest →
      wpAny (model prog w) (A.under (.builtin "type.__call__" ⟨.ref C :: rest, []⟩)) (PySem.call (.ref fI) (.ref e :: rest)) (fun r s' => r = .none ∧ Q (.ref e) s') E ⟨h', g, d, t, os⟩) (hrest : rest.length ≤ sizeLine) :
    wpAny (model prog w) A (PySem.call (.ref C) rest) Q E ⟨h, g, d, t, os⟩ := by
  have f1 := tc_lookup
  have f2 := tc_bind (.ref C)
  have hT : (⟨h, g, d, t, os⟩ : Shared).TypeIs (.ref C) "type" := ⟨_, hC, rfl⟩
  refine wpAny_call (codeAny_of_tree ?_)
  show wpAny _ _ (callAny (.ref C) _) _ _ _
  repeat (any_goals (first | assumption | with_reducible refine wpAny_loadPart_at hC ?_ | wp_step))
  refine ⟨rfl, ?_⟩
  refine codeAny_call_builtin_at (Code.quiet_builtin _ (by decide +kernel)) entry_typeCall (wpAny_check_type_call_sub hC (type_call_initT (hrest := hrest) F T hC hn hi hfI hfc fun h' e hm => ?_))
  exact hq h' e hm
end
section
variable {prog : Program} {w : World} {A : Around} {E : Value → Shared → Prop} {s : Shared} {env : Env}
variable {nm q : Str} {C N : Addr} {bs bm bmB : List Value} {hdct : Bool} {sn : List Str} {sub : List Value} {ab : Bool} {col : Option Bool} {dd : Option Addr} {k0 k1 k2 k3 k5 : Option Value} {B newId initId : String}
theorem raiseStmt_made {M : Model} {A : Around} {E : Value → Shared → Prop} {x : Sem Value} {Q : Flow → Shared → Prop} (hbase : bm.contains (.type "BaseException") = true) (hh : A.handled = none)
    (h : wpAny M A x (fun v s₁ => ∃ e oe, v = .ref e ∧ s₁.heap.get? C = some (excClassObj nm q C N bs bm hdct sn sub ab col dd k0 k1 k2 k3 k5 newId) ∧ s₁.heap.get? e = some oe ∧ oe.cls = .ref C ∧ (∃ vs, oe.data = .fields vs ∧ vs[1]? = some .none) ∧ E (.ref e) s₁) E s) :
    wpAny M A (raiseStmt env (some x) none) Q E s := by
  have hcB : (Value.ref C :: bm).contains (.type "BaseException") = true := by rw [List.contains_cons, hbase, Bool.or_true]
  unfold raiseStmt
  refine wpAny_bind (wpAny_mono h (fun v s₁ h₁ => ?_) fun _ _ x => x)
  obtain ⟨e, ⟨oc, od, odt, osl⟩, rfl, hC, he, hc, ⟨vs, hv, v1⟩, hE⟩ := h₁
  dsimp only at hc hv
  subst hc hv
  obtain ⟨hp, g, d, tk, os⟩ := s₁
  repeat (first | with_reducible refine wpAny_loadPart_at he ?_ | with_reducible refine wpAny_loadPart_at hC ?_ | (with_reducible refine wpAny_isSubtype_exc hC ?_; rw [hcB]) | wp_step)
  rw [v1]
  refine wpAny_pure ?_
  rw [if_neg (show ¬ ((Value.none != Value.none) = true) by decide)]
  exact wpAny_pure (wpAny_raiseNew_none hh hE)

theorem raise_initT (F : ExcBaseFacts B newId initId bmB) {mN : Str → Option Value} {x : Str} {np cpos pos : Pos} {args : List Expr} {Q : Flow → Shared → Prop} {fI : Addr}
    (hbase : bm.contains (.type "BaseException") = true) (hh : A.handled = none) (hplain : (backTo cpos (starEach args env)).any (·.1) = false) (hi : mN "__init__" = some (.ref fI))
    (h : wpAny (model prog w) A (eval (.Name x np) env) (fun f s₁ => f = .ref C ∧ wpAny (model prog w) A (evalArgs (.ref C) true (backTo cpos (starEach args env)) [])
      (fun a s₂ => a.kw = [] ∧ a.pos.length ≤ sizeLine ∧ s₂.heap.get? C = some (excClassObj nm q C N bs bm hdct sn sub ab col dd k0 k1 k2 k3 k5 newId) ∧ s₂.heap.Ns N mN ∧ OwnTail s₂.heap bmB bm ∧ (∃ oI, s₂.heap.get? fI = some oI ∧ oI.cls = .type "function") ∧
        ∀ h' e, Heap.MadeExcOf s₂.heap h' e (.ref C) a.pos → wpAny (model prog w) (A.under (.builtin "type.__call__" ⟨.ref C :: a.pos, []⟩)) (PySem.call (.ref fI) (.ref e :: a.pos)) (fun r s' => r = .none ∧ s'.heap.get? C = some (excClassObj nm q C N bs bm hdct sn sub ab col dd k0 k1 k2 k3 k5 newId) ∧
          (∃ oe vs, s'.heap.get? e = some oe ∧ oe.cls = .ref C ∧ oe.data = .fields vs ∧ vs[1]? = some .none) ∧ E (.ref e) s') E { s₂ with heap := h' }) E s₁) E s) :
    wpAny (model prog w) A (exec (.Raise (some (.Call (.Name x np) args [] cpos)) none pos) env) Q E s := by
  rw [arm_exec_Raise]
  first
    | refine wpAny_bind (wpAny_standAt (raiseStmt_made (C := C) (nm := nm) (q := q) (N := N) (bs := bs) (bm := bm) (hdct := hdct) (sn := sn) (sub := sub) (ab := ab) (col := col) (dd := dd) (k0 := k0) (k1 := k1) (k2 := k2) (k3 := k3) (k5 := k5) (newId := newId) hbase hh (wpAny_bind (wpAny_mono (wpAny_Call_ofName (wpAny_mono h (fun f s₁ h₁ => ?_) fun _ _ x => x)) (fun v s₃ h₃ => wpAny_bind (wpAny_standAt (wpAny_pure h₃))) fun _ _ x => x))))
    | (simp only [evalOpt, Option.map]; refine wpAny_bind (wpAny_standAt (raiseStmt_made (C := C) (nm := nm) (q := q) (N := N) (bs := bs) (bm := bm) (hdct := hdct) (sn := sn) (sub := sub) (ab := ab) (col := col) (dd := dd) (k0 := k0) (k1 := k1) (k2 := k2) (k3 := k3) (k5 := k5) (newId := newId) hbase hh (wpAny_bind (wpAny_mono (wpAny_Call_ofName (wpAny_mono h (fun f s₁ h₁ => ?_) fun _ _ x => x)) (fun v s₃ h₃ => wpAny_bind (wpAny_standAt (wpAny_pure h₃))) fun _ _ x => x)))))
    | (refine wpAny_bind (wpAny_standAt (raiseStmt_made (C := C) (nm := nm) (q := q) (N := N) (bs := bs) (bm := bm) (hdct := hdct) (sn := sn) (sub := sub) (ab := ab) (col := col) (dd := dd) (k0 := k0) (k1 := k1) (k2 := k2) (k3 := k3) (k5 := k5) (newId := newId) hbase hh ?_)); refine wpAny_bind (wpAny_mono (wpAny_Call_ofName (wpAny_mono h (fun f s₁ h₁ => ?_) fun _ _ x => x)) (fun v s₃ h₃ => wpAny_bind (wpAny_standAt (wpAny_pure h₃))) fun _ _ x => x))
  obtain ⟨rfl, h₁⟩ := h₁
  unfold callWith
  refine wpAny_bind (wpAny_holding (wpAny_mono h₁ (fun a s₂ h₂ => wpAny_bind (wpAny_standAt ?_)) fun _ _ x => x))
  obtain ⟨apos, akw⟩ := a
  obtain ⟨hkw, hlen, hC, hn, T, ⟨oI, hfI, hfc⟩, h₂⟩ := h₂
  obtain rfl : akw = [] := hkw
  obtain ⟨hp, g, d, tk, os⟩ := s₂
  simp only [hplain]
  refine wpAny_bind (wpAny_keeperOf_exc hC ?_)
  refine wpAny_bind (call_initT (hrest := hlen) F T hC hn hi hfI hfc fun h' e hm => wpAny_mono (h₂ h' e hm) (fun r s' z => ⟨z.1, wpAny_bind (wpAny_holding (wpAny_point (wpAny_pure ?_)))⟩) fun _ _ z => z)
  obtain ⟨_, z1, ⟨oe, vs, z2, z3, z4, z6⟩, z5⟩ := z
  exact ⟨e, oe, rfl, z1, z2, z3, ⟨vs, z4, z6⟩, z5⟩
end
end L2.Na




namespace L2.Na
open PySem PySem.Spec PyProof.Rows L2 L2.L3
open Builtin Builtin.ObjectAttr
section
variable {prog : Program} {w : World} {A : Around} {E : Value → Shared → Prop} {h : Heap} {g : Array GenState} {d : Drawn} {t : Nat} {os : OsState} {K : PySem.W.Frag}
variable {nm q : Str} {C N e : Addr} {bs bm : List Value} {sn : List Str} {sub : List Value} {ab : Bool} {col : Option Bool} {dd : Option Addr} {k0 k1 k2 k3 k5 : Option Value} {newId : String} {fld : Str} {v : Value} {oe : Obj}
theorem refuse_tail (self : Value) {tl : List Value} (T : OwnTail h mroVE tl) : refuseLoop self "__setattr__" tl = pure () := by
  induction T with
  | base => exact F.store_ValueError.passes self
  | own _ _ _ _ ih => rw [refuseLoop_ref]; exact ih
theorem look_tl {M : Model} {c : Value} {n : Str} {r : Option Value} {Q : Option Value → Shared → Prop} (X : K.In h) (e : PySem.W.findIn K c n = some r) (hq : Q r ⟨h, g, d, t, os⟩) : wpAny M A (typeLookup c n) Q E ⟨h, g, d, t, os⟩ :=
  PySem.W.looks_findIn X e _ _ _ _ (fun _ _ z => z) hq
theorem check_new {M : Model} {nameV : Value} {Q : Unit → Shared → Prop} (hC : h.get? C = some (excClassObj nm q C N bs bm true sn sub ab col dd k0 k1 k2 k3 k5 newId)) (T : OwnTail h mroVE bm)
    (he : h.get? e = some oe) (hc : oe.cls = .ref C) (hq : Q () ⟨h, g, d, t, os⟩) : wpAny M A (checkBuiltinCall "object.__setattr__" ⟨[.ref e, nameV, v], []⟩) Q E ⟨h, g, d, t, os⟩ := by
  have SF := F.store_ValueError
  have hcB : (Value.ref C :: bm).contains (.type "object") = true := by rw [List.contains_cons, T.hasType SF.hasOwner, Bool.or_true]
  have ha := SF.args (.ref e) nameV v
  simp only [checkBuiltinCall, SF.kind, SF.split]
  refine wpAny_bind ?_
  unfold isInstance
  repeat (first | (with_reducible refine wpAny_loadPart_at he ?_; rw [hc]) | (with_reducible refine wpAny_isSubtype_exc hC ?_; rw [hcB]) | wp_step)
  first
    | exact hq
    | cases hsig : Manifest.signature? "object.__setattr__" with
      | none => exact wpAny_pure hq
      | some sig =>
        simp only [argsOk, hsig] at ha
        have h2 : Bind.checkArgs "object.__setattr__" sig ⟨[.ref e, nameV, v], []⟩ = pure () := ha
        show wpAny M A (Bind.checkArgs "object.__setattr__" sig ⟨[.ref e, nameV, v], []⟩) Q E _
        rw [h2]; exact wpAny_pure hq
theorem entry_new {tk : Tok} {Q : PySem.Fin → Shared → Prop} (X : K.In h) (hC : h.get? C = some (excClassObj nm q C N bs bm true sn sub ab col dd k0 k1 k2 k3 k5 newId)) (T : OwnTail h mroVE bm)
    (hfl : PySem.W.findIn K (.ref C) fld = some none) (he : h.get? e = some oe) (hc : oe.cls = .ref C) (hdn : oe.dict = none) (hnc : ∀ c, oe.data ≠ .cls c)
    (hq : ∀ h' tk' dx, (∀ b o, b ≠ e → h.get? b = some o → h'.get? b = some o) → h.get? dx = none → dx ≠ e → h'.get? e = some { cls := oe.cls, dict := some dx, data := oe.data, slots := oe.slots } →
      h'.Ns1 dx (fun y => if y = fld then some v else none) → Q (.done (.ret .none)) ⟨h', g, d, tk', os⟩) :
    wpAny (model prog w) A (Builtin.«object.__setattr__» ⟨[.ref e, .str fld tk, v], []⟩) Q E ⟨h, g, d, t, os⟩ := by
  have hpass := refuse_tail (.ref e) T
  unfold Builtin.«object.__setattr__»
  repeat (first | rw [refuse_eq] | (rw [refuseLoop_ref, hpass]) | (with_reducible refine wpAny_loadPart_at he ?_; rw [hc]) | with_reducible refine wpAny_mroOf_exc hC ?_ | (with_reducible refine look_tl X hfl ?_) | wp_step)
  rw [hdn, if_neg (by simp [typeHasDict])]
  split
  · rename_i hcd
    cases hcd
  split
  · rename_i c hcd
    exact absurd hcd (hnc c)
  · have hx₁ : (h.push { cls := .type "dict", data := .dict #[] }).get? e = some oe := Heap.get?_push_of_some _ he
    have hxs : e ≠ h.objs.size := Nat.ne_of_lt (Heap.lt_size he)
    refine wpAny_bind (wpAny_alloc' ?_)
    refine wpAny_bind (wpAny_update' hx₁ ?_)
    refine wpAny_pure ?_
    have hgd : ((h.push { cls := .type "dict", data := .dict #[] }).update e fun o => { cls := o.cls, dict := some h.objs.size, data := o.data, slots := o.slots }).get? h.objs.size
        = some ({ cls := .type "dict", data := .dict #[] } : Obj) := (Heap.get?_update_ne _ _ _ _ hxs.symm).trans (Heap.get?_push_at rfl rfl)
    have hnd : ((h.push { cls := .type "dict", data := .dict #[] }).update e fun o => { cls := o.cls, dict := some h.objs.size, data := o.data, slots := o.slots }).Ns h.objs.size (fun _ => none) :=
      ⟨_, #[], _, hgd, rfl, fun e he => absurd he (by simp), fun _ => rfl⟩
    show wpAny _ _ (storeInDict h.objs.size (.str fld tk) fld v) _ _ _
    unfold storeInDict newKeyGuard
    refine wpAny_bind (wpAny_pure (wpAny_bind (wpAny_nsSet1 (Heap.Ns1.of_empty hnd) fun h' hn' hs => ?_)))
    obtain ⟨oD, esD, epD, hoD, hdD, hcD⟩ := hn'.count (Within.cons fld v Within.nil)
    refine wpAny_bind (wpAny_lookBehind hoD (by rw [hdD]; exact pastItsLine_dict (Nat.le_trans hcD (by rw [List.length_cons, List.length_nil, sizeLine_eq]; omega))) ?_)
    wp_walk
    refine hq h' _ h.objs.size (fun b ob hbx hb => ?_) (Heap.get?_none_of_le (Nat.le_refl _)) hxs.symm ?_ hn'
    · exact (hs.2 b (Nat.ne_of_lt (Heap.lt_size hb))).trans ((Heap.get?_update_ne _ _ _ _ hbx).trans (Heap.get?_push_of_some _ hb))
    · refine (hs.2 e hxs).trans (Heap.get?_update_self _ hx₁ ?_)
      have hfr := (Heap.get?_some_iff.mp he).2
      obtain ⟨oc, od, odt, osl⟩ := oe
      cases odt <;> first | rfl | exact hfr
theorem store_new {Q : Unit → Shared → Prop} (X : K.In h) (hC : h.get? C = some (excClassObj nm q C N bs bm true sn sub ab col dd k0 k1 k2 k3 k5 newId)) (T : OwnTail h mroVE bm)
    (hsa : PySem.W.findIn K (.ref C) "__setattr__" = some (some (.builtin "object.__setattr__"))) (hfl : PySem.W.findIn K (.ref C) fld = some none)
    (he : h.get? e = some oe) (hc : oe.cls = .ref C) (hdn : oe.dict = none) (hnc : ∀ c, oe.data ≠ .cls c)
    (hq : ∀ h' tk' dx, (∀ b o, b ≠ e → h.get? b = some o → h'.get? b = some o) → h.get? dx = none → dx ≠ e → h'.get? e = some { cls := oe.cls, dict := some dx, data := oe.data, slots := oe.slots } →
      h'.Ns1 dx (fun y => if y = fld then some v else none) → Q () ⟨h', g, d, tk', os⟩) :
    wpAny (model prog w) A (setAttr (.ref e) fld v) Q E ⟨h, g, d, t, os⟩ := by
  have SF := F.store_ValueError
  have f3 := SF.slot.bind (.ref e)
  unfold setAttr callSpecial? specialOf
  repeat (any_goals (first | assumption | (with_reducible refine wpAny_loadPart_at he ?_; rw [hc]) | (with_reducible refine look_tl X hsa ?_) | wp_step))
  refine codeAny_call_builtin SF.slot.plain SF.entry (check_new hC T he hc (entry_new X hC T hfl he hc hdn hnc fun h' tk' dx q1 q2 q3 q4 q5 => ?_))
  repeat (any_goals (first | assumption | wp_step))
  exact hq h' tk' dx q1 q2 q3 q4 q5
end
end L2.Na




namespace L2.Na
open PySem PySem.Spec PyProof.Rows L2 L2.L3

noncomputable def IniFn (K : PySem.W.Frag) (f : Addr) (slf prm fld : Str) : Prop :=
  ∃ (name qual : Str) (params : Arguments) (scope : Scope) (dV kV doc pm cdv ct : Value) (an od : Option Addr) (osl : Array (Option Value)) (p1 p2 p3 p4 : Pos),
    K.lookup f = some ⟨.type "function", od, .func (PySem.W.fnOf name qual params [.Assign [.Attribute (.Name slf p1) fld p2] (.Name prm p3) p4] scope dV kV doc pm an cdv ct), osl⟩ ∧ PySem.W.codeIn K cdv qual = true ∧
    (scope.kind = .function ∧ scope.isCoroutine = false ∧ scope.isGenerator = false) ∧ (scope.names.lookup slf = some .local ∧ scope.names.lookup prm = some .local) ∧ ((slf == ("__debug__" : Str)) = false ∧ (prm == ("__debug__" : Str)) = false ∧ slf ≠ prm) ∧
    ∀ (s : Shared) (u v : Value), K.In s.heap → PySem.BindsTo s (PySem.W.fnOf name qual params [.Assign [.Attribute (.Name slf p1) fld p2] (.Name prm p3) p4] scope dV kV doc pm an cdv ct) ⟨[u, v], []⟩ [(slf, u), (prm, v)]
section
variable {prog : Program} {w : World} {A : Around} {E : Value → Shared → Prop} {s : Shared} {K : PySem.W.Frag}
variable {nm q : Str} {C N e f : Addr} {bs bm : List Value} {sn : List Str} {sub : List Value} {ab : Bool} {col : Option Bool} {dd : Option Addr} {k0 k1 k2 k3 k5 : Option Value} {newId : String} {slf prm fld : Str} {v : Value} {oe : Obj}
theorem init_run {Q : Value → Shared → Prop} (X : K.In s.heap) (I : IniFn K f slf prm fld) (hlim : s.heap.NoLimit) (hroom : A.depth < recursionLimit)
    (hC : s.heap.get? C = some (excClassObj nm q C N bs bm true sn sub ab col dd k0 k1 k2 k3 k5 newId)) (T : OwnTail s.heap mroVE bm)
    (hsa : PySem.W.findIn K (.ref C) "__setattr__" = some (some (.builtin "object.__setattr__"))) (hfl : PySem.W.findIn K (.ref C) fld = some none)
    (he : s.heap.get? e = some oe) (hc : oe.cls = .ref C) (hdn : oe.dict = none) (hnc : ∀ c, oe.data ≠ .cls c)
    (hq : ∀ h' tk' dx, (∀ b o, b ≠ e → s.heap.get? b = some o → h'.get? b = some o) → s.heap.get? dx = none → dx ≠ e → h'.get? e = some { cls := oe.cls, dict := some dx, data := oe.data, slots := oe.slots } →
      h'.Ns1 dx (fun y => if y = fld then some v else none) → Q .none { s with heap := h', toks := tk' }) :
    wpAny (model prog w) A (PySem.call (.ref f) [.ref e, v]) Q E s := by
  obtain ⟨name, qual, params, scope, dV, kV, doc, pm, cdv, ct, an, od, osl, p1, p2, p3, p4, ho, hcd, ⟨hk, hco, hgen⟩, ⟨l1, l2⟩, ⟨d1, d2, ne⟩, hb⟩ := I
  refine wpAny_call (Att.call_fn X hlim ho hcd hroom (hb s (.ref e) v X) ?_ (fun s₁ x => ?_) hco hgen hk)
  · simp [l1, l2]
  have k1 : (envOfC qual scope s.heap.objs.size f cdv).kindOf slf = some .local := l1
  have k2 : (envOfC qual scope s.heap.objs.size f cdv).kindOf prm = some .local := l2
  have m1 : bindL (envOfC qual scope s.heap.objs.size f cdv).kindOf [(slf, .ref e), (prm, v)] (fun _ => none) slf = some (.ref e) := by simp [bindL, k1, k2, ne]
  have m2 : bindL (envOfC qual scope s.heap.objs.size f cdv).kindOf [(slf, .ref e), (prm, v)] (fun _ => none) prm = some v := by simp [bindL, k1, k2]
  refine wpAny_execs_cons (plainObj_wpAny_Assign_Attribute (NameLC (s₀ := s) (env := envOfC qual scope s.heap.objs.size f cdv) x hk k2 m2 (NameLC (s₀ := s) (env := envOfC qual scope s.heap.objs.size f cdv) x hk k1 m1 ?_ d1) d2) rfl)
  obtain ⟨h₁, tk, rfl, kp⟩ := x.done
  have kp' : ∀ b o, s.heap.get? b = some o → h₁.get? b = some o := kp
  obtain ⟨h0, g, dr, t0, os⟩ := s
  refine store_new (X.keeps kp') (kp' _ _ hC) (T.keeps kp') hsa hfl (kp' _ _ he) hc hdn hnc fun h' tk' dx q1 q2 q3 q4 q5 => wpAny_execs_nil ?_
  exact hq h' tk' dx (fun b o hb eo => q1 b o hb (kp' b o eo)) (by
    cases z : h0.get? dx with
    | none => rfl
    | some o => rw [kp' _ _ z] at q2; cases q2) q3 q4 q5
end
end L2.Na
namespace L2.Na
open PySem PySem.Spec PyProof.Rows L2 L2.L3
noncomputable def excI (K : PySem.W.Frag) (C f : Addr) : Bool := match K.lookup C with
  | some ⟨.type "type", _, .cls cd, sl⟩ => (match cd.mro, sl.toList with
    | .ref C' :: bm, [_, _, _, _, some (.builtin n), _] => C' == C && n == "ValueError.__new__" && !cd.hasDel && PySem.W.tailIn K mroVE bm && PySem.W.nsOkIn K cd.ns && (PySem.W.nsIn K cd.ns "__init__" == some (some (.ref f)) && cd.hasDict)
    | _, _ => false)
  | _ => false
noncomputable def iniAt (K : PySem.W.Frag) (x : Str) : Addr := match PySem.W.findIn K (.ref (clsAt K x)) "__init__" with
  | some (some (.ref f)) => f
  | _ => 0
structure IniK (K : PySem.W.Frag) (x slf prm fld : Str) : Prop where
  at_ : PySem.W.nsIn K mainGlobals x = some (some (.ref (clsAt K x)))
  exc : excI K (clsAt K x) (iniAt K x) = true
  sa : PySem.W.findIn K (.ref (clsAt K x)) "__setattr__" = some (some (.builtin "object.__setattr__"))
  fl : PySem.W.findIn K (.ref (clsAt K x)) fld = some none
  fn : IniFn K (iniAt K x) slf prm fld
section
variable {K : PySem.W.Frag}
theorem ns_some_of {h : Heap} {N : Addr} {mg : Str → Option Value} {n : Str} {v : Value} (X : K.In h) (G : h.Ns N mg) (e : PySem.W.nsIn K N n = some (some v)) : mg n = some v := by
  obtain ⟨o, es, ep, ho, hd, _, hf⟩ := G
  unfold PySem.W.nsIn at e
  split at e
  · rename_i c d es' n' sl q
    have z := X _ _ q
    rw [ho] at z
    cases z
    cases hd
    split at e
    · rename_i en he
      cases e
      rw [← hf]
      unfold nsFind findBy
      rw [← Array.find?_toList, he]
      rfl
    · split at e <;> cases e
  · cases e
theorem ini_obj {C f : Addr} {h : Heap} (q : excI K C f = true) (X : K.In h) : ∃ bm N nm q bs sn sub ab col dd k0 k1 k2 k3 k5 mN, h.get? C = some (excClassObj nm q C N bs bm true sn sub ab col dd k0 k1 k2 k3 k5 "ValueError.__new__") ∧ h.Ns N mN ∧ mN "__init__" = some (.ref f) ∧ OwnTail h mroVE bm := by
  unfold excI at q
  split at q
  · rename_i dd cd sl ho
    split at q
    · rename_i C' bm k0 k1 k2 k3 n k5 hm hs
      simp only [Bool.and_eq_true, beq_iff_eq, Bool.not_eq_true'] at q
      obtain ⟨⟨⟨⟨⟨rfl, rfl⟩, hdel⟩, ht⟩, hok⟩, hni, hhd⟩ := q
      obtain ⟨nm, bs, mro, ns, qn, hd, sn, sub, ab, col, del⟩ := cd
      obtain ⟨l⟩ := sl
      dsimp only at hm hs hdel hok hni hhd
      subst hm hdel hs hhd
      exact ⟨bm, ns, nm, qn, bs, sn, sub, ab, col, dd, k0, k1, k2, k3, k5, _, X _ _ ho, .of_isNs (PySem.W.isNs_of_in X hok), ns_some_of X (.of_isNs (PySem.W.isNs_of_in X hok)) hni, PySem.W.tail_of_in X ht⟩
    · cases q
  · cases q
theorem Un.laid' {fs ex : List Addr} {H : Hp} {h h' : Heap} {a : Addr} {o : HO} (k : ∀ b u, h.get? b = some u → h'.get? b = some u) (hp : h.get? a = none) (hn : H a = none) : Un fs ex H (upd H a o) h h' where
  keep := fun b u q _ _ _ => k b u q
  slot := fun b u q _ _ _ => ⟨u.slots, k b u q⟩
  free := fun b u q n _ => by rw [upd_ne (fun z => by rw [z, hp] at q; cases q)]; exact n
  there := fun b u q _ => ⟨u, k b u q⟩
  tups := fun b xs q => by rw [upd_ne (ne_of_none q hn)]; exact q
  frzs := fun b u xs q => by rw [upd_ne (ne_of_none q hn)]; exact q
  tbls := fun b ps q => ⟨#[], by rw [upd_ne (ne_of_none q hn), q]; simp⟩
theorem HOk.none_of {P : Program} {w : World} {H : Hp} {h : Heap} {a : Addr} (x : HOk P w H h) (e : h.get? a = none) : H a = none := by
  cases q : H a with
  | none => rfl
  | some o =>
    obtain ⟨u, hu⟩ := there_of (x a o q)
    rw [e] at hu
    cases hu
theorem HOk.laid' {P : Program} {w : World} {H : Hp} {h h' : Heap} {a : Addr} {o : HO} (x : HOk P w H h) (k : ∀ b u, h.get? b = some u → h'.get? b = some u) (hn : H a = none) (new : ObjOk P w (upd H a o) h' a o) : HOk P w (upd H a o) h' := fun b u e => by
  by_cases hb : b = a
  · subst hb; rw [upd_same] at e; cases e; exact new
  · rw [upd_ne hb] at e
    exact (x b u e).stay (fun c v _ q => k c v q) (fun c q => by rw [upd_ne (ne_of_none q hn)]; exact q) fun c xs q => by rw [upd_ne (ne_of_none q hn)]; exact q

noncomputable def one (P : V → Hp → Prop) : List V → Hp → Prop
  | [v], H => P v H
  | _, _ => False
theorem one_of {P : V → Hp → Prop} {vs : List V} {H : Hp} (h : one P vs H) : ∃ v, vs = [v] ∧ P v H := by
  cases vs with
  | nil => exact h.elim
  | cons x xs =>
    cases xs with
    | nil => exact ⟨x, rfl, h⟩
    | cons _ _ => exact h.elim

noncomputable def raiseI (x slf prm fld : Str) (a : EX K) : SX K where
  t := fun E _ σ H => a.t E σ H fun v H1 => ∀ dx, H1 dx = none → E σ (.ref (clsAt K x)) (some dx) (upd H1 dx (.xd [(fld, v)]))
  m := fun C s => match s with
    | .Raise (some (.Call (.Name y _) es [] _)) none _ => glB C x y && mAs [a] C es
    | _ => false
  q := fun R => (R.mg x = some (.ref (clsAt K x)) ∧ IniK K x slf prm fld ∧ ∃ k, Room k R.A) ∧ a.q R
  ok := fun X C E s hK G hE hq hm => by
    subst hK
    split at hm
    · rename_i y py es p pos
      simp only [Bool.and_eq_true] at hm
      obtain ⟨h1, h2⟩ := hm
      have e := glB_eq h1
      subst e
      obtain ⟨g, d⟩ := glB_gl G h1
      obtain ⟨⟨hg, ek, kk, rm⟩, hqa⟩ := hq
      cases es with
      | nil => cases h2
      | cons e es =>
        intro pins s σ H D I h
        have st := shp_star (env := X.env) (es := es) (a.sok C e (mAs_cons h2).1)
        have pl := as_plain (env := X.env) (pos := p) [] es (mAs_cons h2).2
        obtain ⟨bm, N, nm, q, bs, sn, sub, ab, col, dd, k0, k1, k2, k3, k5, mN, hC, hN, hi, T⟩ := ini_obj ek.exc I.ok.mod.kin
        refine raise_initT (C := clsAt X.K y) (nm := nm) (q := q) (N := N) (bs := bs) (bm := bm) (hdct := true) (sn := sn) (sub := sub) (ab := ab) (col := col) (dd := dd) (k0 := k0) (k1 := k1) (k2 := k2) (k3 := k3) (k5 := k5)
          PySem.F.excBase_ValueError (mN := mN) (T.hasType PySem.F.excBase_ValueError.hasBase) (I.ok.hd G.calm) (by rw [st]; exact pl) hi (ld_glob I g hg ⟨rfl, ?_⟩ d)
        have ev := as_ok G hE [a] (e :: es) (show qAs [a] (rtOf X) from ⟨hqa, trivial⟩) h2 p pins s σ H (one fun v H1 => ∀ dx, H1 dx = none → E σ (.ref (clsAt X.K y)) (some dx) (upd H1 dx (.xd [(fld, v)]))) I h
        rw [st] at ev ⊢
        refine Calls.evalArgs_plain (wpAny_mono ev (fun us s1 z => ?_) fun _ _ z => z)
        obtain ⟨vs, H1, I1, r1, w1⟩ := z
        obtain ⟨v, rfl, w1⟩ := one_of w1
        obtain ⟨u, rfl, r2⟩ := r1.one
        obtain ⟨name, qual, params, scope, dV, kV, doc, pm, cdv, ct, an, od, osl, p1, p2, p3, p4, ho, _⟩ := ek.fn
        refine ⟨rfl, by simp [sizeLine_eq], I1.bk _ _ hC, hN.keeps I1.bk, T.keeps I1.bk, ⟨_, I1.kIn _ _ ho, rfl⟩, fun h' e' mk => ?_⟩
        obtain ⟨t, eo, _, _⟩ := mk.there
        have kp : ∀ b o, s1.heap.get? b = some o → h'.get? b = some o := mk.keeps
        refine init_run (s := { s1 with heap := h' }) (I1.kIn.keeps kp) ek.fn (I1.nolimit.keeps kp) ?_ (kp _ _ (I1.bk _ _ hC)) ((T.keeps I1.bk).keeps kp) ek.sa ek.fl eo rfl rfl (fun c z => by cases z) fun h2 tk dx q1 q2 q3 q4 q5 => ?_
        · rw [make_depth]
          have z : X.A.depth + 3 * kk + 5 < recursionLimit := rm.dp
          omega
        have q1' : ∀ b o, s1.heap.get? b = some o → h2.get? b = some o := fun b o z => q1 b o (fun y => by rw [y, mk.new] at z; cases z) (kp b o z)
        have n1 : s1.heap.get? dx = none := by
          cases z : s1.heap.get? dx with
          | none => rfl
          | some o => rw [kp _ _ z] at q2; cases q2
        have n2 := HOk.none_of I1.hok n1
        refine ⟨rfl, q1' _ _ (I1.bk _ _ hC), ⟨_, _, q4, rfl, rfl, rfl⟩, ?_⟩
        refine hE.made pins σ H1 _ s1 { s1 with heap := h2, toks := tk } e' _ _ I1 rfl I1.bare (Un.laid' q1' n1 n2) (HOk.laid' I1.hok q1' n2 ?_) mk.new ?_ q4 rfl rfl (w1 dx n2)
        · refine ⟨_, q5, fun f => ?_⟩
          by_cases hf : f = fld
          · subst hf
            simp [RelO]
            exact r2
          · have hb : (f == fld) = false := beq_eq_false_iff_ne.mpr hf
            simp [hb, hf, RelO, List.lookup]
        · rw [upd_ne q3.symm]
          exact HOk.none_of I1.hok mk.new
    · cases hm
end
end L2.Na




namespace L2.Na
open PySem PySem.Spec PyProof.Rows L2 L2.L3

structure XF (K : PySem.W.Frag) (D : Addr) : Prop where
  ga : PySem.W.findIn K (.ref D) "__getattribute__" = some (some (.builtin "BaseException.__getattribute__"))
  no : PySem.W.findIn K (.ref D) "__getattr__" = some none
  mb : PySem.W.mroIn K D (.type "BaseException") = some true
  hd : PySem.W.hasDictIn K D = true
  cl : ∀ od, PySem.W.findObj K D od "__class__" = some (.bind (.builtin "getset_descriptor.__get__") (.builtin "object.__class__"))
  mo : PySem.W.mroIn K D (.type "object") = some true
section
variable {K : PySem.W.Frag} {X : Cx} {pins : List (Addr × Obj)} {σ : St} {H : Hp} {s : Shared}

theorem ini_mk {x slf prm fld name qual : Str} {C f : Addr} {params : Arguments} {scope : Scope} {dV kV doc pm cdv ct : Value} {an od : Option Addr} {osl : Array (Option Value)} {p1 p2 p3 p4 : Pos}
    (h1 : PySem.W.nsIn K mainGlobals x = some (some (.ref C))) (h2 : PySem.W.findIn K (.ref C) "__init__" = some (some (.ref f)))
    (l : K.lookup f = some ⟨.type "function", od, .func (PySem.W.fnOf name qual params [.Assign [.Attribute (.Name slf p1) fld p2] (.Name prm p3) p4] scope dV kV doc pm an cdv ct), osl⟩) (c : PySem.W.codeIn K cdv qual = true)
    (s : scope.kind = .function ∧ scope.isCoroutine = false ∧ scope.isGenerator = false) (n : scope.names.lookup slf = some .local ∧ scope.names.lookup prm = some .local) (d : (slf == ("__debug__" : Str)) = false ∧ (prm == ("__debug__" : Str)) = false ∧ slf ≠ prm)
    (b : ∀ (s : Shared) (u v : Value), K.In s.heap → PySem.BindsTo s (PySem.W.fnOf name qual params [.Assign [.Attribute (.Name slf p1) fld p2] (.Name prm p3) p4] scope dV kV doc pm an cdv ct) ⟨[u, v], []⟩ [(slf, u), (prm, v)]) : IniFn K (iniAt K x) slf prm fld := by
  have e1 : clsAt K x = C := by unfold clsAt; rw [h1]
  have e2 : iniAt K x = f := by unfold iniAt; rw [e1, h2]
  rw [e2]
  exact ⟨name, qual, params, scope, dV, kV, doc, pm, cdv, ct, an, od, osl, p1, p2, p3, p4, l, c, s, n, d, b⟩
end
end L2.Na




namespace L2.Na
open PySem PySem.Spec PyProof.Rows L2 L2.L3
section
variable {K : PySem.W.Frag}

noncomputable def TupK (K : PySem.W.Frag) (x : Str) (xs : List V) : Prop := ∃ (o : Obj) (its : Array Value) (n : Nat), K.lookup (clsAt K x) = some o ∧ o.cls = .type "tuple" ∧ o.data = .seq its n ∧ its.size ≤ sizeLine ∧ Vals xs its.toList
theorem TupK.sq {x : Str} {xs : List V} {H : Hp} (h : TupK K x xs) : SqT K H (clsAt K x) xs := .inr h
section
variable {E : XS} {σ : St} {H : Hp} {Q : VK} {a b : EX K} {D : Ends}
theorem i_raiseI {x slf prm fld : Str} (h : a.t E σ H fun v H1 => ∀ dx, H1 dx = none → E σ (.ref (clsAt K x)) (some dx) (upd H1 dx (.xd [(fld, v)]))) : (raiseI x slf prm fld a).t E D σ H := h
end
end
end L2.Na




namespace L2.Na
open PySem PySem.Spec PyProof.Rows L2 L2.L3
theorem suite_runN {X : Cx} {C : Sc} {pins : List (Addr × Obj)} {σ : St} {H2 : Hp} {s3 : Shared} {B : Heap} {e : Addr} {c : Value} {dx : Option Addr} {D : Ends} {km : Nat} {x m : Str} {k : Nat} {tp np mp hp ap : Pos} (G : Gd X C) (W : Addr) (g : Gl X x) (hd : (x == ("__debug__" : Str)) = false) (hm : X.mg x = some (.ref W))
    (hx : PySem.W.exmOne X.K c (.ref W) = some true) (iM : X.N[km]? = some m) (lM : X.env.scope.names.lookup m = some .local)
    (F : FlyD B X.stack e c dx .none s3.heap) (re : ∀ g2, FlyD B X.stack e c dx .none g2 → s3.heap.UpToSlots g2 → Inv X pins σ H2 { s3 with heap := g2 }) (ix : IsX e c dx s3.heap)
    (q : D.nx (σ.set km (some .non)) H2) :
    wpAny (model X.prog X.w) X.A (handleBy (.ref e) X.env [.ExceptHandler (some (.Name x tp)) none [.Assign [.Name m mp] (.Constant .none k np) ap] hp]) (SP X pins D) X.xe s3 := by
  have I3 : Inv X pins σ H2 s3 := re s3.heap F (Heap.UpToSlots.refl _)
  refine wpAny_handleBy_cons (codeAny_handlers_test ?_) (by intro z; cases z)
  refine Calls.Name_function_global I3.ok.kind g (Calls.loadGlobal_global (by rw [I3.ok.glob]; exact I3.mod.glob.keeps I3.bk) hm ?_) hd
  refine (PySem.W.exm_one I3.kIn (looks_ty ix) hx).here ?_
  show codeAny _ _ (.handlers (.ref e) [.ExceptHandler none none [.Assign [.Name m mp] (.Constant .none k np) ap] hp] X.env) _ _
  refine codeAny_handlers_suite (land_fly F fun g2 F2 u2 => ?_)
  have I4 := re g2 F2 u2
  refine wpAny_execs_cons ?_
  refine wpAny_Assign_Name (wpAny_Constant_none ?_) rfl
  refine store_ok I4 (by rw [G.N]; exact G.nd) iM (.inl lM) (v := .non) rfl (fun s6 I6 => wpAny_execs_nil ?_) (.inr lM)
  exact ⟨_, H2, I6, q⟩
section
variable {K : PySem.W.Frag}

noncomputable def tExN (K : PySem.W.Frag) (x : Str) (km : Nat) (D : Ends) : XS := fun σ1 c dx H' => PySem.W.exmOne K c (.ref (clsAt K x)) = some true ∧ ∀ e, H' e = none → D.nx (σ1.set km (some .non)) (upd H' e (.ext (IsX e c dx)))
theorem thr_tryN {X : Cx} {C : Sc} {pins : List (Addr × Obj)} {D : Ends} {km : Nat} {x m : Str} {k : Nat} {tp np mp hp ap : Pos} (G : Gd X C) (fb : C.fb = true) (g : Gl X x) (hd : (x == ("__debug__" : Str)) = false) (hm : X.mg x = some (.ref (clsAt X.K x)))
    (iM : X.N[km]? = some m) (lM : X.env.scope.names.lookup m = some .local) :
    Thr (wishP X pins fun ev s1 => wpAny (model X.prog X.w) X.A (noteFrame ev X.env) (fun _ s2 => wpAny (model X.prog X.w) X.A (setFlight ev none) (fun _ s3 =>
      wpAny (model X.prog X.w) X.A (handleBy ev X.env [.ExceptHandler (some (.Name x tp)) none [.Assign [.Name m mp] (.Constant .none k np) ap] hp]) (SP X pins D) X.xe s3) X.xe s2) X.xe s1) (tExN X.K x km D) := by
  obtain ⟨hst, hfr⟩ := G.top fb
  refine ⟨fun pins' σ1 H1 s1 ev s' I' hc => ?_, fun pins' σ1 H1 H' s1 s' e oe vs I' os bare un hok n1 en eo dt v1 hz => ?_, PassesOwn.looking⟩
  · have I1 : Inv X pins σ1 H1 s1 := inv_unP I'
    obtain ⟨e, c, dx, H', B, rfl, os, bare, un, hok, F, c1, c2, hx, hq⟩ := hc
    have F0 : FlyD B (X.env :: X.outer) e c dx .none s'.heap := hst ▸ F
    refine note_fly (I1.ok.frames.trans (congrArg some hst)) hfr F0 fun g1 F1 u1 => land_fly F1 fun g2 F2 u2 => ?_
    have F2' : FlyD B X.stack e c dx .none g2 := hst.symm ▸ F2
    have re := fun g3 (F3 : FlyD B X.stack e c dx .none g3) (u3 : s'.heap.UpToSlots g3) => caught_inv I1 os bare un hok F.stay c1 c2 F3 u3
    refine suite_runN (s3 := { s' with heap := g2 }) G (clsAt X.K x) g hd hm hx iM lM F2' (fun g3 F3 u3 => (re g3 F3 ((u1.trans u2).trans u3)).1) ?_ (hq e (re g2 F2' (u1.trans u2)).2)
    obtain ⟨oe, vs, _, _, _, z1, z2, z3, z4, _⟩ := F2.tr
    exact ⟨oe, vs, z1, z2, z3, z4⟩
  · have I1 : Inv X pins σ1 H1 s1 := inv_unP I'
    obtain ⟨hx, hq⟩ := hz
    have I2 : Inv X pins σ1 H' s' := I1.call' os un hok bare fun b y => absurd y (by simp)
    have ff : s'.heap.FunFrames X.base X.stack := I2.stack
    have ff2 : s'.heap.FunFrames (PySem.W.hideAll s'.heap (e :: frs X.stack)) X.stack := PySem.W.funFrames_hide ff fun env' he' a ha => List.mem_cons_of_mem _ (List.mem_filterMap.mpr ⟨env', he', ha⟩)
    have has : ∀ {b o}, s'.heap.get? b = some o → b ≠ e → b ∉ frs X.stack → (PySem.W.hideAll s'.heap (e :: frs X.stack)).get? b = some o := fun q h1 h2 => PySem.W.hideAll_get _ q (by simp only [List.mem_cons, not_or]; exact ⟨h1, h2⟩)
    have st : (PySem.W.hideAll s'.heap (e :: frs X.stack)).StaysIn s'.heap := fun b o q => PySem.W.of_hideAll _ q
    have c1 : ∀ b o, s1.heap.get? b = some o → b ∉ frs X.stack → ∃ u, (PySem.W.hideAll s'.heap (e :: frs X.stack)).get? b = some u := fun b o q hb => by
      obtain ⟨o1, q1⟩ := un.there b o q (by simp)
      exact ⟨o1, has q1 (fun z => by rw [z, n1] at q; cases q) hb⟩
    have c2 : ∀ b o, H' b = some o → ∃ u, (PySem.W.hideAll s'.heap (e :: frs X.stack)).get? b = some u := fun b o q => by
      obtain ⟨o1, q1⟩ := there_of (hok b o q)
      refine ⟨o1, has q1 (fun z => by rw [z, en] at q; cases q) fun z => ?_⟩
      have := I2.stkFree b z
      rw [q] at this
      cases this
    refine note_new (I1.ok.frames.trans (congrArg some hst)) (hst ▸ ff2) hfr eo st (PySem.W.hideAll_none _ (by simp)) dt v1 fun g1 F1 u1 => land_fly F1 fun g2 F2 u2 => ?_
    have F2' : FlyD (PySem.W.hideAll s'.heap (e :: frs X.stack)) X.stack e oe.cls oe.dict .none g2 := hst.symm ▸ F2
    have re := fun g3 (F3 : FlyD (PySem.W.hideAll s'.heap (e :: frs X.stack)) X.stack e oe.cls oe.dict .none g3) (u3 : s'.heap.UpToSlots g3) => caught_inv I1 os bare un hok st c1 c2 F3 u3
    refine suite_runN (s3 := { s' with heap := g2 }) G (clsAt X.K x) g hd hm hx iM lM F2' (fun g3 F3 u3 => (re g3 F3 ((u1.trans u2).trans u3)).1) ?_ (hq e en)
    obtain ⟨oe', vs', _, _, _, z1, z2, z3, z4, _⟩ := F2.tr
    exact ⟨oe', vs', z1, z2, z3, z4⟩

noncomputable def hndN (h : ExceptHandler) : Option (Str × Pos × Str × Pos × Nat × Pos × Pos × Pos) := match h with
  | .ExceptHandler (some t) none [st] hp => (match t with
    | .Name y tp => (match st with
      | .Assign [tg] v ap => (match tg with
        | .Name m mp => (match v with
          | .Constant c k np => (match c with
            | .none => some (y, tp, m, mp, k, np, ap, hp)
            | _ => none)
          | _ => none)
        | _ => none)
      | _ => none)
    | _ => none)
  | _ => none
theorem hndN_of {h : ExceptHandler} {y : Str} {tp : Pos} {m : Str} {mp : Pos} {k : Nat} {np ap hp : Pos} (e : hndN h = some (y, tp, m, mp, k, np, ap, hp)) :
    h = .ExceptHandler (some (.Name y tp)) none [.Assign [.Name m mp] (.Constant .none k np) ap] hp := by
  unfold hndN at e
  repeat' split at e
  all_goals first | cases e | skip
  rfl
noncomputable def mTryN (b : List (SX K)) (x : Str) (km : Nat) (C : Sc) (s : Stmt) : Bool := match s with
  | .Try body [h] [] [] _ => (match hndN h with
    | some (y, _, m, _, _, _, _, _) => (C.fb && glB C x y) && ((C.N[km]? == some m && C.nm.lookup m == some .local) && mSs b C body)
    | none => false)
  | _ => false

noncomputable def tryN (b : List (SX K)) (x : Str) (km : Nat) : SX K where
  t := fun _ D σ H => tSs b (tExN K x km D) D σ H
  m := mTryN b x km
  q := fun R => R.mg x = some (.ref (clsAt K x)) ∧ qSs b R
  ok := fun X C E s hK G hE hq hm => by
    subst hK
    unfold mTryN at hm
    split at hm
    · rename_i body h pos
      cases hh : hndN h with
      | none => rw [hh] at hm; cases hm
      | some z =>
      obtain ⟨y, tp, m, mp, k, np, ap, hp⟩ := z
      rw [hh] at hm
      have eh := hndN_of hh
      subst eh
      simp only [Bool.and_eq_true] at hm
      obtain ⟨⟨fb, h1⟩, ⟨h6, h7⟩, h8⟩ := hm
      have e := glB_eq h1
      subst e
      obtain ⟨g, d⟩ := glB_gl G h1
      intro pins s σ H D I h
      refine wpAny_Try_except ?_
      have T := thr_tryN (pins := pins) (D := D) (km := km) (m := m) (k := k) (tp := tp) (np := np) (mp := mp) (hp := hp) (ap := ap) G fb g d hq.1 (by rw [G.N]; exact eq_of_beq h6) (by rw [G.nm]; exact eq_of_beq h7)
      refine wpAny_mono (ss_ok (X := wishP X pins _) ⟨G.N, G.nm, G.nd, G.calm, G.bl, G.hu, G.fb, G.top, G.ow⟩ T b body hq.2 h8 [] s σ H D (inv_wishP I) h) (fun f s1 z => ?_) fun _ _ z => z
      have z' := sp_unP z
      cases f with
      | next => exact wpAny_execs_nil z'
      | brk => exact z'
      | cont => exact z'
      | ret v => exact z'
    · cases hm
theorem i_tryN {b : List (SX K)} {x : Str} {km : Nat} {E : XS} {D : Ends} {σ : St} {H : Hp} (h : tSs b (tExN K x km D) D σ H) : (tryN b x km).t E D σ H := h
end
end L2.Na




namespace L2.Na
open PySem PySem.Spec PyProof.Rows L2 L2.L3 PySem.Builtin PySem.Builtin.Str
section
variable {K : PySem.W.Frag}

noncomputable def m_extend (o a : EX K) (ho : o.s ≠ .zc := by intro z; cases z) : EX K := methL "extend" "list.extend" rExtend PySem.F.slot_list_extend PySem.F.type_list_extend (fun X hK _ _ => mt_extend) o ho [a]
noncomputable def m_pop (o : EX K) (ho : o.s ≠ .zc := by intro z; cases z) : EX K := methL "pop" "list.pop" rPop PySem.F.slot_list_pop PySem.F.type_list_pop (fun X hK _ _ => mt_pop) o ho []


noncomputable def rev (z : Str) : Str := mkS (ls z).reverse
theorem rev_eq (z : Str) (u : Tok) : Txt.sliceBy z none none (-1, u) = rev z := by
  refine ls_inj ?_
  show (Txt.sliceBy z none none (-1, u)).cps.toList = _
  rw [step_rev_list, rev, ls_mk]
  have hl := ls_len z
  refine List.ext_getElem? fun i => ?_
  rw [List.getElem?_map]
  by_cases hi : i < z.length
  · have h2 : z.length - 1 - i < (ls z).length := by omega
    rw [List.getElem?_range hi, List.getElem?_reverse (by omega), hl, List.getElem?_eq_getElem h2]
    show some (z.cps.getD (z.length - 1 - i) 0) = _
    congr 1
    have h3 : z.length - 1 - i < z.cps.size := by rw [hl] at h2; exact h2
    rw [Array.getD_eq_getD_getElem?, Array.getElem?_eq_getElem h3]
    simp [ls]
  · rw [List.getElem?_eq_none_iff.mpr (by rw [List.length_range]; omega), List.getElem?_eq_none_iff.mpr (by rw [List.length_reverse]; omega)]
    rfl
noncomputable def rRev (K : PySem.W.Frag) : V → Hp → VK → Prop
  | .str z, H, Q => z.length ≤ sizeLine ∧ Q (.str (rev z)) H
  | .ref a, H, Q => ∃ xs, SqL K H a xs ∧ ∀ p, H p = none → Q (.ref p) (upd H p (.lst xs.reverse))
  | _, _, _ => False
noncomputable def slcR (a : EX K) : EX K := mkE2 (fun E σ H Q => a.t E σ H fun x H1 => rRev K x H1 Q)
  (fun C e => match e with
    | .Subscript l (.Slice none none (some st) _) _ => a.m C l && (neg (cst (.int 1)) : EX K).m C st
    | _ => false) (fun R => a.q R) .pl
  (fun X C E e hK G hE hq hm => by
    subst hK
    cases e with
    | Subscript l r p =>
      cases r with
      | Slice x y z p2 =>
        match x, y, z, hm with
        | none, none, some st, hm =>
          simp only [Bool.and_eq_true] at hm
          intro pins s σ H Q I h
          refine Subscript_ (thn (a.ok X C E l rfl G hE hq hm.1 pins s σ H _ I h) fun v s1 ⟨x, H1, I1, r1, q1⟩ => ?_)
          refine wpAny_Slice ?_
          rw [evalPart_none, evalPart_some]
          refine wpAny_pure (wpAny_pure ?_)
          refine thn ((neg (cst (.int 1)) : EX X.K).ok X C E st rfl G hE trivial hm.2 pins s1 σ H1 (fun y H2 => y = .int (-1) ∧ H2 = H1) I1 ⟨rfl, rfl⟩) fun vs s2 ⟨y, H2, I2, r2, e1, e2⟩ => ?_
          subst e1 e2
          obtain ⟨t, rfl⟩ := r2
          have I4 : Inv X pins σ H2 { s2 with heap := s2.heap.push { cls := .type "slice", data := .fields #[.none, .none, .int (-1) t] } } := I2.kept (t' := s2.toks) fun b ob q => Heap.get?_push_of_some _ q
          replace q1 : rRev X.K x H2 Q := q1
          unfold rRev at q1
          split at q1
          · rename_i z0
            obtain ⟨hz, q⟩ := q1
            obtain ⟨t0, rfl⟩ := r1
            show wpAny (model X.prog X.w) X.A (subscriptTail l (.Slice none none (some st) p2) _ (.ref s2.heap.objs.size)) (EP X pins σ Q) X.xe { s2 with heap := s2.heap.push { cls := .type "slice", data := .fields #[.none, .none, .int (-1) t] } }
            refine tail_any (ops := [.ref s2.heap.objs.size, .str z0 t0]) (typeIs_str _ _ _) PySem.F.slot_str_getitem.lookup ?_ (by with_unfolding_all rfl)
            exact wpAny_getItem_str_slice (l := none) (u := none) (st := some (-1, t)) ⟨_, Heap.get?_push_size _ rfl, rfl, rfl⟩ rfl
              (post_val_or_str ⟨Nat.le_trans (Txt.sliceBy_le _ _ _ (-1, t) (show (-1 : Int) ≠ 0 by decide)) hz, fun t' c => ⟨.str _, H2, I4.tok c, ⟨t', rfl⟩, by show Q (.str (Txt.sliceBy z0 none none (-1, t))) H2; rw [rev_eq]; exact q⟩⟩)
          · rename_i a0
            obtain ⟨xs, hx, q⟩ := q1
            cases r1
            obtain ⟨its, r, ht, hz⟩ := I4.list hx
            show wpAny (model X.prog X.w) X.A (subscriptTail l (.Slice none none (some st) p2) _ (.ref s2.heap.objs.size)) (EP X pins σ Q) X.xe { s2 with heap := s2.heap.push { cls := .type "slice", data := .fields #[.none, .none, .int (-1) t] } }
            refine tail_any (ops := [.ref a0, .ref s2.heap.objs.size]) ht.isList.typeIs slot_list_getitem.lookup ?_ (by with_unfolding_all rfl)
            refine wpAny_getItem_list_slice ht.isList (Heap.IsSliceOf.new ..) .none .none (.int (-1) t) (by decide) ?_ (by rw [List.size_toArray, ← r.length]; exact hz)
            rw [PySem.W.krv_pick]
            exact ⟨.ref _, _, I4.laid (t' := s2.toks) (o := .lst xs.reverse) (fun b ob q => Heap.get?_push_of_some _ q) (Nat.le_refl _) ⟨by rw [List.length_reverse]; exact hz, _, 0, r.reverse, Heap.get?_push_size _ rfl⟩, rfl, q _ (I4.hok.fresh (Nat.le_refl _))⟩
          · exact q1.elim
      | _ => exact ff hm
    | _ => exact ff hm)
  (fun C e hm => by cases e with | Subscript l r p => exact ⟨rfl, rfl⟩ | _ => exact ff hm)
section
variable {E : XS} {σ : St} {H : Hp} {Q : VK} {D : Ends} {QB : Bool → Hp → Prop} {v : V} {i j : Int} {n : Nat} {a b c : EX K}
theorem i_slcR (h : a.t E σ H fun x H1 => rRev K x H1 Q) : (slcR a).t E σ H Q := h
theorem i_revS {p : Addr} {xs : List V} (c : SqL K H p xs) (h : ∀ q, H q = none → Q (.ref q) (upd H q (.lst xs.reverse))) : rRev K (.ref p) H Q := ⟨xs, c, h⟩
theorem i_pop {ho : a.s ≠ .zc} (h : a.t E σ H fun x H1 => RL K rPop (tAs ([] : List (EX K)) E) x σ H1 Q) : (m_pop a ho).t E σ H Q := h
theorem i_popU {p : Addr} {xs : List V} {y : V} (e : H p = some (.lst xs)) (hy : xs[xs.length - 1]? = some y) (h : Q y (upd H p (.lst xs.dropLast))) : rPop (.ref p) [] H Q := ⟨p, xs, y, rfl, rfl, e, hy, h⟩
theorem i_notin {p : Addr} {x : V} {xs : List V} (c : SqL K H p xs) (f1 : flatV x = true) (f2 : xs.all flatV = true) (h : QB (!inV x xs) H) : rB (rCmp K .NotIn) x (.ref p) H QB := by
  cases x <;> first | exact ⟨p, xs, rfl, .inl c, f1, f2, h⟩ | cases f1
theorem j_eqA {p q : Addr} {n : Nat} (hn : n ≤ 40) (e : EqvR n H p q) (h : QB true H) : rB (rCmp K .Eq) (.ref p) (.ref q) H QB := .inr (.inl ⟨p, q, n, rfl, rfl, hn, e, h⟩)
theorem j_eqN {p q : Addr} {xs ys : List V} (h1 : H p = some (.lst xs)) (h2 : H q = some (.lst ys)) (hl : xs.length ≠ ys.length) (h : QB false H) : rB (rCmp K .Eq) (.ref p) (.ref q) H QB := .inr (.inr ⟨p, q, xs, ys, rfl, rfl, h1, h2, hl, h⟩)
theorem j_neA {p q : Addr} {n : Nat} (hn : n ≤ 40) (e : EqvR n H p q) (h : QB false H) : rB (rCmp K .NotEq) (.ref p) (.ref q) H QB := .inr (.inl ⟨p, q, n, rfl, rfl, hn, e, h⟩)
theorem i_catL {p q : Addr} {xs ys : List V} (h1 : H p = some (.lst xs)) (h2 : H q = some (.lst ys)) (hz : xs.length + ys.length ≤ sizeLine) (h : ∀ r, H r = none → Q (.ref r) (upd H r (.lst (xs ++ ys)))) : rBin K .Add (.ref p) (.ref q) H Q :=
  .inl ⟨p, q, xs, ys, rfl, rfl, h1, h2, hz, h⟩
theorem cut_to {xs : List V} {k : Nat} (h : k ≤ xs.length) : cutV xs none (some (k : Int)) = xs.take k := by
  unfold cutV
  rw [HT.sIx_none, HT.sIx_nat, List.drop_zero, Nat.min_eq_left h, Nat.sub_zero]
end
end
end L2.Na




namespace L2.Na
open PySem PySem.Spec PyProof.Rows L2 L2.L3
section
variable {K : PySem.W.Frag} {σ : St} {H : Hp} {Q : VK}
end
end L2.Na




namespace L2.Na
open PySem PySem.Spec PyProof.Rows L2 L2.L3
section
variable {K : PySem.W.Frag}
section
variable {E : XS} {σ : St} {H : Hp} {Q : VK} {D : Ends} {a c : EX K} {bd : List (SX K)}

theorem loop_wh (W : Nat → St → Hp → Prop) {m : Nat} (h0 : W m σ H)
    (hs : ∀ m σ H, W m σ H → c.tt E σ H fun b H1 => br b (∃ N : St → Hp → Prop, (∀ σ' H', N σ' H' → ∃ m', m' < m ∧ W m' σ' H') ∧ tSs bd E { D with nx := N, ct := N, bk := D.nx } σ H1) (D.nx σ H1)) : (whS c bd).t E D σ H := ⟨W, ⟨m, h0⟩, hs⟩
theorem wh_go {W : Nat → St → Hp → Prop} {m : Nat} {tb : TS} (h : tb { D with nx := fun σ' H' => ∃ m', m' < m ∧ W m' σ' H', ct := fun σ' H' => ∃ m', m' < m ∧ W m' σ' H', bk := D.nx } σ H) :
    ∃ N : St → Hp → Prop, (∀ σ' H', N σ' H' → ∃ m', m' < m ∧ W m' σ' H') ∧ tb { D with nx := N, ct := N, bk := D.nx } σ H := ⟨_, fun _ _ z => z, h⟩
end
end
end L2.Na


set_option compiler.extract_closed false


set_option hygiene false in
local macro_rules | `(tactic| walk_at "t") => `(tactic| (with_reducible first | refine L2.Na.i_seq ?_ | refine L2.Na.i_nil ?_ | refine L2.Na.i_set ?_ | refine L2.Na.i_ret ?_ | refine L2.Na.i_ex ?_ | refine L2.Na.i_if ?_ | refine L2.Na.i_cst ?_ | refine L2.Na.i_glb ?_ | refine L2.Na.i_bin ?_ | refine L2.Na.i_call ?_ | refine L2.Na.i_acons ?_ | refine L2.Na.i_anil ?_ | refine L2.Na.i_add ?_ | refine L2.Na.i_sub ?_ | refine L2.Na.i_cmp ?_ | refine L2.Na.j_cmp ?_ | refine L2.Na.i_gt ?_ | refine L2.Na.i_ge ?_ | refine L2.Na.i_eq ?_ | refine L2.Na.i_eqS ?_ | refine L2.Na.j_lt ?_ | refine L2.Na.j_gt ?_ | refine L2.Na.j_ge ?_ | refine L2.Na.j_eq ?_ | refine L2.Na.j_ne ?_ | refine L2.Na.j_eqS ?_ | refine L2.Na.j_neS ?_ | refine L2.Na.j_not ?_ | refine L2.Na.i_not ?_ | refine L2.Na.i_truB ?_ | refine L2.Na.i_and ?_ | refine L2.Na.i_or ?_ | refine L2.Na.j_and ?_ | refine L2.Na.j_or ?_ | refine L2.Na.i_bop0 ?_ | refine L2.Na.j_bop0 ?_ | refine L2.Na.j_bopO ?_ | refine L2.Na.i_len ?_ | refine L2.Na.i_min ?_ | refine L2.Na.i_max ?_ | refine L2.Na.i_min2 ?_ | refine L2.Na.i_max2 ?_ | refine L2.Na.i_isi ?_ | refine L2.Na.i_tyStr ?_ | refine L2.Na.i_tyInt ?_ | refine L2.Na.i_tyBool ?_ | refine L2.Na.i_tyList ?_ | refine L2.Na.i_tyTuple ?_ | refine L2.Na.i_listE ?_ | refine L2.Na.i_ix ?_ | refine L2.Na.i_slc ?_ | refine L2.Na.i_o0 ?_ | refine L2.Na.i_o1 ?_ | refine L2.Na.i_rO ?_ | refine L2.Na.i_lst ?_ | refine L2.Na.i_tup ?_ | refine L2.Na.i_join ?_ | refine L2.Na.i_append ?_ | refine L2.Na.i_RS ?_ | refine L2.Na.j_isN ?_ | refine L2.Na.j_isnN ?_ | refine L2.Na.i_for ?_ | refine L2.Na.i_rng ?_ | refine L2.Na.i_iseq ?_ | refine L2.Na.i_itS ?_ | refine L2.Na.i_comp ?_ | refine L2.Na.i_compI ?_ | refine L2.Na.i_nam ?_ | refine L2.Na.i_slcR ?_ | refine L2.Na.i_pop ?_))
local macro_rules | `(tactic| walk_at "s") => `(tactic| first
  | ((with_reducible refine L2.Na.i_var (v := ?v) ?h1 ?_); (case h1 => exact rfl))
  | walk_at "t"
  | ((with_reducible refine L2.Na.i_mul ?h1 ?_); (case h1 => first | exact Or.inl ⟨by omega, by omega⟩ | exact Or.inr ⟨by omega, by omega⟩))
  | ((with_reducible refine L2.Na.i_div ?h1 ?_); (case h1 => exact ⟨by omega, by omega⟩))
  | ((with_reducible refine L2.Na.i_mod ?h1 ?_); (case h1 => omega))
  | ((with_reducible refine L2.Na.i_rng1 ?h1 ?_); (case h1 => exact ⟨by omega, by omega⟩))
  | ((with_reducible refine L2.Na.i_rng2 ?h1 ?_); (case h1 => exact ⟨by omega, by omega, by omega, by omega⟩))
  | ((with_reducible refine L2.Na.i_lenL (xs := ?xs) ?h1 ?_); (case h1 => assumption))
  | ((with_reducible refine L2.Na.i_lenT (xs := ?xs) ?h1 ?_); (case h1 => assumption))
  | ((with_reducible refine L2.Na.j_tru ?h1 ?_); (case h1 => rfl)))
local macro_rules | `(tactic| walk_at "go") => `(tactic| repeat (walk_at "s"))




namespace L2.Na
open PySem PySem.Spec PyProof.Rows L2 L2.L3
section
variable {K : PySem.W.Frag} {σ : St} {H : Hp} {Q : VK}
theorem comp_unp {p : Addr} {xs : List V} {te : TE} {is : List Nat} {D : Addr} (f U W : Nat → V) (hp : SqL K H p xs) (hx : ∀ (i : Nat) (x : V), xs[i]? = some x → ∃ t, x = .ref t ∧ SqT K H t [U i, W i]) (hD : H D = none) (hz : xs.length ≤ sizeLine)
    (step : ∀ (i : Nat) (H1 : Hp) (Q' : VK), i < xs.length → Same H H1 → (∀ H3, Same H1 H3 → Q' (f i) H3) → te (some (U i) :: some (W i) :: capV is σ) H1 Q')
    (fin : ∀ H1, Same H H1 → H1 D = some (.lst ((List.range xs.length).map f)) → Q (.ref D) H1) : CompBodyI (Itl K p) (unp [0, 1] : TX K).g (cT (none : Option (EX K))) te 2 is σ D H Q := by
  refine ⟨fun i m σ' H1 => m = xs.length - i ∧ i ≤ xs.length ∧ (∃ a b, σ' = a :: b :: capV is σ) ∧ Same H H1 ∧ H1 D = some (.lst ((List.range i).map f)), ⟨xs.length, by simp, Nat.zero_le _, ⟨none, none, rfl⟩, fun b o e => by rw [upd_ne (ne_of_none e hD)]; exact e, upd_same⟩, ?_⟩
  rintro i m σ' H1 ⟨rfl, hi, ⟨a, b, rfl⟩, hS, hO⟩
  have hp1 := hS.seq hp
  by_cases hlt : i < xs.length
  · refine .inr ⟨(yl_list (xs := xs)).go i H1 hp1 hlt, fun x H' hy => ?_⟩
    obtain ⟨e, hx1⟩ := (yl_list (xs := xs)).yld i H1 x H' hp1 hlt hy
    subst e
    obtain ⟨t, rfl, ht⟩ := hx i x hx1
    refine i_unp2 (sqT_same ht _ hS) ?_
    refine ⟨fun _ => ?_, fun z => nomatch z⟩
    refine step i H' _ hlt hS fun H3 s3 => ?_
    refine ⟨_, s3 _ _ hO, by rw [List.length_map, List.length_range]; omega, xs.length - (i + 1), by omega, rfl, hlt, ⟨_, _, rfl⟩, fun b o q => ?_, ?_⟩
    · rw [upd_ne (ne_of_none q hD)]
      exact s3 _ _ (hS b o q)
    · rw [upd_same, List.range_succ, List.map_append]
      rfl
  · have e : i = xs.length := by omega
    subst e
    exact .inl ⟨(yl_list (xs := xs)).stop H1 hp1, fin H1 hS hO⟩

theorem comp_rngH {lo : Int} {m : Nat} {te : TE} {is : List Nat} {D : Addr} (Iv : Nat → Hp → Prop) (R : Nat → V → Prop) (hz : m ≤ sizeLine) (h0 : Iv 0 (upd H D (.lst [])))
    (step : ∀ (i : Nat) (H1 : Hp) (ys : List V) (Q' : VK), i < m → Iv i H1 → H1 D = some (.lst ys) → (∀ y H3, R i y → H3 D = some (.lst ys) → (∀ o, Iv (i + 1) (upd H3 D o)) → Q' y H3) → te (some (.int (lo + (i : Nat))) :: capV is σ) H1 Q')
    (fin : ∀ H1 ys, Iv m H1 → H1 D = some (.lst ys) → ys.length = m → (∀ i y, ys[i]? = some y → R i y) → Q (.ref D) H1) : CompBodyI (Itr lo m) (nam 0 : TX K).g (cT (none : Option (EX K))) te 1 is σ D H Q := by
  refine ⟨fun i j σ' H1 => j = m - i ∧ i ≤ m ∧ (∃ a, σ' = a :: capV is σ) ∧ Iv i H1 ∧ ∃ ys : List V, H1 D = some (.lst ys) ∧ ys.length = i ∧ ∀ l y, ys[l]? = some y → R l y, ⟨m, by simp, Nat.zero_le _, ⟨none, rfl⟩, h0, [], upd_same, rfl, fun l y z => by simp at z⟩, ?_⟩
  rintro i j σ' H1 ⟨rfl, hi, ⟨a, rfl⟩, hI, ys, hO, hl, hr⟩
  by_cases hlt : i < m
  · refine .inr ⟨hlt, fun x H' hy => ?_⟩
    obtain ⟨rfl, rfl⟩ := hy
    refine ⟨fun _ => ?_, fun z => nomatch z⟩
    refine step i H' ys _ hlt hI hO fun y H3 hy3 hO3 hI3 => ?_
    refine ⟨ys, hO3, by rw [hl]; omega, m - (i + 1), by omega, rfl, hlt, ⟨_, rfl⟩, hI3 _, ys ++ [y], upd_same, by rw [List.length_append, hl]; rfl, fun l y' hl' => ?_⟩
    by_cases hj2 : l < ys.length
    · rw [List.getElem?_append_left hj2] at hl'
      exact hr l y' hl'
    · rw [List.getElem?_append_right (by omega)] at hl'
      have e0 : l - ys.length = 0 := by
        have := (List.getElem?_eq_some_iff.mp hl').1
        simp at this
        omega
      rw [e0] at hl'
      have e1 : y = y' := by simpa using hl'
      subst e1
      have e2 : l = i := by omega
      subst e2
      exact hy3
  · have e : i = m := by omega
    subst e
    exact .inl ⟨Nat.le_refl _, fin H1 ys hI hO hl hr⟩
end
end L2.Na




namespace PySem
namespace F
theorem owner_rvs : Manifest.owners.lookup (String.ofList ['d', 'e', 's', 'r', 'e', 'v', 'e', 'r'].reverse) = some Manifest.sig_reversed := by kernel_rfl
theorem slot_rvs_next : Slot "reversed" "__next__" "reversed.__next__" :=
  .of (owner := "reversed") (n := "__next__") (by rw [typeLookup_type, builtinLookup_eq_fast]; kernel_rfl) (by decide +kernel) (by decide +kernel) (by decide +kernel)
    (by first | exact .inl (by decide +kernel) | exact .inr (by decide +kernel)) (by rw [isSubtype_type]; kernel_rfl)
theorem entry_rvs_next : entryFor table "reversed.__next__" = some Builtin.«reversed.__next__» := entryFor_of_tree (by kernel_rfl)
theorem args_rvs_next_1 (a : Value) : argsOk "reversed.__next__" ⟨[a], []⟩ := by
  unfold argsOk; rw [signature?_of (id := "reversed.__next__") (n := ['_', '_', 't', 'x', 'e', 'n', '_', '_']) (o := ['d', 'e', 's', 'r', 'e', 'v', 'e', 'r']) (by kernel_rfl) owner_rvs]; kernel_rfl
theorem slot_rvs_iter : Slot "reversed" "__iter__" "reversed.__iter__" :=
  .of (owner := "reversed") (n := "__iter__") (by rw [typeLookup_type, builtinLookup_eq_fast]; kernel_rfl) (by decide +kernel) (by decide +kernel) (by decide +kernel)
    (by first | exact .inl (by decide +kernel) | exact .inr (by decide +kernel)) (by rw [isSubtype_type]; kernel_rfl)
theorem args_rvs_iter_1 (a : Value) : argsOk "reversed.__iter__" ⟨[a], []⟩ := by
  unfold argsOk; rw [signature?_of (id := "reversed.__iter__") (n := ['_', '_', 'r', 'e', 't', 'i', '_', '_']) (o := ['d', 'e', 's', 'r', 'e', 'v', 'e', 'r']) (by kernel_rfl) owner_rvs]; kernel_rfl
theorem entry_rvs_iter : entryFor table "reversed.__iter__" = some Builtin.«dict_keyiterator.__iter__» :=
  entryFor_alias (id' := "dict_keyiterator.__iter__") (by kernel_rfl) (by first | rfl | decide +kernel | (unfold String.splitOn; simp +decide [String.splitOnAux])) (by decide +kernel) (by kernel_rfl)
theorem slot_rvs_init : Slot "reversed" "__init__" "object.__init__" :=
  .of (owner := "object") (n := "__init__") (by rw [typeLookup_type, builtinLookup_eq_fast]; kernel_rfl) (by decide +kernel) (by decide +kernel) (by decide +kernel)
    (by first | exact .inl (by decide +kernel) | exact .inr (by decide +kernel)) (by rw [isSubtype_type]; kernel_rfl)
theorem called_rvs : TypeCalled "reversed" "reversed.__new__" "object.__init__" :=
  ⟨by decide +kernel, create_reversed, ⟨_, _, mro_reversed⟩, made_reversed, plain_reversed_new, sub_reversed_self, slot_rvs_init⟩
theorem lookup_str_rvs : typeLookup (.type "str") "__reversed__" = pure none := by rw [typeLookup_type, builtinLookup_eq_fast]; kernel_rfl
end F
noncomputable def rvsObj (z : Str) (t : Tok) (i : Int) : Obj := { cls := .type "reversed", data := .fields #[.str z t, rawInt i] }
noncomputable def Heap.IsRvs (h : Heap) (a : Addr) (z : Str) (t : Tok) (i : Int) : Prop := ∃ o, h.get? a = some o ∧ o.cls = .type "reversed" ∧ o.data = .fields #[.str z t, rawInt i]
theorem Heap.IsRvs.typeIs {s : Shared} {a : Addr} {z : Str} {t : Tok} {i : Int} (x : s.heap.IsRvs a z t i) : s.TypeIs (.ref a) "reversed" := let ⟨o, ho, hc, _⟩ := x; ⟨o, ho, hc⟩
theorem Heap.IsRvs.at {h h' : Heap} {a : Addr} {z : Str} {t : Tok} {i : Int} (x : h.IsRvs a z t i) (e : ∀ o, h.get? a = some o → h'.get? a = some o) : h'.IsRvs a z t i := let ⟨o, ho, r⟩ := x; ⟨o, e _ ho, r⟩
theorem meets_rvs_new (z : Str) (t : Tok) (hz : z.length ≤ sizeLine) :
    Meets (Builtin.«reversed.__new__» ⟨[.type "reversed", .str z t], []⟩) (fun _ R s => R (.ok (.ret (.ref s.heap.objs.size))) { s with heap := s.heap.push (rvsObj z t ((z.length : Int) - 1)), toks := s.toks + 1 + 1 }) :=
  .of_wp fun prog w A R s h => by
    unfold Builtin.«reversed.__new__»
    refine wpAny_bind (wpAny_of_eq (newClass_reversed _) ?_)
    try dsimp only
    refine wpAny_bind (wpAny_of_eq (a := ()) (by first | rfl | kernel_rfl) ?_)
    refine wpAny_bind (wpAny_of_eq (a := ()) (by first | rfl | kernel_rfl) ?_)
    try dsimp only
    refine wpAny_bind (wpAny_specialOf_val (T := "str") rfl F.lookup_str_rvs ?_)
    try dsimp only
    refine wpAny_bind ?_
    show wpAny _ _ (isInstance (.str z t) (.type "dict") >>= _) _ _ _
    refine wpAny_bind (wpAny_isInstance_val (T := "str") (b := false) rfl F.sub_str_dict ?_)
    show wpAny _ _ (specialOf (.str z t) "__getitem__" >>= _) _ _ _
    refine wpAny_bind (wpAny_specialOf_val (T := "str") rfl F.slot_str_getitem.lookup ?_)
    refine wpAny_pure ?_
    show wpAny _ _ (call (.builtin "len") [.str z t] >>= _) _ _ _
    refine wpAny_bind (P.len_str (by have : sizeLine < 2 ^ 62 := by decide
                                     omega) ?_)
    refine wpAny_bind (wpAny_of_eq (a := some ((z.length : Nat) : Int)) rfl ?_)
    try dsimp only
    show wpAny _ _ (newObj (.type "reversed") (.fields #[.str z t, rawInt ((z.length : Int) - 1)]) >>= _) _ _ _
    exact wpAny_bind (wpAny_newObj_type (wpAny_pure ⟨_, rfl, h⟩))
section
variable {prog : Program} {w : World} {A : Around} {E : Value → Shared → Prop} {s : Shared}
theorem call_rvs {z : Str} {t : Tok} {Q : Value → Shared → Prop} (hz : z.length ≤ sizeLine) (h : Q (.ref s.heap.objs.size) { s with heap := s.heap.push (rvsObj z t ((z.length : Int) - 1)), toks := s.toks + 1 + 1 }) : wpAny (model prog w) A (call (.type "reversed") [.str z t]) Q E s := by
  refine callType_new F.called_rvs (by decide) (F.typeCall_reversed_1 _) (F.newCall_reversed_1 _) (fun obj => F.args_object_init_2 obj _) F.entry_reversed_new (meets_rvs_new z t hz) ?_
  exact ⟨⟨_, Heap.get?_push_size _ rfl, rfl⟩, h⟩
theorem rvs_item {it : Addr} {z : Str} {t : Tok} {i c : Nat} {Q : Option Value → Shared → Prop} (hz : z.length ≤ sizeLine) (hit : s.heap.IsRvs it z t (i : Int)) (hx : z.cps[i]? = some c)
    (hQ : ∀ h', h'.IsRvs it z t ((i : Int) - 1) → Heap.SameBut it s.heap h' → Q (some (.str ⟨#[c]⟩ (s.toks + 1))) { s with heap := h', toks := s.toks + 1 + 1 }) : wpAny (model prog w) A (pyNext (.ref it)) Q E s := by
  obtain ⟨o, ho, hc, hd⟩ := id hit
  have hi : i < z.length := by
    rcases Array.getElem?_eq_some_iff.mp hx with ⟨h, _⟩
    exact h
  have hs : sizeLine < 2 ^ 62 := by decide
  unfold pyNext
  refine wpAny_bind (wpAny_attempt (wpAny_callSpecial?_slot (name := Str.ofString "__next__") hit.typeIs F.slot_rvs_next
    (wpAny_call_entry F.slot_rvs_next hit.typeIs F.entry_rvs_next ?_ (F.args_rvs_next_1 _))))
  unfold Builtin.«reversed.__next__»
  refine wpAny_bind (wpAny_of_eq (a := (Value.ref it, [])) rfl ?_)
  try dsimp only
  refine wpAny_bind (wpAny_field ho hd (x := .str z t) rfl ?_)
  try dsimp only
  refine wpAny_bind (wpAny_field ho hd (x := rawInt (i : Int)) rfl ?_)
  show wpAny _ _ (if (i : Int) < 0 then _ else _) _ _ s
  rw [if_neg (by omega)]
  show wpAny _ _ (specialOf (.str z t) "__getitem__" >>= _) _ _ s
  refine wpAny_bind (wpAny_specialOf_val (T := "str") rfl F.slot_str_getitem.lookup ?_)
  show wpAny _ _ (mkInt (i : Int) >>= _) _ _ s
  refine wpAny_bind (wpAny_mkInt ?_)
  refine wpAny_bind (wpAny_attempt (P.getItem_str (i := (i : Int)) (c := c) (by simp only [decide_eq_false (show ¬ ((i : Int) < -(2 ^ 63 : Int)) by omega), decide_eq_false (show ¬ ((i : Int) ≥ 2 ^ 63) by omega)]; rfl) ?_ ?_))
  · have e : seqIndex? (i : Int) z.length = some i := by
      unfold seqIndex?
      simp only []
      rw [if_neg (show ¬ ((i : Int) < 0) by omega), if_pos (by rw [Bool.and_eq_true]; exact ⟨decide_eq_true (by omega), decide_eq_true (by omega)⟩), Int.toNat_natCast]
    rw [e]
    exact hx
  try dsimp only
  refine wpAny_bind (wpAny_field ho hd (x := rawInt (i : Int)) rfl ?_)
  try dsimp only
  refine wpAny_bind (wpAny_setField ho hd (by simp) ?_)
  first
  | refine wpAny_pure ⟨_, rfl, wpAny_pure (hQ _ ?_ (Heap.SameBut.update ..))⟩
  | refine wpAny_bind (wpAny_pure (wpAny_pure ⟨_, rfl, wpAny_pure (hQ _ ?_ (Heap.SameBut.update ..))⟩))
  exact ⟨_, Heap.get?_update_self _ ho (Obj.isFreed_of_fields (Obj.data_mapFields hd _)), (Obj.cls_mapFields ..).trans hc, by
    rw [Obj.data_mapFields hd]; simp⟩
theorem rvs_end {it : Addr} {z : Str} {t : Tok} {Q : Option Value → Shared → Prop} (hh : A.handled = none) (hit : s.heap.IsRvs it z t (-1))
    (hQ : ∀ h', Heap.ExtBut it s.heap h' → (∃ o, h'.get? it = some o) → Q none { s with heap := h' }) : wpAny (model prog w) A (pyNext (.ref it)) Q E s := by
  obtain ⟨o, ho, hc, hd⟩ := id hit
  unfold pyNext
  refine wpAny_bind (wpAny_attempt (wpAny_callSpecial?_slot (name := Str.ofString "__next__") hit.typeIs F.slot_rvs_next
    (wpAny_call_entry F.slot_rvs_next hit.typeIs F.entry_rvs_next ?_ (F.args_rvs_next_1 _))))
  unfold Builtin.«reversed.__next__»
  refine wpAny_bind (wpAny_of_eq (a := (Value.ref it, [])) rfl ?_)
  try dsimp only
  refine wpAny_bind (wpAny_field ho hd (x := .str z t) rfl ?_)
  try dsimp only
  refine wpAny_bind (wpAny_field ho hd (x := rawInt (-1)) rfl ?_)
  show wpAny _ _ (if (-1 : Int) < 0 then _ else _) _ _ _
  rw [if_pos (by decide)]
  refine wpAny_bind (wpAny_rule ?_)
  refine wpAny_bind ?_
  show wpAny _ _ (setField (.ref it) 1 (rawInt (-1)) >>= fun _ => setField (.ref it) 0 .none) _ _ _
  refine wpAny_bind (wpAny_setField ho hd (by simp) ?_)
  have ho2 := Heap.get?_update_self (Obj.mapFields (·.setIfInBounds 1 (rawInt (-1)))) ho (Obj.isFreed_of_fields (Obj.data_mapFields hd _))
  have ho3 := Heap.get?_update_self (Obj.mapFields (·.setIfInBounds 0 Value.none)) ho2 (Obj.isFreed_of_fields (Obj.data_mapFields (Obj.data_mapFields hd _) _))
  refine wpAny_setField ho2 (Obj.data_mapFields hd _) (by simp) ?_
  first
  | show wpAny _ _ (newExc (.type "StopIteration") [] >>= _) _ _ _
  | (refine wpAny_bind ?_; show wpAny _ _ (newExc (.type "StopIteration") [] >>= _) _ _ _)
  refine wpAny_bind ?_
  simp only [newExc, newTuple]
  refine wpAny_bind (wpAny_newObj_type ?_ (by size_fits))
  refine wpAny_bind (m := firstArgMember _ _) (wpAny_of_eq (a := Value.none) (by first | rfl | (simp only [firstArgMember]; rfl)) ?_)
  refine wpAny_newObj_type ?_ (by size_fits)
  simp only [raiseNew]
  refine wpAny_bind (wpAny_handled ?_)
  first | rw [show A.in1.handled = none from hh] | rw [hh]
  refine wpAny_bind (wpAny_pure (wpAny_throw ?_))
  refine wpAny_bind (wpAny_isInstance (T := "StopIteration") (b := true) ⟨_, Heap.get?_push_size _ rfl, rfl⟩ isSubtype_stop ?_)
  exact wpAny_pure (hQ _ (fun b o hb e => Heap.get?_push_of_some _ (Heap.get?_push_of_some _ (Heap.SameBut.extBut (Heap.SameBut.update ..) b o hb (Heap.SameBut.extBut (Heap.SameBut.update ..) b o hb e)))) ⟨_, Heap.get?_push_of_some _ (Heap.get?_push_of_some _ ho3)⟩)
theorem rvs_self {it : Addr} {z : Str} {t : Tok} {i : Int} {Q : Value → Shared → Prop} (hit : s.heap.IsRvs it z t i) (h : Q (.ref it) s) : wpAny (model prog w) A (pyIter (.ref it)) Q E s := by
  refine wpAny_pyIter_slot hit.typeIs F.slot_rvs_iter (wpAny_call_entry F.slot_rvs_iter hit.typeIs F.entry_rvs_iter ?_ (F.args_rvs_iter_1 _))
  show wpAny _ _ (ret (.ref it)) _ _ s
  exact wpAny_pure ⟨_, rfl, "reversed", _, hit.typeIs, F.slot_rvs_next.lookup, h⟩
end
end PySem

namespace L2.Na
open PySem PySem.Spec PyProof.Rows L2 L2.L3

noncomputable def Itw (z : Str) : It := ⟨fun i _ => i < z.length, fun i H x H' => H' = H ∧ ∃ c, z.cps[z.length - 1 - i]? = some c ∧ x = sgn c, fun i _ => i = z.length⟩
theorem turn_rvs {P : Program} {w : World} {K : PySem.W.Frag} {tg : Expr} (z : Str) (t : Tok) (it : Addr) (hz : z.length ≤ sizeLine) : Turn P w K tg (Itw z) [it] it (fun i h => h.IsRvs it z t ((z.length : Int) - 1 - (i : Int))) where
  mem := by simp
  obj := fun i h st b hb => by
    have e : b = it := by simpa using hb
    subst e
    obtain ⟨o, e, c, d⟩ := st
    exact ⟨o, e, fun v z => by rw [d] at z; cases z⟩
  keep := fun i h h' st k => st.at fun o e => k it (by simp) o e
  item := by
    intro X hP hw hK hc i pins s σ H E I hf st hg
    subst hP hw hK
    have hi : i < z.length := hg
    obtain ⟨f0, f1, f2, f3, f4, f5⟩ := hf it (by simp)
    have e : (z.length : Int) - 1 - (i : Int) = ((z.length - 1 - i : Nat) : Int) := by omega
    rw [e] at st
    have hb : z.length - 1 - i < z.cps.size := by
      show _ < z.length
      omega
    have hx : z.cps[z.length - 1 - i]? = some (z.cps[z.length - 1 - i]'hb) := Array.getElem?_eq_getElem hb
    refine rvs_item hz st hx fun h' st' sb => ?_
    have I1 : Inv X pins σ H { s with heap := h', toks := s.toks + 1 + 1 } := I.turned (fun b o hb e => (sb.2 b hb).trans e) f0 f1 f3 f4 f5
    have e2 : ((z.length - 1 - i : Nat) : Int) - 1 = (z.length : Int) - 1 - ((i + 1 : Nat) : Int) := by omega
    rw [e2] at st'
    obtain ⟨o, e, c, d⟩ := id st'
    exact ⟨_, rfl, go_of (s := { s with heap := h', toks := s.toks + 1 + 1 }) e c d (by decide) ⟨sgn _, H, I1, ⟨_, rfl⟩, ⟨rfl, _, hx, rfl⟩, st', fun b hb => (hf b hb).1⟩⟩
  done := by
    intro X hP hw hK hc i pins s σ H E I hf st hg
    subst hP hw hK
    have hg : i = z.length := hg
    subst hg
    obtain ⟨f0, f1, f2, f3, f4, f5⟩ := hf it (by simp)
    have e : (z.length : Int) - 1 - (z.length : Int) = -1 := by omega
    rw [e] at st
    exact rvs_end (I.ok.hd hc) st fun h' eb _ => ⟨rfl, I.turned (t' := s.toks) (fun b o hb e => eb b o hb e) f0 f1 f3 f4 f5⟩
  self := fun _ _ _ _ _ st h => rvs_self st h
theorem yl_rvs {z : Str} : Yl (Itw z) (fun _ => True) ((ls z).reverse.map sgn) where
  go := fun i H _ h => by
    rw [List.length_map, List.length_reverse, ls_len] at h
    exact h
  yld := fun i H x H' _ hi h => by
    obtain ⟨e, c, h1, h2⟩ := h
    rw [List.length_map, List.length_reverse] at hi
    refine ⟨e, ?_⟩
    rw [List.getElem?_map, List.getElem?_reverse hi, h2, ls_len]
    have q : (ls z)[z.length - 1 - i]? = some c := by
      show z.cps.toList[z.length - 1 - i]? = some c
      simpa using h1
    rw [q]
    rfl
  stop := fun H _ => by
    rw [List.length_map, List.length_reverse, ls_len]
    rfl
section
variable {K : PySem.W.Frag}
noncomputable def rRvS : List V → Hp → (It → Hp → Prop) → Prop
  | [.str z], H, R => z.length ≤ sizeLine ∧ R (Itw z) H
  | _, _, _ => False
noncomputable def iRvS (a : EX K) : IX K where
  t := fun E σ H R => tAs [a] E σ H fun vs H1 => rRvS vs H1 R
  tm := fun _ => true
  m := fun C e => match e with
    | .Call (.Name y _) es [] _ => glB C "reversed" y && mAs [a] C es
    | _ => false
  q := fun R => qAs [a] R
  ok := fun X C E tg e hK G hE hq _ hm => by
    subst hK
    cases e with
    | Call f es ks p =>
      cases f with
      | Name y py =>
        cases ks with
        | nil =>
          simp only [Bool.and_eq_true] at hm
          obtain ⟨h1, h2⟩ := hm
          have e := glB_eq h1
          subst e
          obtain ⟨g, d⟩ := glB_gl G h1
          cases es with
          | nil => cases h2
          | cons e es =>
            intro pins s σ H R I h
            refine Call_ (ld_blt I g (G.bl _ (by decide +kernel)) PyProof.Rows.Boot.reversed (PyProof.Rows.callWith_type1 (thn (as_ok G hE [a] (e :: es) hq h2 p pins s σ H _ I h) fun us s1 ⟨vs, H1, I1, r1, q1⟩ => ?_) (shp_star (a.sok C e (mAs_cons h2).1)) (as_plain [] es (mAs_cons h2).2)))
            replace q1 : rRvS vs H1 R := q1
            unfold rRvS at q1
            split at q1
            · rename_i z
              obtain ⟨u, rfl, ru⟩ := r1.one
              obtain ⟨t, rfl⟩ := ru
              obtain ⟨hz, q⟩ := q1
              refine call_rvs hz ?_
              have st : ({ s1 with heap := s1.heap.push (rvsObj z t ((z.length : Int) - 1)), toks := s1.toks + 1 + 1 } : Shared).heap.IsRvs s1.heap.objs.size z t ((z.length : Int) - 1 - ((0 : Nat) : Int)) := ⟨_, Heap.get?_push_size _ rfl, rfl, by rw [show (z.length : Int) - 1 - ((0 : Nat) : Int) = (z.length : Int) - 1 by omega]; rfl⟩
              refine rvs_self st ?_
              refine ⟨s1.heap.objs.size, [s1.heap.objs.size], _, _, H1, rfl, I1.kept (t' := s1.toks + 1 + 1) fun b o e => Heap.get?_push_of_some _ e, turn_rvs z t _ hz, st, fun b hb => ?_, q⟩
              have e : b = s1.heap.objs.size := by simpa using hb
              subst e
              exact I1.fpOk (Nat.le_refl _) (I1.hok.fresh (Nat.le_refl _))
            · exact q1.elim
        | cons _ _ => cases hm
      | _ => exact ff hm
    | _ => exact ff hm
  fs := fun C e env x hm => by cases e with | Call f es ks p => rfl | _ => exact ff hm
section
variable {E : XS} {σ : St} {H : Hp} {a : EX K}
theorem i_rvsI {R : It → Hp → Prop} (h : a.t E σ H fun x H1 => rRvS [x] H1 R) : (iRvS a).t E σ H R := h
theorem i_rvsS {R : It → Hp → Prop} {z : Str} (c : z.length ≤ sizeLine) (h : R (Itw z) H) : rRvS [.str z] H R := ⟨c, h⟩
end
end
end L2.Na




namespace L2.Na
open PySem PySem.Spec PyProof.Rows L2 L2.L3

noncomputable def Itd (d : Addr) (o : Obj) (kvs : List (Key × V)) : It := ⟨fun i H => H d = some (.frz o (.dK kvs)) ∧ i < kvs.length, fun i H x H' => H' = H ∧ ∃ kv, kvs[i]? = some kv ∧ x = kV kv.1, fun i H => H d = some (.frz o (.dK kvs)) ∧ i = kvs.length⟩
theorem kV_rel {k : Key} {u : Value} (h : keyIs k u = true) : RelV (kV k) u := by
  rcases keyIs_shape h with ⟨i, t, rfl, rfl⟩ | ⟨x, t, rfl, rfl⟩
  · exact ⟨t, rfl⟩
  · exact ⟨t, rfl⟩
theorem frz_at {P : Program} {w : World} {H : Hp} {h : Heap} {d : Addr} {o : Obj} {kvs : List (Key × V)} {es : Array DictEntry} {ep : Nat} (hok : HOk P w H h) (hH : H d = some (.frz o (.dK kvs))) (ho : o.data = .dict es ep) :
    ∃ vs, KV kvs vs ∧ h.DictAt (mixKind P w) d vs ep := by
  obtain ⟨hg, hk⟩ := (show ObjOk P w H h d (.frz o (.dK kvs)) from hok d _ hH)
  obtain ⟨z, hsm, vs, rel, o', es', ep', ho', r1, r2, r3⟩ := (show ObjOk P w H h d (.dK kvs) from hk)
  rw [hg] at ho'
  cases ho'
  rw [ho] at r2
  cases r2
  exact ⟨vs, rel, o, es, hg, r1, ho, r3⟩
theorem turn_dct {P : Program} {w : World} {K : PySem.W.Frag} {tg : Expr} (d it : Addr) (o : Obj) (kvs : List (Key × V)) (es : Array DictEntry) (ep : Nat) (ho : o.data = .dict es ep) : Turn P w K tg (Itd d o kvs) [it] it (fun i h => h.IsKeyIter it d i kvs.length ep) where
  mem := by simp
  obj := fun i h st b hb => by
    have e : b = it := by simpa using hb
    subst e
    obtain ⟨o, e, c, d⟩ := st
    exact ⟨o, e, fun v z => by rw [d] at z; cases z⟩
  keep := fun i h h' st k => st.at fun o e => k it (by simp) o e
  item := by
    intro X hP hw hK hc i pins s σ H E I hf st hg
    subst hP hw hK
    obtain ⟨f0, f1, f2, f3, f4, f5⟩ := hf it (by simp)
    obtain ⟨hH, hi⟩ := hg
    obtain ⟨vs, rel, dd⟩ := frz_at I.hok hH ho
    have hl : vs.length = kvs.length := (KV.length rel).symm
    have hk := KV.keys rel
    have hx : vs[i]? = some (vs[i]'(by omega)) := List.getElem?_eq_getElem (by omega)
    rw [← hl] at st
    refine wpAny_pyNext_dict_item (k := (vs[i]'(by omega)).1) (v := (vs[i]'(by omega)).2) st dd hx fun key h' hkey hit' hs' => ?_
    have I1 : Inv X pins σ H { s with heap := h', toks := s.toks } := I.turned (fun b o hb e => (hs'.2 b hb).trans e) f0 f1 f3 f4 f5
    have ek : (kvs[i]'hi).1 = (vs[i]'(by omega)).1 := by
      have e1 : (kvs.map (·.1))[i]? = (vs.map (·.1))[i]? := by rw [hk]
      rw [List.getElem?_map, List.getElem?_map, hx, List.getElem?_eq_getElem hi] at e1
      exact Option.some.inj e1
    rw [hl] at hit'
    obtain ⟨o2, e2, c2, d2⟩ := id hit'
    exact ⟨_, rfl, go_of (s := { s with heap := h', toks := s.toks }) e2 c2 d2 (by decide) ⟨kV (kvs[i]'hi).1, H, I1, by rw [ek]; exact kV_rel hkey, ⟨rfl, _, List.getElem?_eq_getElem hi, rfl⟩, hit', fun b hb => (hf b hb).1⟩⟩
  done := by
    intro X hP hw hK hc i pins s σ H E I hf st hg
    subst hP hw hK
    obtain ⟨f0, f1, f2, f3, f4, f5⟩ := hf it (by simp)
    obtain ⟨hH, hi⟩ := hg
    obtain ⟨vs, rel, dd⟩ := frz_at I.hok hH ho
    have hl : vs.length = kvs.length := (KV.length rel).symm
    rw [← hl] at st
    exact wpAny_pyNext_dict_end (I.ok.hd hc) st dd (List.getElem?_eq_none_iff.mpr (by omega)) fun h' eb => ⟨rfl, I.turned (t' := s.toks) (fun b o hb e => eb b o hb e) f0 f1 f3 f4 f5⟩
  self := fun _ _ _ _ _ st h => wpAny_pyIter_keyiter st h
theorem yl_dct {d : Addr} {o : Obj} {kvs : List (Key × V)} : Yl (Itd d o kvs) (fun H => H d = some (.frz o (.dK kvs))) (kvs.map fun kv => kV kv.1) where
  go := fun i H p h => ⟨p, by rw [List.length_map] at h; exact h⟩
  yld := fun i H x H' p hi h => by
    obtain ⟨e, kv, h1, h2⟩ := h
    refine ⟨e, ?_⟩
    rw [List.getElem?_map, h1, h2]
    rfl
  stop := fun H p => ⟨p, List.length_map _⟩
section
variable {K : PySem.W.Frag}
noncomputable def rDct : V → Hp → (It → Hp → Prop) → Prop
  | .ref d, H, R => ∃ kvs, H d = some (.dK kvs) ∧ ∀ o, R (Itd d o kvs) (upd H d (.frz o (.dK kvs)))
  | _, _, _ => False
theorem dct_run {X : Cx} {tg : Expr} {pins : List (Addr × Obj)} {s1 : Shared} {σ : St} {H1 : Hp} {x : V} {v : Value} {R : It → Hp → Prop} (I1 : Inv X pins σ H1 s1) (r1 : RelV x v) (q1 : rDct x H1 R) :
    wpAny (model X.prog X.w) X.A (pyIter v) (PIE X pins σ tg R) X.xe s1 := by
  unfold rDct at q1
  split at q1
  · rename_i d
    cases (show v = Value.ref d from r1)
    obtain ⟨kvs, hH, q⟩ := q1
    obtain ⟨z, hsm, vs, rel, dd⟩ := dk_of I1.hok hH
    obtain ⟨o, es, ep, ho, hd1, hd2, hd3⟩ := id dd
    have I2 : Inv X pins σ (upd H1 d (.frz o (.dK kvs))) { s1 with heap := s1.heap, toks := s1.toks } := d_write I1 (by rw [hH]; trivial) ⟨rfl, fun b _ => rfl⟩ ⟨o, ho⟩ ⟨ho, z, hsm, vs, rel, dd⟩
    refine wpAny_pyIter_dict hsm ⟨o, es, ho, hd1, hd2, hd3⟩ ?_
    have hl : vs.length = kvs.length := (KV.length rel).symm
    rw [hl]
    refine ⟨s1.heap.objs.size, [s1.heap.objs.size], _, _, upd H1 d (.frz o (.dK kvs)), rfl, I2.kept (t' := s1.toks) fun b o e => Heap.get?_push_of_some _ e, turn_dct d _ o kvs es ep hd2, ⟨_, Heap.get?_push_size _ rfl, rfl, rfl⟩, fun b hb => ?_, q o⟩
    have e : b = s1.heap.objs.size := by simpa using hb
    subst e
    exact I2.fpOk (Nat.le_refl _) (I2.hok.fresh (Nat.le_refl _))
  · exact q1.elim
noncomputable def iDct (a : EX K) : IX K where
  t := fun E σ H R => a.t E σ H fun x H1 => rDct x H1 R
  tm := fun _ => true
  m := a.m
  q := a.q
  ok := fun X C E tg e hK G hE hq _ hm => by
    subst hK
    intro pins s σ H R I h
    exact thn (a.ok X C E e rfl G hE hq hm pins s σ H _ I h) fun v s1 ⟨x, H1, I1, r1, q1⟩ => dct_run I1 r1 q1
  fs := fun C e env x hm => shp_fold (a.sok C e hm) x
theorem i_dctI {E : XS} {σ : St} {H : Hp} {a : EX K} {R : It → Hp → Prop} (h : a.t E σ H fun x H1 => rDct x H1 R) : (iDct a).t E σ H R := h
theorem i_dct {H : Hp} {d : Addr} {kvs : List (Key × V)} {R : It → Hp → Prop} (h : H d = some (.dK kvs)) (q : ∀ o, R (Itd d o kvs) (upd H d (.frz o (.dK kvs)))) : rDct (.ref d) H R := ⟨kvs, h, q⟩

noncomputable def cmpR (op : CmpOp) (r : R2) (hr : ∀ X : Cx, X.K = K → X.A.units + 64 < cLine → OpR X (compareOp op) r) (a b : EX K) : EX K where
  t := fun E => tOp r (a.t E) (b.t E)
  tt := fun E σ H Q => a.t E σ H fun x H1 => b.t E σ H1 fun y H2 => r x y H2 fun v H3 => ∃ c, v = .bl c ∧ Q c H3
  m := fun C e => match e with
    | .Compare l [o] [r] _ => decide (o = op) && (a.m C l && b.m C r)
    | _ => false
  q := fun R => a.q R ∧ b.q R
  s := .pl
  ok := fun X C E e hK G hE hq hm => by
    subst hK
    cases e with
    | Compare l os rs p =>
      match os, rs, hm with
      | [o], [r'], hm =>
        simp only [Bool.and_eq_true] at hm
        obtain ⟨h1, h2, h3⟩ := hm
        have e := of_decide_eq_true h1
        subst e
        exact pe_cmpR (hr X rfl G.hu) (a.ok X C E l rfl G hE hq.1 h2) (b.ok X C E r' rfl G hE hq.2 h3) (shp_mark (b.sok C r' h3))
    | _ => exact ff hm
  okT := fun X C E e hK G hE hq hm => by
    subst hK
    cases e with
    | Compare l os rs p =>
      match os, rs, hm with
      | [o], [r'], hm =>
        simp only [Bool.and_eq_true] at hm
        obtain ⟨h1, h2, h3⟩ := hm
        have e := of_decide_eq_true h1
        subst e
        intro pins s σ H Q I hw
        refine wpAny_isTrue_Compare1 (thn (a.ok X C E l rfl G hE hq.1 h2 pins s σ H _ I hw) fun v s1 ⟨x, H1, I1, r1, q1⟩ => thn (b.ok X C E r' rfl G hE hq.2 h3 pins s1 σ H1 _ I1 q1) fun u s2 ⟨y, H2, I2, r2, q2⟩ =>
          thn (hr X rfl G.hu pins s2 σ H2 x y v u _ I2 r1 r2 q2) fun c s3 ⟨z, H3, I3, r3, q3⟩ => ?_) (shp_mark (b.sok C r' h3))
        obtain ⟨d, rfl, q⟩ := q3
        cases r3
        exact wpAny_truthy_bool ⟨H3, I3, q⟩
    | _ => exact ff hm
  sok := fun C e hm => by cases e with | Compare l o r p => rfl | _ => exact ff hm

noncomputable def rGeS : R2 := fun x y H Q => ∃ i j, x = .str i ∧ y = .str j ∧ Q (.bl (!decide (i.cps.toList < j.cps.toList))) H
theorem op_geS {X : Cx} : OpR X (compareOp .GtE) rGeS := by
  intro pins s σ H x y v u Q I rx ry h
  obtain ⟨i, j, rfl, rfl, q⟩ := h
  obtain ⟨t, rfl⟩ := rx
  obtain ⟨t', rfl⟩ := ry
  exact PySem.P.ge_str (fin_bl I q (by simp))
noncomputable def geS (a b : EX K) : EX K := cmpR .GtE rGeS (fun _ _ _ => op_geS) a b

noncomputable def rInD : R2 := fun y x H Q => ∃ a o, x = .ref a ∧ DGet H a y o ∧ Q (.bl o.isSome) H
theorem op_inD {X : Cx} (hu : X.A.units + 64 < cLine) : OpR X (compareOp .In) rInD := by
  intro pins s σ H y x v u Q I ry rx h
  obtain ⟨a, o, rfl, g, q⟩ := h
  cases (show u = Value.ref a from rx)
  exact d_in (by omega) I g ry fun s' I' => ⟨.bl o.isSome, H, I', rfl, q⟩
noncomputable def inD (a b : EX K) : EX K := cmpR .In rInD (fun _ _ hu => op_inD hu) a b
section
variable {E : XS} {σ : St} {H : Hp} {a b : EX K}
theorem i_geS {Q : VK} (h : a.t E σ H fun x H1 => b.t E σ H1 fun y H2 => rGeS x y H2 Q) : (geS a b).t E σ H Q := h
theorem j_inD {QB : Bool → Hp → Prop} (h : a.t E σ H fun x H1 => b.t E σ H1 fun y H2 => rInD x y H2 fun v H3 => ∃ c, v = .bl c ∧ QB c H3) : (inD a b).tt E σ H QB := h
end
end
end L2.Na




namespace L2.Na
open PySem PySem.Spec PyProof.Rows L2 L2.L3
section
variable {K : PySem.W.Frag}
noncomputable abbrev abcd : Str := Str.ofString "abcd"
theorem abcd_len : abcd.length = 4 := by decide +kernel
theorem abcd_cps : abcd.cps.toList = [97, 98, 99, 100] := by decide +kernel
theorem small {n : Nat} (h : n ≤ 1000000) : n ≤ sizeLine := Nat.le_trans h (by rw [sizeLine_eq]; decide)
theorem abcd_at {r m : Int} (h0 : 0 ≤ r) (hm : r < m) (h4 : m ≤ 4) : atI abcd.cps.toList r = some (97 + r.toNat) := by
  have : r = 0 ∨ r = 1 ∨ r = 2 ∨ r = 3 := by omega
  rw [abcd_cps]
  rcases this with rfl | rfl | rfl | rfl <;> rfl
noncomputable def sp_law_word (K : PySem.W.Frag) : Sp := fun vs H Q _ => ∃ n m s : Int, vs = [.int n, .int m, .int s] ∧ 1 ≤ m ∧ m ≤ 4 ∧ 0 ≤ s ∧ s ≤ 1000 ∧ ∀ z : Str, IsW m.toNat z → z.length = s.toNat → Q (.str z) H
noncomputable def b_law_word (K : PySem.W.Frag) : List (SX K) :=
  [set 3 (cst (.str "")),
    forS (nam 4) (iRng (var 2) []) [set 0 (bin .Mod (bin .Mult (bin .Add (bin .Add (var 0) (var 4)) (cst (.int 3))) (cst (.int 48271))) (cst (.int 2147483647))),
      set 3 (bin .Add (var 3) (ix (cst (.str "abcd")) (bin .Mod (bin .FloorDiv (var 0) (cst (.int 64))) (var 1))))],
    ret (var 3)]
theorem l_law_word : ∀ vs H Q E, sp_law_word K vs H Q E → vs.length = 3 := by
  rintro vs H Q E ⟨_, _, _, rfl, _⟩
  rfl
theorem t_law_word (vs : List V) (H : Hp) (Q : VK) (E : XK) (h : sp_law_word K vs H Q E) : tSs (b_law_word K) (fun _ => E) { nx := fun _ H' => Q .non H', rt := Q } (start ["_law_number", "_law_many", "_law_size", "_law_word_here", "_law_k"] vs) H := by
  obtain ⟨n, m, s, rfl, h1, h4, hs0, hs, q⟩ := h
  unfold b_law_word
  walk_at "go"
  refine loop_rng (fun i σ H' => H' = H ∧ ∃ (n' : Int) (z : Str) (a4 : Option V), IsW m.toNat z ∧ z.length = i ∧ σ = [some (.int n'), some (.int m), some (.int s), some (.str z), a4]) ⟨rfl, n, _, none, IsW.nil, by decide +kernel, rfl⟩ (fun i σ H' hi hp => ?_) fun σ H' hp => ?_
  · obtain ⟨rfl, n', z, a4, hz, hl, rfl⟩ := hp
    walk_at "go"
    refine i_ixS (by rw [abcd_len]; decide) (abcd_at (Int.emod_nonneg _ (by omega)) (Int.emod_lt_of_pos _ (by omega)) h4) ?_
    refine i_addS (small (by show z.length + 1 ≤ 1000000; omega)) ?_
    refine ⟨rfl, _, _, _, IsW.app hz (IsW.sgn (by omega) ?_), by rw [len_app, hl]; rfl, rfl⟩
    have := Int.emod_lt_of_pos ((n' + (0 + (i : Nat)) + 3) * 48271 % 2147483647 / 64) (show (0 : Int) < m by omega)
    have := Int.emod_nonneg ((n' + (0 + (i : Nat)) + 3) * 48271 % 2147483647 / 64) (show m ≠ 0 by omega)
    omega
  · obtain ⟨rfl, n', z, a4, hz, hl, rfl⟩ := hp
    walk_at "go"
    exact q z hz hl


structure Rl (K : PySem.W.Frag) (H : Hp) (a : Addr) (ws : List Str) (most : Nat) : Prop where
  tp : H a = some (.tup (ws.map V.str))
  pos : 1 ≤ ws.length
  four : ws.length ≤ 4
  isw : ∀ w ∈ ws, IsW ws.length w
  one : ∀ w ∈ ws, 1 ≤ w.length
  le : ∀ w ∈ ws, w.length ≤ most
theorem Same.seqT {H H' : Hp} {a : Addr} {xs : List V} (e : Same H H') (h : SqT K H a xs) : SqT K H' a xs := by
  rcases h with (h | ⟨o, h⟩) | h
  · exact .inl (.inl (e _ _ h))
  · exact .inl (.inr ⟨o, e _ _ h⟩)
  · exact .inr h
theorem Rl.sq {H : Hp} {a : Addr} {ws : List Str} {m : Nat} (h : Rl K H a ws m) : SqT K H a (ws.map V.str) := SqT.of h.tp
theorem Rl.same {H H' : Hp} {a : Addr} {ws : List Str} {m : Nat} (h : Rl K H a ws m) (e : Same H H') : Rl K H' a ws m := ⟨e _ _ h.tp, h.pos, h.four, h.isw, h.one, h.le⟩
theorem Rl.mono {H : Hp} {a : Addr} {ws : List Str} {m n : Nat} (h : Rl K H a ws m) (e : m ≤ n) : Rl K H a ws n := ⟨h.tp, h.pos, h.four, h.isw, h.one, fun w hw => Nat.le_trans (h.le w hw) e⟩

theorem same_upd {H0 H : Hp} {p : Addr} {o : HO} (e : Same H0 H) (hp : H0 p = none) : Same H0 (upd H p o) := fun b u q => by rw [upd_ne (ne_of_none q hp)]; exact e b u q
theorem IsW.to {m : Nat} {z : Str} {k : Int} (h : IsW m z) (h0 : 0 ≤ k) : IsW m (Txt.slice z none (some k)) := h.of_ls fun c hc => by
  rw [show ls (Txt.slice z none (some k)) = (ls z).take k.toNat from slice_to h0] at hc
  exact List.mem_of_mem_take hc
theorem IsW.from {m : Nat} {z : Str} {k : Int} (h : IsW m z) (h0 : 0 ≤ k) (h1 : k ≤ z.length) : IsW m (Txt.slice z (some k) none) := h.of_ls fun c hc => by
  rw [show ls (Txt.slice z (some k) none) = (ls z).drop k.toNat from slice_from h0 h1] at hc
  exact List.mem_of_mem_drop hc
theorem kStr : PySem.W.kitOne K (.type "str") (.type "str") = some true := by kernel_rfl
end
end L2.Na




namespace L2.Na
open PySem PySem.Spec PyProof.Rows L2 L2.L3
section
variable {K : PySem.W.Frag}
noncomputable def known (m : Int) : Str := Txt.slice abcd none (some m)
theorem ls_known {m : Int} (h0 : 0 ≤ m) (h4 : m ≤ 4) : ls (known m) = (List.range m.toNat).map (97 + ·) := by
  unfold known
  rw [show ls (Txt.slice abcd none (some m)) = abcd.cps.toList.take m.toNat from slice_to h0, abcd_cps]
  have : m = 0 ∨ m = 1 ∨ m = 2 ∨ m = 3 ∨ m = 4 := by omega
  rcases this with rfl | rfl | rfl | rfl | rfl <;> rfl
theorem known_len {m : Int} (h0 : 0 ≤ m) (h4 : m ≤ 4) : (known m).length = m.toNat := by rw [← ls_len, ls_known h0 h4, List.length_map, List.length_range]
noncomputable def sp_letters (K : PySem.W.Frag) : Sp := fun vs H Q _ => ∃ m : Int, vs = [.int m] ∧ Q (.str (known m)) H
noncomputable def b_letters (K : PySem.W.Frag) : List (SX K) :=
  [ret (slc (glb "LETTERS" (.str "abcd")) none (some (var 0)))]
theorem l_letters : ∀ vs H Q E, sp_letters K vs H Q E → vs.length = 1 := by
  rintro vs H Q E ⟨_, rfl, _⟩
  rfl
theorem t_letters (vs : List V) (H : Hp) (Q : VK) (E : XK) (h : sp_letters K vs H Q E) : tSs (b_letters K) (fun _ => E) { nx := fun _ H' => Q .non H', rt := Q } (start ["many"] vs) H := by
  obtain ⟨m, rfl, q⟩ := h
  unfold b_letters
  walk_at "go"
  exact i_slS (by rw [abcd_len]; decide) q


noncomputable def WB (H : Hp) (d : Addr) (ws : List Str) : Prop := ∃ kvs, H d = some (.dK kvs) ∧ (∀ k w, ws[k]? = some w → valV kvs (.inr ⟨#[97 + k]⟩) = some (.str w)) ∧ ∀ c, ¬ (97 ≤ c ∧ c < 97 + ws.length) → valV kvs (.inr ⟨#[c]⟩) = none
theorem WB.same {H H' : Hp} {d : Addr} {ws : List Str} (h : WB H d ws) (e : Same H H') : WB H' d ws := by
  obtain ⟨kvs, h1, h2, h3⟩ := h
  exact ⟨kvs, e _ _ h1, h2, h3⟩
theorem WB.get {H : Hp} {d : Addr} {ws : List Str} (h : WB H d ws) {c : Nat} {w : Str} (hc : 97 ≤ c) (hw : ws[c - 97]? = some w) : DGet H d (sgn c) (some (.str w)) := by
  obtain ⟨kvs, h1, h2, _⟩ := h
  have e := h2 (c - 97) w hw
  have : 97 + (c - 97) = c := by omega
  rw [this] at e
  rw [← e]
  exact DGet.k (k := .inr ⟨#[c]⟩) h1

structure Rt4 (K : PySem.W.Frag) (H : Hp) (a : Addr) (ws : List Str) : Prop where
  tp : SqT K H a (ws.map V.str)
  pos : 1 ≤ ws.length
  four : ws.length ≤ 4
theorem Rt4.same {H H' : Hp} {a : Addr} {ws : List Str} (h : Rt4 K H a ws) (e : Same H H') : Rt4 K H' a ws := ⟨Same.seqT e h.tp, h.pos, h.four⟩
theorem Rl.rt {H : Hp} {a : Addr} {ws : List Str} {m : Nat} (h : Rl K H a ws m) : Rt4 K H a ws := ⟨h.sq, h.pos, h.four⟩
end
end L2.Na




namespace L2.Na
open PySem
end L2.Na




namespace L2.Na
open PySem PySem.Spec PyProof.Rows L2 L2.L3
section
variable {K : PySem.W.Frag}
end
end L2.Na




namespace L2.Na
open PySem PySem.Spec PyProof.Rows L2 L2.L3
section
variable {K : PySem.W.Frag}
noncomputable instance (m : Nat) (z : Str) : Decidable (IsW m z) := by unfold IsW; infer_instance
end
end L2.Na




namespace L2.Na
open PySem PySem.Spec PyProof.Rows L2 L2.L3
section
variable {K : PySem.W.Frag}
theorem kIntI : PySem.W.kitOne K (.type "int") (.type "int") = some true := by kernel_rfl
theorem kIntB : PySem.W.kitOne K (.type "int") (.type "bool") = some false := by kernel_rfl
theorem kTupT : PySem.W.kitOne K (.type "tuple") (.type "tuple") = some true := by kernel_rfl
noncomputable def sp_law_whole (K : PySem.W.Frag) : Sp := fun vs H Q _ => ∃ i : Int, vs = [.int i] ∧ Q (.bl true) H
noncomputable def b_law_whole (K : PySem.W.Frag) : List (SX K) :=
  [ret (andE (isi (var 0) tyInt) [notE (isi (var 0) tyBool)])]
theorem l_law_whole : ∀ vs H Q E, sp_law_whole K vs H Q E → vs.length = 1 := by
  rintro vs H Q E ⟨_, rfl, _⟩
  rfl
theorem t_law_whole (vs : List V) (H : Hp) (Q : VK) (E : XK) (h : sp_law_whole K vs H Q E) : tSs (b_law_whole K) (fun _ => E) { nx := fun _ H' => Q .non H', rt := Q } (start ["_law_found"] vs) H := by
  obtain ⟨i, rfl, q⟩ := h
  unfold b_law_whole
  walk_at "go"
  refine ⟨_, _, TyOf.int i, kIntI, ?_⟩
  walk_at "go"
  refine brT ?_
  walk_at "go"
  refine ⟨_, _, TyOf.int i, kIntB, ?_⟩
  walk_at "go"
  exact q
end
end L2.Na




namespace L2.Na
open PySem

noncomputable def sg (ds : List Int) (z : Str) : Int := ((ls z).map fun c => ds[c - 97]?.getD 0).sum

noncomputable def szs (ws : List Str) : Nat → List Int
  | 0 => List.replicate ws.length 1
  | t + 1 => ws.map (sg (szs ws t))

noncomputable def growB (ws : List Str) (c : Nat) : Bool := match ws[c - 97]? with
  | some w => decide (97 ≤ c) && (decide (1 < w.length) && decide ((ls w)[0]? = some c))
  | none => false
end L2.Na




namespace L2.Na
open PySem PySem.Spec PyProof.Rows L2 L2.L3
section
variable {K : PySem.W.Frag}

noncomputable def TbR (H : Hp) (p : Addr) (rs : List Addr) (rows : List (List Int)) : Prop := H p = some (.lst (rs.map V.ref)) ∧ rs.length = rows.length ∧ ∀ (i : Nat) (r : Addr) (row : List Int), rs[i]? = some r → rows[i]? = some row → H r = some (.lst (row.map V.int))
theorem TbR.same {H H' : Hp} {p : Addr} {rs : List Addr} {rows : List (List Int)} (h : TbR H p rs rows) (e : Same H H') : TbR H' p rs rows := ⟨e _ _ h.1, h.2.1, fun i r row a b => e _ _ (h.2.2 i r row a b)⟩
theorem none_of {H H' : Hp} {r : Addr} (e : Same H H') (h : H' r = none) : H r = none := by
  cases q : H r with
  | none => rfl
  | some o => rw [e _ _ q] at h; cases h
end
end L2.Na




namespace L2.Na
open PySem PySem.Spec PyProof.Rows L2 L2.L3
section
variable {K : PySem.W.Frag}
theorem i_put {E : XS} {σ : St} {H : Hp} {D : Ends} {o i a : EX K} (h : a.t E σ H fun x H1 => o.t E σ H1 fun y H2 => i.t E σ H2 fun z H3 => rPut y z x H3 fun H4 => D.nx σ H4) : (put o i a).t E D σ H := h
theorem i_putL {H : Hp} {Q : Hp → Prop} {p : Addr} {xs : List V} {k : Nat} {v : V} (e : H p = some (.lst xs)) (hk : k < xs.length) (h : Q (upd H p (.lst (xs.set k v)))) : rPut (.ref p) (.int k) v H Q :=
  .inl ⟨p, xs, k, k, rfl, rfl, e, by unfold ixN; rw [if_pos (by omega), if_pos (by omega)]; simp, h⟩
theorem cut_map (ns : List Int) (lo hi : Option Int) : ∃ ms : List Int, cutV (ns.map V.int) lo hi = ms.map V.int ∧ ms.length ≤ ns.length := by
  refine ⟨(ns.drop (HT.sIx ns.length 0 lo)).take (HT.sIx ns.length ns.length hi - HT.sIx ns.length 0 lo), ?_, ?_⟩
  · unfold cutV
    rw [List.length_map, List.map_take, List.map_drop]
  · rw [List.length_take, List.length_drop]
    omega
end
end L2.Na




namespace L2.Na
open PySem PySem.Spec PyProof.Rows L2 L2.L3
section
variable {K : PySem.W.Frag}
end
end L2.Na




namespace L2.Na
open PySem PySem.Spec PyProof.Rows L2 L2.L3
section
variable {K : PySem.W.Frag}
end
end L2.Na




namespace L2.Na
open PySem

noncomputable def sz (ws : List Str) (k c : Nat) : Int := (szs ws k)[c - 97]?.getD 0
noncomputable def sumsz (ws : List Str) (k : Nat) (l : List Nat) : Int := (l.map (sz ws k)).sum
theorem sz_zero {ws : List Str} {c : Nat} (h2 : c - 97 < ws.length) : sz ws 0 c = 1 := by
  show (List.replicate ws.length (1 : Int))[c - 97]?.getD 0 = 1
  rw [List.getElem?_replicate, if_pos h2]
  rfl
theorem sz_succ {ws : List Str} {k c : Nat} (h2 : c - 97 < ws.length) : sz ws (k + 1) c = sumsz ws k (wd ws c) := by
  show (ws.map (sg (szs ws k)))[c - 97]?.getD 0 = _
  rw [List.getElem?_map, List.getElem?_eq_getElem h2]
  unfold wd
  rw [List.getElem?_eq_getElem h2]
  rfl

structure Ru (ws : List Str) : Prop where
  pos : 1 ≤ ws.length
  four : ws.length ≤ 4
  isw : ∀ w ∈ ws, IsW ws.length w
  one : ∀ w ∈ ws, 1 ≤ w.length
  le : ∀ w ∈ ws, w.length ≤ 100
theorem Ru.word {ws : List Str} (h : Ru ws) {c : Nat} (h2 : c - 97 < ws.length) : ∃ w, ws[c - 97]? = some w ∧ wd ws c = ls w ∧ w ∈ ws := by
  refine ⟨ws[c - 97], List.getElem?_eq_getElem h2, ?_, List.getElem_mem h2⟩
  unfold wd
  rw [List.getElem?_eq_getElem h2]
  rfl
theorem Ru.sign {ws : List Str} (h : Ru ws) {c d : Nat} (h2 : c - 97 < ws.length) (hd : d ∈ wd ws c) : 97 ≤ d ∧ d - 97 < ws.length := by
  obtain ⟨w, _, e, hm⟩ := h.word h2
  rw [e] at hd
  have := h.isw w hm d hd
  omega

noncomputable def fst' (ws : List Str) (k : Nat) : List Nat → Int → Nat × Int
  | [], x => (0, x)
  | c :: l, x => if sz ws k c ≤ x then ((fst' ws k l (x - sz ws k c)).1 + 1, (fst' ws k l (x - sz ws k c)).2) else (0, x)
theorem fst_ok {ws : List Str} {k : Nat} : ∀ (l : List Nat) (x : Int), 0 ≤ x → x < sumsz ws k l → (fst' ws k l x).1 < l.length ∧ 0 ≤ (fst' ws k l x).2 ∧ (∀ d, l[(fst' ws k l x).1]? = some d → (fst' ws k l x).2 < sz ws k d) ∧ (fst' ws k l x).2 = x - sumsz ws k (l.take (fst' ws k l x).1)
  | [], x, h0, h => by
    have e : sumsz ws k [] = 0 := rfl
    rw [e] at h
    omega
  | c :: l, x, h0, h => by
    have e : sumsz ws k (c :: l) = sz ws k c + sumsz ws k l := by unfold sumsz; rw [List.map_cons, List.sum_cons]
    rw [e] at h
    unfold fst'
    by_cases hc : sz ws k c ≤ x
    · rw [if_pos hc]
      obtain ⟨h1, h2, h3, h4⟩ := fst_ok (ws := ws) (k := k) l (x - sz ws k c) (by omega) (by omega)
      refine ⟨by rw [List.length_cons]; show _ + 1 < _; omega, h2, fun d hd => h3 d (by simpa using hd), ?_⟩
      show (fst' ws k l (x - sz ws k c)).2 = x - sumsz ws k ((c :: l).take ((fst' ws k l (x - sz ws k c)).1 + 1))
      rw [List.take_succ_cons]
      have e2 : sumsz ws k (c :: l.take (fst' ws k l (x - sz ws k c)).1) = sz ws k c + sumsz ws k (l.take (fst' ws k l (x - sz ws k c)).1) := by unfold sumsz; rw [List.map_cons, List.sum_cons]
      rw [e2, h4]
      omega
    · rw [if_neg hc]
      refine ⟨by rw [List.length_cons]; show 0 < _; omega, h0, fun d hd => ?_, ?_⟩
      · have hd' : c = d := by simpa using hd
        subst hd'
        show x < _
        omega
      · show x = x - sumsz ws k ((c :: l).take 0)
        rw [List.take_zero]
        have e0 : sumsz ws k [] = 0 := rfl
        rw [e0]
        omega

noncomputable def Good (ws : List Str) (k c : Nat) (x : Int) : Prop := 97 ≤ c ∧ c - 97 < ws.length ∧ 0 ≤ x ∧ x < sz ws k c
theorem Good.step {ws : List Str} (h : Ru ws) {k c : Nat} {x : Int} (g : Good ws (k + 1) c x) : ∃ d, (wd ws c)[(fst' ws k (wd ws c) x).1]? = some d ∧ Good ws k d (fst' ws k (wd ws c) x).2 := by
  obtain ⟨g1, g2, g3, g4⟩ := g
  rw [sz_succ g2] at g4
  obtain ⟨h1, h2, h3, h4⟩ := fst_ok (wd ws c) x g3 g4
  refine ⟨(wd ws c)[(fst' ws k (wd ws c) x).1], List.getElem?_eq_getElem h1, ?_⟩
  obtain ⟨s1, s2⟩ := h.sign g2 (List.getElem_mem h1)
  exact ⟨s1, s2, h2, h3 _ (List.getElem?_eq_getElem h1)⟩

theorem least {P : Nat → Prop} [DecidablePred P] : ∀ {m : Nat}, P m → ∃ k, k ≤ m ∧ P k ∧ ∀ i, i < k → ¬ P i
  | 0, h => ⟨0, Nat.le_refl _, h, fun i hi => absurd hi (Nat.not_lt_zero _)⟩
  | m + 1, h => by
    by_cases h0 : P 0
    · exact ⟨0, Nat.zero_le _, h0, fun i hi => absurd hi (Nat.not_lt_zero _)⟩
    · obtain ⟨k, h1, h2, h3⟩ := least (P := fun k => P (k + 1)) (m := m) h
      refine ⟨k + 1, by omega, h2, fun i hi => ?_⟩
      cases i with
      | zero => exact h0
      | succ i => exact h3 i (by omega)
end L2.Na




namespace L2.Na
open PySem PySem.Spec PyProof.Rows L2 L2.L3
section
variable {K : PySem.W.Frag}
theorem TbR.snoc {H H' : Hp} {p r : Addr} {rs : List Addr} {rows : List (List Int)} {row : List Int} (h : TbR H p rs rows) (hr : H' r = some (.lst (row.map V.int))) (hp : H' p = some (.lst ((rs ++ [r]).map V.ref))) (hs : ∀ b o, b ≠ p → H b = some o → H' b = some o) (hne : ∀ x ∈ rs, x ≠ p) : TbR H' p (rs ++ [r]) (rows ++ [row]) := by
  refine ⟨hp, by rw [List.length_append, List.length_append, h.2.1]; rfl, fun i x y hx hy => ?_⟩
  by_cases hi : i < rs.length
  · rw [List.getElem?_append_left hi] at hx
    rw [List.getElem?_append_left (by rw [← h.2.1]; exact hi)] at hy
    exact hs _ _ (hne x (List.mem_of_getElem? hx)) (h.2.2 i x y hx hy)
  · rw [List.getElem?_append_right (by omega)] at hx
    rw [List.getElem?_append_right (by rw [← h.2.1]; omega), ← h.2.1] at hy
    have e0 : i - rs.length = 0 := by
      have := (List.getElem?_eq_some_iff.mp hx).1
      simp at this
      omega
    rw [e0] at hx hy
    have e1 : r = x := by simpa using hx
    have e2 : row = y := by simpa using hy
    subst e1 e2
    exact hr
noncomputable def Rt.ru {K : PySem.W.Frag} {H : Hp} {a : Addr} {ws : List Str} (_ : Rt4 K H a ws) : Prop := Ru ws
theorem i_neg {E : XS} {σ : St} {H : Hp} {Q : VK} {a : EX K} (h : a.t E σ H fun x H1 => rNeg x H1 Q) : (neg a).t E σ H Q := h
theorem i_negI {H : Hp} {Q : VK} {i : Int} (h : Q (.int (-i)) H) : rNeg (.int i) H Q := h

noncomputable def FgR (H : Hp) (p : Addr) (rs : List Addr) (fs : List (Nat × Nat)) : Prop := H p = some (.lst (rs.map V.ref)) ∧ rs.length = fs.length ∧ ∀ (i : Nat) (r : Addr) (f : Nat × Nat), rs[i]? = some r → fs[i]? = some f → H r = some (.tup [.int (f.1 : Nat), sgn f.2])
theorem FgR.same {H H' : Hp} {p : Addr} {rs : List Addr} {fs : List (Nat × Nat)} (h : FgR H p rs fs) (e : Same H H') : FgR H' p rs fs := ⟨e _ _ h.1, h.2.1, fun i r f a b => e _ _ (h.2.2 i r f a b)⟩

noncomputable def SB (H : Hp) (d : Addr) (ws : List Str) (k : Nat) : Prop := ∃ kvs, H d = some (.dK kvs) ∧ ∀ c, 97 ≤ c → c - 97 < ws.length → valV kvs (.inr ⟨#[c]⟩) = some (.int (sz ws k c))
theorem SB.get {H : Hp} {d : Addr} {ws : List Str} {k c : Nat} (h : SB H d ws k) (h1 : 97 ≤ c) (h2 : c - 97 < ws.length) : DGet H d (sgn c) (some (.int (sz ws k c))) := by
  obtain ⟨kvs, e, f⟩ := h
  rw [← f c h1 h2]
  exact DGet.k (k := .inr ⟨#[c]⟩) e
theorem SB.same {H H' : Hp} {d : Addr} {ws : List Str} {k : Nat} (h : SB H d ws k) (e : Same H H') : SB H' d ws k := by
  obtain ⟨kvs, e1, f⟩ := h
  exact ⟨kvs, e _ _ e1, f⟩
noncomputable def Off (p : Addr) (H H' : Hp) : Prop := ∀ b o, b ≠ p → H b = some o → H' b = some o
theorem Off.trans {p : Addr} {H H1 H2 : Hp} (a : Off p H H1) (b : Same H1 H2) : Off p H H2 := fun c o h e => b c o (a c o h e)
theorem Off.upd {p : Addr} {H H1 : Hp} {o : HO} (a : Off p H H1) : Off p H (upd H1 p o) := fun c u h e => by rw [upd_ne h]; exact a c u h e
theorem Off.same {p : Addr} {H0 H H1 : Hp} (s : Same H0 H) (a : Off p H H1) (hp : H0 p = none) : Same H0 H1 := fun c o e => a c o (ne_of_none e hp) (s c o e)
end
end L2.Na




namespace L2.Na
open PySem
noncomputable def imgL (ws : List Str) (l : List Nat) : List Nat := l.flatMap (wd ws)
theorem imgL_app (ws : List Str) (a b : List Nat) : imgL ws (a ++ b) = imgL ws a ++ imgL ws b := List.flatMap_append ..
theorem imgL_cons (ws : List Str) (c : Nat) (l : List Nat) : imgL ws (c :: l) = wd ws c ++ imgL ws l := List.flatMap_cons ..

noncomputable def wk (ws : List Str) (c : Nat) : Nat → List Nat
  | 0 => [c]
  | k + 1 => imgL ws (wk ws c k)
noncomputable def LetL (ws : List Str) (l : List Nat) : Prop := ∀ c ∈ l, 97 ≤ c ∧ c - 97 < ws.length
theorem LetL.img {ws : List Str} (h : Ru ws) {l : List Nat} (hl : LetL ws l) : LetL ws (imgL ws l) := fun c hc => by
  unfold imgL at hc
  obtain ⟨d, hd, hcd⟩ := List.mem_flatMap.mp hc
  exact h.sign (hl d hd).2 hcd
theorem wk_let {ws : List Str} (h : Ru ws) {c : Nat} (h1 : 97 ≤ c) (h2 : c - 97 < ws.length) : ∀ k, LetL ws (wk ws c k)
  | 0 => fun d hd => by
    have : d = c := by simpa [wk] using hd
    subst this; exact ⟨h1, h2⟩
  | k + 1 => (wk_let h h1 h2 k).img h
theorem sumsz_app (ws : List Str) (k : Nat) (a b : List Nat) : sumsz ws k (a ++ b) = sumsz ws k a + sumsz ws k b := by unfold sumsz; rw [List.map_append, List.sum_append]
theorem sumsz_cons (ws : List Str) (k c : Nat) (l : List Nat) : sumsz ws k (c :: l) = sz ws k c + sumsz ws k l := by unfold sumsz; rw [List.map_cons, List.sum_cons]
theorem sumsz_img {ws : List Str} {k : Nat} : ∀ {l : List Nat}, LetL ws l → sumsz ws k (imgL ws l) = sumsz ws (k + 1) l
  | [], _ => rfl
  | c :: l, h => by
    rw [imgL_cons, sumsz_app, sumsz_cons, sumsz_img fun d hd => h d (List.mem_cons_of_mem _ hd), sz_succ (h c List.mem_cons_self).2]
theorem sumsz_zero {ws : List Str} : ∀ {l : List Nat}, LetL ws l → sumsz ws 0 l = l.length
  | [], _ => rfl
  | c :: l, h => by
    rw [sumsz_cons, sz_zero (h c List.mem_cons_self).2, sumsz_zero fun d hd => h d (List.mem_cons_of_mem _ hd), List.length_cons]
    omega
theorem wk_len {ws : List Str} (h : Ru ws) {c : Nat} (h1 : 97 ≤ c) (h2 : c - 97 < ws.length) (k : Nat) : ((wk ws c k).length : Int) = sz ws k c := by
  have key : ∀ j i, j + i = k → sumsz ws j (wk ws c i) = sz ws k c := by
    intro j i
    induction i generalizing j with
    | zero =>
      intro e
      show sumsz ws j [c] = _
      rw [sumsz_cons, show j = k by omega]
      show _ + 0 = _
      omega
    | succ i ih =>
      intro e
      show sumsz ws j (imgL ws (wk ws c i)) = _
      rw [sumsz_img (wk_let h h1 h2 i)]
      exact ih (j + 1) (by omega)
  rw [← key 0 k (by omega), sumsz_zero (wk_let h h1 h2 k)]

theorem grow_head {ws : List Str} (h : Ru ws) {c : Nat} (h2 : c - 97 < ws.length) (hg : growB ws c = true) : ∃ t, wd ws c = c :: t := by
  obtain ⟨w, hw, e, _⟩ := h.word h2
  unfold growB at hg
  rw [hw] at hg
  simp only [Bool.and_eq_true, decide_eq_true_eq] at hg
  rw [e]
  cases hl : ls w with
  | nil => rw [hl] at hg; simp at hg
  | cons d t =>
    rw [hl] at hg
    have : d = c := by simpa using hg.2.2
    subst this
    exact ⟨t, rfl⟩
theorem wk_pre {ws : List Str} (h : Ru ws) {c : Nat} (h2 : c - 97 < ws.length) (hg : growB ws c = true) : ∀ k, ∃ t, wk ws c (k + 1) = wk ws c k ++ t
  | 0 => by
    obtain ⟨t, e⟩ := grow_head h h2 hg
    refine ⟨t, ?_⟩
    show imgL ws [c] = [c] ++ t
    rw [imgL_cons, e]
    show c :: t ++ [] = _
    rw [List.append_nil]
    rfl
  | k + 1 => by
    obtain ⟨t, e⟩ := wk_pre h h2 hg k
    refine ⟨imgL ws t, ?_⟩
    show imgL ws (wk ws c (k + 1)) = imgL ws (wk ws c k) ++ _
    rw [e, imgL_app]
theorem wk_mono {ws : List Str} (h : Ru ws) {c : Nat} (h2 : c - 97 < ws.length) (hg : growB ws c = true) (k : Nat) : ∀ j, ∃ t, wk ws c (k + j) = wk ws c k ++ t
  | 0 => ⟨[], by rw [List.append_nil]; rfl⟩
  | j + 1 => by
    obtain ⟨t, e⟩ := wk_mono h h2 hg k j
    obtain ⟨u, f⟩ := wk_pre h h2 hg (k + j)
    exact ⟨t ++ u, by rw [show k + (j + 1) = (k + j) + 1 by omega, f, e, List.append_assoc]⟩

noncomputable def ew (ws : List Str) (c i : Nat) : Nat := (wk ws c i)[i]?.getD 0

noncomputable def str (ws : List Str) (c n m : Nat) : List Nat := (List.range m).map fun i => ew ws c (n + i)

theorem sz_mono {ws : List Str} (h : Ru ws) {c : Nat} (h1 : 97 ≤ c) (h2 : c - 97 < ws.length) (hg : growB ws c = true) {k l : Nat} (hkl : k ≤ l) : sz ws k c ≤ sz ws l c := by
  obtain ⟨t, e⟩ := wk_mono h h2 hg k (l - k)
  rw [show k + (l - k) = l by omega] at e
  rw [← wk_len h h1 h2 k, ← wk_len h h1 h2 l, e, List.length_append]
  omega
theorem Good.more {ws : List Str} (h : Ru ws) {c : Nat} (hg : growB ws c = true) {k l : Nat} {n : Int} (g : Good ws k c n) (hkl : k ≤ l) : Good ws l c n := by
  obtain ⟨g1, g2, g3, g4⟩ := g
  exact ⟨g1, g2, g3, Int.lt_of_lt_of_le g4 (sz_mono h g1 g2 hg hkl)⟩
end L2.Na




namespace L2.Na
open PySem PySem.Spec PyProof.Rows L2 L2.L3
section
variable {K : PySem.W.Frag}
theorem Rl.ru {H : Hp} {a : Addr} {ws : List Str} (h : Rl K H a ws 100) : Ru ws := ⟨h.pos, h.four, h.isw, h.one, h.le⟩

noncomputable def Wo (ws : List Str) (i : Nat) (m s : Nat) (lo : Int) : Prop := ws.length = i ∧ (∀ w ∈ ws, IsW m w ∧ 1 ≤ w.length ∧ w.length ≤ 100 ∧ lo ≤ w.length) ∧ ∀ w, ws[s]? = some w → 1 < w.length ∧ (ls w)[0]? = some (97 + s)
theorem Wo.snoc {ws : List Str} {i m s : Nat} {lo : Int} {z : Str} (h : Wo ws i m s lo) (hz : IsW m z ∧ 1 ≤ z.length ∧ z.length ≤ 100 ∧ lo ≤ z.length) (hs : i = s → 1 < z.length ∧ (ls z)[0]? = some (97 + s)) : Wo (ws ++ [z]) (i + 1) m s lo := by
  obtain ⟨h1, h2, h3⟩ := h
  refine ⟨by rw [List.length_append, h1]; rfl, fun w hw => ?_, fun w hw => ?_⟩
  · rcases List.mem_append.mp hw with h | h
    · exact h2 w h
    · have e : w = z := by simpa using h
      subst e; exact hz
  · by_cases hi : s < ws.length
    · rw [List.getElem?_append_left hi] at hw
      exact h3 w hw
    · rw [List.getElem?_append_right (by omega)] at hw
      have e0 : s - ws.length = 0 := by
        have := (List.getElem?_eq_some_iff.mp hw).1
        simp at this
        omega
      rw [e0] at hw
      have e1 : z = w := by simpa using hw
      subst e1
      exact hs (by omega)
end
end L2.Na




namespace L2.Na
open PySem PySem.Spec PyProof.Rows L2 L2.L3
section
variable {K : PySem.W.Frag}

structure Pl (K : PySem.W.Frag) (H : Hp) (a : Addr) (ws : List Str) (c : Nat) (n : Int) : Prop where
  rt : Rt4 K H a ws
  ru : Ru ws
  c1 : 97 ≤ c
  c2 : c - 97 < ws.length
  gr : growB ws c = true
  n0 : 0 ≤ n
  tn : ∃ m, m ≤ 400 ∧ n < sz ws m c
theorem Pl.same {H H' : Hp} {a : Addr} {ws : List Str} {c : Nat} {n : Int} (h : Pl K H a ws c n) (e : Same H H') : Pl K H' a ws c n := ⟨h.rt.same e, h.ru, h.c1, h.c2, h.gr, h.n0, h.tn⟩
theorem Pl.turns {H : Hp} {a : Addr} {ws : List Str} {c : Nat} {n : Int} (h : Pl K H a ws c n) : ∃ k, k ≤ 400 ∧ Good ws k c n ∧ ∀ i, i < k → sz ws i c ≤ n := by
  obtain ⟨m, hm, hn⟩ := h.tn
  obtain ⟨k, h1, h2, h3⟩ := least (P := fun k => n < sz ws k c) hn
  exact ⟨k, by omega, ⟨h.c1, h.c2, h.n0, h2⟩, fun i hi => by have := h3 i hi; omega⟩
end
end L2.Na




namespace L2.Na
open PySem PySem.Spec PyProof.Rows L2 L2.L3
section
variable {K : PySem.W.Frag}

noncomputable def Dr (H : Hp) (p : Addr) : Prop := ∃ xs : List Int, H p = some (.lst (xs.map V.int)) ∧ xs.length ≤ 600 ∧ ∀ x ∈ xs, 0 ≤ x ∧ x < 2147483629
theorem Dr.same {H H' : Hp} {p : Addr} (h : Dr H p) (e : Same H H') : Dr H' p := by
  obtain ⟨xs, h1, h2⟩ := h
  exact ⟨xs, e _ _ h1, h2⟩
theorem Off.refl (p : Addr) (H : Hp) : Off p H H := fun _ _ _ e => e
theorem Off.trans' {p : Addr} {H H1 H2 : Hp} (a : Off p H H1) (b : Off p H1 H2) : Off p H H2 := fun c o h e => b c o h (a c o h e)
theorem Same.off {p : Addr} {H H' : Hp} (e : Same H H') : Off p H H' := fun c o _ h => e c o h

noncomputable def sp_law_draws (K : PySem.W.Frag) : Sp := fun vs H Q _ => ∃ (a : Addr) (ns : List Int), vs = [.ref a] ∧ SqL K H a (ns.map V.int) ∧ ns.length ≤ 63 ∧ ∀ p H', Same H H' → H p = none → Dr H' p → Q (.ref p) H'
noncomputable def b_law_draws (K : PySem.W.Frag) : List (SX K) :=
  [set 1 (slc (bin .Add (listE (slc (var 0) none (some (cst (.int 63))))) (lst [cst (.int 0)])) none (some (max2 (cst (.int 1)) (min2 (len (var 0)) (cst (.int 63)))))),
    set 2 (cmp .Eq (bin .Mod (ix (var 1) (cst (.int 0))) (cst (.int 2))) (cst (.int 1))),
    put (var 1) (cst (.int 0)) (bin .FloorDiv (ix (var 1) (cst (.int 0))) (cst (.int 2))),
    set 3 (listE (var 1)),
    set 4 (lst []),
    forS (nam 5) (iRng (cst (.int 600)) []) [set 6 (bin .Mod (var 5) (len (var 1))),
      set 7 (bin .Mod (ix (var 3) (var 6)) (cst (.int 2147483629))),
      ifS (andE (var 2) [cmp .NotIn (ix (var 3) (var 6)) (lst [cst (.int 0), neg (cst (.int 1))])]) [put (var 3) (var 6) (bin .FloorDiv (ix (var 3) (var 6)) (cst (.int 2147483629)))] [set 7 (bin .Mod (bin .Add (bin .Add (bin .Mult (bin .Mod (ix (var 1) (var 6)) (cst (.int 2147483629))) (cst (.int 48271))) (bin .Mult (bin .Mult (cst (.int 7919)) (var 5)) (var 5))) (cst (.int 104729))) (cst (.int 2147483647))),
        set 7 (bin .Mod (bin .Mult (var 7) (var 7)) (cst (.int 2147483629))),
        set 7 (bin .Mod (bin .Mult (bin .Mod (bin .Add (bin .Mult (var 7) (cst (.int 69621))) (bin .Mult (cst (.int 3571)) (var 5))) (cst (.int 2147483563))) (var 7)) (cst (.int 2147483629)))],
      ex (m_append (var 4) (var 7))],
    ret (slcR (var 4))]
theorem l_law_draws : ∀ vs H Q E, sp_law_draws K vs H Q E → vs.length = 1 := by
  rintro vs H Q E ⟨_, _, rfl, _⟩
  rfl
theorem set_map {cs : List Int} {i : Nat} {v : Int} : (cs.map V.int).set i (.int v) = (cs.set i v).map V.int := (List.map_set ..).symm
theorem atI_at {cs : List Int} {i : Nat} (h : i < cs.length) : atI (cs.map V.int) ((i : Nat) : Int) = some (.int cs[i]) := atI_nat (by rw [List.getElem?_map, List.getElem?_eq_getElem h]; rfl)
theorem t_law_draws (vs : List V) (H : Hp) (Q : VK) (E : XK) (h : sp_law_draws K vs H Q E) : tSs (b_law_draws K) (fun _ => E) { nx := fun _ H' => Q .non H', rt := Q } (start ["_law_script", "_law_cells", "_law_by_digits", "_law_left", "_law_found", "_law_k", "_law_at", "_law_number"] vs) H := by
  obtain ⟨a, ns, rfl, hS, h63, q⟩ := h
  have hlen : (ns.map V.int).length = ns.length := List.length_map _
  unfold b_law_draws
  walk_at "go"
  refine i_slL hS fun p1 hp1 => ?_
  obtain ⟨ms, hms, hml⟩ := cut_map ns none (some 63)
  have hms2 : ms.length = ns.length := by
    have e := congrArg List.length hms
    rw [List.length_map] at e
    rw [← e]
    have e2 := cut_to (xs := ns.map V.int) (k := ns.length) (by rw [hlen]; exact Nat.le_refl _)
    unfold cutV
    rw [HT.sIx_none, List.drop_zero, hlen, List.length_take, hlen]
    show min (min 63 ns.length - 0) ns.length = ns.length
    omega
  rw [hms]
  have s1 := same_new hp1 (.lst (ms.map V.int))
  walk_at "go"
  refine ⟨_, .inl (SqL.of upd_same), fun p2 hp2 => ?_⟩
  have s2 := same_new hp2 (.lst (ms.map V.int))
  walk_at "go"
  refine ⟨by show 1 ≤ sizeLine; decide, fun p3 hp3 => ?_⟩
  have s3 := same_new hp3 (.lst [V.int 0])
  refine i_catL (s3 _ _ upd_same) upd_same (small (by rw [List.length_map]; show ms.length + 1 ≤ _; omega)) fun p4 hp4 => ?_
  have e4 : ms.map V.int ++ [V.int 0] = (ms ++ [0]).map V.int := by rw [List.map_append]; rfl
  rw [e4]
  have s4 := same_new hp4 (.lst ((ms ++ [0]).map V.int))
  have hq4 := s4.seq (s3.seq (s2.seq (s1.seq hS)))
  walk_at "go"
  refine i_slL (SqL.of upd_same) fun p5 hp5 => ?_
  obtain ⟨cs, hcs, hcl⟩ := cut_map (ms ++ [0]) none (some (max 1 (min (((ns.map V.int).length : Nat) : Int) 63)))
  have hcs2 : 1 ≤ cs.length ∧ cs.length ≤ 64 := by
    have e := congrArg List.length hcs
    have e3 : (cs.map V.int).length = cs.length := List.length_map _
    rw [e3] at e
    have hl : ((ms ++ [0]).map V.int).length = ms.length + 1 := by rw [List.length_map, List.length_append]; rfl
    obtain ⟨k, hk⟩ : ∃ k : Nat, max 1 (min (((ns.map V.int).length : Nat) : Int) 63) = (k : Int) := ⟨(max 1 (min (((ns.map V.int).length : Nat) : Int) 63)).toNat, by omega⟩
    rw [hk, cut_to (by rw [hl]; omega), List.length_take, hl] at e
    omega
  rw [hcs]
  have s5 := same_new hp5 (.lst (cs.map V.int))
  have hS05 : Same H (upd (upd (upd (upd (upd H p1 (.lst (ms.map V.int))) p2 (.lst (ms.map V.int))) p3 (.lst [V.int 0])) p4 (.lst ((ms ++ [0]).map V.int))) p5 (.lst (cs.map V.int))) := (((s1.trans s2).trans s3).trans s4).trans s5
  have hn5 : H p5 = none := none_of (((s1.trans s2).trans s3).trans s4) hp5
  walk_at "go"
  have h0 : 0 < cs.length := by omega
  refine i_ixL (v := .int cs[0]) (SqL.of upd_same) (atI_at (i := 0) h0) ?_
  walk_at "go"
  obtain ⟨bd, hbd⟩ : ∃ b, decide (cs[0] % 2 = 1) = b := ⟨_, rfl⟩
  rw [hbd]
  refine i_put ?_
  walk_at "go"
  refine i_ixL (v := .int cs[0]) (SqL.of upd_same) (atI_at (i := 0) h0) ?_
  walk_at "go"
  refine i_putL (k := 0) upd_same (by rw [List.length_map]; exact h0) ?_
  rw [set_map, upd_upd]
  have hcl2 : (cs.set 0 (cs[0] / 2)).length = cs.length := List.length_set ..
  obtain ⟨ds, hds⟩ : ∃ ds, cs.set 0 (cs[0] / 2) = ds := ⟨_, rfl⟩
  rw [hds] at hcl2 ⊢
  obtain ⟨H6, hH6⟩ : ∃ H6, upd (upd (upd (upd (upd H p1 (.lst (ms.map V.int))) p2 (.lst (ms.map V.int))) p3 (.lst [V.int 0])) p4 (.lst ((ms ++ [0]).map V.int))) p5 (.lst (ds.map V.int)) = H6 := ⟨_, rfl⟩
  have hp56 : H6 p5 = some (.lst (ds.map V.int)) := by rw [← hH6]; exact upd_same
  have hS06 : Same H H6 := by rw [← hH6]; exact same_upd (((s1.trans s2).trans s3).trans s4) hn5
  rw [hH6]
  walk_at "go"
  refine ⟨_, .inl (SqL.of hp56), fun p7 hp7 => ?_⟩
  have s7 := same_new hp7 (.lst (ds.map V.int))
  walk_at "go"
  refine ⟨Nat.zero_le _, fun p8 hp8 => ?_⟩
  have s8 := same_new hp8 (.lst [])
  have n78 : p7 ≠ p8 := ne_of_none (H := upd H6 p7 (.lst (ds.map V.int))) upd_same hp8
  have n58 : p5 ≠ p8 := ne_of_none (s7 _ _ hp56) hp8
  have n57 : p5 ≠ p7 := ne_of_none hp56 hp7
  walk_at "go"
  refine loop_rng (fun i σ H' => Same H H' ∧ H' p5 = some (.lst (ds.map V.int)) ∧ (∃ ls : List Int, ls.length = ds.length ∧ H' p7 = some (.lst (ls.map V.int))) ∧ (∃ xs : List Int, xs.length = i ∧ H' p8 = some (.lst (xs.map V.int)) ∧ ∀ x ∈ xs, 0 ≤ x ∧ x < 2147483629) ∧
      ∃ a5 a6 a7, σ = [some (.ref a), some (.ref p5), some (.bl bd), some (.ref p7), some (.ref p8), a5, a6, a7])
    ⟨(hS06.trans s7).trans s8, s8 _ _ (s7 _ _ hp56), ⟨ds, rfl, s8 _ _ upd_same⟩, ⟨[], rfl, upd_same, fun x hx => nomatch hx⟩, none, none, none, rfl⟩ (fun i σ H' hi hP => ?_) fun σ H' hP => ?_
  · obtain ⟨hSH, h5, ⟨ls, hll, h7⟩, ⟨xs, hxl, h8, hxs⟩, a5, a6, a7, rfl⟩ := hP
    have hi6 : i < 600 := hi
    have fin : ∀ (v : Int) (x5 x6 : Option V) (D : Ends) (H2 : Hp), Same H H2 → H2 p5 = some (.lst (ds.map V.int)) → (∃ ls : List Int, ls.length = ds.length ∧ H2 p7 = some (.lst (ls.map V.int))) → H2 p8 = some (.lst (xs.map V.int)) → 0 ≤ v → v < 2147483629 →
        D = { nx := fun σ3 H3 => Same H H3 ∧ H3 p5 = some (.lst (ds.map V.int)) ∧ (∃ ls : List Int, ls.length = ds.length ∧ H3 p7 = some (.lst (ls.map V.int))) ∧ (∃ xs : List Int, xs.length = i + 1 ∧ H3 p8 = some (.lst (xs.map V.int)) ∧ ∀ x ∈ xs, 0 ≤ x ∧ x < 2147483629) ∧
          ∃ a5 a6 a7, σ3 = [some (.ref a), some (.ref p5), some (.bl bd), some (.ref p7), some (.ref p8), a5, a6, a7], ct := D.ct, bk := D.bk, rt := D.rt } →
        tSs ([ex (m_append (var 4) (var 7))] : List (SX K)) (fun _ => E) D [some (.ref a), some (.ref p5), some (.bl bd), some (.ref p7), some (.ref p8), x5, x6, some (.int v)] H2 := by
      intro v x5 x6 D H2 g1 g2 g3 g4 g5 g6 hD
      rw [hD]
      walk_at "go"
      refine i_RL (SqL.of g4) ?_
      walk_at "go"
      refine i_appendU g4 (by rw [List.length_map, hxl]; exact Nat.lt_of_lt_of_le (show i < 1000 by omega) (small (by decide))) ?_
      refine ⟨same_upd g1 (none_of (hS06.trans s7) hp8), by rw [upd_ne n58]; exact g2, ?_, ⟨xs ++ [v], by rw [List.length_append, hxl]; rfl, by rw [upd_same, List.map_append]; rfl, fun x hx => ?_⟩, _, _, _, rfl⟩
      · obtain ⟨ls, e1, e2⟩ := g3
        exact ⟨ls, e1, by rw [upd_ne n78]; exact e2⟩
      · rcases List.mem_append.mp hx with h | h
        · exact hxs x h
        · have e : x = v := by simpa using h
          subst e; exact ⟨g5, g6⟩
    have hq5 : SqL K H' p5 (ds.map V.int) := SqL.of h5
    have hdl : (ds.map V.int).length = ds.length := List.length_map _
    have e0 : (0 : Int) + (i : Nat) = ((i : Nat) : Int) := by omega
    walk_at "go"
    rw [e0]
    have e1 := Int.emod_nonneg ((i : Nat) : Int) (show ((((ds.map V.int).length : Nat)) : Int) ≠ 0 by omega)
    have e2 := Int.emod_lt_of_pos ((i : Nat) : Int) (show (0 : Int) < (((ds.map V.int).length : Nat) : Int) by omega)
    obtain ⟨at', hat⟩ : ∃ k : Nat, ((i : Nat) : Int) % (((ds.map V.int).length : Nat) : Int) = (k : Int) := ⟨_, (Int.toNat_of_nonneg e1).symm⟩
    rw [hat] at e2
    have hk : at' < ds.length := by omega
    have hk2 : at' < ls.length := by omega
    rw [hat]
    walk_at "go"
    refine i_ixL (v := .int ls[at']) (SqL.of h7) (atI_at hk2) ?_
    walk_at "go"
    have m1 := Int.emod_nonneg ls[at'] (show (2147483629 : Int) ≠ 0 by decide)
    have m2 := Int.emod_lt_of_pos ls[at'] (show (0 : Int) < 2147483629 by decide)
    have other : ∀ (H2 : Hp) (D : Ends) (x7 : Option V), Same H H2 → H2 p5 = some (.lst (ds.map V.int)) → (∃ ls : List Int, ls.length = ds.length ∧ H2 p7 = some (.lst (ls.map V.int))) → H2 p8 = some (.lst (xs.map V.int)) →
        D = { nx := tSs ([ex (m_append (var 4) (var 7))] : List (SX K)) (fun _ => E) { nx := fun σ3 H3 => Same H H3 ∧ H3 p5 = some (.lst (ds.map V.int)) ∧ (∃ ls : List Int, ls.length = ds.length ∧ H3 p7 = some (.lst (ls.map V.int))) ∧ (∃ xs : List Int, xs.length = i + 1 ∧ H3 p8 = some (.lst (xs.map V.int)) ∧ ∀ x ∈ xs, 0 ≤ x ∧ x < 2147483629) ∧
          ∃ a5 a6 a7, σ3 = [some (.ref a), some (.ref p5), some (.bl bd), some (.ref p7), some (.ref p8), a5, a6, a7], ct := D.ct, bk := D.bk, rt := D.rt }, ct := D.ct, bk := D.bk, rt := D.rt } →
        tSs ([set 7 (bin .Mod (bin .Add (bin .Add (bin .Mult (bin .Mod (ix (var 1) (var 6)) (cst (.int 2147483629))) (cst (.int 48271))) (bin .Mult (bin .Mult (cst (.int 7919)) (var 5)) (var 5))) (cst (.int 104729))) (cst (.int 2147483647))),
        set 7 (bin .Mod (bin .Mult (var 7) (var 7)) (cst (.int 2147483629))),
        set 7 (bin .Mod (bin .Mult (bin .Mod (bin .Add (bin .Mult (var 7) (cst (.int 69621))) (bin .Mult (cst (.int 3571)) (var 5))) (cst (.int 2147483563))) (var 7)) (cst (.int 2147483629)))] : List (SX K)) (fun _ => E) D [some (.ref a), some (.ref p5), some (.bl bd), some (.ref p7), some (.ref p8), some (.int i), some (.int at'), x7] H2 := by
      intro H2 D x7 g1 g2 g3 g4 hD
      rw [hD]
      walk_at "go"
      refine i_ixL (v := .int ds[at']) (SqL.of g2) (atI_at hk) ?_
      walk_at "go"
      refine fin _ _ _ _ _ g1 g2 g3 g4 (Int.emod_nonneg _ (by decide)) (Int.emod_lt_of_pos _ (by decide)) rfl
    cases bd with
    | false =>
      refine brF ?_
      refine brF ?_
      exact other _ _ _ hSH h5 ⟨ls, hll, h7⟩ h8 rfl
    | true =>
      refine brT ?_
      walk_at "go"
      refine i_ixL (v := .int ls[at']) (SqL.of h7) (atI_at hk2) ?_
      walk_at "go"
      refine i_neg ?_
      walk_at "go"
      refine i_negI ?_
      walk_at "go"
      refine ⟨by show 2 ≤ sizeLine; decide, fun p9 hp9 => ?_⟩
      have s9 := same_new hp9 (.lst [V.int 0, V.int (-1)])
      refine i_notin (SqL.of (xs := [V.int 0, V.int (-1)]) upd_same) rfl rfl ?_
      cases hin : inV (V.int ls[at']) [V.int 0, V.int (-1)] with
      | false =>
        refine brT ?_
        walk_at "go"
        refine i_put ?_
        walk_at "go"
        refine i_ixL (v := .int ls[at']) (SqL.of (s9 _ _ h7)) (atI_at hk2) ?_
        walk_at "go"
        refine i_divX ⟨by decide, by decide⟩ ?_
        walk_at "go"
        refine i_putL (s9 _ _ h7) (by rw [List.length_map]; exact hk2) ?_
        rw [set_map]
        refine fin _ _ _ _ _ (same_upd (hSH.trans s9) (none_of hS06 hp7)) (by rw [upd_ne n57]; exact s9 _ _ h5) ⟨_, by rw [List.length_set]; exact hll, upd_same⟩ (by rw [upd_ne n78.symm]; exact s9 _ _ h8) m1 m2 rfl
      | true =>
        refine brF ?_
        exact other _ _ _ (hSH.trans s9) (s9 _ _ h5) ⟨ls, hll, s9 _ _ h7⟩ (s9 _ _ h8) rfl
  · obtain ⟨hSH, h5, _, ⟨xs, hxl, h8, hxs⟩, a5, a6, a7, rfl⟩ := hP
    walk_at "go"
    refine i_revS (SqL.of h8) fun p10 hp10 => ?_
    refine q p10 _ (hSH.trans (same_new hp10 _)) (none_of hSH hp10) ⟨xs.reverse, by rw [upd_same, List.map_reverse], by rw [List.length_reverse, hxl]; show 600 ≤ 600; decide, fun x hx => hxs x (List.mem_reverse.mp hx)⟩

noncomputable def sp_law_next (K : PySem.W.Frag) : Sp := fun vs H Q _ => ∃ p, vs = [.ref p] ∧ Dr H p ∧ ∀ (v : Int) (H' : Hp), Off p H H' → Dr H' p → 0 ≤ v → v < 2147483629 → Q (.int v) H'
noncomputable def b_law_next (K : PySem.W.Frag) : List (SX K) :=
  [ifS (cmp .Eq (var 0) (lst [])) [ret (cst (.int 0))] [],
    ret (m_pop (var 0))]
theorem l_law_next : ∀ vs H Q E, sp_law_next K vs H Q E → vs.length = 1 := by
  rintro vs H Q E ⟨_, rfl, _⟩
  rfl
theorem t_law_next (vs : List V) (H : Hp) (Q : VK) (E : XK) (h : sp_law_next K vs H Q E) : tSs (b_law_next K) (fun _ => E) { nx := fun _ H' => Q .non H', rt := Q } (start ["_law_drawn"] vs) H := by
  obtain ⟨p, rfl, ⟨xs, hp, hl, hx⟩, q⟩ := h
  unfold b_law_next
  walk_at "go"
  refine ⟨Nat.zero_le _, fun p2 hp2 => ?_⟩
  have s2 := same_new hp2 (.lst [])
  by_cases h0 : xs = []
  · subst h0
    refine j_eqA (n := 0) (by decide) ⟨_, _, .inl ⟨s2 _ _ hp, upd_same⟩, rfl, fun i x y hx _ => by simp at hx⟩ ?_
    refine brT ?_
    walk_at "go"
    exact q 0 _ (Same.off s2) ⟨[], s2 _ _ hp, by decide, fun x hx => nomatch hx⟩ (by decide) (by decide)
  · refine j_eqN (s2 _ _ hp) upd_same (by rw [List.length_map]; intro z; exact h0 (List.eq_nil_of_length_eq_zero z)) ?_
    refine brF ?_
    have hpos : 0 < xs.length := List.length_pos_iff.mpr h0
    walk_at "go"
    refine i_RL (SqL.of (s2 _ _ hp)) ?_
    walk_at "go"
    have hlast : xs.length - 1 < xs.length := by omega
    refine i_popU (y := .int xs[xs.length - 1]) (s2 _ _ hp) (by rw [List.length_map, List.getElem?_map, List.getElem?_eq_getElem hlast]; rfl) ?_
    have hb := hx _ (List.getElem_mem hlast)
    refine q _ _ (Off.upd (Same.off s2)) ⟨xs.dropLast, by rw [upd_same, List.map_dropLast], by rw [List.length_dropLast]; omega, fun x hx' => hx x (List.dropLast_subset xs hx')⟩ hb.1 hb.2
end
end L2.Na




namespace L2.Na
open PySem PySem.Spec PyProof.Rows L2 L2.L3
section

noncomputable def al (l : List Nat) (p : Nat) : Nat → Nat
  | 0 => 0
  | k + 1 => if l[k]? = l[k + p]? then al l p k + 1 else 0
theorem al_le (l : List Nat) (p : Nat) : ∀ k, al l p k ≤ k
  | 0 => Nat.le_refl _
  | k + 1 => by
    have := al_le l p k
    rw [al]
    split <;> omega
theorem al_yes {l : List Nat} {p k c : Nat} (h1 : l[k]? = some c) (h2 : l[k + p]? = some c) : al l p (k + 1) = al l p k + 1 := by
  rw [al, if_pos (by rw [h1, h2])]
theorem al_no {l : List Nat} {p k c d : Nat} (h1 : l[k]? = some d) (h2 : l[k + p]? = some c) (h : d ≠ c) : al l p (k + 1) = 0 := by
  rw [al, if_neg (by rw [h1, h2]; intro z; exact h (Option.some.inj z))]
theorem sg_inj {c d : Nat} (h : (⟨#[c]⟩ : Str) = ⟨#[d]⟩) : c = d := by
  have e := congrArg ls h
  simpa [ls] using e
theorem tup3 {a b c a' b' c' : Int} (h1 : a = a') (h2 : b = b') (h3 : c = c') : some (HO.tup [V.int a, .int b, .int c]) = some (HO.tup [V.int a', .int b', .int c']) := by
  subst h1 h2 h3
  rfl
theorem i_extend {K : PySem.W.Frag} {E : XS} {σ : St} {H : Hp} {Q : VK} {a b : EX K} {ho : a.s ≠ .zc} (h : a.t E σ H fun x H1 => RL K rExtend (tAs [b] E) x σ H1 Q) : (m_extend a b ho).t E σ H Q := h
theorem i_extendU {H : Hp} {Q : VK} {l b : Addr} {xs zs : List V} (h1 : H l = some (.lst xs)) (h2 : H b = some (.lst zs)) (hz : xs.length + zs.length ≤ sizeLine) (h : Q .non (upd H l (.lst (xs ++ zs)))) : rExtend (.ref l) [.ref b] H Q := ⟨l, b, xs, zs, rfl, rfl, h1, h2, hz, h⟩

theorem al_iff (l : List Nat) (p : Nat) : ∀ (k m : Nat), m ≤ k → (m ≤ al l p k ↔ ∀ j, k - m ≤ j → j < k → l[j]? = l[j + p]?)
  | k, 0, _ => ⟨fun _ j h1 h2 => absurd h2 (Nat.not_lt_of_le h1), fun _ => Nat.zero_le _⟩
  | 0, m + 1, h => absurd h (Nat.not_succ_le_zero m)
  | k + 1, m + 1, h => by
    have ih := al_iff l p k m (Nat.le_of_succ_le_succ h)
    rw [al, Nat.add_sub_add_right]
    by_cases c : l[k]? = l[k + p]?
    · rw [if_pos c, Nat.succ_le_succ_iff, ih]
      constructor
      · intro h1 j h2 h3
        rcases Nat.lt_succ_iff_lt_or_eq.mp h3 with h | rfl
        · exact h1 j h2 h
        · exact c
      · exact fun h1 j h2 h3 => h1 j h2 (Nat.lt_succ_of_lt h3)
    · rw [if_neg c]
      exact ⟨fun h1 => absurd h1 (Nat.not_succ_le_zero m), fun h1 => absurd (h1 k (Nat.sub_le k m) (Nat.lt_succ_self k)) c⟩
end
end L2.Na




namespace L2.Na
open PySem PySem.Spec PyProof.Rows L2 L2.L3
section
variable {K : PySem.W.Frag}

noncomputable def ll (T B : Nat) (ab : Bool) (p : Nat) : Nat := if ab = true then T * p / B + 1 else (T * p + B - 1) / B
theorem ll_iff {T B : Nat} {ab : Bool} {p L : Nat} (hB : 1 ≤ B) : ll T B ab p ≤ L ↔ (if ab = true then T * p < L * B else T * p ≤ L * B) := by
  unfold ll
  cases ab with
  | true =>
    rw [if_pos rfl, if_pos rfl, ← Nat.div_lt_iff_lt_mul (by omega)]
    omega
  | false =>
    rw [if_neg Bool.false_ne_true, if_neg Bool.false_ne_true, ← Nat.lt_succ_iff, Nat.div_lt_iff_lt_mul (by omega), Nat.succ_mul]
    omega
theorem ll_gt {T B : Nat} {ab : Bool} {p : Nat} (hB : 1 ≤ B) (hT : B < T) (hp : 1 ≤ p) : p < ll T B ab p := by
  refine Nat.lt_of_not_le fun h => ?_
  have h2 := (ll_iff hB).mp h
  have h3 : (B + 1) * p ≤ T * p := Nat.mul_le_mul_right _ hT
  rw [Nat.succ_mul, Nat.mul_comm B p] at h3
  split at h2 <;> omega

noncomputable def Hit (l : List Nat) (T B : Nat) (ab : Bool) (e p : Nat) : Prop := ll T B ab p ≤ p + al l p (e + 1 - p)
noncomputable def Spc (l : List Nat) (T B : Nat) (ab : Bool) (n : Nat) : Option (Nat × Nat) → Prop
  | none => ∀ e p, e < n → 1 ≤ p → p ≤ e → ¬ Hit l T B ab e p
  | some x => x.1 < n ∧ 1 ≤ x.2 ∧ x.2 ≤ x.1 ∧ Hit l T B ab x.1 x.2 ∧ ∀ e p, (e < x.1 ∨ (e = x.1 ∧ p < x.2)) → 1 ≤ p → p ≤ e → ¬ Hit l T B ab e p

noncomputable def Told (T B : Nat) (ab : Bool) (H : Hp) (Q : VK) : Option (Nat × Nat) → Prop
  | none => ∀ H', Same H H' → Q .non H'
  | some x => ∀ t H', Same H H' → H' t = some (.tup [.int ((x.1 + 1 - ll T B ab x.2 : Nat) : Int), .int ((ll T B ab x.2 : Nat) : Int), .int ((x.2 : Nat) : Int)]) → Q (.ref t) H'

structure Lim (K : PySem.W.Frag) (H : Hp) (t : Addr) (T B : Nat) (ab : Bool) : Prop where
  tp : SqT K H t [.int (T : Nat), .int (B : Nat), .bl ab]
  pos : 1 ≤ B
  lt : B < T
  le : T ≤ 100
theorem Lim.same {H H' : Hp} {t : Addr} {T B : Nat} {ab : Bool} (h : Lim K H t T B ab) (e : Same H H') : Lim K H' t T B ab := ⟨Same.seqT e h.tp, h.pos, h.lt, h.le⟩
noncomputable def sp_least_length (K : PySem.W.Frag) : Sp := fun vs H Q _ => ∃ (p : Nat) (t : Addr) (T B : Nat) (ab : Bool), vs = [.int p, .ref t] ∧ Lim K H t T B ab ∧ p ≤ 1000 ∧ Q (.int ((ll T B ab p : Nat) : Int)) H
noncomputable def b_least_length (K : PySem.W.Frag) : List (SX K) :=
  [set 2 (bin .Mult (ix (var 1) (cst (.int 0))) (var 0)),
    ifS (ix (var 1) (cst (.int 2))) [ret (bin .Add (bin .FloorDiv (var 2) (ix (var 1) (cst (.int 1)))) (cst (.int 1)))] [],
    ret (bin .FloorDiv (bin .Sub (bin .Add (var 2) (ix (var 1) (cst (.int 1)))) (cst (.int 1))) (ix (var 1) (cst (.int 1))))]
theorem l_least_length : ∀ vs H Q E, sp_least_length K vs H Q E → vs.length = 2 := by
  rintro vs H Q E ⟨_, _, _, _, _, rfl, _⟩
  rfl
theorem t_least_length (vs : List V) (H : Hp) (Q : VK) (E : XK) (h : sp_least_length K vs H Q E) : tSs (b_least_length K) (fun _ => E) { nx := fun _ H' => Q .non H', rt := Q } (start ["period", "limit", "wanted"] vs) H := by
  obtain ⟨p, t, T, B, ab, rfl, hL, hp, q⟩ := h
  have h1 := hL.pos
  have h2 := hL.lt
  have h3 := hL.le
  unfold b_least_length
  walk_at "go"
  refine i_ixT (v := .int (T : Nat)) hL.tp rfl ?_
  walk_at "go"
  refine i_ixT (v := .bl ab) hL.tp rfl ?_
  walk_at "go"
  cases ab with
  | true =>
    refine brT ?_
    walk_at "go"
    refine i_ixT (v := .int (B : Nat)) hL.tp rfl ?_
    walk_at "go"
    have e : ((ll T B true p : Nat) : Int) = ((T : Nat) : Int) * (p : Nat) / (B : Nat) + 1 := by
      unfold ll
      rw [if_pos rfl]
      push_cast
      rfl
    rw [e] at q
    exact q
  | false =>
    refine brF ?_
    walk_at "go"
    refine i_ixT (v := .int (B : Nat)) hL.tp rfl ?_
    walk_at "go"
    refine i_ixT (v := .int (B : Nat)) hL.tp rfl ?_
    walk_at "go"
    have e : ((ll T B false p : Nat) : Int) = (((T : Nat) : Int) * (p : Nat) + (B : Nat) - 1) / (B : Nat) := by
      unfold ll
      rw [if_neg Bool.false_ne_true]
      have e1 : ((T * p + B - 1 : Nat) : Int) = ((T : Nat) : Int) * (p : Nat) + (B : Nat) - 1 := by
        have := Int.natCast_mul T p
        omega
      rw [Int.natCast_ediv, e1]
    rw [e] at q
    exact q
theorem ll_mono {T B : Nat} {ab : Bool} {p p' : Nat} (h : p ≤ p') : ll T B ab p ≤ ll T B ab p' := by
  have := Nat.mul_le_mul_left T h
  unfold ll
  split
  · exact Nat.succ_le_succ (Nat.div_le_div_right this)
  · exact Nat.div_le_div_right (by omega)
theorem hit_le {l : List Nat} {T B : Nat} {ab : Bool} {e p : Nat} (h : Hit l T B ab e p) (hp : p ≤ e + 1) : ll T B ab p ≤ e + 1 := by
  have := al_le l p (e + 1 - p)
  unfold Hit at h
  omega
theorem al_eq (l : List Nat) (b p q : Nat) (hn : l.length = b + p + q) : l.drop (b + p) = (l.drop b).take q ↔ q ≤ al l p (b + q) := by
  rw [al_iff l p (b + q) q (Nat.le_add_left _ _)]
  constructor
  · intro e j g1 g2
    obtain ⟨i, rfl⟩ : ∃ i, j = b + i := ⟨j - b, by omega⟩
    have hi : i < q := by omega
    have e4 := congrArg (fun l => l[i]?) e
    simp only [List.getElem?_drop, List.getElem?_take, if_pos hi] at e4
    rw [Nat.add_right_comm]
    exact e4.symm
  · intro g
    refine List.ext_getElem? fun i => ?_
    rw [List.getElem?_drop, List.getElem?_take]
    by_cases hi : i < q
    · rw [if_pos hi, List.getElem?_drop, g (b + i) (by omega) (by omega), Nat.add_right_comm]
    · rw [if_neg hi, List.getElem?_eq_none (by omega)]
theorem sl_from {z : Str} {k : Nat} (h : k ≤ z.length) : ls (Txt.slice z (some ((k : Nat) : Int)) none) = (ls z).drop k := by
  show (Txt.slice z (some ((k : Nat) : Int)) none).cps.toList = _
  rw [slice_from (by omega) (by omega)]
  rfl
theorem sl_to {z : Str} {k : Nat} : ls (Txt.slice z none (some ((k : Nat) : Int))) = (ls z).take k := by
  show (Txt.slice z none (some ((k : Nat) : Int))).cps.toList = _
  rw [slice_to (by omega), Int.toNat_natCast]

theorem end_iff {z : Str} {p L : Nat} (h1 : p < L) (h2 : L ≤ z.length) : Txt.slice (Txt.slice z (some ((z.length - L : Nat) : Int)) none) (some ((p : Nat) : Int)) none = Txt.slice (Txt.slice z (some ((z.length - L : Nat) : Int)) none) none (some ((L - p : Nat) : Int)) ↔ L ≤ p + al (ls z) p (z.length - p) := by
  have e0 := sl_from (z := z) (k := z.length - L) (Nat.sub_le _ _)
  have el : p ≤ (Txt.slice z (some ((z.length - L : Nat) : Int)) none).length := by
    rw [← ls_len, e0, List.length_drop, ls_len]
    omega
  have key := al_eq (ls z) (z.length - L) p (L - p) (by rw [ls_len]; omega)
  rw [show z.length - L + (L - p) = z.length - p by omega] at key
  rw [show L ≤ p + al (ls z) p (z.length - p) ↔ L - p ≤ al (ls z) p (z.length - p) by omega, ← key, ← List.drop_drop, ← e0]
  rw [← sl_from el, ← sl_to]
  exact ⟨fun e => congrArg ls e, fun e => ls_inj e⟩

noncomputable def Epc (l : List Nat) (T B : Nat) (ab : Bool) (n : Nat) : Option Nat → Prop
  | none => ∀ p, 1 ≤ p → p < n → ¬ Hit l T B ab (n - 1) p
  | some x => 1 ≤ x ∧ x < n ∧ Hit l T B ab (n - 1) x ∧ ∀ p, p < x → 1 ≤ p → ¬ Hit l T B ab (n - 1) p
theorem epc_one {l : List Nat} {T B : Nat} {ab : Bool} {n : Nat} {r s : Option Nat} (h : Epc l T B ab n r) (g : Epc l T B ab n s) : r = s := by
  cases r with
  | none =>
    cases s with
    | none => rfl
    | some x => exact absurd g.2.2.1 (h x g.1 g.2.1)
  | some x =>
    cases s with
    | none => exact absurd h.2.2.1 (g x h.1 h.2.1)
    | some y =>
      have n1 : ¬ x < y := fun z => g.2.2.2 x z h.1 h.2.2.1
      have n2 : ¬ y < x := fun z => h.2.2.2 y z g.1 g.2.2.1
      rw [show x = y by omega]
noncomputable def sp_repeat_at_end (K : PySem.W.Frag) : Sp := fun vs H Q _ => ∃ (z : Str) (t : Addr) (T B : Nat) (ab : Bool) (r : Option Nat), vs = [.str z, .ref t] ∧ Lim K H t T B ab ∧ z.length ≤ 1000 ∧ Epc (ls z) T B ab z.length r ∧ Told T B ab H Q (r.map fun p => (z.length - 1, p))
noncomputable def b_repeat_at_end (K : PySem.W.Frag) : List (SX K) :=
  [forS (nam 2) (iRng (cst (.int 1)) [len (var 0)]) [set 3 (call "least_length" (sp_least_length K) [var 2, var 1]),
      ifS (cmp .Gt (var 3) (len (var 0))) [ret (cst .non)] [],
      set 4 (slc (var 0) (some (bin .Sub (len (var 0)) (var 3))) none),
      ifS (cmp .Eq (slc (var 4) (some (var 2)) none) (slc (var 4) none (some (bin .Sub (var 3) (var 2))))) [ret (tup [bin .Sub (len (var 0)) (var 3), var 3, var 2])] []],
    ret (cst .non)]
theorem l_repeat_at_end : ∀ vs H Q E, sp_repeat_at_end K vs H Q E → vs.length = 2 := by
  rintro vs H Q E ⟨_, _, _, _, _, _, rfl, _⟩
  rfl
theorem t_repeat_at_end (vs : List V) (H : Hp) (Q : VK) (E : XK) (h : sp_repeat_at_end K vs H Q E) : tSs (b_repeat_at_end K) (fun _ => E) { nx := fun _ H' => Q .non H', rt := Q } (start ["word", "limit", "period", "length", "stretch"] vs) H := by
  obtain ⟨z, t, T, B, ab, r, rfl, hL, hz, hr, q⟩ := h
  unfold b_repeat_at_end
  walk_at "go"
  refine i_lenS (small (by omega)) ?_
  walk_at "go"
  refine loop_rng (fun j σ H' => Same H H' ∧ (∀ p, 1 ≤ p → p ≤ j → ¬ Hit (ls z) T B ab (z.length - 1) p) ∧ ∃ a2 a3 a4, σ = [some (.str z), some (.ref t), a2, a3, a4])
    ⟨Same.refl _, fun p h1 h2 => by omega, none, none, none, rfl⟩ (fun j σ H' hj hP => ?_) fun σ H' hP => ?_
  · obtain ⟨hS, hno, a2, a3, a4, rfl⟩ := hP
    have hj' : j + 1 < z.length := by omega
    have e1 : (1 : Int) + (j : Nat) = ((j + 1 : Nat) : Int) := by omega
    have en : z.length - 1 + 1 - (j + 1) = z.length - (j + 1) := by omega
    have hgt := ll_gt (ab := ab) (p := j + 1) hL.pos hL.lt (by omega)
    rw [e1]
    walk_at "go"
    refine ⟨j + 1, t, T, B, ab, rfl, hL.same hS, by omega, ?_⟩
    walk_at "go"
    refine i_lenS (small (by omega)) ?_
    walk_at "go"
    refine br_d (fun c => ?_) fun c => ?_
    · have er : r = none := epc_one hr fun p g1 g2 hh => by
        by_cases hp : p ≤ j
        · exact hno p g1 hp hh
        · have m1 := hit_le hh (by omega)
          have m2 := ll_mono (T := T) (B := B) (ab := ab) (show j + 1 ≤ p by omega)
          omega
      subst er
      walk_at "go"
      exact q H' hS
    · have eb : ((z.length : Nat) : Int) - ((ll T B ab (j + 1) : Nat) : Int) = ((z.length - ll T B ab (j + 1) : Nat) : Int) := by omega
      have ed : ((ll T B ab (j + 1) : Nat) : Int) - ((j + 1 : Nat) : Int) = ((ll T B ab (j + 1) - (j + 1) : Nat) : Int) := by omega
      have hsl := slice_len z (some ((z.length - ll T B ab (j + 1) : Nat) : Int)) none
      walk_at "go"
      refine i_lenS (small (by omega)) ?_
      walk_at "go"
      rw [eb]
      refine i_slS (small (by omega)) ?_
      walk_at "go"
      refine i_slS (small (by omega)) ?_
      walk_at "go"
      rw [ed]
      refine i_slS (small (by omega)) ?_
      refine j_eqS ?_
      refine br_d (fun c2 => ?_) fun c2 => ?_
      · have hh : Hit (ls z) T B ab (z.length - 1) (j + 1) := by
          unfold Hit
          rw [en]
          exact (end_iff (by omega) (by omega)).mp c2
        have er : r = some (j + 1) := epc_one hr ⟨by omega, hj', hh, fun p g1 g2 => hno p g2 (by omega)⟩
        subst er
        walk_at "go"
        refine i_lenS (small (by omega)) ?_
        walk_at "go"
        refine ⟨by show 3 ≤ sizeLine; decide, fun t2 ht2 => ?_⟩
        refine q t2 _ (hS.trans (same_new ht2 _)) (upd_same.trans (tup3 ?_ rfl rfl))
        show _ = ((z.length - 1 + 1 - ll T B ab (j + 1) : Nat) : Int)
        omega
      · walk_at "go"
        refine ⟨hS, fun p g1 g2 => ?_, _, _, _, rfl⟩
        by_cases ep : p = j + 1
        · subst ep
          intro hh
          unfold Hit at hh
          rw [en] at hh
          exact c2 ((end_iff (by omega) (by omega)).mpr hh)
        · exact hno p g1 (by omega)
  · obtain ⟨hS, hno, a2, a3, a4, rfl⟩ := hP
    have er : r = none := epc_one hr fun p g1 g2 => hno p g1 (by omega)
    subst er
    walk_at "go"
    exact q H' hS
theorem al_take (l : List Nat) (p n : Nat) : ∀ k, k + p ≤ n → al (l.take n) p k = al l p k
  | 0, _ => rfl
  | k + 1, h => by
    rw [al, al, al_take l p n k (by omega), List.getElem?_take, List.getElem?_take, if_pos (show k < n by omega), if_pos (show k + p < n by omega)]
end
end L2.Na




namespace L2.Na
open PySem PySem.Spec PyProof.Rows L2 L2.L3
section
variable {K : PySem.W.Frag}

noncomputable def fr (l : List Nat) : Bool := (List.range l.length).all fun e => (List.range e).all fun j => !decide (j + 1 ≤ al l (j + 1) (e + 1 - (j + 1)))

noncomputable def ef (l : List Nat) : Bool := (List.range (l.length - 1)).all fun j => !decide (j + 1 ≤ al l (j + 1) (l.length - (j + 1)))
noncomputable abbrev sV (w : List Nat) : V := .str (mkS w)

noncomputable def mo1 (m : Nat) (w : List Nat) : List (List Nat) := ((List.range m).map fun k => w ++ [97 + k]).filter fr
noncomputable def mo (m : Nat) (ws : List (List Nat)) : List (List Nat) := ws.flatMap (mo1 m)
theorem mk_snoc (w : List Nat) (c : Nat) : mkS w ++ (⟨#[c]⟩ : Str) = mkS (w ++ [c]) := mk_app w [c]

noncomputable def Great (K : PySem.W.Frag) (n : Int) (H : Hp) (E : XK) : Prop := ∀ dx H', Same H H' → H' dx = some (.xd [("most", .int n)]) → E (.ref (clsAt K "TooGreat")) (some dx) H'
end
end L2.Na




namespace L2.Na
open PySem PySem.Spec PyProof.Rows L2 L2.L3
section
variable {K : PySem.W.Frag}
noncomputable instance (l : List Nat) (T B : Nat) (ab : Bool) (e p : Nat) : Decidable (Hit l T B ab e p) := by unfold Hit; infer_instance

noncomputable def ep (T B : Nat) (ab : Bool) (l : List Nat) : Option Nat := (List.range l.length).find? fun p => decide (1 ≤ p) && decide (Hit l T B ab (l.length - 1) p)
theorem ep_epc (T B : Nat) (ab : Bool) (l : List Nat) : Epc l T B ab l.length (ep T B ab l) := by
  unfold ep
  cases h : (List.range l.length).find? fun p => decide (1 ≤ p) && decide (Hit l T B ab (l.length - 1) p) with
  | none =>
    intro p h1 h2 hh
    have := List.find?_eq_none.mp h p (List.mem_range.mpr h2)
    rw [decide_eq_true h1, decide_eq_true hh] at this
    exact this rfl
  | some x =>
    obtain ⟨h1, as, bs, h2, h3⟩ := List.find?_eq_some_iff_append.mp h
    have hm : x ∈ List.range l.length := by rw [h2]; exact List.mem_append_right _ List.mem_cons_self
    simp only [Bool.and_eq_true, decide_eq_true_eq] at h1
    refine ⟨h1.1, List.mem_range.mp hm, h1.2, fun p g1 g2 hh => ?_⟩
    have hp : p ∈ List.range l.length := List.mem_range.mpr (by have := List.mem_range.mp hm; omega)
    have hpa : p ∈ as := by
      rw [h2] at hp
      have hs : List.Pairwise (· < ·) (List.range l.length) := List.pairwise_lt_range
      rw [h2] at hs
      rcases List.mem_append.mp hp with h | h
      · exact h
      · have := (List.pairwise_append.mp hs).2.1
        rcases List.mem_cons.mp h with rfl | h
        · omega
        · have := (List.pairwise_cons.mp this).1 p h
          omega
    have := h3 p hpa
    rw [decide_eq_true g2, decide_eq_true hh] at this
    cases this

inductive Pt where
  | word (w : List Nat) (cs : List (List Nat × Nat))
  | none (cs : List (List Nat × Nat))
  | great
  deriving DecidableEq

noncomputable def dfs (m T B : Nat) (ab : Bool) (L : Nat) : Nat → List (List Nat) → List (List Nat × Nat) → Pt
  | _, [], cs => .none cs
  | 0, _ :: _, _ => .great
  | n + 1, w :: st, cs => match ep T B ab w with
    | some p => dfs m T B ab L n st (cs ++ [(w, p)])
    | none => if w.length = L then .word w cs else dfs m T B ab L n ((List.range m).map (fun k => w ++ [97 + k]) ++ st) cs
theorem dfs_nil (m T B : Nat) (ab : Bool) (L n : Nat) (cs : List (List Nat × Nat)) : dfs m T B ab L n [] cs = .none cs := by
  cases n <;> rfl
theorem dfs_great (m T B : Nat) (ab : Bool) (L : Nat) {st : List (List Nat)} (cs : List (List Nat × Nat)) (h : st ≠ []) : dfs m T B ab L 0 st cs = .great := by
  cases st with
  | nil => exact absurd rfl h
  | cons a l => rfl
theorem dfs_case {m T B : Nat} {ab : Bool} {L n : Nat} {w : List Nat} {st : List (List Nat)} {cs : List (List Nat × Nat)} {p : Nat} (h : ep T B ab w = some p) : dfs m T B ab L (n + 1) (w :: st) cs = dfs m T B ab L n st (cs ++ [(w, p)]) := by
  rw [dfs, h]
theorem dfs_word {m T B : Nat} {ab : Bool} {L n : Nat} {w : List Nat} {st : List (List Nat)} {cs : List (List Nat × Nat)} (h : ep T B ab w = none) (hl : w.length = L) : dfs m T B ab L (n + 1) (w :: st) cs = .word w cs := by
  rw [dfs, h]
  exact if_pos hl
theorem dfs_more {m T B : Nat} {ab : Bool} {L n : Nat} {w : List Nat} {st : List (List Nat)} {cs : List (List Nat × Nat)} (h : ep T B ab w = none) (hl : w.length ≠ L) : dfs m T B ab L (n + 1) (w :: st) cs = dfs m T B ab L n ((List.range m).map (fun k => w ++ [97 + k]) ++ st) cs := by
  rw [dfs, h]
  exact if_neg hl

noncomputable def CsV (T B : Nat) (ab : Bool) (H : Hp) (v : V) (x : List Nat × Nat) : Prop := ∃ a r, v = .ref a ∧ H a = some (.tup [sV x.1, .ref r]) ∧ H r = some (.tup [.int ((x.1.length - 1 + 1 - ll T B ab x.2 : Nat) : Int), .int ((ll T B ab x.2 : Nat) : Int), .int ((x.2 : Nat) : Int)])
theorem CsV.same {T B : Nat} {ab : Bool} {H H' : Hp} {v : V} {x : List Nat × Nat} (h : CsV T B ab H v x) (e : Same H H') : CsV T B ab H' v x := by
  obtain ⟨a, r, h0, h1, h2⟩ := h
  exact ⟨a, r, h0, e _ _ h1, e _ _ h2⟩
theorem CsV.upd {T B : Nat} {ab : Bool} {H : Hp} {v : V} {x : List Nat × Nat} {c : Addr} {xs : List V} {o : HO} (h : CsV T B ab H v x) (hc : H c = some (.lst xs)) : CsV T B ab (upd H c o) v x := by
  obtain ⟨a, r, h0, h1, h2⟩ := h
  refine ⟨a, r, h0, ?_, ?_⟩
  · rw [upd_ne (fun z => by rw [z, hc] at h1; cases h1)]
    exact h1
  · rw [upd_ne (fun z => by rw [z, hc] at h2; cases h2)]
    exact h2
noncomputable def CsL (T B : Nat) (ab : Bool) (H : Hp) (rs : List V) (cs : List (List Nat × Nat)) : Prop := rs.length = cs.length ∧ ∀ (i : Nat) (v : V) (x : List Nat × Nat), rs[i]? = some v → cs[i]? = some x → CsV T B ab H v x
theorem CsL.same {T B : Nat} {ab : Bool} {H H' : Hp} {rs : List V} {cs : List (List Nat × Nat)} (h : CsL T B ab H rs cs) (e : Same H H') : CsL T B ab H' rs cs := ⟨h.1, fun i v x h1 h2 => (h.2 i v x h1 h2).same e⟩
theorem CsL.upd {T B : Nat} {ab : Bool} {H : Hp} {rs : List V} {cs : List (List Nat × Nat)} {c : Addr} {xs : List V} {o : HO} (h : CsL T B ab H rs cs) (hc : H c = some (.lst xs)) : CsL T B ab (upd H c o) rs cs := ⟨h.1, fun i v x h1 h2 => (h.2 i v x h1 h2).upd hc⟩
theorem CsL.snoc {T B : Nat} {ab : Bool} {H : Hp} {rs : List V} {cs : List (List Nat × Nat)} {v : V} {x : List Nat × Nat} (h : CsL T B ab H rs cs) (hv : CsV T B ab H v x) : CsL T B ab H (rs ++ [v]) (cs ++ [x]) := by
  refine ⟨by rw [List.length_append, List.length_append, h.1]; rfl, fun i v' x' h1 h2 => ?_⟩
  by_cases hi : i < rs.length
  · rw [List.getElem?_append_left hi] at h1
    rw [List.getElem?_append_left (by rw [← h.1]; exact hi)] at h2
    exact h.2 i v' x' h1 h2
  · rw [List.getElem?_append_right (by omega)] at h1
    rw [List.getElem?_append_right (by rw [← h.1]; omega), ← h.1] at h2
    cases hk : i - rs.length with
    | zero =>
      rw [hk] at h1 h2
      cases h1
      cases h2
      exact hv
    | succ k =>
      rw [hk] at h1
      cases h1
theorem CsL.nil {T B : Nat} {ab : Bool} {H : Hp} : CsL T B ab H [] [] := ⟨rfl, fun i v x h => by cases h⟩

noncomputable def PtTold (T B : Nat) (ab : Bool) (H : Hp) (Q : VK) (G : Prop) : Pt → Prop
  | .word w cs => ∀ t c rs H', Same H H' → H t = none → H c = none → H' t = some (.tup [.str "word", sV w, .ref c]) → H' c = some (.lst rs) → CsL T B ab H' rs cs → Q (.ref t) H'
  | .none cs => ∀ t c rs H', Same H H' → H t = none → H c = none → H' t = some (.tup [.str "none", .ref c]) → H' c = some (.lst rs) → CsL T B ab H' rs cs → Q (.ref t) H'
  | .great => G
noncomputable def sp_parted (K : PySem.W.Frag) : Sp := fun vs H Q E => ∃ (m : Nat) (t : Addr) (T B : Nat) (ab : Bool) (L : Nat), vs = [.int (m : Nat), .ref t, .int (L : Nat)] ∧ Lim K H t T B ab ∧ 1 ≤ m ∧ m ≤ 4 ∧ L ≤ 100 ∧ PtTold T B ab H Q (Great K 2000 H E) (dfs m T B ab L 2000 [[]] [])
noncomputable def b_parted (K : PySem.W.Frag) : List (SX K) :=
  [set 3 (lst []),
    set 4 (lst [cst (.str "")]),
    set 5 (cst (.int 0)),
    whS (cmp .Gt (len (var 4)) (cst (.int 0))) [ifS (cmp .Eq (var 5) (glb "MOST_WORDS_PARTED" ((.int 2000)))) [raiseI "TooGreat" "self" "most" "most" (glb "MOST_WORDS_PARTED" ((.int 2000)))] [],
      set 5 (bin .Add (var 5) (cst (.int 1))),
      set 6 (m_pop (var 4)),
      set 7 (call "repeat_at_end" (sp_repeat_at_end K) [var 6, var 1]),
      ifS (cmp .IsNot (var 7) (cst .non)) [ex (m_append (var 3) (tup [var 6, var 7]))] [ifS (cmp .Eq (len (var 6)) (var 2)) [ret (tup [cst (.str "word"), var 6, var 3])] [ex (m_extend (var 4) (comp (bin .Add (var 1) (var 0)) (nam 0) (iRvS (call "letters" (sp_letters K) [var 0])) ["letter"] ["word"] [6]))]]],
    ret (tup [cst (.str "none"), var 3])]
theorem l_parted : ∀ vs H Q E, sp_parted K vs H Q E → vs.length = 3 := by
  rintro vs H Q E ⟨_, _, _, _, _, _, rfl, _⟩
  rfl
theorem map_last (w : List Nat) (st : List (List Nat)) : ((w :: st).reverse.map sV) = st.reverse.map sV ++ [sV w] := by
  rw [List.reverse_cons, List.map_append]
  rfl
theorem t_parted (vs : List V) (H : Hp) (Q : VK) (E : XK) (h : sp_parted K vs H Q E) : tSs (b_parted K) (fun _ => E) { nx := fun _ H' => Q .non H', rt := Q } (start ["many", "limit", "length", "cases", "ahead", "looked_at", "word", "repeat"] vs) H := by
  obtain ⟨m, t, T, B, ab, L, rfl, hL, h1, h4, hLe, q⟩ := h
  have k0 : (0 : Int) ≤ (m : Nat) := by omega
  have k4 : ((m : Nat) : Int) ≤ 4 := by omega
  revert q
  generalize hX : dfs m T B ab L 2000 [[]] [] = X
  intro q
  unfold b_parted
  walk_at "go"
  refine ⟨Nat.zero_le _, fun c hc => ?_⟩
  have s0 := same_new hc (.lst [])
  walk_at "go"
  refine ⟨by show 1 ≤ sizeLine; decide, fun a ha => ?_⟩
  have s1 := same_new ha (.lst [V.str (Str.ofString "")])
  have hca : c ≠ a := ne_of_none upd_same ha
  have ha0 : H a = none := none_of s0 ha
  walk_at "go"
  refine loop_wh (fun k σ H' => Same H H' ∧ ∃ st cs rs a6 a7, k ≤ 2000 ∧ dfs m T B ab L k st cs = X ∧ H' c = some (.lst rs) ∧ H' a = some (.lst (st.reverse.map sV)) ∧ CsL T B ab H' rs cs ∧ st.length ≤ 1 + 4 * (2000 - k) ∧ cs.length ≤ 2000 - k ∧ (∀ w ∈ st, w.length ≤ L) ∧
      σ = [some (.int (m : Nat)), some (.ref t), some (.int (L : Nat)), some (.ref c), some (.ref a), some (.int ((2000 - k : Nat) : Int)), a6, a7]) (m := 2000)
    ⟨s0.trans s1, [[]], [], [], none, none, Nat.le_refl _, hX, s1 _ _ upd_same, ?_, CsL.nil, by decide, by decide, fun w hw => ?_, rfl⟩ fun k σ H' hW => ?_
  · rw [upd_same]
    have e : mkS [] = Str.ofString "" := by decide +kernel
    show some (HO.lst [V.str (Str.ofString "")]) = some (HO.lst [V.str (mkS [])])
    rw [e]
  · have e : w = [] := by simpa using hw
    subst e
    exact Nat.zero_le _
  · obtain ⟨hS, st, cs, rs, a6, a7, hk, hd, hC, hA, hcs, hstl, hcl, hwl, rfl⟩ := hW
    have hsl : (st.reverse.map sV).length = st.length := by rw [List.length_map, List.length_reverse]
    walk_at "go"
    refine i_lenL (SqL.of hA) ?_
    walk_at "go"
    refine br_d (fun c1 => ?_) fun c1 => ?_
    · cases st with
      | nil => exact absurd c1 (by decide)
      | cons w st =>
        rw [map_last] at hA
        have hwL : w.length ≤ L := hwl w List.mem_cons_self
        have hmk : (mkS w).length = w.length := mk_len w
        refine wh_go ?_
        walk_at "go"
        refine br_d (fun c2 => ?_) fun c2 => ?_
        · have e : k = 0 := by omega
          subst e
          rw [dfs_great _ _ _ _ _ _ (by intro z; cases z)] at hd
          subst hd
          refine i_seq ?_
          refine i_raiseI ?_
          walk_at "go"
          intro dx hdx
          exact q dx _ (hS.trans (same_new hdx _)) upd_same
        · obtain ⟨n, rfl⟩ : ∃ n, k = n + 1 := ⟨k - 1, by omega⟩
          have ek : ((2000 - (n + 1) : Nat) : Int) + 1 = ((2000 - n : Nat) : Int) := by omega
          walk_at "go"
          rw [ek]
          refine i_RL (SqL.of hA) ?_
          walk_at "go"
          refine i_popU (y := sV w) hA (by rw [List.length_append, List.length_singleton, Nat.add_sub_cancel, List.getElem?_append_right (Nat.le_refl _), Nat.sub_self]; rfl) ?_
          rw [List.dropLast_concat]
          have hS1 := same_upd (o := .lst (st.reverse.map sV)) hS ha0
          have hA1 : (upd H' a (.lst (st.reverse.map sV))) a = some (.lst (st.reverse.map sV)) := upd_same
          have hC1 : (upd H' a (.lst (st.reverse.map sV))) c = some (.lst rs) := by rw [upd_ne hca]; exact hC
          have hcs1 := hcs.upd (o := .lst (st.reverse.map sV)) hA
          revert hS1 hA1 hC1 hcs1
          generalize upd H' a (.lst (st.reverse.map sV)) = H1
          intro hS1 hA1 hC1 hcs1
          walk_at "go"
          have hep := ep_epc T B ab w
          refine ⟨mkS w, t, T, B, ab, ep T B ab w, rfl, hL.same hS1, by omega, by rw [ls_mk, hmk]; exact hep, ?_⟩
          rw [hmk]
          cases hr : ep T B ab w with
          | some p =>
            rw [dfs_case hr] at hd
            intro r H2 hS2 hr2
            walk_at "go"
            refine brT ?_
            walk_at "go"
            refine i_RL (SqL.of (hS2 _ _ hC1)) ?_
            walk_at "go"
            refine ⟨by show 2 ≤ sizeLine; decide, fun u hu => ?_⟩
            have s3 := same_new hu (.tup [sV w, V.ref r])
            have hS3 := hS2.trans s3
            have hC3 := hS3 _ _ hC1
            have hv : CsV T B ab (upd H2 u (.tup [sV w, V.ref r])) (.ref u) (w, p) := ⟨u, r, rfl, upd_same, s3 _ _ hr2⟩
            walk_at "go"
            refine i_appendU hC3 (by have := hcs.1; exact Nat.lt_of_lt_of_le (show rs.length < 5000 by omega) (small (by decide))) ?_
            walk_at "go"
            refine ⟨n, Nat.lt_succ_self n, same_upd (hS1.trans hS3) hc, st, cs ++ [(w, p)], rs ++ [.ref u], _, _, by omega, hd, upd_same, ?_, ?_, ?_, ?_, fun w' hw' => hwl w' (List.mem_cons_of_mem _ hw'), rfl⟩
            · rw [upd_ne (Ne.symm hca)]
              exact hS3 _ _ hA1
            · exact ((hcs1.same hS3).upd hC3).snoc (hv.upd hC3)
            · rw [List.length_cons] at hstl
              omega
            · rw [List.length_append, List.length_singleton]
              omega
          | none =>
            intro H2 hS2
            walk_at "go"
            refine brF ?_
            walk_at "go"
            refine i_lenS (small (by omega)) ?_
            walk_at "go"
            refine br_d (fun c3 => ?_) fun c3 => ?_
            · rw [dfs_word hr (by omega)] at hd
              subst hd
              walk_at "go"
              refine ⟨by show 3 ≤ sizeLine; decide, fun u hu => ?_⟩
              have s3 := same_new hu (.tup [V.str "word", sV w, V.ref c])
              have hS3 := hS2.trans s3
              exact q u c rs _ (hS1.trans hS3) (none_of (hS1.trans hS2) hu) hc upd_same (hS3 _ _ hC1) (hcs1.same hS3)
            · have hne : w.length ≠ L := by omega
              rw [dfs_more hr hne] at hd
              walk_at "go"
              refine i_extend ?_
              walk_at "go"
              refine i_RL (SqL.of (hS2 _ _ hA1)) ?_
              walk_at "go"
              refine i_rvsI ?_
              walk_at "go"
              refine ⟨_, rfl, ?_⟩
              walk_at "go"
              refine i_rvsS (small (by rw [known_len k0 k4]; omega)) ?_
              intro D hD
              have hlk : ls (known (m : Nat)) = (List.range m).map (97 + ·) := by rw [ls_known k0 k4, Int.toNat_natCast]
              refine comp_items (yl_rvs (z := known (m : Nat))) (fun v => match v with | .str y => .str (mkS w ++ y) | v => v) hD (fun _ _ => trivial) (small (by rw [List.length_map, List.length_reverse, ls_len, known_len k0 k4]; omega)) (fun j x H3 Q' hx hS3 fin => ?_) fun H3 hS3 hO => ?_
              · obtain ⟨y, hy, rfl⟩ := List.mem_map.mp (List.mem_of_getElem? hx)
                walk_at "go"
                refine i_addS (small (by rw [mk_len]; show w.length + 1 ≤ _; omega)) ?_
                exact fin H3 (Same.refl _)
              · have hO2 : H3 D = some (.lst (((List.range m).map fun k => w ++ [97 + k]).reverse.map sV)) := by
                  rw [hO, hlk, ← List.map_reverse, ← List.map_reverse]
                  simp only [List.map_map]
                  congr 2
                  refine List.map_congr_left fun j hj => ?_
                  show V.str (mkS w ++ (⟨#[97 + j]⟩ : Str)) = V.str (mkS (w ++ [97 + j]))
                  rw [mk_snoc]
                have hS3' := hS2.trans hS3
                have hA3 := hS3' _ _ hA1
                walk_at "go"
                refine i_extendU hA3 hO2 (small (by rw [List.length_map, List.length_reverse, List.length_map, List.length_reverse, List.length_map, List.length_range]; rw [List.length_cons] at hstl; omega)) ?_
                refine ⟨n, Nat.lt_succ_self n, same_upd (hS1.trans hS3') ha0, (List.range m).map (fun k => w ++ [97 + k]) ++ st, cs, rs, _, _, by omega, hd, ?_, ?_, (hcs1.same hS3').upd hA3, ?_, by omega, ?_, rfl⟩
                · rw [upd_ne hca]
                  exact hS3' _ _ hC1
                · rw [upd_same, List.reverse_append, List.map_append]
                · rw [List.length_append, List.length_map, List.length_range]
                  rw [List.length_cons] at hstl
                  omega
                · intro w' hw'
                  rcases List.mem_append.mp hw' with hw' | hw'
                  · obtain ⟨j, hj, rfl⟩ := List.mem_map.mp hw'
                    rw [List.length_append, List.length_singleton]
                    omega
                  · exact hwl w' (List.mem_cons_of_mem _ hw')
    · cases st with
      | cons w st => exact absurd (show (0 : Int) < _ by rw [hsl, List.length_cons]; omega) c1
      | nil =>
        rw [dfs_nil] at hd
        subst hd
        walk_at "go"
        refine ⟨by show 2 ≤ sizeLine; decide, fun u hu => ?_⟩
        have s3 := same_new hu (.tup [V.str "none", V.ref c])
        exact q u c rs _ (hS.trans s3) (none_of hS hu) hc upd_same (s3 _ _ hC) (hcs.same s3)
end
end L2.Na




namespace L2.Na
open PySem PySem.Spec PyProof.Rows L2 L2.L3

noncomputable def PairAt (h : Heap) (v : Value) (x : Int × Int) : Prop := ∃ (a : Addr) (t u : Tok), v = .ref a ∧ IsTup h a #[.int x.1 t, .int x.2 u]
noncomputable def Keeps (g h : Heap) : Prop := ∀ b o, g.get? b = some o → h.get? b = some o
theorem PairAt.keeps {g h : Heap} {v : Value} {x : Int × Int} (p : PairAt g v x) (k : Keeps g h) : PairAt h v x := by
  obtain ⟨a, t, u, rfl, o, ho, hc, n, hd⟩ := p
  exact ⟨a, t, u, rfl, o, k _ _ ho, hc, n, hd⟩
section
variable {prog : Program} {w : World} {A : Around} {E : Value → Shared → Prop}
variable {R : Result → Shared → Prop} {it ls l : Addr} {vs : List Value} {g : Heap} {f : Nat → Int × Int} {d : Value}
end
end L2.Na



namespace L2.Na
open PySem PySem.Spec PyProof.Rows L2 L2.L3
section
variable {K : PySem.W.Frag}
theorem i_unp3 {σ : St} {H : Hp} {QS : St → Hp → Prop} {k l m : Nat} {p : Addr} {x y z : V} (c : SqT K H p [x, y, z]) (h : QS (((σ.set k (some x)).set l (some y)).set m (some z)) H) : (unp [k, l, m] : TX K).g (.ref p) σ H QS :=
  ⟨p, [x, y, z], rfl, c, rfl, x, [y, z], rfl, y, [z], rfl, z, [], rfl, rfl, h⟩
end
end L2.Na




namespace L2.Na
open PySem PySem.Spec PyProof.Rows L2 L2.L3

noncomputable def Br (u v : List Nat) : Prop := ∃ (x : List Nat) (a b : Nat) (y z : List Nat), u = x ++ a :: y ∧ v = x ++ b :: z ∧ a < b
theorem Br.ext {u v : List Nat} (h : Br u v) (s t : List Nat) : Br (u ++ s) (v ++ t) := by
  obtain ⟨x, a, b, y, z, rfl, rfl, hab⟩ := h
  exact ⟨x, a, b, y ++ s, z ++ t, by simp, by simp, hab⟩
theorem Br.extR {u v : List Nat} (h : Br u v) (t : List Nat) : Br u (v ++ t) := by
  have := h.ext [] t
  rwa [List.append_nil] at this
theorem Br.extL {u v : List Nat} (h : Br u v) (t : List Nat) : Br (u ++ t) v := by
  have := h.ext t []
  rwa [List.append_nil] at this
theorem Br.ne {u v : List Nat} (h : Br u v) : u ≠ v := fun e => by
  obtain ⟨x, a, b, y, z, h1, h2, hab⟩ := h
  have e2 : x ++ a :: y = x ++ b :: z := by rw [← h1, ← h2, e]
  have e3 := List.append_cancel_left e2
  cases e3
  omega
theorem Br.kids (w : List Nat) {i j : Nat} (h : i < j) : Br (w ++ [97 + i]) (w ++ [97 + j]) := ⟨w, 97 + i, 97 + j, [], [], rfl, rfl, by omega⟩
noncomputable def Lt (m : Nat) (v : List Nat) : Prop := ∀ c ∈ v, 97 ≤ c ∧ c < 97 + m
structure DI (m T B : Nat) (ab : Bool) (L : Nat) (st : List (List Nat)) (cs : List (List Nat × Nat)) : Prop where
  cok : ∀ x ∈ cs, Lt m x.1 ∧ x.1.length ≤ L ∧ ep T B ab x.1 = some x.2 ∧ ∀ k, k < x.1.length → ep T B ab (x.1.take k) = none
  sok : ∀ u ∈ st, Lt m u ∧ u.length ≤ L ∧ ∀ k, k < u.length → ep T B ab (u.take k) = none
  br : (cs.map (·.1) ++ st).Pairwise Br
  cov : ∀ v, v.length = L → Lt m v → ∃ u ∈ cs.map (·.1) ++ st, u <+: v
theorem DI.start (m T B : Nat) (ab : Bool) (L : Nat) : DI m T B ab L [[]] [] where
  cok := fun x hx => nomatch hx
  sok := fun u hu => by
    have e : u = [] := by simpa using hu
    subst e
    exact ⟨(fun c hc => nomatch hc), Nat.zero_le _, fun k hk => absurd hk (Nat.not_lt_zero _)⟩
  br := by simp
  cov := fun v _ _ => ⟨[], by simp, List.nil_prefix⟩
noncomputable def Res (m T B : Nat) (ab : Bool) (L : Nat) : Pt → Prop
  | .none cs => DI m T B ab L [] cs
  | .word w cs => ∃ st, DI m T B ab L (w :: st) cs ∧ ep T B ab w = none ∧ w.length = L
  | .great => True
theorem DI.case {m T B : Nat} {ab : Bool} {L : Nat} {w : List Nat} {st : List (List Nat)} {cs : List (List Nat × Nat)} {p : Nat} (h : DI m T B ab L (w :: st) cs) (hp : ep T B ab w = some p) : DI m T B ab L st (cs ++ [(w, p)]) where
  cok := fun x hx => by
    rcases List.mem_append.mp hx with hx | hx
    · exact h.cok x hx
    · have e : x = (w, p) := by simpa using hx
      subst e
      obtain ⟨h1, h2, h3⟩ := h.sok w List.mem_cons_self
      exact ⟨h1, h2, hp, h3⟩
  sok := fun u hu => h.sok u (List.mem_cons_of_mem _ hu)
  br := by
    have := h.br
    rw [List.map_append, List.append_assoc]
    exact this
  cov := fun v h1 h2 => by
    obtain ⟨u, hu, hp⟩ := h.cov v h1 h2
    refine ⟨u, ?_, hp⟩
    rw [List.map_append, List.append_assoc]
    exact hu
theorem DI.more {m T B : Nat} {ab : Bool} {L : Nat} {w : List Nat} {st : List (List Nat)} {cs : List (List Nat × Nat)} (h : DI m T B ab L (w :: st) cs) (hp : ep T B ab w = none) (hl : w.length ≠ L) : DI m T B ab L ((List.range m).map (fun k => w ++ [97 + k]) ++ st) cs where
  cok := h.cok
  sok := fun u hu => by
    rcases List.mem_append.mp hu with hu | hu
    · obtain ⟨k, hk, rfl⟩ := List.mem_map.mp hu
      have hkm := List.mem_range.mp hk
      obtain ⟨h1, h2, h3⟩ := h.sok w List.mem_cons_self
      refine ⟨fun c hc => ?_, by rw [List.length_append, List.length_singleton]; omega, fun j hj => ?_⟩
      · rcases List.mem_append.mp hc with hc | hc
        · exact h1 c hc
        · have e : c = 97 + k := by simpa using hc
          omega
      · rw [List.length_append, List.length_singleton] at hj
        by_cases e : j = w.length
        · subst e
          rw [List.take_left]
          exact hp
        · rw [List.take_append_of_le_length (by omega)]
          exact h3 j (by omega)
    · exact h.sok u (List.mem_cons_of_mem _ hu)
  br := by
    have hb := h.br
    obtain ⟨b1, b2, b3⟩ := List.pairwise_append.mp hb
    obtain ⟨b4, b5⟩ := List.pairwise_cons.mp b2
    refine List.pairwise_append.mpr ⟨b1, List.pairwise_append.mpr ⟨?_, b5, fun u hu v hv => ?_⟩, fun u hu v hv => ?_⟩
    · refine List.pairwise_map.mpr ?_
      exact List.Pairwise.imp (fun hij => Br.kids w hij) List.pairwise_lt_range
    · obtain ⟨k, _, rfl⟩ := List.mem_map.mp hu
      exact (b4 v hv).extL _
    · rcases List.mem_append.mp hv with hv | hv
      · obtain ⟨k, _, rfl⟩ := List.mem_map.mp hv
        exact (b3 u hu w List.mem_cons_self).extR _
      · exact b3 u hu v (List.mem_cons_of_mem _ hv)
  cov := fun v h1 h2 => by
    obtain ⟨u, hu, hpre⟩ := h.cov v h1 h2
    rcases List.mem_append.mp hu with hu | hu
    · exact ⟨u, List.mem_append_left _ hu, hpre⟩
    · rcases List.mem_cons.mp hu with rfl | hu
      · obtain ⟨t, rfl⟩ := hpre
        obtain ⟨g1, g2, _⟩ := h.sok u List.mem_cons_self
        cases t with
        | nil =>
          rw [List.append_nil] at h1
          exact absurd h1 hl
        | cons c t =>
          obtain ⟨c1, c2⟩ := h2 c (List.mem_append_right _ List.mem_cons_self)
          refine ⟨u ++ [c], List.mem_append_right _ (List.mem_append_left _ (List.mem_map.mpr ⟨c - 97, List.mem_range.mpr (by omega), ?_⟩)), ⟨t, by simp⟩⟩
          rw [show 97 + (c - 97) = c by omega]
      · exact ⟨u, List.mem_append_right _ (List.mem_append_right _ hu), hpre⟩
theorem dfs_res (m T B : Nat) (ab : Bool) (L : Nat) : ∀ (n : Nat) (st : List (List Nat)) (cs : List (List Nat × Nat)), DI m T B ab L st cs → Res m T B ab L (dfs m T B ab L n st cs) := by
  intro n
  induction n with
  | zero =>
    intro st cs h
    cases st with
    | nil => rw [dfs_nil]; exact h
    | cons w st => rw [dfs_great _ _ _ _ _ _ (by intro z; cases z)]; trivial
  | succ n ih =>
    intro st cs h
    cases st with
    | nil => rw [dfs_nil]; exact h
    | cons w st =>
      cases hp : ep T B ab w with
      | some p =>
        rw [dfs_case hp]
        exact ih _ _ (h.case hp)
      | none =>
        by_cases hl : w.length = L
        · rw [dfs_word hp hl]
          exact ⟨st, h, hp, hl⟩
        · rw [dfs_more hp hl]
          exact ih _ _ (h.more hp hl)
theorem dfs_all (m T B : Nat) (ab : Bool) (L n : Nat) : Res m T B ab L (dfs m T B ab L n [[]] []) := dfs_res m T B ab L n _ _ (DI.start m T B ab L)

noncomputable def Cs (k : Nat) : Pt → Prop
  | .none c => c.length ≤ k
  | .word _ c => c.length ≤ k
  | .great => True
theorem dfs_cs (m T B : Nat) (ab : Bool) (L : Nat) : ∀ (n : Nat) (st : List (List Nat)) (cs : List (List Nat × Nat)), Cs (cs.length + n) (dfs m T B ab L n st cs) := by
  intro n
  induction n with
  | zero =>
    intro st cs
    cases st with
    | nil => rw [dfs_nil]; exact Nat.le_refl _
    | cons w st => rw [dfs_great _ _ _ _ _ _ (by intro z; cases z)]; trivial
  | succ n ih =>
    intro st cs
    cases st with
    | nil => rw [dfs_nil]; exact Nat.le_add_right _ _
    | cons w st =>
      cases hp : ep T B ab w with
      | some p =>
        rw [dfs_case hp]
        have := ih st (cs ++ [(w, p)])
        rw [List.length_append, List.length_singleton] at this
        rw [show cs.length + (n + 1) = cs.length + 1 + n by omega]
        exact this
      | none =>
        by_cases hl : w.length = L
        · rw [dfs_word hp hl]
          exact Nat.le_add_right _ _
        · rw [dfs_more hp hl]
          have := ih ((List.range m).map (fun k => w ++ [97 + k]) ++ st) cs
          cases hX : dfs m T B ab L n ((List.range m).map (fun k => w ++ [97 + k]) ++ st) cs with
          | none c => rw [hX] at this; exact Nat.le_succ_of_le this
          | word v c => rw [hX] at this; exact Nat.le_succ_of_le this
          | great => trivial

noncomputable def bgn (C : List (List Nat)) (v : List Nat) : Nat := ((List.range (v.length + 1)).filter fun k => decide (v.take k ∈ C)).length
theorem filter_one {p : Nat → Bool} : ∀ {n : Nat}, (∃ k, k < n ∧ p k = true) → (∀ j k, j < k → k < n → p j = true → p k = true → False) → ((List.range n).filter p).length = 1
  | 0, ⟨k, hk, _⟩, _ => by omega
  | n + 1, ⟨k, hk, hp⟩, hu => by
    rw [List.range_succ, List.filter_append, List.length_append]
    by_cases e : k = n
    · subst e
      have h0 : (List.range k).filter p = [] := List.filter_eq_nil_iff.mpr fun j hj hpj => hu j k (List.mem_range.mp hj) (by omega) hpj hp
      rw [h0, List.filter_cons, if_pos hp]
      rfl
    · have h1 := filter_one (n := n) ⟨k, by omega, hp⟩ fun i j hij hj => hu i j hij (by omega)
      have h2 : p n = false := Bool.eq_false_iff.mpr fun z => hu k n (by omega) (by omega) hp z
      rw [h1, List.filter_cons, if_neg (by rw [h2]; exact Bool.false_ne_true)]
      rfl
theorem DI.once {m T B : Nat} {ab : Bool} {L : Nat} {st : List (List Nat)} {cs : List (List Nat × Nat)} (h : DI m T B ab L st cs) {v : List Nat} (hv : ∃ u ∈ cs.map (·.1), u <+: v) : bgn (cs.map (·.1)) v = 1 := by
  obtain ⟨u, hu, hpre⟩ := hv
  refine filter_one ⟨u.length, Nat.lt_succ_of_le hpre.length_le, ?_⟩ fun j k hjk hk hj hkp => ?_
  · rw [decide_eq_true_eq, ← List.prefix_iff_eq_take.mp hpre]
    exact hu
  · rw [decide_eq_true_eq] at hj hkp
    obtain ⟨x, hx, ex⟩ := List.mem_map.mp hj
    obtain ⟨y, hy, ey⟩ := List.mem_map.mp hkp
    have h1 := (h.cok x hx).2.2.1
    have h2 := (h.cok y hy).2.2.2 j (by rw [ey, List.length_take]; omega)
    rw [ey, List.take_take, Nat.min_eq_left (by omega), ← ex, h1] at h2
    cases h2
theorem DI.never {m T B : Nat} {ab : Bool} {L : Nat} {w : List Nat} {st : List (List Nat)} {cs : List (List Nat × Nat)} (h : DI m T B ab L (w :: st) cs) (hp : ep T B ab w = none) : bgn (cs.map (·.1)) w = 0 := by
  unfold bgn
  rw [List.filter_eq_nil_iff.mpr fun k hk hc => ?_]
  · rfl
  · rw [decide_eq_true_eq] at hc
    obtain ⟨x, hx, ex⟩ := List.mem_map.mp hc
    have h1 := (h.cok x hx).2.2.1
    have hk' := List.mem_range.mp hk
    by_cases e : k = w.length
    · rw [ex, e, List.take_length, hp] at h1
      cases h1
    · have h2 := (h.sok w List.mem_cons_self).2.2 k (by omega)
      rw [ex, h2] at h1
      cases h1
theorem DI.nodup {m T B : Nat} {ab : Bool} {L : Nat} {st : List (List Nat)} {cs : List (List Nat × Nat)} (h : DI m T B ab L st cs) : (cs.map (·.1)).Nodup :=
  List.Pairwise.imp (fun hb => hb.ne) (List.pairwise_append.mp h.br).1
theorem DI.self {m T B : Nat} {ab : Bool} {L : Nat} {st : List (List Nat)} {cs : List (List Nat × Nat)} (h : DI m T B ab L st cs) {u : List Nat} (hu : u ∈ cs.map (·.1)) : bgn (cs.map (·.1)) u = 1 := h.once ⟨u, hu, List.prefix_refl u⟩

theorem DI.ahead {m T B : Nat} {ab : Bool} {L : Nat} {w : List Nat} {st : List (List Nat)} {cs : List (List Nat × Nat)} (h : DI m T B ab L (w :: st) cs) (hl : w.length = L) {v : List Nat} (h1 : v.length = L) (h2 : Lt m v) : bgn (cs.map (·.1)) v = 1 ∨ v = w ∨ Br w v := by
  obtain ⟨u, hu, hpre⟩ := h.cov v h1 h2
  rcases List.mem_append.mp hu with hu | hu
  · exact .inl (h.once ⟨u, hu, hpre⟩)
  · obtain ⟨t, rfl⟩ := hpre
    rcases List.mem_cons.mp hu with rfl | hu
    · rw [List.length_append] at h1
      have : t = [] := List.eq_nil_of_length_eq_zero (by omega)
      subst this
      exact .inr (.inl (List.append_nil _))
    · exact .inr (.inr (((List.pairwise_cons.mp (List.pairwise_append.mp h.br).2.1).1 u hu).extR t))

theorem DI.free {m T B : Nat} {ab : Bool} {L : Nat} {w : List Nat} {st : List (List Nat)} {cs : List (List Nat × Nat)} (h : DI m T B ab L (w :: st) cs) (hp : ep T B ab w = none) {e p : Nat} (he : e < w.length) (h1 : 1 ≤ p) (h2 : p ≤ e) : ¬ Hit w T B ab e p := by
  have hn : ep T B ab (w.take (e + 1)) = none := by
    by_cases c : e + 1 = w.length
    · rw [c, List.take_length]
      exact hp
    · exact (h.sok w List.mem_cons_self).2.2 (e + 1) (by omega)
  have hl : (w.take (e + 1)).length = e + 1 := by rw [List.length_take]; omega
  have hE := ep_epc T B ab (w.take (e + 1))
  rw [hn, hl] at hE
  have := hE p h1 (by omega)
  intro hh
  refine this ?_
  unfold Hit at hh ⊢
  rw [show e + 1 - 1 + 1 - p = e + 1 - p by omega, al_take _ _ _ _ (by omega)]
  exact hh
end L2.Na



namespace L2.Na.K72
open PySem PySem.Spec PyProof.Rows L2 L2.L3
section
variable {K : PySem.W.Frag}

structure KF (K : PySem.W.Frag) : Prop where
  n_TooGreat : PySem.W.nsIn K mainGlobals "TooGreat" = some (some (.ref (clsAt K "TooGreat")))
  ini : IniK K "TooGreat" "self" "most" "most"
  exm : PySem.W.exmOne K (.ref (clsAt K "TooGreat")) (.ref (clsAt K "TooGreat")) = some true
theorem tupL {a b a' b' : Int} {c c' : Bool} (h1 : a = a') (h2 : b = b') (h3 : c = c') : some (HO.tup [V.int a, .int b, .bl c]) = some (HO.tup [V.int a', .int b', .bl c']) := by
  subst h1 h2 h3
  rfl
theorem Dr.off {H : Hp} {p D : Addr} {o : HO} (h : Dr H p) (hn : p ≠ D) : Dr (upd H D o) p := by
  obtain ⟨xs, h1, h2⟩ := h
  exact ⟨xs, by rw [upd_ne hn]; exact h1, h2⟩
theorem Off.other {p D : Addr} {H H1 : Hp} {o : HO} (h : Off p H H1) (hD : H D = none) : Off p H (upd H1 D o) := fun b u hb e => by
  rw [upd_ne (ne_of_none e hD)]
  exact h b u hb e
theorem Dr.some {H : Hp} {p : Addr} (h : Dr H p) : ∃ o, H p = Option.some o := let ⟨_, e, _⟩ := h; ⟨_, e⟩
theorem Off.seqT {d t : Addr} {H H' : Hp} {xs : List V} (h : SqT K H t xs) (n : t ≠ d) (e : Off d H H') : SqT K H' t xs := by
  rcases h with (h | ⟨o, h⟩) | h
  · exact .inl (.inl (e _ _ n h))
  · exact .inl (.inr ⟨o, e _ _ n h⟩)
  · exact .inr h
noncomputable def sp_law_word (K : PySem.W.Frag) : Sp := fun vs H Q _ => ∃ (p : Addr) (m s : Int), vs = [.ref p, .int m, .int s] ∧ Dr H p ∧ 1 ≤ m ∧ m ≤ 4 ∧ 0 ≤ s ∧ s ≤ 1000 ∧ ∀ (z : Str) (H' : Hp), Off p H H' → Dr H' p → IsW m.toNat z → z.length = s.toNat → Q (.str z) H'
noncomputable def b_law_word (K : PySem.W.Frag) : List (SX K) :=
  [ret (m_join (cst (.str "")) (comp (ix (cst (.str "abcd")) (bin .Mod (call "_law_next" (sp_law_next K) [var 2]) (var 1))) (nam 0) (iRng (var 2) []) ["_law_k"] ["_law_many", "_law_drawn"] [1, 0]))]
theorem l_law_word : ∀ vs H Q E, sp_law_word K vs H Q E → vs.length = 3 := by
  rintro vs H Q E ⟨_, _, _, rfl, _⟩
  rfl
theorem signs_of {m : Nat} : ∀ (ys : List V), (∀ y ∈ ys, ∃ c, y = sgn c ∧ 97 ≤ c ∧ c < 97 + m) → ∃ cs : List Nat, ys = (cs.map fun c => (⟨#[c]⟩ : Str)).map V.str ∧ cs.length = ys.length ∧ ∀ c ∈ cs, 97 ≤ c ∧ c < 97 + m
  | [], _ => ⟨[], rfl, rfl, fun c hc => nomatch hc⟩
  | y :: ys, h => by
    obtain ⟨c, rfl, hc⟩ := h y List.mem_cons_self
    obtain ⟨cs, e, hl, hcs⟩ := signs_of ys fun y hy => h y (List.mem_cons_of_mem _ hy)
    refine ⟨c :: cs, by rw [List.map_cons, List.map_cons, ← e]; rfl, by rw [List.length_cons, List.length_cons, hl], fun d hd => ?_⟩
    rcases List.mem_cons.mp hd with rfl | hd
    · exact hc
    · exact hcs d hd
theorem flat_one {α β : Type} (f : α → β) : ∀ l : List α, (l.map fun v => [f v]).flatten = l.map f
  | [] => rfl
  | a :: l => by rw [List.map_cons, List.flatten_cons, flat_one f l]; rfl
theorem t_law_word (vs : List V) (H : Hp) (Q : VK) (E : XK) (h : sp_law_word K vs H Q E) : tSs (b_law_word K) (fun _ => E) { nx := fun _ H' => Q .non H', rt := Q } (start ["_law_drawn", "_law_many", "_law_size"] vs) H := by
  obtain ⟨p, m, s, rfl, hp, h1, h4, hs0, hs, q⟩ := h
  unfold b_law_word
  walk_at "go"
  intro D hD
  have hpD : p ≠ D := let ⟨o, e⟩ := Dr.some hp; ne_of_none e hD
  refine comp_rngH (fun i H1 => Off p H H1 ∧ Dr H1 p) (fun i y => ∃ c, y = sgn c ∧ 97 ≤ c ∧ c < 97 + m.toNat) (small (by omega)) ⟨Off.other (Off.refl p H) hD, Dr.off hp hpD⟩ (fun i H1 ys Q' hi hI hO fin => ?_) fun H1 ys hI hO hl hr => ?_
  · walk_at "go"
    refine ⟨p, rfl, hI.2, fun v H2 hOff hDr v0 v1 => ?_⟩
    walk_at "go"
    have e1 := Int.emod_nonneg v (show m ≠ 0 by omega)
    have e2 := Int.emod_lt_of_pos v (show 0 < m by omega)
    refine i_ixS (by rw [abcd_len]; decide) (abcd_at (m := m) e1 e2 h4) ?_
    exact fin _ H2 ⟨_, rfl, by omega, by omega⟩ (hOff D _ hpD.symm hO) fun o => ⟨Off.other (Off.trans' hI.1 hOff) hD, Dr.off hDr hpD⟩
  · walk_at "go"
    obtain ⟨cs, e, hcl, hcs⟩ := signs_of (m := m.toNat) ys fun y hy => by
      obtain ⟨i, hi⟩ := List.getElem?_of_mem hy
      exact hr i y hi
    have e0 : (Str.ofString "").length = 0 := by decide +kernel
    have hsum : ((cs.map fun c => (⟨#[c]⟩ : Str)).map (·.length)).sum = cs.length := by
      rw [List.map_map, show ((fun z : Str => z.length) ∘ fun c => (⟨#[c]⟩ : Str)) = fun _ => 1 from rfl, List.map_const']
      simp
    refine ⟨cs.map fun c => (⟨#[c]⟩ : Str), .inl (by rw [hO, e]), by rw [hsum, e0]; omega, ?_⟩
    have hj : ls (Txt.join (Str.ofString "") (cs.map fun c => (⟨#[c]⟩ : Str))) = cs := by
      rw [ls_join0, List.map_map]
      show (cs.map fun c => [c]).flatten = _
      rw [flat_one fun c => c, List.map_id']
    refine q _ H1 hI.1 hI.2 (fun c hc => ?_) (by rw [← ls_len, hj, hcl, hl])
    rw [hj] at hc
    exact hcs c hc
theorem Lim.off {d t : Addr} {H H' : Hp} {T B : Nat} {ab : Bool} (h : Lim K H t T B ab) (n : t ≠ d) (e : Off d H H') : Lim K H' t T B ab := ⟨Off.seqT h.tp n e, h.pos, h.lt, h.le⟩

noncomputable def sp_law_breaks (K : PySem.W.Frag) : Sp := fun vs H Q _ => ∃ (t : Addr) (T B : Nat) (ab : Bool) (L p : Nat), vs = [.ref t, .int L, .int p] ∧ Lim K H t T B ab ∧ L ≤ 200000 ∧ p ≤ 1000 ∧ Q (.bl (decide (ll T B ab p ≤ L))) H
noncomputable def b_law_breaks (K : PySem.W.Frag) : List (SX K) :=
  [ifS (ix (var 0) (cst (.int 2))) [ret (cmp .Gt (bin .Mult (var 1) (ix (var 0) (cst (.int 1)))) (bin .Mult (ix (var 0) (cst (.int 0))) (var 2)))] [],
    ret (cmp .GtE (bin .Mult (var 1) (ix (var 0) (cst (.int 1)))) (bin .Mult (ix (var 0) (cst (.int 0))) (var 2)))]
theorem l_law_breaks : ∀ vs H Q E, sp_law_breaks K vs H Q E → vs.length = 3 := by
  rintro vs H Q E ⟨_, _, _, _, _, _, rfl, _⟩
  rfl
theorem t_law_breaks (vs : List V) (H : Hp) (Q : VK) (E : XK) (h : sp_law_breaks K vs H Q E) : tSs (b_law_breaks K) (fun _ => E) { nx := fun _ H' => Q .non H', rt := Q } (start ["_law_limit_here", "_law_length", "_law_period"] vs) H := by
  obtain ⟨t, T, B, ab, L, p, rfl, hL, hl, hp, q⟩ := h
  have h1 := hL.pos
  have h2 := hL.lt
  have h3 := hL.le
  unfold b_law_breaks
  walk_at "go"
  refine i_ixT (v := .bl ab) hL.tp rfl ?_
  walk_at "go"
  have key := ll_iff (T := T) (B := B) (ab := ab) (p := p) (L := L) h1
  cases ab with
  | true =>
    refine brT ?_
    walk_at "go"
    refine i_ixT (v := .int (B : Nat)) hL.tp rfl ?_
    walk_at "go"
    refine i_ixT (v := .int (T : Nat)) hL.tp rfl ?_
    walk_at "go"
    rw [if_pos rfl] at key
    have e : decide (((T : Nat) : Int) * (p : Nat) < ((L : Nat) : Int) * (B : Nat)) = decide (ll T B true p ≤ L) := decide_eq_decide.mpr (by rw [key]; exact_mod_cast Iff.rfl)
    rw [e]
    exact q
  | false =>
    refine brF ?_
    walk_at "go"
    refine i_ixT (v := .int (B : Nat)) hL.tp rfl ?_
    walk_at "go"
    refine i_ixT (v := .int (T : Nat)) hL.tp rfl ?_
    walk_at "go"
    rw [if_neg Bool.false_ne_true] at key
    have e : decide (((T : Nat) : Int) * (p : Nat) ≤ ((L : Nat) : Int) * (B : Nat)) = decide (ll T B false p ≤ L) := decide_eq_decide.mpr (by rw [key]; exact_mod_cast Iff.rfl)
    rw [e]
    exact q
theorem slice_both {z : Str} {n j : Nat} (h : n + j ≤ z.length) : ls (Txt.slice z (some ((n : Nat) : Int)) (some (((n + j : Nat)) : Int))) = ((ls z).drop n).take j := by
  have e := beq_iff_eq.mp (slice_closes (x := z) (i := ((n : Nat) : Int)) (j := (((n + j : Nat)) : Int)) ⟨by omega, by omega, by rw [show z.cps.toList.length = z.length from ls_len z]; omega⟩)
  rw [e]
  show ((ls z).drop ((n : Nat) : Int).toNat).take ((((n + j : Nat)) : Int) - ((n : Nat) : Int)).toNat = _
  rw [Int.toNat_natCast, show ((((n + j : Nat)) : Int) - ((n : Nat) : Int)).toNat = j by omega]

noncomputable def sp_law_limit (K : PySem.W.Frag) : Sp := fun vs H Q _ => ∃ d : Addr, vs = [.ref d] ∧ Dr H d ∧ ∀ (t : Addr) (T B : Nat) (ab : Bool) (H' : Hp), Off d H H' → Dr H' d → t ≠ d → Lim K H' t T B ab → Q (.ref t) H'
noncomputable def b_law_limit (K : PySem.W.Frag) : List (SX K) :=
  [set 1 (lst [tup [cst (.int 2), cst (.int 1), cst (.bl false)], tup [cst (.int 2), cst (.int 1), cst (.bl true)], tup [cst (.int 3), cst (.int 1), cst (.bl false)], tup [cst (.int 7), cst (.int 4), cst (.bl true)], tup [cst (.int 3), cst (.int 2), cst (.bl true)], tup [cst (.int 5), cst (.int 2), cst (.bl false)], tup [cst (.int 3), cst (.int 1), cst (.bl true)]]),
    ifS (cmp .Gt (bin .Mod (call "_law_next" (sp_law_next K) [var 0]) (cst (.int 3))) (cst (.int 0))) [ret (ix (var 1) (bin .Mod (call "_law_next" (sp_law_next K) [var 0]) (cst (.int 7))))] [],
    set 2 (bin .Add (cst (.int 1)) (bin .Mod (call "_law_next" (sp_law_next K) [var 0]) (cst (.int 7)))),
    ret (tup [bin .Add (bin .Add (var 2) (cst (.int 1))) (bin .Mod (call "_law_next" (sp_law_next K) [var 0]) (bin .Mult (cst (.int 3)) (var 2))), var 2, cmp .Eq (bin .Mod (call "_law_next" (sp_law_next K) [var 0]) (cst (.int 2))) (cst (.int 1))])]
theorem l_law_limit : ∀ vs H Q E, sp_law_limit K vs H Q E → vs.length = 1 := by
  rintro vs H Q E ⟨_, rfl, _⟩
  rfl
theorem t_law_limit (vs : List V) (H : Hp) (Q : VK) (E : XK) (h : sp_law_limit K vs H Q E) : tSs (b_law_limit K) (fun _ => E) { nx := fun _ H' => Q .non H', rt := Q } (start ["_law_drawn", "_law_some", "_law_bottom"] vs) H := by
  obtain ⟨d, rfl, hd, q⟩ := h
  unfold b_law_limit
  walk_at "go"
  refine ⟨by show 3 ≤ sizeLine; decide, fun t1 n1 => ?_⟩
  have s1 := same_new n1 (.tup [V.int 2, .int 1, .bl false])
  walk_at "go"
  refine ⟨by show 3 ≤ sizeLine; decide, fun t2 n2 => ?_⟩
  have s2 := same_new n2 (.tup [V.int 2, .int 1, .bl true])
  walk_at "go"
  refine ⟨by show 3 ≤ sizeLine; decide, fun t3 n3 => ?_⟩
  have s3 := same_new n3 (.tup [V.int 3, .int 1, .bl false])
  walk_at "go"
  refine ⟨by show 3 ≤ sizeLine; decide, fun t4 n4 => ?_⟩
  have s4 := same_new n4 (.tup [V.int 7, .int 4, .bl true])
  walk_at "go"
  refine ⟨by show 3 ≤ sizeLine; decide, fun t5 n5 => ?_⟩
  have s5 := same_new n5 (.tup [V.int 3, .int 2, .bl true])
  walk_at "go"
  refine ⟨by show 3 ≤ sizeLine; decide, fun t6 n6 => ?_⟩
  have s6 := same_new n6 (.tup [V.int 5, .int 2, .bl false])
  walk_at "go"
  refine ⟨by show 3 ≤ sizeLine; decide, fun t7 n7 => ?_⟩
  have s7 := same_new n7 (.tup [V.int 3, .int 1, .bl true])
  walk_at "go"
  refine ⟨by show 7 ≤ sizeLine; decide, fun p np => ?_⟩
  have s8 := same_new np (.lst [V.ref t1, .ref t2, .ref t3, .ref t4, .ref t5, .ref t6, .ref t7])
  have r7 := s7.trans s8
  have r6 := s6.trans r7
  have r5 := s5.trans r6
  have r4 := s4.trans r5
  have r3 := s3.trans r4
  have r2 := s2.trans r3
  have r1 := s1.trans r2
  have hd8 := hd.same r1
  obtain ⟨od, hod⟩ := Dr.some hd
  have m1 : t1 ≠ d := (ne_of_none hod n1).symm
  have m2 : t2 ≠ d := (ne_of_none (s1 _ _ hod) n2).symm
  have m3 : t3 ≠ d := (ne_of_none (s2 _ _ (s1 _ _ hod)) n3).symm
  have m4 : t4 ≠ d := (ne_of_none (s3 _ _ (s2 _ _ (s1 _ _ hod))) n4).symm
  have m5 : t5 ≠ d := (ne_of_none (s4 _ _ (s3 _ _ (s2 _ _ (s1 _ _ hod)))) n5).symm
  have m6 : t6 ≠ d := (ne_of_none (s5 _ _ (s4 _ _ (s3 _ _ (s2 _ _ (s1 _ _ hod))))) n6).symm
  have m7 : t7 ≠ d := (ne_of_none (s6 _ _ (s5 _ _ (s4 _ _ (s3 _ _ (s2 _ _ (s1 _ _ hod)))))) n7).symm
  have mp : p ≠ d := (ne_of_none (s7 _ _ (s6 _ _ (s5 _ _ (s4 _ _ (s3 _ _ (s2 _ _ (s1 _ _ hod))))))) np).symm
  walk_at "go"
  refine ⟨d, rfl, hd8, fun v1 H9 hO9 hD9 v10 v11 => ?_⟩
  walk_at "go"
  refine br_d (fun _ => ?_) fun _ => ?_
  · walk_at "go"
    refine ⟨d, rfl, hD9, fun v H10 hO10 hD10 v20 v21 => ?_⟩
    walk_at "go"
    have hO := Off.trans' hO9 hO10
    have hOa := Off.trans' (Same.off (p := d) r1) hO
    have : v % 7 = 0 ∨ v % 7 = 1 ∨ v % 7 = 2 ∨ v % 7 = 3 ∨ v % 7 = 4 ∨ v % 7 = 5 ∨ v % 7 = 6 := by omega
    rcases this with e | e | e | e | e | e | e
    · refine i_ixL (v := .ref t1) (SqL.of (hO _ _ mp upd_same)) (by rw [e]; rfl) ?_
      exact q t1 2 1 false _ hOa hD10 m1 ⟨SqT.of (hO _ _ m1 (r2 _ _ upd_same)), by decide, by decide, by decide⟩
    · refine i_ixL (v := .ref t2) (SqL.of (hO _ _ mp upd_same)) (by rw [e]; rfl) ?_
      exact q t2 2 1 true _ hOa hD10 m2 ⟨SqT.of (hO _ _ m2 (r3 _ _ upd_same)), by decide, by decide, by decide⟩
    · refine i_ixL (v := .ref t3) (SqL.of (hO _ _ mp upd_same)) (by rw [e]; rfl) ?_
      exact q t3 3 1 false _ hOa hD10 m3 ⟨SqT.of (hO _ _ m3 (r4 _ _ upd_same)), by decide, by decide, by decide⟩
    · refine i_ixL (v := .ref t4) (SqL.of (hO _ _ mp upd_same)) (by rw [e]; rfl) ?_
      exact q t4 7 4 true _ hOa hD10 m4 ⟨SqT.of (hO _ _ m4 (r5 _ _ upd_same)), by decide, by decide, by decide⟩
    · refine i_ixL (v := .ref t5) (SqL.of (hO _ _ mp upd_same)) (by rw [e]; rfl) ?_
      exact q t5 3 2 true _ hOa hD10 m5 ⟨SqT.of (hO _ _ m5 (r6 _ _ upd_same)), by decide, by decide, by decide⟩
    · refine i_ixL (v := .ref t6) (SqL.of (hO _ _ mp upd_same)) (by rw [e]; rfl) ?_
      exact q t6 5 2 false _ hOa hD10 m6 ⟨SqT.of (hO _ _ m6 (r7 _ _ upd_same)), by decide, by decide, by decide⟩
    · refine i_ixL (v := .ref t7) (SqL.of (hO _ _ mp upd_same)) (by rw [e]; rfl) ?_
      exact q t7 3 1 true _ hOa hD10 m7 ⟨SqT.of (hO _ _ m7 (s8 _ _ upd_same)), by decide, by decide, by decide⟩
  · walk_at "go"
    refine ⟨d, rfl, hD9, fun v2 H10 hO10 hD10 v20 v21 => ?_⟩
    walk_at "go"
    refine ⟨d, rfl, hD10, fun v3 H11 hO11 hD11 v30 v31 => ?_⟩
    walk_at "go"
    refine ⟨d, rfl, hD11, fun v4 H12 hO12 hD12 v40 v41 => ?_⟩
    walk_at "go"
    refine ⟨by show 3 ≤ sizeLine; decide, fun t nt => ?_⟩
    have hOa := Off.trans' (Off.trans' (Off.trans' (Off.trans' (Same.off (p := d) r1) hO9) hO10) hO11) hO12
    have m1 := Int.emod_nonneg v3 (show (3 * (1 + v2 % 7) : Int) ≠ 0 by omega)
    have m2 := Int.emod_lt_of_pos v3 (show (0 : Int) < 3 * (1 + v2 % 7) by omega)
    obtain ⟨o12, ho12⟩ := Dr.some hD12
    refine q t (1 + v2 % 7 + 1 + v3 % (3 * (1 + v2 % 7))).toNat (1 + v2 % 7).toNat (decide (v4 % 2 = 1)) _ (Off.trans' hOa (Same.off (same_new nt _))) (hD12.same (same_new nt _)) (ne_of_none ho12 nt).symm ⟨SqT.of (upd_same.trans (tupL ?_ ?_ rfl)), by omega, by omega, by omega⟩
    · omega
    · omega
theorem j_in1 {H : Hp} {QB : Bool → Hp → Prop} {k : Nat} {y : Str} (h : QB (decide (k ∈ ls y)) H) : rB (rCmp K .In) (sgn k) (.str y) H QB := by
  show QB (!(Builtin.Str.occurrences y ⟨#[k]⟩ 0 y.length 1).isEmpty) H
  rw [PySem.StrLaws.found_one]
  exact h
theorem i_lenD {H : Hp} {Q : VK} {p : Addr} {kvs : List (Key × V)} (c : H p = some (.dK kvs)) (h : Q (.int kvs.length) H) : rLen K [.ref p] H Q := .inr ⟨kvs, c, h⟩
theorem sg_inj {a b : Nat} (h : (⟨#[a]⟩ : Str) = ⟨#[b]⟩) : a = b := by
  have := congrArg (fun z : Str => z.cps.toList) h
  simpa using this

noncomputable def sp_law_is_word (K : PySem.W.Frag) : Sp := fun vs H Q _ => ∃ (z : Str) (m : Nat), vs = [.str z, .int (m : Nat)] ∧ 1 ≤ m ∧ m ≤ 4 ∧ z.length ≤ 1000 ∧ IsW m z ∧ ∀ H', Same H H' → Q (.bl true) H'
noncomputable def b_law_is_word (K : PySem.W.Frag) : List (SX K) :=
  [ifS (notE (isi (var 0) tyStr)) [ret (cst (.bl false))] [],
    ret (cmp .Eq (len (compI (var 0) (cmp .In (var 0) (slc (cst (.str "abcd")) none (some (var 1)))) (nam 0) (iSeq (var 0)) ["_law_sign"] ["_law_many"] [1])) (len (var 0)))]
theorem l_law_is_word : ∀ vs H Q E, sp_law_is_word K vs H Q E → vs.length = 2 := by
  rintro vs H Q E ⟨_, _, rfl, _⟩
  rfl
theorem t_law_is_word (vs : List V) (H : Hp) (Q : VK) (E : XK) (h : sp_law_is_word K vs H Q E) : tSs (b_law_is_word K) (fun _ => E) { nx := fun _ H' => Q .non H', rt := Q } (start ["_law_word_here", "_law_many"] vs) H := by
  obtain ⟨z, m, rfl, h1, h4, hz, hW, q⟩ := h
  have k0 : (0 : Int) ≤ (m : Nat) := by omega
  have k4 : ((m : Nat) : Int) ≤ 4 := by omega
  have hin : ∀ c ∈ ls z, decide (c ∈ ls (known (m : Nat))) = true := fun c hc => decide_eq_true (by
    rw [ls_known k0 k4, Int.toNat_natCast]
    have := hW c hc
    exact List.mem_map.mpr ⟨c - 97, List.mem_range.mpr (by omega), by omega⟩)
  unfold b_law_is_word
  walk_at "go"
  refine ⟨_, _, TyOf.str z, kStr, ?_⟩
  walk_at "go"
  refine brF ?_
  walk_at "go"
  intro D nD
  refine compI_str (z := z) (fun c => decide (c ∈ ls (known (m : Nat)))) (fun c => sgn c) nD (small (by omega)) (fun j c H2 QB hc hS2 fin => ?_) (fun j c H2 Q' hc _ hS2 fin => ?_) fun H2 hS2 hO => ?_
  · walk_at "go"
    refine i_slS (by rw [abcd_len]; decide) ?_
    refine j_in1 ?_
    exact fin H2 (Same.refl _)
  · walk_at "go"
    exact fin H2 (Same.refl _)
  have hO2 : H2 D = some (.lst ((ls z).map sgn)) := by
    rw [hO, show z.cps.toList = ls z from rfl, List.filter_eq_self.mpr hin]
  walk_at "go"
  refine i_lenL (SqL.of hO2) ?_
  walk_at "go"
  refine i_lenS (small (by omega)) ?_
  rw [List.length_map, ls_len]
  walk_at "go"
  rw [decide_eq_true rfl]
  exact q H2 hS2

noncomputable def sp_law_fails (K : PySem.W.Frag) : Sp := fun vs H Q _ => ∃ (a r t : Addr) (w : List Nat) (p m T B : Nat) (ab : Bool) (L : Nat), vs = [.ref a, .int (m : Nat), .ref t, .int (L : Nat)] ∧ H a = some (.tup [sV w, .ref r]) ∧ H r = some (.tup [.int ((w.length - 1 + 1 - ll T B ab p : Nat) : Int), .int ((ll T B ab p : Nat) : Int), .int ((p : Nat) : Int)]) ∧
  Lim K H t T B ab ∧ 1 ≤ m ∧ m ≤ 4 ∧ Lt m w ∧ w.length ≤ L ∧ L ≤ 60 ∧ ep T B ab w = some p ∧ ∀ H', Same H H' → Q (.bl true) H'
noncomputable def b_law_fails (K : PySem.W.Frag) : List (SX K) :=
  [ifS (orE (notE (isi (var 0) tyTuple)) [cmp .NotEq (len (var 0)) (cst (.int 2))]) [ret (cst (.bl false))] [],
    ifS (orE (notE (call "_law_is_word" (sp_law_is_word K) [ix (var 0) (cst (.int 0)), var 1])) [cmp .Gt (len (ix (var 0) (cst (.int 0)))) (var 3)]) [ret (cst (.bl false))] [],
    ifS (orE (notE (isi (ix (var 0) (cst (.int 1))) tyTuple)) [cmp .NotEq (len (ix (var 0) (cst (.int 1)))) (cst (.int 3))]) [ret (cst (.bl false))] [],
    ifS (cmp .NotEq (len (compI (var 0) (call "_law_whole" (sp_law_whole K) [var 0]) (nam 0) (iSeq (ix (var 0) (cst (.int 1)))) ["_law_one"] [] [])) (cst (.int 3))) [ret (cst (.bl false))] [],
    set 4 (ix (var 0) (cst (.int 0))),
    setT (unp [5, 6, 7]) (ix (var 0) (cst (.int 1))),
    ifS (orE (cmp .Lt (var 5) (cst (.int 0))) [cmp .Lt (var 7) (cst (.int 1)), cmp .GtE (var 7) (var 6), cmp .NotEq (bin .Add (var 5) (var 6)) (len (var 4))]) [ret (cst (.bl false))] [],
    set 8 (bin .Sub (len (var 4)) (var 7)),
    ret (andE (call "_law_breaks" (sp_law_breaks K) [var 2, var 6, var 7]) [cmp .Eq (slc (var 4) (some (bin .Add (var 5) (var 7))) none) (slc (var 4) (some (var 5)) (some (var 8)))])]
theorem l_law_fails : ∀ vs H Q E, sp_law_fails K vs H Q E → vs.length = 4 := by
  rintro vs H Q E ⟨_, _, _, _, _, _, _, _, _, _, rfl, _⟩
  rfl
theorem t_law_fails (vs : List V) (H : Hp) (Q : VK) (E : XK) (h : sp_law_fails K vs H Q E) : tSs (b_law_fails K) (fun _ => E) { nx := fun _ H' => Q .non H', rt := Q } (start ["_law_case", "_law_many", "_law_limit_here", "_law_length", "_law_word_here", "_law_place", "_law_size", "_law_period", "_law_last"] vs) H := by
  obtain ⟨a, r, t, w, p, m, T, B, ab, L, rfl, ha, hr, hL, h1, h4, hw, hwl, hL60, hep, q⟩ := h
  have hE := ep_epc T B ab w
  rw [hep] at hE
  obtain ⟨e1, e2, e3, _⟩ := hE
  have hgt := ll_gt (ab := ab) (p := p) hL.pos hL.lt e1
  have hale := al_le w p (w.length - 1 + 1 - p)
  unfold Hit at e3
  obtain ⟨n, hn⟩ : ∃ n, n = w.length := ⟨_, rfl⟩
  obtain ⟨S, hS⟩ : ∃ S, S = ll T B ab p := ⟨_, rfl⟩
  have hmk : (mkS w).length = n := by rw [mk_len, hn]
  rw [← hS] at hgt e3 hr
  obtain ⟨b, hb⟩ : ∃ b, n = b + S := ⟨n - S, by omega⟩
  obtain ⟨k, hk⟩ : ∃ k, S = p + k := ⟨S - p, by omega⟩
  rw [show w.length - 1 + 1 - S = b by omega] at hr
  have hal : k ≤ al w p (b + k) := by
    rw [show w.length - 1 + 1 - p = b + k by omega] at e3
    omega
  have key := (al_eq w b p k (by omega)).mpr hal
  have hsl : Txt.slice (mkS w) (some ((b + p : Nat) : Int)) none = Txt.slice (mkS w) (some ((b : Nat) : Int)) (some ((b + k : Nat) : Int)) := by
    refine ls_inj ?_
    rw [sl_from (by omega), slice_both (by omega), ls_mk]
    exact key
  have sa := SqT.of (K := K) ha
  unfold b_law_fails
  walk_at "go"
  refine ⟨_, _, TyOf.tup ha, kTupT, ?_⟩
  walk_at "go"
  refine brF ?_
  walk_at "go"
  refine br_n (fun c => absurd rfl c) fun _ => ?_
  walk_at "go"
  refine i_ixT (v := sV w) sa rfl ?_
  walk_at "go"
  refine ⟨mkS w, m, rfl, h1, h4, by omega, fun c hc => hw c (by rw [ls_mk] at hc; exact hc), fun H1 hS1 => ?_⟩
  have sa1 := SqT.of (K := K) (hS1 _ _ ha)
  have hr1 := hS1 _ _ hr
  walk_at "go"
  refine brF ?_
  walk_at "go"
  refine i_ixT (v := sV w) sa1 rfl ?_
  walk_at "go"
  refine i_lenS (small (by omega)) ?_
  walk_at "go"
  refine br_d (fun c => absurd c (by omega)) fun _ => ?_
  walk_at "go"
  refine i_ixT (v := .ref r) sa1 rfl ?_
  walk_at "go"
  refine ⟨_, _, TyOf.tup hr1, kTupT, ?_⟩
  walk_at "go"
  refine brF ?_
  walk_at "go"
  refine i_ixT (v := .ref r) sa1 rfl ?_
  walk_at "go"
  refine i_lenT (SqT.of hr1) ?_
  walk_at "go"
  refine br_n (fun c => absurd rfl c) fun _ => ?_
  walk_at "go"
  refine i_ixT (v := .ref r) sa1 rfl ?_
  refine i_itT (SqT.of hr1) ?_
  intro D nD
  refine compI_items (yl_tup (xs := [V.int ((b : Nat) : Int), .int ((S : Nat) : Int), .int ((p : Nat) : Int)])) (fun _ => true) (fun x => x) nD (sqT_same (SqT.of hr1)) (by show 3 ≤ sizeLine; decide) (fun j x H2 QB hx hS2 fin => ?_) (fun j x H2 Q' hx _ hS2 fin => ?_) fun H2 hS2 hO => ?_
  · obtain ⟨i, rfl⟩ : ∃ i : Int, x = .int i := by
      have hm := List.mem_of_getElem? hx
      simp only [List.mem_cons, List.not_mem_nil, or_false] at hm
      rcases hm with rfl | rfl | rfl <;> exact ⟨_, rfl⟩
    walk_at "go"
    refine ⟨i, rfl, ?_⟩
    walk_at "go"
    exact fin H2 (Same.refl _)
  · walk_at "go"
    exact fin H2 (Same.refl _)
  have s2 := hS1.trans hS2
  have sa2 := SqT.of (K := K) (s2 _ _ ha)
  have sr2 := SqT.of (K := K) (s2 _ _ hr)
  walk_at "go"
  refine i_lenL (SqL.of hO) ?_
  walk_at "go"
  refine br_n (fun c => absurd rfl c) fun _ => ?_
  walk_at "go"
  refine i_ixT (v := sV w) sa2 rfl ?_
  walk_at "go"
  refine i_setT ?_
  walk_at "go"
  refine i_ixT (v := .ref r) sa2 rfl ?_
  refine i_unp3 sr2 ?_
  walk_at "go"
  refine br_d (fun c => absurd c (by omega)) fun _ => ?_
  walk_at "go"
  refine br_d (fun c => absurd c (by omega)) fun _ => ?_
  walk_at "go"
  refine br_d (fun c => absurd c (by omega)) fun _ => ?_
  walk_at "go"
  refine i_lenS (small (by omega)) ?_
  walk_at "go"
  refine br_n (fun c => absurd (by rw [hmk]; omega) c) fun _ => ?_
  walk_at "go"
  refine i_lenS (small (by omega)) ?_
  walk_at "go"
  refine ⟨t, T, B, ab, S, p, rfl, hL.same s2, by omega, by omega, ?_⟩
  rw [hmk, ← hS, decide_eq_true (Nat.le_refl S)]
  refine brT ?_
  walk_at "go"
  rw [show ((b : Nat) : Int) + ((p : Nat) : Int) = ((b + p : Nat) : Int) by omega, show ((n : Nat) : Int) - ((p : Nat) : Int) = ((b + k : Nat) : Int) by omega]
  refine i_slS (small (by omega)) ?_
  walk_at "go"
  refine i_slS (small (by omega)) ?_
  walk_at "go"
  rw [decide_eq_true hsl]
  exact q H2 s2

noncomputable def kvs (cs : List (List Nat × Nat)) : List (Key × V) := cs.map fun x => (Sum.inr (mkS x.1), V.bl true)
theorem kvs_some (w : List Nat) : ∀ cs : List (List Nat × Nat), (valV (kvs cs) (.inr (mkS w))).isSome = decide (w ∈ cs.map (·.1))
  | [] => rfl
  | x :: cs => by
    by_cases e : x.1 = w
    · rw [kvs, List.map_cons, valV_pos (by rw [e]), List.map_cons, e, decide_eq_true List.mem_cons_self]
      rfl
    · have hne : ¬ ((Sum.inr (mkS x.1) : Key), V.bl true).1 = .inr (mkS w) := fun z => e (by
        have h1 : mkS x.1 = mkS w := Sum.inr.inj z
        have h2 := congrArg ls h1
        rwa [ls_mk, ls_mk] at h2)
      rw [kvs, List.map_cons, valV_neg hne]
      show (valV (kvs cs) (.inr (mkS w))).isSome = _
      rw [kvs_some w cs]
      refine decide_eq_decide.mpr ?_
      rw [List.map_cons, List.mem_cons]
      exact ⟨fun h => .inr h, fun h => h.resolve_left fun z => e z.symm⟩
theorem kvs_len (cs : List (List Nat × Nat)) : (kvs cs).length = cs.length := List.length_map _
noncomputable def sp_law_begun (K : PySem.W.Frag) : Sp := fun vs H Q _ => ∃ (z : Str) (d : Addr) (cs : List (List Nat × Nat)), vs = [.str z, .ref d] ∧ Rd H d (.dK (kvs cs)) ∧ z.length ≤ 1000 ∧ ∀ H', Same H H' → Q (.int ((bgn (cs.map (·.1)) (ls z) : Nat) : Int)) H'
noncomputable def b_law_begun (K : PySem.W.Frag) : List (SX K) :=
  [ret (len (compI (var 0) (inD (slc (var 2) none (some (var 0))) (var 1)) (nam 0) (iRng (bin .Add (len (var 0)) (cst (.int 1))) []) ["_law_k"] ["_law_cases", "_law_word_here"] [1, 0]))]
theorem l_law_begun : ∀ vs H Q E, sp_law_begun K vs H Q E → vs.length = 2 := by
  rintro vs H Q E ⟨_, _, _, rfl, _⟩
  rfl
theorem Rd.same {H H' : Hp} {d : Addr} {u : HO} (h : Rd H d u) (e : Same H H') : Rd H' d u := by
  rcases h with h | ⟨o, h⟩
  · exact .inl (e _ _ h)
  · exact .inr ⟨o, e _ _ h⟩
theorem t_law_begun (vs : List V) (H : Hp) (Q : VK) (E : XK) (h : sp_law_begun K vs H Q E) : tSs (b_law_begun K) (fun _ => E) { nx := fun _ H' => Q .non H', rt := Q } (start ["_law_word_here", "_law_cases"] vs) H := by
  obtain ⟨z, d, cs, rfl, hd, hz, q⟩ := h
  unfold b_law_begun
  walk_at "go"
  refine i_lenS (small (by omega)) ?_
  walk_at "go"
  intro D nD
  refine compI_rng (fun k => decide ((ls z).take k ∈ cs.map (·.1))) (fun k => .int ((0 : Int) + (k : Nat))) nD (small (by omega)) (fun k H2 QB hk hS2 fin => ?_) (fun k H2 Q' hk _ hS2 fin => ?_) fun H2 hS2 hO => ?_
  · have e0 : (0 : Int) + (k : Nat) = ((k : Nat) : Int) := by omega
    rw [e0]
    refine j_inD ?_
    walk_at "go"
    refine i_slS (small (by omega)) ?_
    walk_at "go"
    have ez : Txt.slice z none (some ((k : Nat) : Int)) = mkS ((ls z).take k) := ls_inj (by rw [sl_to, ls_mk])
    rw [ez]
    refine ⟨d, _, rfl, .inl ⟨kvs cs, .inr (mkS ((ls z).take k)), Rd.same hd hS2, rfl, rfl⟩, _, rfl, ?_⟩
    rw [kvs_some]
    exact fin H2 (Same.refl _)
  · walk_at "go"
    exact fin H2 (Same.refl _)
  walk_at "go"
  refine i_lenL (SqL.of hO) ?_
  rw [List.length_map]
  have e1 : (((z.length : Nat) : Int) + 1).toNat = (ls z).length + 1 := by rw [ls_len]; omega
  rw [e1]
  exact q H2 hS2

noncomputable def sp_law_is_free (K : PySem.W.Frag) : Sp := fun vs H Q _ => ∃ (z : Str) (t : Addr) (T B : Nat) (ab : Bool), vs = [.str z, .ref t] ∧ Lim K H t T B ab ∧ z.length ≤ 300 ∧ (∀ e p, e < z.length → 1 ≤ p → p ≤ e → ¬ Hit (ls z) T B ab e p) ∧ Q (.bl true) H
noncomputable def b_law_is_free (K : PySem.W.Frag) : List (SX K) :=
  [forS (nam 2) (iRng (cst (.int 1)) [len (var 0)]) [set 3 (cst (.int 0)),
      forS (nam 4) (iRng (var 2) [len (var 0)]) [set 3 (bin .Add (var 3) (cst (.int 1))),
        ifS (cmp .NotEq (ix (var 0) (var 4)) (ix (var 0) (bin .Sub (var 4) (var 2)))) [set 3 (cst (.int 0))] [],
        ifS (andE (cmp .Gt (var 3) (cst (.int 0))) [call "_law_breaks" (sp_law_breaks K) [var 1, bin .Add (var 3) (var 2), var 2]]) [ret (cst (.bl false))] []]],
    ret (cst (.bl true))]
theorem l_law_is_free : ∀ vs H Q E, sp_law_is_free K vs H Q E → vs.length = 2 := by
  rintro vs H Q E ⟨_, _, _, _, _, rfl, _⟩
  rfl
theorem t_law_is_free (vs : List V) (H : Hp) (Q : VK) (E : XK) (h : sp_law_is_free K vs H Q E) : tSs (b_law_is_free K) (fun _ => E) { nx := fun _ H' => Q .non H', rt := Q } (start ["_law_word_here", "_law_limit_here", "_law_period", "_law_alike", "_law_end"] vs) H := by
  obtain ⟨z, t, T, B, ab, rfl, hL, hz, hno, q⟩ := h
  have hll : (ls z).length = z.length := ls_len z
  unfold b_law_is_free
  walk_at "go"
  refine i_lenS (small (by omega)) ?_
  walk_at "go"
  refine loop_rng (fun i σ H' => H' = H ∧ ∃ a2 a3 a4, σ = [some (.str z), some (.ref t), a2, a3, a4]) ⟨rfl, none, none, none, rfl⟩ (fun i σ H' hi hP => ?_) fun σ H' hP => ?_
  · obtain ⟨rfl, a2, a3, a4, rfl⟩ := hP
    have hi' : i + 1 < z.length := by omega
    have e1 : (1 : Int) + (i : Nat) = ((i + 1 : Nat) : Int) := by omega
    rw [e1]
    walk_at "go"
    refine i_lenS (small (by omega)) ?_
    walk_at "go"
    refine loop_rng (fun j σ H2 => H2 = H' ∧ ∃ a4, σ = [some (.str z), some (.ref t), some (.int ((i + 1 : Nat) : Int)), some (.int ((al (ls z) (i + 1) j : Nat) : Int)), a4])
      ⟨rfl, _, rfl⟩ (fun j σ H2 hj hP2 => ?_) fun σ H2 hP2 => ?_
    · obtain ⟨rfl, b4, rfl⟩ := hP2
      have hj' : j < z.length - (i + 1) := by omega
      have e3 : ((i + 1 : Nat) : Int) + (j : Nat) = ((j + (i + 1) : Nat) : Int) := by omega
      have e4 : ((j + (i + 1) : Nat) : Int) - ((i + 1 : Nat) : Int) = ((j : Nat) : Int) := by omega
      obtain ⟨c, hc⟩ : ∃ c, (ls z)[j + (i + 1)]? = some c := ⟨_, List.getElem?_eq_getElem (by omega)⟩
      obtain ⟨d, hd⟩ : ∃ d, (ls z)[j]? = some d := ⟨_, List.getElem?_eq_getElem (by omega)⟩
      have hnh := hno (j + (i + 1)) (i + 1) (by omega) (by omega) (by omega)
      unfold Hit at hnh
      rw [show j + (i + 1) + 1 - (i + 1) = j + 1 by omega] at hnh
      have hale := al_le (ls z) (i + 1) j
      rw [e3]
      walk_at "go"
      refine i_ixS (small (by omega)) (atI_nat hc) ?_
      walk_at "go"
      rw [e4]
      refine i_ixS (small (by omega)) (atI_nat hd) ?_
      refine j_neS ?_
      refine br_n (fun hcd => ?_) fun hcd => ?_
      · have ha := al_no hd hc (fun e => hcd (by rw [e]))
        walk_at "go"
        refine br_d (fun c2 => absurd c2 (by omega)) fun c2 => ?_
        refine brF ?_
        walk_at "go"
        exact ⟨rfl, _, by rw [ha]; rfl⟩
      · obtain rfl := sg_inj hcd
        have ha := al_yes hd hc
        rw [ha] at hnh
        walk_at "go"
        refine br_d (fun c2 => ?_) fun c2 => absurd (by omega) c2
        walk_at "go"
        rw [show ((al (ls z) (i + 1) j : Nat) : Int) + 1 + ((i + 1 : Nat) : Int) = ((al (ls z) (i + 1) j + 1 + (i + 1) : Nat) : Int) by omega]
        refine ⟨t, T, B, ab, _, i + 1, rfl, hL, by omega, by omega, ?_⟩
        rw [decide_eq_false (by omega)]
        refine brF ?_
        walk_at "go"
        exact ⟨rfl, _, by rw [ha]; rfl⟩
    · obtain ⟨rfl, b4, rfl⟩ := hP2
      walk_at "go"
      exact ⟨rfl, _, _, _, rfl⟩
  · obtain ⟨rfl, a2, a3, a4, rfl⟩ := hP
    walk_at "go"
    exact q

noncomputable def sp_law_asked (K : PySem.W.Frag) : Sp := fun vs H Q _ => ∃ (m : Nat) (t : Addr) (T B : Nat) (ab : Bool) (L : Nat), vs = [.int (m : Nat), .ref t, .int (L : Nat)] ∧ KF K ∧ Lim K H t T B ab ∧ 1 ≤ m ∧ m ≤ 4 ∧ L ≤ 100 ∧ PtTold T B ab H Q (∀ H', Same H H' → Q .non H') (dfs m T B ab L 2000 [[]] [])
noncomputable def b_law_asked (K : PySem.W.Frag) : List (SX K) :=
  [set 3 (cst .non),
    tryN [set 3 (call "parted" (sp_parted K) [var 0, var 1, var 2])] "TooGreat" 3,
    ret (var 3)]
theorem l_law_asked : ∀ vs H Q E, sp_law_asked K vs H Q E → vs.length = 3 := by
  rintro vs H Q E ⟨_, _, _, _, _, _, rfl, _⟩
  rfl
theorem t_law_asked (vs : List V) (H : Hp) (Q : VK) (E : XK) (h : sp_law_asked K vs H Q E) : tSs (b_law_asked K) (fun _ => E) { nx := fun _ H' => Q .non H', rt := Q } (start ["_law_many", "_law_limit_here", "_law_length", "_law_kept"] vs) H := by
  obtain ⟨m, t, T, B, ab, L, rfl, kf, hL, h1, h4, hLe, q⟩ := h
  unfold b_law_asked
  walk_at "go"
  refine i_tryN ?_
  walk_at "go"
  refine ⟨m, t, T, B, ab, L, rfl, hL, h1, h4, hLe, ?_⟩
  cases hX : dfs m T B ab L 2000 [[]] [] with
  | word w cs =>
    rw [hX] at q
    intro f c rs H1 hS1 nf nc hf hc hcs
    walk_at "go"
    exact q f c rs H1 hS1 nf nc hf hc hcs
  | none cs =>
    rw [hX] at q
    intro f c rs H1 hS1 nf nc hf hc hcs
    walk_at "go"
    exact q f c rs H1 hS1 nf nc hf hc hcs
  | great =>
    rw [hX] at q
    intro dx H1 hS1 hdx
    refine ⟨kf.exm, fun e he => ?_⟩
    walk_at "go"
    exact q _ (hS1.trans (same_new he _))

noncomputable def sp_law (K : PySem.W.Frag) : Sp := fun vs H Q _ => ∃ (a : Addr) (ns : List Int), vs = [.ref a] ∧ KF K ∧ SqL K H a (ns.map V.int) ∧ ns.length ≤ 63 ∧ ∀ H', Q (.bl true) H'
noncomputable def b_tail (K : PySem.W.Frag) : List (SX K) :=
  [ifS (cmp .Eq (ix (var 6) (cst (.int 0))) (cst (.str "none"))) [ret (andE (cmp .Eq (len (var 6)) (cst (.int 2))) [cmp .Eq (call "_law_begun" (sp_law_begun K) [var 5, var 7]) (cst (.int 1))])] [],
    ifS (orE (cmp .NotEq (ix (var 6) (cst (.int 0))) (cst (.str "word"))) [cmp .NotEq (len (var 6)) (cst (.int 3))]) [ret (cst (.bl false))] [],
    ifS (orE (notE (call "_law_is_word" (sp_law_is_word K) [ix (var 6) (cst (.int 1)), var 2])) [cmp .NotEq (len (ix (var 6) (cst (.int 1)))) (var 4)]) [ret (cst (.bl false))] [],
    ifS (orE (cmp .Gt (call "_law_begun" (sp_law_begun K) [ix (var 6) (cst (.int 1)), var 7]) (cst (.int 0))) [notE (call "_law_is_free" (sp_law_is_free K) [ix (var 6) (cst (.int 1)), var 3])]) [ret (cst (.bl false))] [],
    ret (orE (geS (var 5) (ix (var 6) (cst (.int 1)))) [cmp .Eq (call "_law_begun" (sp_law_begun K) [var 5, var 7]) (cst (.int 1))])]
noncomputable def b_rest (K : PySem.W.Frag) : List (SX K) :=
  ifS (orE (notE (isi (var 6) tyTuple)) [cmp .Lt (len (var 6)) (cst (.int 2)), notE (isi (ix (var 6) (neg (cst (.int 1)))) tyList)]) [ret (cst (.bl false))] [] ::
    set 7 dct0 ::
    forS (nam 8) (iSeq (ix (var 6) (neg (cst (.int 1))))) [ifS (notE (call "_law_fails" (sp_law_fails K) [var 8, var 2, var 3, var 4])) [ret (cst (.bl false))] [],
      put (var 7) (ix (var 8) (cst (.int 0))) (cst (.bl true))] ::
    ifS (orE (cmp .NotEq (len (var 7)) (len (ix (var 6) (neg (cst (.int 1)))))) [cmp .NotEq (compI (var 0) (cmp .NotEq (call "_law_begun" (sp_law_begun K) [var 0, var 1]) (cst (.int 1))) (nam 0) (iDct (var 7)) ["_law_one"] ["_law_cases"] [7]) (lst [])]) [ret (cst (.bl false))] [] :: b_tail K
noncomputable def b_law (K : PySem.W.Frag) : List (SX K) :=
  set 1 (call "_law_draws" (sp_law_draws K) [var 0]) ::
    set 2 (bin .Add (cst (.int 1)) (bin .Mod (call "_law_next" (sp_law_next K) [var 1]) (cst (.int 4)))) ::
    set 3 (call "_law_limit" (sp_law_limit K) [var 1]) ::
    set 4 (bin .Add (cst (.int 1)) (bin .Mod (call "_law_next" (sp_law_next K) [var 1]) (ix (lst [cst (.int 12), cst (.int 12), cst (.int 20), cst (.int 60)]) (bin .Mod (call "_law_next" (sp_law_next K) [var 1]) (cst (.int 4)))))) ::
    set 5 (call "_law_word" (sp_law_word K) [var 1, var 2, var 4]) ::
    set 6 (call "_law_asked" (sp_law_asked K) [var 2, var 3, var 4]) ::
    ifS (cmp .Is (var 6) (cst .non)) [ret (cst (.bl true))] [] :: b_rest K
theorem l_law : ∀ vs H Q E, sp_law K vs H Q E → vs.length = 1 := by
  rintro vs H Q E ⟨_, _, rfl, _⟩
  rfl
theorem t_rest {H : Hp} {Q : VK} {E : XK} {v0 v1 v5 : Option V} {m L T B : Nat} {ab : Bool} {t f c : Addr} {fv rs : List V} {st : List (List Nat)} {cs : List (List Nat × Nat)} (hf : H f = some (.tup fv)) (hl2 : 2 ≤ fv.length) (hlast : atI fv (-(1 : Int)) = some (.ref c)) (hc : H c = some (.lst rs)) (hcs : CsL T B ab H rs cs) (hDI : DI m T B ab L st cs) (hcl : cs.length ≤ 2000)
    (hL : Lim K H t T B ab) (h1 : 1 ≤ m) (h4 : m ≤ 4) (hL60 : L ≤ 60)
    (k : ∀ (d : Addr) (v8 : Option V) (H' : Hp), Same H H' → Rd H' d (.dK (kvs cs)) → tSs (b_tail K) (fun _ => E) { nx := fun _ H' => Q .non H', rt := Q } [v0, v1, some (.int (m : Nat)), some (.ref t), some (.int (L : Nat)), v5, some (.ref f), some (.ref d), v8] H') :
    tSs (b_rest K) (fun _ => E) { nx := fun _ H' => Q .non H', rt := Q } [v0, v1, some (.int (m : Nat)), some (.ref t), some (.int (L : Nat)), v5, some (.ref f), none, none] H := by
  have sf : ∀ H', Same H H' → SqT K H' f fv := fun H' e => SqT.of (e _ _ hf)
  have kL : PySem.W.kitOne K (.type "list") (.type "list") = some true := by kernel_rfl
  unfold b_rest
  walk_at "go"
  refine ⟨_, _, TyOf.tup hf, kTupT, ?_⟩
  walk_at "go"
  refine brF ?_
  walk_at "go"
  refine i_lenT (SqT.of hf) ?_
  walk_at "go"
  refine br_d (fun z => absurd z (by omega)) fun _ => ?_
  walk_at "go"
  refine i_neg ?_
  walk_at "go"
  refine i_negI ?_
  refine i_ixT (SqT.of hf) hlast ?_
  walk_at "go"
  refine ⟨_, _, TyOf.lst hc, kL, ?_⟩
  walk_at "go"
  refine brF ?_
  walk_at "go"
  intro d nd
  have s0 := same_new nd (.dK [])
  have hcd : c ≠ d := ne_of_none hc nd
  walk_at "go"
  refine i_neg ?_
  walk_at "go"
  refine i_negI ?_
  refine i_ixT (sf _ s0) hlast ?_
  refine i_itL (SqL.of (s0 _ _ hc)) ?_
  refine loop_yl (yl_list (xs := rs)) (fun i σ H' => Same H H' ∧ H' d = some (.dK (kvs (cs.take i))) ∧ ∃ a8, σ = [v0, v1, some (.int (m : Nat)), some (.ref t), some (.int (L : Nat)), v5, some (.ref f), some (.ref d), a8])
    ⟨s0, upd_same, none, rfl⟩ (fun i σ H' _ hP => SqL.of (hP.1 _ _ hc)) (fun i x σ H' hx hP => ?_) fun σ H' hP => ?_
  · obtain ⟨hS, hd, a8, rfl⟩ := hP
    have hil : i < cs.length := by rw [← hcs.1]; exact (List.getElem?_eq_some_iff.mp hx).1
    have hy : cs[i]? = some cs[i] := List.getElem?_eq_getElem hil
    obtain ⟨a, r, rfl, ha, hr⟩ := (hcs.2 i x _ hx hy).same hS
    obtain ⟨g1, g2, g3, g4⟩ := hDI.cok cs[i] (List.getElem_mem hil)
    walk_at "go"
    refine ⟨a, r, t, cs[i].1, cs[i].2, m, T, B, ab, L, rfl, ha, hr, hL.same hS, h1, h4, g1, g2, hL60, g3, fun H2 hS2 => ?_⟩
    have hd2 := hS2 _ _ hd
    walk_at "go"
    refine brF ?_
    walk_at "go"
    refine i_put ?_
    walk_at "go"
    refine i_ixT (v := sV cs[i].1) (SqT.of (hS2 _ _ ha)) rfl ?_
    have hnone : valV (kvs (cs.take i)) (.inr (mkS cs[i].1)) = none := by
      have h := kvs_some cs[i].1 (cs.take i)
      rw [decide_eq_false] at h
      · cases hv : valV (kvs (cs.take i)) (.inr (mkS cs[i].1)) with
        | none => rfl
        | some v => rw [hv] at h; cases h
      · intro hm
        have hn := hDI.nodup
        have e : cs.map (·.1) = (cs.take i).map (·.1) ++ (cs.drop i).map (·.1) := by rw [← List.map_append, List.take_append_drop]
        rw [e] at hn
        have := (List.pairwise_append.mp hn).2.2 _ hm cs[i].1 (by rw [List.drop_eq_getElem_cons hil]; exact List.mem_cons_self)
        exact this rfl
    refine .inr ⟨d, _, rfl, DPut.k (k := .inr (mkS cs[i].1)) hd2 (by rw [kvs_len, List.length_take]; exact Nat.lt_of_lt_of_le (show min i cs.length < 5000 by omega) (small (by decide))), ?_⟩
    walk_at "go"
    refine ⟨same_upd (hS.trans hS2) nd, ?_, _, rfl⟩
    rw [upd_same, putK_new _ hnone, List.take_add_one, hy]
    unfold kvs
    rw [List.map_append]
    rfl
  · obtain ⟨hS, hd, a8, rfl⟩ := hP
    rw [hcs.1, List.take_length] at hd
    walk_at "go"
    refine i_lenD hd ?_
    walk_at "go"
    refine i_neg ?_
    walk_at "go"
    refine i_negI ?_
    refine i_ixT (sf _ hS) hlast ?_
    walk_at "go"
    refine i_lenL (SqL.of (hS _ _ hc)) ?_
    walk_at "go"
    refine br_n (fun z => absurd (by rw [kvs_len, hcs.1]) z) fun _ => ?_
    walk_at "go"
    refine i_dctI ?_
    walk_at "go"
    refine i_dct hd fun o => ?_
    intro D nD
    have hfz : upd H' d (.frz o (.dK (kvs cs))) d = some (.frz o (.dK (kvs cs))) := upd_same
    have hS3 : Same H (upd H' d (.frz o (.dK (kvs cs)))) := same_upd hS nd
    revert hfz hS3 nD
    generalize upd H' d (.frz o (.dK (kvs cs))) = H3
    intro nD hfz hS3
    refine compI_items (yl_dct (d := d) (o := o) (kvs := kvs cs)) (fun _ => false) (fun x => x) nD (fun H1 hS1 => hS1 _ _ hfz) (small (by rw [List.length_map, kvs_len]; omega)) (fun j x H4 QB hx hS4 fin => ?_) (fun j x H4 Q' hx hk hS4 fin => by cases hk) fun H4 hS4 hO => ?_
    · obtain ⟨y, hy, rfl⟩ : ∃ y ∈ cs, x = .str (mkS y.1) := by
        have hm := List.mem_of_getElem? hx
        obtain ⟨kv, hkv, rfl⟩ := List.mem_map.mp hm
        obtain ⟨y, hy, rfl⟩ := List.mem_map.mp hkv
        exact ⟨y, hy, rfl⟩
      obtain ⟨g1, g2, _⟩ := hDI.cok y hy
      walk_at "go"
      refine ⟨mkS y.1, d, cs, rfl, .inr ⟨o, hS4 _ _ hfz⟩, by rw [mk_len]; omega, fun H5 hS5 => ?_⟩
      rw [ls_mk, hDI.self (List.mem_map.mpr ⟨y, hy, rfl⟩)]
      walk_at "go"
      exact fin H5 hS5
    rw [show ((kvs cs).map fun kv => kV kv.1).filter (fun _ => false) = [] from List.filter_eq_nil_iff.mpr fun _ _ z => by cases z] at hO
    walk_at "go"
    refine ⟨Nat.zero_le _, fun e ne => ?_⟩
    have s5 := same_new ne (.lst [])
    refine j_neA (n := 0) (by decide) ⟨[], [], .inl ⟨s5 _ _ hO, upd_same⟩, rfl, fun i x y hx => by simp at hx⟩ ?_
    refine brF ?_
    walk_at "go"
    exact k d _ _ ((hS3.trans hS4).trans s5) (.inr ⟨o, s5 _ _ (hS4 _ _ hfz)⟩)
theorem lt_br {u v : List Nat} (h : Br u v) : ¬ v < u := by
  obtain ⟨x, a, b, y, z, rfl, rfl, hab⟩ := h
  intro hlt
  induction x with
  | nil =>
    rw [List.nil_append, List.nil_append, List.cons_lt_cons_iff] at hlt
    omega
  | cons c x ih =>
    rw [List.cons_append, List.cons_append, List.cons_lt_cons_iff] at hlt
    rcases hlt with hlt | ⟨_, hlt⟩
    · omega
    · exact ih hlt
theorem t_law (kf : KF K) (vs : List V) (H : Hp) (Q : VK) (E : XK) (h : sp_law K vs H Q E) : tSs (b_law K) (fun _ => E) { nx := fun _ H' => Q .non H', rt := Q } (start ["_law_script", "_law_drawn", "_law_many", "_law_limit_here", "_law_length", "_law_word_here", "_law_found", "_law_cases", "_law_case"] vs) H := by
  obtain ⟨a, ns, rfl, _, hS, h63, q⟩ := h
  unfold b_law
  walk_at "go"
  refine ⟨a, ns, rfl, hS, h63, fun d H1 hS1 _ d1 => ?_⟩
  walk_at "go"
  refine ⟨d, rfl, d1, fun v1 H2 o2 d2 v10 v11 => ?_⟩
  obtain ⟨m, hm⟩ : ∃ m : Nat, 1 + v1 % 4 = ((m : Nat) : Int) := ⟨(1 + v1 % 4).toNat, by omega⟩
  walk_at "go"
  rw [hm]
  refine ⟨d, rfl, d2, fun t T B ab H3 o3 d3 n3 hL3 => ?_⟩
  walk_at "go"
  refine ⟨d, rfl, d3, fun v2 H4 o4 d4 v20 v21 => ?_⟩
  walk_at "go"
  refine ⟨by show 4 ≤ sizeLine; decide, fun l nl => ?_⟩
  have s5 := same_new nl (.lst [V.int 12, .int 12, .int 20, .int 60])
  have nld : l ≠ d := let ⟨o, e⟩ := Dr.some d4; (ne_of_none e nl).symm
  walk_at "go"
  refine ⟨d, rfl, d4.same s5, fun v3 H5 o5 d5 v30 v31 => ?_⟩
  obtain ⟨kk, hk12, hk60, hat⟩ : ∃ k : Nat, 12 ≤ k ∧ k ≤ 60 ∧ atI [V.int 12, V.int 12, V.int 20, V.int 60] (v3 % 4) = some (.int (k : Nat)) := by
    have : v3 % 4 = 0 ∨ v3 % 4 = 1 ∨ v3 % 4 = 2 ∨ v3 % 4 = 3 := by omega
    rcases this with e | e | e | e
    · exact ⟨12, by decide, by decide, by rw [e]; rfl⟩
    · exact ⟨12, by decide, by decide, by rw [e]; rfl⟩
    · exact ⟨20, by decide, by decide, by rw [e]; rfl⟩
    · exact ⟨60, by decide, by decide, by rw [e]; rfl⟩
  walk_at "go"
  refine i_ixL (SqL.of (o5 _ _ nld upd_same)) hat ?_
  walk_at "go"
  obtain ⟨L, hLL, hL1, hL60⟩ : ∃ L : Nat, 1 + v2 % ((kk : Nat) : Int) = ((L : Nat) : Int) ∧ 1 ≤ L ∧ L ≤ 60 := by
    have e1 := Int.emod_nonneg v2 (show ((kk : Nat) : Int) ≠ 0 by omega)
    have e2 := Int.emod_lt_of_pos v2 (show (0 : Int) < ((kk : Nat) : Int) by omega)
    exact ⟨(1 + v2 % ((kk : Nat) : Int)).toNat, by omega, by omega, by omega⟩
  rw [hLL]
  refine ⟨d, ((m : Nat) : Int), ((L : Nat) : Int), rfl, d5, by omega, by omega, by omega, by omega, fun z H6 o6 d6 hz hzl => ?_⟩
  have hL6 : Lim K H6 t T B ab := Lim.off (Lim.off ((Lim.off hL3 n3 o4).same s5) n3 o5) n3 o6
  rw [Int.toNat_natCast] at hz hzl
  have hzL : (ls z).length = L := by rw [ls_len, hzl]
  have hzm : Lt m (ls z) := hz
  walk_at "go"
  refine ⟨m, t, T, B, ab, L, rfl, kf, hL6, by omega, by omega, by omega, ?_⟩
  have hres := dfs_all m T B ab L 2000
  have hcb := dfs_cs m T B ab L 2000 [[]] []
  cases hX : dfs m T B ab L 2000 [[]] [] with
  | great =>
    intro H7 _
    walk_at "go"
    rw [decide_eq_true rfl]
    refine brT ?_
    walk_at "go"
    exact q H7
  | none cs =>
    rw [hX] at hres hcb
    have hDI : DI m T B ab L [] cs := hres
    intro f c rs H7 hS7 nf nc hf hc hcs
    walk_at "go"
    rw [decide_eq_false (fun z => nomatch z)]
    refine brF ?_
    refine t_rest hf (by simp) rfl hc hcs hDI (by have : cs.length ≤ [].length + 2000 := hcb; simpa using this) (hL6.same hS7) (by omega) (by omega) hL60 fun dd v8 H8 hS8 hdd => ?_
    have sf := SqT.of (K := K) (hS8 _ _ hf)
    unfold b_tail
    walk_at "go"
    refine i_ixT (v := .str "none") sf rfl ?_
    walk_at "go"
    rw [decide_eq_true rfl]
    refine brT ?_
    walk_at "go"
    refine br_d (fun _ => ?_) fun z => absurd rfl z
    walk_at "go"
    refine ⟨z, dd, cs, rfl, hdd, by omega, fun H9 _ => ?_⟩
    obtain ⟨u, hu, hpre⟩ := hDI.cov (ls z) hzL hzm
    rw [List.append_nil] at hu
    rw [hDI.once ⟨u, hu, hpre⟩]
    walk_at "go"
    exact q H9
  | word w cs =>
    rw [hX] at hres hcb
    obtain ⟨st, hDI, hep, hwl⟩ : ∃ st, DI m T B ab L (w :: st) cs ∧ ep T B ab w = none ∧ w.length = L := hres
    obtain ⟨w1, w2, w3⟩ := hDI.sok w List.mem_cons_self
    intro f c rs H7 hS7 nf nc hf hc hcs
    walk_at "go"
    rw [decide_eq_false (fun z => nomatch z)]
    refine brF ?_
    refine t_rest hf (by simp) rfl hc hcs hDI (by have : cs.length ≤ [].length + 2000 := hcb; simpa using this) (hL6.same hS7) (by omega) (by omega) hL60 fun dd v8 H8 hS8 hdd => ?_
    have hf8 := hS8 _ _ hf
    have sf := SqT.of (K := K) hf8
    have hmk : (mkS w).length = L := by rw [mk_len, hwl]
    unfold b_tail
    walk_at "go"
    refine i_ixT (v := .str "word") sf rfl ?_
    walk_at "go"
    have hnw : (Str.ofString "word") ≠ (Str.ofString "none") := by decide +kernel
    rw [decide_eq_false hnw]
    refine brF ?_
    walk_at "go"
    refine i_ixT (v := .str "word") sf rfl ?_
    walk_at "go"
    refine br_n (fun z => absurd rfl z) fun _ => ?_
    walk_at "go"
    refine br_n (fun z => absurd rfl z) fun _ => ?_
    walk_at "go"
    refine i_ixT (v := sV w) sf rfl ?_
    walk_at "go"
    refine ⟨mkS w, m, rfl, by omega, by omega, by omega, fun c hc => w1 c (by rw [ls_mk] at hc; exact hc), fun H9 hS9 => ?_⟩
    have sf9 := SqT.of (K := K) (hS9 _ _ hf8)
    walk_at "go"
    refine brF ?_
    walk_at "go"
    refine i_ixT (v := sV w) sf9 rfl ?_
    walk_at "go"
    refine i_lenS (small (by omega)) ?_
    walk_at "go"
    refine br_n (fun z => absurd (by rw [hmk]) z) fun _ => ?_
    walk_at "go"
    refine i_ixT (v := sV w) sf9 rfl ?_
    walk_at "go"
    refine ⟨mkS w, dd, cs, rfl, Rd.same hdd hS9, by omega, fun H10 hS10 => ?_⟩
    rw [ls_mk, hDI.never hep]
    have sf10 := SqT.of (K := K) (hS10 _ _ (hS9 _ _ hf8))
    walk_at "go"
    refine br_d (fun z => absurd z (by decide)) fun _ => ?_
    walk_at "go"
    refine i_ixT (v := sV w) sf10 rfl ?_
    walk_at "go"
    refine ⟨mkS w, t, T, B, ab, rfl, (((hL6.same hS7).same hS8).same hS9).same hS10, by omega, fun e p he g1 g2 => by rw [ls_mk]; exact hDI.free hep (by omega) g1 g2, ?_⟩
    walk_at "go"
    refine brF ?_
    walk_at "go"
    refine i_geS ?_
    walk_at "go"
    refine i_ixT (v := sV w) sf10 rfl ?_
    refine ⟨z, mkS w, rfl, rfl, ?_⟩
    rw [show (mkS w).cps.toList = w from ls_mk w]
    by_cases hlt : z.cps.toList < w
    · rw [decide_eq_true hlt]
      walk_at "go"
      refine brF ?_
      walk_at "go"
      refine ⟨z, dd, cs, rfl, Rd.same (Rd.same hdd hS9) hS10, by omega, fun H11 _ => ?_⟩
      rcases hDI.ahead hwl hzL hzm with e | e | e
      · rw [e]
        walk_at "go"
        exact q H11
      · have hlt2 : ls z < w := hlt
        rw [e] at hlt2
        exact absurd hlt2 (List.lt_irrefl w)
      · exact absurd hlt (lt_br e)
    · rw [decide_eq_false hlt]
      walk_at "go"
      refine brT ?_
      walk_at "go"
      exact q H10
theorem s_law (K : PySem.W.Frag) (H : Hp) (a : Addr) (ns : List Int) (kf : KF K) (h : ns.length ≤ 63) (hS : SqL K H a (ns.map V.int)) : sp_law K [.ref a] H (fun v _ => v = .bl true) fun _ _ _ => False := ⟨a, ns, rfl, kf, hS, h, fun _ => rfl⟩
end
end L2.Na.K72



namespace L2.Na.K72
open PySem PySem.Spec PyProof.Rows L2 L2.L3 L2.Na
noncomputable def top (i : Nat) : Stmt := PySem.Challenge.pw_neveragain_k72_whole_each_word_has_its_c.main.body.getD i (.Pass ⟨0, 0, 0, 0⟩)
theorem sc_law_draws : FnScope ["_law_script", "_law_cells", "_law_by_digits", "_law_left", "_law_found", "_law_k", "_law_at", "_law_number"] ["_law_script"] (defScope (top 13)) := ⟨rfl, rfl, rfl, by decide +kernel, rfl, by decide +kernel, by decide +kernel⟩
theorem m_law_draws (K : PySem.W.Frag) : mSs (b_law_draws K) ⟨["_law_script", "_law_cells", "_law_by_digits", "_law_left", "_law_found", "_law_k", "_law_at", "_law_number"], (defScope (top 13)).names, true⟩ (defBody (top 13)) = true := by kernel_rfl
theorem sc_law_next : FnScope ["_law_drawn"] ["_law_drawn"] (defScope (top 14)) := ⟨rfl, rfl, rfl, by decide +kernel, rfl, by decide +kernel, by decide +kernel⟩
theorem m_law_next (K : PySem.W.Frag) : mSs (b_law_next K) ⟨["_law_drawn"], (defScope (top 14)).names, true⟩ (defBody (top 14)) = true := by kernel_rfl
theorem sc_law_limit : FnScope ["_law_drawn", "_law_some", "_law_bottom"] ["_law_drawn"] (defScope (top 17)) := ⟨rfl, rfl, rfl, by decide +kernel, rfl, by decide +kernel, by decide +kernel⟩
theorem m_law_limit (K : PySem.W.Frag) : mSs (b_law_limit K) ⟨["_law_drawn", "_law_some", "_law_bottom"], (defScope (top 17)).names, true⟩ (defBody (top 17)) = true := by kernel_rfl
theorem sc_law_word : FnScope ["_law_drawn", "_law_many", "_law_size"] ["_law_drawn", "_law_many", "_law_size"] (defScope (top 15)) := ⟨rfl, rfl, rfl, by decide +kernel, rfl, by decide +kernel, by decide +kernel⟩
theorem m_law_word (K : PySem.W.Frag) : mSs (b_law_word K) ⟨["_law_drawn", "_law_many", "_law_size"], (defScope (top 15)).names, true⟩ (defBody (top 15)) = true := by kernel_rfl
theorem sc_least_length : FnScope ["period", "limit", "wanted"] ["period", "limit"] (defScope (top 5)) := ⟨rfl, rfl, rfl, by decide +kernel, rfl, by decide +kernel, by decide +kernel⟩
theorem m_least_length (K : PySem.W.Frag) : mSs (b_least_length K) ⟨["period", "limit", "wanted"], (defScope (top 5)).names, true⟩ (defBody (top 5)) = true := by kernel_rfl
theorem sc_repeat_at_end : FnScope ["word", "limit", "period", "length", "stretch"] ["word", "limit"] (defScope (top 4)) := ⟨rfl, rfl, rfl, by decide +kernel, rfl, by decide +kernel, by decide +kernel⟩
theorem m_repeat_at_end (K : PySem.W.Frag) : mSs (b_repeat_at_end K) ⟨["word", "limit", "period", "length", "stretch"], (defScope (top 4)).names, true⟩ (defBody (top 4)) = true := by kernel_rfl
theorem sc_letters : FnScope ["many"] ["many"] (defScope (top 8)) := ⟨rfl, rfl, rfl, by decide +kernel, rfl, by decide +kernel, by decide +kernel⟩
theorem m_letters (K : PySem.W.Frag) : mSs (b_letters K) ⟨["many"], (defScope (top 8)).names, true⟩ (defBody (top 8)) = true := by kernel_rfl
theorem sc_parted : FnScope ["many", "limit", "length", "cases", "ahead", "looked_at", "word", "repeat"] ["many", "limit", "length"] (defScope (top 11)) := ⟨rfl, rfl, rfl, by decide +kernel, rfl, by decide +kernel, by decide +kernel⟩
theorem m_parted (K : PySem.W.Frag) : mSs (b_parted K) ⟨["many", "limit", "length", "cases", "ahead", "looked_at", "word", "repeat"], (defScope (top 11)).names, true⟩ (defBody (top 11)) = true := by kernel_rfl
theorem sc_law_asked : FnScope ["_law_many", "_law_limit_here", "_law_length", "_law_kept"] ["_law_many", "_law_limit_here", "_law_length"] (defScope (top 23)) := ⟨rfl, rfl, rfl, by decide +kernel, rfl, by decide +kernel, by decide +kernel⟩
theorem m_law_asked (K : PySem.W.Frag) : mSs (b_law_asked K) ⟨["_law_many", "_law_limit_here", "_law_length", "_law_kept"], (defScope (top 23)).names, true⟩ (defBody (top 23)) = true := by kernel_rfl
theorem sc_law_breaks : FnScope ["_law_limit_here", "_law_length", "_law_period"] ["_law_limit_here", "_law_length", "_law_period"] (defScope (top 18)) := ⟨rfl, rfl, rfl, by decide +kernel, rfl, by decide +kernel, by decide +kernel⟩
theorem m_law_breaks (K : PySem.W.Frag) : mSs (b_law_breaks K) ⟨["_law_limit_here", "_law_length", "_law_period"], (defScope (top 18)).names, true⟩ (defBody (top 18)) = true := by kernel_rfl
theorem sc_law_is_word : FnScope ["_law_word_here", "_law_many"] ["_law_word_here", "_law_many"] (defScope (top 19)) := ⟨rfl, rfl, rfl, by decide +kernel, rfl, by decide +kernel, by decide +kernel⟩
theorem m_law_is_word (K : PySem.W.Frag) : mSs (b_law_is_word K) ⟨["_law_word_here", "_law_many"], (defScope (top 19)).names, true⟩ (defBody (top 19)) = true := by kernel_rfl
theorem sc_law_whole : FnScope ["_law_found"] ["_law_found"] (defScope (top 16)) := ⟨rfl, rfl, rfl, by decide +kernel, rfl, by decide +kernel, by decide +kernel⟩
theorem m_law_whole (K : PySem.W.Frag) : mSs (b_law_whole K) ⟨["_law_found"], (defScope (top 16)).names, true⟩ (defBody (top 16)) = true := by kernel_rfl
theorem sc_law_fails : FnScope ["_law_case", "_law_many", "_law_limit_here", "_law_length", "_law_word_here", "_law_place", "_law_size", "_law_period", "_law_last"] ["_law_case", "_law_many", "_law_limit_here", "_law_length"] (defScope (top 20)) := ⟨rfl, rfl, rfl, by decide +kernel, rfl, by decide +kernel, by decide +kernel⟩
theorem m_law_fails (K : PySem.W.Frag) : mSs (b_law_fails K) ⟨["_law_case", "_law_many", "_law_limit_here", "_law_length", "_law_word_here", "_law_place", "_law_size", "_law_period", "_law_last"], (defScope (top 20)).names, true⟩ (defBody (top 20)) = true := by kernel_rfl
theorem sc_law_begun : FnScope ["_law_word_here", "_law_cases"] ["_law_word_here", "_law_cases"] (defScope (top 21)) := ⟨rfl, rfl, rfl, by decide +kernel, rfl, by decide +kernel, by decide +kernel⟩
theorem m_law_begun (K : PySem.W.Frag) : mSs (b_law_begun K) ⟨["_law_word_here", "_law_cases"], (defScope (top 21)).names, true⟩ (defBody (top 21)) = true := by kernel_rfl
theorem sc_law_is_free : FnScope ["_law_word_here", "_law_limit_here", "_law_period", "_law_alike", "_law_end"] ["_law_word_here", "_law_limit_here"] (defScope (top 22)) := ⟨rfl, rfl, rfl, by decide +kernel, rfl, by decide +kernel, by decide +kernel⟩
theorem m_law_is_free (K : PySem.W.Frag) : mSs (b_law_is_free K) ⟨["_law_word_here", "_law_limit_here", "_law_period", "_law_alike", "_law_end"], (defScope (top 22)).names, true⟩ (defBody (top 22)) = true := by kernel_rfl
theorem sc_law : FnScope ["_law_script", "_law_drawn", "_law_many", "_law_limit_here", "_law_length", "_law_word_here", "_law_found", "_law_cases", "_law_case"] ["_law_script"] (defScope (top 24)) := ⟨rfl, rfl, rfl, by decide +kernel, rfl, by decide +kernel, by decide +kernel⟩
theorem m_law (K : PySem.W.Frag) : mSs (b_law K) ⟨["_law_script", "_law_drawn", "_law_many", "_law_limit_here", "_law_length", "_law_word_here", "_law_found", "_law_cases", "_law_case"], (defScope (top 24)).names, true⟩ (defBody (top 24)) = true := by kernel_rfl
theorem all_q {K : PySem.W.Frag} {P : Program} {w : World} {h base : Heap} {mg : Str → Option Value} (X : K.In h) (G : h.Ns mainGlobals mg) (bl : ∀ x ∈ blts, mg x = none) (F_law_draws : FD K "_law_draws" (top 13)) (F_law_next : FD K "_law_next" (top 14)) (F_law_limit : FD K "_law_limit" (top 17)) (F_law_word : FD K "_law_word" (top 15)) (F_least_length : FD K "least_length" (top 5)) (F_repeat_at_end : FD K "repeat_at_end" (top 4)) (F_letters : FD K "letters" (top 8)) (F_parted : FD K "parted" (top 11)) (F_law_asked : FD K "_law_asked" (top 23)) (F_law_breaks : FD K "_law_breaks" (top 18)) (F_law_is_word : FD K "_law_is_word" (top 19)) (F_law_whole : FD K "_law_whole" (top 16)) (F_law_fails : FD K "_law_fails" (top 20)) (F_law_begun : FD K "_law_begun" (top 21)) (F_law_is_free : FD K "_law_is_free" (top 22)) (k_LETTERS : GC K "LETTERS" (.str "abcd")) (k_MOST_WORDS_PARTED : GC K "MOST_WORDS_PARTED" (.int 2000)) (kf : KF K) (A : Around) (hr : Room 4 A) : qSs (b_law K) ⟨P, w, K, mg, base, A⟩ := by
  have r_TooGreat := PySem.W.mg_of X G kf.n_TooGreat
  have D_law_draws : DnK P w K mg base 1 "_law_draws" (sp_law_draws K) := dn_of F_law_draws X G bl (b_law_draws K) sc_law_draws (m_law_draws K) (fun _ _ _ _ _ _ us hl => by1 (Z := fun us => bindArgs _ ⟨us, []⟩ = pure (List.zip _ us)) (fun _ => by exact rfl) us hl) l_law_draws t_law_draws (fun A hr => ⟨⟨⟨⟨⟨True.intro, True.intro, True.intro⟩, True.intro⟩, ⟨True.intro, True.intro⟩⟩, True.intro, ⟨True.intro, ⟨⟨⟨True.intro, True.intro⟩, ⟨True.intro, True.intro⟩⟩, True.intro⟩⟩⟩, ⟨⟨⟨⟨True.intro, True.intro⟩, True.intro⟩, True.intro⟩, ⟨⟨True.intro, True.intro, ⟨⟨True.intro, True.intro⟩, True.intro⟩⟩, ⟨⟨True.intro, True.intro⟩, ⟨True.intro, ⟨⟨⟨True.intro, True.intro⟩, ⟨⟨True.intro, ⟨True.intro, True.intro⟩⟩, ⟨⟨⟨True.intro, True.intro⟩, True.intro⟩, ⟨⟨⟨True.intro, ⟨⟨⟨True.intro, True.intro⟩, ⟨True.intro, ⟨True.intro, True.intro⟩⟩⟩, True.intro⟩⟩, ⟨⟨True.intro, True.intro, ⟨⟨True.intro, True.intro⟩, True.intro⟩⟩, True.intro⟩, ⟨⟨⟨⟨⟨⟨⟨True.intro, True.intro⟩, True.intro⟩, True.intro⟩, ⟨⟨True.intro, True.intro⟩, True.intro⟩⟩, True.intro⟩, True.intro⟩, ⟨⟨⟨True.intro, True.intro⟩, True.intro⟩, ⟨⟨⟨⟨⟨⟨True.intro, True.intro⟩, ⟨True.intro, True.intro⟩⟩, True.intro⟩, True.intro⟩, True.intro⟩, True.intro⟩⟩⟩⟩, ⟨⟨True.intro, ⟨True.intro, True.intro⟩⟩, True.intro⟩⟩⟩⟩⟩, ⟨True.intro, True.intro⟩⟩⟩⟩⟩⟩⟩)
  have D_law_next : DnK P w K mg base 1 "_law_next" (sp_law_next K) := dn_of F_law_next X G bl (b_law_next K) sc_law_next (m_law_next K) (fun _ _ _ _ _ _ us hl => by1 (Z := fun us => bindArgs _ ⟨us, []⟩ = pure (List.zip _ us)) (fun _ => by exact rfl) us hl) l_law_next t_law_next (fun A hr => ⟨⟨⟨True.intro, True.intro⟩, ⟨True.intro, True.intro⟩, True.intro⟩, ⟨⟨True.intro, True.intro⟩, True.intro⟩⟩)
  have D_law_limit : DnK P w K mg base 2 "_law_limit" (sp_law_limit K) := dn_of F_law_limit X G bl (b_law_limit K) sc_law_limit (m_law_limit K) (fun _ _ _ _ _ _ us hl => by1 (Z := fun us => bindArgs _ ⟨us, []⟩ = pure (List.zip _ us)) (fun _ => by exact rfl) us hl) l_law_limit t_law_limit (fun A hr => ⟨⟨⟨True.intro, ⟨True.intro, ⟨True.intro, True.intro⟩⟩⟩, ⟨⟨True.intro, ⟨True.intro, ⟨True.intro, True.intro⟩⟩⟩, ⟨⟨True.intro, ⟨True.intro, ⟨True.intro, True.intro⟩⟩⟩, ⟨⟨True.intro, ⟨True.intro, ⟨True.intro, True.intro⟩⟩⟩, ⟨⟨True.intro, ⟨True.intro, ⟨True.intro, True.intro⟩⟩⟩, ⟨⟨True.intro, ⟨True.intro, ⟨True.intro, True.intro⟩⟩⟩, ⟨⟨True.intro, ⟨True.intro, ⟨True.intro, True.intro⟩⟩⟩, True.intro⟩⟩⟩⟩⟩⟩⟩, ⟨⟨⟨⟨⟨D_law_next.at hr (by decide), ⟨True.intro, True.intro⟩⟩, True.intro⟩, True.intro⟩, ⟨⟨True.intro, ⟨⟨D_law_next.at hr (by decide), ⟨True.intro, True.intro⟩⟩, True.intro⟩⟩, True.intro⟩, True.intro⟩, ⟨⟨True.intro, ⟨⟨D_law_next.at hr (by decide), ⟨True.intro, True.intro⟩⟩, True.intro⟩⟩, ⟨⟨⟨⟨True.intro, True.intro⟩, ⟨⟨D_law_next.at hr (by decide), ⟨True.intro, True.intro⟩⟩, ⟨True.intro, True.intro⟩⟩⟩, ⟨True.intro, ⟨⟨⟨⟨D_law_next.at hr (by decide), ⟨True.intro, True.intro⟩⟩, True.intro⟩, True.intro⟩, True.intro⟩⟩⟩, True.intro⟩⟩⟩⟩)
  have D_law_word : DnK P w K mg base 2 "_law_word" (sp_law_word K) := dn_of F_law_word X G bl (b_law_word K) sc_law_word (m_law_word K) (fun _ _ _ _ _ _ us hl => by3 (Z := fun us => bindArgs _ ⟨us, []⟩ = pure (List.zip _ us)) (fun _ _ _ => by exact rfl) us hl) l_law_word t_law_word (fun A hr => ⟨⟨True.intro, ⟨⟨⟨True.intro, True.intro⟩, ⟨True.intro, ⟨⟨D_law_next.at hr (by decide), ⟨True.intro, True.intro⟩⟩, True.intro⟩⟩, True.intro⟩, True.intro⟩⟩, True.intro⟩)
  have D_least_length : DnK P w K mg base 1 "least_length" (sp_least_length K) := dn_of F_least_length X G bl (b_least_length K) sc_least_length (m_least_length K) (fun _ _ _ _ _ _ us hl => by2 (Z := fun us => bindArgs _ ⟨us, []⟩ = pure (List.zip _ us)) (fun _ _ => by exact rfl) us hl) l_least_length t_least_length (fun A hr => ⟨⟨⟨True.intro, True.intro⟩, True.intro⟩, ⟨⟨⟨True.intro, True.intro⟩, ⟨⟨⟨True.intro, ⟨True.intro, True.intro⟩⟩, True.intro⟩, True.intro⟩, True.intro⟩, ⟨⟨⟨⟨True.intro, ⟨True.intro, True.intro⟩⟩, True.intro⟩, ⟨True.intro, True.intro⟩⟩, True.intro⟩⟩⟩)
  have D_repeat_at_end : DnK P w K mg base 2 "repeat_at_end" (sp_repeat_at_end K) := dn_of F_repeat_at_end X G bl (b_repeat_at_end K) sc_repeat_at_end (m_repeat_at_end K) (fun _ _ _ _ _ _ us hl => by2 (Z := fun us => bindArgs _ ⟨us, []⟩ = pure (List.zip _ us)) (fun _ _ => by exact rfl) us hl) l_repeat_at_end t_repeat_at_end (fun A hr => ⟨⟨⟨True.intro, ⟨⟨True.intro, True.intro⟩, True.intro⟩⟩, ⟨⟨D_least_length.at hr (by decide), ⟨True.intro, ⟨True.intro, True.intro⟩⟩⟩, ⟨⟨⟨True.intro, ⟨True.intro, True.intro⟩⟩, ⟨True.intro, True.intro⟩, True.intro⟩, ⟨⟨True.intro, ⟨⟨True.intro, True.intro⟩, True.intro⟩, True.intro⟩, ⟨⟨⟨⟨True.intro, True.intro, True.intro⟩, ⟨True.intro, True.intro, ⟨True.intro, True.intro⟩⟩⟩, ⟨⟨⟨⟨True.intro, True.intro⟩, True.intro⟩, ⟨True.intro, ⟨True.intro, True.intro⟩⟩⟩, True.intro⟩, True.intro⟩, True.intro⟩⟩⟩⟩⟩, ⟨True.intro, True.intro⟩⟩)
  have D_letters : DnK P w K mg base 1 "letters" (sp_letters K) := dn_of F_letters X G bl (b_letters K) sc_letters (m_letters K) (fun _ _ _ _ _ _ us hl => by1 (Z := fun us => bindArgs _ ⟨us, []⟩ = pure (List.zip _ us)) (fun _ => by exact rfl) us hl) l_letters t_letters (fun A hr => ⟨⟨(gc_at X G k_LETTERS), True.intro, True.intro⟩, True.intro⟩)
  have D_parted : DnK P w K mg base 3 "parted" (sp_parted K) := dn_of F_parted X G bl (b_parted K) sc_parted (m_parted K) (fun _ _ _ _ _ _ us hl => by3 (Z := fun us => bindArgs _ ⟨us, []⟩ = pure (List.zip _ us)) (fun _ _ _ => by exact rfl) us hl) l_parted t_parted (fun A hr => ⟨True.intro, ⟨⟨True.intro, True.intro⟩, ⟨True.intro, ⟨⟨⟨⟨True.intro, True.intro⟩, True.intro⟩, ⟨⟨⟨True.intro, (gc_at X G k_MOST_WORDS_PARTED)⟩, ⟨⟨⟨r_TooGreat, kf.ini, _, hr⟩, (gc_at X G k_MOST_WORDS_PARTED)⟩, True.intro⟩, True.intro⟩, ⟨⟨True.intro, True.intro⟩, ⟨⟨True.intro, True.intro⟩, ⟨⟨D_repeat_at_end.at hr (by decide), ⟨True.intro, ⟨True.intro, True.intro⟩⟩⟩, ⟨⟨⟨True.intro, True.intro⟩, ⟨⟨True.intro, ⟨⟨True.intro, ⟨True.intro, True.intro⟩⟩, True.intro⟩⟩, True.intro⟩, ⟨⟨⟨⟨True.intro, True.intro⟩, True.intro⟩, ⟨⟨True.intro, ⟨True.intro, ⟨True.intro, True.intro⟩⟩⟩, True.intro⟩, ⟨⟨True.intro, ⟨⟨⟨⟨D_letters.at hr (by decide), ⟨True.intro, True.intro⟩⟩, True.intro⟩, ⟨True.intro, True.intro⟩, True.intro⟩, True.intro⟩⟩, True.intro⟩⟩, True.intro⟩⟩, True.intro⟩⟩⟩⟩⟩⟩, ⟨⟨True.intro, ⟨True.intro, True.intro⟩⟩, True.intro⟩⟩⟩⟩⟩)
  have D_law_asked : DnK P w K mg base 4 "_law_asked" (sp_law_asked K) := dn_of F_law_asked X G bl (b_law_asked K) sc_law_asked (m_law_asked K) (fun _ _ _ _ _ _ us hl => by3 (Z := fun us => bindArgs _ ⟨us, []⟩ = pure (List.zip _ us)) (fun _ _ _ => by exact rfl) us hl) l_law_asked t_law_asked (fun A hr => ⟨True.intro, ⟨⟨r_TooGreat, ⟨⟨D_parted.at hr (by decide), ⟨True.intro, ⟨True.intro, ⟨True.intro, True.intro⟩⟩⟩⟩, True.intro⟩⟩, ⟨True.intro, True.intro⟩⟩⟩)
  have D_law_breaks : DnK P w K mg base 1 "_law_breaks" (sp_law_breaks K) := dn_of F_law_breaks X G bl (b_law_breaks K) sc_law_breaks (m_law_breaks K) (fun _ _ _ _ _ _ us hl => by3 (Z := fun us => bindArgs _ ⟨us, []⟩ = pure (List.zip _ us)) (fun _ _ _ => by exact rfl) us hl) l_law_breaks t_law_breaks (fun A hr => ⟨⟨⟨True.intro, True.intro⟩, ⟨⟨⟨True.intro, ⟨True.intro, True.intro⟩⟩, ⟨⟨True.intro, True.intro⟩, True.intro⟩⟩, True.intro⟩, True.intro⟩, ⟨⟨⟨True.intro, ⟨True.intro, True.intro⟩⟩, ⟨⟨True.intro, True.intro⟩, True.intro⟩⟩, True.intro⟩⟩)
  have D_law_is_word : DnK P w K mg base 1 "_law_is_word" (sp_law_is_word K) := dn_of F_law_is_word X G bl (b_law_is_word K) sc_law_is_word (m_law_is_word K) (fun _ _ _ _ _ _ us hl => by2 (Z := fun us => bindArgs _ ⟨us, []⟩ = pure (List.zip _ us)) (fun _ _ => by exact rfl) us hl) l_law_is_word t_law_is_word (fun A hr => ⟨⟨⟨True.intro, ⟨True.intro, True.intro⟩⟩, ⟨True.intro, True.intro⟩, True.intro⟩, ⟨⟨⟨⟨True.intro, True.intro, ⟨True.intro, ⟨True.intro, True.intro, True.intro⟩⟩⟩, True.intro⟩, ⟨True.intro, True.intro⟩⟩, True.intro⟩⟩)
  have D_law_whole : DnK P w K mg base 1 "_law_whole" (sp_law_whole K) := dn_of F_law_whole X G bl (b_law_whole K) sc_law_whole (m_law_whole K) (fun _ _ _ _ _ _ us hl => by1 (Z := fun us => bindArgs _ ⟨us, []⟩ = pure (List.zip _ us)) (fun _ => by exact rfl) us hl) l_law_whole t_law_whole (fun A hr => ⟨⟨⟨True.intro, ⟨True.intro, True.intro⟩⟩, ⟨⟨True.intro, ⟨True.intro, True.intro⟩⟩, True.intro⟩⟩, True.intro⟩)
  have D_law_fails : DnK P w K mg base 2 "_law_fails" (sp_law_fails K) := dn_of F_law_fails X G bl (b_law_fails K) sc_law_fails (m_law_fails K) (fun _ _ _ _ _ _ us hl => by4 (Z := fun us => bindArgs _ ⟨us, []⟩ = pure (List.zip _ us)) (fun _ _ _ _ => by exact rfl) us hl) l_law_fails t_law_fails (fun A hr => ⟨⟨⟨⟨True.intro, ⟨True.intro, True.intro⟩⟩, ⟨⟨⟨True.intro, True.intro⟩, True.intro⟩, True.intro⟩⟩, ⟨True.intro, True.intro⟩, True.intro⟩, ⟨⟨⟨⟨D_law_is_word.at hr (by decide), ⟨⟨True.intro, True.intro⟩, ⟨True.intro, True.intro⟩⟩⟩, ⟨⟨⟨⟨True.intro, True.intro⟩, True.intro⟩, True.intro⟩, True.intro⟩⟩, ⟨True.intro, True.intro⟩, True.intro⟩, ⟨⟨⟨⟨⟨True.intro, True.intro⟩, ⟨True.intro, True.intro⟩⟩, ⟨⟨⟨⟨True.intro, True.intro⟩, True.intro⟩, True.intro⟩, True.intro⟩⟩, ⟨True.intro, True.intro⟩, True.intro⟩, ⟨⟨⟨⟨⟨⟨True.intro, True.intro⟩, True.intro, ⟨D_law_whole.at hr (by decide), ⟨True.intro, True.intro⟩⟩⟩, True.intro⟩, True.intro⟩, ⟨True.intro, True.intro⟩, True.intro⟩, ⟨⟨True.intro, True.intro⟩, ⟨⟨True.intro, True.intro⟩, ⟨⟨⟨⟨True.intro, True.intro⟩, ⟨⟨True.intro, True.intro⟩, ⟨⟨True.intro, True.intro⟩, ⟨⟨⟨True.intro, True.intro⟩, ⟨True.intro, True.intro⟩⟩, True.intro⟩⟩⟩⟩, ⟨True.intro, True.intro⟩, True.intro⟩, ⟨⟨⟨True.intro, True.intro⟩, True.intro⟩, ⟨⟨⟨D_law_breaks.at hr (by decide), ⟨True.intro, ⟨True.intro, ⟨True.intro, True.intro⟩⟩⟩⟩, ⟨⟨⟨True.intro, ⟨True.intro, True.intro⟩, True.intro⟩, ⟨True.intro, True.intro, True.intro⟩⟩, True.intro⟩⟩, True.intro⟩⟩⟩⟩⟩⟩⟩⟩⟩)
  have D_law_begun : DnK P w K mg base 1 "_law_begun" (sp_law_begun K) := dn_of F_law_begun X G bl (b_law_begun K) sc_law_begun (m_law_begun K) (fun _ _ _ _ _ _ us hl => by2 (Z := fun us => bindArgs _ ⟨us, []⟩ = pure (List.zip _ us)) (fun _ _ => by exact rfl) us hl) l_law_begun t_law_begun (fun A hr => ⟨⟨⟨⟨⟨⟨True.intro, True.intro⟩, True.intro⟩, True.intro⟩, True.intro, ⟨⟨True.intro, True.intro, True.intro⟩, True.intro⟩⟩, True.intro⟩, True.intro⟩)
  have D_law_is_free : DnK P w K mg base 2 "_law_is_free" (sp_law_is_free K) := dn_of F_law_is_free X G bl (b_law_is_free K) sc_law_is_free (m_law_is_free K) (fun _ _ _ _ _ _ us hl => by2 (Z := fun us => bindArgs _ ⟨us, []⟩ = pure (List.zip _ us)) (fun _ _ => by exact rfl) us hl) l_law_is_free t_law_is_free (fun A hr => ⟨⟨⟨True.intro, ⟨⟨True.intro, True.intro⟩, True.intro⟩⟩, ⟨True.intro, ⟨⟨⟨True.intro, ⟨⟨True.intro, True.intro⟩, True.intro⟩⟩, ⟨⟨True.intro, True.intro⟩, ⟨⟨⟨⟨True.intro, True.intro⟩, ⟨True.intro, ⟨True.intro, True.intro⟩⟩⟩, ⟨True.intro, True.intro⟩, True.intro⟩, ⟨⟨⟨⟨True.intro, True.intro⟩, ⟨⟨D_law_breaks.at hr (by decide), ⟨True.intro, ⟨⟨True.intro, True.intro⟩, ⟨True.intro, True.intro⟩⟩⟩⟩, True.intro⟩⟩, ⟨True.intro, True.intro⟩, True.intro⟩, True.intro⟩⟩⟩⟩, True.intro⟩⟩⟩, ⟨True.intro, True.intro⟩⟩)
  exact ⟨⟨D_law_draws.at hr (by decide), ⟨True.intro, True.intro⟩⟩, ⟨⟨True.intro, ⟨⟨D_law_next.at hr (by decide), ⟨True.intro, True.intro⟩⟩, True.intro⟩⟩, ⟨⟨D_law_limit.at hr (by decide), ⟨True.intro, True.intro⟩⟩, ⟨⟨True.intro, ⟨⟨D_law_next.at hr (by decide), ⟨True.intro, True.intro⟩⟩, ⟨⟨True.intro, ⟨True.intro, ⟨True.intro, ⟨True.intro, True.intro⟩⟩⟩⟩, ⟨⟨D_law_next.at hr (by decide), ⟨True.intro, True.intro⟩⟩, True.intro⟩⟩⟩⟩, ⟨⟨D_law_word.at hr (by decide), ⟨True.intro, ⟨True.intro, ⟨True.intro, True.intro⟩⟩⟩⟩, ⟨⟨D_law_asked.at hr (by decide), ⟨True.intro, ⟨True.intro, ⟨True.intro, True.intro⟩⟩⟩⟩, ⟨⟨⟨True.intro, True.intro⟩, ⟨True.intro, True.intro⟩, True.intro⟩, ⟨⟨⟨⟨True.intro, ⟨True.intro, True.intro⟩⟩, ⟨⟨⟨True.intro, True.intro⟩, True.intro⟩, ⟨⟨⟨True.intro, True.intro⟩, ⟨True.intro, True.intro⟩⟩, True.intro⟩⟩⟩, ⟨True.intro, True.intro⟩, True.intro⟩, ⟨True.intro, ⟨⟨⟨True.intro, True.intro⟩, ⟨⟨⟨D_law_fails.at hr (by decide), ⟨True.intro, ⟨True.intro, ⟨True.intro, ⟨True.intro, True.intro⟩⟩⟩⟩⟩, ⟨True.intro, True.intro⟩, True.intro⟩, ⟨⟨True.intro, ⟨True.intro, True.intro⟩, True.intro⟩, True.intro⟩⟩⟩, ⟨⟨⟨⟨⟨True.intro, True.intro⟩, ⟨⟨True.intro, True.intro⟩, True.intro⟩⟩, ⟨⟨⟨True.intro, True.intro, ⟨⟨D_law_begun.at hr (by decide), ⟨True.intro, ⟨True.intro, True.intro⟩⟩⟩, True.intro⟩⟩, True.intro⟩, True.intro⟩⟩, ⟨True.intro, True.intro⟩, True.intro⟩, ⟨⟨⟨⟨True.intro, True.intro⟩, True.intro⟩, ⟨⟨⟨⟨True.intro, True.intro⟩, True.intro⟩, ⟨⟨⟨D_law_begun.at hr (by decide), ⟨True.intro, ⟨True.intro, True.intro⟩⟩⟩, True.intro⟩, True.intro⟩⟩, True.intro⟩, True.intro⟩, ⟨⟨⟨⟨⟨True.intro, True.intro⟩, True.intro⟩, ⟨⟨⟨True.intro, True.intro⟩, True.intro⟩, True.intro⟩⟩, ⟨True.intro, True.intro⟩, True.intro⟩, ⟨⟨⟨⟨D_law_is_word.at hr (by decide), ⟨⟨True.intro, True.intro⟩, ⟨True.intro, True.intro⟩⟩⟩, ⟨⟨⟨⟨True.intro, True.intro⟩, True.intro⟩, True.intro⟩, True.intro⟩⟩, ⟨True.intro, True.intro⟩, True.intro⟩, ⟨⟨⟨⟨⟨D_law_begun.at hr (by decide), ⟨⟨True.intro, True.intro⟩, ⟨True.intro, True.intro⟩⟩⟩, True.intro⟩, ⟨⟨D_law_is_free.at hr (by decide), ⟨⟨True.intro, True.intro⟩, ⟨True.intro, True.intro⟩⟩⟩, True.intro⟩⟩, ⟨True.intro, True.intro⟩, True.intro⟩, ⟨⟨⟨True.intro, ⟨True.intro, True.intro⟩⟩, ⟨⟨⟨D_law_begun.at hr (by decide), ⟨True.intro, ⟨True.intro, True.intro⟩⟩⟩, True.intro⟩, True.intro⟩⟩, True.intro⟩⟩⟩⟩⟩⟩⟩⟩⟩⟩⟩⟩⟩⟩⟩⟩
end L2.Na.K72
open PySem PySem.W PyProof.Rows
set_option maxRecDepth 100000 in
set_option maxHeartbeats 0 in
theorem PySem.Challenge.cw_neveragain_k72_whole_each_word_has_its_c_holds : PySem.Challenge.rw_neveragain_k72_whole_each_word_has_its_c.Holds := by
  w_on; o_law; k_head; (case hw => w_witness2)
  k_fill
  refine L2.Na.law_ofK (KF := L2.Na.K72.KF) (l := PySem.Challenge.rw_neveragain_k72_whole_each_word_has_its_c) (k := 4) (x := "_law_script") (sp := L2.Na.K72.sp_law) rfl rfl ⟨rfl, by decide, by decide⟩ (fun w h Y => PySem.W.kIn_of Y) ?KF rfl L2.Na.K72.b_law L2.Na.K72.sc_law L2.Na.K72.m_law (fun _ _ _ _ _ _ _ => rfl) (fun _ => L2.Na.K72.l_law) (fun _ kf => L2.Na.K72.t_law kf) ?F ?Q L2.Na.K72.s_law
  case KF =>
    intro w
    refine' { n_TooGreat := ?n_TooGreat, ini := ?ini, exm := ?exm }
    case n_TooGreat => first | kernel_rfl | k_is
    case ini =>
      refine' { at_ := ?i1, exc := ?i2, sa := ?i3, fl := ?i4, fn := ?i5 }
      (case i1 => first | kernel_rfl | k_is); (case i2 => first | kernel_rfl | k_is); (case i3 => first | kernel_rfl | k_is); (case i4 => first | kernel_rfl | k_is)
      case i5 =>
        refine' L2.Na.ini_mk ?z1 ?z2 ?z3 ?z4 ?z5 ?z6 ?z7 ?z8
        (case z1 => k_is); (case z2 => k_is); (case z3 => k_is); (case z4 => k_is); (case z5 => exact ⟨rfl, rfl, rfl⟩); (case z6 => exact ⟨rfl, rfl⟩); (case z7 => exact ⟨rfl, rfl, by decide⟩); (case z8 => exact fun s u v X => PySem.W.kp_binds X (fun S => by kernel_rfl))
    case exm => first | kernel_rfl | k_is
  case F =>
    intro w h KX
    refine ⟨?a, ?b⟩
    case a =>
      refine' L2.Na.fd_mk ?a1 ?a2 ?a3 ?a4
      (case a1 => k_is); (case a2 => k_is); (case a3 => k_is); (case a4 => k_is)
    case b =>
      unfold L2.Na.blts
      refine ⟨?_, ?_, ?_, ?_, ?_, ?_, ?_, ?_, ?_, ?_, ?_, ?_, ?_, ?_, ?_, ?_, ?_, ?_, ?_, ?_, ?_, ?_, True.intro⟩ <;> k_is
  case Q =>
    intro w mg h base kf KX G bl A hr
    refine' L2.Na.K72.all_q KX G bl ?f0 ?f1 ?f2 ?f3 ?f4 ?f5 ?f6 ?f7 ?f8 ?f9 ?f10 ?f11 ?f12 ?f13 ?f14 ?c0 ?c1 kf A hr
    case f0 =>
      refine' L2.Na.fd_mk ?a1 ?a2 ?a3 ?a4
      (case a1 => k_is); (case a2 => k_is); (case a3 => k_is); (case a4 => k_is)
    case f1 =>
      refine' L2.Na.fd_mk ?a1 ?a2 ?a3 ?a4
      (case a1 => k_is); (case a2 => k_is); (case a3 => k_is); (case a4 => k_is)
    case f2 =>
      refine' L2.Na.fd_mk ?a1 ?a2 ?a3 ?a4
      (case a1 => k_is); (case a2 => k_is); (case a3 => k_is); (case a4 => k_is)
    case f3 =>
      refine' L2.Na.fd_mk ?a1 ?a2 ?a3 ?a4
      (case a1 => k_is); (case a2 => k_is); (case a3 => k_is); (case a4 => k_is)
    case f4 =>
      refine' L2.Na.fd_mk ?a1 ?a2 ?a3 ?a4
      (case a1 => k_is); (case a2 => k_is); (case a3 => k_is); (case a4 => k_is)
    case f5 =>
      refine' L2.Na.fd_mk ?a1 ?a2 ?a3 ?a4
      (case a1 => k_is); (case a2 => k_is); (case a3 => k_is); (case a4 => k_is)
    case f6 =>
      refine' L2.Na.fd_mk ?a1 ?a2 ?a3 ?a4
      (case a1 => k_is); (case a2 => k_is); (case a3 => k_is); (case a4 => k_is)
    case f7 =>
      refine' L2.Na.fd_mk ?a1 ?a2 ?a3 ?a4
      (case a1 => k_is); (case a2 => k_is); (case a3 => k_is); (case a4 => k_is)
    case f8 =>
      refine' L2.Na.fd_mk ?a1 ?a2 ?a3 ?a4
      (case a1 => k_is); (case a2 => k_is); (case a3 => k_is); (case a4 => k_is)
    case f9 =>
      refine' L2.Na.fd_mk ?a1 ?a2 ?a3 ?a4
      (case a1 => k_is); (case a2 => k_is); (case a3 => k_is); (case a4 => k_is)
    case f10 =>
      refine' L2.Na.fd_mk ?a1 ?a2 ?a3 ?a4
      (case a1 => k_is); (case a2 => k_is); (case a3 => k_is); (case a4 => k_is)
    case f11 =>
      refine' L2.Na.fd_mk ?a1 ?a2 ?a3 ?a4
      (case a1 => k_is); (case a2 => k_is); (case a3 => k_is); (case a4 => k_is)
    case f12 =>
      refine' L2.Na.fd_mk ?a1 ?a2 ?a3 ?a4
      (case a1 => k_is); (case a2 => k_is); (case a3 => k_is); (case a4 => k_is)
    case f13 =>
      refine' L2.Na.fd_mk ?a1 ?a2 ?a3 ?a4
      (case a1 => k_is); (case a2 => k_is); (case a3 => k_is); (case a4 => k_is)
    case f14 =>
      refine' L2.Na.fd_mk ?a1 ?a2 ?a3 ?a4
      (case a1 => k_is); (case a2 => k_is); (case a3 => k_is); (case a4 => k_is)
    case c0 =>
      refine' L2.Na.gc_str ?a1
      (case a1 => k_is)
    case c1 =>
      refine' L2.Na.gc_int ?a1
      (case a1 => k_is)
#print axioms PySem.Challenge.cw_neveragain_k72_whole_each_word_has_its_c_holds

