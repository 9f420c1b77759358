import PyProof.Rows.All
import Wide.All
import OpenK.AllK
import Wide.FinOn
import PyProof.EqAt
import PyProof.EqKinds
import PyProof.TupleCall
import KE.BitLaws
import Open.SpecLaws
import KE.OsHead
import KE.OsGo
import KE.IntBitsLaws
import PySem.Challenge.RW_mirrorwordsyard_s01_answers
section
set_option Elab.async false
set_option linter.all false
set_option maxRecDepth 100000
namespace L2
open PySem PySem.Spec PyProof.Rows
theorem ex3 {α : Sort _} {A B : α → Prop} {P : Prop} (z : ∃ x, A x ∧ B x) (k : ∀ x, A x → B x → P) : P := z.elim fun x h => k x h.1 h.2
theorem ex13 {α : Sort _} {A B C : α → Prop} {P : Prop} (z : ∃ x, A x ∧ B x ∧ C x) (k : ∀ x, A x → B x → C x → P) : P := z.elim fun x h => k x h.1 h.2.1 h.2.2
theorem ex4 {α β : Sort _} {A B : α → β → Prop} {P : Prop} (z : ∃ x y, A x y ∧ B x y) (k : ∀ x y, A x y → B x y → P) : P := z.elim fun x h => h.elim fun y h => k x y h.1 h.2
theorem ex5 {α β : Sort _} {A B C : α → β → Prop} {P : Prop} (z : ∃ x y, A x y ∧ B x y ∧ C x y) (k : ∀ x y, A x y → B x y → C x y → P) : P := z.elim fun x h => h.elim fun y h => k x y h.1 h.2.1 h.2.2
theorem ex24 {α β : Sort _} {A B C D : α → β → Prop} {P : Prop} (z : ∃ x y, A x y ∧ B x y ∧ C x y ∧ D x y) (k : ∀ x y, A x y → B x y → C x y → D x y → P) : P := z.elim fun x h => h.elim fun y h => k x y h.1 h.2.1 h.2.2.1 h.2.2.2
noncomputable abbrev Key := Sum Int Str
noncomputable def keyIs : Key → Value → Bool
  | .inl k, v => Value.isInt k v
  | .inr x, v => Value.isStrOf x v
noncomputable def keyH (w : World) : Key → Int
  | .inl k => hashInt k
  | .inr x => hashStr w x
theorem keyIs_shape : ∀ {k : Key} {v : Value}, keyIs k v = true → (∃ i t, k = Sum.inl i ∧ v = Value.int i t) ∨ (∃ x t, k = Sum.inr x ∧ v = Value.str x t)
  | .inl i, v, h => by
    obtain ⟨t, e⟩ := Value.isInt_shape (k := i) (v := v) h
    exact .inl ⟨i, t, rfl, e⟩
  | .inr x, v, h => by
    obtain ⟨t, e⟩ := Value.isStrOf_shape (x := x) (v := v) h
    exact .inr ⟨x, t, rfl, e⟩
theorem keyIs_int (i : Int) (t : Tok) : keyIs (.inl i) (.int i t) = true := by simp [keyIs, Value.isInt]
theorem keyIs_str (x : Str) (t : Tok) : keyIs (.inr x) (.str x t) = true := by simp [keyIs, Value.isStrOf]
theorem key_ll (a b : Int) : decide ((Sum.inl a : Key) = Sum.inl b) = (a == b) := by
  by_cases e : a = b
  · subst e; simp
  · have h : ¬ (Sum.inl a : Key) = Sum.inl b := fun q => e (Sum.inl.inj q)
    rw [decide_eq_false h]
    exact (beq_eq_false_iff_ne.mpr e).symm
theorem key_rr (a b : Str) : decide ((Sum.inr a : Key) = Sum.inr b) = decide (a = b) := by
  by_cases e : a = b
  · subst e; simp
  · have h : ¬ (Sum.inr a : Key) = Sum.inr b := fun q => e (Sum.inr.inj q)
    rw [decide_eq_false h, decide_eq_false e]
theorem key_lr (a : Int) (b : Str) : decide ((Sum.inl a : Key) = Sum.inr b) = false := decide_eq_false (fun q => nomatch q)
theorem key_rl (a : Str) (b : Int) : decide ((Sum.inr a : Key) = Sum.inl b) = false := decide_eq_false (fun q => nomatch q)
noncomputable def mixKind (prog : Program) (w : World) : PySem.KeyKind prog w Key where
  is := keyIs
  hash := keyH w
  inj := fun v a b ha hb => by
    rcases keyIs_shape ha with ⟨i, t, rfl, rfl⟩ | ⟨x, t, rfl, rfl⟩
    · rcases keyIs_shape hb with ⟨j, u, rfl, e⟩ | ⟨y, u, rfl, e⟩
      · injection e with e1 _; rw [e1]
      · exact nomatch e
    · rcases keyIs_shape hb with ⟨j, u, rfl, e⟩ | ⟨y, u, rfl, e⟩
      · exact nomatch e
      · injection e with e1 _; rw [e1]
  byValue := fun k v h => by
    rcases keyIs_shape h with ⟨i, t, rfl, rfl⟩ | ⟨x, t, rfl, rfl⟩ <;> rfl
  pyHash := fun hv h => by
    rcases keyIs_shape hv with ⟨i, t, rfl, rfl⟩ | ⟨x, t, rfl, rfl⟩
    · exact wpAny_pyHash_int h
    · exact wpAny_pyHash_str h
  eqBool := fun hu hv h => by
    rcases keyIs_shape hu with ⟨i, t, rfl, rfl⟩ | ⟨x, t, rfl, rfl⟩
    · rcases keyIs_shape hv with ⟨j, u, rfl, rfl⟩ | ⟨y, u, rfl, rfl⟩
      · rw [key_ll] at h; exact wpAny_eqBool_int h
      · rw [key_lr] at h; exact SeqAt.EqAt.int_str i t y u _ _ _ _ h
    · rcases keyIs_shape hv with ⟨j, u, rfl, rfl⟩ | ⟨y, u, rfl, rfl⟩
      · rw [key_rl] at h; exact SeqAt.EqAt.str_int x t j u _ _ _ _ h
      · rw [key_rr] at h; exact wpAny_eqBool_str h
  «strs» := fun k x t v h => by
    rcases keyIs_shape h with ⟨i, u, rfl, e⟩ | ⟨y, u, rfl, e⟩
    · exact nomatch e
    · injection e with e1 _
      subst e1
      cases v <;> rfl
theorem mixKind_int (prog : Program) (w : World) (i : Int) (t : Tok) : (mixKind prog w).is (.inl i) (.int i t) = true := keyIs_int i t
theorem mixKind_str (prog : Program) (w : World) (x : Str) (t : Tok) : (mixKind prog w).is (.inr x) (.str x t) = true := keyIs_str x t
end L2
namespace L2
open PySem PySem.Spec PyProof.Rows
inductive V where
  | non | bl (b : Bool) | int (i : Int) | str (x : Str) | byt (b : Array UInt8) | flt (b : UInt64) | ref (a : Addr) | ty (n : String)
  deriving DecidableEq
noncomputable def RelV : V → Value → Prop
  | .non, u => u = Value.none
  | .bl b, u => u = Value.bool b
  | .int i, u => ∃ t, u = Value.int i t
  | .str x, u => ∃ t, u = Value.str x t
  | .byt b, u => ∃ t, u = Value.bytes b t
  | .flt b, u => ∃ t, u = Value.float b t
  | .ref a, u => u = Value.ref a
  | .ty n, u => u = Value.type n
noncomputable abbrev Vals : List V → List Value → Prop := Paired RelV
theorem Vals.length {xs : List V} {us : List Value} (r : Vals xs us) : xs.length = us.length := Paired.length r
theorem Vals.get : ∀ {xs : List V} {us : List Value} {i : Nat} {x : V}, Vals xs us → xs[i]? = some x → ∃ u, us[i]? = some u ∧ RelV x u
  | _, _, _, _, .nil, e => by simp at e
  | _, _, 0, _, .cons r _, e => by simp at e; subst e; exact ⟨_, rfl, r⟩
  | _, _, i + 1, x, .cons _ t, e => by
    obtain ⟨u, h1, h2⟩ := Vals.get (i := i) (x := x) t (by simpa using e)
    exact ⟨u, by simpa using h1, h2⟩
theorem Vals.set {x : V} {u : Value} (r : RelV x u) : ∀ {xs : List V} {us : List Value} (i : Nat), Vals xs us → Vals (xs.set i x) (us.set i u)
  | _, _, _, .nil => .nil
  | _, _, 0, .cons _ t => .cons r t
  | _, _, i + 1, .cons q t => .cons q (Vals.set r i t)
theorem Vals.append {xs ys : List V} {us ws : List Value} (r : Vals xs us) (s : Vals ys ws) : Vals (xs ++ ys) (us ++ ws) := by
  induction r with
  | nil => exact s
  | cons r _ ih => exact .cons r ih
theorem Vals.take : ∀ {xs : List V} {us : List Value} (n : Nat), Vals xs us → Vals (xs.take n) (us.take n)
  | _, _, 0, _ => .nil
  | _, _, _ + 1, .nil => .nil
  | _, _, n + 1, .cons r t => .cons r (Vals.take n t)
theorem Vals.drop : ∀ {xs : List V} {us : List Value} (n : Nat), Vals xs us → Vals (xs.drop n) (us.drop n)
  | _, _, 0, r => r
  | _, _, _ + 1, .nil => .nil
  | _, _, n + 1, .cons _ t => Vals.drop n t
noncomputable def RelO : Option V → Option Value → Prop
  | some v, some u => RelV v u
  | none, none => True
  | _, _ => False
noncomputable def KV {κ : Type} : List (κ × V) → List (κ × Value) → Prop := Paired fun (p : κ × V) (q : κ × Value) => p.1 = q.1 ∧ RelV p.2 q.2
noncomputable def kV : Key → V
  | .inl i => .int i
  | .inr x => .str x
inductive HO where
  /-- a list -/
  | lst (xs : List V)
  /-- a tuple (never changes) -/
  | tup (xs : List V)
  /-- a dict whose keys are ints and texts; one whose keys are tuples of ints and texts (the empty one is both) -/
  | dK (kvs : List (Key × V)) | dT (kvs : List (List Key × V))
  /-- a set of ints: its members, its size -/
  | set (S : Int → Bool) (n : Nat)
  /-- an instance of the class at C, its dict at dx, its attributes -/
  | ins (C dx : Addr) (fs : List (Str × V))
  /-- the dict of the instance at x -/
  | own (x : Addr)
  /-- the dict of an exception -/
  | xd (fs : List (Str × V))
  /-- a bound method, f of x -/
  | met (f x : Addr)
  /-- a range object lo, lo + 1, .. below hi -/
  | rng (lo hi : Int)
  /-- a thing that is known to the object (the script; a dict while a loop walks it): read, never written while it is so -/
  | frz (o : Obj) (u : HO)
  /-- a code object's table -/
  | tbl (ps : Array Value)
  /-- any other thing, by what is true of its one object (a def of one's own: SetO a S n := HO.ext fun h => ..) -/
  | ext (φ : Heap → Prop)
noncomputable abbrev Hp := Addr → Option HO
noncomputable def upd (H : Hp) (a : Addr) (o : HO) : Hp := fun b => if b = a then some o else H b
theorem upd_same {H : Hp} {a : Addr} {o : HO} : upd H a o a = some o := by unfold upd; rw [if_pos rfl]
theorem upd_ne {H : Hp} {a b : Addr} {o : HO} (h : b ≠ a) : upd H a o b = H b := by unfold upd; rw [if_neg h]
theorem upd_upd {H : Hp} {a : Addr} {o u : HO} : upd (upd H a o) a u = upd H a u := by
  funext b; unfold upd; split <;> rfl
theorem ne_of {H : Hp} {a b : Addr} {o u : HO} (h : H a = some o) (h' : H b = some u) (d : o ≠ u) : a ≠ b := by
  intro e; subst e; rw [h] at h'; exact d (Option.some.inj h')
theorem ne_of_none {H : Hp} {a b : Addr} {o : HO} (h : H a = some o) (h' : H b = none) : a ≠ b := by
  intro e; subst e; rw [h] at h'; cases h'
section
variable (P : Program) (w : World)
noncomputable def ObjOk (H : Hp) (h : Heap) (a : Addr) : HO → Prop
  | .lst xs => xs.length ≤ sizeLine ∧ ∃ (its : List Value) (n : Nat), Vals xs its ∧ h.get? a = some { cls := .type "list", data := .seq its.toArray n }
  | .tup xs => xs.length ≤ sizeLine ∧ ∃ its : List Value, Vals xs its ∧ IsTup h a its.toArray
  | .dK kvs => kvs.length ≤ sizeLine ∧ (a == sysModules) = false ∧ ∃ vs, KV kvs vs ∧ h.DictOf (mixKind P w) a vs
  | .dT kvs => kvs.length ≤ sizeLine ∧ (a == sysModules) = false ∧ ∃ xs : List (List Key × Addr × Value),
      Paired (fun (p : List Key × V) (q : List Key × Addr × Value) => p.1 = q.1 ∧ H q.2.1 = some (.tup (p.1.map kV)) ∧ RelV p.2 q.2.2) kvs xs ∧
      ∃ o es ep, h.get? a = some o ∧ o.ExactDict ∧ o.data = .dict es ep ∧ es.toList = xs.map (entryOfKey (tupleKind (mixKind P w))) ∧ (xs.map (·.1)).Nodup
  | .set S n => h.SetOf (intKind P w) a S n
  | .ins C dx fs => H dx = some (.own a) ∧ fs.length ≤ 1000 ∧ dx ≠ a ∧ h.get? a = some (PySem.W.instObj C dx) ∧
      ∃ mA, h.Ns1 dx mA ∧ (∀ f, RelO (fs.lookup f) (mA f)) ∧ PySem.Within mA (fs.map (·.1))
  | .own _ => ∃ o, h.get? a = some o
  | .xd fs => ∃ mA, h.Ns1 a mA ∧ ∀ f, RelO (fs.lookup f) (mA f)
  | .rng lo hi => ∃ t u v, h.get? a = some { cls := .type "range", data := .fields #[.int lo t, .int hi u, .int 1 v] }
  | .frz o u => h.get? a = some o ∧ ObjOk H h a u
  | .tbl ps => h.get? a = some { cls := .none, data := .fields ps }
  | .met f x => h.get? a = some (PySem.W.methodObj (.ref f) (.ref x))
  | .ext φ => φ h ∧ (∃ o, h.get? a = some o) ∧ ∀ h1 h2 : Heap, φ h1 → (∀ o, h1.get? a = some o → h2.get? a = some o) → φ h2
def HOk (H : Hp) (h : Heap) : Prop := ∀ a o, H a = some o → ObjOk P w H h a o
end
section
variable {P : Program} {w : World} {H H' : Hp} {h h' : Heap} {a : Addr} {o : HO}
theorem ObjOk.lt (x : ObjOk P w H h a o) : a < h.objs.size := by
  cases o with
  | lst xs => obtain ⟨_, _, _, _, e⟩ := x; exact Heap.lt_size e
  | tup xs => obtain ⟨_, _, _, p⟩ := x; exact p.lt
  | dK kvs => obtain ⟨_, _, _, _, o, _, _, e, _⟩ := x; exact Heap.lt_size e
  | dT kvs => obtain ⟨_, _, _, _, o, _, _, e, _⟩ := x; exact Heap.lt_size e
  | set S n => obtain ⟨o, _, _, _, e, _⟩ := x; exact Heap.lt_size e
  | ins C dx fs => obtain ⟨_, _, _, e, _⟩ := x; exact Heap.lt_size e
  | own y => obtain ⟨_, e⟩ := x; exact Heap.lt_size e
  | xd fs => obtain ⟨_, ⟨_, _, _, e, _⟩, _⟩ := x; exact Heap.lt_size e
  | rng lo hi => obtain ⟨_, _, _, e⟩ := x; exact Heap.lt_size e
  | frz ob u => obtain ⟨e, _⟩ := x; exact Heap.lt_size e
  | tbl ps => exact Heap.lt_size (show h.get? a = some _ from x)
  | met f y => exact Heap.lt_size (show h.get? a = some _ from x)
  | ext φ => obtain ⟨_, ⟨_, e⟩, _⟩ := x; exact Heap.lt_size e
theorem Paired.mapP {α β : Type} {F G : α → β → Prop} {l₁ : List α} {l₂ : List β} (p : Paired F l₁ l₂) (f : ∀ a b, F a b → G a b) : Paired G l₁ l₂ := by
  induction p with
  | nil => exact .nil
  | cons r _ ih => exact .cons (f _ _ r) ih
theorem ObjOk.stay (x : ObjOk P w H h a o) (k : ∀ b u, (b = a ∨ H b = some (.own a)) → h.get? b = some u → h'.get? b = some u)
    (ho : ∀ b, H b = some (.own a) → H' b = some (.own a)) (ht : ∀ b xs, H b = some (.tup xs) → H' b = some (.tup xs)) : ObjOk P w H' h' a o := by
  induction o with
  | lst xs => obtain ⟨z, its, n, r, e⟩ := x; exact ⟨z, its, n, r, k _ _ (.inl rfl) e⟩
  | tup xs => obtain ⟨z, its, r, ob, e, c⟩ := x; exact ⟨z, its, r, ob, k _ _ (.inl rfl) e, c⟩
  | dK kvs => obtain ⟨z, y, vs, r, ob, es, ep, e, c⟩ := x; exact ⟨z, y, vs, r, ob, es, ep, k _ _ (.inl rfl) e, c⟩
  | dT kvs =>
    obtain ⟨z, y, xs, r, ob, es, ep, e, c⟩ := x
    exact ⟨z, y, xs, Paired.mapP r fun p q z => ⟨z.1, ht _ _ z.2.1, z.2.2⟩, ob, es, ep, k _ _ (.inl rfl) e, c⟩
  | set S n => obtain ⟨ob, es, ep, t, e, c⟩ := x; exact ⟨ob, es, ep, t, k _ _ (.inl rfl) e, c⟩
  | ins C dx fs =>
    obtain ⟨d, z, ne, e, mA, ⟨od, es, ep, e2, c⟩, r⟩ := x
    exact ⟨ho _ d, z, ne, k _ _ (.inl rfl) e, mA, ⟨od, es, ep, k _ _ (.inr d) e2, c⟩, r⟩
  | own y => obtain ⟨ob, e⟩ := x; exact ⟨ob, k _ _ (.inl rfl) e⟩
  | xd fs => obtain ⟨mA, ⟨od, es, ep, e, c⟩, r⟩ := x; exact ⟨mA, ⟨od, es, ep, k _ _ (.inl rfl) e, c⟩, r⟩
  | rng lo hi => obtain ⟨t, u, v, e⟩ := x; exact ⟨t, u, v, k _ _ (.inl rfl) e⟩
  | frz ob u ih => obtain ⟨e, q⟩ := x; exact ⟨k _ _ (.inl rfl) e, ih q⟩
  | tbl ps =>
    have e : h.get? a = some { cls := .none, data := .fields ps } := x
    show h'.get? a = some { cls := .none, data := .fields ps }
    exact k a _ (.inl rfl) e
  | met f y =>
    have e : h.get? a = some (PySem.W.methodObj (.ref f) (.ref y)) := x
    show h'.get? a = some (PySem.W.methodObj (.ref f) (.ref y))
    exact k a _ (.inl rfl) e
  | ext φ => obtain ⟨p, ⟨o, e⟩, st⟩ := x; exact ⟨st _ _ p fun o q => k _ _ (.inl rfl) q, ⟨o, k _ _ (.inl rfl) e⟩, st⟩
theorem HOk.lt (x : HOk P w H h) (e : H a = some o) : a < h.objs.size := (x a o e).lt
theorem HOk.fresh (x : HOk P w H h) (e : h.objs.size ≤ a) : H a = none := by
  cases q : H a with
  | none => rfl
  | some u => exact absurd (Nat.lt_of_lt_of_le (x.lt q) e) (Nat.lt_irrefl _)
theorem HOk.kept (x : HOk P w H h) (k : ∀ b u, h.get? b = some u → h'.get? b = some u) : HOk P w H h' := fun a o e =>
  (x a o e).stay (fun b u _ q => k b u q) (fun _ q => q) fun _ _ q => q
theorem HOk.laid (x : HOk P w H h) (k : ∀ b u, h.get? b = some u → h'.get? b = some u) (hp : h.objs.size ≤ a) (new : ObjOk P w (upd H a o) h' a o) : HOk P w (upd H a o) h' := fun b u e => by
  have hn := x.fresh hp
  by_cases hb : b = a
  · subst hb; rw [upd_same] at e; cases e; exact new
  · rw [upd_ne hb] at e
    exact (x b u e).stay (fun c v _ q => k c v q) (fun c q => by rw [upd_ne (ne_of_none q hn)]; exact q) fun c xs q => by rw [upd_ne (ne_of_none q hn)]; exact q
end
def Rd (H : Hp) (a : Addr) (u : HO) : Prop := H a = some u ∨ ∃ o, H a = some (.frz o u)
theorem Rd.ok {P : Program} {w : World} {H : Hp} {h : Heap} {a : Addr} {u : HO} (r : Rd H a u) (x : HOk P w H h) : ObjOk P w H h a u := by
  rcases r with r | ⟨o, r⟩
  · exact x a u r
  · obtain ⟨_, q⟩ := x a _ r
    exact q
noncomputable def Mut : Option HO → Prop
  | some (.lst _) => True
  | some (.dK _) => True
  | some (.dT _) => True
  | some (.set _ _) => True
  | some (.ins _ _ _) => True
  | some (.ext _) => True
  | _ => False
section
variable {P : Program} {w : World} {H : Hp} {h h' : Heap} {x e : Addr} {o' : HO}
theorem HOk.write (ok : HOk P w H h) (mu : Mut (H x)) (he : e = x ∨ H e = some (.own x)) (k : ∀ b u, b ≠ e → h.get? b = some u → h'.get? b = some u) (heo : ∃ u, h'.get? e = some u)
    (new : ObjOk P w (upd H x o') h' x o') : HOk P w (upd H x o') h' := fun b u q => by
  have nown : ∀ c y, H c = some (.own y) → c ≠ x := fun c y r z => by subst z; rw [r] at mu; exact mu
  have ntup : ∀ c xs, H c = some (.tup xs) → c ≠ x := fun c xs r z => by subst z; rw [r] at mu; exact mu
  by_cases hb : b = x
  · subst hb; rw [upd_same] at q; cases q; exact new
  · rw [upd_ne hb] at q
    by_cases hbe : b = e
    · have q' : H b = some (.own x) := by
        rcases he with z | z
        · exact absurd (hbe.trans z) hb
        · rw [hbe]; exact z
      rw [q] at q'; cases q'
      obtain ⟨v, hv⟩ := heo
      exact ⟨v, by rw [hbe]; exact hv⟩
    · refine (ok b u q).stay (fun c v hc r => k c v ?_ r) (fun c r => by rw [upd_ne (nown c b r)]; exact r) fun c xs r => by rw [upd_ne (ntup c xs r)]; exact r
      rcases hc with rfl | hc
      · exact hbe
      · rintro rfl
        rcases he with z | z
        · exact nown c b hc z
        · rw [hc] at z; cases z; exact hb rfl
end
structure Un (fs ex : List Addr) (H H' : Hp) (h h' : Heap) : Prop where
  keep : ∀ b o, h.get? b = some o → H b = none → b ∉ fs → b ∉ ex → h'.get? b = some o
  slot : ∀ b o, h.get? b = some o → H b = none → b ∈ fs → b ∉ ex → ∃ sl, h'.get? b = some { o with slots := sl }
  free : ∀ b o, h.get? b = some o → H b = none → b ∉ ex → H' b = none
  there : ∀ b o, h.get? b = some o → b ∉ ex → ∃ o', h'.get? b = some o'
  tups : ∀ b xs, H b = some (.tup xs) → H' b = some (.tup xs)
  frzs : ∀ b o u, H b = some (.frz o u) → H' b = some (.frz o u)
  tbls : ∀ b ps, H b = some (.tbl ps) → ∃ more, H' b = some (.tbl (ps ++ more))
section
variable {fs fs' ex ex' : List Addr} {H H1 H2 : Hp} {h h1 h2 h' : Heap} {a x e : Addr} {o : HO}
theorem Un.any (u : Un fs ex H H1 h h1) {b : Addr} {ob : Obj} (q : h.get? b = some ob) (n : H b = none) (hx : b ∉ ex) : ∃ sl, h1.get? b = some { ob with slots := sl } := by
  by_cases hb : b ∈ fs
  · exact u.slot b ob q n hb hx
  · exact ⟨ob.slots, u.keep b ob q n hb hx⟩
theorem Un.kept (k : ∀ b u, h.get? b = some u → h'.get? b = some u) : Un fs ex H H h h' :=
  ⟨fun b ob q _ _ _ => k b ob q, fun b ob q _ _ _ => ⟨ob.slots, k b ob q⟩, fun _ _ _ n _ => n, fun b ob q _ => ⟨ob, k b ob q⟩, fun _ _ q => q, fun _ _ _ q => q, fun _ ps q => ⟨#[], by rw [q]; simp⟩⟩
theorem Un.refl : Un fs ex H H h h := Un.kept fun _ _ q => q
theorem Un.laid (k : ∀ b u, h.get? b = some u → h'.get? b = some u) (hp : h.objs.size ≤ a) (hn : H a = none) : Un fs ex H (upd H a o) h h' where
  keep := fun b u q _ _ _ => k b u q
  slot := fun b u q _ _ _ => ⟨u.slots, k b u q⟩
  free := fun b u q n _ => by rw [upd_ne (Nat.ne_of_lt (Nat.lt_of_lt_of_le (Heap.lt_size q) hp))]; exact n
  there := fun b u q _ => ⟨u, k b u q⟩
  tups := fun b xs q => by rw [upd_ne (ne_of_none q hn)]; exact q
  frzs := fun b u xs q => by rw [upd_ne (ne_of_none q hn)]; exact q
  tbls := fun b ps q => ⟨#[], by rw [upd_ne (ne_of_none q hn), q]; simp⟩
theorem Un.write (mu : Mut (H x)) (he : e = x ∨ H e = some (.own x)) (k : ∀ b u, b ≠ e → h.get? b = some u → h'.get? b = some u) (heo : ∃ u, h'.get? e = some u) : Un fs ex H (upd H x o) h h' := by
  have hx : ∀ b, H b = none → b ≠ x := fun b n z => by subst z; rw [n] at mu; exact mu
  have hb : ∀ b, H b = none → b ≠ e := fun b n z => by
    subst z
    rcases he with r | r
    · exact hx b n r
    · rw [n] at r; cases r
  have hm : ∀ b u, H b = some u → ¬ Mut (some u) → b ≠ x := fun b u q nm z => by subst z; rw [q] at mu; exact nm mu
  refine ⟨fun b u q n _ _ => k b u (hb b n) q, fun b u q n _ _ => ⟨u.slots, k b u (hb b n) q⟩, fun b u q n _ => by rw [upd_ne (hx b n)]; exact n, fun b u q _ => ?_,
    fun b xs q => by rw [upd_ne (hm b _ q fun z => z)]; exact q, fun b u xs q => by rw [upd_ne (hm b _ q fun z => z)]; exact q, fun b ps q => ⟨#[], by rw [upd_ne (hm b _ q fun z => z), q]; simp⟩⟩
  by_cases hbe : b = e
  · subst hbe; exact heo
  · exact ⟨u, k b u hbe q⟩
end
noncomputable def trk (h : Heap) (H : Hp) : List Addr := (List.range h.objs.size).filter fun a => (H a).isSome
noncomputable def hidT (h : Heap) (H : Hp) : Heap := PySem.W.hideAll h (trk h H)
theorem hidT_size (h : Heap) (H : Hp) : (hidT h H).objs.size = h.objs.size := PySem.W.hideAll_size _ _
theorem hidT_get {h : Heap} {H : Hp} {b : Addr} {o : Obj} (e : h.get? b = some o) (n : H b = none) : (hidT h H).get? b = some o :=
  PySem.W.hideAll_get _ e fun hm => by
    have q : (H b).isSome = true := (List.mem_filter.mp hm).2
    rw [n] at q; simp at q
theorem of_hidT {h : Heap} {H : Hp} {b : Addr} {o : Obj} (e : (hidT h H).get? b = some o) : h.get? b = some o ∧ H b = none := by
  have e' : h.get? b = some o := PySem.W.of_hideAll (trk h H) e
  refine ⟨e', ?_⟩
  cases q : H b with
  | none => rfl
  | some x =>
    have hm : b ∈ trk h H := List.mem_filter.mpr ⟨List.mem_range.mpr (Heap.lt_size e'), by simp [q]⟩
    have z : (hidT h H).get? b = none := PySem.W.hideAll_none (trk h H) hm
    rw [z] at e; cases e
end L2
namespace L2
open PySem PySem.Spec PyProof.Rows
structure Mod (K : PySem.W.Frag) (mg : Str → Option Value) (base : Heap) : Prop where
  kin : K.In base
  glob : base.Ns mainGlobals mg
  blt : ∃ mb, base.Ns builtinsNs mb ∧ ∀ x : Str, x ≠ "__name__" → mb x = bootBuiltins x
  nolimit : base.NoLimit
structure Cx where
  prog : Program
  w : World
  K : PySem.W.Frag
  mg : Str → Option Value
  base : Heap
  A : Around
  N : List Str
  s_0 : Shared
  H_0 : Hp
  env : Env
  outer : List Env
  stack : List Env
  ex : List Addr
  fn : Str → Bool
  calm : Bool
  pn : List (Addr × Obj)
  xe : Value → Shared → Prop
noncomputable def frs (l : List Env) : List Addr := l.filterMap (·.frame)
noncomputable abbrev Cx.fs (X : Cx) : List Addr := frs X.outer
def Vis (sc : Scope) (x : Str) : Prop := sc.names.lookup x = some .local ∨ sc.names.lookup x = some .cell ∨ sc.names.lookup x = some .free
def Loc (sc : Scope) (x : Str) : Prop := sc.names.lookup x = some .local ∨ sc.names.lookup x = some .cell
def Look (env : Env) (h : Heap) (m : Str → Option Value) (x : Str) (u : Value) : Prop :=
  (env.kindOf x = some .local ∧ m x = some u) ∨ ((env.kindOf x = some .cell ∨ env.kindOf x = some .free) ∧ ∃ c, env.cells.lookup x = some c ∧ h.IsCell c (some u))
structure Cx.Ok (X : Cx) : Prop where
  mod : Mod X.K X.mg X.base
  kind : X.env.scope.kind = .function
  glob : X.env.globals = mainGlobals
  blt : X.env.builtins = builtinsNs
  above : X.s_0.heap.objs.size ≤ X.env.locals
  inj : ∀ x y c, X.env.cells.lookup x = some c → X.env.cells.lookup y = some c → x = y
  has : ∀ x, (X.env.kindOf x = some .cell ∨ X.env.kindOf x = some .free) → ∃ c, X.env.cells.lookup x = some c
  cab : ∀ x c, X.fn x = true → X.env.cells.lookup x = some c → X.s_0.heap.objs.size ≤ c
  hd : X.calm = true → X.A.handled = none
  frames : X.A.frames = some X.stack
  stk : X.stack = X.outer ∨ (X.stack = X.env :: X.outer ∧ X.env.frame = some X.env.locals)
  exf : ∀ b ∈ X.ex, b ≠ X.env.locals ∧ ∀ x c, X.env.cells.lookup x = some c → c ≠ b
  bs : ∀ b o, X.base.get? b = some o → X.s_0.heap.get? b = some o ∧ X.H_0 b = none
  bsz : X.base.objs.size ≤ X.s_0.heap.objs.size
  noex : ∀ b o, X.base.get? b = some o → b ∉ X.ex
  exfs : ∀ b ∈ X.ex, b ∉ X.fs
  funs : X.s_0.heap.FunFrames X.base X.outer
  frf : ∀ b ∈ X.fs, X.H_0 b = none
structure Inv (X : Cx) (pins : List (Addr × Obj)) (σ : List (Option V)) (H : Hp) (s : Shared) : Prop where
  ok : X.Ok
  os : s.os = X.s_0.os
  bare : AllBare s.gens
  base : Un X.fs X.ex X.H_0 H X.s_0.heap s.heap
  loc : ∃ m, s.heap.Ns X.env.locals m ∧ ∀ (i : Nat) (x : Str) (v : V), X.N[i]? = some x → σ[i]? = some (some v) → Vis X.env.scope x → ∃ u, RelV v u ∧ Look X.env s.heap m x u
  cell : ∀ x c, X.env.cells.lookup x = some c → ∃ v, s.heap.IsCell c v
  free : H X.env.locals = none
  freeC : ∀ x c, X.env.cells.lookup x = some c → H c = none
  pin : ∀ p ∈ X.pn ++ pins, s.heap.get? p.1 = some p.2 ∧ H p.1 = none ∧ p.1 ≠ X.env.locals ∧ p.1 ∉ X.fs ∧ ∀ v, p.2.data ≠ .cell v
  hok : HOk X.prog X.w H s.heap
  len : σ.length = X.N.length
section
variable {X : Cx} {pins : List (Addr × Obj)} {σ : List (Option V)} {H H' : Hp} {s : Shared} {h' : Heap}
theorem Cx.Ok.nofr (ok : X.Ok) {b : Addr} {o : Obj} (e : X.base.get? b = some o) : b ∉ X.fs := fun hb => by
  have := (ok.funs.mem hb).1
  rw [e] at this; cases this
theorem Inv.bs (I : Inv X pins σ H s) : ∀ b o, X.base.get? b = some o → s.heap.get? b = some o ∧ H b = none := fun b o e =>
  ⟨I.base.keep b o (I.ok.bs b o e).1 (I.ok.bs b o e).2 (I.ok.nofr e) (I.ok.noex b o e), I.base.free b o (I.ok.bs b o e).1 (I.ok.bs b o e).2 (I.ok.noex b o e)⟩
theorem Inv.bk (I : Inv X pins σ H s) : ∀ b o, X.base.get? b = some o → s.heap.get? b = some o := fun b o e => (I.bs b o e).1
theorem Inv.mod (I : Inv X pins σ H s) : Mod X.K X.mg X.base := I.ok.mod
theorem Inv.kIn (I : Inv X pins σ H s) : X.K.In s.heap := I.ok.mod.kin.keeps I.bk
theorem Inv.fr (I : Inv X pins σ H s) : ∃ m, Fr X.base X.env.locals s.heap m :=
  let ⟨m, hn, _⟩ := I.loc
  ⟨m, hn, I.bk, Nat.le_trans I.ok.bsz I.ok.above⟩
theorem Inv.lt (I : Inv X pins σ H s) : X.env.locals < s.heap.objs.size := let ⟨_, hn, _⟩ := I.loc; hn.lt
theorem Inv.sz (I : Inv X pins σ H s) : X.s_0.heap.objs.size ≤ s.heap.objs.size := Nat.le_trans I.ok.above (Nat.le_of_lt I.lt)
theorem Inv.nofs (I : Inv X pins σ H s) {a : Addr} (h : s.heap.objs.size ≤ a) : a ∉ X.fs := fun hb => by
  obtain ⟨_, o, ho, _⟩ := I.ok.funs.mem hb
  exact absurd (Nat.lt_of_lt_of_le (Heap.lt_size ho) (Nat.le_trans I.sz h)) (Nat.lt_irrefl _)
theorem Inv.cne (I : Inv X pins σ H s) : ∀ x c, X.env.cells.lookup x = some c → c ≠ X.env.locals := fun x c e z => by
  obtain ⟨v, o, ho, hd⟩ := I.cell x c e
  obtain ⟨m, ⟨o', es, ep, ho', hd', _⟩, _⟩ := I.loc
  rw [z, ho'] at ho; cases ho; rw [hd'] at hd; cases hd
theorem Inv.funs (I : Inv X pins σ H s) : s.heap.FunFrames X.base X.outer := by
  have all : ∀ (l : List Env), (∀ b ∈ frs l, b ∈ X.fs) → X.s_0.heap.FunFrames X.base l → s.heap.FunFrames X.base l := by
    intro l
    induction l with
    | nil => intro _ _; trivial
    | cons env r ih =>
      intro hs hl
      obtain ⟨hk, ⟨L, o, hf, hn, ho, hd⟩, hr⟩ := hl
      have hL : L ∈ X.fs := hs L (by unfold frs; rw [List.filterMap_cons, hf]; exact List.mem_cons_self)
      obtain ⟨sl, e⟩ := I.base.slot L o ho (I.ok.frf L hL) hL fun z => I.ok.exfs L z hL
      exact ⟨hk, ⟨L, _, hf, hn, e, hd⟩, ih (fun b hb => hs b (by unfold frs; rw [List.filterMap_cons, hf]; exact List.mem_cons_of_mem _ hb)) hr⟩
  exact all X.outer (fun _ hb => hb) I.ok.funs
theorem Inv.stack (I : Inv X pins σ H s) : s.heap.FunFrames X.base X.stack := by
  rcases I.ok.stk with e | ⟨e, hf⟩
  · rw [e]; exact I.funs
  · rw [e]
    obtain ⟨m, hn, _⟩ := I.loc
    refine .cons (by rw [I.ok.kind]; decide) hf hn ?_ I.funs
    exact Heap.get?_none_of_le (Nat.le_trans I.ok.bsz I.ok.above)
theorem Inv.stkSub (I : Inv X pins σ H s) : ∀ b ∈ frs X.stack, b ∈ X.env.locals :: X.fs := fun b hb => by
  rcases I.ok.stk with e | ⟨e, hf⟩
  · rw [e] at hb; exact List.mem_cons_of_mem _ hb
  · rw [e] at hb
    unfold frs at hb
    rw [List.filterMap_cons, hf] at hb
    exact hb
theorem Inv.stkFree (I : Inv X pins σ H s) : ∀ b ∈ frs X.stack, H b = none := fun b hb => by
  rcases List.mem_cons.mp (I.stkSub b hb) with e | hb
  · rw [e]; exact I.free
  · obtain ⟨_, o, ho, _⟩ := I.ok.funs.mem hb
    exact I.base.free b o ho (I.ok.frf b hb) fun z => I.ok.exfs b z hb
theorem Inv.step {g' : Array GenState} {t' : Nat} {d' : Drawn} {ch : List Addr} (I : Inv X pins σ H s)
    (hch : ∀ b ∈ ch, (b ∈ X.ex ∨ X.s_0.heap.objs.size ≤ b) ∧ b ≠ X.env.locals ∧ (∀ x c, X.env.cells.lookup x = some c → c ≠ b) ∧ ∀ p ∈ X.pn ++ pins, p.1 ≠ b)
    (keep : ∀ b o, b ≠ X.env.locals → b ∉ X.fs → b ∉ ch → s.heap.get? b = some o → H b = none → h'.get? b = some o)
    (slot : ∀ b o, b ≠ X.env.locals → b ∈ X.fs → b ∉ ch → s.heap.get? b = some o → H b = none → ∃ sl, h'.get? b = some { o with slots := sl }) (free : ∀ b o, b ∉ ch → s.heap.get? b = some o → H b = none → H' b = none)
    (there : ∀ b o, b ∉ ch → s.heap.get? b = some o → ∃ o', h'.get? b = some o')
    (tups : ∀ b xs, H b = some (.tup xs) → H' b = some (.tup xs)) (frzs : ∀ b o u, H b = some (.frz o u) → H' b = some (.frz o u)) (tbls : ∀ b ps, H b = some (.tbl ps) → ∃ more, H' b = some (.tbl (ps ++ more)))
    (ns : ∀ m, s.heap.Ns X.env.locals m → h'.Ns X.env.locals m) (hok : HOk X.prog X.w H' h') (hg : AllBare g') :
    Inv X pins σ H' { s with heap := h', gens := g', drawn := d', toks := t' } := by
  have neL : ∀ b o, X.s_0.heap.get? b = some o → b ≠ X.env.locals := fun b o e => Nat.ne_of_lt (Nat.lt_of_lt_of_le (Heap.lt_size e) I.ok.above)
  have neC : ∀ b o, X.s_0.heap.get? b = some o → b ∉ X.ex → b ∉ ch := fun b o e hx hb => by
    rcases (hch b hb).1 with z | z
    · exact hx z
    · exact absurd (Nat.lt_of_lt_of_le (Heap.lt_size e) z) (Nat.lt_irrefl _)
  have cellK : ∀ x c, X.env.cells.lookup x = some c → ∀ v, s.heap.IsCell c v → h'.IsCell c v := fun x c e v zz => ex3 zz fun o ho hd => by
    have nch : c ∉ ch := fun z => (hch c z).2.2.1 x c e rfl
    by_cases hc : c ∈ X.fs
    · obtain ⟨sl, q⟩ := slot c o (I.cne x c e) hc nch ho (I.freeC x c e)
      exact ⟨_, q, hd⟩
    · exact ⟨o, keep c o (I.cne x c e) hc nch ho (I.freeC x c e), hd⟩
  refine ⟨I.ok, I.os, hg, ⟨fun b o e n hb hx => ?_, fun b o e n hb hx => ?_, fun b o e n hx => ?_, fun b o e hx => ?_, fun b xs e => tups b xs (I.base.tups b xs e), fun b o xs e => frzs b o xs (I.base.frzs b o xs e), fun b ps e => ?_⟩, ?_, fun x c e => ?_, ?_, fun x c e => ?_, fun p hp => ?_, hok, I.len⟩
  · exact keep b o (neL b o e) hb (neC b o e hx) (I.base.keep b o e n hb hx) (I.base.free b o e n hx)
  · obtain ⟨sl, e1⟩ := I.base.slot b o e n hb hx
    obtain ⟨sl', e2⟩ := slot b _ (neL b o e) hb (neC b o e hx) e1 (I.base.free b o e n hx)
    exact ⟨sl', e2⟩
  · obtain ⟨o', e1⟩ := I.base.there b o e hx
    exact free b o' (neC b o e hx) e1 (I.base.free b o e n hx)
  · obtain ⟨o', e1⟩ := I.base.there b o e hx
    exact there b o' (neC b o e hx) e1
  · obtain ⟨m1, e1⟩ := I.base.tbls b ps e
    obtain ⟨m2, e2⟩ := tbls b _ e1
    exact ⟨m1 ++ m2, by rw [e2, Array.append_assoc]⟩
  · obtain ⟨m, hn, hl⟩ := I.loc
    refine ⟨m, ns m hn, fun i x v e1 e2 e3 => ?_⟩
    obtain ⟨u, r, l⟩ := hl i x v e1 e2 e3
    refine ⟨u, r, ?_⟩
    rcases l with l | ⟨k, c, e, z⟩
    · exact .inl l
    · exact .inr ⟨k, c, e, cellK x c e _ z⟩
  · obtain ⟨v, z⟩ := I.cell x c e
    exact ⟨v, cellK x c e v z⟩
  · obtain ⟨m, ⟨o, _, _, ho, _⟩, _⟩ := I.loc
    exact free _ o (fun z => (hch _ z).2.1 rfl) ho I.free
  · obtain ⟨v, o, ho, hd⟩ := I.cell x c e
    exact free c o (fun z => (hch c z).2.2.1 x c e rfl) ho (I.freeC x c e)
  · obtain ⟨e, n, ne, nf, d⟩ := I.pin p hp
    have nch : p.1 ∉ ch := fun z => (hch p.1 z).2.2.2 p hp rfl
    exact ⟨keep p.1 p.2 ne nf nch e n, free p.1 p.2 nch e n, ne, nf, d⟩
theorem Inv.un {t' : Nat} (I : Inv X pins σ H s) (u : Un X.fs [] H H' s.heap h') (hok : HOk X.prog X.w H' h') : Inv X pins σ H' { s with heap := h', toks := t' } := by
  obtain ⟨m, ⟨o, es, ep, ho, r⟩, _⟩ := id I.loc
  obtain ⟨sl, hL⟩ := u.any ho I.free (by simp)
  exact I.step (g' := s.gens) (d' := s.drawn) (ch := []) (fun _ z => nomatch z) (fun b o _ hb _ e n => u.keep b o e n hb (by simp)) (fun b o _ hb _ e n => u.slot b o e n hb (by simp)) (fun b o _ e n => u.free b o e n (by simp)) (fun b o _ e => u.there b o e (by simp)) u.tups u.frzs u.tbls (fun m' hm => by
    obtain ⟨o', es', ep', ho', r'⟩ := hm
    rw [ho] at ho'; cases ho'
    exact ⟨_, es', ep', hL, r'⟩) hok I.bare
theorem Inv.call {g' : Array GenState} {t' : Nat} {d' : Drawn} {ch : List Addr} (I : Inv X pins σ H s) (u : Un (frs X.stack) ch H H' s.heap h') (hok : HOk X.prog X.w H' h') (hg : AllBare g')
    (hch : ∀ b ∈ ch, (b ∈ X.ex ∨ X.s_0.heap.objs.size ≤ b) ∧ b ≠ X.env.locals ∧ (∀ x c, X.env.cells.lookup x = some c → c ≠ b) ∧ ∀ p ∈ X.pn ++ pins, p.1 ≠ b) :
    Inv X pins σ H' { s with heap := h', gens := g', drawn := d', toks := t' } := by
  obtain ⟨m, ⟨o, es, ep, ho, r⟩, _⟩ := id I.loc
  obtain ⟨sl, hL⟩ := u.any ho I.free fun z => (hch _ z).2.1 rfl
  exact I.step (ch := ch) hch (fun b o hL hb hc e n => u.keep b o e n (fun z => (List.mem_cons.mp (I.stkSub b z)).elim hL hb) hc) (fun b o _ _ hc e n => u.any e n hc) (fun b o hc e n => u.free b o e n hc) (fun b o hc e => u.there b o e hc) u.tups u.frzs u.tbls (fun m' hm => by
    obtain ⟨o', es', ep', ho', r'⟩ := hm
    rw [ho] at ho'; cases ho'
    exact ⟨_, es', ep', hL, r'⟩) hok hg
theorem Inv.turned {t' : Nat} {it : Addr} (I : Inv X pins σ H s) (k : ∀ b o, b ≠ it → s.heap.get? b = some o → h'.get? b = some o) (hn : H it = none) (hL : it ≠ X.env.locals)
    (h1 : it ∈ X.ex ∨ X.s_0.heap.objs.size ≤ it) (h2 : ∀ x c, X.env.cells.lookup x = some c → c ≠ it) (h3 : ∀ p ∈ X.pn ++ pins, p.1 ≠ it) : Inv X pins σ H { s with heap := h', toks := t' } := by
  have nit : ∀ b u, H b = some u → b ≠ it := fun b u e z => by rw [z, hn] at e; cases e
  refine I.step (g' := s.gens) (d' := s.drawn) (ch := [it]) (fun b hb => ?_) (fun b o _ _ hc e _ => k b o (fun z => hc (by simp [z])) e) (fun b o _ _ hc e _ => ⟨o.slots, k b o (fun z => hc (by simp [z])) e⟩) (fun _ _ _ _ n => n)
    (fun b o hc e => ⟨o, k b o (fun z => hc (by simp [z])) e⟩) (fun _ _ e => e) (fun _ _ _ e => e) (fun b ps e => ⟨#[], by rw [e]; simp⟩) (fun m hm => ?_) (fun b u e => ?_) I.bare
  · have e : b = it := by simpa using hb
    subst e
    exact ⟨h1, hL, h2, h3⟩
  · obtain ⟨o, es, ep, ho, r⟩ := hm
    exact ⟨o, es, ep, k _ o (Ne.symm hL) ho, r⟩
  · refine (I.hok b u e).stay (fun c v hc q => k c v ?_ q) (fun _ q => q) fun _ _ q => q
    rcases hc with z | z
    · rw [z]; exact nit b u e
    · exact nit c _ z
theorem Inv.tok (I : Inv X pins σ H s) (t : Nat) : Inv X pins σ H { s with toks := t } := I.un (h' := s.heap) (t' := t) Un.refl I.hok
theorem Inv.kept {t' : Nat} (I : Inv X pins σ H s) (k : ∀ b u, s.heap.get? b = some u → h'.get? b = some u) : Inv X pins σ H { s with heap := h', toks := t' } := I.un (Un.kept k) (I.hok.kept k)
theorem Inv.laid {a : Addr} {o : HO} {t' : Nat} (I : Inv X pins σ H s) (k : ∀ b u, s.heap.get? b = some u → h'.get? b = some u) (hp : s.heap.objs.size ≤ a) (new : ObjOk X.prog X.w (upd H a o) h' a o) :
    Inv X pins σ (upd H a o) { s with heap := h', toks := t' } := I.un (Un.laid k hp (I.hok.fresh hp)) (I.hok.laid k hp new)
theorem Inv.write {x e : Addr} {o : HO} {t' : Nat} (I : Inv X pins σ H s) (mu : Mut (H x)) (he : e = x ∨ H e = some (.own x)) (k : ∀ b u, b ≠ e → s.heap.get? b = some u → h'.get? b = some u) (heo : ∃ u, h'.get? e = some u)
    (new : ObjOk X.prog X.w (upd H x o) h' x o) : Inv X pins σ (upd H x o) { s with heap := h', toks := t' } := I.un (Un.write mu he k heo) (I.hok.write mu he k heo new)
theorem Inv.weak {σ' : List (Option V)} (I : Inv X pins σ H s) (hl : σ'.length = σ.length) (w : ∀ (i : Nat) v, σ'[i]? = some (some v) → σ[i]? = some (some v)) : Inv X pins σ' H s :=
  ⟨I.ok, I.os, I.bare, I.base, let ⟨m, hn, hl'⟩ := I.loc; ⟨m, hn, fun i x v e1 e2 e3 => hl' i x v e1 (w i v e2) e3⟩, I.cell, I.free, I.freeC, I.pin, I.hok, hl.trans I.len⟩
theorem Inv.pins_of {pins' : List (Addr × Obj)} (I : Inv X pins σ H s) (h : ∀ p ∈ pins', s.heap.get? p.1 = some p.2 ∧ H p.1 = none ∧ p.1 ≠ X.env.locals ∧ p.1 ∉ X.fs ∧ ∀ v, p.2.data ≠ .cell v) : Inv X pins' σ H s :=
  ⟨I.ok, I.os, I.bare, I.base, I.loc, I.cell, I.free, I.freeC, fun p hp => (List.mem_append.mp hp).elim (fun z => I.pin p (List.mem_append_left _ z)) (h p), I.hok, I.len⟩
theorem nodup_ix {N : List Str} (hN : N.Nodup) {i j : Nat} {x : Str} (a : N[i]? = some x) (b : N[j]? = some x) : i = j := by
  obtain ⟨h1, e1⟩ := List.getElem?_eq_some_iff.mp a
  obtain ⟨h2, e2⟩ := List.getElem?_eq_some_iff.mp b
  exact (List.getElem_inj hN).mp (e1.trans e2.symm)
theorem store_ok2 {M : Model} {A : Around} {E : Value → Shared → Prop} {i : Nat} {x : Str} {v : V} {u : Value} {Q : Unit → Shared → Prop} (I : Inv X pins σ H s) (hN : X.N.Nodup) (hi : X.N[i]? = some x) (hx : Loc X.env.scope x) (r : RelV v u)
    (h : ∀ s', Inv X pins (σ.set i (some v)) H s' → (∃ a, Heap.SameBut a s.heap s'.heap ∧ (a = X.env.locals ∨ X.env.cells.lookup x = some a)) → Q () s') (hf : X.fn x = true ∨ X.env.scope.names.lookup x = some .local := by first | exact .inl rfl | exact .inr rfl | assumption) : wpAny M A (storeName X.env x u) Q E s := by
  obtain ⟨m, hn, hl⟩ := id I.loc
  have hcls : (X.env.scope.kind == .class || (X.env.scope.kind == .module && X.env.locals != X.env.globals)) = false := by rw [I.ok.kind]; rfl
  have hiσ : i < σ.length := by rw [I.len]; exact (List.getElem?_eq_some_iff.mp hi).1
  have cne := I.cne
  have tracked : ∀ {a : Addr} {h' : Heap}, (∃ o, s.heap.get? a = some o ∧ H a = none) → Heap.SameBut a s.heap h' → HOk X.prog X.w H h' := fun {a h'} ha hs b ob e => by
    obtain ⟨_, _, hfree⟩ := ha
    refine (I.hok b ob e).stay (fun c w' hc q => (hs.2 c ?_).trans q) (fun _ q => q) fun _ _ q => q
    rintro rfl
    rcases hc with rfl | hc
    · rw [hfree] at e; cases e
    · rw [hfree] at hc; cases hc
  rcases hx with hk | hk
  · refine wpAny_storeName_local hk hn (fun h' hn' hs => ?_) hcls
    obtain ⟨oL, _, _, hoL, _⟩ := id hn
    refine h _ ⟨I.ok, I.os, I.bare, ⟨fun b o e n hb hx => ?_, fun b o e n hb hx => ?_, I.base.free, fun b o e hx => ?_, I.base.tups, I.base.frzs, I.base.tbls⟩, ⟨_, hn', fun j y v' e1 e2 e3 => ?_⟩, fun y c e => ?_, I.free, I.freeC, fun p hp => ?_, tracked ⟨oL, hoL, I.free⟩ hs, by simpa using I.len⟩ ⟨_, hs, .inl rfl⟩
    · exact (hs.2 b (Nat.ne_of_lt (Nat.lt_of_lt_of_le (Heap.lt_size e) I.ok.above))).trans (I.base.keep b o e n hb hx)
    · obtain ⟨sl, e1⟩ := I.base.slot b o e n hb hx
      exact ⟨sl, (hs.2 b (Nat.ne_of_lt (Nat.lt_of_lt_of_le (Heap.lt_size e) I.ok.above))).trans e1⟩
    · obtain ⟨o', e1⟩ := I.base.there b o e hx
      exact ⟨o', (hs.2 b (Nat.ne_of_lt (Nat.lt_of_lt_of_le (Heap.lt_size e) I.ok.above))).trans e1⟩
    · by_cases hj : j = i
      · subst hj
        rw [hi] at e1; cases e1
        rw [List.getElem?_set_self hiσ] at e2
        cases e2
        exact ⟨u, r, .inl ⟨hk, by simp⟩⟩
      · rw [List.getElem?_set_ne (Ne.symm hj)] at e2
        obtain ⟨u', r', q⟩ := hl j y v' e1 e2 e3
        refine ⟨u', r', ?_⟩
        rcases q with ⟨k, e⟩ | ⟨k, c, e, z⟩
        · refine .inl ⟨k, ?_⟩
          have : y ≠ x := fun e => hj (nodup_ix hN e1 (e ▸ hi))
          simp [this, e]
        · exact .inr ⟨k, c, e, z.sameBut hs (cne y c e)⟩
    · obtain ⟨w', z⟩ := I.cell y c e
      exact ⟨w', z.sameBut hs (cne y c e)⟩
    · obtain ⟨e, n, ne, nf, d⟩ := I.pin p hp
      exact ⟨(hs.2 p.1 ne).trans e, n, ne, nf, d⟩
  · have hfn : X.fn x = true := by
      rcases hf with z | z
      · exact z
      · rw [z] at hk; cases hk
    obtain ⟨c, hc⟩ := I.ok.has x (.inl hk)
    obtain ⟨w', z⟩ := I.cell x c hc
    refine wpAny_storeName_cell I.ok.kind hk hc z (fun h' hc' hs => ?_)
    obtain ⟨oc, hoc, hocd⟩ := id z
    refine h { s with heap := h' } ⟨I.ok, I.os, I.bare, ⟨fun b o e n hb hx => ?_, fun b o e n hb hx => ?_, I.base.free, fun b o e hx => ?_, I.base.tups, I.base.frzs, I.base.tbls⟩, ⟨m, hn.sameBut hs (Ne.symm (cne x c hc)), fun j y v' e1 e2 e3 => ?_⟩, fun y c' e => ?_, I.free, I.freeC, fun p hp => ?_, tracked ⟨oc, hoc, I.freeC x c hc⟩ hs, by simpa using I.len⟩ ⟨c, hs, .inr hc⟩
    · exact (hs.2 b (Nat.ne_of_lt (Nat.lt_of_lt_of_le (Heap.lt_size e) (I.ok.cab x c hfn hc)))).trans (I.base.keep b o e n hb hx)
    · obtain ⟨sl, e1⟩ := I.base.slot b o e n hb hx
      exact ⟨sl, (hs.2 b (Nat.ne_of_lt (Nat.lt_of_lt_of_le (Heap.lt_size e) (I.ok.cab x c hfn hc)))).trans e1⟩
    · obtain ⟨o', e1⟩ := I.base.there b o e hx
      exact ⟨o', (hs.2 b (Nat.ne_of_lt (Nat.lt_of_lt_of_le (Heap.lt_size e) (I.ok.cab x c hfn hc)))).trans e1⟩
    · by_cases hj : j = i
      · subst hj
        rw [hi] at e1; cases e1
        rw [List.getElem?_set_self hiσ] at e2
        cases e2
        exact ⟨u, r, .inr ⟨.inl hk, c, hc, hc'⟩⟩
      · rw [List.getElem?_set_ne (Ne.symm hj)] at e2
        obtain ⟨u', r', q⟩ := hl j y v' e1 e2 e3
        refine ⟨u', r', ?_⟩
        rcases q with q | ⟨k, c', e, z'⟩
        · exact .inl q
        · refine .inr ⟨k, c', e, z'.sameBut hs ?_⟩
          rintro rfl
          exact hj (nodup_ix hN e1 (I.ok.inj _ _ _ e hc ▸ hi))
    · by_cases hcc : c' = c
      · subst hcc; exact ⟨_, hc'⟩
      · obtain ⟨w2, z2⟩ := I.cell y c' e
        exact ⟨w2, z2.sameBut hs hcc⟩
    · obtain ⟨e, n, ne, nf, d⟩ := I.pin p hp
      refine ⟨(hs.2 p.1 ?_).trans e, n, ne, nf, d⟩
      intro q
      rw [q, hoc] at e
      have q' : oc = p.2 := Option.some.inj e
      exact d w' (by rw [← q']; exact hocd)
theorem store_ok {M : Model} {A : Around} {E : Value → Shared → Prop} {i : Nat} {x : Str} {v : V} {u : Value} {Q : Unit → Shared → Prop} (I : Inv X pins σ H s) (hN : X.N.Nodup) (hi : X.N[i]? = some x) (hx : Loc X.env.scope x) (r : RelV v u)
    (h : ∀ s', Inv X pins (σ.set i (some v)) H s' → Q () s') (hf : X.fn x = true ∨ X.env.scope.names.lookup x = some .local := by first | exact .inl rfl | exact .inr rfl | assumption) : wpAny M A (storeName X.env x u) Q E s :=
  store_ok2 I hN hi hx r (fun s' I' _ => h s' I') hf
theorem Inv.call' {s' : Shared} {ch : List Addr} (I : Inv X pins σ H s) (ho : s'.os = s.os) (u : Un (frs X.stack) ch H H' s.heap s'.heap) (hok : HOk X.prog X.w H' s'.heap) (hg : AllBare s'.gens)
    (hch : ∀ b ∈ ch, (b ∈ X.ex ∨ X.s_0.heap.objs.size ≤ b) ∧ b ≠ X.env.locals ∧ (∀ x c, X.env.cells.lookup x = some c → c ≠ b) ∧ ∀ p ∈ X.pn ++ pins, p.1 ≠ b) : Inv X pins σ H' s' := by
  obtain ⟨h', g', d', t', o'⟩ := s'
  have e : o' = s.os := ho
  subst e
  exact I.call (g' := g') (t' := t') (d' := d') u hok hg hch
end
noncomputable abbrev XK := Value → Option Addr → Hp → Prop
noncomputable abbrev St := List (Option V)
noncomputable abbrev VK := V → Hp → Prop
noncomputable abbrev TE := St → Hp → VK → Prop
noncomputable abbrev TT := St → Hp → (Bool → Hp → Prop) → Prop
noncomputable abbrev TA := St → Hp → (List V → Hp → Prop) → Prop
structure Ends where
  nx : St → Hp → Prop
  rt : VK
  bk : St → Hp → Prop := fun _ _ => False
  ct : St → Hp → Prop := fun _ _ => False
noncomputable abbrev TS := Ends → St → Hp → Prop
def EP (X : Cx) (pins : List (Addr × Obj)) (σ : St) (Q : VK) (u : Value) (s' : Shared) : Prop := ∃ v H', Inv X pins σ H' s' ∧ RelV v u ∧ Q v H'
def TP (X : Cx) (pins : List (Addr × Obj)) (σ : St) (Q : Bool → Hp → Prop) (b : Bool) (s' : Shared) : Prop := ∃ H', Inv X pins σ H' s' ∧ Q b H'
def AP (X : Cx) (pins : List (Addr × Obj)) (σ : St) (Q : List V → Hp → Prop) (us : List Value) (s' : Shared) : Prop := ∃ vs H', Inv X pins σ H' s' ∧ Vals vs us ∧ Q vs H'
def SP (X : Cx) (pins : List (Addr × Obj)) (D : Ends) (f : Flow) (s' : Shared) : Prop :=
  match f with
  | .next => ∃ σ' H', Inv X pins σ' H' s' ∧ D.nx σ' H'
  | .brk => ∃ σ' H', Inv X pins σ' H' s' ∧ D.bk σ' H'
  | .cont => ∃ σ' H', Inv X pins σ' H' s' ∧ D.ct σ' H'
  | .ret u => ∃ v σ' H', Inv X pins σ' H' s' ∧ RelV v u ∧ D.rt v H'
def PE (X : Cx) (e : Expr) (t : TE) : Prop :=
  ∀ (pins : List (Addr × Obj)) (s : Shared) (σ : St) (H : Hp) (Q : VK), Inv X pins σ H s → t σ H Q → wpAny (model X.prog X.w) X.A (eval e X.env) (EP X pins σ Q) X.xe s
def PT (X : Cx) (e : Expr) (t : TT) : Prop :=
  ∀ (pins : List (Addr × Obj)) (s : Shared) (σ : St) (H : Hp) (Q : Bool → Hp → Prop), Inv X pins σ H s → t σ H Q → wpAny (model X.prog X.w) X.A (isTrue e X.env (eval e X.env)) (TP X pins σ Q) X.xe s
def PW (X : Cx) (e : Expr) (t : TT) : Prop :=
  ∀ (whole : Sem Value) (pins : List (Addr × Obj)) (s : Shared) (σ : St) (H : Hp) (Q : Bool → Hp → Prop), Inv X pins σ H s → t σ H Q → wpAny (model X.prog X.w) X.A (isTrue e X.env whole) (TP X pins σ Q) X.xe s
theorem PW.pt {X : Cx} {e : Expr} {t : TT} (h : PW X e t) : PT X e t := h _
def PA (X : Cx) (es : List Expr) (t : TA) : Prop :=
  ∀ (pos : Pos) (pins : List (Addr × Obj)) (s : Shared) (σ : St) (H : Hp) (Q : List V → Hp → Prop), Inv X pins σ H s → t σ H Q → wpAny (model X.prog X.w) X.A (spliced (backTo pos (starEach es X.env))) (AP X pins σ Q) X.xe s
def PS (X : Cx) (st : Stmt) (t : TS) : Prop :=
  ∀ (pins : List (Addr × Obj)) (s : Shared) (σ : St) (H : Hp) (D : Ends), Inv X pins σ H s → t D σ H → wpAny (model X.prog X.w) X.A (exec st X.env) (SP X pins D) X.xe s
def PSs (X : Cx) (st : List Stmt) (t : TS) : Prop :=
  ∀ (pins : List (Addr × Obj)) (s : Shared) (σ : St) (H : Hp) (D : Ends), Inv X pins σ H s → t D σ H → wpAny (model X.prog X.w) X.A (execs st X.env) (SP X pins D) X.xe s
theorem thn {α : Type} {t : Sem α} {Q Q' : α → Shared → Prop} {M : Model} {A : Around} {E : Value → Shared → Prop} {s : Shared} (h : wpAny M A t Q E s) (hQ : ∀ a s, Q a s → Q' a s) : wpAny M A t Q' E s := wpAny_mono h hQ fun _ _ x => x
end L2
namespace L2
open PySem PySem.Spec PyProof.Rows
section
variable {X : Cx}
theorem bin {a b : Expr} {ta tb : TE} (ha : PE X a ta) (hb : PE X b tb) {pins : List (Addr × Obj)} {s : Shared} {σ : St} {H : Hp} {R : V → V → Hp → Prop} (I : Inv X pins σ H s) (h : ta σ H fun x H1 => tb σ H1 fun y H2 => R x y H2)
    {α : Type} {Q : α → Shared → Prop} {f : Value → Value → Sem α}
    (hf : ∀ v u s2 x y H2, Inv X pins σ H2 s2 → RelV x v → RelV y u → R x y H2 → wpAny (model X.prog X.w) X.A (f v u) Q X.xe s2) :
    wpAny (model X.prog X.w) X.A (eval a X.env) (fun v s₁ => wpAny (model X.prog X.w) X.A (eval b X.env) (fun u s₂ => wpAny (model X.prog X.w) X.A (f v u) Q X.xe s₂) X.xe s₁) X.xe s := by
  refine thn (ha pins s σ H _ I h) fun v s1 zz => ex5 zz fun x H1 I1 r1 q1 => ?_
  refine thn (hb pins s1 σ H1 _ I1 q1) fun u s2 zz => ex5 zz fun y H2 I2 r2 q2 => ?_
  exact hf v u s2 x y H2 I2 r1 r2 q2
noncomputable def tVar (i : Nat) : TE := fun σ H Q => ∃ v, σ[i]? = some (some v) ∧ Q v H
noncomputable def tC (v : V) : TE := fun _ H Q => Q v H
theorem pe_var {i : Nat} {x : Str} {pos : Pos} (hN : X.N[i]? = some x) (hv : Vis X.env.scope x) (hd : (x == ("__debug__" : Str)) = false := by decide) (hcd : (x == ("__classdict__" : Str)) = false := by decide) : PE X (.Name x pos) (tVar i) := by
  intro pins s σ H Q I h
  obtain ⟨v, e, h⟩ := h
  obtain ⟨m, hn, hl⟩ := I.loc
  obtain ⟨u, r, l⟩ := hl i x v hN e hv
  have fin : EP X pins σ Q u s := ⟨v, H, I, r, h⟩
  rcases l with ⟨hk, hm⟩ | ⟨hk, c, hc, hcell⟩
  · exact wpAny_Name (wpAny_loadName_local I.ok.kind hk hn hm fin) hd
  · rcases hk with hk | hk
    · exact wpAny_Name (wpAny_loadName_cell I.ok.kind hk hc hcell fin) hd
    · exact wpAny_Name (wpAny_loadName_free I.ok.kind hk hc hcell fin hcd) hd
theorem pe_int {i j pos} : PE X (.Constant (.int i) j pos) (tC (.int i)) := fun _ _ _ H _ I h => wpAny_Constant_int ⟨.int i, H, I.tok _, ⟨_, rfl⟩, h⟩
theorem pe_bl {b j pos} : PE X (.Constant (.bool b) j pos) (tC (.bl b)) := fun _ _ _ H _ I h => Constant_bool ⟨.bl b, H, I, rfl, h⟩
theorem pe_non {j pos} : PE X (.Constant .none j pos) (tC .non) := fun _ _ _ H _ I h => Constant_none ⟨.non, H, I, rfl, h⟩
def Gl (X : Cx) (x : Str) : Prop := X.env.kindOf x = some .globalImplicit
theorem ld_glob {E : Value → Shared → Prop} {pins : List (Addr × Obj)} {s : Shared} {σ : St} {H : Hp} {x : Str} {u : Value} {pos : Pos} {Q : Value → Shared → Prop} (I : Inv X pins σ H s) (hg : Gl X x) (hm : X.mg x = some u) (h : Q u s)
    (hd : (x == ("__debug__" : Str)) = false := by decide) : wpAny (model X.prog X.w) X.A (eval (.Name x pos) X.env) Q E s :=
  Calls.Name_function_global I.ok.kind hg (Calls.loadGlobal_global (by rw [I.ok.glob]; exact I.mod.glob.keeps I.bk) hm h) hd
theorem ld_blt {E : Value → Shared → Prop} {pins : List (Addr × Obj)} {s : Shared} {σ : St} {H : Hp} {x : Str} {u : Value} {pos : Pos} {Q : Value → Shared → Prop} (I : Inv X pins σ H s) (hg : Gl X x) (hm : X.mg x = none) (hv : bootBuiltins x = some u) (h : Q u s)
    (hn : x ≠ "__name__" := by decide) (hd : (x == ("__debug__" : Str)) = false := by decide) : wpAny (model X.prog X.w) X.A (eval (.Name x pos) X.env) Q E s := by
  obtain ⟨mb, h1, h2⟩ := I.mod.blt
  exact Calls.Name_function_global I.ok.kind hg (Calls.loadGlobal_builtin (by rw [I.ok.glob]; exact I.mod.glob.keeps I.bk) hm (by rw [I.ok.blt]; exact h1.keeps I.bk) ((h2 x hn).trans hv) h) hd
theorem pe_glob {x : Str} {v : V} {u : Value} {pos : Pos} (hg : Gl X x) (hm : X.mg x = some u) (r : RelV v u) (hd : (x == ("__debug__" : Str)) = false := by decide) : PE X (.Name x pos) (tC v) :=
  fun _ _ _ H _ I h => ld_glob I hg hm ⟨v, H, I, r, h⟩ hd
variable {a b : Expr} {ta tb : TE} {pos : Pos}
def PC (X : Cx) (op : CmpOp) (a b : Expr) (t : TE) : Prop :=
  ∀ (pins : List (Addr × Obj)) (s : Shared) (σ : St) (H : Hp) (Q : VK), Inv X pins σ H s → t σ H Q →
    wpAny (model X.prog X.w) X.A (eval a X.env) (fun v s₁ => wpAny (model X.prog X.w) X.A (eval b X.env) (fun u s₂ => wpAny (model X.prog X.w) X.A (compareOp op v u) (EP X pins σ Q) X.xe s₂) X.xe s₁) X.xe s
theorem nobehind (b : Expr) {op : CmpOp} (h : op ≠ .In) (h2 : op ≠ .NotIn) : behindInMarks op b = false := by
  have e1 : (op == CmpOp.In) = false := by cases op <;> first | rfl | exact absurd rfl h
  have e2 : (op == CmpOp.NotIn) = false := by cases op <;> first | rfl | exact absurd rfl h2
  cases b <;> first | rfl | (show ((_ && (_ || _)) && _) = false; rw [e1, e2, Bool.or_self, Bool.and_false, Bool.false_and])
noncomputable def tIsN (ta : TE) : TE := fun σ H Q => ta σ H fun x H1 => Q (.bl (decide (x = .non))) H1
noncomputable def tNotN (ta : TE) : TE := fun σ H Q => ta σ H fun x H1 => Q (.bl (!decide (x = .non))) H1
theorem RelV.none_iff {x : V} {v : Value} (r : RelV x v) : (v == Value.none) = decide (x = .non) := by
  cases x with
  | non => cases r; rfl
  | bl _ => cases r; rfl
  | int _ => obtain ⟨t, rfl⟩ := r; rfl
  | str _ => obtain ⟨t, rfl⟩ := r; rfl
  | byt _ => obtain ⟨t, rfl⟩ := r; rfl
  | flt _ => obtain ⟨t, rfl⟩ := r; rfl
  | ref _ => cases r; rfl
  | ty _ => cases r; rfl
theorem pc_isN {j pos'} (ha : PE X a ta) : PC X .Is a (.Constant .none j pos') (tIsN ta) := by
  intro pins s σ H Q I h
  refine thn (ha pins s σ H _ I h) fun v s1 zz => ex5 zz fun x H1 I1 r1 q1 => ?_
  exact Constant_none (is_none_gen ⟨.bl _, H1, I1, by rw [r1.none_iff]; rfl, q1⟩)
theorem pc_notN {j pos'} (ha : PE X a ta) : PC X .IsNot a (.Constant .none j pos') (tNotN ta) := by
  intro pins s σ H Q I h
  refine thn (ha pins s σ H _ I h) fun v s1 zz => ex5 zz fun x H1 I1 r1 q1 => ?_
  exact Constant_none (isnot_none_gen ⟨.bl _, H1, I1, by rw [r1.none_iff]; rfl, q1⟩)
noncomputable def tB (t : TE) : TT := fun σ H Q => t σ H fun x H1 => ∃ c, x = .bl c ∧ Q c H1
theorem pt_cmp {op : CmpOp} {t : TE} (h : PC X op a b t) (h1 : behindInMarks op b = false := by first | exact nobehind _ (by decide) (by decide) | rfl) : PT X (.Compare a [op] [b] pos) (tB t) := by
  intro pins s σ H Q I hw
  refine wpAny_isTrue_Compare1 (thn (h pins s σ H _ I hw) fun v s1 h1 => thn h1 fun u s2 h2 => thn h2 fun c s3 zz => ex5 zz fun x H1 I1 r1 q1 => ?_) h1
  obtain ⟨d, rfl, q⟩ := q1
  cases r1
  exact wpAny_truthy_bool ⟨H1, I1, q⟩
theorem pt_val {e : Expr} {t : TE} (h : PE X e t) (he : ∀ whole, isTrue e X.env whole = (do let v ← whole; standAt e.pos; holding [v] (truthy v)) := by intro _; rfl) : PT X e (tB t) := by
  intro pins s σ H Q I hw
  refine isTrue_plain (thn (h pins s σ H _ I hw) fun v s1 zz => ex5 zz fun x H1 I1 r1 q1 => ?_) (he _)
  obtain ⟨d, rfl, q⟩ := q1
  cases r1
  exact wpAny_truthy_bool ⟨H1, I1, q⟩
variable {tA tB' : TT} {rest : List Expr}
noncomputable def tOr (t u : TT) : TT := fun σ H Q => t σ H fun c H1 => if c = true then Q true H1 else u σ H1 Q
noncomputable def tNot (t : TT) : TT := fun σ H Q => t σ H fun c H1 => Q (!c) H1
theorem pw_or1 (ha : PT X a tA) : PW X (.BoolOp .Or [a] pos) tA := by
  intro wh pins s σ H Q I h
  refine isTrue_or (thn (ha pins s σ H Q I h) fun c s1 e => ?_)
  cases c with
  | false => exact isTrue_or_nil e
  | true => exact e
theorem pw_or (ha : PT X a tA) (hb : PW X (.BoolOp .Or (b :: rest) pos) tB') : PW X (.BoolOp .Or (a :: b :: rest) pos) (tOr tA tB') := by
  intro wh pins s σ H Q I h
  refine isTrue_or (thn (ha pins s σ H _ I h) fun c s1 zz => ex3 zz fun H1 I1 q1 => ?_)
  cases c with
  | true => exact ⟨H1, I1, q1⟩
  | false => exact hb wh pins s1 σ H1 Q I1 q1
theorem pt_not (ha : PT X a tA) : PT X (.UnaryOp .Not a pos) (tNot tA) := by
  intro pins s σ H Q I h
  exact isTrue_not (ha pins s σ H (fun c H1 => Q (!c) H1) I h)
noncomputable def tAndV (ta tb : TE) : TE := fun σ H Q => ta σ H fun x H1 => ∃ c, x = .bl c ∧ if c = true then tb σ H1 Q else Q (.bl false) H1
theorem pe_one {op} {t : TE} (h : PE X a t) : PE X (.BoolOp op [a] pos) t := fun pins s σ H Q I hw => BoolOp_one (h pins s σ H Q I hw)
theorem pe_and (ha : PE X a ta) (hb : PE X (.BoolOp .And (b :: rest) pos) tb) : PE X (.BoolOp .And (a :: b :: rest) pos) (tAndV ta tb) := by
  intro pins s σ H Q I h
  refine BoolOp_and (thn (ha pins s σ H _ I h) fun v s1 zz => ex5 zz fun x H1 I1 r1 q1 => ?_)
  obtain ⟨c, rfl, q1⟩ := q1
  cases r1
  refine wpAny_truthy_bool ?_
  cases c with
  | true => exact hb pins s1 σ H1 Q I1 q1
  | false => exact ⟨.bl false, H1, I1, rfl, q1⟩
noncomputable def tIf (t : TT) (ta tb : TE) : TE := fun σ H Q => t σ H fun c H1 => if c = true then ta σ H1 Q else tb σ H1 Q
theorem pe_ifExp {c : Expr} (hc : PT X c tA) (ha : PE X a ta) (hb : PE X b tb) : PE X (.IfExp c a b pos) (tIf tA ta tb) := by
  intro pins s σ H Q I h
  refine wpAny_IfExp (thn (hc pins s σ H _ I h) fun d s1 zz => ex3 zz fun H1 I1 q1 => ?_)
  cases d with
  | true => exact ha pins s1 σ H1 Q I1 q1
  | false => exact hb pins s1 σ H1 Q I1 q1
end
end L2
namespace L2
open PySem PySem.Spec PyProof.Rows
def SqL (K : PySem.W.Frag) (H : Hp) (a : Addr) (xs : List V) : Prop :=
  Rd H a (.lst xs) ∨
    ∃ (o : Obj) (its : Array Value) (n : Nat), K.lookup a = some o ∧ o.cls = .type "list" ∧ o.dict = none ∧ o.data = .seq its n ∧ its.size ≤ sizeLine ∧ Vals xs its.toList
def SqT (K : PySem.W.Frag) (H : Hp) (a : Addr) (xs : List V) : Prop :=
  Rd H a (.tup xs) ∨
    ∃ (o : Obj) (its : Array Value) (n : Nat), K.lookup a = some o ∧ o.cls = .type "tuple" ∧ o.data = .seq its n ∧ its.size ≤ sizeLine ∧ Vals xs its.toList
noncomputable def absV : Value → Option V
  | .none => some .non
  | .bool b => some (.bl b)
  | .int i _ => some (.int i)
  | .str x _ => some (.str x)
  | .bytes b _ => some (.byt b)
  | .float b _ => some (.flt b)
  | .ref a => some (.ref a)
  | .type n => some (.ty n)
  | _ => none
theorem RelV.abs {x : V} {u : Value} (r : RelV x u) : absV u = some x := by
  cases x with
  | non => cases r; rfl
  | bl _ => cases r; rfl
  | int _ => obtain ⟨t, rfl⟩ := r; rfl
  | str _ => obtain ⟨t, rfl⟩ := r; rfl
  | byt _ => obtain ⟨t, rfl⟩ := r; rfl
  | flt _ => obtain ⟨t, rfl⟩ := r; rfl
  | ref _ => cases r; rfl
  | ty _ => cases r; rfl
theorem RelV.inj {x y : V} {u : Value} (r : RelV x u) (q : RelV y u) : x = y := Option.some.inj (r.abs.symm.trans q.abs)
theorem Vals.inj {xs ys : List V} {us : List Value} (p : Vals xs us) : Vals ys us → xs = ys := by
  induction p generalizing ys with
  | nil => intro q; cases q; rfl
  | cons r _ ih => intro q; cases q with | cons r' t' => rw [r.inj r', ih t']
section
variable {X : Cx} {pins : List (Addr × Obj)} {σ : St} {H : Hp} {s : Shared} {a : Addr} {xs ys : List V}
theorem SqL.of {K : PySem.W.Frag} (h : H a = some (.lst xs)) : SqL K H a xs := .inl (.inl h)
theorem SqT.of {K : PySem.W.Frag} (h : H a = some (.tup xs)) : SqT K H a xs := .inl (.inl h)
theorem Inv.list (I : Inv X pins σ H s) (h : SqL X.K H a xs) : ∃ its : List Value, Vals xs its ∧ PlainL s.heap a its.toArray ∧ xs.length ≤ sizeLine := by
  rcases h with h | ⟨o, its, n, hk, hc, hd, hs, hz, r⟩
  · obtain ⟨z, its, n, r, e⟩ := h.ok I.hok
    exact ⟨its, r, ⟨_, n, e, rfl, rfl, rfl⟩, z⟩
  · refine ⟨its.toList, r, ⟨o, n, I.kIn a o hk, hc, hd, by simpa using hs⟩, ?_⟩
    have e := r.length
    simp only [Array.length_toList] at e
    omega
theorem Inv.tuple (I : Inv X pins σ H s) (h : SqT X.K H a xs) : ∃ its : List Value, Vals xs its ∧ IsTup s.heap a its.toArray ∧ xs.length ≤ sizeLine := by
  rcases h with h | ⟨o, its, n, hk, hc, hs, hz, r⟩
  · obtain ⟨z, its, r, p⟩ := h.ok I.hok
    exact ⟨its, r, p, z⟩
  · refine ⟨its.toList, r, ⟨o, I.kIn a o hk, hc, n, by simpa using hs⟩, ?_⟩
    have e := r.length
    simp only [Array.length_toList] at e
    omega
theorem Inv.list_inj (I : Inv X pins σ H s) (h : SqL X.K H a xs) (h' : SqL X.K H a ys) : xs = ys := by
  obtain ⟨its, r, ⟨o, n, e, _, _, d⟩, _⟩ := I.list h
  obtain ⟨its', r', ⟨o', n', e', _, _, d'⟩, _⟩ := I.list h'
  rw [e] at e'; cases e'
  rw [d] at d'
  injection d' with d1 _
  have : its = its' := by simpa using congrArg Array.toList d1
  subst this
  exact r.inj r'
theorem Inv.tuple_inj (I : Inv X pins σ H s) (h : SqT X.K H a xs) (h' : SqT X.K H a ys) : xs = ys := by
  obtain ⟨its, r, ⟨o, e, _, n, d⟩, _⟩ := I.tuple h
  obtain ⟨its', r', ⟨o', e', _, n', d'⟩, _⟩ := I.tuple h'
  rw [e] at e'; cases e'
  rw [d] at d'
  injection d' with d1 _
  have : its = its' := by simpa using congrArg Array.toList d1
  subst this
  exact r.inj r'
end
noncomputable abbrev Cx.wish (X : Cx) (E : Value → Shared → Prop) : Cx := { X with xe := E }
noncomputable abbrev Cx.nox (X : Cx) : Cx := X.wish fun _ _ => False
theorem Cx.Ok.wish {X : Cx} (ok : X.Ok) (E : Value → Shared → Prop) : (X.wish E).Ok :=
  ⟨ok.mod, ok.kind, ok.glob, ok.blt, ok.above, ok.inj, ok.has, ok.cab, ok.hd, ok.frames, ok.stk, ok.exf, ok.bs, ok.bsz, ok.noex, ok.exfs, ok.funs, ok.frf⟩
theorem Cx.Ok.unwish {X : Cx} {E : Value → Shared → Prop} (ok : (X.wish E).Ok) : X.Ok :=
  ⟨ok.mod, ok.kind, ok.glob, ok.blt, ok.above, ok.inj, ok.has, ok.cab, ok.hd, ok.frames, ok.stk, ok.exf, ok.bs, ok.bsz, ok.noex, ok.exfs, ok.funs, ok.frf⟩
section
variable {X : Cx} {pins : List (Addr × Obj)} {σ : St} {H : Hp} {s : Shared} {E : Value → Shared → Prop}
theorem Inv.wish (I : Inv X pins σ H s) (E : Value → Shared → Prop) : Inv (X.wish E) pins σ H s := ⟨I.ok.wish E, I.os, I.bare, I.base, I.loc, I.cell, I.free, I.freeC, I.pin, I.hok, I.len⟩
theorem Inv.unwish (I : Inv (X.wish E) pins σ H s) : Inv X pins σ H s := ⟨I.ok.unwish, I.os, I.bare, I.base, I.loc, I.cell, I.free, I.freeC, I.pin, I.hok, I.len⟩
theorem SP.unwish {D : Ends} {f : Flow} {s' : Shared} (h : SP (X.wish E) pins D f s') : SP X pins D f s' := by
  cases f with
  | next => obtain ⟨σ', H', I, q⟩ := h; exact ⟨σ', H', I.unwish, q⟩
  | brk => obtain ⟨σ', H', I, q⟩ := h; exact ⟨σ', H', I.unwish, q⟩
  | cont => obtain ⟨σ', H', I, q⟩ := h; exact ⟨σ', H', I.unwish, q⟩
  | ret u => obtain ⟨v, σ', H', I, r, q⟩ := h; exact ⟨v, σ', H', I.unwish, r, q⟩
theorem PSs.nox {st : List Stmt} {t : TS} (h : PSs X.nox st t) : PSs X st t := fun pins s σ H D I hw =>
  wpAny_mono (h pins s σ H D (I.wish _) hw) (fun _ _ q => q.unwish) fun _ _ z => False.elim z
end
section
variable {X : Cx} {st : Stmt} {rest : List Stmt} {t u : TS} {e : Expr} {te : TE} {pos : Pos}
noncomputable def tNext : TS := fun D σ H => D.nx σ H
noncomputable def tSeq (t u : TS) : TS := fun D σ H => t { D with nx := u D } σ H
theorem pss_nil : PSs X [] tNext := fun _ _ σ H _ I h => wpAny_execs_nil ⟨σ, H, I, h⟩
theorem pss_cons (h1 : PS X st t) (h2 : PSs X rest u) : PSs X (st :: rest) (tSeq t u) := by
  intro pins s σ H D I h
  refine wpAny_execs_cons (thn (h1 pins s σ H { D with nx := u D } I h) fun f s1 q => ?_)
  cases f with
  | next =>
    obtain ⟨σ', H', I', q⟩ := q
    exact h2 pins s1 σ' H' D I' q
  | ret v => exact q
  | brk => exact q
  | cont => exact q
theorem pss_one (h1 : PS X st t) : PSs X [st] t := by
  intro pins s σ H D I h
  refine wpAny_execs_cons (thn (h1 pins s σ H D I h) fun f s1 q => ?_)
  cases f with
  | next => exact wpAny_execs_nil q
  | ret v => exact q
  | brk => exact q
  | cont => exact q
noncomputable def tCont : TS := fun D σ H => D.ct σ H
theorem ps_continue : PS X (.Continue pos) tCont := fun _ _ σ H _ I h => wpAny_Continue ⟨σ, H, I, h⟩
theorem Inv.quiet {pins : List (Addr × Obj)} {σ : St} {H : Hp} {s : Shared} (I : Inv X pins σ H s) : interactive X.env = false := by simp [interactive, I.ok.kind]
noncomputable def tDrop (te : TE) : TS := fun D σ H => te σ H fun _ H1 => D.nx σ H1
theorem ps_expr (he : PE X e te) (hs : swapsWith e none pos.line X.env = pure false := by rfl) : PS X (.Expr e pos) (tDrop te) := by
  intro pins s σ H D I h
  exact wpAny_Expr_any (thn (he pins s σ H _ I h) fun v s1 zz => ex5 zz fun x H1 I1 r1 q1 => ⟨σ, H1, I1, q1⟩) I.quiet hs
noncomputable def tRet (te : TE) : TS := fun D σ H => te σ H D.rt
theorem ps_ret (he : PE X e te) : PS X (.Return (some e) pos) (tRet te) := by
  intro pins s σ H D I h
  exact wpAny_Return_some (thn (he pins s σ H _ I h) fun v s1 zz => ex5 zz fun x H1 I1 r1 q1 => ⟨x, σ, H1, I1, r1, q1⟩)
noncomputable def tIfS (c : TT) (t u : TS) : TS := fun D σ H => c σ H fun b H1 => if b = true then t D σ H1 else u D σ H1
theorem ps_if {c : Expr} {a b : List Stmt} {tc : TT} (hc : PT X c tc) (ha : PSs X a t) (hb : PSs X b u) : PS X (.If c a b pos) (tIfS tc t u) := by
  intro pins s σ H D I h
  refine wpAny_If (thn (hc pins s σ H _ I h) fun d s1 zz => ex3 zz fun H1 I1 q1 => ?_)
  cases d with
  | true => exact ha pins s1 σ H1 D I1 q1
  | false => exact hb pins s1 σ H1 D I1 q1
noncomputable def tNever : TS := fun _ _ _ => False
theorem pss_never {sts : List Stmt} : PSs X sts tNever := fun _ _ _ _ _ _ h => h.elim
end
noncomputable abbrev TG := V → St → Hp → (St → Hp → Prop) → Prop
noncomputable abbrev TGs := List V → St → Hp → (St → Hp → Prop) → Prop
def PG (X : Cx) (target : Expr) (t : TG) : Prop :=
  ∀ (pins : List (Addr × Obj)) (s : Shared) (σ : St) (H : Hp) (v : V) (u : Value) (Q : St → Hp → Prop), Inv X pins σ H s → RelV v u → t v σ H Q →
    wpAny (model X.prog X.w) X.A (assign target X.env u) (fun _ s' => ∃ σ' H', Inv X pins σ' H' s' ∧ Q σ' H') X.xe s
def PGs (X : Cx) (ts : List Expr) (t : TGs) : Prop :=
  ∀ (pins : List (Addr × Obj)) (s : Shared) (σ : St) (H : Hp) (vs : List V) (us : List Value) (Q : St → Hp → Prop), Inv X pins σ H s → Vals vs us → t vs σ H Q →
    wpAny (model X.prog X.w) X.A (assignInOrder ((assignEach ts X.env).map (·.2)) us) (fun _ s' => ∃ σ' H', Inv X pins σ' H' s' ∧ Q σ' H') X.xe s
noncomputable abbrev TSet := V → V → V → Hp → (Hp → Prop) → Prop
def PSet (X : Cx) (t : TSet) : Prop :=
  ∀ (pins : List (Addr × Obj)) (s : Shared) (σ : St) (H : Hp) (o i v : V) (ov iv u : Value) (Q : Hp → Prop), Inv X pins σ H s → RelV o ov → RelV i iv → RelV v u → t o i v H Q →
    wpAny (model X.prog X.w) X.A (setItem ov iv u) (fun _ s' => ∃ H', Inv X pins σ H' s' ∧ Q H') X.xe s
noncomputable abbrev TIp := V → V → Hp → VK → Prop
def PIp (X : Cx) (op : Operator) (t : TIp) : Prop :=
  ∀ (pins : List (Addr × Obj)) (s : Shared) (σ : St) (H : Hp) (x y : V) (v u : Value) (Q : VK), Inv X pins σ H s → RelV x v → RelV y u → t x y H Q →
    wpAny (model X.prog X.w) X.A (inplaceOp op v u) (EP X pins σ Q) X.xe s
section
variable {X : Cx} {pos : Pos}
noncomputable def gName (i : Nat) : TG := fun v σ H Q => Q (σ.set i (some v)) H
theorem pg_name {i : Nat} {x : Str} (hN : X.N.Nodup) (hi : X.N[i]? = some x) (hx : Loc X.env.scope x) (hf : X.fn x = true ∨ X.env.scope.names.lookup x = some .local := by first | exact .inl rfl | exact .inr rfl | assumption) : PG X (.Name x pos) (gName i) := by
  intro pins s σ H v u Q I r h
  exact wpAny_assign_Name (store_ok I hN hi hx r (fun s' I' => ⟨_, H, I', h⟩) hf)
noncomputable def gNil : TGs := fun vs σ H Q => vs = [] ∧ Q σ H
noncomputable def gCons (t : TG) (u : TGs) : TGs := fun vs σ H Q => ∃ v r, vs = v :: r ∧ t v σ H fun σ' H' => u r σ' H' Q
theorem pgs_nil : PGs X [] gNil := by
  intro pins s σ H vs us Q I r h
  obtain ⟨e, h⟩ := h
  subst e
  cases r
  exact assignInOrder_nil ⟨σ, H, I, h⟩
theorem pgs_cons {e : Expr} {es : List Expr} {t : TG} {u : TGs} (h1 : PG X e t) (h2 : PGs X es u)
    (hs : (assignEach (e :: es) X.env).map (·.2) = assign e X.env :: (assignEach es X.env).map (·.2) := by rfl) : PGs X (e :: es) (gCons t u) := by
  intro pins s σ H vs us Q I r h
  obtain ⟨v, vr, e1, h⟩ := h
  subst e1
  cases r with
  | cons r rr =>
    rw [hs]
    refine assignInOrder_cons (thn (h1 pins s σ H _ _ _ I r h) fun _ s1 zz => ex4 zz fun σ1 H1 I1 q1 => ?_)
    exact h2 pins s1 σ1 H1 _ _ Q I1 rr q1
noncomputable def gTup (K : PySem.W.Frag) (n : Nat) (t : TGs) : TG := fun v σ H Q => ∃ a xs, v = .ref a ∧ SqT K H a xs ∧ xs.length = n ∧ t xs σ H Q
theorem pg_tup {es : List Expr} {k : Nat} {t : TGs} {n : Nat} (hc : X.calm = true) (h : PGs X es t)
    (hn : (assignEach es X.env).length = n := by rfl) (hst : (assignEach es X.env).findIdx? (·.1) = none := by rfl) : PG X (.Tuple es k pos) (gTup X.K n t) := by
  intro pins s σ H v u Q I r hw
  obtain ⟨a, xs, e1, hq, hl, hw⟩ := hw
  subst e1
  cases r
  obtain ⟨its, rv, ht, hz⟩ := I.tuple hq
  refine assign_Tuple_tuple (I.ok.hd hc) ht (by simp [hn, ← hl, rv.length]) hst fun h' hx => ?_
  have I1 : Inv X pins σ H { s with heap := h' } := I.kept (t' := s.toks) fun b o e => hx b o (Nat.ne_of_lt (Heap.lt_size e)) e
  exact h pins _ σ H xs _ Q I1 (by simpa using rv) hw
noncomputable def gSub (to ti : TE) (t : TSet) : TG := fun v σ H Q => to σ H fun o H1 => ti σ H1 fun i H2 => t o i v H2 fun H3 => Q σ H3
theorem pg_sub {o i : Expr} {to ti : TE} {t : TSet} (ho : PE X o to) (hi : PE X i ti) (hs : PSet X t)
    (ha : ∀ v, assign (.Subscript o i pos) X.env v = (do
      let ov ← holding [v] (eval o X.env)
      let iv ← holding [v, ov] (eval i X.env)
      standAt pos
      holding [v, ov, iv] (setItem ov iv v)
      release [v, ov, iv] []) := by intro _; rfl) : PG X (.Subscript o i pos) (gSub to ti t) := by
  intro pins s σ H v u Q I r h
  rw [ha]
  refine wpAny_bind (wpAny_holding (thn (ho pins s σ H _ I h) fun ov s1 zz => ex5 zz fun x H1 I1 r1 q1 => ?_))
  refine wpAny_bind (wpAny_holding (thn (hi pins s1 σ H1 _ I1 q1) fun iv s2 zz => ex5 zz fun y H2 I2 r2 q2 => ?_))
  refine wpAny_bind (wpAny_standAt (wpAny_bind (wpAny_holding (thn (hs pins s2 σ H2 x y v ov iv u _ I2 r1 r2 r q2) fun _ s3 zz => ex3 zz fun H3 I3 q3 => ?_))))
  exact wpAny_release ⟨σ, H3, I3, q3⟩
noncomputable def tAsg (te : TE) (g : TG) : TS := fun D σ H => te σ H fun x H1 => g x σ H1 D.nx
theorem ps_asg {tg e : Expr} {te : TE} {g : TG} (he : PE X e te) (hg : PG X tg g) (hs : swapsWithSole [tg] e pos.line X.env = pure false := by rfl) (hw : swappedStores [tg] e X.env = pure none := by rfl)
    (h1 : (assignEach [tg] X.env).map (·.2) = [assign tg X.env] := by rfl) : PS X (.Assign [tg] e pos) (tAsg te g) := by
  intro pins s σ H D I h
  refine wpAny_Assign_stores (thn (he pins s σ H _ I h) fun v s1 zz => ex5 zz fun x H1 I1 r1 q1 => ?_) hs hw
  rw [h1]
  exact thn (hg pins s1 σ H1 x v _ I1 r1 q1) fun _ s2 q => q
theorem ps_set {i : Nat} {x : Str} {e : Expr} {te : TE} {pos' : Pos} (hN : X.N.Nodup) (hi : X.N[i]? = some x) (hx : Loc X.env.scope x) (he : PE X e te) (hs : swapsWith e (some (.Name x pos')) pos.line X.env = pure false := by rfl) (hf : X.fn x = true ∨ X.env.scope.names.lookup x = some .local := by first | exact .inl rfl | exact .inr rfl | assumption) :
    PS X (.Assign [.Name x pos'] e pos) (tAsg te (gName i)) := by
  intro pins s σ H D I h
  refine wpAny_Assign_Name (thn (he pins s σ H _ I h) fun v s1 zz => ex5 zz fun y H1 I1 r1 q1 => ?_) hs
  exact store_ok I1 hN hi hx r1 (fun s2 I2 => ⟨_, H1, I2, q1⟩) hf
noncomputable def tAug (i : Nat) (te : TE) (ti : TIp) : TS := fun D σ H => ∃ x, σ[i]? = some (some x) ∧ te σ H fun y H1 => ti x y H1 fun z H2 => D.nx (σ.set i (some z)) H2
theorem ps_aug {i : Nat} {x : Str} {e : Expr} {te : TE} {op : Operator} {ti : TIp} {pos' : Pos} (hN : X.N.Nodup) (hi : X.N[i]? = some x) (hx : Loc X.env.scope x) (he : PE X e te) (ho : PIp X op ti) (hf : X.fn x = true ∨ X.env.scope.names.lookup x = some .local := by first | exact .inl rfl | exact .inr rfl | assumption) :
    PS X (.AugAssign (.Name x pos') op e pos) (tAug i te ti) := by
  intro pins s σ H D I h
  obtain ⟨v, e1, h⟩ := h
  obtain ⟨m, hn, hl⟩ := I.loc
  have vis : Vis X.env.scope x := by rcases hx with k | k; exact .inl k; exact .inr (.inl k)
  obtain ⟨u, r, l⟩ := hl i x v hi e1 vis
  refine wpAny_AugAssign_Name ?_
  have go : wpAny (model X.prog X.w) X.A (eval e X.env) (fun w s₂ => wpAny (model X.prog X.w) X.A (inplaceOp op u w) (fun r s₃ => wpAny (model X.prog X.w) X.A (storeName X.env x r) (fun _ => SP X pins D .next) X.xe s₃) X.xe s₂) X.xe s := by
    refine thn (he pins s σ H _ I h) fun w s1 zz => ex5 zz fun y H1 I1 r1 q1 => ?_
    refine thn (ho pins s1 σ H1 v y u w _ I1 r r1 q1) fun z s2 zz => ex5 zz fun zv H2 I2 r2 q2 => ?_
    exact store_ok I2 hN hi hx r2 (fun s3 I3 => ⟨_, H2, I3, q2⟩) hf
  rcases l with ⟨hk, hm⟩ | ⟨hk, c, hc, hcell⟩
  · exact wpAny_loadName_local I.ok.kind hk hn hm go
  · rcases hk with hk | hk
    · exact wpAny_loadName_cell I.ok.kind hk hc hcell go
    · rcases hx with k | k
      · have : X.env.scope.names.lookup x = some .free := hk
        rw [k] at this; cases this
      · have : X.env.scope.names.lookup x = some .free := hk
        rw [k] at this; cases this
noncomputable def ipI (f : Int → Int → Int) : TIp := fun x y H Q => ∃ i j, x = .int i ∧ y = .int j ∧ Q (.int (f i j)) H
theorem ip_add : PIp X .Add (ipI fun i j => i + j) := by
  intro pins s σ H x y v u Q I r1 r2 h
  obtain ⟨i, j, e1, e2, q⟩ := h
  subst e1; subst e2
  obtain ⟨t, rfl⟩ := r1
  obtain ⟨t', rfl⟩ := r2
  exact iadd_int ⟨.int _, H, I.tok _, ⟨_, rfl⟩, q⟩
end
section
variable {X : Cx} {pos : Pos}
noncomputable def tWhile (c : TT) (tb : TS) : TS := fun D σ H => ∃ W : Nat → St → Hp → Prop, (∃ m, W m σ H) ∧ ∀ m σ H, W m σ H →
  c σ H fun b H1 => if b = true then ∃ N : St → Hp → Prop, (∀ σ' H', N σ' H' → ∃ m', m' < m ∧ W m' σ' H') ∧ tb { D with nx := N, ct := N, bk := D.nx } σ H1 else D.nx σ H1
theorem ps_while {c : Expr} {body : List Stmt} {tc : TT} {tb : TS} (hp : PassesOwn (model X.prog X.w) X.A X.env X.xe) (hc : PT X c tc) (hb : PSs X body tb) : PS X (.While c body [] pos) (tWhile tc tb) := by
  intro pins s σ H D I h
  obtain ⟨W, ⟨m0, w0⟩, turn⟩ := h
  refine wpAny_While (codeAny_whileLoop (fun n s' => ∃ σ' H', Inv X pins σ' H' s' ∧ W n σ' H') ?_ m0 ⟨σ, H, I, w0⟩)
  rintro n s1 ⟨σ1, H1, I1, w1⟩
  refine wpAny_passesOwn hp (thn (hc pins s1 σ1 H1 _ I1 (turn n σ1 H1 w1)) fun b s2 zz => ex3 zz fun H2 I2 q2 => ?_)
  cases b with
  | true =>
    obtain ⟨N, hN, q2⟩ := q2
    rw [if_pos rfl]
    refine wpAny_passesOwn hp (thn (hb pins s2 σ1 H2 _ I2 q2) fun f s3 q3 => ?_)
    cases f with
    | next =>
      obtain ⟨σ3, H3, I3, n3⟩ := q3
      obtain ⟨m', hm, w3⟩ := hN σ3 H3 n3
      exact ⟨m', hm, σ3, H3, I3, w3⟩
    | cont =>
      obtain ⟨σ3, H3, I3, n3⟩ := q3
      obtain ⟨m', hm, w3⟩ := hN σ3 H3 n3
      exact ⟨m', hm, σ3, H3, I3, w3⟩
    | brk => exact q3
    | ret v => exact q3
  | false =>
    rw [if_neg Bool.false_ne_true]
    exact wpAny_execs_nil ⟨σ1, H2, I2, q2⟩
end
structure It where
  go : Nat → Hp → Prop
  yld : Nat → Hp → V → Hp → Prop
  stop : Nat → Hp → Prop
def FpOk (X : Cx) (pins : List (Addr × Obj)) (H : Hp) (b : Addr) : Prop :=
  H b = none ∧ b ≠ X.env.locals ∧ b ∉ X.fs ∧ (b ∈ X.ex ∨ X.s_0.heap.objs.size ≤ b) ∧ (∀ x c, X.env.cells.lookup x = some c → c ≠ b) ∧ ∀ p ∈ X.pn ++ pins, p.1 ≠ b
theorem Inv.fpOk {X : Cx} {pins : List (Addr × Obj)} {σ : St} {H H' : Hp} {s : Shared} {b : Addr} (I : Inv X pins σ H s) (hb : s.heap.objs.size ≤ b) (hn : H' b = none) : FpOk X pins H' b := by
  refine ⟨hn, Nat.ne_of_gt (Nat.lt_of_lt_of_le I.lt hb), I.nofs hb, .inr (Nat.le_trans I.sz hb), fun x c e z => ?_, fun p hp z => ?_⟩
  · obtain ⟨v, q⟩ := I.cell x c e
    exact absurd (Nat.lt_of_lt_of_le q.lt (by rw [z]; exact hb)) (Nat.lt_irrefl _)
  · exact absurd (Nat.lt_of_lt_of_le (Heap.lt_size (I.pin p hp).1) (by rw [z]; exact hb)) (Nat.lt_irrefl _)
structure Turn (P : Program) (w : World) (K : PySem.W.Frag) (tg : Expr) (J : It) (fp : List Addr) (it : Addr) (tn : Nat → Heap → Prop) : Prop where
  mem : it ∈ fp
  obj : ∀ i h, tn i h → ∀ b ∈ fp, ∃ o, h.get? b = some o ∧ ∀ v, o.data ≠ .cell v
  keep : ∀ i h h', tn i h → (∀ b ∈ fp, ∀ o, h.get? b = some o → h'.get? b = some o) → tn i h'
  item : ∀ (X : Cx), X.prog = P → X.w = w → X.K = K → X.calm = true → ∀ (i : Nat) (pins : List (Addr × Obj)) (s : Shared) (σ : St) (H : Hp) (E : Value → Shared → Prop), Inv X pins σ H s → (∀ b ∈ fp, FpOk X pins H b) → tn i s.heap → J.go i H →
    wpAny (model P w) X.A (pyNext (.ref it)) (fun r s1 => ∃ u, r = some u ∧
      wpAny (model P w) X.A (letOwnedTupleGo tg (.ref it) u) (fun _ s2 => ∃ x H', Inv X pins σ H' s2 ∧ RelV x u ∧ J.yld i H x H' ∧ tn (i + 1) s2.heap ∧ ∀ b ∈ fp, H' b = none) E s1) E s
  done : ∀ (X : Cx), X.prog = P → X.w = w → X.K = K → X.calm = true → ∀ (i : Nat) (pins : List (Addr × Obj)) (s : Shared) (σ : St) (H : Hp) (E : Value → Shared → Prop), Inv X pins σ H s → (∀ b ∈ fp, FpOk X pins H b) → tn i s.heap → J.stop i H →
    wpAny (model P w) X.A (pyNext (.ref it)) (fun r s1 => r = none ∧ Inv X pins σ H s1) E s
  self : ∀ (A : Around) (i : Nat) (s : Shared) (Q : Value → Shared → Prop) (E : Value → Shared → Prop), tn i s.heap → Q (.ref it) s → wpAny (model P w) A (pyIter (.ref it)) Q E s
noncomputable abbrev TI := St → Hp → (It → Hp → Prop) → Prop
def PIE (X : Cx) (pins : List (Addr × Obj)) (σ : St) (tg : Expr) (R : It → Hp → Prop) (itv : Value) (s2 : Shared) : Prop :=
  ∃ (it : Addr) (fp : List Addr) (tn : Nat → Heap → Prop) (J : It) (H' : Hp), itv = .ref it ∧ Inv X pins σ H' s2 ∧ Turn X.prog X.w X.K tg J fp it tn ∧ tn 0 s2.heap ∧ (∀ b ∈ fp, FpOk X pins H' b) ∧ R J H'
def PI (X : Cx) (tg iter : Expr) (wi : TI) : Prop :=
  ∀ (pins : List (Addr × Obj)) (s : Shared) (σ : St) (H : Hp) (R : It → Hp → Prop), Inv X pins σ H s → wi σ H R →
    wpAny (model X.prog X.w) X.A (eval iter X.env) (fun v s1 => wpAny (model X.prog X.w) X.A (pyIter v) (PIE X pins σ tg R) X.xe s1) X.xe s
theorem go_of {M : Model} {A : Around} {E : Value → Shared → Prop} {s : Shared} {tg : Expr} {it : Addr} {u : Value} {o : Obj} {n : String} {vs : Array Value} {Q : Unit → Shared → Prop} (ho : s.heap.get? it = some o) (hc : o.cls = .type n) (hd : o.data = .fields vs)
    (hn : ["enumerate", "zip", "dict_itemiterator", "dict_reverseitemiterator", "odict_iterator", "itertools.zip_longest", "itertools.pairwise"].contains n = false) (hQ : Q () s) : wpAny M A (letOwnedTupleGo tg (.ref it) u) Q E s := by
  unfold letOwnedTupleGo
  cases tg <;> first
    | exact wpAny_pure hQ
    | (cases u <;> first
        | exact wpAny_pure hQ
        | (refine wpAny_bind (wpAny_load ho ?_)
           rw [hc, hd]
           show wpAny M A (if (["enumerate", "zip", "dict_itemiterator", "dict_reverseitemiterator", "odict_iterator", "itertools.zip_longest", "itertools.pairwise"].contains n && vs[0]? == some (rawInt _)) = true then _ else _) Q E s
           rw [if_neg (by intro h; rw [hn, Bool.false_and] at h; cases h)]
           exact wpAny_pure hQ))
noncomputable def Itl (K : PySem.W.Frag) (a : Addr) : It :=
  ⟨fun i H => ∃ xs x, SqL K H a xs ∧ xs[i]? = some x, fun i H x H' => H' = H ∧ ∀ xs, SqL K H a xs → xs[i]? = some x, fun i H => ∃ xs, SqL K H a xs ∧ xs.length ≤ i⟩
noncomputable def Itr (lo : Int) (n : Nat) : It := ⟨fun i _ => i < n, fun i H x H' => H' = H ∧ x = .int (lo + i), fun i _ => n ≤ i⟩
theorem turn_list {P : Program} {w : World} {K : PySem.W.Frag} {tg : Expr} (a it : Addr) : Turn P w K tg (Itl K a) [it] it (fun i h => h.IsListIter it a i) where
  mem := by simp
  obj := fun i h st b hb => by
    have e : b = it := by simpa using hb
    subst e
    obtain ⟨o, e, c, d⟩ := st
    exact ⟨o, e, fun v z => by rw [d] at z; cases z⟩
  keep := fun i h h' st k => st.at fun o e => k it (by simp) o e
  item := by
    intro X hP hw hK hc i pins s σ H E I hf st hg
    subst hP hw hK
    obtain ⟨xs, x, hq, hx⟩ := hg
    obtain ⟨its, rv, p, hz⟩ := I.list hq
    obtain ⟨u, hu, ru⟩ := rv.get hx
    obtain ⟨f0, f1, f2, f3, f4, f5⟩ := hf it (by simp)
    refine wpAny_pyNext_list_item st p.isList (x := u) (by simpa using hu) fun h' st' sb => ?_
    have I1 : Inv X pins σ H { s with heap := h' } := I.turned (t' := s.toks) (fun b o hb e => (sb.2 b hb).trans e) f0 f1 f3 f4 f5
    obtain ⟨o, e, c, d⟩ := id st'
    exact ⟨u, rfl, go_of (s := { s with heap := h' }) e c d (by decide) ⟨x, H, I1, ru, ⟨rfl, fun ys hy => by rw [I.list_inj hy hq]; exact hx⟩, st', fun b hb => (hf b hb).1⟩⟩
  done := by
    intro X hP hw hK hc i pins s σ H E I hf st hg
    subst hP hw hK
    obtain ⟨xs, hq, hx⟩ := hg
    obtain ⟨its, rv, p, hz⟩ := I.list hq
    obtain ⟨f0, f1, f2, f3, f4, f5⟩ := hf it (by simp)
    have hl := rv.length
    exact wpAny_pyNext_list_end (I.ok.hd hc) st p.isList (by simp; omega) fun h' eb => ⟨rfl, I.turned (t' := s.toks) (fun b o hb e => eb b o hb e) f0 f1 f3 f4 f5⟩
  self := fun _ _ _ _ _ st h => wpAny_pyIter_listiter st h
theorem turn_range {P : Program} {w : World} {K : PySem.W.Frag} {tg : Expr} (it : Addr) (lo : Int) (n : Nat) : Turn P w K tg (Itr lo n) [it] it (fun i h => IsRangeIter h it (lo + (i : Nat) * 1) ((n : Int) - (i : Nat)) 1) where
  mem := by simp
  obj := fun i h st b hb => by
    have e : b = it := by simpa using hb
    subst e
    exact ⟨_, st, fun v z => by
      have z' : Data.fields _ = Data.cell v := z
      cases z'⟩
  keep := fun i h h' st k => k it (by simp) _ st
  item := by
    intro X hP hw hK hc i pins s σ H E I hf st hg
    subst hP hw hK
    obtain ⟨f0, f1, f2, f3, f4, f5⟩ := hf it (by simp)
    have W := Walks.range (prog := X.prog) (w := X.w) (I.ok.hd hc) it lo 1 n
    refine W.item i s _ _ hg st fun v h' tk hv st' kk => ?_
    obtain ⟨t, rfl⟩ := hv
    have I1 : Inv X pins σ H { s with heap := h', toks := tk } := I.turned (fun b o hb e => kk b o (by simpa using hb) e) f0 f1 f3 f4 f5
    refine ⟨_, rfl, go_of (s := { s with heap := h', toks := tk }) (n := "range_iterator") st' rfl rfl (by decide) ⟨.int (lo + i), H, I1, ⟨t, ?_⟩, ⟨rfl, rfl⟩, st', fun b hb => (hf b hb).1⟩⟩
    rw [Int.mul_one]
  done := by
    intro X hP hw hK hc i pins s σ H E I hf st hg
    subst hP hw hK
    obtain ⟨f0, f1, f2, f3, f4, f5⟩ := hf it (by simp)
    exact wpAny_pyNext_range_end (I.ok.hd hc) st (by have : n ≤ i := hg; omega) fun h' eb => ⟨rfl, I.turned (t' := s.toks) (fun b o hb e => eb b o hb e) f0 f1 f3 f4 f5⟩
  self := fun _ _ _ _ _ st h => wpAny_pyIter_rangeiter st h
end L2
namespace L2
open PySem PySem.Spec PyProof.Rows
section
variable {X : Cx} {tg : Expr}
noncomputable def iList (K : PySem.W.Frag) (tl : TE) : TI := fun σ H R => tl σ H fun x H1 => ∃ a, x = .ref a ∧ (∃ xs, SqL K H1 a xs) ∧ R (Itl K a) H1
theorem pi_list {l : Expr} {tl : TE} (hl : PE X l tl) : PI X tg l (iList X.K tl) := by
  intro pins s σ H R I h
  refine thn (hl pins s σ H _ I h) fun v s1 zz => ex5 zz fun x H1 I1 r1 q1 => ?_
  obtain ⟨a, e, ⟨xs, hq⟩, q⟩ := q1
  subst e
  cases r1
  obtain ⟨its, rv, p, hz⟩ := I1.list hq
  refine wpAny_pyIter_list p.isList ?_
  refine ⟨s1.heap.objs.size, [s1.heap.objs.size], _, _, H1, rfl, I1.kept (t' := s1.toks) fun b o e => Heap.get?_push_of_some _ e, turn_list a _, ⟨_, Heap.get?_push_size _ rfl, rfl, rfl⟩, fun b hb => ?_, q⟩
  have e : b = s1.heap.objs.size := by simpa using hb
  subst e
  exact I1.fpOk (Nat.le_refl _) (I1.hok.fresh (Nat.le_refl _))
theorem range_it {pins : List (Addr × Obj)} {σ : St} {H : Hp} {s : Shared} {R : It → Hp → Prop} {E : Value → Shared → Prop} {lo hi : Int} {t u v : Tok} {tk : Nat} (I : Inv X pins σ H s) (h1 : -(2 ^ 62) ≤ lo) (h2 : lo < 2 ^ 62) (h3 : -(2 ^ 62) ≤ hi) (h4 : hi < 2 ^ 62)
    (q : R (Itr lo (hi - lo).toNat) H) : wpAny (model X.prog X.w) X.A (pyIter (.ref s.heap.objs.size)) (PIE X pins σ tg R) E { s with heap := s.heap.push { cls := .type "range", data := .fields #[.int lo t, .int hi u, .int 1 v] }, toks := tk } := by
  refine wpAny_pyIter_range (IsRange.new ..) (small_one h1 h2 h3 h4) ?_
  have I1 : Inv X pins σ H { s with heap := s.heap.push { cls := .type "range", data := .fields #[.int lo t, .int hi u, .int 1 v] }, toks := tk } := I.kept fun b o e => Heap.get?_push_of_some _ e
  refine ⟨(s.heap.push { cls := .type "range", data := .fields #[.int lo t, .int hi u, .int 1 v] }).objs.size, [(s.heap.push { cls := .type "range", data := .fields #[.int lo t, .int hi u, .int 1 v] }).objs.size], _, _, H, rfl,
    I1.kept (t' := tk) fun b o e => Heap.get?_push_of_some _ e, turn_range _ lo (hi - lo).toNat, ?_, fun b hb => ?_, q⟩
  · have e1 : lo + ((0 : Nat) : Int) * 1 = lo := by simp
    have e2 : (((hi - lo).toNat : Nat) : Int) - ((0 : Nat) : Int) = Builtin.Range.rangeSize lo hi 1 := by rw [rangeSize_one]; split <;> omega
    show IsRangeIter _ _ (lo + ((0 : Nat) : Int) * 1) ((((hi - lo).toNat : Nat) : Int) - ((0 : Nat) : Int)) 1
    rw [e1, e2]
    exact Heap.get?_push_size _ rfl
  · have e : b = (s.heap.push { cls := .type "range", data := .fields #[.int lo t, .int hi u, .int 1 v] }).objs.size := by simpa using hb
    subst e
    exact I1.fpOk (Nat.le_refl _) (I1.hok.fresh (Nat.le_refl _))
noncomputable def iRng1 (ta : TA) : TI := fun σ H R => ta σ H fun vs H1 => ∃ j : Int, vs = [.int j] ∧ -(2 ^ 62) ≤ j ∧ j < 2 ^ 62 ∧ R (Itr 0 j.toNat) H1
noncomputable def iRng2 (ta : TA) : TI := fun σ H R => ta σ H fun vs H1 => ∃ i j : Int, vs = [.int i, .int j] ∧ (-(2 ^ 62) ≤ i ∧ i < 2 ^ 62 ∧ -(2 ^ 62) ≤ j ∧ j < 2 ^ 62) ∧ R (Itr i (j - i).toNat) H1
theorem pi_range1 {a : Expr} {ta : TA} {p pos : Pos} (hg : Gl X "range") (hm : X.mg "range" = none) (ha : PA X [a] ta) (hs : starEach [a] X.env = [(false, eval a X.env)] := by rfl) : PI X tg (.Call (.Name "range" p) [a] [] pos) (iRng1 ta) := by
  intro pins s σ H R I h
  refine Call_ (ld_blt I hg hm boot_range (PyProof.Rows.callWith_type1 (thn (ha pos pins s σ H _ I h) fun us s1 zz => ex5 zz fun vs H1 I1 r1 q1 => ?_) hs rfl))
  obtain ⟨j, e, q1, q2, q⟩ := q1
  subst e
  cases r1 with
  | cons r rr =>
    cases rr
    obtain ⟨t, rfl⟩ := r
    exact call_range_1 (range_it I1 (by omega) (by omega) q1 q2 (by simpa using q))
theorem pi_range2 {a b : Expr} {ta : TA} {p pos : Pos} (hg : Gl X "range") (hm : X.mg "range" = none) (ha : PA X [a, b] ta) (hs : starEach [a, b] X.env = [(false, eval a X.env), (false, eval b X.env)] := by rfl) (hs2 : starEach [b] X.env = [(false, eval b X.env)] := by rfl) :
    PI X tg (.Call (.Name "range" p) [a, b] [] pos) (iRng2 ta) := by
  intro pins s σ H R I h
  refine Call_ (ld_blt I hg hm boot_range (PyProof.Rows.callWith_type1 (thn (ha pos pins s σ H _ I h) fun us s1 zz => ex5 zz fun vs H1 I1 r1 q1 => ?_) (by rw [hs, hs2]) (by rw [hs2]; rfl)))
  obtain ⟨i, j, e, ⟨q1, q2, q3, q4⟩, q⟩ := q1
  subst e
  cases r1 with
  | cons r rr =>
    cases rr with
    | cons r' rr =>
      cases rr
      obtain ⟨t, rfl⟩ := r
      obtain ⟨t', rfl⟩ := r'
      exact call_range_2 (range_it I1 q1 q2 q3 q4 q)
noncomputable def tFor (wi : TI) (g : TG) (tb : TS) : TS := fun D σ H => wi σ H fun J H1 => ∃ W : Nat → Nat → St → Hp → Prop, (∃ m, W 0 m σ H1) ∧ ∀ i m σ H, W i m σ H →
  (J.stop i H ∧ D.nx σ H) ∨ (J.go i H ∧ ∃ N : St → Hp → Prop, (∀ σ' H', N σ' H' → ∃ m', m' < m ∧ W (i + 1) m' σ' H') ∧ ∀ x H', J.yld i H x H' → g x σ H' fun σ2 H2 => tb { D with nx := N, ct := N, bk := D.nx } σ2 H2)
noncomputable def pinsAt (fp : List Addr) (h : Heap) : List (Addr × Obj) := fp.filterMap fun b => (h.get? b).map fun o => (b, o)
theorem mem_pinsAt {fp : List Addr} {h : Heap} {b : Addr} {o : Obj} (hb : b ∈ fp) (e : h.get? b = some o) : (b, o) ∈ pinsAt fp h := List.mem_filterMap.mpr ⟨b, hb, by rw [e]; rfl⟩
theorem of_pinsAt {fp : List Addr} {h : Heap} {p : Addr × Obj} (hp : p ∈ pinsAt fp h) : p.1 ∈ fp ∧ h.get? p.1 = some p.2 := by
  obtain ⟨b, hb, e⟩ := List.mem_filterMap.mp hp
  cases q : h.get? b with
  | none => rw [q] at e; cases e
  | some o =>
    rw [q] at e
    have e' : (b, o) = p := Option.some.inj e
    subst e'
    exact ⟨hb, q⟩
theorem Inv.pinned {pins : List (Addr × Obj)} {σ : St} {H : Hp} {s : Shared} {fp : List Addr} (I : Inv X pins σ H s) (hf : ∀ b ∈ fp, FpOk X pins H b) (ho : ∀ b ∈ fp, ∃ o, s.heap.get? b = some o ∧ ∀ v, o.data ≠ .cell v) : Inv X (pins ++ pinsAt fp s.heap) σ H s :=
  I.pins_of fun p hp => (List.mem_append.mp hp).elim (fun z => I.pin p (List.mem_append_right _ z)) fun z => by
    obtain ⟨hb, e⟩ := of_pinsAt z
    obtain ⟨f0, f1, f2, _⟩ := hf p.1 hb
    obtain ⟨o, e', d⟩ := ho p.1 hb
    rw [e] at e'; cases e'
    exact ⟨e, f0, f1, f2, d⟩
theorem Inv.unpinned {pins pl : List (Addr × Obj)} {σ : St} {H : Hp} {s : Shared} (I : Inv X (pins ++ pl) σ H s) : Inv X pins σ H s := I.pins_of fun p hp => I.pin p (List.mem_append_right _ (List.mem_append_left _ hp))
theorem ps_for {iter : Expr} {body : List Stmt} {wi : TI} {g : TG} {tb : TS} {pos : Pos} (hp : PassesOwn (model X.prog X.w) X.A X.env X.xe) (hc : X.calm = true) (hi : PI X tg iter wi) (hg : PG X tg g) (hb : PSs X body tb)
    (hs : ∀ x, foldedSetIterable iter X.env x = pure x := by intro _; rfl) : PS X (.For tg iter body [] pos) (tFor wi g tb) := by
  intro pins s σ H D I h
  refine wpAny_For (thn (hi pins s σ H _ I h) fun v s1 h1 => thn h1 fun itv s2 h2 => ?_) hs
  obtain ⟨it, fp, tn, J, H2, e, I2, T, st2, f2, W, ⟨m0, w0⟩, turn⟩ := h2
  subst e
  have stat : ∀ {H' : Hp}, (∀ b ∈ fp, H' b = none) → ∀ b ∈ fp, FpOk X pins H' b := fun hn b hb => ⟨hn b hb, (f2 b hb).2⟩
  refine codeAny_forLoop_any (fun n s' => ∃ i σ' H', Inv X pins σ' H' s' ∧ tn i s'.heap ∧ (∀ b ∈ fp, H' b = none) ∧ W i n σ' H') ?_ m0 ⟨0, σ, H2, I2, st2, fun b hb => (f2 b hb).1, w0⟩
  rintro n s3 ⟨i, σ3, H3, I3, st3, fr3, w3⟩
  rcases turn i n σ3 H3 w3 with ⟨stop, qn⟩ | ⟨go, N, hN, step⟩
  · refine wpAny_passesOwn hp (thn (T.done X rfl rfl rfl hc i pins s3 σ3 H3 X.xe I3 (stat fr3) st3 stop) fun r s4 zz => ?_)
    have hr := zz.1; have I4 := zz.2
    subst hr
    exact wpAny_execs_nil ⟨σ3, H3, I4, qn⟩
  · refine wpAny_passesOwn hp (thn (T.item X rfl rfl rfl hc i pins s3 σ3 H3 X.xe I3 (stat fr3) st3 go) fun r s4 zz => ex3 zz fun u hr h4 => ?_)
    subst hr
    refine wpAny_passesOwn hp (thn h4 fun _ s5 zz => ex5 zz fun x H5 I5 r5 yy => ?_)
    obtain ⟨y5, st5, fr5⟩ := yy
    have I5' := I5.pinned (stat fr5) (T.obj _ _ st5)
    refine wpAny_passesOwn hp (thn (hg _ s5 σ3 H5 x u _ I5' r5 (step x H5 y5)) fun _ s6 zz => ex4 zz fun σ6 H6 I6 q6 => ?_)
    refine wpAny_passesOwn hp (thn (hb _ s6 σ6 H6 _ I6 q6) fun f s7 q7 => ?_)
    have again : ∀ {σ7 : St} {H7 : Hp}, Inv X (pins ++ pinsAt fp s5.heap) σ7 H7 s7 → N σ7 H7 → ∃ m, m < n ∧ ∃ i σ' H', Inv X pins σ' H' s7 ∧ tn i s7.heap ∧ (∀ b ∈ fp, H' b = none) ∧ W i m σ' H' := fun {σ7 H7} I7 n7 => by
      obtain ⟨m', hm, w7⟩ := hN σ7 H7 n7
      refine ⟨m', hm, i + 1, σ7, H7, I7.unpinned, T.keep _ _ _ st5 fun b hb o e => (I7.pin (b, o) (List.mem_append_right _ (List.mem_append_right _ (mem_pinsAt hb e)))).1, fun b hb => ?_, w7⟩
      obtain ⟨o, e, d⟩ := T.obj _ _ st5 b hb
      exact (I7.pin (b, o) (List.mem_append_right _ (List.mem_append_right _ (mem_pinsAt hb e)))).2.1
    cases f with
    | next => obtain ⟨σ7, H7, I7, n7⟩ := q7; exact again I7 n7
    | cont => obtain ⟨σ7, H7, I7, n7⟩ := q7; exact again I7 n7
    | brk => obtain ⟨σ7, H7, I7, q7⟩ := q7; exact ⟨σ7, H7, I7.unpinned, q7⟩
    | ret v => obtain ⟨x7, σ7, H7, I7, r7, q7⟩ := q7; exact ⟨x7, σ7, H7, I7.unpinned, r7, q7⟩
end
theorem for_list {K : PySem.W.Frag} {a : Addr} {xs : List V} {g : TG} {tb : TS} {D : Ends} {σ : St} {H : Hp} (Pv : Nat → St → Hp → Prop) (h0 : Pv 0 σ H) (hl : ∀ i σ H, i ≤ xs.length → Pv i σ H → SqL K H a xs)
    (hs : ∀ i x σ H, xs[i]? = some x → Pv i σ H → g x σ H fun σ2 H2 => tb { D with nx := Pv (i + 1), ct := Pv (i + 1), bk := D.nx } σ2 H2) (hd : ∀ σ H, Pv xs.length σ H → D.nx σ H) :
    ∃ W : Nat → Nat → St → Hp → Prop, (∃ m, W 0 m σ H) ∧ ∀ i m σ H, W i m σ H →
      ((Itl K a).stop i H ∧ D.nx σ H) ∨ ((Itl K a).go i H ∧ ∃ N : St → Hp → Prop, (∀ σ' H', N σ' H' → ∃ m', m' < m ∧ W (i + 1) m' σ' H') ∧ ∀ x H', (Itl K a).yld i H x H' → g x σ H' fun σ2 H2 => tb { D with nx := N, ct := N, bk := D.nx } σ2 H2) := by
  refine ⟨fun i m σ H => m = xs.length - i ∧ i ≤ xs.length ∧ Pv i σ H, ⟨xs.length, by simp, Nat.zero_le _, h0⟩, ?_⟩
  rintro i m σ H ⟨rfl, hi, p⟩
  have q := hl i σ H hi p
  by_cases hlt : i < xs.length
  · refine .inr ⟨⟨xs, xs[i], q, by simp [hlt]⟩, Pv (i + 1), fun σ' H' p' => ⟨xs.length - (i + 1), by omega, rfl, hlt, p'⟩, fun x H' y => ?_⟩
    obtain ⟨e, y⟩ := y
    subst e
    exact hs i x σ _ (y xs q) p
  · have e : i = xs.length := by omega
    subst e
    exact .inl ⟨⟨xs, q, Nat.le_refl _⟩, hd σ H p⟩
theorem for_range {lo : Int} {n : Nat} {g : TG} {tb : TS} {D : Ends} {σ : St} {H : Hp} (Pv : Nat → St → Hp → Prop) (h0 : Pv 0 σ H)
    (hs : ∀ i σ H, i < n → Pv i σ H → g (.int (lo + i)) σ H fun σ2 H2 => tb { D with nx := Pv (i + 1), ct := Pv (i + 1), bk := D.nx } σ2 H2) (hd : ∀ σ H, Pv n σ H → D.nx σ H) :
    ∃ W : Nat → Nat → St → Hp → Prop, (∃ m, W 0 m σ H) ∧ ∀ i m σ H, W i m σ H →
      ((Itr lo n).stop i H ∧ D.nx σ H) ∨ ((Itr lo n).go i H ∧ ∃ N : St → Hp → Prop, (∀ σ' H', N σ' H' → ∃ m', m' < m ∧ W (i + 1) m' σ' H') ∧ ∀ x H', (Itr lo n).yld i H x H' → g x σ H' fun σ2 H2 => tb { D with nx := N, ct := N, bk := D.nx } σ2 H2) := by
  refine ⟨fun i m σ H => m = n - i ∧ i ≤ n ∧ Pv i σ H, ⟨n, by simp, Nat.zero_le _, h0⟩, ?_⟩
  rintro i m σ H ⟨rfl, hi, p⟩
  by_cases hlt : i < n
  · refine .inr ⟨hlt, Pv (i + 1), fun σ' H' p' => ⟨n - (i + 1), by omega, rfl, hlt, p'⟩, fun x H' y => ?_⟩
    obtain ⟨e, y⟩ := y
    subst e y
    exact hs i σ _ hlt p
  · have e : i = n := by omega
    subst e
    exact .inl ⟨Nat.le_refl _, hd σ H p⟩
theorem while_by {c : TT} {tb : TS} {D : Ends} {σ : St} {H : Hp} (Pv : St → Hp → Prop) (μ : St → Hp → Nat) (h0 : Pv σ H)
    (hs : ∀ σ H, Pv σ H → c σ H fun b H1 => if b = true then tb { D with nx := fun σ' H' => Pv σ' H' ∧ μ σ' H' < μ σ H, ct := fun σ' H' => Pv σ' H' ∧ μ σ' H' < μ σ H, bk := D.nx } σ H1 else D.nx σ H1)
    (mono : ∀ σ H Q Q', (∀ b H1, Q b H1 → Q' b H1) → c σ H Q → c σ H Q') : tWhile c tb D σ H := by
  refine ⟨fun m σ H => m = μ σ H ∧ Pv σ H, ⟨_, rfl, h0⟩, ?_⟩
  rintro m σ H ⟨rfl, p⟩
  refine mono σ H _ _ (fun b H1 q => ?_) (hs σ H p)
  cases b with
  | true => exact ⟨_, fun σ' H' ⟨p', l⟩ => ⟨_, l, rfl, p'⟩, q⟩
  | false => exact q
end L2
namespace L2
open PySem PySem.Spec PyProof.Rows
noncomputable abbrev R2 := V → V → Hp → VK → Prop
def OpR (X : Cx) (f : Value → Value → Sem Value) (r : R2) : Prop :=
  ∀ (pins : List (Addr × Obj)) (s : Shared) (σ : St) (H : Hp) (x y : V) (v u : Value) (Q : VK), Inv X pins σ H s → RelV x v → RelV y u → r x y H Q →
    wpAny (model X.prog X.w) X.A (f v u) (EP X pins σ Q) X.xe s
def UnR (X : Cx) (f : Value → Sem Value) (r : V → Hp → VK → Prop) : Prop :=
  ∀ (pins : List (Addr × Obj)) (s : Shared) (σ : St) (H : Hp) (x : V) (v : Value) (Q : VK), Inv X pins σ H s → RelV x v → r x H Q →
    wpAny (model X.prog X.w) X.A (f v) (EP X pins σ Q) X.xe s
def CallR (X : Cx) (f : Value) (r : List V → Hp → VK → Prop) : Prop :=
  ∀ (pins : List (Addr × Obj)) (s : Shared) (σ : St) (H : Hp) (xs : List V) (us : List Value) (Q : VK), Inv X pins σ H s → Vals xs us → r xs H Q →
    wpAny (model X.prog X.w) X.A (call f us) (EP X pins σ Q) X.xe s
noncomputable def tOp (r : R2) (ta tb : TE) : TE := fun σ H Q => ta σ H fun x H1 => tb σ H1 fun y H2 => r x y H2 Q
noncomputable def tUn (r : V → Hp → VK → Prop) (ta : TE) : TE := fun σ H Q => ta σ H fun x H1 => r x H1 Q
noncomputable def rI (C : Int → Int → Prop) (g : Int → Int → V) : R2 := fun x y H Q => ∃ i j, x = .int i ∧ y = .int j ∧ C i j ∧ Q (g i j) H
noncomputable def rI0 (g : Int → Int → V) : R2 := fun x y H Q => ∃ i j, x = .int i ∧ y = .int j ∧ Q (g i j) H
noncomputable def rU (g : Int → V) : V → Hp → VK → Prop := fun x H Q => ∃ i, x = .int i ∧ Q (g i) H
section
variable {X : Cx} {a b c : Expr} {ta tb tc : TE} {pos : Pos}
theorem binT (ha : PE X a ta) (hb : PE X b tb) {pins : List (Addr × Obj)} {s : Shared} {σ : St} {H : Hp} {R : V → V → Hp → Prop} (I : Inv X pins σ H s)
    (h : ta σ H fun x H1 => tb σ H1 fun y H2 => R x y H2) {Q : Value → Shared → Prop} {f : Value → Value → Sem Value}
    (hf : ∀ v u s2 x y H2, Inv X pins σ H2 s2 → RelV x v → RelV y u → R x y H2 → wpAny (model X.prog X.w) X.A (f v u) Q X.xe s2) :
    wpAny (model X.prog X.w) X.A (eval a X.env) (fun v s₁ => wpAny (model X.prog X.w) X.A (eval b X.env) (fun u s₂ => wpAny (model X.prog X.w) X.A (f v u) Q X.xe s₂) X.xe s₁) X.xe s := by
  refine thn (ha pins s σ H _ I h) fun v s1 zz => ex5 zz fun x H1 I1 r1 q1 => ?_
  refine thn (hb pins s1 σ H1 _ I1 q1) fun u s2 zz => ex5 zz fun y H2 I2 r2 q2 => ?_
  exact hf v u s2 x y H2 I2 r1 r2 q2
theorem pe_op {op : Operator} {r : R2} (ho : OpR X (binaryOp op) r) (ha : PE X a ta) (hb : PE X b tb) : PE X (.BinOp a op b pos) (tOp r ta tb) := by
  intro pins s σ H Q I h
  exact wpAny_BinOp (binT ha hb I h fun v u s2 x y H2 I2 rx ry q => ho pins s2 σ H2 x y v u Q I2 rx ry q)
theorem pe_un {op : UnaryOp} {r : V → Hp → VK → Prop} (ho : UnR X (unaryOp op) r) (ha : PE X a ta) : PE X (.UnaryOp op a pos) (tUn r ta) := by
  intro pins s σ H Q I h
  exact UnaryOp_ (thn (ha pins s σ H _ I h) fun v s1 zz => ex5 zz fun x H1 I1 r1 q1 => ho pins s1 σ H1 x v Q I1 r1 q1)
theorem opI {f : Value → Value → Sem Value} {C : Int → Int → Prop} {g : Int → Int → Int}
    (rule : ∀ (i j : Int) (t u : Tok) (s : Shared) (Q : Value → Shared → Prop) (E : Value → Shared → Prop), C i j → Q (.int (g i j) s.toks) { s with toks := s.toks + 1 } → wpAny (model X.prog X.w) X.A (f (.int i t) (.int j u)) Q E s) :
    OpR X f (rI C fun i j => .int (g i j)) := by
  intro pins s σ H x y v u Q I rx ry h
  obtain ⟨i, j, rfl, rfl, hc, q⟩ := h
  obtain ⟨t, rfl⟩ := rx
  obtain ⟨t', rfl⟩ := ry
  exact rule i j t t' s _ _ hc ⟨.int (g i j), H, I.tok _, ⟨_, rfl⟩, q⟩
theorem opI0 {f : Value → Value → Sem Value} {g : Int → Int → Int}
    (rule : ∀ (i j : Int) (t u : Tok) (s : Shared) (Q : Value → Shared → Prop) (E : Value → Shared → Prop), Q (.int (g i j) s.toks) { s with toks := s.toks + 1 } → wpAny (model X.prog X.w) X.A (f (.int i t) (.int j u)) Q E s) :
    OpR X f (rI0 fun i j => .int (g i j)) := by
  intro pins s σ H x y v u Q I rx ry h
  obtain ⟨i, j, rfl, rfl, q⟩ := h
  obtain ⟨t, rfl⟩ := rx
  obtain ⟨t', rfl⟩ := ry
  exact rule i j t t' s _ _ ⟨.int (g i j), H, I.tok _, ⟨_, rfl⟩, q⟩
theorem opB0 {f : Value → Value → Sem Value} {g : Int → Int → Bool}
    (rule : ∀ (i j : Int) (t u : Tok) (s : Shared) (Q : Value → Shared → Prop) (E : Value → Shared → Prop), Q (.bool (g i j)) s → wpAny (model X.prog X.w) X.A (f (.int i t) (.int j u)) Q E s) :
    OpR X f (rI0 fun i j => .bl (g i j)) := by
  intro pins s σ H x y v u Q I rx ry h
  obtain ⟨i, j, rfl, rfl, q⟩ := h
  obtain ⟨t, rfl⟩ := rx
  obtain ⟨t', rfl⟩ := ry
  exact rule i j t t' s _ _ ⟨.bl (g i j), H, I, rfl, q⟩
def CMul (i j : Int) : Prop := (-(2 ^ 64) < i ∧ i < 2 ^ 64) ∨ (-(2 ^ 64) < j ∧ j < 2 ^ 64)
theorem CMul.ok {i j : Int} (h : CMul i j) : IntMulOk i j := by
  rcases h with ⟨h1, h2⟩ | ⟨h1, h2⟩
  · exact .of_left (intBits_le_64 h1 h2)
  · exact .of_right (intBits_le_64 h1 h2)
theorem op_add : OpR X (binaryOp .Add) (rI0 fun i j => .int (i + j)) := opI0 fun _ _ _ _ _ _ _ q => add_int q
theorem op_mul : OpR X (binaryOp .Mult) (rI CMul fun i j => .int (i * j)) := opI fun _ _ _ _ _ _ _ hc q => mul_int q hc.ok
theorem unI {f : Value → Sem Value} {g : Int → Int}
    (rule : ∀ (i : Int) (t : Tok) (s : Shared) (Q : Value → Shared → Prop) (E : Value → Shared → Prop), Q (.int (g i) s.toks) { s with toks := s.toks + 1 } → wpAny (model X.prog X.w) X.A (f (.int i t)) Q E s) :
    UnR X f (rU fun i => .int (g i)) := by
  intro pins s σ H x v Q I rx h
  obtain ⟨i, rfl, q⟩ := h
  obtain ⟨t, rfl⟩ := rx
  exact rule i t s _ _ ⟨.int (g i), H, I.tok _, ⟨_, rfl⟩, q⟩
theorem un_neg : UnR X (unaryOp .USub) (rU fun i => .int (-i)) := unI fun _ _ _ _ _ q => neg_int q
end
noncomputable def scal : V → V → Bool
  | .non, .non => true | .non, .int _ => true | .int _, .non => true | .non, .bl _ => true | .bl _, .non => true | .non, .str _ => true | .str _, .non => true
  | .int _, .int _ => true | .bl _, .bl _ => true | .str _, .str _ => true | .byt _, .byt _ => true
  | .int _, .str _ => true | .str _, .int _ => true | .bl _, .str _ => true | .str _, .bl _ => true
  | _, _ => false
noncomputable def rEq : R2 := fun x y H Q => scal x y = true ∧ Q (.bl (decide (x = y))) H
noncomputable def rNe : R2 := fun x y H Q => scal x y = true ∧ Q (.bl (!decide (x = y))) H
theorem dec_int {i j : Int} : decide (V.int i = V.int j) = (i == j) := by
  rw [Bool.eq_iff_iff]
  simp
theorem dec_bl {i j : Bool} : decide (V.bl i = V.bl j) = (i == j) := by
  rw [Bool.eq_iff_iff]
  simp
theorem dec_str {i j : Str} : decide (V.str i = V.str j) = (i == j) := by
  rw [Bool.eq_iff_iff]
  simp
theorem dec_byt {i j : Array UInt8} : decide (V.byt i = V.byt j) = (i.toList == j.toList) := by
  rw [Bool.eq_iff_iff]
  cases i
  cases j
  simp
section
variable {X : Cx} {a b c : Expr} {ta tb tc : TE} {pos : Pos}
theorem fin_bl {pins : List (Addr × Obj)} {σ : St} {H : Hp} {s : Shared} {Q : VK} {k k' : Bool} (I : Inv X pins σ H s) (q : Q (.bl k) H) (e : k = k') : EP X pins σ Q (.bool k') s := by
  subst e
  exact ⟨.bl k, H, I, rfl, q⟩
theorem op_eq : OpR X (compareOp .Eq) rEq := by
  intro pins s σ H x y v u Q I rx ry h
  obtain ⟨hs, q⟩ := h
  cases x with
  | non =>
    cases rx
    cases y with
    | non => cases ry; exact PySem.EqNone.eq_none_none (fin_bl I q (by simp))
    | bl j => cases ry; exact PySem.EqNone.eq_none_bool (fin_bl I q (by simp))
    | int j => obtain ⟨t', rfl⟩ := ry; exact PySem.EqNone.eq_none_int (fin_bl I q (by simp))
    | str j => obtain ⟨t', rfl⟩ := ry; exact PySem.EqNone.eq_none_str (fin_bl I q (by simp))
    | _ => exact absurd (show false = true from hs) Bool.false_ne_true
  | bl i =>
    cases rx
    cases y with
    | non => cases ry; exact PySem.EqNone.eq_bool_none (fin_bl I q (by simp))
    | bl j => cases ry; exact eq_bool (fin_bl I q dec_bl)
    | str j => obtain ⟨t', rfl⟩ := ry; exact PySem.EqMixed.eq_bool_str (fin_bl I q (by simp))
    | _ => exact absurd (show false = true from hs) Bool.false_ne_true
  | int i =>
    obtain ⟨t, rfl⟩ := rx
    cases y with
    | non => cases ry; exact PySem.EqNone.eq_int_none (fin_bl I q (by simp))
    | int j => obtain ⟨t', rfl⟩ := ry; exact eq_int (fin_bl I q dec_int)
    | str j => obtain ⟨t', rfl⟩ := ry; exact PySem.EqMixed.eq_int_str (fin_bl I q (by simp))
    | _ => exact absurd (show false = true from hs) Bool.false_ne_true
  | str i =>
    obtain ⟨t, rfl⟩ := rx
    cases y with
    | non => cases ry; exact PySem.EqNone.eq_str_none (fin_bl I q (by simp))
    | bl j => cases ry; exact PySem.EqMixed.eq_str_bool (fin_bl I q (by simp))
    | int j => obtain ⟨t', rfl⟩ := ry; exact PySem.EqMixed.eq_str_int (fin_bl I q (by simp))
    | str j => obtain ⟨t', rfl⟩ := ry; exact eq_str (fin_bl I q dec_str)
    | _ => exact absurd (show false = true from hs) Bool.false_ne_true
  | byt i =>
    obtain ⟨t, rfl⟩ := rx
    cases y with
    | byt j => obtain ⟨t', rfl⟩ := ry; exact PySem.W.eq_bytes (fin_bl I q dec_byt)
    | _ => exact absurd (show false = true from hs) Bool.false_ne_true
  | _ => cases y <;> exact absurd (show false = true from hs) Bool.false_ne_true
theorem op_ne : OpR X (compareOp .NotEq) rNe := by
  intro pins s σ H x y v u Q I rx ry h
  obtain ⟨hs, q⟩ := h
  cases x with
  | non =>
    cases rx
    cases y with
    | non => cases ry; exact PySem.EqNone.ne_none_none (fin_bl I q (by simp))
    | bl j => cases ry; exact PySem.EqNone.ne_none_bool (fin_bl I q (by simp))
    | int j => obtain ⟨t', rfl⟩ := ry; exact PySem.EqNone.ne_none_int (fin_bl I q (by simp))
    | str j => obtain ⟨t', rfl⟩ := ry; exact PySem.EqNone.ne_none_str (fin_bl I q (by simp))
    | _ => exact absurd (show false = true from hs) Bool.false_ne_true
  | bl i =>
    cases rx
    cases y with
    | non => cases ry; exact PySem.EqNone.ne_bool_none (fin_bl I q (by simp))
    | bl j => cases ry; exact ne_bool (fin_bl I q (congrArg not dec_bl))
    | str j => obtain ⟨t', rfl⟩ := ry; exact PySem.EqMixed.ne_bool_str (fin_bl I q (by simp))
    | _ => exact absurd (show false = true from hs) Bool.false_ne_true
  | int i =>
    obtain ⟨t, rfl⟩ := rx
    cases y with
    | non => cases ry; exact PySem.EqNone.ne_int_none (fin_bl I q (by simp))
    | int j => obtain ⟨t', rfl⟩ := ry; exact ne_int (fin_bl I q (congrArg not dec_int))
    | str j => obtain ⟨t', rfl⟩ := ry; exact PySem.EqMixed.ne_int_str (fin_bl I q (by simp))
    | _ => exact absurd (show false = true from hs) Bool.false_ne_true
  | str i =>
    obtain ⟨t, rfl⟩ := rx
    cases y with
    | non => cases ry; exact PySem.EqNone.ne_str_none (fin_bl I q (by simp))
    | bl j => cases ry; exact PySem.EqMixed.ne_str_bool (fin_bl I q (by simp))
    | int j => obtain ⟨t', rfl⟩ := ry; exact PySem.EqMixed.ne_str_int (fin_bl I q (by simp))
    | str j => obtain ⟨t', rfl⟩ := ry; exact ne_str (fin_bl I q (congrArg not dec_str))
    | _ => exact absurd (show false = true from hs) Bool.false_ne_true
  | byt i =>
    obtain ⟨t, rfl⟩ := rx
    cases y with
    | byt j => obtain ⟨t', rfl⟩ := ry; exact PySem.W.ne_bytes (fin_bl I q (congrArg not dec_byt))
    | _ => exact absurd (show false = true from hs) Bool.false_ne_true
  | _ => cases y <;> exact absurd (show false = true from hs) Bool.false_ne_true
theorem op_lt : OpR X (compareOp .Lt) (rI0 fun i j => .bl (decide (i < j))) := opB0 fun _ _ _ _ _ _ _ q => lt_int q
theorem op_le : OpR X (compareOp .LtE) (rI0 fun i j => .bl (decide (i ≤ j))) := opB0 fun _ _ _ _ _ _ _ q => le_int q
theorem op_gt : OpR X (compareOp .Gt) (rI0 fun i j => .bl (decide (j < i))) := opB0 fun _ _ _ _ _ _ _ q => gt_int q
theorem op_ge : OpR X (compareOp .GtE) (rI0 fun i j => .bl (decide (j ≤ i))) := opB0 fun _ _ _ _ _ _ _ q => ge_int q
theorem nomark (b : Expr) {op : CmpOp} (h : op ≠ .In := by decide) (h2 : op ≠ .NotIn := by decide) : behindInMarks op b = false := by
  have e1 : (op == CmpOp.In) = false := by cases op <;> first | rfl | exact absurd rfl h
  have e2 : (op == CmpOp.NotIn) = false := by cases op <;> first | rfl | exact absurd rfl h2
  cases b <;> first | rfl | (show ((_ && (_ || _)) && _) = false; rw [e1, e2, Bool.or_self, Bool.and_false, Bool.false_and])
theorem pe_cmpR {op : CmpOp} {r : R2} (ho : OpR X (compareOp op) r) (ha : PE X a ta) (hb : PE X b tb) (hm : behindInMarks op b = false) : PE X (.Compare a [op] [b] pos) (tOp r ta tb) := by
  intro pins s σ H Q I h
  exact wpAny_Compare1 (binT ha hb I h fun v u s2 x y H2 I2 rx ry q => ho pins s2 σ H2 x y v u Q I2 rx ry q) hm
noncomputable def tTest (t : TE) : TT := fun σ H Q => t σ H fun x H' => ∃ k, x = .bl k ∧ Q k H'
theorem pt_cmpR {op : CmpOp} {r : R2} (ho : OpR X (compareOp op) r) (ha : PE X a ta) (hb : PE X b tb) (hm : behindInMarks op b = false) : PT X (.Compare a [op] [b] pos) (tTest (tOp r ta tb)) := by
  intro pins s σ H Q I h
  refine wpAny_isTrue_Compare1 (thn (ha pins s σ H _ I h) fun v s1 zz => ex5 zz fun x H1 I1 r1 q1 => thn (hb pins s1 σ H1 _ I1 q1) fun u s2 zz => ex5 zz fun y H2 I2 r2 q2 => 
    thn (ho pins s2 σ H2 x y v u _ I2 r1 r2 q2) fun c s3 zz => ex5 zz fun z H3 I3 r3 yy => ?_) hm
  obtain ⟨k, e, q3⟩ := yy
  subst e
  cases r3
  exact wpAny_truthy_bool ⟨H3, I3, q3⟩
theorem line63 : (sizeLine : Nat) < 2 ^ 63 := by rw [sizeLine_eq]; decide
theorem vals1 {x : V} {us : List Value} (r : Vals [x] us) : ∃ u, us = [u] ∧ RelV x u := by
  cases r with
  | cons r1 r2 => cases r2; exact ⟨_, rfl, r1⟩
theorem call_abs : CallR X (.builtin "abs") (fun xs H Q => ∃ i, xs = [.int i] ∧ Q (.int (if i < 0 then -i else i)) H) := by
  intro pins s σ H xs us Q I r h
  obtain ⟨i, rfl, q⟩ := h
  obtain ⟨u, rfl, t, rfl⟩ := vals1 r
  exact call_abs_int fun u tk => ⟨.int (if i < 0 then -i else i), H, I.tok _, ⟨_, rfl⟩, q⟩
end
end L2
namespace L2
open PySem PySem.Spec PyProof.Rows
structure ObjM (h : Heap) (x dx C : Addr) (mA : Str → Option Value) : Prop where
  obj : h.get? x = some (PySem.W.instObj C dx)
  ns : h.Ns1 dx mA
  ne : dx ≠ x
theorem lookIn_ns {h : Heap} {dx : Addr} {mA : Str → Option Value} (n : h.Ns1 dx mA) : ∃ od, h.get? dx = some od ∧ ∀ name, PySem.W.lookIn name od = some (mA name) := by
  obtain ⟨o, es, ep, ho, hd, hk, _, hm⟩ := n
  refine ⟨o, ho, fun name => ?_⟩
  have e := hm name
  unfold nsFind findBy at e
  rw [← Array.find?_toList] at e
  unfold PySem.W.lookIn
  rw [hd]
  dsimp only
  split
  · rename_i y q
    rw [q] at e
    exact congrArg some e
  · rename_i q
    rw [q] at e
    have a : es.toList.any (·.refKey) = false := by
      rw [List.any_eq_false]
      intro y hy
      obtain ⟨z, t, hkey⟩ := hk y (Array.mem_toList_iff.mp hy)
      simp [DictEntry.refKey, hkey]
    have a' : ¬ es.toList.any (·.refKey) = true := by rw [a]; exact Bool.false_ne_true
    rw [if_neg a']
    exact congrArg some e
theorem ObjM.look {h : Heap} {x dx C : Addr} {mA : Str → Option Value} (I : ObjM h x dx C mA) : ∃ od, PySem.W.InstAt h x (PySem.W.instObj C dx) C (some od) ∧ ∀ name, PySem.W.lookIn name od = some (mA name) :=
  let ⟨od, ho, hl⟩ := lookIn_ns I.ns
  ⟨od, ⟨I.obj, rfl, rfl, ho⟩, hl⟩
section
variable {prog : Program} {w : World} {A : Around} {E : Value → Shared → Prop} {s : Shared} {K : PySem.W.Frag} {x dx C f : Addr} {mA : Str → Option Value} {name : Str} {v : Value}
theorem get_map {expr : Bool} {Q : Value → Shared → Prop} (X : K.In s.heap) (I : ObjM s.heap x dx C mA) (hg : PySem.W.plainGet K C name = true) (hh : PySem.W.hasDictIn K C = true)
    (ha : PySem.W.findIn K (.ref C) name = some none) (hv : mA name = some v) (hv' : PySem.W.handedIn v = true) (h : Q v { s with toks := s.toks + 1 }) :
    wpAny (model prog w) A (getAttr (.ref x) name expr) Q E s := by
  obtain ⟨od, J, hl⟩ := I.look
  exact PySem.W.get_value X J (PySem.W.plainGet_of hg).1 (PySem.W.findObj_own hh ha rfl (by rw [hl, hv])) hv' h
theorem get_meth {pl : Sem Bool} {Q : Value × List Value → Shared → Prop} (X : K.In s.heap) (I : ObjM s.heap x dx C mA) (hg : PySem.W.plainGet K C name = true)
    (hf : PySem.W.findIn K (.ref C) name = some (some (.ref f))) (ht : PySem.W.isFn K (.ref f) = true) (hv : mA name = none) (h : Q (.ref f, [.ref x]) s) :
    wpAny (model prog w) A (getMethod (.ref x) name pl) Q E s := by
  obtain ⟨od, J, hl⟩ := I.look
  exact PySem.W.method_fn X J (PySem.W.plainGet_of hg).1 (PySem.W.plainGet_of hg).2 hf (beq_iff_eq.mp ht) (by show (PySem.W.lookIn name od).map (·.isSome) = some false; rw [hl, hv]; rfl) h
theorem set_map {ns : List Str} {Q : Unit → Shared → Prop} (X : K.In s.heap) (I : ObjM s.heap x dx C mA)
    (hs : PySem.W.findIn K (.ref C) "__setattr__" = some (some (.builtin "object.__setattr__"))) (hp : PySem.W.plainOver K C = true) (ht : PySem.W.takerIn K C name = some none) (hh : PySem.W.hasDictIn K C = true)
    (hw : PySem.Within mA ns) (hsz : ns.length ≤ sizeLine)
    (h : ∀ h', ObjM h' x dx C (fun y => if y = name then some v else mA y) → Heap.SameBut dx s.heap h' → Q () { s with heap := h', toks := s.toks + 2 }) :
    wpAny (model prog w) A (setAttr (.ref x) name v) Q E s := by
  obtain ⟨od, J, hl⟩ := I.look
  refine PySem.W.set_plain X J hs (PySem.W.osa_open (s := { s with toks := s.toks + 1 }) (r := none) X J hp ht fun b => ?_)
  obtain ⟨cd, hc, hd'⟩ := PySem.W.any_some hh
  have hx : s.heap.get? x = some ⟨.ref C, some dx, .plain, #[]⟩ := I.obj
  refine wpAny_bind (wpAny_pure (wpAny_bind (wpAny_bind (wpAny_loadPart hx (wpAny_bind (PySem.W.Looks.here (s := { s with toks := s.toks + 1 }) (PySem.W.looks_clsIn X hc) ?_))))))
  rw [hd']
  refine wpAny_pure (a := some dx) (wpAny_bind (wpAny_pure (wpAny_bind ?_)))
  refine wpAny_nsSet1 (s := { s with toks := s.toks + 1 }) I.ns fun h' hn2 hs2 => ?_
  obtain ⟨oD, esD, epD, hoD, hdD, hcD⟩ := hn2.count (PySem.Within.cons name v hw)
  refine wpAny_bind (wpAny_lookBehind hoD (by rw [hdD]; exact pastItsLine_dict (Nat.le_trans hcD (by rw [List.length_cons]; omega))) ?_)
  exact wpAny_pure (h _ ⟨(hs2.2 _ (Ne.symm I.ne)).trans I.obj, hn2, I.ne⟩ hs2)
theorem make_map {R : Result → Shared → Prop} {vs : List Value} {kw : List (Str × Value)} (X : K.In s.heap) (hm : PySem.W.makesIn K C = true)
    (hi : PySem.W.findIn K (.ref C) "__init__" = some (some (.ref f))) (hf : PySem.W.typeIn K (.ref f) = some (.type "function"))
    (h : codeAny (model prog w) (A.under (.builtin "type.__call__" ⟨.ref C :: vs, kw⟩)) (.call (.ref f) ⟨.ref (s.heap.objs.size + 1) :: vs, kw⟩) (PySem.W.InitBack (s.heap.objs.size + 1) R)
      { s with heap := (s.heap.push PySem.W.emptyDict).push (PySem.W.instObj C s.heap.objs.size) }) :
    codeAny (model prog w) A (.call (.ref C) ⟨vs, kw⟩) R s := by
  obtain ⟨hh, g, d, t, os⟩ := s
  exact PySem.W.make_core (PySem.W.makes_of X hm) (PySem.W.looks_findIn X hi) (fun self => PySem.W.bind_fn X self hf) (.inl rfl) h
end
noncomputable def putF (f : Str) (v : V) : List (Str × V) → List (Str × V)
  | [] => [(f, v)]
  | (g, x) :: r => if g = f then (g, v) :: r else (g, x) :: putF f v r
theorem lookup_putF (f g : Str) (v : V) : ∀ fs : List (Str × V), (putF f v fs).lookup g = if g = f then some v else fs.lookup g
  | [] => by
    show List.lookup g [(f, v)] = _
    by_cases h : g = f
    · have hb : (g == f) = true := beq_iff_eq.mpr h
      simp only [List.lookup, hb, if_pos h]
    · have hb : (g == f) = false := beq_eq_false_iff_ne.mpr h
      simp only [List.lookup, hb, if_neg h]
  | (k, x) :: r => by
    have ih := lookup_putF f g v r
    rw [show putF f v ((k, x) :: r) = (if k = f then (k, v) :: r else (k, x) :: putF f v r) from rfl]
    by_cases hk : k = f
    · rw [if_pos hk]
      by_cases h : g = k
      · have hb : (g == k) = true := beq_iff_eq.mpr h
        simp only [List.lookup, hb, if_pos (h.trans hk)]
      · have hb : (g == k) = false := beq_eq_false_iff_ne.mpr h
        simp only [List.lookup, hb, if_neg (fun e : g = f => h (e.trans hk.symm))]
    · rw [if_neg hk]
      by_cases h : g = k
      · have hb : (g == k) = true := beq_iff_eq.mpr h
        simp only [List.lookup, hb, if_neg (fun e : g = f => hk (h.symm.trans e))]
      · have hb : (g == k) = false := beq_eq_false_iff_ne.mpr h
        simp only [List.lookup, hb]
        exact ih
theorem keys_putF (f : Str) (v : V) : ∀ fs : List (Str × V), f ∈ (putF f v fs).map (·.1) ∧ ∀ g, g ∈ fs.map (·.1) → g ∈ (putF f v fs).map (·.1)
  | [] => ⟨by simp [putF], fun g h => by simp at h⟩
  | (k, x) :: r => by
    obtain ⟨i1, i2⟩ := keys_putF f v r
    rw [show putF f v ((k, x) :: r) = (if k = f then (k, v) :: r else (k, x) :: putF f v r) from rfl]
    by_cases hk : k = f
    · rw [if_pos hk]
      subst hk
      exact ⟨by simp, fun g h => by simpa using h⟩
    · rw [if_neg hk]
      refine ⟨?_, fun g h => ?_⟩
      · rw [List.map_cons]
        exact List.mem_cons_of_mem _ i1
      · rw [List.map_cons] at h ⊢
        rcases List.mem_cons.mp h with e | e
        · exact List.mem_cons.mpr (.inl e)
        · exact List.mem_cons_of_mem _ (i2 g e)
theorem length_putF (f : Str) (v : V) : ∀ fs : List (Str × V), (putF f v fs).length ≤ fs.length + 1
  | [] => by simp [putF]
  | (k, x) :: r => by
    have ih := length_putF f v r
    rw [show putF f v ((k, x) :: r) = (if k = f then (k, v) :: r else (k, x) :: putF f v r) from rfl]
    by_cases hk : k = f
    · rw [if_pos hk, List.length_cons, List.length_cons]; omega
    · rw [if_neg hk, List.length_cons, List.length_cons]; omega
theorem RelO.some_of {v : V} {o : Option Value} (r : RelO (some v) o) : ∃ u, o = some u ∧ RelV v u := by
  cases o with
  | none => exact (show False from r).elim
  | some u => exact ⟨u, rfl, r⟩
theorem RelO.none_of {o : Option Value} (r : RelO none o) : o = none := by
  cases o with
  | none => rfl
  | some u => exact (show False from r).elim
theorem handed_of {v : V} {u : Value} (r : RelV v u) : PySem.W.handedIn u = true := by
  cases v with
  | non => cases (show u = Value.none from r); rfl
  | bl b => cases (show u = Value.bool b from r); rfl
  | int i => obtain ⟨t, e⟩ := (show ∃ t, u = Value.int i t from r); cases e; rfl
  | str x => obtain ⟨t, e⟩ := (show ∃ t, u = Value.str x t from r); cases e; rfl
  | byt b => obtain ⟨t, e⟩ := (show ∃ t, u = Value.bytes b t from r); cases e; rfl
  | flt b => obtain ⟨t, e⟩ := (show ∃ t, u = Value.float b t from r); cases e; rfl
  | ref a => cases (show u = Value.ref a from r); rfl
  | ty n => cases (show u = Value.type n from r); rfl
section
variable {P : Program} {w : World} {H H' : Hp} {h h' : Heap} {a C dx : Addr} {fs fs' : List (Str × V)}
theorem ins_get (hok : HOk P w H h) (e : H a = some (.ins C dx fs)) : ∃ mA, ObjM h a dx C mA ∧ (∀ f, RelO (fs.lookup f) (mA f)) ∧ PySem.Within mA (fs.map (·.1)) ∧ fs.length ≤ 1000 ∧ H dx = some (.own a) := by
  obtain ⟨d, z, ne, ob, mA, n, r, q⟩ := (show ObjOk P w H h a (.ins C dx fs) from hok a _ e)
  exact ⟨mA, ⟨ob, n, ne⟩, r, q, z, d⟩
end
structure Cls (K : PySem.W.Frag) (C : Addr) : Prop where
  pg : PySem.W.plainGet K C Str.empty = true
  hd : PySem.W.hasDictIn K C = true
  po : PySem.W.plainOver K C = true
  sa : PySem.W.findIn K (.ref C) "__setattr__" = some (some (.builtin "object.__setattr__"))
theorem Cls.get {K : PySem.W.Frag} {C : Addr} (c : Cls K C) (f : Str) : PySem.W.plainGet K C f = true := c.pg
def NoAttr (K : PySem.W.Frag) (C : Addr) (f : Str) : Prop := PySem.W.findIn K (.ref C) f = some none
theorem NoAttr.taker {K : PySem.W.Frag} {C : Addr} {f : Str} (n : NoAttr K C f) : PySem.W.takerIn K C f = some none := by
  unfold PySem.W.takerIn
  rw [show PySem.W.findIn K (.ref C) f = some none from n]
  rfl
structure Meth (K : PySem.W.Frag) (C : Addr) (m : Str) (f : Addr) : Prop where
  at_ : PySem.W.findIn K (.ref C) m = some (some (.ref f))
  fn : PySem.W.isFn K (.ref f) = true
  kp : PySem.W.keepIn K (.ref f) = true
section
variable {X : Cx} {pins : List (Addr × Obj)} {σ : St} {H : Hp} {s : Shared} {a C dx : Addr} {fs : List (Str × V)} {f : Str} {v : V} {A : Around} {E : Value → Shared → Prop}
theorem getattr_ok {b : Bool} {Q : Value → Shared → Prop} (I : Inv X pins σ H s) (e : H a = some (.ins C dx fs)) (c : Cls X.K C) (n : NoAttr X.K C f) (l : fs.lookup f = some v)
    (h : ∀ u s', Inv X pins σ H s' → RelV v u → Q u s') : wpAny (model X.prog X.w) A (getAttr (.ref a) f b) Q E s := by
  obtain ⟨mA, O, r, _, _, _⟩ := ins_get I.hok e
  obtain ⟨u, hu, ru⟩ := RelO.some_of (v := v) (o := mA f) (by rw [← l]; exact r f)
  exact get_map I.kIn O (c.get f) c.hd n hu (handed_of ru) (h u _ (I.tok _) ru)
theorem getmeth_ok {m : Str} {g : Addr} {pl : Sem Bool} {Q : Value × List Value → Shared → Prop} (I : Inv X pins σ H s) (e : H a = some (.ins C dx fs)) (c : Cls X.K C) (k : Meth X.K C m g) (l : fs.lookup m = none)
    (h : Q (.ref g, [.ref a]) s) : wpAny (model X.prog X.w) A (getMethod (.ref a) m pl) Q E s := by
  obtain ⟨mA, O, r, _, _, _⟩ := ins_get I.hok e
  have hn : mA m = none := RelO.none_of (by rw [← l]; exact r m)
  exact get_meth I.kIn O (c.get m) k.at_ k.fn hn h
theorem setattr_ok {y : V} {u : Value} {Q : Unit → Shared → Prop} (I : Inv X pins σ H s) (e : H a = some (.ins C dx fs)) (c : Cls X.K C) (n : NoAttr X.K C f) (hl : fs.length < 1000) (ry : RelV y u)
    (h : ∀ s', Inv X pins σ (upd H a (.ins C dx (putF f y fs))) s' → Q () s') : wpAny (model X.prog X.w) A (setAttr (.ref a) f u) Q E s := by
  obtain ⟨mA, O, r, wi, _, ho⟩ := ins_get I.hok e
  have hz : (fs.map (·.1)).length ≤ sizeLine := by rw [List.length_map, sizeLine_eq]; omega
  refine set_map I.kIn O c.sa c.po n.taker c.hd wi hz fun h' O' sb => h _ ?_
  have hd : ∃ o, h'.get? dx = some o := let ⟨o, _, _, e', _⟩ := O'.ns; ⟨o, e'⟩
  refine I.write (x := a) (e := dx) (by rw [e]; exact True.intro) (.inr ho) (fun b q hb z => (sb.2 b hb).trans z) hd ?_
  refine ⟨by rw [upd_ne O.ne]; exact ho, ?_, O.ne, O'.obj, _, O'.ns, fun g => ?_, fun g hg => ?_⟩
  · have := length_putF f y fs; omega
  · show RelO ((putF f y fs).lookup g) (if g = f then some u else mA g)
    rw [lookup_putF]
    by_cases q : g = f
    · rw [if_pos q, if_pos q]; exact ry
    · rw [if_neg q, if_neg q]; exact r g
  · by_cases q : g = f
    · rw [q]; exact (keys_putF f y fs).1
    · refine (keys_putF f y fs).2 g (wi g fun z => hg ?_)
      show (if g = f then some u else mA g) = none
      rw [if_neg q]; exact z
theorem Inv.made (I : Inv X pins σ H s) : Inv X pins σ (upd (upd H s.heap.objs.size (.own (s.heap.objs.size + 1))) (s.heap.objs.size + 1) (.ins C s.heap.objs.size []))
    { s with heap := (s.heap.push PySem.W.emptyDict).push (PySem.W.instObj C s.heap.objs.size) } := by
  have e1 : (s.heap.push PySem.W.emptyDict).get? s.heap.objs.size = some PySem.W.emptyDict := Heap.get?_push_size s.heap rfl
  have e2 : ((s.heap.push PySem.W.emptyDict).push (PySem.W.instObj C s.heap.objs.size)).get? (s.heap.objs.size + 1) = some (PySem.W.instObj C s.heap.objs.size) := by
    have := Heap.get?_push_size (s.heap.push PySem.W.emptyDict) (o := PySem.W.instObj C s.heap.objs.size) rfl
    rwa [Heap.size_push] at this
  have e3 : (s.heap.push PySem.W.emptyDict).Ns s.heap.objs.size (fun _ => none) := ⟨PySem.W.emptyDict, #[], _, e1, rfl, (fun e he => absurd he (by simp)), fun _ => rfl⟩
  have I1 := I.laid (a := s.heap.objs.size) (o := .own (s.heap.objs.size + 1)) (h' := s.heap.push PySem.W.emptyDict) (t' := s.toks) (fun b u q => Heap.get?_push_of_some _ q) (Nat.le_refl _) ⟨_, e1⟩
  refine I1.laid (a := s.heap.objs.size + 1) (o := .ins C s.heap.objs.size []) (t' := s.toks) (fun b u q => Heap.get?_push_of_some _ q) (Nat.le_of_eq (Heap.size_push _ _)) ?_
  have ne : s.heap.objs.size ≠ s.heap.objs.size + 1 := Nat.ne_of_lt (Nat.lt_succ_self _)
  refine ⟨by rw [upd_ne ne, upd_same], Nat.zero_le _, ne, e2, fun _ => none, (Heap.Ns1.of_empty e3).at fun o q => Heap.get?_push_of_some _ q, fun _ => True.intro, fun y hy => absurd rfl hy⟩
theorem attr_of {prog : Program} {w : World} {env : Env} {e : Expr} {f : Str} {pos : Pos} {s : Shared} {Q : Value → Shared → Prop} (hb : attributeBase e f env (eval e env) = eval e env)
    (h : wpAny (model prog w) A (eval e env) (fun o s₁ => wpAny (model prog w) A (getAttr o f true) Q E s₁) E s) : wpAny (model prog w) A (eval (.Attribute e f pos) env) Q E s :=
  Attribute_any_ h (by rw [arm_eval_Attribute, hb])
end
noncomputable def tFld (K : PySem.W.Frag) (ta : TE) (f : Str) : TE := fun σ H Q => ta σ H fun x H1 => ∃ a C dx fs v, x = .ref a ∧ H1 a = some (.ins C dx fs) ∧ Cls K C ∧ NoAttr K C f ∧ fs.lookup f = some v ∧ Q v H1
noncomputable def sFld (K : PySem.W.Frag) (ta tv : TE) (f : Str) : TS := fun D σ H => tv σ H fun y H1 => ta σ H1 fun x H2 => ∃ a C dx fs, x = .ref a ∧ H2 a = some (.ins C dx fs) ∧ Cls K C ∧ NoAttr K C f ∧ fs.length < 1000 ∧
  D.nx σ (upd H2 a (.ins C dx (putF f y fs)))
def InOp (X : Cx) (op : Operator) (rd : V → V → Hp → VK → Prop) : Prop :=
  ∀ (pins : List (Addr × Obj)) (s : Shared) (σ : St) (H : Hp) (x y : V) (u v : Value) (Q : VK), Inv X pins σ H s → RelV x u → RelV y v → rd x y H Q → wpAny (model X.prog X.w) X.A (inplaceOp op u v) (EP X pins σ Q) X.xe s
noncomputable def sFldAug (K : PySem.W.Frag) (ta tv : TE) (rd : V → V → Hp → VK → Prop) (f : Str) : TS := fun D σ H => ta σ H fun x H1 => ∃ a C dx fs v, x = .ref a ∧ H1 a = some (.ins C dx fs) ∧ Cls K C ∧ NoAttr K C f ∧ fs.lookup f = some v ∧
  tv σ H1 fun y H2 => rd v y H2 fun z H3 => ∃ dx' fs', H3 a = some (.ins C dx' fs') ∧ fs'.length < 1000 ∧ D.nx σ (upd H3 a (.ins C dx' (putF f z fs')))
section
variable {X : Cx} {o e value : Expr} {f : Str} {pos pos' tpos : Pos} {ta tv : TE}
theorem pe_fld (he : PE X e ta) (hb : attributeBase e f X.env (eval e X.env) = eval e X.env) : PE X (.Attribute e f pos) (tFld X.K ta f) := by
  intro pins s σ H Q I h
  refine attr_of hb (thn (he pins s σ H _ I h) fun u s1 zz => ex5 zz fun x H1 I1 rx yy => ?_)
  obtain ⟨a, C, dx, fs, v, ex, ea, c, n, l, q⟩ := yy
  subst ex
  obtain rfl : u = Value.ref a := rx
  exact getattr_ok I1 ea c n l fun u' s2 I2 ru => ⟨v, H1, I2, ru, q⟩
theorem ps_fld (ha : PE X o ta) (hv : PE X value tv) (hs : swapsWith value (some (.Attribute o f pos')) pos.line X.env = pure false) : PS X (.Assign [.Attribute o f pos'] value pos) (sFld X.K ta tv f) := by
  intro pins s σ H D I h
  refine plainObj_wpAny_Assign_Attribute (thn (hv pins s σ H _ I h) fun u s1 zz => ex5 zz fun y H1 I1 ry q => thn (ha pins s1 σ H1 _ I1 q) fun ov s2 zz => ex5 zz fun x H2 I2 rx yy => ?_) hs
  obtain ⟨a, C, dx, fs, ex, ea, c, n, l, q2⟩ := yy
  subst ex
  obtain rfl : ov = Value.ref a := rx
  exact setattr_ok I2 ea c n l ry fun s3 I3 => ⟨σ, _, I3, q2⟩
theorem ps_fldaug {op : Operator} {rd : V → V → Hp → VK → Prop} (ha : PE X o ta) (hv : PE X value tv) (hop : InOp X op rd) : PS X (.AugAssign (.Attribute o f tpos) op value pos) (sFldAug X.K ta tv rd f) := by
  intro pins s σ H D I h
  refine wpAny_AugAssign_AttributeAny (thn (ha pins s σ H _ I h) fun ov s1 zz => ex5 zz fun x H1 I1 rx yy => ?_)
  obtain ⟨a, C, dx, fs, v, ex, ea, c, n, l, q⟩ := yy
  subst ex
  obtain rfl : ov = Value.ref a := rx
  refine getattr_ok I1 ea c n l fun u s2 I2 ru => thn (hv pins s2 σ H1 _ I2 q) fun w3 s3 zz => ex5 zz fun y H2 I3 ry q3 => thn (hop pins s3 σ H2 v y u w3 _ I3 ru ry q3) fun w4 s4 zz => ex5 zz fun z H3 I4 rz yy => ?_
  obtain ⟨dx', fs', ea', l', q4⟩ := yy
  exact setattr_ok I4 ea' c n l' rz fun s5 I5 => ⟨σ, _, I5, q4⟩
noncomputable def rAdd : V → V → Hp → VK → Prop := fun x y H Q => ∃ i j, x = .int i ∧ y = .int j ∧ Q (.int (i + j)) H
theorem in_add : InOp X .Add rAdd := by
  rintro pins s σ H x y u v Q I rx ry ⟨i, j, rfl, rfl, q⟩
  obtain ⟨t, rfl⟩ := (show ∃ t, u = Value.int i t from rx)
  obtain ⟨t', rfl⟩ := (show ∃ t', v = Value.int j t' from ry)
  exact PyProof.Rows.iadd_int ⟨.int (i + j), H, I.tok _, ⟨_, rfl⟩, q⟩
theorem methcall_of {pl : Sem Bool} {m : Str} {apos : Pos} {args : List Expr} {pins : List (Addr × Obj)} {s : Shared} {σ : St} {H : Hp} {Q : Value → Shared → Prop} {te : TE} (he : PE X e te) (I : Inv X pins σ H s)
    (h : te σ H fun x H1 => ∃ a C dx fs g, x = .ref a ∧ H1 a = some (.ins C dx fs) ∧ Cls X.K C ∧ Meth X.K C m g ∧ fs.lookup m = none ∧
      ∀ s1, Inv X pins σ H1 s1 → wpAny (model X.prog X.w) X.A (callWith pos (.ref g) [.ref a] (backTo pos (starEach args X.env)) (backToKw pos (keywordEach [] X.env))) Q X.xe s1)
    (ht : eval (.Call (.Attribute e m apos) args [] pos) X.env = (do
      let ov ← eval e X.env
      standAt apos.atName
      let (f, first) ← holding [ov] (getMethod ov m pl)
      callWith pos f first (backTo pos (starEach args X.env)) (backToKw pos (keywordEach [] X.env)))) :
    wpAny (model X.prog X.w) X.A (eval (.Call (.Attribute e m apos) args [] pos) X.env) Q X.xe s := by
  refine PySem.W.methodCall_KW (pl := pl) (thn (he pins s σ H _ I h) fun u s1 zz => ex5 zz fun x H1 I1 rx yy => ?_) ht
  obtain ⟨a, C, dx, fs, g, ex, ea, c, k, l, q⟩ := yy
  subst ex
  obtain rfl : u = Value.ref a := rx
  exact getmeth_ok I1 ea c k l (q s1 I1)
end
section
variable {X : Cx} {pins : List (Addr × Obj)} {σ : St} {H : Hp} {s : Shared} {A : Around} {E : Value → Shared → Prop} {Q : Value → Shared → Prop} {c : Value} {b : Bool}
end
end L2
namespace L2
open PySem PySem.Spec PyProof.Rows
structure Room (k : Nat) (A : Around) : Prop where
  hd : A.handled = none
  dp : A.depth + 3 * k + 5 < recursionLimit
  un : A.units + 16 * k + 200 < cLine
theorem Room.mono {j k : Nat} {A : Around} (r : Room k A) (h : j ≤ k) : Room j A := ⟨r.hd, by have := r.dp; omega, by have := r.un; omega⟩
theorem Room.deeper {k : Nat} {A : Around} (r : Room (k + 1) A) (env : Env) : Room k (A.deeper env) :=
  ⟨r.hd, by have := r.dp; show A.depth + 1 + 3 * k + 5 < _; omega, by have := r.un; show A.units + 3 + 16 * k + 200 < _; omega⟩
theorem make_depth {A : Around} {C : Addr} {us : List Value} {kw : List (Str × Value)} : (A.under (.builtin "type.__call__" ⟨.ref C :: us, kw⟩)).depth = A.depth + 1 := by
  first | rfl | simp [Around.under, Code.weight, Code.isCreation, Code.isGuard, Code.isCaller, Code.frames, Code.isFrame, guardIds]
theorem make_units {A : Around} {C : Addr} {us : List Value} {kw : List (Str × Value)} : (A.under (.builtin "type.__call__" ⟨.ref C :: us, kw⟩)).units = A.units + 1 := by
  first | rfl | simp [Around.under, Code.cUnits, Code.frames, Code.isFrame]
theorem Room.make {k : Nat} {A : Around} (r : Room (k + 1) A) (C : Addr) (us : List Value) (kw : List (Str × Value)) : Room k (A.under (.builtin "type.__call__" ⟨.ref C :: us, kw⟩)) :=
  ⟨r.hd, by have := r.dp; rw [make_depth]; omega, by have := r.un; rw [make_units]; omega⟩
theorem Room.depth {k : Nat} {A : Around} (r : Room k A) : A.depth < recursionLimit := by have := r.dp; omega
theorem Room.units {k : Nat} {A : Around} (r : Room k A) : A.units + 64 < cLine := by have := r.un; omega
theorem Room.units0 {k : Nat} {A : Around} (r : Room k A) : A.units < cLine := by have := r.un; omega
noncomputable def tNil : TA := fun _ H Q => Q [] H
noncomputable def tCons (ta : TE) (tr : TA) : TA := fun σ H Q => ta σ H fun x H1 => tr σ H1 fun xs H2 => Q (x :: xs) H2
section
variable {X : Cx} {e : Expr} {es : List Expr} {te : TE} {t : TA} {pos : Pos}
theorem pa_nil : PA X [] tNil := fun _ _ _ _ H Q I h => Calls.spliced_nil ⟨[], H, I, .nil, h⟩
theorem pa_cons (ha : PE X e te) (hr : PA X es t) (hs : starEach (e :: es) X.env = (false, eval e X.env) :: starEach es X.env := by rfl) : PA X (e :: es) (tCons te t) := by
  intro pos pins s σ H Q I h
  rw [hs]
  show wpAny _ _ (spliced ((false, eval e X.env) :: backTo pos (starEach es X.env))) _ _ s
  refine Calls.spliced_cons (thn (ha pins s σ H _ I h) fun u s1 zz => ex5 zz fun x H1 I1 r1 q1 => ?_)
  exact thn (hr pos pins s1 σ H1 _ I1 q1) fun us s2 zz => ex5 zz fun xs H2 I2 r2 q2 => ⟨x :: xs, H2, I2, .cons r1 r2, q2⟩
noncomputable def tTup (t : TA) : TE := fun σ H Q => t σ H fun xs H1 => xs.length ≤ sizeLine ∧ ∀ p, H1 p = none → Q (.ref p) (upd H1 p (.tup xs))
noncomputable def tLst (t : TA) : TE := fun σ H Q => t σ H fun xs H1 => xs.length ≤ sizeLine ∧ ∀ p, H1 p = none → Q (.ref p) (upd H1 p (.lst xs))
theorem pe_tup {x1} (h : PA X es t) : PE X (.Tuple es x1 pos) (tTup t) := by
  intro pins s σ H Q I hq
  refine wpAny_Tuple_spliced (thn (h pos pins s σ H _ I hq) fun us s1 zz => ex5 zz fun xs H1 I1 r yy => ⟨by rw [← r.length]; exact yy.1, ?_⟩)
  have z := yy.1; have q := yy.2
  have hf : H1 s1.heap.objs.size = none := I1.hok.fresh (Nat.le_refl _)
  refine ⟨.ref s1.heap.objs.size, upd H1 s1.heap.objs.size (.tup xs), I1.laid (t' := s1.toks) (fun b u e => Heap.get?_push_of_some _ e) (Nat.le_refl _) ?_, rfl, q _ hf⟩
  exact ⟨z, us, r, ⟨_, Heap.get?_push_size _ rfl, rfl, _, rfl⟩⟩
theorem pe_lst (h : PA X es t) : PE X (.List es pos) (tLst t) := by
  intro pins s σ H Q I hq
  refine wpAny_List_spliced (thn (h pos pins s σ H _ I hq) fun us s1 zz => ex5 zz fun xs H1 I1 r yy => ⟨by rw [← r.length]; exact yy.1, ?_⟩)
  have z := yy.1; have q := yy.2
  have hf : H1 s1.heap.objs.size = none := I1.hok.fresh (Nat.le_refl _)
  refine ⟨.ref s1.heap.objs.size, upd H1 s1.heap.objs.size (.lst xs), I1.laid (t' := s1.toks) (fun b u e => Heap.get?_push_of_some _ e) (Nat.le_refl _) ?_, rfl, q _ hf⟩
  exact ⟨z, us, 0, r, Heap.get?_push_size _ rfl⟩
end
noncomputable abbrev Sp := List V → Hp → VK → XK → Prop
noncomputable abbrev CXT := List Env → Hp → Shared → XK → Value → Shared → Prop
structure Env0 (P : Program) (w : World) (K : PySem.W.Frag) (mg : Str → Option Value) (base : Heap) (A : Around) (outer : List Env) (s : Shared) (H : Hp) : Prop where
  frames : A.frames = some outer
  mod : Mod K mg base
  bs : ∀ b o, base.get? b = some o → s.heap.get? b = some o ∧ H b = none
  bsz : base.objs.size ≤ s.heap.objs.size
  funs : s.heap.FunFrames base outer
  frf : ∀ b ∈ frs outer, H b = none
  hok : HOk P w H s.heap
  bare : AllBare s.gens
def CE (outer : List Env) (P : Program) (w : World) (H : Hp) (s : Shared) (Q : VK) (u : Value) (s' : Shared) : Prop :=
  ∃ v H', s'.os = s.os ∧ AllBare s'.gens ∧ Un (frs outer) [] H H' s.heap s'.heap ∧ HOk P w H' s'.heap ∧ RelV v u ∧ Q v H'
def CR (CX : CXT) (outer : List Env) (P : Program) (w : World) (H : Hp) (s : Shared) (Q : VK) (E : XK) (r : Result) (s' : Shared) : Prop :=
  match r with
  | .ok (.ret u) => CE outer P w H s Q u s'
  | .ok _ => False
  | .error e => CX outer H s E e s'
structure FnOk (P : Program) (w : World) (K : PySem.W.Frag) (mg : Str → Option Value) (base : Heap) (CX : CXT) (k : Nat) (f : Addr) (fd : FuncData) (ps : List Str) (sp : Sp) : Prop where
  len : ∀ vs H Q E, sp vs H Q E → vs.length = ps.length
  run : ∀ (A : Around) (outer : List Env) (s : Shared) (H : Hp) (args : Args) (us : List Value) (vs : List V) (Q : VK) (E : XK), Room k A → Env0 P w K mg base A outer s H → BindsTo s fd args (ps.zip us) → Vals vs us → sp vs H Q E →
    codeAny (model P w) A (.call (.ref f) args) (CR CX outer P w H s Q E) s
theorem Env0.make {P : Program} {w : World} {K : PySem.W.Frag} {mg : Str → Option Value} {base : Heap} {A : Around} {outer : List Env} {s : Shared} {H : Hp} (e : Env0 P w K mg base A outer s H) (C : Addr) (us : List Value) (kw : List (Str × Value)) :
    Env0 P w K mg base (A.under (.builtin "type.__call__" ⟨.ref C :: us, kw⟩)) outer s H := ⟨by first | exact e.frames | (simpa [Around.under, Code.envs, Code.isFrame, pushEnvs] using e.frames), e.mod, e.bs, e.bsz, e.funs, e.frf, e.hok, e.bare⟩
section
variable {X : Cx} {pins : List (Addr × Obj)} {σ : St} {H : Hp} {s s' : Shared}
theorem Inv.env0 (I : Inv X pins σ H s) : Env0 X.prog X.w X.K X.mg X.base X.A X.stack s H :=
  ⟨I.ok.frames, I.ok.mod, I.bs, Nat.le_trans I.ok.bsz I.sz, I.stack, I.stkFree, I.hok, I.bare⟩
theorem Inv.after {Q : VK} {u : Value} (I : Inv X pins σ H s) (h : CE X.stack X.prog X.w H s Q u s') : EP X pins σ Q u s' := by
  obtain ⟨v, H', os, bare, un, hok, r, q⟩ := h
  obtain ⟨hh, g, d, t, os'⟩ := s'
  obtain rfl : os' = s.os := os
  exact ⟨v, H', I.call (h' := hh) (g' := g) (d' := d) (t' := t) (ch := []) un hok bare (fun b z => absurd z (by simp)), r, q⟩
end
noncomputable def tCall (sp : Sp) (dvs : List V) (E : XK) (t : TA) : TE := fun σ H Q => t σ H fun vs H1 => sp (vs ++ dvs) H1 Q E
noncomputable def tMeth (C : Addr) (m : Str) (sp : Sp) (dvs : List V) (E : XK) (ta : TE) (t : TA) : TE := fun σ H Q => ta σ H fun x H1 => ∃ a dx fs, x = .ref a ∧ H1 a = some (.ins C dx fs) ∧ fs.lookup m = none ∧
  t σ H1 fun vs H2 => sp (x :: (vs ++ dvs)) H2 Q E
noncomputable def tMake (C : Addr) (sp : Sp) (dvs : List V) (E : XK) (t : TA) : TE := fun σ H Q => t σ H fun vs H1 => ∀ x dx, H1 x = none → H1 dx = none → dx ≠ x →
  sp (.ref x :: (vs ++ dvs)) (upd (upd H1 dx (.own x)) x (.ins C dx [])) (fun v H2 => v = .non ∧ Q (.ref x) H2) E
def Binds (K : PySem.W.Frag) (fd : FuncData) (ps : List Str) (ds : List Value) : Prop :=
  ∀ (s : Shared) (us : List Value), K.In s.heap → (us ++ ds).length = ps.length → BindsTo s fd ⟨us, []⟩ (ps.zip (us ++ ds))
theorem Binds.all {K : PySem.W.Frag} {fd : FuncData} {ps : List Str} (h : ∀ us : List Value, us.length = ps.length → bindArgs fd ⟨us, []⟩ = pure (ps.zip us)) : Binds K fd ps [] := fun s us _ hl => by
  rw [List.append_nil] at hl ⊢
  exact .of_eq (h us hl)
def Passes (CX : CXT) (X : Cx) (E : XK) : Prop := ∀ (pins : List (Addr × Obj)) (σ : St) (H : Hp) (s : Shared) (e : Value) (s' : Shared), Inv X pins σ H s → CX X.stack H s E e s' → X.xe e s'
section
variable {X : Cx} {CX : CXT} {k : Nat} {f C : Addr} {fd : FuncData} {ps : List Str} {sp : Sp} {dvs : List V} {ds : List Value} {E : XK} {x m : Str} {p pos apos : Pos} {e o : Expr} {es : List Expr} {ta : TE} {t : TA}
theorem run_fn {pins : List (Addr × Obj)} {σ : St} {H : Hp} {s : Shared} {Q : VK} {us : List Value} {vs : List V} (F : FnOk X.prog X.w X.K X.mg X.base CX k f fd ps sp) (hr : Room k X.A) (hb : Binds X.K fd ps ds) (hd : Vals dvs ds) (hx : Passes CX X E)
    (I : Inv X pins σ H s) (r : Vals vs us) (h : sp (vs ++ dvs) H Q E) : wpAny (model X.prog X.w) X.A (call (.ref f) us) (EP X pins σ Q) X.xe s := by
  have r2 : Vals (vs ++ dvs) (us ++ ds) := r.append hd
  have hl : (us ++ ds).length = ps.length := by rw [← r2.length]; exact F.len _ _ _ _ h
  refine wpAny_call (codeAny_mono (F.run X.A X.stack s H ⟨us, []⟩ (us ++ ds) (vs ++ dvs) Q E hr I.env0 (hb s us I.kIn hl) r2 h) fun r s' hq => ?_)
  cases r with
  | error e => exact hx pins σ H s e s' I hq
  | ok fl =>
    cases fl with
    | ret u => exact I.after hq
    | next => exact False.elim hq
    | brk => exact False.elim hq
    | cont => exact False.elim hq
theorem pe_call (F : FnOk X.prog X.w X.K X.mg X.base CX k f fd ps sp) (hr : Room k X.A) (hg : Gl X x) (hm : X.mg x = some (.ref f)) (hk : PySem.W.keepIn X.K (.ref f) = true) (hb : Binds X.K fd ps ds) (hd : Vals dvs ds) (hx : Passes CX X E)
    (ha : PA X (e :: es) t) (hdb : (x == ("__debug__" : Str)) = false := by decide) (he : starEach (e :: es) X.env = (false, eval e X.env) :: starEach es X.env := by rfl) (hpl : (backTo pos (starEach es X.env)).any (·.1) = false := by rfl) :
    PE X (.Call (.Name x p) (e :: es) [] pos) (tCall sp dvs E t) := by
  intro pins s σ H Q I h
  refine wpAny_Call_Name_kw (ld_glob I hg hm ?_ hdb)
  refine PySem.W.callWith_K (h₀ := X.base) I.ok.mod.kin hk (thn (ha pos pins s σ H _ I h) fun us s1 zz => ex5 zz fun vs H1 I1 r q => ⟨I1.kIn, ?_⟩) he hpl
  exact run_fn F hr hb hd hx I1 r q
theorem pe_meth0 {pl : Sem Bool} (he : PE X o ta) (c : Cls X.K C) (hm : Meth X.K C m f) (F : FnOk X.prog X.w X.K X.mg X.base CX k f fd ps sp) (hr : Room k X.A) (hb : Binds X.K fd ps ds) (hd : Vals dvs ds) (hx : Passes CX X E)
    (ht : eval (.Call (.Attribute o m apos) [] [] pos) X.env = (do
      let ov ← eval o X.env
      standAt apos.atName
      let (f, first) ← holding [ov] (getMethod ov m pl)
      callWith pos f first (backTo pos (starEach [] X.env)) (backToKw pos (keywordEach [] X.env))) := by rfl) :
    PE X (.Call (.Attribute o m apos) [] [] pos) (tMeth C m sp dvs E ta tNil) := by
  intro pins s σ H Q I h
  refine PySem.W.methodCall_KW (pl := pl) (thn (he pins s σ H _ I h) fun u s1 zz => ex5 zz fun x H1 I1 rx yy => ?_) ht
  obtain ⟨a, dx, fs, ex, ea, l, q⟩ := yy
  subst ex
  obtain rfl : u = Value.ref a := rx
  refine getmeth_ok I1 ea c hm l ?_
  exact PySem.W.callWith_K0 (first := [.ref a]) I1.kIn hm.kp (run_fn (us := [.ref a]) (vs := [.ref a]) F hr hb hd hx I1 (.cons rfl .nil) q)
structure Mk (K : PySem.W.Frag) (C f : Addr) : Prop where
  makes : PySem.W.makesIn K C = true
  init : PySem.W.findIn K (.ref C) "__init__" = some (some (.ref f))
  fn : PySem.W.isFn K (.ref f) = true
  kp : PySem.W.keepIn K (.ref C) = true
theorem run_make {pins : List (Addr × Obj)} {σ : St} {H : Hp} {s : Shared} {Q : VK} {us : List Value} {vs : List V} (M : Mk X.K C f) (F : FnOk X.prog X.w X.K X.mg X.base CX k f fd ps sp) (hr : Room (k + 1) X.A) (hb : Binds X.K fd ps ds) (hd : Vals dvs ds)
    (hx : Passes CX X E) (I : Inv X pins σ H s) (r : Vals vs us)
    (h : ∀ x dx, H x = none → H dx = none → dx ≠ x → sp (.ref x :: (vs ++ dvs)) (upd (upd H dx (.own x)) x (.ins C dx [])) (fun v H2 => v = .non ∧ Q (.ref x) H2) E) :
    wpAny (model X.prog X.w) X.A (call (.ref C) us) (EP X pins σ Q) X.xe s := by
  have hq := h (s.heap.objs.size + 1) s.heap.objs.size (I.hok.fresh (Nat.le_succ _)) (I.hok.fresh (Nat.le_refl _)) (Nat.ne_of_lt (Nat.lt_succ_self _))
  have I2 := Inv.made (C := C) I
  have r2 : Vals (V.ref (s.heap.objs.size + 1) :: (vs ++ dvs)) (Value.ref (s.heap.objs.size + 1) :: (us ++ ds)) := .cons rfl (r.append hd)
  have hl : (Value.ref (s.heap.objs.size + 1) :: us ++ ds).length = ps.length := by
    have e := r2.length
    rw [F.len _ _ _ _ hq] at e
    exact e.symm
  refine wpAny_call (make_map (f := f) I.kIn M.makes M.init (beq_iff_eq.mp M.fn) (codeAny_mono (F.run _ X.stack _ _ ⟨Value.ref (s.heap.objs.size + 1) :: us, []⟩ (Value.ref (s.heap.objs.size + 1) :: (us ++ ds)) _ _ E (hr.make C us [])
    (I2.env0.make C us []) (hb _ (Value.ref (s.heap.objs.size + 1) :: us) I2.kIn hl) r2 hq) fun r s' hq' => ?_))
  cases r with
  | error e => exact hx pins σ _ _ e s' I2 hq'
  | ok fl =>
    cases fl with
    | ret u =>
      obtain ⟨v, H', I3, rv, ev, q3⟩ := I2.after hq'
      subst ev
      exact ⟨rv, ⟨V.ref (s.heap.objs.size + 1), H', I3, rfl, q3⟩⟩
    | next => exact False.elim hq'
    | brk => exact False.elim hq'
    | cont => exact False.elim hq'
theorem pe_make (M : Mk X.K C f) (F : FnOk X.prog X.w X.K X.mg X.base CX k f fd ps sp) (hr : Room (k + 1) X.A) (hg : Gl X x) (hm : X.mg x = some (.ref C)) (hb : Binds X.K fd ps ds) (hd : Vals dvs ds) (hx : Passes CX X E)
    (ha : PA X (e :: es) t) (hdb : (x == ("__debug__" : Str)) = false := by decide) (he : starEach (e :: es) X.env = (false, eval e X.env) :: starEach es X.env := by rfl) (hpl : (backTo pos (starEach es X.env)).any (·.1) = false := by rfl) :
    PE X (.Call (.Name x p) (e :: es) [] pos) (tMake C sp dvs E t) := by
  intro pins s σ H Q I h
  refine wpAny_Call_Name_kw (ld_glob I hg hm ?_ hdb)
  refine PySem.W.callWith_K (h₀ := X.base) I.ok.mod.kin M.kp (thn (ha pos pins s σ H _ I h) fun us s1 zz => ex5 zz fun vs H1 I1 r q => ⟨I1.kIn, ?_⟩) he hpl
  exact run_make M F hr hb hd hx I1 r q
end
section
variable {X : Cx} {CX : CXT} {k : Nat} {f C : Addr} {fd : FuncData} {ps ks : List Str} {sp : Sp} {E : XK} {x m : Str} {p pos apos kpos : Pos} {e o : Expr} {es : List Expr} {kws : List Keyword} {te ta : TE} {t tk : TA} {nm : Option Str}
variable {g : List Value → List Value → List Value} {gV : List V → List V → List V}
end
structure FnScope (N P : List Str) (sc : Scope) : Prop where
  kind : sc.kind = .function
  co : sc.isCoroutine = false
  gen : sc.isGenerator = false
  nd : N.Nodup
  pre : N.take P.length = P
  par : ∀ x ∈ P, sc.names.lookup x = some .local ∨ sc.names.lookup x = some .cell
  nofree : ∀ y ∈ sc.names, y.2 ≠ .free
theorem bindL_out {kindOf : Str → Option NameKind} {x : Str} : ∀ {binds : List (Str × Value)} {m : Str → Option Value}, (∀ v, (x, v) ∉ binds) → bindL kindOf binds m x = m x
  | [], _, _ => rfl
  | (n, v) :: r, m, h => by
    unfold bindL
    rw [bindL_out fun w hw => h w (List.mem_cons_of_mem _ hw)]
    split
    · have : x ≠ n := by rintro rfl; exact h v List.mem_cons_self
      simp [this]
    · rfl
theorem bindC_out {kindOf : Str → Option NameKind} {x : Str} : ∀ {binds : List (Str × Value)} {m : Str → Option Value}, (∀ v, (x, v) ∉ binds) → bindC kindOf binds m x = m x
  | [], _, _ => rfl
  | (n, v) :: r, m, h => by
    unfold bindC
    rw [bindC_out fun w hw => h w (List.mem_cons_of_mem _ hw)]
    split
    · rfl
    · have : x ≠ n := by rintro rfl; exact h v List.mem_cons_self
      simp [this]
theorem bindL_get {kindOf : Str → Option NameKind} {x : Str} {v : Value} : ∀ {P : List Str} {vs : List Value} {i : Nat} {m : Str → Option Value}, P.Nodup → P[i]? = some x → vs[i]? = some v → kindOf x = some .local →
    bindL kindOf (P.zip vs) m x = some v
  | [], _, _, _, _, h, _, _ => by simp at h
  | _ :: _, [], _, _, _, _, h, _ => by simp at h
  | p :: P, w :: vs, 0, m, nd, h1, h2, hk => by
    simp at h1 h2; subst h1; subst h2
    show bindL kindOf ((p, w) :: P.zip vs) m p = _
    unfold bindL
    rw [bindL_out fun v hv => (List.nodup_cons.mp nd).1 (List.of_mem_zip hv).1, if_pos hk]
    simp
  | p :: P, w :: vs, i + 1, m, nd, h1, h2, hk => by
    show bindL kindOf ((p, w) :: P.zip vs) m x = _
    unfold bindL
    exact bindL_get (i := i) (List.nodup_cons.mp nd).2 (by simpa using h1) (by simpa using h2) hk
theorem bindC_get {kindOf : Str → Option NameKind} {x : Str} {v : Value} : ∀ {P : List Str} {vs : List Value} {i : Nat} {m : Str → Option Value}, P.Nodup → P[i]? = some x → vs[i]? = some v → kindOf x ≠ some .local →
    bindC kindOf (P.zip vs) m x = some v
  | [], _, _, _, _, h, _, _ => by simp at h
  | _ :: _, [], _, _, _, _, h, _ => by simp at h
  | p :: P, w :: vs, 0, m, nd, h1, h2, hk => by
    simp at h1 h2; subst h1; subst h2
    show bindC kindOf ((p, w) :: P.zip vs) m p = _
    unfold bindC
    rw [bindC_out fun v hv => (List.nodup_cons.mp nd).1 (List.of_mem_zip hv).1, if_neg hk]
    simp
  | p :: P, w :: vs, i + 1, m, nd, h1, h2, hk => by
    show bindC kindOf ((p, w) :: P.zip vs) m x = _
    unfold bindC
    exact bindC_get (i := i) (List.nodup_cons.mp nd).2 (by simpa using h1) (by simpa using h2) hk
noncomputable def start (N : List Str) (vs : List V) : St := vs.map some ++ List.replicate (N.length - vs.length) none
noncomputable def cxOf (CX : CXT) (P : Program) (w : World) (K : PySem.W.Frag) (mg : Str → Option Value) (base : Heap) (N : List Str) (qual : Str) (scope : Scope) (f : Addr) (cd : Value) (A : Around) (outer : List Env) (s : Shared) (H : Hp) (E : XK) : Cx where
  prog := P
  w := w
  K := K
  mg := mg
  base := base
  A := A.deeper (envOfC qual scope s.heap.objs.size f cd)
  N := N
  s_0 := s
  H_0 := H
  env := envOfC qual scope s.heap.objs.size f cd
  outer := outer
  stack := envOfC qual scope s.heap.objs.size f cd :: outer
  ex := []
  calm := true
  fn := fun _ => true
  pn := []
  xe := fun e s' => wpAny (model P w) (A.deeper (envOfC qual scope s.heap.objs.size f cd)) (leaving (envOfC qual scope s.heap.objs.size f cd) e) (fun _ s'' => CX outer H s E e s'') (fun e' s'' => CX outer H s E e' s'') s'
theorem cell_has {sc : Scope} {n : Nat} {x : Str} (h : sc.names.lookup x = some .cell) : ∃ c, (cellsFrom n sc.names []).lookup x = some c := by
  have q := PySem.W.cellsFrom_some sc.names n [] (.inl h)
  exact Option.isSome_iff_exists.mp q
theorem inv_start {CX : CXT} {P : Program} {w : World} {K : PySem.W.Frag} {mg : Str → Option Value} {base : Heap} {N ps : List Str} {qual : Str} {scope : Scope} {f : Addr} {cd : Value} {A : Around} {outer : List Env} {s s1 : Shared} {H : Hp} {E : XK} {us : List Value} {vs : List V}
    (S : FnScope N ps scope) (hd : A.handled = none) (e0 : Env0 P w K mg base A outer s H) (hl : vs.length = ps.length) (r : Vals vs us)
    (x : InCallC s s.heap.objs.size (bindL (envOfC qual scope s.heap.objs.size f cd).kindOf (ps.zip us) fun _ => none) (cellsFrom (s.heap.objs.size + 1) scope.names []) (bindC (envOfC qual scope s.heap.objs.size f cd).kindOf (ps.zip us) fun _ => none) s1) :
    Inv (cxOf CX P w K mg base N qual scope f cd A outer s H E) [] (start N vs) H s1 := by
  have hpl : ps.length ≤ N.length := by have := congrArg List.length S.pre; rw [List.length_take] at this; omega
  obtain ⟨h1, tk, rfl, hk⟩ := x.done
  have noA : ∀ b : Addr, b ∉ (cxOf CX P w K mg base N qual scope f cd A outer s H E).ex := fun b z => absurd (show b ∈ ([] : List Addr) from z) (by simp)
  refine ⟨⟨e0.mod, S.kind, rfl, rfl, Nat.le_refl _, fun y z c h1 h2 => ?_, fun y hy => ?_, fun y c _ h => ?_, fun _ => hd, Around.frames_deeper e0.frames, .inr ⟨rfl, rfl⟩, fun b z => absurd z (noA b), e0.bs, e0.bsz, fun b _ _ => noA b, fun b z => absurd z (noA b), e0.funs, e0.frf⟩,
    rfl, e0.bare, Un.kept hk, ⟨_, x.toInCall.ns, fun i y v h1 h2 h3 => ?_⟩, fun y c h => ⟨_, x.cell y c h⟩, e0.hok.fresh (Nat.le_refl _), fun y c h => ?_, fun p hp => absurd (show p ∈ ([] : List (Addr × Obj)) from hp) (by simp), e0.hok.kept hk, ?_⟩
  · exact name_of_addr x.apart (PySem.mem_of_lookup h1) (PySem.mem_of_lookup h2)
  · have hy : scope.names.lookup y = some .cell ∨ scope.names.lookup y = some .free := hy
    rcases hy with hy | hy
    · exact cell_has hy
    · exact absurd rfl (S.nofree _ (PySem.mem_of_lookup hy))
  · exact Nat.le_of_lt (x.above y c (PySem.mem_of_lookup h))
  · have hi : i < vs.length := by
      unfold start at h2
      by_cases hi : i < vs.length
      · exact hi
      · rw [List.getElem?_append_right (by simpa using hi)] at h2
        rw [List.getElem?_replicate] at h2
        split at h2 <;> cases h2
    have ha : vs[i]? = some v := by
      unfold start at h2
      rw [List.getElem?_append_left (by simpa using hi), List.getElem?_map] at h2
      cases e : vs[i]? with
      | none => rw [e] at h2; cases h2
      | some a => rw [e] at h2; cases h2; rfl
    obtain ⟨u, hu, rv⟩ := r.get ha
    have hp : ps[i]? = some y := by
      rw [← S.pre, List.getElem?_take_of_lt (by omega)]; exact h1
    have ndP : ps.Nodup := by rw [← S.pre]; exact S.nd.sublist (List.take_sublist _ _)
    refine ⟨u, rv, ?_⟩
    rcases S.par y (List.mem_of_getElem? hp) with k | k
    · exact .inl ⟨k, bindL_get ndP hp hu k⟩
    · obtain ⟨c, e⟩ := cell_has (n := s.heap.objs.size + 1) k
      refine .inr ⟨.inl k, c, e, ?_⟩
      have q := x.cell y c e
      rw [bindC_get ndP hp hu (by show scope.names.lookup y ≠ _; rw [k]; decide)] at q
      exact q
  · exact e0.hok.fresh (Nat.le_of_lt (x.above y c (PySem.mem_of_lookup h)))
  · unfold start
    show _ = N.length
    rw [List.length_append, List.length_map, List.length_replicate]
    omega
theorem fn_of {CX : CXT} {P : Program} {w : World} {K : PySem.W.Frag} {mg : Str → Option Value} {base : Heap} {k : Nat} {f : Addr} {name qual : Str} {params : Arguments} {body : List Stmt} {scope : Scope} {dV kV doc pm cdv ct oc : Value} {an od : Option Addr}
    {osl : Array (Option Value)} {N ps : List Str} {sp : Sp} (lk : K.lookup f = some ⟨oc, od, .func (PySem.W.fnOf name qual params body scope dV kV doc pm an cdv ct), osl⟩) (hcd : PySem.W.codeIn K cdv qual = true) (S : FnScope N ps scope)
    (len : ∀ vs H Q E, sp vs H Q E → vs.length = ps.length)
    (hbody : ∀ (A : Around) (outer : List Env) (s : Shared) (H : Hp) (vs : List V) (Q : VK) (E : XK), Room k (A.deeper (envOfC qual scope s.heap.objs.size f cdv)) → sp vs H Q E →
      ∃ t, PSs (cxOf CX P w K mg base N qual scope f cdv A outer s H E) body t ∧ t { nx := fun _ H' => Q .non H', rt := Q } (start N vs) H) :
    FnOk P w K mg base CX (k + 1) f (PySem.W.fnOf name qual params body scope dV kV doc pm an cdv ct) ps sp := by
  refine ⟨len, fun A outer s H args us vs Q E hr e0 hb r hsp => ?_⟩
  have hl := len _ _ _ _ hsp
  have KX : K.In s.heap := e0.mod.kin.keeps fun b o e => (e0.bs b o e).1
  have lim : s.heap.NoLimit := e0.mod.nolimit.keeps fun b o e => (e0.bs b o e).1
  have hkind : ∀ y ∈ ps.zip us, scope.names.lookup y.1 = some .local ∨ (scope.names.lookup y.1 = some .cell ∧ ((cellsFrom (s.heap.objs.size + 1) scope.names []).lookup y.1).isSome = true) := fun ⟨n, v⟩ hy => by
    rcases S.par n (List.of_mem_zip hy).1 with q | q
    · exact .inl q
    · exact .inr ⟨q, PySem.W.cellsFrom_some _ _ _ (.inl q)⟩
  refine codeAny_call_function hr.depth (KX _ _ lk) rfl S.co S.gen rfl (PySem.W.codeRec_of KX hcd) (hb _ _ _ _ ?_)
  refine wpAny_newFunctionEnv_cells S.kind hkind fun env he s1 x => ?_
  subst he
  refine ⟨lim.keeps x.toInCall.keep, codeAny_func ?_⟩
  obtain ⟨t, ht, hq⟩ := hbody A outer s H vs Q E (hr.deeper _) hsp
  have I : Inv (cxOf CX P w K mg base N qual scope f cdv A outer s H E) [] (start N vs) H s1 := inv_start S hr.hd e0 hl r x
  refine wpAny_mono (ht [] s1 (start N vs) H _ I hq) (fun fl s' hs => ?_) fun e s' hs => hs
  have fin : ∀ {σ' : St} {H' : Hp} {v : V} {u : Value}, Inv (cxOf CX P w K mg base N qual scope f cdv A outer s H E) [] σ' H' s' → RelV v u → Q v H' → CE outer P w H s Q u s' :=
    fun {σ' H' v u} J rv q => ⟨v, H', J.os, J.bare, J.base, J.hok, rv, q⟩
  cases fl with
  | ret u =>
    obtain ⟨v, σ', H', J, rv, q⟩ := hs
    exact fin J rv q
  | next =>
    obtain ⟨σ', H', J, q⟩ := hs
    exact fin (v := V.non) (u := Value.none) J rfl q
  | brk =>
    obtain ⟨_, _, _, q⟩ := hs
    exact False.elim q
  | cont =>
    obtain ⟨_, _, _, q⟩ := hs
    exact False.elim q
end L2
namespace L2
open PySem PySem.Spec PyProof.Rows
section
variable {X : Cx} {x : Str} {p pos : Pos} {e : Expr} {es : List Expr} {t : TA} {id T : String} {r : List V → Hp → VK → Prop}
noncomputable def tCB (r : List V → Hp → VK → Prop) (t : TA) : TE := fun σ H Q => t σ H fun vs H1 => r vs H1 Q
theorem pe_callB (hc : CallR X (.builtin id) r) (hg : Gl X x) (hm : X.mg x = none) (hv : bootBuiltins x = some (.builtin id)) (ha : PA X (e :: es) t) (hn : x ≠ "__name__" := by decide) (hdb : (x == ("__debug__" : Str)) = false := by decide)
    (he : starEach (e :: es) X.env = (false, eval e X.env) :: starEach es X.env := by rfl) (hpl : (backTo pos (starEach es X.env)).any (·.1) = false := by rfl) : PE X (.Call (.Name x p) (e :: es) [] pos) (tCB r t) := by
  intro pins s σ H Q I h
  refine wpAny_Call_Name_kw (ld_blt I hg hm hv ?_ hn hdb)
  exact PyProof.Rows.callWith_builtin1 (thn (ha pos pins s σ H _ I h) fun us s1 zz => ex5 zz fun vs H1 I1 r1 q1 => hc pins s1 σ H1 vs us Q I1 r1 q1) he hpl
theorem pe_callTy (hc : CallR X (.type T) r) (hg : Gl X x) (hm : X.mg x = none) (hv : bootBuiltins x = some (.type T)) (ha : PA X (e :: es) t) (hn : x ≠ "__name__" := by decide) (hdb : (x == ("__debug__" : Str)) = false := by decide)
    (he : starEach (e :: es) X.env = (false, eval e X.env) :: starEach es X.env := by rfl) (hpl : (backTo pos (starEach es X.env)).any (·.1) = false := by rfl) : PE X (.Call (.Name x p) (e :: es) [] pos) (tCB r t) := by
  intro pins s σ H Q I h
  refine wpAny_Call_Name_kw (ld_blt I hg hm hv ?_ hn hdb)
  exact PyProof.Rows.callWith_type1 (thn (ha pos pins s σ H _ I h) fun us s1 zz => ex5 zz fun vs H1 I1 r1 q1 => hc pins s1 σ H1 vs us Q I1 r1 q1) he hpl
end
end L2
namespace HT
open PySem PyProof.Rows
section
open PySem.SeqAt
open PySem.AutoSeq1 (wpAny_loadPart')
open PySem.MeetsSeq PySem.MeetsSeq2 PySem.MeetsSeq3
end
section
variable {prog : Program} {w : World} {A : Around} {E : Value → Shared → Prop} {s : Shared}
noncomputable def sIx (n d : Nat) : Option Int → Nat
  | none => d
  | some v => if v < 0 then (v + (n : Int)).toNat else min v.toNat n
theorem sIx_nat (n d k : Nat) : sIx n d (some (k : Int)) = min k n := by
  show (if (k : Int) < 0 then ((k : Int) + (n : Int)).toNat else min (k : Int).toNat n) = min k n
  rw [if_neg (by omega), Int.toNat_natCast]
end
end HT
namespace L2
open PySem PySem.Spec PyProof.Rows
noncomputable abbrev TO := St → Hp → (Option Int → Hp → Prop) → Prop
def PO (X : Cx) (e : Option Expr) (t : TO) : Prop :=
  ∀ (pins : List (Addr × Obj)) (s : Shared) (σ : St) (H : Hp) (Q : Option Int → Hp → Prop), Inv X pins σ H s → t σ H Q →
    wpAny (model X.prog X.w) X.A (evalPart e X.env) (fun u s' => ∃ o H', Inv X pins σ H' s' ∧ IsPart u o ∧ Q o H') X.xe s
noncomputable def tPart (t : TE) : TO := fun σ H Q => t σ H fun x H1 => ∃ i, x = .int i ∧ Q (some i) H1
section
variable {X : Cx} {e : Expr} {te : TE} {lo hi : Option Expr} {tl th : TO} {pos p2 : Pos}
theorem po_some (h : PE X e te) : PO X (some e) (tPart te) := by
  intro pins s σ H Q I hw
  rw [evalPart_some]
  refine thn (h pins s σ H _ I hw) fun u s1 zz => ex5 zz fun x H1 I1 r1 q1 => ?_
  obtain ⟨i, rfl, q⟩ := q1
  obtain ⟨t, rfl⟩ := r1
  exact ⟨some i, H1, I1, .int i t, q⟩
def SlR (X : Cx) (r : V → Option Int → Option Int → Hp → VK → Prop) : Prop :=
  ∀ (pins : List (Addr × Obj)) (s : Shared) (σ : St) (H : Hp) (x : V) (v vl vu : Value) (lo hi : Option Int) (sl : Addr) (Q : VK), Inv X pins σ H s → RelV x v → s.heap.IsSliceOf sl vl vu .none → IsPart vl lo → IsPart vu hi → r x lo hi H Q →
    ∃ T id, typeLookup (.type T) "__getitem__" = pure (some (.builtin id)) ∧ s.TypeIs v T ∧ wpAny (model X.prog X.w) X.A (getItem v (.ref sl)) (EP X pins σ Q) X.xe s
noncomputable def tSl (r : V → Option Int → Option Int → Hp → VK → Prop) (te : TE) (tl th : TO) : TE := fun σ H Q => te σ H fun x H1 => tl σ H1 fun l H2 => th σ H2 fun u H3 => r x l u H3 Q
theorem pe_slice {r : V → Option Int → Option Int → Hp → VK → Prop} (hr : SlR X r) (he : PE X e te) (hl : PO X lo tl) (hu : PO X hi th) : PE X (.Subscript e (.Slice lo hi none p2) pos) (tSl r te tl th) := by
  intro pins s σ H Q I h
  refine Subscript_ (thn (he pins s σ H _ I h) fun v s1 zz => ex5 zz fun x H1 I1 r1 q1 => ?_)
  refine wpAny_Slice (thn (hl pins s1 σ H1 _ I1 q1) fun vl s2 zz => ex5 zz fun l H2 I2 pl q2 => thn (hu pins s2 σ H2 _ I2 q2) fun vu s3 zz => ex5 zz fun u H3 I3 pu q3 => ?_)
  rw [evalPart_none]
  refine wpAny_pure ?_
  have I4 : Inv X pins σ H3 { s3 with heap := s3.heap.push { cls := .type "slice", data := .fields #[vl, vu, .none] } } := I3.kept (t' := s3.toks) fun b ob q => Heap.get?_push_of_some _ q
  obtain ⟨T, id, hT, ht, hg⟩ := hr pins { s3 with heap := s3.heap.push { cls := .type "slice", data := .fields #[vl, vu, .none] } } σ H3 x v vl vu l u s3.heap.objs.size Q I4 r1 (Heap.IsSliceOf.new ..) pl pu q3
  show wpAny (model X.prog X.w) X.A (subscriptTail e (.Slice lo hi none p2) v (.ref s3.heap.objs.size)) (EP X pins σ Q) X.xe { s3 with heap := s3.heap.push { cls := .type "slice", data := .fields #[vl, vu, .none] } }
  exact tail_any (ops := [.ref s3.heap.objs.size, v]) ht hT hg (by with_unfolding_all rfl)
noncomputable def cutV (xs : List V) (lo hi : Option Int) : List V := (xs.drop (HT.sIx xs.length 0 lo)).take (HT.sIx xs.length xs.length hi - HT.sIx xs.length 0 lo)
theorem cutV_length (xs : List V) (lo hi : Option Int) : (cutV xs lo hi).length ≤ xs.length := by
  unfold cutV
  rw [List.length_take, List.length_drop]
  omega
end
end L2
namespace L2
open PySem PySem.Spec PyProof.Rows
noncomputable def ixN (n : Nat) (i : Int) : Option Nat := if 0 ≤ i then (if i < n then some i.toNat else none) else if -(n : Int) ≤ i then some (i + n).toNat else none
noncomputable def atI {α : Type} (xs : List α) (i : Int) : Option α := (ixN xs.length i).bind fun j => xs[j]?
theorem ixN_seq {n : Nat} {i : Int} {j : Nat} (h : ixN n i = some j) : seqIndex? i n = some j ∧ j < n ∧ -(n : Int) ≤ i ∧ i < n := by
  unfold ixN at h
  by_cases h0 : 0 ≤ i
  · rw [if_pos h0] at h
    by_cases h1 : i < n
    · rw [if_pos h1] at h
      have e : i.toNat = j := Option.some.inj h
      exact ⟨by rw [seqIndex_of h0 h1, e], by omega, by omega, h1⟩
    · rw [if_neg h1] at h; cases h
  · rw [if_neg h0] at h
    by_cases h1 : -(n : Int) ≤ i
    · rw [if_pos h1] at h
      have e : (i + n).toNat = j := Option.some.inj h
      exact ⟨by rw [seqIndex_neg (by omega) h1, e], by omega, h1, by omega⟩
    · rw [if_neg h1] at h; cases h
theorem atI_get {α : Type} {xs : List α} {i : Int} {v : α} (h : atI xs i = some v) : ∃ j, seqIndex? i xs.length = some j ∧ xs[j]? = some v ∧ j < xs.length ∧ -(xs.length : Int) ≤ i ∧ i < xs.length := by
  unfold atI at h
  cases e : ixN xs.length i with
  | none => rw [e] at h; cases h
  | some j =>
    rw [e] at h
    obtain ⟨h1, h2, h3, h4⟩ := ixN_seq e
    exact ⟨j, h1, h, h2, h3, h4⟩
theorem atI_nat {α : Type} {xs : List α} {j : Nat} {v : α} (h : xs[j]? = some v) : atI xs (j : Int) = some v := by
  have hj : j < xs.length := (List.getElem?_eq_some_iff.mp h).1
  have e : ixN xs.length (j : Int) = some j := by
    unfold ixN
    rw [if_pos (by omega), if_pos (by omega)]; simp
  unfold atI; rw [e]; exact h
def PlainIx (b : Expr) : Prop := ∀ o i, subscripted b false o i = operate [o, i] (getItem o i)
def IxR (X : Cx) (r : R2) : Prop :=
  ∀ (value slice : Expr) (pins : List (Addr × Obj)) (s : Shared) (σ : St) (H : Hp) (x y : V) (v u : Value) (Q : VK), Inv X pins σ H s → RelV x v → RelV y u → r x y H Q →
    subscripted slice false v u = operate [v, u] (getItem v u) → wpAny (model X.prog X.w) X.A (subscriptTail value slice v u) (EP X pins σ Q) X.xe s
def MtR (X : Cx) (id : String) (r : V → List V → Hp → VK → Prop) : Prop :=
  ∀ (pins : List (Addr × Obj)) (s : Shared) (σ : St) (H : Hp) (x : V) (xs : List V) (v : Value) (us : List Value) (Q : VK), Inv X pins σ H s → RelV x v → Vals xs us → r x xs H Q →
    wpAny (model X.prog X.w) X.A (call (.builtin id) (v :: us)) (EP X pins σ Q) X.xe s
section
variable {X : Cx} {a b : Expr} {ta tb : TE} {pos : Pos}
theorem pe_ix {r : R2} (hr : IxR X r) (ha : PE X a ta) (hb : PE X b tb) (hs : PlainIx b) : PE X (.Subscript a b pos) (tOp r ta tb) := by
  intro pins s σ H Q I h
  exact Subscript_ (binT ha hb I h fun v u s2 x y H2 I2 rx ry q => hr a b pins s2 σ H2 x y v u Q I2 rx ry q (hs _ _))
noncomputable def rIxL (K : PySem.W.Frag) : R2 := fun x y H Q => ∃ p xs i v, x = .ref p ∧ y = .int i ∧ SqL K H p xs ∧ atI xs i = some v ∧ Q v H
noncomputable def rIxT (K : PySem.W.Frag) : R2 := fun x y H Q => ∃ p xs i v, x = .ref p ∧ y = .int i ∧ SqT K H p xs ∧ atI xs i = some v ∧ Q v H
theorem ix_list : IxR X (rIxL X.K) := by
  intro value slice pins s σ H x y v u Q I rx ry h hs
  obtain ⟨p, xs, i, z, rfl, rfl, hq, he, q⟩ := h
  cases rx
  obtain ⟨t, rfl⟩ := ry
  obtain ⟨its, r, pl, hz⟩ := I.list hq
  obtain ⟨j, h1, h2, h3, h4, h5⟩ := atI_get he
  obtain ⟨w, ew, rw'⟩ := r.get h2
  have hl := r.length
  have hn := line63
  have fin : EP X pins σ Q w s := ⟨z, H, I, rw', q⟩
  by_cases h0 : 0 ≤ i
  · have hj : i.toNat = j := by
      rw [seqIndex_of h0 h5] at h1
      exact Option.some.inj h1
    exact item_listR pl.isList h0 (by omega) (by rw [hj]; simpa using ew) fin hs
  · have hj : (i + (its.toArray.size : Int)).toNat = j := by
      rw [seqIndex_neg (by omega) h4] at h1
      rw [List.size_toArray, ← hl]
      exact Option.some.inj h1
    exact subscriptTail_builtinR (x := w) pl.isList.typeIs slot_list_getitem.lookup
      (wpAny_getItem_list_neg (Q := fun r s' => r = w ∧ EP X pins σ Q r s') pl.isList (by omega) (by rw [List.size_toArray] <;> omega) (by omega) (by rw [hj]; simpa using ew) ⟨rfl, fin⟩) hs
theorem ix_tup : IxR X (rIxT X.K) := by
  intro value slice pins s σ H x y v u Q I rx ry h hs
  obtain ⟨p, xs, i, z, rfl, rfl, hq, he, q⟩ := h
  cases rx
  obtain ⟨t, rfl⟩ := ry
  obtain ⟨its, r, pl, hz⟩ := I.tuple hq
  obtain ⟨j, h1, h2, h3, h4, h5⟩ := atI_get he
  obtain ⟨w, ew, rw'⟩ := r.get h2
  have hl := r.length
  have hn := line63
  have fin : EP X pins σ Q w s := ⟨z, H, I, rw', q⟩
  exact subscriptTail_builtinR (x := w) pl.typeIs slot_tuple_getitem.lookup
    (getItem_tuple (j := j) (Q := fun r s' => r = w ∧ EP X pins σ Q r s') pl (by omega) (by omega) (by rw [List.size_toArray, ← hl]; exact h1) (by simpa using ew) ⟨rfl, fin⟩) hs
theorem mapSeq_set (its : List Value) (n j : Nat) (u : Value) : Obj.mapSeq (·.setIfInBounds j u) { cls := .type "list", data := .seq its.toArray n } = { cls := .type "list", data := .seq (its.set j u).toArray n } := by
  simp [Obj.mapSeq]
theorem Inv.lst {pins : List (Addr × Obj)} {σ : St} {H : Hp} {s : Shared} {p : Addr} {xs : List V} (I : Inv X pins σ H s) (h : H p = some (.lst xs)) :
    ∃ (its : List Value) (n : Nat), Vals xs its ∧ s.heap.get? p = some { cls := .type "list", data := .seq its.toArray n } ∧ xs.length ≤ sizeLine := by
  obtain ⟨z, its, n, r, e⟩ := I.hok p _ h
  exact ⟨its, n, r, e, z⟩
theorem Inv.lstUpd {pins : List (Addr × Obj)} {σ : St} {H : Hp} {s : Shared} {p : Addr} {xs ys : List V} {its its' : List Value} {n n' : Nat} {f : Obj → Obj} (I : Inv X pins σ H s) (h : H p = some (.lst xs))
    (ho : s.heap.get? p = some { cls := .type "list", data := .seq its.toArray n }) (hf : f { cls := .type "list", data := .seq its.toArray n } = { cls := .type "list", data := .seq its'.toArray n' }) (r : Vals ys its') (hz : ys.length ≤ sizeLine) (t : Nat) :
    Inv X pins σ (upd H p (.lst ys)) { s with heap := s.heap.update p f, toks := t } := by
  have e : (s.heap.update p f).get? p = some { cls := .type "list", data := .seq its'.toArray n' } := by
    rw [Heap.get?_update_self f ho (by rw [hf] <;> rfl), hf]
  refine I.write (x := p) (e := p) (by rw [h]; trivial) (.inl rfl) (fun b u hb q => (Heap.get?_update_other _ _ (Ne.symm hb)).trans q) ⟨_, e⟩ ?_
  exact ⟨hz, its', n', r, e⟩
noncomputable def rSetL : V → V → V → Hp → (Hp → Prop) → Prop := fun o i v H Q => ∃ p xs k j, o = .ref p ∧ i = .int k ∧ H p = some (.lst xs) ∧ ixN xs.length k = some j ∧ Q (upd H p (.lst (xs.set j v)))
theorem set_list : PSet X rSetL := by
  intro pins s σ H o i v ov iv u Q I ro ri rv h
  obtain ⟨p, xs, k, j, rfl, rfl, hp, hj, q⟩ := h
  cases ro
  obtain ⟨t, rfl⟩ := ri
  obtain ⟨its, n, r, ho, hz⟩ := I.lst hp
  obtain ⟨h1, h2, h3, h4⟩ := ixN_seq hj
  have hl := r.length
  have hn := line63
  have I' : Inv X pins σ (upd H p (.lst (xs.set j v))) { s with heap := s.heap.update p (Obj.mapSeq (·.setIfInBounds j u)) } :=
    I.lstUpd hp ho (mapSeq_set its n j u) (r.set rv j) (by rw [List.length_set]; exact hz) s.toks
  by_cases h0 : 0 ≤ k
  · have hk : k.toNat = j := by
      rw [seqIndex_of h0 h4] at h1
      exact Option.some.inj h1
    exact PySem.W.ki_setAt ho h0 (by omega) (by rw [List.size_toArray, ← hl]; exact h4) (by rw [hk]; exact ⟨_, I', q⟩)
  · have hk : (k + (its.toArray.size : Int)).toNat = j := by
      rw [seqIndex_neg (by omega) h3] at h1
      rw [List.size_toArray, ← hl]
      exact Option.some.inj h1
    exact PySem.W.ki_setBack ho (by omega) (by rw [List.size_toArray, ← hl]; exact h3) (by omega) (by rw [hk]; exact ⟨_, I', q⟩)
theorem slice_bounds (lo hi : Option Int) (n : Nat) : (sliceBounds lo hi none n).1 = ((HT.sIx n 0 lo : Nat) : Int) ∧ (sliceBounds lo hi none n).2.1 = ((HT.sIx n n hi : Nat) : Int) ∧ (sliceBounds lo hi none n).2.2 = 1 := by
  refine ⟨?_, ?_, rfl⟩
  · cases lo with
    | none => simp [sliceBounds, HT.sIx]
    | some i =>
      simp only [sliceBounds, HT.sIx, Option.getD_none, show (1 : Int) > 0 by decide, if_true]
      by_cases h : i < 0
      · simp only [h, if_true] <;> omega
      · simp only [h, if_false] <;> omega
  · cases hi with
    | none => simp [sliceBounds, HT.sIx]
    | some i =>
      simp only [sliceBounds, HT.sIx, Option.getD_none, show (1 : Int) > 0 by decide, if_true]
      by_cases h : i < 0
      · simp only [h, if_true] <;> omega
      · simp only [h, if_false] <;> omega
theorem slicePick_cut (its : List Value) (lo hi : Option Int) : slicePick its.toArray lo hi none = ((its.drop (HT.sIx its.length 0 lo)).take (HT.sIx its.length its.length hi - HT.sIx its.length 0 lo)).toArray := by
  obtain ⟨h1, h2, h3⟩ := slice_bounds lo hi its.toArray.size
  unfold slicePick
  rw [h1, h2, h3]
  simp only [sliceRange_one, pick_run, List.size_toArray] <;> rfl
noncomputable def rSlL (K : PySem.W.Frag) : V → Option Int → Option Int → Hp → VK → Prop := fun x lo hi H Q => ∃ a xs, x = .ref a ∧ SqL K H a xs ∧ ∀ p, H p = none → Q (.ref p) (upd H p (.lst (cutV xs lo hi)))
theorem sl_list : SlR X (rSlL X.K) := by
  intro pins s σ H x v vl vu lo hi sl Q I rx hs pl pu h
  obtain ⟨a, xs, rfl, hx, q⟩ := h
  cases rx
  obtain ⟨its, r, ht, hz⟩ := I.list hx
  have hlen := r.length
  refine ⟨"list", _, slot_list_getitem.lookup, ht.isList.typeIs, ?_⟩
  refine wpAny_getItem_list_slice ht.isList hs pl pu .none (by simp) ?_ (by rw [List.size_toArray] <;> omega)
  rw [slicePick_cut, ← hlen]
  refine ⟨.ref s.heap.objs.size, _, I.laid (t' := s.toks) (o := .lst (cutV xs lo hi)) (fun b ob q => Heap.get?_push_of_some _ q) (Nat.le_refl _) ?_, rfl, q _ (I.hok.fresh (Nat.le_refl _))⟩
  exact ⟨Nat.le_trans (cutV_length xs lo hi) hz, _, 0, (r.drop (HT.sIx xs.length 0 lo)).take (HT.sIx xs.length xs.length hi - HT.sIx xs.length 0 lo), Heap.get?_push_size _ rfl⟩
noncomputable def flatV : V → Bool
  | .non => true
  | .bl _ => true
  | .int _ => true
  | .str _ => true
  | _ => false
noncomputable def eqV : V → V → Bool
  | .non, .non => true
  | .bl a, .bl b => a == b
  | .bl a, .int b => (if a then 1 else 0) == b
  | .int a, .bl b => a == (if b then 1 else 0)
  | .int a, .int b => a == b
  | .str a, .str b => a == b
  | _, _ => false
theorem eqAt_V {A : Around} {s : Shared} {y x : V} {u v : Value} (ry : RelV y u) (rx : RelV x v) (fy : flatV y = true) (fx : flatV x = true) : SeqAt.EqAt A s u v (eqV y x) := by
  cases y with
  | non =>
    cases ry
    cases x with
    | non => cases rx; exact SeqAt.EqAt.same _
    | bl b => cases rx; exact SeqAt.EqAt.none_bool b
    | int b => obtain ⟨t, rfl⟩ := rx; exact SeqAt.EqAt.none_int b t
    | str b => obtain ⟨t, rfl⟩ := rx; exact SeqAt.EqAt.none_str b t
    | _ => exact absurd (show false = true from fx) Bool.false_ne_true
  | bl a =>
    cases ry
    cases x with
    | non => cases rx; exact SeqAt.EqAt.bool_none a
    | bl b => cases rx; exact SeqAt.EqAt.bool_bool a b
    | int b => obtain ⟨t, rfl⟩ := rx; exact SeqAt.EqAt.bool_int a b t
    | str b => obtain ⟨t, rfl⟩ := rx; exact SeqAt.EqAt.bool_str a b t
    | _ => exact absurd (show false = true from fx) Bool.false_ne_true
  | int a =>
    obtain ⟨t', rfl⟩ := ry
    cases x with
    | non => cases rx; exact SeqAt.EqAt.int_none a t'
    | bl b => cases rx; exact SeqAt.EqAt.int_bool a t' b
    | int b => obtain ⟨t, rfl⟩ := rx; exact SeqAt.EqAt.int_int a t' b t
    | str b => obtain ⟨t, rfl⟩ := rx; exact SeqAt.EqAt.int_str a t' b t
    | _ => exact absurd (show false = true from fx) Bool.false_ne_true
  | str a =>
    obtain ⟨t', rfl⟩ := ry
    cases x with
    | non => cases rx; exact SeqAt.EqAt.str_none a t'
    | bl b => cases rx; exact SeqAt.EqAt.str_bool a t' b
    | int b => obtain ⟨t, rfl⟩ := rx; exact SeqAt.EqAt.str_int a t' b t
    | str b => obtain ⟨t, rfl⟩ := rx; exact SeqAt.EqAt.str_str a t' b t
    | _ => exact absurd (show false = true from fx) Bool.false_ne_true
  | _ => exact absurd (show false = true from fy) Bool.false_ne_true
noncomputable def eqU (x : V) (u : Value) : Bool := match u with
  | .none => eqV .non x
  | .bool b => eqV (.bl b) x
  | .int i _ => eqV (.int i) x
  | .str z _ => eqV (.str z) x
  | _ => false
theorem eqU_of {x y : V} {u : Value} (r : RelV y u) (f : flatV y = true) : eqU x u = eqV y x := by
  cases y with
  | non => cases r; rfl
  | bl b => cases r; rfl
  | int i => obtain ⟨t, rfl⟩ := r; rfl
  | str z => obtain ⟨t, rfl⟩ := r; rfl
  | _ => exact absurd (show false = true from f) Bool.false_ne_true
theorem any_eqU {x : V} {xs : List V} {us : List Value} (p : Vals xs us) : xs.all flatV = true → us.any (eqU x) = xs.any fun y => eqV y x := by
  induction p with
  | nil => exact fun _ => rfl
  | cons r _ ih =>
    intro f
    rw [List.all_cons, Bool.and_eq_true] at f
    rw [List.any_cons, List.any_cons, eqU_of r f.1, ih f.2]
theorem mem_eqAt {A : Around} {s : Shared} {x : V} {v : Value} (rx : RelV x v) (fx : flatV x = true) {xs : List V} {us : List Value} (p : Vals xs us) : xs.all flatV = true → ∀ u ∈ us, SeqAt.EqAt A s u v (eqU x u) := by
  induction p with
  | nil => intro _ u hu; cases hu
  | cons r _ ih =>
    intro f u' hu
    rw [List.all_cons, Bool.and_eq_true] at f
    rcases List.mem_cons.mp hu with rfl | hu
    · rw [eqU_of r f.1]; exact eqAt_V r rx f.1 fx
    · exact ih f.2 u' hu
noncomputable def inV (x : V) (xs : List V) : Bool := xs.any fun y => eqV y x
noncomputable def rIn (K : PySem.W.Frag) (neg : Bool) : R2 := fun x y H Q => ∃ p xs, y = .ref p ∧ (SqL K H p xs ∨ SqT K H p xs) ∧ flatV x = true ∧ xs.all flatV = true ∧ Q (.bl (if neg then !inV x xs else inV x xs)) H
theorem op_in_seq : OpR X (compareOp .In) (rIn X.K false) := by
  intro pins s σ H x y v u Q I rx ry h
  obtain ⟨p, xs, rfl, hq, fx, fs, q⟩ := h
  cases ry
  rcases hq with hq | hq
  · obtain ⟨its, r, pl, hz⟩ := I.list hq
    refine SeqAt.in_listAt (eqU x) pl.isList (fun w hw => mem_eqAt rx fx r fs w (by simpa using hw)) ⟨.bl _, H, I, rfl, ?_⟩
    rw [show its.toArray.any (eqU x) = its.any (eqU x) by simp, any_eqU r fs]
    exact q
  · obtain ⟨its, r, pl, hz⟩ := I.tuple hq
    refine SeqAt.in_tupleAt (eqU x) pl (fun w hw => mem_eqAt rx fx r fs w (by simpa using hw)) ⟨.bl _, H, I, rfl, ?_⟩
    rw [show its.toArray.any (eqU x) = its.any (eqU x) by simp, any_eqU r fs]
    exact q
theorem call_len_seq : CallR X (.builtin "len") (fun xs H Q => ∃ p ys, xs = [.ref p] ∧ (SqL X.K H p ys ∨ SqT X.K H p ys) ∧ Q (.int ys.length) H) := by
  intro pins s σ H xs us Q I r h
  obtain ⟨p, ys, rfl, hq, q⟩ := h
  obtain ⟨u, rfl, rx⟩ := vals1 r
  cases rx
  have hn := line63
  rcases hq with hq | hq
  · obtain ⟨its, r', pl, hz⟩ := I.list hq
    have hlen := r'.length
    exact Calls.call_len_list pl.isList (by simp only [List.size_toArray] <;> omega) ⟨.int ys.length, H, I.tok _, ⟨s.toks + 1, by rw [List.size_toArray, hlen]⟩, q⟩
  · obtain ⟨its, r', pl, hz⟩ := I.tuple hq
    have hlen := r'.length
    exact len_tuple pl (by simp only [List.size_toArray] <;> omega) ⟨.int ys.length, H, I.tok _, ⟨s.toks + 1, by rw [List.size_toArray, hlen]⟩, q⟩
theorem call_tuple_of : CallR X (.type "tuple") (fun xs H Q => ∃ p ys, xs = [.ref p] ∧ ((SqL X.K H p ys ∧ ∀ l, H l = none → Q (.ref l) (upd H l (.tup ys))) ∨ (SqT X.K H p ys ∧ Q (.ref p) H))) := by
  intro pins s σ H xs us Q I r h
  obtain ⟨p, ys, rfl, h⟩ := h
  obtain ⟨u, rfl, rx⟩ := vals1 r
  cases rx
  rcases h with ⟨hq, q⟩ | ⟨hq, q⟩
  · obtain ⟨its, r', pl, hz⟩ := I.list hq
    have hlen := r'.length
    refine call_tuple_list pl.isList (fun h' kp => ?_) (by simp only [List.size_toArray] <;> omega)
    have I1 : Inv X pins σ H { s with heap := h' } := I.kept (t' := s.toks) kp
    have I2 : Inv X pins σ (upd H h'.objs.size (.tup ys)) { s with heap := h'.push { cls := .type "tuple", data := .seq its.toArray } } :=
      I1.laid (t' := s.toks) (fun b o e => Heap.get?_push_of_some _ e) (Nat.le_refl _) (show ObjOk X.prog X.w _ _ _ (.tup ys) from ⟨hz, its, r', IsTup.new _ _⟩)
    exact ⟨.ref h'.objs.size, _, I2, rfl, q _ (I1.hok.fresh (Nat.le_refl _))⟩
  · obtain ⟨its, r', pl, hz⟩ := I.tuple hq
    exact call_tuple_same pl ⟨.ref p, H, I, rfl, q⟩
def tyV (K : PySem.W.Frag) (T : String) (x : V) (H : Hp) : Prop := match x with
  | .str _ => T = "str"
  | .int _ => T = "int"
  | .ref p => (T = "list" ∧ ∃ xs, SqL K H p xs) ∨ (T = "tuple" ∧ ∃ o, K.lookup p = some o ∧ o.cls = .type "tuple" ∧ o.dict = none) ∨
      (T = "dict" ∧ ((∃ kvs, H p = some (.dK kvs)) ∨ ∃ kvs, H p = some (.dT kvs))) ∨ (T = "set" ∧ ∃ S n, H p = some (.set S n))
  | _ => False
theorem tyV_is {pins : List (Addr × Obj)} {σ : St} {H : Hp} {s : Shared} {T : String} {x : V} {v : Value} (I : Inv X pins σ H s) (r : RelV x v) (ty : tyV X.K T x H) :
    s.TypeIs v T ∧ ∀ a, v = .ref a → ∃ ob, s.heap.get? a = some ob ∧ ob.dict = none := by
  cases x with
  | str z =>
    obtain ⟨t, rfl⟩ := r
    cases (show T = "str" from ty)
    exact ⟨typeIs_str s z t, fun _ e => nomatch e⟩
  | int i =>
    obtain ⟨t, rfl⟩ := r
    cases (show T = "int" from ty)
    exact ⟨typeIs_int s i t, fun _ e => nomatch e⟩
  | ref p =>
    cases r
    rcases ty with ⟨rfl, xs, hq⟩ | ⟨rfl, o, hk, hc, hd⟩ | ⟨rfl, hk⟩ | ⟨rfl, S, n, hk⟩
    · obtain ⟨its, _, pl, _⟩ := I.list hq
      refine ⟨pl.isList.typeIs, fun a e => ?_⟩
      cases e
      obtain ⟨o, n, e, c, hd, _⟩ := pl
      exact ⟨o, e, hd⟩
    · refine ⟨⟨o, I.kIn p o hk, hc⟩, fun a e => ?_⟩
      cases e
      exact ⟨o, I.kIn _ o hk, hd⟩
    · have z : ∃ o, s.heap.get? p = some o ∧ o.ExactDict := by
        rcases hk with ⟨kvs, hk⟩ | ⟨kvs, hk⟩
        · obtain ⟨_, _, _, _, o, _, _, e, ex, _⟩ := I.hok p _ hk
          exact ⟨o, e, ex⟩
        · obtain ⟨_, _, _, _, o, _, _, e, ex, _⟩ := I.hok p _ hk
          exact ⟨o, e, ex⟩
      obtain ⟨o, e, ex⟩ := z
      refine ⟨⟨o, e, ex.1⟩, fun a e2 => ?_⟩
      cases e2
      exact ⟨o, e, ex.2.1⟩
    · obtain ⟨o, _, _, _, e, ex, _⟩ := I.hok p _ hk
      refine ⟨⟨o, e, ex.1⟩, fun a e2 => ?_⟩
      cases e2
      exact ⟨o, e, ex.2.1⟩
  | _ => exact False.elim ty
noncomputable def tBM (K : PySem.W.Frag) (T : String) (r : V → List V → Hp → VK → Prop) (to : TE) (t : TA) : TE := fun σ H Q => to σ H fun x H1 => tyV K T x H1 ∧ t σ H1 fun xs H2 => r x xs H2 Q
variable {o e : Expr} {es : List Expr} {to : TE} {t : TA} {name : Str} {apos cpos : Pos} {T id : String} {r : V → List V → Hp → VK → Prop}
theorem pe_bm (pa : PlainAttrs T) (slot : Slot T name id) (hty : typeOf (.builtin id) = pure (.type "method_descriptor")) (hm : MtR X id r) (ho : PE X o to) (ha : PA X (e :: es) t)
    (hbase : attributeBase o name X.env (eval o X.env) = eval o X.env := by rfl)
    (hfew : ((backTo cpos (starEach (e :: es) X.env)).all (fun x => !x.1) && (backToKw cpos (keywordEach [] X.env)).all (fun x => x.1.isSome)
      && decide ((e :: es).length + ([] : List Keyword).length + (if ([] : List Keyword).isEmpty then 0 else 1) < 30)) = true := by rfl)
    (hline : (apos.endLine == cpos.line) = true := by rfl) (hs : starEach (e :: es) X.env = (false, eval e X.env) :: starEach es X.env := by rfl) (hplain : (backTo cpos (starEach es X.env)).any (·.1) = false := by rfl) :
    PE X (.Call (.Attribute o name apos) (e :: es) [] cpos) (tBM X.K T r to t) := by
  intro pins s σ H Q I h
  refine wpAny_Call_method_late hbase hfew hline rfl (thn (ho pins s σ H _ I h) fun v s1 zz => ex5 zz fun x H1 I1 r1 yy => ?_)
  obtain ⟨ty, q1⟩ := yy
  obtain ⟨h1, h2⟩ := tyV_is I1 r1 ty
  refine ⟨T, id, pa, slot, hty, h1, h2, ?_⟩
  have hA := ha cpos pins s1 σ H1 _ I1 q1
  rw [hs] at hA ⊢
  refine Calls.callWith_builtin (by show (false || (backTo cpos (starEach es X.env)).any (·.1)) = false; rw [hplain] <;> rfl) (Calls.evalArgs_plain ?_)
  exact thn hA fun us s2 zz => ex5 zz fun vs H2 I2 r2 q2 => hm pins s2 σ H2 x vs v us Q I2 r1 r2 q2
end
end L2
namespace L2
open PySem PySem.Spec PyProof.Rows
def MtM (X : Cx) (id : String) (r : V → List V → Hp → VK → Prop) : Prop :=
  ∀ (pins : List (Addr × Obj)) (s : Shared) (σ : St) (H : Hp) (x : V) (xs : List V) (v : Value) (us : List Value) (Q : VK), Inv X pins σ H s → RelV x v → Vals xs us → r x xs H Q →
    wpAny (model X.prog X.w) X.A (call (.builtin id) (v :: us)) (EP X pins σ Q) X.xe s
theorem Vals.one {x : V} {us : List Value} (p : Vals [x] us) : ∃ u, us = [u] ∧ RelV x u := by
  cases p with
  | cons r t => cases t; exact ⟨_, rfl, r⟩
section
variable {X : Cx} {pins : List (Addr × Obj)} {σ : St} {H : Hp} {s : Shared} {l b : Addr} {xs ys zs : List V}
theorem Inv.lset {its its' : List Value} {n : Nat} {f : Array Value → Array Value} {t' : Nat} (I : Inv X pins σ H s) (hH : H l = some (.lst xs))
    (e : s.heap.get? l = some { cls := .type "list", data := .seq its.toArray n }) (hf : f its.toArray = its'.toArray) (hv : Vals ys its') (hz : ys.length ≤ sizeLine) :
    Inv X pins σ (upd H l (.lst ys)) { s with heap := s.heap.update l (Obj.mapSeq f), toks := t' } := by
  have q := PySem.IsL.update e f
  rw [hf] at q
  refine I.write (x := l) (e := l) (by rw [hH]; exact trivial) (.inl rfl) (fun b' u hb hu => (Heap.get?_update_other s.heap (Obj.mapSeq f) (Ne.symm hb)).trans hu) ⟨_, q⟩ ?_
  exact ⟨hz, its', _, hv, q⟩
theorem Inv.lnew {its : List Value} {t' : Nat} (I : Inv X pins σ H s) (hv : Vals ys its) (hz : ys.length ≤ sizeLine) :
    Inv X pins σ (upd H s.heap.objs.size (.lst ys)) { s with heap := s.heap.push { cls := .type "list", data := .seq its.toArray }, toks := t' } :=
  I.laid (fun _ _ q => Heap.get?_push_of_some _ q) (Nat.le_refl _) ⟨hz, its, 0, hv, Heap.get?_push_size _ rfl⟩
theorem Inv.fresh (I : Inv X pins σ H s) : H s.heap.objs.size = none := I.hok.fresh (Nat.le_refl _)
theorem Inv.lstM (I : Inv X pins σ H s) (hH : H l = some (.lst xs)) : xs.length ≤ sizeLine ∧ ∃ (its : List Value) (n : Nat), Vals xs its ∧ xs.length = its.length ∧ s.heap.get? l = some { cls := .type "list", data := .seq its.toArray n } := by
  obtain ⟨z, its, n, r, e⟩ := I.hok l _ hH
  exact ⟨z, its, n, r, r.length, e⟩
theorem notLongL {n : Nat} (h : n ≤ sizeLine) : Builtin.List.listTooLong n = false := by
  unfold Builtin.List.listTooLong
  exact decide_eq_false (by omega)
end
section
variable {X : Cx}
noncomputable def rAppend : V → List V → Hp → VK → Prop := fun x vs H Q => ∃ l xs y, x = .ref l ∧ vs = [y] ∧ H l = some (.lst xs) ∧ xs.length < sizeLine ∧ Q .non (upd H l (.lst (xs ++ [y])))
theorem mt_append : MtM X "list.append" rAppend := by
  intro pins s σ H x vs v us Q I rx rv h
  obtain ⟨l, xs, y, rfl, rfl, hH, hz, q⟩ := h
  cases rx
  obtain ⟨u, rfl, ru⟩ := rv.one
  obtain ⟨z, its, n, r, hl, e⟩ := I.lstM hH
  refine call_meets F.slot_list_append ⟨_, e, rfl⟩ F.entry_list_append (F.args_list_append_2 _ _) (PySem.list_append l its.toArray n u (by rw [List.size_toArray]; omega)) ⟨e, ?_⟩
  refine ⟨.non, _, I.lset (its' := its ++ [u]) hH e (by simp) (r.append (.cons ru .nil)) ?_, rfl, q⟩
  rw [List.length_append, List.length_singleton]
  omega
noncomputable def rExtend : V → List V → Hp → VK → Prop := fun x vs H Q => ∃ l b xs zs, x = .ref l ∧ vs = [.ref b] ∧ H l = some (.lst xs) ∧ H b = some (.lst zs) ∧ xs.length + zs.length ≤ sizeLine ∧ Q .non (upd H l (.lst (xs ++ zs)))
theorem mt_extend : MtM X "list.extend" rExtend := by
  intro pins s σ H x vs v us Q I rx rv h
  obtain ⟨l, b, xs, zs, rfl, rfl, hH, hB, hz, q⟩ := h
  cases rx
  obtain ⟨u, rfl, ru⟩ := rv.one
  cases ru
  obtain ⟨z, its, n, r, hl, e⟩ := I.lstM hH
  obtain ⟨z2, its2, n2, r2, hl2, e2⟩ := I.lstM hB
  have hsz : its.toArray.size + its2.toArray.size ≤ sizeLine := by rw [List.size_toArray, List.size_toArray]; omega
  have hlong : ¬ (!its.toArray.isEmpty && Builtin.List.listTooLong (its.toArray.size + its2.toArray.size)) = true := by
    rw [notLongL hsz, Bool.and_false]
    exact Bool.false_ne_true
  refine call_meets F.slot_list_extend ⟨_, e, rfl⟩ F.entry_list_extend (F.args_list_extend_2 _ _)
    (AutoSeq1.list_extend_list_list_0 l its.toArray n b its2.toArray n2 hlong (by rw [List.size_toArray]; omega) (by omega)) ⟨e, e2, ?_⟩
  refine ⟨.non, _, I.lset (its' := its ++ its2) hH e (by simp) (r.append r2) ?_, rfl, q⟩
  rw [List.length_append]
  omega
noncomputable def rCat : R2 := fun x y H Q => ∃ l b xs zs, x = .ref l ∧ y = .ref b ∧ H l = some (.lst xs) ∧ H b = some (.lst zs) ∧ xs.length + zs.length ≤ sizeLine ∧ ∀ p, H p = none → Q (.ref p) (upd H p (.lst (xs ++ zs)))
theorem op_cat : OpR X (binaryOp .Add) rCat := by
  intro pins s σ H x y v u Q I rx ry h
  obtain ⟨l, b, xs, zs, rfl, rfl, hH, hB, hz, q⟩ := h
  cases rx
  cases ry
  obtain ⟨z, its, n, r, hl, e⟩ := I.lstM hH
  obtain ⟨z2, its2, n2, r2, hl2, e2⟩ := I.lstM hB
  refine PySem.P.add_list e e2 ?_ (by rw [List.size_toArray, List.size_toArray]; omega)
  have ea : its.toArray ++ its2.toArray = (its ++ its2).toArray := by simp
  rw [ea]
  exact ⟨.ref _, _, I.lnew (t' := s.toks) (r.append r2) (by rw [List.length_append]; omega), rfl, q _ I.fresh⟩
end
section
variable {prog : Program} {w : World} {A : Around} {E : Value → Shared → Prop} {s : Shared}
end
section
variable {X : Cx}
end
end L2
namespace L2
open PySem PySem.Spec PyProof.Rows
theorem Vals.ints : ∀ {ns : List Int} {us : List Value}, Vals (ns.map V.int) us → IntsAre us ns
  | [], us, h => by
    rw [List.map_nil] at h
    cases h
    exact IntsAre.nil
  | n :: ns, us, h => by
    rw [List.map_cons] at h
    cases h with
    | cons r t =>
      obtain ⟨k, rfl⟩ := r
      exact IntsAre.cons n k (Vals.ints t)
theorem Vals.bls : ∀ {bs : List Bool} {us : List Value}, Vals (bs.map V.bl) us → us = bs.map Value.bool
  | [], us, h => by
    rw [List.map_nil] at h
    cases h
    rfl
  | b :: bs, us, h => by
    rw [List.map_cons] at h
    cases h with
    | cons r t =>
      cases r
      rw [Vals.bls t, List.map_cons]
theorem Vals.ref1 {a : Addr} {us : List Value} (r : Vals [V.ref a] us) : us = [Value.ref a] := by
  cases r with
  | cons r t =>
    cases t
    cases r
    rfl
section
variable {prog : Program} {w : World} {A : Around} {E : Value → Shared → Prop} {s : Shared} {l : Addr} {its : List Value} {ns : List Int} {Q : Value → Shared → Prop}
theorem sum_raw (hh : A.handled = none) (hl : s.heap.IsList l its.toArray) (hi : IntsAre its ns)
    (h : ∀ h' tk t', (∀ b o, s.heap.get? b = some o → h'.get? b = some o) → Q (.int ns.sum t') { s with heap := h', toks := tk }) : wpAny (model prog w) A (call (.builtin "sum") [.ref l]) Q E s := by
  obtain ⟨xs, e⟩ := hi.allInts.items
  have hn : numsOf (intItems xs).toList = ns := by rw [← e]; exact hi.numsOf
  rw [nums_intItems] at hn
  rw [e] at hl
  refine PySem.sum_intListG hh hl fun h' tk t' hk => ?_
  have := h h' tk t' hk
  rw [preSum_eq, List.take_of_length_le (by simp), hn]; exact this
end
section
variable {X : Cx}
noncomputable def rSum (K : PySem.W.Frag) : List V → Hp → VK → Prop := fun vs H Q => ∃ (a : Addr) (ns : List Int), vs = [V.ref a] ∧ SqL K H a (ns.map V.int) ∧ Q (.int ns.sum) H
theorem cr_sum (hc : X.calm = true) : CallR X (.builtin "sum") (rSum X.K) := by
  intro pins s σ H vs us Q I r h
  obtain ⟨a, ns, rfl, hs, q⟩ := h
  obtain ⟨its, rv, hl, _⟩ := I.list hs
  rw [Vals.ref1 r]
  exact sum_raw (I.ok.hd hc) hl.isList rv.ints fun h' tk t' hk => ⟨.int _, H, I.kept hk, ⟨_, rfl⟩, q⟩
end
section
variable {X : Cx}
end
section
variable {X : Cx}
end
theorem iter_any {prog : Program} {w : World} {A : Around} {E : Value → Shared → Prop} {s : Shared} {l : Addr} {items : Array Value} {Q : Value → Shared → Prop} (hl : s.heap.IsList l items)
    (h : ∀ s₂ : Shared, s₂ = { s with heap := s.heap.push { cls := .type "list_iterator", data := .fields #[.ref l, .int 0 0] } } →
      (s₂.heap.IsListIter s.heap.objs.size l 0 ∧ s₂.heap.IsList l items) → l ≠ s.heap.objs.size → Q (.ref s.heap.objs.size) s₂) : wpAny (model prog w) A (pyIter (.ref l)) Q E s := by
  have hlt : l < s.heap.objs.size := by obtain ⟨_, e, _⟩ := hl; exact Heap.lt_size e
  exact wpAny_pyIter_list hl (h _ rfl ⟨⟨_, Heap.get?_push_size _ rfl, rfl, rfl⟩, hl.push _⟩ (Nat.ne_of_lt hlt))
theorem truth_bools {prog : Program} {w : World} {A : Around} {bs : List Bool} {its : List Value} (e : its = bs.map Value.bool) :
    TruthOf prog w A (fun i v => its.toArray[i]? = some v) (fun i => bs.getD i false) := fun i v s Q E hv hq => by
  have hv' : its[i]? = some v := by simpa using hv
  rw [e, List.getElem?_map] at hv'
  obtain ⟨b, hb, rfl⟩ := Option.map_eq_some_iff.mp hv'
  have hg : bs.getD i false = b := by rw [List.getD_eq_getElem?_getD, hb] <;> rfl
  have hq' : Q (bs.getD i false) s := hq
  rw [hg] at hq'
  exact wpAny_truthy_bool hq'
theorem any_range : ∀ bs : List Bool, (List.range bs.length).any (fun i => bs.getD i false) = bs.any id
  | [] => rfl
  | b :: bs => by
    rw [List.length_cons, List.range_succ_eq_map, List.any_cons, List.any_map, List.any_cons, ← any_range bs]
    all_goals rfl
theorem all_range : ∀ bs : List Bool, (List.range bs.length).all (fun i => bs.getD i false) = bs.all id
  | [] => rfl
  | b :: bs => by
    rw [List.length_cons, List.range_succ_eq_map, List.all_cons, List.all_map, List.all_cons, ← all_range bs]
    all_goals rfl
section
variable {X : Cx}
noncomputable def rAll (K : PySem.W.Frag) : List V → Hp → VK → Prop := fun vs H Q => ∃ (a : Addr) (bs : List Bool), vs = [V.ref a] ∧ SqL K H a (bs.map V.bl) ∧ Q (.bl (bs.all id)) H
theorem cr_all (hc : X.calm = true) : CallR X (.builtin "all") (rAll X.K) := by
  intro pins s σ H vs us Q I r h
  obtain ⟨a, bs, rfl, hs, q⟩ := h
  obtain ⟨its, rv, hl, _⟩ := I.list hs
  rw [Vals.ref1 r]
  have hb := rv.bls
  refine call_all_walk (iter_any hl.isList fun s₂ e2 st hne => ?_)
  subst e2
  refine ⟨_, _, _, _, _, _, _, rfl, Walks.list (A := X.A.in1) (I.ok.hd hc) _ a hne its.toArray, st, truth_bools hb, fun h' tk hk => ?_⟩
  refine ⟨.bl _, H, I.kept fun b o eo => hk b o (fun hmem => ?_) (Heap.get?_push_of_some _ eo), ?_, q⟩
  · rcases List.mem_cons.mp hmem with e1 | hmem
    · exact absurd (e1 ▸ Heap.lt_size eo) (Nat.lt_irrefl _)
    · cases hmem
  · show Value.bool _ = Value.bool _
    rw [← all_range, hb, List.size_toArray, List.length_map]
end
mutual
inductive Dp (K : PySem.W.Frag) (H : Hp) : V → PyData → Prop
  | non : Dp K H .non .none
  | bl (b : Bool) : Dp K H (.bl b) (.bool b)
  | int (i : Int) : Dp K H (.int i) (.int i)
  | str (x : Str) : Dp K H (.str x) (.str x)
  | lst {a : Addr} {xs : List V} {ds : List PyData} : SqL K H a xs → DpAll K H xs ds → Dp K H (.ref a) (.list ds)
  | tup {a : Addr} {xs : List V} {ds : List PyData} : SqT K H a xs → DpAll K H xs ds → Dp K H (.ref a) (.tuple ds)
inductive DpAll (K : PySem.W.Frag) (H : Hp) : List V → List PyData → Prop
  | nil : DpAll K H [] []
  | cons {v : V} {vs : List V} {d : PyData} {ds : List PyData} : Dp K H v d → DpAll K H vs ds → DpAll K H (v :: vs) (d :: ds)
end
section
variable {X : Cx} {pins : List (Addr × Obj)} {σ : St} {H : Hp} {s : Shared}
mutual
theorem Dp.reads (I : Inv X pins σ H s) : ∀ (d : PyData) (v : V) (u : Value), Dp X.K H v d → RelV v u → ∃ as, Reads s.heap u d as
  | .none, _, _, h, r => by
    cases h
    cases r
    exact ⟨_, Reads.none⟩
  | .bool b, _, _, h, r => by
    cases h
    cases r
    exact ⟨_, Reads.bool b⟩
  | .int i, _, _, h, r => by
    cases h
    obtain ⟨t, rfl⟩ := r
    exact ⟨_, Reads.int i t⟩
  | .str x, _, _, h, r => by
    cases h
    obtain ⟨t, rfl⟩ := r
    exact ⟨_, Reads.str x t⟩
  | .list ds, _, _, h, r => by
    cases h with
    | lst hs ha =>
      cases r
      obtain ⟨its, rv, ⟨o, n, ho, hc, _, hd⟩, _⟩ := I.list hs
      obtain ⟨as, hr⟩ := Dp.readsAll I ds _ its ha rv
      exact ⟨_, Reads.list ho hc hd hr⟩
  | .tuple ds, _, _, h, r => by
    cases h with
    | tup hs ha =>
      cases r
      obtain ⟨its, rv, ⟨o, ho, hc, n, hd⟩, _⟩ := I.tuple hs
      obtain ⟨as, hr⟩ := Dp.readsAll I ds _ its ha rv
      exact ⟨_, Reads.tuple ho hc hd hr⟩
  | .dict _, _, _, h, _ => by cases h
theorem Dp.readsAll (I : Inv X pins σ H s) : ∀ (ds : List PyData) (vs : List V) (us : List Value), DpAll X.K H vs ds → Vals vs us → ∃ as, ReadsAll s.heap us ds as
  | [], _, _, h, r => by
    cases h
    cases r
    exact ⟨_, ReadsAll.nil⟩
  | d :: ds, _, _, h, r => by
    cases h with
    | cons h1 h2 =>
      cases r with
      | cons r1 r2 =>
        obtain ⟨as, q1⟩ := Dp.reads I d _ _ h1 r1
        obtain ⟨bs, q2⟩ := Dp.readsAll I ds _ _ h2 r2
        exact ⟨_, ReadsAll.cons q1 q2⟩
end
end
section
variable {X : Cx}
noncomputable def rEqD (K : PySem.W.Frag) : R2 := fun x y H Q => ∃ d e, Dp K H x d ∧ Dp K H y e ∧ SeqAt.shaped d = true ∧ SeqAt.shaped e = true ∧ Q (.bl (PyData.eqv d e)) H
theorem op_eqD (hu : X.A.units + 64 < cLine) : OpR X (compareOp .Eq) (rEqD X.K) := by
  intro pins s σ H x y v u Q I rx ry h
  obtain ⟨d, e, hd, he, sd, se, q⟩ := h
  obtain ⟨as, r1⟩ := Dp.reads I d x v hd rx
  obtain ⟨bs, r2⟩ := Dp.reads I e y u he ry
  exact SeqAt.compareEq_shaped r1 r2 sd se hu ⟨.bl _, H, I, rfl, q⟩
end
end L2
namespace L2
open PySem PySem.Spec PyProof.Rows
abbrev CellAt (h : Heap) (c : Addr) (v : Option Value) : Prop := h.IsCell c v
noncomputable def relS (scope sc : Scope) : Scope :=
  { scope with names := scope.names.map fun (n, k) => if (k == .free && sc.kind == .function && sc.names.lookup n == some .cell) then (n, .cell) else (n, k) }
noncomputable def cloFrom (cells : List (Str × Addr)) : List (Str × NameKind) → List (Str × Addr) → List (Str × Addr)
  | [], acc => acc
  | (n, k) :: r, acc => if k == .free then cloFrom cells r ((n, (cells.lookup n).getD 0) :: acc) else cloFrom cells r acc
theorem closure_loop (env : Env) (f : Str × NameKind → List (Str × Addr) → Sem (ForInStep (List (Str × Addr))))
    (hf : ∀ n k c, f (n, k) c = if k == .free then (do let a ← cellOf env n; pure (.yield ((n, a) :: c))) else pure (.yield c)) :
    ∀ (names : List (Str × NameKind)) (acc : List (Str × Addr)), (∀ y ∈ names, y.2 = .free → ∃ c, env.cells.lookup y.1 = some c) → forIn names acc f = pure (cloFrom env.cells names acc)
  | [], acc, _ => by rw [List.forIn_nil]; rfl
  | (n, k) :: r, acc, h => by
    rw [List.forIn_cons, hf]
    have ih := fun acc => closure_loop env f hf r acc fun y hy => h y (List.mem_cons_of_mem _ hy)
    unfold cloFrom
    by_cases hk : (k == NameKind.free) = true
    · rw [if_pos hk, if_pos hk]
      obtain ⟨c, hc⟩ := h (n, k) List.mem_cons_self (by simpa using hk)
      have e : cellOf env n = pure c := by unfold cellOf; rw [hc]
      rw [e]
      have e2 : (env.cells.lookup n).getD 0 = c := by rw [hc]; rfl
      rw [e2]
      exact ih _
    · rw [if_neg hk, if_neg hk]
      exact ih _
theorem closure_ok {scope : Scope} {env : Env} (h : ∀ y ∈ scope.names, y.2 = .free → ∃ c, env.cells.lookup y.1 = some c) : closureFor scope env = pure (cloFrom env.cells scope.names []) := by
  simp only [closureFor]
  rw [closure_loop env _ (fun n k c => rfl) scope.names [] h]
  rfl
theorem mem_lookup {α : Type} : ∀ {l : List (Str × α)} {n : Str} {c : α}, (n, c) ∈ l → ∃ c', l.lookup n = some c'
  | (k, v) :: r, n, c, h => by
    rw [List.lookup_cons]
    cases hb : n == k with
    | true => exact ⟨_, rfl⟩
    | false =>
      rcases List.mem_cons.mp h with e | h
      · cases e; simp at hb
      · exact mem_lookup h
theorem cloFrom_mem {cells : List (Str × Addr)} : ∀ {names : List (Str × NameKind)} {acc : List (Str × Addr)} {n : Str} {c : Addr}, (n, c) ∈ cloFrom cells names acc → (n, c) ∈ acc ∨ ((n, .free) ∈ names ∧ c = (cells.lookup n).getD 0)
  | [], _, _, _, h => .inl h
  | (m, k) :: r, acc, n, c, h => by
    unfold cloFrom at h
    split at h
    · rename_i hk
      have hk : k = .free := by simpa using hk
      rcases cloFrom_mem h with h | ⟨h1, h2⟩
      · rcases List.mem_cons.mp h with e | h
        · cases e; exact .inr ⟨hk ▸ List.mem_cons_self, rfl⟩
        · exact .inl h
      · exact .inr ⟨List.mem_cons_of_mem _ h1, h2⟩
    · rcases cloFrom_mem h with h | ⟨h1, h2⟩
      · exact .inl h
      · exact .inr ⟨List.mem_cons_of_mem _ h1, h2⟩
theorem cloFrom_acc {cells : List (Str × Addr)} : ∀ {names : List (Str × NameKind)} {acc : List (Str × Addr)} {p : Str × Addr}, p ∈ acc → p ∈ cloFrom cells names acc
  | [], _, _, h => h
  | (m, k) :: r, acc, p, h => by
    unfold cloFrom
    split
    · exact cloFrom_acc (List.mem_cons_of_mem _ h)
    · exact cloFrom_acc h
theorem cloFrom_has {cells : List (Str × Addr)} : ∀ {names : List (Str × NameKind)} {acc : List (Str × Addr)} {n : Str}, (n, .free) ∈ names → (n, (cells.lookup n).getD 0) ∈ cloFrom cells names acc
  | (m, k) :: r, acc, n, h => by
    unfold cloFrom
    rcases List.mem_cons.mp h with e | h
    · cases e
      exact cloFrom_acc List.mem_cons_self
    · split
      · exact cloFrom_has h
      · exact cloFrom_has h
theorem cells_mem : ∀ {names : List (Str × NameKind)} {h : Heap} {acc : List (Str × Addr)} {x : Str} {c : Addr}, (x, c) ∈ cellsFrom h.objs.size names acc →
    (x, c) ∈ acc ∨ ((x, .cell) ∈ names ∧ h.objs.size ≤ c ∧ CellAt (pushCells h names) c none)
  | [], _, _, _, _, h => .inl h
  | (n, k) :: r, h, acc, x, c, hm => by
    unfold cellsFrom at hm
    unfold pushCells
    split at hm
    · rename_i hk
      rw [if_pos hk]
      have hk : k = .cell := by simpa using hk
      rw [← Heap.size_push h { cls := .type "cell", data := .cell none }] at hm
      rcases cells_mem hm with hm | ⟨h1, h2, h3⟩
      · rcases List.mem_cons.mp hm with e | hm
        · cases e
          exact .inr ⟨hk ▸ List.mem_cons_self, Nat.le_refl _, _, pushCells_keeps r _ _ _ (Heap.get?_push_size _ rfl), rfl⟩
        · exact .inl hm
      · rw [Heap.size_push] at h2
        exact .inr ⟨List.mem_cons_of_mem _ h1, Nat.le_of_succ_le h2, h3⟩
    · rename_i hk
      rw [if_neg hk]
      rcases cells_mem hm with hm | ⟨h1, h2, h3⟩
      · exact .inl hm
      · exact .inr ⟨List.mem_cons_of_mem _ h1, h2, h3⟩
theorem cells_acc : ∀ {names : List (Str × NameKind)} {n : Nat} {acc : List (Str × Addr)} {p : Str × Addr}, p ∈ acc → p ∈ cellsFrom n names acc
  | [], _, _, _, h => h
  | (m, k) :: r, n, acc, p, h => by
    unfold cellsFrom
    split
    · exact cells_acc (List.mem_cons_of_mem _ h)
    · exact cells_acc h
theorem cells_has : ∀ {names : List (Str × NameKind)} {n : Nat} {acc : List (Str × Addr)} {x : Str}, (x, .cell) ∈ names → ∃ c, (x, c) ∈ cellsFrom n names acc
  | (m, k) :: r, n, acc, x, h => by
    unfold cellsFrom
    rcases List.mem_cons.mp h with e | h
    · cases e
      exact ⟨n, cells_acc List.mem_cons_self⟩
    · split
      · exact cells_has h
      · exact cells_has h
theorem cells_inj : ∀ {names : List (Str × NameKind)} {h : Heap} {acc : List (Str × Addr)} {x y : Str} {c : Addr}, (∀ p ∈ acc, p.2 < h.objs.size) → (∀ x y c, (x, c) ∈ acc → (y, c) ∈ acc → x = y) →
    (x, c) ∈ cellsFrom h.objs.size names acc → (y, c) ∈ cellsFrom h.objs.size names acc → x = y
  | [], _, _, _, _, _, _, hi, h1, h2 => hi _ _ _ h1 h2
  | (n, k) :: r, h, acc, x, y, c, hl, hi, h1, h2 => by
    unfold cellsFrom at h1 h2
    split at h1
    · rename_i hk
      rw [if_pos hk] at h2
      rw [← Heap.size_push h { cls := .type "cell", data := .cell none }] at h1 h2
      refine cells_inj (h := h.push _) (fun p hp => ?_) (fun x y c a b => ?_) h1 h2
      · rw [Heap.size_push]
        rcases List.mem_cons.mp hp with rfl | hp
        · exact Nat.lt_succ_self _
        · exact Nat.lt_succ_of_lt (hl p hp)
      · rcases List.mem_cons.mp a with e | a <;> rcases List.mem_cons.mp b with e' | b
        · cases e; cases e'; rfl
        · cases e; exact absurd (hl _ b) (Nat.lt_irrefl _)
        · cases e'; exact absurd (hl _ a) (Nat.lt_irrefl _)
        · exact hi _ _ _ a b
    · rename_i hk
      rw [if_neg hk] at h2
      exact cells_inj hl hi h1 h2
theorem newEnv_comp {M : Model} {A : Around} {E : Value → Shared → Prop} {s : Shared} {scope : Scope} {globals : Addr} {closure : List (Str × Addr)} {qual : Str} {func : Option Addr} {code : Value} {around : Env} {builtins : Addr} {Q : Env → Shared → Prop}
    (h : Q (newEnv scope s.heap.objs.size globals (cellsFrom (s.heap.objs.size + 1) scope.names closure) qual func code (some around) builtins)
      { s with heap := pushCells (s.heap.push { cls := .type "dict", data := .dict #[] }) scope.names }) :
    wpAny M A (newFunctionEnv scope globals closure [] qual func code (some around) builtins) Q E s := by
  simp only [newFunctionEnv, Option.isSome_some, if_true]
  refine wpAny_bind (wpAny_alloc ?_)
  refine wpAny_bind (wpAny_layCells _ (fun n k c => rfl) scope.names closure _ _ ?_)
  rw [show ({ s with heap := s.heap.push { cls := .type "dict", data := .dict #[] } } : Shared).heap.objs.size = s.heap.objs.size + 1 from Heap.size_push ..]
  rw [List.forIn_nil]
  exact wpAny_bind (wpAny_pure (wpAny_pure h))
theorem lookup_relS {sc : Scope} : ∀ {names : List (Str × NameKind)} {x : Str} {k : NameKind},
    (names.map fun (n, k) => if (k == NameKind.free && sc.kind == .function && sc.names.lookup n == some .cell) then (n, NameKind.cell) else (n, k)).lookup x = some k →
    ∃ k', names.lookup x = some k' ∧ (k = k' ∨ (k' = .free ∧ k = .cell))
  | [], _, _, h => by simp at h
  | (n, k₀) :: r, x, k, h => by
    have ih := @lookup_relS sc r x k
    have h' : List.lookup x ((if (k₀ == NameKind.free && sc.kind == .function && sc.names.lookup n == some .cell) = true then (n, NameKind.cell) else (n, k₀)) :: (r.map _)) = some k := h
    cases hx : x == n with
    | true =>
      simp only [List.lookup_cons, hx]
      by_cases hc : (k₀ == NameKind.free && sc.kind == .function && sc.names.lookup n == some .cell) = true
      · rw [if_pos hc] at h'
        simp only [List.lookup_cons, hx] at h'
        cases h'
        simp only [Bool.and_eq_true, beq_iff_eq] at hc
        exact ⟨k₀, rfl, .inr ⟨hc.1.1, rfl⟩⟩
      · rw [if_neg hc] at h'
        simp only [List.lookup_cons, hx] at h'
        cases h'
        exact ⟨_, rfl, .inl rfl⟩
    | false =>
      simp only [List.lookup_cons, hx]
      by_cases hc : (k₀ == NameKind.free && sc.kind == .function && sc.names.lookup n == some .cell) = true
      · rw [if_pos hc] at h'
        simp only [List.lookup_cons, hx] at h'
        exact ih h'
      · rw [if_neg hc] at h'
        simp only [List.lookup_cons, hx] at h'
        exact ih h'
structure BlkOk (N : List Str) (sc scope : Scope) (own : List (Str × Nat)) : Prop where
  kind : scope.kind = .function
  uniq : ∀ y ∈ scope.names, scope.names.lookup y.1 = some y.2
  ix : ∀ p ∈ own, N[p.2]? = some p.1
  free : ∀ y ∈ scope.names, y.2 = .free → sc.names.lookup y.1 = some .cell ∨ sc.names.lookup y.1 = some .free
  own : ∀ y ∈ scope.names, y.2 = .local ∨ y.2 = .cell → y.1 ∈ own.map (·.1) ∨ y.1 ∉ N
noncomputable def wipe (σ : St) : List Nat → St
  | [] => σ
  | v :: vs => (wipe σ vs).set v none
theorem wipe_length (σ : St) : ∀ vs : List Nat, (wipe σ vs).length = σ.length
  | [] => rfl
  | v :: vs => by unfold wipe; rw [List.length_set, wipe_length σ vs]
theorem wipe_some {σ : St} {i : Nat} {x : V} : ∀ {vs : List Nat}, (wipe σ vs)[i]? = some (some x) → σ[i]? = some (some x) ∧ i ∉ vs
  | [], h => ⟨h, by simp⟩
  | v :: vs, h => by
    unfold wipe at h
    by_cases hi : v = i
    · subst hi
      by_cases hv : v < (wipe σ vs).length
      · rw [List.getElem?_set_self hv] at h; cases h
      · rw [List.getElem?_eq_none (by simpa using hv)] at h; cases h
    · rw [List.getElem?_set_ne hi] at h
      obtain ⟨h1, h2⟩ := wipe_some h
      exact ⟨h1, by simp only [List.mem_cons, not_or]; exact ⟨fun e => hi e.symm, h2⟩⟩
noncomputable abbrev Cx.blk (X : Cx) (s : Shared) (H : Hp) (scope : Scope) (cenv : Env) (fp : List Addr) : Cx := { X with s_0 := s, H_0 := H, env := cenv, outer := X.stack, ex := fp, fn := fun x => scope.names.lookup x == some .cell, pn := [], xe := fun _ _ => False }
section
variable {X : Cx} {pins : List (Addr × Obj)} {σ : St} {H : Hp} {s : Shared}
theorem block_start {scope : Scope} {own : List (Str × Nat)} {fp : List Addr} (I : Inv X pins σ H s) (ok : BlkOk X.N X.env.scope scope own) (hN : X.N.Nodup) (hfp : ∀ b ∈ fp, FpOk X pins H b ∧ b < s.heap.objs.size) :
    Inv (X.blk s H scope (compEnvC scope (cellsFrom (s.heap.objs.size + 1) scope.names (cloFrom X.env.cells scope.names [])) s.heap.objs.size X.env) fp) [] (wipe σ (own.map (·.2))) H { s with heap := pushCells (s.heap.push { cls := .type "dict", data := .dict #[] }) scope.names } := by
  have hfree : ∀ y ∈ scope.names, y.2 = .free → ∃ c, X.env.cells.lookup y.1 = some c := fun y hy e => by
    rcases ok.free y hy e with k | k
    · exact I.ok.has _ (.inl k)
    · exact I.ok.has _ (.inr k)
  generalize hcenv : compEnvC scope (cellsFrom (s.heap.objs.size + 1) scope.names (cloFrom X.env.cells scope.names [])) s.heap.objs.size X.env = cenv
  have kp : ∀ b o, s.heap.get? b = some o → (pushCells (s.heap.push { cls := .type "dict", data := .dict #[] }) scope.names).get? b = some o := fun b o e => pushCells_keeps _ _ _ _ (Heap.get?_push_of_some _ e)
  have hL : cenv.locals = s.heap.objs.size := by rw [← hcenv]; rfl
  have hcl : cenv.cells = cellsFrom (s.heap.objs.size + 1) scope.names (cloFrom X.env.cells scope.names []) := by rw [← hcenv]; rfl
  have hsc : cenv.scope = relS scope X.env.scope := by rw [← hcenv]; rfl
  rw [← Heap.size_push s.heap { cls := .type "dict", data := .dict #[] }] at hcl
  have cm : ∀ {y c}, (y, c) ∈ cloFrom X.env.cells scope.names [] → X.env.cells.lookup y = some c ∧ c < s.heap.objs.size := fun {y c} hm => by
    rcases cloFrom_mem hm with hm | ⟨h1, rfl⟩
    · cases hm
    · obtain ⟨c, hc⟩ := hfree _ h1 rfl
      rw [hc]
      obtain ⟨w, z⟩ := I.cell _ _ hc
      exact ⟨rfl, z.lt⟩
  have mem : ∀ {y c}, cenv.cells.lookup y = some c → (X.env.cells.lookup y = some c ∧ c < s.heap.objs.size) ∨ (s.heap.objs.size + 1 ≤ c ∧ CellAt (pushCells (s.heap.push { cls := .type "dict", data := .dict #[] }) scope.names) c none) := fun {y c} e => by
    rw [hcl] at e
    rcases cells_mem (PySem.mem_of_lookup e) with hm | ⟨_, h2, h3⟩
    · exact .inl (cm hm)
    · rw [Heap.size_push] at h2; exact .inr ⟨h2, h3⟩
  have look : ∀ {y}, scope.names.lookup y = some .free → ∃ c, cenv.cells.lookup y = some c ∧ X.env.cells.lookup y = some c := fun {y} hl => by
    have hy : (y, NameKind.free) ∈ scope.names := PySem.mem_of_lookup hl
    obtain ⟨c', e'⟩ := mem_lookup (cells_acc (names := scope.names) (n := (s.heap.push { cls := .type "dict", data := .dict #[] }).objs.size) (cloFrom_has (cells := X.env.cells) (acc := []) hy))
    rw [← hcl] at e'
    refine ⟨c', e', ?_⟩
    rw [hcl] at e'
    rcases cells_mem (PySem.mem_of_lookup e') with hm | ⟨h1, _, _⟩
    · exact (cm hm).1
    · have := ok.uniq _ h1
      rw [hl] at this; cases this
  have okB : (X.blk s H scope cenv fp).Ok := by
    refine ⟨I.ok.mod, by show cenv.scope.kind = _; rw [hsc]; exact ok.kind, by show cenv.globals = _; rw [← hcenv]; exact I.ok.glob, by show cenv.builtins = _; rw [← hcenv]; exact I.ok.blt, by show s.heap.objs.size ≤ cenv.locals; rw [hL]; exact Nat.le_refl _,
      fun y z c e1 e2 => ?_, fun y hy => ?_, fun y c z e => ?_, I.ok.hd, I.ok.frames, .inl rfl, fun b hb => ⟨?_, fun y c e z => ?_⟩, I.bs, Nat.le_trans I.ok.bsz I.sz, fun b o e hb => ?_, fun b hb z => ?_, I.stack, I.stkFree⟩
    · have e1 : cenv.cells.lookup y = some c := e1
      have e2 : cenv.cells.lookup z = some c := e2
      rw [hcl] at e1 e2
      refine cells_inj (fun p hp => ?_) (fun y z c a b => I.ok.inj y z c (cm a).1 (cm b).1) (PySem.mem_of_lookup e1) (PySem.mem_of_lookup e2)
      rw [Heap.size_push]
      exact Nat.lt_succ_of_lt (cm (y := p.1) (c := p.2) hp).2
    · show ∃ c, cenv.cells.lookup y = some c
      have key : ∀ k, cenv.kindOf y = some k → (k = .cell ∨ k = .free) → ∃ c, cenv.cells.lookup y = some c := fun k hk hk' => by
        unfold Env.kindOf at hk
        rw [hsc] at hk
        obtain ⟨k', e, r⟩ := lookup_relS hk
        have : k' = .cell ∨ k' = .free := by
          rcases r with rfl | ⟨rfl, _⟩
          · exact hk'
          · exact .inr rfl
        rcases this with rfl | rfl
        · obtain ⟨c, hm⟩ := cells_has (n := (s.heap.push { cls := .type "dict", data := .dict #[] }).objs.size) (acc := cloFrom X.env.cells scope.names []) (PySem.mem_of_lookup e)
          obtain ⟨c', e'⟩ := mem_lookup hm
          exact ⟨c', by rw [hcl]; exact e'⟩
        · obtain ⟨c, h1, _⟩ := look e
          exact ⟨c, h1⟩
      rcases hy with hy | hy
      · exact key _ hy (.inl rfl)
      · exact key _ hy (.inr rfl)
    · have z : (scope.names.lookup y == some NameKind.cell) = true := z
      have z : scope.names.lookup y = some .cell := by simpa using z
      have e : cenv.cells.lookup y = some c := e
      rw [hcl] at e
      rcases cells_mem (PySem.mem_of_lookup e) with hm | ⟨_, h2, _⟩
      · rcases cloFrom_mem hm with hm | ⟨h1, _⟩
        · cases hm
        · have q := ok.uniq _ h1
          rw [z] at q; cases q
      · rw [Heap.size_push] at h2
        exact Nat.le_of_succ_le h2
    · show b ≠ cenv.locals
      rw [hL]; exact Nat.ne_of_lt (hfp b hb).2
    · have e : cenv.cells.lookup y = some c := e
      rcases mem e with ⟨h1, _⟩ | ⟨h1, _⟩
      · exact (hfp b hb).1.2.2.2.2.1 y c h1 z
      · have h2 : s.heap.objs.size + 1 ≤ b := by rw [← z]; exact h1
        exact absurd (Nat.lt_of_lt_of_le (hfp b hb).2 (Nat.le_of_succ_le h2)) (Nat.lt_irrefl _)
    · rcases (hfp b hb).1.2.2.2.1 with z | z
      · exact I.ok.noex b o e z
      · exact absurd (Nat.lt_of_lt_of_le (Heap.lt_size e) (Nat.le_trans I.ok.bsz z)) (Nat.lt_irrefl _)
    · rcases List.mem_cons.mp (I.stkSub b z) with z | z
      · exact (hfp b hb).1.2.1 z
      · exact (hfp b hb).1.2.2.1 z
  refine ⟨okB, rfl, I.bare, Un.kept kp, ⟨fun _ => none, ?_, fun i y av e1 e2 e3 => ?_⟩, fun y c e => ?_, ?_, fun y c e => ?_, fun p hp => ?_, I.hok.kept kp, by rw [wipe_length]; exact I.len⟩
  · show Heap.Ns _ cenv.locals _
    rw [hL]
    exact Heap.Ns.keeps (Heap.Ns.new ..) fun b o e => pushCells_keeps _ _ _ _ e
  · obtain ⟨e2, hne⟩ := wipe_some e2
    have hfr : scope.names.lookup y = some .free ∧ (cenv.kindOf y = some .cell ∨ cenv.kindOf y = some .free) := by
      have key : ∀ k, cenv.scope.names.lookup y = some k → k = .local ∨ k = .cell ∨ k = .free → scope.names.lookup y = some .free ∧ (cenv.kindOf y = some .cell ∨ cenv.kindOf y = some .free) := fun k hk hk' => by
        have hk0 := hk
        rw [hsc] at hk
        obtain ⟨k', e, r⟩ := lookup_relS hk
        have no : ¬ (k' = .local ∨ k' = .cell) := fun hh => by
          rcases ok.own _ (PySem.mem_of_lookup e) hh with e' | e'
          · obtain ⟨p, hp, hpy⟩ := List.mem_map.mp e'
            have e3 := ok.ix p hp
            have : p.1 = y := hpy
            rw [this] at e3
            exact hne (List.mem_map.mpr ⟨p, hp, nodup_ix hN e3 e1⟩)
          · exact e' (List.mem_of_getElem? e1)
        rcases r with rfl | ⟨rfl, rfl⟩
        · rcases hk' with rfl | rfl | rfl
          · exact absurd (.inl rfl) no
          · exact absurd (.inr rfl) no
          · exact ⟨e, .inr hk0⟩
        · exact ⟨e, .inl hk0⟩
      have e3 : Vis cenv.scope y := e3
      rcases e3 with e3 | e3 | e3
      · exact key _ e3 (.inl rfl)
      · exact key _ e3 (.inr (.inl rfl))
      · exact key _ e3 (.inr (.inr rfl))
    obtain ⟨m, hn, hl⟩ := I.loc
    have hvis : Vis X.env.scope y := (ok.free _ (PySem.mem_of_lookup hfr.1) rfl).elim (fun k => .inr (.inl k)) (fun k => .inr (.inr k))
    obtain ⟨w, r, q⟩ := hl i y av e1 e2 hvis
    refine ⟨w, r, .inr ⟨hfr.2, ?_⟩⟩
    obtain ⟨c, h1, h2⟩ := look hfr.1
    rcases q with ⟨k, _⟩ | ⟨_, c', e', z⟩
    · have k : X.env.scope.names.lookup y = some .local := k
      rcases ok.free _ (PySem.mem_of_lookup hfr.1) rfl with k' | k' <;> rw [show X.env.scope.names.lookup y = _ from k'] at k <;> cases k
    · rw [h2] at e'; cases e'
      exact ⟨c, h1, z.keeps kp⟩
  · have e : cenv.cells.lookup y = some c := e
    rcases mem e with ⟨h1, _⟩ | ⟨_, z⟩
    · obtain ⟨w, z⟩ := I.cell y c h1
      exact ⟨w, z.keeps kp⟩
    · exact ⟨_, z⟩
  · show H cenv.locals = none
    rw [hL]; exact I.hok.fresh (Nat.le_refl _)
  · have e : cenv.cells.lookup y = some c := e
    rcases mem e with ⟨h1, _⟩ | ⟨h1, _⟩
    · exact I.freeC y c h1
    · exact I.hok.fresh (Nat.le_of_succ_le h1)
  · exact absurd (show p ∈ ([] : List (Addr × Obj)) ++ [] from hp) (by simp)
theorem app_ok {E : Value → Shared → Prop} {D : Addr} {xs : List V} {y : V} {v : Value} {Q : Value → Shared → Prop} (I : Inv X pins σ H s) (hD : H D = some (.lst xs)) (hz : xs.length < sizeLine) (r : RelV y v)
    (h : ∀ s', Inv X pins σ (upd H D (.lst (xs ++ [y]))) s' → Q .none s') : wpAny (model X.prog X.w) X.A (call (.builtin "list.append") [.ref D, v]) Q E s := by
  obtain ⟨hz', its, n, ri, e⟩ := I.hok D _ hD
  have hl := ri.length
  refine append_at (hsz := by rw [List.size_toArray]; omega) e fun h' sb ho' => ?_
  refine h { s with heap := h' } (I.write (t' := s.toks) (by rw [hD]; trivial) (.inl rfl) (fun b u hb q => (sb.2 b hb).trans q) ⟨_, ho'⟩ ⟨by rw [List.length_append]; exact hz, its ++ [v], n + 1, ri.append (.cons r .nil), ?_⟩)
  rw [ho']
  simp
def PTs (X : Cx) (ifs : List Expr) (t : TT) : Prop :=
  ∀ (pins : List (Addr × Obj)) (s : Shared) (σ : St) (H : Hp) (Q : Bool → Hp → Prop), Inv X pins σ H s → t σ H Q →
    wpAny (model X.prog X.w) X.A (forIn ifs true fun c r => if r = true then do let ok ← isTrue c X.env (eval c X.env); pure (ForInStep.yield ok) else pure (ForInStep.yield r)) (TP X pins σ Q) X.xe s
noncomputable def tYes : TT := fun _ H Q => Q true H
theorem pts_nil : PTs X [] tYes := fun _ _ _ H _ I h => wpAny_tests_nil ⟨H, I, h⟩
end
theorem thnF {α : Type} {t : Sem α} {Q Q' : α → Shared → Prop} {M : Model} {A : Around} {E : Value → Shared → Prop} {s : Shared} (h : wpAny M A t Q (fun _ _ => False) s) (hQ : ∀ a s, Q a s → Q' a s) : wpAny M A t Q' E s := wpAny_mono h hQ fun _ _ z => False.elim z
theorem compLoop_any {prog : Program} {w : World} {A : Around} {R : Result → Shared → Prop} {s : Shared} {elt target iter : Expr} {ifs : List Expr} {scope : Scope} {pos : Pos} {it acc : Value} {env : Env} (I : Nat → Shared → Prop)
    (turn : ∀ n s, I n s → wpAny (model prog w) A (pyNext it) (fun r s₁ => match r with
      | none => R (.ok .next) s₁
      | some v => wpAny (model prog w) A (letOwnedTupleGo target it v) (fun _ s₁' => wpAny (model prog w) A (assign target env v) (fun _ s₂ =>
          wpAny (model prog w) A (forIn ifs true fun c r => if r = true then do let ok ← isTrue c env (eval c env); pure (ForInStep.yield ok) else pure (ForInStep.yield r)) (fun ok s₃ =>
            if ok = true then wpAny (model prog w) A (eval elt env) (fun x s₄ =>
              wpAny (model prog w) A (call (.builtin "list.append") [acc, x]) (fun _ s₅ => ∃ m, m < n ∧ I m s₅) (notedBy (model prog w) A env fun e s' => R (.error e) s') s₄) (notedBy (model prog w) A env fun e s' => R (.error e) s') s₃
            else ∃ m, m < n ∧ I m s₃) (notedBy (model prog w) A env fun e s' => R (.error e) s') s₂) (notedBy (model prog w) A env fun e s' => R (.error e) s') s₁') (notedBy (model prog w) A env fun e s' => R (.error e) s') s₁) (notedBy (model prog w) A env fun e s' => R (.error e) s') s)
    (n : Nat) (h : I n s) :
    codeAny (model prog w) A (.compLoop (.ListComp elt [⟨target, iter, ifs, 0⟩] scope pos) 0 it acc env) R s := by
  refine codeAny_loop rfl I (fun n s hI => ?_) n h
  show wpAny _ A ((compTurn (.ListComp elt [⟨target, iter, ifs, 0⟩] scope pos) 0 it acc env).onRaise (fun x => do noteFrame x env; theTreesLotGoes x)) _ _ s
  refine wpAny_noted ?_
  rw [compTurn_list]
  refine wpAny_bind (wpAny_standAt (wpAny_bind (wpAny_mono (turn n s hI) (fun r s₁ h₁ => ?_) fun _ _ h' => h')))
  cases r with
  | none => exact wpAny_pure h₁
  | some v =>
    refine wpAny_bind (wpAny_mono h₁ (fun _ s₁' h₁' => ?_) fun _ _ h' => h')
    refine wpAny_bind (wpAny_mono h₁' (fun _ s₂ h₂ => wpAny_bind (wpAny_mono h₂ (fun ok s₃ h₃ => ?_) fun _ _ h' => h')) fun _ _ h' => h')
    cases ok with
    | false => exact wpAny_pure ⟨rfl, h₃⟩
    | true =>
      exact wpAny_bind (wpAny_bind (wpAny_mono h₃ (fun x s₄ h₄ => wpAny_bind (wpAny_mono h₄ (fun _ s₅ h₅ => wpAny_pure (wpAny_pure ⟨rfl, h₅⟩)) fun _ _ h' => h')) fun _ _ h' => h'))
section
variable {X : Cx}
noncomputable def tLc (wi : TI) (g : TG) (tt : TT) (te : TE) (vs : List Nat) : TE := fun σ H Q => wi σ H fun J H1 => ∀ D, H1 D = none → ∃ W : Nat → Nat → Hp → Prop, (∃ m, W 0 m (upd H1 D (.lst []))) ∧ ∀ i m H, W i m H →
  (J.stop i H ∧ Q (.ref D) H) ∨ (J.go i H ∧ ∃ Nx : Hp → Prop, (∀ H', Nx H' → ∃ m', m' < m ∧ W (i + 1) m' H') ∧ ∀ x H', J.yld i H x H' → g x (wipe σ vs) H' fun σ2 H2 => wipe σ2 vs = wipe σ vs ∧ tt σ2 H2 fun b H3 =>
    if b = true then te σ2 H3 fun y H4 => ∃ acc, H4 D = some (.lst acc) ∧ acc.length < sizeLine ∧ Nx (upd H4 D (.lst (acc ++ [y]))) else Nx H3)
theorem lc_core {pins : List (Addr × Obj)} {s : Shared} {σ : St} {H : Hp} {Q : VK} {elt tg iter : Expr} {ifs : List Expr} {scope : Scope} {own : List (Str × Nat)} {pos pos' : Pos} {wi : TI} {g : TG} {tt : TT} {te : TE} {use : Option (Value → Sem Unit)} {Qf : Value → Shared → Prop}
    (hc : X.calm = true) (hN : X.N.Nodup) (I : Inv X pins σ H s) (hi : PI X tg iter wi) (ok : BlkOk X.N X.env.scope scope own)
    (hg : ∀ (s : Shared) (H : Hp) (C : Addr) (cl : List (Str × Addr)) (fp : List Addr), PG (X.blk s H scope (compEnvC scope cl C X.env) fp) tg g) (ht : ∀ (s : Shared) (H : Hp) (C : Addr) (cl : List (Str × Addr)) (fp : List Addr), PTs (X.blk s H scope (compEnvC scope cl C X.env) fp) ifs tt)
    (he : ∀ (s : Shared) (H : Hp) (C : Addr) (cl : List (Str × Addr)) (fp : List Addr), PE (X.blk s H scope (compEnvC scope cl C X.env) fp) elt te) (hs : ∀ x, foldedSetIterable iter X.env x = pure x)
    (h : tLc wi g tt te (own.map (·.2)) σ H Q)
    (hRR : ∀ D C s' m H', Inv X pins σ H' s' → Q (.ref D) H' → s'.heap.Ns C m → FpOk X pins H' C → compPost (model X.prog X.w) X.A X.xe use Qf (.ref D) C (.ok .next) s') :
    wpAny (model X.prog X.w) X.A (comprehension (.ListComp elt [⟨tg, iter, ifs, 0⟩] scope pos) scope X.env pos' (newList []) false (eval iter X.env) use) Qf X.xe s := by
  have hfree : ∀ y ∈ scope.names, y.2 = .free → ∃ c, X.env.cells.lookup y.1 = some c := fun y hy e => by
    rcases ok.free y hy e with k | k
    · exact I.ok.has _ (.inl k)
    · exact I.ok.has _ (.inr k)
  refine wpAny_comprehension_free (use := use) rfl hs (closure_ok hfree) ok.kind (fun y hy e => by rw [ok.uniq y hy, e])
    (thn (hi pins s σ H _ I h) fun xv s1 hx => thn hx fun itv s2 h2 => ?_)
  obtain ⟨it, fp, tn, J, H2, e, I2, T, st2, f2, q⟩ := h2
  subst e
  refine wpAny_newObj_type (newEnv_comp ?_) (by show 0 ≤ sizeLine; decide)
  generalize hD : s2.heap.objs.size = D
  have hDn : H2 D = none := I2.hok.fresh (Nat.le_of_eq hD)
  obtain ⟨W, ⟨m0, w0⟩, turn⟩ := q D hDn
  generalize hs3 : ({ s2 with heap := s2.heap.push { cls := .type "list", data := .seq ([] : List Value).toArray } } : Shared) = s3
  have I3 : Inv X pins σ (upd H2 D (.lst [])) s3 := by
    rw [← hs3]
    refine I2.laid (t' := s2.toks) (fun b o e => Heap.get?_push_of_some _ e) (Nat.le_of_eq hD) ⟨Nat.zero_le _, [], 0, .nil, ?_⟩
    rw [← hD]
    exact Heap.get?_push_size _ rfl
  have h3 : s3.heap = s2.heap.push { cls := .type "list", data := .seq ([] : List Value).toArray } := by rw [← hs3]
  have sz : ∀ b ∈ fp, b < s2.heap.objs.size := fun b hb => by
    obtain ⟨o, e, _⟩ := T.obj _ _ st2 b hb
    exact Heap.lt_size e
  have f3 : ∀ b ∈ fp, FpOk X pins (upd H2 D (.lst [])) b ∧ b < s3.heap.objs.size := fun b hb => by
    have hlt := sz b hb
    refine ⟨⟨?_, (f2 b hb).2⟩, by rw [h3, Heap.size_push]; exact Nat.lt_succ_of_lt hlt⟩
    rw [upd_ne (by rw [← hD]; exact Nat.ne_of_lt hlt)]
    exact (f2 b hb).1
  have st3 : tn 0 s3.heap := T.keep _ _ _ st2 fun b _ o e => by rw [h3]; exact Heap.get?_push_of_some _ e
  have I4 := block_start I3 ok hN f3
  have pg := hg s3 (upd H2 D (.lst [])) s3.heap.objs.size (cellsFrom (s3.heap.objs.size + 1) scope.names (cloFrom X.env.cells scope.names [])) fp
  have pt := ht s3 (upd H2 D (.lst [])) s3.heap.objs.size (cellsFrom (s3.heap.objs.size + 1) scope.names (cloFrom X.env.cells scope.names [])) fp
  have pe := he s3 (upd H2 D (.lst [])) s3.heap.objs.size (cellsFrom (s3.heap.objs.size + 1) scope.names (cloFrom X.env.cells scope.names [])) fp
  show codeAny _ _ (.compStart (.ListComp elt [⟨tg, iter, ifs, 0⟩] scope pos) 0 (.ref it) (.ref D) (compEnvC scope (cellsFrom (s3.heap.objs.size + 1) scope.names (cloFrom X.env.cells scope.names [])) s3.heap.objs.size X.env)) (compPost (model X.prog X.w) X.A X.xe use Qf (.ref D) s3.heap.objs.size) { s3 with heap := pushCells (s3.heap.push { cls := .type "dict", data := .dict #[] }) scope.names }
  have nfp : ∀ b ∈ fp, (upd H2 D (.lst [])) b = none := fun b hb => (f3 b hb).1.1
  generalize hce : compEnvC scope (cellsFrom (s3.heap.objs.size + 1) scope.names (cloFrom X.env.cells scope.names [])) s3.heap.objs.size X.env = ce at I4 pg pt pe ⊢
  have cL : ce.locals = s3.heap.objs.size := by subst hce; rfl
  generalize hH3 : upd H2 D (.lst []) = H3 at I3 I4 pg pt pe w0 nfp f3
  generalize hs4 : ({ s3 with heap := pushCells (s3.heap.push { cls := .type "dict", data := .dict #[] }) scope.names } : Shared) = s4 at I4 ⊢
  have st4 : tn 0 s4.heap := T.keep _ _ _ st3 fun b _ o e => by rw [← hs4]; exact pushCells_keeps _ _ _ _ (Heap.get?_push_of_some _ e)
  have stat : ∀ {σ' : St} {H' : Hp} {s' : Shared}, Inv (X.blk s3 H3 scope ce fp) [] σ' H' s' → (∀ b ∈ fp, H' b = none) → ∀ b ∈ fp, FpOk (X.blk s3 H3 scope ce fp) [] H' b := fun {σ' H' s'} I' hn b hb =>
    ⟨hn b hb, (I'.ok.exf b hb).1, I'.ok.exfs b hb, .inl hb, fun x c e => (I'.ok.exf b hb).2 x c e, fun p hp => absurd (show p ∈ ([] : List (Addr × Obj)) ++ [] from hp) (by simp)⟩
  have loop : codeAny (model X.prog X.w) X.A (.compLoop (.ListComp elt [⟨tg, iter, ifs, 0⟩] scope pos) 0 (.ref it) (.ref D) ce) (compPost (model X.prog X.w) X.A X.xe use Qf (.ref D) s3.heap.objs.size) s4 := by
    refine compLoop_any (fun n s' => ∃ i H', Inv (X.blk s3 H3 scope ce fp) [] (wipe σ (own.map (·.2))) H' s' ∧ tn i s'.heap ∧ (∀ b ∈ fp, H' b = none) ∧ W i n H') ?_ m0 ⟨0, H3, I4, st4, nfp, w0⟩
    rintro n s5 ⟨i, H5, I5, st5, n5, w5⟩
    rcases turn i n H5 w5 with ⟨stop, qq⟩ | ⟨go, Nx, hNx, step⟩
    · have td := T.done (X.blk s3 H3 scope ce fp) rfl rfl rfl hc i [] s5 _ H5 (fun _ _ => False) I5 (stat I5 n5) st5 stop
      refine thnF td fun r s6 zz => ?_
      have hr := zz.1; have I6 := zz.2
      subst hr
      have I7 : Inv X pins σ H5 s6 := I3.call' (ch := fp) I6.os I6.base I6.hok I6.bare fun b hb => ⟨(f3 b hb).1.2.2.2.1, (f3 b hb).1.2.1, (f3 b hb).1.2.2.2.2.1, (f3 b hb).1.2.2.2.2.2⟩
      have nC : H5 s3.heap.objs.size = none := by
        have z : H5 ce.locals = none := I6.free
        rw [cL] at z
        exact z
      obtain ⟨m, hn, _⟩ := I6.loc
      have hn : s6.heap.Ns ce.locals m := hn
      rw [cL] at hn
      exact hRR D s3.heap.objs.size s6 m H5 I7 qq hn (I3.fpOk (Nat.le_refl _) nC)
    · have ti := T.item (X.blk s3 H3 scope ce fp) rfl rfl rfl hc i [] s5 _ H5 (fun _ _ => False) I5 (stat I5 n5) st5 go
      refine thnF ti fun r s6 zz => ex3 zz fun u hr h6 => ?_
      subst hr
      refine thnF h6 fun _ s7 zz => ex5 zz fun x H7 I7 r7 yy => ?_
      obtain ⟨y7, st7, n7⟩ := yy
      have I7' := I7.pinned (stat I7 n7) (T.obj _ _ st7)
      refine thnF (pg _ s7 _ H7 x u _ I7' r7 (step x H7 y7)) fun _ s8 zz => ex5 zz fun σ8 H8 I8 hw8 q8 => ?_
      refine thnF (pt _ s8 σ8 H8 _ I8 q8) fun b s9 zz => ex3 zz fun H9 I9 q9 => ?_
      have fin : ∀ {s' : Shared} {H' : Hp}, Inv (X.blk s3 H3 scope ce fp) ([] ++ pinsAt fp s7.heap) σ8 H' s' → Nx H' → ∃ m, m < n ∧ ∃ i H', Inv (X.blk s3 H3 scope ce fp) [] (wipe σ (own.map (·.2))) H' s' ∧ tn i s'.heap ∧ (∀ b ∈ fp, H' b = none) ∧ W i m H' := fun {s' H'} I' nx => by
        obtain ⟨m', hm, w'⟩ := hNx H' nx
        have pin' : ∀ b ∈ fp, ∀ o, s7.heap.get? b = some o → s'.heap.get? b = some o ∧ H' b = none := fun b hb o e =>
          let z := I'.pin (b, o) (List.mem_append_right _ (List.mem_append_right _ (mem_pinsAt hb e)))
          ⟨z.1, z.2.1⟩
        have hl : (wipe σ (own.map (·.2))).length = σ8.length := by rw [← hw8, wipe_length]
        refine ⟨m', hm, i + 1, H', (I'.unpinned (pins := [])).weak hl (fun j v e => ?_), T.keep _ _ _ st7 fun b hb o e => (pin' b hb o e).1, fun b hb => ?_, w'⟩
        · rw [← hw8] at e
          exact (wipe_some e).1
        · obtain ⟨o, e, _⟩ := T.obj _ _ st7 b hb
          exact (pin' b hb o e).2
      cases b with
      | false =>
        simp only [Bool.false_eq_true, if_false] at q9 ⊢
        exact fin I9 q9
      | true =>
        simp only [if_true] at q9 ⊢
        refine thnF (pe _ s9 σ8 H9 _ I9 q9) fun z s10 zz => ex5 zz fun yv H10 I10 r10 yy => ?_
        obtain ⟨acc, hD10, hz10, nx⟩ := yy
        exact app_ok (X := X.blk s3 H3 scope ce fp) I10 hD10 hz10 r10 fun s11 I11 => fin I11 nx
  exact codeAny_compStart_list loop (T.self X.A 0 _ _ _ st4 loop)
theorem pe_lc {elt tg iter : Expr} {ifs : List Expr} {scope : Scope} {own : List (Str × Nat)} {pos : Pos} {wi : TI} {g : TG} {tt : TT} {te : TE} (hc : X.calm = true) (hN : X.N.Nodup) (hi : PI X tg iter wi) (ok : BlkOk X.N X.env.scope scope own)
    (hg : ∀ (s : Shared) (H : Hp) (C : Addr) (cl : List (Str × Addr)) (fp : List Addr), PG (X.blk s H scope (compEnvC scope cl C X.env) fp) tg g) (ht : ∀ (s : Shared) (H : Hp) (C : Addr) (cl : List (Str × Addr)) (fp : List Addr), PTs (X.blk s H scope (compEnvC scope cl C X.env) fp) ifs tt)
    (he : ∀ (s : Shared) (H : Hp) (C : Addr) (cl : List (Str × Addr)) (fp : List Addr), PE (X.blk s H scope (compEnvC scope cl C X.env) fp) elt te) (hs : ∀ x, foldedSetIterable iter X.env x = pure x := by intro _; rfl) :
    PE X (.ListComp elt [⟨tg, iter, ifs, 0⟩] scope pos) (tLc wi g tt te (own.map (·.2))) := by
  intro pins s σ H Q I h
  rw [eval_ListComp]
  refine lc_core hc hN I hi ok hg ht he hs h fun D C s' m H' I' q hn f => ⟨m, hn, fun h'' sb => ?_⟩
  obtain ⟨f0, f1, f2, f3, f4, f5⟩ := f
  exact ⟨.ref D, H', I'.turned (t' := s'.toks) (fun b o hb e => (sb.2 b hb).trans e) f0 f1 f3 f4 f5, rfl, q⟩
theorem ps_setLc {i : Nat} {y : Str} {py : Pos} {elt tg iter : Expr} {ifs : List Expr} {scope : Scope} {own : List (Str × Nat)} {pos spos : Pos} {wi : TI} {g : TG} {tt : TT} {te : TE} (hc : X.calm = true) (hN : X.N.Nodup) (hy : X.N[i]? = some y) (hyl : X.env.scope.names.lookup y = some .local)
    (hsw : swapsWith (.ListComp elt [⟨tg, iter, ifs, 0⟩] scope pos) (some (.Name y py)) spos.line X.env = pure true) (hi : PI X tg iter wi) (ok : BlkOk X.N X.env.scope scope own)
    (hg : ∀ (s : Shared) (H : Hp) (C : Addr) (cl : List (Str × Addr)) (fp : List Addr), PG (X.blk s H scope (compEnvC scope cl C X.env) fp) tg g) (ht : ∀ (s : Shared) (H : Hp) (C : Addr) (cl : List (Str × Addr)) (fp : List Addr), PTs (X.blk s H scope (compEnvC scope cl C X.env) fp) ifs tt)
    (he : ∀ (s : Shared) (H : Hp) (C : Addr) (cl : List (Str × Addr)) (fp : List Addr), PE (X.blk s H scope (compEnvC scope cl C X.env) fp) elt te) (hs : ∀ x, foldedSetIterable iter X.env x = pure x := by intro _; rfl) :
    PS X (.Assign [.Name y py] (.ListComp elt [⟨tg, iter, ifs, 0⟩] scope pos) spos) (tAsg (tLc wi g tt te (own.map (·.2))) (gName i)) := by
  intro pins s σ H D I h
  rw [exec_Assign_Name_used _ _ _ _ hsw]
  refine wpAny_bind (wpAny_standAt (wpAny_bind ?_))
  show wpAny _ X.A (do let _ ← comprehension (.ListComp elt [⟨tg, iter, ifs, 0⟩] scope pos) scope X.env (firstIterPos [⟨tg, iter, ifs, 0⟩] pos) (newList []) false (eval iter X.env) (some (assign (.Name y py) X.env))) _ _ s
  have h : tLc wi g tt te (own.map (·.2)) σ H (fun x H1 => gName i x σ H1 D.nx) := h
  refine wpAny_bind (thn (lc_core (Qf := fun _ s' => SP X pins D .next s') hc hN I hi ok hg ht he hs h fun L C s' m H' I' q hn f => ?_) fun _ s' hq => wpAny_pure (wpAny_pure hq))
  show wpAny _ _ (assign (.Name y py) X.env (.ref L)) _ _ _
  refine wpAny_assign_Name (store_ok2 (v := V.ref L) I' hN hy (.inl hyl) rfl (fun s2 I2 zz => ex3 zz fun a sb ha => ?_) (.inr hyl))
  obtain ⟨f0, f1, f2, f3, f4, f5⟩ := f
  have haC : C ≠ a := by
    rcases ha with z | z
    · rw [z]; exact f1
    · exact fun e => f4 y a z e.symm
  refine ⟨m, hn.sameBut sb haC, fun h3 sb3 => ?_⟩
  exact ⟨_, H', I2.turned (t' := s2.toks) (fun b o hb e => (sb3.2 b hb).trans e) f0 f1 f3 f4 f5, q⟩
theorem sw_true {elt : Expr} {gs : List Comprehension} {scope : Scope} {pos py : Pos} {y : Str} {l : Nat} {env : Env} (hk : env.scope.kind = .function) (hy : env.scope.names.lookup y = some .local) (hl : (py.line == pos.line) = true)
    (ha : (scope.names.any fun (n, k) => n == y && (k == .local || k == .cell)) = false) : swapsWith (.ListComp elt gs scope pos) (some (.Name y py)) l env = pure true := by
  have ky : env.kindOf y = some .local := hy
  have hb : env.blockKind = .function := by unfold Env.blockKind; rw [hk]; rfl
  unfold swapsWith
  simp only [hb, ky, ha, show (Expr.Name y py).pos = py from rfl, show (Expr.ListComp elt gs scope pos).pos = pos from rfl, hl]
  rfl
end
theorem lc_range {lo : Int} {n : Nat} {g : TG} {tt : TT} {te : TE} {vs : List Nat} {σ : St} {H1 : Hp} {D : Addr} {Qd : Hp → Prop} (Pv : Nat → Hp → Prop) (h0 : Pv 0 (upd H1 D (.lst [])))
    (hs : ∀ i H, i < n → Pv i H → g (.int (lo + i)) (wipe σ vs) H fun σ2 H2 => wipe σ2 vs = wipe σ vs ∧ tt σ2 H2 fun b H3 =>
      if b = true then te σ2 H3 fun y H4 => ∃ acc, H4 D = some (.lst acc) ∧ acc.length < sizeLine ∧ Pv (i + 1) (upd H4 D (.lst (acc ++ [y]))) else Pv (i + 1) H3) (hd : ∀ H, Pv n H → Qd H) :
    ∃ W : Nat → Nat → Hp → Prop, (∃ m, W 0 m (upd H1 D (.lst []))) ∧ ∀ i m H, W i m H →
      ((Itr lo n).stop i H ∧ Qd H) ∨ ((Itr lo n).go i H ∧ ∃ Nx : Hp → Prop, (∀ H', Nx H' → ∃ m', m' < m ∧ W (i + 1) m' H') ∧ ∀ x H', (Itr lo n).yld i H x H' → g x (wipe σ vs) H' fun σ2 H2 => wipe σ2 vs = wipe σ vs ∧ tt σ2 H2 fun b H3 =>
        if b = true then te σ2 H3 fun y H4 => ∃ acc, H4 D = some (.lst acc) ∧ acc.length < sizeLine ∧ Nx (upd H4 D (.lst (acc ++ [y]))) else Nx H3) := by
  refine ⟨fun i m H => m = n - i ∧ i ≤ n ∧ Pv i H, ⟨n, by simp, Nat.zero_le _, h0⟩, ?_⟩
  rintro i m H ⟨rfl, hi, p⟩
  by_cases hlt : i < n
  · refine .inr ⟨hlt, Pv (i + 1), fun H' p' => ⟨n - (i + 1), by omega, rfl, hlt, p'⟩, fun x H' y => ?_⟩
    obtain ⟨e, y⟩ := y
    subst e y
    exact hs i _ hlt p
  · have e : i = n := by omega
    subst e
    exact .inl ⟨Nat.le_refl _, hd H p⟩
theorem lc_list {K : PySem.W.Frag} {a : Addr} {xs : List V} {g : TG} {tt : TT} {te : TE} {vs : List Nat} {σ : St} {H1 : Hp} {D : Addr} {Qd : Hp → Prop} (Pv : Nat → Hp → Prop) (h0 : Pv 0 (upd H1 D (.lst []))) (hl : ∀ i H, i ≤ xs.length → Pv i H → SqL K H a xs)
    (hs : ∀ i x H, xs[i]? = some x → Pv i H → g x (wipe σ vs) H fun σ2 H2 => wipe σ2 vs = wipe σ vs ∧ tt σ2 H2 fun b H3 =>
      if b = true then te σ2 H3 fun y H4 => ∃ acc, H4 D = some (.lst acc) ∧ acc.length < sizeLine ∧ Pv (i + 1) (upd H4 D (.lst (acc ++ [y]))) else Pv (i + 1) H3) (hd : ∀ H, Pv xs.length H → Qd H) :
    ∃ W : Nat → Nat → Hp → Prop, (∃ m, W 0 m (upd H1 D (.lst []))) ∧ ∀ i m H, W i m H →
      ((Itl K a).stop i H ∧ Qd H) ∨ ((Itl K a).go i H ∧ ∃ Nx : Hp → Prop, (∀ H', Nx H' → ∃ m', m' < m ∧ W (i + 1) m' H') ∧ ∀ x H', (Itl K a).yld i H x H' → g x (wipe σ vs) H' fun σ2 H2 => wipe σ2 vs = wipe σ vs ∧ tt σ2 H2 fun b H3 =>
        if b = true then te σ2 H3 fun y H4 => ∃ acc, H4 D = some (.lst acc) ∧ acc.length < sizeLine ∧ Nx (upd H4 D (.lst (acc ++ [y]))) else Nx H3) := by
  refine ⟨fun i m H => m = xs.length - i ∧ i ≤ xs.length ∧ Pv i H, ⟨xs.length, by simp, Nat.zero_le _, h0⟩, ?_⟩
  rintro i m H ⟨rfl, hi, p⟩
  have q := hl i H hi p
  by_cases hlt : i < xs.length
  · refine .inr ⟨⟨xs, xs[i], q, by simp [hlt]⟩, Pv (i + 1), fun H' p' => ⟨xs.length - (i + 1), by omega, rfl, hlt, p'⟩, fun x H' y => ?_⟩
    obtain ⟨e, y⟩ := y
    subst e
    exact hs i x _ (y xs q) p
  · have e : i = xs.length := by omega
    subst e
    exact .inl ⟨⟨xs, q, Nat.le_refl _⟩, hd H p⟩
noncomputable def blkC (N : List Str) (sc scope : Scope) (own : List (Str × Nat)) : Bool :=
  (match scope.kind with | .function => true | _ => false) && (scope.names.all fun y => decide (scope.names.lookup y.1 = some y.2)) && (own.all fun p => decide (N[p.2]? = some p.1)) &&
    (scope.names.all fun y => match y.2 with
      | .free => (match sc.names.lookup y.1 with | some .cell => true | some .free => true | _ => false)
      | .local => decide (y.1 ∈ own.map (·.1)) || decide (y.1 ∉ N)
      | .cell => decide (y.1 ∈ own.map (·.1)) || decide (y.1 ∉ N)
      | _ => true)
theorem blkOk_by {N : List Str} {sc scope : Scope} {own : List (Str × Nat)} (h : blkC N sc scope own = true) : BlkOk N sc scope own := by
  unfold blkC at h
  simp only [Bool.and_eq_true, List.all_eq_true, decide_eq_true_eq] at h
  obtain ⟨⟨⟨h1, h2⟩, h3⟩, h4⟩ := h
  refine ⟨?_, h2, h3, fun y hy e => ?_, fun y hy e => ?_⟩
  · split at h1
    · assumption
    · cases h1
  · have q := h4 y hy
    simp only [e] at q
    split at q <;> first | exact .inl (by assumption) | exact .inr (by assumption) | cases q
  · have q := h4 y hy
    rcases e with e | e <;> (simp only [e, Bool.or_eq_true, decide_eq_true_eq] at q; exact q)
end L2
namespace L2
open PySem PySem.Spec PyProof.Rows
section
variable {prog : Program} {w : World} {A : Around} {R : Result → Shared → Prop} {s : Shared} {elt t0 i0 t1 i1 : Expr} {ifs0 ifs1 : List Expr} {scope : Scope} {pos : Pos} {it acc : Value} {env : Env}
end
section
variable {X : Cx}
end
end L2
namespace L2
open PySem PySem.Spec PyProof.Rows
section
variable {κ : Type} [DecidableEq κ]
noncomputable def valV (kvs : List (κ × V)) (k : κ) : Option V := (kvs.find? fun kv => decide (kv.1 = k)).map (·.2)
noncomputable def putK (kvs : List (κ × V)) (k : κ) (v : V) : List (κ × V) :=
  if (kvs.any fun kv => decide (kv.1 = k)) = true then kvs.map (fun kv => if kv.1 = k then (kv.1, v) else kv) else kvs ++ [(k, v)]
theorem valV_pos {p : κ × V} {r : List (κ × V)} {k : κ} (e : p.1 = k) : valV (p :: r) k = some p.2 := by simp [valV, List.find?_cons, e]
theorem valV_neg {p : κ × V} {r : List (κ × V)} {k : κ} (e : ¬ p.1 = k) : valV (p :: r) k = valV r k := by simp [valV, List.find?_cons, e]
theorem valV_any (k : κ) : ∀ kvs : List (κ × V), (kvs.any fun kv => decide (kv.1 = k)) = (valV kvs k).isSome
  | [] => rfl
  | p :: r => by
    rw [List.any_cons]
    by_cases e : p.1 = k
    · simp only [valV_pos e, decide_eq_true e, Bool.true_or, Option.isSome_some]
    · rw [valV_neg e, decide_eq_false e, Bool.false_or]; exact valV_any k r
theorem length_putK (kvs : List (κ × V)) (k : κ) (v : V) : (putK kvs k v).length ≤ kvs.length + 1 := by
  unfold putK
  split
  · rw [List.length_map]; omega
  · rw [List.length_append, List.length_cons, List.length_nil]; omega
theorem RelO.isSome_eq {o : Option V} {u : Option Value} (r : RelO o u) : o.isSome = u.isSome := by
  cases o with
  | none => cases u with
    | none => rfl
    | some _ => exact (show False from r).elim
  | some _ => cases u with
    | none => exact (show False from r).elim
    | some _ => rfl
theorem KV.val {kvs : List (κ × V)} {vs : List (κ × Value)} (r : KV kvs vs) (k : κ) : RelO (valV kvs k) (valueAt vs k) := by
  unfold KV at r
  induction r with
  | nil => exact True.intro
  | @cons p q ps qs h t ih =>
    obtain ⟨h1, h2⟩ := h
    by_cases e : p.1 = k
    · have e' : q.1 = k := h1.symm.trans e
      have b : valueAt (q :: qs) k = some q.2 := by simp [valueAt, List.find?_cons, e']
      rw [valV_pos e, b]; exact h2
    · have e' : ¬ q.1 = k := fun z => e (h1.trans z)
      have b : valueAt (q :: qs) k = valueAt qs k := by simp [valueAt, List.find?_cons, e']
      rw [valV_neg e, b]; exact ih
theorem KV.any {kvs : List (κ × V)} {vs : List (κ × Value)} (r : KV kvs vs) (k : κ) : (kvs.any fun kv => decide (kv.1 = k)) = vs.any fun kv => decide (kv.1 = k) := by
  unfold KV at r
  induction r with
  | nil => rfl
  | cons h t ih => rw [List.any_cons, List.any_cons, ih, h.1]
theorem KV.repl {kvs : List (κ × V)} {vs : List (κ × Value)} (r : KV kvs vs) (k : κ) {y : V} {u : Value} (ry : RelV y u) :
    KV (kvs.map fun kv => if kv.1 = k then (kv.1, y) else kv) (vs.map fun kv => if kv.1 = k then (kv.1, u) else kv) := by
  unfold KV at r ⊢
  induction r with
  | nil => exact .nil
  | @cons p q ps qs h t ih =>
    rw [List.map_cons, List.map_cons]
    refine .cons ?_ ih
    obtain ⟨h1, h2⟩ := h
    by_cases e : p.1 = k
    · rw [if_pos e, if_pos (h1.symm.trans e)]; exact ⟨h1, ry⟩
    · rw [if_neg e, if_neg (fun z => e (h1.trans z))]; exact ⟨h1, h2⟩
theorem KV.put {kvs : List (κ × V)} {vs : List (κ × Value)} (r : KV kvs vs) (k : κ) {y : V} {u : Value} (ry : RelV y u) : KV (putK kvs k y) (stored vs k u) := by
  unfold putK stored
  rw [r.any k]
  by_cases e : (vs.any fun kv => decide (kv.1 = k)) = true
  · rw [if_pos e, if_pos e]; exact r.repl k ry
  · rw [if_neg e, if_neg e]; exact Paired.snoc r ⟨rfl, ry⟩
theorem KV.length {kvs : List (κ × V)} {vs : List (κ × Value)} (r : KV kvs vs) : kvs.length = vs.length := Paired.length r
end
theorem kV_is {P : Program} {w : World} {k : Key} {u : Value} (r : RelV (kV k) u) : (mixKind P w).is k u = true := by
  cases k with
  | inl i => obtain ⟨t, e⟩ := (show ∃ t, u = Value.int i t from r); subst e; exact mixKind_int P w i t
  | inr x => obtain ⟨t, e⟩ := (show ∃ t, u = Value.str x t from r); subst e; exact mixKind_str P w x t
theorem items_are {P : Program} {w : World} : ∀ {ks : List Key} {us : List Value}, Vals (ks.map kV) us → ItemsAre (mixKind P w) ks us
  | [], _, r => by rw [List.map_nil] at r; cases r; exact .nil
  | k :: ks, _, r => by
    rw [List.map_cons] at r
    cases r with
    | cons h t => exact .cons (kV_is h) (items_are t)
noncomputable abbrev KT (H : Hp) : List (List Key × V) → List (List Key × Addr × Value) → Prop := Paired fun p q => p.1 = q.1 ∧ H q.2.1 = some (.tup (p.1.map kV)) ∧ RelV p.2 q.2.2
theorem KT.val {H : Hp} {kvs : List (List Key × V)} {xs : List (List Key × Addr × Value)} (r : KT H kvs xs) (k : List Key) : RelO (valV kvs k) ((atKey xs k).map (·.2)) := by
  induction r with
  | nil => exact True.intro
  | @cons p q ps qs h t ih =>
    obtain ⟨h1, _, h2⟩ := h
    by_cases e : p.1 = k
    · have e' : q.1 = k := h1.symm.trans e
      have b : atKey (q :: qs) k = some q.2 := by simp [atKey, List.find?_cons, e']
      rw [valV_pos e, b]; exact h2
    · have e' : ¬ q.1 = k := fun z => e (h1.trans z)
      have b : atKey (q :: qs) k = atKey qs k := by simp [atKey, List.find?_cons, e']
      rw [valV_neg e, b]; exact ih
theorem KT.repl {H : Hp} {kvs : List (List Key × V)} {xs : List (List Key × Addr × Value)} (r : KT H kvs xs) (k : List Key) {y : V} {u : Value} (ry : RelV y u) :
    KT H (kvs.map fun kv => if kv.1 = k then (kv.1, y) else kv) (xs.map (putAt k u)) := by
  induction r with
  | nil => exact .nil
  | @cons p q ps qs h t ih =>
    rw [List.map_cons, List.map_cons]
    refine .cons ?_ ih
    obtain ⟨h1, h2, h3⟩ := h
    unfold putAt
    by_cases e : p.1 = k
    · rw [if_pos e, if_pos (h1.symm.trans e)]; exact ⟨h1, h2, ry⟩
    · rw [if_neg e, if_neg (fun z => e (h1.trans z))]; exact ⟨h1, h2, h3⟩
theorem KT.put {H : Hp} {kvs : List (List Key × V)} {xs : List (List Key × Addr × Value)} (r : KT H kvs xs) (k : List Key) {b : Addr} {y : V} {u : Value} (hb : H b = some (.tup (k.map kV))) (ry : RelV y u) :
    KT H (putK kvs k y) (storedH xs k b u) := by
  have e : (kvs.any fun kv => decide (kv.1 = k)) = (atKey xs k).isSome := by
    rw [valV_any, (r.val k).isSome_eq, Option.isSome_map]
  unfold putK storedH
  rw [e]
  by_cases q : (atKey xs k).isSome = true
  · rw [if_pos q, if_pos q]; exact r.repl k ry
  · rw [if_neg q, if_neg q]; exact Paired.snoc r ⟨rfl, hb, ry⟩
theorem KT.keeps {H H' : Hp} {kvs : List (List Key × V)} {xs : List (List Key × Addr × Value)} (r : KT H kvs xs) (ht : ∀ b ys, H b = some (.tup ys) → H' b = some (.tup ys)) : KT H' kvs xs :=
  Paired.mapP r fun _ _ z => ⟨z.1, ht _ _ z.2.1, z.2.2⟩
section
variable {P : Program} {w : World} {H : Hp} {h : Heap} {a : Addr}
theorem rd_of {u : HO} (ok : HOk P w H h) (e : Rd H a u) : ObjOk P w H h a u := e.ok ok
theorem dk_rd {kvs : List (Key × V)} (ok : HOk P w H h) (e : Rd H a (.dK kvs)) : kvs.length ≤ sizeLine ∧ (a == sysModules) = false ∧ ∃ vs, KV kvs vs ∧ h.DictOf (mixKind P w) a vs :=
  show ObjOk P w H h a (.dK kvs) from rd_of ok e
theorem dk_of {kvs : List (Key × V)} (ok : HOk P w H h) (e : H a = some (.dK kvs)) : kvs.length ≤ sizeLine ∧ (a == sysModules) = false ∧ ∃ vs, KV kvs vs ∧ h.DictOf (mixKind P w) a vs := dk_rd ok (.inl e)
theorem key_of {ks : List Key} (ok : HOk P w H h) (e : H a = some (.tup (ks.map kV))) : (tupleKind (mixKind P w)).is h ks a := by
  obtain ⟨_, its, r, o, h1, h2, n, h3⟩ := (show ObjOk P w H h a (.tup (ks.map kV)) from ok a _ e)
  exact ⟨o, its.toArray, n, h1, h2, h3, by simpa using items_are r⟩
theorem dt_rd {kvs : List (List Key × V)} (ok : HOk P w H h) (e : Rd H a (.dT kvs)) : kvs.length ≤ sizeLine ∧ (a == sysModules) = false ∧
    ∃ xs, KT H kvs xs ∧ h.DictOfH (tupleKind (mixKind P w)) a xs := by
  obtain ⟨z, y, xs, r, o, es, ep, h1, h2, h3, h4, h5⟩ := (show ObjOk P w H h a (.dT kvs) from rd_of ok e)
  refine ⟨z, y, xs, r, o, es, ep, h1, h2, h3, h4, fun x hx => ?_, h5⟩
  have all : ∀ {l : List (List Key × V)} {m : List (List Key × Addr × Value)}, KT H l m → ∀ x ∈ m, (tupleKind (mixKind P w)).is h x.1 x.2.1 := by
    intro l m q
    induction q with
    | nil => intro x hx; exact nomatch hx
    | @cons p q ps qs hq t ih =>
      intro x hx
      rcases List.mem_cons.mp hx with e | hx
      · subst e
        exact key_of ok (by rw [← hq.1]; exact hq.2.1)
      · exact ih x hx
  exact all r x hx
theorem dt_of {kvs : List (List Key × V)} (ok : HOk P w H h) (e : H a = some (.dT kvs)) : kvs.length ≤ sizeLine ∧ (a == sysModules) = false ∧
    ∃ xs, KT H kvs xs ∧ h.DictOfH (tupleKind (mixKind P w)) a xs := dt_rd ok (.inl e)
end
def DGet (H : Hp) (a : Addr) (y : V) (r : Option V) : Prop :=
  (∃ kvs k, Rd H a (.dK kvs) ∧ y = kV k ∧ r = valV kvs k) ∨ ∃ kvs k b, Rd H a (.dT kvs) ∧ y = .ref b ∧ H b = some (.tup (k.map kV)) ∧ r = valV kvs k
def DPut (H : Hp) (a : Addr) (y v : V) (H' : Hp) : Prop :=
  (∃ kvs k, H a = some (.dK kvs) ∧ y = kV k ∧ kvs.length < sizeLine ∧ H' = upd H a (.dK (putK kvs k v))) ∨
  ∃ kvs k b, H a = some (.dT kvs) ∧ y = .ref b ∧ H b = some (.tup (k.map kV)) ∧ kvs.length < sizeLine ∧ H' = upd H a (.dT (putK kvs k v))
theorem DGet.t {H : Hp} {a b : Addr} {kvs : List (List Key × V)} {k : List Key} (e : H a = some (.dT kvs)) (eb : H b = some (.tup (k.map kV))) : DGet H a (.ref b) (valV kvs k) := .inr ⟨kvs, k, b, .inl e, rfl, eb, rfl⟩
theorem DPut.t {H : Hp} {a b : Addr} {kvs : List (List Key × V)} {k : List Key} {v : V} (e : H a = some (.dT kvs)) (eb : H b = some (.tup (k.map kV))) (hl : kvs.length < sizeLine) :
    DPut H a (.ref b) v (upd H a (.dT (putK kvs k v))) := .inr ⟨kvs, k, b, e, rfl, eb, hl, rfl⟩
section
variable {X : Cx} {pins : List (Addr × Obj)} {σ : St} {H : Hp} {s : Shared} {a : Addr} {y v : V} {u r : Value} {o : Option V} {A : Around} {E : Value → Shared → Prop}
theorem Inv.big (I : Inv X pins σ H s) : sysModules < s.heap.objs.size := by
  have h : mainGlobals < s.heap.objs.size := (I.mod.glob.keeps I.bk).lt
  exact Nat.lt_trans (by decide) h
theorem d_getItem {Q : Value → Shared → Prop} (hu : A.units + 1 < cLine) (I : Inv X pins σ H s) (g : DGet H a y (some v)) (ry : RelV y u) (h : ∀ w' s', Inv X pins σ H s' → RelV v w' → Q w' s') :
    wpAny (model X.prog X.w) A (getItem (.ref a) u) Q E s := by
  rcases g with ⟨kvs, k, e, ey, l⟩ | ⟨kvs, k, b, e, ey, eb, l⟩
  · subst ey
    obtain ⟨z, hd, vs, rel, dd⟩ := dk_rd I.hok e
    obtain ⟨w', hw, rw'⟩ := RelO.some_of (v := v) (o := valueAt vs k) (by rw [l]; exact rel.val k)
    exact wpAny_getItem_of (kV_is ry) dd.mapOf hw (h w' _ (I.tok _) rw')
  · subst ey
    cases (show u = Value.ref b from ry)
    obtain ⟨z, hd, xs, rel, dd⟩ := dt_rd I.hok e
    obtain ⟨w', hw, rw'⟩ := RelO.some_of (v := v) (o := (atKey xs k).map (·.2)) (by rw [l]; exact rel.val k)
    obtain ⟨p, hp, hp2⟩ := Option.map_eq_some_iff.mp hw
    refine wpAny_getItem_heap (tupleKind_room_in1 hu) (key_of I.hok eb) dd hp ?_
    rw [hp2]
    exact h w' _ (I.tok _) rw'
theorem d_write {h' : Heap} {t' : Nat} {ob : HO} (I : Inv X pins σ H s) (mu : Mut (H a)) (hs : Heap.SameBut a s.heap h') (he : ∃ q, h'.get? a = some q) (new : ObjOk X.prog X.w (upd H a ob) h' a ob) :
    Inv X pins σ (upd H a ob) { s with heap := h', toks := t' } :=
  I.write (x := a) (e := a) mu (.inl rfl) (fun b q hb z => (hs.2 b hb).trans z) he new
theorem dk_new {P : Program} {w : World} {H' : Hp} {h' : Heap} {kvs : List (Key × V)} {vs : List (Key × Value)} (z : kvs.length ≤ sizeLine) (hd : (a == sysModules) = false) (rel : KV kvs vs) (dd : h'.DictOf (mixKind P w) a vs) :
    ObjOk P w H' h' a (.dK kvs) := ⟨z, hd, vs, rel, dd⟩
theorem d_setItem {H' : Hp} {Q : Unit → Shared → Prop} (hu : A.units + 1 < cLine) (I : Inv X pins σ H s) (g : DPut H a y v H') (ry : RelV y u) (rv : RelV v r) (h : ∀ s', Inv X pins σ H' s' → Q () s') :
    wpAny (model X.prog X.w) A (setItem (.ref a) u r) Q E s := by
  rcases g with ⟨kvs, k, e, ey, l, eH⟩ | ⟨kvs, k, b, e, ey, eb, l, eH⟩
  · subst ey eH
    obtain ⟨z, hd, vs, rel, dd⟩ := dk_of I.hok e
    have hz : vs.length ≤ sizeLine := by rw [← rel.length]; exact z
    have hl : (putK kvs k v).length ≤ sizeLine := by have := length_putK kvs k v; omega
    refine wpAny_setItem_pairs (hsz := hz) (kV_is ry) dd fun h' dd' hs => h _ ?_
    have he : ∃ q, h'.get? a = some q := let ⟨q, _, _, hq, _⟩ := dd'; ⟨q, hq⟩
    exact d_write I (by rw [e]; exact True.intro) hs he (dk_new hl hd (rel.put k rv) dd')
  · subst ey eH
    cases (show u = Value.ref b from ry)
    obtain ⟨z, hd, xs, rel, dd⟩ := dt_of I.hok e
    have hz : xs.length ≤ sizeLine := by rw [← Paired.length rel]; exact z
    have hl : (putK kvs k v).length ≤ sizeLine := by have := length_putK kvs k v; omega
    refine wpAny_setItem_heap (hsz := hz) (tupleKind_room_in1 hu) (key_of I.hok eb) dd fun h' dd' hs => h _ ?_
    obtain ⟨q, es, ep, hq, h2, h3, h4, _, h5⟩ := dd'
    refine d_write I (by rw [e]; exact True.intro) hs ⟨q, hq⟩ ⟨hl, hd, _, (rel.put k eb rv).keeps fun c ys ec => ?_, q, es, ep, hq, h2, h3, h4, h5⟩
    rw [upd_ne (ne_of ec e (fun z => nomatch z))]
    exact ec
end
section
variable {X : Cx} {pins : List (Addr × Obj)} {σ : St} {H : Hp} {s : Shared} {a : Addr} {kvs : List (Key × V)} {k : Key} {u : Value} {A : Around} {E : Value → Shared → Prop}
end
def NoSl (i : Expr) : Prop := ∀ ov iv, subscripted i false ov iv = operate [ov, iv] (getItem ov iv)
theorem subD_of {prog : Program} {w : World} {A : Around} {E : Value → Shared → Prop} {s : Shared} {env : Env} {value slice : Expr} {pos : Pos} {T id : String} {Q : Value → Shared → Prop}
    (hl : typeLookup (.type T) "__getitem__" = pure (some (.builtin id))) (hs : NoSl slice)
    (h : wpAny (model prog w) A (eval value env) (fun o s₁ => wpAny (model prog w) A (eval slice env) (fun i s₂ => s₂.TypeIs o T ∧ wpAny (model prog w) A (getItem o i) Q E s₂) E s₁) E s) :
    wpAny (model prog w) A (eval (.Subscript value slice pos) env) Q E s := by
  refine Subscript_ (wpAny_mono h (fun o s₁ h₁ => wpAny_mono h₁ (fun i s₂ h₂ => ?_) fun _ _ x => x) fun _ _ x => x)
  obtain ⟨hT, h₂⟩ := h₂
  unfold subscriptTail
  refine wpAny_bind ?_
  rw [getitemInPython_of_ne hT.not_modules]
  refine wpAny_bind (wpAny_specialOf hT hl ?_)
  have fin : wpAny (model prog w) A (subscripted slice false o i) (fun r s₃ => wpAny (model prog w) A (letTemporaryGo value o r >>= fun _ => pure r) Q E s₃) E s₂ := by
    rw [hs o i]
    exact wpAny_operating (wpAny_mono h₂ (fun r s₃ h₃ => wpAny_bind (wpAny_letTemporaryGo (wpAny_pure h₃))) fun _ _ x => x)
  first
    | exact wpAny_pure (wpAny_bind fin)
    | exact wpAny_bind (wpAny_pure (wpAny_bind fin))
    | exact wpAny_bind fin
theorem dict_typeIs {X : Cx} {pins : List (Addr × Obj)} {σ : St} {H : Hp} {s : Shared} {a : Addr} {y : V} {o : Option V} (I : Inv X pins σ H s) (g : DGet H a y o) : s.TypeIs (.ref a) "dict" := by
  rcases g with ⟨kvs, k, e, _, _⟩ | ⟨kvs, k, b, e, _, _, _⟩
  · obtain ⟨_, _, vs, _, dd⟩ := dk_rd I.hok e
    exact dd.typeIs
  · obtain ⟨_, _, xs, _, dd⟩ := dt_rd I.hok e
    exact dd.typeIs
noncomputable def tDGet (td ty : TE) : TE := fun σ H Q => td σ H fun x H1 => ty σ H1 fun y H2 => ∃ a v, x = .ref a ∧ DGet H2 a y (some v) ∧ Q v H2
noncomputable def sDPut (td ty tv : TE) : TS := fun D σ H => tv σ H fun v H1 => td σ H1 fun x H2 => ty σ H2 fun y H3 => ∃ a H4, x = .ref a ∧ DPut H3 a y v H4 ∧ D.nx σ H4
section
variable {X : Cx} {o i e value : Expr} {pos pos' tpos : Pos} {td ty tv : TE}
theorem pe_dget (hu : X.A.units + 1 < cLine) (ho : PE X o td) (hi : PE X i ty) (hs : NoSl i) : PE X (.Subscript o i pos) (tDGet td ty) := by
  intro pins s σ H Q I h
  refine subD_of PySem.F.slot_dict_getitem.lookup hs (thn (ho pins s σ H _ I h) fun u s1 zz => ex5 zz fun x H1 I1 rx q1 => thn (hi pins s1 σ H1 _ I1 q1) fun iv s2 zz => ex5 zz fun y H2 I2 ry yy => ?_)
  obtain ⟨a, v, ex, g, q2⟩ := yy
  subst ex
  obtain rfl : u = Value.ref a := rx
  exact ⟨dict_typeIs I2 g, d_getItem hu I2 g ry fun w' s3 I3 rw' => ⟨v, H2, I3, rw', q2⟩⟩
theorem ps_dput (hu : X.A.units + 1 < cLine) (ho : PE X o td) (hi : PE X i ty) (hv : PE X value tv) (hs : swapsWith value (some (.Subscript o i pos')) pos.line X.env = pure false) :
    PS X (.Assign [.Subscript o i pos'] value pos) (sDPut td ty tv) := by
  intro pins s σ H D I h
  refine wpAny_Assign_Subscript (thn (hv pins s σ H _ I h) fun r s1 zz => ex5 zz fun v H1 I1 rv q1 => thn (ho pins s1 σ H1 _ I1 q1) fun u s2 zz => ex5 zz fun x H2 I2 rx q2 => thn (hi pins s2 σ H2 _ I2 q2) fun iv s3 zz => ex5 zz fun y H3 I3 ry yy => ?_) hs
  obtain ⟨a, H4, ex, g, q3⟩ := yy
  subst ex
  obtain rfl : u = Value.ref a := rx
  exact d_setItem hu I3 g ry rv fun s4 I4 => ⟨σ, H4, I4, q3⟩
end
theorem dt_empty {P : Program} {w : World} {H : Hp} (h : Heap) (hb : sysModules < h.objs.size) : ObjOk P w H (h.push { cls := .type "dict", data := .dict #[] }) h.objs.size (.dT []) :=
  ⟨Nat.zero_le _, beq_eq_false_iff_ne.mpr (Ne.symm (Nat.ne_of_lt hb)), [], .nil, _, #[], 0, Heap.get?_push_size _ rfl, ⟨rfl, rfl, rfl⟩, rfl, rfl, List.nodup_nil⟩
section
variable {X : Cx} {pos : Pos}
end
section
variable {X : Cx} {pins : List (Addr × Obj)} {σ : St} {H : Hp} {s : Shared} {a : Addr} {y d : V} {u r : Value} {o : Option V} {A : Around} {E : Value → Shared → Prop}
end
section
variable {X : Cx} {o e f : Expr} {apos cpos : Pos} {td ty tx : TE}
end
section
variable {X : Cx} {pins : List (Addr × Obj)} {σ : St} {H : Hp} {s : Shared} {a : Addr} {kvs : List (Key × V)} {A : Around} {E : Value → Shared → Prop}
end
section
variable {X : Cx} {pins : List (Addr × Obj)} {σ : St} {H : Hp} {s : Shared} {a : Addr} {y : V} {u : Value} {A : Around} {E : Value → Shared → Prop}
end
end L2
namespace L2
open PySem PySem.Spec PyProof.Rows
section
variable {prog : Program} {w : World} {A : Around} {E : Value → Shared → Prop}
end
section
variable {X : Cx}
end
end L2
namespace L2
open PySem PySem.Spec PyProof.Rows
theorem boot_reversed5 : bootBuiltins "reversed" = some (.type "reversed") := by decide +kernel
section
variable {X : Cx} {pins : List (Addr × Obj)} {σ : St} {H : Hp} {s : Shared} {h' : Heap}
theorem Inv.turnedL {t' : Nat} {ch : List Addr} (I : Inv X pins σ H s) (k : ∀ b o, b ∉ ch → s.heap.get? b = some o → h'.get? b = some o) (hf : ∀ b ∈ ch, FpOk X pins H b) : Inv X pins σ H { s with heap := h', toks := t' } := by
  have nit : ∀ b u, H b = some u → b ∉ ch := fun b u e z => by
    have q := (hf b z).1
    rw [q] at e; cases e
  refine I.step (g' := s.gens) (d' := s.drawn) (ch := ch) (fun b hb => ⟨(hf b hb).2.2.2.1, (hf b hb).2.1, (hf b hb).2.2.2.2.1, (hf b hb).2.2.2.2.2⟩) (fun b o _ _ hc e _ => k b o hc e) (fun b o _ _ hc e _ => ⟨o.slots, k b o hc e⟩)
    (fun _ _ _ _ n => n) (fun b o hc e => ⟨o, k b o hc e⟩) (fun _ _ e => e) (fun _ _ _ e => e) (fun b ps e => ⟨#[], by rw [e]; simp⟩) (fun m hm => ?_) (fun b u e => ?_) I.bare
  · obtain ⟨o, es, ep, ho, r⟩ := hm
    exact ⟨o, es, ep, k _ o (fun z => (hf _ z).2.1 rfl) ho, r⟩
  · refine (I.hok b u e).stay (fun c v hc q => k c v ?_ q) (fun _ q => q) fun _ _ q => q
    rcases hc with z | z
    · rw [z]; exact nit b u e
    · exact nit c _ z
theorem Inv.turnedNew {t' : Nat} {ch : List Addr} {T : Addr} {ob : HO} (I : Inv X pins σ H s) (k : ∀ b o, b ∉ ch → s.heap.get? b = some o → h'.get? b = some o) (hf : ∀ b ∈ ch, FpOk X pins H b) (hT : s.heap.objs.size ≤ T)
    (new : ObjOk X.prog X.w (upd H T ob) h' T ob) : Inv X pins σ (upd H T ob) { s with heap := h', toks := t' } := by
  have hn : H T = none := I.hok.fresh hT
  have nit : ∀ b u, H b = some u → b ∉ ch := fun b u e z => by
    have q := (hf b z).1
    rw [q] at e; cases e
  refine I.step (g' := s.gens) (d' := s.drawn) (ch := ch) (fun b hb => ⟨(hf b hb).2.2.2.1, (hf b hb).2.1, (hf b hb).2.2.2.2.1, (hf b hb).2.2.2.2.2⟩) (fun b o _ _ hc e _ => k b o hc e) (fun b o _ _ hc e _ => ⟨o.slots, k b o hc e⟩)
    (fun b o _ e n => ?_) (fun b o hc e => ⟨o, k b o hc e⟩) (fun b xs e => ?_) (fun b o u e => ?_) (fun b ps e => ⟨#[], ?_⟩) (fun m hm => ?_) (fun b u e => ?_) I.bare
  · rw [upd_ne (Nat.ne_of_lt (Nat.lt_of_lt_of_le (Heap.lt_size e) hT))]; exact n
  · rw [upd_ne (ne_of_none e hn)]; exact e
  · rw [upd_ne (ne_of_none e hn)]; exact e
  · rw [upd_ne (ne_of_none e hn), e]; simp
  · obtain ⟨o, es, ep, ho, r⟩ := hm
    exact ⟨o, es, ep, k _ o (fun z => (hf _ z).2.1 rfl) ho, r⟩
  · by_cases hb : b = T
    · subst hb
      rw [upd_same] at e
      cases e
      exact new
    · rw [upd_ne hb] at e
      refine (I.hok b u e).stay (fun c v hc q => k c v ?_ q) (fun c q => by rw [upd_ne (ne_of_none q hn)]; exact q) fun c xs q => by rw [upd_ne (ne_of_none q hn)]; exact q
      rcases hc with z | z
      · rw [z]; exact nit b u e
      · exact nit c _ z
end
section
variable {X : Cx}
end
section
variable {X : Cx} {tg : Expr}
end
section
variable {X : Cx} {tg : Expr}
end
section
variable {prog : Program} {w : World} {A : Around} {E : Value → Shared → Prop} {s : Shared}
theorem iter_keys {d : Addr} {o : Obj} {es : Array DictEntry} {ep : Nat} {Q : Value → Shared → Prop} (hd : (d == sysModules) = false) (ho : s.heap.get? d = some o) (hc : o.ExactDict) (hdat : o.data = .dict es ep)
    (hQ : Q (.ref s.heap.objs.size) { s with heap := s.heap.push { cls := .type "dict_keyiterator", data := .fields #[.ref d, .int 0 0, .int es.size 0, .int ep 0] } }) :
    wpAny (model prog w) A (pyIter (.ref d)) Q E s := by
  have hT : s.TypeIs (.ref d) "dict" := ⟨o, ho, hc.1⟩
  refine wpAny_pyIter_slot hT F.slot_dict_iter (wpAny_call_entry F.slot_dict_iter hT F.entry_dict_iter ?_ (F.args_dict_iter_1 _))
  unfold Builtin.«dict.__iter__»
  refine wpAny_bind ?_
  unfold Builtin.Dict.dictSlotNone
  refine wpAny_bind (wpAny_notOrdered_dict hT ?_)
  show wpAny _ _ (pure (Value.ref d)) _ _ s
  refine wpAny_pure ?_
  show wpAny _ _ (Builtin.Dict.showsAll d >>= _) _ _ s
  unfold Builtin.Dict.showsAll
  rw [if_neg (by rw [hd]; exact Bool.false_ne_true)]
  refine wpAny_bind (wpAny_pure ?_)
  refine wpAny_bind (wpAny_dictEntries ho hdat ?_)
  refine wpAny_bind (wpAny_dictEpoch ho hdat ?_)
  refine wpAny_bind (wpAny_newObj_type (wpAny_pure ⟨_, rfl, "dict_keyiterator", _, ⟨_, Heap.get?_push_size _ rfl, rfl⟩, F.slot_dict_keyiterator_next.lookup, ?_⟩))
  simpa [rawInt] using hQ
theorem next_key_item {it d : Addr} {i n ep : Nat} {od : Obj} {es : Array DictEntry} {en : DictEntry} {Q : Option Value → Shared → Prop} (hit : s.heap.IsKeyIter it d i n ep) (hod : s.heap.get? d = some od) (hdd : od.data = .dict es ep)
    (hsz : es.size = n) (hx : es[i]? = some en) (hQ : ∀ h', h'.IsKeyIter it d (i + 1) n ep → Heap.SameBut it s.heap h' → Q (some en.key) { s with heap := h' }) : wpAny (model prog w) A (pyNext (.ref it)) Q E s := by
  obtain ⟨o, ho, hc, hd⟩ := id hit
  unfold pyNext
  refine wpAny_bind (wpAny_attempt (wpAny_callSpecial?_slot (name := Str.ofString "__next__") hit.typeIs F.slot_dict_keyiterator_next
    (wpAny_call_entry F.slot_dict_keyiterator_next hit.typeIs F.entry_dict_keyiterator_next ?_ (F.args_dict_keyiterator_next_1 _))))
  refine wpAny_bind (wpAny_pure ?_)
  refine wpAny_bind ?_
  refine wpAny_bind ?_
  first | refine wpAny_bind (wpAny_typeNameOfWhole_keyiter hit.typeIs (wpAny_pure ?_)) | refine wpAny_bind (wpAny_typeNameOf_keyiter hit.typeIs (wpAny_pure ?_))
  refine wpAny_bind (wpAny_fieldsOf ho hd ?_)
  have hown : Builtin.Dict_items.ownsTuple "dict_keyiterator" = false := by decide
  simp only [hown, Bool.false_eq_true, if_false]
  show wpAny _ _ (if (Value.ref d == Value.none) = true then _ else _) _ _ s
  rw [if_neg (show ¬ ((Value.ref d == Value.none) = true) from Bool.false_ne_true)]
  refine wpAny_bind (wpAny_pure ?_)
  refine wpAny_bind (wpAny_dictEntries hod hdd ?_)
  rw [if_neg (by rw [hsz]; simp)]
  refine wpAny_bind (wpAny_pure ?_)
  refine wpAny_bind (wpAny_dictEpoch hod hdd ?_)
  rw [if_neg (by simp)]
  refine wpAny_pure ?_
  obtain ⟨hlt', hen⟩ := Array.getElem?_eq_some_iff.mp hx
  simp only [show ¬ ((i : Int) < 0) from by omega, if_false, Int.toNat_natCast]
  rw [Array.getElem?_eq_getElem hlt']
  refine wpAny_bind ?_
  first | refine wpAny_bind (wpAny_typeNameOfWhole_keyiter hit.typeIs (wpAny_pure ?_)) | refine wpAny_bind (wpAny_typeNameOf_keyiter hit.typeIs (wpAny_pure ?_))
  refine wpAny_bind (wpAny_isOneOf_keyiter hit.typeIs ?_)
  show wpAny _ _ (setField (.ref it) 1 (rawInt ((i : Int) + 1)) >>= _) _ _ s
  refine wpAny_bind (wpAny_setField ho hd (by simp) ?_)
  have hit' : (s.heap.update it (Obj.mapFields (·.setIfInBounds 1 (rawInt ((i : Int) + 1))))).IsKeyIter it d (i + 1) n ep :=
    ⟨_, Heap.get?_update_self _ ho (Obj.isFreed_of_fields (Obj.data_mapFields hd _)), (Obj.cls_mapFields ..).trans hc, by rw [Obj.data_mapFields hd]; simp [rawInt]⟩
  refine wpAny_bind (wpAny_holding ?_)
  refine wpAny_bind (wpAny_isOneOf_keyiter (s := { s with heap := s.heap.update it (Obj.mapFields (·.setIfInBounds 1 (rawInt ((i : Int) + 1)))) }) hit'.typeIs ?_)
  show wpAny _ _ (pure es[i].key) _ _ _
  rw [hen]
  exact wpAny_pure (wpAny_pure ⟨_, rfl, wpAny_pure (hQ _ hit' (Heap.SameBut.update ..))⟩)
theorem next_key_end {it d : Addr} {i n ep : Nat} {od : Obj} {es : Array DictEntry} {Q : Option Value → Shared → Prop} (hh : A.handled = none) (hit : s.heap.IsKeyIter it d i n ep) (hod : s.heap.get? d = some od) (hdd : od.data = .dict es ep)
    (hsz : es.size = n) (hge : n ≤ i) (hQ : ∀ h', Heap.ExtBut it s.heap h' → Q none { s with heap := h' }) : wpAny (model prog w) A (pyNext (.ref it)) Q E s := by
  obtain ⟨o, ho, hc, hd⟩ := id hit
  unfold pyNext
  refine wpAny_bind (wpAny_attempt (wpAny_callSpecial?_slot (name := Str.ofString "__next__") hit.typeIs F.slot_dict_keyiterator_next
    (wpAny_call_entry F.slot_dict_keyiterator_next hit.typeIs F.entry_dict_keyiterator_next ?_ (F.args_dict_keyiterator_next_1 _))))
  refine wpAny_bind (wpAny_pure ?_)
  refine wpAny_bind ?_
  refine wpAny_bind ?_
  first | refine wpAny_bind (wpAny_typeNameOfWhole_keyiter hit.typeIs (wpAny_pure ?_)) | refine wpAny_bind (wpAny_typeNameOf_keyiter hit.typeIs (wpAny_pure ?_))
  refine wpAny_bind (wpAny_fieldsOf ho hd ?_)
  have hown : Builtin.Dict_items.ownsTuple "dict_keyiterator" = false := by decide
  simp only [hown, Bool.false_eq_true, if_false]
  show wpAny _ _ (if (Value.ref d == Value.none) = true then _ else _) _ _ s
  rw [if_neg (show ¬ ((Value.ref d == Value.none) = true) from Bool.false_ne_true)]
  refine wpAny_bind (wpAny_pure ?_)
  refine wpAny_bind (wpAny_dictEntries hod hdd ?_)
  rw [if_neg (by rw [hsz]; simp)]
  refine wpAny_bind (wpAny_pure ?_)
  refine wpAny_bind (wpAny_dictEpoch hod hdd ?_)
  rw [if_neg (by simp)]
  refine wpAny_pure ?_
  have hge' : es.size ≤ i := by rw [hsz]; exact hge
  simp only [show ¬ ((i : Int) < 0) from by omega, if_false, Int.toNat_natCast]
  rw [Array.getElem?_eq_none hge']
  refine wpAny_bind ?_
  first | refine wpAny_bind (wpAny_typeNameOfWhole_keyiter hit.typeIs (wpAny_pure ?_)) | refine wpAny_bind (wpAny_typeNameOf_keyiter hit.typeIs (wpAny_pure ?_))
  show wpAny _ _ (setField (.ref it) 0 .none >>= _) _ _ s
  refine wpAny_bind (wpAny_setField ho hd (by simp) ?_)
  show wpAny _ _ (newExc (.type "StopIteration") [] >>= _) _ _ _
  refine wpAny_bind ?_
  simp only [newExc, newTuple]
  refine wpAny_bind (wpAny_newObj_type ?_ (by size_fits))
  refine wpAny_bind (m := firstArgMember _ _) (wpAny_of_eq (a := Value.none) (by first | rfl | (simp only [firstArgMember]; rfl)) ?_)
  refine wpAny_newObj_type ?_ (by size_fits)
  simp only [raiseNew]
  refine wpAny_bind (wpAny_handled ?_)
  rw [show A.in1.handled = none from hh]
  refine wpAny_bind (wpAny_pure (wpAny_throw ?_))
  refine wpAny_bind (wpAny_isInstance (T := "StopIteration") (b := true) ⟨_, Heap.get?_push_size _ rfl, rfl⟩ isSubtype_stop ?_)
  exact wpAny_pure (hQ _ (((Heap.SameBut.update ..).extBut.push _).push _))
end
theorem paired_get {α β : Type} {G : α → β → Prop} {l₁ : List α} {l₂ : List β} (h : Paired G l₁ l₂) : ∀ {i : Nat} {a : α}, l₁[i]? = some a → ∃ b, l₂[i]? = some b ∧ G a b := by
  induction h with
  | nil => intro i a e; simp at e
  | @cons a b l₁ l₂ r t ih =>
    intro i a' e
    cases i with
    | zero =>
      simp only [List.getElem?_cons_zero, Option.some.injEq] at e
      subst e
      exact ⟨b, rfl, r⟩
    | succ j =>
      simp only [List.getElem?_cons_succ] at e ⊢
      exact ih e
section
variable {X : Cx} {pins : List (Addr × Obj)} {σ : St} {H : Hp} {s : Shared} {d : Addr} {o : Obj}
end
section
variable {P : Program} {w : World} {K : PySem.W.Frag} {tg : Expr} {d : Addr} {o : Obj} {es : Array DictEntry} {ep : Nat}
end
section
variable {X : Cx} {tg e : Expr} {td : TE} {apos cpos : Pos}
end
noncomputable def Ite (K : PySem.W.Frag) (a : Addr) : It :=
  ⟨fun i H => ∃ (xs : List V) (x : V), SqL K H a xs ∧ xs[i]? = some x, fun i H v H' => ∃ T x, v = .ref T ∧ H T = none ∧ H' = upd H T (.tup [.int (i : Nat), x]) ∧ ∀ xs, SqL K H a xs → xs[i]? = some x, fun i H => ∃ xs : List V, SqL K H a xs ∧ xs.length ≤ i⟩
theorem turn_enum {P : Program} {w : World} {K : PySem.W.Frag} {elts : List Expr} {kk : Nat} {tpos : Pos} (a e it : Addr) :
    Turn P w K (.Tuple elts kk tpos) (Ite K a) [e, it] e (fun i h => (∃ old, IsEnum h e it ((i : Nat) : Int) old) ∧ h.IsListIter it a i ∧ e ≠ it) where
  mem := by simp
  obj := fun i h st b hb => by
    obtain ⟨⟨old, he⟩, ⟨o, ho, hc, hd⟩, _⟩ := st
    have e' : b = e ∨ b = it := by simpa using hb
    rcases e' with z | z
    · rw [z]; exact ⟨_, he, fun v q => nomatch q⟩
    · rw [z]; exact ⟨o, ho, fun v q => by rw [hd] at q; cases q⟩
  keep := fun i h h' st k => let ⟨⟨old, he⟩, hi, hne⟩ := st; ⟨⟨old, k e (by simp) _ he⟩, hi.at fun o q => k it (by simp) o q, hne⟩
  item := by
    intro X hP hw hK hc i pins s σ H E I hf st hg
    subst hP hw hK
    obtain ⟨⟨old, he⟩, hit, hne⟩ := st
    obtain ⟨xs, x, hq, hx⟩ := hg
    obtain ⟨its, rv, p, hz⟩ := I.list hq
    obtain ⟨u, hu, ru⟩ := rv.get hx
    have hel : e < s.heap.objs.size := Heap.lt_size he
    have hil : it < s.heap.objs.size := by obtain ⟨_, q, _⟩ := hit; exact Heap.lt_size q
    refine wpAny_pyNext_enum_item he hit p.isList (x := u) (by simpa using hu) hne fun h' ho hit' hT hsz hk => ?_
    refine ⟨_, rfl, wpAny_letOwnedTupleGo_enum (s := { s with heap := h', toks := s.toks + 1 }) ho fun h'' he' sb => ?_⟩
    have hT2 : h''.get? s.heap.objs.size = some { cls := .type "tuple", data := .seq #[.int i s.toks, u] } := (sb.2 _ (Nat.ne_of_gt hel)).trans hT
    have new : ObjOk X.prog X.w (upd H s.heap.objs.size (.tup [.int (i : Nat), x])) h'' s.heap.objs.size (.tup [.int (i : Nat), x]) :=
      ⟨by show 2 ≤ sizeLine; decide, [.int i s.toks, u], .cons ⟨_, rfl⟩ (.cons ru .nil), ⟨_, hT2, rfl, _, rfl⟩⟩
    have I1 : Inv X pins σ (upd H s.heap.objs.size (.tup [.int (i : Nat), x])) { s with heap := h'', toks := s.toks + 1 } :=
      I.turnedNew (ch := [e, it]) (fun b ob hb q => (sb.2 b (fun z => hb (by simp [z]))).trans (hk b ob (fun z => hb (by simp [z])) (fun z => hb (by simp [z])) q)) hf (Nat.le_refl _) new
    refine ⟨.ref s.heap.objs.size, _, I1, rfl, ⟨_, x, rfl, I.hok.fresh (Nat.le_refl _), rfl, fun ys hy => by rw [I.list_inj hy hq]; exact hx⟩, ⟨⟨u, ?_⟩, hit'.at fun o q => (sb.2 it (Ne.symm hne)).trans q, hne⟩, fun b hb => ?_⟩
    · have e1 : ((i + 1 : Nat) : Int) = (i : Int) + 1 := by omega
      rw [e1]; exact he'
    · have hb' : b < s.heap.objs.size := by
        have e' : b = e ∨ b = it := by simpa using hb
        rcases e' with z | z
        · rw [z]; exact hel
        · rw [z]; exact hil
      rw [upd_ne (Nat.ne_of_lt hb')]
      exact (hf b hb).1
  done := by
    intro X hP hw hK hc i pins s σ H E I hf st hg
    subst hP hw hK
    obtain ⟨⟨old, he⟩, hit, hne⟩ := st
    obtain ⟨xs, hq, hx⟩ := hg
    obtain ⟨its, rv, p, hz⟩ := I.list hq
    obtain ⟨f0, f1, f2, f3, f4, f5⟩ := hf it (by simp)
    have hl := rv.length
    exact wpAny_pyNext_enum_end (I.ok.hd hc) he hit p.isList (by simp; omega) fun h' eb => ⟨rfl, I.turned (t' := s.toks) (fun b o hb q => eb b o hb q) f0 f1 f3 f4 f5⟩
  self := fun A i s Q E st h => let ⟨⟨_, he⟩, _⟩ := st; wpAny_pyIter_enum he h
noncomputable def iEnum (K : PySem.W.Frag) (ta : TA) : TI := fun σ H R => ta σ H fun vs H1 => ∃ a xs, vs = [.ref a] ∧ SqL K H1 a xs ∧ R (Ite K a) H1
theorem pi_enum {X : Cx} {e : Expr} {ta : TA} {p pos tpos : Pos} {elts : List Expr} {kk : Nat} (hg : Gl X "enumerate") (hm : X.mg "enumerate" = none) (ha : PA X [e] ta) (hs : starEach [e] X.env = [(false, eval e X.env)] := by rfl) :
    PI X (.Tuple elts kk tpos) (.Call (.Name "enumerate" p) [e] [] pos) (iEnum X.K ta) := by
  intro pins s σ H R I h
  refine Call_ (ld_blt I hg hm boot_enumerate (PyProof.Rows.callWith_type1 (thn (ha pos pins s σ H _ I h) fun us s1 zz => ex5 zz fun vs H1 I1 r1 q1 => ?_) hs rfl))
  obtain ⟨a, xs, ex, hq, q⟩ := q1
  subst ex
  cases r1 with
  | cons r rr =>
    cases rr
    cases r
    obtain ⟨its, rv, p', hz⟩ := I1.list hq
    refine call_enumerate_list p'.isList fun h' he hit hsz hk => wpAny_pyIter_enum he ?_
    have I2 : Inv X pins σ H1 { s1 with heap := h' } := I1.kept (t' := s1.toks) hk
    refine ⟨s1.heap.objs.size + 1, [s1.heap.objs.size + 1, s1.heap.objs.size], _, _, H1, rfl, I2, turn_enum a (s1.heap.objs.size + 1) s1.heap.objs.size, ⟨⟨.none, he⟩, hit, Nat.succ_ne_self _⟩, fun b hb => ?_, q⟩
    have e' : b = s1.heap.objs.size + 1 ∨ b = s1.heap.objs.size := by simpa using hb
    have hle : s1.heap.objs.size ≤ b := by
      rcases e' with z | z
      · rw [z]; exact Nat.le_add_right _ _
      · rw [z]; exact Nat.le_refl _
    exact I1.fpOk hle (I1.hok.fresh hle)
theorem boot_zip5 : bootBuiltins "zip" = some (.type "zip") := by decide +kernel
noncomputable def Itz (K : PySem.W.Frag) (a b : Addr) : It :=
  ⟨fun i H => ∃ (xs ys : List V) (x y : V), SqL K H a xs ∧ SqL K H b ys ∧ xs[i]? = some x ∧ ys[i]? = some y,
    fun i H v H' => ∃ T x y, v = .ref T ∧ H T = none ∧ H' = upd H T (.tup [x, y]) ∧ (∀ xs, SqL K H a xs → xs[i]? = some x) ∧ ∀ ys, SqL K H b ys → ys[i]? = some y,
    fun i H => ∃ xs ys : List V, SqL K H a xs ∧ SqL K H b ys ∧ (xs.length ≤ i ∨ ys.length ≤ i)⟩
theorem turn_zip {P : Program} {w : World} {K : PySem.W.Frag} {elts : List Expr} {kk : Nat} {tpos : Pos} {a b z TI TO i1 i2 : Addr} (D : ZipApart z TI TO i1 i2 a b) :
    Turn P w K (.Tuple elts kk tpos) (Itz K a b) [z, TI, TO, i1, i2] z (fun i h => IsZip h z TI TO .none ∧ IsPair h TI (.ref i1) (.ref i2) ∧ (∃ x y, IsPair h TO x y) ∧ h.IsListIter i1 a i ∧ h.IsListIter i2 b i) where
  mem := by simp
  obj := fun i h st c hc => by
    obtain ⟨hz, hTI, ⟨x, y, hTO⟩, ⟨o1, e1, _, d1⟩, ⟨o2, e2, _, d2⟩⟩ := st
    have e' : c = z ∨ c = TI ∨ c = TO ∨ c = i1 ∨ c = i2 := by simpa using hc
    rcases e' with q | q | q | q | q
    · rw [q]; exact ⟨_, hz, fun v q => nomatch q⟩
    · rw [q]; exact ⟨_, hTI, fun v q => nomatch q⟩
    · rw [q]; exact ⟨_, hTO, fun v q => nomatch q⟩
    · rw [q]; exact ⟨o1, e1, fun v q => by rw [d1] at q; cases q⟩
    · rw [q]; exact ⟨o2, e2, fun v q => by rw [d2] at q; cases q⟩
  keep := fun i h h' st k => by
    obtain ⟨hz, hTI, ⟨x, y, hTO⟩, h1, h2⟩ := st
    exact ⟨k z (by simp) _ hz, k TI (by simp) _ hTI, ⟨x, y, k TO (by simp) _ hTO⟩, h1.at fun o q => k i1 (by simp) o q, h2.at fun o q => k i2 (by simp) o q⟩
  item := by
    intro X hP hw hK hc i pins s σ H E I hf st hg
    subst hP hw hK
    obtain ⟨hz, hTI, ⟨x0, y0, hTO⟩, h1, h2⟩ := st
    obtain ⟨xs, ys, x, y, hqx, hqy, hx, hy⟩ := hg
    obtain ⟨its, rv, p, _⟩ := I.list hqx
    obtain ⟨its2, rv2, p2, _⟩ := I.list hqy
    obtain ⟨u, hu, ru⟩ := rv.get hx
    obtain ⟨u2, hu2, ru2⟩ := rv2.get hy
    have hzl : z < s.heap.objs.size := Heap.lt_size hz
    refine wpAny_pyNext_zip_item D hz hTI hTO h1 h2 p.isList p2.isList (x := u) (y := u2) (by simpa using hu) (by simpa using hu2) fun h' z' TO' h1' h2' hT hsz hk => ?_
    refine ⟨_, rfl, wpAny_letOwnedTupleGo_zip (s := { s with heap := h' }) z' fun h'' z'' sb => ?_⟩
    have hT2 : h''.get? s.heap.objs.size = some { cls := .type "tuple", data := .seq #[u, u2] } := (sb.2 _ (Nat.ne_of_gt hzl)).trans hT
    have new : ObjOk X.prog X.w (upd H s.heap.objs.size (.tup [x, y])) h'' s.heap.objs.size (.tup [x, y]) :=
      ⟨by show 2 ≤ sizeLine; decide, [u, u2], .cons ru (.cons ru2 .nil), ⟨_, hT2, rfl, _, rfl⟩⟩
    have I1 : Inv X pins σ (upd H s.heap.objs.size (.tup [x, y])) { s with heap := h'' } :=
      I.turnedNew (t' := s.toks) (ch := [z, TI, TO, i1, i2]) (fun c o hb q => (sb.2 c (fun q' => hb (by simp [q']))).trans (hk c o (fun q' => hb (by simp [q'])) (fun q' => hb (by simp [q'])) (fun q' => hb (by simp [q'])) (fun q' => hb (by simp [q'])) q)) hf (Nat.le_refl _) new
    refine ⟨.ref s.heap.objs.size, _, I1, rfl, ⟨_, x, y, rfl, I.hok.fresh (Nat.le_refl _), rfl, fun l hl => by rw [I.list_inj hl hqx]; exact hx, fun l hl => by rw [I.list_inj hl hqy]; exact hy⟩, ⟨z'', ?_, ⟨u, u2, ?_⟩, ?_, ?_⟩, fun c hcm => ?_⟩
    · exact (sb.2 _ D.TIz).trans (hk _ _ D.TIz D.TITO D.TIi1 D.TIi2 hTI)
    · exact (sb.2 _ D.TOz).trans TO'
    · exact h1'.at fun o q => (sb.2 _ D.i1z).trans q
    · exact h2'.at fun o q => (sb.2 _ D.i2z).trans q
    · have hlt : c < s.heap.objs.size := by
        have e' : c = z ∨ c = TI ∨ c = TO ∨ c = i1 ∨ c = i2 := by simpa using hcm
        rcases e' with q | q | q | q | q
        · rw [q]; exact hzl
        · rw [q]; exact Heap.lt_size hTI
        · rw [q]; exact Heap.lt_size hTO
        · rw [q]; obtain ⟨_, e1, _⟩ := h1; exact Heap.lt_size e1
        · rw [q]; obtain ⟨_, e2, _⟩ := h2; exact Heap.lt_size e2
      rw [upd_ne (Nat.ne_of_lt hlt)]
      exact (hf c hcm).1
  done := by
    intro X hP hw hK hc i pins s σ H E I hf st hg
    subst hP hw hK
    obtain ⟨hz, hTI, ⟨x0, y0, hTO⟩, h1, h2⟩ := st
    obtain ⟨xs, ys, hqx, hqy, hend⟩ := hg
    obtain ⟨its, rv, p, _⟩ := I.list hqx
    obtain ⟨its2, rv2, p2, _⟩ := I.list hqy
    have l1 := rv.length
    have l2 := rv2.length
    have he : its.toArray[i]? = none ∨ its2.toArray[i]? = none := by
      rcases hend with q | q
      · exact .inl (by simp; omega)
      · exact .inr (by simp; omega)
    exact wpAny_pyNext_zip_end (I.ok.hd hc) D hz hTI hTO h1 h2 p.isList p2.isList he fun h' hk => ⟨rfl, I.turnedL (t' := s.toks) (ch := [z, TI, TO, i1, i2]) (fun c o hb q =>
      hk c o (fun q' => hb (by simp [q'])) (fun q' => hb (by simp [q'])) (fun q' => hb (by simp [q'])) (fun q' => hb (by simp [q'])) q) hf⟩
  self := fun A i s Q E st h => wpAny_pyIter_zip st.1 h
noncomputable def iZip (K : PySem.W.Frag) (ta : TA) : TI := fun σ H R => ta σ H fun vs H1 => ∃ a b xs ys, vs = [.ref a, .ref b] ∧ SqL K H1 a xs ∧ SqL K H1 b ys ∧ R (Itz K a b) H1
theorem pi_zip {X : Cx} {e e2 : Expr} {ta : TA} {p pos tpos : Pos} {elts : List Expr} {kk : Nat} (hg : Gl X "zip") (hm : X.mg "zip" = none) (ha : PA X [e, e2] ta)
    (hs : starEach [e, e2] X.env = (false, eval e X.env) :: starEach [e2] X.env := by rfl) (hpl : (backTo pos (starEach [e2] X.env)).any (·.1) = false := by rfl) :
    PI X (.Tuple elts kk tpos) (.Call (.Name "zip" p) [e, e2] [] pos) (iZip X.K ta) := by
  intro pins s σ H R I h
  refine Call_ (ld_blt I hg hm boot_zip5 (PyProof.Rows.callWith_type1 (thn (ha pos pins s σ H _ I h) fun us s1 zz => ex5 zz fun vs H1 I1 r1 q1 => ?_) hs hpl))
  obtain ⟨a, b, xs, ys, ex, hqx, hqy, q⟩ := q1
  subst ex
  cases r1 with
  | cons r rr =>
    cases rr with
    | cons r' rr =>
      cases rr
      cases r
      cases r'
      obtain ⟨its, rv, p1, _⟩ := I1.list hqx
      obtain ⟨its2, rv2, p2, _⟩ := I1.list hqy
      have la : a < s1.heap.objs.size := p1.lt
      have lb : b < s1.heap.objs.size := p2.lt
      refine call_zip_2 p1.isList p2.isList fun h' hz hTI hTO h1 h2 hsz hk => wpAny_pyIter_zip hz ?_
      have I2 : Inv X pins σ H1 { s1 with heap := h' } := I1.kept (t' := s1.toks) hk
      refine ⟨s1.heap.objs.size + 4, [s1.heap.objs.size + 4, s1.heap.objs.size + 2, s1.heap.objs.size + 3, s1.heap.objs.size, s1.heap.objs.size + 1], _, _, H1, rfl, I2, turn_zip (PySem.W.ktu_apart s1.heap.objs.size a b la lb), ⟨hz, hTI, ⟨_, _, hTO⟩, h1, h2⟩, fun c hcm => ?_, q⟩
      have e' : c = s1.heap.objs.size + 4 ∨ c = s1.heap.objs.size + 2 ∨ c = s1.heap.objs.size + 3 ∨ c = s1.heap.objs.size ∨ c = s1.heap.objs.size + 1 := by simpa using hcm
      have hle : s1.heap.objs.size ≤ c := by
        rcases e' with z | z | z | z | z
        · rw [z]; exact Nat.le_add_right _ _
        · rw [z]; exact Nat.le_add_right _ _
        · rw [z]; exact Nat.le_add_right _ _
        · rw [z]; exact Nat.le_refl _
        · rw [z]; exact Nat.le_add_right _ _
      exact I1.fpOk hle (I1.hok.fresh hle)
end L2
section 
namespace Bits
open PySem PyProof.Rows
end Bits
end 
section 
namespace TL
open PySem PySem.Builtin PySem.Builtin.Str PySem.StrLaws
end TL
end 
namespace L2
open PySem PySem.Spec PyProof.Rows
section
variable {X : Cx} {pins : List (Addr × Obj)} {σ : St} {H : Hp} {s : Shared} {Q : VK}
end
section
variable {X : Cx}
end
section
variable {X : Cx} {o e : Expr} {to te : TE}
end
end L2
namespace L2
open PySem PySem.Spec PyProof.Rows
section
variable {X : Cx}
end
end L2
namespace Att
open PySem PySem.W PySem.Calls PyProof.Rows
section
variable {prog : Program} {w : World} {A : Around} {E : Value → Shared → Prop} {s : Shared} {K : Frag}
end
end Att
namespace L2
open PySem PySem.Spec PyProof.Rows
end L2
namespace L2
open PySem PySem.Spec PyProof.Rows
end L2
namespace L2
open PySem PySem.Spec PyProof.Rows
noncomputable def inClass (s : Stmt) (j : Nat) : Stmt := match s with
  | .ClassDef _ _ _ body _ _ _ _ _ _ _ => body.getD j (.Pass ⟨0, 0, 0, 0⟩)
  | _ => .Pass ⟨0, 0, 0, 0⟩
noncomputable def defArgs (s : Stmt) : Arguments := match s with
  | .FunctionDef _ a _ _ _ _ _ _ _ _ => a
  | _ => { posonlyargs := [], args := [], vararg := none, kwonlyargs := [], kw_defaults := [], kwarg := none, defaults := [] }
noncomputable def defBody (s : Stmt) : List Stmt := match s with
  | .FunctionDef _ _ b _ _ _ _ _ _ _ => b
  | _ => []
noncomputable def defScope (s : Stmt) : Scope := match s with
  | .FunctionDef _ _ _ _ _ _ sc _ _ _ => sc
  | _ => { kind := .function, names := [], isGenerator := false, isCoroutine := false }
noncomputable abbrev CX0 : CXT := fun _ _ _ _ _ _ => False
noncomputable abbrev E0 : XK := fun _ _ _ => False
theorem pass0 {X : Cx} : Passes CX0 X E0 := fun _ _ _ _ _ _ _ h => h.elim
structure Fun (K : PySem.W.Frag) (x qual : Str) (st : Stmt) (f : Addr) (fd : FuncData) : Prop where
  ex : ∃ (oc : Value) (od : Option Addr) (kV doc pm : Value) (an : Option Addr) (cdv ct : Value) (osl : Array (Option Value)),
    fd = PySem.W.fnOf x qual (defArgs st) (defBody st) (defScope st) .none kV doc pm an cdv ct ∧ K.lookup f = some ⟨oc, od, .func fd, osl⟩ ∧ PySem.W.codeIn K cdv qual = true
  kp : PySem.W.keepIn K (.ref f) = true
section
variable {P : Program} {w : World} {K : PySem.W.Frag} {mg : Str → Option Value} {base : Heap}
theorem Fun.ok {x qual : Str} {st : Stmt} {f : Addr} {fd : FuncData} {N ps : List Str} {k : Nat} {sp : Sp} (F : Fun K x qual st f fd) (S : FnScope N ps (defScope st)) (len : ∀ vs H Q E, sp vs H Q E → vs.length = ps.length)
    (hbody : ∀ (cdv : Value) (A : Around) (outer : List Env) (s : Shared) (H : Hp) (vs : List V) (Q : VK) (E : XK), Room k (A.deeper (envOfC qual (defScope st) s.heap.objs.size f cdv)) → sp vs H Q E →
      ∃ t, PSs (cxOf CX0 P w K mg base N qual (defScope st) f cdv A outer s H E).nox (defBody st) t ∧ t { nx := fun _ H' => Q .non H', rt := Q } (start N vs) H) : FnOk P w K mg base CX0 (k + 1) f fd ps sp := by
  obtain ⟨oc, od, kV, doc, pm, an, cdv, ct, osl, rfl, lk, hcd⟩ := F.ex
  refine fn_of lk hcd S len fun A outer s H vs Q E hr hsp => ?_
  obtain ⟨t, h, q⟩ := hbody cdv A outer s H vs Q E hr hsp
  exact ⟨t, h.nox, q⟩
theorem Fun.binds {x qual : Str} {st : Stmt} {f : Addr} {fd : FuncData} {ps : List Str} (F : Fun K x qual st f fd)
    (h : ∀ (kV doc pm : Value) (an : Option Addr) (cdv ct : Value) (us : List Value), us.length = ps.length → bindArgs (PySem.W.fnOf x qual (defArgs st) (defBody st) (defScope st) .none kV doc pm an cdv ct) ⟨us, []⟩ = pure (ps.zip us)) : Binds K fd ps [] := by
  obtain ⟨oc, od, kV, doc, pm, an, cdv, ct, osl, rfl, lk, hcd⟩ := F.ex
  exact .all (h kV doc pm an cdv ct)
theorem fun_mk {x qual : Str} {st : Stmt} {f : Addr} {oc : Value} {od an : Option Addr} {osl : Array (Option Value)} {kV doc pm cdv ct : Value} (l : K.lookup f = some ⟨oc, od, .func (PySem.W.fnOf x qual (defArgs st) (defBody st) (defScope st) .none kV doc pm an cdv ct), osl⟩)
    (c : PySem.W.codeIn K cdv qual = true) (k : PySem.W.keepIn K (.ref f) = true) : Fun K x qual st f (PySem.W.fnOf x qual (defArgs st) (defBody st) (defScope st) .none kV doc pm an cdv ct) := ⟨⟨oc, od, kV, doc, pm, an, cdv, ct, osl, rfl, l, c⟩, k⟩
end
theorem hu_of {A : Around} {k : Nat} (hr : Room k A) : A.units + 1 < cLine := Nat.lt_of_le_of_lt (Nat.add_le_add_left (by decide : 1 ≤ 64) _) hr.units
section
variable {X : Cx}
theorem pv (i : Nat) {x : Str} {pos : Pos} (hN : X.N[i]? = some x := by rfl) (hv : Vis X.env.scope x := by first | exact Or.inl rfl | exact Or.inr (Or.inl rfl) | exact Or.inr (Or.inr rfl)) (hd : (x == ("__debug__" : Str)) = false := by decide)
    (hcd : (x == ("__classdict__" : Str)) = false := by decide) : PE X (.Name x pos) (tVar i) := pe_var hN hv hd hcd
end
theorem iteF {A B : Prop} (h : B) : if false = true then A else B := by
  rw [if_neg Bool.false_ne_true]
  exact h
theorem iteT {A B : Prop} (h : A) : if true = true then A else B := by
  rw [if_pos rfl]
  exact h
theorem ite2 {c A B : Prop} [Decidable c] (h1 : c → A) (h2 : ¬ c → B) : if c then A else B := by
  by_cases h : c
  · rw [if_pos h]
    exact h1 h
  · rw [if_neg h]
    exact h2 h
def Same (H H' : Hp) : Prop := ∀ b o, H b = some o → H' b = some o
theorem Same.trans {H H1 H2 : Hp} (a : Same H H1) (b : Same H1 H2) : Same H H2 := fun c o h => b c o (a c o h)
theorem Same.free {H H' : Hp} (e : Same H H') {l : Addr} (h : H' l = Option.none) : H l = Option.none := by
  cases q : H l with
  | none => rfl
  | some o =>
    rw [e l o q] at h
    cases h
theorem Same.seq {K : PySem.W.Frag} {H H' : Hp} {a : Addr} {xs : List V} (e : Same H H') (h : SqL K H a xs) : SqL K H' a xs := by
  rcases h with (h | ⟨o, h⟩) | h
  · exact .inl (.inl (e _ _ h))
  · exact .inl (.inr ⟨o, e _ _ h⟩)
  · exact .inr h
section
variable {κ : Type} [DecidableEq κ]
end
theorem at_of {xs : List V} {z : Int} {j : Nat} {v : V} (e : z = (j : Int)) (h : xs[j]? = some v) : atI xs z = some v := by
  rw [e]
  exact atI_nat h
theorem Same.made {H H1 : Hp} {x dx C : Addr} (nx : H x = Option.none) (nd : H dx = Option.none) (k : ∀ b o, (upd (upd H dx (.own x)) x (.ins C dx [])) b = some o → b ≠ x → H1 b = some o) : Same H H1 := fun b o e =>
  k b o (by rw [upd_ne (ne_of_none e nx), upd_ne (ne_of_none e nd)]; exact e) (ne_of_none e nx)
end L2
end
section
section
set_option Elab.async false
set_option linter.all false
set_option maxRecDepth 100000
set_option maxHeartbeats 2000000
namespace L2
open PySem PySem.Spec PyProof.Rows
open PySem.W (WData Codec OpenSpec Well WellAll ReadsW ReadsAllW)
mutual
inductive Dw (K : PySem.W.Frag) (H : Hp) : V → WData → Prop
  | non : Dw K H .non .none
  | bl (b : Bool) : Dw K H (.bl b) (.bool b)
  | int (i : Int) : Dw K H (.int i) (.int i)
  | str (x : Str) : Dw K H (.str x) (.str x)
  | byt (b : Array UInt8) : Dw K H (.byt b) (.bytes b.toList)
  | lst {a : Addr} {xs : List V} {ds : List WData} : SqL K H a xs → DwAll K H xs ds → Dw K H (.ref a) (.list ds)
  | tup {a : Addr} {xs : List V} {ds : List WData} : SqT K H a xs → DwAll K H xs ds → Dw K H (.ref a) (.tuple ds)
inductive DwAll (K : PySem.W.Frag) (H : Hp) : List V → List WData → Prop
  | nil : DwAll K H [] []
  | cons {v : V} {vs : List V} {d : WData} {ds : List WData} : Dw K H v d → DwAll K H vs ds → DwAll K H (v :: vs) (d :: ds)
end
theorem dw_ints {K : PySem.W.Frag} {H : Hp} : ∀ ns : List Int, DwAll K H (ns.map V.int) (ns.map WData.int)
  | [] => .nil
  | n :: r => .cons (.int n) (dw_ints r)
theorem ints_dw {K : PySem.W.Frag} {H : Hp} : ∀ (ns : List Int) (xs : List V), DwAll K H xs (ns.map WData.int) → xs = ns.map V.int
  | [], xs, h => by
    cases h
    rfl
  | n :: r, xs, h => by
    cases h with
    | cons h1 h2 =>
      cases h1
      rw [ints_dw r _ h2] <;> rfl
section
variable {P : Program} {w : World} {K : PySem.W.Frag} {H : Hp} {h : Heap} {R : PySem.W.WRecords} {cl : Str → Option Addr}
theorem sqL_at {a : Addr} {xs : List V} (hok : HOk P w H h) (KX : K.In h) (q : SqL K H a xs) : ∃ (its : List Value) (o : Obj) (n : Nat), Vals xs its ∧ h.get? a = some o ∧ o.cls = .type "list" ∧ o.data = .seq its.toArray n := by
  rcases q with q | ⟨o, its, n, e, hc, _, hd, _, hv⟩
  · obtain ⟨_, its, n, hv, e⟩ := (show ObjOk P w H h a (.lst xs) from q.ok hok)
    exact ⟨its, _, n, hv, e, rfl, rfl⟩
  · exact ⟨its.toList, o, n, hv, KX _ _ e, hc, by simp [hd]⟩
theorem sqT_at {a : Addr} {xs : List V} (hok : HOk P w H h) (KX : K.In h) (q : SqT K H a xs) : ∃ (its : List Value) (o : Obj) (n : Nat), Vals xs its ∧ h.get? a = some o ∧ o.cls = .type "tuple" ∧ o.data = .seq its.toArray n := by
  rcases q with q | ⟨o, its, n, e, hc, hd, _, hv⟩
  · obtain ⟨_, its, hv, o, e, hc, n, hd⟩ := (show ObjOk P w H h a (.tup xs) from q.ok hok)
    exact ⟨its, o, n, hv, e, hc, hd⟩
  · exact ⟨its.toList, o, n, hv, KX _ _ e, hc, by simp [hd]⟩
mutual
theorem Dw.reads (hok : HOk P w H h) (KX : K.In h) : ∀ (d : WData) (v : V) (u : Value), Dw K H v d → RelV v u → ∃ as, ReadsW R cl h u d as
  | .none, _, _, x, r => by
    cases x
    cases r
    exact ⟨_, ReadsW.none⟩
  | .bool b, _, _, x, r => by
    cases x
    cases r
    exact ⟨_, ReadsW.bool b⟩
  | .int i, _, _, x, r => by
    cases x
    obtain ⟨t, rfl⟩ := r
    exact ⟨_, ReadsW.int i t⟩
  | .str s, _, _, x, r => by
    cases x
    obtain ⟨t, rfl⟩ := r
    exact ⟨_, ReadsW.str s t⟩
  | .bytes b, _, _, x, r => by
    cases x
    obtain ⟨t, rfl⟩ := r
    exact ⟨_, ReadsW.bytes _ t⟩
  | .list ds, _, _, x, r => by
    cases x with
    | lst hs ha =>
      cases r
      obtain ⟨its, o, n, rv, ho, hc, hd⟩ := sqL_at hok KX hs
      obtain ⟨as, hr⟩ := Dw.readsAll hok KX ds _ its ha rv
      exact ⟨_, ReadsW.list ho hc hd hr⟩
  | .tuple ds, _, _, x, r => by
    cases x with
    | tup hs ha =>
      cases r
      obtain ⟨its, o, n, rv, ho, hc, hd⟩ := sqT_at hok KX hs
      obtain ⟨as, hr⟩ := Dw.readsAll hok KX ds _ its ha rv
      exact ⟨_, ReadsW.tuple ho hc hd hr⟩
  | .float _, _, _, x, _ => by cases x
  | .dict _, _, _, x, _ => by cases x
  | .bytearray _, _, _, x, _ => by cases x
  | .set _, _, _, x, _ => by cases x
  | .frozenset _, _, _, x, _ => by cases x
  | .obj _ _, _, _, x, _ => by cases x
theorem Dw.readsAll (hok : HOk P w H h) (KX : K.In h) : ∀ (ds : List WData) (vs : List V) (us : List Value), DwAll K H vs ds → Vals vs us → ∃ as, ReadsAllW R cl h us ds as
  | [], _, _, x, r => by
    cases x
    cases r
    exact ⟨_, ReadsAllW.nil⟩
  | d :: ds, _, _, x, r => by
    cases x with
    | cons h1 h2 =>
      cases r with
      | cons r1 r2 =>
        obtain ⟨as, q1⟩ := Dw.reads hok KX d _ _ h1 r1
        obtain ⟨bs, q2⟩ := Dw.readsAll hok KX ds _ _ h2 r2
        exact ⟨_, ReadsAllW.cons q1 q2⟩
end
end
mutual
noncomputable def plW : WData → Bool
  | .none => true
  | .bool _ => true
  | .int _ => true
  | .str _ => true
  | .bytes _ => true
  | .list xs => plWs xs
  | .tuple xs => plWs xs
  | _ => false
noncomputable def plWs : List WData → Bool
  | [] => true
  | x :: r => plW x && plWs r
end
theorem plWs_map {α : Type} {f : α → WData} (h : ∀ a, plW (f a) = true) : ∀ l : List α, plWs (l.map f) = true
  | [] => rfl
  | x :: r => by
    show (plW (f x) && plWs (r.map f)) = true
    rw [h x, plWs_map h r] <;> rfl
theorem pl_enc : ∀ (c : Codec) (a : c.denote), plW (c.enc a) = true
  | .unit, _ => rfl
  | .bool, _ => rfl
  | .int _ _, _ => rfl
  | .nat _ _, _ => rfl
  | .u8, _ => rfl
  | .bytes _ _, _ => rfl
  | .text _ _ _ _, _ => rfl
  | .list _ _ c, a => plWs_map (fun x => pl_enc c x) a
  | .pair c d, a => by
    show (plW (c.enc a.1) && (plW (d.enc a.2) && true)) = true
    rw [pl_enc c a.1, pl_enc d a.2] <;> rfl
  | .triple c d e, a => by
    show (plW (c.enc a.1) && (plW (d.enc a.2.1) && (plW (e.enc a.2.2) && true))) = true
    rw [pl_enc c a.1, pl_enc d a.2.1, pl_enc e a.2.2] <;> rfl
  | .option c, none => rfl
  | .option c, some x => pl_enc c x
theorem pl_encAll : ∀ (cs : List Codec) (a : Codec.denoteAll cs), plWs (Codec.encAll cs a) = true
  | [], _ => rfl
  | c :: cs, a => by
    show (plW (c.enc a.1) && plWs (Codec.encAll cs a.2)) = true
    rw [pl_enc c a.1, pl_encAll cs a.2] <;> rfl
theorem weight_mem : ∀ {xs : List WData} {d : WData}, d ∈ xs → d.weight ≤ WData.weightAll xs
  | [], d, h => absurd h (by simp)
  | x :: r, d, h => by
    show d.weight ≤ x.weight + 1 + WData.weightAll r
    rcases List.mem_cons.mp h with e | m
    · rw [e]
      omega
    · have z := weight_mem m
      omega
noncomputable def toV : Value → V
  | .none => .non
  | .bool b => .bl b
  | .int i _ => .int i
  | .str x _ => .str x
  | .bytes b _ => .byt b
  | .ref a => .ref a
  | _ => .non
noncomputable def OkU (A : List Addr) : Value → Prop
  | .none => True
  | .bool _ => True
  | .int _ _ => True
  | .str _ _ => True
  | .bytes _ _ => True
  | .ref a => a ∈ A
  | _ => False
theorem OkU.mono {A B : List Addr} (h : ∀ a ∈ A, a ∈ B) : ∀ {u : Value}, OkU A u → OkU B u := fun {u} x => by
  cases u with
  | ref a => exact h a x
  | none => trivial
  | bool b => trivial
  | int i t => trivial
  | str s t => trivial
  | bytes b t => trivial
  | _ => exact False.elim x
theorem relV_toV {A : List Addr} {u : Value} (x : OkU A u) : RelV (toV u) u := by
  cases u with
  | ref a => rfl
  | none => rfl
  | bool b => rfl
  | int i t => exact ⟨t, rfl⟩
  | str s t => exact ⟨t, rfl⟩
  | bytes b t => exact ⟨t, rfl⟩
  | _ => exact False.elim x
theorem vals_toV {A : List Addr} : ∀ {vs : List Value}, (∀ u ∈ vs, OkU A u) → Vals (vs.map toV) vs
  | [], _ => .nil
  | u :: r, h => .cons (relV_toV (h u (List.mem_cons_self ..))) (vals_toV fun x hx => h x (List.mem_cons_of_mem _ hx))
def ArgOb (h : Heap) (A : List Addr) (a : Addr) : Prop := ∃ vs : List Value, vs.length ≤ sizeLine ∧ (∀ u ∈ vs, OkU A u) ∧
  (h.get? a = some { cls := .type "list", data := .seq vs.toArray } ∨ h.get? a = some { cls := .type "tuple", data := .seq vs.toArray })
theorem ArgOb.mono {h : Heap} {A B : List Addr} {a : Addr} (k : ∀ a ∈ A, a ∈ B) (x : ArgOb h A a) : ArgOb h B a := by
  obtain ⟨vs, h1, h2, h3⟩ := x
  exact ⟨vs, h1, fun u hu => (h2 u hu).mono k, h3⟩
theorem wellAll_len {P : Params} {h : Heap} {vs : List Value} {ds : List WData} (p : WellAll P h vs ds) : vs.length = ds.length := by
  induction ds generalizing vs with
  | nil => cases p; rfl
  | cons d ds ih => cases p with | cons _ b => exact congrArg Nat.succ (ih b)
theorem well_list {P : Params} {h : Heap} {v : Value} {ds : List WData} (x : Well P h v (.list ds)) : ∃ (a : Addr) (vs : List Value), v = .ref a ∧ h.get? a = some { cls := .type "list", data := .seq vs.toArray } ∧ WellAll P h vs ds := by
  cases x with
  | list ho hall => exact ⟨_, _, rfl, ho, hall⟩
theorem well_tuple {P : Params} {h : Heap} {v : Value} {ds : List WData} (x : Well P h v (.tuple ds)) : ∃ (a : Addr) (vs : List Value), v = .ref a ∧ h.get? a = some { cls := .type "tuple", data := .seq vs.toArray } ∧ WellAll P h vs ds := by
  cases x with
  | tuple ho hall => exact ⟨_, _, rfl, ho, hall⟩
theorem well_cons {P : Params} {h : Heap} {us : List Value} {d : WData} {ds : List WData} (x : WellAll P h us (d :: ds)) : ∃ (v : Value) (vs : List Value), us = v :: vs ∧ Well P h v d ∧ WellAll P h vs ds := by
  cases x with
  | cons a b => exact ⟨_, _, rfl, a, b⟩
theorem line_of {n : Nat} (h : n ≤ 1048576) : n ≤ sizeLine := Nat.le_trans h (by decide)
section
variable {P : Params} {h : Heap}
mutual
theorem area_one : ∀ (d : WData) (v : Value), Well P h v d → plW d = true → d.weight ≤ 1048576 → ∃ A : List Addr, OkU A v ∧ ∀ a ∈ A, ArgOb h A a
  | .none, _, x, _, _ => by
    cases x
    exact ⟨[], trivial, fun a m => absurd m (by simp)⟩
  | .bool b, _, x, _, _ => by
    cases x
    exact ⟨[], trivial, fun a m => absurd m (by simp)⟩
  | .int i, _, x, _, _ => by
    cases x
    exact ⟨[], trivial, fun a m => absurd m (by simp)⟩
  | .str s, _, x, _, _ => by
    cases x
    exact ⟨[], trivial, fun a m => absurd m (by simp)⟩
  | .bytes b, _, x, _, _ => by
    cases x
    exact ⟨[], trivial, fun a m => absurd m (by simp)⟩
  | .list ds, _, x, p, z => by
    obtain ⟨a, vs, rfl, ho, hall⟩ := well_list x
    have z2 : WData.weightAll ds ≤ 1048576 := z
    obtain ⟨A, h1, h2⟩ := area_all ds _ hall p fun d hd => Nat.le_trans (weight_mem hd) z2
    have k : ∀ b ∈ A, b ∈ a :: A := fun b hb => List.mem_cons_of_mem _ hb
    refine ⟨a :: A, List.mem_cons_self .., fun b hb => ?_⟩
    rcases List.mem_cons.mp hb with e | m
    · rw [e]
      exact ⟨vs, line_of (by rw [wellAll_len hall]; exact Nat.le_trans (PySem.W.length_le_weightAllW ds) z2), fun u hu => (h1 u hu).mono k, .inl ho⟩
    · exact (h2 b m).mono k
  | .tuple ds, _, x, p, z => by
    obtain ⟨a, vs, rfl, ho, hall⟩ := well_tuple x
    have z2 : WData.weightAll ds ≤ 1048576 := z
    obtain ⟨A, h1, h2⟩ := area_all ds _ hall p fun d hd => Nat.le_trans (weight_mem hd) z2
    have k : ∀ b ∈ A, b ∈ a :: A := fun b hb => List.mem_cons_of_mem _ hb
    refine ⟨a :: A, List.mem_cons_self .., fun b hb => ?_⟩
    rcases List.mem_cons.mp hb with e | m
    · rw [e]
      exact ⟨vs, line_of (by rw [wellAll_len hall]; exact Nat.le_trans (PySem.W.length_le_weightAllW ds) z2), fun u hu => (h1 u hu).mono k, .inr ho⟩
    · exact (h2 b m).mono k
  | .float _, _, _, p, _ => Bool.noConfusion (show false = true from p)
  | .dict _, _, _, p, _ => Bool.noConfusion (show false = true from p)
  | .bytearray _, _, _, p, _ => Bool.noConfusion (show false = true from p)
  | .set _, _, _, p, _ => Bool.noConfusion (show false = true from p)
  | .frozenset _, _, _, p, _ => Bool.noConfusion (show false = true from p)
  | .obj _ _, _, _, p, _ => Bool.noConfusion (show false = true from p)
theorem area_all : ∀ (ds : List WData) (vs : List Value), WellAll P h vs ds → plWs ds = true → (∀ d ∈ ds, d.weight ≤ 1048576) → ∃ A : List Addr, (∀ u ∈ vs, OkU A u) ∧ ∀ a ∈ A, ArgOb h A a
  | [], _, x, _, _ => by
    cases x
    exact ⟨[], fun u m => absurd m (by simp), fun a m => absurd m (by simp)⟩
  | d :: ds, _, x, p, z => by
    obtain ⟨v, vs, rfl, x1, x2⟩ := well_cons x
    have q : plW d = true ∧ plWs ds = true := Bool.and_eq_true_iff.mp p
    obtain ⟨A, a1, a2⟩ := area_one d v x1 q.1 (z d (List.mem_cons_self ..))
    obtain ⟨B, b1, b2⟩ := area_all ds vs x2 q.2 fun e he => z e (List.mem_cons_of_mem _ he)
    have kA : ∀ b ∈ A, b ∈ A ++ B := fun b hb => List.mem_append.mpr (.inl hb)
    have kB : ∀ b ∈ B, b ∈ A ++ B := fun b hb => List.mem_append.mpr (.inr hb)
    refine ⟨A ++ B, fun u hu => ?_, fun b hb => ?_⟩
    · rcases List.mem_cons.mp hu with e | m
      · rw [e]
        exact a1.mono kA
      · exact (b1 u m).mono kB
    · rcases List.mem_append.mp hb with m | m
      · exact (a2 b m).mono kA
      · exact (b2 b m).mono kB
end
end
noncomputable def hoOf (o : Obj) : Option HO := match o.data with
  | .seq vs _ => if (o.cls == Value.type "list") = true then some (.frz o (.lst (vs.toList.map toV))) else some (.frz o (.tup (vs.toList.map toV)))
  | _ => none
noncomputable def argH (K : PySem.W.Frag) (h : Heap) (A : List Addr) : Hp := fun b => if b ∈ A then (if (K.lookup b).isNone = true then (h.get? b).bind hoOf else none) else none
def OnlyF (H : Hp) : Prop := ∀ b, H b = none ∨ ∃ o u, H b = some (.frz o u)
theorem hoOf_lst (vs : List Value) : hoOf { cls := .type "list", data := .seq vs.toArray } = some (.frz { cls := .type "list", data := .seq vs.toArray } (.lst (vs.map toV))) := by
  show (if (Value.type "list" == Value.type "list") = true then some (HO.frz { cls := .type "list", data := .seq vs.toArray } (.lst (vs.toArray.toList.map toV))) else some (HO.frz { cls := .type "list", data := .seq vs.toArray } (.tup (vs.toArray.toList.map toV)))) = _
  rw [if_pos (beq_self_eq_true _)]
theorem hoOf_tup (vs : List Value) : hoOf { cls := .type "tuple", data := .seq vs.toArray } = some (.frz { cls := .type "tuple", data := .seq vs.toArray } (.tup (vs.map toV))) := by
  show (if (Value.type "tuple" == Value.type "list") = true then some (HO.frz { cls := .type "tuple", data := .seq vs.toArray } (.lst (vs.toArray.toList.map toV))) else some (HO.frz { cls := .type "tuple", data := .seq vs.toArray } (.tup (vs.toArray.toList.map toV)))) = _
  rw [if_neg (by decide)]
section
variable {P : Program} {w : World} {K : PySem.W.Frag} {h : Heap} {A : List Addr}
theorem argH_at {b : Addr} {o : Obj} (hb : b ∈ A) (hk : K.lookup b = none) (e : h.get? b = some o) : argH K h A b = hoOf o := by
  unfold argH
  rw [if_pos hb, hk, if_pos (show (none : Option Obj).isNone = true from rfl), e] <;> rfl
theorem of_argH {b : Addr} {u : HO} (q : argH K h A b = some u) : b ∈ A ∧ K.lookup b = none := by
  unfold argH at q
  by_cases hb : b ∈ A
  · rw [if_pos hb] at q
    cases hk : K.lookup b with
    | none => exact ⟨hb, rfl⟩
    | some o =>
      rw [hk, if_neg (by simp)] at q
      cases q
  · rw [if_neg hb] at q
    cases q
theorem argH_is (ar : ∀ a ∈ A, ArgOb h A a) {b : Addr} {u : HO} (q : argH K h A b = some u) : K.lookup b = none ∧ ∃ vs : List Value, vs.length ≤ sizeLine ∧ (∀ u ∈ vs, OkU A u) ∧
    ((h.get? b = some { cls := .type "list", data := .seq vs.toArray } ∧ u = .frz { cls := .type "list", data := .seq vs.toArray } (.lst (vs.map toV))) ∨
     (h.get? b = some { cls := .type "tuple", data := .seq vs.toArray } ∧ u = .frz { cls := .type "tuple", data := .seq vs.toArray } (.tup (vs.map toV)))) := by
  obtain ⟨hb, hk⟩ := of_argH q
  obtain ⟨vs, h1, h2, h3⟩ := ar b hb
  refine ⟨hk, vs, h1, h2, ?_⟩
  rcases h3 with e | e
  · rw [argH_at hb hk e, hoOf_lst] at q
    exact .inl ⟨e, (Option.some.inj q).symm⟩
  · rw [argH_at hb hk e, hoOf_tup] at q
    exact .inr ⟨e, (Option.some.inj q).symm⟩
theorem argH_only (ar : ∀ a ∈ A, ArgOb h A a) : OnlyF (argH K h A) := fun b => by
  cases q : argH K h A b with
  | none => exact .inl rfl
  | some u =>
    obtain ⟨_, vs, _, _, ⟨_, e⟩ | ⟨_, e⟩⟩ := argH_is ar q
    · exact .inr ⟨_, _, by rw [e]⟩
    · exact .inr ⟨_, _, by rw [e]⟩
theorem argH_ok (ar : ∀ a ∈ A, ArgOb h A a) : HOk P w (argH K h A) h := fun b u q => by
  obtain ⟨_, vs, h1, h2, ⟨e, rfl⟩ | ⟨e, rfl⟩⟩ := argH_is ar q
  · exact ⟨e, by rw [List.length_map]; exact h1, vs, _, vals_toV h2, e⟩
  · exact ⟨e, by rw [List.length_map]; exact h1, vs, vals_toV h2, _, e, rfl, _, rfl⟩
theorem seq_inj {c c' : Value} {vs us : List Value} (e : (some { cls := c, data := .seq vs.toArray } : Option Obj) = some { cls := c', data := .seq us.toArray }) : c = c' ∧ vs = us := by
  have e1 := Option.some.inj e
  have e2 : c = c' := congrArg Obj.cls e1
  have e3 : Data.seq vs.toArray = Data.seq us.toArray := congrArg Obj.data e1
  injection e3 with e4
  refine ⟨e2, ?_⟩
  have e5 := congrArg Array.toList e4
  simpa using e5
theorem argL (KX : K.In h) (ar : ∀ a ∈ A, ArgOb h A a) {a : Addr} {vs : List Value} (ha : a ∈ A) (e : h.get? a = some { cls := .type "list", data := .seq vs.toArray }) : (∀ u ∈ vs, OkU A u) ∧ SqL K (argH K h A) a (vs.map toV) := by
  obtain ⟨us, h1, h2, h3⟩ := ar a ha
  have hu : us = vs := by
    rcases h3 with q | q
    · rw [e] at q
      exact (seq_inj q).2.symm
    · rw [e] at q
      exact absurd (Value.type.inj (seq_inj q).1) (by decide)
  subst hu
  refine ⟨h2, ?_⟩
  cases hk : K.lookup a with
  | none => exact .inl (.inr ⟨_, by rw [argH_at ha hk e, hoOf_lst]⟩)
  | some o =>
    have e2 := KX a o hk
    rw [e] at e2
    obtain rfl := Option.some.inj e2
    exact .inr ⟨_, us.toArray, _, hk, rfl, rfl, rfl, by rw [List.size_toArray]; exact h1, by simpa using vals_toV h2⟩
theorem argT (KX : K.In h) (ar : ∀ a ∈ A, ArgOb h A a) {a : Addr} {vs : List Value} (ha : a ∈ A) (e : h.get? a = some { cls := .type "tuple", data := .seq vs.toArray }) : (∀ u ∈ vs, OkU A u) ∧ SqT K (argH K h A) a (vs.map toV) := by
  obtain ⟨us, h1, h2, h3⟩ := ar a ha
  have hu : us = vs := by
    rcases h3 with q | q
    · rw [e] at q
      exact absurd (Value.type.inj (seq_inj q).1) (by decide)
    · rw [e] at q
      exact (seq_inj q).2.symm
  subst hu
  refine ⟨h2, ?_⟩
  cases hk : K.lookup a with
  | none => exact .inl (.inr ⟨_, by rw [argH_at ha hk e, hoOf_tup]⟩)
  | some o =>
    have e2 := KX a o hk
    rw [e] at e2
    obtain rfl := Option.some.inj e2
    exact .inr ⟨_, us.toArray, _, hk, rfl, rfl, by rw [List.size_toArray]; exact h1, by simpa using vals_toV h2⟩
mutual
theorem dw_one {Pm : Params} (KX : K.In h) (ar : ∀ a ∈ A, ArgOb h A a) : ∀ (d : WData) (v : Value), Well Pm h v d → plW d = true → OkU A v → Dw K (argH K h A) (toV v) d
  | .none, _, x, _, _ => by
    cases x
    exact .non
  | .bool b, _, x, _, _ => by
    cases x
    exact .bl b
  | .int i, _, x, _, _ => by
    cases x
    exact .int i
  | .str s, _, x, _, _ => by
    cases x
    exact .str s
  | .bytes b, _, x, _, _ => by
    cases x
    have z := Dw.byt (K := K) (H := argH K h A) b.toArray
    exact z
  | .list ds, _, x, p, hu => by
    obtain ⟨a, vs, rfl, ho, hall⟩ := well_list x
    obtain ⟨h2, hs⟩ := argL KX ar hu ho
    exact .lst hs (dw_all KX ar ds _ hall p h2)
  | .tuple ds, _, x, p, hu => by
    obtain ⟨a, vs, rfl, ho, hall⟩ := well_tuple x
    obtain ⟨h2, hs⟩ := argT KX ar hu ho
    exact .tup hs (dw_all KX ar ds _ hall p h2)
  | .float _, _, _, p, _ => Bool.noConfusion (show false = true from p)
  | .dict _, _, _, p, _ => Bool.noConfusion (show false = true from p)
  | .bytearray _, _, _, p, _ => Bool.noConfusion (show false = true from p)
  | .set _, _, _, p, _ => Bool.noConfusion (show false = true from p)
  | .frozenset _, _, _, p, _ => Bool.noConfusion (show false = true from p)
  | .obj _ _, _, _, p, _ => Bool.noConfusion (show false = true from p)
theorem dw_all {Pm : Params} (KX : K.In h) (ar : ∀ a ∈ A, ArgOb h A a) : ∀ (ds : List WData) (vs : List Value), WellAll Pm h vs ds → plWs ds = true → (∀ u ∈ vs, OkU A u) → DwAll K (argH K h A) (vs.map toV) ds
  | [], _, x, _, _ => by
    cases x
    exact .nil
  | d :: ds, _, x, p, hu => by
    obtain ⟨v, vs, rfl, x1, x2⟩ := well_cons x
    have q : plW d = true ∧ plWs ds = true := Bool.and_eq_true_iff.mp p
    exact .cons (dw_one KX ar d v x1 q.1 (hu _ (List.mem_cons_self ..))) (dw_all KX ar ds vs x2 q.2 fun u m => hu u (List.mem_cons_of_mem _ m))
end
end
theorem spec_call {P : Program} {w : World} {K : PySem.W.Frag} {mg mb : Str → Option Value} {CX : CXT} {k : Nat} {fa : Addr} {fd : FuncData} {ps : List Str} {sp : Sp} {s₁ : Shared} {vals : List Value} {ds : List WData} {R : PySem.W.WRecords} {cl : Str → Option Addr} {d0 : WData}
    (KX : K.In s₁.heap) (hns : s₁.heap.Ns mainGlobals mg) (hb : s₁.heap.Ns builtinsNs mb) (hbb : ∀ x : Str, x ≠ "__name__" → mb x = bootBuiltins x) (hlim : s₁.heap.NoLimit) (hg : s₁.gens = #[])
    (hwl : WellAll w.params s₁.heap vals ds) (hpl : plWs ds = true) (hwt : ∀ d ∈ ds, d.weight ≤ 1048576) (hr : Room k callerA)
    (F : ∀ base : Heap, K.In base → base.Ns mainGlobals mg → FnOk P w K mg base CX k fa fd ps sp) (hbind : ∀ (s : Shared) (us : List Value), us.length = ps.length → BindsTo s fd ⟨us, []⟩ (ps.zip us)) (hlen : ds.length = ps.length)
    (hsp : ∀ (H : Hp) (xs : List V), OnlyF H → DwAll K H xs ds → sp xs H (fun v H' => Dw K H' v d0) fun _ _ _ => False)
    (hCX : ∀ H e s', CX [] H s₁ (fun _ _ _ => False) e s' → False) :
    codeAny (model P w) callerA (.call (.ref fa) ⟨vals, []⟩) (fun r s' => ∃ u as, r = .ok (.ret u) ∧ ReadsW R cl s'.heap u d0 as ∧ OldK s₁.heap s'.heap ∧ s'.os = s₁.os ∧ AllBare s'.gens) s₁ := by
  obtain ⟨A, ho, ar⟩ := area_all ds vals hwl hpl hwt
  have hO : OnlyF (argH K s₁.heap A) := argH_only ar
  have hok : HOk P w (argH K s₁.heap A) s₁.heap := argH_ok ar
  have hS := dw_all KX ar ds vals hwl hpl ho
  have hV := vals_toV ho
  have hK : ∀ b u, argH K s₁.heap A b = some u → K.lookup b = none := fun b u q => (argH_is ar q).1
  have noA : ∀ {b : Addr} {o : Obj} {es : Array DictEntry} {ep : Nat}, s₁.heap.get? b = some o → o.data = .dict es ep → argH K s₁.heap A b = none := fun {b o es ep} e d => by
    cases q : argH K s₁.heap A b with
    | none => rfl
    | some u =>
      obtain ⟨_, vs, _, _, ⟨e2, _⟩ | ⟨e2, _⟩⟩ := argH_is ar q
      · rw [e2] at e
        cases e
        have d' : Data.seq vs.toArray _ = Data.dict es ep := d
        cases d'
      · rw [e2] at e
        cases e
        have d' : Data.seq vs.toArray _ = Data.dict es ep := d
        cases d'
  generalize argH K s₁.heap A = H at hO hok hS hK noA
  have base_of : ∀ {b : Addr} {o : Obj}, s₁.heap.get? b = some o → H b = none → (hidT s₁.heap H).get? b = some o := fun e n => hidT_get e n
  have nsK : ∀ {b : Addr} {m : Str → Option Value}, s₁.heap.Ns b m → (hidT s₁.heap H).Ns b m := fun {b m} ⟨o, es, ep, e, d, r⟩ => ⟨o, es, ep, base_of e (noA e d), d, r⟩
  have nK : ∀ b o, K.lookup b = some o → H b = none := fun b o e => by
    cases q : H b with
    | none => rfl
    | some u =>
      rw [hK b u q] at e
      cases e
  have hKb : K.In (hidT s₁.heap H) := fun b o e => base_of (KX b o e) (nK b o e)
  have hM : Mod K mg (hidT s₁.heap H) := ⟨hKb, nsK hns, ⟨mb, nsK hb, hbb⟩, let ⟨mc, h1, h2⟩ := hlim; ⟨mc, nsK h1, h2⟩⟩
  have e0 : Env0 P w K mg (hidT s₁.heap H) callerA [] s₁ H := ⟨rfl, hM, fun b o e => of_hidT e, Nat.le_of_eq (hidT_size _ _), trivial, fun b hb => absurd (show b ∈ ([] : List Addr) from hb) (by simp), hok, .of_eq hg⟩
  have hl : vals.length = ps.length := by rw [wellAll_len hwl]; exact hlen
  refine codeAny_mono ((F _ hKb (nsK hns)).run callerA [] s₁ H ⟨vals, []⟩ vals (vals.map toV) _ _ hr e0 (hbind s₁ vals hl) hV (hsp H _ hO hS)) fun r s' x => ?_
  cases r with
  | error e => exact (hCX H e s' x).elim
  | ok fl =>
    cases fl with
    | next => exact False.elim x
    | brk => exact False.elim x
    | cont => exact False.elim x
    | ret u =>
      obtain ⟨v, H', os, bare, un, hok', r', q⟩ := x
      have kept : ∀ b o, s₁.heap.get? b = some o → s'.heap.get? b = some o := fun b o e => by
        cases q2 : H b with
        | none => exact un.keep b o e q2 (by intro z; exact absurd (show b ∈ ([] : List Addr) from z) (by simp)) (by simp)
        | some u2 =>
          rcases hO b with z | ⟨ob, u3, z⟩
          · rw [q2] at z
            cases z
          · have z2 := un.frzs b ob _ z
            obtain ⟨e1, _⟩ := hok b _ z
            obtain ⟨e2, _⟩ := hok' b _ z2
            rw [e] at e1
            cases e1
            exact e2
      have KX' : K.In s'.heap := fun b o e => kept b o (KX b o e)
      obtain ⟨as, hrd⟩ := Dw.reads (R := R) (cl := cl) hok' KX' d0 v u q r'
      exact ⟨u, as, rfl, hrd, OldK.of_keep kept, os, bare⟩
theorem layable_weight {ds : List WData} (h : WData.layableAll ds = true) : ∀ d ∈ ds, d.weight ≤ 1048576 := fun d hd =>
  (PySem.W.layableW_iff.mp (List.all_eq_true.mp h d hd)).2.2
theorem encAll_len : ∀ (cs : List Codec) (a : Codec.denoteAll cs), (Codec.encAll cs a).length = cs.length
  | [], _ => rfl
  | c :: cs, a => by
    show (Codec.encAll cs a.2).length + 1 = cs.length + 1
    rw [encAll_len cs a.2]
theorem walk_spec {r : OpenSpec} {k : Nat} {q : Program} {loose : List Str} {XP : (Str → Option Value) → Heap → Prop} {YP : World → Heap → Prop} {d : DefRec} {K : Params → PySem.W.Frag} {CX : World → CXT} {ps : List Str} {sp : World → Sp}
    (hwell : r.wellSaid = true) (hdf : d.params.defaults = []) (hlen : r.args.length = ps.length) (hr : Room k callerA)
    (hY : ∀ (w : World) (h : Heap), YP w h → (K w.params).In h)
    (F : ∀ (w : World) (mg : Str → Option Value) (fa : Addr) (h : Heap), YP w h → (K w.params).In h → h.Ns mainGlobals mg → mg d.name = some (.ref fa) →
      ∃ fd : FuncData, (∀ (s : Shared) (us : List Value), us.length = ps.length → BindsTo s fd ⟨us, []⟩ (ps.zip us)) ∧
        ∀ base : Heap, (K w.params).In base → base.Ns mainGlobals mg → FnOk r.prog w (K w.params) mg base (CX w) k fa fd ps (sp w))
    (hsp : ∀ (w : World) (H : Hp) (xs : List V) (a : Codec.denoteAll r.args), OnlyF H → Codec.withinAll r.args a = true → Codec.app r.args r.asked a = true → DwAll (K w.params) H xs (Codec.encAll r.args a) →
      sp w xs H (fun v H' => Dw (K w.params) H' v (r.ret.enc (Codec.app r.args r.f a))) fun _ _ _ => False)
    (hCX : ∀ (w : World) (H : Hp) (s : Shared) (e : Value) (s' : Shared), CX w [] H s (fun _ _ _ => False) e s' → False) :
    PySem.W.WalkOS q loose XP YP r d [] (fun f vs => PySem.call f vs) := by
  intro w s_0 s₁ mg mb G Y fa o pm cd doc dV kV ho hd hcd hD hmg hg args vals as hpre hlay hrd hwl hlo
  obtain ⟨a, e1, e2⟩ := PySem.W.os_pre_some hpre
  obtain ⟨e3, hwi⟩ := Codec.encAll_of_decAll r.args args a e1
  subst e3
  have KX := hY w _ Y
  obtain ⟨fd, hb, hF⟩ := F w mg fa _ Y KX G.T.g hmg
  refine PySem.W.enter_call (codeAny_mono (spec_call (R := []) (cl := classAt s_0.heap) (d0 := r.ret.enc (Codec.app r.args r.f a)) KX G.T.g G.T.b G.T.builtins G.T.nolimit hg hwl (pl_encAll _ _) (layable_weight hlay) hr hF hb (by rw [encAll_len]; exact hlen)
    (fun H xs hO hS => hsp w H xs a hO hwi e2 hS) fun H e s' => hCX w H s₁ e s') fun r' s' hq => ?_)
  obtain ⟨u, as', rfl, h1, h2, h3, h4⟩ := hq
  exact ⟨.inl ⟨u, _, as', rfl, fun _ => rfl, h1, (OpenSpec.post_iff hwell hwi _ _).mpr rfl, fun z => Bool.noConfusion (show false = true from z)⟩, h2, h3, h4⟩
theorem walk_specK {r : OpenSpec} {k : Nat} {q : Program} {loose : List Str} {XP : (Str → Option Value) → Heap → Prop} {YP : World → Heap → Prop} {d : DefRec} {K : Params → PySem.W.Frag} {CX : CXT} {ps : List Str} {sp : PySem.W.Frag → Sp}
    (hwell : r.wellSaid = true) (hdf : d.params.defaults = []) (hlen : r.args.length = ps.length) (hr : Room k callerA)
    (hY : ∀ (w : World) (h : Heap), YP w h → (K w.params).In h)
    (F : ∀ (w : World) (mg : Str → Option Value) (fa : Addr) (h : Heap), YP w h → (K w.params).In h → h.Ns mainGlobals mg → mg d.name = some (.ref fa) →
      ∃ fd : FuncData, (∀ (s : Shared) (us : List Value), us.length = ps.length → BindsTo s fd ⟨us, []⟩ (ps.zip us)) ∧
        ∀ base : Heap, (K w.params).In base → base.Ns mainGlobals mg → FnOk r.prog w (K w.params) mg base CX k fa fd ps (sp (K w.params)))
    (hsp : ∀ (K : PySem.W.Frag) (H : Hp) (xs : List V) (a : Codec.denoteAll r.args), OnlyF H → Codec.withinAll r.args a = true → Codec.app r.args r.asked a = true → DwAll K H xs (Codec.encAll r.args a) →
      sp K xs H (fun v H' => Dw K H' v (r.ret.enc (Codec.app r.args r.f a))) fun _ _ _ => False)
    (hCX : ∀ (H : Hp) (s : Shared) (e : Value) (s' : Shared), CX [] H s (fun _ _ _ => False) e s' → False) :
    PySem.W.WalkOS q loose XP YP r d [] (fun f vs => PySem.call f vs) :=
  walk_spec (K := K) (CX := fun _ => CX) (sp := fun w => sp (K w.params)) hwell hdf hlen hr hY F (fun w H xs a h1 h2 h3 h4 => hsp (K w.params) H xs a h1 h2 h3 h4) fun _ H s e s' => hCX H s e s'
end L2
end
end
section
set_option Elab.async false
namespace Cox
open Si07
noncomputable def rf (M : Mirrors) (i : Nat) (h : Nat → Int) : Nat → Int := fun j => h j - cartan M i j * h i
noncomputable def act (M : Mirrors) (u : Word) (h : Nat → Int) : Nat → Int := u.foldl (fun g i => rf M i g) h
def Agree (n : Nat) (h g : Nat → Int) : Prop := ∀ j, j < n → h j = g j
def Eqv (M : Mirrors) (u v : Word) : Prop := ∀ h, Agree M.n (act M u h) (act M v h)
theorem act_nil (M : Mirrors) (h : Nat → Int) : act M [] h = h := rfl
theorem act_cons (M : Mirrors) (i : Nat) (u : Word) (h : Nat → Int) : act M (i :: u) h = act M u (rf M i h) := rfl
theorem act_append (M : Mirrors) (u v : Word) (h : Nat → Int) : act M (u ++ v) h = act M v (act M u h) := by
  simp [act, List.foldl_append]
theorem act_snoc (M : Mirrors) (u : Word) (i : Nat) (h : Nat → Int) : act M (u ++ [i]) h = rf M i (act M u h) := by
  rw [act_append]; rfl
theorem cartan_self (M : Mirrors) (i : Nat) : cartan M i i = 2 := by simp [cartan]
theorem rf_self (M : Mirrors) (i : Nat) (h : Nat → Int) : rf M i h i = - h i := by
  unfold rf; rw [cartan_self]; omega
theorem rf_rf (M : Mirrors) (i : Nat) (h : Nat → Int) : rf M i (rf M i h) = h := by
  funext j
  have e : rf M i (rf M i h) j = rf M i h j - cartan M i j * rf M i h i := rfl
  rw [e, rf_self]
  unfold rf
  grind
theorem Agree.refl (n : Nat) (h : Nat → Int) : Agree n h h := fun _ _ => rfl
theorem Agree.symm {n : Nat} {h g : Nat → Int} (a : Agree n h g) : Agree n g h := fun j hj => (a j hj).symm
theorem Agree.trans {n : Nat} {h g k : Nat → Int} (a : Agree n h g) (b : Agree n g k) : Agree n h k :=
  fun j hj => (a j hj).trans (b j hj)
theorem rf_agree {M : Mirrors} {i : Nat} {h g : Nat → Int} (hi : i < M.n) (a : Agree M.n h g) : Agree M.n (rf M i h) (rf M i g) := by
  intro j hj
  unfold rf
  rw [a j hj, a i hi]
theorem act_agree {M : Mirrors} : ∀ {u : Word} {h g : Nat → Int}, IsWord M u → Agree M.n h g → Agree M.n (act M u h) (act M u g)
  | [], _, _, _, a => a
  | i :: u, h, g, w, a => by
    rw [act_cons, act_cons]
    exact act_agree (fun x hx => w x (List.mem_cons_of_mem _ hx)) (rf_agree (w i (List.mem_cons_self ..)) a)
theorem isWord_nil (M : Mirrors) : IsWord M [] := by intro x hx; cases hx
theorem isWord_append {M : Mirrors} {u v : Word} : IsWord M (u ++ v) ↔ IsWord M u ∧ IsWord M v := by
  unfold IsWord
  constructor
  · intro h
    exact ⟨fun x hx => h x (List.mem_append_left _ hx), fun x hx => h x (List.mem_append_right _ hx)⟩
  · rintro ⟨a, b⟩ x hx
    rcases List.mem_append.1 hx with h | h
    · exact a x h
    · exact b x h
theorem isWord_cons {M : Mirrors} {i : Nat} {v : Word} : IsWord M (i :: v) ↔ i < M.n ∧ IsWord M v := by
  unfold IsWord; simp
theorem isWord_single {M : Mirrors} {i : Nat} : IsWord M [i] ↔ i < M.n := by
  unfold IsWord; simp
theorem isWord_snoc {M : Mirrors} {i : Nat} {v : Word} (a : IsWord M v) (b : i < M.n) : IsWord M (v ++ [i]) :=
  isWord_append.2 ⟨a, isWord_single.2 b⟩
theorem isWord_reverse {M : Mirrors} {u : Word} (a : IsWord M u) : IsWord M u.reverse := by
  intro x hx; exact a x (List.mem_reverse.1 hx)
theorem Eqv.refl (M : Mirrors) (u : Word) : Eqv M u u := fun _ => Agree.refl _ _
theorem Eqv.symm {M : Mirrors} {u v : Word} (a : Eqv M u v) : Eqv M v u := fun h => (a h).symm
theorem Eqv.trans {M : Mirrors} {u v w : Word} (a : Eqv M u v) (b : Eqv M v w) : Eqv M u w := fun h => (a h).trans (b h)
theorem Eqv.left {M : Mirrors} {u v : Word} (w : Word) (a : Eqv M u v) : Eqv M (w ++ u) (w ++ v) := by
  intro h; rw [act_append, act_append]; exact a _
theorem Eqv.right {M : Mirrors} {u v w : Word} (hw : IsWord M w) (a : Eqv M u v) : Eqv M (u ++ w) (v ++ w) := by
  intro h; rw [act_append, act_append]; exact act_agree hw (a h)
theorem eqv_of_act {M : Mirrors} {u v : Word} (a : ∀ h, act M u h = act M v h) : Eqv M u v := fun h => by
  rw [a h]; exact Agree.refl _ _
theorem act_double (M : Mirrors) (a b : Word) (c : Nat) (h : Nat → Int) : act M (a ++ (c :: c :: b)) h = act M (a ++ b) h := by
  rw [act_append, act_append, act_cons, act_cons, rf_rf]
theorem eqv_double (M : Mirrors) (a b : Word) (c : Nat) : Eqv M (a ++ (c :: c :: b)) (a ++ b) :=
  eqv_of_act (act_double M a b c)
theorem eqv_snoc2 (M : Mirrors) (a : Word) (c : Nat) : Eqv M (a ++ [c] ++ [c]) a := by
  have := eqv_double M a [] c
  simpa using this
theorem act_reverse (M : Mirrors) : ∀ (u : Word) (h : Nat → Int), act M (u ++ u.reverse) h = h
  | [], h => rfl
  | i :: u, h => by
    have e : (i :: u) ++ (i :: u).reverse = i :: ((u ++ u.reverse) ++ [i]) := by simp
    rw [e, act_cons, act_snoc, act_reverse M u, rf_rf]
theorem act_reverse2 (M : Mirrors) (u : Word) (h : Nat → Int) : act M (u.reverse ++ u) h = h := by
  have := act_reverse M u.reverse h
  rwa [List.reverse_reverse] at this
theorem act_back (M : Mirrors) (u : Word) (h : Nat → Int) : act M u.reverse (act M u h) = h := by
  rw [← act_append, act_reverse]
theorem act_forth (M : Mirrors) (u : Word) (h : Nat → Int) : act M u (act M u.reverse h) = h := by
  rw [← act_append, act_reverse2]
theorem Eqv.cancel_right {M : Mirrors} {u v w : Word} (hw : IsWord M w) (a : Eqv M (u ++ w) (v ++ w)) : Eqv M u v := by
  intro h
  have := (a.right (isWord_reverse hw)) h
  simpa only [act_append, act_back] using this
theorem Eqv.cancel_left {M : Mirrors} {u v w : Word} (a : Eqv M (w ++ u) (w ++ v)) : Eqv M u v := by
  intro h
  have := a (act M w.reverse h)
  simpa only [act_append, act_forth] using this
theorem Eqv.rev {M : Mirrors} {u v : Word} (hv : IsWord M v) (a : Eqv M u v) : Eqv M u.reverse v.reverse := by
  have h1 : Eqv M ((u.reverse ++ u) ++ v.reverse) ((u.reverse ++ v) ++ v.reverse) := (a.left _).right (isWord_reverse hv)
  intro h
  have h2 := h1 h
  simp only [act_append, act_back, act_forth] at h2
  exact h2.symm
theorem rf_lin (M : Mirrors) (i : Nat) (a b : Int) (h g : Nat → Int) :
    rf M i (fun j => a * h j + b * g j) = fun j => a * rf M i h j + b * rf M i g j := by
  funext j; unfold rf; grind
theorem act_lin (M : Mirrors) : ∀ (u : Word) (a b : Int) (h g : Nat → Int),
    act M u (fun j => a * h j + b * g j) = fun j => a * act M u h j + b * act M u g j
  | [], _, _, _, _ => rfl
  | i :: u, a, b, h, g => by
    rw [act_cons, rf_lin, act_lin M u, act_cons, act_cons]
noncomputable def unit (r : Nat) : Nat → Int := fun j => if j = r then 1 else 0
noncomputable def trunc (k : Nat) (h : Nat → Int) : Nat → Int := fun j => if j < k then h j else 0
theorem trunc_succ (k : Nat) (h : Nat → Int) : trunc (k + 1) h = fun j => 1 * trunc k h j + h k * unit k j := by
  funext j
  unfold trunc unit
  by_cases h1 : j < k
  · rw [if_pos (by omega), if_pos h1, if_neg (by omega)]; omega
  · by_cases h2 : j = k
    · subst h2; rw [if_pos (by omega), if_neg h1, if_pos rfl]; omega
    · rw [if_neg (by omega), if_neg h1, if_neg h2]; omega
theorem trunc_agree (n : Nat) (h : Nat → Int) : Agree n (trunc n h) h := by
  intro j hj; unfold trunc; rw [if_pos hj]
theorem act_zero_fun (M : Mirrors) : ∀ (u : Word), act M u (fun _ => 0) = fun _ => 0
  | [] => rfl
  | i :: u => by
    have : rf M i (fun _ => 0) = fun _ => 0 := by funext j; simp [rf]
    rw [act_cons, this, act_zero_fun M u]
theorem units_zero {M : Mirrors} {u : Word} {s : Nat} (hu : IsWord M u) (hs : s < M.n) (z : ∀ r, r < M.n → act M u (unit r) s = 0) (h : Nat → Int) :
    act M u h s = 0 := by
  have key : ∀ k, k ≤ M.n → act M u (trunc k h) s = 0 := by
    intro k
    induction k with
    | zero =>
      intro _
      have : trunc 0 h = fun _ => 0 := by funext j; unfold trunc; rw [if_neg (by omega)]
      rw [this, act_zero_fun]
    | succ k ih =>
      intro hk
      rw [trunc_succ, act_lin]
      dsimp only
      rw [ih (by omega), z k (by omega)]; omega
  rw [← act_agree hu (trunc_agree M.n h) s hs]
  exact key M.n (Nat.le_refl _)
theorem units_eqv {M : Mirrors} {u v : Word} (hu : IsWord M u) (hv : IsWord M v)
    (z : ∀ r, r < M.n → ∀ j, j < M.n → act M u (unit r) j = act M v (unit r) j) : Eqv M u v := by
  intro h s hs
  have key : ∀ k, k ≤ M.n → act M u (trunc k h) s = act M v (trunc k h) s := by
    intro k
    induction k with
    | zero =>
      intro _
      have : trunc 0 h = fun _ => 0 := by funext j; unfold trunc; rw [if_neg (by omega)]
      rw [this, act_zero_fun, act_zero_fun]
    | succ k ih =>
      intro hk
      rw [trunc_succ, act_lin, act_lin]
      dsimp only
      rw [ih (by omega), z k (by omega) s hs]
  rw [← act_agree hu (trunc_agree M.n h) s hs, ← act_agree hv (trunc_agree M.n h) s hs]
  exact key M.n (Nat.le_refl _)
noncomputable def tail2 (s t : Nat) : Nat → Word
  | 0 => []
  | k + 1 => tail2 t s k ++ [t]
theorem tail2_length (k : Nat) : ∀ (s t : Nat), (tail2 s t k).length = k := by
  induction k with
  | zero => intro s t; rfl
  | succ k ih => intro s t; simp [tail2, ih]
theorem tail2_mem (k : Nat) : ∀ (s t : Nat), ∀ x ∈ tail2 s t k, x = s ∨ x = t := by
  induction k with
  | zero => intro s t x hx; cases hx
  | succ k ih =>
    intro s t x hx
    simp only [tail2, List.mem_append, List.mem_singleton] at hx
    rcases hx with hx | hx
    · exact (ih t s x hx).symm
    · exact Or.inr hx
theorem tail2_split (m : Nat) : ∀ (s t j : Nat), m ≤ j → ∃ a, tail2 s t j = a ++ tail2 s t m ∧ (∀ x ∈ a, x = s ∨ x = t) ∧ a.length = j - m := by
  induction m with
  | zero => intro s t j _; exact ⟨tail2 s t j, by simp [tail2], tail2_mem j s t, by simp [tail2_length]⟩
  | succ m ih =>
    intro s t j hj
    obtain ⟨j, rfl⟩ : ∃ k, j = k + 1 := ⟨j - 1, by omega⟩
    obtain ⟨a, e, w, l⟩ := ih t s j (by omega)
    refine ⟨a, ?_, fun x hx => (w x hx).symm, by omega⟩
    simp [tail2, e]
theorem two_letters (s t : Nat) : ∀ (k : Nat) (x : Word), x.length = k → (∀ c ∈ x, c = s ∨ c = t) →
    x = tail2 s t k ∨ x = tail2 t s k ∨ ∃ a c b, x = a ++ (c :: c :: b) := by
  intro k
  induction k with
  | zero =>
    intro x hx _
    left
    rw [List.length_eq_zero_iff.1 hx]; rfl
  | succ k ih =>
    intro x hx hm
    have hne : x ≠ [] := by intro h; rw [h] at hx; simp at hx
    obtain ⟨y, c, rfl⟩ : ∃ y c, x = y ++ [c] := ⟨x.dropLast, x.getLast hne, (List.dropLast_concat_getLast hne).symm⟩
    have hy : y.length = k := by simp at hx; exact hx
    have hc := hm c (by simp)
    have hmy : ∀ d ∈ y, d = s ∨ d = t := fun d hd => hm d (by simp [hd])
    rcases ih y hy hmy with e | e | ⟨a, d, b, e⟩
    · -- y ends with t
      rcases hc with rfl | rfl
      · right; left; rw [e]; rfl
      · cases k with
        | zero => left; rw [e]; rfl
        | succ k =>
          right; right
          refine ⟨tail2 c s k, c, [], ?_⟩
          rw [e]; simp [tail2]
    · rcases hc with rfl | rfl
      · cases k with
        | zero => right; left; rw [e]; rfl
        | succ k =>
          right; right
          refine ⟨tail2 c t k, c, [], ?_⟩
          rw [e]; simp [tail2]
      · left; rw [e]; rfl
    · right; right
      exact ⟨a, d, b ++ [c], by rw [e]; simp⟩
end Cox
end
section
set_option Elab.async false
namespace Cox
open Si07
theorem good_cases {M : Mirrors} (G : Good M) {s t : Nat} (hs : s < M.n) (ht : t < M.n) (ne : s ≠ t) :
    M.m s t = 0 ∨ M.m s t = 2 ∨ M.m s t = 3 ∨ M.m s t = 4 ∨ M.m s t = 6 := by
  obtain ⟨_, h1, h2⟩ := G.2.2 s t hs ht
  have : M.m s t ≠ 1 := fun h => ne (h1.1 h)
  clear h1
  generalize M.m s t = x at this h2 ⊢
  simp only [List.mem_cons, List.not_mem_nil, or_false] at h2
  rcases h2 with rfl | rfl | rfl | rfl | rfl | rfl <;> first | exact absurd rfl this | decide
theorem good_symm {M : Mirrors} (G : Good M) {s t : Nat} (hs : s < M.n) (ht : t < M.n) : M.m s t = M.m t s :=
  (G.2.2 s t hs ht).1
theorem rf_other (M : Mirrors) (s t : Nat) (g : Nat → Int) : rf M s g t = g t - cartan M s t * g s := rfl
theorem cartan_cases {M : Mirrors} (G : Good M) {s t : Nat} (hs : s < M.n) (ht : t < M.n) (ne : s ≠ t) :
    (M.m s t = 0 ∧ cartan M s t = -2 ∧ cartan M t s = -2) ∨
    (M.m s t = 2 ∧ cartan M s t = 0 ∧ cartan M t s = 0) ∨
    (M.m s t = 3 ∧ cartan M s t = -1 ∧ cartan M t s = -1) ∨
    (M.m s t = 4 ∧ ((cartan M s t = -1 ∧ cartan M t s = -2) ∨ (cartan M s t = -2 ∧ cartan M t s = -1))) ∨
    (M.m s t = 6 ∧ ((cartan M s t = -1 ∧ cartan M t s = -3) ∨ (cartan M s t = -3 ∧ cartan M t s = -1))) := by
  have sy := good_symm G hs ht
  have ne' : t ≠ s := fun h => ne h.symm
  rcases good_cases G hs ht ne with h | h | h | h | h
  · left; simp [cartan, ne, ne', h, ← sy]
  · right; left; simp [cartan, ne, ne', h, ← sy]
  · right; right; left; simp [cartan, ne, ne', h, ← sy]
  · right; right; right; left
    refine ⟨h, ?_⟩
    by_cases l : s < t
    · left; simp [cartan, ne, ne', h, ← sy, l]; omega
    · right; simp [cartan, ne, ne', h, ← sy, l]; omega
  · right; right; right; right
    refine ⟨h, ?_⟩
    by_cases l : s < t
    · left; simp [cartan, ne, ne', h, ← sy, l]; omega
    · right; simp [cartan, ne, ne', h, ← sy, l]; omega
theorem tail2_braid {M : Mirrors} (G : Good M) {s t : Nat} (hs : s < M.n) (ht : t < M.n) (ne : s ≠ t) (h0 : M.m s t ≠ 0) :
    Eqv M (tail2 s t (M.m s t)) (tail2 t s (M.m s t)) := by
  intro h k _
  have e1 : ∀ g, rf M s g s = - g s := rf_self M s
  have e3 : ∀ g, rf M t g t = - g t := rf_self M t
  have e2 := rf_other M s t
  have e4 := rf_other M t s
  have e5 := rf_other M s k
  have e6 := rf_other M t k
  generalize cartan M s k = c at e5
  generalize cartan M t k = d at e6
  rcases cartan_cases G hs ht ne with ⟨m, c1, c2⟩ | ⟨m, c1, c2⟩ | ⟨m, c1, c2⟩ | ⟨m, ⟨c1, c2⟩ | ⟨c1, c2⟩⟩ | ⟨m, ⟨c1, c2⟩ | ⟨c1, c2⟩⟩
  · exact absurd m h0
  all_goals
    rw [c1] at e2
    rw [c2] at e4
    rw [m]
    simp only [tail2, List.nil_append, List.cons_append, act_cons, act_nil]
    simp only [e5, e6]
    simp only [e1, e2, e3, e4]
    generalize h s = p
    generalize h t = q
    grind
noncomputable def co : Int → Int → Nat → (Int × Int) × (Int × Int)
  | _, _, 0 => ((1, 0), (0, 1))
  | a, b, k + 1 => (((co b a k).2.2 - b * (co b a k).1.2, (co b a k).2.1 - b * (co b a k).1.1), (-(co b a k).1.2, -(co b a k).1.1))
theorem co_act (M : Mirrors) (g : Nat → Int) : ∀ (k s t : Nat),
    act M (tail2 s t k) g s = (co (cartan M s t) (cartan M t s) k).1.1 * g s + (co (cartan M s t) (cartan M t s) k).1.2 * g t ∧
    act M (tail2 s t k) g t = (co (cartan M s t) (cartan M t s) k).2.1 * g s + (co (cartan M s t) (cartan M t s) k).2.2 * g t := by
  intro k
  induction k with
  | zero =>
    intro s t
    show g s = 1 * g s + 0 * g t ∧ g t = 0 * g s + 1 * g t
    rw [Int.one_mul, Int.zero_mul, Int.add_zero, Int.zero_mul, Int.one_mul, Int.zero_add]
    exact ⟨rfl, rfl⟩
  | succ k ih =>
    intro s t
    have f : act M (tail2 s t (k + 1)) g = rf M t (act M (tail2 t s k) g) := act_snoc ..
    obtain ⟨p, q⟩ := ih t s
    rw [f, rf_self, rf_other, p, q]
    show _ = ((co (cartan M t s) (cartan M s t) k).2.2 - cartan M t s * (co (cartan M t s) (cartan M s t) k).1.2) * g s + ((co (cartan M t s) (cartan M s t) k).2.1 - cartan M t s * (co (cartan M t s) (cartan M s t) k).1.1) * g t ∧ _ = (-(co (cartan M t s) (cartan M s t) k).1.2) * g s + (-(co (cartan M t s) (cartan M s t) k).1.1) * g t
    simp only [Int.sub_mul, Int.mul_add, Int.mul_assoc, Int.neg_mul]
    omega
theorem co_fin : ∀ q ∈ [((0 : Int), (0 : Int), 2), (-1, -1, 3), (-1, -2, 4), (-2, -1, 4), (-1, -3, 6), (-3, -1, 6)], ∀ j, j < q.2.2 → 0 ≤ (co q.1 q.2.1 j).1.1 ∧ 0 ≤ (co q.1 q.2.1 j).1.2 := by
  decide +kernel
theorem tail2_pos {M : Mirrors} (G : Good M) {s t : Nat} (hs : s < M.n) (ht : t < M.n) (ne : s ≠ t) {j : Nat}
    (hj : M.m s t = 0 ∨ j < M.m s t) {g : Nat → Int} (gs : 0 ≤ g s) (gt : 0 ≤ g t) : 0 ≤ act M (tail2 s t j) g s := by
  have e1 : ∀ g, rf M s g s = - g s := rf_self M s
  have e3 : ∀ g, rf M t g t = - g t := rf_self M t
  have e2 := rf_other M s t
  have e4 := rf_other M t s
  rcases cartan_cases G hs ht ne with ⟨m, c1, c2⟩ | H
  · rw [c1] at e2
    rw [c2] at e4
    have key : ∀ k, (0 ≤ act M (tail2 s t (k + 1)) g s + act M (tail2 s t (k + 1)) g t ∧ act M (tail2 s t (k + 1)) g t ≤ 0) ∧
        (0 ≤ act M (tail2 t s (k + 1)) g s + act M (tail2 t s (k + 1)) g t ∧ act M (tail2 t s (k + 1)) g s ≤ 0) := by
      intro k
      induction k with
      | zero =>
        simp only [tail2, List.nil_append, act_cons, act_nil, e1, e2, e3, e4]
        omega
      | succ k ih =>
        have f1 : act M (tail2 s t (k + 1 + 1)) g = rf M t (act M (tail2 t s (k + 1)) g) := act_snoc ..
        have f2 : act M (tail2 t s (k + 1 + 1)) g = rf M s (act M (tail2 s t (k + 1)) g) := act_snoc ..
        rw [f1, f2, e1, e2, e3, e4]
        omega
    cases j with
    | zero => exact gs
    | succ k => have := (key k).1; omega
  · have fin : ∀ a b m, M.m s t = m ∧ cartan M s t = a ∧ cartan M t s = b → (a, b, m) ∈ [((0 : Int), (0 : Int), 2), (-1, -1, 3), (-1, -2, 4), (-2, -1, 4), (-1, -3, 6), (-3, -1, 6)] → m ≠ 0 → 0 ≤ act M (tail2 s t j) g s := by
      intro a b m z i n0
      have hj : j < m := hj.elim (fun e => absurd (z.1.symm.trans e) n0) fun l => z.1 ▸ l
      have c := co_fin _ i j hj
      rw [(co_act M g j s t).1, z.2.1, z.2.2]
      exact Int.add_nonneg (Int.mul_nonneg c.1 gs) (Int.mul_nonneg c.2 gt)
    rcases H with z | z | ⟨m, z | z⟩ | ⟨m, z | z⟩
    · exact fin _ _ _ z (by decide) (by decide)
    · exact fin _ _ _ z (by decide) (by decide)
    · exact fin _ _ _ ⟨m, z⟩ (by decide) (by decide)
    · exact fin _ _ _ ⟨m, z⟩ (by decide) (by decide)
    · exact fin _ _ _ ⟨m, z⟩ (by decide) (by decide)
    · exact fin _ _ _ ⟨m, z⟩ (by decide) (by decide)
theorem exists_max {P : Nat → Prop} (b : Nat) (hb : ∀ k, P k → k ≤ b) : (∃ k, P k) → ∃ k, P k ∧ ∀ j, P j → j ≤ k := by
  rintro ⟨k, hk⟩
  induction h : b - k using Nat.strongRecOn generalizing k with
  | _ d ih =>
    by_cases q : ∃ j, P j ∧ k < j
    · obtain ⟨j, hj, l⟩ := q
      exact ih (b - j) (by have := hb j hj; omega) j hj rfl
    · exact ⟨k, hk, fun j hj => Nat.not_lt.1 fun l => q ⟨j, hj, l⟩⟩
def Red (M : Mirrors) (u : Word) : Prop := ∀ v, IsWord M v → Eqv M v u → u.length ≤ v.length
theorem isWord_two {M : Mirrors} {s t : Nat} (hs : s < M.n) (ht : t < M.n) {x : Word} (h : ∀ c ∈ x, c = s ∨ c = t) : IsWord M x := by
  intro c hc
  rcases h c hc with rfl | rfl <;> assumption
theorem pos {M : Mirrors} (G : Good M) : ∀ (k : Nat) (u : Word) (s : Nat), u.length = k → IsWord M u → s < M.n → Red M u →
    (∀ v, IsWord M v → Eqv M v (u ++ [s]) → u.length ≤ v.length) → ∀ h : Nat → Int, (∀ j, j < M.n → 0 ≤ h j) → 0 ≤ act M u h s := by
  intro k
  induction k using Nat.strongRecOn with
  | _ k ih =>
  intro u s hk wu hs ru rs h dom
  by_cases hne : u = []
  · subst hne; exact dom s hs
  obtain ⟨u', t, hu⟩ : ∃ y c, u = y ++ [c] := ⟨u.dropLast, u.getLast hne, (List.dropLast_concat_getLast hne).symm⟩
  have wu' := isWord_append.1 (hu ▸ wu)
  have ht : t < M.n := isWord_single.1 wu'.2
  have ul : u.length = u'.length + 1 := by rw [hu]; simp
  have ne : s ≠ t := by
    intro e
    have := rs u' wu'.1 (by rw [hu, e]; exact (eqv_snoc2 M u' t).symm)
    omega
  obtain ⟨j, ⟨v, x, wv, mx, ex, lx, jx⟩, jmax⟩ := exists_max (P := fun j => ∃ v x, IsWord M v ∧ (∀ c ∈ x, c = s ∨ c = t) ∧ Eqv M (v ++ x) u ∧ v.length + x.length = u.length ∧ x.length = j)
    u.length (by rintro j ⟨v, x, _, _, _, l, e⟩; omega) ⟨1, u', [t], wu'.1, by simp, by rw [hu]; exact Eqv.refl _ _, by simp [ul], rfl⟩
  have j1 : 1 ≤ j := jmax 1 ⟨u', [t], wu'.1, by simp, by rw [hu]; exact Eqv.refl _ _, by simp [ul], rfl⟩
  have wx : IsWord M x := isWord_two hs ht mx
  have nos : ∀ y, (∀ c ∈ y, c = s ∨ c = t) → y.length + 1 = x.length → ¬ Eqv M x (y ++ [s]) := by
    intro y my ly ey
    have wy : IsWord M y := isWord_two hs ht my
    have e1 : Eqv M (u ++ [s]) (v ++ y) := by
      have a1 : Eqv M (u ++ [s]) (v ++ x ++ [s]) := (ex.symm).right (isWord_single.2 hs)
      have a2 : Eqv M (v ++ x ++ [s]) (v ++ (y ++ [s]) ++ [s]) := (ey.left v).right (isWord_single.2 hs)
      have a3 : Eqv M (v ++ (y ++ [s]) ++ [s]) (v ++ y) := by
        have := eqv_snoc2 M (v ++ y) s
        rwa [List.append_assoc v y [s]] at this
      exact (a1.trans a2).trans a3
    have := rs (v ++ y) (isWord_append.2 ⟨wv, wy⟩) e1.symm
    rw [List.length_append] at this
    omega
  have hx : x = tail2 s t j := by
    rcases two_letters s t j x jx mx with e | e | ⟨a, c, b, e⟩
    · exact e
    · exfalso
      obtain ⟨i, rfl⟩ : ∃ i, j = i + 1 := ⟨j - 1, by omega⟩
      refine nos (tail2 s t i) (tail2_mem i s t) (by rw [tail2_length]; omega) ?_
      rw [e]; exact Eqv.refl _ _
    · exfalso
      have wab : IsWord M (a ++ b) := by
        rw [e] at wx
        obtain ⟨p, q⟩ := isWord_append.1 wx
        exact isWord_append.2 ⟨p, (isWord_cons.1 (isWord_cons.1 q).2).2⟩
      have e2 : Eqv M (v ++ (a ++ b)) u := by
        refine Eqv.trans ?_ ex
        rw [e]
        exact ((eqv_double M a b c).symm).left v
      have := ru (v ++ (a ++ b)) (isWord_append.2 ⟨wv, wab⟩) e2
      rw [e] at lx
      simp only [List.length_append, List.length_cons] at this lx
      omega
  have hj : M.m s t = 0 ∨ j < M.m s t := by
    by_cases m0 : M.m s t = 0
    · exact Or.inl m0
    · right
      refine Nat.not_le.1 fun le => ?_
      obtain ⟨a, ea, ma, la⟩ := tail2_split (M.m s t) s t j le
      obtain ⟨i, hi⟩ : ∃ i, M.m s t = i + 1 := ⟨M.m s t - 1, by omega⟩
      refine nos (a ++ tail2 s t i) ?_ ?_ ?_
      · intro c hc
        rcases List.mem_append.1 hc with h | h
        · exact ma c h
        · exact tail2_mem i s t c h
      · rw [List.length_append, tail2_length, jx]; omega
      · have b := (tail2_braid G hs ht ne m0).left a
        rw [← ea, ← hx] at b
        refine b.trans ?_
        rw [hi, List.append_assoc]
        exact Eqv.refl _ _
  have rv : Red M v := by
    intro v' wv' e
    have := ru (v' ++ x) (isWord_append.2 ⟨wv', wx⟩) ((e.right wx).trans ex)
    rw [List.length_append] at this
    omega
  have rr : ∀ c, (c = s ∨ c = t) → ∀ y, IsWord M y → Eqv M y (v ++ [c]) → v.length ≤ y.length := by
    intro c hc y wy ey
    have hcn : c < M.n := by rcases hc with rfl | rfl <;> assumption
    refine Nat.not_lt.1 fun lt => ?_
    have e1 : Eqv M (y ++ (c :: x)) u := by
      have a1 : Eqv M (y ++ (c :: x)) (v ++ [c] ++ (c :: x)) := ey.right (isWord_cons.2 ⟨hcn, wx⟩)
      have a2 : Eqv M (v ++ [c] ++ (c :: x)) (v ++ x) := by
        have := eqv_double M v x c
        simpa using this
      exact (a1.trans a2).trans ex
    have l1 := ru (y ++ (c :: x)) (isWord_append.2 ⟨wy, isWord_cons.2 ⟨hcn, wx⟩⟩) e1
    simp only [List.length_append, List.length_cons] at l1
    have := jmax (j + 1) ⟨y, c :: x, wy, by
      intro d hd
      rcases List.mem_cons.1 hd with rfl | hd
      · exact hc
      · exact mx d hd, e1, by simp only [List.length_cons]; omega, by simp only [List.length_cons]; omega⟩
    omega
  have ps := ih v.length (by omega) v s rfl wv hs rv (rr s (Or.inl rfl)) h dom
  have pt := ih v.length (by omega) v t rfl wv ht rv (rr t (Or.inr rfl)) h dom
  rw [← ex h s hs, act_append, hx]
  exact tail2_pos G hs ht ne hj ps pt
end Cox
end
section
set_option Elab.async false
namespace Cox
open Si07
theorem exists_red (M : Mirrors) : ∀ (k : Nat) (u : Word), u.length = k → IsWord M u → ∃ v, IsWord M v ∧ Eqv M v u ∧ Red M v := by
  intro k
  induction k using Nat.strongRecOn with
  | _ k ih =>
    intro u hk wu
    by_cases q : ∃ v, IsWord M v ∧ Eqv M v u ∧ v.length < u.length
    · obtain ⟨v, wv, ev, lv⟩ := q
      obtain ⟨w, ww, ew, rw'⟩ := ih v.length (by omega) v rfl wv
      exact ⟨w, ww, ew.trans ev, rw'⟩
    · exact ⟨u, wu, Eqv.refl _ _, fun v wv ev => Nat.not_lt.1 fun l => q ⟨v, wv, ev, l⟩⟩
open Classical in
noncomputable def len (M : Mirrors) (u : Word) : Nat :=
  if h : IsWord M u then (exists_red M u.length u rfl h).choose.length else 0
theorem len_ex {M : Mirrors} {u : Word} (h : IsWord M u) : ∃ v, IsWord M v ∧ Eqv M v u ∧ Red M v ∧ v.length = len M u := by
  have := (exists_red M u.length u rfl h).choose_spec
  refine ⟨_, this.1, this.2.1, this.2.2, ?_⟩
  unfold len; rw [dif_pos h]
theorem len_min {M : Mirrors} {u v : Word} (hu : IsWord M u) (hv : IsWord M v) (e : Eqv M v u) : len M u ≤ v.length := by
  obtain ⟨w, ww, ew, rw', lw⟩ := len_ex hu
  rw [← lw]; exact rw' v hv (e.trans ew.symm)
theorem len_le {M : Mirrors} {u : Word} (hu : IsWord M u) : len M u ≤ u.length := len_min hu hu (Eqv.refl _ _)
theorem len_eqv {M : Mirrors} {u v : Word} (hu : IsWord M u) (hv : IsWord M v) (e : Eqv M u v) : len M u = len M v := by
  obtain ⟨x, wx, ex, _, lx⟩ := len_ex hu
  obtain ⟨y, wy, ey, _, ly⟩ := len_ex hv
  have a := len_min hu wy (ey.trans e.symm)
  have b := len_min hv wx (ex.trans e)
  omega
theorem red_len {M : Mirrors} {u : Word} (hu : IsWord M u) : Red M u ↔ len M u = u.length := by
  constructor
  · intro r
    obtain ⟨v, wv, ev, _, lv⟩ := len_ex hu
    have := r v wv ev
    have := len_le hu
    omega
  · intro e v wv ev
    rw [← e]; exact len_min hu wv ev
theorem len_nil (M : Mirrors) : len M [] = 0 := by
  have := len_le (isWord_nil M)
  simpa using this
theorem eqv_nil_of_len {M : Mirrors} {u : Word} (hu : IsWord M u) (e : len M u = 0) : Eqv M u [] := by
  obtain ⟨v, _, ev, _, lv⟩ := len_ex hu
  rw [e] at lv
  rw [List.length_eq_zero_iff.1 lv] at ev
  exact ev.symm
theorem len_snoc_le {M : Mirrors} {u : Word} {s : Nat} (hu : IsWord M u) (hs : s < M.n) : len M (u ++ [s]) ≤ len M u + 1 := by
  obtain ⟨v, wv, ev, _, lv⟩ := len_ex hu
  have := len_min (isWord_snoc hu hs) (isWord_snoc wv hs) (ev.right (isWord_single.2 hs))
  simp only [List.length_append, List.length_cons, List.length_nil] at this
  omega
theorem len_snoc2 {M : Mirrors} {u : Word} {s : Nat} (hu : IsWord M u) (hs : s < M.n) : len M (u ++ [s] ++ [s]) = len M u :=
  len_eqv (isWord_snoc (isWord_snoc hu hs) hs) hu (eqv_snoc2 M u s)
theorem len_snoc_ge {M : Mirrors} {u : Word} {s : Nat} (hu : IsWord M u) (hs : s < M.n) : len M u ≤ len M (u ++ [s]) + 1 := by
  have := len_snoc_le (isWord_snoc hu hs) hs
  rw [len_snoc2 hu hs] at this
  exact this
theorem pos_of_le {M : Mirrors} (G : Good M) {u : Word} {s : Nat} (hu : IsWord M u) (hs : s < M.n) (le : len M u ≤ len M (u ++ [s]))
    {h : Nat → Int} (dom : ∀ j, j < M.n → 0 ≤ h j) : 0 ≤ act M u h s := by
  obtain ⟨v, wv, ev, rv, lv⟩ := len_ex hu
  rw [← ev h s hs]
  refine pos G v.length v s rfl wv hs rv ?_ h dom
  intro y wy ey
  have := len_min (isWord_snoc hu hs) wy (ey.trans (ev.right (isWord_single.2 hs)))
  omega
theorem neg_of_ge {M : Mirrors} (G : Good M) {u : Word} {s : Nat} (hu : IsWord M u) (hs : s < M.n) (le : len M (u ++ [s]) ≤ len M u)
    {h : Nat → Int} (dom : ∀ j, j < M.n → 0 ≤ h j) : act M u h s ≤ 0 := by
  have := pos_of_le G (isWord_snoc hu hs) hs (by rw [len_snoc2 hu hs]; exact le) dom
  rw [act_snoc, rf_self] at this
  omega
noncomputable def one : Nat → Int := fun _ => 1
theorem one_dom (n : Nat) : ∀ j, j < n → 0 ≤ one j := fun _ _ => by unfold one; omega
theorem bound (g : Nat → Int) : ∀ n : Nat, ∃ N : Int, 0 ≤ N ∧ ∀ j, j < n → g j ≤ N ∧ -g j ≤ N
  | 0 => ⟨0, by omega, fun j hj => by omega⟩
  | n + 1 => by
    obtain ⟨N, h0, hN⟩ := bound g n
    refine ⟨N + (g n).natAbs, by omega, fun j hj => ?_⟩
    by_cases q : j < n
    · have := hN j q; omega
    · have : j = n := by omega
      subst this; omega
theorem act_one_ne {M : Mirrors} (G : Good M) {u : Word} {s : Nat} (hu : IsWord M u) (hs : s < M.n) : act M u one s ≠ 0 := by
  intro z
  have hg : act M u (act M u.reverse (unit s)) = unit s := act_forth M u (unit s)
  generalize act M u.reverse (unit s) = g at hg
  obtain ⟨N, N0, hN⟩ := bound g M.n
  have d1 : ∀ j, j < M.n → 0 ≤ (fun j => N * one j + 1 * g j) j := by
    intro j hj; have := hN j hj; dsimp only [one]; omega
  have d2 : ∀ j, j < M.n → 0 ≤ (fun j => N * one j + (-1) * g j) j := by
    intro j hj; have := hN j hj; dsimp only [one]; omega
  have us : unit s s = 1 := by simp [unit]
  rcases Nat.le_total (len M u) (len M (u ++ [s])) with le | le
  · have := pos_of_le G hu hs le d2
    rw [act_lin] at this
    dsimp only at this
    rw [hg, z, us] at this
    omega
  · have := neg_of_ge G hu hs le d1
    rw [act_lin] at this
    dsimp only at this
    rw [hg, z, us] at this
    omega
theorem len_snoc_ne {M : Mirrors} (G : Good M) {u : Word} {s : Nat} (hu : IsWord M u) (hs : s < M.n) : len M (u ++ [s]) ≠ len M u := by
  intro e
  have a := pos_of_le G hu hs (by omega) (one_dom M.n)
  have b := neg_of_ge G hu hs (by omega) (one_dom M.n)
  exact act_one_ne G hu hs (by omega)
theorem height_neg {M : Mirrors} (G : Good M) {u : Word} {s : Nat} (hu : IsWord M u) (hs : s < M.n) :
    act M u one s < 0 ↔ len M (u ++ [s]) < len M u := by
  constructor
  · intro h
    refine Nat.not_le.1 fun le => ?_
    have := pos_of_le G hu hs le (one_dom M.n)
    omega
  · intro h
    have := neg_of_ge G hu hs (by omega) (one_dom M.n)
    have := act_one_ne G hu hs
    omega
theorem len_down {M : Mirrors} {u : Word} {s : Nat} (hu : IsWord M u) (hs : s < M.n) (h : len M (u ++ [s]) < len M u) :
    len M (u ++ [s]) + 1 = len M u := by
  have := len_snoc_ge hu hs
  omega
theorem len_up {M : Mirrors} (G : Good M) {u : Word} {s : Nat} (hu : IsWord M u) (hs : s < M.n) (h : ¬ len M (u ++ [s]) < len M u) :
    len M (u ++ [s]) = len M u + 1 := by
  have := len_snoc_le hu hs
  have := len_snoc_ne G hu hs
  omega
theorem exists_down {M : Mirrors} {u : Word} (hu : IsWord M u) (h : len M u ≠ 0) : ∃ s, s < M.n ∧ len M (u ++ [s]) < len M u := by
  obtain ⟨v, wv, ev, _, lv⟩ := len_ex hu
  have hne : v ≠ [] := by intro e; rw [e] at lv; simp at lv; omega
  obtain ⟨y, c, rfl⟩ : ∃ y c, v = y ++ [c] := ⟨v.dropLast, v.getLast hne, (List.dropLast_concat_getLast hne).symm⟩
  obtain ⟨wy, wc⟩ := isWord_append.1 wv
  have hc := isWord_single.1 wc
  refine ⟨c, hc, ?_⟩
  have e : Eqv M y (u ++ [c]) := ((eqv_snoc2 M y c).symm).trans (ev.right wc)
  have := len_min (isWord_snoc hu hc) wy e
  simp only [List.length_append, List.length_cons, List.length_nil] at lv
  omega
theorem all_up {M : Mirrors} (G : Good M) {u : Word} (hu : IsWord M u) (h : ∀ s, s < M.n → ¬ act M u one s < 0) : Eqv M u [] := by
  refine eqv_nil_of_len hu (Decidable.byContradiction fun ne => ?_)
  obtain ⟨s, hs, l⟩ := exists_down hu ne
  exact h s hs ((height_neg G hu hs).2 l)
theorem eqv_of_heights {M : Mirrors} (G : Good M) : ∀ (k : Nat) (u v : Word), len M u = k → IsWord M u → IsWord M v →
    Agree M.n (act M u one) (act M v one) → Eqv M u v := by
  intro k
  induction k with
  | zero =>
    intro u v hk hu hv a
    have eu := eqv_nil_of_len hu hk
    refine eu.trans (Eqv.symm (all_up G hv fun s hs => ?_))
    rw [← a s hs, eu one s hs]
    show ¬ (1 : Int) < 0
    omega
  | succ k ih =>
    intro u v hk hu hv a
    obtain ⟨s, hs, l⟩ := exists_down hu (by omega)
    have := len_down hu hs l
    refine Eqv.cancel_right (isWord_single.2 hs) (ih (u ++ [s]) (v ++ [s]) (by omega) (isWord_snoc hu hs) (isWord_snoc hv hs) ?_)
    rw [act_snoc, act_snoc]
    exact rf_agree hs a
theorem heights_eqv {M : Mirrors} (G : Good M) {u v : Word} (hu : IsWord M u) (hv : IsWord M v) :
    Agree M.n (act M u one) (act M v one) ↔ Eqv M u v :=
  ⟨fun a => eqv_of_heights G _ u v rfl hu hv a, fun e => e one⟩
noncomputable def matOf (M : Mirrors) (u : Word) : Mat := (List.range M.n).map fun j => (List.range M.n).map fun r => act M u (unit r) j
theorem unitM_eq (M : Mirrors) : unitM M.n = matOf M [] := by
  unfold unitM matOf
  refine List.map_congr_left fun i _ => List.map_congr_left fun j _ => ?_
  rfl
theorem col_matOf {M : Mirrors} {u : Word} {j : Nat} (hj : j < M.n) : col (matOf M u) j = (List.range M.n).map fun r => act M u (unit r) j := by
  unfold col matOf
  rw [List.getD_eq_getElem?_getD, List.getElem?_map, List.getElem?_range hj]
  rfl
theorem timesS_matOf {M : Mirrors} {u : Word} {i : Nat} (hi : i < M.n) : timesS M (matOf M u) i = matOf M (u ++ [i]) := by
  unfold timesS
  rw [show matOf M (u ++ [i]) = (List.range M.n).map fun j => (List.range M.n).map fun r => act M (u ++ [i]) (unit r) j from rfl]
  refine List.map_congr_left fun j hj => ?_
  rw [col_matOf (List.mem_range.1 hj), col_matOf hi, List.zipWith_map, List.zipWith_self]
  refine List.map_congr_left fun r _ => ?_
  rw [act_snoc]; rfl
theorem foldl_matOf {M : Mirrors} : ∀ (v u : Word), IsWord M v → v.foldl (timesS M) (matOf M u) = matOf M (u ++ v)
  | [], u, _ => by simp
  | i :: v, u, w => by
    obtain ⟨a, b⟩ := isWord_cons.1 w
    rw [List.foldl_cons, timesS_matOf a, foldl_matOf v (u ++ [i]) b]
    simp
theorem ofWord_eq {M : Mirrors} {u : Word} (hu : IsWord M u) : ofWord M u = matOf M u := by
  unfold ofWord
  rw [unitM_eq, foldl_matOf u [] hu]; rfl
theorem map_range_inj {α : Type} {n : Nat} {f g : Nat → α} (h : (List.range n).map f = (List.range n).map g) : ∀ j, j < n → f j = g j := by
  intro j hj
  have := congrArg (fun l => l[j]?) h
  simp only [List.getElem?_map, List.getElem?_range hj, Option.map_some, Option.some.injEq] at this
  exact this
theorem matOf_inj {M : Mirrors} {u v : Word} (hu : IsWord M u) (hv : IsWord M v) : matOf M u = matOf M v ↔ Eqv M u v := by
  constructor
  · intro h
    refine units_eqv hu hv fun r hr j hj => ?_
    exact map_range_inj (map_range_inj h j hj) r hr
  · intro e
    unfold matOf
    refine List.map_congr_left fun j hj => List.map_congr_left fun r _ => ?_
    exact e (unit r) j (List.mem_range.1 hj)
theorem negative_col {M : Mirrors} (G : Good M) {u : Word} {s : Nat} (hu : IsWord M u) (hs : s < M.n) :
    negative (col (matOf M u) s) = true ↔ len M (u ++ [s]) < len M u := by
  rw [col_matOf hs]
  unfold negative
  rw [List.any_eq_true]
  have ud : ∀ r j, j < M.n → 0 ≤ unit r j := by intro r j _; unfold unit; split <;> omega
  constructor
  · rintro ⟨x, hx, lt⟩
    obtain ⟨r, _, rfl⟩ := List.mem_map.1 hx
    have lt := of_decide_eq_true lt
    refine Nat.not_le.1 fun le => ?_
    have := pos_of_le G hu hs le (ud r)
    omega
  · intro l
    refine Decidable.byContradiction fun none => ?_
    refine act_one_ne G hu hs (units_zero hu hs (fun r hr => ?_) one)
    have a := neg_of_ge G hu hs (by omega) (ud r)
    have b : ¬ act M u (unit r) s < 0 := fun lt => none ⟨_, List.mem_map.2 ⟨r, List.mem_range.2 hr, rfl⟩, decide_eq_true lt⟩
    omega
theorem negative_iff {M : Mirrors} (G : Good M) {u : Word} {s : Nat} (hu : IsWord M u) (hs : s < M.n) :
    negative (col (matOf M u) s) = decide (act M u one s < 0) := by
  rw [Bool.eq_iff_iff, negative_col G hu hs, decide_eq_true_iff, height_neg G hu hs]
end Cox
end
section
set_option Elab.async false
namespace Cox
open Si07
def Down (M : Mirrors) (u : Word) (s : Nat) : Prop := len M (u ++ [s]) < len M u
theorem down_eqv {M : Mirrors} {u v : Word} {s : Nat} (hu : IsWord M u) (hv : IsWord M v) (hs : s < M.n) (e : Eqv M u v) :
    Down M u s ↔ Down M v s := by
  unfold Down
  rw [len_eqv hu hv e, len_eqv (isWord_snoc hu hs) (isWord_snoc hv hs) (e.right (isWord_single.2 hs))]
theorem down_height {M : Mirrors} (G : Good M) {u : Word} {s : Nat} (hu : IsWord M u) (hs : s < M.n) : Down M u s ↔ act M u one s < 0 :=
  (height_neg G hu hs).symm
theorem down_snoc {M : Mirrors} (G : Good M) {u : Word} {s : Nat} (hu : IsWord M u) (hs : s < M.n) : Down M (u ++ [s]) s ↔ ¬ Down M u s := by
  unfold Down
  rw [len_snoc2 hu hs]
  have := len_snoc_ne G hu hs
  omega
theorem not_down_nil (M : Mirrors) (s : Nat) : ¬ Down M [] s := by
  unfold Down; rw [len_nil]; omega
theorem len_reverse_le {M : Mirrors} {u : Word} (hu : IsWord M u) : len M u.reverse ≤ len M u := by
  obtain ⟨v, wv, ev, _, lv⟩ := len_ex hu
  have := len_min (isWord_reverse hu) (isWord_reverse wv) (ev.rev hu)
  rw [List.length_reverse] at this
  omega
theorem len_reverse {M : Mirrors} {u : Word} (hu : IsWord M u) : len M u.reverse = len M u := by
  have a := len_reverse_le hu
  have b := len_reverse_le (isWord_reverse hu)
  rw [List.reverse_reverse] at b
  omega
theorem exchange1 {M : Mirrors} (G : Good M) {t s : Nat} {z : Word} (ht : t < M.n) (hs : s < M.n) (hz : IsWord M z)
    (up : ¬ Down M z s) (dn : Down M (t :: z) s) : Eqv M ((t :: z) ++ [s]) z := by
  have wtz : IsWord M (t :: z) := isWord_cons.2 ⟨ht, hz⟩
  have ud : ∀ r j, j < M.n → 0 ≤ unit r j := by intro r j _; unfold unit; split <;> omega
  have upos : ∀ h : Nat → Int, (∀ j, j < M.n → 0 ≤ h j) → 0 ≤ act M z h s := fun h d => pos_of_le G hz hs (by unfold Down at up; omega) d
  have dneg : ∀ h : Nat → Int, (∀ j, j < M.n → 0 ≤ h j) → act M (t :: z) h s ≤ 0 := fun h d => neg_of_ge G wtz hs (by unfold Down at dn; omega) d
  have ut : ∀ r, r ≠ t → rf M t (unit r) = unit r := by
    intro r hr; funext j; unfold rf
    have : unit r t = 0 := by unfold unit; rw [if_neg (fun e => hr e.symm)]
    rw [this]; omega
  have zr : ∀ r, r ≠ t → act M z (unit r) s = 0 := by
    intro r hr
    have a := upos (unit r) (ud r)
    have b := dneg (unit r) (ud r)
    rw [act_cons, ut r hr] at b
    omega
  have mult : ∀ h : Nat → Int, act M z h s = h t * act M z (unit t) s := by
    intro h
    have hz0 := units_zero (M := M) (u := z) (s := s) hz hs
    have key : ∀ k, k ≤ M.n → act M z (trunc k (fun j => 1 * h j + (- h t) * unit t j)) s = 0 := by
      intro k
      induction k with
      | zero =>
        intro _
        have : ∀ g, trunc 0 g = fun _ => 0 := by intro g; funext j; unfold trunc; rw [if_neg (by omega)]
        rw [this, act_zero_fun]
      | succ k ih =>
        intro hk
        rw [trunc_succ, act_lin]
        dsimp only
        rw [ih (by omega)]
        by_cases e : k = t
        · subst e
          have : unit k k = 1 := by simp [unit]
          rw [this]
          have : (1 * h k + -h k * 1 : Int) = 0 := by omega
          rw [this]; omega
        · rw [zr k e]; omega
    have e1 := key M.n (Nat.le_refl _)
    rw [act_agree hz (trunc_agree M.n _) s hs, act_lin] at e1
    dsimp only at e1
    have : (-h t * act M z (unit t) s : Int) = -(h t * act M z (unit t) s) := Int.neg_mul ..
    omega
  have us : unit s s = 1 := by simp [unit]
  have b1 : act M z (unit t) s = 1 := by
    have e := mult (act M z.reverse (unit s))
    rw [act_forth, us] at e
    have p := upos (unit t) (ud t)
    exact Int.eq_one_of_mul_eq_one_left p e.symm
  have m1 : ∀ h : Nat → Int, act M z h s = h t := by intro h; rw [mult h, b1]; omega
  have back : ∀ g : Nat → Int, act M z.reverse g t = g s := by
    intro g
    have := m1 (act M z.reverse g)
    rw [act_forth] at this
    exact this.symm
  have wx : IsWord M ((t :: z) ++ [s] ++ z.reverse) := isWord_append.2 ⟨isWord_snoc wtz hs, isWord_reverse hz⟩
  have ex : Eqv M ((t :: z) ++ [s] ++ z.reverse) [] := by
    refine all_up G wx fun j hj lt => ?_
    have dj := (height_neg G wx hj).1 lt
    by_cases e : j = t
    · subst e
      have e1 : act M ((j :: z) ++ [s] ++ z.reverse) one j = one j := by
        rw [act_append, back, act_snoc, rf_self, act_cons, m1, rf_self]; omega
      rw [e1] at lt
      unfold one at lt; omega
    · have n1 := neg_of_ge G wx hj (by omega) (ud j)
      have e1 : act M ((t :: z) ++ [s] ++ z.reverse) (unit j) = unit j := by
        have e2 : rf M s (act M z (unit j)) = act M z (unit j) := by
          funext k; unfold rf; rw [zr j e]; omega
        rw [act_append, act_snoc, act_cons, ut j e, e2, act_back]
      rw [e1] at n1
      have : unit j j = 1 := by simp [unit]
      omega
  have e3 := ex.right hz
  intro h
  have := e3 h
  rw [act_append, act_append, act_forth] at this
  exact this
theorem exchange {M : Mirrors} (G : Good M) {s : Nat} (hs : s < M.n) : ∀ (y : Word), IsWord M y → Down M y s →
    ∃ a c b, y = a ++ (c :: b) ∧ Eqv M (y ++ [s]) (a ++ b)
  | [], _, d => absurd d (not_down_nil M s)
  | t :: z, w, d => by
    obtain ⟨ht, hz⟩ := isWord_cons.1 w
    by_cases dz : Down M z s
    · obtain ⟨a, c, b, e, q⟩ := exchange G hs z hz dz
      exact ⟨t :: a, c, b, by rw [e]; rfl, q.left [t]⟩
    · exact ⟨[], t, z, rfl, exchange1 G ht hs hz dz d⟩
def Out (M : Mirrors) (x a : Word) : Prop := ∃ t, List.Sublist t x ∧ Eqv M a t
theorem isWord_sublist {M : Mirrors} {t x : Word} (h : List.Sublist t x) (w : IsWord M x) : IsWord M t := fun c hc => w c (h.subset hc)
theorem Out.eqv {M : Mirrors} {x a b : Word} (h : Out M x a) (e : Eqv M b a) : Out M x b := by
  obtain ⟨t, st, et⟩ := h; exact ⟨t, st, e.trans et⟩
theorem out_self (M : Mirrors) (x : Word) : Out M x x := ⟨x, List.Sublist.refl _, Eqv.refl _ _⟩
theorem out_nil {M : Mirrors} {a : Word} : Out M [] a ↔ Eqv M a [] := by
  constructor
  · rintro ⟨t, st, e⟩
    rw [List.sublist_nil.1 st] at e; exact e
  · intro e; exact ⟨[], List.Sublist.refl _, e⟩
theorem out_snoc {M : Mirrors} {x a : Word} {s : Nat} (hs : s < M.n) : Out M (x ++ [s]) a ↔ Out M x a ∨ Out M x (a ++ [s]) := by
  have ws : IsWord M [s] := isWord_single.2 hs
  constructor
  · rintro ⟨t, st, e⟩
    obtain ⟨l1, l2, rfl, h1, h2⟩ := List.sublist_append_iff.1 st
    cases l2 with
    | nil => left; rw [List.append_nil] at e; exact ⟨l1, h1, e⟩
    | cons c r =>
      right
      have hl := h2.length_le
      simp only [List.length_cons, List.length_nil] at hl
      have : r = [] := List.length_eq_zero_iff.1 (by omega)
      subst this
      have : c = s := by have := h2.subset (List.mem_cons_self ..); simpa using this
      subst this
      exact ⟨l1, h1, (e.right ws).trans (eqv_snoc2 M l1 c)⟩
  · rintro (⟨t, st, e⟩ | ⟨t, st, e⟩)
    · exact ⟨t, st.trans (List.sublist_append_left ..), e⟩
    · refine ⟨t ++ [s], List.Sublist.append st (List.Sublist.refl _), ?_⟩
      exact ((eqv_snoc2 M a s).symm).trans (e.right ws)
theorem out_down {M : Mirrors} (G : Good M) {x a : Word} {s : Nat} (hs : s < M.n) (wx : IsWord M x) (wa : IsWord M a)
    (h : Out M x a) (d : Down M a s) : Out M x (a ++ [s]) := by
  obtain ⟨t, st, e⟩ := h
  have wt := isWord_sublist st wx
  obtain ⟨p, c, q, rfl, ex⟩ := exchange G hs t wt ((down_eqv wa wt hs e).1 d)
  refine ⟨p ++ q, List.Sublist.trans ?_ st, (e.right (isWord_single.2 hs)).trans ex⟩
  exact List.Sublist.append (List.Sublist.refl _) (List.sublist_cons_self ..)
theorem two_end {M : Mirrors} {u : Word} {s t : Nat} (wu : IsWord M u) (ru : Red M u) (hs : s < M.n) (ht : t < M.n) :
    ∃ v x, IsWord M v ∧ (∀ c ∈ x, c = s ∨ c = t) ∧ Eqv M (v ++ x) u ∧ v.length + x.length = u.length ∧ Red M v ∧ ¬ Down M v s ∧ ¬ Down M v t := by
  obtain ⟨j, ⟨v, x, wv, mx, ex, lx, jx⟩, jmax⟩ := exists_max (P := fun j => ∃ v x, IsWord M v ∧ (∀ c ∈ x, c = s ∨ c = t) ∧ Eqv M (v ++ x) u ∧ v.length + x.length = u.length ∧ x.length = j)
    u.length (by rintro j ⟨v, x, _, _, _, l, e⟩; omega) ⟨0, u, [], wu, by simp, by rw [List.append_nil]; exact Eqv.refl _ _, by simp, rfl⟩
  have wx : IsWord M x := isWord_two hs ht mx
  have rv : Red M v := by
    intro v' wv' e
    have := ru (v' ++ x) (isWord_append.2 ⟨wv', wx⟩) ((e.right wx).trans ex)
    rw [List.length_append] at this
    omega
  have rr : ∀ c, (c = s ∨ c = t) → ¬ Down M v c := by
    intro c hc d
    have hcn : c < M.n := by rcases hc with rfl | rfl <;> assumption
    obtain ⟨y, wy, ey, _, ly⟩ := len_ex (isWord_snoc wv hcn)
    have lv := (red_len wv).1 rv
    unfold Down at d
    have e1 : Eqv M (y ++ (c :: x)) u := by
      have a1 : Eqv M (y ++ (c :: x)) (v ++ [c] ++ (c :: x)) := ey.right (isWord_cons.2 ⟨hcn, wx⟩)
      have a2 : Eqv M (v ++ [c] ++ (c :: x)) (v ++ x) := by
        have := eqv_double M v x c
        simpa using this
      exact (a1.trans a2).trans ex
    have l1 := ru (y ++ (c :: x)) (isWord_append.2 ⟨wy, isWord_cons.2 ⟨hcn, wx⟩⟩) e1
    simp only [List.length_append, List.length_cons] at l1
    have := jmax (j + 1) ⟨y, c :: x, wy, by
      intro d hd
      rcases List.mem_cons.1 hd with rfl | hd
      · exact hc
      · exact mx d hd, e1, by simp only [List.length_cons]; omega, by simp only [List.length_cons]; omega⟩
    omega
  exact ⟨v, x, wv, mx, ex, lx, rv, rr s (Or.inl rfl), rr t (Or.inr rfl)⟩
theorem two_down {M : Mirrors} (G : Good M) {u : Word} {s t : Nat} (wu : IsWord M u) (ru : Red M u) (hs : s < M.n) (ht : t < M.n) (ne : s ≠ t)
    (ds : Down M u s) (dt : Down M u t) :
    M.m s t ≠ 0 ∧ ∃ z, IsWord M z ∧ Eqv M (z ++ tail2 s t (M.m s t)) u ∧ z.length + M.m s t = u.length := by
  obtain ⟨v, x, wv, mx, ex, lx, rv, us, ut⟩ := two_end wu ru hs ht
  have wx : IsWord M x := isWord_two hs ht mx
  have ps := pos_of_le G wv hs (by unfold Down at us; omega) (one_dom M.n)
  have pt := pos_of_le G wv ht (by unfold Down at ut; omega) (one_dom M.n)
  have hds := (down_height G wu hs).1 ds
  have hdt := (down_height G wu ht).1 dt
  rw [← ex one s hs, act_append] at hds
  rw [← ex one t ht, act_append] at hdt
  rcases two_letters s t x.length x rfl mx with e | e | ⟨a, c, b, e⟩
  · have hj : ¬ (M.m s t = 0 ∨ x.length < M.m s t) := by
      intro hj
      have := tail2_pos G hs ht ne hj ps pt
      rw [← e] at this; omega
    refine ⟨fun h => hj (Or.inl h), ?_⟩
    obtain ⟨a, ea, ma, la⟩ := tail2_split (M.m s t) s t x.length (by omega)
    refine ⟨v ++ a, isWord_append.2 ⟨wv, isWord_two hs ht ma⟩, ?_, ?_⟩
    · rw [List.append_assoc, ← ea, ← e]; exact ex
    · rw [List.length_append]; omega
  · have sy := good_symm G hs ht
    have hj : ¬ (M.m t s = 0 ∨ x.length < M.m t s) := by
      intro hj
      have := tail2_pos G ht hs (fun h => ne h.symm) hj pt ps
      rw [← e] at this; omega
    have m0 : M.m s t ≠ 0 := fun h => hj (Or.inl (by omega))
    refine ⟨m0, ?_⟩
    obtain ⟨a, ea, ma, la⟩ := tail2_split (M.m s t) t s x.length (by omega)
    refine ⟨v ++ a, isWord_append.2 ⟨wv, isWord_two ht hs ma⟩, ?_, ?_⟩
    · refine Eqv.trans ((tail2_braid G hs ht ne m0).left (v ++ a)) ?_
      rw [List.append_assoc, ← ea, ← e]; exact ex
    · rw [List.length_append]; omega
  · exfalso
    have wab : IsWord M (a ++ b) := by
      rw [e] at wx
      obtain ⟨p, q⟩ := isWord_append.1 wx
      exact isWord_append.2 ⟨p, (isWord_cons.1 (isWord_cons.1 q).2).2⟩
    have e2 : Eqv M (v ++ (a ++ b)) u := by
      refine Eqv.trans ?_ ex
      rw [e]
      exact ((eqv_double M a b c).symm).left v
    have := ru (v ++ (a ++ b)) (isWord_append.2 ⟨wv, wab⟩) e2
    rw [e] at lx
    simp only [List.length_append, List.length_cons] at this lx
    omega
theorem turn_all {M : Mirrors} (G : Good M) {s t : Nat} (hs : s < M.n) (ht : t < M.n) (ne : s ≠ t) (m0 : M.m s t ≠ 0) :
    ∀ (k : Nat) (x : Word), x.length = k → k ≤ M.m s t → (∀ c ∈ x, c = s ∨ c = t) → ∃ y, List.Sublist y (tail2 t s (M.m s t)) ∧ Eqv M x y := by
  intro k
  induction k using Nat.strongRecOn with
  | _ k ih =>
    intro x hx le mx
    rcases two_letters s t k x hx mx with e | e | ⟨a, c, b, e⟩
    · by_cases lt : k < M.m s t
      · obtain ⟨a, ea, _, _⟩ := tail2_split (k + 1) t s (M.m s t) (by omega)
        refine ⟨tail2 s t k, ?_, by rw [e]; exact Eqv.refl _ _⟩
        rw [ea]
        refine List.Sublist.trans ?_ (List.sublist_append_right ..)
        exact List.sublist_append_left ..
      · have : k = M.m s t := by omega
        refine ⟨tail2 t s (M.m s t), List.Sublist.refl _, ?_⟩
        rw [e, this]; exact tail2_braid G hs ht ne m0
    · obtain ⟨a, ea, _, _⟩ := tail2_split k t s (M.m s t) le
      refine ⟨tail2 t s k, ?_, by rw [e]; exact Eqv.refl _ _⟩
      rw [ea]
      exact List.sublist_append_right ..
    · have l : (a ++ b).length + 2 = k := by rw [← hx, e]; simp; omega
      obtain ⟨y, sy, ey⟩ := ih (a ++ b).length (by omega) (a ++ b) rfl (by omega) (fun d hd => mx d (by
        rw [e]; rcases List.mem_append.1 hd with h | h
        · exact List.mem_append_left _ h
        · exact List.mem_append_right _ (List.mem_cons_of_mem _ (List.mem_cons_of_mem _ h))))
      refine ⟨y, sy, Eqv.trans ?_ ey⟩
      rw [e]; exact eqv_double M a b c
theorem out_turn {M : Mirrors} (G : Good M) {s t : Nat} (hs : s < M.n) (ht : t < M.n) (ne : s ≠ t) (m0 : M.m s t ≠ 0) {z a : Word}
    (h : Out M (z ++ tail2 s t (M.m s t)) a) : Out M (z ++ tail2 t s (M.m s t)) a := by
  obtain ⟨l, sl, e⟩ := h
  obtain ⟨l1, l2, rfl, h1, h2⟩ := List.sublist_append_iff.1 sl
  have hl := h2.length_le
  rw [tail2_length] at hl
  obtain ⟨y, sy, ey⟩ := turn_all G hs ht ne m0 l2.length l2 rfl hl (fun c hc => tail2_mem _ s t c (h2.subset hc))
  exact ⟨l1 ++ y, List.Sublist.append h1 sy, e.trans (ey.left l1)⟩
theorem red_init {M : Mirrors} {x : Word} {s : Nat} (hs : s < M.n) (r : Red M (x ++ [s])) : Red M x := by
  intro v wv e
  have := r (v ++ [s]) (isWord_snoc wv hs) (e.right (isWord_single.2 hs))
  simp only [List.length_append, List.length_cons, List.length_nil] at this
  omega
theorem red_down {M : Mirrors} {x : Word} {s : Nat} (hx : IsWord M x) (hs : s < M.n) (r : Red M (x ++ [s])) : Down M (x ++ [s]) s := by
  unfold Down
  rw [len_snoc2 hx hs, (red_len (isWord_snoc hx hs)).1 r]
  have := len_le hx
  simp only [List.length_append, List.length_cons, List.length_nil]
  omega
theorem red_of_len {M : Mirrors} {x y : Word} (_hy : IsWord M y) (r : Red M x) (e : Eqv M x y) (l : y.length ≤ x.length) : Red M y := by
  intro v wv ev
  have := r v wv (ev.trans e.symm)
  omega
theorem out_red {M : Mirrors} (G : Good M) : ∀ (k : Nat) (x y a : Word), x.length = k → IsWord M x → IsWord M y → Red M x → Red M y → Eqv M x y →
    Out M x a → Out M y a := by
  intro k
  induction k with
  | zero =>
    intro x y a hk wx wy rx ry e o
    have lx : y.length ≤ 0 := by have := ry x wx e; omega
    rw [List.length_eq_zero_iff.1 hk] at o
    rw [List.length_eq_zero_iff.1 (show y.length = 0 by omega)]
    exact o
  | succ k ih =>
    intro x y a hk wx wy rx ry e o
    have lxy : y.length = k + 1 := by
      have p := ry x wx e
      have q := rx y wy e.symm
      omega
    have hx : x ≠ [] := by intro h; rw [h] at hk; simp at hk
    have hy : y ≠ [] := by intro h; rw [h] at lxy; simp at lxy
    obtain ⟨x', s, rfl⟩ : ∃ p c, x = p ++ [c] := ⟨x.dropLast, x.getLast hx, (List.dropLast_concat_getLast hx).symm⟩
    obtain ⟨y', t, rfl⟩ : ∃ p c, y = p ++ [c] := ⟨y.dropLast, y.getLast hy, (List.dropLast_concat_getLast hy).symm⟩
    obtain ⟨wx', ws⟩ := isWord_append.1 wx
    obtain ⟨wy', wt⟩ := isWord_append.1 wy
    have hs := isWord_single.1 ws
    have ht := isWord_single.1 wt
    have lx' : x'.length = k := by simp at hk; exact hk
    have ly' : y'.length = k := by simp at lxy; exact lxy
    have rx' := red_init hs rx
    have ry' := red_init ht ry
    have same1 : ∀ (p q : Word) (c : Nat) (b : Word), c < M.n → p.length = k → IsWord M p → IsWord M q → Red M p → Red M q → Eqv M p q → Out M (p ++ [c]) b → Out M (q ++ [c]) b := by
      intro p q c b hc lp wp wq rp rq epq ob
      rw [out_snoc hc] at ob ⊢
      rcases ob with ob | ob
      · exact Or.inl (ih p q b lp wp wq rp rq epq ob)
      · exact Or.inr (ih p q _ lp wp wq rp rq epq ob)
    by_cases st : s = t
    · subst st
      exact same1 x' y' s a hs lx' wx' wy' rx' ry' (e.cancel_right ws) o
    · obtain ⟨m0, z, wz, ez, lz⟩ := two_down G wx rx hs ht st (red_down wx' hs rx) ((down_eqv wx wy ht e).2 (red_down wy' ht ry))
      obtain ⟨i, hi⟩ : ∃ i, M.m s t = i + 1 := ⟨M.m s t - 1, by omega⟩
      have wst : ∀ j, IsWord M (tail2 s t j) := fun j => isWord_two hs ht (tail2_mem j s t)
      have wts : ∀ j, IsWord M (tail2 t s j) := fun j => isWord_two ht hs (tail2_mem j t s)
      have br := tail2_braid G hs ht st m0
      have e1 : Eqv M x' (z ++ tail2 s t i) := by
        refine Eqv.cancel_right ws ?_
        have : z ++ tail2 s t i ++ [s] = z ++ tail2 t s (M.m s t) := by rw [hi]; simp [tail2]
        rw [this]
        exact (ez.symm).trans (br.left z)
      have e2 : Eqv M (z ++ tail2 t s i) y' := by
        refine Eqv.cancel_right wt ?_
        have : z ++ tail2 t s i ++ [t] = z ++ tail2 s t (M.m s t) := by rw [hi]; simp [tail2]
        rw [this]
        exact ez.trans e
      have lzz : z.length + i = k := by rw [hi] at lz; simp only [List.length_append, List.length_cons, List.length_nil] at lz; omega
      have r1 : Red M (z ++ tail2 s t i) := red_of_len (isWord_append.2 ⟨wz, wst i⟩) rx' e1 (by rw [List.length_append, tail2_length]; omega)
      have r2 : Red M (z ++ tail2 t s i) := red_of_len (isWord_append.2 ⟨wz, wts i⟩) ry' e2.symm (by rw [List.length_append, tail2_length]; omega)
      have o1 := same1 x' (z ++ tail2 s t i) s a hs lx' wx' (isWord_append.2 ⟨wz, wst i⟩) rx' r1 e1 o
      have sy := good_symm G hs ht
      have o2 : Out M (z ++ tail2 t s (M.m t s)) a := by
        rw [← sy, hi]
        have : z ++ tail2 t s (i + 1) = z ++ tail2 s t i ++ [s] := by simp [tail2]
        rw [this]; exact o1
      have o3 := out_turn G ht hs (fun h => st h.symm) (by omega) o2
      rw [← sy, hi] at o3
      have : z ++ tail2 s t (i + 1) = z ++ tail2 t s i ++ [t] := by simp [tail2]
      rw [this] at o3
      exact same1 (z ++ tail2 t s i) y' t a ht (by rw [List.length_append, tail2_length]; omega) (isWord_append.2 ⟨wz, wts i⟩) wy' r2 ry' e2 o3
def Bel (M : Mirrors) (a b : Word) : Prop := ∃ x, IsWord M x ∧ Red M x ∧ Eqv M x b ∧ Out M x a
theorem bel_any {M : Mirrors} (G : Good M) {a b x : Word} (wx : IsWord M x) (rx : Red M x) (ex : Eqv M x b) : Bel M a b ↔ Out M x a := by
  constructor
  · rintro ⟨y, wy, ry, ey, o⟩
    exact out_red G _ y x a rfl wy wx ry rx (ey.trans ex.symm) o
  · intro o; exact ⟨x, wx, rx, ex, o⟩
theorem bel_nil {M : Mirrors} (G : Good M) {a b : Word} (e : Eqv M b []) : Bel M a b ↔ Eqv M a [] := by
  rw [bel_any G (isWord_nil M) (fun v _ _ => Nat.zero_le _) e.symm, out_nil]
theorem bel_step {M : Mirrors} (G : Good M) {a b : Word} {s : Nat} (wa : IsWord M a) (wb : IsWord M b) (hs : s < M.n) (d : Down M b s) :
    (Down M a s → (Bel M a b ↔ Bel M (a ++ [s]) (b ++ [s]))) ∧ (¬ Down M a s → (Bel M a b ↔ Bel M a (b ++ [s]))) := by
  have ws := isWord_single.2 hs
  obtain ⟨x, wx, ex, rx, lx⟩ := len_ex (isWord_snoc wb hs)
  have exb : Eqv M (x ++ [s]) b := (ex.right ws).trans (eqv_snoc2 M b s)
  have rxs : Red M (x ++ [s]) := by
    rw [red_len (isWord_snoc wx hs), len_eqv (isWord_snoc wx hs) wb exb]
    have := len_down wb hs d
    simp only [List.length_append, List.length_cons, List.length_nil]
    omega
  rw [bel_any G (isWord_snoc wx hs) rxs exb, bel_any G wx rx ex, bel_any G wx rx ex, out_snoc hs]
  constructor
  · intro da
    constructor
    · rintro (o | o)
      · exact out_down G hs wx wa o da
      · exact o
    · intro o; exact Or.inr o
  · intro da
    constructor
    · rintro (o | o)
      · exact o
      · have := out_down G hs wx (isWord_snoc wa hs) o ((down_snoc G wa hs).2 da)
        exact this.eqv (eqv_snoc2 M a s).symm
    · intro o; exact Or.inl o
end Cox
end
section
set_option Elab.async false
namespace Cox
open Si07
theorem nodup_eraseDups {α : Type} [BEq α] [LawfulBEq α] : ∀ (k : Nat) (l : List α), l.length ≤ k → l.eraseDups.Nodup
  | _, [], _ => by simp
  | 0, _ :: _, g => by simp at g
  | k + 1, a :: l, h => by
    rw [List.eraseDups_cons, List.nodup_cons]
    constructor
    · rw [List.mem_eraseDups, List.mem_filter]
      rintro ⟨_, q⟩
      simp at q
    · refine nodup_eraseDups k _ (Nat.le_trans (List.length_filter_le _ _) ?_)
      simp at h; exact h
theorem nodup_filter {α : Type} {p : α → Bool} {l : List α} (h : l.Nodup) : (l.filter p).Nodup :=
  List.Pairwise.sublist List.filter_sublist h
theorem card_le {α β : Type} {R : α → β → Prop} (inj : ∀ a a' b, R a b → R a' b → a = a') : ∀ (l : List α) (r : List β), l.Nodup →
    (∀ a, a ∈ l → ∃ b, b ∈ r ∧ R a b) → l.length ≤ r.length
  | [], _, _, _ => Nat.zero_le _
  | a :: l, r, nd, h => by
    obtain ⟨na, nl⟩ := List.nodup_cons.1 nd
    obtain ⟨b, hb, rab⟩ := h a (List.mem_cons_self ..)
    obtain ⟨p, q, rfl⟩ := List.append_of_mem hb
    have := card_le inj l (p ++ q) nl (fun a' ha' => by
      obtain ⟨b', hb', r'⟩ := h a' (List.mem_cons_of_mem _ ha')
      refine ⟨b', ?_, r'⟩
      rcases List.mem_append.1 hb' with h1 | h1
      · exact List.mem_append_left _ h1
      · rcases List.mem_cons.1 h1 with e | h2
        · rw [e] at r'
          exact absurd (inj a a' b rab r' ▸ ha') na
        · exact List.mem_append_right _ h2)
    simp only [List.length_append, List.length_cons] at this ⊢
    omega
theorem same_card {α β : Type} {R : α → β → Prop} (i1 : ∀ a a' b, R a b → R a' b → a = a') (i2 : ∀ a b b', R a b → R a b' → b = b')
    {l : List α} {r : List β} (nl : l.Nodup) (nr : r.Nodup) (h1 : ∀ a, a ∈ l → ∃ b, b ∈ r ∧ R a b) (h2 : ∀ b, b ∈ r → ∃ a, a ∈ l ∧ R a b) :
    l.length = r.length := by
  have a := card_le i1 l r nl h1
  have b := card_le (R := fun b a => R a b) (fun b b' a x y => i2 a b b' x y) r l nr h2
  omega
structure Holds (M : Mirrors) (l : List Mat) (P : Word → Prop) : Prop where
  once : l.Nodup
  some : ∀ w, w ∈ l → ∃ u, IsWord M u ∧ w = matOf M u ∧ P u
  all : ∀ u, IsWord M u → P u → matOf M u ∈ l
theorem descents_eq {M : Mirrors} (G : Good M) {u : Word} (hu : IsWord M u) :
    descents M (matOf M u) = (List.range M.n).filter fun i => decide (act M u one i < 0) := by
  unfold descents
  refine List.filter_congr fun i hi => ?_
  exact negative_iff G hu (List.mem_range.1 hi)
theorem mem_descents {M : Mirrors} (G : Good M) {u : Word} (hu : IsWord M u) {i : Nat} : i ∈ descents M (matOf M u) ↔ i < M.n ∧ Down M u i := by
  rw [descents_eq G hu, List.mem_filter, List.mem_range, decide_eq_true_iff]
  constructor
  · rintro ⟨a, b⟩; exact ⟨a, (down_height G hu a).2 b⟩
  · rintro ⟨a, b⟩; exact ⟨a, (down_height G hu a).1 b⟩
theorem head_none {M : Mirrors} (G : Good M) {u : Word} (hu : IsWord M u) (h : (descents M (matOf M u)).head? = none) : len M u = 0 := by
  refine Decidable.byContradiction fun ne => ?_
  obtain ⟨s, hs, d⟩ := exists_down hu ne
  have := (mem_descents G hu).2 ⟨hs, d⟩
  rw [List.head?_eq_none_iff.1 h] at this
  cases this
theorem head_some {M : Mirrors} (G : Good M) {u : Word} (hu : IsWord M u) {i : Nat} (h : (descents M (matOf M u)).head? = some i) : i < M.n ∧ Down M u i :=
  (mem_descents G hu).1 (List.mem_of_mem_head? (by rw [h]; rfl))
theorem leastFrom_ok {M : Mirrors} (G : Good M) : ∀ (f : Nat) (v : Word), IsWord M v → len M v < f →
    IsWord M (leastFrom M f (matOf M v)) ∧ Eqv M (v ++ leastFrom M f (matOf M v)) [] ∧ (leastFrom M f (matOf M v)).length = len M v
  | 0, _, _, h => by omega
  | f + 1, v, wv, h => by
    unfold leastFrom
    cases e : (descents M (matOf M v)).head? with
    | none =>
      have l0 := head_none G wv e
      refine ⟨isWord_nil M, ?_, by rw [l0]; rfl⟩
      rw [List.append_nil]; exact eqv_nil_of_len wv l0
    | some i =>
      obtain ⟨hi, d⟩ := head_some G wv e
      have l1 := len_down wv hi d
      dsimp only
      rw [timesS_matOf hi]
      obtain ⟨a, b, c⟩ := leastFrom_ok G f (v ++ [i]) (isWord_snoc wv hi) (by omega)
      refine ⟨isWord_cons.2 ⟨hi, a⟩, ?_, by rw [List.length_cons, c]; omega⟩
      rw [List.append_assoc] at b
      exact b
theorem len_lt {M : Mirrors} {u : Word} (hu : IsWord M u) (h : u.length ≤ 128) : len M u < 300 := by
  have := len_le hu; omega
theorem leastOf_ok {M : Mirrors} (G : Good M) {u : Word} (hu : IsWord M u) (h : len M u < 300) :
    IsWord M (leastOf M u) ∧ Eqv M (leastOf M u) u ∧ (leastOf M u).length = len M u := by
  unfold leastOf
  rw [ofWord_eq (isWord_reverse hu)]
  obtain ⟨a, b, c⟩ := leastFrom_ok G 300 u.reverse (isWord_reverse hu) (by rw [len_reverse hu]; exact h)
  refine ⟨a, ?_, by rw [c, len_reverse hu]⟩
  refine Eqv.cancel_left (w := u.reverse) (b.trans ?_)
  intro g
  rw [act_append, act_forth]; exact Agree.refl _ _
theorem wordFrom_ok {M : Mirrors} (G : Good M) : ∀ (f : Nat) (v : Word), IsWord M v → len M v < f →
    IsWord M (wordFrom M f (matOf M v)) ∧ Eqv M (wordFrom M f (matOf M v)) v ∧ (wordFrom M f (matOf M v)).length = len M v
  | 0, _, _, h => by omega
  | f + 1, v, wv, h => by
    unfold wordFrom
    cases e : (descents M (matOf M v)).head? with
    | none =>
      have l0 := head_none G wv e
      exact ⟨isWord_nil M, (eqv_nil_of_len wv l0).symm, by rw [l0]; rfl⟩
    | some i =>
      obtain ⟨hi, d⟩ := head_some G wv e
      have l1 := len_down wv hi d
      dsimp only
      rw [timesS_matOf hi]
      obtain ⟨a, b, c⟩ := wordFrom_ok G f (v ++ [i]) (isWord_snoc wv hi) (by omega)
      refine ⟨isWord_snoc a hi, (b.right (isWord_single.2 hi)).trans (eqv_snoc2 M v i), ?_⟩
      simp only [List.length_append, List.length_cons, List.length_nil, c]; omega
theorem lengthM_eq {M : Mirrors} (G : Good M) {v : Word} (wv : IsWord M v) (h : len M v < 300) : lengthM M (matOf M v) = len M v :=
  (wordFrom_ok G 300 v wv h).2.2
theorem lower_iff {M : Mirrors} (G : Good M) : ∀ (f : Nat) (a b : Word), IsWord M a → IsWord M b → len M b < f →
    (lower M f (matOf M a) (matOf M b) = true ↔ Bel M a b)
  | 0, _, _, _, _, h => by omega
  | f + 1, a, b, wa, wb, h => by
    unfold lower
    cases e : (descents M (matOf M b)).head? with
    | none =>
      dsimp only
      rw [bel_nil G (eqv_nil_of_len wb (head_none G wb e)), beq_iff_eq, unitM_eq, matOf_inj wa (isWord_nil M)]
    | some i =>
      obtain ⟨hi, d⟩ := head_some G wb e
      have l1 := len_down wb hi d
      dsimp only
      rw [timesS_matOf hi, timesS_matOf hi]
      obtain ⟨p, q⟩ := bel_step G wa wb hi d
      by_cases da : Down M a i
      · rw [if_pos (List.contains_iff_mem.2 ((mem_descents G wa).2 ⟨hi, da⟩)), lower_iff G f _ _ (isWord_snoc wa hi) (isWord_snoc wb hi) (by omega), p da]
      · rw [if_neg (fun c => da ((mem_descents G wa).1 (List.contains_iff_mem.1 c)).2), lower_iff G f _ _ wa (isWord_snoc wb hi) (by omega), q da]
theorem lowerAll_fold {M : Mirrors} : ∀ (s x : Word) (l : List Mat), IsWord M s → IsWord M x → Holds M l (Out M x) →
    Holds M (s.foldl (fun (l : List Mat) i => (l ++ l.map fun w => timesS M w i).eraseDups) l) (Out M (x ++ s))
  | [], x, l, _, _, h => by rw [List.append_nil]; exact h
  | i :: s, x, l, w, wx, h => by
    obtain ⟨hi, ws⟩ := isWord_cons.1 w
    rw [List.foldl_cons, show x ++ i :: s = (x ++ [i]) ++ s by simp]
    refine lowerAll_fold s (x ++ [i]) _ ws (isWord_snoc wx hi) ⟨nodup_eraseDups _ _ (Nat.le_refl _), ?_, ?_⟩
    · intro v hv
      rw [List.mem_eraseDups, List.mem_append, List.mem_map] at hv
      rcases hv with hv | ⟨v', hv', rfl⟩
      · obtain ⟨u, wu, eu, ou⟩ := h.some v hv
        exact ⟨u, wu, eu, (out_snoc hi).2 (Or.inl ou)⟩
      · obtain ⟨u, wu, eu, ou⟩ := h.some v' hv'
        refine ⟨u ++ [i], isWord_snoc wu hi, by rw [eu, timesS_matOf hi], (out_snoc hi).2 (Or.inr (ou.eqv (eqv_snoc2 M u i)))⟩
    · intro u wu ou
      rw [List.mem_eraseDups, List.mem_append, List.mem_map]
      rcases (out_snoc hi).1 ou with o | o
      · exact Or.inl (h.all u wu o)
      · refine Or.inr ⟨matOf M (u ++ [i]), h.all _ (isWord_snoc wu hi) o, ?_⟩
        rw [timesS_matOf hi, matOf_inj (isWord_snoc (isWord_snoc wu hi) hi) wu]
        exact eqv_snoc2 M u i
theorem lowerAll_holds {M : Mirrors} {s : Word} (hs : IsWord M s) : Holds M (lowerAll M s) (Out M s) := by
  unfold lowerAll
  refine lowerAll_fold s [] _ hs (isWord_nil M) ⟨by simp, ?_, ?_⟩
  · intro w hw
    rw [List.mem_singleton] at hw
    exact ⟨[], isWord_nil M, by rw [hw, unitM_eq], out_self M []⟩
  · intro u wu o
    rw [List.mem_singleton, unitM_eq, matOf_inj wu (isWord_nil M)]
    exact out_nil.1 o
theorem filter_holds {M : Mirrors} {l : List Mat} {P Q : Word → Prop} {p : Mat → Bool} (h : Holds M l P) (q : ∀ u, IsWord M u → P u → (p (matOf M u) = true ↔ Q u))
    : Holds M (l.filter p) (fun u => P u ∧ Q u) := by
  refine ⟨nodup_filter h.once, ?_, ?_⟩
  · intro w hw
    obtain ⟨a, b⟩ := List.mem_filter.1 hw
    obtain ⟨u, wu, eu, pu⟩ := h.some w a
    exact ⟨u, wu, eu, pu, (q u wu pu).1 (eu ▸ b)⟩
  · intro u wu ⟨pu, qu⟩
    exact List.mem_filter.2 ⟨h.all u wu pu, (q u wu pu).2 qu⟩
theorem out_len {M : Mirrors} {x a : Word} (wx : IsWord M x) (wa : IsWord M a) (o : Out M x a) : len M a ≤ x.length := by
  obtain ⟨t, st, e⟩ := o
  have := len_min wa (isWord_sublist st wx) e.symm
  have := st.length_le
  omega
theorem between_holds {M : Mirrors} (G : Good M) {u : Word} (hu : IsWord M u) (h : len M u < 300) (k : Nat) :
    Holds M ((lowerAll M (leastOf M u)).filter fun w => lengthM M w == k) (fun a => Bel M a u ∧ len M a = k) := by
  obtain ⟨wl, el, ll⟩ := leastOf_ok G hu h
  have rl : Red M (leastOf M u) := by rw [red_len wl, len_eqv wl hu el, ll]
  have H := filter_holds (p := fun w => lengthM M w == k) (Q := fun a => len M a = k) (lowerAll_holds wl) (fun a wa oa => by
    rw [beq_iff_eq, lengthM_eq G wa (by have := out_len wl wa oa; omega)])
  refine ⟨H.once, ?_, ?_⟩
  · intro w hw
    obtain ⟨a, wa, ea, oa, la⟩ := H.some w hw
    exact ⟨a, wa, ea, (bel_any G wl rl el).2 oa, la⟩
  · intro a wa ⟨ba, la⟩
    exact H.all a wa ⟨(bel_any G wl rl el).1 ba, la⟩
theorem nextLevel_holds {M : Mirrors} (G : Good M) {l : List Mat} {k : Nat} (h : Holds M l (fun u => len M u = k)) :
    Holds M (nextLevel M l) (fun u => len M u = k + 1) := by
  unfold nextLevel
  refine ⟨nodup_eraseDups _ _ (Nat.le_refl _), ?_, ?_⟩
  · intro w hw
    rw [List.mem_eraseDups, List.mem_flatMap] at hw
    obtain ⟨v, hv, hw⟩ := hw
    obtain ⟨i, hi, rfl⟩ := List.mem_map.1 hw
    obtain ⟨u, wu, rfl, lu⟩ := h.some v hv
    obtain ⟨hi, up⟩ := List.mem_filter.1 hi
    have hi := List.mem_range.1 hi
    refine ⟨u ++ [i], isWord_snoc wu hi, timesS_matOf hi, ?_⟩
    have nd : ¬ Down M u i := by
      intro d
      rw [(negative_col G wu hi).2 d] at up
      cases up
    rw [len_up G wu hi nd]; omega
  · intro u wu lu
    obtain ⟨s, hs, d⟩ := exists_down wu (by omega)
    have l1 := len_down wu hs d
    rw [List.mem_eraseDups, List.mem_flatMap]
    refine ⟨matOf M (u ++ [s]), h.all _ (isWord_snoc wu hs) (by omega), List.mem_map.2 ⟨s, List.mem_filter.2 ⟨List.mem_range.2 hs, ?_⟩, ?_⟩⟩
    · have nd : ¬ Down M (u ++ [s]) s := fun q => ((down_snoc G wu hs).1 q) d
      have : ¬ negative (col (matOf M (u ++ [s])) s) = true := fun q => nd ((negative_col G (isWord_snoc wu hs) hs).1 q)
      rw [Bool.not_eq_true] at this
      rw [this]; rfl
    · rw [timesS_matOf hs, matOf_inj (isWord_snoc (isWord_snoc wu hs) hs) wu]
      exact eqv_snoc2 M u s
theorem level0_holds (M : Mirrors) : Holds M [unitM M.n] (fun u => len M u = 0) := by
  refine ⟨by simp, ?_, ?_⟩
  · intro w hw
    rw [List.mem_singleton] at hw
    exact ⟨[], isWord_nil M, by rw [hw, unitM_eq], len_nil M⟩
  · intro u wu lu
    rw [List.mem_singleton, unitM_eq, matOf_inj wu (isWord_nil M)]
    exact eqv_nil_of_len wu lu
theorem level_holds {M : Mirrors} (G : Good M) : ∀ k, Holds M (level M k) (fun u => len M u = k)
  | 0 => level0_holds M
  | k + 1 => nextLevel_holds G (level_holds G k)
noncomputable def hts (M : Mirrors) (u : Word) : List Int := (List.range M.n).map (act M u one)
theorem hts_inj {M : Mirrors} (G : Good M) {u v : Word} (hu : IsWord M u) (hv : IsWord M v) : hts M u = hts M v ↔ Eqv M u v := by
  rw [← heights_eqv G hu hv]
  constructor
  · intro h j hj; exact map_range_inj h j hj
  · intro a
    exact List.map_congr_left fun j hj => a j (List.mem_range.1 hj)
theorem holds_card {M : Mirrors} (G : Good M) {l : List Mat} {P : Word → Prop} (h : Holds M l P) {r : List (List Int)} (nr : r.Nodup)
    (some : ∀ g, g ∈ r → ∃ u, IsWord M u ∧ g = hts M u ∧ P u) (all : ∀ u, IsWord M u → P u → hts M u ∈ r) : l.length = r.length := by
  refine same_card (R := fun w g => ∃ u, IsWord M u ∧ w = matOf M u ∧ g = hts M u) ?_ ?_ h.once nr ?_ ?_
  · rintro a a' b ⟨u, wu, rfl, rfl⟩ ⟨v, wv, rfl, e⟩
    exact (matOf_inj wu wv).2 ((hts_inj G wu wv).1 e)
  · rintro a b b' ⟨u, wu, rfl, rfl⟩ ⟨v, wv, e, rfl⟩
    exact (hts_inj G wu wv).2 ((matOf_inj wu wv).1 e)
  · intro w hw
    obtain ⟨u, wu, e, pu⟩ := h.some w hw
    exact ⟨hts M u, all u wu pu, u, wu, e, rfl⟩
  · intro g hg
    obtain ⟨u, wu, e, pu⟩ := some g hg
    exact ⟨matOf M u, h.all u wu pu, u, wu, rfl, e⟩
end Cox
end
section
set_option Elab.async false
namespace Cox
open Si07
def AllDown (M : Mirrors) (w : Word) : Prop := ∀ s, s < M.n → Down M w s
theorem act_neg {M : Mirrors} (u : Word) (h : Nat → Int) : act M u (fun j => - h j) = fun j => - act M u h j := by
  have e := act_lin M u (-1) 0 h h
  have e1 : (fun j => (-1) * h j + 0 * h j : Nat → Int) = fun j => - h j := by funext j; omega
  rw [e1] at e
  rw [e]; funext j; omega
theorem allDown_dom {M : Mirrors} (G : Good M) {w : Word} (ww : IsWord M w) (a : AllDown M w) {h : Nat → Int} (dom : ∀ j, j < M.n → 0 ≤ h j) :
    ∀ j, j < M.n → act M w h j ≤ 0 := fun j hj => neg_of_ge G ww hj (by have := a j hj; unfold Down at this; omega) dom
theorem allDown_len1 {M : Mirrors} (G : Good M) {w : Word} (ww : IsWord M w) (a : AllDown M w) : ∀ (k : Nat) (v : Word), v.length = k → IsWord M v → Red M v →
    len M (w ++ v) + k = len M w := by
  intro k
  induction k with
  | zero =>
    intro v hv _ _
    rw [List.length_eq_zero_iff.1 hv, List.append_nil]; omega
  | succ k ih =>
    intro v hv wv rv
    have hne : v ≠ [] := by intro h; rw [h] at hv; simp at hv
    obtain ⟨v', s, rfl⟩ : ∃ p c, v = p ++ [c] := ⟨v.dropLast, v.getLast hne, (List.dropLast_concat_getLast hne).symm⟩
    obtain ⟨wv', ws⟩ := isWord_append.1 wv
    have hs := isWord_single.1 ws
    have rv' := red_init hs rv
    have i1 := ih v' (by simp at hv; exact hv) wv' rv'
    have up : ¬ Down M v' s := fun d => (down_snoc G wv' hs).1 (red_down wv' hs rv) d
    have p := pos_of_le G wv' hs (by unfold Down at up; omega) (h := fun j => - act M w one j) (fun j hj => by
      have := allDown_dom G ww a (one_dom M.n) j hj
      omega)
    rw [act_neg] at p
    dsimp only at p
    rw [← act_append] at p
    have wwv : IsWord M (w ++ v') := isWord_append.2 ⟨ww, wv'⟩
    have nz := act_one_ne G wwv hs
    have d := (height_neg G wwv hs).1 (by omega)
    have := len_down wwv hs d
    rw [← List.append_assoc]
    omega
theorem allDown_len {M : Mirrors} (G : Good M) {w v : Word} (ww : IsWord M w) (a : AllDown M w) (wv : IsWord M v) : len M (w ++ v) + len M v = len M w := by
  obtain ⟨x, wx, ex, rx, lx⟩ := len_ex wv
  have := allDown_len1 G ww a x.length x rfl wx rx
  rw [lx, len_eqv (isWord_append.2 ⟨ww, wx⟩) (isWord_append.2 ⟨ww, wv⟩) (ex.left w)] at this
  exact this
theorem allDown_max {M : Mirrors} (G : Good M) {w v : Word} (ww : IsWord M w) (a : AllDown M w) (wv : IsWord M v) : len M v ≤ len M w := by
  have := allDown_len G ww a wv; omega
theorem leastOf_eqv {M : Mirrors} {u v : Word} (hu : IsWord M u) (hv : IsWord M v) (e : Eqv M u v) : leastOf M u = leastOf M v := by
  unfold leastOf
  rw [ofWord_eq (isWord_reverse hu), ofWord_eq (isWord_reverse hv), (matOf_inj (isWord_reverse hu) (isWord_reverse hv)).2 (e.rev hv)]
theorem lastLevel_some {M : Mirrors} (G : Good M) : ∀ (f most k : Nat) (l : List Mat) (w : Mat), Holds M l (fun u => len M u = k) →
    lastLevel M f most l = some w → ∃ u, IsWord M u ∧ w = matOf M u ∧ AllDown M u ∧ len M u < k + f
  | 0, _, _, _, _, _, e => by simp [lastLevel] at e
  | f + 1, most, k, l, w, h, e => by
    unfold lastLevel at e
    split at e
    · cases e
    · dsimp only at e
      split at e
      · next nx =>
        obtain ⟨u, wu, ew, lu⟩ := h.some w (List.mem_of_mem_head? (by rw [e]; rfl))
        refine ⟨u, wu, ew, fun s hs => Classical.byContradiction fun nd => ?_, by omega⟩
        have := (nextLevel_holds G h).all (u ++ [s]) (isWord_snoc wu hs) (by rw [len_up G wu hs nd, lu])
        rw [nx] at this; cases this
      · obtain ⟨u, a, b, c, d⟩ := lastLevel_some G f _ (k + 1) _ w (nextLevel_holds G h) e
        exact ⟨u, a, b, c, by omega⟩
theorem longestOf_some {M : Mirrors} (G : Good M) {w : Word} (e : longestOf M = some w) : ∃ u, IsWord M u ∧ AllDown M u ∧ len M u < 200 ∧ w = leastOf M u := by
  unfold longestOf at e
  obtain ⟨x, ex, rfl⟩ := Option.map_eq_some_iff.1 e
  obtain ⟨u, wu, rfl, au, lu⟩ := lastLevel_some G 200 MANY 0 _ x (level0_holds M) ex
  refine ⟨u, wu, au, by omega, ?_⟩
  obtain ⟨a, b, _⟩ := wordFrom_ok G 300 u wu (by omega)
  exact leastOf_eqv a wu b
noncomputable def dot (d h : Nat → Int) : Nat → Int
  | 0 => 0
  | k + 1 => dot d h k + d k * h k
theorem dot_step (d h c : Nat → Int) (x : Int) : ∀ k, dot d (fun j => h j - c j * x) k = dot d h k - dot d c k * x
  | 0 => by simp [dot]
  | k + 1 => by simp only [dot]; rw [dot_step d h c x k]; grind
theorem dot_nonpos {d h : Nat → Int} : ∀ k, (∀ j, j < k → 0 ≤ d j) → (∀ j, j < k → h j ≤ 0) → dot d h k ≤ 0
  | 0, _, _ => by simp [dot]
  | k + 1, hd, hh => by
    have a := dot_nonpos k (fun j hj => hd j (by omega)) (fun j hj => hh j (by omega))
    have b := Int.mul_nonpos_of_nonneg_of_nonpos (hd k (by omega)) (hh k (by omega))
    simp only [dot]; omega
structure Rises (M : Mirrors) (d : Nat → Int) : Prop where
  nonneg : ∀ j, j < M.n → 0 ≤ d j
  some : 0 < dot d one M.n
  low : ∀ s, s < M.n → dot d (cartan M s) M.n ≤ 0
theorem rises_le {M : Mirrors} (G : Good M) {d : Nat → Int} (r : Rises M d) : ∀ (k : Nat) (w : Word), w.length = k → IsWord M w → Red M w →
    dot d one M.n ≤ dot d (act M w one) M.n := by
  intro k
  induction k with
  | zero =>
    intro w hw _ _
    rw [List.length_eq_zero_iff.1 hw]; exact Int.le_refl _
  | succ k ih =>
    intro w hw ww rw'
    have hne : w ≠ [] := by intro h; rw [h] at hw; simp at hw
    obtain ⟨v, s, rfl⟩ : ∃ p c, w = p ++ [c] := ⟨w.dropLast, w.getLast hne, (List.dropLast_concat_getLast hne).symm⟩
    obtain ⟨wv, ws⟩ := isWord_append.1 ww
    have hs := isWord_single.1 ws
    have i1 := ih v (by simp at hw; exact hw) wv (red_init hs rw')
    have up : ¬ Down M v s := fun q => (down_snoc G wv hs).1 (red_down wv hs rw') q
    have p := pos_of_le G wv hs (by unfold Down at up; omega) (one_dom M.n)
    rw [act_snoc]
    have e : rf M s (act M v one) = fun j => act M v one j - cartan M s j * act M v one s := rfl
    rw [e, dot_step]
    have := Int.mul_nonpos_of_nonpos_of_nonneg (r.low s hs) p
    omega
theorem rises_no {M : Mirrors} (G : Good M) {d : Nat → Int} (r : Rises M d) {w : Word} (ww : IsWord M w) : ¬ AllDown M w := by
  intro a
  obtain ⟨v, wv, ev, rv, _⟩ := len_ex ww
  have l := rises_le G r v.length v rfl wv rv
  have av : AllDown M v := fun s hs => (down_eqv wv ww hs ev).2 (a s hs)
  have n := dot_nonpos (d := d) M.n r.nonneg (allDown_dom G wv av (one_dom M.n))
  have := r.some
  omega
theorem longestOf_none {M : Mirrors} (G : Good M) {d : Nat → Int} (r : Rises M d) : longestOf M = none := by
  cases e : longestOf M with
  | none => rfl
  | some w =>
    obtain ⟨u, wu, au, _⟩ := longestOf_some G e
    exact absurd au (rises_no G r wu)
theorem cartan_le {M : Mirrors} {i j : Nat} (ne : i ≠ j) : cartan M i j ≤ 0 := by
  unfold cartan
  rw [if_neg ne]
  repeat' split
  all_goals omega
theorem dot_plus (f g h : Nat → Int) : ∀ k, dot (fun x => f x + g x) h k = dot f h k + dot g h k
  | 0 => rfl
  | k + 1 => by
    simp only [dot]
    rw [dot_plus f g h k, Int.add_mul, Int.add_assoc, Int.add_left_comm (dot g h k), ← Int.add_assoc]
theorem dot_on (h : Nat → Int) (i : Nat) : ∀ k, dot (fun x => if x = i then 1 else 0) h k = if i < k then h i else 0
  | 0 => (if_neg (Nat.not_lt_zero _)).symm
  | k + 1 => by
    simp only [dot]
    rw [dot_on h i k]
    by_cases a : k = i
    · subst a; rw [if_pos rfl, if_neg (Nat.lt_irrefl _), if_pos (Nat.lt_succ_self _), Int.one_mul, Int.zero_add]
    · rw [if_neg a, Int.zero_mul, Int.add_zero]
      by_cases c : i < k
      · rw [if_pos c, if_pos (Nat.lt_succ_of_lt c)]
      · rw [if_neg c, if_neg fun l => (Nat.lt_or_eq_of_le (Nat.le_of_lt_succ l)).elim c fun e => a e.symm]
theorem dot_two (h : Nat → Int) {i j : Nat} (ne : i ≠ j) (k : Nat) : dot (fun x => if x = i ∨ x = j then 1 else 0) h k = (if i < k then h i else 0) + (if j < k then h j else 0) := by
  have e : (fun x => if x = i ∨ x = j then (1 : Int) else 0) = fun x => (if x = i then 1 else 0) + (if x = j then 1 else 0) := funext fun x => by
    by_cases a : x = i
    · rw [if_pos (Or.inl a), if_pos a, if_neg fun b => ne (a.symm.trans b)]; rfl
    · by_cases b : x = j
      · rw [if_pos (Or.inr b), if_neg a, if_pos b]; rfl
      · rw [if_neg (not_or.2 ⟨a, b⟩), if_neg a, if_neg b]; rfl
  rw [e, dot_plus, dot_on, dot_on]
theorem rises_zero {M : Mirrors} (G : Good M) {i j : Nat} (hi : i < M.n) (hj : j < M.n) (z : M.m i j = 0) : Rises M (fun x => if x = i ∨ x = j then 1 else 0) := by
  have ne : i ≠ j := by
    intro e
    have := (G.2.2 i j hi hj).2.1.2 e
    omega
  refine ⟨fun x _ => by split <;> omega, ?_, ?_⟩
  · rw [dot_two one ne, if_pos hi, if_pos hj]; unfold one; omega
  · intro s hs
    rw [dot_two _ ne, if_pos hi, if_pos hj]
    obtain ⟨_, c1, c2⟩ : M.m i j = 0 ∧ cartan M i j = -2 ∧ cartan M j i = -2 := by
      rcases cartan_cases G hi hj ne with h | ⟨h, _⟩ | ⟨h, _⟩ | ⟨h, _⟩ | ⟨h, _⟩
      · exact h
      all_goals omega
    by_cases a : s = i
    · subst a; rw [cartan_self, c1]; omega
    · by_cases b : s = j
      · subst b; rw [cartan_self, c2]; omega
      · have := cartan_le (M := M) a
        have := cartan_le (M := M) b
        omega
theorem isWord_power {M : Mirrors} {u : Word} (hu : IsWord M u) : ∀ k, IsWord M (power u k)
  | 0 => isWord_nil M
  | k + 1 => isWord_append.2 ⟨isWord_power hu k, hu⟩
theorem orderFrom_ok {M : Mirrors} {u : Word} (hu : IsWord M u) : ∀ (f k : Nat),
    (orderFrom M u f (k + 1) (matOf M (power u k)) = 0 ∧ ∀ j, k < j → j ≤ k + f → ¬ Eqv M (power u j) []) ∨
    (∃ r, orderFrom M u f (k + 1) (matOf M (power u k)) = r ∧ k < r ∧ r ≤ k + f ∧ Eqv M (power u r) [] ∧ ∀ j, k < j → j < r → ¬ Eqv M (power u j) [])
  | 0, k => Or.inl ⟨rfl, fun j a b => by omega⟩
  | f + 1, k => by
    have wk := isWord_power hu k
    have wk1 : IsWord M (power u (k + 1)) := isWord_power hu (k + 1)
    have ee : u.foldl (timesS M) (matOf M (power u k)) = matOf M (power u (k + 1)) := foldl_matOf u (power u k) hu
    unfold orderFrom
    dsimp only
    rw [ee, unitM_eq]
    by_cases q : Eqv M (power u (k + 1)) []
    · right
      rw [if_pos ((matOf_inj wk1 (isWord_nil M)).2 q)]
      exact ⟨k + 1, rfl, by omega, by omega, q, fun j a b => by omega⟩
    · rw [if_neg (fun e => q ((matOf_inj wk1 (isWord_nil M)).1 e))]
      rcases orderFrom_ok hu f (k + 1) with ⟨e, h⟩ | ⟨r, e, a, b, c, h⟩
      · left
        refine ⟨e, fun j x y => ?_⟩
        by_cases w : j = k + 1
        · subst w; exact q
        · exact h j (by omega) (by omega)
      · right
        refine ⟨r, e, by omega, by omega, c, fun j x y => ?_⟩
        by_cases w : j = k + 1
        · subst w; exact q
        · exact h j (by omega) y
theorem orderOf_ok {M : Mirrors} {u : Word} (hu : IsWord M u) :
    (orderOf M u = 0 ∧ ∀ j, 0 < j → j ≤ 450 → ¬ Eqv M (power u j) []) ∨
    (∃ r, orderOf M u = r ∧ 0 < r ∧ r ≤ 450 ∧ Eqv M (power u r) [] ∧ ∀ j, 0 < j → j < r → ¬ Eqv M (power u j) []) := by
  have := orderFrom_ok (M := M) hu 450 0
  have e : orderOf M u = orderFrom M u 450 (0 + 1) (matOf M (power u 0)) := by
    unfold orderOf; rw [unitM_eq]; rfl
  rw [e]
  simpa using this
theorem isGood_iff {n : Nat} {m : List Nat} (h1 : 1 ≤ n) (h8 : n ≤ 8) : isGood (mirrorsOf n m) = true ↔ Good (mirrorsOf n m) := by
  unfold isGood Good
  simp only [List.all_eq_true, List.mem_range, Bool.and_eq_true, beq_iff_eq, List.contains_iff_mem]
  constructor
  · intro h
    refine ⟨h1, h8, fun i j hi hj => ?_⟩
    obtain ⟨a, b, c⟩ := h i hi j hj
    refine ⟨a, ?_, c⟩
    rw [Bool.eq_iff_iff, beq_iff_eq, beq_iff_eq] at b
    exact b
  · rintro ⟨_, _, h⟩ i hi j hj
    obtain ⟨a, b, c⟩ := h i j hi hj
    refine ⟨a, ?_, c⟩
    rw [Bool.eq_iff_iff, beq_iff_eq, beq_iff_eq]; exact b
end Cox
end
section
set_option Elab.async false
set_option linter.unusedVariables false
namespace Cox
open Si07
noncomputable def nums (l : List Int) : Nat → Int := fun j => l.getD j 0
noncomputable def risesB (M : Mirrors) (l : List Int) : Bool := (List.range M.n).all (fun x => decide (0 ≤ nums l x)) && (decide (0 < dot (nums l) one M.n) && (List.range M.n).all fun s => decide (dot (nums l) (cartan M s) M.n ≤ 0))
theorem rises_of {M : Mirrors} {l : List Int} (h : risesB M l = true) : Rises M (nums l) := by
  unfold risesB at h
  simp only [Bool.and_eq_true, List.all_eq_true, List.mem_range, decide_eq_true_iff] at h
  exact ⟨h.1, h.2.1, h.2.2⟩
noncomputable def some7 : List (List Int) := [[1, 1, 1], [1, 1, 2], [1, 2, 3], [2, 1, 3], [1, 2, 2], [1, 2, 1], [2, 3, 1]]
noncomputable def known (M : Mirrors) : Bool := some7.any (risesB M) || (longestOf M).isSome
noncomputable def four : List Nat := [2, 3, 4, 6]
theorem known3 : (four.all fun a => four.all fun b => four.all fun c => known (mirrorsOf 3 [1, a, b, a, 1, c, b, c, 1])) = true := by decide +kernel
theorem known2 : (four.all fun a => known (mirrorsOf 2 [1, a, a, 1])) = true := by decide +kernel
theorem known1 : known (mirrorsOf 1 [1]) = true := by decide +kernel
theorem longest_known {M : Mirrors} (G : Good M) (k : known M = true ∨ ∃ i j, i < M.n ∧ j < M.n ∧ M.m i j = 0) :
    (∃ u, IsWord M u ∧ AllDown M u ∧ len M u < 200 ∧ longestOf M = some (leastOf M u)) ∨ ((∃ d, Rises M d) ∧ longestOf M = none) := by
  rcases k with k | ⟨i, j, hi, hj, z⟩
  · unfold known at k
    rw [Bool.or_eq_true] at k
    rcases k with k | k
    · obtain ⟨l, _, hl⟩ := List.any_eq_true.1 k
      exact Or.inr ⟨⟨_, rises_of hl⟩, longestOf_none G (rises_of hl)⟩
    · obtain ⟨w, e⟩ := Option.isSome_iff_exists.1 k
      obtain ⟨u, a, b, c, d⟩ := longestOf_some G e
      exact Or.inl ⟨u, a, b, c, by rw [e, d]⟩
  · exact Or.inr ⟨⟨_, rises_zero G hi hj z⟩, longestOf_none G (rises_zero G hi hj z)⟩
theorem mem_four {x : Nat} (h : x = 2 ∨ x = 3 ∨ x = 4 ∨ x = 6) : x ∈ four := by
  rcases h with rfl | rfl | rfl | rfl <;> decide
theorem un {P : List Nat → Prop} {n : Nat} (k : ∀ a t, t.length = n → P (a :: t)) : ∀ m : List Nat, m.length = n + 1 → P m := by
  intro m h
  cases m with
  | nil => cases h
  | cons a t => exact k a t (Nat.succ.inj h)
theorem un0 {P : List Nat → Prop} (k : P []) : ∀ m : List Nat, m.length = 0 → P m := by
  intro m h
  cases m with
  | nil => exact k
  | cons a t => cases h
theorem case1 : ∀ (m : List Nat), m.length = 1 → ∀ (di : (mirrorsOf 1 m).m 0 0 = 1), known (mirrorsOf 1 m) = true := by
  refine un fun a => un0 ?_
  intro (a1 : a = 1)
  subst a1
  exact known1
theorem case2 : ∀ (m : List Nat), m.length = 4 → ∀ (a1 : (mirrorsOf 2 m).m 0 0 = 1) (d1 : (mirrorsOf 2 m).m 1 1 = 1) (s : (mirrorsOf 2 m).m 0 1 = (mirrorsOf 2 m).m 1 0) (f : (mirrorsOf 2 m).m 0 1 ∈ four), known (mirrorsOf 2 m) = true := by
  refine un fun a => un fun b => un fun c => un fun d => un0 ?_
  intro (a1 : a = 1) (d1 : d = 1) (bc : b = c) (b4 : b ∈ four)
  subst a1 d1 bc
  exact List.all_eq_true.1 known2 b b4
theorem case3 : ∀ (m : List Nat), m.length = 9 → ∀ (a1 : (mirrorsOf 3 m).m 0 0 = 1) (e1 : (mirrorsOf 3 m).m 1 1 = 1) (i1 : (mirrorsOf 3 m).m 2 2 = 1) (s1 : (mirrorsOf 3 m).m 0 1 = (mirrorsOf 3 m).m 1 0) (s2 : (mirrorsOf 3 m).m 0 2 = (mirrorsOf 3 m).m 2 0) (s3 : (mirrorsOf 3 m).m 1 2 = (mirrorsOf 3 m).m 2 1) (f1 : (mirrorsOf 3 m).m 0 1 ∈ four) (f2 : (mirrorsOf 3 m).m 0 2 ∈ four) (f3 : (mirrorsOf 3 m).m 1 2 ∈ four), known (mirrorsOf 3 m) = true := by
  refine un fun a => un fun b => un fun c => un fun d => un fun e => un fun f => un fun g => un fun h => un fun i => un0 ?_
  intro (a1 : a = 1) (e1 : e = 1) (i1 : i = 1) (bd : b = d) (cg : c = g) (fh : f = h) (b4 : b ∈ four) (c4 : c ∈ four) (f4 : f ∈ four)
  subst a1 e1 i1 bd cg fh
  exact List.all_eq_true.1 (List.all_eq_true.1 (List.all_eq_true.1 known3 b b4) c c4) f f4
theorem n123 : ∀ n, n < 4 → 1 ≤ n → n = 1 ∨ n = 2 ∨ n = 3 := by decide
theorem longest_cases {n : Nat} {m : List Nat} (G : Good (mirrorsOf n m)) (lm : m.length = n * n) (sm : small (some (mirrorsOf n m)) .longest = true) :
    (∃ u, IsWord (mirrorsOf n m) u ∧ AllDown (mirrorsOf n m) u ∧ len (mirrorsOf n m) u < 200 ∧ longestOf (mirrorsOf n m) = some (leastOf (mirrorsOf n m) u)) ∨
    ((∃ d, Rises (mirrorsOf n m) d) ∧ longestOf (mirrorsOf n m) = none) := by
  refine longest_known G ?_
  by_cases z : ∃ i j, i < n ∧ j < n ∧ (mirrorsOf n m).m i j = 0
  · exact Or.inr z
  left
  have nz : ∀ i j, i < n → j < n → i ≠ j → (mirrorsOf n m).m i j ∈ four := by
    intro i j hi hj ne
    refine mem_four ?_
    rcases good_cases G hi hj ne with h | h
    · exact absurd ⟨i, j, hi, hj, h⟩ z
    · exact h
  have di : ∀ i, i < n → (mirrorsOf n m).m i i = 1 := fun i hi => (G.2.2 i i hi hi).2.1.2 rfl
  have sy : ∀ i j, i < n → j < n → (mirrorsOf n m).m i j = (mirrorsOf n m).m j i := fun i j hi hj => good_symm G hi hj
  unfold small at sm
  simp only [Bool.or_eq_true, decide_eq_true_iff] at sm
  rcases sm with n3 | q | q
  · have n1 : 1 ≤ n := G.1
    have n3 : n ≤ 3 := n3
    have hn : n = 1 ∨ n = 2 ∨ n = 3 := n123 n (Nat.lt_succ_of_le n3) n1
    clear z G
    rcases hn with rfl | rfl | rfl
    · exact case1 m lm (di 0 (by decide))
    · exact case2 m lm (di 0 (by decide)) (di 1 (by decide)) (sy 0 1 (by decide) (by decide)) (nz 0 1 (by decide) (by decide) (by decide))
    · exact case3 m lm (di 0 (by decide)) (di 1 (by decide)) (di 2 (by decide)) (sy 0 1 (by decide) (by decide)) (sy 0 2 (by decide) (by decide)) (sy 1 2 (by decide) (by decide)) (nz 0 1 (by decide) (by decide) (by decide)) (nz 0 2 (by decide) (by decide) (by decide)) (nz 1 2 (by decide) (by decide) (by decide))
  · exfalso
    obtain ⟨i, hi, q⟩ := List.any_eq_true.1 q
    obtain ⟨j, hj, q⟩ := List.any_eq_true.1 q
    exact z ⟨i, j, List.mem_range.1 hi, List.mem_range.1 hj, by simpa using q⟩
  · unfold known; rw [q, Bool.or_true]
end Cox
end
section
set_option Elab.async false
namespace Par
open Si07 Si07Neutral
theorem row_form {l x t : List Int} (h : PyFlat.row l = some (x, t)) : l = (x.length : Int) :: (x ++ t) := by
  cases l with
  | nil => simp [PyFlat.row] at h
  | cons n r =>
    unfold PyFlat.row at h
    dsimp only at h
    split at h
    · next c =>
      simp only [Option.some.injEq, Prod.mk.injEq] at h
      obtain ⟨rfl, rfl⟩ := h
      rw [List.take_append_drop, List.length_take]
      congr 1
      omega
    · cases h
theorem row_app (x t : List Int) : PyFlat.row ((x.length : Int) :: (x ++ t)) = some (x, t) := by
  unfold PyFlat.row
  dsimp only
  rw [if_pos ⟨by omega, by simp⟩]
  simp
inductive Cl where
  | begins (o n : Int) (m : List Int)
  | two (p o : Int) (a b : List Int)
  | one (p o : Int) (a : List Int)
  | count (o k : Int)
  | longest (o : Int)
  | between (o k : Int) (a : List Int)
noncomputable def Cl.flat : Cl → List Int → List Int
  | .begins o n m, t => 0 :: o :: n :: (m.length : Int) :: (m ++ t)
  | .two p o a b, t => p :: o :: (a.length : Int) :: (a ++ ((b.length : Int) :: (b ++ t)))
  | .one p o a, t => p :: o :: (a.length : Int) :: (a ++ t)
  | .count o k, t => 7 :: o :: k :: t
  | .longest o, t => 8 :: o :: t
  | .between o k a, t => 9 :: o :: k :: (a.length : Int) :: (a ++ t)
noncomputable def Cl.raw : Cl → List (List Int)
  | .begins o n m => [[0, o, n], m]
  | .two p o a b => [[p, o], a, b]
  | .one p o a => [[p, o], a]
  | .count o k => [[7, o, k]]
  | .longest o => [[8, o]]
  | .between o k a => [[9, o, k], a]
noncomputable def Cl.ok : Cl → Prop
  | .two p _ _ _ => p = 1 ∨ p = 5
  | .one p _ _ => p = 2 ∨ p = 3 ∨ p = 4 ∨ p = 6
  | _ => True
theorem rows1 {r : List Int} {xs : List (List Int)} {t : List Int} (h : PyFlat.rows 1 r = some (xs, t)) : ∃ x, xs = [x] ∧ r = (x.length : Int) :: (x ++ t) := by
  unfold PyFlat.rows at h
  split at h
  · cases h
  · next x s e =>
    simp only [PyFlat.rows, Option.some.injEq, Prod.mk.injEq] at h
    obtain ⟨rfl, rfl⟩ := h
    exact ⟨x, rfl, row_form e⟩
theorem rows2 {r : List Int} {xs : List (List Int)} {t : List Int} (h : PyFlat.rows 2 r = some (xs, t)) :
    ∃ x y, xs = [x, y] ∧ r = (x.length : Int) :: (x ++ ((y.length : Int) :: (y ++ t))) := by
  unfold PyFlat.rows at h
  split at h
  · cases h
  · next x s e =>
    split at h
    · cases h
    · next ys u e2 =>
      obtain ⟨y, rfl, rfl⟩ := rows1 e2
      simp only [Option.some.injEq, Prod.mk.injEq] at h
      obtain ⟨rfl, rfl⟩ := h
      exact ⟨x, y, rfl, row_form e⟩
theorem call_form {l : List Int} {c : List (List Int)} {t : List Int} (h : PyFlat.call PySi07.shape l = some (c, t)) : ∃ k : Cl, k.ok ∧ l = k.flat t ∧ c = k.raw := by
  cases l with
  | nil => simp [PyFlat.call] at h
  | cons p r =>
    unfold PyFlat.call at h
    dsimp only at h
    split at h
    · cases h
    · next n k es =>
      split at h
      · cases h
      · next le =>
        split at h
        · cases h
        · next xs u er =>
          simp only [Option.some.injEq, Prod.mk.injEq] at h
          obtain ⟨rfl, rfl⟩ := h
          unfold PySi07.shape at es
          by_cases p0 : p = 0
          · rw [if_pos p0] at es
            simp only [Option.some.injEq, Prod.mk.injEq] at es
            obtain ⟨rfl, rfl⟩ := es
            match r, le, er with
            | o :: n :: r, _, er =>
              obtain ⟨x, rfl, e⟩ := rows1 er
              exact ⟨.begins o n x, trivial, by rw [p0]; simp at e; rw [e]; rfl, by rw [p0]; rfl⟩
            | [_], le, _ => simp at le
            | [], le, _ => simp at le
          rw [if_neg p0] at es
          by_cases p1 : p = 1 ∨ p = 5
          · have es : some (1, 2) = some (n, k) := by
              rcases p1 with e | e
              · rw [if_pos e] at es; exact es
              · subst e; simpa using es
            simp only [Option.some.injEq, Prod.mk.injEq] at es
            obtain ⟨rfl, rfl⟩ := es
            match r, le, er with
            | o :: r, _, er =>
              obtain ⟨x, y, rfl, e⟩ := rows2 er
              exact ⟨.two p o x y, p1, by simp at e; rw [e]; rfl, rfl⟩
            | [], le, _ => simp at le
          by_cases p2 : p = 2 ∨ p = 3 ∨ p = 4 ∨ p = 6
          · have es : some (1, 1) = some (n, k) := by
              rcases p2 with e | e | e | e <;> subst e <;> simpa using es
            simp only [Option.some.injEq, Prod.mk.injEq] at es
            obtain ⟨rfl, rfl⟩ := es
            match r, le, er with
            | o :: r, _, er =>
              obtain ⟨x, rfl, e⟩ := rows1 er
              exact ⟨.one p o x, p2, by simp at e; rw [e]; rfl, rfl⟩
            | [], le, _ => simp at le
          by_cases p7 : p = 7
          · subst p7
            simp at es
            obtain ⟨rfl, rfl⟩ := es
            match r, le, er with
            | o :: k :: r, _, er =>
              simp [PyFlat.rows] at er
              obtain ⟨rfl, rfl⟩ := er
              exact ⟨.count o k, trivial, rfl, rfl⟩
            | [_], le, _ => simp at le
            | [], le, _ => simp at le
          by_cases p8 : p = 8
          · subst p8
            simp at es
            obtain ⟨rfl, rfl⟩ := es
            match r, le, er with
            | o :: r, _, er =>
              simp [PyFlat.rows] at er
              obtain ⟨rfl, rfl⟩ := er
              exact ⟨.longest o, trivial, rfl, rfl⟩
            | [], le, _ => simp at le
          by_cases p9 : p = 9
          · subst p9
            simp at es
            obtain ⟨rfl, rfl⟩ := es
            match r, le, er with
            | o :: k :: r, _, er =>
              obtain ⟨x, rfl, e⟩ := rows1 er
              exact ⟨.between o k x, trivial, by simp at e; rw [e]; rfl, rfl⟩
            | [_], le, _ => simp at le
            | [], le, _ => simp at le
          exfalso
          simp only [not_or] at p1 p2
          simp [p1, p2, p7, p8, p9] at es
theorem flat_length (k : Cl) (t : List Int) : t.length < (k.flat t).length := by
  cases k <;> simp [Cl.flat] <;> omega
inductive Calls : List Int → List Cl → Prop
  | nil : Calls [] []
  | cons {k : Cl} {t : List Int} {ks : List Cl} : k.ok → Calls t ks → Calls (k.flat t) (k :: ks)
theorem calls_form : ∀ (f : Nat) (l : List Int) (cs : List (List (List Int))), PyFlat.calls PySi07.shape f l = some cs → ∃ ks, Calls l ks ∧ cs = ks.map Cl.raw
  | _, [], cs, h => by
    unfold PyFlat.calls at h
    replace h := Option.some.inj h
    exact ⟨[], .nil, h.symm⟩
  | 0, _ :: _, _, h => by simp [PyFlat.calls] at h
  | f + 1, p :: r, cs, h => by
    unfold PyFlat.calls at h
    split at h
    · cases h
    · next c t e =>
      split at h
      · cases h
      · next cs' e2 =>
        replace h := Option.some.inj h
        obtain ⟨ks, hk, rfl⟩ := calls_form f t cs' e2
        obtain ⟨k, ok, el, rfl⟩ := call_form e
        exact ⟨k :: ks, el ▸ .cons ok hk, h.symm⟩
noncomputable def due (s : S) : List Cl → List Int
  | [] => []
  | k :: ks => (((step s (PySi07.whole k.raw)).2.length : Int) :: (step s (PySi07.whole k.raw)).2) ++ due (step s (PySi07.whole k.raw)).1 ks
theorem told_played (ks : List Cl) : ∀ (s : S), PyFlat.told (PyFlat.played step s ((ks.map Cl.raw).map PySi07.whole)) = due s ks := by
  induction ks with
  | nil => intro s; rfl
  | cons k ks ih =>
    intro s
    simp only [List.map_cons, PyFlat.played, due]
    rw [← ih]
    simp [PyFlat.told, List.flatMap_cons]
noncomputable def Asked (s : S) : List Cl → Prop
  | [] => True
  | k :: ks => asked1 (PySi07.whole k.raw) = true ∧ (place (PySi07.whole k.raw) = 0 ∨ ((get s (object (PySi07.whole k.raw))).isSome = true ∧ ∃ q, callOf (PySi07.whole k.raw) = some q ∧ small (get s (object (PySi07.whole k.raw))) q = true)) ∧ Asked (step s (PySi07.whole k.raw)).1 ks
theorem begins_step {s : S} {c : Si07Neutral.Call} (h : place c = 0 ∨ ∃ q, callOf c = some q ∧ ∀ n m, q ≠ .begins n m) : begins s c = (step s c).1 := by
  unfold begins
  by_cases p : place c = 0
  · rw [if_pos p]
  · rw [if_neg p]
    rcases h with h | ⟨q, hq, nb⟩
    · exact absurd h p
    · unfold step
      rw [hq]
      dsimp only
      have : (worked (get s (object c)) q).1 = get s (object c) := by
        cases q with
        | begins n m => exact absurd rfl (nb n m)
        | _ => cases get s (object c) <;> rfl
      rw [this]
      unfold put Si07Neutral.get
      split <;> rfl
theorem not_begins {k : Cl} (ok : k.ok) {q : Si07.Call} (h : callOf (PySi07.whole k.raw) = some q) (p : place (PySi07.whole k.raw) ≠ 0) : ∀ n m, q ≠ .begins n m := by
  intro n m e
  subst e
  cases k with
  | begins o n' m' => exact p rfl
  | two c o a b =>
    rcases ok with rfl | rfl
    · have h : some (Si07.Call.same _ _) = some (Si07.Call.begins n m) := h
      cases h
    · have h : some (Si07.Call.below _ _) = some (Si07.Call.begins n m) := h
      cases h
  | one c o a =>
    rcases ok with rfl | rfl | rfl | rfl
    · have h : some (Si07.Call.length _) = some (Si07.Call.begins n m) := h
      cases h
    · have h : some (Si07.Call.least _) = some (Si07.Call.begins n m) := h
      cases h
    · have h : some (Si07.Call.ends _) = some (Si07.Call.begins n m) := h
      cases h
    · have h : some (Si07.Call.order _) = some (Si07.Call.begins n m) := h
      cases h
  | count o c =>
    have h : some (Si07.Call.count _) = some (Si07.Call.begins n m) := h
    cases h
  | longest o =>
    have h : some Si07.Call.longest = some (Si07.Call.begins n m) := h
    cases h
  | between o c a =>
    have h : some (Si07.Call.between _ _) = some (Si07.Call.begins n m) := h
    cases h
theorem calls_ok {l : List Int} {ks : List Cl} (h : Calls l ks) : ∀ k, k ∈ ks → k.ok := by
  induction h with
  | nil => intro k hk; cases hk
  | cons ok _ ih =>
    intro k hk
    rcases List.mem_cons.1 hk with rfl | hk
    · exact ok
    · exact ih k hk
theorem asked_of (ks : List Cl) (oks : ∀ k, k ∈ ks → k.ok) : ∀ (s : S), ((ks.map Cl.raw).map PySi07.whole).all asked1 = true → opened s ((ks.map Cl.raw).map PySi07.whole) = true → Asked s ks := by
  induction ks with
  | nil => intro s _ _; trivial
  | cons k ks ih =>
    intro s ha ho
    simp only [List.map_cons, List.all_cons, Bool.and_eq_true] at ha
    simp only [List.map_cons, opened, Bool.and_eq_true, Bool.or_eq_true, beq_iff_eq] at ho
    have h2 : place (PySi07.whole k.raw) = 0 ∨ ((get s (object (PySi07.whole k.raw))).isSome = true ∧ ∃ q, callOf (PySi07.whole k.raw) = some q ∧ small (get s (object (PySi07.whole k.raw))) q = true) := by
      rcases ho.1 with h | ⟨h, q⟩
      · exact Or.inl h
      · right
        refine ⟨h, ?_⟩
        cases e : callOf (PySi07.whole k.raw) with
        | none => rw [e] at q; cases q
        | some z => rw [e] at q; exact ⟨z, rfl, q⟩
    refine ⟨ha.1, h2, ?_⟩
    have e : begins s (PySi07.whole k.raw) = (step s (PySi07.whole k.raw)).1 := by
      refine begins_step ?_
      by_cases p : place (PySi07.whole k.raw) = 0
      · exact Or.inl p
      · rcases h2 with h | ⟨_, q, hq, _⟩
        · exact Or.inl h
        · exact Or.inr ⟨q, hq, not_begins (oks k (List.mem_cons_self ..)) hq p⟩
    rw [← e]
    exact ih (fun k hk => oks k (List.mem_cons_of_mem _ hk)) _ ha.2 ho.2
theorem request {l : List Int} (h : PySi07.answers_asked l = true) : ∃ ks, Calls l ks ∧ ks.length ≤ 400 ∧ Asked start ks ∧ PySi07.answers l = due start ks := by
  unfold PySi07.answers_asked at h
  unfold PySi07.answers
  cases e : PySi07.calls l with
  | none => rw [e] at h; cases h
  | some cs =>
    rw [e] at h
    dsimp only at h ⊢
    unfold PySi07.calls at e
    split at e
    · cases e
    · next cs' e' =>
      obtain ⟨ks, hk, rfl⟩ := calls_form _ _ _ e'
      simp only [Option.some.injEq] at e
      subst e
      rw [Bool.and_eq_true] at h
      obtain ⟨h4, h⟩ := h
      unfold asked at h
      rw [Bool.and_eq_true, Bool.and_eq_true, Bool.and_eq_true] at h
      refine ⟨ks, hk, ?_, asked_of ks (calls_ok hk) _ h.1 h.2.2.2, told_played ks _⟩
      unfold PyFlat.atMost at h4
      simpa using h4
def Short (a : List Int) : Prop := a.length ≤ 128 ∧ ∀ x, x ∈ a → 0 ≤ x ∧ x ≤ 255
theorem natural8 {a : List Int} (h : a.all (fun (z : Int) => natural z 8) = true) : ∀ x, x ∈ a → 0 ≤ x ∧ x ≤ 255 := by
  intro x hx
  have := List.all_eq_true.1 h x hx
  unfold natural at this
  simp only [Bool.and_eq_true, decide_eq_true_iff] at this
  omega
theorem long128 {a : List Int} (h : long a (a.length : Int) 0 128 = true) : a.length ≤ 128 := by
  unfold long at h
  rw [decide_eq_true_iff] at h
  split at h <;> omega
theorem natural1 {o : Int} (h : natural o 1 = true) : o = 0 ∨ o = 1 := by
  unfold natural at h
  simp only [Bool.and_eq_true, decide_eq_true_iff] at h
  omega
theorem natural32 {k : Int} (h : natural k 32 = true) : 0 ≤ k ∧ k < 4294967296 := by
  unfold natural at h
  simp only [Bool.and_eq_true, decide_eq_true_iff] at h
  omega
noncomputable def Known : Cl → Prop
  | .begins o n m => (o = 0 ∨ o = 1) ∧ (∀ x, x ∈ m → 0 ≤ x ∧ x ≤ 255) ∧ (-2147483648 ≤ n ∧ n < 2147483648) ∧ ((1 ≤ n ∧ n ≤ 8 ∧ (m.length : Int) = n * n) ∨ (¬ (1 ≤ n ∧ n ≤ 8) ∧ m = []))
  | .two _ o a b => (o = 0 ∨ o = 1) ∧ Short a ∧ Short b
  | .one _ o a => (o = 0 ∨ o = 1) ∧ Short a
  | .count o k => (o = 0 ∨ o = 1) ∧ 0 ≤ k ∧ k < 4294967296
  | .longest o => o = 0 ∨ o = 1
  | .between o k a => (o = 0 ∨ o = 1) ∧ (0 ≤ k ∧ k < 4294967296) ∧ Short a
theorem known_of {k : Cl} (ok : k.ok) (h : asked1 (PySi07.whole k.raw) = true) : Known k := by
  cases k with
  | begins o n m =>
    have h : (natural o 1 && (whole32 n && (m.all (fun (z : Int) => natural z 8) && (if 1 ≤ n ∧ n ≤ 8 then decide ((m.length : Int) = n * n) else m.isEmpty)))) = true := h
    rw [Bool.and_eq_true, Bool.and_eq_true, Bool.and_eq_true] at h
    obtain ⟨h1, h2, h3, h4⟩ := h
    refine ⟨natural1 h1, natural8 h3, ?_, ?_⟩
    · unfold whole32 at h2
      rw [Bool.and_eq_true, decide_eq_true_iff, decide_eq_true_iff] at h2
      omega
    · by_cases c : 1 ≤ n ∧ n ≤ 8
      · rw [if_pos c] at h4; exact Or.inl ⟨c.1, c.2, of_decide_eq_true h4⟩
      · rw [if_neg c] at h4; exact Or.inr ⟨c, List.isEmpty_iff.1 h4⟩
  | two p o a b =>
    have h : (natural o 1 && (natural (a.length : Int) 32 && (natural (b.length : Int) 32 && (a.all (fun (z : Int) => natural z 8) && (b.all (fun (z : Int) => natural z 8) && (long a (a.length : Int) 0 128 && long b (b.length : Int) 0 128)))))) = true := by
      rcases ok with rfl | rfl
      · exact h
      · exact h
    rw [Bool.and_eq_true, Bool.and_eq_true, Bool.and_eq_true, Bool.and_eq_true, Bool.and_eq_true, Bool.and_eq_true] at h
    obtain ⟨h1, _, _, h2, h3, h4, h5⟩ := h
    exact ⟨natural1 h1, ⟨long128 h4, natural8 h2⟩, ⟨long128 h5, natural8 h3⟩⟩
  | one p o a =>
    have h : (natural o 1 && (natural (a.length : Int) 32 && (a.all (fun (z : Int) => natural z 8) && long a (a.length : Int) 0 128))) = true := by
      rcases ok with rfl | rfl | rfl | rfl
      · exact h
      · exact h
      · exact h
      · exact h
    rw [Bool.and_eq_true, Bool.and_eq_true, Bool.and_eq_true] at h
    obtain ⟨h1, _, h2, h3⟩ := h
    exact ⟨natural1 h1, long128 h3, natural8 h2⟩
  | count o k =>
    have h : (natural o 1 && natural k 32) = true := h
    rw [Bool.and_eq_true] at h
    exact ⟨natural1 h.1, natural32 h.2⟩
  | longest o => exact natural1 h
  | between o k a =>
    have h : (natural o 1 && (natural (a.length : Int) 32 && (natural k 32 && (a.all (fun (z : Int) => natural z 8) && long a (a.length : Int) 0 128)))) = true := h
    rw [Bool.and_eq_true, Bool.and_eq_true, Bool.and_eq_true, Bool.and_eq_true] at h
    obtain ⟨h1, _, h2, h3, h4⟩ := h
    exact ⟨natural1 h1, natural32 h2, long128 h4, natural8 h3⟩
theorem natural1_ne {o : Int} (h : o = 0 ∨ o = 1) : (o = 0 ∧ ∀ s : S, Si07Neutral.get s o = s.1) ∨ (o = 1 ∧ ∀ s : S, Si07Neutral.get s o = s.2) := by
  rcases h with rfl | rfl
  · exact Or.inl ⟨rfl, fun s => rfl⟩
  · exact Or.inr ⟨rfl, fun s => rfl⟩
theorem given_short {M : Mirrors} {a : List Int} (h : Short a) : given M (wordOf (a.length : Int) a) = if (∀ x, x ∈ a → x < (M.n : Int)) then some (natsOf a) else none := by
  unfold wordOf
  rw [if_pos (by have := h.1; omega)]
  unfold given
  dsimp only
  have e : ((natsOf a).length ≤ MOST ∧ ((natsOf a).all fun x => decide (x < M.n)) = true) ↔ ∀ x, x ∈ a → x < (M.n : Int) := by
    unfold natsOf MOST
    simp only [List.length_map, List.all_eq_true, List.mem_map, decide_eq_true_iff]
    constructor
    · rintro ⟨_, q⟩ x hx
      have := q x.toNat ⟨x, hx, rfl⟩
      have := h.2 x hx
      omega
    · intro q
      refine ⟨h.1, ?_⟩
      rintro y ⟨x, hx, rfl⟩
      have := q x hx
      have := h.2 x hx
      omega
  by_cases c : ∀ x, x ∈ a → x < (M.n : Int)
  · rw [if_pos c, if_pos (e.2 c)]
  · rw [if_neg c, if_neg (fun q => c (e.1 q))]
theorem isWord_nats {M : Mirrors} {a : List Int} (h : Short a) (q : ∀ x, x ∈ a → x < (M.n : Int)) : IsWord M (natsOf a) := by
  intro y hy
  obtain ⟨x, hx, rfl⟩ := List.mem_map.1 hy
  have := q x hx
  have := h.2 x hx
  omega
theorem put_get {s : S} {o : Int} : put s o (Si07Neutral.get s o) = s := by
  unfold put Si07Neutral.get; split <;> rfl
end Par
end
section
set_option Elab.async false
namespace Mir
open Si07 Si07Neutral Cox Par
noncomputable def hv (n : Nat) (g : Nat → Int) : List Int := (List.range n).map g
theorem hv_length (n : Nat) (g : Nat → Int) : (hv n g).length = n := by simp [hv]
theorem hv_get {n : Nat} {g : Nat → Int} {i : Nat} (h : i < n) : (hv n g)[i]? = some (g i) := by
  unfold hv; rw [List.getElem?_map, List.getElem?_range h]; rfl
theorem hv_congr {n : Nat} {g h : Nat → Int} (a : Agree n g h) : hv n g = hv n h := List.map_congr_left fun j hj => a j (List.mem_range.1 hj)
theorem hv_inj {n : Nat} {g h : Nat → Int} (e : hv n g = hv n h) : Agree n g h := map_range_inj e
noncomputable def pl (M : Mirrors) (i : Nat) : List Int := (List.range M.n).map fun j => - cartan M i j
theorem pl_length (M : Mirrors) (i : Nat) : (pl M i).length = M.n := by simp [pl]
theorem pl_get {M : Mirrors} {i j : Nat} (h : j < M.n) : (pl M i)[j]? = some (- cartan M i j) := by
  unfold pl; rw [List.getElem?_map, List.getElem?_range h]; rfl
theorem rf_pull (M : Mirrors) (g : Nat → Int) (i j : Nat) : g j + g i * (- cartan M i j) = rf M i g j := by
  unfold rf; rw [Int.mul_comm, Int.neg_mul]; omega
theorem cartan_small (M : Mirrors) (i j : Nat) : -3 ≤ - cartan M i j + 1 ∧ - cartan M i j ≤ 3 := by
  unfold cartan
  repeat' split
  all_goals omega
noncomputable def low (n : Nat) (g : Nat → Int) : Option Nat := (List.range n).find? fun i => decide (g i < 0)
theorem low_congr {n : Nat} {g h : Nat → Int} (a : Agree n g h) : low n g = low n h := by
  unfold low
  have : ∀ l : List Nat, (∀ x, x ∈ l → x < n) → l.find? (fun i => decide (g i < 0)) = l.find? (fun i => decide (h i < 0)) := by
    intro l
    induction l with
    | nil => intro _; rfl
    | cons x l ih =>
      intro hl
      rw [List.find?_cons, List.find?_cons, a x (hl x (List.mem_cons_self ..)), ih fun y hy => hl y (List.mem_cons_of_mem _ hy)]
  exact this _ fun x hx => List.mem_range.1 hx
theorem find_range {p : Nat → Bool} : ∀ {n i : Nat}, (∀ j, j < i → p j = false) → i < n → p i = true → (List.range n).find? p = some i := by
  intro n
  induction n with
  | zero => intro i _ h; omega
  | succ n ih =>
    intro i h hi hp
    rw [List.range_succ, List.find?_append]
    by_cases q : i < n
    · rw [ih h q hp]; rfl
    · have : i = n := by omega
      subst this
      have : (List.range i).find? p = none := by
        rw [List.find?_eq_none]
        intro x hx; rw [h x (List.mem_range.1 hx)]; simp
      rw [this, Option.none_or, List.find?_cons, hp]
theorem find_range_none {p : Nat → Bool} {n : Nat} (h : ∀ j, j < n → p j = false) : (List.range n).find? p = none := by
  rw [List.find?_eq_none]
  intro x hx; rw [h x (List.mem_range.1 hx)]; simp
theorem low_some {n : Nat} {g : Nat → Int} {i : Nat} (h : ∀ j, j < i → ¬ g j < 0) (hi : i < n) (hg : g i < 0) : low n g = some i :=
  find_range (fun j hj => by simpa using h j hj) hi (by simpa using hg)
theorem low_none {n : Nat} {g : Nat → Int} (h : ∀ j, j < n → ¬ g j < 0) : low n g = none :=
  find_range_none fun j hj => by simpa using h j hj
theorem low_is {n : Nat} {g : Nat → Int} {i : Nat} (h : low n g = some i) : i < n ∧ g i < 0 := by
  unfold low at h
  have a := List.find?_some h
  have b := List.mem_of_find?_eq_some h
  exact ⟨List.mem_range.1 b, by simpa using a⟩
theorem head_low {M : Mirrors} (G : Good M) {u : Word} (hu : IsWord M u) : (descents M (matOf M u)).head? = low M.n (act M u one) := by
  rw [descents_eq G hu, List.head?_filter]; rfl
noncomputable def take (M : Mirrors) : Nat → (Nat → Int) → Word
  | 0, _ => []
  | f + 1, g => match low M.n g with
    | none => []
    | some i => i :: take M f (rf M i g)
theorem take_eq {M : Mirrors} (G : Good M) : ∀ (f : Nat) (v : Word), IsWord M v → leastFrom M f (matOf M v) = take M f (act M v one)
  | 0, _, _ => rfl
  | f + 1, v, wv => by
    unfold leastFrom take
    rw [head_low G wv]
    cases e : low M.n (act M v one) with
    | none => rfl
    | some i =>
      have hi := (low_is e).1
      dsimp only
      rw [timesS_matOf hi, take_eq G f (v ++ [i]) (isWord_snoc wv hi), act_snoc]
theorem leastOf_take {M : Mirrors} (G : Good M) {u : Word} (hu : IsWord M u) : leastOf M u = take M 300 (act M u.reverse one) := by
  unfold leastOf
  rw [ofWord_eq (isWord_reverse hu), take_eq G 300 _ (isWord_reverse hu)]
noncomputable def bits (g : Nat → Int) : Nat → Nat
  | 0 => 0
  | k + 1 => bits g k + if g k < 0 then 2 ^ k else 0
theorem bits_eq (g : Nat → Int) : ∀ k, (((List.range k).filter fun i => decide (g i < 0)).map fun i => 2 ^ i).sum = bits g k
  | 0 => rfl
  | k + 1 => by
    rw [List.range_succ, List.filter_append, List.map_append, List.sum_append, bits_eq g k]
    show _ = bits g k + if g k < 0 then 2 ^ k else 0
    by_cases q : g k < 0 <;> simp [q]
theorem ends_bits {M : Mirrors} (G : Good M) {u : Word} (hu : IsWord M u) : ((descents M (ofWord M u)).map fun i => 2 ^ i).sum = bits (act M u one) M.n := by
  rw [ofWord_eq hu, descents_eq G hu, bits_eq]
def At (s : S) (o : Int) (M : Mirrors) : Prop := Si07Neutral.get s o = some M
def Fit (M : Mirrors) (a : List Int) : Prop := ∀ x, x ∈ a → x < (M.n : Int)
theorem step_asks {s : S} {o : Int} {M : Mirrors} (h : At s o M) {c : Si07Neutral.Call} {q : Si07.Call} (hc : callOf c = some q) (ho : object c = o) (nb : ∀ n m, q ≠ .begins n m) :
    step s c = (s, listOf (place c) (worked (some M) q).2) := by
  unfold step
  rw [hc]
  dsimp only
  rw [ho, h]
  have : (worked (some M) q).1 = some M := by
    cases q with
    | begins n m => exact absurd rfl (nb n m)
    | _ => rfl
  rw [this, ← h, put_get]
open Classical in
theorem due_same {s : S} {o : Int} {M : Mirrors} (G : Good M) (h : At s o M) {a b : List Int} (sa : Short a) (sb : Short b) :
    step s (PySi07.whole (Cl.two 1 o a b).raw) = (s, [if Fit M a ∧ Fit M b then (if hts M (natsOf a) = hts M (natsOf b) then 1 else 0) else -2]) := by
  rw [step_asks h (c := PySi07.whole (Cl.two 1 o a b).raw) (q := .same (wordOf (a.length : Int) a) (wordOf (b.length : Int) b)) rfl rfl (by intro n m e; cases e)]
  congr 1
  show listOf 1 (worked (some M) _).2 = _
  unfold worked
  dsimp only
  rw [given_short sa, given_short sb]
  by_cases fa : Fit M a
  · rw [if_pos (show ∀ x, x ∈ a → x < (M.n : Int) from fa)]
    by_cases fb : Fit M b
    · rw [if_pos (show ∀ x, x ∈ b → x < (M.n : Int) from fb), if_pos ⟨fa, fb⟩]
      dsimp only
      have wa := isWord_nats sa fa
      have wb := isWord_nats sb fb
      rw [ofWord_eq wa, ofWord_eq wb]
      by_cases e : hts M (natsOf a) = hts M (natsOf b)
      · rw [if_pos e, if_pos ((matOf_inj wa wb).2 ((hts_inj G wa wb).1 e))]; rfl
      · rw [if_neg e, if_neg (fun q => e ((hts_inj G wa wb).2 ((matOf_inj wa wb).1 q)))]; rfl
    · rw [if_neg (show ¬ ∀ x, x ∈ b → x < (M.n : Int) from fb), if_neg (fun q => fb q.2)]; rfl
  · rw [if_neg (show ¬ ∀ x, x ∈ a → x < (M.n : Int) from fa), if_neg (show ¬ (Fit M a ∧ Fit M b) from fun q => fa q.1)]
    cases (if ∀ x, x ∈ b → x < (M.n : Int) then some (natsOf b) else none) <;> rfl
open Classical in
theorem due_length {s : S} {o : Int} {M : Mirrors} (h : At s o M) {a : List Int} (sa : Short a) :
    step s (PySi07.whole (Cl.one 2 o a).raw) = (s, [if Fit M a then ((leastOf M (natsOf a)).length : Int) else -2]) := by
  rw [step_asks h (c := PySi07.whole (Cl.one 2 o a).raw) (q := .length (wordOf (a.length : Int) a)) rfl rfl (by intro n m e; cases e)]
  congr 1
  show listOf 2 (worked (some M) _).2 = _
  unfold worked
  dsimp only
  rw [given_short sa]
  by_cases fa : Fit M a
  · rw [if_pos (show ∀ x, x ∈ a → x < (M.n : Int) from fa), if_pos fa]
    dsimp only [listOf, say]
    rw [if_neg (by omega)]; rfl
  · rw [if_neg (show ¬ ∀ x, x ∈ a → x < (M.n : Int) from fa), if_neg fa]; rfl
open Classical in
theorem due_least {s : S} {o : Int} {M : Mirrors} (h : At s o M) {a : List Int} (sa : Short a) :
    step s (PySi07.whole (Cl.one 3 o a).raw) = (s, if Fit M a then (0 : Int) :: (leastOf M (natsOf a)).map (fun (x : Nat) => (x : Int)) else [-2]) := by
  rw [step_asks h (c := PySi07.whole (Cl.one 3 o a).raw) (q := .least (wordOf (a.length : Int) a)) rfl rfl (by intro n m e; cases e)]
  congr 1
  show listOf 3 (worked (some M) _).2 = _
  unfold worked
  dsimp only
  rw [given_short sa]
  by_cases fa : Fit M a
  · rw [if_pos (show ∀ x, x ∈ a → x < (M.n : Int) from fa), if_pos fa]; rfl
  · rw [if_neg (show ¬ ∀ x, x ∈ a → x < (M.n : Int) from fa), if_neg fa]; rfl
open Classical in
theorem due_ends {s : S} {o : Int} {M : Mirrors} (G : Good M) (h : At s o M) {a : List Int} (sa : Short a) :
    step s (PySi07.whole (Cl.one 4 o a).raw) = (s, [if Fit M a then ((bits (act M (natsOf a) one) M.n : Nat) : Int) else -2]) := by
  rw [step_asks h (c := PySi07.whole (Cl.one 4 o a).raw) (q := .ends (wordOf (a.length : Int) a)) rfl rfl (by intro n m e; cases e)]
  congr 1
  show listOf 4 (worked (some M) _).2 = _
  unfold worked
  dsimp only
  rw [given_short sa]
  by_cases fa : Fit M a
  · rw [if_pos (show ∀ x, x ∈ a → x < (M.n : Int) from fa), if_pos fa]
    dsimp only [listOf, say]
    rw [ends_bits G (isWord_nats sa fa), if_neg (by omega)]; rfl
  · rw [if_neg (show ¬ ∀ x, x ∈ a → x < (M.n : Int) from fa), if_neg fa]; rfl
open Classical in
theorem due_below {s : S} {o : Int} {M : Mirrors} (G : Good M) (h : At s o M) {a b : List Int} (sa : Short a) (sb : Short b) :
    step s (PySi07.whole (Cl.two 5 o a b).raw) = (s, [if Fit M a ∧ Fit M b then (if Bel M (natsOf a) (natsOf b) then 1 else 0) else -2]) := by
  rw [step_asks h (c := PySi07.whole (Cl.two 5 o a b).raw) (q := .below (wordOf (a.length : Int) a) (wordOf (b.length : Int) b)) rfl rfl (by intro n m e; cases e)]
  congr 1
  show listOf 5 (worked (some M) _).2 = _
  unfold worked
  dsimp only
  rw [given_short sa, given_short sb]
  by_cases fa : Fit M a
  · rw [if_pos (show ∀ x, x ∈ a → x < (M.n : Int) from fa)]
    by_cases fb : Fit M b
    · rw [if_pos (show ∀ x, x ∈ b → x < (M.n : Int) from fb), if_pos ⟨fa, fb⟩]
      dsimp only
      have wa := isWord_nats sa fa
      have wb := isWord_nats sb fb
      have lb : (natsOf b).length ≤ 128 := by unfold natsOf; rw [List.length_map]; exact sb.1
      rw [ofWord_eq wa, ofWord_eq wb]
      have L := lower_iff G 300 _ _ wa wb (len_lt wb lb)
      by_cases e : Bel M (natsOf a) (natsOf b)
      · rw [if_pos e, if_pos (L.2 e)]; rfl
      · rw [if_neg e, if_neg (fun q => e (L.1 q))]; rfl
    · rw [if_neg (show ¬ ∀ x, x ∈ b → x < (M.n : Int) from fb), if_neg (fun q => fb q.2)]; rfl
  · rw [if_neg (show ¬ ∀ x, x ∈ a → x < (M.n : Int) from fa), if_neg (show ¬ (Fit M a ∧ Fit M b) from fun q => fa q.1)]
    cases (if ∀ x, x ∈ b → x < (M.n : Int) then some (natsOf b) else none) <;> rfl
open Classical in
theorem due_order {s : S} {o : Int} {M : Mirrors} (h : At s o M) {a : List Int} (sa : Short a) :
    step s (PySi07.whole (Cl.one 6 o a).raw) = (s, [if Fit M a then ((orderOf M (natsOf a) : Nat) : Int) else -2]) := by
  rw [step_asks h (c := PySi07.whole (Cl.one 6 o a).raw) (q := .order (wordOf (a.length : Int) a)) rfl rfl (by intro n m e; cases e)]
  congr 1
  show listOf 6 (worked (some M) _).2 = _
  unfold worked
  dsimp only
  rw [given_short sa]
  by_cases fa : Fit M a
  · rw [if_pos (show ∀ x, x ∈ a → x < (M.n : Int) from fa), if_pos fa]
    dsimp only [listOf, say]
    rw [if_neg (by omega)]; rfl
  · rw [if_neg (show ¬ ∀ x, x ∈ a → x < (M.n : Int) from fa), if_neg fa]; rfl
theorem due_count {s : S} {o k : Int} {M : Mirrors} (h : At s o M) :
    step s (PySi07.whole (Cl.count o k).raw) = (s, if 128 < k.toNat then [-2] else [0, ((level M k.toNat).length : Int)]) := by
  rw [step_asks h (c := PySi07.whole (Cl.count o k).raw) (q := .count k.toNat) rfl rfl (by intro n m e; cases e)]
  congr 1
  show listOf 7 (worked (some M) _).2 = _
  unfold worked
  dsimp only
  by_cases q : 128 < k.toNat
  · rw [if_pos q, if_pos (show MOST < k.toNat from q)]; rfl
  · rw [if_neg q, if_neg (show ¬ MOST < k.toNat from q)]; rfl
theorem due_longest {s : S} {o : Int} {M : Mirrors} (h : At s o M) :
    step s (PySi07.whole (Cl.longest o).raw) = (s, match longestOf M with | some w => (0 : Int) :: w.map (fun (x : Nat) => (x : Int)) | none => [-1]) := by
  rw [step_asks h (c := PySi07.whole (Cl.longest o).raw) (q := .longest) rfl rfl (by intro n m e; cases e)]
  congr 1
  show listOf 8 (worked (some M) _).2 = _
  unfold worked
  dsimp only
  cases longestOf M <;> rfl
open Classical in
theorem due_between {s : S} {o k : Int} {M : Mirrors} (h : At s o M) {a : List Int} (sa : Short a) :
    step s (PySi07.whole (Cl.between o k a).raw) = (s, if Fit M a ∧ ¬ 128 < k.toNat ∧ ¬ 24 < (leastOf M (natsOf a)).length then
      [0, (((lowerAll M (leastOf M (natsOf a))).filter fun w => lengthM M w == k.toNat).length : Int)] else [-2]) := by
  rw [step_asks h (c := PySi07.whole (Cl.between o k a).raw) (q := .between (wordOf (a.length : Int) a) k.toNat) rfl rfl (by intro n m e; cases e)]
  congr 1
  show listOf 9 (worked (some M) _).2 = _
  unfold worked
  dsimp only
  rw [given_short sa]
  by_cases fa : Fit M a
  · rw [if_pos (show ∀ x, x ∈ a → x < (M.n : Int) from fa)]
    dsimp only
    by_cases c : 128 < k.toNat ∨ 24 < (leastOf M (natsOf a)).length
    · rw [if_pos (show MOST < k.toNat ∨ _ from c), if_neg (fun q => c.elim q.2.1 q.2.2)]; rfl
    · rw [if_neg (show ¬ (MOST < k.toNat ∨ _) from c), if_pos ⟨fa, fun q => c (Or.inl q), fun q => c (Or.inr q)⟩]; rfl
  · rw [if_neg (show ¬ ∀ x, x ∈ a → x < (M.n : Int) from fa), if_neg (fun q => fa q.1)]; rfl
theorem due_begins {s : S} {o n : Int} {m : List Int} :
    step s (PySi07.whole (Cl.begins o n m).raw) = if 1 ≤ n ∧ n ≤ 8 ∧ isGood (mirrorsOf n.toNat (natsOf m)) = true then (put s o (some (mirrorsOf n.toNat (natsOf m))), [0]) else (s, [-2]) := by
  show (put s o (worked (Si07Neutral.get s o) (.begins n (natsOf m))).1, listOf 0 (worked (Si07Neutral.get s o) (.begins n (natsOf m))).2) = _
  unfold worked
  dsimp only
  by_cases c : 1 ≤ n ∧ n ≤ 8 ∧ isGood (mirrorsOf n.toNat (natsOf m)) = true
  · rw [if_pos c, if_pos c]; rfl
  · rw [if_neg c, if_neg c]
    dsimp only
    rw [put_get]; rfl
theorem nats_getD {m : List Int} {k : Nat} (h : k < m.length) : ∃ x, m[k]? = some x ∧ (natsOf m).getD k 0 = x.toNat ∧ x ∈ m := by
  refine ⟨m[k], List.getElem?_eq_getElem h, ?_, List.getElem_mem h⟩
  unfold natsOf
  rw [List.getD_eq_getElem?_getD, List.getElem?_map, List.getElem?_eq_getElem h]; rfl
theorem place_lt {n i j : Nat} (hi : i < n) (hj : j < n) : n * i + j < n * n := by
  have : n * (i + 1) ≤ n * n := Nat.mul_le_mul_left n hi
  rw [Nat.mul_succ] at this
  omega
noncomputable def ent (m : List Int) (n i j : Nat) : Int := m.getD (n * i + j) 0
theorem ent_get {m : List Int} {n i j : Nat} (hm : m.length = n * n) (hi : i < n) (hj : j < n) : m[n * i + j]? = some (ent m n i j) := by
  have h : n * i + j < m.length := by rw [hm]; exact place_lt hi hj
  unfold ent
  (rw [List.getD_eq_getElem?_getD, List.getElem?_eq_getElem h]; rfl)
theorem ent_nat {m : List Int} {n i j : Nat} (hm : m.length = n * n) (pos : ∀ x, x ∈ m → 0 ≤ x ∧ x ≤ 255) (hi : i < n) (hj : j < n) :
    (((mirrorsOf n (natsOf m)).m i j : Nat) : Int) = ent m n i j := by
  have h : n * i + j < m.length := by rw [hm]; exact place_lt hi hj
  obtain ⟨x, hx, e, mx⟩ := nats_getD h
  show (((natsOf m).getD (n * i + j) 0 : Nat) : Int) = _
  rw [e]
  have : ent m n i j = x := by unfold ent; rw [List.getD_eq_getElem?_getD, hx]; rfl
  rw [this]
  have := pos x mx
  omega
def Five (x : Int) : Prop := x = 0 ∨ x = 2 ∨ x = 3 ∨ x = 4 ∨ x = 6
def Tab (n : Nat) (m : List Int) : Prop := ∀ i, i < n → ent m n i i = 1 ∧ ∀ j, j < i → Five (ent m n i j) ∧ ent m n i j = ent m n j i
theorem five_of {x : Nat} (h : x = 0 ∨ x = 2 ∨ x = 3 ∨ x = 4 ∨ x = 6) : Five x :=
  h.imp (congrArg Nat.cast) <| Or.imp (congrArg Nat.cast) <| Or.imp (congrArg Nat.cast) <| Or.imp (congrArg Nat.cast) (congrArg Nat.cast)
theorem of_five {x : Nat} (h : Five x) : x = 0 ∨ x = 2 ∨ x = 3 ∨ x = 4 ∨ x = 6 :=
  Or.imp Int.ofNat.inj (Or.imp Int.ofNat.inj <| Or.imp Int.ofNat.inj <| Or.imp Int.ofNat.inj Int.ofNat.inj) h
theorem five_ne {x : Nat} (h : x = 0 ∨ x = 2 ∨ x = 3 ∨ x = 4 ∨ x = 6) : x ≠ 1 ∧ x ∈ [0, 1, 2, 3, 4, 6] := by
  rcases h with rfl | rfl | rfl | rfl | rfl <;> decide
theorem good_tab {n : Nat} {m : List Int} (h1 : 1 ≤ n) (h8 : n ≤ 8) (hm : m.length = n * n) (pos : ∀ x, x ∈ m → 0 ≤ x ∧ x ≤ 255) : isGood (mirrorsOf n (natsOf m)) = true ↔ Tab n m := by
  rw [isGood_iff h1 h8]
  constructor
  · intro G i hi
    refine ⟨?_, fun j hj => ?_⟩
    · rw [← ent_nat hm pos hi hi, (G.2.2 i i hi hi).2.1.2 rfl]; rfl
    · have hj' : j < n := Nat.lt_trans hj hi
      rw [← ent_nat hm pos hi hj', ← ent_nat hm pos hj' hi, good_symm G hi hj']
      refine ⟨?_, rfl⟩
      exact five_of (good_cases G hj' hi (Nat.ne_of_lt hj))
  · intro T
    refine ⟨h1, h8, fun i j hi hj => ?_⟩
    have hi : i < n := hi
    have hj : j < n := hj
    have e1 := ent_nat hm pos hi hj
    have e2 := ent_nat hm pos hj hi
    by_cases c : i = j
    · subst c
      have := (T i hi).1
      have e : (mirrorsOf n (natsOf m)).m i i = 1 := Int.ofNat.inj (e1.trans this)
      rw [e]; exact ⟨rfl, ⟨fun _ => rfl, fun _ => rfl⟩, by decide⟩
    · have key : Five (ent m n i j) ∧ ent m n i j = ent m n j i := by
        by_cases l : j < i
        · exact (T i hi).2 j l
        · have := (T j hj).2 i (Nat.lt_of_le_of_ne (Nat.le_of_not_lt l) c)
          exact ⟨this.2 ▸ this.1, this.2.symm⟩
      have f := five_ne (of_five (e1 ▸ key.1))
      exact ⟨Int.ofNat.inj (e1.trans (key.2.trans e2.symm)), ⟨fun q => absurd q f.1, fun q => absurd q c⟩, f.2⟩
end Mir
end
section
set_option Elab.async false
namespace Tor
noncomputable abbrev V := Nat → Int
noncomputable def lc (a : Int) (x : V) (b : Int) (y : V) : V := fun j => a * x j + b * y j
noncomputable def sm (a : Int) (x : V) : V := fun j => a * x j
noncomputable def zero : V := fun _ => 0
def Lin (A : V → V) : Prop := ∀ a b x y, A (lc a x b y) = lc a (A x) b (A y)
inductive Pol (A : V → V) : (V → V) → Prop
  | one : Pol A (fun x => x)
  | app {T : V → V} : Pol A T → Pol A (fun x => A (T x))
  | lc (a b : Int) {T U : V → V} : Pol A T → Pol A U → Pol A (fun x => lc a (T x) b (U x))
theorem sm_lc (a : Int) (x : V) : sm a x = lc a x 0 x := by funext j; simp [sm, lc]
theorem Lin.sm {A : V → V} (h : Lin A) (a : Int) (x : V) : A (sm a x) = sm a (A x) := by rw [sm_lc, sm_lc, h]
theorem zero_lc (x : V) : zero = lc 0 x 0 x := by funext j; simp [zero, lc]
theorem Lin.zero {A : V → V} (h : Lin A) : A zero = zero := by
  rw [zero_lc Tor.zero, h]; funext j; simp [lc]
theorem Pol.lin {A T : V → V} (h : Lin A) (p : Pol A T) : Lin T := by
  induction p with
  | one => intro a b x y; rfl
  | app _ ih => intro a b x y; dsimp only; rw [ih, h]
  | lc c d _ _ ih1 ih2 =>
    intro a b x y
    dsimp only
    rw [ih1, ih2]
    funext j; simp only [Tor.lc]; grind
theorem Pol.commA {A T : V → V} (h : Lin A) (p : Pol A T) (x : V) : T (A x) = A (T x) := by
  induction p with
  | one => rfl
  | app _ ih => dsimp only; rw [ih]
  | lc c d _ _ ih1 ih2 => dsimp only; rw [ih1, ih2, h]
theorem Pol.comm {A T U : V → V} (h : Lin A) (p : Pol A T) (q : Pol A U) (x : V) : T (U x) = U (T x) := by
  induction q generalizing x with
  | one => rfl
  | app _ ih => dsimp only; rw [p.commA h, ih]
  | lc c d _ _ ih1 ih2 => dsimp only; rw [p.lin h, ih1, ih2]
theorem Pol.comp {A T U : V → V} (p : Pol A T) (q : Pol A U) : Pol A (fun x => T (U x)) := by
  induction p with
  | one => exact q
  | app _ ih => exact .app ih
  | lc c d _ _ ih1 ih2 => exact .lc c d ih1 ih2
theorem Pol.sm {A : V → V} (c : Int) {T : V → V} (p : Pol A T) : Pol A (fun x => sm c (T x)) := by
  have : (fun x => Tor.sm c (T x)) = fun x => Tor.lc c (T x) 0 (T x) := by funext x; exact sm_lc ..
  rw [this]; exact .lc c 0 p p
theorem Pol.self (A : V → V) : Pol A A := .app .one
noncomputable def pw (T : V → V) : Nat → V → V
  | 0, x => x
  | k + 1, x => T (pw T k x)
theorem pw_succ' (T : V → V) : ∀ (k : Nat) (x : V), pw T (k + 1) x = pw T k (T x)
  | 0, _ => rfl
  | k + 1, x => by
    show T (pw T (k + 1) x) = T (pw T k (T x))
    rw [pw_succ' T k]
theorem pw_add (T : V → V) (a : Nat) : ∀ (b : Nat) (x : V), pw T (a + b) x = pw T a (pw T b x)
  | 0, _ => rfl
  | b + 1, x => by
    rw [show a + (b + 1) = (a + b) + 1 by omega, pw_succ', pw_add T a b, ← pw_succ']
theorem pw_mul (T : V → V) (a : Nat) : ∀ (b : Nat) (x : V), pw T (a * b) x = pw (pw T a) b x
  | 0, _ => rfl
  | b + 1, x => by
    rw [Nat.mul_succ, Nat.add_comm, pw_add, pw_mul T a b]; rfl
theorem Pol.pw {A T : V → V} (p : Pol A T) : ∀ k, Pol A (pw T k)
  | 0 => .one
  | k + 1 => p.comp (Pol.pw p k)
def Sup (n : Nat) (x : V) : Prop := ∀ j, n ≤ j → x j = 0
noncomputable def comb : List Int → List V → V
  | c :: cs, x :: xs => lc c x 1 (comb cs xs)
  | _, _ => zero
def AllZ (c : List Int) : Prop := ∀ a, a ∈ c → a = 0
theorem comb_at : ∀ (c : List Int) (xs : List V) (j : Nat), (∀ x, x ∈ xs → x j = 0) → comb c xs j = 0
  | [], _, j, _ => by simp [comb, zero]
  | _ :: _, [], j, _ => by simp [comb, zero]
  | c :: cs, x :: xs, j, h => by
    simp only [comb, lc]
    rw [h x (List.mem_cons_self ..), comb_at cs xs j fun y hy => h y (List.mem_cons_of_mem _ hy)]
    simp
theorem comb_append : ∀ (c : List Int) (xs : List V) (d : List Int) (ys : List V), c.length = xs.length → comb (c ++ d) (xs ++ ys) = lc 1 (comb c xs) 1 (comb d ys)
  | [], [], d, ys, _ => by funext j; simp [comb, lc, zero]
  | c :: cs, x :: xs, d, ys, h => by
    show lc c x 1 (comb (cs ++ d) (xs ++ ys)) = _
    rw [comb_append cs xs d ys (by simpa using h)]
    funext j; simp only [comb, lc]; grind
  | [], _ :: _, _, _, h => by simp at h
  | _ :: _, [], _, _, h => by simp at h
theorem Lin.comb {T : V → V} (h : Lin T) : ∀ (c : List Int) (xs : List V), T (comb c xs) = comb c (xs.map T)
  | [], _ => by simp only [Tor.comb]; exact h.zero
  | _ :: _, [] => by simp only [Tor.comb, List.map_nil]; exact h.zero
  | c :: cs, x :: xs => by
    simp only [Tor.comb, List.map_cons]
    rw [h, h.comb cs xs]
theorem comb_scale (k : Int) : ∀ (c : List Int) (xs : List V), comb (c.map (k * ·)) xs = sm k (comb c xs)
  | [], _ => by funext j; simp [comb, sm, zero]
  | _ :: _, [] => by funext j; simp [comb, sm, zero]
  | c :: cs, x :: xs => by
    simp only [comb, List.map_cons]
    rw [comb_scale k cs xs]
    funext j; simp only [lc, sm]; grind
noncomputable def clear (n : Nat) (v : V) (x : V) : V := lc (v n) x (-(x n)) v
theorem comb_clear (n : Nat) (v : V) : ∀ (c : List Int) (xs : List V), comb c (xs.map (clear n v)) = lc (v n) (comb c xs) (-(comb c xs n)) v
  | [], _ => by funext j; simp [comb, lc, zero]
  | _ :: _, [] => by funext j; simp [comb, lc, zero]
  | c :: cs, x :: xs => by
    simp only [comb, List.map_cons]
    rw [comb_clear n v cs xs]
    funext j; simp only [clear, lc]; grind
theorem depend : ∀ (n : Nat) (xs : List V), (∀ x, x ∈ xs → Sup n x) → n < xs.length → ∃ c : List Int, c.length = xs.length ∧ ¬ AllZ c ∧ comb c xs = zero
  | 0, xs, hs, hl => by
    obtain ⟨x, r, rfl⟩ : ∃ x r, xs = x :: r := by
      cases xs with
      | nil => simp at hl
      | cons x r => exact ⟨x, r, rfl⟩
    refine ⟨1 :: List.replicate r.length 0, by simp, fun h => by have := h 1 (List.mem_cons_self ..); omega, ?_⟩
    funext j
    refine comb_at _ _ j fun y hy => hs y hy j (Nat.zero_le _)
  | n + 1, xs, hs, hl => by
    by_cases q : ∃ v, v ∈ xs ∧ v n ≠ 0
    · obtain ⟨v, hv, nz⟩ := q
      obtain ⟨p, r, rfl⟩ := List.append_of_mem hv
      have hs' : ∀ y, y ∈ (p ++ r).map (clear n v) → Sup n y := by
        intro y hy
        obtain ⟨x, hx, rfl⟩ := List.mem_map.1 hy
        intro j hj
        have hx' : x ∈ p ++ v :: r := by
          rcases List.mem_append.1 hx with h | h
          · exact List.mem_append_left _ h
          · exact List.mem_append_right _ (List.mem_cons_of_mem _ h)
        by_cases e : j = n
        · subst e; simp only [clear, lc]; grind
        · have a := hs x hx' j (by omega)
          have b := hs v hv j (by omega)
          simp only [clear, lc]; rw [a, b]; simp
      obtain ⟨c, lc', nc, ec⟩ := depend n ((p ++ r).map (clear n v)) hs' (by simp at hl ⊢; omega)
      rw [comb_clear] at ec
      rw [List.length_map] at lc'
      have l1 : (c.take p.length).length = p.length := by rw [List.length_take, lc']; simp
      refine ⟨(c.take p.length).map (v n * ·) ++ ((-(comb c (p ++ r) n)) :: (c.drop p.length).map (v n * ·)), ?_, ?_, ?_⟩
      · simp [List.length_drop, lc']
      · intro h
        refine nc fun a ha => ?_
        rw [← List.take_append_drop p.length c] at ha
        have : v n * a = 0 := by
          rcases List.mem_append.1 ha with m | m
          · exact h _ (List.mem_append_left _ (List.mem_map.2 ⟨a, m, rfl⟩))
          · exact h _ (List.mem_append_right _ (List.mem_cons_of_mem _ (List.mem_map.2 ⟨a, m, rfl⟩)))
        rcases Int.mul_eq_zero.1 this with z | z
        · exact absurd z nz
        · exact z
      · rw [comb_append _ _ _ _ (by simpa using l1), comb_scale]
        show lc 1 (sm (v n) (comb (c.take p.length) p)) 1 (lc (-(comb c (p ++ r) n)) v 1 (comb ((c.drop p.length).map (v n * ·)) r)) = zero
        rw [comb_scale, ← ec]
        have e2 : comb c (p ++ r) = lc 1 (comb (c.take p.length) p) 1 (comb (c.drop p.length) r) := by
          rw [← comb_append _ _ _ _ l1, List.take_append_drop]
        generalize comb c (p ++ r) n = k
        rw [e2]
        funext j; simp only [lc, sm]; grind
    · -- all are 0 there: leave one out
      obtain ⟨x, r, rfl⟩ : ∃ x r, xs = x :: r := by
        cases xs with
        | nil => simp at hl
        | cons x r => exact ⟨x, r, rfl⟩
      have hs' : ∀ y, y ∈ r → Sup n y := by
        intro y hy j hj
        by_cases e : j = n
        · subst e
          exact Classical.byContradiction fun nz => q ⟨y, List.mem_cons_of_mem _ hy, nz⟩
        · exact hs y (List.mem_cons_of_mem _ hy) j (by omega)
      obtain ⟨c, lc', nc, ec⟩ := depend n r hs' (by simp at hl; omega)
      refine ⟨0 :: c, by simp [lc'], fun h => nc fun a ha => h a (List.mem_cons_of_mem _ ha), ?_⟩
      show lc 0 x 1 (comb c r) = zero
      rw [ec]; funext j; simp [lc, zero]
def Ind (xs : List V) : Prop := ∀ c : List Int, c.length = xs.length → comb c xs = zero → AllZ c
theorem ind_le {n : Nat} {xs : List V} (hs : ∀ x, x ∈ xs → Sup n x) (h : Ind xs) : xs.length ≤ n := by
  refine Nat.not_lt.1 fun lt => ?_
  obtain ⟨c, l, nz, e⟩ := depend n xs hs lt
  exact nz (h c l e)
theorem sm_zero {k : Int} {x : V} (hk : k ≠ 0) (h : sm k x = zero) : x = zero := by
  funext j
  have := congrFun h j
  simp only [sm, zero] at this
  rcases Int.mul_eq_zero.1 this with z | z
  · exact absurd z hk
  · exact z
theorem ind_part {T : V → V} (h : Lin T) {xs ys : List V} {k : Int} (hk : k ≠ 0) (h1 : ∀ x, x ∈ xs → T x = zero) (h2 : ∀ y, y ∈ ys → T y = sm k y) (i1 : Ind xs) (i2 : Ind ys) : Ind (xs ++ ys) := by
  intro c l e
  have l1 : (c.take xs.length).length = xs.length := by rw [List.length_take, l]; simp
  have l2 : (c.drop xs.length).length = ys.length := by rw [List.length_drop, l]; simp
  rw [← List.take_append_drop xs.length c] at e ⊢
  generalize c.take xs.length = c1 at *
  generalize c.drop xs.length = c2 at *
  rw [comb_append _ _ _ _ l1] at e
  have t1 : T (comb c1 xs) = zero := by
    rw [h.comb]
    funext j
    refine comb_at _ _ j fun y hy => ?_
    obtain ⟨x, hx, rfl⟩ := List.mem_map.1 hy
    rw [h1 x hx]; rfl
  have t2 : ∀ (d : List Int) (zs : List V), (∀ y, y ∈ zs → T y = sm k y) → comb d (zs.map T) = sm k (comb d zs) := by
    intro d
    induction d with
    | nil => intro zs _; funext j; simp [comb, sm, zero]
    | cons a d ih =>
      intro zs hz
      cases zs with
      | nil => funext j; simp [comb, sm, zero]
      | cons z zs =>
        simp only [comb, List.map_cons]
        rw [ih zs fun y hy => hz y (List.mem_cons_of_mem _ hy), hz z (List.mem_cons_self ..)]
        funext j; simp only [lc, sm]; grind
  have e2 := congrArg T e
  rw [h, t1, h.comb, t2 c2 ys h2, h.zero] at e2
  have e3 : sm k (comb c2 ys) = zero := by
    rw [← e2]; funext j; simp [lc, sm, zero]
  have z2 := sm_zero hk e3
  have z1 : comb c1 xs = zero := by
    rw [z2] at e; rw [← e]; funext j; simp [lc, zero]
  intro a ha
  rcases List.mem_append.1 ha with m | m
  · exact i1 c1 l1 z1 a m
  · exact i2 c2 l2 z2 a m
end Tor
end
section
set_option Elab.async false
namespace Tor
def Pr (p : Nat) : Prop := 2 ≤ p ∧ ∀ d, d ∣ p → d = 1 ∨ d = p
theorem Pr.coprime {p i : Nat} (h : Pr p) (h0 : 0 < i) (hi : i < p) : Nat.Coprime p i := by
  unfold Nat.Coprime
  rcases h.2 _ (Nat.gcd_dvd_left p i) with e | e
  · exact e
  · have := Nat.le_of_dvd h0 (Nat.gcd_dvd_right p i)
    omega
noncomputable def C : Nat → Nat → Nat
  | _, 0 => 1
  | 0, _ + 1 => 0
  | n + 1, k + 1 => C n k + C n (k + 1)
theorem C_big : ∀ (n k : Nat), n < k → C n k = 0
  | _, 0, h => by omega
  | 0, _ + 1, _ => rfl
  | n + 1, k + 1, h => by
    show C n k + C n (k + 1) = 0
    rw [C_big n k (by omega), C_big n (k + 1) (by omega)]
theorem C_self : ∀ n, C n n = 1
  | 0 => rfl
  | n + 1 => by
    show C n n + C n (n + 1) = 1
    rw [C_self n, C_big n (n + 1) (by omega)]
theorem C_zero (n : Nat) : C n 0 = 1 := by cases n <;> rfl
theorem C_one : ∀ n, C n 1 = n
  | 0 => rfl
  | n + 1 => by
    show C n 0 + C n 1 = n + 1
    rw [C_one n, C_zero]
    omega
theorem pw_pred (T : V → V) {k : Nat} (h : 0 < k) (x : V) : T (pw T (k - 1) x) = pw T k x := by
  obtain ⟨j, rfl⟩ : ∃ j, k = j + 1 := ⟨k - 1, by omega⟩
  rfl
theorem pow_pos1 {p : Nat} (h : 2 ≤ p) (e : Nat) : 1 ≤ p ^ e := Nat.pow_pos (by omega)
theorem C_mul : ∀ (n k : Nat), (k + 1) * C (n + 1) (k + 1) = (n + 1) * C n k
  | 0, 0 => rfl
  | 0, k + 1 => by
    show (k + 2) * (C 0 (k + 1) + C 0 (k + 2)) = 1 * C 0 (k + 1)
    simp [C]
  | n + 1, 0 => by
    show (0 + 1) * C (n + 1 + 1) (0 + 1) = (n + 1 + 1) * C (n + 1) 0
    rw [C_one, C_zero]; omega
  | n + 1, k + 1 => by
    have a := C_mul n k
    have b := C_mul n (k + 1)
    show (k + 2) * (C (n + 1) (k + 1) + C (n + 1) (k + 2)) = (n + 2) * C (n + 1) (k + 1)
    have e : C (n + 1) (k + 1) = C n k + C n (k + 1) := rfl
    grind
theorem Pr.dvd_C {p i : Nat} (h : Pr p) (h0 : 0 < i) (hi : i < p) : p ∣ C p i := by
  obtain ⟨n, rfl⟩ : ∃ n, p = n + 1 := ⟨p - 1, by omega⟩
  obtain ⟨k, rfl⟩ : ∃ k, i = k + 1 := ⟨i - 1, by omega⟩
  have e := C_mul n k
  have d : (n + 1) ∣ (k + 1) * C (n + 1) (k + 1) := ⟨_, e⟩
  exact (h.coprime h0 hi).dvd_of_dvd_mul_left d
theorem bezout : ∀ (a b : Nat), ∃ x y : Int, x * a + y * b = (Nat.gcd a b : Nat) := by
  intro a
  induction a using Nat.strongRecOn with
  | _ a ih =>
    intro b
    by_cases h : a = 0
    · subst h; exact ⟨0, 1, by simp⟩
    · obtain ⟨x, y, e⟩ := ih (b % a) (Nat.mod_lt _ (by omega)) a
      rw [← Nat.gcd_rec] at e
      refine ⟨y - x * (b / a : Nat), x, ?_⟩
      have d : (b : Int) = (b % a : Nat) + (a : Int) * (b / a : Nat) := by
        exact_mod_cast (Nat.mod_add_div b a).symm
      rw [← e]
      generalize (b % a : Nat) = r at *
      generalize (b / a : Nat) = q at *
      rw [d]
      grind
theorem Pr.bez {p : Nat} (h : Pr p) {c : Int} (nd : ¬ (p : Int) ∣ c) : ∃ x y : Int, x * c + y * p = 1 := by
  have cop : Nat.gcd p c.natAbs = 1 := by
    rcases h.2 _ (Nat.gcd_dvd_left p c.natAbs) with e | e
    · exact e
    · exfalso
      have := Nat.gcd_dvd_right p c.natAbs
      rw [e] at this
      exact nd (Int.ofNat_dvd_left.2 this)
  obtain ⟨x, y, e⟩ := bezout p c.natAbs
  rw [cop] at e
  have e : x * p + y * (c.natAbs : Int) = 1 := e
  have q := Int.natAbs_eq c
  generalize (c.natAbs : Int) = k at e q
  rcases q with rfl | rfl
  · exact ⟨y, x, by omega⟩
  · exact ⟨-y, x, by rw [Int.neg_mul_neg]; omega⟩
noncomputable def df (h : V → V) (x : V) : V := lc 1 (h x) (-1) x
noncomputable def geo (h : V → V) : Nat → V → V
  | 0, _ => zero
  | m + 1, x => lc 1 x 1 (h (geo h m x))
theorem Pol.zero (A : V → V) : Pol A (fun _ => zero) := by
  have : (fun _ : V => Tor.zero) = fun x => Tor.lc 0 x 0 x := by funext x; exact zero_lc x
  rw [this]; exact .lc 0 0 .one .one
theorem Pol.df {A h : V → V} (p : Pol A h) : Pol A (df h) := .lc 1 (-1) p .one
theorem Pol.geo {A h : V → V} (p : Pol A h) : ∀ m, Pol A (geo h m)
  | 0 => Pol.zero A
  | m + 1 => .lc 1 1 .one (p.comp (Pol.geo p m))
theorem geo_tel {h : V → V} (l : Lin h) : ∀ (m : Nat) (x : V), lc 1 (pw h m x) (-1) x = df h (geo h m x)
  | 0, x => by
    show lc 1 x (-1) x = lc 1 (h zero) (-1) zero
    rw [l.zero]; funext j; simp [lc, zero]; omega
  | m + 1, x => by
    have ih := geo_tel l m x
    have e : h (lc 1 (pw h m x) (-1) x) = h (df h (geo h m x)) := by rw [ih]
    unfold df at e
    rw [l, l] at e
    show lc 1 (h (pw h m x)) (-1) x = lc 1 (h (lc 1 x 1 (h (geo h m x)))) (-1) (lc 1 x 1 (h (geo h m x)))
    rw [l]
    funext j
    have ej := congrFun e j
    simp only [lc] at ej ⊢
    omega
noncomputable def sumV : Nat → (Nat → V) → V
  | 0, _ => zero
  | m + 1, f => lc 1 (sumV m f) 1 (f m)
theorem sumV_shift (f : Nat → V) : ∀ m, sumV (m + 1) f = lc 1 (f 0) 1 (sumV m fun i => f (i + 1))
  | 0 => by funext j; simp [sumV, lc, zero]
  | m + 1 => by
    show lc 1 (sumV (m + 1) f) 1 (f (m + 1)) = lc 1 (f 0) 1 (lc 1 (sumV m fun i => f (i + 1)) 1 (f (m + 1)))
    rw [sumV_shift f m]; funext j; simp only [lc]; omega
theorem Lin.sumV {T : V → V} (l : Lin T) (f : Nat → V) : ∀ m, T (sumV m f) = sumV m fun i => T (f i)
  | 0 => l.zero
  | m + 1 => by
    show T (lc 1 (Tor.sumV m f) 1 (f m)) = lc 1 (Tor.sumV m fun i => T (f i)) 1 (T (f m))
    rw [l, l.sumV f m]
theorem sumV_congr {f g : Nat → V} : ∀ m, (∀ i, i < m → f i = g i) → sumV m f = sumV m g
  | 0, _ => rfl
  | m + 1, h => by
    show lc 1 (sumV m f) 1 (f m) = lc 1 (sumV m g) 1 (g m)
    rw [sumV_congr m fun i hi => h i (by omega), h m (by omega)]
theorem sumV_add (f g : Nat → V) : ∀ m, sumV m (fun i => lc 1 (f i) 1 (g i)) = lc 1 (sumV m f) 1 (sumV m g)
  | 0 => by funext j; simp [sumV, lc, zero]
  | m + 1 => by
    show lc 1 (sumV m _) 1 (lc 1 (f m) 1 (g m)) = lc 1 (lc 1 (sumV m f) 1 (f m)) 1 (lc 1 (sumV m g) 1 (g m))
    rw [sumV_add f g m]; funext j; simp only [lc]; omega
theorem Pol.sumV {A : V → V} {f : Nat → V → V} : ∀ m, (∀ i, Pol A (f i)) → Pol A (fun x => sumV m fun i => f i x)
  | 0, _ => Pol.zero A
  | m + 1, h => .lc 1 1 (Pol.sumV m h) (h m)
theorem df_lin {h : V → V} (l : Lin h) : Lin (df h) := by
  intro a b x y
  unfold df
  rw [l]; funext j; simp only [lc]; grind
theorem geo_bin {h : V → V} (l : Lin h) (x : V) : ∀ m, geo h m x = sumV m fun i => sm (C m (i + 1) : Nat) (pw (df h) i x)
  | 0 => rfl
  | m + 1 => by
    have ih := geo_bin l x m
    have ld := df_lin l
    have e1 : h (geo h m x) = lc 1 (geo h m x) 1 (df h (geo h m x)) := by
      unfold df; funext j; simp only [lc]; omega
    show lc 1 x 1 (h (geo h m x)) = _
    rw [e1]
    have e2 : df h (geo h m x) = sumV m fun i => sm (C m (i + 1) : Nat) (pw (df h) (i + 1) x) := by
      rw [ih, ld.sumV]
      exact sumV_congr m fun i _ => ld.sm _ _
    have e3 : (sumV (m + 1) fun i => sm (C (m + 1) (i + 1) : Nat) (pw (df h) i x)) =
        lc 1 (sumV (m + 1) fun i => sm (C m i : Nat) (pw (df h) i x)) 1 (sumV (m + 1) fun i => sm (C m (i + 1) : Nat) (pw (df h) i x)) := by
      rw [← sumV_add]
      refine sumV_congr _ fun i _ => ?_
      have : C (m + 1) (i + 1) = C m i + C m (i + 1) := rfl
      rw [this]
      funext j; simp only [sm, lc]; simp; grind
    have e4 : (sumV (m + 1) fun i => sm (C m (i + 1) : Nat) (pw (df h) i x)) = geo h m x := by
      show lc 1 (sumV m _) 1 (sm (C m (m + 1) : Nat) _) = _
      rw [← ih, C_big m (m + 1) (by omega)]
      funext j; simp [lc, sm]
    have e5 : (sumV (m + 1) fun i => sm (C m i : Nat) (pw (df h) i x)) = lc 1 x 1 (df h (geo h m x)) := by
      rw [sumV_shift, e2]
      have : sm (C m 0 : Nat) (pw (df h) 0 x) = x := by
        have : C m 0 = 1 := by cases m <;> rfl
        rw [this]; funext j; simp [sm, pw]
      rw [this]
    rw [e3, e4, e5]
    funext j; simp only [lc]; omega
theorem geo_prime {A h : V → V} (la : Lin A) (ph : Pol A h) {p : Nat} (hp : Pr p) :
    ∃ Z, Pol A Z ∧ ∀ x, geo h p x = lc 1 (lc 1 (pw (df h) (p - 1) x) p x) p (df h (Z x)) := by
  obtain ⟨r, rfl⟩ : ∃ r, p = r + 2 := ⟨p - 2, by have := hp.1; omega⟩
  have lh := ph.lin la
  have ld := df_lin lh
  refine ⟨fun x => sumV r fun i => sm (C (r + 2) (i + 2) / (r + 2) : Nat) (pw (df h) i x), Pol.sumV r fun i => (ph.df.pw i).sm _, fun x => ?_⟩
  rw [geo_bin lh, sumV_shift]
  show lc 1 (sm (C (r + 2) (0 + 1) : Nat) (pw (df h) 0 x)) 1 (lc 1 (sumV r fun i => sm (C (r + 2) (i + 1 + 1) : Nat) (pw (df h) (i + 1) x)) 1 (sm (C (r + 2) (r + 1 + 1) : Nat) (pw (df h) (r + 1) x))) = _
  rw [C_one, show r + 1 + 1 = r + 2 from rfl, C_self, ld.sumV]
  have e : (sumV r fun i => sm (C (r + 2) (i + 1 + 1) : Nat) (pw (df h) (i + 1) x)) = sm ((r + 2 : Nat) : Int) (sumV r fun i => df h (sm (C (r + 2) (i + 2) / (r + 2) : Nat) (pw (df h) i x))) := by
    have ls : Lin (sm ((r + 2 : Nat) : Int)) := by intro a b x y; funext j; simp only [sm, lc]; grind
    rw [ls.sumV]
    refine sumV_congr r fun i hi => ?_
    rw [ld.sm]
    show sm (C (r + 2) (i + 2) : Nat) (df h (pw (df h) i x)) = _
    obtain ⟨k, hk⟩ := hp.dvd_C (i := i + 2) (by omega) (by omega)
    rw [hk, Nat.mul_div_cancel_left k (by omega)]
    funext j; simp only [sm]; push_cast; grind
  rw [e]
  have e0 : pw (df h) (r + 2 - 1) x = pw (df h) (r + 1) x := rfl
  rw [e0]
  generalize (sumV r fun i => df h (sm (C (r + 2) (i + 2) / (r + 2) : Nat) (pw (df h) i x))) = S
  generalize pw (df h) (r + 1) x = U
  funext j; simp only [lc, sm, pw]; push_cast; grind
def Rel (A : V → V) (p : Nat) (P S T : V → V) : Prop := ∃ Z, Pol A Z ∧ ∀ x, S x = lc 1 (T x) p (P (Z x))
theorem rel_pw {A P S T : V → V} {p : Nat} (la : Lin A) (pP : Pol A P) (pS : Pol A S) (pT : Pol A T) (r : Rel A p P S T) : ∀ k, Rel A p P (pw S k) (pw T k)
  | 0 => ⟨fun _ => zero, Pol.zero A, fun x => by rw [(pP.lin la).zero]; funext j; simp [pw, lc, zero]⟩
  | k + 1 => by
    obtain ⟨Z, pZ, hZ⟩ := r
    obtain ⟨Y, pY, hY⟩ := rel_pw la pP pS pT ⟨Z, pZ, hZ⟩ k
    have lS := pS.lin la
    have lT := pT.lin la
    have lP := pP.lin la
    refine ⟨fun x => lc 1 (Z (pw T k x)) 1 (S (Y x)), .lc 1 1 (pZ.comp (pT.pw k)) (pS.comp pY), fun x => ?_⟩
    show S (pw S k x) = lc 1 (T (pw T k x)) p (P (lc 1 (Z (pw T k x)) 1 (S (Y x))))
    rw [hY x, lS, hZ (pw T k x), lP, pS.comm la pP]
    funext j; simp only [lc]; grind
theorem frob {A g : V → V} (la : Lin A) (pg : Pol A g) {p : Nat} (hp : Pr p) : ∀ e, Rel A p (df g) (df (pw g (p ^ e))) (pw (df g) (p ^ e))
  | 0 => ⟨fun _ => zero, Pol.zero A, fun x => by rw [(pg.df.lin la).zero]; funext j; simp [pw, lc, zero, df]⟩
  | e + 1 => by
    obtain ⟨Z0, pZ0, h0⟩ := frob la pg hp e
    have p1 : 1 ≤ p ^ e := pow_pos1 hp.1 e
    have ph : Pol A (pw g (p ^ e)) := pg.pw _
    have lh := ph.lin la
    have lP := pg.df.lin la
    have lS := ph.df.lin la
    obtain ⟨Z1, pZ1, h1⟩ := geo_prime la ph hp
    obtain ⟨Z2, pZ2, h2⟩ := rel_pw la pg.df ph.df (pg.df.pw (p ^ e)) ⟨Z0, pZ0, h0⟩ p
    have hW : ∀ x, df (pw g (p ^ e)) x = df g (lc 1 (pw (df g) (p ^ e - 1) x) p (Z0 x)) := by
      intro x
      rw [h0, lP]
      rw [pw_pred (df g) p1]
    have pW : Pol A (fun x => lc 1 (pw (df g) (p ^ e - 1) x) p (Z0 x)) := .lc 1 p (pg.df.pw _) pZ0
    refine ⟨fun x => lc 1 (Z2 x) 1 (lc 1 (pw (df g) (p ^ e - 1) (lc 1 x 1 (df (pw g (p ^ e)) (Z1 x)))) p (Z0 (lc 1 x 1 (df (pw g (p ^ e)) (Z1 x))))),
      .lc 1 1 pZ2 (pW.comp (.lc 1 1 .one (ph.df.comp pZ1))), fun x => ?_⟩
    have t := geo_tel lh p x
    rw [← pw_mul, ← Nat.pow_succ] at t
    show lc 1 (pw g (p ^ (e + 1)) x) (-1) x = _
    rw [t, h1, lS, lS, lP, ← hW, lS]
    rw [pw_pred (df (pw g (p ^ e))) (by have := hp.1; omega), h2, ← pw_mul, ← Nat.pow_succ]
    funext j; simp only [lc]; grind
theorem cyc {A g : V → V} (la : Lin A) (pg : Pol A g) {p : Nat} (hp : Pr p) (e : Nat) :
    ∃ Z, Pol A Z ∧ ∀ x, geo (pw g (p ^ e)) p x = lc 1 (lc 1 (pw (df g) (p ^ e * (p - 1)) x) p x) p (df g (Z x)) := by
  have ph : Pol A (pw g (p ^ e)) := pg.pw _
  have lP := pg.df.lin la
  obtain ⟨Z0, pZ0, h0⟩ := frob la pg hp e
  obtain ⟨Z1, pZ1, h1⟩ := geo_prime la ph hp
  obtain ⟨Z2, pZ2, h2⟩ := rel_pw la pg.df ph.df (pg.df.pw (p ^ e)) ⟨Z0, pZ0, h0⟩ (p - 1)
  have p1 : 1 ≤ p ^ e := pow_pos1 hp.1 e
  have hW : ∀ x, df (pw g (p ^ e)) x = df g (lc 1 (pw (df g) (p ^ e - 1) x) p (Z0 x)) := by
    intro x
    rw [h0, lP]
    rw [pw_pred (df g) p1]
  have pW : Pol A (fun x => lc 1 (pw (df g) (p ^ e - 1) x) p (Z0 x)) := .lc 1 p (pg.df.pw _) pZ0
  refine ⟨fun x => lc 1 (Z2 x) 1 (lc 1 (pw (df g) (p ^ e - 1) (Z1 x)) p (Z0 (Z1 x))), .lc 1 1 pZ2 (pW.comp pZ1), fun x => ?_⟩
  rw [h1, h2, lP, ← hW, ← pw_mul]
  funext j; simp only [lc]; grind
end Tor
end
section
set_option Elab.async false
namespace Tor
structure Cy (A g : V → V) (p e : Nat) (y : V) : Prop where
  la : Lin A
  pg : Pol A g
  hp : Pr p
  kill : geo (pw g (p ^ e)) p y = zero
  ne : y ≠ zero
theorem sep {p : Nat} (hp : 2 ≤ p) {y : V} (h : ∀ k : Nat, ∃ z, y = sm ((p ^ k : Nat) : Int) z) : y = zero := by
  funext j
  show y j = 0
  refine Decidable.byContradiction fun ne => ?_
  obtain ⟨z, e⟩ := h (y j).natAbs
  have e := congrFun e j
  simp only [sm] at e
  have d : p ^ (y j).natAbs ∣ (y j).natAbs := by
    have : ((p ^ (y j).natAbs : Nat) : Int) ∣ y j := ⟨z j, e⟩
    exact Int.ofNat_dvd_left.1 this
  have le := Nat.le_of_dvd (by omega) d
  have : (y j).natAbs < 2 ^ (y j).natAbs := Nat.lt_two_pow_self
  have : 2 ^ (y j).natAbs ≤ p ^ (y j).natAbs := Nat.pow_le_pow_left hp _
  omega
section
variable {A g : V → V} {p e : Nat} {y : V}
theorem Cy.killT (c : Cy A g p e y) {T : V → V} (pT : Pol A T) : geo (pw g (p ^ e)) p (T y) = zero := by
  rw [((c.pg.pw (p ^ e)).geo p).comm c.la pT, c.kill, (pT.lin c.la).zero]
theorem Cy.rel (c : Cy A g p e y) : ∃ Z, Pol A Z ∧ ∀ T, Pol A T → lc 1 (lc 1 (pw (df g) (p ^ e * (p - 1)) (T y)) p (T y)) p (df g (Z (T y))) = zero := by
  obtain ⟨Z, pZ, hZ⟩ := cyc c.la c.pg c.hp e
  exact ⟨Z, pZ, fun T pT => by rw [← hZ, c.killT pT]⟩
theorem Cy.down (c : Cy A g p e y) : ∀ k, k ≤ p ^ e * (p - 1) → ∀ T, Pol A T → ∃ U, Pol A U ∧ sm p (T y) = pw (df g) k (U y) := by
  obtain ⟨Z, pZ, hZ⟩ := c.rel
  have lP := c.pg.df.lin c.la
  intro k
  induction k with
  | zero => intro _ T pT; exact ⟨fun x => sm p (T x), pT.sm _, rfl⟩
  | succ k ih =>
    intro hk T pT
    obtain ⟨U, pU, hU⟩ := ih (by omega) (fun x => Z (T x)) (pZ.comp pT)
    have e0 := hZ T pT
    refine ⟨fun x => lc (-1) (pw (df g) (p ^ e * (p - 1) - (k + 1)) (T x)) (-1) (U x), .lc (-1) (-1) ((c.pg.df.pw _).comp pT) pU, ?_⟩
    have lk := (c.pg.df.pw (k + 1)).lin c.la
    dsimp only at hU ⊢
    rw [lk, ← pw_add, show k + 1 + (p ^ e * (p - 1) - (k + 1)) = p ^ e * (p - 1) by omega]
    show _ = lc (-1) _ (-1) (df g (pw (df g) k (U y)))
    rw [← hU, lP.sm]
    funext j
    have ej := congrFun e0 j
    simp only [lc, zero, sm] at ej ⊢
    omega
theorem Cy.inj (c : Cy A g p e y) {T : V → V} (pT : Pol A T) (h : df g (T y) = zero) : T y = zero := by
  have fix : g (T y) = T y := by
    funext j
    have := congrFun h j
    simp only [df, lc, zero] at this
    omega
  have fixh : ∀ k, pw g k (T y) = T y := by
    intro k
    induction k with
    | zero => rfl
    | succ k ih => rw [pw_succ', fix, ih]
  have gg : ∀ k, geo (pw g (p ^ e)) k (T y) = sm (k : Nat) (T y) := by
    intro k
    induction k with
    | zero => funext j; simp [geo, zero, sm]
    | succ k ih =>
      show lc 1 (T y) 1 (pw g (p ^ e) (geo (pw g (p ^ e)) k (T y))) = _
      rw [ih, ((c.pg.pw (p ^ e)).lin c.la).sm, fixh]
      funext j; simp only [lc, sm]; push_cast; grind
  have := c.killT pT
  rw [gg] at this
  exact sm_zero (by have := c.hp.1; omega) this
theorem Cy.phi_pos (c : Cy A g p e y) : 1 ≤ p ^ e * (p - 1) := by
  have a := pow_pos1 c.hp.1 e
  have b := c.hp.1
  exact Nat.mul_pos a (by omega)
theorem Cy.nope (c : Cy A g p e y) {U : V → V} (pU : Pol A U) (h : y = df g (U y)) : False := by
  obtain ⟨Z, pZ, hZ⟩ := c.rel
  have lP := c.pg.df.lin c.la
  have pP := c.pg.df
  have up : ∀ k, y = pw (df g) k (pw U k y) := by
    intro k
    induction k with
    | zero => rfl
    | succ k ih =>
      show y = df g (pw (df g) k (U (pw U k y)))
      rw [((pP.pw k).comm c.la pU), ← ih]
      exact h
  have pV : Pol A (pw U (p ^ e * (p - 1))) := pU.pw _
  have e1 := hZ _ pV
  have e2 := up (p ^ e * (p - 1))
  have hW : y = sm p (lc (-1) (pw U (p ^ e * (p - 1)) y) (-1) (df g (Z (pw U (p ^ e * (p - 1)) y)))) := by
    rw [← e2] at e1
    funext j
    have ej := congrFun e1 j
    simp only [lc, zero, sm] at ej ⊢
    have : (p : Int) * (-1 * pw U (p ^ e * (p - 1)) y j + -1 * df g (Z (pw U (p ^ e * (p - 1)) y)) j) =
        -((p : Int) * pw U (p ^ e * (p - 1)) y j) - (p : Int) * df g (Z (pw U (p ^ e * (p - 1)) y)) j := by grind
    rw [this]; omega
  have pW : Pol A (fun x => lc (-1) (pw U (p ^ e * (p - 1)) x) (-1) (df g (Z (pw U (p ^ e * (p - 1)) x)))) :=
    .lc (-1) (-1) pV (pP.comp (pZ.comp pV))
  generalize hWd : (fun x => lc (-1) (pw U (p ^ e * (p - 1)) x) (-1) (df g (Z (pw U (p ^ e * (p - 1)) x)))) = W at pW
  have hW : y = sm p (W y) := by rw [← hWd]; exact hW
  refine c.ne (sep c.hp.1 fun k => ?_)
  refine ⟨pw W k y, ?_⟩
  induction k with
  | zero => funext j; simp [pw, sm]
  | succ k ih =>
    have lW := pW.lin c.la
    have : pw W k y = sm p (pw W (k + 1) y) := by
      rw [pw_succ', ← ((pW.pw k).lin c.la).sm, ← hW]
    rw [this] at ih
    rw [ih]
    conv => lhs; rw [← ih]
    rw [ih]
    funext j; simp only [sm]; rw [Nat.pow_succ]; push_cast; grind
theorem Cy.single (c : Cy A g p e y) {k : Int} {U : V → V} (pU : Pol A U) (h : sm k y = df g (U y)) : (p : Int) ∣ k := by
  refine Classical.byContradiction fun nd => ?_
  obtain ⟨a, b, ab⟩ := c.hp.bez nd
  obtain ⟨W, pW, hW⟩ := c.down 1 c.phi_pos (fun x => x) .one
  have lP := c.pg.df.lin c.la
  refine c.nope (U := fun x => lc a (U x) b (W x)) (.lc a b pU pW) ?_
  rw [lP, ← h]
  have hW : sm p y = df g (W y) := hW
  rw [← hW]
  funext j; simp only [lc, sm]
  have : y j = (a * k + b * p) * y j := by rw [ab]; omega
  grind
noncomputable def rows (P : V → V) (ts : List V) : Nat → List V
  | 0 => []
  | m + 1 => ts ++ (rows P ts m).map P
theorem rows_length (P : V → V) (ts : List V) : ∀ m, (rows P ts m).length = m * ts.length
  | 0 => by simp [rows]
  | m + 1 => by simp [rows, rows_length P ts m, Nat.succ_mul]; omega
def Of (A : V → V) (y x : V) : Prop := ∃ T, Pol A T ∧ x = T y
theorem comb_of {A : V → V} {y : V} : ∀ (c : List Int) (xs : List V), (∀ x, x ∈ xs → Of A y x) → Of A y (comb c xs)
  | [], _, _ => ⟨fun _ => zero, Pol.zero A, by simp [comb]⟩
  | _ :: _, [], _ => ⟨fun _ => zero, Pol.zero A, by simp [comb]⟩
  | c :: cs, x :: xs, h => by
    obtain ⟨T, pT, eT⟩ := h x (List.mem_cons_self ..)
    obtain ⟨U, pU, eU⟩ := comb_of cs xs fun z hz => h z (List.mem_cons_of_mem _ hz)
    exact ⟨fun x => lc c (T x) 1 (U x), .lc c 1 pT pU, by simp only [comb]; rw [eT, eU]⟩
theorem rows_of {A P : V → V} {y : V} (pP : Pol A P) {ts : List V} (ht : ∀ x, x ∈ ts → Of A y x) : ∀ m x, x ∈ rows P ts m → Of A y x
  | 0, x, h => by cases h
  | m + 1, x, h => by
    rcases List.mem_append.1 h with h | h
    · exact ht x h
    · obtain ⟨z, hz, rfl⟩ := List.mem_map.1 h
      obtain ⟨T, pT, rfl⟩ := rows_of pP ht m z hz
      exact ⟨fun x => P (T x), pP.comp pT, rfl⟩
def Apart (A g : V → V) (p : Nat) (y : V) (ts : List V) : Prop := ∀ c : List Int, c.length = ts.length → (∃ U, Pol A U ∧ comb c ts = df g (U y)) → ∀ a, a ∈ c → (p : Int) ∣ a
theorem all_dvd {p : Nat} : ∀ (c : List Int), (∀ a, a ∈ c → (p : Int) ∣ a) → ∃ d : List Int, c = d.map ((p : Int) * ·)
  | [], _ => ⟨[], rfl⟩
  | a :: c, h => by
    obtain ⟨k, hk⟩ := h a (List.mem_cons_self ..)
    obtain ⟨d, hd⟩ := all_dvd c fun x hx => h x (List.mem_cons_of_mem _ hx)
    exact ⟨k :: d, by rw [hk, hd]; rfl⟩
theorem Cy.rows_dvd (c : Cy A g p e y) {ts : List V} (ht : ∀ x, x ∈ ts → Of A y x) (ap : Apart A g p y ts) : ∀ m, m ≤ p ^ e * (p - 1) → ∀ (k : List Int), k.length = m * ts.length →
    ∀ U, Pol A U → lc 1 (comb k (rows (df g) ts m)) 1 (pw (df g) m (U y)) = zero → ∀ a, a ∈ k → (p : Int) ∣ a := by
  have lP := c.pg.df.lin c.la
  have pP := c.pg.df
  intro m
  induction m with
  | zero =>
    intro _ k hk U _ _ a ha
    rw [Nat.zero_mul] at hk
    rw [List.length_eq_zero_iff.1 hk] at ha
    cases ha
  | succ m ih =>
    intro hm k hk U pU h
    have l1 : (k.take ts.length).length = ts.length := by
      rw [List.length_take, hk, Nat.succ_mul]; omega
    have l2 : (k.drop ts.length).length = m * ts.length := by
      rw [List.length_drop, hk, Nat.succ_mul]; omega
    rw [← List.take_append_drop ts.length k] at h ⊢
    generalize k.take ts.length = k1 at *
    generalize k.drop ts.length = k2 at *
    simp only [rows] at h
    rw [comb_append _ _ _ _ l1, ← lP.comb] at h
    obtain ⟨W, pW, hW⟩ := comb_of (A := A) (y := y) k2 (rows (df g) ts m) (rows_of pP ht m)
    have h : lc 1 (lc 1 (comb k1 ts) 1 (df g (comb k2 (rows (df g) ts m)))) 1 (df g (pw (df g) m (U y))) = zero := h
    have d1 : ∀ a, a ∈ k1 → (p : Int) ∣ a := by
      refine ap k1 l1 ⟨fun x => lc (-1) (W x) (-1) (pw (df g) m (U x)), .lc (-1) (-1) pW ((pP.pw m).comp pU), ?_⟩
      rw [lP, ← hW]
      funext j
      have hj := congrFun h j
      simp only [lc, zero] at hj ⊢
      omega
    obtain ⟨d, rfl⟩ := all_dvd k1 d1
    obtain ⟨D, pD, hD⟩ := comb_of (A := A) (y := y) d ts ht
    obtain ⟨E, pE, hE⟩ := c.down (m + 1) hm D pD
    rw [comb_scale, hD, hE] at h
    have h2 : lc 1 (comb k2 (rows (df g) ts m)) 1 (pw (df g) m (lc 1 (U y) 1 (E y))) = zero := by
      rw [((pP.pw m).lin c.la), hW]
      refine c.inj (T := fun x => lc 1 (W x) 1 (lc 1 (pw (df g) m (U x)) 1 (pw (df g) m (E x)))) (.lc 1 1 pW (.lc 1 1 ((pP.pw m).comp pU) ((pP.pw m).comp pE))) ?_
      rw [lP, lP, ← hW]
      have h : lc 1 (lc 1 (df g (pw (df g) m (E y))) 1 (df g (comb k2 (rows (df g) ts m)))) 1 (df g (pw (df g) m (U y))) = zero := h
      funext j
      have hj := congrFun h j
      simp only [lc, zero] at hj ⊢
      omega
    have d2 := ih (by omega) k2 l2 (fun x => lc 1 (U x) 1 (E x)) (.lc 1 1 pU pE) h2
    intro a ha
    rcases List.mem_append.1 ha with x | x
    · exact d1 a x
    · exact d2 a x
end
noncomputable def size : List Int → Nat
  | [] => 0
  | a :: c => a.natAbs + size c
theorem size_zero : ∀ {c : List Int}, size c = 0 → AllZ c
  | [], _ => fun _ h => by cases h
  | a :: c, h => by
    simp only [size] at h
    intro b hb
    rcases List.mem_cons.1 hb with rfl | hb
    · omega
    · exact size_zero (by omega) b hb
theorem size_mul (p : Nat) : ∀ (d : List Int), size (d.map ((p : Int) * ·)) = p * size d
  | [] => by simp [size]
  | a :: d => by
    simp only [size, List.map_cons]
    rw [size_mul p d, Int.natAbs_mul, Nat.mul_add]; rfl
theorem ind_dvd {p : Nat} (hp : 2 ≤ p) {xs : List V} (h : ∀ c : List Int, c.length = xs.length → comb c xs = zero → ∀ a, a ∈ c → (p : Int) ∣ a) : Ind xs := by
  have key : ∀ (k : Nat) (c : List Int), size c = k → c.length = xs.length → comb c xs = zero → AllZ c := by
    intro k
    induction k using Nat.strongRecOn with
    | _ k ih =>
      intro c hk l e
      by_cases z : k = 0
      · exact size_zero (by omega)
      · obtain ⟨d, rfl⟩ := all_dvd c (h c l e)
        rw [comb_scale] at e
        have e' := sm_zero (by omega) e
        rw [size_mul] at hk
        have lt : size d < k := by
          have : size d ≠ 0 := by intro q; rw [q] at hk; simp at hk; omega
          have : 2 * size d ≤ p * size d := Nat.mul_le_mul_right _ hp
          omega
        have az := ih (size d) lt d rfl (by simpa using l) e'
        intro a ha
        obtain ⟨b, hb, rfl⟩ := List.mem_map.1 ha
        rw [az b hb]; simp
  exact fun c l e => key _ c rfl l e
theorem Cy.ind {A g : V → V} {p e : Nat} {y : V} (c : Cy A g p e y) {ts : List V} (ht : ∀ x, x ∈ ts → Of A y x) (ap : Apart A g p y ts) : Ind (rows (df g) ts (p ^ e * (p - 1))) := by
  refine ind_dvd c.hp.1 fun k hk hz => ?_
  rw [rows_length] at hk
  refine c.rows_dvd ht ap _ (Nat.le_refl _) k hk (fun _ => zero) (Pol.zero A) ?_
  rw [hz, ((c.pg.df.pw _).lin c.la).zero]
  funext j; simp [lc, zero]
theorem Cy.apart1 {A g : V → V} {p e : Nat} {y : V} (c : Cy A g p e y) : Apart A g p y [y] := by
  rintro k hk ⟨U, pU, h⟩ a ha
  match k, hk with
  | [b], _ =>
    rw [List.mem_singleton] at ha
    subst ha
    refine c.single (k := a) pU ?_
    rw [← h]; funext j; simp [comb, lc, sm, zero]
  | [], hk => simp at hk
  | _ :: _ :: _, hk => simp at hk
end Tor
end
section
set_option Elab.async false
namespace Tor
noncomputable def geoI (c : Int) : Nat → Int
  | 0 => 0
  | m + 1 => 1 + c * geoI c m
section
variable {A g : V → V} {p e : Nat} {y : V}
def Near (A g : V → V) (y : V) (H : V → V) (c : Int) : Prop := ∃ W, Pol A W ∧ H y = lc c y 1 (df g (W y))
theorem near_pw (c : Cy A g p e y) {h : V → V} (ph : Pol A h) {a : Int} (n : Near A g y h a) : ∀ k, Near A g y (pw h k) (a ^ k)
  | 0 => ⟨fun _ => zero, Pol.zero A, by
      rw [(c.pg.df.lin c.la).zero]; funext j; simp [pw, lc, zero]⟩
  | k + 1 => by
    obtain ⟨W, pW, hW⟩ := n
    obtain ⟨U, pU, hU⟩ := near_pw c ph ⟨W, pW, hW⟩ k
    have lP := c.pg.df.lin c.la
    refine ⟨fun x => lc (a ^ k) (W x) 1 (h (U x)), .lc (a ^ k) 1 pW (ph.comp pU), ?_⟩
    show h (pw h k y) = _
    rw [hU, (ph.lin c.la), hW, lP, ph.comm c.la c.pg.df]
    funext j; simp only [lc]; rw [Int.pow_succ]; grind
theorem near_geo (c : Cy A g p e y) {h : V → V} (ph : Pol A h) {a : Int} (n : Near A g y h a) : ∀ k, Near A g y (geo h k) (geoI a k)
  | 0 => ⟨fun _ => zero, Pol.zero A, by
      rw [(c.pg.df.lin c.la).zero]; funext j; simp [geo, geoI, lc, zero]⟩
  | k + 1 => by
    obtain ⟨W, pW, hW⟩ := n
    obtain ⟨U, pU, hU⟩ := near_geo c ph ⟨W, pW, hW⟩ k
    have lP := c.pg.df.lin c.la
    refine ⟨fun x => lc (geoI a k) (W x) 1 (h (U x)), .lc (geoI a k) 1 pW (ph.comp pU), ?_⟩
    show lc 1 y 1 (h (geo h k y)) = _
    rw [hU, (ph.lin c.la), hW, lP, ph.comm c.la c.pg.df]
    funext j; simp only [lc, geoI]; grind
theorem Cy.apart2 (c : Cy A g p e y) {h : V → V} (ph : Pol A h) {r f : Nat} (kill : geo (pw h (r ^ f)) r y = zero)
    (noroot : ∀ a : Int, ¬ (p : Int) ∣ geoI (a ^ (r ^ f)) r) : Apart A g p y [y, h y] := by
  have lP := c.pg.df.lin c.la
  rintro k hk ⟨U, pU, hU⟩
  match k, hk with
  | [a, b], _ =>
    have hU : lc a y 1 (lc b (h y) 1 zero) = df g (U y) := hU
    have db : (p : Int) ∣ b := by
      refine Classical.byContradiction fun nd => ?_
      obtain ⟨x, z, xz⟩ := c.hp.bez nd
      obtain ⟨W, pW, hW⟩ := c.down 1 c.phi_pos h ph
      have hW : sm p (h y) = df g (W y) := hW
      have n : Near A g y h (-(x * a)) := by
        refine ⟨fun v => lc x (U v) z (W v), .lc x z pU pW, ?_⟩
        rw [lP, ← hU, ← hW]
        funext j; simp only [lc, sm, zero]
        have : h y j = (x * b + z * p) * h y j := by rw [xz]; omega
        grind
      obtain ⟨Z, pZ, hZ⟩ := near_geo c (ph.pw (r ^ f)) (near_pw c ph n (r ^ f)) r
      rw [kill] at hZ
      refine noroot (-(x * a)) (c.single (U := fun v => sm (-1) (Z v)) (pZ.sm _) ?_)
      rw [lP.sm]
      funext j
      have hj := congrFun hZ j
      simp only [lc, zero, sm] at hj ⊢
      omega
    have da : (p : Int) ∣ a := by
      obtain ⟨b', rfl⟩ := db
      obtain ⟨W, pW, hW⟩ := c.down 1 c.phi_pos h ph
      have hW : sm p (h y) = df g (W y) := hW
      refine c.single (U := fun v => lc 1 (U v) (-b') (W v)) (.lc 1 (-b') pU pW) ?_
      rw [lP, ← hU, ← hW]
      funext j; simp only [lc, sm, zero]; grind
    intro x hx
    simp only [List.mem_cons, List.not_mem_nil, or_false] at hx; rcases hx with rfl | rfl
    · exact da
    · exact db
  | [], hk => simp at hk
  | [_], hk => simp at hk
  | _ :: _ :: _ :: _, hk => simp at hk
end
noncomputable def ev (h : V → V) : List Int → V → V
  | [], _ => zero
  | a :: k, x => lc a x 1 (h (ev h k x))
theorem Pol.ev {A h : V → V} (ph : Pol A h) : ∀ k, Pol A (ev h k)
  | [] => Pol.zero A
  | a :: k => .lc a 1 .one (ph.comp (Pol.ev ph k))
noncomputable def addL : List Int → List Int → List Int
  | a :: k, b :: m => (a + b) :: addL k m
  | [], m => m
  | k, [] => k
theorem ev_add {h : V → V} (l : Lin h) (x : V) : ∀ k m, ev h (addL k m) x = lc 1 (ev h k x) 1 (ev h m x)
  | a :: k, b :: m => by
    simp only [addL, ev]
    rw [ev_add l x k m, l]; funext j; simp only [lc]; grind
  | [], m => by simp only [addL, ev]; funext j; simp [lc, zero]
  | _ :: _, [] => by simp only [addL, ev]; funext j; simp [lc, zero]
theorem ev_sm {h : V → V} (l : Lin h) (x : V) (c : Int) : ∀ k : List Int, ev h (k.map (c * ·)) x = sm c (ev h k x)
  | [] => by funext j; simp [ev, sm, zero]
  | a :: k => by
    simp only [ev, List.map_cons]
    rw [ev_sm l x c k, l.sm]; funext j; simp only [lc, sm]; grind
noncomputable def mulL : List Int → List Int → List Int
  | [], _ => []
  | a :: k, m => addL (m.map (a * ·)) (0 :: mulL k m)
theorem ev_mul {A h : V → V} (la : Lin A) (ph : Pol A h) (x : V) (m : List Int) : ∀ k, ev h (mulL k m) x = ev h k (ev h m x)
  | [] => rfl
  | a :: k => by
    have l := ph.lin la
    simp only [mulL]
    rw [ev_add l, ev_sm l]
    simp only [ev]
    rw [ev_mul la ph x m k]
    funext j; simp only [lc, sm]; grind
noncomputable def foldL (r : Nat) : Nat → List Int → List Int
  | 0, k => k
  | f + 1, k => if k.length ≤ r then k else addL (k.take r) (foldL r f (k.drop r))
theorem ev_app {h : V → V} (l : Lin h) (x : V) : ∀ k m, ev h (k ++ m) x = lc 1 (ev h k x) 1 (pw h k.length (ev h m x))
  | [], m => by funext j; simp [ev, lc, zero, pw]
  | a :: k, m => by
    simp only [List.cons_append, ev, List.length_cons, pw]
    rw [ev_app l x k m, l]; funext j; simp only [lc]; grind
theorem ev_fold {A h : V → V} (la : Lin A) (ph : Pol A h) {x : V} {r : Nat} (fix : pw h r x = x) : ∀ f k, ev h (foldL r f k) x = ev h k x
  | 0, _ => rfl
  | f + 1, k => by
    have l := ph.lin la
    unfold foldL
    split
    · rfl
    · next q =>
      rw [ev_add l, ev_fold la ph fix f]
      conv => rhs; rw [← List.take_append_drop r k]
      rw [ev_app l, show (k.take r).length = r by rw [List.length_take]; omega, (ph.pw r).comm la (ph.ev _), fix]
theorem ev_ones {h : V → V} (x : V) : ∀ r, ev h (List.replicate r 1) x = geo h r x
  | 0 => rfl
  | r + 1 => by
    simp only [List.replicate_succ, ev, geo]
    rw [ev_ones x r]
noncomputable def isOne (p : Nat) (r : Nat) (k : List Int) (c : Int) : Bool := k.length == r && (addL (addL k (List.replicate r (-c))) [-1]).all fun a => a % (p : Int) == 0
def reach (P : V → V) (A : V → V) (y x : V) : Prop := ∃ U, Pol A U ∧ x = P (U y)
theorem Cy.reach_p {A g : V → V} {p e : Nat} {y : V} (c : Cy A g p e y) {T : V → V} (pT : Pol A T) : reach (df g) A y (sm p (T y)) := by
  obtain ⟨U, pU, hU⟩ := c.down 1 c.phi_pos T pT
  exact ⟨U, pU, hU⟩
theorem mod_dvd {p : Nat} : ∀ (k : List Int), (k.all fun a => a % (p : Int) == 0) = true → ∃ d : List Int, k = d.map ((p : Int) * ·)
  | [], _ => ⟨[], rfl⟩
  | a :: k, h => by
    simp only [List.all_cons, Bool.and_eq_true, beq_iff_eq] at h
    obtain ⟨d, hd⟩ := mod_dvd k h.2
    obtain ⟨b, hb⟩ := Int.dvd_of_emod_eq_zero h.1
    exact ⟨b :: d, by rw [hb, hd]; rfl⟩
theorem Cy.unit_no {A g : V → V} {p e : Nat} {y : V} (c : Cy A g p e y) {h : V → V} (ph : Pol A h) {r : Nat} (kill : geo h r y = zero) (fix : pw h r y = y)
    {s k : List Int} {q : Int} (one : isOne p r (foldL r (s.length + k.length) (mulL s k)) q = true) (hk : reach (df g) A y (ev h k y)) : False := by
  have la := c.la
  have l := ph.lin la
  have lP := c.pg.df.lin la
  obtain ⟨U, pU, hU⟩ := hk
  unfold isOne at one
  rw [Bool.and_eq_true, beq_iff_eq] at one
  obtain ⟨d, hd⟩ := mod_dvd _ one.2
  have e1 := congrArg (fun k => ev h k y) hd
  rw [ev_add l, ev_add l, ev_sm l, ev_fold la ph fix, ev_mul la ph, hU] at e1
  have e2 : ev h (List.replicate r (-q)) y = zero := by
    have : List.replicate r (-q) = (List.replicate r 1).map ((-q) * ·) := by simp
    rw [this, ev_sm l, ev_ones, kill]; funext j; simp [sm, zero]
  have e3 : ev h [-1] y = sm (-1) y := by
    simp only [ev]; rw [l.zero]; funext j; simp [lc, sm, zero]
  rw [e2, e3, (ph.ev s).comm la c.pg.df] at e1
  obtain ⟨W, pW, hW⟩ := c.reach_p (ph.ev d)
  rw [hW] at e1
  refine c.nope (U := fun x => lc 1 (ev h s (U x)) (-1) (W x)) (.lc 1 (-1) ((ph.ev s).comp pU) pW) ?_
  rw [lP]
  funext j
  have ej := congrFun e1 j
  simp only [lc, sm, zero] at ej ⊢
  omega
noncomputable def orb (h : V → V) (y : V) : Nat → List V
  | 0 => []
  | d + 1 => y :: (orb h y d).map h
theorem comb_orb {h : V → V} (l : Lin h) (y : V) : ∀ (d : Nat) (k : List Int), k.length = d → comb k (orb h y d) = ev h k y
  | 0, k, hk => by rw [List.length_eq_zero_iff.1 hk]; simp [comb, ev]
  | d + 1, a :: k, hk => by
    simp only [orb, comb, ev]
    rw [← l.comb, comb_orb l y d k (by simpa using hk)]
  | d + 1, [], hk => by simp at hk
theorem orb_of {A h : V → V} (ph : Pol A h) {y : V} : ∀ d x, x ∈ orb h y d → Of A y x
  | 0, _, hx => by cases hx
  | d + 1, x, hx => by
    rcases List.mem_cons.1 hx with rfl | hx
    · exact ⟨fun x => x, .one, rfl⟩
    · obtain ⟨z, hz, rfl⟩ := List.mem_map.1 hx
      obtain ⟨T, pT, rfl⟩ := orb_of ph d z hz
      exact ⟨fun x => h (T x), ph.comp pT, rfl⟩
theorem orb_length (h : V → V) (y : V) : ∀ d, (orb h y d).length = d
  | 0 => rfl
  | d + 1 => by simp [orb, orb_length h y d]
noncomputable def rests (p : Nat) : Nat → List (List Int)
  | 0 => [[]]
  | d + 1 => (List.range p).flatMap fun (a : Nat) => (rests p d).map fun k => (a : Int) :: k
theorem mem_rests {p : Nat} (hp : 2 ≤ p) : ∀ (k : List Int), k.map (· % (p : Int)) ∈ rests p k.length
  | [] => by simp [rests]
  | a :: k => by
    simp only [rests, List.map_cons, List.length_cons, List.mem_flatMap, List.mem_map, List.mem_range]
    have h0 := Int.emod_nonneg a (b := (p : Int)) (by omega)
    have h1 := Int.emod_lt_of_pos a (b := (p : Int)) (by omega)
    exact ⟨(a % (p : Int)).toNat, by omega, k.map (· % (p : Int)), mem_rests hp k, by congr 1; omega⟩
theorem ev_rest {h : V → V} (l : Lin h) (x : V) (p : Nat) : ∀ (k : List Int), ev h k x = lc 1 (ev h (k.map (· % (p : Int))) x) 1 (sm p (ev h (k.map (· / (p : Int))) x))
  | [] => by funext j; simp [ev, lc, sm, zero]
  | a :: k => by
    simp only [ev, List.map_cons]
    rw [ev_rest l x p k, l, l.sm]
    have := Int.emod_add_mul_ediv a p
    funext j; simp only [lc, sm]; grind
theorem Cy.apartN {A g : V → V} {p e : Nat} {y : V} (c : Cy A g p e y) {h : V → V} (ph : Pol A h) {r d : Nat} (kill : geo h r y = zero) (fix : pw h r y = y) (inv : List Int → List Int × Int)
    (ok : ((rests p d).all fun k => (k.all fun a => a == 0) || isOne p r (foldL r ((inv k).1.length + k.length) (mulL (inv k).1 k)) (inv k).2) = true) : Apart A g p y (orb h y d) := by
  have la := c.la
  have l := ph.lin la
  have lP := c.pg.df.lin la
  rintro k hk ⟨U, pU, hU⟩ a ha
  rw [orb_length] at hk
  rw [comb_orb l y d k hk, ev_rest l y p k] at hU
  obtain ⟨W, pW, hW⟩ := c.reach_p (ph.ev (k.map (· / (p : Int))))
  have hr : reach (df g) A y (ev h (k.map (· % (p : Int))) y) := by
    refine ⟨fun x => lc 1 (U x) (-1) (W x), .lc 1 (-1) pU pW, ?_⟩
    rw [lP, ← hU, ← hW]
    funext j; simp only [lc]; omega
  have m := List.all_eq_true.1 ok _ (hk ▸ mem_rests c.hp.1 k)
  rw [Bool.or_eq_true] at m
  rcases m with m | m
  · have := List.all_eq_true.1 m (a % (p : Int)) (List.mem_map.2 ⟨a, ha, rfl⟩)
    rw [beq_iff_eq] at this
    exact Int.dvd_of_emod_eq_zero this
  · exact (c.unit_no ph kill fix m hr).elim
end Tor
end
section
set_option Elab.async false
namespace Tor
structure Dom (A : V → V) (n : Nat) : Prop where
  la : Lin A
  sup : ∀ x, Sup n x → Sup n (A x)
structure Cm (A : V → V) (n r f : Nat) (g : V → V) : Prop where
  pr : Pr r
  pg : Pol A g
  fix : ∀ x, Sup n x → pw (pw g (r ^ f)) r x = x
def Ki (r f : Nat) (g : V → V) (x : V) : Prop := geo (pw g (r ^ f)) r x = zero
def Fi (r f : Nat) (g : V → V) (x : V) : Prop := pw g (r ^ f) x = x
theorem Dom.supT {A T : V → V} {n : Nat} (d : Dom A n) (p : Pol A T) {x : V} (h : Sup n x) : Sup n (T x) := by
  induction p with
  | one => exact h
  | app _ ih => exact d.sup _ ih
  | lc a b _ _ ih1 ih2 =>
    intro j hj
    simp only [lc]
    rw [ih1 j hj, ih2 j hj]; simp
section
variable {A g : V → V} {n r f : Nat}
theorem Ki.pol {x : V} (d : Dom A n) (c : Cm A n r f g) (h : Ki r f g x) {T : V → V} (p : Pol A T) : Ki r f g (T x) := by
  unfold Ki at *
  rw [((c.pg.pw _).geo r).comm d.la p, h, (p.lin d.la).zero]
theorem Fi.pol {x : V} (d : Dom A n) (c : Cm A n r f g) (h : Fi r f g x) {T : V → V} (p : Pol A T) : Fi r f g (T x) := by
  unfold Fi at *
  rw [(c.pg.pw _).comm d.la p, h]
theorem Cm.geo_fix (d : Dom A n) (c : Cm A n r f g) {x : V} (hx : Sup n x) : pw g (r ^ f) (geo (pw g (r ^ f)) r x) = geo (pw g (r ^ f)) r x := by
  have l := (c.pg.pw (r ^ f)).lin d.la
  have t := geo_tel l r x
  rw [c.fix x hx] at t
  funext j
  have tj := congrFun t j
  simp only [lc, df] at tj
  omega
theorem geo_of_fix {h : V → V} (l : Lin h) {x : V} (hx : h x = x) : ∀ m, geo h m x = sm (m : Nat) x
  | 0 => by funext j; simp [geo, zero, sm]
  | m + 1 => by
    show lc 1 x 1 (h (geo h m x)) = _
    rw [geo_of_fix l hx m, l.sm, hx]
    funext j; simp only [lc, sm]; push_cast; grind
theorem Fi.mul {x : V} (d : Dom A n) (c : Cm A n r f g) (h : Fi r f g x) : geo (pw g (r ^ f)) r x = sm (r : Nat) x :=
  geo_of_fix ((c.pg.pw _).lin d.la) h r
theorem Cm.split (d : Dom A n) (c : Cm A n r f g) {x : V} (hx : Sup n x) : Fi r f g x ∨ ∃ T, Pol A T ∧ T x ≠ zero ∧ Ki r f g (T x) := by
  have pe : Pol A (geo (pw g (r ^ f)) r) := (c.pg.pw _).geo r
  have le := pe.lin d.la
  have pT : Pol A (fun x => lc (r : Nat) x (-1) (geo (pw g (r ^ f)) r x)) := .lc _ _ .one pe
  by_cases z : lc (r : Nat) x (-1) (geo (pw g (r ^ f)) r x) = zero
  · left
    have e : geo (pw g (r ^ f)) r x = sm (r : Nat) x := by
      funext j
      have zj := congrFun z j
      simp only [lc, zero, sm] at zj ⊢
      omega
    have q := c.geo_fix d hx
    rw [e, ((c.pg.pw _).lin d.la).sm] at q
    have : sm (r : Nat) (lc 1 (pw g (r ^ f) x) (-1) x) = zero := by
      funext j
      have qj := congrFun q j
      simp only [sm, lc, zero] at qj ⊢
      grind
    have := sm_zero (by have := c.pr.1; omega) this
    show pw g (r ^ f) x = x
    funext j
    have tj := congrFun this j
    simp only [lc, zero] at tj
    omega
  · right
    refine ⟨_, pT, z, ?_⟩
    unfold Ki
    rw [le]
    have q := geo_of_fix ((c.pg.pw _).lin d.la) (c.geo_fix d hx) r
    rw [q]
    funext j; simp only [lc, sm, zero]; grind
theorem Cm.cy (d : Dom A n) (c : Cm A n r f g) {y : V} (k : Ki r f g y) (ne : y ≠ zero) : Cy A g r f y := ⟨d.la, c.pg, c.pr, k, ne⟩
end
structure Fam (A : V → V) (y : V) (xs : List V) : Prop where
  ind : Ind xs
  of : ∀ x, x ∈ xs → Of A y x
theorem Fam.le {A : V → V} {n : Nat} (d : Dom A n) {y : V} (hy : Sup n y) {xs : List V} (h : Fam A y xs) : xs.length ≤ n :=
  ind_le (fun x hx => by obtain ⟨T, pT, rfl⟩ := h.of x hx; exact d.supT pT hy) h.ind
theorem Cy.fam {A g : V → V} {p e : Nat} {y : V} (c : Cy A g p e y) {ts : List V} (ht : ∀ x, x ∈ ts → Of A y x) (ap : Apart A g p y ts) : Fam A y (rows (df g) ts (p ^ e * (p - 1))) :=
  ⟨c.ind ht ap, rows_of c.pg.df ht _⟩
section
variable {A g h : V → V} {n r f r' f' : Nat}
theorem Cm.fam1 (d : Dom A n) (c : Cm A n r f g) {y : V} (k : Ki r f g y) (ne : y ≠ zero) : ∃ xs, Fam A y xs ∧ xs.length = r ^ f * (r - 1) := by
  have cy := c.cy d k ne
  refine ⟨_, cy.fam (ts := [y]) (fun x hx => ?_) cy.apart1, by rw [rows_length]; simp⟩
  rw [List.mem_singleton] at hx
  exact ⟨fun x => x, .one, hx⟩
theorem Cm.fam2 (d : Dom A n) (c : Cm A n r f g) (c' : Cm A n r' f' h) {y : V} (k : Ki r f g y) (k' : Ki r' f' h y) (ne : y ≠ zero)
    (noroot : ∀ a : Int, ¬ (r : Int) ∣ geoI (a ^ (r' ^ f')) r') : ∃ xs, Fam A y xs ∧ xs.length = r ^ f * (r - 1) * 2 := by
  have cy := c.cy d k ne
  refine ⟨_, cy.fam (ts := [y, h y]) (fun x hx => ?_) (cy.apart2 c'.pg k' noroot), by rw [rows_length]; rfl⟩
  simp only [List.mem_cons, List.not_mem_nil, or_false] at hx; rcases hx with rfl | rfl
  · exact ⟨fun x => x, .one, rfl⟩
  · exact ⟨h, c'.pg, rfl⟩
theorem Cm.famN (d : Dom A n) (c : Cm A n r f g) (c' : Cm A n r' 0 h) {y : V} (hy : Sup n y) (k : Ki r f g y) (k' : Ki r' 0 h y) (ne : y ≠ zero) {dd : Nat} (inv : List Int → List Int × Int)
    (ok : ((rests r dd).all fun k => (k.all fun a => a == 0) || isOne r r' (foldL r' ((inv k).1.length + k.length) (mulL (inv k).1 k)) (inv k).2) = true) :
    ∃ xs, Fam A y xs ∧ xs.length = r ^ f * (r - 1) * dd := by
  have cy := c.cy d k ne
  have e0 : pw h (r' ^ 0) = h := by funext x; rfl
  have k2 : geo h r' y = zero := by have := k'; unfold Ki at this; rw [e0] at this; exact this
  have fx : pw h r' y = y := by have := c'.fix y hy; rw [e0] at this; exact this
  exact ⟨_, cy.fam (ts := orb h y dd) (orb_of c'.pg dd) (cy.apartN c'.pg k2 fx inv ok), by rw [rows_length, orb_length]⟩
theorem Cm.join (d : Dom A n) (c : Cm A n r f g) {y : V} (k : Ki r f g y) {xs zs : List V} (fx : Fam A y xs) (iz : Ind zs) (hz : ∀ z, z ∈ zs → Fi r f g z) : Ind (xs ++ zs) := by
  refine ind_part (T := geo (pw g (r ^ f)) r) (((c.pg.pw _).geo r).lin d.la) (k := (r : Nat)) (by have := c.pr.1; omega) ?_ ?_ fx.ind iz
  · intro x hx
    obtain ⟨T, pT, rfl⟩ := fx.of x hx
    exact k.pol d c pT
  · intro z z'
    exact (hz z z').mul d c
theorem Fam.fi (d : Dom A n) (c : Cm A n r f g) {z : V} (h : Fi r f g z) {zs : List V} (fz : Fam A z zs) : ∀ x, x ∈ zs → Fi r f g x := by
  intro x hx
  obtain ⟨T, pT, rfl⟩ := fz.of x hx
  exact h.pol d c pT
end
theorem Fam.sup {A : V → V} {n : Nat} (d : Dom A n) {y : V} (hy : Sup n y) {xs : List V} (h : Fam A y xs) : ∀ x, x ∈ xs → Sup n x := by
  intro x hx; obtain ⟨T, pT, rfl⟩ := h.of x hx; exact d.supT pT hy
structure Has (A : V → V) (n r f : Nat) (g : V → V) : Prop extends Cm A n r f g where
  w : ∃ w, Sup n w ∧ w ≠ zero ∧ Ki r f g w
theorem Has.one {A g : V → V} {n r f : Nat} (d : Dom A n) (c : Has A n r f g) : r ^ f * (r - 1) ≤ n := by
  obtain ⟨w, sw, nw, kw⟩ := c.w
  obtain ⟨xs, fx, lx⟩ := c.toCm.fam1 d kw nw
  rw [← lx]; exact fx.le d sw
theorem Cm.not2 {A g h : V → V} {n r f r' f' : Nat} (d : Dom A n) (c : Cm A n r f g) (c' : Cm A n r' f' h) (noroot : ∀ a : Int, ¬ (r : Int) ∣ geoI (a ^ (r' ^ f')) r') (big : n < r ^ f * (r - 1) * 2)
    {y : V} (hy : Sup n y) (ne : y ≠ zero) (k : Ki r f g y) (k' : Ki r' f' h y) : False := by
  obtain ⟨xs, fx, lx⟩ := c.fam2 d c' k k' ne noroot
  have := fx.le d hy
  omega
theorem no_pair {A g h : V → V} {n r f r' f' : Nat} (d : Dom A n) (c : Has A n r f g) (c' : Has A n r' f' h) (noroot : ∀ a : Int, ¬ (r : Int) ∣ geoI (a ^ (r' ^ f')) r')
    (big : n < r ^ f * (r - 1) * 2) (sum : n < r ^ f * (r - 1) + r' ^ f' * (r' - 1)) : False := by
  obtain ⟨w, sw, nw, kw⟩ := c.w
  obtain ⟨v, sv, nv, kv⟩ := c'.w
  have no := fun {y : V} => c.toCm.not2 d c'.toCm noroot big (y := y)
  have fw : Fi r' f' h w := by
    rcases c'.toCm.split d sw with q | ⟨T, pT, nT, kT⟩
    · exact q
    · exact (no (d.supT pT sw) nT (kw.pol d c.toCm pT) kT).elim
  have fv : Fi r f g v := by
    rcases c.toCm.split d sv with q | ⟨T, pT, nT, kT⟩
    · exact q
    · exact (no (d.supT pT sv) nT kT (kv.pol d c'.toCm pT)).elim
  obtain ⟨xs, fx, lx⟩ := c.toCm.fam1 d kw nw
  obtain ⟨ys, fy, ly⟩ := c'.toCm.fam1 d kv nv
  have I := c.toCm.join d kw fx fy.ind (fy.fi d c.toCm fv)
  have := ind_le (n := n) (fun x hx => by
    rcases List.mem_append.1 hx with q | q
    · exact fx.sup d sw x q
    · exact fy.sup d sv x q) I
  rw [List.length_append] at this
  omega
end Tor
end
section
set_option Elab.async false
namespace Tor
theorem no_84 {A g4 g3 g7 : V → V} {n : Nat} (d : Dom A n) (n8 : n ≤ 8) (c4 : Has A n 2 1 g4) (c3 : Has A n 3 0 g3) (c7 : Has A n 7 0 g7)
    (r74 : ∀ a : Int, ¬ ((7 : Nat) : Int) ∣ geoI (a ^ (2 ^ 1)) 2) (r34 : ∀ a : Int, ¬ ((3 : Nat) : Int) ∣ geoI (a ^ (2 ^ 1)) 2)
    (inv : List Int → List Int × Int) (ok : ((rests 3 5).all fun k => (k.all fun a => a == 0) || isOne 3 7 (foldL 7 ((inv k).1.length + k.length) (mulL (inv k).1 k)) (inv k).2) = true) : False := by
  obtain ⟨w4, s4, n4, k4⟩ := c4.w
  obtain ⟨w3, s3, n3, k3⟩ := c3.w
  obtain ⟨w7, s7, n7, k7⟩ := c7.w
  have no74 : ∀ {y : V}, Sup n y → y ≠ zero → Ki 7 0 g7 y → Ki 2 1 g4 y → False := fun hy ne a b => c7.toCm.not2 d c4.toCm r74 (by show n < 7 ^ 0 * (7 - 1) * 2; omega) hy ne a b
  have no37 : ∀ {y : V}, Sup n y → y ≠ zero → Ki 3 0 g3 y → Ki 7 0 g7 y → False := by
    intro y hy ne a b
    obtain ⟨xs, fx, lx⟩ := c3.toCm.famN d c7.toCm hy a b ne inv ok
    have := fx.le d hy
    have : xs.length = 10 := lx
    omega
  have f74 : Fi 2 1 g4 w7 := by
    rcases c4.toCm.split d s7 with q | ⟨T, pT, nT, kT⟩
    · exact q
    · exact (no74 (d.supT pT s7) nT (k7.pol d c7.toCm pT) kT).elim
  have f73 : Fi 3 0 g3 w7 := by
    rcases c3.toCm.split d s7 with q | ⟨T, pT, nT, kT⟩
    · exact q
    · exact (no37 (d.supT pT s7) nT kT (k7.pol d c7.toCm pT)).elim
  have f47 : Fi 7 0 g7 w4 := by
    rcases c7.toCm.split d s4 with q | ⟨T, pT, nT, kT⟩
    · exact q
    · exact (no74 (d.supT pT s4) nT kT (k4.pol d c4.toCm pT)).elim
  have f37 : Fi 7 0 g7 w3 := by
    rcases c7.toCm.split d s3 with q | ⟨T, pT, nT, kT⟩
    · exact q
    · exact (no37 (d.supT pT s3) nT (k3.pol d c3.toCm pT) kT).elim
  obtain ⟨x7, F7, l7⟩ := c7.toCm.fam1 d k7 n7
  have l7 : x7.length = 6 := l7
  have no34 : ∀ {y : V}, Sup n y → y ≠ zero → Ki 3 0 g3 y → Ki 2 1 g4 y → Fi 7 0 g7 y → False := by
    intro y hy ne a b fy
    obtain ⟨xs, fx, lx⟩ := c3.toCm.fam2 d c4.toCm a b ne r34
    have lx : xs.length = 4 := lx
    have I := c7.toCm.join d k7 F7 fx.ind (fx.fi d c7.toCm fy)
    have := ind_le (n := n) (fun x hx => by
      rcases List.mem_append.1 hx with q | q
      · exact F7.sup d s7 x q
      · exact fx.sup d hy x q) I
    rw [List.length_append] at this
    omega
  have f43 : Fi 3 0 g3 w4 := by
    rcases c3.toCm.split d s4 with q | ⟨T, pT, nT, kT⟩
    · exact q
    · exact (no34 (d.supT pT s4) nT kT (k4.pol d c4.toCm pT) (f47.pol d c7.toCm pT)).elim
  have f34 : Fi 2 1 g4 w3 := by
    rcases c4.toCm.split d s3 with q | ⟨T, pT, nT, kT⟩
    · exact q
    · exact (no34 (d.supT pT s3) nT (k3.pol d c3.toCm pT) kT (f37.pol d c7.toCm pT)).elim
  obtain ⟨x4, F4, l4⟩ := c4.toCm.fam1 d k4 n4
  obtain ⟨x3, F3, l3⟩ := c3.toCm.fam1 d k3 n3
  have l4 : x4.length = 2 := l4
  have l3 : x3.length = 2 := l3
  have I1 := c4.toCm.join d k4 F4 F3.ind (F3.fi d c4.toCm f34)
  have I2 := c7.toCm.join d k7 F7 I1 (fun x hx => by
    rcases List.mem_append.1 hx with q | q
    · exact F4.fi d c7.toCm f47 x q
    · exact F3.fi d c7.toCm f37 x q)
  have := ind_le (n := n) (fun x hx => by
    rcases List.mem_append.1 hx with q | q
    · exact F7.sup d s7 x q
    · rcases List.mem_append.1 q with q | q
      · exact F4.sup d s4 x q
      · exact F3.sup d s3 x q) I2
  rw [List.length_append, List.length_append] at this
  omega
theorem no_120 {A g8 g3 g5 : V → V} {n : Nat} (d : Dom A n) (n8 : n ≤ 8) (c8 : Has A n 2 2 g8) (c3 : Has A n 3 0 g3) (c5 : Has A n 5 0 g5)
    (r83 : ∀ a : Int, ¬ ((2 : Nat) : Int) ∣ geoI (a ^ (3 ^ 0)) 3) (r53 : ∀ a : Int, ¬ ((5 : Nat) : Int) ∣ geoI (a ^ (3 ^ 0)) 3)
    (inv : List Int → List Int × Int) (ok : ((rests 2 3).all fun k => (k.all fun a => a == 0) || isOne 2 5 (foldL 5 ((inv k).1.length + k.length) (mulL (inv k).1 k)) (inv k).2) = true) : False := by
  obtain ⟨w8, s8, n8', k8⟩ := c8.w
  obtain ⟨w3, s3, n3, k3⟩ := c3.w
  obtain ⟨w5, s5, n5, k5⟩ := c5.w
  have no85 : ∀ {y : V}, Sup n y → y ≠ zero → Ki 2 2 g8 y → Ki 5 0 g5 y → False := by
    intro y hy ne a b
    obtain ⟨xs, fx, lx⟩ := c8.toCm.famN d c5.toCm hy a b ne inv ok
    have := fx.le d hy
    have : xs.length = 12 := lx
    omega
  have get5 : ∀ {y : V}, Sup n y → y ≠ zero → Ki 2 2 g8 y → Fi 5 0 g5 y := by
    intro y hy ne k
    rcases c5.toCm.split d hy with q | ⟨T, pT, nT, kT⟩
    · exact q
    · exact (no85 (d.supT pT hy) nT (k.pol d c8.toCm pT) kT).elim
  have get8 : ∀ {y : V}, Sup n y → y ≠ zero → Ki 5 0 g5 y → Fi 2 2 g8 y := by
    intro y hy ne k
    rcases c8.toCm.split d hy with q | ⟨T, pT, nT, kT⟩
    · exact q
    · exact (no85 (d.supT pT hy) nT kT (k.pol d c5.toCm pT)).elim
  obtain ⟨x8, F8, l8⟩ := c8.toCm.fam1 d k8 n8'
  obtain ⟨x5, F5, l5⟩ := c5.toCm.fam1 d k5 n5
  obtain ⟨x3, F3, l3⟩ := c3.toCm.fam1 d k3 n3
  have l8 : x8.length = 4 := l8
  have l5 : x5.length = 4 := l5
  have l3 : x3.length = 2 := l3
  have no83 : ∀ {y : V}, Sup n y → y ≠ zero → Ki 2 2 g8 y → Ki 3 0 g3 y → False := by
    intro y hy ne a b
    obtain ⟨xs, fx, lx⟩ := c8.toCm.fam2 d c3.toCm a b ne r83
    have lx : xs.length = 8 := lx
    have I := c5.toCm.join d k5 F5 fx.ind (fx.fi d c5.toCm (get5 hy ne a))
    have := ind_le (n := n) (fun x hx => by
      rcases List.mem_append.1 hx with q | q
      · exact F5.sup d s5 x q
      · exact fx.sup d hy x q) I
    rw [List.length_append] at this
    omega
  have no53 : ∀ {y : V}, Sup n y → y ≠ zero → Ki 5 0 g5 y → Ki 3 0 g3 y → False := by
    intro y hy ne a b
    obtain ⟨xs, fx, lx⟩ := c5.toCm.fam2 d c3.toCm a b ne r53
    have lx : xs.length = 8 := lx
    have I := c8.toCm.join d k8 F8 fx.ind (fx.fi d c8.toCm (get8 hy ne a))
    have := ind_le (n := n) (fun x hx => by
      rcases List.mem_append.1 hx with q | q
      · exact F8.sup d s8 x q
      · exact fx.sup d hy x q) I
    rw [List.length_append] at this
    omega
  have f38 : Fi 2 2 g8 w3 := by
    rcases c8.toCm.split d s3 with q | ⟨T, pT, nT, kT⟩
    · exact q
    · exact (no83 (d.supT pT s3) nT kT (k3.pol d c3.toCm pT)).elim
  have f35 : Fi 5 0 g5 w3 := by
    rcases c5.toCm.split d s3 with q | ⟨T, pT, nT, kT⟩
    · exact q
    · exact (no53 (d.supT pT s3) nT kT (k3.pol d c3.toCm pT)).elim
  have I1 := c5.toCm.join d k5 F5 F3.ind (F3.fi d c5.toCm f35)
  have I2 := c8.toCm.join d k8 F8 I1 (fun x hx => by
    rcases List.mem_append.1 hx with q | q
    · exact F5.fi d c8.toCm (get8 s5 n5 k5) x q
    · exact F3.fi d c8.toCm f38 x q)
  have := ind_le (n := n) (fun x hx => by
    rcases List.mem_append.1 hx with q | q
    · exact F8.sup d s8 x q
    · rcases List.mem_append.1 q with q | q
      · exact F5.sup d s5 x q
      · exact F3.sup d s3 x q) I2
  rw [List.length_append, List.length_append] at this
  omega
theorem geoI_mod (p : Int) {a b : Int} (h : a % p = b % p) : ∀ m, geoI a m % p = geoI b m % p
  | 0 => rfl
  | m + 1 => by
    show (1 + a * geoI a m) % p = (1 + b * geoI b m) % p
    rw [Int.add_emod, Int.mul_emod, h, geoI_mod p h m, ← Int.mul_emod, ← Int.add_emod]
theorem pow_mod (p : Int) {a b : Int} (h : a % p = b % p) : ∀ k : Nat, (a ^ k) % p = (b ^ k) % p
  | 0 => by rw [Int.pow_zero, Int.pow_zero]
  | k + 1 => by rw [Int.pow_succ, Int.pow_succ, Int.mul_emod, pow_mod p h k, h, ← Int.mul_emod]
theorem noroot {r k m : Nat} (hr : 2 ≤ r) (h : ((List.range r).all fun (b : Nat) => geoI ((b : Int) ^ k) m % (r : Int) != 0) = true) : ∀ a : Int, ¬ ((r : Nat) : Int) ∣ geoI (a ^ k) m := by
  intro a d
  have h0 := Int.emod_nonneg a (b := (r : Int)) (by omega)
  have h1 := Int.emod_lt_of_pos a (b := (r : Int)) (by omega)
  have q := List.all_eq_true.1 h (a % (r : Int)).toNat (List.mem_range.2 (by omega))
  have e : (((a % (r : Int)).toNat : Nat) : Int) = a % (r : Int) := by omega
  rw [e] at q
  have e2 : geoI ((a % (r : Int)) ^ k) m % (r : Int) = geoI (a ^ k) m % (r : Int) := geoI_mod _ (pow_mod _ (Int.emod_emod_of_dvd _ (Int.dvd_refl _)) k) m
  rw [e2, Int.emod_eq_zero_of_dvd d] at q
  simp at q
theorem pr2 : Pr 2 := ⟨by omega, fun d hd => by have := Nat.le_of_dvd (by omega) hd; have : d ≠ 0 := fun h => by subst h; simp at hd
                                                omega⟩
theorem pr_of {p : Nat} (h2 : 2 ≤ p) (h : ((List.range p).all fun d => d ≤ 1 || p % d != 0) = true) : Pr p := by
  refine ⟨h2, fun d hd => ?_⟩
  have le := Nat.le_of_dvd (by omega) hd
  by_cases e : d = p
  · exact Or.inr e
  · left
    have q := List.all_eq_true.1 h d (List.mem_range.2 (by omega))
    rw [Bool.or_eq_true] at q
    rcases q with q | q
    · have := of_decide_eq_true q
      have : d ≠ 0 := fun h => by subst h; simp at hd; omega
      omega
    · rw [Nat.mod_eq_zero_of_dvd hd] at q; simp at q
theorem exists_prime : ∀ (k : Nat), 2 ≤ k → ∃ p, Pr p ∧ p ∣ k := by
  intro k
  induction k using Nat.strongRecOn with
  | _ k ih =>
    intro h
    by_cases q : ∃ d, d ∣ k ∧ d ≠ 1 ∧ d ≠ k
    · obtain ⟨d, dk, d1, d2⟩ := q
      have := Nat.le_of_dvd (by omega) dk
      have : d ≠ 0 := fun e => by subst e; simp at dk; omega
      obtain ⟨p, pp, pd⟩ := ih d (by omega) (by omega)
      exact ⟨p, pp, Nat.dvd_trans pd dk⟩
    · refine ⟨k, ⟨h, fun d dk => ?_⟩, Nat.dvd_refl _⟩
      exact Classical.byContradiction fun n => q ⟨d, dk, fun e => n (Or.inl e), fun e => n (Or.inr e)⟩
structure Ord (A : V → V) (n N : Nat) : Prop extends Dom A n where
  pos : 0 < N
  all : ∀ x, Sup n x → pw A N x = x
  least : ∀ k, 0 < k → k < N → ∃ x, Sup n x ∧ pw A k x ≠ x
theorem Ord.has {A : V → V} {n N : Nat} (o : Ord A n N) {r f : Nat} (pr : Pr r) (h : r ^ (f + 1) ∣ N) : Has A n r f (pw A (N / r ^ (f + 1))) := by
  obtain ⟨k, hk⟩ := h
  have r0 : 0 < r ^ (f + 1) := pow_pos1 pr.1 _
  have rf0 : 0 < r ^ f := pow_pos1 pr.1 _
  have e : N / r ^ (f + 1) = k := by rw [hk, Nat.mul_div_cancel_left k r0]
  rw [e]
  have k0 : 0 < k := by
    have := o.pos
    rcases Nat.eq_zero_or_pos k with z | z
    · rw [z] at hk; omega
    · exact z
  have eh : pw (pw A k) (r ^ f) = pw A (k * r ^ f) := by funext x; rw [pw_mul]
  have eN : k * r ^ f * r = N := by rw [hk, Nat.pow_succ, Nat.mul_assoc, Nat.mul_comm]
  have pg : Pol A (pw A k) := (Pol.self A).pw k
  refine ⟨⟨pr, pg, fun x hx => ?_⟩, ?_⟩
  · rw [eh, ← pw_mul, eN]; exact o.all x hx
  · have lt : k * r ^ f < N := by
      have a : 0 < k * r ^ f := Nat.mul_pos k0 rf0
      have b := pr.1
      have : k * r ^ f * 2 ≤ k * r ^ f * r := Nat.mul_le_mul_left _ b
      omega
    obtain ⟨v, sv, nv⟩ := o.least (k * r ^ f) (Nat.mul_pos k0 rf0) lt
    have ph : Pol A (pw A (k * r ^ f)) := (Pol.self A).pw _
    refine ⟨df (pw A (k * r ^ f)) v, o.toDom.supT ph.df sv, ?_, ?_⟩
    · intro z
      refine nv ?_
      funext j
      have zj := congrFun z j
      simp only [df, lc, zero] at zj
      omega
    · unfold Ki
      rw [eh, (ph.geo r).comm o.la ph.df, ← geo_tel (ph.lin o.la), ← pw_mul, eN, o.all v sv]
      funext j; simp [lc, zero]; omega
noncomputable def sq (p r : Nat) (k m : List Int) : List Int := (foldL r (k.length + m.length) (mulL k m)).map (· % (p : Int))
noncomputable def powL (p r : Nat) (k : List Int) : Nat → Nat → List Int
  | 0, _ => [1]
  | _, 0 => [1]
  | f + 1, e => if e % 2 == 0 then powL p r (sq p r k k) f (e / 2) else sq p r k (powL p r (sq p r k k) f (e / 2))
noncomputable def invL (p r e : Nat) (k : List Int) : List Int × Int :=
  let s := powL p r k 20 e
  (s, (foldL r (s.length + k.length) (mulL s k)).getD 1 0)
noncomputable def g37 (k : List Int) : Bool := (k.all fun a => a == 0) || isOne 3 7 (foldL 7 ((invL 3 7 727 k).1.length + k.length) (mulL (invL 3 7 727 k).1 k)) (invL 3 7 727 k).2
theorem all_rests (f : List Int → Bool) (d : Nat) : (rests 3 (d + 1)).all f = ((rests 3 d).all (fun k => f (0 :: k)) && ((rests 3 d).all (fun k => f (1 :: k)) && (rests 3 d).all (fun k => f (2 :: k)))) := by
  show ((List.range 3).flatMap fun (a : Nat) => (rests 3 d).map fun k => (a : Int) :: k).all f = _
  rw [show List.range 3 = [0, 1, 2] from rfl]
  simp [List.all_map, Function.comp_def, Bool.and_assoc]
theorem o00 : ((rests 3 3).all fun k => g37 (0 :: 0 :: k)) = true := by decide +kernel
theorem o01 : ((rests 3 3).all fun k => g37 (0 :: 1 :: k)) = true := by decide +kernel
theorem o02 : ((rests 3 3).all fun k => g37 (0 :: 2 :: k)) = true := by decide +kernel
theorem o10 : ((rests 3 3).all fun k => g37 (1 :: 0 :: k)) = true := by decide +kernel
theorem o11 : ((rests 3 3).all fun k => g37 (1 :: 1 :: k)) = true := by decide +kernel
theorem o12 : ((rests 3 3).all fun k => g37 (1 :: 2 :: k)) = true := by decide +kernel
theorem o20 : ((rests 3 3).all fun k => g37 (2 :: 0 :: k)) = true := by decide +kernel
theorem o21 : ((rests 3 3).all fun k => g37 (2 :: 1 :: k)) = true := by decide +kernel
theorem o22 : ((rests 3 3).all fun k => g37 (2 :: 2 :: k)) = true := by decide +kernel
theorem ok37 : ((rests 3 5).all fun k => (k.all fun a => a == 0) || isOne 3 7 (foldL 7 ((invL 3 7 727 k).1.length + k.length) (mulL (invL 3 7 727 k).1 k)) (invL 3 7 727 k).2) = true := by
  show (rests 3 5).all g37 = true
  rw [all_rests g37 4, all_rests (fun k => g37 (0 :: k)) 3, all_rests (fun k => g37 (1 :: k)) 3, all_rests (fun k => g37 (2 :: k)) 3]
  simp only [o00, o01, o02, o10, o11, o12, o20, o21, o22, Bool.and_self]
theorem ok25 : ((rests 2 3).all fun k => (k.all fun a => a == 0) || isOne 2 5 (foldL 5 ((invL 2 5 14 k).1.length + k.length) (mulL (invL 2 5 14 k).1 k)) (invL 2 5 14 k).2) = true := by decide +kernel
theorem div5040 : ((List.range 5041).all fun d => 5040 % d != 0 || d == 0 || ((5040 % (2 * d) == 0 || (2 * d) % 32 == 0) && ((5040 % (3 * d) == 0 || (3 * d) % 27 == 0) && ((5040 % (5 * d) == 0 || (5 * d) % 25 == 0) && (5040 % (7 * d) == 0 || (7 * d) % 49 == 0))))) = true := by decide +kernel
theorem bad5040 : ((List.range 5041).all fun d => 5040 % d != 0 || d ≤ 60 || (d % 35 == 0 || (d % 45 == 0 || (d % 63 == 0 || (d % 80 == 0 || (d % 112 == 0 || (d % 72 == 0 || (d % 84 == 0 || d % 120 == 0)))))))) = true := by decide +kernel
theorem two9 : ∀ p, p < 10 → 2 ≤ p → p = 2 ∨ p = 3 ∨ p = 4 ∨ p = 5 ∨ p = 6 ∨ p = 7 ∨ p = 8 ∨ p = 9 := by decide
theorem Ord.le60 {A : V → V} {n N : Nat} (o : Ord A n N) (n8 : n ≤ 8) : N ≤ 60 := by
  have d := o.toDom
  have p3 : Pr 3 := pr_of (by decide) (by decide)
  have p5 : Pr 5 := pr_of (by decide) (by decide)
  have p7 : Pr 7 := pr_of (by decide) (by decide)
  have small : ∀ p, Pr p → p ∣ N → p ≤ 9 := by
    intro p pp pd
    have := (o.has (f := 0) pp (by rw [Nat.pow_one]; exact pd)).one d
    rw [Nat.pow_zero, Nat.one_mul] at this
    exact Nat.le_succ_of_pred_le (Nat.le_trans this n8)
  have n32 : ¬ 32 ∣ N := fun h => absurd (Nat.le_trans ((o.has (r := 2) (f := 4) pr2 h).one d) n8) (by decide)
  have n27 : ¬ 27 ∣ N := fun h => absurd (Nat.le_trans ((o.has (r := 3) (f := 2) p3 h).one d) n8) (by decide)
  have n25 : ¬ 25 ∣ N := fun h => absurd (Nat.le_trans ((o.has (r := 5) (f := 1) p5 h).one d) n8) (by decide)
  have n49 : ¬ 49 ∣ N := fun h => absurd (Nat.le_trans ((o.has (r := 7) (f := 1) p7 h).one d) n8) (by decide)
  have dv : N ∣ 5040 := by
    have gN := Nat.gcd_dvd_left N 5040
    have g5 := Nat.gcd_dvd_right N 5040
    have g0 : 0 < Nat.gcd N 5040 := Nat.gcd_pos_of_pos_left _ o.pos
    obtain ⟨k, hk⟩ := gN
    by_cases k1 : k = 1
    · rw [k1, Nat.mul_one] at hk; rw [hk]; exact g5
    · exfalso
      have k2 : 2 ≤ k := by
        have := o.pos
        rcases Nat.eq_zero_or_pos k with z | z
        · rw [z] at hk; omega
        · omega
      obtain ⟨p, pp, pk⟩ := exists_prime k k2
      have pN : p ∣ N := by rw [hk]; exact Nat.dvd_trans pk (Nat.dvd_mul_left ..)
      have pgN : p * Nat.gcd N 5040 ∣ N := by
        conv => rhs; rw [hk]
        rw [Nat.mul_comm p]
        exact Nat.mul_dvd_mul_left _ pk
      have np : ¬ p * Nat.gcd N 5040 ∣ 5040 := by
        intro h
        have := Nat.le_of_dvd g0 (Nat.dvd_gcd pgN h)
        have : 2 * Nat.gcd N 5040 ≤ p * Nat.gcd N 5040 := Nat.mul_le_mul_right _ pp.1
        omega
      have p9 := small p pp pN
      have q := List.all_eq_true.1 div5040 (Nat.gcd N 5040) (List.mem_range.2 (by have := Nat.le_of_dvd (by omega) g5; omega))
      generalize Nat.gcd N 5040 = g at *
      have gz : 5040 % g = 0 := Nat.mod_eq_zero_of_dvd g5
      simp only [gz, Bool.or_eq_true, Bool.and_eq_true, beq_iff_eq, bne_iff_ne, ne_eq, not_true, false_or] at q
      have q : g = 0 ∨ _ := q
      rcases q with q | ⟨q2, q3, q5, q7⟩
      · omega
      have hp : p = 2 ∨ p = 3 ∨ p = 4 ∨ p = 5 ∨ p = 6 ∨ p = 7 ∨ p = 8 ∨ p = 9 := two9 p (Nat.lt_succ_of_le p9) pp.1
      rcases hp with rfl | rfl | rfl | rfl | rfl | rfl | rfl | rfl
      · rcases q2 with h | h
        · exact np (Nat.dvd_of_mod_eq_zero h)
        · exact n32 (Nat.dvd_trans (Nat.dvd_of_mod_eq_zero h) pgN)
      · rcases q3 with h | h
        · exact np (Nat.dvd_of_mod_eq_zero h)
        · exact n27 (Nat.dvd_trans (Nat.dvd_of_mod_eq_zero h) pgN)
      · exact absurd (pp.2 2 ⟨2, rfl⟩) (by decide)
      · rcases q5 with h | h
        · exact np (Nat.dvd_of_mod_eq_zero h)
        · exact n25 (Nat.dvd_trans (Nat.dvd_of_mod_eq_zero h) pgN)
      · exact absurd (pp.2 2 ⟨3, rfl⟩) (by decide)
      · rcases q7 with h | h
        · exact np (Nat.dvd_of_mod_eq_zero h)
        · exact n49 (Nat.dvd_trans (Nat.dvd_of_mod_eq_zero h) pgN)
      · exact absurd (pp.2 2 ⟨4, rfl⟩) (by decide)
      · exact absurd (pp.2 3 ⟨3, rfl⟩) (by decide)
  refine Nat.not_lt.1 fun gt => ?_
  have q := List.all_eq_true.1 bad5040 N (List.mem_range.2 (by have := Nat.le_of_dvd (by omega) dv; omega))
  have gz : 5040 % N = 0 := Nat.mod_eq_zero_of_dvd dv
  have nle : ¬ N ≤ 60 := by omega
  simp only [gz, Bool.or_eq_true, beq_iff_eq, bne_iff_ne, ne_eq, not_true, false_or, decide_eq_true_iff, nle] at q
  have up : ∀ {a b : Nat}, a ∣ b → N % b = 0 → a ∣ N := fun h e => Nat.dvd_trans h (Nat.dvd_of_mod_eq_zero e)
  rcases q with q | q | q | q | q | q | q | q
  · exact no_pair d (o.has (r := 7) (f := 0) p7 (up ⟨5, rfl⟩ q)) (o.has (r := 5) (f := 0) p5 (up ⟨7, rfl⟩ q)) (noroot (k := 5 ^ 0) (by decide) (by decide)) (Nat.lt_of_le_of_lt n8 (by decide)) (Nat.lt_of_le_of_lt n8 (by decide))
  · exact no_pair d (o.has (r := 3) (f := 1) p3 (up ⟨5, rfl⟩ q)) (o.has (r := 5) (f := 0) p5 (up ⟨9, rfl⟩ q)) (noroot (k := 5 ^ 0) (by decide) (by decide)) (Nat.lt_of_le_of_lt n8 (by decide)) (Nat.lt_of_le_of_lt n8 (by decide))
  · exact no_pair d (o.has (r := 7) (f := 0) p7 (up ⟨9, rfl⟩ q)) (o.has (r := 3) (f := 1) p3 (up ⟨7, rfl⟩ q)) (noroot (k := 3 ^ 1) (by decide) (by decide)) (Nat.lt_of_le_of_lt n8 (by decide)) (Nat.lt_of_le_of_lt n8 (by decide))
  · exact no_pair d (o.has (r := 2) (f := 3) pr2 (up ⟨5, rfl⟩ q)) (o.has (r := 5) (f := 0) p5 (up ⟨16, rfl⟩ q)) (noroot (k := 5 ^ 0) (by decide) (by decide)) (Nat.lt_of_le_of_lt n8 (by decide)) (Nat.lt_of_le_of_lt n8 (by decide))
  · exact no_pair d (o.has (r := 2) (f := 3) pr2 (up ⟨7, rfl⟩ q)) (o.has (r := 7) (f := 0) p7 (up ⟨16, rfl⟩ q)) (noroot (k := 7 ^ 0) (by decide) (by decide)) (Nat.lt_of_le_of_lt n8 (by decide)) (Nat.lt_of_le_of_lt n8 (by decide))
  · exact no_pair d (o.has (r := 3) (f := 1) p3 (up ⟨8, rfl⟩ q)) (o.has (r := 2) (f := 2) pr2 (up ⟨9, rfl⟩ q)) (noroot (k := 2 ^ 2) (by decide) (by decide)) (Nat.lt_of_le_of_lt n8 (by decide)) (Nat.lt_of_le_of_lt n8 (by decide))
  · exact no_84 d n8 (o.has (r := 2) (f := 1) pr2 (up ⟨21, rfl⟩ q)) (o.has (r := 3) (f := 0) p3 (up ⟨28, rfl⟩ q)) (o.has (r := 7) (f := 0) p7 (up ⟨12, rfl⟩ q))
      (noroot (k := 2 ^ 1) (by decide) (by decide)) (noroot (k := 2 ^ 1) (by decide) (by decide)) _ ok37
  · exact no_120 d n8 (o.has (r := 2) (f := 2) pr2 (up ⟨15, rfl⟩ q)) (o.has (r := 3) (f := 0) p3 (up ⟨40, rfl⟩ q)) (o.has (r := 5) (f := 0) p5 (up ⟨24, rfl⟩ q))
      (noroot (k := 3 ^ 0) (by decide) (by decide)) (noroot (k := 3 ^ 0) (by decide) (by decide)) _ ok25
end Tor
end
section
set_option Elab.async false
namespace Cox
open Si07
noncomputable def opA (M : Mirrors) (u : Word) (x : Tor.V) : Tor.V := trunc M.n (act M u x)
theorem trunc_sup (n : Nat) (h : Nat → Int) : Tor.Sup n (trunc n h) := by
  intro j hj; unfold trunc; rw [if_neg (by omega)]
theorem trunc_of_sup {n : Nat} {x : Nat → Int} (h : Tor.Sup n x) : trunc n x = x := by
  funext j; unfold trunc
  by_cases q : j < n
  · rw [if_pos q]
  · rw [if_neg q, h j (by omega)]
theorem trunc_congr {n : Nat} {x y : Nat → Int} (a : Agree n x y) : trunc n x = trunc n y := by
  funext j; unfold trunc
  by_cases q : j < n
  · rw [if_pos q, if_pos q, a j q]
  · rw [if_neg q, if_neg q]
theorem opA_dom (M : Mirrors) (u : Word) : Tor.Dom (opA M u) M.n := by
  refine ⟨fun a b x y => ?_, fun x _ => trunc_sup _ _⟩
  unfold opA
  have : act M u (Tor.lc a x b y) = fun j => a * act M u x j + b * act M u y j := act_lin M u a b x y
  rw [this]
  funext j; unfold trunc Tor.lc
  by_cases q : j < M.n
  · simp [q]
  · simp [q]
theorem opA_pw {M : Mirrors} {u : Word} (hu : IsWord M u) {x : Tor.V} (hx : Tor.Sup M.n x) : ∀ k, Tor.pw (opA M u) k x = trunc M.n (act M (power u k) x)
  | 0 => (trunc_of_sup hx).symm
  | k + 1 => by
    show opA M u (Tor.pw (opA M u) k x) = trunc M.n (act M (power u k ++ u) x)
    rw [opA_pw hu hx k, act_append]
    exact trunc_congr (act_agree hu (trunc_agree M.n _))
theorem power_fix {M : Mirrors} {u : Word} (hu : IsWord M u) (k : Nat) : Eqv M (power u k) [] ↔ ∀ x, Tor.Sup M.n x → Tor.pw (opA M u) k x = x := by
  constructor
  · intro e x hx
    rw [opA_pw hu hx, trunc_congr (e x)]
    exact trunc_of_sup hx
  · intro h g j hj
    have e := h (trunc M.n g) (trunc_sup _ _)
    rw [opA_pw hu (trunc_sup _ _)] at e
    have ej := congrFun e j
    unfold trunc at ej
    rw [if_pos hj, if_pos hj] at ej
    rw [← act_agree (isWord_power hu k) (trunc_agree M.n g) j hj]
    exact ej
theorem exists_least {P : Nat → Prop} : ∀ (k : Nat), P k → ∃ m, P m ∧ ∀ j, P j → m ≤ j := by
  intro k
  induction k using Nat.strongRecOn with
  | _ k ih =>
    intro hk
    by_cases q : ∃ j, P j ∧ j < k
    · obtain ⟨j, hj, l⟩ := q; exact ih j l hj
    · exact ⟨k, hk, fun j hj => Nat.not_lt.1 fun l => q ⟨j, hj, l⟩⟩
theorem order60 {M : Mirrors} (G : Good M) {u : Word} (hu : IsWord M u) {k : Nat} (h0 : 0 < k) (hk : Eqv M (power u k) []) :
    ∃ N, 0 < N ∧ N ≤ 60 ∧ Eqv M (power u N) [] ∧ ∀ j, 0 < j → j < N → ¬ Eqv M (power u j) [] := by
  obtain ⟨N, ⟨n0, hN⟩, least⟩ := exists_least (P := fun k => 0 < k ∧ Eqv M (power u k) []) k ⟨h0, hk⟩
  have min : ∀ j, 0 < j → j < N → ¬ Eqv M (power u j) [] := fun j j0 jN e => by
    have := least j ⟨j0, e⟩; omega
  have o : Tor.Ord (opA M u) M.n N := by
    refine ⟨opA_dom M u, n0, (power_fix hu N).1 hN, fun j j0 jN => ?_⟩
    refine Classical.byContradiction fun no => min j j0 jN ((power_fix hu j).2 fun x hx => Classical.byContradiction fun ne => no ⟨x, hx, ne⟩)
  exact ⟨N, n0, o.le60 G.2.1, hN, min⟩
theorem orderOf_whole {M : Mirrors} (G : Good M) {u : Word} (hu : IsWord M u) :
    (orderOf M u = 0 ∧ ∀ j, 0 < j → ¬ Eqv M (power u j) []) ∨
    (∃ r, orderOf M u = r ∧ 0 < r ∧ r ≤ 60 ∧ Eqv M (power u r) [] ∧ ∀ j, 0 < j → j < r → ¬ Eqv M (power u j) []) := by
  rcases orderOf_ok (M := M) hu with ⟨e, h⟩ | ⟨r, e, r0, _, hr, h⟩
  · refine Or.inl ⟨e, fun j j0 q => ?_⟩
    obtain ⟨N, n0, n60, hN, _⟩ := order60 G hu j0 q
    exact h N n0 (by omega) hN
  · refine Or.inr ⟨r, e, r0, ?_, hr, h⟩
    obtain ⟨N, n0, n60, hN, _⟩ := order60 G hu r0 hr
    refine Nat.not_lt.1 fun lt => h N n0 (by omega) hN
end Cox
end
section
set_option Elab.async false
namespace Tor
noncomputable def S : Nat → (Nat → Int) → Int
  | 0, _ => 0
  | k + 1, f => S k f + f k
theorem S_congr {f g : Nat → Int} : ∀ n, (∀ i, i < n → f i = g i) → S n f = S n g
  | 0, _ => rfl
  | k + 1, h => by
    show S k f + f k = S k g + g k
    rw [S_congr k (fun i hi => h i (by omega)), h k (by omega)]
theorem S_add (f g : Nat → Int) : ∀ n, S n (fun i => f i + g i) = S n f + S n g
  | 0 => rfl
  | k + 1 => by
    show S k (fun i => f i + g i) + (f k + g k) = (S k f + f k) + (S k g + g k)
    rw [S_add f g k]; omega
theorem S_mul (c : Int) (f : Nat → Int) : ∀ n, S n (fun i => c * f i) = c * S n f
  | 0 => by show (0 : Int) = c * 0; rw [Int.mul_zero]
  | k + 1 => by
    show S k (fun i => c * f i) + c * f k = c * (S k f + f k)
    rw [S_mul c f k, Int.mul_add]
theorem S_zero : ∀ n, S n (fun _ => 0) = 0
  | 0 => rfl
  | k + 1 => by show S k (fun _ => 0) + 0 = 0; rw [S_zero k]; rfl
theorem S_swap (f : Nat → Nat → Int) (n : Nat) : ∀ m, S m (fun i => S n (f i)) = S n (fun j => S m fun i => f i j)
  | 0 => by show 0 = S n (fun _ => 0); rw [S_zero]
  | k + 1 => by
    show S k (fun i => S n (f i)) + S n (f k) = S n (fun j => S k (fun i => f i j) + f k j)
    rw [S_swap f n k, S_add]
theorem S_nonneg {f : Nat → Int} : ∀ n, (∀ i, i < n → 0 ≤ f i) → 0 ≤ S n f
  | 0, _ => Int.le_refl _
  | k + 1, h => Int.add_nonneg (S_nonneg k fun i hi => h i (by omega)) (h k (by omega))
theorem S_term {f : Nat → Int} : ∀ n, (∀ i, i < n → 0 ≤ f i) → ∀ j, j < n → f j ≤ S n f
  | 0, _, j, hj => by omega
  | k + 1, h, j, hj => by
    show f j ≤ S k f + f k
    have a := S_nonneg k fun i hi => h i (by omega)
    have b := h k (by omega)
    by_cases q : j = k
    · subst q; omega
    · have := S_term k (fun i hi => h i (by omega)) j (by omega)
      omega
theorem S_const (c : Int) : ∀ n : Nat, S n (fun _ => c) = (n : Int) * c
  | 0 => by show (0 : Int) = _; simp
  | k + 1 => by
    show S k (fun _ => c) + c = _
    rw [S_const c k]; push_cast; rw [Int.add_mul]; omega
theorem S_shift (f : Nat → Int) : ∀ n, S n (fun i => f (i + 1)) + f 0 = S n f + f n
  | 0 => by show 0 + f 0 = 0 + f 0; rfl
  | k + 1 => by
    show S k (fun i => f (i + 1)) + f (k + 1) + f 0 = S k f + f k + f (k + 1)
    have := S_shift f k; omega
noncomputable def un (i : Nat) : V := fun j => if j = i then 1 else 0
theorem un_sup {n i : Nat} (h : i < n) : Sup n (un i) := fun j hj => by unfold un; rw [if_neg (by omega)]
def LinF (φ : V → Int) : Prop := ∀ a b x y, φ (lc a x b y) = a * φ x + b * φ y
theorem LinF.zero0 {φ : V → Int} (h : LinF φ) : φ zero = 0 := by
  have := h 0 0 zero zero
  rw [← zero_lc zero] at this
  simpa using this
noncomputable def cut (k : Nat) (x : V) : V := fun j => if j < k then x j else 0
theorem cut_succ (k : Nat) (x : V) : cut (k + 1) x = lc 1 (cut k x) (x k) (un k) := by
  funext j
  show (if j < k + 1 then x j else 0) = 1 * (if j < k then x j else 0) + x k * (if j = k then 1 else 0)
  by_cases h1 : j < k
  · rw [if_pos (by omega), if_pos h1, if_neg (by omega)]; simp
  · by_cases h2 : j = k
    · subst h2; simp
    · rw [if_neg (by omega), if_neg h1, if_neg h2]; simp
theorem cut_sup {n : Nat} {x : V} (h : Sup n x) : cut n x = x := by
  funext j; unfold cut
  by_cases q : j < n
  · rw [if_pos q]
  · rw [if_neg q, h j (by omega)]
theorem LinF.expand {φ : V → Int} (h : LinF φ) {n : Nat} {x : V} (hx : Sup n x) : φ x = S n (fun j => x j * φ (un j)) := by
  have : ∀ k, φ (cut k x) = S k (fun j => x j * φ (un j)) := by
    intro k
    induction k with
    | zero =>
      have e : cut 0 x = zero := by funext j; unfold cut zero; rw [if_neg (by omega)]
      rw [e, h.zero0]; rfl
    | succ k ih =>
      rw [cut_succ, h, ih]
      show _ = S k (fun j => x j * φ (un j)) + x k * φ (un k)
      omega
  rw [← this n, cut_sup hx]
theorem LinF.sum {φ : V → Int} (h : LinF φ) (c : Nat → Int) (f : Nat → V) : ∀ n, φ (sumV n fun i => sm (c i) (f i)) = S n (fun i => c i * φ (f i))
  | 0 => h.zero0
  | k + 1 => by
    show φ (lc 1 (sumV k fun i => sm (c i) (f i)) 1 (sm (c k) (f k))) = S k (fun i => c i * φ (f i)) + c k * φ (f k)
    rw [h, h.sum c f k, sm_lc, h]; omega
theorem sup_sum {n : Nat} (c : Nat → Int) (f : Nat → V) : ∀ m, (∀ i, i < m → Sup n (f i)) → Sup n (sumV m fun i => sm (c i) (f i))
  | 0, _ => fun _ _ => rfl
  | k + 1, h => fun j hj => by
    show 1 * sumV k (fun i => sm (c i) (f i)) j + 1 * (c k * f k j) = 0
    rw [sup_sum c f k (fun i hi => h i (by omega)) j hj, h k (by omega) j hj]; simp
section
variable {A : V → V} {n N : Nat}
noncomputable def Bf (A : V → V) (n N : Nat) (x y : V) : Int := S N fun k => S n fun l => pw A k x l * pw A k y l
theorem pw_lin (la : Lin A) (k : Nat) : Lin (pw A k) := ((Pol.self A).pw k).lin la
theorem Bf_symm (x y : V) : Bf A n N x y = Bf A n N y x := by
  unfold Bf
  exact S_congr _ fun k _ => S_congr _ fun l _ => Int.mul_comm _ _
theorem Bf_lin (la : Lin A) (y : V) : LinF (fun x => Bf A n N x y) := by
  intro a b x x'
  show Bf A n N (lc a x b x') y = a * Bf A n N x y + b * Bf A n N x' y
  unfold Bf
  rw [← S_mul, ← S_mul, ← S_add]
  refine S_congr _ fun k _ => ?_
  rw [← S_mul, ← S_mul, ← S_add]
  refine S_congr _ fun l _ => ?_
  rw [pw_lin la k]
  show (a * pw A k x l + b * pw A k x' l) * pw A k y l = _
  rw [Int.add_mul, Int.mul_assoc, Int.mul_assoc]
theorem Bf_lin2 (la : Lin A) (x : V) : LinF (fun y => Bf A n N x y) := by
  intro a b y y'
  show Bf A n N x (lc a y b y') = a * Bf A n N x y + b * Bf A n N x y'
  rw [Bf_symm x, Bf_symm x, Bf_symm x]
  exact Bf_lin la x a b y y'
theorem sq_nonneg (x : Int) : 0 ≤ x * x := by
  rcases Int.le_total (0 : Int) x with h | h
  · exact Int.mul_nonneg h h
  · have := Int.mul_nonneg (show 0 ≤ -x by omega) (show 0 ≤ -x by omega)
    rwa [Int.neg_mul_neg] at this
theorem Bf_nonneg (x : V) : 0 ≤ Bf A n N x x := S_nonneg _ fun k _ => S_nonneg _ fun l _ => sq_nonneg _
theorem Bf_pos (N0 : 0 < N) {x : V} (hx : Sup n x) (h : Bf A n N x x = 0) : x = zero := by
  funext l
  show x l = 0
  by_cases q : l < n
  · have h1 := S_term N (f := fun k => S n fun l => pw A k x l * pw A k x l) (fun k _ => S_nonneg _ fun l _ => sq_nonneg _) 0 N0
    have h2 := S_term n (f := fun l => x l * x l) (fun l _ => sq_nonneg _) l q
    have h3 : S n (fun l => x l * x l) ≤ 0 := by
      unfold Bf at h
      rw [h] at h1; exact h1
    have h4 : x l * x l = 0 := by
      have := sq_nonneg (x l)
      have h2 : x l * x l ≤ S n (fun l => x l * x l) := h2
      omega
    rcases Int.mul_eq_zero.1 h4 with z | z <;> exact z
  · exact hx l (by omega)
theorem Bf_inv (hN : ∀ x, Sup n x → pw A N x = x) {x y : V} (hx : Sup n x) (hy : Sup n y) : Bf A n N (A x) (A y) = Bf A n N x y := by
  unfold Bf
  have := S_shift (fun k => S n fun l => pw A k x l * pw A k y l) N
  have e : S N (fun k => S n fun l => pw A k (A x) l * pw A k (A y) l) = S N (fun i => S n fun l => pw A (i + 1) x l * pw A (i + 1) y l) :=
    S_congr _ fun k _ => S_congr _ fun l _ => by rw [pw_succ', pw_succ']
  have e0 : (S n fun l => pw A 0 x l * pw A 0 y l) = S n fun l => pw A N x l * pw A N y l := by rw [hN x hx, hN y hy]; rfl
  rw [e]; omega
theorem comb_range (φ : V → Int) (h : LinF φ) (F : Nat → V) : ∀ (n : Nat) (c : List Int), c.length = n → φ (comb c ((List.range n).map F)) = S n (fun j => c.getD j 0 * φ (F j))
  | 0, c, hc => by
    have : c = [] := List.length_eq_zero_iff.1 hc
    subst this
    exact h.zero0
  | n + 1, c, hc => by
    have ne : c ≠ [] := fun e => by rw [e] at hc; simp at hc
    obtain ⟨c1, x, rfl⟩ : ∃ c1 x, c = c1 ++ [x] := ⟨c.dropLast, c.getLast ne, (List.dropLast_concat_getLast ne).symm⟩
    have l1 : c1.length = n := by simpa using hc
    rw [List.range_succ, List.map_append, comb_append _ _ _ _ (by simp [l1]), h, comb_range φ h F n c1 l1]
    have e1 : φ (comb [x] (List.map F [n])) = x * φ (F n) := by
      show φ (lc x (F n) 1 zero) = _
      rw [h, h.zero0]; omega
    rw [e1]
    show _ = S n (fun j => (c1 ++ [x]).getD j 0 * φ (F j)) + (c1 ++ [x]).getD n 0 * φ (F n)
    have e2 : S n (fun j => c1.getD j 0 * φ (F j)) = S n (fun j => (c1 ++ [x]).getD j 0 * φ (F j)) :=
      S_congr n fun j hj => by rw [show (c1 ++ [x]).getD j 0 = c1.getD j 0 by simp [List.getD_eq_getElem?_getD, List.getElem?_append_left (show j < c1.length by omega)]]
    have e3 : (c1 ++ [x]).getD n 0 = x := by
      simp [List.getD_eq_getElem?_getD, ← l1]
    rw [e2, e3]; omega
theorem ev_lin (l : Nat) : LinF (fun x => x l) := fun _ _ _ _ => rfl
theorem dual1 (dm : Dom A n) (N0 : 0 < N) {i : Nat} (hi : i < n) : ∃ (d : Int) (f : V), 0 < d ∧ Sup n f ∧ ∀ j, j < n → Bf A n N f (un j) = d * un i j := by
  let W : Nat → V := fun j => cut n (fun m => Bf A n N (un j) (un m))
  obtain ⟨c, lc0, nz, cz⟩ := depend n ((List.range n).map W ++ [un i]) (by
    intro x hx
    rcases List.mem_append.1 hx with h | h
    · obtain ⟨j, _, rfl⟩ := List.mem_map.1 h
      intro m hm; show cut n _ m = 0; unfold cut; rw [if_neg (by omega)]
    · rw [List.mem_singleton.1 h]; exact un_sup hi) (by simp)
  have lc1 : c.length = n + 1 := by simpa using lc0
  have ne : c ≠ [] := fun e => by rw [e] at lc1; simp at lc1
  obtain ⟨c1, c2, rfl⟩ : ∃ c1 x, c = c1 ++ [x] := ⟨c.dropLast, c.getLast ne, (List.dropLast_concat_getLast ne).symm⟩
  have l1 : c1.length = n := by simpa using lc1
  rw [comb_append _ _ _ _ (by simp [l1])] at cz
  let x : V := comb c1 ((List.range n).map un)
  have sx : Sup n x := fun j hj => comb_at _ _ j fun y hy => by
    obtain ⟨m, hm, rfl⟩ := List.mem_map.1 hy
    exact un_sup (List.mem_range.1 hm) j hj
  have bx : ∀ j, j < n → Bf A n N x (un j) = - c2 * un i j := by
    intro j hj
    have h1 := comb_range _ (Bf_lin (n := n) (N := N) dm.la (un j)) un n c1 l1
    have h2 := comb_range _ (ev_lin j) W n c1 l1
    have h3 : S n (fun m => c1.getD m 0 * Bf A n N (un m) (un j)) = S n (fun m => c1.getD m 0 * W m j) :=
      S_congr n fun m _ => by
        show _ = c1.getD m 0 * cut n (fun m' => Bf A n N (un m) (un m')) j
        unfold cut; rw [if_pos hj]
    have h4 := congrFun cz j
    have h5 : comb [c2] [un i] j = c2 * un i j := by
      show lc c2 (un i) 1 zero j = _
      show c2 * un i j + 1 * 0 = _
      omega
    have h4 : 1 * comb c1 ((List.range n).map W) j + 1 * comb [c2] [un i] j = 0 := h4
    rw [h5] at h4
    show Bf A n N (comb c1 ((List.range n).map un)) (un j) = _
    rw [Int.neg_mul]
    omega
  have c20 : c2 ≠ 0 := by
    intro z
    subst z
    have b0 : Bf A n N x x = 0 := by
      have := (Bf_lin2 (n := n) (N := N) dm.la x).expand sx
      rw [this, ← S_zero n]
      exact S_congr n fun j hj => by rw [bx j hj]; simp
    have x0 := Bf_pos N0 sx b0
    apply nz
    intro a ha
    rcases List.mem_append.1 ha with h | h
    · obtain ⟨m, hm, rfl⟩ := List.getElem_of_mem h
      have h2 := comb_range _ (ev_lin m) un n c1 l1
      have h3 : x m = 0 := by rw [x0]; rfl
      have h3 : comb c1 ((List.range n).map un) m = 0 := h3
      rw [h3] at h2
      have h4 : S n (fun j => c1.getD j 0 * un j m) = c1.getD m 0 := by
        have h5 : ∀ k, S k (fun j => c1.getD j 0 * un j m) = if m < k then c1.getD m 0 else 0 := by
          intro k
          induction k with
          | zero => rfl
          | succ k ih =>
            show S k (fun j => c1.getD j 0 * un j m) + c1.getD k 0 * un k m = _
            rw [ih]
            unfold un
            by_cases q : m = k
            · subst q; simp
            · rw [if_neg q]
              by_cases q2 : m < k
              · rw [if_pos q2, if_pos (by omega)]; omega
              · rw [if_neg q2, if_neg (by omega)]; omega
        rw [h5 n, if_pos (by omega)]
      rw [h4] at h2
      rw [show c1.getD m 0 = c1[m] by simp [List.getD_eq_getElem?_getD, List.getElem?_eq_getElem hm]] at h2
      exact h2.symm
    · exact List.mem_singleton.1 h
  by_cases q : c2 < 0
  · exact ⟨-c2, x, by omega, sx, bx⟩
  · refine ⟨c2, sm (-1) x, by omega, fun j hj => ?_, fun j hj => ?_⟩
    · show -1 * x j = 0
      rw [sx j hj]; rfl
    · rw [sm_lc]
      have := Bf_lin (n := n) (N := N) dm.la (un j) (-1) 0 x x
      simp only [] at this
      rw [this, bx j hj, Int.neg_mul, Int.neg_mul]; omega
theorem duals (dm : Dom A n) (N0 : 0 < N) : ∀ m, m ≤ n → ∃ (d : Int) (f : Nat → V), 0 < d ∧ ∀ i, i < m → Sup n (f i) ∧ ∀ j, j < n → Bf A n N (f i) (un j) = d * un i j
  | 0, _ => ⟨1, fun _ => zero, by omega, fun i hi => by omega⟩
  | m + 1, h => by
    obtain ⟨d, f, d0, hf⟩ := duals dm N0 m (by omega)
    obtain ⟨d1, f1, d10, s1, hf1⟩ := dual1 (N := N) dm N0 (show m < n by omega)
    have sc : ∀ (c : Int) (x y : V), Bf A n N (sm c x) y = c * Bf A n N x y := fun c x y => by
      rw [sm_lc]
      have := Bf_lin (n := n) (N := N) dm.la y c 0 x x
      simp only [] at this
      rw [this]; omega
    refine ⟨d * d1, fun i => if i = m then sm d f1 else sm d1 (f i), Int.mul_pos d0 d10, fun i hi => ?_⟩
    by_cases q : i = m
    · subst q
      simp only [if_true]
      refine ⟨fun j hj => ?_, fun j hj => ?_⟩
      · show d * f1 j = 0
        rw [s1 j hj]; simp
      · rw [sc, hf1 j hj, Int.mul_assoc]
    · obtain ⟨a, b⟩ := hf i (by omega)
      simp only [if_neg q]
      refine ⟨fun j hj => ?_, fun j hj => ?_⟩
      · show d1 * f i j = 0
        rw [a j hj]; simp
      · rw [sc, b j hj, ← Int.mul_assoc, Int.mul_comm d1 d]
theorem trace_eps (dm : Dom A n) (N0 : 0 < N) (hN : ∀ x, Sup n x → pw A N x = x) {ε : Int} (he : ε * ε = 1) : ε * S n (fun i => A (un i) i) ≤ n := by
  obtain ⟨d, f, d0, hf⟩ := duals dm N0 n (Nat.le_refl _)
  have sf : ∀ i, i < n → Sup n (f i) := fun i hi => (hf i hi).1
  have bd : ∀ i, i < n → ∀ x, Sup n x → Bf A n N (f i) x = d * x i := by
    intro i hi x hx
    rw [(Bf_lin2 (n := n) (N := N) dm.la (f i)).expand hx, (ev_lin i).expand hx, ← S_mul]
    refine S_congr n fun j hj => ?_
    rw [(hf i hi).2 j hj]
    have : un i j = un j i := by
      unfold un
      by_cases q : j = i
      · rw [q]
      · rw [if_neg q, if_neg (fun z => q z.symm)]
    rw [this, Int.mul_left_comm]
  have fs : ∀ i j, i < n → j < n → f i j = f j i := by
    intro i j hi hj
    have h1 := bd i hi (f j) (sf j hj)
    have h2 := bd j hj (f i) (sf i hi)
    rw [Bf_symm] at h1
    have h3 : d * (f j i) = d * (f i j) := h1.symm.trans h2
    exact (Int.eq_of_mul_eq_mul_left (by omega) h3).symm
  have sA : ∀ x, Sup n x → Sup n (A x) := fun x hx => dm.sup x hx
  let P : V → V := fun x => lc 1 x (-ε) (A x)
  have lP : Lin P := by
    intro a b x y
    show lc 1 (lc a x b y) (-ε) (A (lc a x b y)) = _
    rw [dm.la]
    funext j
    show 1 * (a * x j + b * y j) + -ε * (a * A x j + b * A y j) = a * (1 * x j + -ε * A x j) + b * (1 * y j + -ε * A y j)
    rw [Int.mul_add, Int.mul_add, Int.mul_add, Int.mul_add, Int.one_mul, Int.one_mul, Int.one_mul, Int.one_mul, Int.mul_left_comm (-ε) a, Int.mul_left_comm (-ε) b]
    omega
  have two : ∀ i, i < n → Bf A n N (P (f i)) (P (un i)) = 2 * d - ε * (Bf A n N (A (f i)) (un i) + Bf A n N (f i) (A (un i))) := by
    intro i hi
    have h1 := Bf_lin (n := n) (N := N) dm.la (P (un i)) 1 (-ε) (f i) (A (f i))
    have h2 := Bf_lin2 (n := n) (N := N) dm.la (f i) 1 (-ε) (un i) (A (un i))
    have h3 := Bf_lin2 (n := n) (N := N) dm.la (A (f i)) 1 (-ε) (un i) (A (un i))
    have h4 := Bf_inv (N := N) hN (sf i hi) (un_sup hi)
    have h5 : Bf A n N (f i) (un i) = d := by rw [bd i hi _ (un_sup hi)]; unfold un; simp
    simp only [] at h1 h2 h3
    show Bf A n N (lc 1 (f i) (-ε) (A (f i))) (P (un i)) = _
    rw [h1]
    show 1 * Bf A n N (f i) (lc 1 (un i) (-ε) (A (un i))) + -ε * Bf A n N (A (f i)) (lc 1 (un i) (-ε) (A (un i))) = _
    rw [h2, h3, h4, h5, Int.mul_add (-ε), ← Int.mul_assoc (-ε) (-ε), Int.neg_mul_neg, he]
    simp only [Int.neg_mul, Int.mul_add, Int.one_mul]
    omega
  have tr1 : S n (fun i => Bf A n N (f i) (A (un i))) = d * S n (fun i => A (un i) i) := by
    rw [← S_mul]
    exact S_congr n fun i hi => bd i hi _ (sA _ (un_sup hi))
  have tr2 : S n (fun i => Bf A n N (A (f i)) (un i)) = S n (fun i => Bf A n N (f i) (A (un i))) := by
    have e1 : S n (fun i => Bf A n N (A (f i)) (un i)) = S n (fun i => S n fun j => f i j * Bf A n N (A (un j)) (un i)) :=
      S_congr n fun i hi => by
        have l : LinF (fun x => Bf A n N (A x) (un i)) := fun a b x y => by
          show Bf A n N (A (lc a x b y)) (un i) = _
          rw [dm.la]; exact Bf_lin dm.la (un i) a b (A x) (A y)
        exact l.expand (sf i hi)
    have e2 : S n (fun i => Bf A n N (f i) (A (un i))) = S n (fun j => S n fun i => f i j * Bf A n N (A (un j)) (un i)) :=
      S_congr n fun j hj => by
        show Bf A n N (f j) (A (un j)) = _
        rw [Bf_symm, (Bf_lin2 (n := n) (N := N) dm.la (A (un j))).expand (sf j hj)]
        exact S_congr n fun i hi => by rw [fs j i hj hi]
    rw [e1, e2, S_swap]
  have nn : 0 ≤ S n (fun i => Bf A n N (P (f i)) (P (un i))) := by
    have e : S n (fun i => Bf A n N (P (f i)) (P (un i))) = S N fun k => S n fun l => S n fun i => pw A k (P (f i)) l * pw A k (P (un i)) l := by
      unfold Bf
      rw [S_swap]
      refine S_congr N fun k _ => ?_
      rw [S_swap]
    rw [e]
    refine S_nonneg _ fun k _ => S_nonneg _ fun l _ => ?_
    have lp : LinF (fun x => pw A k (P x) l) := fun a b x y => by
      show pw A k (P (lc a x b y)) l = _
      rw [lP, pw_lin dm.la k]; rfl
    let c : Nat → Int := fun j => pw A k (P (un j)) l
    let y : V := sumV n fun i => sm (c i) (f i)
    have sy : Sup n y := sup_sum c f n sf
    have b1 : Bf A n N y y = d * S n (fun i => c i * y i) := by
      have := (Bf_lin (n := n) (N := N) dm.la y).sum c f n
      rw [show Bf A n N y y = S n (fun i => c i * Bf A n N (f i) y) from this, ← S_mul]
      exact S_congr n fun i hi => by rw [bd i hi y sy, Int.mul_left_comm]
    have b2 : S n (fun i => pw A k (P (f i)) l * pw A k (P (un i)) l) = S n (fun i => c i * y i) :=
      S_congr n fun i hi => by
        have h1 := lp.expand (sf i hi)
        have h2 := (ev_lin i).sum c f n
        have h3 : y i = S n (fun j => c j * f j i) := h2
        rw [h3]
        rw [show pw A k (P (f i)) l = _ from h1, Int.mul_comm]
        congr 1
        exact S_congr n fun j hj => by rw [fs i j hi hj, Int.mul_comm]
    rw [b2]
    have b3 := Bf_nonneg (A := A) (n := n) (N := N) y
    rw [b1] at b3
    exact Int.nonneg_of_mul_nonneg_right b3 d0
  rw [S_congr n two] at nn
  have e3 : S n (fun i => 2 * d - ε * (Bf A n N (A (f i)) (un i) + Bf A n N (f i) (A (un i)))) = (n : Int) * (2 * d) + (-ε) * (S n (fun i => Bf A n N (A (f i)) (un i)) + S n (fun i => Bf A n N (f i) (A (un i)))) := by
    rw [← S_const, ← S_add, ← S_mul, ← S_add]
    exact S_congr n fun i _ => by rw [Int.neg_mul]; omega
  rw [e3, tr2, tr1] at nn
  generalize S n (fun i => A (un i) i) = t at nn ⊢
  have e4 : (n : Int) * (2 * d) + -ε * (d * t + d * t) = (2 * d) * ((n : Int) - ε * t) := by
    rw [Int.mul_sub, Int.mul_comm (n : Int), ← Int.two_mul, ← Int.mul_assoc 2 d t, Int.neg_mul, ← Int.mul_assoc ε, Int.mul_comm ε (2 * d), Int.mul_assoc (2 * d) ε t]
    omega
  rw [e4] at nn
  have := Int.nonneg_of_mul_nonneg_right nn (show (0 : Int) < 2 * d by omega)
  omega
theorem trace_le (dm : Dom A n) (N0 : 0 < N) (hN : ∀ x, Sup n x → pw A N x = x) : S n (fun i => A (un i) i) ≤ n ∧ -S n (fun i => A (un i) i) ≤ n := by
  have h1 := trace_eps (ε := 1) dm N0 hN rfl
  have h2 := trace_eps (ε := -1) dm N0 hN rfl
  constructor
  · simpa using h1
  · simpa using h2
end
end Tor
end
section
set_option Elab.async false
namespace Cox
open Si07 Mir
noncomputable def trace (M : Mirrors) (u : Word) : Nat → Int
  | 0 => 0
  | k + 1 => trace M u k + act M u (unit k) k
theorem trace_S (M : Mirrors) (u : Word) : ∀ k, k ≤ M.n → trace M u k = Tor.S k (fun i => opA M u (Tor.un i) i)
  | 0, _ => rfl
  | k + 1, h => by
    show trace M u k + act M u (unit k) k = Tor.S k (fun i => opA M u (Tor.un i) i) + opA M u (Tor.un k) k
    rw [trace_S M u k (by omega)]
    congr 1
    show _ = trunc M.n (act M u (Tor.un k)) k
    unfold trunc; rw [if_pos (by omega)]; rfl
theorem trace_never {M : Mirrors} {u : Word} (hu : IsWord M u) (h : (M.n : Int) < trace M u M.n ∨ trace M u M.n < -(M.n : Int)) : ∀ k, 0 < k → ¬ Eqv M (power u k) [] := by
  intro k k0 e
  have := Tor.trace_le (opA_dom M u) k0 ((power_fix hu k).1 e)
  rw [← trace_S M u M.n (Nat.le_refl _)] at this
  omega
theorem allDown_one' {M : Mirrors} (G : Good M) {u : Word} (hu : IsWord M u) (a : AllDown M u) : Agree M.n (act M u one) (fun _ => -1) := by
  have uu : Eqv M (u ++ u) [] := eqv_nil_of_len (isWord_append.2 ⟨hu, hu⟩) (by have := allDown_len G hu a hu; omega)
  let d : Nat → Int := fun j => -1 * act M u one j + -1 * one j
  have neg : ∀ j, j < M.n → act M u one j < 0 := fun j hj => (down_height G hu hj).1 (a j hj)
  have dom : ∀ j, j < M.n → 0 ≤ d j := fun j hj => by
    have := neg j hj
    show 0 ≤ -1 * act M u one j + -1 * 1
    omega
  intro j hj
  have h1 := allDown_dom G hu a dom j hj
  have h2 : act M u d j = -1 * act M u (act M u one) j + -1 * act M u one j := congrFun (act_lin M u (-1) (-1) (act M u one) one) j
  have h3 : act M u (act M u one) j = 1 := by
    have := uu one j hj
    rw [act_append] at this; exact this
  have h4 := neg j hj
  rw [h2, h3] at h1
  show act M u one j = -1
  omega
theorem allDown_rev {M : Mirrors} (G : Good M) {u : Word} (hu : IsWord M u) (a : AllDown M u) : Agree M.n (act M u.reverse one) (fun _ => -1) := by
  have h := allDown_one' G hu a
  have uu : Eqv M (u ++ u) [] := eqv_nil_of_len (isWord_append.2 ⟨hu, hu⟩) (by have := allDown_len G hu a hu; omega)
  have e : Eqv M u.reverse u := by
    intro g
    have h1 := uu (act M u.reverse g)
    rw [act_append, act_forth] at h1
    exact h1.symm
  exact (e one).trans h
noncomputable def lowP (n : Nat) (g : Nat → Int) : Option Nat := (List.range n).find? fun i => decide (0 < g i)
theorem lowP_some {n : Nat} {g : Nat → Int} {i : Nat} (h : ∀ j, j < i → ¬ 0 < g j) (hi : i < n) (hg : 0 < g i) : lowP n g = some i :=
  find_range (fun j hj => decide_eq_false (h j hj)) hi (decide_eq_true hg)
theorem lowP_none {n : Nat} {g : Nat → Int} (h : ∀ j, j < n → ¬ 0 < g j) : lowP n g = none :=
  find_range_none fun j hj => decide_eq_false (h j hj)
theorem lowP_is {n : Nat} {g : Nat → Int} {i : Nat} (h : lowP n g = some i) : i < n ∧ 0 < g i := by
  unfold lowP at h
  exact ⟨List.mem_range.1 (List.mem_of_find?_eq_some h), of_decide_eq_true (p := 0 < g i) (List.find?_some (p := fun i => decide (0 < g i)) h)⟩
theorem lowP_no {n : Nat} {g : Nat → Int} (h : lowP n g = none) : ∀ j, j < n → ¬ 0 < g j := by
  unfold lowP at h
  intro j hj
  have := List.find?_eq_none.1 h j (List.mem_range.2 hj)
  intro q; exact this (decide_eq_true q)
theorem lowP_low (n : Nat) (g : Nat → Int) : lowP n g = low n (fun j => - g j) := by
  unfold lowP low
  congr 1
  funext i
  show decide (0 < g i) = decide (- g i < 0)
  by_cases q : 0 < g i
  · rw [decide_eq_true q, decide_eq_true (by omega)]
  · rw [decide_eq_false q, decide_eq_false (by omega)]
theorem take_congr {M : Mirrors} : ∀ (f : Nat) {g h : Nat → Int}, Agree M.n g h → take M f g = take M f h
  | 0, _, _, _ => rfl
  | f + 1, g, h, a => by
    unfold take
    rw [low_congr a]
    cases e : low M.n h with
    | none => rfl
    | some i => dsimp only; rw [take_congr f (rf_agree (low_is e).1 a)]
theorem leastOf_down {M : Mirrors} (G : Good M) {u : Word} (hu : IsWord M u) (a : AllDown M u) : leastOf M u = take M 300 (fun j => - one j) := by
  rw [leastOf_take G hu]
  exact take_congr 300 (allDown_rev G hu a)
theorem rf_neg (M : Mirrors) (i : Nat) (g : Nat → Int) : rf M i (fun j => - g j) = fun j => - rf M i g j := by
  funext j
  show - g j - cartan M i j * - g i = - (g j - cartan M i j * g i)
  rw [Int.mul_neg]; omega
theorem red_tail {M : Mirrors} {v x : Word} (hv : IsWord M v) (r : Red M (v ++ x)) : Red M x := by
  intro y wy e
  have := r (v ++ y) (isWord_append.2 ⟨hv, wy⟩) (e.left v)
  simp only [List.length_append] at this
  omega
theorem good_two {M : Mirrors} (G : Good M) {s t : Nat} (hs : s < M.n) (ht : t < M.n) (ne : s ≠ t) (h0 : M.m s t ≠ 0) : 2 ≤ M.m s t ∧ M.m s t ≤ 6 := by
  rcases good_cases G hs ht ne with h | h | h | h | h <;> omega
theorem tail2_long {M : Mirrors} (G : Good M) {s t : Nat} (hs : s < M.n) (ht : t < M.n) (ne : s ≠ t) (h0 : M.m s t ≠ 0) : ¬ Red M (tail2 s t (M.m s t + 1)) := by
  intro r
  obtain ⟨m2, _⟩ := good_two G hs ht ne h0
  obtain ⟨k, hk⟩ : ∃ k, M.m s t = k + 1 := ⟨M.m s t - 1, by omega⟩
  have b := tail2_braid G hs ht ne h0
  rw [hk] at b r
  have e : Eqv M (tail2 t s k) (tail2 s t (k + 1 + 1)) := by
    have h1 : Eqv M (tail2 s t (k + 1) ++ [t]) (tail2 t s (k + 1) ++ [t]) := b.right (isWord_single.2 ht)
    have h2 : Eqv M (tail2 s t (k + 1) ++ [t]) (tail2 t s k) := by
      show Eqv M (tail2 t s k ++ [t] ++ [t]) _
      exact eqv_snoc2 M _ _
    exact h2.symm.trans h1
  have := r (tail2 t s k) (isWord_two ht hs (tail2_mem k t s)) e
  rw [tail2_length, tail2_length] at this
  omega
theorem two_short {M : Mirrors} (G : Good M) {s t : Nat} (hs : s < M.n) (ht : t < M.n) (ne : s ≠ t) (h0 : M.m s t ≠ 0) {x : Word} (mx : ∀ c ∈ x, c = s ∨ c = t) (r : Red M x) : x.length ≤ 6 := by
  have wx := isWord_two hs ht mx
  obtain ⟨_, m6⟩ := good_two G hs ht ne h0
  refine Nat.not_lt.1 fun l => ?_
  rcases two_letters s t x.length x rfl mx with e | e | ⟨a, c, b, e⟩
  · obtain ⟨a, ea, ma, la⟩ := tail2_split (M.m s t + 1) s t x.length (by omega)
    rw [e, ea] at r
    exact tail2_long G hs ht ne h0 (red_tail (isWord_two hs ht ma) r)
  · have sy := good_symm G hs ht
    obtain ⟨a, ea, ma, la⟩ := tail2_split (M.m t s + 1) t s x.length (by omega)
    rw [e, ea] at r
    exact tail2_long G ht hs (fun h => ne h.symm) (by omega) (red_tail (isWord_two ht hs ma) r)
  · rw [e] at r wx
    obtain ⟨p, q⟩ := isWord_append.1 wx
    have := r (a ++ b) (isWord_append.2 ⟨p, (isWord_cons.1 (isWord_cons.1 q).2).2⟩) (eqv_double M a b c).symm
    simp only [List.length_append, List.length_cons] at this
    omega
theorem up_up {M : Mirrors} (G : Good M) {v : Word} {s t : Nat} (wv : IsWord M v) (rv : Red M v) (hs : s < M.n) (ht : t < M.n) (ne : s ≠ t) (us : ¬ Down M v s) (ut : ¬ Down M v t) : ¬ Down M (v ++ [s]) t := by
  intro dt
  have ds : Down M (v ++ [s]) s := (down_snoc G wv hs).2 us
  have ws := isWord_snoc wv hs
  have lv := (red_len wv).1 rv
  have rs : Red M (v ++ [s]) := (red_len ws).2 (by rw [len_up G wv hs us, lv]; simp)
  obtain ⟨m0, z, wz, ez, lz⟩ := two_down G ws rs ht hs (fun h => ne h.symm) dt ds
  obtain ⟨m2, _⟩ := good_two G ht hs (fun h => ne h.symm) m0
  obtain ⟨k, hk⟩ : ∃ k, M.m t s = k + 1 + 1 := ⟨M.m t s - 2, by omega⟩
  rw [hk] at ez lz
  have e1 : Eqv M (z ++ tail2 t s k ++ [t]) v := by
    have : Eqv M (z ++ tail2 t s k ++ [t] ++ [s]) (v ++ [s]) := by
      have e : z ++ tail2 t s (k + 1 + 1) = z ++ tail2 t s k ++ [t] ++ [s] := by
        show z ++ (tail2 t s k ++ [t] ++ [s]) = _
        simp
      rw [← e]; exact ez
    exact this.cancel_right (isWord_single.2 hs)
  have wzk : IsWord M (z ++ tail2 t s k) := isWord_append.2 ⟨wz, isWord_two ht hs (tail2_mem k t s)⟩
  apply ut
  unfold Down
  have e2 : Eqv M (z ++ tail2 t s k) (v ++ [t]) := by
    have := e1.right (isWord_single.2 ht)
    exact (eqv_snoc2 M _ _).symm.trans this
  have l1 := len_min (isWord_snoc wv ht) wzk e2
  rw [List.length_append, tail2_length] at l1
  simp only [List.length_append, List.length_cons, List.length_nil] at lz
  omega
theorem drop_up {M : Mirrors} {v : Word} {s : Nat} (wv : IsWord M v) (rv : Red M v) (hs : s < M.n) (us : ¬ Down M v s) (i : Nat) : ¬ Down M (v.drop i) s := by
  intro d
  apply us
  have sp : v.take i ++ v.drop i = v := List.take_append_drop i v
  have w2 : IsWord M (v.take i) ∧ IsWord M (v.drop i) := by rw [← sp] at wv; exact isWord_append.1 wv
  have rd : Red M (v.drop i) := by rw [← sp] at rv; exact red_tail w2.1 rv
  unfold Down at d ⊢
  rw [(red_len w2.2).1 rd] at d
  rw [(red_len wv).1 rv]
  obtain ⟨y, wy, ey, _, ly⟩ := len_ex (isWord_snoc w2.2 hs)
  have e : Eqv M (v.take i ++ y) (v ++ [s]) := by
    have := ey.left (v.take i)
    rw [← List.append_assoc, sp] at this
    exact this
  have l1 := len_min (isWord_snoc wv hs) (isWord_append.2 ⟨w2.1, wy⟩) e
  rw [List.length_append] at l1
  have l2 : v.length = (v.take i).length + (v.drop i).length := by rw [← List.length_append, sp]
  omega
theorem four_at {M : Mirrors} (G : Good M) {v : Word} {s t : Nat} (wv : IsWord M v) (rv : Red M v) (hs : s < M.n) (ht : t < M.n) (ne : s ≠ t) (us : ¬ Down M v s) (ut : ¬ Down M v t) {k : Nat} (k2 : 2 ≤ k) (kv : k ≤ v.length)
    {l : List Mat} (h : Holds M l (fun u => len M u = k)) : 4 ≤ l.length := by
  have part : ∀ j, j ≤ v.length → ∃ y, y.length = j ∧ IsWord M y ∧ Red M y ∧ ¬ Down M y s ∧ ¬ Down M y t := by
    intro j hj
    have sp : v.take (v.length - j) ++ v.drop (v.length - j) = v := List.take_append_drop _ v
    have w2 : IsWord M (v.take (v.length - j)) ∧ IsWord M (v.drop (v.length - j)) := by
      have := wv; rw [← sp] at this; exact isWord_append.1 this
    refine ⟨v.drop (v.length - j), by rw [List.length_drop]; omega, w2.2, ?_, drop_up wv rv hs us _, drop_up wv rv ht ut _⟩
    have := rv; rw [← sp] at this; exact red_tail w2.1 this
  obtain ⟨a, la, wa, ra, as, at_⟩ := part k kv
  obtain ⟨b, lb, wb, rb, bs, bt⟩ := part (k - 1) (by omega)
  obtain ⟨c, lc, wc, rc, cs, ct⟩ := part (k - 2) (by omega)
  have na := (red_len wa).1 ra
  have nb := (red_len wb).1 rb
  have nc := (red_len wc).1 rc
  have wbs := isWord_snoc wb hs
  have wbt := isWord_snoc wb ht
  have wcs := isWord_snoc wc hs
  have wct := isWord_snoc wcs ht
  have nbs := len_up G wb hs bs
  have nbt := len_up G wb ht bt
  have ncs := len_up G wc hs cs
  have cst := up_up G wc rc hs ht ne cs ct
  have nct := len_up G wcs ht cst
  have bst := up_up G wb rb hs ht ne bs bt
  have dbs : Down M (b ++ [s]) s := (down_snoc G wb hs).2 bs
  have dbt : Down M (b ++ [t]) t := (down_snoc G wb ht).2 bt
  have dct : Down M (c ++ [s] ++ [t]) t := (down_snoc G wcs ht).2 cst
  have dcs : Down M (c ++ [s]) s := (down_snoc G wc hs).2 cs
  have i1 := h.all a wa (by omega)
  have i2 := h.all (b ++ [s]) wbs (by omega)
  have i3 := h.all (b ++ [t]) wbt (by omega)
  have i4 := h.all (c ++ [s] ++ [t]) wct (by omega)
  have d12 : matOf M a ≠ matOf M (b ++ [s]) := fun e => as ((down_eqv wa wbs hs ((matOf_inj wa wbs).1 e)).2 dbs)
  have d13 : matOf M a ≠ matOf M (b ++ [t]) := fun e => at_ ((down_eqv wa wbt ht ((matOf_inj wa wbt).1 e)).2 dbt)
  have d14 : matOf M a ≠ matOf M (c ++ [s] ++ [t]) := fun e => at_ ((down_eqv wa wct ht ((matOf_inj wa wct).1 e)).2 dct)
  have d23 : matOf M (b ++ [s]) ≠ matOf M (b ++ [t]) := fun e => bst ((down_eqv wbs wbt ht ((matOf_inj wbs wbt).1 e)).2 dbt)
  have d24 : matOf M (b ++ [s]) ≠ matOf M (c ++ [s] ++ [t]) := fun e => bst ((down_eqv wbs wct ht ((matOf_inj wbs wct).1 e)).2 dct)
  have d34 : matOf M (b ++ [t]) ≠ matOf M (c ++ [s] ++ [t]) := fun e => by
    have e1 := ((matOf_inj wbt wct).1 e).cancel_right (isWord_single.2 ht)
    exact bs ((down_eqv wb wcs hs e1).2 dcs)
  have := card_le (R := fun (x y : Mat) => x = y) (fun x x' y p q => p.trans q.symm) [matOf M a, matOf M (b ++ [s]), matOf M (b ++ [t]), matOf M (c ++ [s] ++ [t])] l
    (by
      generalize matOf M (c ++ [s] ++ [t]) = m4 at *
      simp [d12, d13, d14, d23, d24, d34]) (by
      intro x hx
      simp only [List.mem_cons, List.not_mem_nil, or_false] at hx; rcases hx with rfl | rfl | rfl | rfl
      · exact ⟨_, i1, rfl⟩
      · exact ⟨_, i2, rfl⟩
      · exact ⟨_, i3, rfl⟩
      · exact ⟨_, i4, rfl⟩)
  exact this
theorem lastLevel_few {M : Mirrors} (G : Good M) {K : Nat} (four : ∀ j, 2 ≤ j → j < K → ∀ r, Holds M r (fun u => len M u = j) → 4 ≤ r.length) {y : Word} (wy : IsWord M y) (ly : K ≤ len M y + 1) :
    ∀ (f most k : Nat) (l : List Mat) (w : Mat), Holds M l (fun u => len M u = k) → lastLevel M f most l = some w → 4 * (K - max k 2) ≤ most + 4
  | 0, _, _, _, _, _, e => by simp [lastLevel] at e
  | f + 1, most, k, l, w, h, e => by
    unfold lastLevel at e
    split at e
    · cases e
    · next le =>
      dsimp only at e
      split at e
      · next nx =>
        obtain ⟨u, wu, ew, lu⟩ := h.some w (List.mem_of_mem_head? (by rw [e]; rfl))
        have ad : AllDown M u := fun s hs => Classical.byContradiction fun nd => by
          have := (nextLevel_holds G h).all (u ++ [s]) (isWord_snoc wu hs) (by rw [len_up G wu hs nd, lu])
          rw [nx] at this; cases this
        have := allDown_max G wu ad wy
        omega
      · have ih := lastLevel_few G four wy ly f _ (k + 1) _ w (nextLevel_holds G h) e
        by_cases q : 2 ≤ k ∧ k < K
        · have := four k q.1 q.2 l h
          omega
        · omega
theorem longest_120 {M : Mirrors} (G : Good M) {w : Word} (e : longestOf M = some w) {u : Word} (wu : IsWord M u) (au : AllDown M u) : len M u ≤ 120 := by
  obtain ⟨r, wr, er, rr, lr⟩ := len_ex wu
  by_cases n2 : 2 ≤ M.n
  · have h0 : (0 : Nat) < M.n := by omega
    have h1 : (1 : Nat) < M.n := by omega
    have m0 : M.m 0 1 ≠ 0 := fun z => rises_no G (rises_zero G h0 h1 z) wu au
    obtain ⟨v, x, wv, mx, ex, lx, rv, us, ut⟩ := two_end wr rr h0 h1
    have wx := isWord_two h0 h1 mx
    have rvx : Red M (v ++ x) := red_of_len (isWord_append.2 ⟨wv, wx⟩) rr ex.symm (by rw [List.length_append]; omega)
    have x6 := two_short G h0 h1 (by omega) m0 mx (red_tail wv rvx)
    unfold longestOf at e
    obtain ⟨z, ez, _⟩ := Option.map_eq_some_iff.1 e
    have := lastLevel_few G (K := v.length + 1) (fun j j2 jK l hl => four_at G wv rv h0 h1 (by omega) us ut j2 (by omega) hl) wv (by rw [(red_len wv).1 rv]; exact Nat.le_refl _) 200 MANY 0 _ z (level0_holds M) ez
    unfold MANY at this
    omega
  · have n1 : M.n = 1 := by have := G.1; omega
    rw [← lr]
    match r, wr, rr with
    | [], _, _ => simp
    | [a], _, _ => simp
    | a :: b :: c, wr, rr =>
      have ha := wr a (by simp)
      have hb := wr b (by simp)
      obtain rfl : a = b := by omega
      have := rr c (fun x hx => wr x (by simp [hx])) (eqv_double M [] c a).symm
      simp only [List.length_cons] at this; omega
end Cox
end
section
set_option Elab.async false
namespace Cox
open Si07 Mir
theorem natAbs_cartan (M : Mirrors) (i j : Nat) : (cartan M i j).natAbs ≤ 3 := by
  unfold cartan
  repeat' split
  all_goals decide
theorem rf_bound {M : Mirrors} {i : Nat} {g : Nat → Int} {B : Nat} (hi : i < M.n) (h : ∀ j, j < M.n → (g j).natAbs ≤ B) : ∀ j, j < M.n → (rf M i g j).natAbs ≤ 4 * B := by
  intro j hj
  unfold rf
  have h1 := h j hj
  have h2 := h i hi
  have h3 := natAbs_cartan M i j
  have h4 : (cartan M i j * g i).natAbs ≤ 3 * B := by
    rw [Int.natAbs_mul]; exact Nat.mul_le_mul h3 h2
  omega
theorem act_bound {M : Mirrors} : ∀ (u : Word) {g : Nat → Int} {B : Nat}, IsWord M u → (∀ j, j < M.n → (g j).natAbs ≤ B) → ∀ j, j < M.n → (act M u g j).natAbs ≤ 4 ^ u.length * B
  | [], g, B, _, h => fun j hj => by
    have := h j hj
    rw [act_nil]; simpa using this
  | i :: u, g, B, w, h => fun j hj => by
    obtain ⟨hi, wu⟩ := isWord_cons.1 w
    rw [act_cons]
    have := act_bound u wu (rf_bound hi h) j hj
    rw [List.length_cons, Nat.pow_succ, Nat.mul_assoc]; exact this
theorem unit_bound (i j : Nat) : (unit i j).natAbs ≤ 1 := by
  unfold unit; split <;> decide
theorem one_bound (j : Nat) : (one j).natAbs ≤ 1 := by unfold one; decide
theorem pow4_lt {k m : Nat} {x : Int} (h : x.natAbs ≤ 4 ^ k * 1) (hk : 2 * k < m) : x.natAbs < 2 ^ m := by
  have e : (4 : Nat) ^ k = 2 ^ (2 * k) := by rw [Nat.pow_mul]
  rw [Nat.mul_one, e] at h
  exact Nat.lt_of_le_of_lt h (Nat.pow_lt_pow_right (by decide) hk)
theorem power_length (u : Word) : ∀ k, (power u k).length = k * u.length
  | 0 => by simp [power]
  | k + 1 => by
    show (power u k ++ u).length = _
    rw [List.length_append, power_length u k, Nat.add_mul, Nat.one_mul]
theorem act_sum {M : Mirrors} {u : Word} (hu : IsWord M u) (g : Nat → Int) {j : Nat} (hj : j < M.n) : act M u g j = Tor.S M.n (fun i => g i * act M u (unit i) j) := by
  have l : Tor.LinF (fun x => act M u x j) := fun a b x y => congrFun (act_lin M u a b x y) j
  have h := l.expand (trunc_sup M.n g)
  have e : act M u (trunc M.n g) j = act M u g j := act_agree hu (trunc_agree M.n g) j hj
  rw [← e]
  refine h.trans (Tor.S_congr _ fun i hi => ?_)
  show trunc M.n g i * _ = _
  unfold trunc; rw [if_pos hi]; rfl
theorem order_is {M : Mirrors} (G : Good M) {u : Word} (hu : IsWord M u) {k : Nat} (k0 : 0 < k) (e : Eqv M (power u k) []) (no : ∀ j, 0 < j → j < k → ¬ Eqv M (power u j) []) : orderOf M u = k := by
  rcases orderOf_whole G hu with ⟨_, h⟩ | ⟨r, er, r0, _, h, h2⟩
  · exact absurd e (h k k0)
  · rw [er]
    rcases Nat.lt_trichotomy r k with l | l | l
    · exact absurd h (no r r0 l)
    · exact l
    · exact absurd e (h2 k k0 l)
theorem order_no {M : Mirrors} (G : Good M) {u : Word} (hu : IsWord M u) (no : ∀ j, 0 < j → j ≤ 60 → ¬ Eqv M (power u j) []) : orderOf M u = 0 := by
  rcases orderOf_whole G hu with ⟨e, _⟩ | ⟨r, er, r0, r60, h, _⟩
  · exact e
  · exact absurd h (no r r0 r60)
theorem order_never {M : Mirrors} (G : Good M) {u : Word} (hu : IsWord M u) (no : ∀ j, 0 < j → ¬ Eqv M (power u j) []) : orderOf M u = 0 :=
  order_no G hu fun j j0 _ => no j j0
noncomputable def ends1 (M : Mirrors) (u : Word) (k : Nat) : List Word := (List.range k).filterMap fun i => if act M u one i < 0 then none else if low M.n (act M (u ++ [i]) one) = some i then some (u ++ [i]) else none
noncomputable def nx (M : Mirrors) (ws : List Word) : List Word := ws.flatMap fun u => ends1 M u M.n
structure Lev (M : Mirrors) (k : Nat) (ws : List Word) : Prop where
  all : ∀ u, u ∈ ws → IsWord M u ∧ len M u = k
  once : ws.Pairwise fun u v => ¬ Eqv M u v
  has : ∀ u, IsWord M u → len M u = k → ∃ v, v ∈ ws ∧ Eqv M u v
theorem mem_ends1 {M : Mirrors} {u v : Word} {k : Nat} : v ∈ ends1 M u k ↔ ∃ i, i < k ∧ ¬ act M u one i < 0 ∧ low M.n (act M (u ++ [i]) one) = some i ∧ v = u ++ [i] := by
  unfold ends1
  rw [List.mem_filterMap]
  constructor
  · rintro ⟨i, hi, e⟩
    refine ⟨i, List.mem_range.1 hi, ?_⟩
    by_cases c : act M u one i < 0
    · rw [if_pos c] at e; cases e
    · rw [if_neg c] at e
      by_cases d : low M.n (act M (u ++ [i]) one) = some i
      · rw [if_pos d] at e; exact ⟨c, d, (Option.some.inj e).symm⟩
      · rw [if_neg d] at e; cases e
  · rintro ⟨i, hi, c, d, rfl⟩
    exact ⟨i, List.mem_range.2 hi, by rw [if_neg c, if_pos d]⟩
theorem ends1_succ (M : Mirrors) (u : Word) (k : Nat) : ends1 M u (k + 1) = ends1 M u k ++ (if act M u one k < 0 then [] else if low M.n (act M (u ++ [k]) one) = some k then [u ++ [k]] else []) := by
  unfold ends1
  rw [List.range_succ, List.filterMap_append]
  congr 1
  by_cases c : act M u one k < 0
  · simp [c]
  · by_cases d : low M.n (act M (u ++ [k]) one) = some k
    · simp [c, d]
    · simp [c, d]
theorem low_eqv {M : Mirrors} {u v : Word} (e : Eqv M u v) : low M.n (act M u one) = low M.n (act M v one) := low_congr (e one)
theorem Lev.next {M : Mirrors} (G : Good M) {k : Nat} {ws : List Word} (h : Lev M k ws) : Lev M (k + 1) (nx M ws) where
  all := by
    intro v hv
    obtain ⟨u, hu, hv⟩ := List.mem_flatMap.1 hv
    obtain ⟨i, hi, c, _, rfl⟩ := mem_ends1.1 hv
    obtain ⟨wu, lu⟩ := h.all u hu
    exact ⟨isWord_snoc wu hi, by rw [len_up G wu hi (fun d => c ((down_height G wu hi).1 d)), lu]⟩
  once := by
    unfold nx
    rw [List.pairwise_flatMap]
    constructor
    · intro u hu
      unfold ends1
      rw [List.pairwise_filterMap]
      refine List.Pairwise.imp ?_ List.nodup_range
      intro i j ne v hv v' hv' e
      have hv : v ∈ ends1 M u (i + 1) ∧ low M.n (act M v one) = some i := by
        by_cases c : act M u one i < 0
        · rw [if_pos c] at hv; cases hv
        · rw [if_neg c] at hv
          by_cases d : low M.n (act M (u ++ [i]) one) = some i
          · rw [if_pos d] at hv
            obtain rfl := Option.some.inj hv
            exact ⟨mem_ends1.2 ⟨i, by omega, c, d, rfl⟩, d⟩
          · rw [if_neg d] at hv; cases hv
      have hv' : low M.n (act M v' one) = some j := by
        by_cases c : act M u one j < 0
        · rw [if_pos c] at hv'; cases hv'
        · rw [if_neg c] at hv'
          by_cases d : low M.n (act M (u ++ [j]) one) = some j
          · rw [if_pos d] at hv'
            obtain rfl := Option.some.inj hv'
            exact d
          · rw [if_neg d] at hv'; cases hv'
      have := (hv.2.symm.trans (low_eqv e)).trans hv'
      exact ne (Option.some.inj this)
    · refine List.Pairwise.imp_of_mem ?_ h.once
      intro u u' hu hu' ne v hv v' hv' e
      obtain ⟨i, hi, _, l, rfl⟩ := mem_ends1.1 hv
      obtain ⟨j, hj, _, l', rfl⟩ := mem_ends1.1 hv'
      have := (l.symm.trans (low_eqv e)).trans l'
      obtain rfl := Option.some.inj this
      exact ne (e.cancel_right (isWord_single.2 hi))
  has := by
    intro v wv lv
    cases lo : low M.n (act M v one) with
    | none =>
      exfalso
      obtain ⟨s, hs, d⟩ := exists_down wv (by omega)
      have d := (down_height G wv hs).1 d
      unfold low at lo
      exact List.find?_eq_none.1 lo s (List.mem_range.2 hs) (decide_eq_true d)
    | some i =>
      obtain ⟨hi, neg⟩ := low_is lo
      have dn := (height_neg G wv hi).1 neg
      have l1 := len_down wv hi dn
      have wvi := isWord_snoc wv hi
      obtain ⟨u, hu, e⟩ := h.has (v ++ [i]) wvi (by omega)
      obtain ⟨wu, _⟩ := h.all u hu
      have e2 : Eqv M v (u ++ [i]) := (eqv_snoc2 M v i).symm.trans (e.right (isWord_single.2 hi))
      refine ⟨u ++ [i], List.mem_flatMap.2 ⟨u, hu, mem_ends1.2 ⟨i, hi, fun c => ?_, ?_, rfl⟩⟩, e2⟩
      · have d1 : Down M u i := (down_height G wu hi).2 c
        have d2 := (down_eqv wvi wu hi e).2 d1
        exact (down_snoc G wv hi).1 d2 ((down_height G wv hi).2 neg)
      · rw [← low_eqv e2]; exact lo
theorem Lev.zero (M : Mirrors) : Lev M 0 [[]] where
  all := by
    intro u hu
    rw [List.mem_singleton.1 hu]; exact ⟨isWord_nil M, len_nil M⟩
  once := by simp
  has := fun u wu lu => ⟨[], by simp, eqv_nil_of_len wu lu⟩
theorem nodup_hts {M : Mirrors} (G : Good M) {ws : List Word} (w : ∀ u, u ∈ ws → IsWord M u) (h : ws.Pairwise fun u v => ¬ Eqv M u v) : (ws.map (hts M)).Nodup := by
  unfold List.Nodup
  rw [List.pairwise_map]
  exact List.Pairwise.imp_of_mem (fun hu hv ne e => ne ((hts_inj G (w _ hu) (w _ hv)).1 e)) h
theorem Lev.card {M : Mirrors} (G : Good M) {k : Nat} {ws : List Word} (h : Lev M k ws) : (level M k).length = ws.length := by
  have := holds_card G (level_holds G k) (nodup_hts G (fun u hu => (h.all u hu).1) h.once) (by
    intro g hg
    obtain ⟨u, hu, rfl⟩ := List.mem_map.1 hg
    exact ⟨u, (h.all u hu).1, rfl, (h.all u hu).2⟩) (by
    intro u wu lu
    obtain ⟨v, hv, e⟩ := h.has u wu lu
    exact List.mem_map.2 ⟨v, hv, ((hts_inj G wu (h.all v hv).1).2 e).symm⟩)
  rw [this, List.length_map]
theorem few_level {M : Mirrors} : ∀ (k most j : Nat), few M k most (level M j) = true → ∀ i, i ≤ k → (level M (j + i)).length ≤ most
  | 0, most, j, h, i, hi => by
    unfold few at h
    obtain rfl : i = 0 := by omega
    exact of_decide_eq_true h
  | k + 1, most, j, h, i, hi => by
    unfold few at h
    rw [Bool.and_eq_true] at h
    obtain ⟨h1, h2⟩ := h
    have h1 := of_decide_eq_true h1
    cases i with
    | zero => exact h1
    | succ i =>
      rw [Bool.or_eq_true] at h2
      rcases h2 with h2 | h2
      · have e : level M j = [] := by simpa using h2
        have : ∀ i, level M (j + i) = [] := by
          intro i
          induction i with
          | zero => exact e
          | succ i ih =>
            show nextLevel M (level M (j + i)) = []
            rw [ih]; rfl
        rw [this]; simp
      · have := few_level k _ (j + 1) h2 i (by omega)
        rw [show j + (i + 1) = j + 1 + i by omega]
        omega
def Has (M : Mirrors) (ws : List Word) (u : Word) : Prop := ∃ v, v ∈ ws ∧ Eqv M u v
structure Once (M : Mirrors) (ws : List Word) : Prop where
  all : ∀ u, u ∈ ws → IsWord M u
  once : ws.Pairwise fun u v => ¬ Eqv M u v
theorem Once.card {M : Mirrors} (G : Good M) {ws : List Word} (h : Once M ws) {u : Word} (hu : IsWord M u) (l : len M u < 300) (b : ∀ a, IsWord M a → (Has M ws a ↔ Bel M a u)) (k : Nat) :
    ((lowerAll M (leastOf M u)).filter fun w => lengthM M w == k).length = (ws.filter fun a => len M a == k).length := by
  have := holds_card G (between_holds G hu l k) (r := (ws.filter fun a => len M a == k).map (hts M)) (nodup_hts G (fun a ha => h.all a (List.mem_filter.1 ha).1) (h.once.filter _)) (by
    intro g hg
    obtain ⟨a, ha, rfl⟩ := List.mem_map.1 hg
    obtain ⟨ha, la⟩ := List.mem_filter.1 ha
    exact ⟨a, h.all a ha, rfl, (b a (h.all a ha)).1 ⟨a, ha, Eqv.refl _ _⟩, by simpa using la⟩) (by
    intro a wa ⟨ba, la⟩
    obtain ⟨v, hv, e⟩ := (b a wa).2 ba
    refine List.mem_map.2 ⟨v, List.mem_filter.2 ⟨hv, ?_⟩, ((hts_inj G wa (h.all v hv)).2 e).symm⟩
    rw [← len_eqv wa (h.all v hv) e]; simpa using la)
  rw [this, List.length_map]
end Cox
end
section
set_option Elab.async false
set_option maxRecDepth 100000
set_option maxHeartbeats 2000000
namespace Pw
open PySem PySem.Spec PyProof.Rows L2
theorem lc_zip {K : PySem.W.Frag} {a b : Addr} {xs ys : List V} {g : TG} {tt : TT} {te : TE} {vs : List Nat} {σ : L2.St} {H1 : Hp} {D : Addr} {Qd : Hp → Prop} (len : ys.length = xs.length) (Pv : Nat → Hp → Prop) (h0 : Pv 0 (upd H1 D (.lst [])))
    (hl : ∀ i H, i ≤ xs.length → Pv i H → SqL K H a xs ∧ SqL K H b ys)
    (hs : ∀ i x y H T, xs[i]? = some x → ys[i]? = some y → Pv i H → H T = none → g (.ref T) (wipe σ vs) (upd H T (.tup [x, y])) fun σ2 H2 => wipe σ2 vs = wipe σ vs ∧ tt σ2 H2 fun b H3 =>
      if b = true then te σ2 H3 fun y H4 => ∃ acc, H4 D = some (.lst acc) ∧ acc.length < sizeLine ∧ Pv (i + 1) (upd H4 D (.lst (acc ++ [y]))) else Pv (i + 1) H3) (hd : ∀ H, Pv xs.length H → Qd H) :
    ∃ W : Nat → Nat → Hp → Prop, (∃ m, W 0 m (upd H1 D (.lst []))) ∧ ∀ i m H, W i m H →
      ((Itz K a b).stop i H ∧ Qd H) ∨ ((Itz K a b).go i H ∧ ∃ Nx : Hp → Prop, (∀ H', Nx H' → ∃ m', m' < m ∧ W (i + 1) m' H') ∧ ∀ x H', (Itz K a b).yld i H x H' → g x (wipe σ vs) H' fun σ2 H2 => wipe σ2 vs = wipe σ vs ∧ tt σ2 H2 fun b H3 =>
        if b = true then te σ2 H3 fun y H4 => ∃ acc, H4 D = some (.lst acc) ∧ acc.length < sizeLine ∧ Nx (upd H4 D (.lst (acc ++ [y]))) else Nx H3) := by
  refine ⟨fun i m H => m = xs.length - i ∧ i ≤ xs.length ∧ Pv i H, ⟨xs.length, by simp, Nat.zero_le _, h0⟩, ?_⟩
  rintro i m H ⟨rfl, hi, p⟩
  obtain ⟨qa, qb⟩ := hl i H hi p
  by_cases hlt : i < xs.length
  · refine .inr ⟨⟨xs, ys, xs[i], ys[i]'(by omega), qa, qb, by simp [hlt], by simp [len, hlt]⟩, Pv (i + 1), fun H' p' => ⟨xs.length - (i + 1), by omega, rfl, hlt, p'⟩, fun x H' y => ?_⟩
    obtain ⟨T, u, v, rfl, hT, rfl, hu, hv⟩ := y
    exact hs i u v H T (hu xs qa) (hv ys qb) p hT
  · have e : i = xs.length := by omega
    subst e
    exact .inl ⟨⟨xs, ys, qa, qb, Or.inl (Nat.le_refl _)⟩, hd H p⟩
theorem for_enum {K : PySem.W.Frag} {a : Addr} {xs : List V} {g : TG} {tb : TS} {D : Ends} {σ : L2.St} {H : Hp} (Pv : Nat → L2.St → Hp → Prop) (h0 : Pv 0 σ H) (hl : ∀ i σ H, i ≤ xs.length → Pv i σ H → SqL K H a xs)
    (hs : ∀ i x σ H T, xs[i]? = some x → Pv i σ H → H T = none → g (.ref T) σ (upd H T (.tup [.int (i : Nat), x])) fun σ2 H2 => tb { D with nx := Pv (i + 1), ct := Pv (i + 1), bk := D.nx } σ2 H2) (hd : ∀ σ H, Pv xs.length σ H → D.nx σ H) :
    ∃ W : Nat → Nat → L2.St → Hp → Prop, (∃ m, W 0 m σ H) ∧ ∀ i m σ H, W i m σ H →
      ((Ite K a).stop i H ∧ D.nx σ H) ∨ ((Ite K a).go i H ∧ ∃ N : L2.St → Hp → Prop, (∀ σ' H', N σ' H' → ∃ m', m' < m ∧ W (i + 1) m' σ' H') ∧ ∀ x H', (Ite K a).yld i H x H' → g x σ H' fun σ2 H2 => tb { D with nx := N, ct := N, bk := D.nx } σ2 H2) := by
  refine ⟨fun i m σ H => m = xs.length - i ∧ i ≤ xs.length ∧ Pv i σ H, ⟨xs.length, by simp, Nat.zero_le _, h0⟩, ?_⟩
  rintro i m σ H ⟨rfl, hi, p⟩
  have q := hl i σ H hi p
  by_cases hlt : i < xs.length
  · refine .inr ⟨⟨xs, xs[i], q, by simp [hlt]⟩, Pv (i + 1), fun σ' H' p' => ⟨xs.length - (i + 1), by omega, rfl, hlt, p'⟩, fun x H' y => ?_⟩
    obtain ⟨T, u, rfl, hT, rfl, hu⟩ := y
    exact hs i u σ H T (hu xs q) p hT
  · have e : i = xs.length := by omega
    subst e
    exact .inl ⟨⟨xs, q, Nat.le_refl _⟩, hd σ H p⟩
theorem tyes {A B : Hp → Prop} {σ : L2.St} {H : Hp} (h : A H) : tYes σ H (fun b H3 => if b = true then A H3 else B H3) := by
  show (if true = true then A H else B H)
  rw [if_pos rfl]; exact h
theorem Same.new {H : Hp} {a : Addr} {o : HO} (h : H a = none) : Same H (upd H a o) := fun b o' e => by
  rw [upd_ne (ne_of_none e h)]; exact e
noncomputable def ipM : TIp := fun x y H Q => ∃ i j, x = .int i ∧ y = .int j ∧ CMul i j ∧ Q (.int (i * j)) H
theorem ip_mul {X : Cx} : PIp X .Mult ipM := by
  intro pins s σ H x y v u Q I r1 r2 h
  obtain ⟨i, j, e1, e2, c, q⟩ := h
  subst e1; subst e2
  obtain ⟨t, rfl⟩ := r1
  obtain ⟨t', rfl⟩ := r2
  exact PyProof.Rows.imul_int ⟨.int _, H, I.tok _, ⟨_, rfl⟩, q⟩ c.ok
theorem take_snoc {α : Type} {l : List α} {i : Nat} {x : α} (h : l[i]? = some x) : l.take (i + 1) = l.take i ++ [x] := by
  rw [List.take_add_one, h]; rfl
end Pw
end
section
set_option Elab.async false
set_option maxRecDepth 100000
set_option maxHeartbeats 2000000
namespace Pw
open PySem PySem.Spec PyProof.Rows L2
structure KD (K : PySem.W.Frag) (a : Addr) (kvs : List (Int × Addr)) : Prop where
  ex : ∃ (o : Obj) (es : Array DictEntry) (ep : Nat) (ts : List Tok), K.lookup a = some o ∧ o.ExactDict ∧ o.data = .dict es ep ∧ ts.length = kvs.length ∧ es.toList = List.zipWith (fun (kv : Int × Addr) t => (⟨hashInt kv.1, .int kv.1 t, .ref kv.2⟩ : DictEntry)) kvs ts
  nd : (kvs.map (·.1)).Nodup
  ns : (a == sysModules) = false
noncomputable def kdv (kvs : List (Int × Addr)) : List (Key × Value) := kvs.map fun kv => (Sum.inl kv.1, Value.ref kv.2)
theorem kd_pairs {P : Program} {w : World} : ∀ (kvs : List (Int × Addr)) (ts : List Tok), ts.length = kvs.length →
    Pairs (mixKind P w) (List.zipWith (fun (kv : Int × Addr) t => (⟨hashInt kv.1, .int kv.1 t, .ref kv.2⟩ : DictEntry)) kvs ts) (kdv kvs)
  | [], [], _ => .nil
  | (k, v) :: r, t :: ts, h => .cons (mixKind_int P w k t) rfl (kd_pairs r ts (by simpa using h))
  | [], _ :: _, h => by simp at h
  | _ :: _, [], h => by simp at h
theorem KD.dict {P : Program} {w : World} {K : PySem.W.Frag} {h : Heap} {a : Addr} {kvs : List (Int × Addr)} (d : KD K a kvs) (X : K.In h) : h.DictOf (mixKind P w) a (kdv kvs) := by
  obtain ⟨o, es, ep, ts, lk, ed, dt, lt, ee⟩ := d.ex
  refine ⟨o, es, ep, X a o lk, ed, dt, ?_, by rw [ee]; exact kd_pairs kvs ts lt, ?_⟩
  · intro e he
    have he : e ∈ es.toList := Array.mem_toList_iff.mpr he
    rw [ee] at he
    have : ∀ (kvs : List (Int × Addr)) (ts : List Tok), e ∈ List.zipWith (fun (kv : Int × Addr) t => (⟨hashInt kv.1, .int kv.1 t, .ref kv.2⟩ : DictEntry)) kvs ts → ∃ k, (mixKind P w).is k e.key = true ∧ e.hash = (mixKind P w).hash k := by
      intro kvs
      induction kvs with
      | nil => intro ts h; simp at h
      | cons kv r ih =>
        intro ts h
        cases ts with
        | nil => simp at h
        | cons t ts =>
          rw [List.zipWith_cons_cons] at h
          rcases List.mem_cons.1 h with rfl | h
          · exact ⟨Sum.inl kv.1, mixKind_int P w kv.1 t, rfl⟩
          · exact ih ts h
    exact this kvs ts he
  · have nd := d.nd
    unfold kdv
    rw [List.map_map]
    have : ∀ kvs : List (Int × Addr), (kvs.map (·.1)).Nodup → (kvs.map ((fun x => x.1) ∘ fun kv => ((Sum.inl kv.1 : Key), Value.ref kv.2))).Nodup := by
      intro kvs
      induction kvs with
      | nil => intro _; simp
      | cons kv r ih =>
        intro h
        rw [List.map_cons, List.nodup_cons] at h ⊢
        refine ⟨?_, ih h.2⟩
        intro m
        obtain ⟨x, hx, e⟩ := List.mem_map.1 m
        exact h.1 (List.mem_map.2 ⟨x, hx, Sum.inl.inj e⟩)
    exact this kvs nd
noncomputable def kdGet (kvs : List (Int × Addr)) (k : Int) : Option Addr := (kvs.find? fun kv => decide (kv.1 = k)).map (·.2)
theorem kdGet_value (kvs : List (Int × Addr)) (k : Int) : valueAt (kdv kvs) (Sum.inl k) = (kdGet kvs k).map Value.ref := by
  unfold valueAt kdGet kdv
  induction kvs with
  | nil => rfl
  | cons kv r ih =>
    rw [List.map_cons, List.find?_cons, List.find?_cons]
    by_cases e : kv.1 = k
    · have e1 : ((Sum.inl kv.1 : Key) = Sum.inl k) := by rw [e]
      simp [e]
    · have e1 : ¬ ((Sum.inl kv.1 : Key) = Sum.inl k) := fun q => e (Sum.inl.inj q)
      simp only [e1, e, decide_false]
      exact ih
section
variable {X : Cx} {o i : Expr} {pos : Pos} {td ty : TE}
noncomputable def tKGet (K : PySem.W.Frag) (td ty : TE) : TE := fun σ H Q => td σ H fun x H1 => ty σ H1 fun y H2 => ∃ (a : Addr) (kvs : List (Int × Addr)) (k : Int) (v : Addr), x = .ref a ∧ KD K a kvs ∧ y = .int k ∧ kdGet kvs k = some v ∧ Q (.ref v) H2
noncomputable def tKNot (K : PySem.W.Frag) (ty td : TE) : TE := fun σ H Q => ty σ H fun y H1 => td σ H1 fun x H2 => ∃ (a : Addr) (kvs : List (Int × Addr)) (k : Int), x = .ref a ∧ KD K a kvs ∧ y = .int k ∧ Q (.bl (!(kdGet kvs k).isSome)) H2
theorem pe_kget (ho : PE X o td) (hi : PE X i ty) (hs : NoSl i) : PE X (.Subscript o i pos) (tKGet X.K td ty) := by
  intro pins s σ H Q I h
  refine subD_of PySem.F.slot_dict_getitem.lookup hs (thn (ho pins s σ H _ I h) fun u s1 zz => ex5 zz fun x H1 I1 rx q1 => thn (hi pins s1 σ H1 _ I1 q1) fun iv s2 zz => ex5 zz fun y H2 I2 ry yy => ?_)
  obtain ⟨a, kvs, k, v, ex, d, ey, hv, q2⟩ := yy
  subst ex ey
  obtain rfl : u = Value.ref a := rx
  have dd := d.dict (P := X.prog) (w := X.w) I2.kIn
  refine ⟨dd.typeIs, wpAny_getItem_of (kV_is (k := Sum.inl k) ry) dd.mapOf (v := Value.ref v) (by rw [kdGet_value, hv]; rfl) ⟨.ref v, H2, I2.tok _, rfl, q2⟩⟩
theorem pc_knotin (hi : PE X i ty) (ho : PE X o td) : PC X .NotIn i o (tKNot X.K ty td) := by
  intro pins s σ H Q I h
  refine thn (hi pins s σ H _ I h) fun iv s1 zz => ex5 zz fun y H1 I1 ry q1 => thn (ho pins s1 σ H1 _ I1 q1) fun u s2 zz => ex5 zz fun x H2 I2 rx yy => ?_
  obtain ⟨a, kvs, k, ex, d, ey, q2⟩ := yy
  subst ex ey
  obtain rfl : u = Value.ref a := rx
  have dd := d.dict (P := X.prog) (w := X.w) I2.kIn
  refine wpAny_notIn_of (kV_is (k := Sum.inl k) ry) d.ns dd.mapOf ?_
  rw [kdGet_value, Option.isSome_map]
  exact ⟨.bl (!(kdGet kvs k).isSome), H2, I2.tok _, rfl, q2⟩
end
end Pw
end
section
set_option Elab.async false
set_option maxRecDepth 100000
set_option maxHeartbeats 2000000
namespace Pw
open PySem PySem.Spec PyProof.Rows L2
theorem lri_no_len : typeLookup (.type "list_reverseiterator") "__len__" = pure none := by rw [typeLookup_type, builtinLookup_eq_fast]; kernel_rfl
theorem lri_hint : typeLookup (.type "list_reverseiterator") "__length_hint__" = pure (some (.builtin "list_reverseiterator.__length_hint__")) := by rw [typeLookup_type, builtinLookup_eq_fast]; kernel_rfl
section
variable {prog : Program} {w : World} {A : Around} {E : Value → Shared → Prop} {s : Shared}
theorem hint_rev {it l : Addr} {i : Int} {Q : Bool → Shared → Prop} (hit : s.heap.IsRevIter it l i) (h : Q false s) : wpAny (model prog w) A (Builtin.List.listLengthHint (.ref it)) Q E s := by
  unfold Builtin.List.listLengthHint; refine wpAny_bind (wpAny_specialOf hit.typeIs lri_no_len ?_)
  show wpAny _ A (specialOf (Value.ref it) (Str.ofString "__length_hint__") >>= _) _ _ _
  refine wpAny_bind (wpAny_specialOf hit.typeIs lri_hint ?_)
  generalize hid : ("list_reverseiterator.__length_hint__" : String) = id0
  wp_delta
  rw [show splitId id0 = some ("list_reverseiterator", "__length_hint__") from by subst hid; decide +kernel]
  subst hid
  refine wpAny_bind (wpAny_isInstance (T := "list_reverseiterator") (b := true) hit.typeIs (by rw [isSubtype_type]; kernel_rfl) ?_)
  refine wpAny_ite_split (fun hab => absurd hab (by decide)) (fun _ => ?_); refine wpAny_ite_split (fun _ => ?_) (fun hab => absurd (by decide +kernel) hab)
  refine wpAny_ite_split (fun hab => absurd hab (by decide +kernel)) (fun _ => wpAny_pure h)
theorem extend_rev {R : Result → Shared → Prop} {it l : Addr} {items : Array Value} (hh : A.handled = none) (hit : s.heap.IsRevIter it l ((items.size : Int) - 1)) (hl : s.heap.IsList l items) (hne : l ≠ it) (hlen : items.size ≤ sizeLine)
    (S : Addr) (res : Value) (c₀ : Nat) (hSl : S ≠ l) (hSi : S ≠ it) (hS : s.heap.get? S = some { cls := .type "list", data := .seq #[] c₀ })
    (hR : ∀ h' tk acc' c', (∀ b o, b ≠ S → b ≠ it → s.heap.get? b = some o → h'.get? b = some o) → h'.get? S = some { cls := .type "list", dict := none, data := .seq acc' c', slots := #[] } →
      ItemsOf (fun i v => items[items.size - 1 - i]? = some v) acc' items.size → R (.ok (.ret res)) { s with heap := h', toks := tk }) :
    wpAny (model prog w) A.in1 (Builtin.List.listExtendWith (.ref S) (.ref it) res) (fun fin s' => match fin with | .done f => R (.ok f) s' | .again c' => c'.quiet = true ∧ codeAny (model prog w) A c' R s') (fun e s' => R (.error e) s') s := by
  have hSf : S ∉ [it, l] := by
    intro hm
    simp only [List.mem_cons, List.not_mem_nil, or_false] at hm; rcases hm with e | e
    · exact hSi e
    · exact hSl e
  have W := (PySem.Walks.listRev (prog := prog) (w := w) (A := A.in1) hh it l hne items).toS
  unfold Builtin.List.listExtendWith; refine wpAny_bind (wpAny_typeOf hit.typeIs ?_)
  have h1 : Builtin.List.listSameRef (.ref S) (.ref it) = false := by simp [Builtin.List.listSameRef, hSi]
  have h2 : (Value.type "list_reverseiterator" == Value.type "list") = false := by decide
  have h3 : (Value.type "list_reverseiterator" == Value.type "tuple") = false := by decide
  simp only [h1, h2, h3, Bool.or_false, Bool.false_eq_true, if_false]; refine wpAny_bind (wpAny_pyIter_revIter hit ?_)
  refine wpAny_bind (wpAny_holding (hint_rev hit ?_))
  refine wpAny_ite_split (fun hab => absurd hab (by decide +kernel)) (fun _ => wpAny_pure ⟨plainId_quiet F.plain_extend_loop _, ?_⟩)
  refine codeAny_extend_loopS W hlen S hSf res items.size 0 s #[] c₀ rfl (Nat.zero_le _) ⟨Nat.zero_le _, by simpa using hit, hl⟩ hS (ItemsOf.nil _) fun s' acc' c' hm hS' hacc => ?_
  rw [Moved.eq_with hm]
  refine hR s'.heap s'.toks acc' c' (fun b o hb hb2 e => hm.heap b o (fun hmem => ?_) e) hS' hacc
  simp only [List.mem_cons, List.not_mem_nil, or_false] at hmem
  rcases hmem with e' | e'
  · exact hb e'
  · exact hb2 e'
theorem init_rev {R : Result → Shared → Prop} {it l : Addr} {items : Array Value} (hh : A.handled = none) (hit : s.heap.IsRevIter it l ((items.size : Int) - 1)) (hl : s.heap.IsList l items) (hne : l ≠ it) (hlen : items.size ≤ sizeLine)
    (S : Addr) (hSl : S ≠ l) (hSi : S ≠ it) (hS : s.heap.get? S = some { cls := .type "list", data := .seq #[] })
    (hR : ∀ h' tk acc' c', (∀ b o, b ≠ S → b ≠ it → s.heap.get? b = some o → h'.get? b = some o) → h'.get? S = some { cls := .type "list", dict := none, data := .seq acc' c', slots := #[] } →
      ItemsOf (fun i v => items[items.size - 1 - i]? = some v) acc' items.size → R (.ok (.ret .none)) { s with heap := h', toks := tk }) :
    wpAny (model prog w) A.in1 (Builtin.«list.__init__» ⟨[.ref S, .ref it], []⟩) (fun fin s' => match fin with | .done f => R (.ok f) s' | .again c' => c'.quiet = true ∧ codeAny (model prog w) A c' R s') (fun e s' => R (.error e) s') s := by
  show wpAny _ _ (do let old ← Builtin.List.listItems (.ref S); Builtin.List.listUpdate (.ref S) (fun _ => #[]); letGo old.toList.reverse; Builtin.List.listExtendWith (.ref S) (.ref it) .none) _ _ s
  refine wpAny_bind ?_
  unfold Builtin.List.listItems
  refine wpAny_bind (wpAny_seqItems hS rfl (wpAny_pure ?_)); show wpAny _ _ (updateSeq S (fun _ => #[]) >>= fun _ => letGo (#[] : Array Value).toList.reverse >>= fun _ => Builtin.List.listExtendWith (.ref S) (.ref it) .none) _ _ s
  refine wpAny_bind (wpAny_updateSeq hS rfl ?_); have hS₂ := Heap.get?_update_self (Obj.mapSeq (fun _ => (#[] : Array Value))) hS rfl
  have oth : ∀ b o, b ≠ S → s.heap.get? b = some o → (s.heap.update S (Obj.mapSeq (fun _ => (#[] : Array Value)))).get? b = some o := fun b o hb e => (Heap.get?_update_other _ _ (Ne.symm hb)).trans e
  refine wpAny_bind (wpAny_letGo ?_)
  refine extend_rev hh (hit.at fun o e => oth it o (Ne.symm hSi) e) (hl.at fun o e => oth l o (Ne.symm hSl) e) hne hlen S .none _ hSl hSi hS₂ fun h' tk acc' c' hk hS' hacc => ?_
  exact hR h' tk acc' c' (fun b o hb hb2 e => hk b o hb hb2 (oth b o hb e)) hS' hacc
theorem call_list_rev {it l : Addr} {items : Array Value} {Q : Value → Shared → Prop} (hh : A.handled = none) (hit : s.heap.IsRevIter it l ((items.size : Int) - 1)) (hl : s.heap.IsList l items) (hne : l ≠ it) (hlen : items.size ≤ sizeLine)
    (hQ : ∀ h' tk acc' c', (∀ b o, b ≠ it → s.heap.get? b = some o → h'.get? b = some o) →
      h'.get? s.heap.objs.size = some { cls := .type "list", dict := none, data := .seq acc' c', slots := #[] } → ItemsOf (fun i v => items[items.size - 1 - i]? = some v) acc' items.size → Q (.ref s.heap.objs.size) { s with heap := h', toks := tk }) : wpAny (model prog w) A (call (.type "list") [.ref it]) Q E s := by
  refine callType_codes (Q₁ := fun obj s₁ => obj = .ref s.heap.objs.size ∧ s₁ = { s with heap := s.heap.push { cls := .type "list", data := .seq #[] } }) F.called_list (F.typeCall_list_1 _) F.entry_list_init (code_list_new _ ⟨rfl, rfl⟩) fun obj s₁ h₁ => ?_
  obtain ⟨rfl, rfl⟩ := h₁
  have hS : (s.heap.push { cls := .type "list", data := .seq #[] }).get? s.heap.objs.size = some { cls := .type "list", data := .seq #[] } := Heap.get?_push_size _ rfl; have hil : it < s.heap.objs.size := by obtain ⟨o, e, _⟩ := hit; exact Heap.lt_size e
  have hll : l < s.heap.objs.size := by obtain ⟨o, e, _⟩ := hl; exact Heap.lt_size e
  refine ⟨⟨_, hS, rfl⟩, F.args_list_init_2 _ _, init_rev (A := A.in1) hh (hit.at fun o e => Heap.get?_push_of_some _ e) (hl.at fun o e => Heap.get?_push_of_some _ e) hne hlen _ (Nat.ne_of_gt hll) (Nat.ne_of_gt hil) hS fun h' tk acc' c' hk hS' hacc => ?_⟩
  exact ⟨rfl, hQ h' tk acc' c' (fun b o hb e => hk b o (Nat.ne_of_lt (Heap.lt_size e)) hb (Heap.get?_push_of_some _ e)) hS' hacc⟩
end
noncomputable def tRevL (K : PySem.W.Frag) (te : TE) : TE := fun σ H Q => te σ H fun x H1 => ∃ (a : Addr) (xs : List V), x = .ref a ∧ SqL K H1 a xs ∧ ∀ l, H1 l = none → Q (.ref l) (upd H1 l (.lst xs.reverse))
theorem vals_of {xs : List V} {its : List Value} {acc : Array Value} (r : Vals xs its) (h : ItemsOf (fun i v => its.toArray[its.toArray.size - 1 - i]? = some v) acc its.toArray.size) : Vals xs.reverse acc.toList := by
  have e : acc.toList = its.reverse := by
    obtain ⟨h1, h2⟩ := h
    refine List.ext_getElem? fun i => ?_
    by_cases hi : i < its.length
    · have hi' : i < acc.size := by rw [h1]; simpa using hi
      have q := h2 i acc[i] (by simp)
      simp only [List.size_toArray, List.getElem?_toArray] at q
      rw [List.getElem?_reverse hi, Array.getElem?_toList, Array.getElem?_eq_getElem hi', ← q]
    · have h1' : acc.size = its.length := by simpa using h1
      rw [List.getElem?_eq_none (by simp; omega), List.getElem?_eq_none (by simp; omega)]
  rw [e]
  have : ∀ {xs : List V} {its : List Value}, Vals xs its → Vals xs.reverse its.reverse := by
    intro xs its r
    induction r with
    | nil => exact .nil
    | cons h t ih => rw [List.reverse_cons, List.reverse_cons]; exact Paired.snoc ih h
  exact this r
theorem pe_listrev {X : Cx} {e : Expr} {te : TE} {p p' pos pos' : Pos} (hc : X.calm = true) (hg : Gl X "list") (hm : X.mg "list" = none) (hg' : Gl X "reversed") (hm' : X.mg "reversed" = none) (ha : PE X e te)
    (hs : starEach [.Call (.Name "reversed" p') [e] [] pos'] X.env = [(false, eval (.Call (.Name "reversed" p') [e] [] pos') X.env)] := by rfl)
    (hs' : starEach [e] X.env = [(false, eval e X.env)] := by rfl) :
    PE X (.Call (.Name "list" p) [.Call (.Name "reversed" p') [e] [] pos'] [] pos) (tRevL X.K te) := by
  intro pins s σ H Q I h
  refine wpAny_Call_Name_kw (ld_blt I hg hm PyProof.Rows.boot_list ?_)
  refine PyProof.Rows.callWith_type1 ?_ (by rw [hs]; rfl) rfl
  rw [hs]
  show wpAny _ _ (spliced [(false, eval (.Call (.Name "reversed" p') [e] [] pos') X.env)]) _ _ s
  refine Calls.spliced_cons ?_
  refine wpAny_Call_Name_kw (ld_blt I hg' hm' boot_reversed5 ?_)
  refine PyProof.Rows.callWith_type1 ?_ (by rw [hs']; rfl) rfl
  rw [hs']
  show wpAny _ _ (spliced [(false, eval e X.env)]) _ _ s
  refine Calls.spliced_cons (thn (ha pins s σ H _ I h) fun u s1 zz => ex5 zz fun x H1 I1 r1 yy => Calls.spliced_nil ?_)
  obtain ⟨a, xs, ex, hq, q⟩ := yy
  subst ex
  obtain rfl : u = Value.ref a := r1
  obtain ⟨its, rv, pl, hz⟩ := I1.list hq
  refine call_reversed_list pl.isList (Calls.spliced_nil ?_)
  have hlt : a < s1.heap.objs.size := by obtain ⟨o, eo, _⟩ := pl.isList; exact Heap.lt_size eo
  have hlen := rv.length
  refine call_list_rev (it := s1.heap.objs.size) (l := a) (items := its.toArray) (I1.ok.hd hc) ⟨_, Heap.get?_push_size _ rfl, rfl, rfl⟩ (pl.isList.at fun o eo => Heap.get?_push_of_some _ eo) (Nat.ne_of_lt hlt) (by simp; omega) fun h' tk acc' c' hk hS hacc => ?_
  have hsz : (s1.heap.push (revObj a ((its.toArray.size : Int) - 1))).objs.size = s1.heap.objs.size + 1 := Heap.size_push _ _
  rw [hsz] at hS ⊢
  have kp : ∀ b o, s1.heap.get? b = some o → h'.get? b = some o := fun b o eo => hk b o (Nat.ne_of_lt (Heap.lt_size eo)) (Heap.get?_push_of_some _ eo)
  refine ⟨.ref (s1.heap.objs.size + 1), _, I1.laid (t' := tk) kp (Nat.le_succ _) (show ObjOk X.prog X.w _ h' _ (.lst xs.reverse) from ⟨by simpa using hz, acc'.toList, c', vals_of rv hacc, by simpa using hS⟩), rfl, q _ (I1.hok.fresh (Nat.le_succ _))⟩
end Pw
end
section
set_option Elab.async false
set_option maxRecDepth 100000
set_option maxHeartbeats 2000000
namespace Pw
open PySem PySem.Spec PyProof.Rows L2
section
variable {prog : Program} {w : World} {A : Around} {E : Value → Shared → Prop} {s : Shared}
theorem nextT_item {it t : Addr} {i : Nat} {its : Array Value} {x : Value} {Q : Value → Shared → Prop} (ti : s.heap.IsTupleIter it t i) (tt : s.heap.IsTuple t its) (tx : its[i]? = some x)
    (q : ∀ h', h'.IsTupleIter it t (i + 1) → Heap.SameBut it s.heap h' → Q x { s with heap := h' }) : wpAny (model prog w) A (Builtin.SmallTypes.nextOf (.ref it)) Q E s := by
  obtain ⟨ob, eo, ec, ed⟩ := id ti
  obtain ⟨ot, eot, _, nt, edt⟩ := tt
  unfold Builtin.SmallTypes.nextOf; refine wpAny_bind (wpAny_callSpecial?_slot (name := Str.ofString "__next__") ti.typeIs F.slot_tuple_iterator_next (wpAny_call_entry F.slot_tuple_iterator_next ti.typeIs F.entry_tuple_iterator_next ?_ (F.args_tuple_iterator_next_1 _)))
  show wpAny _ _ (field (Value.ref it) 0 >>= _) _ _ s
  refine wpAny_bind (wpAny_field eo ed (x := Value.ref t) rfl ?_)
  show wpAny _ _ (if (Value.ref t == .none) = true then _ else _) _ _ s
  rw [if_neg (show ¬ (Value.ref t == .none) = true from Bool.false_ne_true)]
  show wpAny _ _ (field (Value.ref it) 1 >>= _) _ _ s
  refine wpAny_bind (wpAny_field eo ed (x := Value.int i 0) rfl ?_)
  show wpAny _ _ (seqItems? (Value.ref t) >>= _) _ _ s
  refine wpAny_bind (wpAny_seqItems eot edt ?_)
  simp only [tx, Int.toNat_natCast]
  refine wpAny_bind (wpAny_setField eo ed (by simp) (wpAny_pure ⟨x, rfl, wpAny_pure (q _ ⟨_, Heap.get?_update_self _ eo (Obj.isFreed_of_fields (Obj.data_mapFields ed _)), (Obj.cls_mapFields ..).trans ec, ?_⟩ (Heap.SameBut.update ..))⟩))
  rw [Obj.data_mapFields ed]
  simp [rawInt]
theorem nextT_end {it t : Addr} {i : Nat} {its : Array Value} {Q : Value → Shared → Prop} (nh : A.handled = none) (ti : s.heap.IsTupleIter it t i) (tt : s.heap.IsTuple t its) (tx : its[i]? = none)
    (q : ∀ h' e, Heap.ExtBut it s.heap h' → (∃ o, h'.get? e = some o ∧ o.cls = .type "StopIteration") → E (.ref e) { s with heap := h' }) : wpAny (model prog w) A (Builtin.SmallTypes.nextOf (.ref it)) Q E s := by
  obtain ⟨ob, eo, ec, ed⟩ := id ti
  obtain ⟨ot, eot, _, nt, edt⟩ := tt
  unfold Builtin.SmallTypes.nextOf; refine wpAny_bind (wpAny_callSpecial?_slot (name := Str.ofString "__next__") ti.typeIs F.slot_tuple_iterator_next (wpAny_call_entry F.slot_tuple_iterator_next ti.typeIs F.entry_tuple_iterator_next ?_ (F.args_tuple_iterator_next_1 _)))
  show wpAny _ _ (field (Value.ref it) 0 >>= _) _ _ s
  refine wpAny_bind (wpAny_field eo ed (x := Value.ref t) rfl ?_)
  show wpAny _ _ (if (Value.ref t == .none) = true then _ else _) _ _ s
  rw [if_neg (show ¬ (Value.ref t == .none) = true from Bool.false_ne_true)]
  show wpAny _ _ (field (Value.ref it) 1 >>= _) _ _ s
  refine wpAny_bind (wpAny_field eo ed (x := Value.int i 0) rfl ?_)
  show wpAny _ _ (seqItems? (Value.ref t) >>= _) _ _ s
  refine wpAny_bind (wpAny_seqItems eot edt ?_)
  simp only [tx, Int.toNat_natCast]
  refine wpAny_bind (wpAny_rule (wpAny_bind (wpAny_setField eo ed (by simp) ?_)))
  show wpAny _ _ (newExc (Value.type "StopIteration") [] >>= _) _ _ _
  refine wpAny_bind ?_
  simp only [newTuple, newExc]
  refine wpAny_bind (wpAny_newObj_type ?_ (by size_fits))
  refine wpAny_bind (m := firstArgMember _ _) (wpAny_of_eq (a := .none) (by first | rfl | (simp only [firstArgMember]; rfl)) ?_)
  refine wpAny_newObj_type ?_ (by size_fits)
  simp only [raiseNew]
  refine wpAny_bind (wpAny_handled ?_)
  first | rw [show A.in1.handled = none from nh] | rw [nh]
  refine wpAny_bind (wpAny_pure (wpAny_throw (q _ _ (((Heap.SameBut.update ..).extBut.push _).push _) ⟨_, Heap.get?_push_size _ rfl, rfl⟩)))
theorem zipT_item {z TI TO i1 i2 l1 l2 : Addr} {k1 k2 : Nat} {xs ys : Array Value} {x y a b : Value} {Q : Value → Shared → Prop} (D : ZipApart z TI TO i1 i2 l1 l2)
    (pz : IsZip s.heap z TI TO .none) (pI : IsPair s.heap TI (.ref i1) (.ref i2)) (pO : IsPair s.heap TO a b)
    (p1 : s.heap.IsTupleIter i1 l1 k1) (p2 : s.heap.IsListIter i2 l2 k2) (t1 : s.heap.IsTuple l1 xs) (t2 : s.heap.IsList l2 ys) (ex : xs[k1]? = some x) (ey : ys[k2]? = some y)
    (q : ∀ h', IsZip h' z TI TO (rawInt s.heap.objs.size) → IsPair h' TO x y → h'.IsTupleIter i1 l1 (k1 + 1) → h'.IsListIter i2 l2 (k2 + 1) → IsPair h' s.heap.objs.size x y → h'.objs.size = s.heap.objs.size + 1 →
      (∀ c o, c ≠ z → c ≠ TO → c ≠ i1 → c ≠ i2 → s.heap.get? c = some o → h'.get? c = some o) → Q (.ref s.heap.objs.size) { s with heap := h' }) : wpAny (model prog w) A (Builtin.«zip.__next__» ⟨[.ref z], []⟩) (fun fin s' => ∃ v, fin = .done (.ret v) ∧ Q v s') E s := by
  show wpAny _ _ (field (Value.ref z) 2 >>= _) _ _ _
  refine wpAny_bind (wpAny_field pz rfl (x := .bool false) rfl ?_)
  show wpAny _ _ (field (Value.ref z) 3 >>= _) _ _ _
  refine wpAny_bind (wpAny_field pz rfl (x := .ref TI) rfl (wpAny_bind (wpAny_seqItems pI rfl ?_)))
  show wpAny _ _ (Builtin.SmallTypes.ownedTupleIsFree (Value.ref z) >>= _) _ _ _
  refine wpAny_bind ?_
  unfold Builtin.SmallTypes.ownedTupleIsFree; refine wpAny_bind (wpAny_field pz rfl (x := .none) rfl (wpAny_pure ?_))
  simp only [if_true]
  refine wpAny_bind (wpAny_rule (wpAny_bind (wpAny_field pz rfl (x := .ref TO) rfl ?_)))
  refine wpAny_bind (wpAny_setField_rec pz (by simp) fun h1 z1 e1 => ?_)
  replace z1 : IsZip h1 z TI TO .ellipsis := z1
  refine wpAny_bind ?_
  simp only [List.zipIdx_nil, List.zipIdx_cons, List.forIn_nil, List.forIn_cons]
  refine wpAny_bind (wpAny_bind (wpAny_onRaise ?_)); show wpAny _ _ (Builtin.SmallTypes.nextOf (Value.ref i1) >>= _) _ _ _
  refine wpAny_bind (nextT_item (p1.extBut e1.extBut D.i1z) (t1.extBut e1.extBut D.l1z) ex fun h2 q2 e2 => wpAny_pure ?_)
  have o2 : IsPair h2 TO a b := e2.extBut _ _ D.TOi1 (e1.extBut _ _ D.TOz pO)
  refine wpAny_bind (wpAny_seqItems o2 rfl (wpAny_bind (wpAny_updateSeq_pair o2 fun h3 o3 e3 => ?_)))
  replace o3 : IsPair h3 TO x b := o3
  refine wpAny_bind (wpAny_letGo (wpAny_pure (wpAny_bind (wpAny_bind (wpAny_onRaise ?_)))))
  show wpAny _ _ (Builtin.SmallTypes.nextOf (Value.ref i2) >>= _) _ _ _
  refine wpAny_bind (wpAny_nextOf_list_item (((p2.extBut e1.extBut D.i2z).extBut e2.extBut D.i12.symm).extBut e3.extBut D.TOi2.symm) (((t2.extBut e1.extBut D.l2z).extBut e2.extBut D.l2i1).extBut e3.extBut D.l2TO) ey fun h4 q4 e4 => wpAny_pure ?_)
  have o4 : IsPair h4 TO x b := e4.extBut _ _ D.TOi2 o3
  refine wpAny_bind (wpAny_seqItems o4 rfl (wpAny_bind (wpAny_updateSeq_pair o4 fun h5 o5 e5 => ?_)))
  replace o5 : IsPair h5 TO x y := o5
  refine wpAny_bind (wpAny_letGo (wpAny_pure (wpAny_pure (wpAny_bind (wpAny_seqItems o5 rfl (wpAny_bind (wpAny_newTuple ?_)))))))
  have sz : h5.objs.size = s.heap.objs.size := by rw [e5.1, e4.1, e3.1, e2.1, e1.1]
  have z5 : IsZip h5 z TI TO .ellipsis := e5.extBut _ _ D.TOz.symm (e4.extBut _ _ D.i2z.symm (e3.extBut _ _ D.TOz.symm (e2.extBut _ _ D.i1z.symm z1)))
  have k5 : ∀ c o, c ≠ z → c ≠ TO → c ≠ i1 → c ≠ i2 → s.heap.get? c = some o → h5.get? c = some o := fun c o c1 c2 c3 c4 e =>
    e5.extBut _ _ c2 (e4.extBut _ _ c4 (e3.extBut _ _ c2 (e2.extBut _ _ c3 (e1.extBut _ _ c1 e))))
  have r1 : h5.IsTupleIter i1 l1 (k1 + 1) := ((q2.extBut e3.extBut D.TOi1.symm).extBut e4.extBut D.i12).extBut e5.extBut D.TOi1.symm
  have r2 : h5.IsListIter i2 l2 (k2 + 1) := q4.extBut e5.extBut D.TOi2.symm
  have zl : z < h5.objs.size := Heap.lt_size z5
  show wpAny _ _ (Builtin.SmallTypes.ownedTupleHandOut (Value.ref z) (Value.ref h5.objs.size) >>= _) _ _ _
  refine wpAny_bind ?_
  unfold Builtin.SmallTypes.ownedTupleHandOut; have z6 : IsZip (h5.push { cls := .type "tuple", data := .seq #[x, y] }) z TI TO .ellipsis := Heap.get?_push_of_some _ z5
  refine wpAny_bind (wpAny_setField_rec z6 (by simp) fun h7 z7 e7 => ?_)
  replace z7 : IsZip h7 z TI TO (rawInt h5.objs.size) := z7
  refine wpAny_setField_rec z7 (by simp) fun h8 z8 e8 => ?_
  replace z8 : IsZip h8 z TI TO (rawInt h5.objs.size) := z8
  have up : ∀ c o, c ≠ z → h5.get? c = some o → h8.get? c = some o := fun c o c1 e => e8.extBut _ _ c1 (e7.extBut _ _ c1 (Heap.get?_push_of_some _ e))
  have t8 : IsPair h8 h5.objs.size x y := e8.extBut _ _ (Nat.ne_of_gt zl) (e7.extBut _ _ (Nat.ne_of_gt zl) (Heap.get?_push_size _ rfl))
  have n8 : h8.objs.size = h5.objs.size + 1 := by rw [e8.1, e7.1, Heap.size_push]
  rw [sz] at z8 t8 n8
  refine wpAny_pure ⟨_, rfl, ?_⟩; show Q (.ref h5.objs.size) _
  rw [sz]
  exact q h8 z8 (up _ _ D.TOz o5) (r1.at fun o e => up _ o D.i1z e) (r2.at fun o e => up _ o D.i2z e) t8 n8 fun c o c1 c2 c3 c4 e => up c o c1 (k5 c o c1 c2 c3 c4 e)
theorem zipT_end {z TI TO i1 i2 l1 l2 : Addr} {k1 : Nat} {xs : Array Value} {Q : Fin → Shared → Prop} (nh : A.handled = none) (D : ZipApart z TI TO i1 i2 l1 l2)
    (pz : IsZip s.heap z TI TO .none) (pI : IsPair s.heap TI (.ref i1) (.ref i2)) (p1 : s.heap.IsTupleIter i1 l1 k1) (t1 : s.heap.IsTuple l1 xs) (ex : xs[k1]? = none)
    (q : ∀ h' e, (∀ c o, c ≠ z → c ≠ i1 → s.heap.get? c = some o → h'.get? c = some o) → (∃ o, h'.get? e = some o ∧ o.cls = .type "StopIteration") → E (.ref e) { s with heap := h' }) : wpAny (model prog w) A (Builtin.«zip.__next__» ⟨[.ref z], []⟩) Q E s := by
  show wpAny _ _ (field (Value.ref z) 2 >>= _) _ _ _
  refine wpAny_bind (wpAny_field pz rfl (x := .bool false) rfl ?_)
  show wpAny _ _ (field (Value.ref z) 3 >>= _) _ _ _
  refine wpAny_bind (wpAny_field pz rfl (x := .ref TI) rfl (wpAny_bind (wpAny_seqItems pI rfl ?_)))
  show wpAny _ _ (Builtin.SmallTypes.ownedTupleIsFree (Value.ref z) >>= _) _ _ _
  refine wpAny_bind ?_
  unfold Builtin.SmallTypes.ownedTupleIsFree; refine wpAny_bind (wpAny_field pz rfl (x := .none) rfl (wpAny_pure ?_))
  simp only [if_true]
  refine wpAny_bind (wpAny_rule (wpAny_bind (wpAny_field pz rfl (x := .ref TO) rfl ?_)))
  refine wpAny_bind (wpAny_setField_rec pz (by simp) fun h1 z1 e1 => ?_)
  replace z1 : IsZip h1 z TI TO .ellipsis := z1
  refine wpAny_bind ?_
  simp only [List.zipIdx_nil, List.zipIdx_cons, List.forIn_nil, List.forIn_cons]
  refine wpAny_bind (wpAny_bind (wpAny_onRaise ?_)); show wpAny _ _ (Builtin.SmallTypes.nextOf (Value.ref i1) >>= _) _ _ _
  refine wpAny_bind (nextT_end nh (p1.extBut e1.extBut D.i1z) (t1.extBut e1.extBut D.l1z) ex fun h2 e e2 he => ?_)
  obtain ⟨oe, hoe, hce⟩ := he
  have z2 : IsZip h2 z TI TO .ellipsis := e2 _ _ D.i1z.symm z1
  have hez : e ≠ z := fun g => by subst g; rw [z2] at hoe; cases hoe; simp at hce
  refine wpAny_setField_rec z2 (by simp) fun h3 _ e3 => q h3 e (fun c o c1 c3 g => e3.extBut _ _ c1 (e2 _ _ c3 (e1.extBut _ _ c1 g))) ⟨oe, e3.extBut _ _ hez hoe, hce⟩
theorem pyNext_zipT_item {z TI TO i1 i2 l1 l2 : Addr} {k1 k2 : Nat} {xs ys : Array Value} {x y a b : Value} {Q : Option Value → Shared → Prop} (D : ZipApart z TI TO i1 i2 l1 l2)
    (pz : IsZip s.heap z TI TO .none) (pI : IsPair s.heap TI (.ref i1) (.ref i2)) (pO : IsPair s.heap TO a b)
    (p1 : s.heap.IsTupleIter i1 l1 k1) (p2 : s.heap.IsListIter i2 l2 k2) (t1 : s.heap.IsTuple l1 xs) (t2 : s.heap.IsList l2 ys) (ex : xs[k1]? = some x) (ey : ys[k2]? = some y)
    (q : ∀ h', IsZip h' z TI TO (rawInt s.heap.objs.size) → IsPair h' TO x y → h'.IsTupleIter i1 l1 (k1 + 1) → h'.IsListIter i2 l2 (k2 + 1) → IsPair h' s.heap.objs.size x y → h'.objs.size = s.heap.objs.size + 1 →
      (∀ c o, c ≠ z → c ≠ TO → c ≠ i1 → c ≠ i2 → s.heap.get? c = some o → h'.get? c = some o) → Q (some (.ref s.heap.objs.size)) { s with heap := h' }) : wpAny (model prog w) A (pyNext (.ref z)) Q E s := by
  have ty : s.TypeIs (.ref z) "zip" := ⟨_, pz, rfl⟩
  unfold pyNext
  exact wpAny_bind (wpAny_attempt (wpAny_callSpecial?_slot (name := Str.ofString "__next__") ty F.slot_zip_next (wpAny_call_entry F.slot_zip_next ty F.entry_zip_next
    (zipT_item D pz pI pO p1 p2 t1 t2 ex ey fun h' a1 a2 a3 a4 a5 a6 a7 => wpAny_pure (q h' a1 a2 a3 a4 a5 a6 a7)) (F.args_zip_next_1 _))))
theorem pyNext_zipT_end {z TI TO i1 i2 l1 l2 : Addr} {k1 : Nat} {xs : Array Value} {Q : Option Value → Shared → Prop} (nh : A.handled = none) (D : ZipApart z TI TO i1 i2 l1 l2)
    (pz : IsZip s.heap z TI TO .none) (pI : IsPair s.heap TI (.ref i1) (.ref i2)) (p1 : s.heap.IsTupleIter i1 l1 k1) (t1 : s.heap.IsTuple l1 xs) (ex : xs[k1]? = none)
    (q : ∀ h', (∀ c o, c ≠ z → c ≠ i1 → s.heap.get? c = some o → h'.get? c = some o) → Q none { s with heap := h' }) : wpAny (model prog w) A (pyNext (.ref z)) Q E s := by
  have ty : s.TypeIs (.ref z) "zip" := ⟨_, pz, rfl⟩
  unfold pyNext
  refine wpAny_bind (wpAny_attempt (wpAny_callSpecial?_slot (name := Str.ofString "__next__") ty F.slot_zip_next (wpAny_call_entry F.slot_zip_next ty F.entry_zip_next (zipT_end nh D pz pI p1 t1 ex fun h' e hk he => ?_) (F.args_zip_next_1 _))))
  obtain ⟨o, ho, hc⟩ := he
  exact wpAny_bind (wpAny_isInstance (T := "StopIteration") (b := true) ⟨o, ho, hc⟩ isSubtype_stop (wpAny_pure (q _ hk)))
end
noncomputable abbrev zt1 (h : Heap) (l1 : Addr) : Heap := h.push { cls := .type "tuple_iterator", data := .fields #[.ref l1, .int 0 0] }
noncomputable abbrev zt2 (h : Heap) (l1 l2 : Addr) : Heap := (zt1 h l1).push { cls := .type "list_iterator", data := .fields #[.ref l2, .int 0 0] }
noncomputable abbrev zt3 (h : Heap) (l1 l2 : Addr) : Heap := (zt2 h l1 l2).push { cls := .type "tuple", data := .seq #[.ref h.objs.size, .ref (zt1 h l1).objs.size] }
noncomputable abbrev zt4 (h : Heap) (l1 l2 : Addr) : Heap := (zt3 h l1 l2).push { cls := .type "tuple", data := .seq #[.none, .none] }
noncomputable abbrev zt5 (h : Heap) (l1 l2 : Addr) : Heap := (zt4 h l1 l2).push { cls := .type "zip", data := .fields #[.none, .bool false, .bool false, .ref (zt2 h l1 l2).objs.size, .ref (zt3 h l1 l2).objs.size] }
theorem meets_zipT (l1 l2 : Addr) (xs ys : Array Value) :
    Meets (Builtin.«zip.__new__» ⟨[.type "zip", .ref l1, .ref l2], []⟩) (fun _ R s => s.heap.IsTuple l1 xs ∧ s.heap.IsList l2 ys ∧ R (.ok (.ret (.ref (zt4 s.heap l1 l2).objs.size))) { s with heap := zt5 s.heap l1 l2 }) :=
  .of_wp fun prog w A R s h => by
    obtain ⟨hp, g, d, tk, os⟩ := s
    obtain ⟨t1, t2, h⟩ := h
    have hsub := sub_zip
    have L1 : Heap.IsTuple (Shared.heap ⟨hp, g, d, tk, os⟩) l1 xs := t1
    have L2 : Heap.IsList (Shared.heap ⟨hp.push { cls := .type "tuple_iterator", data := .fields #[.ref l1, .int 0 0] }, g, d, tk, os⟩) l2 ys := Heap.IsList.push t2 _
    wp_walk using wpAny_pyIter_tuple L1, wpAny_pyIter_list L2
    exact ⟨_, rfl, h⟩
section
variable {prog : Program} {w : World} {A : Around} {E : Value → Shared → Prop} {s : Shared}
theorem call_zipT {l1 l2 : Addr} {xs ys : Array Value} {Q : Value → Shared → Prop} (t1 : s.heap.IsTuple l1 xs) (t2 : s.heap.IsList l2 ys)
    (q : ∀ h', IsZip h' (s.heap.objs.size + 4) (s.heap.objs.size + 2) (s.heap.objs.size + 3) .none → IsPair h' (s.heap.objs.size + 2) (.ref s.heap.objs.size) (.ref (s.heap.objs.size + 1)) →
      IsPair h' (s.heap.objs.size + 3) .none .none → h'.IsTupleIter s.heap.objs.size l1 0 → h'.IsListIter (s.heap.objs.size + 1) l2 0 → h'.objs.size = s.heap.objs.size + 5 →
      (∀ c o, s.heap.get? c = some o → h'.get? c = some o) → Q (.ref (s.heap.objs.size + 4)) { s with heap := h' }) : wpAny (model prog w) A (call (.type "zip") [.ref l1, .ref l2]) Q E s := by
  refine callType_new F.called_zip (by decide) (F.typeCall_zip_2 _ _) (F.newCall_zip_2 _ _) (fun obj => F.args_object_init_3 obj _ _) F.entry_zip_new (meets_zipT l1 l2 xs ys) ⟨t1, t2, ?_⟩
  have z1 : (zt1 s.heap l1).objs.size = s.heap.objs.size + 1 := Heap.size_push ..
  have z2 : (zt2 s.heap l1 l2).objs.size = s.heap.objs.size + 2 := by rw [Heap.size_push, z1]
  have z3 : (zt3 s.heap l1 l2).objs.size = s.heap.objs.size + 3 := by rw [Heap.size_push, z2]
  have z4 : (zt4 s.heap l1 l2).objs.size = s.heap.objs.size + 4 := by rw [Heap.size_push, z3]
  have z5 : (zt5 s.heap l1 l2).objs.size = s.heap.objs.size + 5 := by rw [Heap.size_push, z4]
  have g5 : (zt5 s.heap l1 l2).get? (zt4 s.heap l1 l2).objs.size = some _ := Heap.get?_push_size _ rfl
  have g4 : (zt5 s.heap l1 l2).get? (zt3 s.heap l1 l2).objs.size = some _ := Heap.get?_push_of_some _ (Heap.get?_push_size _ rfl)
  have g3 : (zt5 s.heap l1 l2).get? (zt2 s.heap l1 l2).objs.size = some _ := Heap.get?_push_of_some _ (Heap.get?_push_of_some _ (Heap.get?_push_size _ rfl))
  have g2 : (zt5 s.heap l1 l2).get? (zt1 s.heap l1).objs.size = some _ := Heap.get?_push_of_some _ (Heap.get?_push_of_some _ (Heap.get?_push_of_some _ (Heap.get?_push_size _ rfl)))
  have g1 : (zt5 s.heap l1 l2).get? s.heap.objs.size = some _ := Heap.get?_push_of_some _ (Heap.get?_push_of_some _ (Heap.get?_push_of_some _ (Heap.get?_push_of_some _ (Heap.get?_push_size _ rfl))))
  show _ ∧ _
  rw [z2, z3, z4] at g5
  rw [z1, z2] at g3
  rw [z3] at g4
  rw [z1] at g2
  rw [z4]
  exact ⟨⟨_, g5, rfl⟩, q _ g5 g3 g4 ⟨_, g1, rfl, rfl⟩ ⟨_, g2, rfl, rfl⟩ z5 fun c o x => Heap.get?_push_of_some _ (Heap.get?_push_of_some _ (Heap.get?_push_of_some _ (Heap.get?_push_of_some _ (Heap.get?_push_of_some _ x))))⟩
end
noncomputable def Itzt (K : PySem.W.Frag) (a b : Addr) : It :=
  ⟨fun i H => ∃ (xs ys : List V) (x y : V), SqT K H a xs ∧ SqL K H b ys ∧ xs[i]? = some x ∧ ys[i]? = some y,
    fun i H v H' => ∃ T x y, v = .ref T ∧ H T = none ∧ H' = upd H T (.tup [x, y]) ∧ (∀ xs, SqT K H a xs → xs[i]? = some x) ∧ ∀ ys, SqL K H b ys → ys[i]? = some y,
    fun i H => ∃ xs : List V, SqT K H a xs ∧ xs.length ≤ i⟩
theorem turn_zipT {P : Program} {w : World} {K : PySem.W.Frag} {elts : List Expr} {kk : Nat} {tpos : Pos} {a b z TI TO i1 i2 : Addr} (D : ZipApart z TI TO i1 i2 a b) :
    Turn P w K (.Tuple elts kk tpos) (Itzt K a b) [z, TI, TO, i1, i2] z (fun i h => IsZip h z TI TO .none ∧ IsPair h TI (.ref i1) (.ref i2) ∧ (∃ x y, IsPair h TO x y) ∧ h.IsTupleIter i1 a i ∧ h.IsListIter i2 b i) where
  mem := by simp
  obj := fun i h st c hc => by
    obtain ⟨pz, pI, ⟨x, y, pO⟩, ⟨o1, e1, _, d1⟩, ⟨o2, e2, _, d2⟩⟩ := st
    have e' : c = z ∨ c = TI ∨ c = TO ∨ c = i1 ∨ c = i2 := by simpa using hc
    rcases e' with g | g | g | g | g
    · rw [g]; exact ⟨_, pz, fun v r => nomatch r⟩
    · rw [g]; exact ⟨_, pI, fun v r => nomatch r⟩
    · rw [g]; exact ⟨_, pO, fun v r => nomatch r⟩
    · rw [g]; exact ⟨o1, e1, fun v r => by rw [d1] at r; cases r⟩
    · rw [g]; exact ⟨o2, e2, fun v r => by rw [d2] at r; cases r⟩
  keep := fun i h h' st k => by
    obtain ⟨pz, pI, ⟨x, y, pO⟩, p1, p2⟩ := st
    exact ⟨k z (by simp) _ pz, k TI (by simp) _ pI, ⟨x, y, k TO (by simp) _ pO⟩, p1.at fun o g => k i1 (by simp) o g, p2.at fun o g => k i2 (by simp) o g⟩
  item := by
    intro X hP hw hK hc i pins s σ H E I hf st hg
    subst hP hw hK
    obtain ⟨pz, pI, ⟨x0, y0, pO⟩, p1, p2⟩ := st
    obtain ⟨xs, ys, x, y, qx, qy, hx, hy⟩ := hg
    obtain ⟨its, rv, p, _⟩ := I.tuple qx
    obtain ⟨its2, rv2, r2, _⟩ := I.list qy
    obtain ⟨u, hu, ru⟩ := rv.get hx
    obtain ⟨u2, hu2, ru2⟩ := rv2.get hy
    have zl : z < s.heap.objs.size := Heap.lt_size pz
    refine pyNext_zipT_item D pz pI pO p1 p2 p r2.isList (x := u) (y := u2) (by simpa using hu) (by simpa using hu2) fun h' z' TO' h1' h2' hT hsz hk => ?_
    refine ⟨_, rfl, wpAny_letOwnedTupleGo_zip (s := { s with heap := h' }) z' fun h'' z'' sb => ?_⟩
    have hT2 : h''.get? s.heap.objs.size = some { cls := .type "tuple", data := .seq #[u, u2] } := (sb.2 _ (Nat.ne_of_gt zl)).trans hT
    have new : ObjOk X.prog X.w (upd H s.heap.objs.size (.tup [x, y])) h'' s.heap.objs.size (.tup [x, y]) :=
      ⟨by show 2 ≤ sizeLine; decide, [u, u2], .cons ru (.cons ru2 .nil), ⟨_, hT2, rfl, _, rfl⟩⟩
    have I1 : Inv X pins σ (upd H s.heap.objs.size (.tup [x, y])) { s with heap := h'' } :=
      I.turnedNew (t' := s.toks) (ch := [z, TI, TO, i1, i2]) (fun c o hb g => (sb.2 c (fun g' => hb (by simp [g']))).trans (hk c o (fun g' => hb (by simp [g'])) (fun g' => hb (by simp [g'])) (fun g' => hb (by simp [g'])) (fun g' => hb (by simp [g'])) g)) hf (Nat.le_refl _) new
    refine ⟨.ref s.heap.objs.size, _, I1, rfl, ⟨_, x, y, rfl, I.hok.fresh (Nat.le_refl _), rfl, fun l hl => by rw [I.tuple_inj hl qx]; exact hx, fun l hl => by rw [I.list_inj hl qy]; exact hy⟩, ⟨z'', ?_, ⟨u, u2, ?_⟩, ?_, ?_⟩, fun c hcm => ?_⟩
    · exact (sb.2 _ D.TIz).trans (hk _ _ D.TIz D.TITO D.TIi1 D.TIi2 pI)
    · exact (sb.2 _ D.TOz).trans TO'
    · exact h1'.at fun o g => (sb.2 _ D.i1z).trans g
    · exact h2'.at fun o g => (sb.2 _ D.i2z).trans g
    · have hlt : c < s.heap.objs.size := by
        have e' : c = z ∨ c = TI ∨ c = TO ∨ c = i1 ∨ c = i2 := by simpa using hcm
        rcases e' with g | g | g | g | g
        · rw [g]; exact zl
        · rw [g]; exact Heap.lt_size pI
        · rw [g]; exact Heap.lt_size pO
        · rw [g]; obtain ⟨_, e1, _⟩ := p1; exact Heap.lt_size e1
        · rw [g]; obtain ⟨_, e2, _⟩ := p2; exact Heap.lt_size e2
      rw [upd_ne (Nat.ne_of_lt hlt)]
      exact (hf c hcm).1
  done := by
    intro X hP hw hK hc i pins s σ H E I hf st hg
    subst hP hw hK
    obtain ⟨pz, pI, ⟨x0, y0, pO⟩, p1, p2⟩ := st
    obtain ⟨xs, qx, hend⟩ := hg
    obtain ⟨its, rv, p, _⟩ := I.tuple qx
    have l1 := rv.length
    exact pyNext_zipT_end (I.ok.hd hc) D pz pI p1 p (by simp; omega) fun h' hk => ⟨rfl, I.turnedL (t' := s.toks) (ch := [z, TI, TO, i1, i2]) (fun c o hb g => hk c o (fun g' => hb (by simp [g'])) (fun g' => hb (by simp [g'])) g) hf⟩
  self := fun A i s Q E st h => wpAny_pyIter_zip st.1 h
noncomputable def iZipT (K : PySem.W.Frag) (ta : TA) : TI := fun σ H R => ta σ H fun vs H1 => ∃ a b xs ys, vs = [.ref a, .ref b] ∧ SqT K H1 a xs ∧ SqL K H1 b ys ∧ R (Itzt K a b) H1
theorem IsTup.lt' {h : Heap} {a : Addr} {its : Array Value} (t : IsTup h a its) : a < h.objs.size := let ⟨_, e, _⟩ := t; Heap.lt_size e
theorem pi_zipT {X : Cx} {e e2 : Expr} {ta : TA} {p pos tpos : Pos} {elts : List Expr} {kk : Nat} (hg : Gl X "zip") (hm : X.mg "zip" = none) (ha : PA X [e, e2] ta)
    (hs : starEach [e, e2] X.env = (false, eval e X.env) :: starEach [e2] X.env := by rfl) (hpl : (backTo pos (starEach [e2] X.env)).any (·.1) = false := by rfl) : PI X (.Tuple elts kk tpos) (.Call (.Name "zip" p) [e, e2] [] pos) (iZipT X.K ta) := by
  intro pins s σ H R I h
  refine Call_ (ld_blt I hg hm boot_zip5 (PyProof.Rows.callWith_type1 (thn (ha pos pins s σ H _ I h) fun us s1 zz => ex5 zz fun vs H1 I1 r1 q1 => ?_) hs hpl))
  obtain ⟨a, b, xs, ys, ex, qx, qy, q⟩ := q1
  subst ex
  cases r1 with
  | cons r rr =>
    cases rr with
    | cons r' rr =>
      cases rr
      cases r
      cases r'
      obtain ⟨its, rv, p1, _⟩ := I1.tuple qx
      obtain ⟨its2, rv2, p2, _⟩ := I1.list qy
      refine call_zipT p1 p2.isList fun h' hz hTI hTO h1 h2 hsz hk => wpAny_pyIter_zip hz ?_
      have I2 : Inv X pins σ H1 { s1 with heap := h' } := I1.kept (t' := s1.toks) hk
      refine ⟨s1.heap.objs.size + 4, [s1.heap.objs.size + 4, s1.heap.objs.size + 2, s1.heap.objs.size + 3, s1.heap.objs.size, s1.heap.objs.size + 1], _, _, H1, rfl, I2, turn_zipT (PySem.W.ktu_apart s1.heap.objs.size a b (IsTup.lt' p1) p2.lt), ⟨hz, hTI, ⟨_, _, hTO⟩, h1, h2⟩, fun c hcm => ?_, q⟩
      have e' : c = s1.heap.objs.size + 4 ∨ c = s1.heap.objs.size + 2 ∨ c = s1.heap.objs.size + 3 ∨ c = s1.heap.objs.size ∨ c = s1.heap.objs.size + 1 := by simpa using hcm
      have hle : s1.heap.objs.size ≤ c := by rcases e' with z | z | z | z | z <;> rw [z] <;> first | exact Nat.le_add_right _ _ | exact Nat.le_refl _
      exact I1.fpOk hle (I1.hok.fresh hle)
theorem lc_zipT {K : PySem.W.Frag} {a b : Addr} {xs ys : List V} {g : TG} {tt : TT} {te : TE} {vs : List Nat} {σ : L2.St} {H1 : Hp} {D : Addr} {Qd : Hp → Prop} (len : ys.length = xs.length) (Pv : Nat → Hp → Prop) (h0 : Pv 0 (upd H1 D (.lst [])))
    (hl : ∀ i H, i ≤ xs.length → Pv i H → SqT K H a xs ∧ SqL K H b ys)
    (hs : ∀ i x y H T, xs[i]? = some x → ys[i]? = some y → Pv i H → H T = none → g (.ref T) (wipe σ vs) (upd H T (.tup [x, y])) fun σ2 H2 => wipe σ2 vs = wipe σ vs ∧ tt σ2 H2 fun b H3 =>
      if b = true then te σ2 H3 fun y H4 => ∃ acc, H4 D = some (.lst acc) ∧ acc.length < sizeLine ∧ Pv (i + 1) (upd H4 D (.lst (acc ++ [y]))) else Pv (i + 1) H3) (hd : ∀ H, Pv xs.length H → Qd H) :
    ∃ W : Nat → Nat → Hp → Prop, (∃ m, W 0 m (upd H1 D (.lst []))) ∧ ∀ i m H, W i m H →
      ((Itzt K a b).stop i H ∧ Qd H) ∨ ((Itzt K a b).go i H ∧ ∃ Nx : Hp → Prop, (∀ H', Nx H' → ∃ m', m' < m ∧ W (i + 1) m' H') ∧ ∀ x H', (Itzt K a b).yld i H x H' → g x (wipe σ vs) H' fun σ2 H2 => wipe σ2 vs = wipe σ vs ∧ tt σ2 H2 fun b H3 =>
        if b = true then te σ2 H3 fun y H4 => ∃ acc, H4 D = some (.lst acc) ∧ acc.length < sizeLine ∧ Nx (upd H4 D (.lst (acc ++ [y]))) else Nx H3) := by
  refine ⟨fun i m H => m = xs.length - i ∧ i ≤ xs.length ∧ Pv i H, ⟨xs.length, by simp, Nat.zero_le _, h0⟩, ?_⟩
  rintro i m H ⟨rfl, hi, p⟩
  obtain ⟨qa, qb⟩ := hl i H hi p
  by_cases hlt : i < xs.length
  · refine .inr ⟨⟨xs, ys, xs[i], ys[i]'(by omega), qa, qb, by simp [hlt], by simp [len, hlt]⟩, Pv (i + 1), fun H' p' => ⟨xs.length - (i + 1), by omega, rfl, hlt, p'⟩, fun x H' y => ?_⟩
    obtain ⟨T, u, v, rfl, hT, rfl, hu, hv⟩ := y
    exact hs i u v H T (hu xs qa) (hv ys qb) p hT
  · have e : i = xs.length := by omega
    subst e
    exact .inl ⟨⟨xs, qa, Nat.le_refl _⟩, hd H p⟩
end Pw
end
section
set_option Elab.async false
set_option maxRecDepth 100000
set_option maxHeartbeats 2000000
namespace Pw
open PySem PySem.Spec PyProof.Rows L2
def Ents (h : Heap) (d : Addr) (es : Array DictEntry) (ep : Nat) : Prop := ∃ o, h.get? d = some o ∧ o.ExactDict ∧ o.data = .dict es ep
theorem Ents.at {h h' : Heap} {d : Addr} {es : Array DictEntry} {ep : Nat} (x : Ents h d es ep) (k : ∀ o, h.get? d = some o → h'.get? d = some o) : Ents h' d es ep := let ⟨o, e, r⟩ := x; ⟨o, k o e, r⟩
theorem Ents.typeIs {s : Shared} {d : Addr} {es : Array DictEntry} {ep : Nat} (x : Ents s.heap d es ep) : s.TypeIs (.ref d) "dict" := let ⟨o, e, c, _⟩ := x; ⟨o, e, c.1⟩
theorem Ents.lt {h : Heap} {d : Addr} {es : Array DictEntry} {ep : Nat} (x : Ents h d es ep) : d < h.objs.size := let ⟨_, e, _⟩ := x; Heap.lt_size e
section
variable {prog : Program} {w : World} {A : Around} {E : Value → Shared → Prop} {s : Shared}
theorem walks_keys (nh : A.handled = none) (I d : Addr) (ne : d ≠ I) (es : Array DictEntry) (ep : Nat) :
    Walks prog w A I [I, d] [I] es.size (fun i v => ∃ en, es[i]? = some en ∧ v = en.key) (fun i h => h.IsKeyIter I d i es.size ep ∧ Ents h d es ep) where
  sub := fun b hb => by (simp at hb; simp [hb])
  frame := fun _ _ _ st hk => ⟨st.1.at fun o e => hk I (by simp) o e, st.2.at fun o e => hk d (by simp) o e⟩
  item := fun i s Q E hi st q0 => by
    obtain ⟨it, o, ho, hc, hd⟩ := st
    refine next_key_item it ho hd rfl (en := es[i]) (by simp [hi]) fun h' it' sb => ?_
    exact q0 _ h' s.toks ⟨es[i], by simp [hi], rfl⟩ ⟨it', o, sb.extBut _ _ ne ho, hc, hd⟩ fun b ob hb e => sb.extBut b ob (fun g => hb (by simp [g])) e
  done := fun s Q E st hQ => by
    obtain ⟨it, o, ho, hc, hd⟩ := st
    exact next_key_end nh it ho hd rfl (Nat.le_refl _) fun h' eb => hQ h' s.toks fun b ob hb e => eb b ob (fun g => hb (by simp [g])) e
  self := fun _ _ _ _ st q0 => wpAny_pyIter_keyiter st.1 q0
theorem src_keys {d : Addr} {es : Array DictEntry} {ep : Nat} (lo : (d == sysModules) = false) : PySem.W.KdlSrc prog w "dict" d d es.size (fun i v => ∃ en, es[i]? = some en ∧ v = en.key) (fun h => Ents h d es ep) where
  type := fun _ m => m.typeIs
  there := fun _ m => ⟨m.lt, m.lt⟩
  keep := fun _ _ m hk => m.at fun o e => hk d (.inl rfl) o e
  notList := by decide
  notTuple := by decide
  hint := fun _ _ _ _ m q => PySem.W.kdl_hint_dict m.typeIs q
  iter := fun A s nh m => by
    obtain ⟨o, ho, hc, hd⟩ := id m
    exact ⟨_, _, (fun _ _ q => iter_keys lo ho hc hd q), walks_keys nh _ d (Nat.ne_of_lt m.lt) es ep, ⟨⟨_, Heap.get?_push_size _ rfl, rfl, rfl⟩, m.at fun o e => Heap.get?_push_of_some _ e⟩⟩
theorem next_val_item {it d : Addr} {i ep : Nat} {od : Obj} {es : Array DictEntry} {en : DictEntry} {Q : Option Value → Shared → Prop} (hit : s.heap.IsValIter it d i es.size ep) (god : s.heap.get? d = some od) (gdd : od.data = .dict es ep)
    (gx : es[i]? = some en) (q : ∀ h', h'.IsValIter it d (i + 1) es.size ep → Heap.SameBut it s.heap h' → Q (some en.val) { s with heap := h' }) : wpAny (model prog w) A (pyNext (.ref it)) Q E s := by
  obtain ⟨o, go, gc, gd⟩ := id hit
  unfold pyNext
  refine wpAny_bind (wpAny_attempt (wpAny_callSpecial?_slot (name := Str.ofString "__next__") hit.typeIs F.slot_dict_valueiterator_next (wpAny_call_entry F.slot_dict_valueiterator_next hit.typeIs F.entry_dict_valueiterator_next ?_ (F.args_dict_valueiterator_next_1 _))))
  refine wpAny_bind (wpAny_pure (wpAny_bind (wpAny_bind ?_)))
  first | refine wpAny_bind (wpAny_typeNameOfWhole_valiter hit.typeIs (wpAny_pure (wpAny_bind (wpAny_fieldsOf go gd ?_)))) | refine wpAny_bind (wpAny_typeNameOf_valiter hit.typeIs (wpAny_pure (wpAny_bind (wpAny_fieldsOf go gd ?_))))
  have own : Builtin.Dict_items.ownsTuple "dict_valueiterator" = false := by decide
  simp only [own, if_false, Bool.false_eq_true]
  show wpAny _ _ (if (Value.ref d == .none) = true then _ else _) _ _ s
  rw [if_neg (show ¬ (Value.ref d == .none) = true from Bool.false_ne_true)]
  refine wpAny_bind (wpAny_pure (wpAny_bind (wpAny_dictEntries god gdd ?_)))
  rw [if_neg (by simp)]
  refine wpAny_bind (wpAny_pure (wpAny_bind (wpAny_dictEpoch god gdd ?_)))
  rw [if_neg (by simp)]
  refine wpAny_pure ?_
  obtain ⟨lt, e1⟩ := Array.getElem?_eq_some_iff.mp gx
  simp only [show ¬ ((i : Int) < 0) from by omega, Int.toNat_natCast, if_false]
  rw [Array.getElem?_eq_getElem lt]
  refine wpAny_bind ?_
  first | refine wpAny_bind (wpAny_typeNameOfWhole_valiter hit.typeIs (wpAny_pure (wpAny_bind (wpAny_isOneOf_valiter hit.typeIs ?_)))) | refine wpAny_bind (wpAny_typeNameOf_valiter hit.typeIs (wpAny_pure (wpAny_bind (wpAny_isOneOf_valiter hit.typeIs ?_))))
  show wpAny _ _ (setField (Value.ref it) 1 (rawInt ((i : Int) + 1)) >>= _) _ _ s
  refine wpAny_bind (wpAny_setField go gd (by simp) ?_)
  have it2 : (s.heap.update it (Obj.mapFields (·.setIfInBounds 1 (rawInt ((i : Int) + 1))))).IsValIter it d (i + 1) es.size ep :=
    ⟨_, Heap.get?_update_self _ go (Obj.isFreed_of_fields (Obj.data_mapFields gd _)), (Obj.cls_mapFields ..).trans gc, by rw [Obj.data_mapFields gd]; simp [rawInt]⟩
  refine wpAny_bind (wpAny_holding ?_)
  refine wpAny_bind (wpAny_isOneOf_valiter (s := { s with heap := s.heap.update it (Obj.mapFields (·.setIfInBounds 1 (rawInt ((i : Int) + 1)))) }) it2.typeIs (wpAny_bind (wpAny_isOneOf_valiter (s := { s with heap := s.heap.update it (Obj.mapFields (·.setIfInBounds 1 (rawInt ((i : Int) + 1)))) }) it2.typeIs ?_)))
  show wpAny _ _ (pure es[i].val) _ _ _; rw [e1]
  exact wpAny_pure (wpAny_pure ⟨_, rfl, wpAny_pure (q _ it2 (Heap.SameBut.update ..))⟩)
theorem next_val_end {it d : Addr} {ep : Nat} {od : Obj} {es : Array DictEntry} {Q : Option Value → Shared → Prop} (nh : A.handled = none) (hit : s.heap.IsValIter it d es.size es.size ep) (god : s.heap.get? d = some od) (gdd : od.data = .dict es ep)
    (q : ∀ h', Heap.ExtBut it s.heap h' → Q none { s with heap := h' }) : wpAny (model prog w) A (pyNext (.ref it)) Q E s := by
  obtain ⟨o, go, gc, gd⟩ := id hit
  unfold pyNext
  refine wpAny_bind (wpAny_attempt (wpAny_callSpecial?_slot (name := Str.ofString "__next__") hit.typeIs F.slot_dict_valueiterator_next (wpAny_call_entry F.slot_dict_valueiterator_next hit.typeIs F.entry_dict_valueiterator_next ?_ (F.args_dict_valueiterator_next_1 _))))
  refine wpAny_bind (wpAny_pure (wpAny_bind (wpAny_bind ?_)))
  first | refine wpAny_bind (wpAny_typeNameOfWhole_valiter hit.typeIs (wpAny_pure (wpAny_bind (wpAny_fieldsOf go gd ?_)))) | refine wpAny_bind (wpAny_typeNameOf_valiter hit.typeIs (wpAny_pure (wpAny_bind (wpAny_fieldsOf go gd ?_))))
  have own : Builtin.Dict_items.ownsTuple "dict_valueiterator" = false := by decide
  simp only [own, if_false, Bool.false_eq_true]
  show wpAny _ _ (if (Value.ref d == .none) = true then _ else _) _ _ s
  rw [if_neg (show ¬ (Value.ref d == .none) = true from Bool.false_ne_true)]
  refine wpAny_bind (wpAny_pure (wpAny_bind (wpAny_dictEntries god gdd ?_)))
  rw [if_neg (by simp)]
  refine wpAny_bind (wpAny_pure (wpAny_bind (wpAny_dictEpoch god gdd ?_)))
  rw [if_neg (by simp)]
  refine wpAny_pure ?_
  simp only [show ¬ (((es.size : Nat) : Int) < 0) from by omega, Int.toNat_natCast, if_false]
  rw [Array.getElem?_eq_none (Nat.le_refl es.size)]
  refine wpAny_bind ?_
  (first | refine wpAny_bind (wpAny_typeNameOfWhole_valiter hit.typeIs (wpAny_pure ?_)) | refine wpAny_bind (wpAny_typeNameOf_valiter hit.typeIs (wpAny_pure ?_))); show wpAny _ _ (setField (Value.ref it) 0 .none >>= _) _ _ s
  refine wpAny_bind (wpAny_setField go gd (by simp) ?_)
  show wpAny _ _ (newExc (Value.type "StopIteration") [] >>= _) _ _ _
  refine wpAny_bind ?_
  simp only [newTuple, newExc]
  refine wpAny_bind (wpAny_newObj_type ?_ (by size_fits))
  refine wpAny_bind (m := firstArgMember _ _) (wpAny_of_eq (a := .none) (by first | rfl | (simp only [firstArgMember]; rfl)) ?_)
  refine wpAny_newObj_type ?_ (by size_fits)
  simp only [raiseNew]
  refine wpAny_bind (wpAny_handled ?_)
  rw [show A.in1.handled = none from nh]
  refine wpAny_bind (wpAny_pure (wpAny_throw ?_))
  refine wpAny_bind (wpAny_isInstance (b := true) (T := "StopIteration") ⟨_, Heap.get?_push_size _ rfl, rfl⟩ isSubtype_stop ?_)
  exact wpAny_pure (q _ (((Heap.SameBut.update ..).extBut.push _).push _))
theorem walks_vals (nh : A.handled = none) (I d : Addr) (ne : d ≠ I) (es : Array DictEntry) (ep : Nat) :
    Walks prog w A I [I, d] [I] es.size (fun i v => ∃ en, es[i]? = some en ∧ v = en.val) (fun i h => h.IsValIter I d i es.size ep ∧ Ents h d es ep) where
  sub := fun b hb => by (simp at hb; simp [hb])
  frame := fun _ _ _ st hk => ⟨st.1.at fun o e => hk I (by simp) o e, st.2.at fun o e => hk d (by simp) o e⟩
  item := fun i s Q E hi st q0 => by
    obtain ⟨it, o, ho, hc, hd⟩ := st
    refine next_val_item it ho hd (en := es[i]) (by simp [hi]) fun h' it' sb => ?_
    exact q0 _ h' s.toks ⟨es[i], by simp [hi], rfl⟩ ⟨it', o, sb.extBut _ _ ne ho, hc, hd⟩ fun b ob hb e => sb.extBut b ob (fun g => hb (by simp [g])) e
  done := fun s Q E st hQ => by
    obtain ⟨it, o, ho, hc, hd⟩ := st
    exact next_val_end nh it ho hd fun h' eb => hQ h' s.toks fun b ob hb e => eb b ob (fun g => hb (by simp [g])) e
  self := fun _ _ _ _ st q0 => wpAny_pyIter_valiter st.1 q0
theorem iter_vals {v d : Addr} {es : Array DictEntry} {ep : Nat} {Q : Value → Shared → Prop} (gv : s.heap.IsValuesView v d) (m : Ents s.heap d es ep)
    (q : Q (.ref s.heap.objs.size) { s with heap := s.heap.push { cls := .type "dict_valueiterator", data := .fields #[.ref d, .int 0 0, .int es.size 0, .int ep 0] } }) : wpAny (model prog w) A (pyIter (.ref v)) Q E s := by
  obtain ⟨ov, gov, gcv, gdv⟩ := id gv
  obtain ⟨o, go, gc, gd⟩ := m
  refine wpAny_pyIter_slot gv.typeIs F.slot_dict_values_iter (wpAny_call_entry F.slot_dict_values_iter gv.typeIs F.entry_dict_values_iter ?_ (F.args_dict_values_iter_1 _))
  unfold Builtin.«dict_values.__iter__»; refine wpAny_bind (wpAny_pure (wpAny_bind ?_))
  unfold Builtin.Dict_items.dictOf; refine wpAny_bind (wpAny_field gov gdv (x := .ref d) rfl (wpAny_pure (wpAny_bind ?_)))
  unfold Builtin.Dict_items.newIterator; refine wpAny_bind (wpAny_dictEntries go gd (wpAny_bind (wpAny_dictEpoch go gd ?_)))
  have own : Builtin.Dict_items.ownsTuple "dict_valueiterator" = false := by decide
  simp only [own, if_false, Bool.false_eq_true]
  refine wpAny_newObj_type (wpAny_pure ⟨_, rfl, "dict_valueiterator", _, ⟨_, Heap.get?_push_size _ rfl, rfl⟩, F.slot_dict_valueiterator_next.lookup, ?_⟩); simpa [rawInt] using q
theorem src_vals {r d : Addr} {es : Array DictEntry} {ep : Nat} : PySem.W.KdlSrc prog w "dict_values" r d es.size (fun i v => ∃ en, es[i]? = some en ∧ v = en.val) (fun h => h.IsValuesView r d ∧ Ents h d es ep) where
  type := fun _ m => m.1.typeIs
  there := fun _ m => ⟨let ⟨_, ho, _⟩ := m.1; Heap.lt_size ho, m.2.lt⟩
  keep := fun _ _ m hk => ⟨let ⟨o, ho, x⟩ := m.1; ⟨o, hk r (.inl rfl) o ho, x⟩, m.2.at fun o e => hk d (.inr rfl) o e⟩
  notList := by decide
  notTuple := by decide
  hint := fun _ _ _ _ m q => PySem.W.kdl_hint_values m.1.typeIs q
  iter := fun A s nh m => ⟨_, _, (fun _ _ q => iter_vals m.1 m.2 q), walks_vals nh _ d (Nat.ne_of_lt m.2.lt) es ep, ⟨⟨_, Heap.get?_push_size _ rfl, rfl, rfl⟩, m.2.at fun o e => Heap.get?_push_of_some _ e⟩⟩
theorem meets_vals (d : Addr) (lo : (d == sysModules) = false) :
    MeetsIn prog w (Builtin.«dict.values» ⟨[.ref d], []⟩) (fun _ R s => s.TypeIs (.ref d) "dict" ∧ R (.ok (.ret (.ref s.heap.objs.size))) { s with heap := s.heap.push { cls := .type "dict_values", data := .fields #[.ref d] } }) :=
  .of_wp fun A R s zz => by
    have ty := zz.1; have h := zz.2
    refine wpAny_bind ?_
    unfold Builtin.Dict.noArgs
    refine wpAny_bind (wpAny_notOrdered_dict ty ?_)
    show wpAny _ _ (pure d) _ _ s
    refine wpAny_pure ?_
    show wpAny _ _ (Builtin.Dict.showsAll d >>= _) _ _ s
    unfold Builtin.Dict.showsAll
    rw [if_neg (by rw [lo]; exact Bool.false_ne_true)]
    exact wpAny_bind (wpAny_pure (wpAny_bind (wpAny_newObj_type (wpAny_pure ⟨_, rfl, h⟩))))
end
section
variable {X : Cx} {pins : List (Addr × Obj)} {σ : L2.St} {H : Hp} {s : Shared} {d : Addr}
theorem dT_ents {kvs : List (List Key × V)} (I : Inv X pins σ H s) (h : H d = some (.dT kvs)) :
    (d == sysModules) = false ∧ kvs.length ≤ sizeLine ∧ ∃ (es : Array DictEntry) (ep : Nat), Ents s.heap d es ep ∧ es.size = kvs.length ∧
      ∀ (i : Nat) (k : List Key) (v : V), kvs[i]? = some (k, v) → ∃ (en : DictEntry) (q : Addr), es[i]? = some en ∧ en.key = .ref q ∧ H q = some (.tup (k.map kV)) ∧ RelV v en.val := by
  obtain ⟨z, hs, xs, pr, o, es, ep, ho, hx, hdt, he, _⟩ := I.hok d _ h
  refine ⟨hs, z, es, ep, ⟨o, ho, hx, hdt⟩, ?_, fun i k v e => ?_⟩
  · have l1 : es.size = xs.length := size_of_entries he
    have l2 : kvs.length = xs.length := Paired.length pr
    omega
  · obtain ⟨b, hb, e1, e2, e3⟩ := paired_get pr e
    have q := entry_at he i
    rw [hb] at q
    exact ⟨_, b.2.1, q, rfl, e2, e3⟩
end
noncomputable def rListK : List V → Hp → VK → Prop := fun xs H Q => ∃ (d : Addr) (kvs : List (List Key × V)), xs = [.ref d] ∧ H d = some (.dT kvs) ∧
  ∀ (l : Addr) (qs : List Addr), H l = none → qs.length = kvs.length → (∀ (i : Nat) (q : Addr) (k : List Key) (v : V), qs[i]? = some q → kvs[i]? = some (k, v) → H q = some (.tup (k.map kV))) → Q (.ref l) (upd H l (.lst (qs.map V.ref)))
theorem vals_at {xs : List V} {us : List Value} (hl : xs.length = us.length) (h : ∀ (i : Nat) (x : V) (u : Value), xs[i]? = some x → us[i]? = some u → RelV x u) : Vals xs us := by
  induction xs generalizing us with
  | nil =>
    cases us with
    | nil => exact .nil
    | cons _ _ => simp at hl
  | cons x xs ih =>
    cases us with
    | nil => simp at hl
    | cons u us => exact .cons (h 0 x u rfl rfl) (ih (by simpa using hl) fun i x' u' e1 e2 => h (i + 1) x' u' (by simpa using e1) (by simpa using e2))
theorem call_listK {X : Cx} (hc : X.calm = true) : CallR X (.type "list") rListK := by
  intro pins s σ H xs us Q I r h
  obtain ⟨d, kvs, rfl, hd, q⟩ := h
  obtain ⟨u, rfl, rx⟩ := vals1 r
  cases rx
  obtain ⟨lo, z, es, ep, en, sz, at_⟩ := dT_ents I hd
  have ex : ∀ i : Nat, i < kvs.length → ∃ q : Addr, ∃ k v, kvs[i]? = some (k, v) ∧ (∃ e, es[i]? = some e ∧ e.key = .ref q) ∧ H q = some (.tup (k.map kV)) := fun i hi => by
    obtain ⟨⟨k, v⟩, hkv⟩ : ∃ p, kvs[i]? = some p := ⟨kvs[i], List.getElem?_eq_getElem hi⟩
    obtain ⟨e, qq, e1, e2, e3, _⟩ := at_ i k v hkv
    exact ⟨qq, k, v, hkv, ⟨e, e1, e2⟩, e3⟩
  let qs : List Addr := (List.range kvs.length).map fun i => if h : i < kvs.length then (ex i h).choose else 0
  have lq : qs.length = kvs.length := by simp [qs]
  have qat : ∀ i (hi : i < kvs.length), qs[i]? = some (ex i hi).choose := fun i hi => by simp [qs, hi]
  refine PySem.W.kdl_call (src_keys lo) (I.ok.hd hc) en (by rw [sz]; exact z) fun h' tk acc c' hk hS it => ?_
  obtain ⟨ia, ib⟩ := it
  have vl : Vals (qs.map V.ref) acc.toList := vals_at (by simp [lq, ia, sz]) fun i x u e1 e2 => by
    have hi : i < kvs.length := by
      have := (List.getElem?_eq_some_iff.1 e1).1
      simpa [lq] using this
    rw [List.getElem?_map, qat i hi] at e1
    obtain rfl : V.ref (ex i hi).choose = x := by simpa using e1
    obtain ⟨k, v, hkv, ⟨e, e3, e4⟩, _⟩ := (ex i hi).choose_spec
    obtain ⟨e', e5, e6⟩ := ib i u (by rw [← Array.getElem?_toList]; exact e2)
    rw [e3] at e5
    obtain rfl := Option.some.inj e5
    show u = Value.ref _
    rw [e6, e4]
  refine ⟨.ref s.heap.objs.size, _, I.laid (t' := tk) hk (Nat.le_refl _) (show ObjOk X.prog X.w _ h' _ (.lst (qs.map V.ref)) from ⟨by rw [List.length_map, lq]; exact z, acc.toList, c', vl, by simpa using hS⟩), rfl, q _ qs (I.hok.fresh (Nat.le_refl _)) lq fun i qq k v e1 e2 => ?_⟩
  have hi : i < kvs.length := (List.getElem?_eq_some_iff.1 e2).1
  rw [qat i hi] at e1
  obtain rfl := Option.some.inj e1; obtain ⟨k', v', hkv, _, e3⟩ := (ex i hi).choose_spec
  rw [hkv] at e2
  obtain ⟨rfl, rfl⟩ := Prod.mk.inj (Option.some.inj e2)
  exact e3
noncomputable def tListV (td : TE) : TE := fun σ H Q => td σ H fun x H1 => ∃ (d : Addr) (kvs : List (List Key × V)), x = .ref d ∧ H1 d = some (.dT kvs) ∧ ∀ l, H1 l = none → Q (.ref l) (upd H1 l (.lst (kvs.map (·.2))))
theorem pe_listV {X : Cx} {e : Expr} {td : TE} {p pos apos cpos : Pos} (hc : X.calm = true) (hg : Gl X "list") (hm : X.mg "list" = none) (he : PE X e td)
    (hbase : attributeBase e "values" X.env (eval e X.env) = eval e X.env := by rfl) (hline : (apos.endLine == cpos.line) = true := by rfl)
    (hs : starEach [.Call (.Attribute e "values" apos) [] [] cpos] X.env = [(false, eval (.Call (.Attribute e "values" apos) [] [] cpos) X.env)] := by rfl) :
    PE X (.Call (.Name "list" p) [.Call (.Attribute e "values" apos) [] [] cpos] [] pos) (tListV td) := by
  intro pins s σ H Q I h
  refine wpAny_Call_Name_kw (ld_blt I hg hm PyProof.Rows.boot_list ?_)
  refine PyProof.Rows.callWith_type1 ?_ (by rw [hs]; rfl) rfl
  rw [hs]
  show wpAny _ _ (spliced [(false, eval (.Call (.Attribute e "values" apos) [] [] cpos) X.env)]) _ _ s
  refine Calls.spliced_cons ?_
  refine wpAny_Call_method (T := "dict") (id := "dict.values") hbase rfl hline F.plainAttrs_dict F.slot_dict_values F.type_dict_values (thn (he pins s σ H _ I h) fun u s1 zz => ex5 zz fun x H1 I1 rx yy => ?_)
  obtain ⟨d, kvs, ex, hd, q⟩ := yy
  subst ex
  obtain rfl : u = Value.ref d := rx
  obtain ⟨lo, z, es, ep, en, sz, at_⟩ := dT_ents I1 hd
  refine ⟨en.typeIs, fun b eb => ?_, ?_⟩
  · cases eb
    obtain ⟨o, ho, hx, _⟩ := id en
    exact ⟨o, ho, hx.2.1⟩
  have fin : wpAny (model X.prog X.w) X.A (call (.type "list") [.ref s1.heap.objs.size]) (EP X pins σ Q) X.xe { s1 with heap := s1.heap.push { cls := .type "dict_values", data := .fields #[.ref d] } } := by
    refine PySem.W.kdl_call (src_vals (r := s1.heap.objs.size) (d := d) (es := es) (ep := ep)) (I1.ok.hd hc) ⟨⟨_, Heap.get?_push_size _ rfl, rfl, rfl⟩, en.at fun o e => Heap.get?_push_of_some _ e⟩ (by rw [sz]; exact z) fun h' tk acc c' hk hS it => ?_
    obtain ⟨ia, ib⟩ := it
    have vl : Vals (kvs.map (·.2)) acc.toList := vals_at (by simp [ia, sz]) fun i x u e1 e2 => by
      rw [List.getElem?_map] at e1
      cases g : kvs[i]? with
      | none => rw [g] at e1; cases e1
      | some kv =>
        rw [g] at e1
        obtain ⟨k, v⟩ := kv
        obtain rfl : v = x := by simpa using e1
        obtain ⟨e, qq, e3, _, _, e4⟩ := at_ i k v g
        obtain ⟨e', e5, e6⟩ := ib i u (by rw [← Array.getElem?_toList]; exact e2)
        rw [e3] at e5
        obtain rfl := Option.some.inj e5
        rw [e6]; exact e4
    have kp : ∀ b o, s1.heap.get? b = some o → h'.get? b = some o := fun b o e => hk b o (Heap.get?_push_of_some _ e)
    have hsz : (s1.heap.push { cls := .type "dict_values", data := .fields #[.ref d] }).objs.size = s1.heap.objs.size + 1 := Heap.size_push _ _
    rw [hsz] at hS ⊢
    exact ⟨.ref (s1.heap.objs.size + 1), _, I1.laid (t' := tk) kp (Nat.le_succ _) (show ObjOk X.prog X.w _ h' _ (.lst (kvs.map (·.2))) from ⟨by rw [List.length_map]; exact z, acc.toList, c', vl, by simpa using hS⟩), rfl, q _ (I1.hok.fresh (Nat.le_succ _))⟩
  show wpAny _ _ (callWith cpos (.builtin "dict.values") [.ref d] [] []) _ X.xe s1
  exact method_meetsIn F.slot_dict_values F.entry_dict_values rfl (PySem.evalArgs_none ⟨rfl, en.typeIs, F.args_dict_values_1 _, _, meets_vals d lo, en.typeIs, Calls.spliced_nil fin⟩)
noncomputable def tDisp1 (tk tv : TE) : TE := fun σ H Q => ∀ p, H p = none → tk σ (upd H p (.dT [])) fun x H1 => tv σ H1 fun y H2 => ∃ (b : Addr) (k : List Key), x = .ref b ∧ H2 p = some (.dT []) ∧ H2 b = some (.tup (k.map kV)) ∧ Q (.ref p) (upd H2 p (.dT [(k, y)]))
theorem pe_disp1 {X : Cx} {ke ve : Expr} {tk tv : TE} {pos : Pos} (hu : X.A.units < cLine) (hk : PE X ke tk) (hv : PE X ve tv) : PE X (.Dict [some ke] [ve] pos) (tDisp1 tk tv) := by
  intro pins s σ H Q I h
  have hn := I.hok.fresh (Nat.le_refl s.heap.objs.size)
  have I1 := I.laid (a := s.heap.objs.size) (o := .dT []) (h' := s.heap.push { cls := .type "dict", data := .dict #[] }) (t' := s.toks) (fun _ _ q => Heap.get?_push_of_some _ q) (Nat.le_refl _) (dt_empty s.heap I.big)
  rw [arm_eval_Dict, zip_pairTrees [some ke] [ve] X.env pos rfl rfl, dictDisplay_pairs _ (by intro z; cases z) (by show 1 < 17; decide)]
  refine wpAny_bind (wpAny_standAt (wpAny_bind ?_))
  unfold subDict
  refine wpAny_bind (wpAny_alloc (wpAny_bind (wpAny_holding ?_)))
  rw [if_pos (by show 1 ≤ 15; decide)]
  refine wpAny_bind (pairTrees_cons_walk (thn (hk pins _ σ _ _ I1 (h _ hn)) fun u s1 zz => ex5 zz fun x H1 I2 rx q1 => thn (hv pins s1 σ H1 _ I2 q1) fun r s2 zz => ex5 zz fun y H2 I3 ry yy => pairTrees_nil_walk ?_))
  obtain ⟨b, k, ex, hp, hb, q2⟩ := yy
  subst ex
  obtain rfl : u = Value.ref b := rx
  refine wpAny_holding (wpAny_bind ?_); obtain ⟨z, hd, xs, rel, dd⟩ := dt_of I3.hok hp
  cases rel
  rw [List.forIn_cons]
  refine wpAny_bind (wpAny_bind (wpAny_dictSet_heap (knd := tupleKind (mixKind X.prog X.w)) (hsz := z) hu (key_of I3.hok hb) dd fun h' dd' hs => wpAny_pure ?_))
  dsimp only
  rw [List.forIn_nil]
  refine wpAny_pure (wpAny_pure (wpAny_pure (wpAny_pure ⟨.ref s.heap.objs.size, _, ?_, rfl, q2⟩)))
  obtain ⟨o, es, ep, ho, h2, h3, h4, _, h5⟩ := dd'
  refine d_write I3 (by rw [hp]; exact True.intro) hs ⟨o, ho⟩ ⟨by show 1 ≤ sizeLine; decide, hd, _, ?_, o, es, ep, ho, h2, h3, h4, h5⟩
  refine .cons ⟨rfl, ?_, ry⟩ .nil
  rw [upd_ne (ne_of hb hp (fun z => nomatch z))]
  exact hb
noncomputable def rCount (K : PySem.W.Frag) : V → List V → Hp → VK → Prop := fun x vs H Q => ∃ (a : Addr) (ns : List Int) (k : Int), x = .ref a ∧ vs = [.int k] ∧ SqL K H a (ns.map V.int) ∧ Q (.int (ns.count k : Nat)) H
theorem mt_count1 {X : Cx} : MtR X "list.count" (rCount X.K) := by
  intro pins s σ H x vs v us Q I rx rv h
  obtain ⟨a, ns, k, rfl, rfl, hs, q⟩ := h
  cases rx
  obtain ⟨u, rfl, ru⟩ := rv.one
  obtain ⟨t, rfl⟩ := ru
  obtain ⟨its, rv, hl, _⟩ := I.list hs
  exact count_list_ints hl.isList rv.ints ⟨.int _, H, I.tok _, ⟨_, rfl⟩, q⟩
end Pw
end
section
set_option Elab.async false
set_option maxRecDepth 100000
set_option maxHeartbeats 2000000
namespace Pw
open PySem PySem.Spec PyProof.Rows L2
open Si07 (Mirrors)
open Cox Mir
noncomputable def top (i : Nat) : Stmt := PySem.Challenge.pw_mirrorwordsyard_s01_answers.main.body.getD i (.Pass ⟨0, 0, 0, 0⟩)
noncomputable abbrev sMirrored : Stmt := top 25
noncomputable abbrev vi (l : List Int) : List V := l.map V.int
theorem vi_snoc (l : List Int) (x : Int) : vi (l ++ [x]) = vi l ++ [V.int x] := by simp [vi]
structure PullsAt (K : PySem.W.Frag) (H : Hp) (p : Addr) (M : Mirrors) : Prop where
  ex : ∃ rows : List Addr, SqL K H p (rows.map V.ref) ∧ rows.length = M.n ∧ ∀ (i : Nat) (r : Addr), rows[i]? = some r → SqL K H r (vi (pl M i))
theorem PullsAt.same {K : PySem.W.Frag} {H H' : Hp} {p : Addr} {M : Mirrors} (h : PullsAt K H p M) (s : Same H H') : PullsAt K H' p M := by
  obtain ⟨rows, a, b, c⟩ := h.ex
  exact ⟨rows, s.seq a, b, fun i r e => s.seq (c i r e)⟩
def KTup (K : PySem.W.Frag) (a : Addr) (ns : List Int) : Prop := ∀ H : Hp, SqT K H a (vi ns)
structure PullsTxt (K : PySem.W.Frag) (mg : Str → Option Value) (aP a2 a3 a4 a6 a0 : Addr) : Prop where
  mg : mg "PULLS" = some (.ref aP)
  kd : KD K aP [(2, a2), (3, a3), (4, a4), (6, a6), (0, a0)]
  t2 : KTup K a2 [0, 0]
  t3 : KTup K a3 [1, 1]
  t4 : KTup K a4 [1, 2]
  t6 : KTup K a6 [1, 3]
  t0 : KTup K a0 [2, 2]
structure Txt (K : PySem.W.Frag) (mg : Str → Option Value) : Prop where
  zip : mg "zip" = none
  enum : mg "enumerate" = none
  lst : mg "list" = none
  rev : mg "reversed" = none
  len : mg "len" = none
  all : mg "all" = none
  range : mg "range" = none
  sum : mg "sum" = none
  abs : mg "abs" = none
  tup : mg "tuple" = none
  longB : ∃ t, mg "LONGEST_BETWEEN" = some (.int 24 t)
  longL : ∃ t, mg "LONGEST_LENGTH" = some (.int 120 t)
  highO : ∃ t, mg "HIGHEST_ORDER" = some (.int 60 t)
  noL : ∃ t, mg "NO_LONGEST" = some (.int (-1) t)
  c0 : ∃ t, mg "BEGIN" = some (.int 0 t)
  c1 : ∃ t, mg "SAME" = some (.int 1 t)
  c2 : ∃ t, mg "LENGTH" = some (.int 2 t)
  c3 : ∃ t, mg "LEAST" = some (.int 3 t)
  c4 : ∃ t, mg "ENDS" = some (.int 4 t)
  c5 : ∃ t, mg "BELOW" = some (.int 5 t)
  c6 : ∃ t, mg "ORDER" = some (.int 6 t)
  c7 : ∃ t, mg "COUNT" = some (.int 7 t)
  c8 : ∃ t, mg "LONGEST" = some (.int 8 t)
  c9 : ∃ t, mg "BETWEEN" = some (.int 9 t)
  mostL : ∃ t, mg "MOST_LETTERS" = some (.int 128 t)
  mostM : ∃ t, mg "MOST_MIRRORS" = some (.int 8 t)
  refd : ∃ t, mg "REFUSED" = some (.int (-2) t)
  pulls : ∃ aP a2 a3 a4 a6 a0, PullsTxt K mg aP a2 a3 a4 a6 a0
noncomputable def spMirrored (K : PySem.W.Frag) : Sp := fun vs H Q _ => ∃ (p h : Addr) (M : Mirrors) (g : Nat → Int) (i : Nat), vs = [.ref p, .ref h, .int (i : Nat)] ∧ PullsAt K H p M ∧ SqL K H h (vi (hv M.n g)) ∧ i < M.n ∧ M.n ≤ 8 ∧
  ∀ (H' : Hp) (q : Addr), Same H H' → H q = none → H' q = some (.lst (vi (hv M.n (rf M i g)))) → Q (.ref q) H'
section
variable {P : Program} {w : World} {K : PySem.W.Frag} {mg : Str → Option Value} {base : Heap}
theorem scMirrored : FnScope ["pulls", "heights", "mirror", "own", "height", "step"] ["pulls", "heights", "mirror"] (defScope sMirrored) := ⟨rfl, rfl, rfl, by decide +kernel, rfl, by decide +kernel, by decide +kernel⟩
theorem ok_mirrored {f : Addr} {fd : FuncData} (F : Fun K "mirrored" "mirrored" sMirrored f fd) (T : Txt K mg) : FnOk P w K mg base CX0 1 f fd ["pulls", "heights", "mirror"] (spMirrored K) := by
  refine F.ok scMirrored (fun vs H Q E h => ?_) (fun cdv A outer s H vs Q E hr h => ?_)
  · obtain ⟨p, h, M, g, i, rfl, _⟩ := h
    rfl
  · obtain ⟨p, h, M, g, i, rfl, hp, hh, hi, h8, k⟩ := h
    obtain ⟨rows, hr1, hr2, hr3⟩ := hp.ex
    refine ⟨_, pss_cons (ps_set (i := 3) scMirrored.nd rfl (Or.inr rfl) (pe_ix ix_list (pv 1) (pv 2) (fun _ _ => rfl)))
      (pss_one (ps_ret (pe_lc (own := [("height", 4), ("step", 5)]) (g := gTup K 2 (gCons (gName 4) (gCons (gName 5) gNil))) rfl scMirrored.nd (pi_zip rfl T.zip (pa_cons (pv 1) (pa_cons (pe_ix ix_list (pv 0) (pv 2) (fun _ _ => rfl)) pa_nil))) (blkOk_by (N := ["pulls", "heights", "mirror", "own", "height", "step"]) (sc := defScope sMirrored) (by decide +kernel))
        (fun _ _ _ _ _ => by exact pg_tup rfl (pgs_cons (pg_name (i := 4) scMirrored.nd rfl (Or.inl rfl)) (pgs_cons (pg_name (i := 5) scMirrored.nd rfl (Or.inl rfl)) pgs_nil)))
        (fun _ _ _ _ _ => by exact pts_nil)
        (fun _ _ _ _ _ => by exact pe_op op_add (pv 4) (pe_op op_mul (pv 3) (pv 5)))))), ?_⟩
    obtain ⟨r, hr⟩ : ∃ r, rows[i]? = some r := ⟨rows[i]'(by omega), List.getElem?_eq_getElem (by omega)⟩
    have hrow := hr3 i r hr
    refine ⟨_, rfl, _, rfl, h, _, _, _, rfl, rfl, hh, at_of (j := i) (v := V.int (g i)) rfl (by rw [List.getElem?_map, hv_get hi]; rfl), ?_⟩
    refine ⟨_, rfl, _, rfl, _, rfl, p, _, _, _, rfl, rfl, hr1, at_of (j := i) (v := V.ref r) rfl (by rw [List.getElem?_map, hr]; rfl), h, r, _, _, rfl, hh, hrow, fun D hD => ?_⟩
    refine lc_zip (xs := vi (hv M.n g)) (ys := vi (pl M i)) (by simp [hv_length, pl_length]) (fun j H' => Same H H' ∧ H' D = some (.lst (vi ((hv M.n (rf M i g)).take j)))) ⟨Same.new hD, upd_same⟩ (fun j H' _ zz => by obtain ⟨s1, _⟩ := zz; exact ⟨s1.seq hh, s1.seq hrow⟩) ?_ ?_
    · intro j x y H' T hx hy ⟨s1, hD1⟩ hT
      have hj : j < M.n := by
        have := (List.getElem?_eq_some_iff.1 hx).1
        simpa [hv_length] using this
      obtain rfl : x = V.int (g j) := by
        rw [List.getElem?_map, hv_get hj] at hx; exact (Option.some.inj hx).symm
      obtain rfl : y = V.int (- Si07.cartan M i j) := by
        rw [List.getElem?_map, pl_get hj] at hy; exact (Option.some.inj hy).symm
      refine ⟨T, _, rfl, SqT.of upd_same, rfl, _, _, rfl, _, _, rfl, rfl, rfl, ?_⟩
      refine tyes ?_
      have cs := cartan_small M i j
      refine ⟨_, rfl, _, rfl, _, rfl, _, _, rfl, rfl, .inr ⟨by omega, by omega⟩, _, _, rfl, rfl, _, (upd_ne (ne_of_none hD1 hT)).trans hD1, ?_, ?_, ?_⟩
      · rw [List.length_map, List.length_take, hv_length]
        exact Nat.lt_of_le_of_lt (Nat.min_le_right _ _) (Nat.lt_of_le_of_lt h8 (by decide))
      · intro b o e
        rw [upd_ne, upd_ne (ne_of_none (s1 b o e) hT)]
        · exact s1 b o e
        · exact ne_of_none e hD
      · rw [upd_same, take_snoc (hv_get hj), vi_snoc, ← rf_pull]
    · intro H' ⟨s1, hD1⟩
      refine k H' D s1 hD ?_
      rw [hD1, List.length_map, hv_length, List.take_of_length_le (by rw [hv_length]; exact Nat.le_refl _)]
end
end Pw
end
section
set_option Elab.async false
set_option maxRecDepth 100000
set_option maxHeartbeats 2000000
namespace Pw
open PySem PySem.Spec PyProof.Rows L2
open Si07 (Mirrors IsWord)
open Cox Mir
noncomputable abbrev sMoved : Stmt := top 26
noncomputable abbrev sFirst : Stmt := top 27
noncomputable abbrev sHeights : Stmt := top 28
structure Df (K : PySem.W.Frag) (mg : Str → Option Value) (x : Str) (st : Stmt) (ps : List Str) (f : Addr) (fd : FuncData) : Prop where
  F : Fun K x x st f fd
  m : mg x = some (.ref f)
  b : Binds K fd ps []
noncomputable abbrev vn (u : List Nat) : List V := u.map fun i => V.int (i : Nat)
theorem vn_snoc (u : List Nat) (i : Nat) : vn (u ++ [i]) = vn u ++ [V.int (i : Nat)] := by simp [vn]
theorem vn_reverse (u : List Nat) : vn u.reverse = (vn u).reverse := by simp [vn]
noncomputable def spMoved (K : PySem.W.Frag) : Sp := fun vs H Q _ => ∃ (p h l : Addr) (M : Mirrors) (g : Nat → Int) (u : List Nat), vs = [.ref p, .ref h, .ref l] ∧ PullsAt K H p M ∧ H h = some (.lst (vi (hv M.n g))) ∧ SqL K H l (vn u) ∧ IsWord M u ∧ M.n ≤ 8 ∧
  ∀ (H' : Hp) (q : Addr), Same H H' → (q = h ∨ H q = none) → H' q = some (.lst (vi (hv M.n (act M u g)))) → Q (.ref q) H'
noncomputable def spFirst (K : PySem.W.Frag) : Sp := fun vs H Q _ => ∃ (p : Addr) (M : Mirrors), vs = [.ref p] ∧ PullsAt K H p M ∧ M.n ≤ 8 ∧
  ∀ (H' : Hp) (q : Addr), Same H H' → H q = none → H' q = some (.lst (vi (hv M.n one))) → Q (.ref q) H'
noncomputable def spHeights (K : PySem.W.Frag) : Sp := fun vs H Q _ => ∃ (p l : Addr) (M : Mirrors) (u : List Nat), vs = [.ref p, .ref l] ∧ PullsAt K H p M ∧ SqL K H l (vn u) ∧ IsWord M u ∧ M.n ≤ 8 ∧
  ∀ (H' : Hp) (q : Addr), Same H H' → H q = none → H' q = some (.lst (vi (hv M.n (act M u one)))) → Q (.ref q) H'
theorem nth_vn {u : List Nat} {i : Nat} {y : V} (hi : (vn u)[i]? = some y) : ∃ c, u[i]? = some c ∧ y = V.int (c : Nat) := by
  rw [List.getElem?_map] at hi
  cases e : u[i]? with
  | none => rw [e] at hi; cases hi
  | some c => rw [e] at hi; exact ⟨c, rfl, (Option.some.inj hi).symm⟩
section
variable {P : Program} {w : World} {K : PySem.W.Frag} {mg : Str → Option Value} {base : Heap}
theorem scMoved : FnScope ["pulls", "heights", "letters", "letter"] ["pulls", "heights", "letters"] (defScope sMoved) := ⟨rfl, rfl, rfl, by decide +kernel, rfl, by decide +kernel, by decide +kernel⟩
theorem ok_moved {f fM : Addr} {fd fdM : FuncData} (F : Fun K "moved" "moved" sMoved f fd) (T : Txt K mg) (DM : Df K mg "mirrored" sMirrored ["pulls", "heights", "mirror"] fM fdM) :
    FnOk P w K mg base CX0 2 f fd ["pulls", "heights", "letters"] (spMoved K) := by
  have GM : FnOk P w K mg base CX0 1 fM fdM ["pulls", "heights", "mirror"] (spMirrored K) := ok_mirrored DM.F T
  refine F.ok scMoved (fun vs H Q E h => ?_) (fun cdv A outer s H vs Q E hr h => ?_)
  · obtain ⟨p, h, l, M, g, u, rfl, _⟩ := h
    rfl
  · obtain ⟨p, h, l, M, g, u, rfl, hp, hh, hl, wu, h8, k⟩ := h
    refine ⟨_, pss_cons (ps_for PassesOwn.never rfl (pi_list (pv 2)) (pg_name (i := 3) scMoved.nd rfl (Or.inl rfl))
        (pss_one (ps_set (i := 1) scMoved.nd rfl (Or.inl rfl) (pe_call GM hr rfl DM.m DM.F.kp DM.b .nil pass0 (pa_cons (pv 0) (pa_cons (pv 1) (pa_cons (pv 3) pa_nil)))))))
      (pss_one (ps_ret (pv 1))), ?_⟩
    refine ⟨_, rfl, l, rfl, ⟨_, hl⟩, for_list (K := K) (a := l) (xs := vn u) (fun i σ H' => ∃ (q : Addr) (v : Option V), σ = [some (.ref p), some (.ref q), some (.ref l), v] ∧ Same H H' ∧ (q = h ∨ H q = none) ∧ H' q = some (.lst (vi (hv M.n (act M (u.take i) g)))))
      ⟨h, none, rfl, fun _ _ e => e, .inl rfl, hh⟩ (fun i σ H' _ zz => by obtain ⟨_, _, _, s2, _⟩ := zz; exact s2.seq hl) ?_ ?_⟩
    · rintro i y σ H' hi ⟨q, v, rfl, s2, hqn, hq⟩
      obtain ⟨c, hc, rfl⟩ := nth_vn hi
      have hcn : c < M.n := wu c (List.mem_of_getElem? hc)
      refine ⟨_, rfl, _, rfl, _, rfl, p, q, M, act M (u.take i) g, c, rfl, hp.same s2, SqL.of hq, hcn, h8, fun H2 q2 s3 hn2 hq2 => ?_⟩
      refine ⟨q2, _, rfl, s2.trans s3, .inr (s2.free hn2), ?_⟩
      rw [hq2, take_snoc hc, act_snoc]
    · rintro σ H' ⟨q, v, rfl, s2, hqn, hq⟩
      refine ⟨_, rfl, k H' q s2 hqn ?_⟩
      rw [hq, List.length_map, List.take_length]
theorem scFirst : FnScope ["pulls", "row"] ["pulls"] (defScope sFirst) := ⟨rfl, rfl, rfl, by decide +kernel, rfl, by decide +kernel, by decide +kernel⟩
theorem ok_first {f : Addr} {fd : FuncData} (F : Fun K "first_heights" "first_heights" sFirst f fd) :
    FnOk P w K mg base CX0 1 f fd ["pulls"] (spFirst K) := by
  refine F.ok scFirst (fun vs H Q E h => ?_) (fun cdv A outer s H vs Q E hr h => ?_)
  · obtain ⟨p, M, rfl, _⟩ := h
    rfl
  · obtain ⟨p, M, rfl, hp, h8, k⟩ := h
    obtain ⟨rows, hr1, hr2, hr3⟩ := hp.ex
    refine ⟨_, pss_one (ps_ret (pe_lc (own := [("row", 1)]) (g := gName 1) rfl scFirst.nd (pi_list (pv 0)) (blkOk_by (N := ["pulls", "row"]) (sc := defScope sFirst) (by decide +kernel))
        (fun _ _ _ _ _ => by exact pg_name (i := 1) scFirst.nd rfl (Or.inl rfl)) (fun _ _ _ _ _ => by exact pts_nil) (fun _ _ _ _ _ => by exact pe_int))), ?_⟩
    refine ⟨_, rfl, p, rfl, ⟨_, hr1⟩, fun D hD => ?_⟩
    refine lc_list (xs := rows.map V.ref) (fun j H' => Same H H' ∧ H' D = some (.lst (vi ((hv M.n one).take j)))) ⟨Same.new hD, upd_same⟩ (fun j H' _ zz => by obtain ⟨s1, _⟩ := zz; exact s1.seq hr1) ?_ ?_
    · intro j x H' hx ⟨s1, hD1⟩
      have hj : j < M.n := by
        have := (List.getElem?_eq_some_iff.1 hx).1
        simpa [hr2] using this
      refine ⟨rfl, tyes ?_⟩
      refine ⟨_, hD1, ?_, ?_, ?_⟩
      · rw [List.length_map, List.length_take, hv_length]
        exact Nat.lt_of_le_of_lt (Nat.min_le_right _ _) (Nat.lt_of_le_of_lt h8 (by decide))
      · intro b o e
        rw [upd_ne (ne_of_none e hD)]; exact s1 b o e
      · rw [upd_same, take_snoc (hv_get hj), vi_snoc]; rfl
    · intro H1 ⟨s1, hD1⟩
      refine k H1 D s1 hD ?_
      rw [hD1, List.length_map, hr2, List.take_of_length_le (by rw [hv_length]; exact Nat.le_refl _)]
structure HD (K : PySem.W.Frag) (mg : Str → Option Value) (fM : Addr) (fdM : FuncData) (fV : Addr) (fdV : FuncData) (fF : Addr) (fdF : FuncData) : Prop where
  M : Df K mg "mirrored" sMirrored ["pulls", "heights", "mirror"] fM fdM
  V : Df K mg "moved" sMoved ["pulls", "heights", "letters"] fV fdV
  F : Df K mg "first_heights" sFirst ["pulls"] fF fdF
theorem scHeights : FnScope ["pulls", "letters"] ["pulls", "letters"] (defScope sHeights) := ⟨rfl, rfl, rfl, by decide +kernel, rfl, by decide +kernel, by decide +kernel⟩
theorem ok_heights {f fM fV fF : Addr} {fd fdM fdV fdF : FuncData} (F : Fun K "heights_behind" "heights_behind" sHeights f fd) (T : Txt K mg) (D : HD K mg fM fdM fV fdV fF fdF) :
    FnOk P w K mg base CX0 3 f fd ["pulls", "letters"] (spHeights K) := by
  have GV : FnOk P w K mg base CX0 2 fV fdV ["pulls", "heights", "letters"] (spMoved K) := ok_moved D.V.F T D.M
  have GF : FnOk P w K mg base CX0 1 fF fdF ["pulls"] (spFirst K) := ok_first D.F.F
  refine F.ok scHeights (fun vs H Q E h => ?_) (fun cdv A outer s H vs Q E hr h => ?_)
  · obtain ⟨p, l, M, u, rfl, _⟩ := h
    rfl
  · obtain ⟨p, l, M, u, rfl, hp, hl, wu, h8, k⟩ := h
    have hr1 : Room 1 _ := hr.mono (by decide)
    refine ⟨_, pss_one (ps_ret (pe_call GV hr rfl D.V.m D.V.F.kp D.V.b .nil pass0 (pa_cons (pv 0) (pa_cons (pe_call GF hr1 rfl D.F.m D.F.F.kp D.F.b .nil pass0 (pa_cons (pv 0) pa_nil)) (pa_cons (pv 1) pa_nil))))), ?_⟩
    refine ⟨_, rfl, _, rfl, p, M, rfl, hp, h8, fun H1 q1 s1 hn1 hq1 => ?_⟩
    refine ⟨_, rfl, p, q1, l, M, one, u, rfl, hp.same s1, hq1, s1.seq hl, wu, h8, fun H2 q2 s2 hn2 hq2 => ?_⟩
    refine k H2 q2 (s1.trans s2) ?_ hq2
    rcases hn2 with rfl | hn2
    · exact hn1
    · exact s1.free hn2
end
end Pw
end
section
set_option Elab.async false
set_option maxRecDepth 100000
set_option maxHeartbeats 2000000
namespace Pw
open PySem PySem.Spec PyProof.Rows L2
open Si07 (Mirrors IsWord)
open Cox Mir
noncomputable abbrev sLow : Stmt := top 29
noncomputable abbrev sLeast : Stmt := top 30
noncomputable abbrev sLast : Stmt := top 31
noncomputable abbrev sIsWord : Stmt := top 24
noncomputable def optV : Option Nat → V
  | some i => .int (i : Nat)
  | none => .non
noncomputable def spLow (K : PySem.W.Frag) : Sp := fun vs H Q _ => ∃ (h : Addr) (n : Nat) (g : Nat → Int), vs = [.ref h] ∧ SqL K H h (vi (hv n g)) ∧ ∀ (H' : Hp), Same H H' → Q (optV (low n g)) H'
noncomputable def spLeast (K : PySem.W.Frag) : Sp := fun vs H Q _ => ∃ (p l : Addr) (M : Mirrors) (u : List Nat), vs = [.ref p, .ref l] ∧ PullsAt K H p M ∧ SqL K H l (vn u) ∧ Si07.Good M ∧ IsWord M u ∧ u.length ≤ 128 ∧
  ∀ (H' : Hp) (q : Addr), Same H H' → H q = none → H' q = some (.lst (vn (Si07.leastOf M u))) → Q (.ref q) H'
section
variable {P : Program} {w : World} {K : PySem.W.Frag} {mg : Str → Option Value} {base : Heap}
theorem scLow : FnScope ["heights", "mirror", "height"] ["heights"] (defScope sLow) := ⟨rfl, rfl, rfl, by decide +kernel, rfl, by decide +kernel, by decide +kernel⟩
theorem ok_low {f : Addr} {fd : FuncData} (F : Fun K "lowest_crossed" "lowest_crossed" sLow f fd) (T : Txt K mg) : FnOk P w K mg base CX0 1 f fd ["heights"] (spLow K) := by
  refine F.ok scLow (fun vs H Q E h => ?_) (fun cdv A outer s H vs Q E hr h => ?_)
  · obtain ⟨h, n, g, rfl, _⟩ := h
    rfl
  · obtain ⟨h, n, g, rfl, hh, k⟩ := h
    refine ⟨_, pss_cons (ps_for PassesOwn.never rfl (pi_enum rfl T.enum (pa_cons (pv 0) pa_nil)) (pg_tup rfl (pgs_cons (pg_name (i := 1) scLow.nd rfl (Or.inl rfl)) (pgs_cons (pg_name (i := 2) scLow.nd rfl (Or.inl rfl)) pgs_nil)))
        (pss_one (ps_if (pt_cmpR op_lt (pv 2) pe_int (nomark _)) (pss_one (ps_ret (pv 1))) pss_nil)))
      (pss_one (ps_ret pe_non)), ?_⟩
    refine ⟨_, rfl, h, _, rfl, hh, for_enum (K := K) (a := h) (xs := vi (hv n g)) (fun i σ H' => ∃ (v1 v2 : Option V), σ = [some (.ref h), v1, v2] ∧ Same H H' ∧ ∀ j, j < i → ¬ g j < 0)
      ⟨none, none, rfl, fun _ _ e => e, fun j hj => by omega⟩ (fun i σ H' _ zz => by obtain ⟨_, _, _, s1, _⟩ := zz; exact s1.seq hh) ?_ ?_⟩
    · rintro i x σ H' T hx ⟨v1, v2, rfl, s1, hj⟩ hT
      have hi : i < n := by
        have := (List.getElem?_eq_some_iff.1 hx).1
        simpa [hv_length] using this
      obtain rfl : x = V.int (g i) := by
        rw [List.getElem?_map, hv_get hi] at hx; exact (Option.some.inj hx).symm
      have s2 : Same H (upd H' T (.tup [.int (i : Nat), .int (g i)])) := s1.trans (Same.new hT)
      refine ⟨T, _, rfl, SqT.of upd_same, rfl, _, _, rfl, _, _, rfl, rfl, _, rfl, _, _, rfl, rfl, _, rfl, ite2 (fun c => ?_) (fun c => ?_)⟩
      · have c := of_decide_eq_true c
        refine ⟨_, rfl, ?_⟩
        have := k _ s2
        rw [low_some hj hi c] at this
        exact this
      · refine ⟨_, _, rfl, s2, fun j hj' => ?_⟩
        by_cases e : j = i
        · subst e; exact fun q => c (decide_eq_true q)
        · exact hj j (by omega)
    · rintro σ H' ⟨v1, v2, rfl, s1, hj⟩
      have := k _ s1
      rw [low_none (fun j hj' => hj j (by simpa [hv_length] using hj'))] at this
      exact this
theorem scLeast : FnScope ["pulls", "word", "heights", "letters", "mirror"] ["pulls", "word"] (defScope sLeast) := ⟨rfl, rfl, rfl, by decide +kernel, rfl, by decide +kernel, by decide +kernel⟩
theorem ok_least {f fM fV fF fH fL : Addr} {fd fdM fdV fdF fdH fdL : FuncData} (F : Fun K "least_word" "least_word" sLeast f fd) (T : Txt K mg) (D : HD K mg fM fdM fV fdV fF fdF)
    (DH : Df K mg "heights_behind" sHeights ["pulls", "letters"] fH fdH) (DL : Df K mg "lowest_crossed" sLow ["heights"] fL fdL) : FnOk P w K mg base CX0 4 f fd ["pulls", "word"] (spLeast K) := by
  have GM : FnOk P w K mg base CX0 1 fM fdM ["pulls", "heights", "mirror"] (spMirrored K) := ok_mirrored D.M.F T
  have GH : FnOk P w K mg base CX0 3 fH fdH ["pulls", "letters"] (spHeights K) := ok_heights DH.F T D
  have GL : FnOk P w K mg base CX0 1 fL fdL ["heights"] (spLow K) := ok_low DL.F T
  refine F.ok scLeast (fun vs H Q E h => ?_) (fun cdv A outer s H vs Q E hr h => ?_)
  · obtain ⟨p, l, M, u, rfl, _⟩ := h
    rfl
  · obtain ⟨p, l, M, u, rfl, hp, hl, G, wu, lu, k⟩ := h
    have h8 : M.n ≤ 8 := G.2.1
    have hr1 : Room 1 _ := hr.mono (by decide)
    refine ⟨_, pss_cons (ps_set (i := 2) scLeast.nd rfl (Or.inl rfl) (pe_call GH hr rfl DH.m DH.F.kp DH.b .nil pass0 (pa_cons (pv 0) (pa_cons (pe_listrev rfl rfl T.lst rfl T.rev (pv 1)) pa_nil))))
      (pss_cons (ps_set (i := 3) scLeast.nd rfl (Or.inl rfl) (pe_lst pa_nil))
      (pss_cons (ps_set (i := 4) scLeast.nd rfl (Or.inl rfl) (pe_call GL hr1 rfl DL.m DL.F.kp DL.b .nil pass0 (pa_cons (pv 2) pa_nil)))
      (pss_cons (ps_while PassesOwn.never (pt_cmp (pc_notN (pv 4)))
        (pss_cons (ps_expr (pe_bm PySem.F.plainAttrs_list PySem.F.slot_list_append PySem.F.type_list_append mt_append (pv 3) (pa_cons (pv 4) pa_nil)))
        (pss_cons (ps_set (i := 2) scLeast.nd rfl (Or.inl rfl) (pe_call GM hr1 rfl D.M.m D.M.F.kp D.M.b .nil pass0 (pa_cons (pv 0) (pa_cons (pv 2) (pa_cons (pv 4) pa_nil)))))
        (pss_one (ps_set (i := 4) scLeast.nd rfl (Or.inl rfl) (pe_call GL hr1 rfl DL.m DL.F.kp DL.b .nil pass0 (pa_cons (pv 2) pa_nil)))))))
      (pss_one (ps_ret (pv 3)))))), ?_⟩
    refine ⟨_, rfl, _, rfl, l, _, rfl, hl, fun l2 hl2 => ?_⟩
    have sA : Same H (upd H l2 (.lst (vn u).reverse)) := Same.new hl2
    refine ⟨p, l2, M, u.reverse, rfl, hp.same sA, SqL.of (by rw [upd_same, vn_reverse]), isWord_reverse wu, h8, fun H1 q1 s1 hn1 hq1 => ?_⟩
    have sB := sA.trans s1
    refine ⟨Nat.zero_le _, fun r hr0 => ?_⟩
    have sC : Same H1 (upd H1 r (.lst [])) := Same.new hr0
    have rH : H r = none := sB.free hr0
    refine ⟨_, rfl, q1, M.n, act M u.reverse one, rfl, SqL.of (sC _ _ hq1), fun H2 s2 => ?_⟩
    have hr2 : H2 r = some (.lst (vn [])) := s2 _ _ upd_same
    have hq2 : H2 q1 = some (.lst (vi (hv M.n (act M u.reverse one)))) := s2 _ _ (sC _ _ hq1)
    have sD : ∀ b o, H b = some o → H2 b = some o := fun b o e => s2 _ _ (sC _ _ (sB b o e))
    refine while_by (fun σ H' => ∃ (q : Addr) (v t : List Nat) (f : Nat), σ = [some (.ref p), some (.ref l), some (.ref q), some (.ref r), some (optV (low M.n (act M v one)))] ∧ Same H H' ∧ H' q = some (.lst (vi (hv M.n (act M v one)))) ∧ q ≠ r ∧
        H' r = some (.lst (vn t)) ∧ IsWord M v ∧ len M v < f ∧ f + t.length = 300 ∧ t ++ take M f (act M v one) = Si07.leastOf M u)
      (fun σ H' => match H' r with | some (.lst xs) => 300 - xs.length | _ => 0)
      ⟨q1, u.reverse, [], 300, rfl, sD, hq2, ne_of_none hq1 hr0, hr2, isWord_reverse wu, by rw [len_reverse wu]; exact len_lt wu lu, rfl, (leastOf_take G wu).symm⟩ ?_ ?_
    · rintro σ H' ⟨q, v, t, f, rfl, s3, hq, hqr, ht, wv, hf, hft, e⟩
      refine ⟨_, rfl, _, rfl, ?_⟩
      cases lo : low M.n (act M v one) with
      | none =>
        refine iteF ?_
        refine ⟨_, rfl, k H' r s3 rH ?_⟩
        obtain ⟨f, rfl⟩ : ∃ f', f = f' + 1 := ⟨f - 1, by omega⟩
        rw [ht, ← e]
        unfold take
        rw [lo]; simp
      | some i =>
        obtain ⟨hi, neg⟩ := low_is lo
        have dn := (height_neg G wv hi).1 neg
        have l1 := len_down wv hi dn
        obtain ⟨f, rfl⟩ : ∃ f', f = f' + 1 := ⟨f - 1, by omega⟩
        refine iteT ?_
        refine ⟨_, rfl, .inl ⟨rfl, _, SqL.of ht⟩, _, rfl, r, _, _, rfl, rfl, ht, ?_, ?_⟩
        · rw [List.length_map]; exact Nat.lt_of_le_of_lt (show t.length ≤ 300 by omega) (by decide)
        have s4 : Same H (upd H' r (.lst (vn t ++ [V.int (i : Nat)]))) := fun b o eb => by
          rw [upd_ne (ne_of_none eb rH)]; exact s3 b o eb
        have hq4 : upd H' r (.lst (vn t ++ [V.int (i : Nat)])) q = some (.lst (vi (hv M.n (act M v one)))) := by rw [upd_ne hqr]; exact hq
        refine ⟨_, rfl, _, rfl, _, rfl, p, q, M, act M v one, i, rfl, hp.same s4, SqL.of hq4, hi, h8, fun H5 q5 s5 hn5 hq5 => ?_⟩
        have hr5 : H5 r = some (.lst (vn t ++ [V.int (i : Nat)])) := s5 _ _ upd_same
        refine ⟨_, rfl, q5, M.n, act M (v ++ [i]) one, rfl, SqL.of (by rw [hq5, act_snoc]), fun H6 s6 => ?_⟩
        refine ⟨⟨q5, v ++ [i], t ++ [i], f, rfl, fun b o eb => s6 _ _ (s5 _ _ (s4 b o eb)), ?_, ?_, ?_, isWord_snoc wv hi, by omega, by simp; omega, ?_⟩, ?_⟩
        · rw [s6 _ _ hq5, act_snoc]
        · intro z; subst z; rw [upd_same] at hn5; cases hn5
        · rw [s6 _ _ hr5, vn_snoc]
        · rw [← e]
          conv => rhs; unfold take
          rw [lo, act_snoc]; simp
        · rw [ht, s6 _ _ hr5]; simp; omega
    · intro σ H' Q1 Q2 h12 ⟨v, hv1, b, hb, q⟩
      exact ⟨v, hv1, b, hb, h12 _ _ q⟩
end
end Pw
end
section
set_option Elab.async false
set_option maxRecDepth 100000
set_option maxHeartbeats 2000000
namespace Pw
open PySem PySem.Spec PyProof.Rows L2
open Si07 (Mirrors IsWord)
open Cox Mir
noncomputable def spLast (K : PySem.W.Frag) : Sp := fun vs H Q _ => ∃ (p l : Addr) (M : Mirrors) (u : List Nat), vs = [.ref p, .ref l] ∧ PullsAt K H p M ∧ SqL K H l (vn u) ∧ IsWord M u ∧ M.n ≤ 8 ∧
  ∀ (H' : Hp), Same H H' → Q (.int (bits (act M u one) M.n : Nat)) H'
noncomputable def spIsWord (K : PySem.W.Frag) : Sp := fun vs H Q _ => ∃ (p l : Addr) (M : Mirrors) (a : List Int), vs = [.ref p, .ref l] ∧ PullsAt K H p M ∧ SqL K H l (vi a) ∧ a.length ≤ 128 ∧
  ∀ (H' : Hp), Same H H' → Q (.bl (a.all fun x => decide (x < (M.n : Int)))) H'
section
variable {P : Program} {w : World} {K : PySem.W.Frag} {mg : Str → Option Value} {base : Heap}
theorem scLast : FnScope ["pulls", "word", "total", "weight", "height"] ["pulls", "word"] (defScope sLast) := ⟨rfl, rfl, rfl, by decide +kernel, rfl, by decide +kernel, by decide +kernel⟩
theorem ok_last {f fM fV fF fH : Addr} {fd fdM fdV fdF fdH : FuncData} (F : Fun K "last_mirrors" "last_mirrors" sLast f fd) (T : Txt K mg) (D : HD K mg fM fdM fV fdV fF fdF)
    (DH : Df K mg "heights_behind" sHeights ["pulls", "letters"] fH fdH) : FnOk P w K mg base CX0 4 f fd ["pulls", "word"] (spLast K) := by
  have GH : FnOk P w K mg base CX0 3 fH fdH ["pulls", "letters"] (spHeights K) := ok_heights DH.F T D
  refine F.ok scLast (fun vs H Q E h => ?_) (fun cdv A outer s H vs Q E hr h => ?_)
  · obtain ⟨p, l, M, u, rfl, _⟩ := h
    rfl
  · obtain ⟨p, l, M, u, rfl, hp, hl, wu, h8, k⟩ := h
    refine ⟨_, pss_cons (ps_set (i := 2) scLast.nd rfl (Or.inl rfl) pe_int)
      (pss_cons (ps_set (i := 3) scLast.nd rfl (Or.inl rfl) pe_int)
      (pss_cons (ps_for PassesOwn.never rfl (pi_list (pe_call GH hr rfl DH.m DH.F.kp DH.b .nil pass0 (pa_cons (pv 0) (pa_cons (pv 1) pa_nil)))) (pg_name (i := 4) scLast.nd rfl (Or.inl rfl))
        (pss_cons (ps_if (pt_cmpR op_lt (pv 4) pe_int (nomark _)) (pss_one (ps_aug (i := 2) scLast.nd rfl (Or.inl rfl) (pv 3) ip_add)) pss_nil)
        (pss_one (ps_aug (i := 3) scLast.nd rfl (Or.inl rfl) pe_int ip_mul))))
      (pss_one (ps_ret (pv 2))))), ?_⟩
    refine ⟨_, rfl, _, rfl, p, l, M, u, rfl, hp, hl, wu, h8, fun H1 q1 s1 hn1 hq1 => ?_⟩
    refine ⟨q1, rfl, ⟨_, SqL.of hq1⟩, for_list (K := K) (a := q1) (xs := vi (hv M.n (act M u one))) (fun i σ H' => ∃ (v : Option V), σ = [some (.ref p), some (.ref l), some (.int (bits (act M u one) i : Nat)), some (.int ((2 ^ i : Nat) : Int)), v] ∧ Same H1 H' ∧ i ≤ M.n)
      ⟨none, rfl, fun _ _ e => e, Nat.zero_le _⟩ (fun i σ H' _ zz => by obtain ⟨_, _, s2, _⟩ := zz; exact s2.seq (SqL.of hq1)) ?_ ?_⟩
    · rintro i x σ H' hx ⟨v, rfl, s2, _⟩
      have hi : i < M.n := by
        have := (List.getElem?_eq_some_iff.1 hx).1
        simpa [hv_length] using this
      obtain rfl : x = V.int (act M u one i) := by
        rw [List.getElem?_map, hv_get hi] at hx; exact (Option.some.inj hx).symm
      have e2 : ((2 ^ i : Nat) : Int) * 2 = ((2 ^ (i + 1) : Nat) : Int) := by rw [Nat.pow_succ]; push_cast; rfl
      refine ⟨_, rfl, _, _, rfl, rfl, _, rfl, ite2 (fun c => ?_) (fun c => ?_)⟩
      · have c := of_decide_eq_true c
        refine ⟨_, rfl, _, rfl, _, _, rfl, rfl, ?_⟩
        refine ⟨_, rfl, _, _, rfl, rfl, .inr ⟨by decide, by decide⟩, ?_⟩
        refine ⟨some (V.int (act M u one i)), ?_, s2, hi⟩
        have e1 : ((bits (act M u one) i : Nat) : Int) + ((2 ^ i : Nat) : Int) = ((bits (act M u one) (i + 1) : Nat) : Int) := by
          show _ = ((bits (act M u one) i + (if act M u one i < 0 then 2 ^ i else 0) : Nat) : Int)
          rw [if_pos c]; push_cast; rfl
        show [some (V.ref p), some (V.ref l), some (V.int (_ + _)), some (V.int (_ * 2)), some (V.int _)] = _
        rw [e1, e2]
      · have c : ¬ act M u one i < 0 := fun q => c (decide_eq_true q)
        refine ⟨_, rfl, _, _, rfl, rfl, .inr ⟨by decide, by decide⟩, ?_⟩
        refine ⟨some (V.int (act M u one i)), ?_, s2, hi⟩
        have e1 : ((bits (act M u one) i : Nat) : Int) = ((bits (act M u one) (i + 1) : Nat) : Int) := by
          show _ = ((bits (act M u one) i + (if act M u one i < 0 then 2 ^ i else 0) : Nat) : Int)
          rw [if_neg c, Nat.add_zero]
        show [some (V.ref p), some (V.ref l), some (V.int _), some (V.int (_ * 2)), some (V.int _)] = _
        rw [← e1, e2]
    · rintro σ H' ⟨v, rfl, s2, _⟩
      refine ⟨_, rfl, ?_⟩
      have := k H' (s1.trans s2)
      rw [List.length_map, hv_length]
      exact this
theorem scIsWord : FnScope ["pulls", "word", "letter"] ["pulls", "word"] (defScope sIsWord) := ⟨rfl, rfl, rfl, by decide +kernel, rfl, by decide +kernel, by decide +kernel⟩
theorem ok_isWord {f : Addr} {fd : FuncData} (F : Fun K "is_word" "is_word" sIsWord f fd) (T : Txt K mg) : FnOk P w K mg base CX0 1 f fd ["pulls", "word"] (spIsWord K) := by
  obtain ⟨tL, hL⟩ := T.mostL
  refine F.ok scIsWord (fun vs H Q E h => ?_) (fun cdv A outer s H vs Q E hr h => ?_)
  · obtain ⟨p, l, M, a, rfl, _⟩ := h
    rfl
  · obtain ⟨p, l, M, a, rfl, hp, hl, ha, k⟩ := h
    obtain ⟨rows, hr1, hr2, hr3⟩ := hp.ex
    refine ⟨_, pss_one (ps_ret (pe_and (pe_cmpR op_le (pe_callB call_len_seq rfl T.len PySem.boot_len (pa_cons (pv 1) pa_nil)) (pe_glob (v := .int 128) rfl hL ⟨_, rfl⟩) (nomark _))
      (pe_one (pe_callB (cr_all rfl) rfl T.all PyProof.Rows.boot_all (pa_cons
        (pe_lc (own := [("letter", 2)]) (g := gName 2) (te := tOp (rI0 fun i j => V.bl (decide (i < j))) (tVar 2) (tCB (fun xs H Q => ∃ p ys, xs = [V.ref p] ∧ (SqL K H p ys ∨ SqT K H p ys) ∧ Q (.int ys.length) H) (tCons (tVar 0) tNil))) rfl scIsWord.nd (pi_list (pv 1)) (blkOk_by (N := ["pulls", "word", "letter"]) (sc := defScope sIsWord) (by decide +kernel))
          (fun _ _ _ _ _ => by exact pg_name (i := 2) scIsWord.nd rfl (Or.inl rfl)) (fun _ _ _ _ _ => by exact pts_nil)
          (fun _ _ _ _ _ => by exact pe_cmpR op_lt (pv 2) (pe_callB call_len_seq rfl T.len PySem.boot_len (pa_cons (pv 0) pa_nil)) (nomark _))) pa_nil))))), ?_⟩
    refine ⟨_, rfl, l, _, rfl, .inl hl, _, _, rfl, rfl, _, rfl, ?_⟩
    rw [if_pos (decide_eq_true (by rw [List.length_map]; omega))]
    refine ⟨_, rfl, l, rfl, ⟨_, hl⟩, fun D hD => ?_⟩
    refine lc_list (xs := vi a) (fun j H' => Same H H' ∧ H' D = some (.lst ((((a.take j).map fun x => decide (x < (M.n : Int))).map V.bl)))) ⟨Same.new hD, upd_same⟩ (fun j H' _ zz => by obtain ⟨s1, _⟩ := zz; exact s1.seq hl) ?_ ?_
    · intro j x H' hx ⟨s1, hD1⟩
      obtain ⟨z, hz, rfl⟩ : ∃ z, a[j]? = some z ∧ x = V.int z := by
        rw [List.getElem?_map] at hx
        cases e : a[j]? with
        | none => rw [e] at hx; cases hx
        | some c => rw [e] at hx; exact ⟨c, rfl, (Option.some.inj hx).symm⟩
      have hj := (List.getElem?_eq_some_iff.1 hz).1
      refine ⟨rfl, tyes ?_⟩
      refine ⟨_, rfl, _, rfl, p, _, rfl, .inl (s1.seq hr1), _, _, rfl, rfl, _, hD1, ?_, ?_, ?_⟩
      · simp only [List.length_map, List.length_take]
        exact Nat.lt_of_le_of_lt (Nat.min_le_right _ _) (Nat.lt_of_le_of_lt ha (by decide))
      · intro b o e
        rw [upd_ne (ne_of_none e hD)]; exact s1 b o e
      · rw [upd_same, take_snoc hz]; simp [hr2]
    · intro H1 ⟨s1, hD1⟩
      refine ⟨D, a.map fun x => decide (x < (M.n : Int)), rfl, SqL.of (by rw [hD1, List.length_map, List.take_length]), ?_⟩
      have := k H1 s1
      rw [List.all_map]
      exact this
end
end Pw
end
section
set_option Elab.async false
set_option maxRecDepth 100000
set_option maxHeartbeats 2000000
namespace Pw
open PySem PySem.Spec PyProof.Rows L2
noncomputable abbrev sRInit : Stmt := inClass (top 20) 0
noncomputable abbrev sRAtEnd : Stmt := inClass (top 20) 1
noncomputable abbrev sRNum : Stmt := inClass (top 20) 2
noncomputable abbrev sRRow : Stmt := inClass (top 20) 3
def But (r : Addr) (H H' : Hp) : Prop := ∀ b o, H b = some o → b ≠ r → H' b = some o
noncomputable def rds (a : Addr) (k : Nat) : List (Str × V) := putF "place" (.int (k : Nat)) (putF "numbers" (.ref a) [])
theorem rds_num (a : Addr) (k : Nat) : (rds a k).lookup ("numbers" : Str) = some (.ref a) := by
  unfold rds; rw [lookup_putF, if_neg (by decide +kernel), lookup_putF, if_pos rfl]
theorem rds_place (a : Addr) (k : Nat) : (rds a k).lookup ("place" : Str) = some (.int (k : Nat)) := by
  unfold rds; rw [lookup_putF, if_pos rfl]
theorem rds_no (a : Addr) (k : Nat) {m : Str} (h1 : ¬ m = "place") (h2 : ¬ m = "numbers") : (rds a k).lookup m = none := by
  unfold rds; rw [lookup_putF, if_neg h1, lookup_putF, if_neg h2]; rfl
theorem rds_put (a : Addr) (k : Nat) (j : Nat) : putF "place" (.int (j : Nat)) (rds a k) = rds a j := by
  show (if ("numbers" : Str) = "place" then _ else (("numbers" : Str), V.ref a) :: (if ("place" : Str) = "place" then [(("place" : Str), V.int (j : Nat))] else _)) = _
  rw [if_neg (by decide +kernel), if_pos rfl]; rfl
theorem rds_len (a : Addr) (k : Nat) : (rds a k).length < 1000 := by show 2 < 1000; decide
structure RdAt (K : PySem.W.Frag) (C : Addr) (H : Hp) (r a : Addr) (l : List Int) (k : Nat) : Prop where
  at_ : ∃ dx, H r = some (.ins C dx (rds a k))
  seq : SqL K H a (vi l)
  le : k ≤ l.length
theorem But.seq {K : PySem.W.Frag} {H H' : Hp} {r a : Addr} {xs : List V} {C dx : Addr} {fs : List (Str × V)} (h : But r H H') (hr : H r = some (.ins C dx fs)) (s : SqL K H a xs) : SqL K H' a xs := by
  rcases s with (s | ⟨o, s⟩) | s
  · exact .inl (.inl (h _ _ s (ne_of s hr (by intro z; cases z))))
  · exact .inl (.inr ⟨o, h _ _ s (ne_of s hr (by intro z; cases z))⟩)
  · exact .inr s
structure RTxt (K : PySem.W.Frag) (mg : Str → Option Value) (C : Addr) : Prop where
  cl : Cls K C
  nN : NoAttr K C "numbers"
  nP : NoAttr K C "place"
  mgC : mg "Reader" = some (.ref C)
noncomputable def spRInit (C : Addr) : Sp := fun vs H Q _ => ∃ (p dx a : Addr), vs = [.ref p, .ref a] ∧ H p = some (.ins C dx []) ∧ ∀ H' : Hp, (∃ dx, H' p = some (.ins C dx (rds a 0))) → But p H H' → Q .non H'
noncomputable def spRAtEnd (K : PySem.W.Frag) (C : Addr) : Sp := fun vs H Q _ => ∃ (r a : Addr) (l : List Int) (k : Nat), vs = [.ref r] ∧ RdAt K C H r a l k ∧ Q (.bl (decide (l.length ≤ k))) H
noncomputable def spRNum (K : PySem.W.Frag) (C : Addr) : Sp := fun vs H Q _ => ∃ (r a : Addr) (l : List Int) (k : Nat) (x : Int), vs = [.ref r] ∧ RdAt K C H r a l k ∧ l[k]? = some x ∧
  ∀ H' : Hp, RdAt K C H' r a l (k + 1) → But r H H' → Q (.int x) H'
noncomputable def spRRow (K : PySem.W.Frag) (C : Addr) : Sp := fun vs H Q _ => ∃ (r a : Addr) (l : List Int) (k : Nat) (m t : List Int), vs = [.ref r] ∧ RdAt K C H r a l k ∧ l.drop k = (m.length : Int) :: (m ++ t) ∧ l.length ≤ 30000 ∧
  ∀ (H' : Hp) (q : Addr), RdAt K C H' r a l (k + 1 + m.length) → But r H H' → H q = none → H' q = some (.lst (vi m)) → Q (.ref q) H'
section
variable {P : Program} {w : World} {K : PySem.W.Frag} {mg : Str → Option Value} {base : Heap}
theorem scRI : FnScope ["self", "numbers"] ["self", "numbers"] (defScope sRInit) := ⟨rfl, rfl, rfl, by decide +kernel, rfl, by decide +kernel, by decide +kernel⟩
theorem ok_rinit {f C : Addr} {fd : FuncData} (F : Fun K "__init__" "Reader.__init__" sRInit f fd) (T : RTxt K mg C) : FnOk P w K mg base CX0 1 f fd ["self", "numbers"] (spRInit C) := by
  refine F.ok scRI (fun vs H Q E h => ?_) (fun cdv A outer s H vs Q E hr h => ?_)
  · obtain ⟨p, dx, a, rfl, _⟩ := h
    rfl
  · obtain ⟨p, dx, a, rfl, hp, k⟩ := h
    refine ⟨_, pss_cons (ps_fld (pv 0) (pv 1) rfl) (pss_one (ps_fld (pv 0) pe_int rfl)), ?_⟩
    refine ⟨_, rfl, _, rfl, p, C, dx, [], rfl, hp, T.cl, T.nN, (by show 0 < 1000; decide), ?_⟩
    refine ⟨_, rfl, p, C, dx, _, rfl, upd_same, T.cl, T.nP, (by show 1 < 1000; decide), ?_⟩
    exact k _ ⟨dx, upd_same⟩ fun b o e hb => by rw [upd_ne hb, upd_ne hb]; exact e
theorem scRE : FnScope ["self"] ["self"] (defScope sRAtEnd) := ⟨rfl, rfl, rfl, by decide +kernel, rfl, by decide +kernel, by decide +kernel⟩
theorem ok_ratend {f C : Addr} {fd : FuncData} (F : Fun K "at_end" "Reader.at_end" sRAtEnd f fd) (T : RTxt K mg C) (len : mg "len" = none) : FnOk P w K mg base CX0 1 f fd ["self"] (spRAtEnd K C) := by
  refine F.ok scRE (fun vs H Q E h => ?_) (fun cdv A outer s H vs Q E hr h => ?_)
  · obtain ⟨r, a, l, k, rfl, _⟩ := h
    rfl
  · obtain ⟨r, a, l, k, rfl, ⟨⟨dx, h1⟩, h2, h3⟩, q⟩ := h
    refine ⟨_, pss_one (ps_ret (pe_cmpR op_ge (pe_fld (pv 0) rfl) (pe_callB call_len_seq rfl len PySem.boot_len (pa_cons (pe_fld (pv 0) rfl) pa_nil)) (nomark _))), ?_⟩
    refine ⟨_, rfl, r, C, dx, _, _, rfl, h1, T.cl, T.nP, rds_place _ _, _, rfl, r, C, dx, _, _, rfl, h1, T.cl, T.nN, rds_num _ _, a, _, rfl, .inl h2, _, _, rfl, rfl, ?_⟩
    have e : decide (((vi l).length : Int) ≤ (k : Nat)) = decide (l.length ≤ k) := by
      rw [List.length_map]; simp
    show Q (V.bl (decide (((vi l).length : Int) ≤ (k : Nat)))) H
    rw [e]; exact q
theorem scRN : FnScope ["self", "number"] ["self"] (defScope sRNum) := ⟨rfl, rfl, rfl, by decide +kernel, rfl, by decide +kernel, by decide +kernel⟩
theorem ok_rnum {f C : Addr} {fd : FuncData} (F : Fun K "take_number" "Reader.take_number" sRNum f fd) (T : RTxt K mg C) : FnOk P w K mg base CX0 1 f fd ["self"] (spRNum K C) := by
  refine F.ok scRN (fun vs H Q E h => ?_) (fun cdv A outer s H vs Q E hr h => ?_)
  · obtain ⟨r, a, l, k, x, rfl, _⟩ := h
    rfl
  · obtain ⟨r, a, l, k, x, rfl, ⟨⟨dx, h1⟩, h2, h3⟩, hx, q⟩ := h
    refine ⟨_, pss_cons (ps_set (i := 1) scRN.nd rfl (Or.inl rfl) (pe_ix ix_list (pe_fld (pv 0) rfl) (pe_fld (pv 0) rfl) (fun _ _ => rfl)))
      (pss_cons (ps_fldaug (pv 0) pe_int in_add) (pss_one (ps_ret (pv 1)))), ?_⟩
    refine ⟨_, rfl, r, C, dx, _, _, rfl, h1, T.cl, T.nN, rds_num _ _, _, rfl, r, C, dx, _, _, rfl, h1, T.cl, T.nP, rds_place _ _, a, _, _, _, rfl, rfl, h2, at_of (j := k) (v := V.int x) rfl (by rw [List.getElem?_map, hx]; rfl), ?_⟩
    refine ⟨_, rfl, r, C, dx, _, _, rfl, h1, T.cl, T.nP, rds_place _ _, _, _, rfl, rfl, dx, _, h1, rds_len _ _, ?_⟩
    have e : putF "place" (V.int ((k : Nat) + 1)) (rds a k) = rds a (k + 1) := rds_put a k (k + 1)
    refine ⟨_, rfl, ?_⟩
    have bt : But r H (upd H r (.ins C dx (putF "place" (V.int ((k : Nat) + 1)) (rds a k)))) := fun b o eb hb => by rw [upd_ne hb]; exact eb
    refine q _ ⟨⟨dx, by rw [upd_same, e]⟩, bt.seq h1 h2, ?_⟩ bt
    have := (List.getElem?_eq_some_iff.1 hx).1
    omega
theorem scRR : FnScope ["self", "size", "row"] ["self"] (defScope sRRow) := ⟨rfl, rfl, rfl, by decide +kernel, rfl, by decide +kernel, by decide +kernel⟩
theorem ok_rrow {f fN C : Addr} {fd fdN : FuncData} (F : Fun K "take_row" "Reader.take_row" sRRow f fd) (T : RTxt K mg C) (FN : Fun K "take_number" "Reader.take_number" sRNum fN fdN) (bN : Binds K fdN ["self"] []) (mN : Meth K C "take_number" fN) :
    FnOk P w K mg base CX0 2 f fd ["self"] (spRRow K C) := by
  have GN : FnOk P w K mg base CX0 1 fN fdN ["self"] (spRNum K C) := ok_rnum FN T
  refine F.ok scRR (fun vs H Q E h => ?_) (fun cdv A outer s H vs Q E hr h => ?_)
  · obtain ⟨r, a, l, k, m, t, rfl, _⟩ := h
    rfl
  · obtain ⟨r, a, l, k, m, t, rfl, R, hd, l3, q⟩ := h
    obtain ⟨dx, h1⟩ := R.at_
    refine ⟨_, pss_cons (ps_set (i := 1) scRR.nd rfl (Or.inl rfl) (pe_meth0 (pv 0) T.cl mN GN hr bN .nil pass0))
      (pss_cons (ps_set (i := 2) scRR.nd rfl (Or.inl rfl) (pe_slice sl_list (pe_fld (pv 0) rfl) (po_some (pe_fld (pv 0) rfl)) (po_some (pe_op op_add (pe_fld (pv 0) rfl) (pv 1)))))
      (pss_cons (ps_fldaug (pv 0) (pv 1) in_add) (pss_one (ps_ret (pv 2))))), ?_⟩
    have hx : l[k]? = some (m.length : Int) := by
      have := congrArg (fun z => z[0]?) hd
      simpa [List.getElem?_drop] using this
    refine ⟨_, rfl, r, dx, _, rfl, h1, rds_no _ _ (by decide +kernel) (by decide +kernel), r, a, l, k, (m.length : Int), rfl, R, hx, fun H1 R1 b1 => ?_⟩
    obtain ⟨dx1, h2⟩ := R1.at_
    refine ⟨_, rfl, r, C, dx1, _, _, rfl, h2, T.cl, T.nN, rds_num _ _, _, rfl, r, C, dx1, _, _, rfl, h2, T.cl, T.nP, rds_place _ _, _, rfl, _, rfl, r, C, dx1, _, _, rfl, h2, T.cl, T.nP, rds_place _ _, _, rfl, _, _, rfl, rfl, _, rfl, a, _, rfl, R1.seq, fun q1 hq1 => ?_⟩
    have hdl : l.drop (k + 1) = m ++ t := by
      have := congrArg (fun z => z.drop 1) hd
      simpa [List.drop_drop] using this
    have len1 : l.length = k + 1 + m.length + t.length := by
      have := congrArg List.length hd
      simp at this
      have := (List.getElem?_eq_some_iff.1 hx).1
      omega
    have cut : cutV (vi l) (some ((k + 1 : Nat) : Int)) (some (((k + 1 : Nat) : Int) + (m.length : Int))) = vi m := by
      unfold cutV
      have e1 : (((k + 1 : Nat) : Int) + (m.length : Int)) = ((k + 1 + m.length : Nat) : Int) := by push_cast; rfl
      rw [e1, HT.sIx_nat, HT.sIx_nat, List.length_map, Nat.min_eq_left (by omega), Nat.min_eq_left (by omega), ← List.map_drop, ← List.map_take, hdl]
      congr 1
      rw [show k + 1 + m.length - (k + 1) = m.length by omega]
      simp
    have nqr : r ≠ q1 := ne_of_none h2 hq1
    have h3 : upd H1 q1 (.lst (cutV (vi l) (some ((k + 1 : Nat) : Int)) (some (((k + 1 : Nat) : Int) + (m.length : Int))))) r = some (.ins C dx1 (rds a (k + 1))) := by rw [upd_ne nqr]; exact h2
    refine ⟨_, rfl, r, C, dx1, _, _, rfl, h3, T.cl, T.nP, rds_place _ _, _, rfl, _, _, rfl, rfl, dx1, _, h3, rds_len _ _, ?_⟩
    have e : putF "place" (V.int (((k + 1 : Nat) : Int) + (m.length : Int))) (rds a (k + 1)) = rds a (k + 1 + m.length) := rds_put a (k + 1) (k + 1 + m.length)
    refine ⟨_, rfl, ?_⟩
    rw [e, cut]
    have bt : But r H (upd (upd H1 q1 (.lst (vi m))) r (.ins C dx1 (rds a (k + 1 + m.length)))) := fun b o eb hb => by
      rw [upd_ne hb, upd_ne (ne_of_none (b1 b o eb hb) hq1)]; exact b1 b o eb hb
    have hq0 : H q1 = none := by
      cases e0 : H q1 with
      | none => rfl
      | some o =>
        rw [b1 q1 o e0 (Ne.symm nqr)] at hq1; cases hq1
    refine q _ q1 ⟨⟨dx1, upd_same⟩, bt.seq h1 R.seq, by omega⟩ bt hq0 ?_
    rw [upd_ne (Ne.symm nqr), upd_same]
end
end Pw
end
section
set_option Elab.async false
set_option maxRecDepth 100000
set_option maxHeartbeats 2000000
namespace Pw
open PySem PySem.Spec PyProof.Rows L2
open Si07 (Mirrors IsWord mirrorsOf)
open Si07Neutral (natsOf)
open Cox Mir
noncomputable abbrev sIsTable : Stmt := top 21
noncomputable abbrev sPull : Stmt := top 22
noncomputable abbrev sPullsOf : Stmt := top 23
structure TabAt (K : PySem.W.Frag) (H : Hp) (a : Addr) (n : Nat) (m : List Int) : Prop where
  seq : SqL K H a (vi m)
  len : m.length = n * n
  pos : ∀ x, x ∈ m → 0 ≤ x ∧ x ≤ 255
  n8 : n ≤ 8
noncomputable def spPull (K : PySem.W.Frag) : Sp := fun vs H Q _ => ∃ (a : Addr) (n i j : Nat) (m : List Int), vs = [.int (n : Nat), .ref a, .int (i : Nat), .int (j : Nat)] ∧ TabAt K H a n m ∧ Si07.Good (mirrorsOf n (natsOf m)) ∧ i < n ∧ j < n ∧
  Q (.int (- Si07.cartan (mirrorsOf n (natsOf m)) i j)) H
open Classical in
noncomputable def only (N : Addr → Prop) (H : Hp) : Hp := fun b => if N b then H b else none
noncomputable def spPullsOf (K : PySem.W.Frag) : Sp := fun vs H Q _ => ∃ (a : Addr) (n : Nat) (m : List Int), vs = [.int (n : Nat), .ref a] ∧ TabAt K H a n m ∧ Si07.Good (mirrorsOf n (natsOf m)) ∧
  ∀ (H' : Hp) (q : Addr), Same H H' → H q = none → PullsAt K (only (fun b => H b = none) H') q (mirrorsOf n (natsOf m)) → Q (.ref q) H'
noncomputable def spIsTable (K : PySem.W.Frag) : Sp := fun vs H Q _ => ∃ (a : Addr) (n : Int) (m : List Int), vs = [.int n, .ref a] ∧ SqL K H a (vi m) ∧ (∀ x, x ∈ m → 0 ≤ x ∧ x ≤ 255) ∧
  ((1 ≤ n ∧ n ≤ 8 ∧ (m.length : Int) = n * n) ∨ (¬ (1 ≤ n ∧ n ≤ 8) ∧ m = [])) ∧ -2147483648 ≤ n ∧ n < 2147483648 ∧ ∀ b : Bool, (b = true ↔ 1 ≤ n ∧ n ≤ 8 ∧ Tab n.toNat m) → Q (.bl b) H
theorem place_int (n i j : Nat) : ((n : Nat) : Int) * ((i : Nat) : Int) + ((j : Nat) : Int) = ((n * i + j : Nat) : Int) := by push_cast; rfl
theorem TabAt.at {K : PySem.W.Frag} {H : Hp} {a : Addr} {n : Nat} {m : List Int} (t : TabAt K H a n m) {i j : Nat} (hi : i < n) (hj : j < n) : atI (vi m) (((n : Nat) : Int) * ((i : Nat) : Int) + ((j : Nat) : Int)) = some (V.int (ent m n i j)) := by
  rw [place_int]
  exact at_of (j := n * i + j) rfl (by rw [List.getElem?_map, ent_get t.len hi hj]; rfl)
theorem small64 {n : Nat} (h : n ≤ 8) : CMul ((n : Nat) : Int) i := .inl ⟨by omega, by omega⟩
section
variable {P : Program} {w : World} {K : PySem.W.Frag} {mg : Str → Option Value} {base : Heap}
theorem scPull : FnScope ["n", "m", "i", "j", "pair"] ["n", "m", "i", "j"] (defScope sPull) := ⟨rfl, rfl, rfl, by decide +kernel, rfl, by decide +kernel, by decide +kernel⟩
theorem ok_pull {f : Addr} {fd : FuncData} (F : Fun K "pull" "pull" sPull f fd) (T : Txt K mg) : FnOk P w K mg base CX0 1 f fd ["n", "m", "i", "j"] (spPull K) := by
  obtain ⟨aP, a2, a3, a4, a6, a0, T⟩ := T.pulls
  refine F.ok scPull (fun vs H Q E h => ?_) (fun cdv A outer s H vs Q E hr h => ?_)
  · obtain ⟨a, n, i, j, m, rfl, _⟩ := h
    rfl
  · obtain ⟨a, n, i, j, m, rfl, t, G, hi, hj, q⟩ := h
    refine ⟨_, pss_cons (ps_if (pt_cmpR op_eq (pv 2) (pv 3) (nomark _)) (pss_one (ps_ret (pe_un un_neg pe_int))) pss_nil)
      (pss_cons (ps_set (i := 4) scPull.nd rfl (Or.inl rfl) (pe_kget (pe_glob (v := .ref aP) rfl T.mg rfl) (pe_ix ix_list (pv 1) (pe_op op_add (pe_op op_mul (pv 0) (pv 2)) (pv 3)) (fun _ _ => rfl)) (fun _ _ => rfl)))
      (pss_one (ps_ret (pe_ifExp (pt_cmpR op_lt (pv 2) (pv 3) (nomark _)) (pe_ix ix_tup (pv 4) pe_int (fun _ _ => rfl)) (pe_ix ix_tup (pv 4) pe_int (fun _ _ => rfl)))))), ?_⟩
    refine ⟨_, rfl, _, rfl, rfl, _, rfl, ite2 (fun c => ?_) (fun c => ?_)⟩
    · have e : i = j := by
        have := of_decide_eq_true c
        injection this with this
        omega
      subst e
      refine ⟨_, rfl, ?_⟩
      have := q
      rw [cartan_self] at this
      exact this
    · have ne : i ≠ j := fun e => c (decide_eq_true (by rw [e]))
      have en : (((mirrorsOf n (natsOf m)).m i j : Nat) : Int) = ent m n i j := ent_nat t.len t.pos hi hj
      have fin : ∀ (v : Addr) (x y : Int), kdGet [(2, a2), (3, a3), (4, a4), (6, a6), (0, a0)] (ent m n i j) = some v → KTup K v [x, y] → - Si07.cartan (mirrorsOf n (natsOf m)) i j = (if i < j then x else y) →
          tSeq (tAsg (tKGet K (tC (.ref aP)) (tOp (rIxL K) (tVar 1) (tOp (rI0 fun i j => V.int (i + j)) (tOp (rI CMul fun i j => V.int (i * j)) (tVar 0) (tVar 2)) (tVar 3)))) (gName 4))
            (tRet (tIf (tTest (tOp (rI0 fun i j => V.bl (decide (i < j))) (tVar 2) (tVar 3))) (tOp (rIxT K) (tVar 4) (tC (.int 0))) (tOp (rIxT K) (tVar 4) (tC (.int 1)))))
            { nx := fun _ H' => Q V.non H', rt := Q } (L2.start ["n", "m", "i", "j", "pair"] [.int (n : Nat), .ref a, .int (i : Nat), .int (j : Nat)]) H := by
        intro v x y hv tv hx
        refine ⟨_, rfl, _, rfl, _, rfl, _, _, rfl, rfl, small64 t.n8, _, rfl, _, _, rfl, rfl, a, _, _, _, rfl, rfl, t.seq, t.at hi hj, aP, _, _, v, rfl, T.kd, rfl, hv, ?_⟩
        refine ⟨_, rfl, _, rfl, _, _, rfl, rfl, _, rfl, ite2 (fun c => ?_) (fun c => ?_)⟩
        · have c : i < j := by have := of_decide_eq_true c; omega
          refine ⟨_, rfl, v, _, _, V.int x, rfl, rfl, tv H, rfl, ?_⟩
          rw [hx, if_pos c] at q; exact q
        · have c : ¬ i < j := fun z => c (decide_eq_true (by omega))
          refine ⟨_, rfl, v, _, _, V.int y, rfl, rfl, tv H, rfl, ?_⟩
          rw [hx, if_neg c] at q; exact q
      rcases good_cases G hi hj ne with h | h | h | h | h
      · exact fin a0 2 2 (by rw [← en, h]; rfl) T.t0 (by simp [Si07.cartan, ne, h])
      · exact fin a2 0 0 (by rw [← en, h]; rfl) T.t2 (by simp [Si07.cartan, ne, h])
      · exact fin a3 1 1 (by rw [← en, h]; rfl) T.t3 (by simp [Si07.cartan, ne, h])
      · exact fin a4 1 2 (by rw [← en, h]; rfl) T.t4 (by
          by_cases l : i < j <;> simp [Si07.cartan, ne, h, l])
      · exact fin a6 1 3 (by rw [← en, h]; rfl) T.t6 (by
          by_cases l : i < j <;> simp [Si07.cartan, ne, h, l])
end
end Pw
end
section
set_option Elab.async false
set_option maxRecDepth 100000
set_option maxHeartbeats 2000000
namespace Pw
open PySem PySem.Spec PyProof.Rows L2
open Si07 (Mirrors IsWord)
open Cox Mir
noncomputable abbrev sBelow : Stmt := top 32
noncomputable abbrev sLowP : Stmt := top 38
noncomputable abbrev sLongest : Stmt := top 39
theorem dp_ints (K : PySem.W.Frag) (H : Hp) : ∀ ns : List Int, DpAll K H (vi ns) (ns.map PyData.int)
  | [] => .nil
  | n :: ns => .cons (.int n) (dp_ints K H ns)
theorem dp_list {K : PySem.W.Frag} {H : Hp} {a : Addr} {ns : List Int} (h : SqL K H a (vi ns)) : Dp K H (.ref a) (.list (ns.map PyData.int)) := .lst h (dp_ints K H ns)
theorem canLay_ints : ∀ ns : List Int, PyData.canLayAll0 (ns.map PyData.int) = true
  | [] => by simp only [List.map_nil, PyData.canLayAll0]
  | n :: ns => by
    simp only [List.map_cons, PyData.canLayAll0, PyData.canLay0, canLay_ints ns, Bool.and_self]
theorem depth_ints : ∀ ns : List Int, PyData.depthAll (ns.map PyData.int) = 0
  | [] => by simp only [List.map_nil, PyData.depthAll]
  | n :: ns => by
    simp only [List.map_cons, PyData.depthAll, PyData.depth, depth_ints ns, Nat.max_self]
theorem shaped_ints (ns : List Int) : SeqAt.shaped (.list (ns.map PyData.int)) = true := by
  unfold SeqAt.shaped
  rw [Bool.and_eq_true]
  refine ⟨?_, decide_eq_true ?_⟩
  · simp only [PyData.canLay0, canLay_ints ns]
  · simp only [PyData.depth, depth_ints ns]; omega
theorem eqv_ints : ∀ a b : List Int, PyData.eqvAll (a.map PyData.int) (b.map PyData.int) = decide (a = b)
  | [], [] => (by simp [PyData.eqvAll])
  | [], _ :: _ => (by simp [PyData.eqvAll])
  | _ :: _, [] => (by simp [PyData.eqvAll])
  | x :: a, y :: b => by
    have := eqv_ints a b
    rw [List.map_cons, List.map_cons]
    unfold PyData.eqvAll
    rw [this]
    unfold PyData.eqv
    by_cases q : x = y <;> by_cases r : a = b <;> simp [q, r]
theorem eqD_ints (a b : List Int) : PyData.eqv (.list (a.map PyData.int)) (.list (b.map PyData.int)) = decide (a = b) := by
  unfold PyData.eqv
  exact eqv_ints a b
theorem vi_inj {a b : List Int} (h : vi a = vi b) : a = b := by
  have := congrArg (List.map fun v => match v with | V.int i => i | _ => 0) h
  simpa [vi, List.map_map, Function.comp_def] using this
open Classical in
noncomputable def lenH (M : Mirrors) (xs : List V) : Nat := if h : ∃ y, IsWord M y ∧ xs = vi (hv M.n (act M y one)) then len M h.choose else 0
theorem lenH_eq {M : Mirrors} (G : Si07.Good M) {y : List Nat} (wy : IsWord M y) : lenH M (vi (hv M.n (act M y one))) = len M y := by
  have h : ∃ z, IsWord M z ∧ vi (hv M.n (act M y one)) = vi (hv M.n (act M z one)) := ⟨y, wy, rfl⟩
  unfold lenH
  rw [dif_pos h]
  obtain ⟨wz, e⟩ := h.choose_spec
  exact len_eqv wz wy ((heights_eqv G wz wy).1 (hv_inj (vi_inj e)).symm)
noncomputable def meas (M : Mirrors) (i : Nat) (σ : L2.St) (H : Hp) : Nat := match σ[i]? with
  | some (some (V.ref q)) => (match H q with | some (HO.lst xs) => lenH M xs | _ => 0)
  | _ => 0
theorem meas_eq {M : Mirrors} {i : Nat} {σ : L2.St} {H : Hp} {q : Addr} {xs : List V} (h : σ[i]? = some (some (V.ref q))) (hq : H q = some (.lst xs)) : meas M i σ H = lenH M xs := by
  unfold meas; rw [h]; dsimp only; rw [hq]
noncomputable def spBelow (K : PySem.W.Frag) : Sp := fun vs H Q _ => ∃ (p a b : Addr) (M : Mirrors) (u v : List Nat), vs = [.ref p, .ref a, .ref b] ∧ PullsAt K H p M ∧ SqL K H a (vn u) ∧ SqL K H b (vn v) ∧ Si07.Good M ∧ IsWord M u ∧ IsWord M v ∧
  ∀ (H' : Hp) (c : Bool), Same H H' → (c = true ↔ Bel M u v) → Q (.bl c) H'
noncomputable def spLowP (K : PySem.W.Frag) : Sp := fun vs H Q _ => ∃ (h : Addr) (n : Nat) (g : Nat → Int), vs = [.ref h] ∧ SqL K H h (vi (hv n g)) ∧ ∀ (H' : Hp), Same H H' → Q (optV (lowP n g)) H'
section
variable {P : Program} {w : World} {K : PySem.W.Frag} {mg : Str → Option Value} {base : Heap}
theorem scLowP : FnScope ["heights", "mirror", "height"] ["heights"] (defScope sLowP) := ⟨rfl, rfl, rfl, by decide +kernel, rfl, by decide +kernel, by decide +kernel⟩
theorem ok_lowP {f : Addr} {fd : FuncData} (F : Fun K "lowest_not_crossed" "lowest_not_crossed" sLowP f fd) (T : Txt K mg) : FnOk P w K mg base CX0 1 f fd ["heights"] (spLowP K) := by
  refine F.ok scLowP (fun vs H Q E h => ?_) (fun cdv A outer s H vs Q E hr h => ?_)
  · obtain ⟨h, n, g, rfl, _⟩ := h
    rfl
  · obtain ⟨h, n, g, rfl, hh, k⟩ := h
    refine ⟨_, pss_cons (ps_for PassesOwn.never rfl (pi_enum rfl T.enum (pa_cons (pv 0) pa_nil)) (pg_tup rfl (pgs_cons (pg_name (i := 1) scLowP.nd rfl (Or.inl rfl)) (pgs_cons (pg_name (i := 2) scLowP.nd rfl (Or.inl rfl)) pgs_nil)))
        (pss_one (ps_if (pt_cmpR op_gt (pv 2) pe_int (nomark _)) (pss_one (ps_ret (pv 1))) pss_nil)))
      (pss_one (ps_ret pe_non)), ?_⟩
    refine ⟨_, rfl, h, _, rfl, hh, for_enum (K := K) (a := h) (xs := vi (hv n g)) (fun i σ H' => ∃ (v1 v2 : Option V), σ = [some (.ref h), v1, v2] ∧ Same H H' ∧ ∀ j, j < i → ¬ 0 < g j)
      ⟨none, none, rfl, fun _ _ e => e, fun j hj => by omega⟩ (fun i σ H' _ zz => by obtain ⟨_, _, _, s1, _⟩ := zz; exact s1.seq hh) ?_ ?_⟩
    · rintro i x σ H' T hx ⟨v1, v2, rfl, s1, hj⟩ hT
      have hi : i < n := by
        have := (List.getElem?_eq_some_iff.1 hx).1
        simpa [hv_length] using this
      obtain rfl : x = V.int (g i) := by
        rw [List.getElem?_map, hv_get hi] at hx; exact (Option.some.inj hx).symm
      have s2 : Same H (upd H' T (.tup [.int (i : Nat), .int (g i)])) := s1.trans (Same.new hT)
      refine ⟨T, _, rfl, SqT.of upd_same, rfl, _, _, rfl, _, _, rfl, rfl, _, rfl, _, _, rfl, rfl, _, rfl, ite2 (fun c => ?_) (fun c => ?_)⟩
      · have c := of_decide_eq_true c
        refine ⟨_, rfl, ?_⟩
        have := k _ s2
        rw [lowP_some hj hi c] at this
        exact this
      · refine ⟨_, _, rfl, s2, fun j hj' => ?_⟩
        by_cases e : j = i
        · subst e; exact fun q => c (decide_eq_true q)
        · exact hj j (by omega)
    · rintro σ H' ⟨v1, v2, rfl, s1, hj⟩
      have := k _ s1
      rw [lowP_none (fun j hj' => hj j (by simpa [hv_length] using hj'))] at this
      exact this
theorem low_no {n : Nat} {g : Nat → Int} (h : low n g = none) : ∀ j, j < n → ¬ g j < 0 := by
  unfold low at h
  intro j hj
  have := List.find?_eq_none.1 h j (List.mem_range.2 hj)
  intro q; exact this (decide_eq_true q)
theorem scBelow : FnScope ["pulls", "a", "b", "lower", "upper", "mirror"] ["pulls", "a", "b"] (defScope sBelow) := ⟨rfl, rfl, rfl, by decide +kernel, rfl, by decide +kernel, by decide +kernel⟩
theorem ok_below {f fM fV fF fH fL : Addr} {fd fdM fdV fdF fdH fdL : FuncData} (F : Fun K "lies_below" "lies_below" sBelow f fd) (T : Txt K mg) (D : HD K mg fM fdM fV fdV fF fdF)
    (DH : Df K mg "heights_behind" sHeights ["pulls", "letters"] fH fdH) (DL : Df K mg "lowest_crossed" sLow ["heights"] fL fdL) : FnOk P w K mg base CX0 4 f fd ["pulls", "a", "b"] (spBelow K) := by
  have GM : FnOk P w K mg base CX0 1 fM fdM ["pulls", "heights", "mirror"] (spMirrored K) := ok_mirrored D.M.F T
  have GH : FnOk P w K mg base CX0 3 fH fdH ["pulls", "letters"] (spHeights K) := ok_heights DH.F T D
  have GL : FnOk P w K mg base CX0 1 fL fdL ["heights"] (spLow K) := ok_low DL.F T
  refine F.ok scBelow (fun vs H Q E h => ?_) (fun cdv A outer s H vs Q E hr h => ?_)
  · obtain ⟨p, a, b, M, u, v, rfl, _⟩ := h
    rfl
  · obtain ⟨p, a, b, M, u, v, rfl, hp, ha, hb, G, wu, wv, k⟩ := h
    have h8 : M.n ≤ 8 := G.2.1
    have hr1 : Room 1 _ := hr.mono (by decide)
    refine ⟨_, pss_cons (ps_set (i := 3) scBelow.nd rfl (Or.inl rfl) (pe_call GH hr rfl DH.m DH.F.kp DH.b .nil pass0 (pa_cons (pv 0) (pa_cons (pv 1) pa_nil))))
      (pss_cons (ps_set (i := 4) scBelow.nd rfl (Or.inl rfl) (pe_call GH hr rfl DH.m DH.F.kp DH.b .nil pass0 (pa_cons (pv 0) (pa_cons (pv 2) pa_nil))))
      (pss_cons (ps_set (i := 5) scBelow.nd rfl (Or.inl rfl) (pe_call GL hr1 rfl DL.m DL.F.kp DL.b .nil pass0 (pa_cons (pv 4) pa_nil)))
      (pss_cons (ps_while PassesOwn.never (pt_cmp (pc_notN (pv 5)))
        (pss_cons (ps_set (i := 4) scBelow.nd rfl (Or.inl rfl) (pe_call GM hr1 rfl D.M.m D.M.F.kp D.M.b .nil pass0 (pa_cons (pv 0) (pa_cons (pv 4) (pa_cons (pv 5) pa_nil)))))
        (pss_cons (ps_if (pt_cmpR op_lt (pe_ix ix_list (pv 3) (pv 5) (fun _ _ => rfl)) pe_int (nomark _))
          (pss_one (ps_set (i := 3) scBelow.nd rfl (Or.inl rfl) (pe_call GM hr1 rfl D.M.m D.M.F.kp D.M.b .nil pass0 (pa_cons (pv 0) (pa_cons (pv 3) (pa_cons (pv 5) pa_nil)))))) pss_nil)
        (pss_one (ps_set (i := 5) scBelow.nd rfl (Or.inl rfl) (pe_call GL hr1 rfl DL.m DL.F.kp DL.b .nil pass0 (pa_cons (pv 4) pa_nil)))))))
      (pss_one (ps_ret (pe_cmpR (op_eqD hr.units) (pv 3) (pv 4) (nomark _))))))), ?_⟩
    refine ⟨_, rfl, _, rfl, p, a, M, u, rfl, hp, ha, wu, h8, fun H1 q1 s1 hn1 hq1 => ?_⟩
    refine ⟨_, rfl, _, rfl, p, b, M, v, rfl, hp.same s1, s1.seq hb, wv, h8, fun H2 q2 s2 hn2 hq2 => ?_⟩
    have s12 := s1.trans s2
    refine ⟨_, rfl, q2, M.n, act M v one, rfl, SqL.of hq2, fun H3 s3 => ?_⟩
    have s13 := s12.trans s3
    refine while_by (fun σ H' => ∃ (ql qu : Addr) (x y : List Nat), σ = [some (.ref p), some (.ref a), some (.ref b), some (.ref ql), some (.ref qu), some (optV (low M.n (act M y one)))] ∧ Same H H' ∧
        H' ql = some (.lst (vi (hv M.n (act M x one)))) ∧ H' qu = some (.lst (vi (hv M.n (act M y one)))) ∧ IsWord M x ∧ IsWord M y ∧ (Bel M x y ↔ Bel M u v))
      (fun (σ : L2.St) (H' : Hp) => meas M 4 σ H')
      ⟨q1, q2, u, v, rfl, s13, s3 _ _ (s2 _ _ hq1), s3 _ _ hq2, wu, wv, Iff.rfl⟩ ?_ ?_
    · rintro σ H' ⟨ql, qu, x, y, rfl, s4, hql, hqu, wx, wy, bel⟩
      refine ⟨_, rfl, _, rfl, ?_⟩
      cases lo : low M.n (act M y one) with
      | none =>
        refine iteF ?_
        refine ⟨_, rfl, _, rfl, _, _, dp_list (SqL.of hql), dp_list (SqL.of hqu), shaped_ints _, shaped_ints _, ?_⟩
        rw [eqD_ints]
        refine k H' _ s4 ?_
        have yn := all_up G wy (low_no lo)
        rw [decide_eq_true_iff, ← bel, bel_nil G yn]
        constructor
        · intro e
          exact ((heights_eqv G wx wy).1 (hv_inj e)).trans yn
        · intro e
          exact hv_congr ((heights_eqv G wx wy).2 (e.trans yn.symm))
      | some i =>
        obtain ⟨hi, neg⟩ := low_is lo
        have dn := (height_neg G wy hi).1 neg
        have l1 := len_down wy hi dn
        refine iteT ?_
        refine ⟨_, rfl, _, rfl, _, rfl, p, qu, M, act M y one, i, rfl, hp.same s4, SqL.of hqu, hi, h8, fun H5 q5 s5 hn5 hq5 => ?_⟩
        have hql5 := s5 _ _ hql
        have wyi := isWord_snoc wy hi
        have hq5' : H5 q5 = some (.lst (vi (hv M.n (act M (y ++ [i]) one)))) := by rw [hq5, act_snoc]
        obtain ⟨b1, b2⟩ := bel_step G wx wy hi ((down_height G wy hi).2 neg)
        refine ⟨_, rfl, _, rfl, ql, _, _, _, rfl, rfl, SqL.of hql5, at_of (j := i) (v := V.int (act M x one i)) rfl (by rw [List.getElem?_map, hv_get hi]; rfl), _, _, rfl, rfl, _, rfl, ite2 (fun c => ?_) (fun c => ?_)⟩
        · have c := of_decide_eq_true c
          refine ⟨_, rfl, _, rfl, _, rfl, p, ql, M, act M x one, i, rfl, hp.same (s4.trans s5), SqL.of hql5, hi, h8, fun H6 q6 s6 hn6 hq6 => ?_⟩
          refine ⟨_, rfl, q5, M.n, act M (y ++ [i]) one, rfl, SqL.of (s6 _ _ hq5'), fun H7 s7 => ?_⟩
          refine ⟨⟨q6, q5, x ++ [i], y ++ [i], rfl, ((s4.trans s5).trans s6).trans s7, by rw [s7 _ _ hq6, act_snoc], s7 _ _ (s6 _ _ hq5'), isWord_snoc wx hi, wyi, ?_⟩, ?_⟩
          · rw [← bel]; exact (b1 ((down_height G wx hi).2 c)).symm
          · rw [meas_eq (i := 4) rfl (s7 _ _ (s6 _ _ hq5')), meas_eq (i := 4) rfl hqu, lenH_eq G wyi, lenH_eq G wy]; omega
        · have c : ¬ act M x one i < 0 := fun q => c (decide_eq_true q)
          refine ⟨_, rfl, q5, M.n, act M (y ++ [i]) one, rfl, SqL.of hq5', fun H7 s7 => ?_⟩
          refine ⟨⟨ql, q5, x, y ++ [i], rfl, (s4.trans s5).trans s7, s7 _ _ hql5, s7 _ _ hq5', wx, wyi, ?_⟩, ?_⟩
          · rw [← bel]; exact (b2 (fun d => c ((down_height G wx hi).1 d))).symm
          · rw [meas_eq (i := 4) rfl (s7 _ _ hq5'), meas_eq (i := 4) rfl hqu, lenH_eq G wyi, lenH_eq G wy]; omega
    · intro σ H' Q1 Q2 h12 ⟨v, hv1, b, hb, q⟩
      exact ⟨v, hv1, b, hb, h12 _ _ q⟩
end
end Pw
end
section
set_option Elab.async false
set_option maxRecDepth 100000
set_option maxHeartbeats 2000000
namespace Pw
open PySem PySem.Spec PyProof.Rows L2
open Si07 (Mirrors IsWord)
open Cox Mir
theorem for_zip {K : PySem.W.Frag} {a b : Addr} {xs ys : List V} {g : TG} {tb : TS} {D : Ends} {σ : L2.St} {H : Hp} (len : ys.length = xs.length) (Pv : Nat → L2.St → Hp → Prop) (h0 : Pv 0 σ H) (hl : ∀ i σ H, i ≤ xs.length → Pv i σ H → SqL K H a xs ∧ SqL K H b ys)
    (hs : ∀ i x y σ H T, xs[i]? = some x → ys[i]? = some y → Pv i σ H → H T = none → g (.ref T) σ (upd H T (.tup [x, y])) fun σ2 H2 => tb { D with nx := Pv (i + 1), ct := Pv (i + 1), bk := D.nx } σ2 H2) (hd : ∀ σ H, Pv xs.length σ H → D.nx σ H) :
    ∃ W : Nat → Nat → L2.St → Hp → Prop, (∃ m, W 0 m σ H) ∧ ∀ i m σ H, W i m σ H →
      ((Itz K a b).stop i H ∧ D.nx σ H) ∨ ((Itz K a b).go i H ∧ ∃ N : L2.St → Hp → Prop, (∀ σ' H', N σ' H' → ∃ m', m' < m ∧ W (i + 1) m' σ' H') ∧ ∀ x H', (Itz K a b).yld i H x H' → g x σ H' fun σ2 H2 => tb { D with nx := N, ct := N, bk := D.nx } σ2 H2) := by
  refine ⟨fun i m σ H => m = xs.length - i ∧ i ≤ xs.length ∧ Pv i σ H, ⟨xs.length, by simp, Nat.zero_le _, h0⟩, ?_⟩
  rintro i m σ H ⟨rfl, hi, p⟩
  obtain ⟨qa, qb⟩ := hl i σ H hi p
  by_cases hlt : i < xs.length
  · refine .inr ⟨⟨xs, ys, xs[i], ys[i]'(by omega), qa, qb, by simp [hlt], by simp [len, hlt]⟩, Pv (i + 1), fun σ' H' p' => ⟨xs.length - (i + 1), by omega, rfl, hlt, p'⟩, fun x H' y => ?_⟩
    obtain ⟨T, u, v, rfl, hT, rfl, hu, hv⟩ := y
    exact hs i u v σ H T (hu xs qa) (hv ys qb) p hT
  · have e : i = xs.length := by omega
    subst e
    exact .inl ⟨⟨xs, ys, qa, qb, Or.inl (Nat.le_refl _)⟩, hd σ H p⟩
theorem lc_enum {K : PySem.W.Frag} {a : Addr} {xs : List V} {g : TG} {tt : TT} {te : TE} {vs : List Nat} {σ : L2.St} {H1 : Hp} {D : Addr} {Qd : Hp → Prop} (Pv : Nat → Hp → Prop) (h0 : Pv 0 (upd H1 D (.lst [])))
    (hl : ∀ i H, i ≤ xs.length → Pv i H → SqL K H a xs)
    (hs : ∀ i x H T, xs[i]? = some x → Pv i H → H T = none → g (.ref T) (wipe σ vs) (upd H T (.tup [.int (i : Nat), x])) fun σ2 H2 => wipe σ2 vs = wipe σ vs ∧ tt σ2 H2 fun b H3 =>
      if b = true then te σ2 H3 fun y H4 => ∃ acc, H4 D = some (.lst acc) ∧ acc.length < sizeLine ∧ Pv (i + 1) (upd H4 D (.lst (acc ++ [y]))) else Pv (i + 1) H3) (hd : ∀ H, Pv xs.length H → Qd H) :
    ∃ W : Nat → Nat → Hp → Prop, (∃ m, W 0 m (upd H1 D (.lst []))) ∧ ∀ i m H, W i m H →
      ((Ite K a).stop i H ∧ Qd H) ∨ ((Ite K a).go i H ∧ ∃ Nx : Hp → Prop, (∀ H', Nx H' → ∃ m', m' < m ∧ W (i + 1) m' H') ∧ ∀ x H', (Ite K a).yld i H x H' → g x (wipe σ vs) H' fun σ2 H2 => wipe σ2 vs = wipe σ vs ∧ tt σ2 H2 fun b H3 =>
        if b = true then te σ2 H3 fun y H4 => ∃ acc, H4 D = some (.lst acc) ∧ acc.length < sizeLine ∧ Nx (upd H4 D (.lst (acc ++ [y]))) else Nx H3) := by
  refine ⟨fun i m H => m = xs.length - i ∧ i ≤ xs.length ∧ Pv i H, ⟨xs.length, by simp, Nat.zero_le _, h0⟩, ?_⟩
  rintro i m H ⟨rfl, hi, p⟩
  have q := hl i H hi p
  by_cases hlt : i < xs.length
  · refine .inr ⟨⟨xs, xs[i], q, by simp [hlt]⟩, Pv (i + 1), fun H' p' => ⟨xs.length - (i + 1), by omega, rfl, hlt, p'⟩, fun x H' y => ?_⟩
    obtain ⟨T, u, rfl, hT, rfl, hu⟩ := y
    exact hs i u H T (hu xs q) p hT
  · have e : i = xs.length := by omega
    subst e
    exact .inl ⟨⟨xs, q, Nat.le_refl _⟩, hd H p⟩
theorem op_mulB {X : Cx} : OpR X (binaryOp .Mult) (rI IntMulOk fun i j => .int (i * j)) := opI fun _ _ _ _ _ _ _ hc q => mul_int q hc
structure ListsAt (K : PySem.W.Frag) (H : Hp) (a : Addr) (gs : List (List Int)) : Prop where
  ex : ∃ rs : List Addr, SqL K H a (rs.map V.ref) ∧ rs.length = gs.length ∧ ∀ (i : Nat) (r : Addr) (g : List Int), rs[i]? = some r → gs[i]? = some g → SqL K H r (vi g)
theorem ListsAt.same {K : PySem.W.Frag} {H H' : Hp} {a : Addr} {gs : List (List Int)} (h : ListsAt K H a gs) (s : Same H H') : ListsAt K H' a gs := by
  obtain ⟨rs, x, y, z⟩ := h.ex
  exact ⟨rs, s.seq x, y, fun i r g p q => s.seq (z i r g p q)⟩
structure Building (H : Hp) (a : Addr) (gs : List (List Int)) : Prop where
  ex : ∃ rs : List Addr, H a = some (.lst (rs.map V.ref)) ∧ rs.length = gs.length ∧ ∀ (i : Nat) (r : Addr) (g : List Int), rs[i]? = some r → gs[i]? = some g → H r = some (.lst (vi g)) ∧ r ≠ a
theorem Building.same {H H' : Hp} {a : Addr} {gs : List (List Int)} (h : Building H a gs) (s : Same H H') : Building H' a gs := by
  obtain ⟨rs, x, y, z⟩ := h.ex
  exact ⟨rs, s _ _ x, y, fun i r g p q => ⟨s _ _ (z i r g p q).1, (z i r g p q).2⟩⟩
theorem Building.lists {K : PySem.W.Frag} {H : Hp} {a : Addr} {gs : List (List Int)} (h : Building H a gs) : ListsAt K H a gs := by
  obtain ⟨rs, x, y, z⟩ := h.ex
  exact ⟨rs, SqL.of x, y, fun i r g p q => SqL.of (z i r g p q).1⟩
theorem Building.at_ {H : Hp} {a : Addr} {gs : List (List Int)} (h : Building H a gs) : ∃ rs : List Addr, H a = some (.lst (rs.map V.ref)) ∧ rs.length = gs.length := by
  obtain ⟨rs, x, y, _⟩ := h.ex
  exact ⟨rs, x, y⟩
theorem Building.push {H : Hp} {a q : Addr} {gs : List (List Int)} {g : List Int} {acc : List V} (h : Building H a gs) (ha : H a = some (.lst acc)) (hq : H q = some (.lst (vi g))) (ne : q ≠ a) : Building (upd H a (.lst (acc ++ [V.ref q]))) a (gs ++ [g]) := by
  obtain ⟨rs, x, y, z⟩ := h.ex
  rw [ha] at x
  have x : acc = rs.map V.ref := by injection x with x; injection x
  refine ⟨rs ++ [q], by rw [upd_same, x]; simp, by simp [y], ?_⟩
  intro i r g' p p'
  by_cases hi : i < rs.length
  · rw [List.getElem?_append_left hi] at p
    rw [List.getElem?_append_left (by omega)] at p'
    obtain ⟨z1, z2⟩ := z i r g' p p'
    exact ⟨by rw [upd_ne z2]; exact z1, z2⟩
  · rw [List.getElem?_append_right (by omega)] at p
    rw [List.getElem?_append_right (by omega), ← y] at p'
    have hi' : i - rs.length = 0 := by
      have := (List.getElem?_eq_some_iff.1 p).1
      simp at this; omega
    rw [hi'] at p p'
    obtain rfl : q = r := by simpa using p
    obtain rfl : g = g' := by simpa using p'
    exact ⟨by rw [upd_ne ne]; exact hq, ne⟩
theorem Building.new {H : Hp} {a : Addr} : Building (upd H a (.lst [])) a [] := ⟨[], by rw [upd_same]; rfl, rfl, fun i r g p _ => by simp at p⟩
noncomputable abbrev sImages : Stmt := top 33
noncomputable abbrev sMvi : Stmt := top 34
noncomputable abbrev sOrder : Stmt := top 35
noncomputable def imgs (M : Mirrors) (u : List Nat) : List (List Int) := (List.range M.n).map fun i => hv M.n (act M u (unit i))
theorem imgs_length (M : Mirrors) (u : List Nat) : (imgs M u).length = M.n := by simp [imgs]
theorem imgs_get {M : Mirrors} {u : List Nat} {i : Nat} (h : i < M.n) : (imgs M u)[i]? = some (hv M.n (act M u (unit i))) := by
  simp [imgs, h]
noncomputable def spLongest (K : PySem.W.Frag) : Sp := fun vs H Q _ => ∃ (p : Addr) (M : Mirrors), vs = [.ref p] ∧ PullsAt K H p M ∧ Si07.Good M ∧
  ((∃ u, IsWord M u ∧ AllDown M u ∧ len M u ≤ 120 ∧ Si07.longestOf M = some (Si07.leastOf M u)) ∨ ((∃ d, Rises M d) ∧ Si07.longestOf M = none)) ∧
  (∀ (H' : Hp) (q : Addr) (w : List Nat), Si07.longestOf M = some w → w.length ≤ 300 → Same H H' → H q = none → H' q = some (.lst (vn w)) → Q (.ref q) H') ∧ ∀ H' : Hp, Si07.longestOf M = none → Same H H' → Q .non H'
noncomputable def spImages (K : PySem.W.Frag) : Sp := fun vs H Q _ => ∃ (p l : Addr) (M : Mirrors) (u : List Nat), vs = [.ref p, .ref l] ∧ PullsAt K H p M ∧ SqL K H l (vn u) ∧ IsWord M u ∧ M.n ≤ 8 ∧
  ∀ (H' : Hp) (q : Addr), Same H H' → H q = none → ListsAt K H' q (imgs M u) → Q (.ref q) H'
noncomputable def spMvi (K : PySem.W.Frag) : Sp := fun vs H Q _ => ∃ (a h : Addr) (M : Mirrors) (u : List Nat) (g : Nat → Int), vs = [.ref a, .ref h] ∧ ListsAt K H a (imgs M u) ∧ SqL K H h (vi (hv M.n g)) ∧ IsWord M u ∧ M.n ≤ 8 ∧
  (∀ i, i < M.n → (g i).natAbs < 2 ^ 1048576) ∧ (∀ i j, i < M.n → j < M.n → (act M u (unit i) j).natAbs < 2 ^ 1048576) ∧
  ∀ (H' : Hp) (q : Addr), Same H H' → H q = none → H' q = some (.lst (vi (hv M.n (act M u g)))) → Q (.ref q) H'
section
variable {P : Program} {w : World} {K : PySem.W.Frag} {mg : Str → Option Value} {base : Heap}
theorem scLongest : FnScope ["pulls", "heights", "letters", "mirror"] ["pulls"] (defScope sLongest) := ⟨rfl, rfl, rfl, by decide +kernel, rfl, by decide +kernel, by decide +kernel⟩
theorem ok_longest {f fM fV fF fP : Addr} {fd fdM fdV fdF fdP : FuncData} (F : Fun K "longest_word" "longest_word" sLongest f fd) (T : Txt K mg) (D : HD K mg fM fdM fV fdV fF fdF)
    (DP : Df K mg "lowest_not_crossed" sLowP ["heights"] fP fdP) : FnOk P w K mg base CX0 2 f fd ["pulls"] (spLongest K) := by
  have GM : FnOk P w K mg base CX0 1 fM fdM ["pulls", "heights", "mirror"] (spMirrored K) := ok_mirrored D.M.F T
  have GF : FnOk P w K mg base CX0 1 fF fdF ["pulls"] (spFirst K) := ok_first D.F.F
  have GP : FnOk P w K mg base CX0 1 fP fdP ["heights"] (spLowP K) := ok_lowP DP.F T
  obtain ⟨tL, hL⟩ := T.longL
  refine F.ok scLongest (fun vs H Q E h => ?_) (fun cdv A outer s H vs Q E hr h => ?_)
  · obtain ⟨p, M, rfl, _⟩ := h
    rfl
  · obtain ⟨p, M, rfl, hp, G, cs, k1, k2⟩ := h
    have h8 : M.n ≤ 8 := G.2.1
    refine ⟨_, pss_cons (ps_set (i := 1) scLongest.nd rfl (Or.inl rfl) (pe_call GF hr rfl D.F.m D.F.F.kp D.F.b .nil pass0 (pa_cons (pv 0) pa_nil)))
      (pss_cons (ps_set (i := 2) scLongest.nd rfl (Or.inl rfl) (pe_lst pa_nil))
      (pss_cons (ps_set (i := 3) scLongest.nd rfl (Or.inl rfl) (pe_call GP hr rfl DP.m DP.F.kp DP.b .nil pass0 (pa_cons (pv 1) pa_nil)))
      (pss_cons (ps_while PassesOwn.never (pt_cmp (pc_notN (pv 3)))
        (pss_cons (ps_if (pt_cmpR op_eq (pe_callB call_len_seq rfl T.len PySem.boot_len (pa_cons (pv 2) pa_nil)) (pe_glob (v := .int 120) rfl hL ⟨_, rfl⟩) (nomark _)) (pss_one (ps_ret pe_non)) pss_nil)
        (pss_cons (ps_expr (pe_bm PySem.F.plainAttrs_list PySem.F.slot_list_append PySem.F.type_list_append mt_append (pv 2) (pa_cons (pv 3) pa_nil)))
        (pss_cons (ps_set (i := 1) scLongest.nd rfl (Or.inl rfl) (pe_call GM hr rfl D.M.m D.M.F.kp D.M.b .nil pass0 (pa_cons (pv 0) (pa_cons (pv 1) (pa_cons (pv 3) pa_nil)))))
        (pss_one (ps_set (i := 3) scLongest.nd rfl (Or.inl rfl) (pe_call GP hr rfl DP.m DP.F.kp DP.b .nil pass0 (pa_cons (pv 1) pa_nil))))))))
      (pss_one (ps_ret (pv 2)))))), ?_⟩
    refine ⟨_, rfl, p, M, rfl, hp, h8, fun H1 q1 s1 hn1 hq1 => ?_⟩
    refine ⟨Nat.zero_le _, fun r hr0 => ?_⟩
    have sC : Same H1 (upd H1 r (.lst [])) := Same.new hr0
    have rH : H r = none := s1.free hr0
    refine ⟨_, rfl, q1, M.n, one, rfl, SqL.of (sC _ _ hq1), fun H2 s2 => ?_⟩
    have hr2 : H2 r = some (.lst (vn [])) := s2 _ _ upd_same
    have hq2 : H2 q1 = some (.lst (vi (hv M.n (act M [] one)))) := s2 _ _ (sC _ _ hq1)
    have sD : Same H H2 := (s1.trans sC).trans s2
    refine while_by (fun σ H' => ∃ (q : Addr) (t : List Nat), σ = [some (.ref p), some (.ref q), some (.ref r), some (optV (lowP M.n (act M t one)))] ∧ Same H H' ∧ H' q = some (.lst (vi (hv M.n (act M t one)))) ∧ q ≠ r ∧
        H' r = some (.lst (vn t)) ∧ IsWord M t ∧ len M t = t.length ∧ t.length ≤ 120 ∧ ∀ u, IsWord M u → AllDown M u → t ++ take M (300 - t.length) (fun j => - act M t one j) = Si07.leastOf M u)
      (fun σ H' => match H' r with | some (.lst xs) => 300 - xs.length | _ => 0)
      ⟨q1, [], rfl, sD, hq2, ne_of_none hq1 hr0, hr2, isWord_nil M, len_nil M, by simp, fun u wu au => by rw [leastOf_down G wu au]; rfl⟩ ?_ ?_
    · rintro σ H' ⟨q, t, rfl, s3, hq, hqr, ht, wt, lt, t120, inv⟩
      refine ⟨_, rfl, _, rfl, ?_⟩
      cases lo : lowP M.n (act M t one) with
      | none =>
        refine iteF ?_
        have ad : AllDown M t := fun c hc => by
          have h1 := lowP_no lo c hc
          have h2 := act_one_ne G wt hc
          exact (down_height G wt hc).2 (by omega)
        rcases cs with ⟨u, wu, au, u120, e⟩ | ⟨⟨d, rd⟩, e⟩
        · refine ⟨_, rfl, k1 H' r _ e ?_ s3 rH ?_⟩
          · rw [(leastOf_ok G wu (by omega)).2.2]; omega
          · have := inv u wu au
            obtain ⟨f, hf⟩ : ∃ f, 300 - t.length = f + 1 := ⟨299 - t.length, by omega⟩
            rw [hf] at this
            unfold take at this
            rw [← lowP_low, lo] at this
            rw [ht, ← this]; simp
        · exact absurd ad (rises_no G rd wt)
      | some i =>
        obtain ⟨hi, pos⟩ := lowP_is lo
        have nd : ¬ Down M t i := fun d => by have := (down_height G wt hi).1 d; omega
        have l1 := len_up G wt hi nd
        have wti := isWord_snoc wt hi
        refine iteT ?_
        refine ⟨_, rfl, r, _, rfl, .inl (SqL.of ht), rfl, _, rfl, ite2 (fun c => ?_) (fun c => ?_)⟩
        · have c : t.length = 120 := by
            have := of_decide_eq_true c
            injection this with this
            rw [List.length_map] at this
            omega
          rcases cs with ⟨u, wu, au, u120, e⟩ | ⟨⟨d, rd⟩, e⟩
          · have := allDown_max G wu au wti
            omega
          · exact k2 H' e s3
        have c : t.length ≠ 120 := fun z => c (decide_eq_true (by rw [List.length_map, z]; rfl))
        refine ⟨_, rfl, .inl ⟨rfl, _, SqL.of ht⟩, _, rfl, r, _, _, rfl, rfl, ht, ?_, ?_⟩
        · rw [List.length_map]; exact Nat.lt_of_le_of_lt (show t.length ≤ 300 by omega) (by decide)
        have s4 : Same H (upd H' r (.lst (vn t ++ [V.int (i : Nat)]))) := fun b o eb => by
          rw [upd_ne (ne_of_none eb rH)]; exact s3 b o eb
        have hq4 : upd H' r (.lst (vn t ++ [V.int (i : Nat)])) q = some (.lst (vi (hv M.n (act M t one)))) := by rw [upd_ne hqr]; exact hq
        refine ⟨_, rfl, _, rfl, _, rfl, p, q, M, act M t one, i, rfl, hp.same s4, SqL.of hq4, hi, h8, fun H5 q5 s5 hn5 hq5 => ?_⟩
        have hr5 : H5 r = some (.lst (vn t ++ [V.int (i : Nat)])) := s5 _ _ upd_same
        refine ⟨_, rfl, q5, M.n, act M (t ++ [i]) one, rfl, SqL.of (by rw [hq5, act_snoc]), fun H6 s6 => ?_⟩
        refine ⟨⟨q5, t ++ [i], rfl, fun b o eb => s6 _ _ (s5 _ _ (s4 b o eb)), ?_, ?_, ?_, wti, by rw [l1, lt]; simp, by simp; omega, ?_⟩, ?_⟩
        · rw [s6 _ _ hq5, act_snoc]
        · intro z; subst z; rw [upd_same] at hn5; cases hn5
        · rw [s6 _ _ hr5, vn_snoc]
        · intro u wu au
          rw [← inv u wu au]
          obtain ⟨f, hf⟩ : ∃ f, 300 - t.length = f + 1 := ⟨299 - t.length, by omega⟩
          conv => rhs; rw [hf]; unfold take
          rw [← lowP_low, lo, act_snoc]
          dsimp only
          rw [rf_neg, show 300 - (t ++ [i]).length = f by simp; omega]; simp
        · rw [ht, s6 _ _ hr5]; simp; omega
    · intro σ H' Q1 Q2 h12 ⟨v, hv1, b, hb, q⟩
      exact ⟨v, hv1, b, hb, h12 _ _ q⟩
end
end Pw
end
section
set_option Elab.async false
set_option maxRecDepth 100000
set_option maxHeartbeats 2000000
namespace Pw
open PySem PySem.Spec PyProof.Rows L2
open Si07 (Mirrors IsWord)
open Cox Mir
theorem nth_ref {l : List Addr} {i : Nat} {y : V} (hi : (l.map V.ref)[i]? = some y) : ∃ c, l[i]? = some c ∧ y = V.ref c := by
  rw [List.getElem?_map] at hi
  cases e : l[i]? with
  | none => rw [e] at hi; cases hi
  | some c => rw [e] at hi; exact ⟨c, rfl, (Option.some.inj hi).symm⟩
section
variable {P : Program} {w : World} {K : PySem.W.Frag} {mg : Str → Option Value} {base : Heap}
theorem scImages : FnScope ["pulls", "word", "images", "i", "unit", "j"] ["pulls", "word"] (defScope sImages) := ⟨rfl, rfl, rfl, by decide +kernel, rfl, by decide +kernel, by decide +kernel⟩
theorem ok_images {f fM fV fF : Addr} {fd fdM fdV fdF : FuncData} (F : Fun K "images_of" "images_of" sImages f fd) (T : Txt K mg) (D : HD K mg fM fdM fV fdV fF fdF) :
    FnOk P w K mg base CX0 3 f fd ["pulls", "word"] (spImages K) := by
  have GV : FnOk P w K mg base CX0 2 fV fdV ["pulls", "heights", "letters"] (spMoved K) := ok_moved D.V.F T D.M
  refine F.ok scImages (fun vs H Q E h => ?_) (fun cdv A outer s H vs Q E hr h => ?_)
  · obtain ⟨p, l, M, u, rfl, _⟩ := h
    rfl
  · obtain ⟨p, l, M, u, rfl, hp, hl, wu, h8, k⟩ := h
    obtain ⟨rows, hr1, hr2, hr3⟩ := hp.ex
    refine ⟨_, pss_cons (ps_set (i := 2) scImages.nd rfl (Or.inl rfl) (pe_lst pa_nil))
      (pss_cons (ps_for PassesOwn.never rfl (pi_range1 rfl T.range (pa_cons (pe_callB call_len_seq rfl T.len PySem.boot_len (pa_cons (pv 0) pa_nil)) pa_nil)) (pg_name (i := 3) scImages.nd rfl (Or.inr rfl))
        (pss_cons (ps_setLc (i := 4) (own := [("j", 5)]) (g := gName 5) (te := tIf (tTest (tOp rEq (tVar 3) (tVar 5))) (tC (.int 1)) (tC (.int 0))) rfl scImages.nd rfl rfl (sw_true rfl rfl rfl rfl) (pi_range1 rfl T.range (pa_cons (pe_callB call_len_seq rfl T.len PySem.boot_len (pa_cons (pv 0) pa_nil)) pa_nil))
          (blkOk_by (N := ["pulls", "word", "images", "i", "unit", "j"]) (sc := defScope sImages) (by decide +kernel))
          (fun _ _ _ _ _ => by exact pg_name (i := 5) scImages.nd rfl (Or.inl rfl)) (fun _ _ _ _ _ => by exact pts_nil) (fun _ _ _ _ _ => by exact pe_ifExp (pt_cmpR op_eq (pv 3) (pv 5) (nomark _)) pe_int pe_int))
        (pss_one (ps_expr (pe_bm PySem.F.plainAttrs_list PySem.F.slot_list_append PySem.F.type_list_append mt_append (pv 2) (pa_cons (pe_call GV hr rfl D.V.m D.V.F.kp D.V.b .nil pass0 (pa_cons (pv 0) (pa_cons (pv 4) (pa_cons (pv 1) pa_nil)))) pa_nil))))))
      (pss_one (ps_ret (pv 2)))), ?_⟩
    refine ⟨Nat.zero_le _, fun r hr0 => ?_⟩
    have s0 : Same H (upd H r (.lst [])) := Same.new hr0
    have ln : (((rows.map V.ref).length : Nat) : Int).toNat = M.n := by rw [List.length_map, hr2]; rfl
    refine ⟨_, rfl, p, _, rfl, .inl (s0.seq hr1), _, rfl, by omega, by rw [List.length_map, hr2]; omega, ?_⟩
    rw [ln]
    refine for_range (n := M.n) (fun i σ H' => ∃ (v1 v2 : Option V), σ = [some (.ref p), some (.ref l), some (.ref r), v1, v2, none] ∧ Same H H' ∧ i ≤ M.n ∧ Building H' r ((imgs M u).take i))
      ⟨none, none, rfl, s0, Nat.zero_le _, Building.new⟩ ?_ ?_
    · rintro i σ H' hi ⟨v1, v2, rfl, s1, _, bd⟩
      refine ⟨_, rfl, p, _, rfl, .inl (s1.seq hr1), _, rfl, by omega, by rw [List.length_map, hr2]; omega, fun D1 hD1 => ?_⟩
      rw [ln]
      refine lc_range (n := M.n) (fun j H'' => Same H' H'' ∧ H'' D1 = some (.lst (vi ((hv M.n (unit i)).take j)))) ⟨Same.new hD1, upd_same⟩ ?_ ?_
      · rintro j H'' hj ⟨s2, hD2⟩
        refine ⟨rfl, tyes ?_⟩
        refine ⟨_, rfl, _, rfl, rfl, _, rfl, ?_⟩
        have len : (vi ((hv M.n (unit i)).take j)).length < sizeLine := by
          rw [List.length_map, List.length_take, hv_length]
          exact Nat.lt_of_le_of_lt (Nat.min_le_right _ _) (Nat.lt_of_le_of_lt h8 (by decide))
        have fin : ∀ x : Int, x = unit i j → ∃ acc, H'' D1 = some (.lst acc) ∧ acc.length < sizeLine ∧ Same H' (upd H'' D1 (.lst (acc ++ [V.int x]))) ∧ upd H'' D1 (.lst (acc ++ [V.int x])) D1 = some (.lst (vi ((hv M.n (unit i)).take (j + 1)))) := by
          rintro x rfl
          refine ⟨_, hD2, len, fun b o e => ?_, ?_⟩
          · rw [upd_ne (ne_of_none e hD1)]; exact s2 b o e
          · rw [upd_same, take_snoc (hv_get hj), vi_snoc]
        refine ite2 (fun c => ?_) (fun c => ?_)
        · refine fin 1 ?_
          have c := of_decide_eq_true c
          injection c with c
          unfold unit; rw [if_pos (by omega)]
        · refine fin 0 ?_
          unfold unit; rw [if_neg]
          intro z; exact c (decide_eq_true (by rw [z]))
      · rintro H2 ⟨s2, hD2⟩
        rw [List.take_of_length_le (by rw [hv_length]; exact Nat.le_refl _)] at hD2
        have s12 := s1.trans s2
        have bd2 := bd.same s2
        obtain ⟨rs, hrs, lrs⟩ := bd2.at_
        have nDr : D1 ≠ r := fun z => by
          subst z
          obtain ⟨rs0, hrs0, _⟩ := bd.at_
          rw [hrs0] at hD1; cases hD1
        refine ⟨_, rfl, .inl ⟨rfl, _, SqL.of hrs⟩, _, rfl, _, rfl, _, rfl, p, D1, l, M, unit i, u, rfl, hp.same s12, hD2, s12.seq hl, wu, h8, fun H3 q3 s3 hq3 hl3 => ?_⟩
        have hrs3 := s3 _ _ hrs
        have nq : q3 ≠ r := by
          rcases hq3 with rfl | hq3
          · exact nDr
          · exact fun z => by rw [z, hrs] at hq3; cases hq3
        refine ⟨r, _, _, rfl, rfl, hrs3, ?_, ?_⟩
        · rw [List.length_map, lrs, List.length_take, imgs_length]
          exact Nat.lt_of_le_of_lt (Nat.min_le_right _ _) (Nat.lt_of_le_of_lt h8 (by decide))
        · refine ⟨_, _, rfl, fun b o e => ?_, hi, ?_⟩
          · rw [upd_ne (ne_of_none e hr0)]; exact s3 _ _ (s12 b o e)
          · rw [take_snoc (imgs_get hi)]
            exact (bd2.same s3).push hrs3 hl3 nq
    · rintro σ H' ⟨v1, v2, rfl, s1, _, bd⟩
      refine ⟨_, rfl, k H' r s1 hr0 ?_⟩
      rw [List.take_of_length_le (by rw [imgs_length]; exact Nat.le_refl _)] at bd
      exact bd.lists
theorem scMvi : FnScope ["images", "heights", "total", "height", "image", "before", "part"] ["images", "heights"] (defScope sMvi) := ⟨rfl, rfl, rfl, by decide +kernel, rfl, by decide +kernel, by decide +kernel⟩
noncomputable def ps (M : Mirrors) (u : List Nat) (g : Nat → Int) (k : Nat) : Nat → Int := fun j => Tor.S k (fun i => g i * act M u (unit i) j)
theorem ok_mvi {f : Addr} {fd : FuncData} (F : Fun K "moved_by_images" "moved_by_images" sMvi f fd) (T : Txt K mg) : FnOk P w K mg base CX0 1 f fd ["images", "heights"] (spMvi K) := by
  refine F.ok scMvi (fun vs H Q E h => ?_) (fun cdv A outer s H vs Q E hr h => ?_)
  · obtain ⟨a, h, M, u, g, rfl, _⟩ := h
    rfl
  · obtain ⟨a, h, M, u, g, rfl, ha, hh, wu, h8, bg, bi, k⟩ := h
    obtain ⟨rs, hr1, hr2, hr3⟩ := ha.ex
    rw [imgs_length] at hr2
    refine ⟨_, pss_cons (ps_setLc (i := 2) (own := [("height", 3)]) (g := gName 3) (te := tC (.int 0)) rfl scMvi.nd rfl rfl (sw_true rfl rfl rfl rfl) (pi_list (pv 1))
          (blkOk_by (N := ["images", "heights", "total", "height", "image", "before", "part"]) (sc := defScope sMvi) (by decide +kernel))
          (fun _ _ _ _ _ => by exact pg_name (i := 3) scMvi.nd rfl (Or.inl rfl)) (fun _ _ _ _ _ => by exact pts_nil) (fun _ _ _ _ _ => by exact pe_int))
      (pss_cons (ps_for PassesOwn.never rfl (pi_zip rfl T.zip (pa_cons (pv 1) (pa_cons (pv 0) pa_nil))) (pg_tup rfl (pgs_cons (pg_name (i := 3) scMvi.nd rfl (Or.inr rfl)) (pgs_cons (pg_name (i := 4) scMvi.nd rfl (Or.inl rfl)) pgs_nil)))
        (pss_one (ps_setLc (i := 2) (own := [("before", 5), ("part", 6)]) (g := gTup K 2 (gCons (gName 5) (gCons (gName 6) gNil))) rfl scMvi.nd rfl rfl (sw_true rfl rfl rfl rfl) (pi_zip rfl T.zip (pa_cons (pv 2) (pa_cons (pv 4) pa_nil)))
          (blkOk_by (N := ["images", "heights", "total", "height", "image", "before", "part"]) (sc := defScope sMvi) (by decide +kernel))
          (fun _ _ _ _ _ => by exact pg_tup rfl (pgs_cons (pg_name (i := 5) scMvi.nd rfl (Or.inl rfl)) (pgs_cons (pg_name (i := 6) scMvi.nd rfl (Or.inl rfl)) pgs_nil))) (fun _ _ _ _ _ => by exact pts_nil)
          (fun _ _ _ _ _ => by exact pe_op op_add (pv 5) (pe_op op_mulB (pv 3) (pv 6))))))
      (pss_one (ps_ret (pv 2)))), ?_⟩
    refine ⟨_, rfl, h, rfl, ⟨_, hh⟩, fun D hD => ?_⟩
    refine lc_list (xs := vi (hv M.n g)) (fun j H' => Same H H' ∧ H' D = some (.lst (vi ((hv M.n (ps M u g 0)).take j)))) ⟨Same.new hD, upd_same⟩ (fun j H' _ zz => by obtain ⟨s1, _⟩ := zz; exact s1.seq hh) ?_ ?_
    · intro j x H' hx ⟨s1, hD1⟩
      have hj : j < M.n := by
        have := (List.getElem?_eq_some_iff.1 hx).1
        simpa [hv_length] using this
      refine ⟨rfl, tyes ?_⟩
      refine ⟨_, hD1, ?_, ?_, ?_⟩
      · rw [List.length_map, List.length_take, hv_length]
        exact Nat.lt_of_le_of_lt (Nat.min_le_right _ _) (Nat.lt_of_le_of_lt h8 (by decide))
      · intro b o e
        rw [upd_ne (ne_of_none e hD)]; exact s1 b o e
      · rw [upd_same, take_snoc (hv_get hj), vi_snoc]; rfl
    · intro H1 ⟨s1, hD1⟩
      rw [List.length_map, hv_length, List.take_of_length_le (by rw [hv_length]; exact Nat.le_refl _)] at hD1
      refine ⟨_, rfl, _, rfl, h, a, _, _, rfl, s1.seq hh, s1.seq hr1, ?_⟩
      refine for_zip (xs := vi (hv M.n g)) (ys := rs.map V.ref) (by simp [hv_length, hr2]) (fun i σ H' => ∃ (q : Addr) (v1 v2 : Option V), σ = [some (.ref a), some (.ref h), some (.ref q), v1, v2, none, none] ∧ Same H H' ∧ H q = none ∧ i ≤ M.n ∧
          H' q = some (.lst (vi (hv M.n (ps M u g i))))) ⟨D, none, none, rfl, s1, hD, Nat.zero_le _, hD1⟩ (fun i σ H' _ zz => by obtain ⟨_, _, _, _, s2, _⟩ := zz; exact ⟨s2.seq hh, s2.seq hr1⟩) ?_ ?_
      · rintro i x y σ H' T1 hx hy ⟨q, v1, v2, rfl, s2, hqn, _, hq⟩ hT1
        have hi : i < M.n := by
          have := (List.getElem?_eq_some_iff.1 hx).1
          simpa [hv_length] using this
        obtain rfl : x = V.int (g i) := by
          rw [List.getElem?_map, hv_get hi] at hx; exact (Option.some.inj hx).symm
        obtain ⟨r, hr, rfl⟩ := nth_ref hy
        have s3 : Same H' (upd H' T1 (.tup [V.int (g i), V.ref r])) := Same.new hT1
        have hrow : SqL K H r (vi (hv M.n (act M u (unit i)))) := hr3 i r _ hr (imgs_get hi)
        have s23 := s2.trans s3
        refine ⟨T1, _, rfl, SqT.of upd_same, rfl, _, _, rfl, _, _, rfl, rfl, ?_⟩
        refine ⟨_, rfl, _, rfl, q, r, _, _, rfl, SqL.of (s3 _ _ hq), s23.seq hrow, fun D2 hD2 => ?_⟩
        refine lc_zip (xs := vi (hv M.n (ps M u g i))) (ys := vi (hv M.n (act M u (unit i)))) (by simp [hv_length]) (fun j H'' => Same (upd H' T1 (.tup [V.int (g i), V.ref r])) H'' ∧ H'' D2 = some (.lst (vi ((hv M.n (ps M u g (i + 1))).take j))))
          ⟨Same.new hD2, upd_same⟩ (fun j H'' _ zz => by obtain ⟨s4, _⟩ := zz; exact ⟨s4.seq (SqL.of (s3 _ _ hq)), s4.seq (s23.seq hrow)⟩) ?_ ?_
        · intro j x y H'' T2 hx hy ⟨s4, hD4⟩ hT2
          have hj : j < M.n := by
            have := (List.getElem?_eq_some_iff.1 hx).1
            simpa [hv_length] using this
          obtain rfl : x = V.int (ps M u g i j) := by
            rw [List.getElem?_map, hv_get hj] at hx; exact (Option.some.inj hx).symm
          obtain rfl : y = V.int (act M u (unit i) j) := by
            rw [List.getElem?_map, hv_get hj] at hy; exact (Option.some.inj hy).symm
          refine ⟨T2, _, rfl, SqT.of upd_same, rfl, _, _, rfl, _, _, rfl, rfl, rfl, ?_⟩
          refine tyes ?_
          refine ⟨_, rfl, _, rfl, _, rfl, _, _, rfl, rfl, IntMulOk.of_bits (intBits_le_iff.2 (bg i hi)) (intBits_le_iff.2 (bi i j hi hj)), _, _, rfl, rfl, _, (upd_ne (ne_of_none hD4 hT2)).trans hD4, ?_, ?_, ?_⟩
          · rw [List.length_map, List.length_take, hv_length]
            exact Nat.lt_of_le_of_lt (Nat.min_le_right _ _) (Nat.lt_of_le_of_lt h8 (by decide))
          · intro b o e
            rw [upd_ne, upd_ne (ne_of_none (s4 b o e) hT2)]
            · exact s4 b o e
            · exact ne_of_none e hD2
          · rw [upd_same, take_snoc (hv_get hj), vi_snoc]; rfl
        · intro H5 ⟨s5, hD5⟩
          rw [List.length_map, hv_length, List.take_of_length_le (by rw [hv_length]; exact Nat.le_refl _)] at hD5
          exact ⟨D2, _, _, rfl, s23.trans s5, s23.free hD2, hi, hD5⟩
      · rintro σ H' ⟨q, v1, v2, rfl, s2, hqn, _, hq⟩
        refine ⟨_, rfl, k H' q s2 hqn ?_⟩
        rw [hq, List.length_map, hv_length]
        congr 3
        exact hv_congr fun j hj => (act_sum wu g hj).symm
end
end Pw
end
section
set_option Elab.async false
set_option maxRecDepth 100000
set_option maxHeartbeats 2000000
namespace Pw
open PySem PySem.Spec PyProof.Rows L2
open Si07 (Mirrors IsWord)
open Cox Mir
theorem boot_sum' : bootBuiltins "sum" = some (.builtin "sum") := by decide +kernel
theorem boot_abs' : bootBuiltins "abs" = some (.builtin "abs") := by decide +kernel
noncomputable def diag (M : Mirrors) (u : List Nat) : List Int := (List.range M.n).map fun i => act M u (unit i) i
theorem diag_get {M : Mirrors} {u : List Nat} {i : Nat} (h : i < M.n) : (diag M u)[i]? = some (act M u (unit i) i) := by simp [diag, h]
theorem diag_length (M : Mirrors) (u : List Nat) : (diag M u).length = M.n := by simp [diag]
theorem diag_sum (M : Mirrors) (u : List Nat) : (diag M u).sum = trace M u M.n := by
  unfold diag
  have : ∀ k, ((List.range k).map fun i => act M u (unit i) i).sum = trace M u k := by
    intro k
    induction k with
    | zero => rfl
    | succ k ih =>
      rw [List.range_succ, List.map_append, List.sum_append, ih]
      show _ = trace M u k + act M u (unit k) k
      simp
  exact this M.n
noncomputable def spOrder (K : PySem.W.Frag) : Sp := fun vs H Q _ => ∃ (p l : Addr) (M : Mirrors) (u : List Nat), vs = [.ref p, .ref l] ∧ PullsAt K H p M ∧ SqL K H l (vn u) ∧ Si07.Good M ∧ IsWord M u ∧ u.length ≤ 128 ∧
  ∀ H' : Hp, Same H H' → Q (.int (Si07.orderOf M u : Nat)) H'
section
variable {P : Program} {w : World} {K : PySem.W.Frag} {mg : Str → Option Value} {base : Heap}
theorem scOrder : FnScope ["pulls", "word", "images", "trace", "start", "heights", "times", "i", "image"] ["pulls", "word"] (defScope sOrder) := ⟨rfl, rfl, rfl, by decide +kernel, rfl, by decide +kernel, by decide +kernel⟩
theorem ok_order {f fM fV fF fI fX : Addr} {fd fdM fdV fdF fdI fdX : FuncData} (F : Fun K "order_of" "order_of" sOrder f fd) (T : Txt K mg) (D : HD K mg fM fdM fV fdV fF fdF)
    (DI : Df K mg "images_of" sImages ["pulls", "word"] fI fdI) (DX : Df K mg "moved_by_images" sMvi ["images", "heights"] fX fdX) : FnOk P w K mg base CX0 4 f fd ["pulls", "word"] (spOrder K) := by
  have GF : FnOk P w K mg base CX0 1 fF fdF ["pulls"] (spFirst K) := ok_first D.F.F
  have GI : FnOk P w K mg base CX0 3 fI fdI ["pulls", "word"] (spImages K) := ok_images DI.F T D
  have GX : FnOk P w K mg base CX0 1 fX fdX ["images", "heights"] (spMvi K) := ok_mvi DX.F T
  obtain ⟨tO, hO⟩ := T.highO
  refine F.ok scOrder (fun vs H Q E h => ?_) (fun cdv A outer s H vs Q E hr h => ?_)
  · obtain ⟨p, l, M, u, rfl, _⟩ := h
    rfl
  · obtain ⟨p, l, M, u, rfl, hp, hl, G, wu, lu, k⟩ := h
    have h8 : M.n ≤ 8 := G.2.1
    have hr1 : Room 1 _ := hr.mono (by decide)
    obtain ⟨rows, hrw1, hrw2, hrw3⟩ := hp.ex
    refine ⟨_, pss_cons (ps_set (i := 2) scOrder.nd rfl (Or.inl rfl) (pe_call GI hr rfl DI.m DI.F.kp DI.b .nil pass0 (pa_cons (pv 0) (pa_cons (pv 1) pa_nil))))
      (pss_cons (ps_set (i := 3) scOrder.nd rfl (Or.inl rfl) (pe_callB (cr_sum rfl) rfl T.sum boot_sum' (pa_cons
        (pe_lc (own := [("i", 7), ("image", 8)]) (g := gTup K 2 (gCons (gName 7) (gCons (gName 8) gNil))) (te := tOp (rIxL K) (tVar 8) (tVar 7)) rfl scOrder.nd (pi_enum rfl T.enum (pa_cons (pv 2) pa_nil))
          (blkOk_by (N := ["pulls", "word", "images", "trace", "start", "heights", "times", "i", "image"]) (sc := defScope sOrder) (by decide +kernel))
          (fun _ _ _ _ _ => by exact pg_tup rfl (pgs_cons (pg_name (i := 7) scOrder.nd rfl (Or.inl rfl)) (pgs_cons (pg_name (i := 8) scOrder.nd rfl (Or.inl rfl)) pgs_nil)))
          (fun _ _ _ _ _ => by exact pts_nil) (fun _ _ _ _ _ => by exact pe_ix ix_list (pv 8) (pv 7) (fun _ _ => rfl))) pa_nil)))
      (pss_cons (ps_if (pt_cmpR op_gt (pe_callB call_abs rfl T.abs boot_abs' (pa_cons (pv 3) pa_nil)) (pe_callB call_len_seq rfl T.len PySem.boot_len (pa_cons (pv 0) pa_nil)) (nomark _)) (pss_one (ps_ret pe_int)) pss_nil)
      (pss_cons (ps_set (i := 4) scOrder.nd rfl (Or.inl rfl) (pe_call GF hr1 rfl D.F.m D.F.F.kp D.F.b .nil pass0 (pa_cons (pv 0) pa_nil)))
      (pss_cons (ps_set (i := 5) scOrder.nd rfl (Or.inl rfl) (pv 4))
      (pss_cons (ps_for PassesOwn.never rfl (pi_range2 rfl T.range (pa_cons pe_int (pa_cons (pe_op op_add (pe_glob (v := .int 60) rfl hO ⟨_, rfl⟩) pe_int) pa_nil))) (pg_name (i := 6) scOrder.nd rfl (Or.inl rfl))
        (pss_cons (ps_set (i := 5) scOrder.nd rfl (Or.inl rfl) (pe_call GX hr1 rfl DX.m DX.F.kp DX.b .nil pass0 (pa_cons (pv 2) (pa_cons (pv 5) pa_nil))))
        (pss_one (ps_if (pt_cmpR (op_eqD hr.units) (pv 5) (pv 4) (nomark _)) (pss_one (ps_ret (pv 6))) pss_nil))))
      (pss_one (ps_ret pe_int))))))), ?_⟩
    refine ⟨_, rfl, _, rfl, p, l, M, u, rfl, hp, hl, wu, h8, fun H1 q1 s1 hn1 hq1 => ?_⟩
    obtain ⟨rs, hr1', hr2', hr3'⟩ := hq1.ex
    rw [imgs_length] at hr2'
    refine ⟨_, rfl, q1, _, rfl, hr1', fun D1 hD1 => ?_⟩
    refine lc_enum (xs := rs.map V.ref) (fun j H' => Same H1 H' ∧ H' D1 = some (.lst (vi ((diag M u).take j)))) ⟨Same.new hD1, upd_same⟩ (fun j H' _ zz => by obtain ⟨s2, _⟩ := zz; exact s2.seq hr1') ?_ ?_
    · intro j x H' T1 hx ⟨s2, hD2⟩ hT1
      obtain ⟨r, hrj, rfl⟩ := nth_ref hx
      have hj : j < M.n := by
        have := (List.getElem?_eq_some_iff.1 hrj).1
        omega
      have hrow : SqL K H1 r (vi (hv M.n (act M u (unit j)))) := hr3' j r _ hrj (imgs_get hj)
      have s3 : Same H1 (upd H' T1 (.tup [.int (j : Nat), .ref r])) := s2.trans (Same.new hT1)
      refine ⟨T1, _, rfl, SqT.of upd_same, rfl, _, _, rfl, _, _, rfl, rfl, rfl, ?_⟩
      refine tyes ?_
      refine ⟨_, rfl, _, rfl, r, _, _, _, rfl, rfl, s3.seq hrow, at_of (j := j) (v := V.int (act M u (unit j) j)) rfl (by rw [List.getElem?_map, hv_get hj]; rfl), _, (upd_ne (ne_of_none hD2 hT1)).trans hD2, ?_, ?_, ?_⟩
      · rw [List.length_map, List.length_take, diag_length]
        exact Nat.lt_of_le_of_lt (Nat.min_le_right _ _) (Nat.lt_of_le_of_lt h8 (by decide))
      · intro b o e
        rw [upd_ne (ne_of_none e hD1)]
        exact s3 b o e
      · rw [upd_same, take_snoc (diag_get hj), vi_snoc]
    · intro H2 ⟨s2, hD2⟩
      rw [List.length_map, hr2', List.take_of_length_le (by rw [diag_length]; exact Nat.le_refl _)] at hD2
      have s12 := s1.trans s2
      refine ⟨D1, diag M u, rfl, SqL.of hD2, ?_⟩
      rw [diag_sum]
      refine ⟨_, rfl, _, rfl, _, rfl, p, _, rfl, .inl (s12.seq hrw1), _, _, rfl, rfl, _, rfl, ite2 (fun c => ?_) (fun c => ?_)⟩
      · have c := of_decide_eq_true c
        rw [List.length_map, hrw2] at c
        have := k H2 s12
        rw [order_never G wu (trace_never wu (by split at c <;> omega))] at this
        exact this
      refine ⟨_, rfl, p, M, rfl, hp.same s12, h8, fun H3 q3 s3 hn3 hq3 => ?_⟩
      have s13 := s12.trans s3
      refine ⟨_, rfl, _, _, rfl, rfl, _, _, rfl, ⟨by decide, by decide, by decide, by decide⟩, ?_⟩
      refine for_range (lo := 1) (n := 60) (fun i σ H' => ∃ (q : Addr) (v1 : Option V), σ = [some (.ref p), some (.ref l), some (.ref q1), some (.int (trace M u M.n)), some (.ref q3), some (.ref q), v1, none, none] ∧ Same H H' ∧ i ≤ 60 ∧
          ListsAt K H' q1 (imgs M u) ∧ H' q3 = some (.lst (vi (hv M.n one))) ∧ H' q = some (.lst (vi (hv M.n (act M (Si07.power u i) one)))) ∧ ∀ j, 0 < j → j ≤ i → ¬ Eqv M (Si07.power u j) [])
        ⟨q3, none, rfl, s13, by omega, hq1.same (s2.trans s3), hq3, hq3, fun j j0 j1 => by omega⟩ ?_ ?_
      · rintro i σ H' hi ⟨q, v1, rfl, s4, _, ima, st, hq, no⟩
        have wp : IsWord M (Si07.power u i) := isWord_power wu i
        have wp1 : IsWord M (Si07.power u (i + 1)) := isWord_power wu (i + 1)
        have big : ∀ j, j < M.n → (act M (Si07.power u i) one j).natAbs < 2 ^ 1048576 := fun j hj =>
          pow4_lt (act_bound _ wp (fun j _ => one_bound j) j hj) (by
            rw [power_length]
            have : i * u.length ≤ 60 * 128 := Nat.mul_le_mul (by omega) lu
            omega)
        have bigI : ∀ a b, a < M.n → b < M.n → (act M u (unit a) b).natAbs < 2 ^ 1048576 := fun a b _ hb =>
          pow4_lt (act_bound _ wu (fun j _ => unit_bound a j) b hb) (by omega)
        refine ⟨_, rfl, _, rfl, q1, q, M, u, act M (Si07.power u i) one, rfl, ima, SqL.of hq, wu, h8, big, bigI, fun H5 q5 s5 hn5 hq5 => ?_⟩
        have e5 : H5 q5 = some (.lst (vi (hv M.n (act M (Si07.power u (i + 1)) one)))) := by
          rw [hq5]
          show _ = some (HO.lst (vi (hv M.n (act M (Si07.power u i ++ u) one))))
          rw [act_append]
        refine ⟨_, rfl, _, rfl, _, _, dp_list (SqL.of e5), dp_list (SqL.of (s5 _ _ st)), shaped_ints _, shaped_ints _, _, rfl, ?_⟩
        rw [eqD_ints]
        have iff : hv M.n (act M (Si07.power u (i + 1)) one) = hv M.n one ↔ Eqv M (Si07.power u (i + 1)) [] := by
          constructor
          · intro e
            exact (heights_eqv G wp1 (isWord_nil M)).1 (hv_inj e)
          · intro e
            exact hv_congr ((heights_eqv G wp1 (isWord_nil M)).2 e)
        refine ite2 (fun c => ?_) (fun c => ?_)
        · have c := iff.1 (of_decide_eq_true c)
          refine ⟨_, rfl, ?_⟩
          have := k H5 (s4.trans s5)
          rw [order_is G wu (k := i + 1) (by omega) c (fun j j0 j1 => no j j0 (by omega))] at this
          have e1 : ((i + 1 : Nat) : Int) = 1 + (i : Nat) := by omega
          rw [e1] at this
          exact this
        · have c : ¬ Eqv M (Si07.power u (i + 1)) [] := fun z => c (decide_eq_true (iff.2 z))
          refine ⟨q5, _, rfl, s4.trans s5, hi, ima.same s5, s5 _ _ st, e5, fun j j0 j1 => ?_⟩
          by_cases z : j = i + 1
          · rw [z]; exact c
          · exact no j j0 (by omega)
      · rintro σ H' ⟨q, v1, rfl, s4, _, ima, st, hq, no⟩
        have := k H' s4
        rw [order_no G wu no] at this
        exact this
end
end Pw
end
section
set_option Elab.async false
set_option maxRecDepth 100000
set_option maxHeartbeats 2000000
namespace Pw
open PySem PySem.Spec PyProof.Rows L2
open Si07 (Mirrors IsWord)
open Cox Mir
noncomputable abbrev sLonger : Stmt := top 36
noncomputable abbrev sMany : Stmt := top 37
noncomputable def hgt (M : Mirrors) (u : List Nat) : List Int := hv M.n (act M u one)
theorem hgt_length (M : Mirrors) (u : List Nat) : (hgt M u).length = M.n := hv_length _ _
theorem ends1_length (M : Mirrors) (u : List Nat) (k : Nat) : (ends1 M u k).length ≤ k := by
  unfold ends1
  refine Nat.le_trans (List.length_filterMap_le _ _) ?_
  simp
theorem nx_snoc (M : Mirrors) (ws : List (List Nat)) (u : List Nat) : nx M (ws ++ [u]) = nx M ws ++ ends1 M u M.n := by
  unfold nx; rw [List.flatMap_append]; simp
theorem nx_length (M : Mirrors) (ws : List (List Nat)) : (nx M ws).length ≤ M.n * ws.length := by
  induction ws with
  | nil => simp [nx]
  | cons u ws ih =>
    have e : nx M (u :: ws) = ends1 M u M.n ++ nx M ws := by unfold nx; rw [List.flatMap_cons]
    rw [e, List.length_append, List.length_cons, Nat.mul_succ]
    have := ends1_length M u M.n
    omega
noncomputable def spLonger (K : PySem.W.Frag) : Sp := fun vs H Q _ => ∃ (p a : Addr) (M : Mirrors) (ws : List (List Nat)), vs = [.ref p, .ref a] ∧ PullsAt K H p M ∧ ListsAt K H a (ws.map (hgt M)) ∧ Si07.Good M ∧ ws.length ≤ 300 ∧
  ∀ (H' : Hp) (q : Addr), Same H H' → H q = none → ListsAt K H' q ((nx M ws).map (hgt M)) → Q (.ref q) H'
noncomputable def spMany (K : PySem.W.Frag) : Sp := fun vs H Q _ => ∃ (p : Addr) (M : Mirrors) (k : Nat), vs = [.ref p, .int (k : Nat)] ∧ PullsAt K H p M ∧ Si07.Good M ∧ k ≤ 128 ∧ (∀ j, j ≤ k → (Si07.level M j).length ≤ 300) ∧
  ∀ H' : Hp, Same H H' → Q (.int ((Si07.level M k).length : Nat)) H'
theorem nth_map {α β : Type} {f : α → β} {l : List α} {i : Nat} {x : α} (h : l[i]? = some x) : (l.map f)[i]? = some (f x) := by rw [List.getElem?_map, h]; rfl
section
variable {P : Program} {w : World} {K : PySem.W.Frag} {mg : Str → Option Value} {base : Heap}
theorem scLonger : FnScope ["pulls", "level", "longer", "heights", "mirror", "height", "beyond"] ["pulls", "level"] (defScope sLonger) := ⟨rfl, rfl, rfl, by decide +kernel, rfl, by decide +kernel, by decide +kernel⟩
theorem ok_longer {f fM fL : Addr} {fd fdM fdL : FuncData} (F : Fun K "one_longer" "one_longer" sLonger f fd) (T : Txt K mg) (DM : Df K mg "mirrored" sMirrored ["pulls", "heights", "mirror"] fM fdM)
    (DL : Df K mg "lowest_crossed" sLow ["heights"] fL fdL) : FnOk P w K mg base CX0 2 f fd ["pulls", "level"] (spLonger K) := by
  have GM : FnOk P w K mg base CX0 1 fM fdM ["pulls", "heights", "mirror"] (spMirrored K) := ok_mirrored DM.F T
  have GL : FnOk P w K mg base CX0 1 fL fdL ["heights"] (spLow K) := ok_low DL.F T
  refine F.ok scLonger (fun vs H Q E h => ?_) (fun cdv A outer s H vs Q E hr h => ?_)
  · obtain ⟨p, a, M, ws, rfl, _⟩ := h
    rfl
  · obtain ⟨p, a, M, ws, rfl, hp, ha, G, w300, k⟩ := h
    have h8 : M.n ≤ 8 := G.2.1
    obtain ⟨rs, hr1, hr2, hr3⟩ := ha.ex
    rw [List.length_map] at hr2
    refine ⟨_, pss_cons (ps_set (i := 2) scLonger.nd rfl (Or.inl rfl) (pe_lst pa_nil))
      (pss_cons (ps_for PassesOwn.never rfl (pi_list (pv 1)) (pg_name (i := 3) scLonger.nd rfl (Or.inl rfl))
        (pss_one (ps_for PassesOwn.never rfl (pi_enum rfl T.enum (pa_cons (pv 3) pa_nil)) (pg_tup rfl (pgs_cons (pg_name (i := 4) scLonger.nd rfl (Or.inl rfl)) (pgs_cons (pg_name (i := 5) scLonger.nd rfl (Or.inl rfl)) pgs_nil)))
          (pss_cons (ps_if (pt_cmpR op_lt (pv 5) pe_int (nomark _)) (pss_one ps_continue) pss_nil)
          (pss_cons (ps_set (i := 6) scLonger.nd rfl (Or.inl rfl) (pe_call GM hr rfl DM.m DM.F.kp DM.b .nil pass0 (pa_cons (pv 0) (pa_cons (pv 3) (pa_cons (pv 4) pa_nil)))))
          (pss_one (ps_if (pt_cmpR op_eq (pe_call GL hr rfl DL.m DL.F.kp DL.b .nil pass0 (pa_cons (pv 6) pa_nil)) (pv 4) (nomark _))
            (pss_one (ps_expr (pe_bm PySem.F.plainAttrs_list PySem.F.slot_list_append PySem.F.type_list_append mt_append (pv 2) (pa_cons (pv 6) pa_nil)))) pss_nil)))))))
      (pss_one (ps_ret (pv 2)))), ?_⟩
    refine ⟨Nat.zero_le _, fun r hr0 => ?_⟩
    have s0 : Same H (upd H r (.lst [])) := Same.new hr0
    refine ⟨_, rfl, a, rfl, ⟨_, s0.seq hr1⟩, for_list (K := K) (a := a) (xs := rs.map V.ref) (fun i σ H' => ∃ (v3 v4 v5 v6 : Option V), σ = [some (.ref p), some (.ref a), some (.ref r), v3, v4, v5, v6] ∧ Same H H' ∧ i ≤ ws.length ∧ Building H' r ((nx M (ws.take i)).map (hgt M)))
      ⟨none, none, none, none, rfl, s0, Nat.zero_le _, Building.new⟩ (fun i σ H' _ zz => by obtain ⟨_, _, _, _, _, s1, _⟩ := zz; exact s1.seq hr1) ?_ ?_⟩
    · rintro i y σ H' hy ⟨v3, v4, v5, v6, rfl, s1, _, bd⟩
      obtain ⟨x, hx, rfl⟩ := nth_ref hy
      have hi : i < ws.length := by
        have := (List.getElem?_eq_some_iff.1 hx).1
        omega
      obtain ⟨u, hu⟩ : ∃ u, ws[i]? = some u := ⟨ws[i], List.getElem?_eq_getElem hi⟩
      have hrow : SqL K H x (vi (hgt M u)) := hr3 i x _ hx (nth_map hu)
      have sz0 : (nx M (ws.take i)).length ≤ 2400 := by
        have h1 := nx_length M (ws.take i)
        have h2 : (ws.take i).length ≤ 300 := by rw [List.length_take]; omega
        have h3 := Nat.mul_le_mul h8 h2
        omega
      refine ⟨_, rfl, x, _, rfl, s1.seq hrow, for_enum (K := K) (a := x) (xs := vi (hgt M u)) (fun j σ H'' => ∃ (v4 v5 v6 : Option V), σ = [some (.ref p), some (.ref a), some (.ref r), some (.ref x), v4, v5, v6] ∧ Same H H'' ∧ j ≤ M.n ∧
          Building H'' r ((nx M (ws.take i) ++ ends1 M u j).map (hgt M))) ⟨_, _, _, rfl, s1, Nat.zero_le _, by rw [show ends1 M u 0 = [] from rfl, List.append_nil]; exact bd⟩ (fun j σ H'' _ zz => by obtain ⟨_, _, _, _, s2, _⟩ := zz; exact s2.seq hrow) ?_ ?_⟩
      · rintro j z σ H2 T1 hz ⟨v4, v5, v6, rfl, s2, _, bd2⟩ hT1
        have hj : j < M.n := by
          have := (List.getElem?_eq_some_iff.1 hz).1
          simpa [hgt_length] using this
        obtain rfl : z = V.int (act M u one j) := by
          unfold hgt at hz
          rw [List.getElem?_map, hv_get hj] at hz; exact (Option.some.inj hz).symm
        have s3 : Same H2 (upd H2 T1 (.tup [.int (j : Nat), .int (act M u one j)])) := Same.new hT1
        have s23 := s2.trans s3
        have bd3 := bd2.same s3
        refine ⟨T1, _, rfl, SqT.of upd_same, rfl, _, _, rfl, _, _, rfl, rfl, _, rfl, _, _, rfl, rfl, _, rfl, ite2 (fun c => ?_) (fun c => ?_)⟩
        · have c := of_decide_eq_true c
          refine ⟨_, _, _, rfl, s23, hj, ?_⟩
          rw [ends1_succ, if_pos c, List.append_nil]; exact bd3
        · have c : ¬ act M u one j < 0 := fun q => c (decide_eq_true q)
          refine ⟨_, rfl, _, rfl, _, rfl, p, x, M, act M u one, j, rfl, hp.same s23, s23.seq hrow, hj, h8, fun H4 q4 s4 hn4 hq4 => ?_⟩
          rw [← act_snoc] at hq4
          refine ⟨_, rfl, q4, M.n, act M (u ++ [j]) one, rfl, SqL.of hq4, fun H5 s5 => ?_⟩
          have s25 := (s23.trans s4).trans s5
          have bd5 := (bd3.same s4).same s5
          have hq5 := s5 _ _ hq4
          refine ⟨_, rfl, ?_, _, rfl, ite2 (fun d => ?_) (fun d => ?_)⟩
          · cases low M.n (act M (u ++ [j]) one) <;> rfl
          · have d : low M.n (act M (u ++ [j]) one) = some j := by
              have := of_decide_eq_true d
              cases e : low M.n (act M (u ++ [j]) one) with
              | none => rw [e] at this; cases this
              | some i' =>
                rw [e] at this
                injection this with this
                congr 1; omega
            obtain ⟨rs5, hrs5, lrs5⟩ := bd5.at_
            have nq : q4 ≠ r := fun z => by
              obtain ⟨rs3, hrs3, _⟩ := bd3.at_
              rw [z, hrs3] at hn4; cases hn4
            refine ⟨_, rfl, .inl ⟨rfl, _, SqL.of hrs5⟩, _, rfl, r, _, _, rfl, rfl, hrs5, ?_, ?_⟩
            · rw [List.length_map, lrs5, List.length_map, List.length_append]
              have := ends1_length M u j
              exact Nat.lt_of_le_of_lt (show _ ≤ 2408 by omega) (by decide)
            · refine ⟨_, _, _, rfl, fun b o e => ?_, hj, ?_⟩
              · rw [upd_ne (ne_of_none e hr0)]; exact s25 b o e
              · rw [ends1_succ, if_neg c, if_pos d, ← List.append_assoc, List.map_append]
                exact bd5.push hrs5 hq5 nq
          · have d : ¬ low M.n (act M (u ++ [j]) one) = some j := fun z => d (decide_eq_true (by rw [z]; rfl))
            refine ⟨_, _, _, rfl, s25, hj, ?_⟩
            rw [ends1_succ, if_neg c, if_neg d, List.append_nil]; exact bd5
      · rintro σ H2 ⟨v4, v5, v6, rfl, s2, _, bd2⟩
        refine ⟨_, _, _, _, rfl, s2, hi, ?_⟩
        rw [List.length_map, hgt_length] at bd2
        rw [take_snoc hu, nx_snoc]; exact bd2
    · rintro σ H' ⟨v3, v4, v5, v6, rfl, s1, _, bd⟩
      refine ⟨_, rfl, k H' r s1 hr0 ?_⟩
      rw [List.length_map, hr2, List.take_length] at bd
      exact bd.lists
theorem scMany : FnScope ["pulls", "k", "level", "size"] ["pulls", "k"] (defScope sMany) := ⟨rfl, rfl, rfl, by decide +kernel, rfl, by decide +kernel, by decide +kernel⟩
theorem ok_many {f fM fV fF fL fO : Addr} {fd fdM fdV fdF fdL fdO : FuncData} (F : Fun K "how_many_of_length" "how_many_of_length" sMany f fd) (T : Txt K mg) (D : HD K mg fM fdM fV fdV fF fdF)
    (DL : Df K mg "lowest_crossed" sLow ["heights"] fL fdL) (DO : Df K mg "one_longer" sLonger ["pulls", "level"] fO fdO) : FnOk P w K mg base CX0 3 f fd ["pulls", "k"] (spMany K) := by
  have GF : FnOk P w K mg base CX0 1 fF fdF ["pulls"] (spFirst K) := ok_first D.F.F
  have GO : FnOk P w K mg base CX0 2 fO fdO ["pulls", "level"] (spLonger K) := ok_longer DO.F T D.M DL
  refine F.ok scMany (fun vs H Q E h => ?_) (fun cdv A outer s H vs Q E hr h => ?_)
  · obtain ⟨p, M, n, rfl, _⟩ := h
    rfl
  · obtain ⟨p, M, n, rfl, hp, G, n128, few, k⟩ := h
    have h8 : M.n ≤ 8 := G.2.1
    have hr1 : Room 1 _ := hr.mono (by decide)
    refine ⟨_, pss_cons (ps_set (i := 2) scMany.nd rfl (Or.inl rfl) (pe_lst (pa_cons (pe_call GF hr1 rfl D.F.m D.F.F.kp D.F.b .nil pass0 (pa_cons (pv 0) pa_nil)) pa_nil)))
      (pss_cons (ps_for PassesOwn.never rfl (pi_range1 rfl T.range (pa_cons (pv 1) pa_nil)) (pg_name (i := 3) scMany.nd rfl (Or.inl rfl))
        (pss_one (ps_set (i := 2) scMany.nd rfl (Or.inl rfl) (pe_call GO hr rfl DO.m DO.F.kp DO.b .nil pass0 (pa_cons (pv 0) (pa_cons (pv 2) pa_nil))))))
      (pss_one (ps_ret (pe_callB call_len_seq rfl T.len PySem.boot_len (pa_cons (pv 2) pa_nil))))), ?_⟩
    refine ⟨_, rfl, p, M, rfl, hp, h8, fun H1 q1 s1 hn1 hq1 => ?_⟩
    refine ⟨by show 1 ≤ sizeLine; decide, fun r hr0 => ?_⟩
    have s2 : Same H1 (upd H1 r (.lst [.ref q1])) := Same.new hr0
    have l0 : ListsAt K (upd H1 r (.lst [.ref q1])) r ([([] : List Nat)].map (hgt M)) := ⟨[q1], SqL.of upd_same, rfl, fun i x g e1 e2 => by
      cases i with
      | zero =>
        obtain rfl : q1 = x := by simpa using e1
        obtain rfl : hgt M [] = g := by simpa using e2
        exact SqL.of (s2 _ _ hq1)
      | succ i => simp at e1⟩
    refine ⟨_, rfl, _, rfl, by omega, by omega, ?_⟩
    refine for_range (lo := 0) (n := n) (fun i σ H' => ∃ (q : Addr) (ws : List (List Nat)) (v : Option V), σ = [some (.ref p), some (.int (n : Nat)), some (.ref q), v] ∧ Same H H' ∧ i ≤ n ∧ Lev M i ws ∧ ListsAt K H' q (ws.map (hgt M)))
      ⟨r, [[]], none, rfl, s1.trans s2, Nat.zero_le _, Lev.zero M, l0⟩ ?_ ?_
    · rintro i σ H' hi ⟨q, ws, v, rfl, s3, _, lev, hq⟩
      have lw : ws.length ≤ 300 := by rw [← lev.card G]; exact few i (by omega)
      refine ⟨_, rfl, _, rfl, p, q, M, ws, rfl, hp.same s3, hq, G, lw, fun H4 q4 s4 hn4 hq4 => ?_⟩
      exact ⟨q4, nx M ws, _, rfl, s3.trans s4, hi, lev.next G, hq4⟩
    · rintro σ H' ⟨q, ws, v, rfl, s3, _, lev, hq⟩
      obtain ⟨rs, h1, h2, _⟩ := hq.ex
      refine ⟨_, rfl, q, _, rfl, .inl h1, ?_⟩
      have := k H' s3
      rw [lev.card G] at this
      rw [List.length_map, h2, List.length_map]
      exact this
end
end Pw
end
section
set_option Elab.async false
set_option maxRecDepth 100000
set_option maxHeartbeats 2000000
namespace Pw
open PySem PySem.Spec PyProof.Rows L2
open Si07 (Mirrors IsWord mirrorsOf)
open Si07Neutral (natsOf)
open Cox Mir
theorem five_iff {a2 a3 a4 a6 a0 : Addr} {x : Int} : (kdGet [(2, a2), (3, a3), (4, a4), (6, a6), (0, a0)] x).isSome = true ↔ Five x := by
  unfold kdGet Five
  rw [Option.isSome_map]
  simp only [List.find?_cons, List.find?_nil]
  by_cases h2 : x = 2
  · subst h2; simp
  by_cases h3 : x = 3
  · subst h3; simp
  by_cases h4 : x = 4
  · subst h4; simp
  by_cases h6 : x = 6
  · subst h6; simp
  by_cases h0 : x = 0
  · subst h0; simp
  have e2 : ¬ (2 : Int) = x := fun z => h2 z.symm
  have e3 : ¬ (3 : Int) = x := fun z => h3 z.symm
  have e4 : ¬ (4 : Int) = x := fun z => h4 z.symm
  have e6 : ¬ (6 : Int) = x := fun z => h6 z.symm
  have e0 : ¬ (0 : Int) = x := fun z => h0 z.symm
  simp [e2, e3, e4, e6, e0, h2, h3, h4, h6, h0]
theorem int_ne {x y : Int} : (!decide (V.int x = V.int y)) = true ↔ x ≠ y := by
  rw [Bool.not_eq_true', decide_eq_false_iff_not]
  constructor
  · intro h e; exact h (by rw [e])
  · intro h e; injection e with e; exact h e
structure BuildN (H0 H : Hp) (a : Addr) (gs : List (List Int)) : Prop where
  ex : ∃ rs : List Addr, H a = some (.lst (rs.map V.ref)) ∧ rs.length = gs.length ∧ ∀ (i : Nat) (r : Addr) (g : List Int), rs[i]? = some r → gs[i]? = some g → H r = some (.lst (vi g)) ∧ r ≠ a ∧ H0 r = none
theorem BuildN.same {H0 H H' : Hp} {a : Addr} {gs : List (List Int)} (h : BuildN H0 H a gs) (s : Same H H') : BuildN H0 H' a gs := by
  obtain ⟨rs, x, y, z⟩ := h.ex
  exact ⟨rs, s _ _ x, y, fun i r g p q => ⟨s _ _ (z i r g p q).1, (z i r g p q).2⟩⟩
theorem BuildN.at_ {H0 H : Hp} {a : Addr} {gs : List (List Int)} (h : BuildN H0 H a gs) : ∃ rs : List Addr, H a = some (.lst (rs.map V.ref)) ∧ rs.length = gs.length := by
  obtain ⟨rs, x, y, _⟩ := h.ex
  exact ⟨rs, x, y⟩
theorem BuildN.push {H0 H : Hp} {a q : Addr} {gs : List (List Int)} {g : List Int} {acc : List V} (h : BuildN H0 H a gs) (ha : H a = some (.lst acc)) (hq : H q = some (.lst (vi g))) (ne : q ≠ a) (new : H0 q = none) : BuildN H0 (upd H a (.lst (acc ++ [V.ref q]))) a (gs ++ [g]) := by
  obtain ⟨rs, x, y, z⟩ := h.ex
  rw [ha] at x
  have x : acc = rs.map V.ref := by injection x with x; injection x
  refine ⟨rs ++ [q], by rw [upd_same, x]; simp, by simp [y], ?_⟩
  intro i r g' p p'
  by_cases hi : i < rs.length
  · rw [List.getElem?_append_left hi] at p
    rw [List.getElem?_append_left (by omega)] at p'
    obtain ⟨z1, z2, z3⟩ := z i r g' p p'
    exact ⟨by rw [upd_ne z2]; exact z1, z2, z3⟩
  · rw [List.getElem?_append_right (by omega)] at p
    rw [List.getElem?_append_right (by omega), ← y] at p'
    have hi' : i - rs.length = 0 := by
      have := (List.getElem?_eq_some_iff.1 p).1
      simp at this; omega
    rw [hi'] at p p'
    obtain rfl : q = r := by simpa using p
    obtain rfl : g = g' := by simpa using p'
    exact ⟨by rw [upd_ne ne]; exact hq, ne, new⟩
section
variable {P : Program} {w : World} {K : PySem.W.Frag} {mg : Str → Option Value} {base : Heap}
theorem scIsTable : FnScope ["n", "m", "i", "j"] ["n", "m"] (defScope sIsTable) := ⟨rfl, rfl, rfl, by decide +kernel, rfl, by decide +kernel, by decide +kernel⟩
theorem ok_isTable {f : Addr} {fd : FuncData} (F : Fun K "is_table" "is_table" sIsTable f fd) (T : Txt K mg) : FnOk P w K mg base CX0 1 f fd ["n", "m"] (spIsTable K) := by
  obtain ⟨aP, a2, a3, a4, a6, a0, TP⟩ := T.pulls
  obtain ⟨tM, hM⟩ := T.mostM
  refine F.ok scIsTable (fun vs H Q E h => ?_) (fun cdv A outer s H vs Q E hr h => ?_)
  · obtain ⟨a, n, m, rfl, _⟩ := h
    rfl
  · obtain ⟨a, n, m, rfl, hm, pos, cs, lo, hi, k⟩ := h
    refine ⟨_, pss_cons (ps_if (PW.pt (pw_or (pt_cmpR op_lt (pv 0) pe_int (nomark _)) (pw_or (pt_cmpR op_gt (pv 0) (pe_glob (v := .int 8) rfl hM ⟨_, rfl⟩) (nomark _))
          (pw_or1 (pt_cmpR op_ne (pe_callB call_len_seq rfl T.len PySem.boot_len (pa_cons (pv 1) pa_nil)) (pe_op op_mul (pv 0) (pv 0)) (nomark _)))))) (pss_one (ps_ret pe_bl)) pss_nil)
      (pss_cons (ps_for PassesOwn.never rfl (pi_range1 rfl T.range (pa_cons (pv 0) pa_nil)) (pg_name (i := 2) scIsTable.nd rfl (Or.inl rfl))
        (pss_cons (ps_if (pt_cmpR op_ne (pe_ix ix_list (pv 1) (pe_op op_add (pe_op op_mul (pv 0) (pv 2)) (pv 2)) (fun _ _ => rfl)) pe_int (nomark _)) (pss_one (ps_ret pe_bl)) pss_nil)
        (pss_one (ps_for PassesOwn.never rfl (pi_range1 rfl T.range (pa_cons (pv 2) pa_nil)) (pg_name (i := 3) scIsTable.nd rfl (Or.inl rfl))
          (pss_one (ps_if (PW.pt (pw_or (pt_cmp (pc_knotin (pe_ix ix_list (pv 1) (pe_op op_add (pe_op op_mul (pv 0) (pv 2)) (pv 3)) (fun _ _ => rfl)) (pe_glob (v := .ref aP) rfl TP.mg rfl)))
            (pw_or1 (pt_cmpR op_ne (pe_ix ix_list (pv 1) (pe_op op_add (pe_op op_mul (pv 0) (pv 2)) (pv 3)) (fun _ _ => rfl)) (pe_ix ix_list (pv 1) (pe_op op_add (pe_op op_mul (pv 0) (pv 3)) (pv 2)) (fun _ _ => rfl)) (nomark _)))))
            (pss_one (ps_ret pe_bl)) pss_nil))))))
      (pss_one (ps_ret pe_bl))), ?_⟩
    refine ⟨_, rfl, _, _, rfl, rfl, _, rfl, ite2 (fun c => ?_) (fun c => ?_)⟩
    · have c := of_decide_eq_true c
      refine iteT ?_
      exact k false (by simp; omega)
    have c : 1 ≤ n := by have : ¬ n < 1 := fun q => c (decide_eq_true q)
                         omega
    refine ⟨_, rfl, _, _, rfl, rfl, _, rfl, ite2 (fun d => ?_) (fun d => ?_)⟩
    · have d := of_decide_eq_true d
      refine iteT ?_
      exact k false (by simp; omega)
    have d : n ≤ 8 := by have : ¬ 8 < n := fun q => d (decide_eq_true q)
                         omega
    obtain ⟨N, rfl⟩ : ∃ N : Nat, n = (N : Nat) := ⟨n.toNat, by omega⟩
    have N8 : N ≤ 8 := by omega
    have lm : m.length = N * N := by
      rcases cs with ⟨_, _, e⟩ | ⟨e, _⟩
      · have : ((N * N : Nat) : Int) = (N : Int) * (N : Int) := by push_cast; rfl
        omega
      · exact absurd ⟨c, d⟩ e
    have t : TabAt K H a N m := ⟨hm, lm, pos, N8⟩
    refine ⟨_, rfl, a, _, rfl, .inl hm, _, rfl, _, rfl, _, _, rfl, rfl, small64 N8, rfl, _, rfl, ite2 (fun e => ?_) (fun _ => ?_)⟩
    · exfalso
      rw [int_ne] at e
      apply e
      rw [List.length_map, lm]; push_cast; rfl
    have tn : ((N : Nat) : Int).toNat = N := rfl
    have fin : ¬ Tab N m → Q (V.bl false) H := fun h => k false (by
      constructor
      · intro z; cases z
      · intro z; exact absurd z.2.2 h)
    refine ⟨_, rfl, _, rfl, by omega, by omega, ?_⟩
    refine for_range (lo := 0) (n := N) (fun i σ H' => ∃ v1 v2 : Option V, σ = [some (.int (N : Nat)), some (.ref a), v1, v2] ∧ H = H' ∧ ∀ i', i' < i → ent m N i' i' = 1 ∧ ∀ j, j < i' → Five (ent m N i' j) ∧ ent m N i' j = ent m N j i')
      ⟨none, none, rfl, rfl, fun i' h => by omega⟩ ?_ ?_
    · rintro i σ H' hi ⟨v1, v2, rfl, rfl, inv⟩
      have e0 : (0 : Int) + ((i : Nat) : Int) = ((i : Nat) : Int) := Int.zero_add _
      rw [e0]
      refine ⟨_, rfl, _, rfl, _, rfl, _, _, rfl, rfl, small64 N8, _, rfl, _, _, rfl, rfl, a, _, _, _, rfl, rfl, hm, t.at hi hi, rfl, _, rfl, ite2 (fun e => ?_) (fun e => ?_)⟩
      · rw [int_ne] at e
        exact fin fun z => e (z i hi).1
      have e : ent m N i i = 1 := Classical.byContradiction fun z => e (int_ne.2 z)
      refine ⟨_, rfl, _, rfl, by omega, by omega, ?_⟩
      refine for_range (lo := 0) (n := i) (fun j σ H' => ∃ v2 : Option V, σ = [some (.int (N : Nat)), some (.ref a), some (.int (i : Nat)), v2] ∧ H = H' ∧ ∀ j', j' < j → Five (ent m N i j') ∧ ent m N i j' = ent m N j' i)
        ⟨_, rfl, rfl, fun j h => by omega⟩ ?_ ?_
      · rintro j σ H' hj ⟨v2, rfl, rfl, inv2⟩
        have e0 : (0 : Int) + ((j : Nat) : Int) = ((j : Nat) : Int) := Int.zero_add _
        rw [e0]
        have hjN : j < N := by omega
        refine ⟨_, rfl, _, rfl, _, rfl, _, _, rfl, rfl, small64 N8, _, rfl, _, _, rfl, rfl, a, _, _, _, rfl, rfl, hm, t.at hi hjN, aP, _, _, rfl, TP.kd, rfl, _, rfl, ite2 (fun q => ?_) (fun q => ?_)⟩
        · refine iteT ?_
          refine fin fun z => ?_
          rw [five_iff.2 ((z i hi).2 j hj).1] at q
          cases q
        have q : Five (ent m N i j) := by
          rw [← five_iff (a2 := a2) (a3 := a3) (a4 := a4) (a6 := a6) (a0 := a0)]
          cases z : (kdGet [(2, a2), (3, a3), (4, a4), (6, a6), (0, a0)] (ent m N i j)).isSome with
          | true => rfl
          | false => rw [z] at q; exact absurd rfl q
        refine ⟨_, rfl, _, rfl, _, rfl, _, _, rfl, rfl, small64 N8, _, rfl, _, _, rfl, rfl, a, _, _, _, rfl, rfl, hm, t.at hi hjN, _, rfl, _, rfl, _, rfl, _, _, rfl, rfl, small64 N8, _, rfl, _, _, rfl, rfl, a, _, _, _, rfl, rfl, hm, t.at hjN hi, rfl, _, rfl, ite2 (fun e2 => ?_) (fun e2 => ?_)⟩
        · rw [int_ne] at e2
          exact fin fun z => e2 ((z i hi).2 j hj).2
        have e2 : ent m N i j = ent m N j i := Classical.byContradiction fun z => e2 (int_ne.2 z)
        refine ⟨_, rfl, rfl, fun j' hj' => ?_⟩
        by_cases z : j' = j
        · subst z; exact ⟨q, e2⟩
        · exact inv2 j' (by omega)
      · rintro σ H' ⟨v2, rfl, rfl, inv2⟩
        refine ⟨_, _, rfl, rfl, fun i' hi' => ?_⟩
        by_cases z : i' = i
        · subst z; exact ⟨e, inv2⟩
        · exact inv i' (by omega)
    · rintro σ H' ⟨v1, v2, rfl, rfl, inv⟩
      exact k true (by
        constructor
        · intro _; exact ⟨c, d, inv⟩
        · intro _; rfl)
theorem scPullsOf : FnScope ["n", "m", "rows", "i", "j"] ["n", "m"] (defScope sPullsOf) := ⟨rfl, rfl, rfl, by decide +kernel, rfl, by decide +kernel, by decide +kernel⟩
theorem ok_pullsOf {f fP : Addr} {fd fdP : FuncData} (F : Fun K "pulls_of_table" "pulls_of_table" sPullsOf f fd) (T : Txt K mg) (DP : Df K mg "pull" sPull ["n", "m", "i", "j"] fP fdP) :
    FnOk P w K mg base CX0 2 f fd ["n", "m"] (spPullsOf K) := by
  have GP : FnOk P w K mg base CX0 1 fP fdP ["n", "m", "i", "j"] (spPull K) := ok_pull DP.F T
  refine F.ok scPullsOf (fun vs H Q E h => ?_) (fun cdv A outer s H vs Q E hr h => ?_)
  · obtain ⟨a, n, m, rfl, _⟩ := h
    rfl
  · obtain ⟨a, n, m, rfl, t, G, k⟩ := h
    have h8 := t.n8
    refine ⟨_, pss_cons (ps_set (i := 2) scPullsOf.nd rfl (Or.inl rfl) (pe_lst pa_nil))
      (pss_cons (ps_for PassesOwn.never rfl (pi_range1 rfl T.range (pa_cons (pv 0) pa_nil)) (pg_name (i := 3) scPullsOf.nd rfl (Or.inr rfl))
        (pss_one (ps_expr (pe_bm PySem.F.plainAttrs_list PySem.F.slot_list_append PySem.F.type_list_append mt_append (pv 2) (pa_cons
          (pe_lc (own := [("j", 4)]) (g := gName 4) (te := tCall (spPull K) [] (fun _ _ _ => False) (tCons (tVar 0) (tCons (tVar 1) (tCons (tVar 3) (tCons (tVar 4) tNil))))) rfl scPullsOf.nd (pi_range1 rfl T.range (pa_cons (pv 0) pa_nil))
            (blkOk_by (N := ["n", "m", "rows", "i", "j"]) (sc := defScope sPullsOf) (by decide +kernel))
            (fun _ _ _ _ _ => by exact pg_name (i := 4) scPullsOf.nd rfl (Or.inl rfl)) (fun _ _ _ _ _ => by exact pts_nil)
            (fun _ _ _ _ _ => by exact pe_call GP hr rfl DP.m DP.F.kp DP.b .nil pass0 (pa_cons (pv 0) (pa_cons (pv 1) (pa_cons (pv 3) (pa_cons (pv 4) pa_nil)))))) pa_nil)))))
      (pss_one (ps_ret (pv 2)))), ?_⟩
    let M : Mirrors := mirrorsOf n (natsOf m)
    refine ⟨Nat.zero_le _, fun r hr0 => ?_⟩
    have s0 : Same H (upd H r (.lst [])) := Same.new hr0
    have tsame : ∀ {H' : Hp}, Same H H' → TabAt K H' a n m := fun s => ⟨s.seq t.seq, t.len, t.pos, t.n8⟩
    refine ⟨_, rfl, _, rfl, by omega, by omega, ?_⟩
    refine for_range (lo := 0) (n := n) (fun i σ H' => ∃ v : Option V, σ = [some (.int (n : Nat)), some (.ref a), some (.ref r), v, none] ∧ Same H H' ∧ i ≤ n ∧ BuildN H H' r (((List.range n).map (pl M)).take i))
      ⟨none, rfl, s0, Nat.zero_le _, [], by rw [upd_same]; rfl, rfl, fun i r g p _ => by simp at p⟩ ?_ ?_
    · rintro i σ H' hi ⟨v, rfl, s1, _, bd⟩
      have e0 : (0 : Int) + ((i : Nat) : Int) = ((i : Nat) : Int) := Int.zero_add _
      rw [e0]
      obtain ⟨rs, hrs, lrs⟩ := bd.at_
      refine ⟨_, rfl, .inl ⟨rfl, _, SqL.of hrs⟩, _, rfl, _, rfl, by omega, by omega, fun D1 hD1 => ?_⟩
      have nDr : D1 ≠ r := fun z => by rw [z, hrs] at hD1; cases hD1
      refine lc_range (lo := 0) (n := n) (fun j H'' => Same H' H'' ∧ H'' D1 = some (.lst (vi ((pl M i).take j)))) ⟨Same.new hD1, upd_same⟩ ?_ ?_
      · rintro j H'' hj ⟨s2, hD2⟩
        have e1 : (0 : Int) + ((j : Nat) : Int) = ((j : Nat) : Int) := Int.zero_add _
        rw [e1]
        refine ⟨rfl, tyes ?_⟩
        refine ⟨_, rfl, _, rfl, _, rfl, _, rfl, a, n, i, j, m, rfl, tsame (s1.trans s2), G, hi, hj, _, hD2, ?_, ?_, ?_⟩
        · rw [List.length_map, List.length_take, pl_length]
          exact Nat.lt_of_le_of_lt (Nat.min_le_right _ _) (Nat.lt_of_le_of_lt h8 (by decide))
        · intro b o e
          rw [upd_ne (ne_of_none e hD1)]; exact s2 b o e
        · rw [upd_same, take_snoc (pl_get (M := M) hj), vi_snoc]
      · rintro H2 ⟨s2, hD2⟩
        rw [List.take_of_length_le (by rw [pl_length]; exact Nat.le_refl _)] at hD2
        have hrs2 := s2 _ _ hrs
        refine ⟨r, _, _, rfl, rfl, hrs2, ?_, ?_⟩
        · rw [List.length_map, lrs, List.length_take, List.length_map, List.length_range]
          exact Nat.lt_of_le_of_lt (Nat.min_le_right _ _) (Nat.lt_of_le_of_lt h8 (by decide))
        · refine ⟨_, rfl, fun b o e => ?_, hi, ?_⟩
          · rw [upd_ne (ne_of_none e hr0)]; exact s2 _ _ (s1 b o e)
          · rw [take_snoc (show ((List.range n).map (pl M))[i]? = some (pl M i) by simp [hi])]
            exact (bd.same s2).push hrs2 hD2 nDr (s1.free hD1)
    · rintro σ H' ⟨v, rfl, s1, _, bd⟩
      refine ⟨_, rfl, k H' r s1 hr0 ?_⟩
      rw [List.take_of_length_le (by simp)] at bd
      obtain ⟨rs, h1, h2, h3⟩ := bd.ex
      rw [List.length_map, List.length_range] at h2
      have onl : ∀ b, H b = none → only (fun b => H b = none) H' b = H' b := fun b hb => by unfold only; rw [if_pos hb]
      refine ⟨rs, SqL.of (by rw [onl r hr0]; exact h1), h2, fun i q e => ?_⟩
      have hi : i < n := by
        have := (List.getElem?_eq_some_iff.1 e).1
        omega
      obtain ⟨z1, _, z3⟩ := h3 i q (pl M i) e (by simp [hi])
      exact SqL.of (by rw [onl q z3]; exact z1)
end
end Pw
end
section
set_option Elab.async false
set_option maxRecDepth 100000
set_option maxHeartbeats 2000000
namespace Pw
open PySem PySem.Spec PyProof.Rows L2
open Si07 (Mirrors IsWord)
open Cox Mir
noncomputable abbrev sLengths : Stmt := top 40
noncomputable def spMirroredT (K : PySem.W.Frag) : Sp := fun vs H Q _ => ∃ (p h : Addr) (M : Mirrors) (g : Nat → Int) (i : Nat), vs = [.ref p, .ref h, .int (i : Nat)] ∧ PullsAt K H p M ∧ SqT K H h (vi (hv M.n g)) ∧ i < M.n ∧ M.n ≤ 8 ∧
  ∀ (H' : Hp) (q : Addr), Same H H' → H q = none → H' q = some (.lst (vi (hv M.n (rf M i g)))) → Q (.ref q) H'
theorem Same.seqT {K : PySem.W.Frag} {H H' : Hp} {a : Addr} {xs : List V} (e : Same H H') (h : SqT K H a xs) : SqT K H' a xs := by
  rcases h with (h | ⟨o, h⟩) | h
  · exact .inl (.inl (e _ _ h))
  · exact .inl (.inr ⟨o, e _ _ h⟩)
  · exact .inr h
noncomputable def key (M : Mirrors) (u : List Nat) : List Key := (hgt M u).map Sum.inl
theorem key_vi (M : Mirrors) (u : List Nat) : (key M u).map kV = vi (hgt M u) := by
  unfold key vi; rw [List.map_map]; rfl
theorem key_iff {M : Mirrors} (G : Si07.Good M) {u v : List Nat} (wu : IsWord M u) (wv : IsWord M v) : key M u = key M v ↔ Eqv M u v := by
  constructor
  · intro e
    have : vi (hgt M u) = vi (hgt M v) := by rw [← key_vi, ← key_vi, e]
    exact (heights_eqv G wu wv).1 (hv_inj (vi_inj this))
  · intro e
    unfold key hgt
    rw [hv_congr ((heights_eqv G wu wv).2 e)]
noncomputable def kvw (M : Mirrors) (u : List Nat) : List Key × V := (key M u, V.int (len M u : Nat))
open Classical in
noncomputable def addW (M : Mirrors) (ws : List (List Nat)) (v : List Nat) : List (List Nat) := if Has M ws v then ws else ws ++ [v]
theorem addW_has {M : Mirrors} {ws : List (List Nat)} {v a : List Nat} : Has M (addW M ws v) a ↔ Has M ws a ∨ Eqv M a v := by
  unfold addW
  by_cases h : Has M ws v
  · rw [if_pos h]
    constructor
    · intro q; exact .inl q
    · rintro (q | q)
      · exact q
      · obtain ⟨x, hx, e⟩ := h; exact ⟨x, hx, q.trans e⟩
  · rw [if_neg h]
    constructor
    · rintro ⟨x, hx, e⟩
      rcases List.mem_append.1 hx with hx | hx
      · exact .inl ⟨x, hx, e⟩
      · rw [List.mem_singleton.1 hx] at e; exact .inr e
    · rintro (⟨x, hx, e⟩ | q)
      · exact ⟨x, List.mem_append_left _ hx, e⟩
      · exact ⟨v, by simp, q⟩
theorem addW_once {M : Mirrors} {ws : List (List Nat)} {v : List Nat} (h : Once M ws) (wv : IsWord M v) : Once M (addW M ws v) := by
  unfold addW
  by_cases q : Has M ws v
  · rw [if_pos q]; exact h
  · rw [if_neg q]
    refine ⟨fun u hu => ?_, ?_⟩
    · rcases List.mem_append.1 hu with hu | hu
      · exact h.all u hu
      · rw [List.mem_singleton.1 hu]; exact wv
    · rw [List.pairwise_append]
      refine ⟨h.once, by simp, fun x hx y hy e => ?_⟩
      rw [List.mem_singleton.1 hy] at e
      exact q ⟨x, hx, e.symm⟩
theorem addW_length {M : Mirrors} {ws : List (List Nat)} {v : List Nat} : (addW M ws v).length ≤ ws.length + 1 := by
  unfold addW
  split <;> simp
theorem val_w {M : Mirrors} (G : Si07.Good M) {v : List Nat} (wv : IsWord M v) : ∀ {ws : List (List Nat)}, (∀ u, u ∈ ws → IsWord M u) → (Has M ws v → valV (ws.map (kvw M)) (key M v) = some (.int (len M v : Nat))) ∧ (¬ Has M ws v → valV (ws.map (kvw M)) (key M v) = none)
  | [], _ => by
    constructor
    · rintro ⟨x, hx, _⟩; cases hx
    · intro _; rfl
  | u :: ws, h => by
    obtain ⟨i1, i2⟩ := val_w G wv (ws := ws) fun x hx => h x (List.mem_cons_of_mem _ hx)
    have wu := h u (List.mem_cons_self ..)
    rw [List.map_cons]
    by_cases e : Eqv M u v
    · have ek : (kvw M u).1 = key M v := (key_iff G wu wv).2 e
      rw [valV_pos ek]
      refine ⟨fun _ => ?_, fun q => absurd ⟨u, List.mem_cons_self .., e.symm⟩ q⟩
      show some (V.int (len M u : Nat)) = _
      rw [len_eqv wu wv e]
    · have ek : ¬ (kvw M u).1 = key M v := fun z => e ((key_iff G wu wv).1 z)
      rw [valV_neg ek]
      constructor
      · rintro ⟨x, hx, ex⟩
        rcases List.mem_cons.1 hx with rfl | hx
        · exact absurd ex.symm e
        · exact i1 ⟨x, hx, ex⟩
      · intro q
        exact i2 fun zz => L2.ex3 zz fun x hx ex => q ⟨x, List.mem_cons_of_mem _ hx, ex⟩
theorem put_w {M : Mirrors} (G : Si07.Good M) {v : List Nat} (wv : IsWord M v) {ws : List (List Nat)} (h : ∀ u, u ∈ ws → IsWord M u) : putK (ws.map (kvw M)) (key M v) (.int (len M v : Nat)) = (addW M ws v).map (kvw M) := by
  obtain ⟨i1, i2⟩ := val_w G wv h
  unfold putK addW
  rw [valV_any]
  by_cases q : Has M ws v
  · rw [if_pos q, i1 q]
    simp only [Option.isSome_some, if_true]
    rw [List.map_map]
    refine List.map_congr_left fun u hu => ?_
    show (if (kvw M u).1 = key M v then ((kvw M u).1, V.int (len M v : Nat)) else kvw M u) = kvw M u
    by_cases e : (kvw M u).1 = key M v
    · rw [if_pos e, ← len_eqv (h u hu) wv ((key_iff G (h u hu) wv).1 e)]; rfl
    · rw [if_neg e]
  · rw [if_neg q, i2 q, List.map_append]; rfl
noncomputable def spLengths (K : PySem.W.Frag) : Sp := fun vs H Q _ => ∃ (p l : Addr) (M : Mirrors) (u : List Nat), vs = [.ref p, .ref l] ∧ PullsAt K H p M ∧ SqL K H l (vn u) ∧ Si07.Good M ∧ IsWord M u ∧ u.length ≤ 8 ∧
  ∀ (H' : Hp) (q : Addr) (ws : List (List Nat)), Same H H' → H q = none → Once M ws → (∀ a, IsWord M a → (Has M ws a ↔ Out M u a)) → H' q = some (.lst (vi (ws.map fun a => ((len M a : Nat) : Int)))) → Q (.ref q) H'
section
variable {P : Program} {w : World} {K : PySem.W.Frag} {mg : Str → Option Value} {base : Heap}
theorem ok_mirroredT {f : Addr} {fd : FuncData} (F : Fun K "mirrored" "mirrored" sMirrored f fd) (T : Txt K mg) : FnOk P w K mg base CX0 1 f fd ["pulls", "heights", "mirror"] (spMirroredT K) := by
  refine F.ok scMirrored (fun vs H Q E h => ?_) (fun cdv A outer s H vs Q E hr h => ?_)
  · obtain ⟨p, h, M, g, i, rfl, _⟩ := h
    rfl
  · obtain ⟨p, h, M, g, i, rfl, hp, hh, hi, h8, k⟩ := h
    obtain ⟨rows, hr1, hr2, hr3⟩ := hp.ex
    refine ⟨_, pss_cons (ps_set (i := 3) scMirrored.nd rfl (Or.inr rfl) (pe_ix ix_tup (pv 1) (pv 2) (fun _ _ => rfl)))
      (pss_one (ps_ret (pe_lc (own := [("height", 4), ("step", 5)]) (g := gTup K 2 (gCons (gName 4) (gCons (gName 5) gNil))) rfl scMirrored.nd (pi_zipT rfl T.zip (pa_cons (pv 1) (pa_cons (pe_ix ix_list (pv 0) (pv 2) (fun _ _ => rfl)) pa_nil))) (blkOk_by (N := ["pulls", "heights", "mirror", "own", "height", "step"]) (sc := defScope sMirrored) (by decide +kernel))
        (fun _ _ _ _ _ => by exact pg_tup rfl (pgs_cons (pg_name (i := 4) scMirrored.nd rfl (Or.inl rfl)) (pgs_cons (pg_name (i := 5) scMirrored.nd rfl (Or.inl rfl)) pgs_nil)))
        (fun _ _ _ _ _ => by exact pts_nil)
        (fun _ _ _ _ _ => by exact pe_op op_add (pv 4) (pe_op op_mul (pv 3) (pv 5)))))), ?_⟩
    obtain ⟨r, hr⟩ : ∃ r, rows[i]? = some r := ⟨rows[i]'(by omega), List.getElem?_eq_getElem (by omega)⟩
    have hrow := hr3 i r hr
    refine ⟨_, rfl, _, rfl, h, _, _, _, rfl, rfl, hh, at_of (j := i) (v := V.int (g i)) rfl (by rw [List.getElem?_map, hv_get hi]; rfl), ?_⟩
    refine ⟨_, rfl, _, rfl, _, rfl, p, _, _, _, rfl, rfl, hr1, at_of (j := i) (v := V.ref r) rfl (by rw [List.getElem?_map, hr]; rfl), h, r, _, _, rfl, hh, hrow, fun D hD => ?_⟩
    refine lc_zipT (xs := vi (hv M.n g)) (ys := vi (pl M i)) (by simp [hv_length, pl_length]) (fun j H' => Same H H' ∧ H' D = some (.lst (vi ((hv M.n (rf M i g)).take j)))) ⟨Same.new hD, upd_same⟩ (fun j H' _ zz => by obtain ⟨s1, _⟩ := zz; exact ⟨Same.seqT s1 hh, s1.seq hrow⟩) ?_ ?_
    · intro j x y H' T hx hy ⟨s1, hD1⟩ hT
      have hj : j < M.n := by
        have := (List.getElem?_eq_some_iff.1 hx).1
        simpa [hv_length] using this
      obtain rfl : x = V.int (g j) := by
        rw [List.getElem?_map, hv_get hj] at hx; exact (Option.some.inj hx).symm
      obtain rfl : y = V.int (- Si07.cartan M i j) := by
        rw [List.getElem?_map, pl_get hj] at hy; exact (Option.some.inj hy).symm
      refine ⟨T, _, rfl, SqT.of upd_same, rfl, _, _, rfl, _, _, rfl, rfl, rfl, ?_⟩
      refine tyes ?_
      have cs := cartan_small M i j
      refine ⟨_, rfl, _, rfl, _, rfl, _, _, rfl, rfl, .inr ⟨by omega, by omega⟩, _, _, rfl, rfl, _, (upd_ne (ne_of_none hD1 hT)).trans hD1, ?_, ?_, ?_⟩
      · rw [List.length_map, List.length_take, hv_length]
        exact Nat.lt_of_le_of_lt (Nat.min_le_right _ _) (Nat.lt_of_le_of_lt h8 (by decide))
      · intro b o e
        rw [upd_ne, upd_ne (ne_of_none (s1 b o e) hT)]
        · exact s1 b o e
        · exact ne_of_none e hD
      · rw [upd_same, take_snoc (hv_get hj), vi_snoc, ← rf_pull]
    · intro H' ⟨s1, hD1⟩
      refine k H' D s1 hD ?_
      rw [hD1, List.length_map, hv_length, List.take_of_length_le (by rw [hv_length]; exact Nat.le_refl _)]
theorem scLengths : FnScope ["pulls", "shortest", "lengths", "letter", "heights", "step", "beyond"] ["pulls", "shortest"] (defScope sLengths) := ⟨rfl, rfl, rfl, by decide +kernel, rfl, by decide +kernel, by decide +kernel⟩
theorem ok_lengths {f fM fV fF : Addr} {fd fdM fdV fdF : FuncData} (F : Fun K "lengths_below" "lengths_below" sLengths f fd) (T : Txt K mg) (D : HD K mg fM fdM fV fdV fF fdF) : FnOk P w K mg base CX0 2 f fd ["pulls", "shortest"] (spLengths K) := by
  have GM : FnOk P w K mg base CX0 1 fM fdM ["pulls", "heights", "mirror"] (spMirroredT K) := ok_mirroredT D.M.F T
  have GF : FnOk P w K mg base CX0 1 fF fdF ["pulls"] (spFirst K) := ok_first D.F.F
  refine F.ok scLengths (fun vs H Q E h => ?_) (fun cdv A outer s H vs Q E hr h => ?_)
  · obtain ⟨p, l, M, u, rfl, _⟩ := h
    rfl
  · obtain ⟨p, l, M, u, rfl, hp, hl, G, wu, l8, k⟩ := h
    have h8 : M.n ≤ 8 := G.2.1
    have hu := hu_of hr
    refine ⟨_, pss_cons (ps_set (i := 2) scLengths.nd rfl (Or.inl rfl) (pe_disp1 hr.units0 (pe_callTy call_tuple_of rfl T.tup PyProof.Rows.boot_tuple (pa_cons (pe_call GF hr rfl D.F.m D.F.F.kp D.F.b .nil pass0 (pa_cons (pv 0) pa_nil)) pa_nil)) pe_int))
      (pss_cons (ps_for PassesOwn.never rfl (pi_list (pv 1)) (pg_name (i := 3) scLengths.nd rfl (Or.inl rfl))
        (pss_one (ps_for PassesOwn.never rfl (pi_list (pe_callTy (call_listK rfl) rfl T.lst PyProof.Rows.boot_list (pa_cons (pv 2) pa_nil))) (pg_name (i := 4) scLengths.nd rfl (Or.inl rfl))
          (pss_cons (ps_set (i := 5) scLengths.nd rfl (Or.inl rfl) (pe_ifExp (pt_cmpR op_gt (pe_ix ix_tup (pv 4) (pv 3) (fun _ _ => rfl)) pe_int (nomark _)) pe_int (pe_un un_neg pe_int)))
          (pss_cons (ps_set (i := 6) scLengths.nd rfl (Or.inl rfl) (pe_callTy call_tuple_of rfl T.tup PyProof.Rows.boot_tuple (pa_cons (pe_call GM hr rfl D.M.m D.M.F.kp D.M.b .nil pass0 (pa_cons (pv 0) (pa_cons (pv 4) (pa_cons (pv 3) pa_nil)))) pa_nil)))
          (pss_one (ps_dput hu (pv 2) (pv 6) (pe_op op_add (pe_dget hu (pv 2) (pv 4) (fun _ _ => rfl)) (pv 5)) rfl)))))))
      (pss_one (ps_ret (pe_listV rfl rfl T.lst (pv 2))))), ?_⟩
    intro d hd
    have s0 : Same H (upd H d (.dT [])) := Same.new hd
    refine ⟨_, rfl, p, M, rfl, hp.same s0, h8, fun H1 q1 s1 hn1 hq1 => ?_⟩
    refine ⟨q1, _, rfl, .inl ⟨SqL.of hq1, fun b hb => ?_⟩⟩
    have s2 : Same H1 (upd H1 b (.tup (vi (hv M.n one)))) := Same.new hb
    refine ⟨b, key M [], rfl, s2 _ _ (s1 _ _ upd_same), ?_, ?_⟩
    · rw [upd_same, key_vi]; rfl
    have s3 : Same H (upd (upd H1 b (.tup (vi (hv M.n one)))) d (.dT [(key M [], V.int 0)])) := fun c o e => by
      rw [upd_ne (ne_of_none e hd)]; exact s2 _ _ (s1 _ _ (s0 c o e))
    have o0 : Once M [[]] := ⟨fun a ha => by rw [List.mem_singleton.1 ha]; exact isWord_nil M, by simp⟩
    refine ⟨_, rfl, l, rfl, ⟨_, s3.seq hl⟩, for_list (K := K) (a := l) (xs := vn u) (fun i σ H' => ∃ (ws : List (List Nat)) (v3 v4 v5 v6 : Option V), σ = [some (.ref p), some (.ref l), some (.ref d), v3, v4, v5, v6] ∧ Same H H' ∧ i ≤ u.length ∧
        H' d = some (.dT (ws.map (kvw M))) ∧ Once M ws ∧ ws.length ≤ 2 ^ i ∧ ∀ a, IsWord M a → (Has M ws a ↔ Out M (u.take i) a))
      ⟨[[]], none, none, none, none, rfl, s3, Nat.zero_le _, ?_, o0, by simp, fun a _ => ?_⟩ (fun i σ H' _ zz => by obtain ⟨_, _, _, _, _, _, s4, _⟩ := zz; exact s4.seq hl) ?_ ?_⟩
    · rw [upd_same, List.map_cons, List.map_nil]
      show _ = some (HO.dT [(key M [], V.int (len M [] : Nat))])
      rw [len_nil]; rfl
    · rw [List.take_zero, out_nil]
      constructor
      · rintro ⟨x, hx, e⟩
        rw [List.mem_singleton.1 hx] at e; exact e
      · intro e; exact ⟨[], by simp, e⟩
    · rintro i y σ H' hy ⟨ws0, v3, v4, v5, v6, rfl, s4, _, hd4, on0, lw0, has0⟩
      obtain ⟨c, hc, rfl⟩ := nth_vn hy
      have hi : i < u.length := (List.getElem?_eq_some_iff.1 hc).1
      have hcn : c < M.n := wu c (List.mem_of_getElem? hc)
      refine ⟨_, rfl, d, _, rfl, hd4, fun ll qs hll lqs hqs => ?_⟩
      rw [List.length_map] at lqs
      have nld : d ≠ ll := ne_of_none hd4 hll
      have s5 : Same H' (upd H' ll (.lst (qs.map V.ref))) := Same.new hll
      have w256 : ws0.length ≤ 256 := by
        have : 2 ^ i ≤ 2 ^ 8 := Nat.pow_le_pow_right (by decide) (by omega)
        omega
      refine ⟨ll, rfl, ⟨_, SqL.of upd_same⟩, for_list (K := K) (a := ll) (xs := qs.map V.ref) (fun j σ H'' => ∃ (ws : List (List Nat)) (v4 v5 v6 : Option V), σ = [some (.ref p), some (.ref l), some (.ref d), some (.int (c : Nat)), v4, v5, v6] ∧ Same H H'' ∧ j ≤ ws0.length ∧
          H'' ll = some (.lst (qs.map V.ref)) ∧ (∀ (x : Nat) (q : Addr) (a : List Nat), qs[x]? = some q → ws0[x]? = some a → H'' q = some (.tup (vi (hgt M a)))) ∧
          H'' d = some (.dT (ws.map (kvw M))) ∧ Once M ws ∧ ws.length ≤ ws0.length + j ∧ ∀ a, (Has M ws a ↔ Has M ws0 a ∨ ∃ x, x ∈ ws0.take j ∧ Eqv M a (x ++ [c])))
        ⟨ws0, _, _, _, rfl, s4.trans s5, Nat.zero_le _, upd_same, fun x q a e1 e2 => ?_, s5 _ _ hd4, on0, by omega, fun a => ?_⟩ (fun j σ H'' _ zz => by obtain ⟨_, _, _, _, _, _, _, e, _⟩ := zz; exact SqL.of e) ?_ ?_⟩
      · rw [← key_vi]
        exact s5 _ _ (hqs x q (key M a) (V.int (len M a : Nat)) e1 (nth_map e2))
      · simp
      · rintro j z σ H6 hz ⟨ws, v4, v5, v6, rfl, s6, _, hl6, hq6, hd6, on6, lw6, has6⟩
        obtain ⟨q, hq, rfl⟩ := nth_ref hz
        have hj : j < ws0.length := by
          have := (List.getElem?_eq_some_iff.1 hq).1
          omega
        obtain ⟨a, ha⟩ : ∃ a, ws0[j]? = some a := ⟨ws0[j], List.getElem?_eq_getElem hj⟩
        have wa : IsWord M a := on0.all a (List.mem_of_getElem? ha)
        have wac := isWord_snoc wa hcn
        have hqt := hq6 j q a hq ha
        have ne0 := act_one_ne G wa hcn
        have e1 : 0 < act M a one c → ((len M a : Nat) : Int) + 1 = ((len M (a ++ [c]) : Nat) : Int) := fun z => by
          have := len_up G wa hcn (fun d => by have := (down_height G wa hcn).1 d; omega)
          omega
        have e2 : ¬ 0 < act M a one c → ((len M a : Nat) : Int) + -1 = ((len M (a ++ [c]) : Nat) : Int) := fun z => by
          have := len_down wa hcn ((down_height G wa hcn).2 (by omega))
          omega
        refine ⟨_, rfl, _, rfl, q, _, _, _, rfl, rfl, SqT.of hqt, at_of (j := c) (v := V.int (act M a one c)) rfl (by unfold hgt; rw [List.getElem?_map, hv_get hcn]; rfl), _, _, rfl, rfl, _, rfl, ite2 (fun c0 => ?_) (fun c0 => ⟨_, rfl, ?_⟩)⟩
        all_goals
          refine ⟨_, rfl, _, rfl, _, rfl, p, q, M, act M a one, c, rfl, hp.same s6, SqT.of hqt, hcn, h8, fun H7 q7 s7 hn7 hq7 => ?_⟩
          refine ⟨q7, _, rfl, .inl ⟨SqL.of hq7, fun b hb => ?_⟩⟩
          have s8 : Same H7 (upd H7 b (.tup (vi (hv M.n (rf M c (act M a one)))))) := Same.new hb
          have s78 := s7.trans s8
          have hq8 : upd H7 b (.tup (vi (hv M.n (rf M c (act M a one))))) q = some (.tup ((key M a).map kV)) := by rw [key_vi]; exact s78 _ _ hqt
          have hb8 : upd H7 b (.tup (vi (hv M.n (rf M c (act M a one))))) b = some (.tup ((key M (a ++ [c])).map kV)) := by
            rw [upd_same, key_vi]; unfold hgt; rw [act_snoc]
          have hd8 := s78 _ _ hd6
          have hsa : Has M ws a := (has6 a).2 (.inl ⟨a, List.mem_of_getElem? ha, Eqv.refl _ _⟩)
          have dg : DGet (upd H7 b (.tup (vi (hv M.n (rf M c (act M a one)))))) d (.ref q) (some (.int (len M a : Nat))) := by
            have := DGet.t (k := key M a) hd8 hq8
            rw [(val_w G wa on6.all).1 hsa] at this
            exact this
          refine ⟨_, rfl, _, rfl, d, _, rfl, dg, _, rfl, _, _, rfl, rfl, _, rfl, _, rfl, d, _, rfl, DPut.t (k := key M (a ++ [c])) hd8 hb8 ?_, ?_⟩
          · rw [List.length_map]
            exact Nat.lt_of_le_of_lt (show ws.length ≤ 512 by omega) (by decide)
          have nd : ∀ x o, upd H7 b (.tup (vi (hv M.n (rf M c (act M a one))))) x = some o → (∀ kvs, o ≠ .dT kvs) → x ≠ d := fun x o e no z => by
            rw [z, hd8] at e
            exact no _ (Option.some.inj e).symm
          refine ⟨addW M ws (a ++ [c]), _, _, _, rfl, fun x o e => ?_, hj, ?_, fun x q' a' g1 g2 => ?_, ?_, addW_once on6 wac, ?_, fun a' => ?_⟩
          · rw [upd_ne (ne_of_none e hd)]; exact s78 _ _ (s6 x o e)
          · rw [upd_ne (nd _ _ (s78 _ _ hl6) (fun _ z => nomatch z))]; exact s78 _ _ hl6
          · rw [upd_ne (nd _ _ (s78 _ _ (hq6 x q' a' g1 g2)) (fun _ z => nomatch z))]; exact s78 _ _ (hq6 x q' a' g1 g2)
          · rw [upd_same, ← put_w G wac on6.all]
            first
              | rw [← e1 (of_decide_eq_true c0)]
              | rw [← e2 (fun z => c0 (decide_eq_true z))]
          · have := addW_length (M := M) (ws := ws) (v := a ++ [c])
            omega
          · rw [addW_has, has6 a', take_snoc ha]
            constructor
            · rintro ((h | ⟨x, hx, e⟩) | h)
              · exact .inl h
              · exact .inr ⟨x, List.mem_append_left _ hx, e⟩
              · exact .inr ⟨a, by simp, h⟩
            · rintro (h | ⟨x, hx, e⟩)
              · exact .inl (.inl h)
              · rcases List.mem_append.1 hx with hx | hx
                · exact .inl (.inr ⟨x, hx, e⟩)
                · rw [List.mem_singleton.1 hx] at e; exact .inr e
      · rintro σ H6 ⟨ws, v4, v5, v6, rfl, s6, _, hl6, hq6, hd6, on6, lw6, has6⟩
        rw [List.length_map, lqs, List.take_length] at has6
        rw [List.length_map, lqs] at lw6
        refine ⟨ws, _, _, _, _, rfl, s6, hi, hd6, on6, ?_, fun a wa => ?_⟩
        · rw [Nat.pow_succ]; omega
        · rw [has6 a, take_snoc hc, out_snoc hcn, has0 a wa, ← has0 (a ++ [c]) (isWord_snoc wa hcn)]
          constructor
          · rintro (h | ⟨x, hx, e⟩)
            · exact .inl h
            · exact .inr ⟨x, hx, (e.right (isWord_single.2 hcn)).trans (eqv_snoc2 M x c)⟩
          · rintro (h | ⟨x, hx, e⟩)
            · exact .inl h
            · exact .inr ⟨x, hx, (eqv_snoc2 M a c).symm.trans (e.right (isWord_single.2 hcn))⟩
    · rintro σ H' ⟨ws, v3, v4, v5, v6, rfl, s4, _, hd4, on, lw, has⟩
      rw [List.length_map, List.take_length] at has
      refine ⟨_, rfl, d, _, rfl, hd4, fun ll hll => ?_⟩
      refine k _ ll ws (s4.trans (Same.new hll)) (s4.free hll) on has ?_
      rw [upd_same, List.map_map, vi, List.map_map]; rfl
end
end Pw
end
section
set_option Elab.async false
set_option maxRecDepth 100000
set_option maxHeartbeats 2000000
namespace Pw
open PySem PySem.Spec PyProof.Rows L2
open Si07 (Mirrors IsWord leastOf longestOf orderOf level)
open Si07Neutral (natsOf)
open Cox Mir Par
noncomputable abbrev sTwo : Stmt := top 42
noncomputable abbrev sOne : Stmt := top 43
noncomputable abbrev sCount : Stmt := top 44
noncomputable abbrev sALongest : Stmt := top 45
noncomputable abbrev sBetween : Stmt := top 46
def Gv (H : Hp) (Q : VK) (L : List Int) : Prop := ∀ (H' : Hp) (q : Addr), Same H H' → H q = none → H' q = some (.lst (vi L)) → Q (.ref q) H'
theorem vi_nats {a : List Int} (h : Short a) : vi a = vn (natsOf a) := by
  unfold vi vn natsOf
  rw [List.map_map]
  refine List.map_congr_left fun x hx => ?_
  have := h.2 x hx
  show V.int x = V.int ((x.toNat : Nat) : Int)
  congr 1; omega
theorem nats_length {a : List Int} (h : Short a) : (natsOf a).length ≤ 128 := by unfold natsOf; rw [List.length_map]; exact h.1
theorem fit_iff {M : Mirrors} {a : List Int} : (a.all fun x => decide (x < (M.n : Int))) = true ↔ Fit M a := by
  rw [List.all_eq_true]
  unfold Fit
  constructor
  · intro h x hx; exact of_decide_eq_true (h x hx)
  · intro h x hx; exact decide_eq_true (h x hx)
theorem vn_vi (u : List Nat) : vn u = vi (u.map fun x => ((x : Nat) : Int)) := by unfold vn vi; rw [List.map_map]; rfl
structure TwoIs (M : Mirrors) (c : Int) (a b : List Int) (L : List Int) : Prop where
  no : ¬ (Fit M a ∧ Fit M b) → L = [-2]
  same : Fit M a → Fit M b → c = 1 → (hts M (natsOf a) = hts M (natsOf b) → L = [1]) ∧ (¬ hts M (natsOf a) = hts M (natsOf b) → L = [0])
  below : Fit M a → Fit M b → c = 5 → (Bel M (natsOf a) (natsOf b) → L = [1]) ∧ (¬ Bel M (natsOf a) (natsOf b) → L = [0])
structure OneIs (M : Mirrors) (c : Int) (a : List Int) (L : List Int) : Prop where
  no : ¬ Fit M a → L = [-2]
  length : Fit M a → c = 2 → L = [((leastOf M (natsOf a)).length : Int)]
  least : Fit M a → c = 3 → L = (0 : Int) :: (leastOf M (natsOf a)).map (fun (x : Nat) => (x : Int))
  ends : Fit M a → c = 4 → L = [((bits (act M (natsOf a) one) M.n : Nat) : Int)]
  order : Fit M a → c = 6 → L = [((orderOf M (natsOf a) : Nat) : Int)]
noncomputable def spTwo (K : PySem.W.Frag) : Sp := fun vs H Q _ => ∃ (p x y : Addr) (c : Int) (M : Mirrors) (a b L : List Int), vs = [.int c, .ref p, .ref x, .ref y] ∧ PullsAt K H p M ∧ SqL K H x (vi a) ∧ SqL K H y (vi b) ∧ Si07.Good M ∧ Short a ∧ Short b ∧ (c = 1 ∨ c = 5) ∧ TwoIs M c a b L ∧ Gv H Q L
noncomputable def spOne (K : PySem.W.Frag) : Sp := fun vs H Q _ => ∃ (p x : Addr) (c : Int) (M : Mirrors) (a L : List Int), vs = [.int c, .ref p, .ref x] ∧ PullsAt K H p M ∧ SqL K H x (vi a) ∧ Si07.Good M ∧ Short a ∧ (c = 2 ∨ c = 3 ∨ c = 4 ∨ c = 6) ∧ OneIs M c a L ∧ Gv H Q L
noncomputable def spCount (K : PySem.W.Frag) : Sp := fun vs H Q _ => ∃ (p : Addr) (k : Int) (M : Mirrors), vs = [.ref p, .int k] ∧ PullsAt K H p M ∧ Si07.Good M ∧ 0 ≤ k ∧ (k ≤ 128 → ∀ j, j ≤ k.toNat → (level M j).length ≤ 300) ∧
  (¬ k ≤ 128 → Gv H Q [-2]) ∧ (k ≤ 128 → Gv H Q [0, ((level M k.toNat).length : Int)])
noncomputable def spALongest (K : PySem.W.Frag) : Sp := fun vs H Q _ => ∃ (p : Addr) (M : Mirrors), vs = [.ref p] ∧ PullsAt K H p M ∧ Si07.Good M ∧
  ((∃ u, IsWord M u ∧ AllDown M u ∧ len M u ≤ 120 ∧ longestOf M = some (leastOf M u)) ∨ ((∃ d, Rises M d) ∧ longestOf M = none)) ∧
  (∀ w, longestOf M = some w → Gv H Q ((0 : Int) :: w.map (fun (x : Nat) => (x : Int)))) ∧ (longestOf M = none → Gv H Q [-1])
noncomputable def spBetween (K : PySem.W.Frag) : Sp := fun vs H Q _ => ∃ (p x : Addr) (k : Int) (M : Mirrors) (a : List Int), vs = [.ref p, .int k, .ref x] ∧ PullsAt K H p M ∧ SqL K H x (vi a) ∧ Si07.Good M ∧ Short a ∧ 0 ≤ k ∧
  (Fit M a → (leastOf M (natsOf a)).length ≤ 8 ∨ 24 < (leastOf M (natsOf a)).length) ∧
  (¬ (Fit M a ∧ k ≤ 128 ∧ (leastOf M (natsOf a)).length ≤ 24) → Gv H Q [-2]) ∧
  (Fit M a → k ≤ 128 → (leastOf M (natsOf a)).length ≤ 24 → Gv H Q [0, (((Si07.lowerAll M (leastOf M (natsOf a))).filter fun w => Si07.lengthM M w == k.toNat).length : Int)])
section
variable {P : Program} {w : World} {K : PySem.W.Frag} {mg : Str → Option Value} {base : Heap}
theorem Gv.new {H H1 : Hp} {Q : VK} {L : List Int} (g : Gv H Q L) (s : Same H H1) {l : Addr} (hl : H1 l = none) : Q (.ref l) (upd H1 l (.lst (vi L))) :=
  g _ l (s.trans (Same.new hl)) (s.free hl) upd_same
theorem scTwo : FnScope ["call", "pulls", "a", "b"] ["call", "pulls", "a", "b"] (defScope sTwo) := ⟨rfl, rfl, rfl, by decide +kernel, rfl, by decide +kernel, by decide +kernel⟩
theorem ok_two {f fM fV fF fH fL fW fB : Addr} {fd fdM fdV fdF fdH fdL fdW fdB : FuncData} (F : Fun K "answer_two_words" "answer_two_words" sTwo f fd) (T : Txt K mg) (D : HD K mg fM fdM fV fdV fF fdF)
    (DH : Df K mg "heights_behind" sHeights ["pulls", "letters"] fH fdH) (DL : Df K mg "lowest_crossed" sLow ["heights"] fL fdL) (DW : Df K mg "is_word" sIsWord ["pulls", "word"] fW fdW) (DB : Df K mg "lies_below" sBelow ["pulls", "a", "b"] fB fdB) :
    FnOk P w K mg base CX0 5 f fd ["call", "pulls", "a", "b"] (spTwo K) := by
  have GH : FnOk P w K mg base CX0 3 fH fdH ["pulls", "letters"] (spHeights K) := ok_heights DH.F T D
  have GW : FnOk P w K mg base CX0 1 fW fdW ["pulls", "word"] (spIsWord K) := ok_isWord DW.F T
  have GB : FnOk P w K mg base CX0 4 fB fdB ["pulls", "a", "b"] (spBelow K) := ok_below DB.F T D DH DL
  obtain ⟨tR, hR⟩ := T.refd
  obtain ⟨t1, h1⟩ := T.c1
  refine F.ok scTwo (fun vs H Q E h => ?_) (fun cdv A outer s H vs Q E hr h => ?_)
  · obtain ⟨p, x, y, c, M, a, b, L, rfl, _⟩ := h
    rfl
  · obtain ⟨p, x, y, c, M, a, b, L, rfl, hp, hx, hy, G, sa, sb, hc, is, k⟩ := h
    have h8 : M.n ≤ 8 := G.2.1
    have hr1 : Room 1 _ := hr.mono (by decide)
    have hr3 : Room 3 _ := hr.mono (by decide)
    refine ⟨_, pss_cons (ps_if (PW.pt (pw_or (pt_not (pt_val (pe_call GW hr1 rfl DW.m DW.F.kp DW.b .nil pass0 (pa_cons (pv 1) (pa_cons (pv 2) pa_nil))))) (pw_or1 (pt_not (pt_val (pe_call GW hr1 rfl DW.m DW.F.kp DW.b .nil pass0 (pa_cons (pv 1) (pa_cons (pv 3) pa_nil))))))))
        (pss_one (ps_ret (pe_lst (pa_cons (pe_glob (v := .int (-2)) rfl hR ⟨_, rfl⟩) pa_nil)))) pss_nil)
      (pss_cons (ps_if (pt_cmpR op_eq (pv 0) (pe_glob (v := .int 1) rfl h1 ⟨_, rfl⟩) (nomark _))
        (pss_one (ps_ret (pe_lst (pa_cons (pe_ifExp (pt_cmpR (op_eqD hr.units) (pe_call GH hr3 rfl DH.m DH.F.kp DH.b .nil pass0 (pa_cons (pv 1) (pa_cons (pv 2) pa_nil))) (pe_call GH hr3 rfl DH.m DH.F.kp DH.b .nil pass0 (pa_cons (pv 1) (pa_cons (pv 3) pa_nil))) (nomark _)) pe_int pe_int) pa_nil)))) pss_nil)
      (pss_one (ps_ret (pe_lst (pa_cons (pe_ifExp (pt_val (pe_call GB hr rfl DB.m DB.F.kp DB.b .nil pass0 (pa_cons (pv 1) (pa_cons (pv 2) (pa_cons (pv 3) pa_nil))))) pe_int pe_int) pa_nil))))), ?_⟩
    have one1 : (1 : Nat) ≤ sizeLine := by decide
    refine ⟨_, rfl, _, rfl, p, x, M, a, rfl, hp, hx, sa.1, fun H1 s1 => ?_⟩
    refine ⟨_, rfl, ?_⟩
    cases fa : (a.all fun x => decide (x < (M.n : Int))) with
    | false =>
      have nf : ¬ Fit M a := fun z => by rw [fit_iff.2 z] at fa; cases fa
      refine iteT (iteT ⟨one1, fun l hl => ?_⟩)
      have := is.no (fun z => nf z.1)
      subst this
      exact k.new s1 hl
    | true =>
      have fA : Fit M a := fit_iff.1 fa
      have wa := isWord_nats sa fA
      refine iteF ?_
      refine ⟨_, rfl, _, rfl, p, y, M, b, rfl, hp.same s1, s1.seq hy, sb.1, fun H2 s2 => ?_⟩
      have s12 := s1.trans s2
      refine ⟨_, rfl, ?_⟩
      cases fb : (b.all fun x => decide (x < (M.n : Int))) with
      | false =>
        have nf : ¬ Fit M b := fun z => by rw [fit_iff.2 z] at fb; cases fb
        refine iteT ⟨one1, fun l hl => ?_⟩
        have := is.no (fun z => nf z.2)
        subst this
        exact k.new s12 hl
      | true =>
        have fB : Fit M b := fit_iff.1 fb
        have wb := isWord_nats sb fB
        have hx2 := s12.seq hx
        have hy2 := s12.seq hy
        rw [vi_nats sa] at hx2
        rw [vi_nats sb] at hy2
        refine iteF ?_
        refine ⟨_, rfl, rfl, _, rfl, ite2 (fun e => ?_) (fun e => ?_)⟩
        · have e : c = 1 := by
            have := of_decide_eq_true e
            injection this
          obtain ⟨i1, i2⟩ := is.same fA fB e
          refine ⟨_, rfl, _, rfl, p, x, M, natsOf a, rfl, hp.same s12, hx2, wa, h8, fun H3 q3 s3 hn3 hq3 => ?_⟩
          refine ⟨_, rfl, _, rfl, p, y, M, natsOf b, rfl, hp.same (s12.trans s3), s3.seq hy2, wb, h8, fun H4 q4 s4 hn4 hq4 => ?_⟩
          refine ⟨_, _, dp_list (SqL.of (s4 _ _ hq3)), dp_list (SqL.of hq4), shaped_ints _, shaped_ints _, _, rfl, ?_⟩
          rw [eqD_ints]
          have s14 := (s12.trans s3).trans s4
          refine ite2 (fun z => ⟨one1, fun l hl => ?_⟩) (fun z => ⟨one1, fun l hl => ?_⟩)
          · have := i1 (of_decide_eq_true z)
            subst this
            exact k.new s14 hl
          · have := i2 (fun g => z (decide_eq_true g))
            subst this
            exact k.new s14 hl
        · have e : c = 5 := by
            rcases hc with rfl | rfl
            · exact absurd (decide_eq_true rfl) e
            · rfl
          obtain ⟨i1, i2⟩ := is.below fA fB e
          refine ⟨_, rfl, _, rfl, _, rfl, p, x, y, M, natsOf a, natsOf b, rfl, hp.same s12, hx2, hy2, G, wa, wb, fun H3 c3 s3 hc3 => ?_⟩
          have s13 := s12.trans s3
          refine ⟨_, rfl, ?_⟩
          cases c3 with
          | true =>
            refine iteT ⟨one1, fun l hl => ?_⟩
            have := i1 (hc3.1 rfl)
            subst this
            exact k.new s13 hl
          | false =>
            refine iteF ⟨one1, fun l hl => ?_⟩
            have := i2 (fun g => by have := hc3.2 g; cases this)
            subst this
            exact k.new s13 hl
theorem scOne : FnScope ["call", "pulls", "word"] ["call", "pulls", "word"] (defScope sOne) := ⟨rfl, rfl, rfl, by decide +kernel, rfl, by decide +kernel, by decide +kernel⟩
theorem ok_one {f fM fV fF fH fL fW fA fE fI fX fO : Addr} {fd fdM fdV fdF fdH fdL fdW fdA fdE fdI fdX fdO : FuncData} (F : Fun K "answer_one_word" "answer_one_word" sOne f fd) (T : Txt K mg) (D : HD K mg fM fdM fV fdV fF fdF)
    (DH : Df K mg "heights_behind" sHeights ["pulls", "letters"] fH fdH) (DL : Df K mg "lowest_crossed" sLow ["heights"] fL fdL) (DW : Df K mg "is_word" sIsWord ["pulls", "word"] fW fdW)
    (DA : Df K mg "least_word" sLeast ["pulls", "word"] fA fdA) (DE : Df K mg "last_mirrors" sLast ["pulls", "word"] fE fdE)
    (DI : Df K mg "images_of" sImages ["pulls", "word"] fI fdI) (DX : Df K mg "moved_by_images" sMvi ["images", "heights"] fX fdX) (DO : Df K mg "order_of" sOrder ["pulls", "word"] fO fdO) :
    FnOk P w K mg base CX0 5 f fd ["call", "pulls", "word"] (spOne K) := by
  have GW : FnOk P w K mg base CX0 1 fW fdW ["pulls", "word"] (spIsWord K) := ok_isWord DW.F T
  have GA : FnOk P w K mg base CX0 4 fA fdA ["pulls", "word"] (spLeast K) := ok_least DA.F T D DH DL
  have GE : FnOk P w K mg base CX0 4 fE fdE ["pulls", "word"] (spLast K) := ok_last DE.F T D DH
  have GO : FnOk P w K mg base CX0 4 fO fdO ["pulls", "word"] (spOrder K) := ok_order DO.F T D DI DX
  obtain ⟨tR, hR⟩ := T.refd
  obtain ⟨t2, h2⟩ := T.c2
  obtain ⟨t3, h3⟩ := T.c3
  obtain ⟨t4, h4⟩ := T.c4
  refine F.ok scOne (fun vs H Q E h => ?_) (fun cdv A outer s H vs Q E hr h => ?_)
  · obtain ⟨p, x, c, M, a, L, rfl, _⟩ := h
    rfl
  · obtain ⟨p, x, c, M, a, L, rfl, hp, hx, G, sa, hc, is, k⟩ := h
    have h8 : M.n ≤ 8 := G.2.1
    have hr1 : Room 1 _ := hr.mono (by decide)
    have one1 : (1 : Nat) ≤ sizeLine := by decide
    refine ⟨_, pss_cons (ps_if (pt_not (pt_val (pe_call GW hr1 rfl DW.m DW.F.kp DW.b .nil pass0 (pa_cons (pv 1) (pa_cons (pv 2) pa_nil))))) (pss_one (ps_ret (pe_lst (pa_cons (pe_glob (v := .int (-2)) rfl hR ⟨_, rfl⟩) pa_nil)))) pss_nil)
      (pss_cons (ps_if (pt_cmpR op_eq (pv 0) (pe_glob (v := .int 2) rfl h2 ⟨_, rfl⟩) (nomark _)) (pss_one (ps_ret (pe_lst (pa_cons (pe_callB call_len_seq rfl T.len PySem.boot_len (pa_cons (pe_call GA hr rfl DA.m DA.F.kp DA.b .nil pass0 (pa_cons (pv 1) (pa_cons (pv 2) pa_nil))) pa_nil)) pa_nil)))) pss_nil)
      (pss_cons (ps_if (pt_cmpR op_eq (pv 0) (pe_glob (v := .int 3) rfl h3 ⟨_, rfl⟩) (nomark _)) (pss_one (ps_ret (pe_op op_cat (pe_lst (pa_cons pe_int pa_nil)) (pe_call GA hr rfl DA.m DA.F.kp DA.b .nil pass0 (pa_cons (pv 1) (pa_cons (pv 2) pa_nil)))))) pss_nil)
      (pss_cons (ps_if (pt_cmpR op_eq (pv 0) (pe_glob (v := .int 4) rfl h4 ⟨_, rfl⟩) (nomark _)) (pss_one (ps_ret (pe_lst (pa_cons (pe_call GE hr rfl DE.m DE.F.kp DE.b .nil pass0 (pa_cons (pv 1) (pa_cons (pv 2) pa_nil))) pa_nil)))) pss_nil)
      (pss_one (ps_ret (pe_lst (pa_cons (pe_call GO hr rfl DO.m DO.F.kp DO.b .nil pass0 (pa_cons (pv 1) (pa_cons (pv 2) pa_nil))) pa_nil))))))), ?_⟩
    refine ⟨_, rfl, _, rfl, p, x, M, a, rfl, hp, hx, sa.1, fun H1 s1 => ?_⟩
    refine ⟨_, rfl, ?_⟩
    cases fa : (a.all fun x => decide (x < (M.n : Int))) with
    | false =>
      have nf : ¬ Fit M a := fun z => by rw [fit_iff.2 z] at fa; cases fa
      refine iteT ⟨one1, fun l hl => ?_⟩
      have := is.no nf
      subst this
      exact k.new s1 hl
    | true =>
      have fA : Fit M a := fit_iff.1 fa
      have wa := isWord_nats sa fA
      have hx1 := s1.seq hx
      rw [vi_nats sa] at hx1
      have lA := nats_length sa
      refine iteF ?_
      refine ⟨_, rfl, rfl, _, rfl, ite2 (fun e => ?_) (fun e => ?_)⟩
      · have e : c = 2 := by
          have := of_decide_eq_true e
          injection this
        refine ⟨_, rfl, _, rfl, p, x, M, natsOf a, rfl, hp.same s1, hx1, G, wa, lA, fun H3 q3 s3 hn3 hq3 => ?_⟩
        refine ⟨q3, _, rfl, .inl (SqL.of hq3), one1, fun l hl => ?_⟩
        have := is.length fA e
        subst this
        have := k.new (s1.trans s3) hl
        rw [List.length_map]; exact this
      have e2 : c ≠ 2 := fun z => e (decide_eq_true (by rw [z]))
      refine ⟨_, rfl, rfl, _, rfl, ite2 (fun e => ?_) (fun e => ?_)⟩
      · have e : c = 3 := by
          have := of_decide_eq_true e
          injection this
        refine ⟨one1, fun l hl => ?_⟩
        have s2 : Same H1 (upd H1 l (.lst [.int 0])) := Same.new hl
        refine ⟨_, rfl, _, rfl, p, x, M, natsOf a, rfl, hp.same (s1.trans s2), s2.seq hx1, G, wa, lA, fun H3 q3 s3 hn3 hq3 => ?_⟩
        refine ⟨l, q3, _, _, rfl, rfl, s3 _ _ upd_same, hq3, ?_, fun r hr0 => ?_⟩
        · rw [List.length_map]
          have := (leastOf_ok G wa (len_lt wa lA)).2.2
          have := len_le wa
          exact Nat.le_trans (show _ ≤ 129 by simp; omega) (by decide)
        · have := is.least fA e
          subst this
          have := k.new ((s1.trans s2).trans s3) hr0
          rw [vn_vi]; exact this
      have e3 : c ≠ 3 := fun z => e (decide_eq_true (by rw [z]))
      refine ⟨_, rfl, rfl, _, rfl, ite2 (fun e => ?_) (fun e => ?_)⟩
      · have e : c = 4 := by
          have := of_decide_eq_true e
          injection this
        refine ⟨_, rfl, _, rfl, p, x, M, natsOf a, rfl, hp.same s1, hx1, wa, h8, fun H3 s3 => ?_⟩
        refine ⟨one1, fun l hl => ?_⟩
        have := is.ends fA e
        subst this
        exact k.new (s1.trans s3) hl
      have e4 : c ≠ 4 := fun z => e (decide_eq_true (by rw [z]))
      have e6 : c = 6 := by
        rcases hc with z | z | z | z
        · exact absurd z e2
        · exact absurd z e3
        · exact absurd z e4
        · exact z
      refine ⟨_, rfl, _, rfl, p, x, M, natsOf a, rfl, hp.same s1, hx1, G, wa, lA, fun H3 s3 => ?_⟩
      refine ⟨one1, fun l hl => ?_⟩
      have := is.order fA e6
      subst this
      exact k.new (s1.trans s3) hl
end
end Pw
end
section
set_option Elab.async false
set_option maxRecDepth 100000
set_option maxHeartbeats 2000000
namespace Pw
open PySem PySem.Spec PyProof.Rows L2
open Si07 (Mirrors IsWord leastOf longestOf orderOf level mirrorsOf)
open Si07Neutral (natsOf)
open Cox Mir Par
noncomputable abbrev sBegin : Stmt := top 41
theorem only_in {N : Addr → Prop} {H : Hp} {b : Addr} (h : N b) : only N H b = H b := by unfold only; rw [if_pos h]
theorem only_out {N : Addr → Prop} {H : Hp} {b : Addr} (h : ¬ N b) : only N H b = none := by unfold only; rw [if_neg h]
theorem only_some {N : Addr → Prop} {H : Hp} {b : Addr} {o : HO} (e : only N H b = some o) : N b ∧ H b = some o := by
  by_cases q : N b
  · rw [only_in q] at e; exact ⟨q, e⟩
  · rw [only_out q] at e; cases e
theorem only_le {N : Addr → Prop} {H : Hp} : Same (only N H) H := fun _ _ e => (only_some e).2
theorem only_to {N N' : Addr → Prop} {H H' : Hp} (h : ∀ b o, N b → H b = some o → N' b ∧ H' b = some o) : Same (only N H) (only N' H') := fun b o e => by
  obtain ⟨p, q⟩ := only_some e
  obtain ⟨p', q'⟩ := h b o p q
  rw [only_in p']; exact q'
structure GoodM (M : Mirrors) : Prop where
  good : Si07.Good M
  ex : ∃ n m, M = mirrorsOf n m ∧ m.length = n * n
structure SetsAt (K : PySem.W.Frag) (H : Hp) (st : Addr) (s : Si07Neutral.S) (N : Addr → Prop) : Prop where
  ex : ∃ r0 r1, H st = some (.lst [.ref r0, .ref r1]) ∧ (∀ M, s.1 = some M → PullsAt K (only N H) r0 M ∧ GoodM M) ∧ ∀ M, s.2 = some M → PullsAt K (only N H) r1 M ∧ GoodM M
  out : ¬ N st
theorem SetsAt.to {K : PySem.W.Frag} {H H' : Hp} {st : Addr} {s : Si07Neutral.S} {N N' : Addr → Prop} (h : SetsAt K H st s N) (e : ∀ b o, N b → H b = some o → N' b ∧ H' b = some o) (es : ∀ o, H st = some o → H' st = some o) (no : ¬ N' st) : SetsAt K H' st s N' := by
  obtain ⟨r0, r1, a, b, c⟩ := h.ex
  have hs : Same (only N H) (only N' H') := only_to e
  exact ⟨⟨r0, r1, es _ a, fun M q => ⟨(b M q).1.same hs, (b M q).2⟩, fun M q => ⟨(c M q).1.same hs, (c M q).2⟩⟩, no⟩
theorem SetsAt.same {K : PySem.W.Frag} {H H' : Hp} {st : Addr} {s : Si07Neutral.S} {N : Addr → Prop} (h : SetsAt K H st s N) (e : Same H H') : SetsAt K H' st s N := h.to (fun b o n q => ⟨n, e b o q⟩) (fun o q => e _ o q) h.out
theorem PullsAt.but {K : PySem.W.Frag} {H H' : Hp} {p r : Addr} {M : Mirrors} {C dx : Addr} {fs : List (Str × V)} (h : PullsAt K H p M) (hb : But r H H') (hr : H r = some (.ins C dx fs)) : PullsAt K H' p M := by
  obtain ⟨rows, a, b, c⟩ := h.ex
  exact ⟨rows, hb.seq hr a, b, fun i q e => hb.seq hr (c i q e)⟩
theorem SetsAt.but {K : PySem.W.Frag} {H H' : Hp} {st r C dx : Addr} {fs : List (Str × V)} {s : Si07Neutral.S} {N : Addr → Prop} (h : SetsAt K H st s N) (e : But r H H') (hr : H r = some (.ins C dx fs)) : SetsAt K H' st s N := by
  obtain ⟨r0, r1, a, b, c⟩ := h.ex
  have ne : st ≠ r := ne_of a hr (by intro z; cases z)
  have go : ∀ {p : Addr} {M : Mirrors}, PullsAt K (only N H) p M → PullsAt K (only N H') p M := fun {p M} hp => by
    by_cases n : N r
    · refine hp.but (r := r) (fun x o q nq => ?_) (by rw [only_in n]; exact hr)
      obtain ⟨n1, q1⟩ := only_some q
      rw [only_in n1]; exact e x o q1 nq
    · refine hp.same fun x o q => ?_
      obtain ⟨n1, q1⟩ := only_some q
      rw [only_in n1]; exact e x o q1 (fun z => n (z ▸ n1))
  exact ⟨⟨r0, r1, e _ _ a ne, fun M q => ⟨go (b M q).1, (b M q).2⟩, fun M q => ⟨go (c M q).1, (c M q).2⟩⟩, h.out⟩
noncomputable def spBegin (K : PySem.W.Frag) : Sp := fun vs H Q _ => ∃ (st x : Addr) (o n : Int) (m : List Int) (s : Si07Neutral.S) (N : Addr → Prop), vs = [.ref st, .int o, .int n, .ref x] ∧ SetsAt K H st s N ∧ SqL K H x (vi m) ∧ Known (.begins o n m) ∧
  ∀ (H' : Hp) (q : Addr), But st H H' → H q = none → H' q = some (.lst (vi (Si07Neutral.step s (PySi07.whole (Cl.begins o n m).raw)).2)) → q ≠ st → SetsAt K H' st (Si07Neutral.step s (PySi07.whole (Cl.begins o n m).raw)).1 (fun b => N b ∨ H b = none) → Q (.ref q) H'
section
variable {P : Program} {w : World} {K : PySem.W.Frag} {mg : Str → Option Value} {base : Heap}
theorem scCount : FnScope ["pulls", "k"] ["pulls", "k"] (defScope sCount) := ⟨rfl, rfl, rfl, by decide +kernel, rfl, by decide +kernel, by decide +kernel⟩
theorem ok_count {f fM fV fF fL fO fN : Addr} {fd fdM fdV fdF fdL fdO fdN : FuncData} (F : Fun K "answer_count" "answer_count" sCount f fd) (T : Txt K mg) (D : HD K mg fM fdM fV fdV fF fdF)
    (DL : Df K mg "lowest_crossed" sLow ["heights"] fL fdL) (DO : Df K mg "one_longer" sLonger ["pulls", "level"] fO fdO) (DN : Df K mg "how_many_of_length" sMany ["pulls", "k"] fN fdN) : FnOk P w K mg base CX0 4 f fd ["pulls", "k"] (spCount K) := by
  have GN : FnOk P w K mg base CX0 3 fN fdN ["pulls", "k"] (spMany K) := ok_many DN.F T D DL DO
  obtain ⟨tR, hR⟩ := T.refd
  obtain ⟨tL, hL⟩ := T.mostL
  refine F.ok scCount (fun vs H Q E h => ?_) (fun cdv A outer s H vs Q E hr h => ?_)
  · obtain ⟨p, k, M, rfl, _⟩ := h
    rfl
  · obtain ⟨p, n, M, rfl, hp, G, n0, few, k1, k2⟩ := h
    refine ⟨_, pss_cons (ps_if (pt_cmpR op_gt (pv 1) (pe_glob (v := .int 128) rfl hL ⟨_, rfl⟩) (nomark _)) (pss_one (ps_ret (pe_lst (pa_cons (pe_glob (v := .int (-2)) rfl hR ⟨_, rfl⟩) pa_nil)))) pss_nil)
      (pss_one (ps_ret (pe_lst (pa_cons pe_int (pa_cons (pe_call GN hr rfl DN.m DN.F.kp DN.b .nil pass0 (pa_cons (pv 0) (pa_cons (pv 1) pa_nil))) pa_nil))))), ?_⟩
    refine ⟨_, rfl, _, _, rfl, rfl, _, rfl, ite2 (fun c => ?_) (fun c => ?_)⟩
    · have c := of_decide_eq_true c
      exact ⟨by decide, fun l hl => (k1 (by omega)).new (fun _ _ e => e) hl⟩
    · have c : n ≤ 128 := by have : ¬ 128 < n := fun q => c (decide_eq_true q)
                             omega
      obtain ⟨N, rfl⟩ : ∃ N : Nat, n = (N : Nat) := ⟨n.toNat, by omega⟩
      refine ⟨_, rfl, _, rfl, p, M, N, rfl, hp, G, by omega, few c, fun H1 s1 => ?_⟩
      exact ⟨by show 2 ≤ sizeLine; decide, fun l hl => (k2 c).new s1 hl⟩
theorem scALongest : FnScope ["pulls", "word"] ["pulls"] (defScope sALongest) := ⟨rfl, rfl, rfl, by decide +kernel, rfl, by decide +kernel, by decide +kernel⟩
theorem ok_alongest {f fM fV fF fP fG : Addr} {fd fdM fdV fdF fdP fdG : FuncData} (F : Fun K "answer_longest" "answer_longest" sALongest f fd) (T : Txt K mg) (D : HD K mg fM fdM fV fdV fF fdF)
    (DP : Df K mg "lowest_not_crossed" sLowP ["heights"] fP fdP) (DG : Df K mg "longest_word" sLongest ["pulls"] fG fdG) : FnOk P w K mg base CX0 3 f fd ["pulls"] (spALongest K) := by
  have GG : FnOk P w K mg base CX0 2 fG fdG ["pulls"] (spLongest K) := ok_longest DG.F T D DP
  obtain ⟨tN, hN⟩ := T.noL
  refine F.ok scALongest (fun vs H Q E h => ?_) (fun cdv A outer s H vs Q E hr h => ?_)
  · obtain ⟨p, M, rfl, _⟩ := h
    rfl
  · obtain ⟨p, M, rfl, hp, G, cs, k1, k2⟩ := h
    refine ⟨_, pss_cons (ps_set (i := 1) scALongest.nd rfl (Or.inl rfl) (pe_call GG hr rfl DG.m DG.F.kp DG.b .nil pass0 (pa_cons (pv 0) pa_nil)))
      (pss_cons (ps_if (pt_cmp (pc_isN (pv 1))) (pss_one (ps_ret (pe_lst (pa_cons (pe_glob (v := .int (-1)) rfl hN ⟨_, rfl⟩) pa_nil)))) pss_nil)
      (pss_one (ps_ret (pe_op op_cat (pe_lst (pa_cons pe_int pa_nil)) (pv 1))))), ?_⟩
    refine ⟨_, rfl, p, M, rfl, hp, G, cs, fun H1 q1 w1 e1 l1 s1 hn1 hq1 => ?_, fun H1 e1 s1 => ?_⟩
    · refine ⟨_, rfl, _, rfl, ?_⟩
      refine iteF ⟨by decide, fun l hl => ?_⟩
      have s2 : Same H1 (upd H1 l (.lst [.int 0])) := Same.new hl
      refine ⟨_, rfl, l, q1, _, _, rfl, rfl, upd_same, s2 _ _ hq1, ?_, fun r hr0 => ?_⟩
      · rw [List.length_map]
        exact Nat.le_trans (show _ ≤ 301 by simp; omega) (by decide)
      · have := (k1 w1 e1).new (s1.trans s2) hr0
        rw [vn_vi]; exact this
    · refine ⟨_, rfl, _, rfl, ?_⟩
      exact iteT ⟨by decide, fun l hl => (k2 e1).new s1 hl⟩
theorem scBetween : FnScope ["pulls", "k", "word", "shortest"] ["pulls", "k", "word"] (defScope sBetween) := ⟨rfl, rfl, rfl, by decide +kernel, rfl, by decide +kernel, by decide +kernel⟩
theorem ok_between {f fM fV fF fH fL fW fA fB : Addr} {fd fdM fdV fdF fdH fdL fdW fdA fdB : FuncData} (F : Fun K "answer_between" "answer_between" sBetween f fd) (T : Txt K mg) (D : HD K mg fM fdM fV fdV fF fdF)
    (DH : Df K mg "heights_behind" sHeights ["pulls", "letters"] fH fdH) (DL : Df K mg "lowest_crossed" sLow ["heights"] fL fdL) (DW : Df K mg "is_word" sIsWord ["pulls", "word"] fW fdW)
    (DA : Df K mg "least_word" sLeast ["pulls", "word"] fA fdA) (DB : Df K mg "lengths_below" sLengths ["pulls", "shortest"] fB fdB) : FnOk P w K mg base CX0 5 f fd ["pulls", "k", "word"] (spBetween K) := by
  have GW : FnOk P w K mg base CX0 1 fW fdW ["pulls", "word"] (spIsWord K) := ok_isWord DW.F T
  have GA : FnOk P w K mg base CX0 4 fA fdA ["pulls", "word"] (spLeast K) := ok_least DA.F T D DH DL
  have GB : FnOk P w K mg base CX0 2 fB fdB ["pulls", "shortest"] (spLengths K) := ok_lengths DB.F T D
  obtain ⟨tR, hR⟩ := T.refd
  obtain ⟨tL, hL⟩ := T.mostL
  obtain ⟨tB, hB⟩ := T.longB
  refine F.ok scBetween (fun vs H Q E h => ?_) (fun cdv A outer s H vs Q E hr h => ?_)
  · obtain ⟨p, x, k, M, a, rfl, _⟩ := h
    rfl
  · obtain ⟨p, x, n, M, a, rfl, hp, hx, G, sa, n0, sml, k1, k2⟩ := h
    have hr1 : Room 1 _ := hr.mono (by decide)
    have hr2 : Room 2 _ := hr.mono (by decide)
    refine ⟨_, pss_cons (ps_if (PW.pt (pw_or (pt_cmpR op_gt (pv 1) (pe_glob (v := .int 128) rfl hL ⟨_, rfl⟩) (nomark _)) (pw_or1 (pt_not (pt_val (pe_call GW hr1 rfl DW.m DW.F.kp DW.b .nil pass0 (pa_cons (pv 0) (pa_cons (pv 2) pa_nil))))))))
        (pss_one (ps_ret (pe_lst (pa_cons (pe_glob (v := .int (-2)) rfl hR ⟨_, rfl⟩) pa_nil)))) pss_nil)
      (pss_cons (ps_set (i := 3) scBetween.nd rfl (Or.inl rfl) (pe_call GA hr rfl DA.m DA.F.kp DA.b .nil pass0 (pa_cons (pv 0) (pa_cons (pv 2) pa_nil))))
      (pss_cons (ps_if (pt_cmpR op_gt (pe_callB call_len_seq rfl T.len PySem.boot_len (pa_cons (pv 3) pa_nil)) (pe_glob (v := .int 24) rfl hB ⟨_, rfl⟩) (nomark _)) (pss_one (ps_ret (pe_lst (pa_cons (pe_glob (v := .int (-2)) rfl hR ⟨_, rfl⟩) pa_nil)))) pss_nil)
      (pss_one (ps_ret (pe_lst (pa_cons pe_int (pa_cons (pe_bm PySem.F.plainAttrs_list PySem.F.slot_list_count PySem.F.type_list_count mt_count1 (pe_call GB hr2 rfl DB.m DB.F.kp DB.b .nil pass0 (pa_cons (pv 0) (pa_cons (pv 3) pa_nil))) (pa_cons (pv 1) pa_nil)) pa_nil))))))), ?_⟩
    refine ⟨_, rfl, _, _, rfl, rfl, _, rfl, ite2 (fun c => ?_) (fun c => ?_)⟩
    · have c := of_decide_eq_true c
      exact iteT ⟨by decide, fun l hl => (k1 (fun z => by have := z.2.1; omega)).new (fun _ _ e => e) hl⟩
    have c : n ≤ 128 := by have : ¬ 128 < n := fun q => c (decide_eq_true q)
                           omega
    refine ⟨_, rfl, _, rfl, p, x, M, a, rfl, hp, hx, sa.1, fun H1 s1 => ?_⟩
    refine ⟨_, rfl, ?_⟩
    cases fa : (a.all fun x => decide (x < (M.n : Int))) with
    | false =>
      have nf : ¬ Fit M a := fun z => by rw [fit_iff.2 z] at fa; cases fa
      exact iteT ⟨by decide, fun l hl => (k1 (fun z => nf z.1)).new s1 hl⟩
    | true =>
      have fA : Fit M a := fit_iff.1 fa
      have wa := isWord_nats sa fA
      have hx1 := s1.seq hx
      rw [vi_nats sa] at hx1
      have lA := nats_length sa
      refine iteF ?_
      refine ⟨_, rfl, _, rfl, p, x, M, natsOf a, rfl, hp.same s1, hx1, G, wa, lA, fun H3 q3 s3 hn3 hq3 => ?_⟩
      have s13 := s1.trans s3
      refine ⟨_, rfl, q3, _, rfl, .inl (SqL.of hq3), _, _, rfl, rfl, _, rfl, ite2 (fun d => ?_) (fun d => ?_)⟩
      · have d := of_decide_eq_true d
        rw [List.length_map] at d
        exact ⟨by decide, fun l hl => (k1 (fun z => by have := z.2.2; omega)).new s13 hl⟩
      have d : (leastOf M (natsOf a)).length ≤ 24 := by
        have : ¬ (24 : Int) < (((vn (leastOf M (natsOf a))).length : Nat) : Int) := fun q => d (decide_eq_true q)
        rw [List.length_map] at this
        omega
      have l8 : (leastOf M (natsOf a)).length ≤ 8 := by
        rcases sml fA with z | z
        · exact z
        · omega
      have lt300 := len_lt wa lA
      obtain ⟨lw, le, ll⟩ := leastOf_ok G wa lt300
      have rl : Red M (leastOf M (natsOf a)) := (red_len lw).2 (by rw [len_eqv lw wa le]; exact ll.symm)
      refine ⟨_, rfl, _, rfl, p, q3, M, leastOf M (natsOf a), rfl, hp.same s13, SqL.of hq3, G, lw, l8, fun H4 q4 ws s4 hn4 on has hq4 => ?_⟩
      have s14 := s13.trans s4
      refine ⟨.inl ⟨rfl, _, SqL.of hq4⟩, _, rfl, q4, _, n, rfl, rfl, SqL.of hq4, ?_⟩
      refine ⟨by show 2 ≤ sizeLine; decide, fun l hl => ?_⟩
      have := (k2 fA c d).new s14 hl
      rw [on.card G wa lt300 (fun b wb => by rw [has b wb]; exact (bel_any G lw rl le).symm) n.toNat] at this
      have cnt : (ws.map fun b => ((len M b : Nat) : Int)).count n = (ws.filter fun b => len M b == n.toNat).length := by
        rw [List.count_eq_countP, List.countP_map, List.countP_eq_length_filter]
        congr 1
        refine List.filter_congr fun b _ => ?_
        show (((len M b : Nat) : Int) == n) = (len M b == n.toNat)
        (rw [Bool.eq_iff_iff, beq_iff_eq, beq_iff_eq]; omega)
      rw [cnt]
      exact this
theorem scBegin : FnScope ["sets", "o", "n", "m"] ["sets", "o", "n", "m"] (defScope sBegin) := ⟨rfl, rfl, rfl, by decide +kernel, rfl, by decide +kernel, by decide +kernel⟩
theorem ok_begin {f fT fQ fP : Addr} {fd fdT fdQ fdP : FuncData} (F : Fun K "answer_begin" "answer_begin" sBegin f fd) (T : Txt K mg) (DT : Df K mg "is_table" sIsTable ["n", "m"] fT fdT) (DQ : Df K mg "pulls_of_table" sPullsOf ["n", "m"] fQ fdQ)
    (DP : Df K mg "pull" sPull ["n", "m", "i", "j"] fP fdP) : FnOk P w K mg base CX0 3 f fd ["sets", "o", "n", "m"] (spBegin K) := by
  have GT : FnOk P w K mg base CX0 1 fT fdT ["n", "m"] (spIsTable K) := ok_isTable DT.F T
  have GQ : FnOk P w K mg base CX0 2 fQ fdQ ["n", "m"] (spPullsOf K) := ok_pullsOf DQ.F T DP
  obtain ⟨tR, hR⟩ := T.refd
  refine F.ok scBegin (fun vs H Q E h => ?_) (fun cdv A outer s H vs Q E hr h => ?_)
  · obtain ⟨st, x, o, n, m, s0, N0, rfl, _⟩ := h
    rfl
  · obtain ⟨st, x, o, n, m, s0, N0, rfl, hs, hx, ⟨ho, pos, ⟨lo, hi⟩, cs⟩, k⟩ := h
    have hr1 : Room 1 _ := hr.mono (by decide)
    obtain ⟨r0, r1, hst, hs0, hs1⟩ := hs.ex
    have nN : ¬ (N0 st ∨ H st = none) := fun z => z.elim hs.out (fun z => by rw [hst] at z; cases z)
    refine ⟨_, pss_cons (ps_if (pt_not (pt_val (pe_call GT hr1 rfl DT.m DT.F.kp DT.b .nil pass0 (pa_cons (pv 2) (pa_cons (pv 3) pa_nil))))) (pss_one (ps_ret (pe_lst (pa_cons (pe_glob (v := .int (-2)) rfl hR ⟨_, rfl⟩) pa_nil)))) pss_nil)
      (pss_cons (ps_asg (pe_call GQ hr rfl DQ.m DQ.F.kp DQ.b .nil pass0 (pa_cons (pv 2) (pa_cons (pv 3) pa_nil))) (pg_sub (pv 0) (pv 1) set_list))
      (pss_one (ps_ret (pe_lst (pa_cons pe_int pa_nil))))), ?_⟩
    refine ⟨_, rfl, _, rfl, x, n, m, rfl, hx, pos, cs, lo, hi, fun b hb => ?_⟩
    refine ⟨_, rfl, ?_⟩
    rw [due_begins] at k
    cases b with
    | false =>
      have no : ¬ (1 ≤ n ∧ n ≤ 8 ∧ Tab n.toNat m) := fun z => by have := hb.2 z; cases this
      have no' : ¬ (1 ≤ n ∧ n ≤ 8 ∧ Si07.isGood (mirrorsOf n.toNat (natsOf m)) = true) := fun z => by
        rcases cs with ⟨c1, c2, c3⟩ | ⟨c, _⟩
        · refine no ⟨c1, c2, (good_tab (by omega) (by omega) ?_ pos).1 z.2.2⟩
          have : ((n.toNat * n.toNat : Nat) : Int) = n * n := by
            push_cast
            rw [Int.toNat_of_nonneg (by omega)]
          omega
        · exact c ⟨z.1, z.2.1⟩
      rw [if_neg no'] at k
      refine iteT ⟨by decide, fun l hl => ?_⟩
      have s1 : Same H (upd H l (.lst [.int (-2)])) := Same.new hl
      exact k _ l (fun b o e _ => s1 b o e) hl upd_same (fun z => by rw [z, hst] at hl; cases hl) (hs.to (fun b o n q => ⟨.inl n, s1 b o q⟩) (fun o q => s1 _ o q) nN)
    | true =>
      obtain ⟨n1, n8, tab⟩ := hb.1 rfl
      obtain ⟨N, rfl⟩ : ∃ N : Nat, n = (N : Nat) := ⟨n.toNat, by omega⟩
      have lm : m.length = N * N := by
        rcases cs with ⟨_, _, e⟩ | ⟨e, _⟩
        · have : ((N * N : Nat) : Int) = (N : Int) * (N : Int) := by push_cast; rfl
          omega
        · exact absurd ⟨n1, n8⟩ e
      have gd : Si07.isGood (mirrorsOf N (natsOf m)) = true := (good_tab (by omega) (by omega) lm pos).2 tab
      have G : Si07.Good (mirrorsOf N (natsOf m)) := (isGood_iff (by omega) (by omega)).1 gd
      rw [if_pos ⟨n1, n8, gd⟩] at k
      refine iteF ?_
      refine ⟨_, rfl, _, rfl, x, N, m, rfl, ⟨hx, lm, pos, by omega⟩, G, fun H1 q1 s1 hn1 hq1 => ?_⟩
      have hst1 := s1 _ _ hst
      have nq : q1 ≠ st := fun z => by rw [z, hst] at hn1; cases hn1
      have gm : GoodM (mirrorsOf N (natsOf m)) := ⟨G, N, natsOf m, rfl, by unfold natsOf; rw [List.length_map]; exact lm⟩
      have up1 : ∀ o1, Same (only N0 H) (only (fun b => N0 b ∨ H b = none) (upd H1 st o1)) := fun o1 => only_to fun b o n q => ⟨.inl n, by rw [upd_ne (show b ≠ st from fun z => by subst z; exact hs.out n)]; exact s1 b o q⟩
      have up2 : ∀ o1, Same (only (fun b => H b = none) H1) (only (fun b => N0 b ∨ H b = none) (upd H1 st o1)) := fun o1 => only_to fun b o n q => ⟨.inr n, by rw [upd_ne (show b ≠ st from fun z => by rw [z, hst] at n; cases n)]; exact q⟩
      have fin : ∀ (xs : List V) (H2 : Hp), H2 = upd H1 st (.lst xs) → SetsAt K H2 st (Si07Neutral.put s0 o (some (mirrorsOf N (natsOf m)))) (fun b => N0 b ∨ H b = none) → ∀ l, H2 l = none → Q (.ref l) (upd H2 l (.lst [.int 0])) := by
        rintro xs H2 rfl hs2 l hl
        have s2 : Same (upd H1 st (.lst xs)) (upd (upd H1 st (.lst xs)) l (.lst [.int 0])) := Same.new hl
        have nl : l ≠ st := fun z => by rw [z, upd_same] at hl; cases hl
        refine k _ l (fun b o e ne => ?_) ?_ upd_same nl (hs2.same s2)
        · refine s2 b o ?_
          rw [upd_ne ne]; exact s1 b o e
        · rw [upd_ne nl] at hl
          exact s1.free hl
      rcases ho with rfl | rfl
      · refine ⟨_, rfl, _, rfl, st, _, 0, 0, rfl, rfl, hst1, rfl, by decide, fun l hl => ?_⟩
        refine fin _ _ rfl ⟨⟨q1, r1, upd_same, fun M e => ?_, fun M e => ?_⟩, nN⟩ l hl
        · obtain rfl := Option.some.inj e
          exact ⟨hq1.same (up2 _), gm⟩
        · obtain ⟨a, b⟩ := hs1 M e
          exact ⟨a.same (up1 _), b⟩
      · refine ⟨_, rfl, _, rfl, st, _, 1, 1, rfl, rfl, hst1, rfl, by decide, fun l hl => ?_⟩
        refine fin _ _ rfl ⟨⟨r0, q1, upd_same, fun M e => ?_, fun M e => ?_⟩, nN⟩ l hl
        · obtain ⟨a, b⟩ := hs0 M e
          exact ⟨a.same (up1 _), b⟩
        · obtain rfl := Option.some.inj e
          exact ⟨hq1.same (up2 _), gm⟩
end
end Pw
end
section
set_option Elab.async false
set_option maxRecDepth 100000
set_option maxHeartbeats 4100000
namespace Pw
open PySem PySem.Spec PyProof.Rows L2
open Si07 (Mirrors IsWord leastOf longestOf orderOf level mirrorsOf)
open Si07Neutral (natsOf)
open Cox Mir Par
noncomputable abbrev sCall : Stmt := top 47
noncomputable abbrev sAnswers : Stmt := top 48
set_option genInjectivity false in
set_option genSizeOfSpec false in
structure DD (K : PySem.W.Frag) (mg : Str → Option Value) : Type where
  (aT aQ aP aW aM aV aF aH aL aA aE aB aI aX aO aJ aN aR aG aZ ab a2 a1 ac al aw : Addr)
  (kT kQ kP kW kM kV kF kH kL kA kE kB kI kX kO kJ kN kR kG kZ kb k2 k1 kc kl kw : FuncData)
  dT : Df K mg "is_table" sIsTable ["n", "m"] aT kT
  dQ : Df K mg "pulls_of_table" sPullsOf ["n", "m"] aQ kQ
  dP : Df K mg "pull" sPull ["n", "m", "i", "j"] aP kP
  dW : Df K mg "is_word" sIsWord ["pulls", "word"] aW kW
  dM : Df K mg "mirrored" sMirrored ["pulls", "heights", "mirror"] aM kM
  dV : Df K mg "moved" sMoved ["pulls", "heights", "letters"] aV kV
  dF : Df K mg "first_heights" sFirst ["pulls"] aF kF
  dH : Df K mg "heights_behind" sHeights ["pulls", "letters"] aH kH
  dL : Df K mg "lowest_crossed" sLow ["heights"] aL kL
  dA : Df K mg "least_word" sLeast ["pulls", "word"] aA kA
  dE : Df K mg "last_mirrors" sLast ["pulls", "word"] aE kE
  dB : Df K mg "lies_below" sBelow ["pulls", "a", "b"] aB kB
  dI : Df K mg "images_of" sImages ["pulls", "word"] aI kI
  dX : Df K mg "moved_by_images" sMvi ["images", "heights"] aX kX
  dO : Df K mg "order_of" sOrder ["pulls", "word"] aO kO
  dJ : Df K mg "one_longer" sLonger ["pulls", "level"] aJ kJ
  dN : Df K mg "how_many_of_length" sMany ["pulls", "k"] aN kN
  dR : Df K mg "lowest_not_crossed" sLowP ["heights"] aR kR
  dG : Df K mg "longest_word" sLongest ["pulls"] aG kG
  dZ : Df K mg "lengths_below" sLengths ["pulls", "shortest"] aZ kZ
  db : Df K mg "answer_begin" sBegin ["sets", "o", "n", "m"] ab kb
  d2 : Df K mg "answer_two_words" sTwo ["call", "pulls", "a", "b"] a2 k2
  d1 : Df K mg "answer_one_word" sOne ["call", "pulls", "word"] a1 k1
  dc : Df K mg "answer_count" sCount ["pulls", "k"] ac kc
  dl : Df K mg "answer_longest" sALongest ["pulls"] al kl
  dw : Df K mg "answer_between" sBetween ["pulls", "k", "word"] aw kw
set_option genInjectivity false in
set_option genSizeOfSpec false in
structure RDD (K : PySem.W.Frag) (mg : Str → Option Value) : Type where
  (C fI fE fN fR : Addr)
  (kI kE kN kR : FuncData)
  T : RTxt K mg C
  FI : Fun K "__init__" "Reader.__init__" sRInit fI kI
  bI : Binds K kI ["self", "numbers"] []
  mI : Mk K C fI
  FE : Fun K "at_end" "Reader.at_end" sRAtEnd fE kE
  bE : Binds K kE ["self"] []
  mE : Meth K C "at_end" fE
  FN : Fun K "take_number" "Reader.take_number" sRNum fN kN
  bN : Binds K kN ["self"] []
  mN : Meth K C "take_number" fN
  FR : Fun K "take_row" "Reader.take_row" sRRow fR kR
  bR : Binds K kR ["self"] []
  mR : Meth K C "take_row" fR
theorem But.trans {r : Addr} {H H1 H2 : Hp} (a : But r H H1) (b : But r H1 H2) : But r H H2 := fun x o e ne => b x o (a x o e ne) ne
theorem drop_cons {l : List Int} {k : Nat} {x : Int} {r : List Int} (h : l.drop k = x :: r) : l[k]? = some x ∧ l.drop (k + 1) = r ∧ k < l.length := by
  have hx : l[k]? = some x := by
    have := congrArg (fun z => z[0]?) h
    simpa [List.getElem?_drop] using this
  refine ⟨hx, ?_, (List.getElem?_eq_some_iff.1 hx).1⟩
  have := congrArg (fun z => z.drop 1) h
  simpa [List.drop_drop] using this
theorem drop_row {l m t : List Int} {k : Nat} (h : l.drop k = (m.length : Int) :: (m ++ t)) : l.drop (k + 1 + m.length) = t := by
  obtain ⟨_, h2, _⟩ := drop_cons h
  have := congrArg (fun z => z.drop m.length) h2
  simpa [List.drop_drop] using this
theorem RdAt.same {K : PySem.W.Frag} {C : Addr} {H H' : Hp} {r a : Addr} {l : List Int} {k : Nat} (h : RdAt K C H r a l k) (e : Same H H') : RdAt K C H' r a l k := by
  obtain ⟨⟨dx, h1⟩, h2, h3⟩ := h
  exact ⟨⟨dx, e _ _ h1⟩, e.seq h2, h3⟩
theorem SetsAt.get {K : PySem.W.Frag} {H : Hp} {st : Addr} {s : Si07Neutral.S} {N : Addr → Prop} {o : Int} {M : Mirrors} (h : SetsAt K H st s N) (ho : o = 0 ∨ o = 1) (a : At s o M) : ∃ (r : Addr) (xs : List V), H st = some (.lst xs) ∧ atI xs o = some (.ref r) ∧ PullsAt K H r M ∧ GoodM M := by
  obtain ⟨r0, r1, e, b, c⟩ := h.ex
  rcases ho with rfl | rfl
  · obtain ⟨p, g⟩ := b M a
    exact ⟨r0, _, e, rfl, p.same only_le, g⟩
  · obtain ⟨p, g⟩ := c M a
    exact ⟨r1, _, e, rfl, p.same only_le, g⟩
theorem iteEq {x : Int} {A B : Prop} (h : A) : if decide (V.int x = V.int x) = true then A else B := by rw [if_pos (decide_eq_true rfl)]; exact h
theorem iteNe {x y : Int} {A B : Prop} (ne : x ≠ y) (h : B) : if decide (V.int x = V.int y) = true then A else B := by
  rw [if_neg (fun z => ne (by have := of_decide_eq_true z; injection this))]; exact h
theorem iteB {b : Bool} {A B : Prop} (hb : b = true) (h : A) : if b = true then A else B := by rw [if_pos hb]; exact h
theorem iteNB {b : Bool} {A B : Prop} (hb : b = false) (h : B) : if b = true then A else B := by rw [if_neg (by rw [hb]; exact Bool.false_ne_true)]; exact h
noncomputable def Cl.num : Cl → Int
  | .begins _ _ _ => 0
  | .two p _ _ _ => p
  | .one p _ _ => p
  | .count _ _ => 7
  | .longest _ => 8
  | .between _ _ _ => 9
noncomputable def Cl.obj : Cl → Int
  | .begins o _ _ => o
  | .two _ o _ _ => o
  | .one _ o _ => o
  | .count o _ => o
  | .longest o => o
  | .between o _ _ => o
noncomputable def Cl.rest : Cl → List Int → List Int
  | .begins _ n m, t => n :: (m.length : Int) :: (m ++ t)
  | .two _ _ a b, t => (a.length : Int) :: (a ++ ((b.length : Int) :: (b ++ t)))
  | .one _ _ a, t => (a.length : Int) :: (a ++ t)
  | .count _ k, t => k :: t
  | .longest _, t => t
  | .between _ k a, t => k :: (a.length : Int) :: (a ++ t)
theorem flat_rest (c : Cl) (t : List Int) : c.flat t = Cl.num c :: Cl.obj c :: Cl.rest c t := by cases c <;> rfl
theorem But.seqSt {K : PySem.W.Frag} {H H' : Hp} {st r0 r1 a : Addr} {l : List Int} (h : But st H H') (hs : H st = some (.lst [.ref r0, .ref r1])) (e : SqL K H a (vi l)) : SqL K H' a (vi l) := by
  rcases e with (e | ⟨o, e⟩) | e
  · refine .inl (.inl (h _ _ e fun z => ?_))
    rw [z, hs] at e
    injection e with e; injection e with e
    cases l with
    | nil => simp [vi] at e
    | cons x xs => simp [vi] at e
  · refine .inl (.inr ⟨o, h _ _ e fun z => ?_⟩)
    rw [z, hs] at e; cases e
  · exact .inr e
open Classical in
theorem two_is {M : Mirrors} (G : Si07.Good M) {s : Si07Neutral.S} {o : Int} (h : At s o M) {a b : List Int} (sa : Short a) (sb : Short b) {p : Int} (hp : p = 1 ∨ p = 5) :
    ∃ L, Si07Neutral.step s (PySi07.whole (Cl.two p o a b).raw) = (s, L) ∧ TwoIs M p a b L ∧ L.length ≤ 302 := by
  rcases hp with rfl | rfl
  · refine ⟨_, due_same G h sa sb, ⟨fun z => ?_, fun fa fb _ => ⟨fun e => ?_, fun e => ?_⟩, fun _ _ z => absurd z (by decide)⟩, by simp⟩
    · rw [if_neg z]
    · rw [if_pos ⟨fa, fb⟩, if_pos e]
    · rw [if_pos ⟨fa, fb⟩, if_neg e]
  · refine ⟨_, due_below G h sa sb, ⟨fun z => ?_, fun _ _ z => absurd z (by decide), fun fa fb _ => ⟨fun e => ?_, fun e => ?_⟩⟩, by simp⟩
    · rw [if_neg z]
    · rw [if_pos ⟨fa, fb⟩, if_pos e]
    · rw [if_pos ⟨fa, fb⟩, if_neg e]
open Classical in
theorem one_is {M : Mirrors} (G : Si07.Good M) {s : Si07Neutral.S} {o : Int} (h : At s o M) {a : List Int} (sa : Short a) {p : Int} (hp : p = 2 ∨ p = 3 ∨ p = 4 ∨ p = 6) :
    ∃ L, Si07Neutral.step s (PySi07.whole (Cl.one p o a).raw) = (s, L) ∧ OneIs M p a L ∧ L.length ≤ 302 := by
  rcases hp with rfl | rfl | rfl | rfl
  · refine ⟨_, due_length h sa, ⟨fun z => ?_, fun fa _ => ?_, fun _ z => absurd z (by decide), fun _ z => absurd z (by decide), fun _ z => absurd z (by decide)⟩, by simp⟩
    · rw [if_neg z]
    · rw [if_pos fa]
  · refine ⟨_, due_least h sa, ⟨fun z => ?_, fun _ z => absurd z (by decide), fun fa _ => ?_, fun _ z => absurd z (by decide), fun _ z => absurd z (by decide)⟩, ?_⟩
    · rw [if_neg z]
    · rw [if_pos fa]
    · by_cases fa : Fit M a
      · rw [if_pos fa, List.length_cons, List.length_map]
        have wa := isWord_nats sa fa
        have := (leastOf_ok G wa (len_lt wa (nats_length sa))).2.2
        have := len_le wa
        have := nats_length sa
        omega
      · rw [if_neg fa]; simp
  · refine ⟨_, due_ends G h sa, ⟨fun z => ?_, fun _ z => absurd z (by decide), fun _ z => absurd z (by decide), fun fa _ => ?_, fun _ z => absurd z (by decide)⟩, by simp⟩
    · rw [if_neg z]
    · rw [if_pos fa]
  · refine ⟨_, due_order h sa, ⟨fun z => ?_, fun _ z => absurd z (by decide), fun _ z => absurd z (by decide), fun _ z => absurd z (by decide), fun fa _ => ?_⟩, by simp⟩
    · rw [if_neg z]
    · rw [if_pos fa]
noncomputable def spCall (K : PySem.W.Frag) (C : Addr) : Sp := fun vs H Q _ => ∃ (rd st a : Addr) (l t : List Int) (k : Nat) (c : Cl) (s : Si07Neutral.S) (N : Addr → Prop), vs = [.ref rd, .ref st] ∧ RdAt K C H rd a l k ∧ l.length ≤ 30000 ∧ l.drop k = c.flat t ∧ c.ok ∧ Known c ∧ SetsAt K H st s N ∧
  (Si07Neutral.place (PySi07.whole c.raw) = 0 ∨ ((Si07Neutral.get s (Si07Neutral.object (PySi07.whole c.raw))).isSome = true ∧ ∃ q, Si07Neutral.callOf (PySi07.whole c.raw) = some q ∧ Si07.small (Si07Neutral.get s (Si07Neutral.object (PySi07.whole c.raw))) q = true)) ∧
  ∀ (H' : Hp) (q : Addr) (k' : Nat), RdAt K C H' rd a l k' → l.drop k' = t → k < k' → (∀ b o, H b = some o → b ≠ rd → b ≠ st → H' b = some o) → H q = none → H' q = some (.lst (vi (Si07Neutral.step s (PySi07.whole c.raw)).2)) → (Si07Neutral.step s (PySi07.whole c.raw)).2.length ≤ 302 →
    SetsAt K H' st (Si07Neutral.step s (PySi07.whole c.raw)).1 (fun b => N b ∨ H b = none) → Q (.ref q) H'
section
variable {P : Program} {w : World} {K : PySem.W.Frag} {mg : Str → Option Value} {base : Heap}
theorem scCall : FnScope ["reader", "sets", "call", "o", "n", "a", "k"] ["reader", "sets"] (defScope sCall) := ⟨rfl, rfl, rfl, by decide +kernel, rfl, by decide +kernel, by decide +kernel⟩
theorem ok_call {f : Addr} {fd : FuncData} (F : Fun K "answer_call" "answer_call" sCall f fd) (T : Txt K mg) (D : DD K mg) (R : RDD K mg) : FnOk P w K mg base CX0 6 f fd ["reader", "sets"] (spCall K R.C) := by
  have hd : HD K mg D.aM D.kM D.aV D.kV D.aF D.kF := ⟨D.dM, D.dV, D.dF⟩
  have GN : FnOk P w K mg base CX0 1 R.fN R.kN ["self"] (spRNum K R.C) := ok_rnum R.FN R.T
  have GR : FnOk P w K mg base CX0 2 R.fR R.kR ["self"] (spRRow K R.C) := ok_rrow R.FR R.T R.FN R.bN R.mN
  have Gb : FnOk P w K mg base CX0 3 D.ab D.kb ["sets", "o", "n", "m"] (spBegin K) := ok_begin D.db.F T D.dT D.dQ D.dP
  have G2 : FnOk P w K mg base CX0 5 D.a2 D.k2 ["call", "pulls", "a", "b"] (spTwo K) := ok_two D.d2.F T hd D.dH D.dL D.dW D.dB
  have G1 : FnOk P w K mg base CX0 5 D.a1 D.k1 ["call", "pulls", "word"] (spOne K) := ok_one D.d1.F T hd D.dH D.dL D.dW D.dA D.dE D.dI D.dX D.dO
  have Gc : FnOk P w K mg base CX0 4 D.ac D.kc ["pulls", "k"] (spCount K) := ok_count D.dc.F T hd D.dL D.dJ D.dN
  have Gl : FnOk P w K mg base CX0 3 D.al D.kl ["pulls"] (spALongest K) := ok_alongest D.dl.F T hd D.dR D.dG
  have Gw : FnOk P w K mg base CX0 5 D.aw D.kw ["pulls", "k", "word"] (spBetween K) := ok_between D.dw.F T hd D.dH D.dL D.dW D.dA D.dZ
  obtain ⟨t0, c0⟩ := T.c0
  obtain ⟨t1, c1⟩ := T.c1
  obtain ⟨t2, c2⟩ := T.c2
  obtain ⟨t3, c3⟩ := T.c3
  obtain ⟨t4, c4⟩ := T.c4
  obtain ⟨t5, c5⟩ := T.c5
  obtain ⟨t6, c6⟩ := T.c6
  obtain ⟨t7, c7⟩ := T.c7
  obtain ⟨t8, c8⟩ := T.c8
  obtain ⟨t9, c9⟩ := T.c9
  refine F.ok scCall (fun vs H Q E h => ?_) (fun cdv A outer s H vs Q E hr h => ?_)
  · obtain ⟨rd, st, a, l, t, k, c, s0, N0, rfl, _⟩ := h
    rfl
  · obtain ⟨rd, st, a, l, t, k, c, s0, N0, rfl, R0, l3, hdr, ok, kn, S0, ask, kk⟩ := h
    have hr1 : Room 1 _ := hr.mono (by decide)
    have hr2 : Room 2 _ := hr.mono (by decide)
    have hr3 : Room 3 _ := hr.mono (by decide)
    have hr4 : Room 4 _ := hr.mono (by decide)
    refine ⟨_, pss_cons (ps_set (i := 2) scCall.nd rfl (Or.inl rfl) (pe_meth0 (pv 0) R.T.cl R.mN GN hr1 R.bN .nil pass0))
      (pss_cons (ps_set (i := 3) scCall.nd rfl (Or.inl rfl) (pe_meth0 (pv 0) R.T.cl R.mN GN hr1 R.bN .nil pass0))
      (pss_cons (ps_if (pt_cmpR op_eq (pv 2) (pe_glob (v := .int 0) rfl c0 ⟨_, rfl⟩) (nomark _))
        (pss_cons (ps_set (i := 4) scCall.nd rfl (Or.inl rfl) (pe_meth0 (pv 0) R.T.cl R.mN GN hr1 R.bN .nil pass0))
        (pss_one (ps_ret (pe_call Gb hr3 rfl D.db.m D.db.F.kp D.db.b .nil pass0 (pa_cons (pv 1) (pa_cons (pv 3) (pa_cons (pv 4) (pa_cons (pe_meth0 (pv 0) R.T.cl R.mR GR hr2 R.bR .nil pass0) pa_nil)))))))) pss_nil)
      (pss_cons (ps_if (pt_cmpR op_in_seq (pv 2) (pe_tup (pa_cons (pe_glob (v := .int 1) rfl c1 ⟨_, rfl⟩) (pa_cons (pe_glob (v := .int 5) rfl c5 ⟨_, rfl⟩) pa_nil))) rfl)
        (pss_cons (ps_set (i := 5) scCall.nd rfl (Or.inl rfl) (pe_meth0 (pv 0) R.T.cl R.mR GR hr2 R.bR .nil pass0))
        (pss_one (ps_ret (pe_call G2 hr rfl D.d2.m D.d2.F.kp D.d2.b .nil pass0 (pa_cons (pv 2) (pa_cons (pe_ix ix_list (pv 1) (pv 3) (fun _ _ => rfl)) (pa_cons (pv 5) (pa_cons (pe_meth0 (pv 0) R.T.cl R.mR GR hr2 R.bR .nil pass0) pa_nil)))))))) pss_nil)
      (pss_cons (ps_if (pt_cmpR op_in_seq (pv 2) (pe_tup (pa_cons (pe_glob (v := .int 2) rfl c2 ⟨_, rfl⟩) (pa_cons (pe_glob (v := .int 3) rfl c3 ⟨_, rfl⟩) (pa_cons (pe_glob (v := .int 4) rfl c4 ⟨_, rfl⟩) (pa_cons (pe_glob (v := .int 6) rfl c6 ⟨_, rfl⟩) pa_nil))))) rfl)
        (pss_one (ps_ret (pe_call G1 hr rfl D.d1.m D.d1.F.kp D.d1.b .nil pass0 (pa_cons (pv 2) (pa_cons (pe_ix ix_list (pv 1) (pv 3) (fun _ _ => rfl)) (pa_cons (pe_meth0 (pv 0) R.T.cl R.mR GR hr2 R.bR .nil pass0) pa_nil)))))) pss_nil)
      (pss_cons (ps_if (pt_cmpR op_eq (pv 2) (pe_glob (v := .int 7) rfl c7 ⟨_, rfl⟩) (nomark _))
        (pss_one (ps_ret (pe_call Gc hr4 rfl D.dc.m D.dc.F.kp D.dc.b .nil pass0 (pa_cons (pe_ix ix_list (pv 1) (pv 3) (fun _ _ => rfl)) (pa_cons (pe_meth0 (pv 0) R.T.cl R.mN GN hr1 R.bN .nil pass0) pa_nil))))) pss_nil)
      (pss_cons (ps_if (pt_cmpR op_eq (pv 2) (pe_glob (v := .int 8) rfl c8 ⟨_, rfl⟩) (nomark _))
        (pss_one (ps_ret (pe_call Gl hr3 rfl D.dl.m D.dl.F.kp D.dl.b .nil pass0 (pa_cons (pe_ix ix_list (pv 1) (pv 3) (fun _ _ => rfl)) pa_nil)))) pss_nil)
      (pss_cons (ps_if (pt_cmpR op_eq (pv 2) (pe_glob (v := .int 9) rfl c9 ⟨_, rfl⟩) (nomark _))
        (pss_cons (ps_set (i := 6) scCall.nd rfl (Or.inl rfl) (pe_meth0 (pv 0) R.T.cl R.mN GN hr1 R.bN .nil pass0))
        (pss_one (ps_ret (pe_call Gw hr rfl D.dw.m D.dw.F.kp D.dw.b .nil pass0 (pa_cons (pe_ix ix_list (pv 1) (pv 3) (fun _ _ => rfl)) (pa_cons (pv 6) (pa_cons (pe_meth0 (pv 0) R.T.cl R.mR GR hr2 R.bR .nil pass0) pa_nil))))))) pss_nil)
      pss_never))))))), ?_⟩
    obtain ⟨dx0, hrd⟩ := R0.at_
    have nN : ¬ (N0 st ∨ H st = none) := fun z => z.elim S0.out (fun z => by obtain ⟨r0, r1, e, _⟩ := S0.ex; rw [e] at z; cases z)
    rw [flat_rest] at hdr
    obtain ⟨x0, d1, lt0⟩ := drop_cons hdr
    obtain ⟨x1, d2, lt1⟩ := drop_cons d1
    refine ⟨_, rfl, rd, dx0, _, rfl, hrd, rds_no _ _ (by decide +kernel) (by decide +kernel), rd, a, l, k, _, rfl, R0, x0, fun H1 R1 b1 => ?_⟩
    obtain ⟨dx1, hrd1⟩ := R1.at_
    refine ⟨_, rfl, rd, dx1, _, rfl, hrd1, rds_no _ _ (by decide +kernel) (by decide +kernel), rd, a, l, k + 1, _, rfl, R1, x1, fun H2 R2 b2 => ?_⟩
    obtain ⟨dx2, hrd2⟩ := R2.at_
    have b02 : But rd H H2 := But.trans b1 b2
    have S2 : SetsAt K H2 st s0 N0 := (S0.but b1 hrd).but b2 hrd1
    have tn : ∀ j, (rds a j).lookup ("take_number" : Str) = none := fun j => rds_no a j (by decide +kernel) (by decide +kernel)
    have tr : ∀ j, (rds a j).lookup ("take_row" : Str) = none := fun j => rds_no a j (by decide +kernel) (by decide +kernel)
    have fin : ∀ (H3 : Hp) (k3 : Nat) (L : List Int), But rd H H3 → RdAt K R.C H3 rd a l k3 → l.drop k3 = t → k < k3 → SetsAt K H3 st s0 N0 → Si07Neutral.step s0 (PySi07.whole c.raw) = (s0, L) → L.length ≤ 302 → Gv H3 Q L := by
      intro H3 k3 L b3 R3 d3 lt S3 e hl H4 q s34 hq3 hq4
      rw [e] at kk
      refine kk H4 q k3 (R3.same s34) d3 lt (fun x o ex n1 n2 => s34 _ _ (b3 x o ex n1)) ?_ hq4 hl ((S3.same s34).to (fun b o n q => ⟨.inl n, q⟩) (fun o q => q) nN)
      cases eq : H q with
      | none => rfl
      | some o =>
        by_cases z : q = rd
        · obtain ⟨dx, e3⟩ := R3.at_
          rw [z, e3] at hq3; cases hq3
        · rw [b3 q o eq z] at hq3; cases hq3
    have sBut : ∀ {Hx Hy : Hp}, But rd H Hx → Same Hx Hy → But rd H Hy := fun b s x o e ne => s _ _ (b x o e ne)
    have two0 : (2 : Nat) ≤ sizeLine := by decide
    have four0 : (4 : Nat) ≤ sizeLine := by decide
    cases c with
    | begins o n m =>
      obtain ⟨x2, d3, lt2⟩ := drop_cons d2
      refine ⟨_, rfl, rfl, _, rfl, iteEq ?_⟩
      refine ⟨_, rfl, rd, dx2, _, rfl, hrd2, tn _, rd, a, l, k + 1 + 1, _, rfl, R2, x2, fun H3 R3 b3 => ?_⟩
      obtain ⟨dx3, hrd3⟩ := R3.at_
      have S3 := S2.but b3 hrd2
      refine ⟨_, rfl, _, rfl, _, rfl, _, rfl, rd, dx3, _, rfl, hrd3, tr _, rd, a, l, k + 1 + 1 + 1, m, t, rfl, R3, d3, l3, fun H4 q4 R4 b4 hn4 hq4 => ?_⟩
      obtain ⟨dx4, hrd4⟩ := R4.at_
      have S4 := S3.but b4 hrd3
      have b04 : But rd H H4 := But.trans b02 (But.trans b3 b4)
      obtain ⟨r0, r1, hst4, _⟩ := S4.ex
      have nst : rd ≠ st := ne_of hrd4 hst4 (by intro z; cases z)
      have new4 : ∀ b, H4 b = none → H b = none := fun b hb => by
        cases eq : H b with
        | none => rfl
        | some ob =>
          by_cases z : b = rd
          · rw [z, hrd4] at hb; cases hb
          · rw [b04 b ob eq z] at hb; cases hb
      refine ⟨st, q4, o, n, m, s0, N0, rfl, S4, SqL.of hq4, kn, fun H5 q5 b5 hn5 hq5 nq5 S5 => ?_⟩
      refine kk H5 q5 _ ⟨⟨dx4, b5 _ _ hrd4 nst⟩, b5.seqSt hst4 R4.seq, R4.le⟩ (drop_row d3) (by omega) (fun x ob e n1 n2 => b5 _ _ (b04 x ob e n1) n2) (new4 q5 hn5) hq5 ?_ (S5.to (fun b ob n q => ⟨n.imp id (new4 b), q⟩) (fun ob q => q) nN)
      · rw [due_begins]
        split <;> simp
    | two p o x y =>
      obtain ⟨ho, sx, sy⟩ := kn
      have hp : p = 1 ∨ p = 5 := ok
      have p0 : p ≠ 0 := by omega
      obtain ⟨M, hM⟩ : ∃ M, At s0 o M := by
        rcases ask with z | ⟨hs, _⟩
        · have z : p = 0 := by rcases hp with rfl | rfl <;> exact z
          exact absurd z p0
        · have hs : (Si07Neutral.get s0 o).isSome = true := by rcases hp with rfl | rfl <;> exact hs
          exact Option.isSome_iff_exists.1 hs
      obtain ⟨r, xs, hst, hat, pr, gm⟩ := S2.get ho hM
      obtain ⟨L, eL, iL, lL⟩ := two_is gm.good hM sx sy hp
      refine ⟨_, rfl, rfl, _, rfl, iteNe p0 ?_⟩
      refine ⟨_, rfl, two0, fun t1 ht1 => ⟨t1, _, rfl, .inr (SqT.of upd_same), rfl, rfl, _, rfl, iteB (by rcases hp with rfl | rfl <;> rfl) ?_⟩⟩
      have s23 : Same H2 (upd H2 t1 (.tup [V.int 1, V.int 5])) := Same.new ht1
      have R3 := R2.same s23
      have hrd3 := s23 _ _ hrd2
      refine ⟨_, rfl, rd, dx2, _, rfl, hrd3, tr _, rd, a, l, k + 1 + 1, x, _, rfl, R3, d2, l3, fun H4 q4 R4 b4 hn4 hq4 => ?_⟩
      obtain ⟨dx4, hrd4⟩ := R4.at_
      have S4 := (S2.same s23).but b4 hrd3
      have d4 := drop_row d2
      have nq4 : q4 ≠ rd := ne_of hq4 hrd4 (by intro z; cases z)
      obtain ⟨r0, r1, hst2, _⟩ := S2.ex
      have nst : st ≠ rd := ne_of hst2 hrd2 (by intro z; cases z)
      have hst4 : H4 st = some (.lst xs) := b4 _ _ (s23 _ _ hst) nst
      refine ⟨_, rfl, _, rfl, _, rfl, st, _, _, _, rfl, rfl, SqL.of hst4, hat, _, rfl, _, rfl, rd, dx4, _, rfl, hrd4, tr _, rd, a, l, k + 1 + 1 + 1 + x.length, y, t, rfl, R4, d4, l3, fun H5 q5 R5 b5 hn5 hq5 => ?_⟩
      have S5 := S4.but b5 hrd4
      have pr5 : PullsAt K H5 r M := ((pr.same s23).but b4 hrd3).but b5 hrd4
      have b05 : But rd H H5 := But.trans (sBut b02 s23) (But.trans b4 b5)
      exact ⟨r, q4, q5, p, M, x, y, L, rfl, pr5, SqL.of (b5 _ _ hq4 nq4), SqL.of hq5, gm.good, sx, sy, hp, iL, fin H5 _ L b05 R5 (drop_row d4) (by omega) S5 eL lL⟩
    | one p o x =>
      obtain ⟨ho, sx⟩ := kn
      have hp : p = 2 ∨ p = 3 ∨ p = 4 ∨ p = 6 := ok
      have p0 : p ≠ 0 := by omega
      obtain ⟨M, hM⟩ : ∃ M, At s0 o M := by
        rcases ask with z | ⟨hs, _⟩
        · have z : p = 0 := by rcases hp with rfl | rfl | rfl | rfl <;> exact z
          exact absurd z p0
        · have hs : (Si07Neutral.get s0 o).isSome = true := by rcases hp with rfl | rfl | rfl | rfl <;> exact hs
          exact Option.isSome_iff_exists.1 hs
      obtain ⟨r, xs, hst, hat, pr, gm⟩ := S2.get ho hM
      obtain ⟨L, eL, iL, lL⟩ := one_is gm.good hM sx hp
      refine ⟨_, rfl, rfl, _, rfl, iteNe p0 ?_⟩
      refine ⟨_, rfl, two0, fun t1 ht1 => ⟨t1, _, rfl, .inr (SqT.of upd_same), rfl, rfl, _, rfl, iteNB (by rcases hp with rfl | rfl | rfl | rfl <;> rfl) ?_⟩⟩
      have s23 : Same H2 (upd H2 t1 (.tup [V.int 1, V.int 5])) := Same.new ht1
      refine ⟨_, rfl, four0, fun t2 ht2 => ⟨t2, _, rfl, .inr (SqT.of upd_same), rfl, rfl, _, rfl, iteB (by rcases hp with rfl | rfl | rfl | rfl <;> rfl) ?_⟩⟩
      have s24 := s23.trans (Same.new (o := .tup [V.int 2, V.int 3, V.int 4, V.int 6]) ht2)
      have R3 := R2.same s24
      have hrd3 := s24 _ _ hrd2
      refine ⟨_, rfl, _, rfl, _, rfl, st, _, _, _, rfl, rfl, SqL.of (s24 _ _ hst), hat, _, rfl, rd, dx2, _, rfl, hrd3, tr _, rd, a, l, k + 1 + 1, x, t, rfl, R3, d2, l3, fun H5 q5 R5 b5 hn5 hq5 => ?_⟩
      have S5 := (S2.same s24).but b5 hrd3
      have pr5 : PullsAt K H5 r M := (pr.same s24).but b5 hrd3
      exact ⟨r, q5, p, M, x, L, rfl, pr5, SqL.of hq5, gm.good, sx, hp, iL, fin H5 _ L (But.trans (sBut b02 s24) b5) R5 (drop_row d2) (by omega) S5 eL lL⟩
    | count o n =>
      obtain ⟨ho, n0, _⟩ := kn
      obtain ⟨x2, d3, lt2⟩ := drop_cons d2
      obtain ⟨M, hM, sml⟩ : ∃ M, At s0 o M ∧ Si07.small (some M) (.count n.toNat) = true := by
        rcases ask with z | ⟨hs, q, hq, hsm⟩
        · exact absurd z (by show ¬ (7 : Int) = 0; decide)
        · have hs : (Si07Neutral.get s0 o).isSome = true := hs
          obtain ⟨M, hM⟩ := Option.isSome_iff_exists.1 hs
          have hsm : Si07.small (Si07Neutral.get s0 o) q = true := hsm
          rw [hM] at hsm
          obtain rfl : Si07.Call.count n.toNat = q := Option.some.inj hq
          exact ⟨M, hM, hsm⟩
      obtain ⟨r, xs, hst, hat, pr, gm⟩ := S2.get ho hM
      refine ⟨_, rfl, rfl, _, rfl, iteNe (by show (7 : Int) ≠ 0; decide) ?_⟩
      refine ⟨_, rfl, two0, fun t1 ht1 => ⟨t1, _, rfl, .inr (SqT.of upd_same), rfl, rfl, _, rfl, iteNB rfl ?_⟩⟩
      have s23 : Same H2 (upd H2 t1 (.tup [V.int 1, V.int 5])) := Same.new ht1
      refine ⟨_, rfl, four0, fun t2 ht2 => ⟨t2, _, rfl, .inr (SqT.of upd_same), rfl, rfl, _, rfl, iteNB rfl ?_⟩⟩
      have s24 := s23.trans (Same.new (o := .tup [V.int 2, V.int 3, V.int 4, V.int 6]) ht2)
      refine ⟨_, rfl, rfl, _, rfl, iteEq ?_⟩
      have R3 := R2.same s24
      have hrd3 := s24 _ _ hrd2
      refine ⟨_, rfl, _, rfl, st, _, _, _, rfl, rfl, SqL.of (s24 _ _ hst), hat, _, rfl, rd, dx2, _, rfl, hrd3, tn _, rd, a, l, k + 1 + 1, n, rfl, R3, x2, fun H5 R5 b5 => ?_⟩
      have S5 := (S2.same s24).but b5 hrd3
      have pr5 : PullsAt K H5 r M := (pr.same s24).but b5 hrd3
      have due := due_count (k := n) hM
      have b05 := But.trans (sBut b02 s24) b5
      refine ⟨r, n, M, rfl, pr5, gm.good, n0, fun n128 j hj => ?_, fun nn => ?_, fun nn => ?_⟩
      · unfold Si07.small at sml
        rw [Bool.or_eq_true] at sml
        rcases sml with z | z
        · have := of_decide_eq_true z
          unfold Si07.MOST at this
          omega
        · have := few_level n.toNat 300 0 z j hj
          rwa [Nat.zero_add] at this
      · rw [if_pos (by omega)] at due
        exact fin H5 _ _ b05 R5 d3 (by omega) S5 due (by simp)
      · rw [if_neg (by omega)] at due
        exact fin H5 _ _ b05 R5 d3 (by omega) S5 due (by simp)
    | longest o =>
      have ho : o = 0 ∨ o = 1 := kn
      obtain ⟨M, hM, sml⟩ : ∃ M, At s0 o M ∧ Si07.small (some M) .longest = true := by
        rcases ask with z | ⟨hs, q, hq, hsm⟩
        · exact absurd z (by show ¬ (8 : Int) = 0; decide)
        · have hs : (Si07Neutral.get s0 o).isSome = true := hs
          obtain ⟨M, hM⟩ := Option.isSome_iff_exists.1 hs
          have hsm : Si07.small (Si07Neutral.get s0 o) q = true := hsm
          rw [hM] at hsm
          obtain rfl : Si07.Call.longest = q := Option.some.inj hq
          exact ⟨M, hM, hsm⟩
      obtain ⟨r, xs, hst, hat, pr, gm⟩ := S2.get ho hM
      refine ⟨_, rfl, rfl, _, rfl, iteNe (by show (8 : Int) ≠ 0; decide) ?_⟩
      refine ⟨_, rfl, two0, fun t1 ht1 => ⟨t1, _, rfl, .inr (SqT.of upd_same), rfl, rfl, _, rfl, iteNB rfl ?_⟩⟩
      have s23 : Same H2 (upd H2 t1 (.tup [V.int 1, V.int 5])) := Same.new ht1
      refine ⟨_, rfl, four0, fun t2 ht2 => ⟨t2, _, rfl, .inr (SqT.of upd_same), rfl, rfl, _, rfl, iteNB rfl ?_⟩⟩
      have s24 := s23.trans (Same.new (o := .tup [V.int 2, V.int 3, V.int 4, V.int 6]) ht2)
      refine ⟨_, rfl, rfl, _, rfl, iteNe (by show (8 : Int) ≠ 7; decide) ?_⟩
      refine ⟨_, rfl, rfl, _, rfl, iteEq ?_⟩
      have due := due_longest hM
      have cs : (∃ u, IsWord M u ∧ AllDown M u ∧ len M u ≤ 120 ∧ longestOf M = some (leastOf M u)) ∨ ((∃ d, Rises M d) ∧ longestOf M = none) := by
        obtain ⟨n, m, rfl, lm⟩ := gm.ex
        rcases longest_cases gm.good lm sml with ⟨u, wu, au, _, e⟩ | q
        · exact .inl ⟨u, wu, au, longest_120 gm.good e wu au, e⟩
        · exact .inr q
      refine ⟨_, rfl, _, rfl, st, _, _, _, rfl, rfl, SqL.of (s24 _ _ hst), hat, r, M, rfl, pr.same s24, gm.good, cs, fun w1 e1 => ?_, fun e1 => ?_⟩
      · rw [e1] at due
        refine fin _ _ _ (sBut b02 s24) (R2.same s24) d2 (by omega) (S2.same s24) due ?_
        rw [List.length_cons, List.length_map]
        rcases cs with ⟨u, wu, au, u120, e⟩ | ⟨_, e⟩
        · rw [e1] at e
          rw [Option.some.inj e, (leastOf_ok gm.good wu (by omega)).2.2]
          omega
        · rw [e1] at e; cases e
      · rw [e1] at due
        exact fin _ _ _ (sBut b02 s24) (R2.same s24) d2 (by omega) (S2.same s24) due (by simp)
    | between o n x =>
      obtain ⟨ho, ⟨n0, _⟩, sx⟩ := kn
      obtain ⟨x2, d3, lt2⟩ := drop_cons d2
      obtain ⟨M, hM, sml⟩ : ∃ M, At s0 o M ∧ Si07.small (some M) (.between (Si07Neutral.wordOf (x.length : Int) x) n.toNat) = true := by
        rcases ask with z | ⟨hs, q, hq, hsm⟩
        · exact absurd z (by show ¬ (9 : Int) = 0; decide)
        · have hs : (Si07Neutral.get s0 o).isSome = true := hs
          obtain ⟨M, hM⟩ := Option.isSome_iff_exists.1 hs
          have hsm : Si07.small (Si07Neutral.get s0 o) q = true := hsm
          rw [hM] at hsm
          obtain rfl : Si07.Call.between (Si07Neutral.wordOf (x.length : Int) x) n.toNat = q := Option.some.inj hq
          exact ⟨M, hM, hsm⟩
      obtain ⟨r, xs, hst, hat, pr, gm⟩ := S2.get ho hM
      refine ⟨_, rfl, rfl, _, rfl, iteNe (by show (9 : Int) ≠ 0; decide) ?_⟩
      refine ⟨_, rfl, two0, fun t1 ht1 => ⟨t1, _, rfl, .inr (SqT.of upd_same), rfl, rfl, _, rfl, iteNB rfl ?_⟩⟩
      have s23 : Same H2 (upd H2 t1 (.tup [V.int 1, V.int 5])) := Same.new ht1
      refine ⟨_, rfl, four0, fun t2 ht2 => ⟨t2, _, rfl, .inr (SqT.of upd_same), rfl, rfl, _, rfl, iteNB rfl ?_⟩⟩
      have s24 := s23.trans (Same.new (o := .tup [V.int 2, V.int 3, V.int 4, V.int 6]) ht2)
      refine ⟨_, rfl, rfl, _, rfl, iteNe (by show (9 : Int) ≠ 7; decide) ?_⟩
      refine ⟨_, rfl, rfl, _, rfl, iteNe (by show (9 : Int) ≠ 8; decide) ?_⟩
      refine ⟨_, rfl, rfl, _, rfl, iteEq ?_⟩
      have R3 := R2.same s24
      have hrd3 := s24 _ _ hrd2
      refine ⟨_, rfl, rd, dx2, _, rfl, hrd3, tn _, rd, a, l, k + 1 + 1, n, rfl, R3, x2, fun H4 R4 b4 => ?_⟩
      obtain ⟨dx4, hrd4⟩ := R4.at_
      obtain ⟨r0, r1, hst2, _⟩ := S2.ex
      have nst : st ≠ rd := ne_of hst2 hrd2 (by intro z; cases z)
      have hst4 : H4 st = some (.lst xs) := b4 _ _ (s24 _ _ hst) nst
      refine ⟨_, rfl, _, rfl, st, _, _, _, rfl, rfl, SqL.of hst4, hat, _, rfl, _, rfl, rd, dx4, _, rfl, hrd4, tr _, rd, a, l, k + 1 + 1 + 1, x, t, rfl, R4, d3, l3, fun H5 q5 R5 b5 hn5 hq5 => ?_⟩
      have S5 := ((S2.same s24).but b4 hrd3).but b5 hrd4
      have pr5 : PullsAt K H5 r M := ((pr.same s24).but b4 hrd3).but b5 hrd4
      have b05 := But.trans (sBut b02 s24) (But.trans b4 b5)
      have due := due_between (k := n) hM sx
      refine ⟨r, q5, n, M, x, rfl, pr5, SqL.of hq5, gm.good, sx, n0, fun fx => ?_, fun no => ?_, fun fx n128 l24 => ?_⟩
      · unfold Si07.small at sml
        dsimp only at sml
        rw [given_short sx, if_pos (show ∀ z, z ∈ x → z < (M.n : Int) from fx)] at sml
        dsimp only at sml
        rw [Bool.or_eq_true, decide_eq_true_iff, decide_eq_true_iff] at sml
        exact sml
      · rw [if_neg (fun z => no ⟨z.1, by have := z.2.1; omega, by have := z.2.2; omega⟩)] at due
        exact fin H5 _ _ b05 R5 (drop_row d3) (by omega) S5 due (by simp)
      · rw [if_pos ⟨fx, by omega, by omega⟩] at due
        exact fin H5 _ _ b05 R5 (drop_row d3) (by omega) S5 due (by simp)
end
end Pw
end
section
set_option Elab.async false
set_option maxRecDepth 100000
set_option maxHeartbeats 4100000
namespace Pw
open PySem PySem.Spec PyProof.Rows L2
open Cox Mir Par
noncomputable def spAnswers (K : PySem.W.Frag) : Sp := fun vs H Q _ => ∃ (a : Addr) (l : List Int) (ks : List Cl), vs = [.ref a] ∧ SqL K H a (vi l) ∧ l.length ≤ 30000 ∧ Calls l ks ∧ ks.length ≤ 400 ∧ Asked Si07Neutral.start ks ∧
  ∀ (H' : Hp) (p : Addr), H' p = some (.lst (vi (due Si07Neutral.start ks))) → Q (.ref p) H'
theorem calls_nil {ks : List Cl} (h : Calls [] ks) : ks = [] := by
  generalize e : ([] : List Int) = l at h
  cases h with
  | nil => rfl
  | cons ok t =>
    rename_i c t' ks'
    have l := flat_length c t'
    rw [← e] at l
    simp at l
theorem calls_cons {l : List Int} {ks : List Cl} (h : Calls l ks) (ne : l ≠ []) : ∃ c t ks', l = c.flat t ∧ ks = c :: ks' ∧ c.ok ∧ Calls t ks' := by
  cases h with
  | nil => exact absurd rfl ne
  | cons ok t => exact ⟨_, _, _, rfl, rfl, ok, t⟩
theorem vi_append (a b : List Int) : vi (a ++ b) = vi a ++ vi b := by simp [vi]
section
variable {P : Program} {w : World} {K : PySem.W.Frag} {mg : Str → Option Value} {base : Heap}
theorem scAnswers : FnScope ["calls", "reader", "sets", "given", "answer"] ["calls"] (defScope sAnswers) := ⟨rfl, rfl, rfl, by decide +kernel, rfl, by decide +kernel, by decide +kernel⟩
theorem ok_answers {f fC : Addr} {fd fdC : FuncData} (F : Fun K "answers" "answers" sAnswers f fd) (T : Txt K mg) (D : DD K mg) (R : RDD K mg) (DC : Df K mg "answer_call" sCall ["reader", "sets"] fC fdC) : FnOk P w K mg base CX0 7 f fd ["calls"] (spAnswers K) := by
  have GI : FnOk P w K mg base CX0 1 R.fI R.kI ["self", "numbers"] (spRInit R.C) := ok_rinit R.FI R.T
  have GE : FnOk P w K mg base CX0 1 R.fE R.kE ["self"] (spRAtEnd K R.C) := ok_ratend R.FE R.T T.len
  have GC : FnOk P w K mg base CX0 6 fC fdC ["reader", "sets"] (spCall K R.C) := ok_call DC.F T D R
  refine F.ok scAnswers (fun vs H Q E h => ?_) (fun cdv A outer s H vs Q E hr h => ?_)
  · obtain ⟨a, l, ks, rfl, _⟩ := h
    rfl
  · obtain ⟨a, l, ks, rfl, ha, l3, hc, k4, ask, kk⟩ := h
    have hr1 : Room 1 _ := hr.mono (by decide)
    have hr2 : Room 2 _ := hr.mono (by decide)
    refine ⟨_, pss_cons (ps_set (i := 1) scAnswers.nd rfl (Or.inl rfl) (pe_make R.mI GI hr2 rfl R.T.mgC R.bI .nil pass0 (pa_cons (pv 0) pa_nil)))
      (pss_cons (ps_set (i := 2) scAnswers.nd rfl (Or.inl rfl) (pe_lst (pa_cons (pe_lst pa_nil) (pa_cons (pe_lst pa_nil) pa_nil))))
      (pss_cons (ps_set (i := 3) scAnswers.nd rfl (Or.inl rfl) (pe_lst pa_nil))
      (pss_cons (ps_while PassesOwn.never (pt_not (pt_val (pe_meth0 (pv 1) R.T.cl R.mE GE hr1 R.bE .nil pass0)))
        (pss_cons (ps_set (i := 4) scAnswers.nd rfl (Or.inl rfl) (pe_call GC hr rfl DC.m DC.F.kp DC.b .nil pass0 (pa_cons (pv 1) (pa_cons (pv 2) pa_nil))))
        (pss_cons (ps_expr (pe_bm PySem.F.plainAttrs_list PySem.F.slot_list_append PySem.F.type_list_append mt_append (pv 3) (pa_cons (pe_callB call_len_seq rfl T.len PySem.boot_len (pa_cons (pv 4) pa_nil)) pa_nil)))
        (pss_one (ps_expr (pe_bm PySem.F.plainAttrs_list PySem.F.slot_list_extend PySem.F.type_list_extend mt_extend (pv 3) (pa_cons (pv 4) pa_nil)))))))
      (pss_one (ps_ret (pv 3)))))), ?_⟩
    refine ⟨_, rfl, fun rd dx nx nd ne => ?_⟩
    refine ⟨rd, dx, a, rfl, upd_same, fun H1 hrd kp => ⟨rfl, ?_⟩⟩
    have s1 : Same H H1 := Same.made nx nd kp
    obtain ⟨dx1, hrd⟩ := hrd
    refine ⟨Nat.zero_le _, fun r0 hr0 => ⟨Nat.zero_le _, fun r1 hr1' => ⟨by show 2 ≤ sizeLine; decide, fun st hst => ?_⟩⟩⟩
    have sa : Same H1 (upd H1 r0 (.lst [])) := Same.new hr0
    have sb := sa.trans (Same.new (o := .lst []) hr1')
    have sc := sb.trans (Same.new (o := .lst [.ref r0, .ref r1]) hst)
    refine ⟨Nat.zero_le _, fun gv hgv => ?_⟩
    have sd := sc.trans (Same.new (o := .lst []) hgv)
    have s02 := s1.trans sd
    have fst' : H st = none := (s1.trans sb).free hst
    have fgv : H gv = none := (s1.trans sc).free hgv
    have ngs : st ≠ gv := ne_of_none upd_same hgv
    generalize hH2 : upd (upd (upd (upd H1 r0 (.lst [])) r1 (.lst [])) st (.lst [.ref r0, .ref r1])) gv (.lst []) = H2 at *
    have hst2 : H2 st = some (.lst [.ref r0, .ref r1]) := by rw [← hH2, upd_ne ngs, upd_same]
    have hgv2 : H2 gv = some (.lst []) := by rw [← hH2, upd_same]
    refine while_by (fun σ H' => ∃ (k : Nat) (s : Si07Neutral.S) (N : Addr → Prop) (cs : List Cl) (L : List Int) (v4 : Option V), σ = [some (.ref a), some (.ref rd), some (.ref st), some (.ref gv), v4] ∧ Same H H' ∧ RdAt K R.C H' rd a l k ∧ SetsAt K H' st s N ∧ ¬ N gv ∧
        H' gv = some (.lst (vi L)) ∧ Calls (l.drop k) cs ∧ Asked s cs ∧ L ++ due s cs = due Si07Neutral.start ks ∧ L.length + 303 * cs.length ≤ 303 * 400)
      (fun σ H' => match H' rd with | some (.ins _ _ fs) => (match fs.lookup ("place" : Str) with | some (.int k) => 30000 - k.toNat | _ => 0) | _ => 0)
      ⟨0, Si07Neutral.start, fun _ => False, ks, [], none, rfl, s02, ⟨⟨dx1, sd _ _ hrd⟩, s02.seq ha, Nat.zero_le _⟩, ⟨⟨r0, r1, hst2, (fun M e => nomatch e), (fun M e => nomatch e)⟩, fun z => z⟩, fun z => z, hgv2, hc, ask, rfl, by simp; omega⟩ ?_ ?_
    · rintro σ H' ⟨k, s0, N, cs, L, v4, rfl, sH, Rd, St, nN, hg, hcs, hask, hL, hlen⟩
      obtain ⟨dx', hrd'⟩ := Rd.at_
      obtain ⟨q0, q1, hst', _⟩ := St.ex
      have ngr : gv ≠ rd := ne_of hg hrd' (by intro z; cases z)
      have nsr : st ≠ rd := ne_of hst' hrd' (by intro z; cases z)
      refine ⟨_, rfl, rd, dx', _, rfl, hrd', rds_no _ _ (by decide +kernel) (by decide +kernel), rd, a, l, k, rfl, Rd, ?_⟩
      refine ⟨_, rfl, ?_⟩
      by_cases hk : l.length ≤ k
      · rw [decide_eq_true hk]
        refine iteF ?_
        have e0 : l.drop k = [] := List.drop_eq_nil_of_le hk
        rw [e0] at hcs
        obtain rfl := calls_nil hcs
        refine ⟨_, rfl, kk H' gv ?_⟩
        rw [hg, ← hL]
        show _ = some (HO.lst (vi (L ++ [])))
        rw [List.append_nil]
      · rw [decide_eq_false hk]
        refine iteT ?_
        obtain ⟨c, t, cs', ec, rfl, ok, ct⟩ := calls_cons hcs (fun z => hk (by have := congrArg List.length z; simp at this; omega))
        obtain ⟨a1, a2, a3⟩ := hask
        refine ⟨_, rfl, _, rfl, rd, st, a, l, t, k, c, s0, N, rfl, Rd, l3, ec, ok, known_of ok a1, St, a2, fun H3 q k' R3 d3 lt keep hq hq3 l302 S3 => ?_⟩
        have hg3 : H3 gv = some (.lst (vi L)) := keep _ _ hg ngr (Ne.symm ngs)
        have nqg : q ≠ gv := fun z => by rw [z, hg] at hq; cases hq
        generalize hans : (Si07Neutral.step s0 (PySi07.whole c.raw)).2 = ans at *
        refine ⟨_, rfl, .inl ⟨rfl, _, SqL.of hg3⟩, _, rfl, q, _, rfl, .inl (SqL.of hq3), gv, _, _, rfl, rfl, hg3, ?_, ?_⟩
        · rw [List.length_map]
          exact Nat.lt_of_le_of_lt (show L.length ≤ 121200 by omega) (by decide)
        refine ⟨_, rfl, .inl ⟨rfl, _, SqL.of upd_same⟩, _, rfl, gv, q, _, _, rfl, rfl, upd_same, by rw [upd_ne nqg]; exact hq3, ?_, ?_⟩
        · rw [List.length_append, List.length_map, List.length_map]
          simp only [List.length_cons, List.length_nil] at hlen ⊢
          exact Nat.le_trans (show _ ≤ 121200 by omega) (by decide)
        rw [upd_upd]
        have up : ∀ b o, b ≠ gv → H3 b = some o → upd H3 gv (.lst (vi L ++ [V.int ((vi ans).length : Nat)] ++ vi ans)) b = some o := fun b o ne e => by rw [upd_ne ne]; exact e
        have sH3 : Same H (upd H3 gv (.lst (vi L ++ [V.int ((vi ans).length : Nat)] ++ vi ans))) := fun b o e => by
          refine up b o (ne_of_none e fgv) (keep b o (sH b o e) (ne_of_none e nx) (ne_of_none e fst'))
        obtain ⟨dx3, hrd3⟩ := R3.at_
        refine ⟨⟨k', _, _, cs', L ++ (((ans.length : Int) :: ans)), _, rfl, sH3, ⟨⟨dx3, up _ _ (Ne.symm ngr) hrd3⟩, sH3.seq ha, R3.le⟩, S3.to (N' := fun b => N b ∨ H' b = none) (fun b o n e => ⟨n, up b o ?_ e⟩) (fun o e => up _ o ngs e) S3.out, ?_, ?_, ?_, a3, ?_, ?_⟩, ?_⟩
        · rintro rfl
          rcases n with n | n
          · exact nN n
          · rw [hg] at n; cases n
        · rintro (n | n)
          · exact nN n
          · rw [hg] at n; cases n
        · rw [upd_same, vi_append]
          simp [vi]
        · rw [d3]; exact ct
        · rw [← hL, ← hans]
          show _ = L ++ ((((Si07Neutral.step s0 (PySi07.whole c.raw)).2.length : Int) :: (Si07Neutral.step s0 (PySi07.whole c.raw)).2) ++ due (Si07Neutral.step s0 (PySi07.whole c.raw)).1 cs')
          rw [List.append_assoc]
        · rw [List.length_append, List.length_cons]
          rw [List.length_cons] at hlen
          omega
        · rw [up _ _ (Ne.symm ngr) hrd3, hrd']
          dsimp only
          rw [rds_place, rds_place]
          dsimp only
          have := R3.le
          show 30000 - ((k' : Nat) : Int).toNat < 30000 - ((k : Nat) : Int).toNat
          omega
    · intro σ H' Q1 Q2 h12 h
      obtain ⟨v, hv1, r, dxx, fs, e1, e2, e3, r', a', l', k', e4, e5, c, e6, q⟩ := h
      exact ⟨v, hv1, r, dxx, fs, e1, e2, e3, r', a', l', k', e4, e5, c, e6, h12 _ _ q⟩
end
end Pw
end
section
set_option Elab.async false
set_option maxRecDepth 100000
set_option maxHeartbeats 8000000
namespace Pw
open PySem PySem.Spec PyProof.Rows L2
open PySem.W (nsIn findIn isFn codeIn keepIn fnOf mg_of mg_none_of)
section
variable {K : PySem.W.Frag} {h : Heap} {mg : Str → Option Value} {f : Addr} {oc kv dc pm cd ct : Value} {od an : Option Addr} {sl : Array (Option Value)}
abbrev Lk (K : PySem.W.Frag) (x qual : Str) (st : Stmt) (f : Addr) (oc : Value) (od : Option Addr) (kv dc pm : Value) (an : Option Addr) (cd ct : Value) (sl : Array (Option Value)) : Prop :=
  K.lookup f = some ⟨oc, od, .func (fnOf x qual (defArgs st) (defBody st) (defScope st) .none kv dc pm an cd ct), sl⟩
theorem bind1 {x q : Str} {st : Stmt} {fd : FuncData} (F : Fun K x q st f fd) {p1 : Str} (h : ∀ (kV doc pm : Value) (an : Option Addr) (cdv ct u1 : Value), bindArgs (fnOf x q (defArgs st) (defBody st) (defScope st) .none kV doc pm an cdv ct) ⟨[u1], []⟩ = pure [(p1, u1)]) : Binds K fd [p1] [] :=
  F.binds (ps := [p1]) fun a b c d e g us hl => match us, hl with | [u1], _ => h a b c d e g u1
theorem bind2 {x q : Str} {st : Stmt} {fd : FuncData} (F : Fun K x q st f fd) {p1 p2 : Str} (h : ∀ (kV doc pm : Value) (an : Option Addr) (cdv ct u1 u2 : Value), bindArgs (fnOf x q (defArgs st) (defBody st) (defScope st) .none kV doc pm an cdv ct) ⟨[u1, u2], []⟩ = pure [(p1, u1), (p2, u2)]) : Binds K fd [p1, p2] [] :=
  F.binds (ps := [p1, p2]) fun a b c d e g us hl => match us, hl with | [u1, u2], _ => h a b c d e g u1 u2
theorem bind3 {x q : Str} {st : Stmt} {fd : FuncData} (F : Fun K x q st f fd) {p1 p2 p3 : Str} (h : ∀ (kV doc pm : Value) (an : Option Addr) (cdv ct u1 u2 u3 : Value), bindArgs (fnOf x q (defArgs st) (defBody st) (defScope st) .none kV doc pm an cdv ct) ⟨[u1, u2, u3], []⟩ = pure [(p1, u1), (p2, u2), (p3, u3)]) : Binds K fd [p1, p2, p3] [] :=
  F.binds (ps := [p1, p2, p3]) fun a b c d e g us hl => match us, hl with | [u1, u2, u3], _ => h a b c d e g u1 u2 u3
theorem bind4 {x q : Str} {st : Stmt} {fd : FuncData} (F : Fun K x q st f fd) {p1 p2 p3 p4 : Str} (h : ∀ (kV doc pm : Value) (an : Option Addr) (cdv ct u1 u2 u3 u4 : Value), bindArgs (fnOf x q (defArgs st) (defBody st) (defScope st) .none kV doc pm an cdv ct) ⟨[u1, u2, u3, u4], []⟩ = pure [(p1, u1), (p2, u2), (p3, u3), (p4, u4)]) : Binds K fd [p1, p2, p3, p4] [] :=
  F.binds (ps := [p1, p2, p3, p4]) fun a b c d e g us hl => match us, hl with | [u1, u2, u3, u4], _ => h a b c d e g u1 u2 u3 u4
theorem mk_T (X : K.In h) (G : h.Ns mainGlobals mg) (a : nsIn K mainGlobals "is_table" = some (some (.ref f))) (l : Lk K "is_table" "is_table" sIsTable f oc od kv dc pm an cd ct sl) (c : codeIn K cd "is_table" = true) (k : keepIn K (.ref f) = true) :
    Df K mg "is_table" sIsTable ["n", "m"] f (fnOf "is_table" "is_table" (defArgs sIsTable) (defBody sIsTable) (defScope sIsTable) .none kv dc pm an cd ct) :=
  ⟨fun_mk (st := sIsTable) l c k, mg_of X G a, bind2 (fun_mk (st := sIsTable) l c k) fun _ _ _ _ _ _ _ _ => rfl⟩
theorem mk_Q (X : K.In h) (G : h.Ns mainGlobals mg) (a : nsIn K mainGlobals "pulls_of_table" = some (some (.ref f))) (l : Lk K "pulls_of_table" "pulls_of_table" sPullsOf f oc od kv dc pm an cd ct sl) (c : codeIn K cd "pulls_of_table" = true) (k : keepIn K (.ref f) = true) :
    Df K mg "pulls_of_table" sPullsOf ["n", "m"] f (fnOf "pulls_of_table" "pulls_of_table" (defArgs sPullsOf) (defBody sPullsOf) (defScope sPullsOf) .none kv dc pm an cd ct) :=
  ⟨fun_mk (st := sPullsOf) l c k, mg_of X G a, bind2 (fun_mk (st := sPullsOf) l c k) fun _ _ _ _ _ _ _ _ => rfl⟩
theorem mk_P (X : K.In h) (G : h.Ns mainGlobals mg) (a : nsIn K mainGlobals "pull" = some (some (.ref f))) (l : Lk K "pull" "pull" sPull f oc od kv dc pm an cd ct sl) (c : codeIn K cd "pull" = true) (k : keepIn K (.ref f) = true) :
    Df K mg "pull" sPull ["n", "m", "i", "j"] f (fnOf "pull" "pull" (defArgs sPull) (defBody sPull) (defScope sPull) .none kv dc pm an cd ct) :=
  ⟨fun_mk (st := sPull) l c k, mg_of X G a, bind4 (fun_mk (st := sPull) l c k) fun _ _ _ _ _ _ _ _ _ _ => rfl⟩
theorem mk_W (X : K.In h) (G : h.Ns mainGlobals mg) (a : nsIn K mainGlobals "is_word" = some (some (.ref f))) (l : Lk K "is_word" "is_word" sIsWord f oc od kv dc pm an cd ct sl) (c : codeIn K cd "is_word" = true) (k : keepIn K (.ref f) = true) :
    Df K mg "is_word" sIsWord ["pulls", "word"] f (fnOf "is_word" "is_word" (defArgs sIsWord) (defBody sIsWord) (defScope sIsWord) .none kv dc pm an cd ct) :=
  ⟨fun_mk (st := sIsWord) l c k, mg_of X G a, bind2 (fun_mk (st := sIsWord) l c k) fun _ _ _ _ _ _ _ _ => rfl⟩
theorem mk_M (X : K.In h) (G : h.Ns mainGlobals mg) (a : nsIn K mainGlobals "mirrored" = some (some (.ref f))) (l : Lk K "mirrored" "mirrored" sMirrored f oc od kv dc pm an cd ct sl) (c : codeIn K cd "mirrored" = true) (k : keepIn K (.ref f) = true) :
    Df K mg "mirrored" sMirrored ["pulls", "heights", "mirror"] f (fnOf "mirrored" "mirrored" (defArgs sMirrored) (defBody sMirrored) (defScope sMirrored) .none kv dc pm an cd ct) :=
  ⟨fun_mk (st := sMirrored) l c k, mg_of X G a, bind3 (fun_mk (st := sMirrored) l c k) fun _ _ _ _ _ _ _ _ _ => rfl⟩
theorem mk_V (X : K.In h) (G : h.Ns mainGlobals mg) (a : nsIn K mainGlobals "moved" = some (some (.ref f))) (l : Lk K "moved" "moved" sMoved f oc od kv dc pm an cd ct sl) (c : codeIn K cd "moved" = true) (k : keepIn K (.ref f) = true) :
    Df K mg "moved" sMoved ["pulls", "heights", "letters"] f (fnOf "moved" "moved" (defArgs sMoved) (defBody sMoved) (defScope sMoved) .none kv dc pm an cd ct) :=
  ⟨fun_mk (st := sMoved) l c k, mg_of X G a, bind3 (fun_mk (st := sMoved) l c k) fun _ _ _ _ _ _ _ _ _ => rfl⟩
theorem mk_F (X : K.In h) (G : h.Ns mainGlobals mg) (a : nsIn K mainGlobals "first_heights" = some (some (.ref f))) (l : Lk K "first_heights" "first_heights" sFirst f oc od kv dc pm an cd ct sl) (c : codeIn K cd "first_heights" = true) (k : keepIn K (.ref f) = true) :
    Df K mg "first_heights" sFirst ["pulls"] f (fnOf "first_heights" "first_heights" (defArgs sFirst) (defBody sFirst) (defScope sFirst) .none kv dc pm an cd ct) :=
  ⟨fun_mk (st := sFirst) l c k, mg_of X G a, bind1 (fun_mk (st := sFirst) l c k) fun _ _ _ _ _ _ _ => rfl⟩
theorem mk_H (X : K.In h) (G : h.Ns mainGlobals mg) (a : nsIn K mainGlobals "heights_behind" = some (some (.ref f))) (l : Lk K "heights_behind" "heights_behind" sHeights f oc od kv dc pm an cd ct sl) (c : codeIn K cd "heights_behind" = true) (k : keepIn K (.ref f) = true) :
    Df K mg "heights_behind" sHeights ["pulls", "letters"] f (fnOf "heights_behind" "heights_behind" (defArgs sHeights) (defBody sHeights) (defScope sHeights) .none kv dc pm an cd ct) :=
  ⟨fun_mk (st := sHeights) l c k, mg_of X G a, bind2 (fun_mk (st := sHeights) l c k) fun _ _ _ _ _ _ _ _ => rfl⟩
theorem mk_L (X : K.In h) (G : h.Ns mainGlobals mg) (a : nsIn K mainGlobals "lowest_crossed" = some (some (.ref f))) (l : Lk K "lowest_crossed" "lowest_crossed" sLow f oc od kv dc pm an cd ct sl) (c : codeIn K cd "lowest_crossed" = true) (k : keepIn K (.ref f) = true) :
    Df K mg "lowest_crossed" sLow ["heights"] f (fnOf "lowest_crossed" "lowest_crossed" (defArgs sLow) (defBody sLow) (defScope sLow) .none kv dc pm an cd ct) :=
  ⟨fun_mk (st := sLow) l c k, mg_of X G a, bind1 (fun_mk (st := sLow) l c k) fun _ _ _ _ _ _ _ => rfl⟩
theorem mk_A (X : K.In h) (G : h.Ns mainGlobals mg) (a : nsIn K mainGlobals "least_word" = some (some (.ref f))) (l : Lk K "least_word" "least_word" sLeast f oc od kv dc pm an cd ct sl) (c : codeIn K cd "least_word" = true) (k : keepIn K (.ref f) = true) :
    Df K mg "least_word" sLeast ["pulls", "word"] f (fnOf "least_word" "least_word" (defArgs sLeast) (defBody sLeast) (defScope sLeast) .none kv dc pm an cd ct) :=
  ⟨fun_mk (st := sLeast) l c k, mg_of X G a, bind2 (fun_mk (st := sLeast) l c k) fun _ _ _ _ _ _ _ _ => rfl⟩
theorem mk_E (X : K.In h) (G : h.Ns mainGlobals mg) (a : nsIn K mainGlobals "last_mirrors" = some (some (.ref f))) (l : Lk K "last_mirrors" "last_mirrors" sLast f oc od kv dc pm an cd ct sl) (c : codeIn K cd "last_mirrors" = true) (k : keepIn K (.ref f) = true) :
    Df K mg "last_mirrors" sLast ["pulls", "word"] f (fnOf "last_mirrors" "last_mirrors" (defArgs sLast) (defBody sLast) (defScope sLast) .none kv dc pm an cd ct) :=
  ⟨fun_mk (st := sLast) l c k, mg_of X G a, bind2 (fun_mk (st := sLast) l c k) fun _ _ _ _ _ _ _ _ => rfl⟩
theorem mk_B (X : K.In h) (G : h.Ns mainGlobals mg) (a : nsIn K mainGlobals "lies_below" = some (some (.ref f))) (l : Lk K "lies_below" "lies_below" sBelow f oc od kv dc pm an cd ct sl) (c : codeIn K cd "lies_below" = true) (k : keepIn K (.ref f) = true) :
    Df K mg "lies_below" sBelow ["pulls", "a", "b"] f (fnOf "lies_below" "lies_below" (defArgs sBelow) (defBody sBelow) (defScope sBelow) .none kv dc pm an cd ct) :=
  ⟨fun_mk (st := sBelow) l c k, mg_of X G a, bind3 (fun_mk (st := sBelow) l c k) fun _ _ _ _ _ _ _ _ _ => rfl⟩
theorem mk_I (X : K.In h) (G : h.Ns mainGlobals mg) (a : nsIn K mainGlobals "images_of" = some (some (.ref f))) (l : Lk K "images_of" "images_of" sImages f oc od kv dc pm an cd ct sl) (c : codeIn K cd "images_of" = true) (k : keepIn K (.ref f) = true) :
    Df K mg "images_of" sImages ["pulls", "word"] f (fnOf "images_of" "images_of" (defArgs sImages) (defBody sImages) (defScope sImages) .none kv dc pm an cd ct) :=
  ⟨fun_mk (st := sImages) l c k, mg_of X G a, bind2 (fun_mk (st := sImages) l c k) fun _ _ _ _ _ _ _ _ => rfl⟩
theorem mk_X (X : K.In h) (G : h.Ns mainGlobals mg) (a : nsIn K mainGlobals "moved_by_images" = some (some (.ref f))) (l : Lk K "moved_by_images" "moved_by_images" sMvi f oc od kv dc pm an cd ct sl) (c : codeIn K cd "moved_by_images" = true) (k : keepIn K (.ref f) = true) :
    Df K mg "moved_by_images" sMvi ["images", "heights"] f (fnOf "moved_by_images" "moved_by_images" (defArgs sMvi) (defBody sMvi) (defScope sMvi) .none kv dc pm an cd ct) :=
  ⟨fun_mk (st := sMvi) l c k, mg_of X G a, bind2 (fun_mk (st := sMvi) l c k) fun _ _ _ _ _ _ _ _ => rfl⟩
theorem mk_O (X : K.In h) (G : h.Ns mainGlobals mg) (a : nsIn K mainGlobals "order_of" = some (some (.ref f))) (l : Lk K "order_of" "order_of" sOrder f oc od kv dc pm an cd ct sl) (c : codeIn K cd "order_of" = true) (k : keepIn K (.ref f) = true) :
    Df K mg "order_of" sOrder ["pulls", "word"] f (fnOf "order_of" "order_of" (defArgs sOrder) (defBody sOrder) (defScope sOrder) .none kv dc pm an cd ct) :=
  ⟨fun_mk (st := sOrder) l c k, mg_of X G a, bind2 (fun_mk (st := sOrder) l c k) fun _ _ _ _ _ _ _ _ => rfl⟩
theorem mk_J (X : K.In h) (G : h.Ns mainGlobals mg) (a : nsIn K mainGlobals "one_longer" = some (some (.ref f))) (l : Lk K "one_longer" "one_longer" sLonger f oc od kv dc pm an cd ct sl) (c : codeIn K cd "one_longer" = true) (k : keepIn K (.ref f) = true) :
    Df K mg "one_longer" sLonger ["pulls", "level"] f (fnOf "one_longer" "one_longer" (defArgs sLonger) (defBody sLonger) (defScope sLonger) .none kv dc pm an cd ct) :=
  ⟨fun_mk (st := sLonger) l c k, mg_of X G a, bind2 (fun_mk (st := sLonger) l c k) fun _ _ _ _ _ _ _ _ => rfl⟩
theorem mk_N (X : K.In h) (G : h.Ns mainGlobals mg) (a : nsIn K mainGlobals "how_many_of_length" = some (some (.ref f))) (l : Lk K "how_many_of_length" "how_many_of_length" sMany f oc od kv dc pm an cd ct sl) (c : codeIn K cd "how_many_of_length" = true) (k : keepIn K (.ref f) = true) :
    Df K mg "how_many_of_length" sMany ["pulls", "k"] f (fnOf "how_many_of_length" "how_many_of_length" (defArgs sMany) (defBody sMany) (defScope sMany) .none kv dc pm an cd ct) :=
  ⟨fun_mk (st := sMany) l c k, mg_of X G a, bind2 (fun_mk (st := sMany) l c k) fun _ _ _ _ _ _ _ _ => rfl⟩
theorem mk_R (X : K.In h) (G : h.Ns mainGlobals mg) (a : nsIn K mainGlobals "lowest_not_crossed" = some (some (.ref f))) (l : Lk K "lowest_not_crossed" "lowest_not_crossed" sLowP f oc od kv dc pm an cd ct sl) (c : codeIn K cd "lowest_not_crossed" = true) (k : keepIn K (.ref f) = true) :
    Df K mg "lowest_not_crossed" sLowP ["heights"] f (fnOf "lowest_not_crossed" "lowest_not_crossed" (defArgs sLowP) (defBody sLowP) (defScope sLowP) .none kv dc pm an cd ct) :=
  ⟨fun_mk (st := sLowP) l c k, mg_of X G a, bind1 (fun_mk (st := sLowP) l c k) fun _ _ _ _ _ _ _ => rfl⟩
theorem mk_G (X : K.In h) (G : h.Ns mainGlobals mg) (a : nsIn K mainGlobals "longest_word" = some (some (.ref f))) (l : Lk K "longest_word" "longest_word" sLongest f oc od kv dc pm an cd ct sl) (c : codeIn K cd "longest_word" = true) (k : keepIn K (.ref f) = true) :
    Df K mg "longest_word" sLongest ["pulls"] f (fnOf "longest_word" "longest_word" (defArgs sLongest) (defBody sLongest) (defScope sLongest) .none kv dc pm an cd ct) :=
  ⟨fun_mk (st := sLongest) l c k, mg_of X G a, bind1 (fun_mk (st := sLongest) l c k) fun _ _ _ _ _ _ _ => rfl⟩
theorem mk_Z (X : K.In h) (G : h.Ns mainGlobals mg) (a : nsIn K mainGlobals "lengths_below" = some (some (.ref f))) (l : Lk K "lengths_below" "lengths_below" sLengths f oc od kv dc pm an cd ct sl) (c : codeIn K cd "lengths_below" = true) (k : keepIn K (.ref f) = true) :
    Df K mg "lengths_below" sLengths ["pulls", "shortest"] f (fnOf "lengths_below" "lengths_below" (defArgs sLengths) (defBody sLengths) (defScope sLengths) .none kv dc pm an cd ct) :=
  ⟨fun_mk (st := sLengths) l c k, mg_of X G a, bind2 (fun_mk (st := sLengths) l c k) fun _ _ _ _ _ _ _ _ => rfl⟩
theorem mk_b (X : K.In h) (G : h.Ns mainGlobals mg) (a : nsIn K mainGlobals "answer_begin" = some (some (.ref f))) (l : Lk K "answer_begin" "answer_begin" sBegin f oc od kv dc pm an cd ct sl) (c : codeIn K cd "answer_begin" = true) (k : keepIn K (.ref f) = true) :
    Df K mg "answer_begin" sBegin ["sets", "o", "n", "m"] f (fnOf "answer_begin" "answer_begin" (defArgs sBegin) (defBody sBegin) (defScope sBegin) .none kv dc pm an cd ct) :=
  ⟨fun_mk (st := sBegin) l c k, mg_of X G a, bind4 (fun_mk (st := sBegin) l c k) fun _ _ _ _ _ _ _ _ _ _ => rfl⟩
theorem mk_2 (X : K.In h) (G : h.Ns mainGlobals mg) (a : nsIn K mainGlobals "answer_two_words" = some (some (.ref f))) (l : Lk K "answer_two_words" "answer_two_words" sTwo f oc od kv dc pm an cd ct sl) (c : codeIn K cd "answer_two_words" = true) (k : keepIn K (.ref f) = true) :
    Df K mg "answer_two_words" sTwo ["call", "pulls", "a", "b"] f (fnOf "answer_two_words" "answer_two_words" (defArgs sTwo) (defBody sTwo) (defScope sTwo) .none kv dc pm an cd ct) :=
  ⟨fun_mk (st := sTwo) l c k, mg_of X G a, bind4 (fun_mk (st := sTwo) l c k) fun _ _ _ _ _ _ _ _ _ _ => rfl⟩
theorem mk_1 (X : K.In h) (G : h.Ns mainGlobals mg) (a : nsIn K mainGlobals "answer_one_word" = some (some (.ref f))) (l : Lk K "answer_one_word" "answer_one_word" sOne f oc od kv dc pm an cd ct sl) (c : codeIn K cd "answer_one_word" = true) (k : keepIn K (.ref f) = true) :
    Df K mg "answer_one_word" sOne ["call", "pulls", "word"] f (fnOf "answer_one_word" "answer_one_word" (defArgs sOne) (defBody sOne) (defScope sOne) .none kv dc pm an cd ct) :=
  ⟨fun_mk (st := sOne) l c k, mg_of X G a, bind3 (fun_mk (st := sOne) l c k) fun _ _ _ _ _ _ _ _ _ => rfl⟩
theorem mk_c (X : K.In h) (G : h.Ns mainGlobals mg) (a : nsIn K mainGlobals "answer_count" = some (some (.ref f))) (l : Lk K "answer_count" "answer_count" sCount f oc od kv dc pm an cd ct sl) (c : codeIn K cd "answer_count" = true) (k : keepIn K (.ref f) = true) :
    Df K mg "answer_count" sCount ["pulls", "k"] f (fnOf "answer_count" "answer_count" (defArgs sCount) (defBody sCount) (defScope sCount) .none kv dc pm an cd ct) :=
  ⟨fun_mk (st := sCount) l c k, mg_of X G a, bind2 (fun_mk (st := sCount) l c k) fun _ _ _ _ _ _ _ _ => rfl⟩
theorem mk_l (X : K.In h) (G : h.Ns mainGlobals mg) (a : nsIn K mainGlobals "answer_longest" = some (some (.ref f))) (l : Lk K "answer_longest" "answer_longest" sALongest f oc od kv dc pm an cd ct sl) (c : codeIn K cd "answer_longest" = true) (k : keepIn K (.ref f) = true) :
    Df K mg "answer_longest" sALongest ["pulls"] f (fnOf "answer_longest" "answer_longest" (defArgs sALongest) (defBody sALongest) (defScope sALongest) .none kv dc pm an cd ct) :=
  ⟨fun_mk (st := sALongest) l c k, mg_of X G a, bind1 (fun_mk (st := sALongest) l c k) fun _ _ _ _ _ _ _ => rfl⟩
theorem mk_w (X : K.In h) (G : h.Ns mainGlobals mg) (a : nsIn K mainGlobals "answer_between" = some (some (.ref f))) (l : Lk K "answer_between" "answer_between" sBetween f oc od kv dc pm an cd ct sl) (c : codeIn K cd "answer_between" = true) (k : keepIn K (.ref f) = true) :
    Df K mg "answer_between" sBetween ["pulls", "k", "word"] f (fnOf "answer_between" "answer_between" (defArgs sBetween) (defBody sBetween) (defScope sBetween) .none kv dc pm an cd ct) :=
  ⟨fun_mk (st := sBetween) l c k, mg_of X G a, bind3 (fun_mk (st := sBetween) l c k) fun _ _ _ _ _ _ _ _ _ => rfl⟩
theorem mk_C (X : K.In h) (G : h.Ns mainGlobals mg) (a : nsIn K mainGlobals "answer_call" = some (some (.ref f))) (l : Lk K "answer_call" "answer_call" sCall f oc od kv dc pm an cd ct sl) (c : codeIn K cd "answer_call" = true) (k : keepIn K (.ref f) = true) :
    Df K mg "answer_call" sCall ["reader", "sets"] f (fnOf "answer_call" "answer_call" (defArgs sCall) (defBody sCall) (defScope sCall) .none kv dc pm an cd ct) :=
  ⟨fun_mk (st := sCall) l c k, mg_of X G a, bind2 (fun_mk (st := sCall) l c k) fun _ _ _ _ _ _ _ _ => rfl⟩
theorem ktup {a : Addr} {x y : Int} {t t' : Tok} {n : Nat} {od : Option Addr} {sl : Array (Option Value)} (l : K.lookup a = some ⟨.type "tuple", od, .seq #[.int x t, .int y t'] n, sl⟩) : KTup K a [x, y] := fun H =>
  .inr ⟨_, _, _, l, rfl, rfl, by show 2 ≤ sizeLine; decide, .cons ⟨_, rfl⟩ (.cons ⟨_, rfl⟩ .nil)⟩
theorem kdict {a a2 a3 a4 a6 a0 : Addr} {h2 h3 h4 h6 h0 : Int} {t2 t3 t4 t6 t0 : Tok} {ep : Nat} (l : K.lookup a = some ⟨.type "dict", none, .dict #[⟨h2, .int 2 t2, .ref a2⟩, ⟨h3, .int 3 t3, .ref a3⟩, ⟨h4, .int 4 t4, .ref a4⟩, ⟨h6, .int 6 t6, .ref a6⟩, ⟨h0, .int 0 t0, .ref a0⟩] ep, #[]⟩)
    (e2 : h2 = hashInt 2) (e3 : h3 = hashInt 3) (e4 : h4 = hashInt 4) (e6 : h6 = hashInt 6) (e0 : h0 = hashInt 0) (ns : (a == sysModules) = false) : KD K a [(2, a2), (3, a3), (4, a4), (6, a6), (0, a0)] := by
  subst e2 e3 e4 e6 e0
  exact ⟨⟨_, _, _, [t2, t3, t4, t6, t0], l, ⟨rfl, rfl, rfl⟩, rfl, rfl, rfl⟩, by show ([2, 3, 4, 6, 0] : List Int).Nodup; decide, ns⟩
end
theorem all_mk {P : Program} {w : World} {K : PySem.W.Frag} {h : Heap} {mg : Str → Option Value} {fa fT fQ fP fW fM fV fF fH fL fA fE fB fI fX fO fJ fN fR fG fZ fb f2 f1 fc fl fw fC fS fmI fmE fmN fmR rC aP a2 a3 a4 a6 a0 : Addr} (X : K.In h) (G : h.Ns mainGlobals mg) (hfa : mg "answers" = some (.ref fa))
    {odT anT odQ anQ odP anP odW anW odM anM odV anV odF anF odH anH odL anL odA anA odE anE odB anB odI anI odX anX odO anO odJ anJ odN anN odR anR odG anG odZ anZ odb anb od2 an2 od1 an1 odc anc odl anl odw anw odC anC odS anS odmI anmI odmE anmE odmN anmN odmR anmR w2 w3 w4 w6 w0 : Option Addr} {slT slQ slP slW slM slV slF slH slL slA slE slB slI slX slO slJ slN slR slG slZ slb sl2 sl1 slc sll slw slC slS slmI slmE slmN slmR s2 s3 s4 s6 s0 : Array (Option Value)} {ocT kvT dcT pmT cdT ctT ocQ kvQ dcQ pmQ cdQ ctQ ocP kvP dcP pmP cdP ctP ocW kvW dcW pmW cdW ctW ocM kvM dcM pmM cdM ctM ocV kvV dcV pmV cdV ctV ocF kvF dcF pmF cdF ctF ocH kvH dcH pmH cdH ctH ocL kvL dcL pmL cdL ctL ocA kvA dcA pmA cdA ctA ocE kvE dcE pmE cdE ctE ocB kvB dcB pmB cdB ctB ocI kvI dcI pmI cdI ctI ocX kvX dcX pmX cdX ctX ocO kvO dcO pmO cdO ctO ocJ kvJ dcJ pmJ cdJ ctJ ocN kvN dcN pmN cdN ctN ocR kvR dcR pmR cdR ctR ocG kvG dcG pmG cdG ctG ocZ kvZ dcZ pmZ cdZ ctZ ocb kvb dcb pmb cdb ctb oc2 kv2 dc2 pm2 cd2 ct2 oc1 kv1 dc1 pm1 cd1 ct1 occ kvc dcc pmc cdc ctc ocl kvl dcl pml cdl ctl ocw kvw dcw pmw cdw ctw ocC kvC dcC pmC cdC ctC ocS kvS dcS pmS cdS ctS ocmI kvmI dcmI pmmI cdmI ctmI ocmE kvmE dcmE pmmE cdmE ctmE ocmN kvmN dcmN pmmN cdmN ctmN ocmR kvmR dcmR pmmR cdmR ctmR : Value}
    {t_mostL t_mostM t_refd t_longB t_longL t_highO t_noL t_c0 t_c1 t_c2 t_c3 t_c4 t_c5 t_c6 t_c7 t_c8 t_c9 u2 x2 y2 u3 x3 y3 u4 x4 y4 u6 x6 y6 u0 x0 y0 : Tok} {ep m2 m3 m4 m6 m0 : Nat} {h2 h3 h4 h6 h0 : Int}
    (nT : nsIn K mainGlobals "is_table" = some (some (.ref fT)))
    (lT : K.lookup fT = some ⟨ocT, odT, .func (fnOf "is_table" "is_table" (defArgs sIsTable) (defBody sIsTable) (defScope sIsTable) .none kvT dcT pmT anT cdT ctT), slT⟩)
    (qT : codeIn K cdT "is_table" = true)
    (gT : keepIn K (.ref fT) = true)
    (nQ : nsIn K mainGlobals "pulls_of_table" = some (some (.ref fQ)))
    (lQ : K.lookup fQ = some ⟨ocQ, odQ, .func (fnOf "pulls_of_table" "pulls_of_table" (defArgs sPullsOf) (defBody sPullsOf) (defScope sPullsOf) .none kvQ dcQ pmQ anQ cdQ ctQ), slQ⟩)
    (qQ : codeIn K cdQ "pulls_of_table" = true)
    (gQ : keepIn K (.ref fQ) = true)
    (nP : nsIn K mainGlobals "pull" = some (some (.ref fP)))
    (lP : K.lookup fP = some ⟨ocP, odP, .func (fnOf "pull" "pull" (defArgs sPull) (defBody sPull) (defScope sPull) .none kvP dcP pmP anP cdP ctP), slP⟩)
    (qP : codeIn K cdP "pull" = true)
    (gP : keepIn K (.ref fP) = true)
    (nW : nsIn K mainGlobals "is_word" = some (some (.ref fW)))
    (lW : K.lookup fW = some ⟨ocW, odW, .func (fnOf "is_word" "is_word" (defArgs sIsWord) (defBody sIsWord) (defScope sIsWord) .none kvW dcW pmW anW cdW ctW), slW⟩)
    (qW : codeIn K cdW "is_word" = true)
    (gW : keepIn K (.ref fW) = true)
    (nM : nsIn K mainGlobals "mirrored" = some (some (.ref fM)))
    (lM : K.lookup fM = some ⟨ocM, odM, .func (fnOf "mirrored" "mirrored" (defArgs sMirrored) (defBody sMirrored) (defScope sMirrored) .none kvM dcM pmM anM cdM ctM), slM⟩)
    (qM : codeIn K cdM "mirrored" = true)
    (gM : keepIn K (.ref fM) = true)
    (nV : nsIn K mainGlobals "moved" = some (some (.ref fV)))
    (lV : K.lookup fV = some ⟨ocV, odV, .func (fnOf "moved" "moved" (defArgs sMoved) (defBody sMoved) (defScope sMoved) .none kvV dcV pmV anV cdV ctV), slV⟩)
    (qV : codeIn K cdV "moved" = true)
    (gV : keepIn K (.ref fV) = true)
    (nF : nsIn K mainGlobals "first_heights" = some (some (.ref fF)))
    (lF : K.lookup fF = some ⟨ocF, odF, .func (fnOf "first_heights" "first_heights" (defArgs sFirst) (defBody sFirst) (defScope sFirst) .none kvF dcF pmF anF cdF ctF), slF⟩)
    (qF : codeIn K cdF "first_heights" = true)
    (gF : keepIn K (.ref fF) = true)
    (nH : nsIn K mainGlobals "heights_behind" = some (some (.ref fH)))
    (lH : K.lookup fH = some ⟨ocH, odH, .func (fnOf "heights_behind" "heights_behind" (defArgs sHeights) (defBody sHeights) (defScope sHeights) .none kvH dcH pmH anH cdH ctH), slH⟩)
    (qH : codeIn K cdH "heights_behind" = true)
    (gH : keepIn K (.ref fH) = true)
    (nL : nsIn K mainGlobals "lowest_crossed" = some (some (.ref fL)))
    (lL : K.lookup fL = some ⟨ocL, odL, .func (fnOf "lowest_crossed" "lowest_crossed" (defArgs sLow) (defBody sLow) (defScope sLow) .none kvL dcL pmL anL cdL ctL), slL⟩)
    (qL : codeIn K cdL "lowest_crossed" = true)
    (gL : keepIn K (.ref fL) = true)
    (nA : nsIn K mainGlobals "least_word" = some (some (.ref fA)))
    (lA : K.lookup fA = some ⟨ocA, odA, .func (fnOf "least_word" "least_word" (defArgs sLeast) (defBody sLeast) (defScope sLeast) .none kvA dcA pmA anA cdA ctA), slA⟩)
    (qA : codeIn K cdA "least_word" = true)
    (gA : keepIn K (.ref fA) = true)
    (nE : nsIn K mainGlobals "last_mirrors" = some (some (.ref fE)))
    (lE : K.lookup fE = some ⟨ocE, odE, .func (fnOf "last_mirrors" "last_mirrors" (defArgs sLast) (defBody sLast) (defScope sLast) .none kvE dcE pmE anE cdE ctE), slE⟩)
    (qE : codeIn K cdE "last_mirrors" = true)
    (gE : keepIn K (.ref fE) = true)
    (nB : nsIn K mainGlobals "lies_below" = some (some (.ref fB)))
    (lB : K.lookup fB = some ⟨ocB, odB, .func (fnOf "lies_below" "lies_below" (defArgs sBelow) (defBody sBelow) (defScope sBelow) .none kvB dcB pmB anB cdB ctB), slB⟩)
    (qB : codeIn K cdB "lies_below" = true)
    (gB : keepIn K (.ref fB) = true)
    (nI : nsIn K mainGlobals "images_of" = some (some (.ref fI)))
    (lI : K.lookup fI = some ⟨ocI, odI, .func (fnOf "images_of" "images_of" (defArgs sImages) (defBody sImages) (defScope sImages) .none kvI dcI pmI anI cdI ctI), slI⟩)
    (qI : codeIn K cdI "images_of" = true)
    (gI : keepIn K (.ref fI) = true)
    (nX : nsIn K mainGlobals "moved_by_images" = some (some (.ref fX)))
    (lX : K.lookup fX = some ⟨ocX, odX, .func (fnOf "moved_by_images" "moved_by_images" (defArgs sMvi) (defBody sMvi) (defScope sMvi) .none kvX dcX pmX anX cdX ctX), slX⟩)
    (qX : codeIn K cdX "moved_by_images" = true)
    (gX : keepIn K (.ref fX) = true)
    (nO : nsIn K mainGlobals "order_of" = some (some (.ref fO)))
    (lO : K.lookup fO = some ⟨ocO, odO, .func (fnOf "order_of" "order_of" (defArgs sOrder) (defBody sOrder) (defScope sOrder) .none kvO dcO pmO anO cdO ctO), slO⟩)
    (qO : codeIn K cdO "order_of" = true)
    (gO : keepIn K (.ref fO) = true)
    (nJ : nsIn K mainGlobals "one_longer" = some (some (.ref fJ)))
    (lJ : K.lookup fJ = some ⟨ocJ, odJ, .func (fnOf "one_longer" "one_longer" (defArgs sLonger) (defBody sLonger) (defScope sLonger) .none kvJ dcJ pmJ anJ cdJ ctJ), slJ⟩)
    (qJ : codeIn K cdJ "one_longer" = true)
    (gJ : keepIn K (.ref fJ) = true)
    (nN : nsIn K mainGlobals "how_many_of_length" = some (some (.ref fN)))
    (lN : K.lookup fN = some ⟨ocN, odN, .func (fnOf "how_many_of_length" "how_many_of_length" (defArgs sMany) (defBody sMany) (defScope sMany) .none kvN dcN pmN anN cdN ctN), slN⟩)
    (qN : codeIn K cdN "how_many_of_length" = true)
    (gN : keepIn K (.ref fN) = true)
    (nR : nsIn K mainGlobals "lowest_not_crossed" = some (some (.ref fR)))
    (lR : K.lookup fR = some ⟨ocR, odR, .func (fnOf "lowest_not_crossed" "lowest_not_crossed" (defArgs sLowP) (defBody sLowP) (defScope sLowP) .none kvR dcR pmR anR cdR ctR), slR⟩)
    (qR : codeIn K cdR "lowest_not_crossed" = true)
    (gR : keepIn K (.ref fR) = true)
    (nG : nsIn K mainGlobals "longest_word" = some (some (.ref fG)))
    (lG : K.lookup fG = some ⟨ocG, odG, .func (fnOf "longest_word" "longest_word" (defArgs sLongest) (defBody sLongest) (defScope sLongest) .none kvG dcG pmG anG cdG ctG), slG⟩)
    (qG : codeIn K cdG "longest_word" = true)
    (gG : keepIn K (.ref fG) = true)
    (nZ : nsIn K mainGlobals "lengths_below" = some (some (.ref fZ)))
    (lZ : K.lookup fZ = some ⟨ocZ, odZ, .func (fnOf "lengths_below" "lengths_below" (defArgs sLengths) (defBody sLengths) (defScope sLengths) .none kvZ dcZ pmZ anZ cdZ ctZ), slZ⟩)
    (qZ : codeIn K cdZ "lengths_below" = true)
    (gZ : keepIn K (.ref fZ) = true)
    (nb : nsIn K mainGlobals "answer_begin" = some (some (.ref fb)))
    (lb : K.lookup fb = some ⟨ocb, odb, .func (fnOf "answer_begin" "answer_begin" (defArgs sBegin) (defBody sBegin) (defScope sBegin) .none kvb dcb pmb anb cdb ctb), slb⟩)
    (qb : codeIn K cdb "answer_begin" = true)
    (gb : keepIn K (.ref fb) = true)
    (n2 : nsIn K mainGlobals "answer_two_words" = some (some (.ref f2)))
    (l2 : K.lookup f2 = some ⟨oc2, od2, .func (fnOf "answer_two_words" "answer_two_words" (defArgs sTwo) (defBody sTwo) (defScope sTwo) .none kv2 dc2 pm2 an2 cd2 ct2), sl2⟩)
    (q2 : codeIn K cd2 "answer_two_words" = true)
    (g2 : keepIn K (.ref f2) = true)
    (n1 : nsIn K mainGlobals "answer_one_word" = some (some (.ref f1)))
    (l1 : K.lookup f1 = some ⟨oc1, od1, .func (fnOf "answer_one_word" "answer_one_word" (defArgs sOne) (defBody sOne) (defScope sOne) .none kv1 dc1 pm1 an1 cd1 ct1), sl1⟩)
    (q1 : codeIn K cd1 "answer_one_word" = true)
    (g1 : keepIn K (.ref f1) = true)
    (nc : nsIn K mainGlobals "answer_count" = some (some (.ref fc)))
    (lc : K.lookup fc = some ⟨occ, odc, .func (fnOf "answer_count" "answer_count" (defArgs sCount) (defBody sCount) (defScope sCount) .none kvc dcc pmc anc cdc ctc), slc⟩)
    (qc : codeIn K cdc "answer_count" = true)
    (gc : keepIn K (.ref fc) = true)
    (nl : nsIn K mainGlobals "answer_longest" = some (some (.ref fl)))
    (ll : K.lookup fl = some ⟨ocl, odl, .func (fnOf "answer_longest" "answer_longest" (defArgs sALongest) (defBody sALongest) (defScope sALongest) .none kvl dcl pml anl cdl ctl), sll⟩)
    (ql : codeIn K cdl "answer_longest" = true)
    (gl : keepIn K (.ref fl) = true)
    (nw : nsIn K mainGlobals "answer_between" = some (some (.ref fw)))
    (lw : K.lookup fw = some ⟨ocw, odw, .func (fnOf "answer_between" "answer_between" (defArgs sBetween) (defBody sBetween) (defScope sBetween) .none kvw dcw pmw anw cdw ctw), slw⟩)
    (qw : codeIn K cdw "answer_between" = true)
    (gw : keepIn K (.ref fw) = true)
    (nC : nsIn K mainGlobals "answer_call" = some (some (.ref fC)))
    (lC : K.lookup fC = some ⟨ocC, odC, .func (fnOf "answer_call" "answer_call" (defArgs sCall) (defBody sCall) (defScope sCall) .none kvC dcC pmC anC cdC ctC), slC⟩)
    (qC : codeIn K cdC "answer_call" = true)
    (gC : keepIn K (.ref fC) = true)
    (nS : nsIn K mainGlobals "answers" = some (some (.ref fS)))
    (lS : K.lookup fS = some ⟨ocS, odS, .func (fnOf "answers" "answers" (defArgs sAnswers) (defBody sAnswers) (defScope sAnswers) .none kvS dcS pmS anS cdS ctS), slS⟩)
    (qS : codeIn K cdS "answers" = true)
    (gS : keepIn K (.ref fS) = true)
    (nRC : nsIn K mainGlobals "Reader" = some (some (.ref rC)))
    (nmI : findIn K (.ref rC) "__init__" = some (some (.ref fmI)))
    (imI : isFn K (.ref fmI) = true)
    (lmI : K.lookup fmI = some ⟨ocmI, odmI, .func (fnOf "__init__" "Reader.__init__" (defArgs sRInit) (defBody sRInit) (defScope sRInit) .none kvmI dcmI pmmI anmI cdmI ctmI), slmI⟩)
    (qmI : codeIn K cdmI "Reader.__init__" = true)
    (gmI : keepIn K (.ref fmI) = true)
    (nmE : findIn K (.ref rC) "at_end" = some (some (.ref fmE)))
    (imE : isFn K (.ref fmE) = true)
    (lmE : K.lookup fmE = some ⟨ocmE, odmE, .func (fnOf "at_end" "Reader.at_end" (defArgs sRAtEnd) (defBody sRAtEnd) (defScope sRAtEnd) .none kvmE dcmE pmmE anmE cdmE ctmE), slmE⟩)
    (qmE : codeIn K cdmE "Reader.at_end" = true)
    (gmE : keepIn K (.ref fmE) = true)
    (nmN : findIn K (.ref rC) "take_number" = some (some (.ref fmN)))
    (imN : isFn K (.ref fmN) = true)
    (lmN : K.lookup fmN = some ⟨ocmN, odmN, .func (fnOf "take_number" "Reader.take_number" (defArgs sRNum) (defBody sRNum) (defScope sRNum) .none kvmN dcmN pmmN anmN cdmN ctmN), slmN⟩)
    (qmN : codeIn K cdmN "Reader.take_number" = true)
    (gmN : keepIn K (.ref fmN) = true)
    (nmR : findIn K (.ref rC) "take_row" = some (some (.ref fmR)))
    (imR : isFn K (.ref fmR) = true)
    (lmR : K.lookup fmR = some ⟨ocmR, odmR, .func (fnOf "take_row" "Reader.take_row" (defArgs sRRow) (defBody sRRow) (defScope sRRow) .none kvmR dcmR pmmR anmR cdmR ctmR), slmR⟩)
    (qmR : codeIn K cdmR "Reader.take_row" = true)
    (gmR : keepIn K (.ref fmR) = true)
    (xpg : PySem.W.plainGet K rC Str.empty = true)
    (xhd : PySem.W.hasDictIn K rC = true)
    (xpo : PySem.W.plainOver K rC = true)
    (xsa : findIn K (.ref rC) "__setattr__" = some (some (.builtin "object.__setattr__")))
    (xmk : PySem.W.makesIn K rC = true)
    (xkc : keepIn K (.ref rC) = true)
    (xnN : findIn K (.ref rC) "numbers" = some none)
    (xnP : findIn K (.ref rC) "place" = some none)
    (b_zip : nsIn K mainGlobals "zip" = some none)
    (b_enumerate : nsIn K mainGlobals "enumerate" = some none)
    (b_list : nsIn K mainGlobals "list" = some none)
    (b_reversed : nsIn K mainGlobals "reversed" = some none)
    (b_len : nsIn K mainGlobals "len" = some none)
    (b_all : nsIn K mainGlobals "all" = some none)
    (b_range : nsIn K mainGlobals "range" = some none)
    (b_sum : nsIn K mainGlobals "sum" = some none)
    (b_abs : nsIn K mainGlobals "abs" = some none)
    (b_tuple : nsIn K mainGlobals "tuple" = some none)
    (v_mostL : nsIn K mainGlobals "MOST_LETTERS" = some (some (.int 128 t_mostL)))
    (v_mostM : nsIn K mainGlobals "MOST_MIRRORS" = some (some (.int 8 t_mostM)))
    (v_refd : nsIn K mainGlobals "REFUSED" = some (some (.int (-2) t_refd)))
    (v_longB : nsIn K mainGlobals "LONGEST_BETWEEN" = some (some (.int 24 t_longB)))
    (v_longL : nsIn K mainGlobals "LONGEST_LENGTH" = some (some (.int 120 t_longL)))
    (v_highO : nsIn K mainGlobals "HIGHEST_ORDER" = some (some (.int 60 t_highO)))
    (v_noL : nsIn K mainGlobals "NO_LONGEST" = some (some (.int (-1) t_noL)))
    (v_c0 : nsIn K mainGlobals "BEGIN" = some (some (.int 0 t_c0)))
    (v_c1 : nsIn K mainGlobals "SAME" = some (some (.int 1 t_c1)))
    (v_c2 : nsIn K mainGlobals "LENGTH" = some (some (.int 2 t_c2)))
    (v_c3 : nsIn K mainGlobals "LEAST" = some (some (.int 3 t_c3)))
    (v_c4 : nsIn K mainGlobals "ENDS" = some (some (.int 4 t_c4)))
    (v_c5 : nsIn K mainGlobals "BELOW" = some (some (.int 5 t_c5)))
    (v_c6 : nsIn K mainGlobals "ORDER" = some (some (.int 6 t_c6)))
    (v_c7 : nsIn K mainGlobals "COUNT" = some (some (.int 7 t_c7)))
    (v_c8 : nsIn K mainGlobals "LONGEST" = some (some (.int 8 t_c8)))
    (v_c9 : nsIn K mainGlobals "BETWEEN" = some (some (.int 9 t_c9)))
    (nPU : nsIn K mainGlobals "PULLS" = some (some (.ref aP)))
    (lPU : K.lookup aP = some ⟨.type "dict", none, .dict #[⟨h2, .int 2 u2, .ref a2⟩, ⟨h3, .int 3 u3, .ref a3⟩, ⟨h4, .int 4 u4, .ref a4⟩, ⟨h6, .int 6 u6, .ref a6⟩, ⟨h0, .int 0 u0, .ref a0⟩] ep, #[]⟩)
    (e2 : h2 = hashInt 2)
    (e3 : h3 = hashInt 3)
    (e4 : h4 = hashInt 4)
    (e6 : h6 = hashInt 6)
    (e0 : h0 = hashInt 0)
    (xns : (aP == sysModules) = false)
    (z2 : K.lookup a2 = some ⟨.type "tuple", w2, .seq #[.int 0 x2, .int 0 y2] m2, s2⟩)
    (z3 : K.lookup a3 = some ⟨.type "tuple", w3, .seq #[.int 1 x3, .int 1 y3] m3, s3⟩)
    (z4 : K.lookup a4 = some ⟨.type "tuple", w4, .seq #[.int 1 x4, .int 2 y4] m4, s4⟩)
    (z6 : K.lookup a6 = some ⟨.type "tuple", w6, .seq #[.int 1 x6, .int 3 y6] m6, s6⟩)
    (z0 : K.lookup a0 = some ⟨.type "tuple", w0, .seq #[.int 2 x0, .int 2 y0] m0, s0⟩)
    : ∃ fd : FuncData, (∀ (s : Shared) (us : List Value), us.length = (["calls"] : List Str).length → BindsTo s fd ⟨us, []⟩ ((["calls"] : List Str).zip us)) ∧ ∀ base : Heap, K.In base → base.Ns mainGlobals mg → FnOk P w K mg base CX0 7 fa fd ["calls"] (spAnswers K) := by
  have e := hfa.symm.trans (mg_of X G nS)
  cases e
  have T : Txt K mg := {
    zip := mg_none_of X G b_zip
    enum := mg_none_of X G b_enumerate
    lst := mg_none_of X G b_list
    rev := mg_none_of X G b_reversed
    len := mg_none_of X G b_len
    all := mg_none_of X G b_all
    range := mg_none_of X G b_range
    sum := mg_none_of X G b_sum
    abs := mg_none_of X G b_abs
    tup := mg_none_of X G b_tuple
    mostL := ⟨_, mg_of X G v_mostL⟩
    mostM := ⟨_, mg_of X G v_mostM⟩
    refd := ⟨_, mg_of X G v_refd⟩
    longB := ⟨_, mg_of X G v_longB⟩
    longL := ⟨_, mg_of X G v_longL⟩
    highO := ⟨_, mg_of X G v_highO⟩
    noL := ⟨_, mg_of X G v_noL⟩
    c0 := ⟨_, mg_of X G v_c0⟩
    c1 := ⟨_, mg_of X G v_c1⟩
    c2 := ⟨_, mg_of X G v_c2⟩
    c3 := ⟨_, mg_of X G v_c3⟩
    c4 := ⟨_, mg_of X G v_c4⟩
    c5 := ⟨_, mg_of X G v_c5⟩
    c6 := ⟨_, mg_of X G v_c6⟩
    c7 := ⟨_, mg_of X G v_c7⟩
    c8 := ⟨_, mg_of X G v_c8⟩
    c9 := ⟨_, mg_of X G v_c9⟩
    pulls := ⟨aP, a2, a3, a4, a6, a0, mg_of X G nPU, kdict lPU e2 e3 e4 e6 e0 xns, ktup z2, ktup z3, ktup z4, ktup z6, ktup z0⟩ }
  let D : DD K mg := {
    aT := fT, kT := _, dT := mk_T X G nT lT qT gT
    aQ := fQ, kQ := _, dQ := mk_Q X G nQ lQ qQ gQ
    aP := fP, kP := _, dP := mk_P X G nP lP qP gP
    aW := fW, kW := _, dW := mk_W X G nW lW qW gW
    aM := fM, kM := _, dM := mk_M X G nM lM qM gM
    aV := fV, kV := _, dV := mk_V X G nV lV qV gV
    aF := fF, kF := _, dF := mk_F X G nF lF qF gF
    aH := fH, kH := _, dH := mk_H X G nH lH qH gH
    aL := fL, kL := _, dL := mk_L X G nL lL qL gL
    aA := fA, kA := _, dA := mk_A X G nA lA qA gA
    aE := fE, kE := _, dE := mk_E X G nE lE qE gE
    aB := fB, kB := _, dB := mk_B X G nB lB qB gB
    aI := fI, kI := _, dI := mk_I X G nI lI qI gI
    aX := fX, kX := _, dX := mk_X X G nX lX qX gX
    aO := fO, kO := _, dO := mk_O X G nO lO qO gO
    aJ := fJ, kJ := _, dJ := mk_J X G nJ lJ qJ gJ
    aN := fN, kN := _, dN := mk_N X G nN lN qN gN
    aR := fR, kR := _, dR := mk_R X G nR lR qR gR
    aG := fG, kG := _, dG := mk_G X G nG lG qG gG
    aZ := fZ, kZ := _, dZ := mk_Z X G nZ lZ qZ gZ
    ab := fb, kb := _, db := mk_b X G nb lb qb gb
    a2 := f2, k2 := _, d2 := mk_2 X G n2 l2 q2 g2
    a1 := f1, k1 := _, d1 := mk_1 X G n1 l1 q1 g1
    ac := fc, kc := _, dc := mk_c X G nc lc qc gc
    al := fl, kl := _, dl := mk_l X G nl ll ql gl
    aw := fw, kw := _, dw := mk_w X G nw lw qw gw }
  let R : RDD K mg := {
    C := rC, fI := fmI, fE := fmE, fN := fmN, fR := fmR, kI := _, kE := _, kN := _, kR := _
    T := ⟨⟨xpg, xhd, xpo, xsa⟩, xnN, xnP, mg_of X G nRC⟩
    FI := fun_mk (st := sRInit) lmI qmI gmI
    bI := bind2 (fun_mk (st := sRInit) lmI qmI gmI) fun _ _ _ _ _ _ _ _ => rfl
    mI := ⟨xmk, nmI, imI, xkc⟩
    FE := fun_mk (st := sRAtEnd) lmE qmE gmE
    bE := bind1 (fun_mk (st := sRAtEnd) lmE qmE gmE) fun _ _ _ _ _ _ _ => rfl
    mE := ⟨nmE, imE, gmE⟩
    FN := fun_mk (st := sRNum) lmN qmN gmN
    bN := bind1 (fun_mk (st := sRNum) lmN qmN gmN) fun _ _ _ _ _ _ _ => rfl
    mN := ⟨nmN, imN, gmN⟩
    FR := fun_mk (st := sRRow) lmR qmR gmR
    bR := bind1 (fun_mk (st := sRRow) lmR qmR gmR) fun _ _ _ _ _ _ _ => rfl
    mR := ⟨nmR, imR, gmR⟩ }
  exact ⟨fnOf "answers" "answers" (defArgs sAnswers) (defBody sAnswers) (defScope sAnswers) .none kvS dcS pmS anS cdS ctS, fun s us hu => match us, hu with | [_], _ => .of_eq rfl,
    fun base _ _ => ok_answers (fun_mk (st := sAnswers) lS qS gS) T D R (mk_C X G nC lC qC gC)⟩
end Pw
end
open PySem PySem.W PyProof.Rows
set_option maxRecDepth 100000 in
set_option maxHeartbeats 0 in
theorem PySem.Challenge.cw_mirrorwordsyard_s01_answers_holds : PySem.Challenge.rw_mirrorwordsyard_s01_answers.Holds := by
  w_on; k_headS; (case hw => exact ⟨[.list [.int 0, .int 0, .int 1, .int 1, .int 1]], by decide +kernel, by decide +kernel⟩)
  k_fillS
  refine L2.walk_specK (r := PySem.Challenge.rw_mirrorwordsyard_s01_answers) (k := 7) (CX := L2.CX0) (ps := ["calls"]) (sp := Pw.spAnswers) (by decide +kernel) rfl rfl ⟨rfl, by decide, by decide⟩ (fun w h Y => PySem.W.kIn_of Y) ?F ?S (fun _ _ _ _ z => z)
  case F =>
    intro w mg fa h Y KX G hmg
    refine' Pw.all_mk KX G hmg ?nT ?lT ?qT ?gT ?nQ ?lQ ?qQ ?gQ ?nP ?lP ?qP ?gP ?nW ?lW ?qW ?gW ?nM ?lM ?qM ?gM ?nV ?lV ?qV ?gV ?nF ?lF ?qF ?gF ?nH ?lH ?qH ?gH ?nL ?lL ?qL ?gL ?nA ?lA ?qA ?gA ?nE ?lE ?qE ?gE ?nB ?lB ?qB ?gB ?nI ?lI ?qI ?gI ?nX ?lX ?qX ?gX ?nO ?lO ?qO ?gO ?nJ ?lJ ?qJ ?gJ ?nN ?lN ?qN ?gN ?nR ?lR ?qR ?gR ?nG ?lG ?qG ?gG ?nZ ?lZ ?qZ ?gZ ?nb ?lb ?qb ?gb ?n2 ?l2 ?q2 ?g2 ?n1 ?l1 ?q1 ?g1 ?nc ?lc ?qc ?gc ?nl ?ll ?ql ?gl ?nw ?lw ?qw ?gw ?nC ?lC ?qC ?gC ?nS ?lS ?qS ?gS ?nRC ?nmI ?imI ?lmI ?qmI ?gmI ?nmE ?imE ?lmE ?qmE ?gmE ?nmN ?imN ?lmN ?qmN ?gmN ?nmR ?imR ?lmR ?qmR ?gmR ?xpg ?xhd ?xpo ?xsa ?xmk ?xkc ?xnN ?xnP ?b_zip ?b_enumerate ?b_list ?b_reversed ?b_len ?b_all ?b_range ?b_sum ?b_abs ?b_tuple ?v_mostL ?v_mostM ?v_refd ?v_longB ?v_longL ?v_highO ?v_noL ?v_c0 ?v_c1 ?v_c2 ?v_c3 ?v_c4 ?v_c5 ?v_c6 ?v_c7 ?v_c8 ?v_c9 ?nPU ?lPU ?e2 ?e3 ?e4 ?e6 ?e0 ?xns ?z2 ?z3 ?z4 ?z6 ?z0
    (case nT => k_is)
    (case lT => k_is)
    (case qT => k_is)
    (case gT => k_is)
    (case nQ => k_is)
    (case lQ => k_is)
    (case qQ => k_is)
    (case gQ => k_is)
    (case nP => k_is)
    (case lP => k_is)
    (case qP => k_is)
    (case gP => k_is)
    (case nW => k_is)
    (case lW => k_is)
    (case qW => k_is)
    (case gW => k_is)
    (case nM => k_is)
    (case lM => k_is)
    (case qM => k_is)
    (case gM => k_is)
    (case nV => k_is)
    (case lV => k_is)
    (case qV => k_is)
    (case gV => k_is)
    (case nF => k_is)
    (case lF => k_is)
    (case qF => k_is)
    (case gF => k_is)
    (case nH => k_is)
    (case lH => k_is)
    (case qH => k_is)
    (case gH => k_is)
    (case nL => k_is)
    (case lL => k_is)
    (case qL => k_is)
    (case gL => k_is)
    (case nA => k_is)
    (case lA => k_is)
    (case qA => k_is)
    (case gA => k_is)
    (case nE => k_is)
    (case lE => k_is)
    (case qE => k_is)
    (case gE => k_is)
    (case nB => k_is)
    (case lB => k_is)
    (case qB => k_is)
    (case gB => k_is)
    (case nI => k_is)
    (case lI => k_is)
    (case qI => k_is)
    (case gI => k_is)
    (case nX => k_is)
    (case lX => k_is)
    (case qX => k_is)
    (case gX => k_is)
    (case nO => k_is)
    (case lO => k_is)
    (case qO => k_is)
    (case gO => k_is)
    (case nJ => k_is)
    (case lJ => k_is)
    (case qJ => k_is)
    (case gJ => k_is)
    (case nN => k_is)
    (case lN => k_is)
    (case qN => k_is)
    (case gN => k_is)
    (case nR => k_is)
    (case lR => k_is)
    (case qR => k_is)
    (case gR => k_is)
    (case nG => k_is)
    (case lG => k_is)
    (case qG => k_is)
    (case gG => k_is)
    (case nZ => k_is)
    (case lZ => k_is)
    (case qZ => k_is)
    (case gZ => k_is)
    (case nb => k_is)
    (case lb => k_is)
    (case qb => k_is)
    (case gb => k_is)
    (case n2 => k_is)
    (case l2 => k_is)
    (case q2 => k_is)
    (case g2 => k_is)
    (case n1 => k_is)
    (case l1 => k_is)
    (case q1 => k_is)
    (case g1 => k_is)
    (case nc => k_is)
    (case lc => k_is)
    (case qc => k_is)
    (case gc => k_is)
    (case nl => k_is)
    (case ll => k_is)
    (case ql => k_is)
    (case gl => k_is)
    (case nw => k_is)
    (case lw => k_is)
    (case qw => k_is)
    (case gw => k_is)
    (case nC => k_is)
    (case lC => k_is)
    (case qC => k_is)
    (case gC => k_is)
    (case nS => k_is)
    (case lS => k_is)
    (case qS => k_is)
    (case gS => k_is)
    (case nRC => k_is)
    (case nmI => k_is)
    (case imI => k_is)
    (case lmI => k_is)
    (case qmI => k_is)
    (case gmI => k_is)
    (case nmE => k_is)
    (case imE => k_is)
    (case lmE => k_is)
    (case qmE => k_is)
    (case gmE => k_is)
    (case nmN => k_is)
    (case imN => k_is)
    (case lmN => k_is)
    (case qmN => k_is)
    (case gmN => k_is)
    (case nmR => k_is)
    (case imR => k_is)
    (case lmR => k_is)
    (case qmR => k_is)
    (case gmR => k_is)
    (case xpg => k_is)
    (case xhd => k_is)
    (case xpo => k_is)
    (case xsa => k_is)
    (case xmk => k_is)
    (case xkc => k_is)
    (case xnN => k_is)
    (case xnP => k_is)
    (case b_zip => k_is)
    (case b_enumerate => k_is)
    (case b_list => k_is)
    (case b_reversed => k_is)
    (case b_len => k_is)
    (case b_all => k_is)
    (case b_range => k_is)
    (case b_sum => k_is)
    (case b_abs => k_is)
    (case b_tuple => k_is)
    (case v_mostL => k_is)
    (case v_mostM => k_is)
    (case v_refd => k_is)
    (case v_longB => k_is)
    (case v_longL => k_is)
    (case v_highO => k_is)
    (case v_noL => k_is)
    (case v_c0 => k_is)
    (case v_c1 => k_is)
    (case v_c2 => k_is)
    (case v_c3 => k_is)
    (case v_c4 => k_is)
    (case v_c5 => k_is)
    (case v_c6 => k_is)
    (case v_c7 => k_is)
    (case v_c8 => k_is)
    (case v_c9 => k_is)
    (case nPU => k_is)
    (case lPU => k_is)
    (case e2 => first | rfl | decide)
    (case e3 => first | rfl | decide)
    (case e4 => first | rfl | decide)
    (case e6 => first | rfl | decide)
    (case e0 => first | rfl | decide)
    (case xns => first | rfl | decide)
    (case z2 => k_is)
    (case z3 => k_is)
    (case z4 => k_is)
    (case z6 => k_is)
    (case z0 => k_is)
  case S =>
    intro K H xs a hO hwi hask hx
    cases hx with
    | cons h1 h2 =>
      cases h2
      cases h1 with
      | lst hs ha =>
        have e := L2.ints_dw a.1 _ ha
        subst e
        have q : ((Codec.inLen 0 30000 a.1 && a.1.all (Codec.inInt (-2147483648) 4294967295)) && true) = true := hwi
        rw [Bool.and_eq_true, Bool.and_eq_true] at q
        obtain ⟨ks, hk, k4, hA, eq⟩ := Par.request (l := a.1) hask
        refine ⟨_, a.1, ks, rfl, hs, (Codec.inNat_iff.mp q.1.1).2, hk, k4, hA, fun H' p hp => ?_⟩
        rw [← eq] at hp
        exact .lst (L2.SqL.of hp) (L2.dw_ints _)
#print axioms PySem.Challenge.cw_mirrorwordsyard_s01_answers_holds
