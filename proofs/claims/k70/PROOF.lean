import PyProof.Rows.All
import Wide.All
import OpenK.AllK
import Wide.FinOn
import Lean
import PyProof.EqAt
import PyProof.EqKinds
import PyProof.TupleCall
import PyProof.CompFree
import PyProof.Cells
import KE.KTryMore
import PyProof.ExcBaseAll.ValueError
import PyProof.ExcAttrAll.ValueError
import PyProof.EnumFor
import PyProof.EnumStmt
import PyProof.EnumMake
import PyProof.ZipIter
import PyProof.SumAny
import PyProof.MinMaxWalk
import PyProof.ConsumeWalk
import PyProof.Rows.EnumRows
import PyProof.Rows.FactsT2
import PyProof.Rows.SeqGen
import PyProof.ListRange
import PyProof.Rows.SortShell
import PyProof.Rows.SortWalk
import PyProof.Rows.CallKwBuiltin
import PyProof.Rows.SortRev
import PySem.Challenge.RW_quits_k70_broken_off
set_option compiler.extract_closed false
set_option bootstrap.genMatcherCode false
set_option Elab.async false
set_option linter.all false
set_option maxRecDepth 100000
namespace Internal
theorem aut0 (h : True := by first | exact .inl rfl | exact .inr rfl | assumption) : True := h
theorem aut1 (h : True := by decide) : True := h
theorem aut2 (h : True := by rfl) : True := h
theorem aut3 (h : True := by intro _; rfl) : True := h
open PySem PySem.Spec PyProof.Rows

noncomputable abbrev Key := Sum Int Str
noncomputable def keyIs : Key → Value → Bool
  | .inl k, v => Value.isInt k v
  | .inr x, v => Value.isStrOf x v
noncomputable def keyH (w : World) : Key → Int
  | .inl k => hashInt k
  | .inr x => hashStr w x
theorem keyIs_shape : ∀ {k : Key} {v : Value}, keyIs k v = true → (∃ i t, k = Sum.inl i ∧ v = Value.int i t) ∨ (∃ x t, k = Sum.inr x ∧ v = Value.str x t)
  | .inl i, v, h => by
    obtain ⟨t, e⟩ := Value.isInt_shape (k := i) (v := v) h
    exact .inl ⟨i, t, rfl, e⟩
  | .inr x, v, h => by
    obtain ⟨t, e⟩ := Value.isStrOf_shape (x := x) (v := v) h
    exact .inr ⟨x, t, rfl, e⟩
theorem keyIs_int (i : Int) (t : Tok) : keyIs (.inl i) (.int i t) = true := by simp [keyIs, Value.isInt]
theorem keyIs_str (x : Str) (t : Tok) : keyIs (.inr x) (.str x t) = true := by simp [keyIs, Value.isStrOf]
theorem key_ll (a b : Int) : decide ((Sum.inl a : Key) = Sum.inl b) = (a == b) := by
  by_cases e : a = b
  · subst e; simp
  · have h : ¬ (Sum.inl a : Key) = Sum.inl b := fun q => e (Sum.inl.inj q)
    rw [decide_eq_false h]
    exact (beq_eq_false_iff_ne.mpr e).symm
theorem key_rr (a b : Str) : decide ((Sum.inr a : Key) = Sum.inr b) = decide (a = b) := by
  by_cases e : a = b
  · subst e; simp
  · have h : ¬ (Sum.inr a : Key) = Sum.inr b := fun q => e (Sum.inr.inj q)
    rw [decide_eq_false h, decide_eq_false e]
theorem key_lr (a : Int) (b : Str) : decide ((Sum.inl a : Key) = Sum.inr b) = false := decide_eq_false (fun q => nomatch q)
theorem key_rl (a : Str) (b : Int) : decide ((Sum.inr a : Key) = Sum.inl b) = false := decide_eq_false (fun q => nomatch q)

noncomputable def mixKind (prog : Program) (w : World) : PySem.KeyKind prog w Key where
  is := keyIs
  hash := keyH w
  inj := fun v a b ha hb => by
    rcases keyIs_shape ha with ⟨i, t, rfl, rfl⟩ | ⟨x, t, rfl, rfl⟩
    · rcases keyIs_shape hb with ⟨j, u, rfl, e⟩ | ⟨y, u, rfl, e⟩
      · injection e with e1 _; rw [e1]
      · exact nomatch e
    · rcases keyIs_shape hb with ⟨j, u, rfl, e⟩ | ⟨y, u, rfl, e⟩
      · exact nomatch e
      · injection e with e1 _; rw [e1]
  byValue := fun k v h => by
    rcases keyIs_shape h with ⟨i, t, rfl, rfl⟩ | ⟨x, t, rfl, rfl⟩ <;> rfl
  pyHash := fun hv h => by
    rcases keyIs_shape hv with ⟨i, t, rfl, rfl⟩ | ⟨x, t, rfl, rfl⟩
    · exact wpAny_pyHash_int h
    · exact wpAny_pyHash_str h
  eqBool := fun hu hv h => by
    rcases keyIs_shape hu with ⟨i, t, rfl, rfl⟩ | ⟨x, t, rfl, rfl⟩
    · rcases keyIs_shape hv with ⟨j, u, rfl, rfl⟩ | ⟨y, u, rfl, rfl⟩
      · rw [key_ll] at h; exact wpAny_eqBool_int h
      · rw [key_lr] at h; exact SeqAt.EqAt.int_str i t y u _ _ _ _ h
    · rcases keyIs_shape hv with ⟨j, u, rfl, rfl⟩ | ⟨y, u, rfl, rfl⟩
      · rw [key_rl] at h; exact SeqAt.EqAt.str_int x t j u _ _ _ _ h
      · rw [key_rr] at h; exact wpAny_eqBool_str h
  «strs» := fun k x t v h => by
    rcases keyIs_shape h with ⟨i, u, rfl, e⟩ | ⟨y, u, rfl, e⟩
    · exact nomatch e
    · injection e with e1 _
      subst e1
      cases v <;> rfl

theorem mixKind_int (prog : Program) (w : World) (i : Int) (t : Tok) : (mixKind prog w).is (.inl i) (.int i t) = true := keyIs_int i t
theorem mixKind_str (prog : Program) (w : World) (x : Str) (t : Tok) : (mixKind prog w).is (.inr x) (.str x t) = true := keyIs_str x t
end Internal

namespace Internal
open PySem PySem.Spec PyProof.Rows

inductive V where
  | non | bl (b : Bool) | int (i : Int) | str (x : Str) | byt (b : Array UInt8) | flt (b : UInt64) | ref (a : Addr) | ty (n : String)
  deriving DecidableEq

noncomputable def RelV : V → Value → Prop
  | .non, u => u = Value.none
  | .bl b, u => u = Value.bool b
  | .int i, u => ∃ t, u = Value.int i t
  | .str x, u => ∃ t, u = Value.str x t
  | .byt b, u => ∃ t, u = Value.bytes b t
  | .flt b, u => ∃ t, u = Value.float b t
  | .ref a, u => u = Value.ref a
  | .ty n, u => u = Value.type n

noncomputable abbrev Vals : List V → List Value → Prop := Paired RelV
theorem Vals.length {xs : List V} {us : List Value} (r : Vals xs us) : xs.length = us.length := Paired.length r
theorem Vals.get : ∀ {xs : List V} {us : List Value} {i : Nat} {x : V}, Vals xs us → xs[i]? = some x → ∃ u, us[i]? = some u ∧ RelV x u
  | _, _, _, _, .nil, e => by simp at e
  | _, _, 0, _, .cons r _, e => by simp at e; subst e; exact ⟨_, rfl, r⟩
  | _, _, i + 1, x, .cons _ t, e => by
    obtain ⟨u, h1, h2⟩ := Vals.get (i := i) (x := x) t (by simpa using e)
    exact ⟨u, by simpa using h1, h2⟩
theorem Vals.set {x : V} {u : Value} (r : RelV x u) : ∀ {xs : List V} {us : List Value} (i : Nat), Vals xs us → Vals (xs.set i x) (us.set i u)
  | _, _, _, .nil => .nil
  | _, _, 0, .cons _ t => .cons r t
  | _, _, i + 1, .cons q t => .cons q (Vals.set r i t)
theorem Vals.append : ∀ {xs ys : List V} {us ws : List Value}, Vals xs us → Vals ys ws → Vals (xs ++ ys) (us ++ ws)
  | _, _, _, _, .nil, s => s
  | _, _, _, _, .cons r t, s => .cons r (Vals.append t s)
theorem Vals.take : ∀ {xs : List V} {us : List Value} (n : Nat), Vals xs us → Vals (xs.take n) (us.take n)
  | _, _, 0, _ => .nil
  | _, _, _ + 1, .nil => .nil
  | _, _, n + 1, .cons r t => .cons r (Vals.take n t)
theorem Vals.drop : ∀ {xs : List V} {us : List Value} (n : Nat), Vals xs us → Vals (xs.drop n) (us.drop n)
  | _, _, 0, r => r
  | _, _, _ + 1, .nil => .nil
  | _, _, n + 1, .cons _ t => Vals.drop n t
noncomputable def RelO : Option V → Option Value → Prop
  | some v, some u => RelV v u
  | none, none => True
  | _, _ => False
noncomputable def KV {κ : Type} : List (κ × V) → List (κ × Value) → Prop := Paired fun (p : κ × V) (q : κ × Value) => p.1 = q.1 ∧ RelV p.2 q.2

noncomputable def kV : Key → V
  | .inl i => .int i
  | .inr x => .str x

inductive HO where
  /-- a list -/
  | lst (xs : List V)
  /-- a tuple (never changes) -/
  | tup (xs : List V)
  /-- a dict whose keys are ints and texts; one whose keys are tuples of ints and texts (the empty one is both) -/
  | dK (kvs : List (Key × V)) | dT (kvs : List (List Key × V))
  /-- a set of ints: its members, its size -/
  | set (S : Int → Bool) (n : Nat)
  /-- an instance of the class at C, its dict at dx, its attributes -/
  | ins (C dx : Addr) (fs : List (Str × V))
  /-- the dict of the instance at x -/
  | own (x : Addr)
  /-- the dict of an exception -/
  | xd (fs : List (Str × V))
  /-- a bound method, f of x -/
  | met (f x : Addr)
  /-- a range object lo, lo + 1, .. below hi -/
  | rng (lo hi : Int)
  /-- a thing that is known to the object (the script; a dict while a loop walks it): read, never written while it is so -/
  | frz (o : Obj) (u : HO)
  /-- a code object's table -/
  | tbl (ps : Array Value)
  /-- any other thing, by what is true of its one object (a def of one's own: SetO a S n := HO.ext fun h => ..) -/
  | ext (φ : Heap → Prop)

noncomputable abbrev Hp := Addr → Option HO
noncomputable def upd (H : Hp) (a : Addr) (o : HO) : Hp := fun b => if b = a then some o else H b
theorem upd_same {H : Hp} {a : Addr} {o : HO} : upd H a o a = some o := by unfold upd; rw [if_pos rfl]
theorem upd_ne {H : Hp} {a b : Addr} {o : HO} (h : b ≠ a) : upd H a o b = H b := by unfold upd; rw [if_neg h]
theorem ne_of {H : Hp} {a b : Addr} {o u : HO} (h : H a = some o) (h' : H b = some u) (d : o ≠ u) : a ≠ b := by
  intro e; subst e; rw [h] at h'; exact d (Option.some.inj h')
theorem ne_of_none {H : Hp} {a b : Addr} {o : HO} (h : H a = some o) (h' : H b = none) : a ≠ b := by
  intro e; subst e; rw [h] at h'; cases h'

section
variable (P : Program) (w : World)
noncomputable def ObjOk (H : Hp) (h : Heap) (a : Addr) : HO → Prop
  | .lst xs => xs.length ≤ sizeLine ∧ ∃ (its : List Value) (n : Nat), Vals xs its ∧ h.get? a = some { cls := .type "list", data := .seq its.toArray n }
  | .tup xs => xs.length ≤ sizeLine ∧ ∃ its : List Value, Vals xs its ∧ IsTup h a its.toArray
  | .dK kvs => kvs.length ≤ sizeLine ∧ (a == sysModules) = false ∧ ∃ vs, KV kvs vs ∧ h.DictOf (mixKind P w) a vs
  | .dT kvs => kvs.length ≤ sizeLine ∧ (a == sysModules) = false ∧ ∃ xs : List (List Key × Addr × Value),
      Paired (fun (p : List Key × V) (q : List Key × Addr × Value) => p.1 = q.1 ∧ H q.2.1 = some (.tup (p.1.map kV)) ∧ RelV p.2 q.2.2) kvs xs ∧
      ∃ o es ep, h.get? a = some o ∧ o.ExactDict ∧ o.data = .dict es ep ∧ es.toList = xs.map (entryOfKey (tupleKind (mixKind P w))) ∧ (xs.map (·.1)).Nodup
  | .set S n => h.SetOf (intKind P w) a S n
  | .ins C dx fs => H dx = some (.own a) ∧ fs.length ≤ 1000 ∧ dx ≠ a ∧ h.get? a = some (PySem.W.instObj C dx) ∧
      ∃ mA, h.Ns1 dx mA ∧ (∀ f, RelO (fs.lookup f) (mA f)) ∧ PySem.Within mA (fs.map (·.1))
  | .own _ => ∃ o, h.get? a = some o
  | .xd fs => ∃ mA, h.Ns1 a mA ∧ ∀ f, RelO (fs.lookup f) (mA f)
  | .rng lo hi => ∃ t u v, h.get? a = some { cls := .type "range", data := .fields #[.int lo t, .int hi u, .int 1 v] }
  | .frz o u => h.get? a = some o ∧ ObjOk H h a u
  | .tbl ps => h.get? a = some { cls := .none, data := .fields ps }
  | .met f x => h.get? a = some (PySem.W.methodObj (.ref f) (.ref x))
  | .ext φ => φ h ∧ (∃ o, h.get? a = some o) ∧ ∀ h1 h2 : Heap, φ h1 → (∀ o, h1.get? a = some o → h2.get? a = some o) → φ h2
noncomputable def HOk (H : Hp) (h : Heap) : Prop := ∀ a o, H a = some o → ObjOk P w H h a o
end

section
variable {P : Program} {w : World} {H H' : Hp} {h h' : Heap} {a : Addr} {o : HO}
theorem ObjOk.lt (x : ObjOk P w H h a o) : a < h.objs.size := by
  cases o with
  | lst xs => obtain ⟨_, _, _, _, e⟩ := x; exact Heap.lt_size e
  | tup xs => obtain ⟨_, _, _, p⟩ := x; exact p.lt
  | dK kvs => obtain ⟨_, _, _, _, o, _, _, e, _⟩ := x; exact Heap.lt_size e
  | dT kvs => obtain ⟨_, _, _, _, o, _, _, e, _⟩ := x; exact Heap.lt_size e
  | set S n => obtain ⟨o, _, _, _, e, _⟩ := x; exact Heap.lt_size e
  | ins C dx fs => obtain ⟨_, _, _, e, _⟩ := x; exact Heap.lt_size e
  | own y => obtain ⟨_, e⟩ := x; exact Heap.lt_size e
  | xd fs => obtain ⟨_, ⟨_, _, _, e, _⟩, _⟩ := x; exact Heap.lt_size e
  | rng lo hi => obtain ⟨_, _, _, e⟩ := x; exact Heap.lt_size e
  | frz ob u => obtain ⟨e, _⟩ := x; exact Heap.lt_size e
  | tbl ps => exact Heap.lt_size (show h.get? a = some _ from x)
  | met f y => exact Heap.lt_size (show h.get? a = some _ from x)
  | ext φ => obtain ⟨_, ⟨_, e⟩, _⟩ := x; exact Heap.lt_size e
theorem Paired.mapP {α β : Type} {F G : α → β → Prop} : ∀ {l₁ : List α} {l₂ : List β}, Paired F l₁ l₂ → (∀ a b, F a b → G a b) → Paired G l₁ l₂
  | _, _, .nil, _ => .nil
  | _, _, .cons r t, f => .cons (f _ _ r) (Paired.mapP t f)
theorem ObjOk.stay (x : ObjOk P w H h a o) (k : ∀ b u, (b = a ∨ H b = some (.own a)) → h.get? b = some u → h'.get? b = some u)
    (ho : ∀ b, H b = some (.own a) → H' b = some (.own a)) (ht : ∀ b xs, H b = some (.tup xs) → H' b = some (.tup xs)) : ObjOk P w H' h' a o := by
  induction o with
  | lst xs => obtain ⟨z, its, n, r, e⟩ := x; exact ⟨z, its, n, r, k _ _ (.inl rfl) e⟩
  | tup xs => obtain ⟨z, its, r, ob, e, c⟩ := x; exact ⟨z, its, r, ob, k _ _ (.inl rfl) e, c⟩
  | dK kvs => obtain ⟨z, y, vs, r, ob, es, ep, e, c⟩ := x; exact ⟨z, y, vs, r, ob, es, ep, k _ _ (.inl rfl) e, c⟩
  | dT kvs =>
    obtain ⟨z, y, xs, r, ob, es, ep, e, c⟩ := x
    exact ⟨z, y, xs, Paired.mapP r fun p q z => ⟨z.1, ht _ _ z.2.1, z.2.2⟩, ob, es, ep, k _ _ (.inl rfl) e, c⟩
  | set S n => obtain ⟨ob, es, ep, t, e, c⟩ := x; exact ⟨ob, es, ep, t, k _ _ (.inl rfl) e, c⟩
  | ins C dx fs =>
    obtain ⟨d, z, ne, e, mA, ⟨od, es, ep, e2, c⟩, r⟩ := x
    exact ⟨ho _ d, z, ne, k _ _ (.inl rfl) e, mA, ⟨od, es, ep, k _ _ (.inr d) e2, c⟩, r⟩
  | own y => obtain ⟨ob, e⟩ := x; exact ⟨ob, k _ _ (.inl rfl) e⟩
  | xd fs => obtain ⟨mA, ⟨od, es, ep, e, c⟩, r⟩ := x; exact ⟨mA, ⟨od, es, ep, k _ _ (.inl rfl) e, c⟩, r⟩
  | rng lo hi => obtain ⟨t, u, v, e⟩ := x; exact ⟨t, u, v, k _ _ (.inl rfl) e⟩
  | frz ob u ih => obtain ⟨e, q⟩ := x; exact ⟨k _ _ (.inl rfl) e, ih q⟩
  | tbl ps =>
    have e : h.get? a = some { cls := .none, data := .fields ps } := x
    show h'.get? a = some { cls := .none, data := .fields ps }
    exact k a _ (.inl rfl) e
  | met f y =>
    have e : h.get? a = some (PySem.W.methodObj (.ref f) (.ref y)) := x
    show h'.get? a = some (PySem.W.methodObj (.ref f) (.ref y))
    exact k a _ (.inl rfl) e
  | ext φ => obtain ⟨p, ⟨o, e⟩, st⟩ := x; exact ⟨st _ _ p fun o q => k _ _ (.inl rfl) q, ⟨o, k _ _ (.inl rfl) e⟩, st⟩
theorem HOk.lt (x : HOk P w H h) (e : H a = some o) : a < h.objs.size := (x a o e).lt
theorem HOk.fresh (x : HOk P w H h) (e : h.objs.size ≤ a) : H a = none := by
  cases q : H a with
  | none => rfl
  | some u => exact absurd (Nat.lt_of_lt_of_le (x.lt q) e) (Nat.lt_irrefl _)
theorem HOk.kept (x : HOk P w H h) (k : ∀ b u, h.get? b = some u → h'.get? b = some u) : HOk P w H h' := fun a o e =>
  (x a o e).stay (fun b u _ q => k b u q) (fun _ q => q) fun _ _ q => q
theorem HOk.laid (x : HOk P w H h) (k : ∀ b u, h.get? b = some u → h'.get? b = some u) (hp : h.objs.size ≤ a) (new : ObjOk P w (upd H a o) h' a o) : HOk P w (upd H a o) h' := fun b u e => by
  have hn := x.fresh hp
  by_cases hb : b = a
  · subst hb; rw [upd_same] at e; cases e; exact new
  · rw [upd_ne hb] at e
    exact (x b u e).stay (fun c v _ q => k c v q) (fun c q => by rw [upd_ne (ne_of_none q hn)]; exact q) fun c xs q => by rw [upd_ne (ne_of_none q hn)]; exact q
end

noncomputable def Rd (H : Hp) (a : Addr) (u : HO) : Prop := H a = some u ∨ ∃ o, H a = some (.frz o u)
theorem Rd.ok {P : Program} {w : World} {H : Hp} {h : Heap} {a : Addr} {u : HO} (r : Rd H a u) (x : HOk P w H h) : ObjOk P w H h a u := by
  rcases r with r | ⟨o, r⟩
  · exact x a u r
  · obtain ⟨_, q⟩ := x a _ r
    exact q
noncomputable def Mut : Option HO → Prop
  | some (.lst _) => True
  | some (.dK _) => True
  | some (.dT _) => True
  | some (.set _ _) => True
  | some (.ins _ _ _) => True
  | some (.ext _) => True
  | _ => False
section
variable {P : Program} {w : World} {H : Hp} {h h' : Heap} {x e : Addr} {o' : HO}
theorem HOk.write (ok : HOk P w H h) (mu : Mut (H x)) (he : e = x ∨ H e = some (.own x)) (k : ∀ b u, b ≠ e → h.get? b = some u → h'.get? b = some u) (heo : ∃ u, h'.get? e = some u)
    (new : ObjOk P w (upd H x o') h' x o') : HOk P w (upd H x o') h' := fun b u q => by
  have nown : ∀ c y, H c = some (.own y) → c ≠ x := fun c y r z => by subst z; rw [r] at mu; exact mu
  have ntup : ∀ c xs, H c = some (.tup xs) → c ≠ x := fun c xs r z => by subst z; rw [r] at mu; exact mu
  by_cases hb : b = x
  · subst hb; rw [upd_same] at q; cases q; exact new
  · rw [upd_ne hb] at q
    by_cases hbe : b = e
    · have q' : H b = some (.own x) := by
        rcases he with z | z
        · exact absurd (hbe.trans z) hb
        · rw [hbe]; exact z
      rw [q] at q'; cases q'
      obtain ⟨v, hv⟩ := heo
      exact ⟨v, by rw [hbe]; exact hv⟩
    · refine (ok b u q).stay (fun c v hc r => k c v ?_ r) (fun c r => by rw [upd_ne (nown c b r)]; exact r) fun c xs r => by rw [upd_ne (ntup c xs r)]; exact r
      rcases hc with rfl | hc
      · exact hbe
      · rintro rfl
        rcases he with z | z
        · exact nown c b hc z
        · rw [hc] at z; cases z; exact hb rfl
end

set_option genInjectivity false in
set_option genSizeOf false in
structure Un (fs ex : List Addr) (H H' : Hp) (h h' : Heap) : Prop where
  keep : ∀ b o, h.get? b = some o → H b = none → b ∉ fs → b ∉ ex → h'.get? b = some o
  slot : ∀ b o, h.get? b = some o → H b = none → b ∈ fs → b ∉ ex → ∃ sl, h'.get? b = some { o with slots := sl }
  free : ∀ b o, h.get? b = some o → H b = none → b ∉ ex → H' b = none
  there : ∀ b o, h.get? b = some o → b ∉ ex → ∃ o', h'.get? b = some o'
  tups : ∀ b xs, H b = some (.tup xs) → H' b = some (.tup xs)
  frzs : ∀ b o u, H b = some (.frz o u) → H' b = some (.frz o u)
  tbls : ∀ b ps, H b = some (.tbl ps) → ∃ more, H' b = some (.tbl (ps ++ more))
section
variable {fs fs' ex ex' : List Addr} {H H1 H2 : Hp} {h h1 h2 h' : Heap} {a x e : Addr} {o : HO}
theorem Un.any (u : Un fs ex H H1 h h1) {b : Addr} {ob : Obj} (q : h.get? b = some ob) (n : H b = none) (hx : b ∉ ex) : ∃ sl, h1.get? b = some { ob with slots := sl } := by
  by_cases hb : b ∈ fs
  · exact u.slot b ob q n hb hx
  · exact ⟨ob.slots, u.keep b ob q n hb hx⟩
theorem Un.kept (k : ∀ b u, h.get? b = some u → h'.get? b = some u) : Un fs ex H H h h' :=
  ⟨fun b ob q _ _ _ => k b ob q, fun b ob q _ _ _ => ⟨ob.slots, k b ob q⟩, fun _ _ _ n _ => n, fun b ob q _ => ⟨ob, k b ob q⟩, fun _ _ q => q, fun _ _ _ q => q, fun _ ps q => ⟨#[], by rw [q]; simp⟩⟩
theorem Un.refl : Un fs ex H H h h := Un.kept fun _ _ q => q
theorem Un.laid (k : ∀ b u, h.get? b = some u → h'.get? b = some u) (hp : h.objs.size ≤ a) (hn : H a = none) : Un fs ex H (upd H a o) h h' where
  keep := fun b u q _ _ _ => k b u q
  slot := fun b u q _ _ _ => ⟨u.slots, k b u q⟩
  free := fun b u q n _ => by rw [upd_ne (Nat.ne_of_lt (Nat.lt_of_lt_of_le (Heap.lt_size q) hp))]; exact n
  there := fun b u q _ => ⟨u, k b u q⟩
  tups := fun b xs q => by rw [upd_ne (ne_of_none q hn)]; exact q
  frzs := fun b u xs q => by rw [upd_ne (ne_of_none q hn)]; exact q
  tbls := fun b ps q => ⟨#[], by rw [upd_ne (ne_of_none q hn), q]; simp⟩
theorem Un.write (mu : Mut (H x)) (he : e = x ∨ H e = some (.own x)) (k : ∀ b u, b ≠ e → h.get? b = some u → h'.get? b = some u) (heo : ∃ u, h'.get? e = some u) : Un fs ex H (upd H x o) h h' := by
  have hx : ∀ b, H b = none → b ≠ x := fun b n z => by subst z; rw [n] at mu; exact mu
  have hb : ∀ b, H b = none → b ≠ e := fun b n z => by
    subst z
    rcases he with r | r
    · exact hx b n r
    · rw [n] at r; cases r
  have hm : ∀ b u, H b = some u → ¬ Mut (some u) → b ≠ x := fun b u q nm z => by subst z; rw [q] at mu; exact nm mu
  refine ⟨fun b u q n _ _ => k b u (hb b n) q, fun b u q n _ _ => ⟨u.slots, k b u (hb b n) q⟩, fun b u q n _ => by rw [upd_ne (hx b n)]; exact n, fun b u q _ => ?_,
    fun b xs q => by rw [upd_ne (hm b _ q fun z => z)]; exact q, fun b u xs q => by rw [upd_ne (hm b _ q fun z => z)]; exact q, fun b ps q => ⟨#[], by rw [upd_ne (hm b _ q fun z => z), q]; simp⟩⟩
  by_cases hbe : b = e
  · subst hbe; exact heo
  · exact ⟨u, k b u hbe q⟩
end

noncomputable def trk (h : Heap) (H : Hp) : List Addr := (List.range h.objs.size).filter fun a => (H a).isSome
noncomputable def hidT (h : Heap) (H : Hp) : Heap := PySem.W.hideAll h (trk h H)
theorem hidT_size (h : Heap) (H : Hp) : (hidT h H).objs.size = h.objs.size := PySem.W.hideAll_size _ _
theorem hidT_get {h : Heap} {H : Hp} {b : Addr} {o : Obj} (e : h.get? b = some o) (n : H b = none) : (hidT h H).get? b = some o :=
  PySem.W.hideAll_get _ e fun hm => by
    have q : (H b).isSome = true := (List.mem_filter.mp hm).2
    rw [n] at q; simp at q
theorem of_hidT {h : Heap} {H : Hp} {b : Addr} {o : Obj} (e : (hidT h H).get? b = some o) : h.get? b = some o ∧ H b = none := by
  have e' : h.get? b = some o := PySem.W.of_hideAll (trk h H) e
  refine ⟨e', ?_⟩
  cases q : H b with
  | none => rfl
  | some x =>
    have hm : b ∈ trk h H := List.mem_filter.mpr ⟨List.mem_range.mpr (Heap.lt_size e'), by simp [q]⟩
    have z : (hidT h H).get? b = none := PySem.W.hideAll_none (trk h H) hm
    rw [z] at e; cases e

noncomputable def allNews (g h : Heap) (L : Addr) : List (Addr × Obj) := (List.range h.objs.size).filterMap fun a => if a = L ∨ (g.get? a).isSome = true then none else (h.get? a).map fun o => (a, o)
noncomputable def rest (g h : Heap) (L d : Addr) : List (Addr × Obj) := (allNews g h L).filter fun p => decide (p.1 ≠ d)
end Internal

namespace Internal
open PySem PySem.Spec PyProof.Rows

set_option genInjectivity false in
set_option genSizeOf false in
structure Mod (K : PySem.W.Frag) (mg : Str → Option Value) (base : Heap) : Prop where
  kin : K.In base
  glob : base.Ns mainGlobals mg
  blt : ∃ mb, base.Ns builtinsNs mb ∧ ∀ x : Str, x ≠ "__name__" → mb x = bootBuiltins x
  nolimit : base.NoLimit

set_option genSizeOf false in
structure Cx where
  prog : Program
  w : World
  K : PySem.W.Frag
  mg : Str → Option Value
  base : Heap
  A : Around
  N : List Str
  s₀ : Shared
  H₀ : Hp
  env : Env
  outer : List Env
  stack : List Env
  ex : List Addr
  fn : Str → Bool
  calm : Bool
  pn : List (Addr × Obj)
  xe : Value → Shared → Prop
noncomputable def frs (l : List Env) : List Addr := l.filterMap (·.frame)
noncomputable abbrev Cx.fs (X : Cx) : List Addr := frs X.outer

noncomputable def Vis (sc : Scope) (x : Str) : Prop := sc.names.lookup x = some .local ∨ sc.names.lookup x = some .cell ∨ sc.names.lookup x = some .free
noncomputable def Loc (sc : Scope) (x : Str) : Prop := sc.names.lookup x = some .local ∨ sc.names.lookup x = some .cell
noncomputable def Look (env : Env) (h : Heap) (m : Str → Option Value) (x : Str) (u : Value) : Prop :=
  (env.kindOf x = some .local ∧ m x = some u) ∨ ((env.kindOf x = some .cell ∨ env.kindOf x = some .free) ∧ ∃ c, env.cells.lookup x = some c ∧ h.IsCell c (some u))

set_option genSizeOf false in
structure Cx.Ok (X : Cx) : Prop where
  mod : Mod X.K X.mg X.base
  kind : X.env.scope.kind = .function
  glob : X.env.globals = mainGlobals
  blt : X.env.builtins = builtinsNs
  above : X.s₀.heap.objs.size ≤ X.env.locals
  inj : ∀ x y c, X.env.cells.lookup x = some c → X.env.cells.lookup y = some c → x = y
  has : ∀ x, (X.env.kindOf x = some .cell ∨ X.env.kindOf x = some .free) → ∃ c, X.env.cells.lookup x = some c
  cab : ∀ x c, X.fn x = true → X.env.cells.lookup x = some c → X.s₀.heap.objs.size ≤ c
  hd : X.calm = true → X.A.handled = none
  frames : X.A.frames = some X.stack
  stk : X.stack = X.outer ∨ (X.stack = X.env :: X.outer ∧ X.env.frame = some X.env.locals)
  exf : ∀ b ∈ X.ex, b ≠ X.env.locals ∧ ∀ x c, X.env.cells.lookup x = some c → c ≠ b
  bs : ∀ b o, X.base.get? b = some o → X.s₀.heap.get? b = some o ∧ X.H₀ b = none
  bsz : X.base.objs.size ≤ X.s₀.heap.objs.size
  noex : ∀ b o, X.base.get? b = some o → b ∉ X.ex
  exfs : ∀ b ∈ X.ex, b ∉ X.fs
  funs : X.s₀.heap.FunFrames X.base X.outer
  frf : ∀ b ∈ X.fs, X.H₀ b = none

set_option genInjectivity false in
set_option genSizeOf false in
structure Inv (X : Cx) (pins : List (Addr × Obj)) (σ : List (Option V)) (H : Hp) (s : Shared) : Prop where
  ok : X.Ok
  os : s.os = X.s₀.os
  bare : AllBare s.gens
  base : Un X.fs X.ex X.H₀ H X.s₀.heap s.heap
  loc : ∃ m, s.heap.Ns X.env.locals m ∧ ∀ (i : Nat) (x : Str) (v : V), X.N[i]? = some x → σ[i]? = some (some v) → Vis X.env.scope x → ∃ u, RelV v u ∧ Look X.env s.heap m x u
  cell : ∀ x c, X.env.cells.lookup x = some c → ∃ v, s.heap.IsCell c v
  free : H X.env.locals = none
  freeC : ∀ x c, X.env.cells.lookup x = some c → H c = none
  pin : ∀ p ∈ X.pn ++ pins, s.heap.get? p.1 = some p.2 ∧ H p.1 = none ∧ p.1 ≠ X.env.locals ∧ p.1 ∉ X.fs ∧ ∀ v, p.2.data ≠ .cell v
  hok : HOk X.prog X.w H s.heap
  len : σ.length = X.N.length

section
variable {X : Cx} {pins : List (Addr × Obj)} {σ : List (Option V)} {H H' : Hp} {s : Shared} {h' : Heap}

theorem Cx.Ok.nofr (ok : X.Ok) {b : Addr} {o : Obj} (e : X.base.get? b = some o) : b ∉ X.fs := fun hb => by
  have := (ok.funs.mem hb).1
  rw [e] at this; cases this
theorem Inv.bs (I : Inv X pins σ H s) : ∀ b o, X.base.get? b = some o → s.heap.get? b = some o ∧ H b = none := fun b o e =>
  ⟨I.base.keep b o (I.ok.bs b o e).1 (I.ok.bs b o e).2 (I.ok.nofr e) (I.ok.noex b o e), I.base.free b o (I.ok.bs b o e).1 (I.ok.bs b o e).2 (I.ok.noex b o e)⟩
theorem Inv.bk (I : Inv X pins σ H s) : ∀ b o, X.base.get? b = some o → s.heap.get? b = some o := fun b o e => (I.bs b o e).1
theorem Inv.mod (I : Inv X pins σ H s) : Mod X.K X.mg X.base := I.ok.mod
theorem Inv.kIn (I : Inv X pins σ H s) : X.K.In s.heap := I.ok.mod.kin.keeps I.bk
theorem Inv.lt (I : Inv X pins σ H s) : X.env.locals < s.heap.objs.size := let ⟨_, hn, _⟩ := I.loc; hn.lt
theorem Inv.sz (I : Inv X pins σ H s) : X.s₀.heap.objs.size ≤ s.heap.objs.size := Nat.le_trans I.ok.above (Nat.le_of_lt I.lt)
theorem Inv.nofs (I : Inv X pins σ H s) {a : Addr} (h : s.heap.objs.size ≤ a) : a ∉ X.fs := fun hb => by
  obtain ⟨_, o, ho, _⟩ := I.ok.funs.mem hb
  exact absurd (Nat.lt_of_lt_of_le (Heap.lt_size ho) (Nat.le_trans I.sz h)) (Nat.lt_irrefl _)
theorem Inv.cne (I : Inv X pins σ H s) : ∀ x c, X.env.cells.lookup x = some c → c ≠ X.env.locals := fun x c e z => by
  obtain ⟨v, o, ho, hd⟩ := I.cell x c e
  obtain ⟨m, ⟨o', es, ep, ho', hd', _⟩, _⟩ := I.loc
  rw [z, ho'] at ho; cases ho; rw [hd'] at hd; cases hd
theorem Inv.funs (I : Inv X pins σ H s) : s.heap.FunFrames X.base X.outer := by
  have all : ∀ (l : List Env), (∀ b ∈ frs l, b ∈ X.fs) → X.s₀.heap.FunFrames X.base l → s.heap.FunFrames X.base l := by
    intro l
    induction l with
    | nil => intro _ _; trivial
    | cons env r ih =>
      intro hs hl
      obtain ⟨hk, ⟨L, o, hf, hn, ho, hd⟩, hr⟩ := hl
      have hL : L ∈ X.fs := hs L (by unfold frs; rw [List.filterMap_cons, hf]; exact List.mem_cons_self)
      obtain ⟨sl, e⟩ := I.base.slot L o ho (I.ok.frf L hL) hL fun z => I.ok.exfs L z hL
      exact ⟨hk, ⟨L, _, hf, hn, e, hd⟩, ih (fun b hb => hs b (by unfold frs; rw [List.filterMap_cons, hf]; exact List.mem_cons_of_mem _ hb)) hr⟩
  exact all X.outer (fun _ hb => hb) I.ok.funs

theorem Inv.stack (I : Inv X pins σ H s) : s.heap.FunFrames X.base X.stack := by
  rcases I.ok.stk with e | ⟨e, hf⟩
  · rw [e]; exact I.funs
  · rw [e]
    obtain ⟨m, hn, _⟩ := I.loc
    refine .cons (by rw [I.ok.kind]; decide) hf hn ?_ I.funs
    exact Heap.get?_none_of_le (Nat.le_trans I.ok.bsz I.ok.above)
theorem Inv.stkSub (I : Inv X pins σ H s) : ∀ b ∈ frs X.stack, b ∈ X.env.locals :: X.fs := fun b hb => by
  rcases I.ok.stk with e | ⟨e, hf⟩
  · rw [e] at hb; exact List.mem_cons_of_mem _ hb
  · rw [e] at hb
    unfold frs at hb
    rw [List.filterMap_cons, hf] at hb
    exact hb
theorem Inv.stkFree (I : Inv X pins σ H s) : ∀ b ∈ frs X.stack, H b = none := fun b hb => by
  rcases List.mem_cons.mp (I.stkSub b hb) with e | hb
  · rw [e]; exact I.free
  · obtain ⟨_, o, ho, _⟩ := I.ok.funs.mem hb
    exact I.base.free b o ho (I.ok.frf b hb) fun z => I.ok.exfs b z hb

theorem Inv.step {g' : Array GenState} {t' : Nat} {d' : Drawn} {ch : List Addr} (I : Inv X pins σ H s)
    (hch : ∀ b ∈ ch, (b ∈ X.ex ∨ X.s₀.heap.objs.size ≤ b) ∧ b ≠ X.env.locals ∧ (∀ x c, X.env.cells.lookup x = some c → c ≠ b) ∧ ∀ p ∈ X.pn ++ pins, p.1 ≠ b)
    (keep : ∀ b o, b ≠ X.env.locals → b ∉ X.fs → b ∉ ch → s.heap.get? b = some o → H b = none → h'.get? b = some o)
    (slot : ∀ b o, b ≠ X.env.locals → b ∈ X.fs → b ∉ ch → s.heap.get? b = some o → H b = none → ∃ sl, h'.get? b = some { o with slots := sl }) (free : ∀ b o, b ∉ ch → s.heap.get? b = some o → H b = none → H' b = none)
    (there : ∀ b o, b ∉ ch → s.heap.get? b = some o → ∃ o', h'.get? b = some o')
    (tups : ∀ b xs, H b = some (.tup xs) → H' b = some (.tup xs)) (frzs : ∀ b o u, H b = some (.frz o u) → H' b = some (.frz o u)) (tbls : ∀ b ps, H b = some (.tbl ps) → ∃ more, H' b = some (.tbl (ps ++ more)))
    (ns : ∀ m, s.heap.Ns X.env.locals m → h'.Ns X.env.locals m) (hok : HOk X.prog X.w H' h') (hg : AllBare g') :
    Inv X pins σ H' { s with heap := h', gens := g', drawn := d', toks := t' } := by
  have neL : ∀ b o, X.s₀.heap.get? b = some o → b ≠ X.env.locals := fun b o e => Nat.ne_of_lt (Nat.lt_of_lt_of_le (Heap.lt_size e) I.ok.above)
  have neC : ∀ b o, X.s₀.heap.get? b = some o → b ∉ X.ex → b ∉ ch := fun b o e hx hb => by
    rcases (hch b hb).1 with z | z
    · exact hx z
    · exact absurd (Nat.lt_of_lt_of_le (Heap.lt_size e) z) (Nat.lt_irrefl _)
  have cellK : ∀ x c, X.env.cells.lookup x = some c → ∀ v, s.heap.IsCell c v → h'.IsCell c v := fun x c e v ⟨o, ho, hd⟩ => by
    have nch : c ∉ ch := fun z => (hch c z).2.2.1 x c e rfl
    by_cases hc : c ∈ X.fs
    · obtain ⟨sl, q⟩ := slot c o (I.cne x c e) hc nch ho (I.freeC x c e)
      exact ⟨_, q, hd⟩
    · exact ⟨o, keep c o (I.cne x c e) hc nch ho (I.freeC x c e), hd⟩
  refine ⟨I.ok, I.os, hg, ⟨fun b o e n hb hx => ?_, fun b o e n hb hx => ?_, fun b o e n hx => ?_, fun b o e hx => ?_, fun b xs e => tups b xs (I.base.tups b xs e), fun b o xs e => frzs b o xs (I.base.frzs b o xs e), fun b ps e => ?_⟩, ?_, fun x c e => ?_, ?_, fun x c e => ?_, fun p hp => ?_, hok, I.len⟩
  · exact keep b o (neL b o e) hb (neC b o e hx) (I.base.keep b o e n hb hx) (I.base.free b o e n hx)
  · obtain ⟨sl, e1⟩ := I.base.slot b o e n hb hx
    obtain ⟨sl', e2⟩ := slot b _ (neL b o e) hb (neC b o e hx) e1 (I.base.free b o e n hx)
    exact ⟨sl', e2⟩
  · obtain ⟨o', e1⟩ := I.base.there b o e hx
    exact free b o' (neC b o e hx) e1 (I.base.free b o e n hx)
  · obtain ⟨o', e1⟩ := I.base.there b o e hx
    exact there b o' (neC b o e hx) e1
  · obtain ⟨m1, e1⟩ := I.base.tbls b ps e
    obtain ⟨m2, e2⟩ := tbls b _ e1
    exact ⟨m1 ++ m2, by rw [e2, Array.append_assoc]⟩
  · obtain ⟨m, hn, hl⟩ := I.loc
    refine ⟨m, ns m hn, fun i x v e1 e2 e3 => ?_⟩
    obtain ⟨u, r, l⟩ := hl i x v e1 e2 e3
    refine ⟨u, r, ?_⟩
    rcases l with l | ⟨k, c, e, z⟩
    · exact .inl l
    · exact .inr ⟨k, c, e, cellK x c e _ z⟩
  · obtain ⟨v, z⟩ := I.cell x c e
    exact ⟨v, cellK x c e v z⟩
  · obtain ⟨m, ⟨o, _, _, ho, _⟩, _⟩ := I.loc
    exact free _ o (fun z => (hch _ z).2.1 rfl) ho I.free
  · obtain ⟨v, o, ho, hd⟩ := I.cell x c e
    exact free c o (fun z => (hch c z).2.2.1 x c e rfl) ho (I.freeC x c e)
  · obtain ⟨e, n, ne, nf, d⟩ := I.pin p hp
    have nch : p.1 ∉ ch := fun z => (hch p.1 z).2.2.2 p hp rfl
    exact ⟨keep p.1 p.2 ne nf nch e n, free p.1 p.2 nch e n, ne, nf, d⟩
theorem Inv.un {t' : Nat} (I : Inv X pins σ H s) (u : Un X.fs [] H H' s.heap h') (hok : HOk X.prog X.w H' h') : Inv X pins σ H' { s with heap := h', toks := t' } := by
  obtain ⟨m, ⟨o, es, ep, ho, r⟩, _⟩ := id I.loc
  obtain ⟨sl, hL⟩ := u.any ho I.free (by simp)
  exact I.step (g' := s.gens) (d' := s.drawn) (ch := []) (fun _ z => nomatch z) (fun b o _ hb _ e n => u.keep b o e n hb (by simp)) (fun b o _ hb _ e n => u.slot b o e n hb (by simp)) (fun b o _ e n => u.free b o e n (by simp)) (fun b o _ e => u.there b o e (by simp)) u.tups u.frzs u.tbls (fun m' hm => by
    obtain ⟨o', es', ep', ho', r'⟩ := hm
    rw [ho] at ho'; cases ho'
    exact ⟨_, es', ep', hL, r'⟩) hok I.bare
theorem Inv.call {g' : Array GenState} {t' : Nat} {d' : Drawn} {ch : List Addr} (I : Inv X pins σ H s) (u : Un (frs X.stack) ch H H' s.heap h') (hok : HOk X.prog X.w H' h') (hg : AllBare g')
    (hch : ∀ b ∈ ch, (b ∈ X.ex ∨ X.s₀.heap.objs.size ≤ b) ∧ b ≠ X.env.locals ∧ (∀ x c, X.env.cells.lookup x = some c → c ≠ b) ∧ ∀ p ∈ X.pn ++ pins, p.1 ≠ b) :
    Inv X pins σ H' { s with heap := h', gens := g', drawn := d', toks := t' } := by
  obtain ⟨m, ⟨o, es, ep, ho, r⟩, _⟩ := id I.loc
  obtain ⟨sl, hL⟩ := u.any ho I.free fun z => (hch _ z).2.1 rfl
  exact I.step (ch := ch) hch (fun b o hL hb hc e n => u.keep b o e n (fun z => (List.mem_cons.mp (I.stkSub b z)).elim hL hb) hc) (fun b o _ _ hc e n => u.any e n hc) (fun b o hc e n => u.free b o e n hc) (fun b o hc e => u.there b o e hc) u.tups u.frzs u.tbls (fun m' hm => by
    obtain ⟨o', es', ep', ho', r'⟩ := hm
    rw [ho] at ho'; cases ho'
    exact ⟨_, es', ep', hL, r'⟩) hok hg
theorem Inv.turned {t' : Nat} {it : Addr} (I : Inv X pins σ H s) (k : ∀ b o, b ≠ it → s.heap.get? b = some o → h'.get? b = some o) (hn : H it = none) (hL : it ≠ X.env.locals)
    (h1 : it ∈ X.ex ∨ X.s₀.heap.objs.size ≤ it) (h2 : ∀ x c, X.env.cells.lookup x = some c → c ≠ it) (h3 : ∀ p ∈ X.pn ++ pins, p.1 ≠ it) : Inv X pins σ H { s with heap := h', toks := t' } := by
  have nit : ∀ b u, H b = some u → b ≠ it := fun b u e z => by rw [z, hn] at e; cases e
  refine I.step (g' := s.gens) (d' := s.drawn) (ch := [it]) (fun b hb => ?_) (fun b o _ _ hc e _ => k b o (fun z => hc (by simp [z])) e) (fun b o _ _ hc e _ => ⟨o.slots, k b o (fun z => hc (by simp [z])) e⟩) (fun _ _ _ _ n => n)
    (fun b o hc e => ⟨o, k b o (fun z => hc (by simp [z])) e⟩) (fun _ _ e => e) (fun _ _ _ e => e) (fun b ps e => ⟨#[], by rw [e]; simp⟩) (fun m hm => ?_) (fun b u e => ?_) I.bare
  · have e : b = it := by simpa using hb
    subst e
    exact ⟨h1, hL, h2, h3⟩
  · obtain ⟨o, es, ep, ho, r⟩ := hm
    exact ⟨o, es, ep, k _ o (Ne.symm hL) ho, r⟩
  · refine (I.hok b u e).stay (fun c v hc q => k c v ?_ q) (fun _ q => q) fun _ _ q => q
    rcases hc with z | z
    · rw [z]; exact nit b u e
    · exact nit c _ z
theorem Inv.tok (I : Inv X pins σ H s) (t : Nat) : Inv X pins σ H { s with toks := t } := I.un (h' := s.heap) (t' := t) Un.refl I.hok
theorem Inv.kept {t' : Nat} (I : Inv X pins σ H s) (k : ∀ b u, s.heap.get? b = some u → h'.get? b = some u) : Inv X pins σ H { s with heap := h', toks := t' } := I.un (Un.kept k) (I.hok.kept k)
theorem Inv.laid {a : Addr} {o : HO} {t' : Nat} (I : Inv X pins σ H s) (k : ∀ b u, s.heap.get? b = some u → h'.get? b = some u) (hp : s.heap.objs.size ≤ a) (new : ObjOk X.prog X.w (upd H a o) h' a o) :
    Inv X pins σ (upd H a o) { s with heap := h', toks := t' } := I.un (Un.laid k hp (I.hok.fresh hp)) (I.hok.laid k hp new)
theorem Inv.write {x e : Addr} {o : HO} {t' : Nat} (I : Inv X pins σ H s) (mu : Mut (H x)) (he : e = x ∨ H e = some (.own x)) (k : ∀ b u, b ≠ e → s.heap.get? b = some u → h'.get? b = some u) (heo : ∃ u, h'.get? e = some u)
    (new : ObjOk X.prog X.w (upd H x o) h' x o) : Inv X pins σ (upd H x o) { s with heap := h', toks := t' } := I.un (Un.write mu he k heo) (I.hok.write mu he k heo new)
theorem Inv.pins_of {pins' : List (Addr × Obj)} (I : Inv X pins σ H s) (h : ∀ p ∈ pins', s.heap.get? p.1 = some p.2 ∧ H p.1 = none ∧ p.1 ≠ X.env.locals ∧ p.1 ∉ X.fs ∧ ∀ v, p.2.data ≠ .cell v) : Inv X pins' σ H s :=
  ⟨I.ok, I.os, I.bare, I.base, I.loc, I.cell, I.free, I.freeC, fun p hp => (List.mem_append.mp hp).elim (fun z => I.pin p (List.mem_append_left _ z)) (h p), I.hok, I.len⟩

theorem nodup_ix {N : List Str} (hN : N.Nodup) {i j : Nat} {x : Str} (a : N[i]? = some x) (b : N[j]? = some x) : i = j := by
  obtain ⟨h1, e1⟩ := List.getElem?_eq_some_iff.mp a
  obtain ⟨h2, e2⟩ := List.getElem?_eq_some_iff.mp b
  exact (List.getElem_inj hN).mp (e1.trans e2.symm)

theorem store_ok2 {M : Model} {A : Around} {E : Value → Shared → Prop} {i : Nat} {x : Str} {v : V} {u : Value} {Q : Unit → Shared → Prop} (I : Inv X pins σ H s) (hN : X.N.Nodup) (hi : X.N[i]? = some x) (hx : Loc X.env.scope x) (r : RelV v u)
    (h : ∀ s', Inv X pins (σ.set i (some v)) H s' → (∃ a, Heap.SameBut a s.heap s'.heap ∧ (a = X.env.locals ∨ X.env.cells.lookup x = some a)) → Q () s') (hf : autoParam (X.fn x = true ∨ X.env.scope.names.lookup x = some .local) Internal.aut0._auto_1) : wpAny M A (storeName X.env x u) Q E s := by
  obtain ⟨m, hn, hl⟩ := id I.loc
  have hcls : (X.env.scope.kind == .class || (X.env.scope.kind == .module && X.env.locals != X.env.globals)) = false := by rw [I.ok.kind]; rfl
  have hiσ : i < σ.length := by rw [I.len]; exact (List.getElem?_eq_some_iff.mp hi).1
  have cne := I.cne
  have tracked : ∀ {a : Addr} {h' : Heap}, (∃ o, s.heap.get? a = some o ∧ H a = none) → Heap.SameBut a s.heap h' → HOk X.prog X.w H h' := fun {a h'} ha hs b ob e => by
    obtain ⟨_, _, hfree⟩ := ha
    refine (I.hok b ob e).stay (fun c w' hc q => (hs.2 c ?_).trans q) (fun _ q => q) fun _ _ q => q
    rintro rfl
    rcases hc with rfl | hc
    · rw [hfree] at e; cases e
    · rw [hfree] at hc; cases hc
  rcases hx with hk | hk
  · refine wpAny_storeName_local hk hn (fun h' hn' hs => ?_) hcls
    obtain ⟨oL, _, _, hoL, _⟩ := id hn
    refine h _ ⟨I.ok, I.os, I.bare, ⟨fun b o e n hb hx => ?_, fun b o e n hb hx => ?_, I.base.free, fun b o e hx => ?_, I.base.tups, I.base.frzs, I.base.tbls⟩, ⟨_, hn', fun j y v' e1 e2 e3 => ?_⟩, fun y c e => ?_, I.free, I.freeC, fun p hp => ?_, tracked ⟨oL, hoL, I.free⟩ hs, by simpa using I.len⟩ ⟨_, hs, .inl rfl⟩
    · exact (hs.2 b (Nat.ne_of_lt (Nat.lt_of_lt_of_le (Heap.lt_size e) I.ok.above))).trans (I.base.keep b o e n hb hx)
    · obtain ⟨sl, e1⟩ := I.base.slot b o e n hb hx
      exact ⟨sl, (hs.2 b (Nat.ne_of_lt (Nat.lt_of_lt_of_le (Heap.lt_size e) I.ok.above))).trans e1⟩
    · obtain ⟨o', e1⟩ := I.base.there b o e hx
      exact ⟨o', (hs.2 b (Nat.ne_of_lt (Nat.lt_of_lt_of_le (Heap.lt_size e) I.ok.above))).trans e1⟩
    · by_cases hj : j = i
      · subst hj
        rw [hi] at e1; cases e1
        rw [List.getElem?_set_self hiσ] at e2
        cases e2
        exact ⟨u, r, .inl ⟨hk, by simp⟩⟩
      · rw [List.getElem?_set_ne (Ne.symm hj)] at e2
        obtain ⟨u', r', q⟩ := hl j y v' e1 e2 e3
        refine ⟨u', r', ?_⟩
        rcases q with ⟨k, e⟩ | ⟨k, c, e, z⟩
        · refine .inl ⟨k, ?_⟩
          have : y ≠ x := fun e => hj (nodup_ix hN e1 (e ▸ hi))
          simp [this, e]
        · exact .inr ⟨k, c, e, z.sameBut hs (cne y c e)⟩
    · obtain ⟨w', z⟩ := I.cell y c e
      exact ⟨w', z.sameBut hs (cne y c e)⟩
    · obtain ⟨e, n, ne, nf, d⟩ := I.pin p hp
      exact ⟨(hs.2 p.1 ne).trans e, n, ne, nf, d⟩
  · have hfn : X.fn x = true := by
      rcases hf with z | z
      · exact z
      · rw [z] at hk; cases hk
    obtain ⟨c, hc⟩ := I.ok.has x (.inl hk)
    obtain ⟨w', z⟩ := I.cell x c hc
    refine wpAny_storeName_cell I.ok.kind hk hc z (fun h' hc' hs => ?_)
    obtain ⟨oc, hoc, hocd⟩ := id z
    refine h { s with heap := h' } ⟨I.ok, I.os, I.bare, ⟨fun b o e n hb hx => ?_, fun b o e n hb hx => ?_, I.base.free, fun b o e hx => ?_, I.base.tups, I.base.frzs, I.base.tbls⟩, ⟨m, hn.sameBut hs (Ne.symm (cne x c hc)), fun j y v' e1 e2 e3 => ?_⟩, fun y c' e => ?_, I.free, I.freeC, fun p hp => ?_, tracked ⟨oc, hoc, I.freeC x c hc⟩ hs, by simpa using I.len⟩ ⟨c, hs, .inr hc⟩
    · exact (hs.2 b (Nat.ne_of_lt (Nat.lt_of_lt_of_le (Heap.lt_size e) (I.ok.cab x c hfn hc)))).trans (I.base.keep b o e n hb hx)
    · obtain ⟨sl, e1⟩ := I.base.slot b o e n hb hx
      exact ⟨sl, (hs.2 b (Nat.ne_of_lt (Nat.lt_of_lt_of_le (Heap.lt_size e) (I.ok.cab x c hfn hc)))).trans e1⟩
    · obtain ⟨o', e1⟩ := I.base.there b o e hx
      exact ⟨o', (hs.2 b (Nat.ne_of_lt (Nat.lt_of_lt_of_le (Heap.lt_size e) (I.ok.cab x c hfn hc)))).trans e1⟩
    · by_cases hj : j = i
      · subst hj
        rw [hi] at e1; cases e1
        rw [List.getElem?_set_self hiσ] at e2
        cases e2
        exact ⟨u, r, .inr ⟨.inl hk, c, hc, hc'⟩⟩
      · rw [List.getElem?_set_ne (Ne.symm hj)] at e2
        obtain ⟨u', r', q⟩ := hl j y v' e1 e2 e3
        refine ⟨u', r', ?_⟩
        rcases q with q | ⟨k, c', e, z'⟩
        · exact .inl q
        · refine .inr ⟨k, c', e, z'.sameBut hs ?_⟩
          rintro rfl
          exact hj (nodup_ix hN e1 (I.ok.inj _ _ _ e hc ▸ hi))
    · by_cases hcc : c' = c
      · subst hcc; exact ⟨_, hc'⟩
      · obtain ⟨w2, z2⟩ := I.cell y c' e
        exact ⟨w2, z2.sameBut hs hcc⟩
    · obtain ⟨e, n, ne, nf, d⟩ := I.pin p hp
      refine ⟨(hs.2 p.1 ?_).trans e, n, ne, nf, d⟩
      intro q
      rw [q, hoc] at e
      have q' : oc = p.2 := Option.some.inj e
      exact d w' (by rw [← q']; exact hocd)
theorem store_ok {M : Model} {A : Around} {E : Value → Shared → Prop} {i : Nat} {x : Str} {v : V} {u : Value} {Q : Unit → Shared → Prop} (I : Inv X pins σ H s) (hN : X.N.Nodup) (hi : X.N[i]? = some x) (hx : Loc X.env.scope x) (r : RelV v u)
    (h : ∀ s', Inv X pins (σ.set i (some v)) H s' → Q () s') (hf : autoParam (X.fn x = true ∨ X.env.scope.names.lookup x = some .local) Internal.aut0._auto_1) : wpAny M A (storeName X.env x u) Q E s :=
  store_ok2 I hN hi hx r (fun s' I' _ => h s' I') hf
theorem Inv.call' {s' : Shared} {ch : List Addr} (I : Inv X pins σ H s) (ho : s'.os = s.os) (u : Un (frs X.stack) ch H H' s.heap s'.heap) (hok : HOk X.prog X.w H' s'.heap) (hg : AllBare s'.gens)
    (hch : ∀ b ∈ ch, (b ∈ X.ex ∨ X.s₀.heap.objs.size ≤ b) ∧ b ≠ X.env.locals ∧ (∀ x c, X.env.cells.lookup x = some c → c ≠ b) ∧ ∀ p ∈ X.pn ++ pins, p.1 ≠ b) : Inv X pins σ H' s' := by
  obtain ⟨h', g', d', t', o'⟩ := s'
  have e : o' = s.os := ho
  subst e
  exact I.call (g' := g') (t' := t') (d' := d') u hok hg hch
end

noncomputable abbrev XK := Value → Option Addr → Hp → Prop
noncomputable abbrev St := List (Option V)
noncomputable abbrev VK := V → Hp → Prop
noncomputable abbrev TE := St → Hp → VK → Prop
noncomputable abbrev TT := St → Hp → (Bool → Hp → Prop) → Prop
noncomputable abbrev TA := St → Hp → (List V → Hp → Prop) → Prop
set_option genInjectivity false in
set_option genSizeOf false in
structure Ends where
  nx : St → Hp → Prop
  rt : VK
  bk : St → Hp → Prop := fun _ _ => False
  ct : St → Hp → Prop := fun _ _ => False
noncomputable abbrev TS := Ends → St → Hp → Prop

noncomputable def EP (X : Cx) (pins : List (Addr × Obj)) (σ : St) (Q : VK) (u : Value) (s' : Shared) : Prop := ∃ v H', Inv X pins σ H' s' ∧ RelV v u ∧ Q v H'
noncomputable def TP (X : Cx) (pins : List (Addr × Obj)) (σ : St) (Q : Bool → Hp → Prop) (b : Bool) (s' : Shared) : Prop := ∃ H', Inv X pins σ H' s' ∧ Q b H'
noncomputable def AP (X : Cx) (pins : List (Addr × Obj)) (σ : St) (Q : List V → Hp → Prop) (us : List Value) (s' : Shared) : Prop := ∃ vs H', Inv X pins σ H' s' ∧ Vals vs us ∧ Q vs H'
noncomputable def SP (X : Cx) (pins : List (Addr × Obj)) (D : Ends) (f : Flow) (s' : Shared) : Prop :=
  match f with
  | .next => ∃ σ' H', Inv X pins σ' H' s' ∧ D.nx σ' H'
  | .brk => ∃ σ' H', Inv X pins σ' H' s' ∧ D.bk σ' H'
  | .cont => ∃ σ' H', Inv X pins σ' H' s' ∧ D.ct σ' H'
  | .ret u => ∃ v σ' H', Inv X pins σ' H' s' ∧ RelV v u ∧ D.rt v H'

noncomputable def PE (X : Cx) (e : Expr) (t : TE) : Prop :=
  ∀ (pins : List (Addr × Obj)) (s : Shared) (σ : St) (H : Hp) (Q : VK), Inv X pins σ H s → t σ H Q → wpAny (model X.prog X.w) X.A (eval e X.env) (EP X pins σ Q) X.xe s
noncomputable def PT (X : Cx) (e : Expr) (t : TT) : Prop :=
  ∀ (pins : List (Addr × Obj)) (s : Shared) (σ : St) (H : Hp) (Q : Bool → Hp → Prop), Inv X pins σ H s → t σ H Q → wpAny (model X.prog X.w) X.A (isTrue e X.env (eval e X.env)) (TP X pins σ Q) X.xe s
noncomputable def PW (X : Cx) (e : Expr) (t : TT) : Prop :=
  ∀ (whole : Sem Value) (pins : List (Addr × Obj)) (s : Shared) (σ : St) (H : Hp) (Q : Bool → Hp → Prop), Inv X pins σ H s → t σ H Q → wpAny (model X.prog X.w) X.A (isTrue e X.env whole) (TP X pins σ Q) X.xe s
theorem PW.pt {X : Cx} {e : Expr} {t : TT} (h : PW X e t) : PT X e t := h _
noncomputable def PA (X : Cx) (es : List Expr) (t : TA) : Prop :=
  ∀ (pos : Pos) (pins : List (Addr × Obj)) (s : Shared) (σ : St) (H : Hp) (Q : List V → Hp → Prop), Inv X pins σ H s → t σ H Q → wpAny (model X.prog X.w) X.A (spliced (backTo pos (starEach es X.env))) (AP X pins σ Q) X.xe s
noncomputable def PS (X : Cx) (st : Stmt) (t : TS) : Prop :=
  ∀ (pins : List (Addr × Obj)) (s : Shared) (σ : St) (H : Hp) (D : Ends), Inv X pins σ H s → t D σ H → wpAny (model X.prog X.w) X.A (exec st X.env) (SP X pins D) X.xe s
noncomputable def PSs (X : Cx) (st : List Stmt) (t : TS) : Prop :=
  ∀ (pins : List (Addr × Obj)) (s : Shared) (σ : St) (H : Hp) (D : Ends), Inv X pins σ H s → t D σ H → wpAny (model X.prog X.w) X.A (execs st X.env) (SP X pins D) X.xe s
theorem thn {α : Type} {t : Sem α} {Q Q' : α → Shared → Prop} {M : Model} {A : Around} {E : Value → Shared → Prop} {s : Shared} (h : wpAny M A t Q E s) (hQ : ∀ a s, Q a s → Q' a s) : wpAny M A t Q' E s := wpAny_mono h hQ fun _ _ x => x
end Internal

namespace Internal
open PySem PySem.Spec PyProof.Rows
section
variable {X : Cx}

noncomputable def tVar (i : Nat) : TE := fun σ H Q => ∃ v, σ[i]? = some (some v) ∧ Q v H
noncomputable abbrev tC (v : V) : TE := fun _ H Q => Q v H
theorem pe_var {i : Nat} {x : Str} {pos : Pos} (hN : X.N[i]? = some x) (hv : Vis X.env.scope x) (hd : autoParam ((x == ("__debug__" : Str)) = false) Internal.aut1._auto_1) (hcd : autoParam ((x == ("__classdict__" : Str)) = false) Internal.aut1._auto_1) : PE X (.Name x pos) (tVar i) := by
  intro pins s σ H Q I h
  obtain ⟨v, e, h⟩ := h
  obtain ⟨m, hn, hl⟩ := I.loc
  obtain ⟨u, r, l⟩ := hl i x v hN e hv
  have fin : EP X pins σ Q u s := ⟨v, H, I, r, h⟩
  rcases l with ⟨hk, hm⟩ | ⟨hk, c, hc, hcell⟩
  · exact wpAny_Name (wpAny_loadName_local I.ok.kind hk hn hm fin) hd
  · rcases hk with hk | hk
    · exact wpAny_Name (wpAny_loadName_cell I.ok.kind hk hc hcell fin) hd
    · exact wpAny_Name (wpAny_loadName_free I.ok.kind hk hc hcell fin hcd) hd
theorem pe_int {i j pos} : PE X (.Constant (.int i) j pos) (tC (.int i)) := fun _ _ _ H _ I h => wpAny_Constant_int ⟨.int i, H, I.tok _, ⟨_, rfl⟩, h⟩
theorem pe_bl {b j pos} : PE X (.Constant (.bool b) j pos) (tC (.bl b)) := fun _ _ _ H _ I h => Constant_bool ⟨.bl b, H, I, rfl, h⟩
theorem pe_non {j pos} : PE X (.Constant .none j pos) (tC .non) := fun _ _ _ H _ I h => Constant_none ⟨.non, H, I, rfl, h⟩
theorem pe_str {x j pos} : PE X (.Constant (.str x) j pos) (tC (.str x)) := fun _ _ _ H _ I h => Calls.Constant_str ⟨.str x, H, I.tok _, ⟨_, rfl⟩, h⟩

noncomputable def Gl (X : Cx) (x : Str) : Prop := X.env.kindOf x = some .globalImplicit
theorem ld_glob {E : Value → Shared → Prop} {pins : List (Addr × Obj)} {s : Shared} {σ : St} {H : Hp} {x : Str} {u : Value} {pos : Pos} {Q : Value → Shared → Prop} (I : Inv X pins σ H s) (hg : Gl X x) (hm : X.mg x = some u) (h : Q u s)
    (hd : autoParam ((x == ("__debug__" : Str)) = false) Internal.aut1._auto_1) : wpAny (model X.prog X.w) X.A (eval (.Name x pos) X.env) Q E s :=
  Calls.Name_function_global I.ok.kind hg (Calls.loadGlobal_global (by rw [I.ok.glob]; exact I.mod.glob.keeps I.bk) hm h) hd
theorem ld_blt {E : Value → Shared → Prop} {pins : List (Addr × Obj)} {s : Shared} {σ : St} {H : Hp} {x : Str} {u : Value} {pos : Pos} {Q : Value → Shared → Prop} (I : Inv X pins σ H s) (hg : Gl X x) (hm : X.mg x = none) (hv : bootBuiltins x = some u) (h : Q u s)
    (hn : autoParam (x ≠ "__name__") Internal.aut1._auto_1) (hd : autoParam ((x == ("__debug__" : Str)) = false) Internal.aut1._auto_1) : wpAny (model X.prog X.w) X.A (eval (.Name x pos) X.env) Q E s := by
  obtain ⟨mb, h1, h2⟩ := I.mod.blt
  exact Calls.Name_function_global I.ok.kind hg (Calls.loadGlobal_builtin (by rw [I.ok.glob]; exact I.mod.glob.keeps I.bk) hm (by rw [I.ok.blt]; exact h1.keeps I.bk) ((h2 x hn).trans hv) h) hd
theorem pe_glob {x : Str} {v : V} {u : Value} {pos : Pos} (hg : Gl X x) (hm : X.mg x = some u) (r : RelV v u) (hd : autoParam ((x == ("__debug__" : Str)) = false) Internal.aut1._auto_1) : PE X (.Name x pos) (tC v) :=
  fun _ _ _ H _ I h => ld_glob I hg hm ⟨v, H, I, r, h⟩ hd
theorem pe_bltn {x : Str} {v : V} {u : Value} {pos : Pos} (hg : Gl X x) (hm : X.mg x = none) (hv : bootBuiltins x = some u) (r : RelV v u) (hn : autoParam (x ≠ "__name__") Internal.aut1._auto_1) (hd : autoParam ((x == ("__debug__" : Str)) = false) Internal.aut1._auto_1) : PE X (.Name x pos) (tC v) :=
  fun _ _ _ H _ I h => ld_blt I hg hm hv ⟨v, H, I, r, h⟩ hn hd

noncomputable def t2I (ta tb : TE) (k : Int → Int → Hp → Prop) : St → Hp → Prop := fun σ H => ta σ H fun x H1 => tb σ H1 fun y H2 => ∃ i j, x = .int i ∧ y = .int j ∧ k i j H2
variable {a b : Expr} {ta tb : TE} {pos : Pos}
noncomputable def tCmp (p : Int → Int → Bool) (ta tb : TE) : TE := fun σ H Q => t2I ta tb (fun i j H2 => Q (.bl (p i j)) H2) σ H
noncomputable abbrev tLt : TE → TE → TE := tCmp fun i j => decide (i < j)
noncomputable abbrev tLe : TE → TE → TE := tCmp fun i j => decide (i ≤ j)
noncomputable abbrev tGt : TE → TE → TE := tCmp fun i j => decide (j < i)
noncomputable abbrev tGe : TE → TE → TE := tCmp fun i j => decide (j ≤ i)
noncomputable abbrev tEqI : TE → TE → TE := tCmp fun i j => decide (i = j)
noncomputable abbrev tNeI : TE → TE → TE := tCmp fun i j => !decide (i = j)
variable {tA tB' : TT} {rest : List Expr}
noncomputable abbrev tAnd (t u : TT) : TT := fun σ H Q => t σ H fun c H1 => if c = true then u σ H1 Q else Q false H1
noncomputable abbrev tOr (t u : TT) : TT := fun σ H Q => t σ H fun c H1 => if c = true then Q true H1 else u σ H1 Q
noncomputable abbrev tNot (t : TT) : TT := fun σ H Q => t σ H fun c H1 => Q (!c) H1
theorem pw_and1 (ha : PT X a tA) : PW X (.BoolOp .And [a] pos) tA := by
  intro wh pins s σ H Q I h
  refine isTrue_and (thn (ha pins s σ H Q I h) fun c s1 e => ?_)
  cases c with
  | true => exact isTrue_and_nil e
  | false => exact e
theorem pw_or1 (ha : PT X a tA) : PW X (.BoolOp .Or [a] pos) tA := by
  intro wh pins s σ H Q I h
  refine isTrue_or (thn (ha pins s σ H Q I h) fun c s1 e => ?_)
  cases c with
  | false => exact isTrue_or_nil e
  | true => exact e
theorem pw_and (ha : PT X a tA) (hb : PW X (.BoolOp .And (b :: rest) pos) tB') : PW X (.BoolOp .And (a :: b :: rest) pos) (tAnd tA tB') := by
  intro wh pins s σ H Q I h
  refine isTrue_and (thn (ha pins s σ H _ I h) fun c s1 ⟨H1, I1, q1⟩ => ?_)
  cases c with
  | true => exact hb wh pins s1 σ H1 Q I1 q1
  | false => exact ⟨H1, I1, q1⟩
theorem pw_or (ha : PT X a tA) (hb : PW X (.BoolOp .Or (b :: rest) pos) tB') : PW X (.BoolOp .Or (a :: b :: rest) pos) (tOr tA tB') := by
  intro wh pins s σ H Q I h
  refine isTrue_or (thn (ha pins s σ H _ I h) fun c s1 ⟨H1, I1, q1⟩ => ?_)
  cases c with
  | true => exact ⟨H1, I1, q1⟩
  | false => exact hb wh pins s1 σ H1 Q I1 q1
theorem pt_not (ha : PT X a tA) : PT X (.UnaryOp .Not a pos) (tNot tA) := by
  intro pins s σ H Q I h
  exact isTrue_not (ha pins s σ H (fun c H1 => Q (!c) H1) I h)
noncomputable def tAndV (ta tb : TE) : TE := fun σ H Q => ta σ H fun x H1 => ∃ c, x = .bl c ∧ if c = true then tb σ H1 Q else Q (.bl false) H1
theorem pe_one {op} {t : TE} (h : PE X a t) : PE X (.BoolOp op [a] pos) t := fun pins s σ H Q I hw => BoolOp_one (h pins s σ H Q I hw)
theorem pe_and (ha : PE X a ta) (hb : PE X (.BoolOp .And (b :: rest) pos) tb) : PE X (.BoolOp .And (a :: b :: rest) pos) (tAndV ta tb) := by
  intro pins s σ H Q I h
  refine BoolOp_and (thn (ha pins s σ H _ I h) fun v s1 zz => ?_)
  obtain ⟨x, H1, I1, r1, q1⟩ := zz
  obtain ⟨c, rfl, q1⟩ := q1
  cases r1
  refine wpAny_truthy_bool ?_
  cases c with
  | true => exact hb pins s1 σ H1 Q I1 q1
  | false => exact ⟨.bl false, H1, I1, rfl, q1⟩
noncomputable abbrev tIf (t : TT) (ta tb : TE) : TE := fun σ H Q => t σ H fun c H1 => if c = true then ta σ H1 Q else tb σ H1 Q
end
end Internal

namespace Internal
open PySem PySem.Spec PyProof.Rows

noncomputable def SqL (K : PySem.W.Frag) (H : Hp) (a : Addr) (xs : List V) : Prop :=
  Rd H a (.lst xs) ∨
    ∃ (o : Obj) (its : Array Value) (n : Nat), K.lookup a = some o ∧ o.cls = .type "list" ∧ o.dict = none ∧ o.data = .seq its n ∧ its.size ≤ sizeLine ∧ Vals xs its.toList
noncomputable def SqT (K : PySem.W.Frag) (H : Hp) (a : Addr) (xs : List V) : Prop :=
  Rd H a (.tup xs) ∨
    ∃ (o : Obj) (its : Array Value) (n : Nat), K.lookup a = some o ∧ o.cls = .type "tuple" ∧ o.data = .seq its n ∧ its.size ≤ sizeLine ∧ Vals xs its.toList
noncomputable def absV : Value → Option V
  | .none => some .non
  | .bool b => some (.bl b)
  | .int i _ => some (.int i)
  | .str x _ => some (.str x)
  | .bytes b _ => some (.byt b)
  | .float b _ => some (.flt b)
  | .ref a => some (.ref a)
  | .type n => some (.ty n)
  | _ => none
theorem RelV.abs {x : V} {u : Value} (r : RelV x u) : absV u = some x := by
  cases x with
  | non => cases r; rfl
  | bl _ => cases r; rfl
  | int _ => obtain ⟨t, rfl⟩ := r; rfl
  | str _ => obtain ⟨t, rfl⟩ := r; rfl
  | byt _ => obtain ⟨t, rfl⟩ := r; rfl
  | flt _ => obtain ⟨t, rfl⟩ := r; rfl
  | ref _ => cases r; rfl
  | ty _ => cases r; rfl
theorem RelV.inj {x y : V} {u : Value} (r : RelV x u) (q : RelV y u) : x = y := Option.some.inj (r.abs.symm.trans q.abs)
theorem Vals.inj : ∀ {xs ys : List V} {us : List Value}, Vals xs us → Vals ys us → xs = ys
  | _, _, _, .nil, .nil => rfl
  | _, _, _, .cons r t, .cons r' t' => by rw [r.inj r', Vals.inj t t']
section
variable {X : Cx} {pins : List (Addr × Obj)} {σ : St} {H : Hp} {s : Shared} {a : Addr} {xs ys : List V}
theorem SqL.of {K : PySem.W.Frag} (h : H a = some (.lst xs)) : SqL K H a xs := .inl (.inl h)
theorem SqT.of {K : PySem.W.Frag} (h : H a = some (.tup xs)) : SqT K H a xs := .inl (.inl h)
theorem Inv.list (I : Inv X pins σ H s) (h : SqL X.K H a xs) : ∃ its : List Value, Vals xs its ∧ PlainL s.heap a its.toArray ∧ xs.length ≤ sizeLine := by
  rcases h with h | ⟨o, its, n, hk, hc, hd, hs, hz, r⟩
  · obtain ⟨z, its, n, r, e⟩ := h.ok I.hok
    exact ⟨its, r, ⟨_, n, e, rfl, rfl, rfl⟩, z⟩
  · refine ⟨its.toList, r, ⟨o, n, I.kIn a o hk, hc, hd, by simpa using hs⟩, ?_⟩
    have e := r.length
    simp only [Array.length_toList] at e
    omega
theorem Inv.tuple (I : Inv X pins σ H s) (h : SqT X.K H a xs) : ∃ its : List Value, Vals xs its ∧ IsTup s.heap a its.toArray ∧ xs.length ≤ sizeLine := by
  rcases h with h | ⟨o, its, n, hk, hc, hs, hz, r⟩
  · obtain ⟨z, its, r, p⟩ := h.ok I.hok
    exact ⟨its, r, p, z⟩
  · refine ⟨its.toList, r, ⟨o, I.kIn a o hk, hc, n, by simpa using hs⟩, ?_⟩
    have e := r.length
    simp only [Array.length_toList] at e
    omega
theorem Inv.list_inj (I : Inv X pins σ H s) (h : SqL X.K H a xs) (h' : SqL X.K H a ys) : xs = ys := by
  obtain ⟨its, r, ⟨o, n, e, _, _, d⟩, _⟩ := I.list h
  obtain ⟨its', r', ⟨o', n', e', _, _, d'⟩, _⟩ := I.list h'
  rw [e] at e'; cases e'
  rw [d] at d'
  injection d' with d1 _
  have : its = its' := by simpa using congrArg Array.toList d1
  subst this
  exact r.inj r'
theorem Inv.tuple_inj (I : Inv X pins σ H s) (h : SqT X.K H a xs) (h' : SqT X.K H a ys) : xs = ys := by
  obtain ⟨its, r, ⟨o, e, _, n, d⟩, _⟩ := I.tuple h
  obtain ⟨its', r', ⟨o', e', _, n', d'⟩, _⟩ := I.tuple h'
  rw [e] at e'; cases e'
  rw [d] at d'
  injection d' with d1 _
  have : its = its' := by simpa using congrArg Array.toList d1
  subst this
  exact r.inj r'
end

noncomputable abbrev Cx.wish (X : Cx) (E : Value → Shared → Prop) : Cx := { X with xe := E }
noncomputable abbrev Cx.nox (X : Cx) : Cx := X.wish fun _ _ => False
theorem Cx.Ok.wish {X : Cx} (ok : X.Ok) (E : Value → Shared → Prop) : (X.wish E).Ok :=
  ⟨ok.mod, ok.kind, ok.glob, ok.blt, ok.above, ok.inj, ok.has, ok.cab, ok.hd, ok.frames, ok.stk, ok.exf, ok.bs, ok.bsz, ok.noex, ok.exfs, ok.funs, ok.frf⟩
theorem Cx.Ok.unwish {X : Cx} {E : Value → Shared → Prop} (ok : (X.wish E).Ok) : X.Ok :=
  ⟨ok.mod, ok.kind, ok.glob, ok.blt, ok.above, ok.inj, ok.has, ok.cab, ok.hd, ok.frames, ok.stk, ok.exf, ok.bs, ok.bsz, ok.noex, ok.exfs, ok.funs, ok.frf⟩
section
variable {X : Cx} {pins : List (Addr × Obj)} {σ : St} {H : Hp} {s : Shared} {E : Value → Shared → Prop}
theorem Inv.wish (I : Inv X pins σ H s) (E : Value → Shared → Prop) : Inv (X.wish E) pins σ H s := ⟨I.ok.wish E, I.os, I.bare, I.base, I.loc, I.cell, I.free, I.freeC, I.pin, I.hok, I.len⟩
theorem Inv.unwish (I : Inv (X.wish E) pins σ H s) : Inv X pins σ H s := ⟨I.ok.unwish, I.os, I.bare, I.base, I.loc, I.cell, I.free, I.freeC, I.pin, I.hok, I.len⟩
theorem SP.unwish {D : Ends} {f : Flow} {s' : Shared} (h : SP (X.wish E) pins D f s') : SP X pins D f s' := by
  cases f with
  | next => obtain ⟨σ', H', I, q⟩ := h; exact ⟨σ', H', I.unwish, q⟩
  | brk => obtain ⟨σ', H', I, q⟩ := h; exact ⟨σ', H', I.unwish, q⟩
  | cont => obtain ⟨σ', H', I, q⟩ := h; exact ⟨σ', H', I.unwish, q⟩
  | ret u => obtain ⟨v, σ', H', I, r, q⟩ := h; exact ⟨v, σ', H', I.unwish, r, q⟩
theorem PSs.nox {st : List Stmt} {t : TS} (h : PSs X.nox st t) : PSs X st t := fun pins s σ H D I hw =>
  wpAny_mono (h pins s σ H D (I.wish _) hw) (fun _ _ q => q.unwish) fun _ _ z => False.elim z
end

section
variable {X : Cx} {st : Stmt} {rest : List Stmt} {t u : TS} {e : Expr} {te : TE} {pos : Pos}
noncomputable abbrev tNext : TS := fun D σ H => D.nx σ H
noncomputable abbrev tSeq (t u : TS) : TS := fun D σ H => t { D with nx := u D } σ H
theorem pss_nil : PSs X [] tNext := fun _ _ σ H _ I h => wpAny_execs_nil ⟨σ, H, I, h⟩
theorem pss_cons (h1 : PS X st t) (h2 : PSs X rest u) : PSs X (st :: rest) (tSeq t u) := by
  intro pins s σ H D I h
  refine wpAny_execs_cons (thn (h1 pins s σ H { D with nx := u D } I h) fun f s1 q => ?_)
  cases f with
  | next =>
    obtain ⟨σ', H', I', q⟩ := q
    exact h2 pins s1 σ' H' D I' q
  | ret v => exact q
  | brk => exact q
  | cont => exact q
theorem pss_one (h1 : PS X st t) : PSs X [st] t := by
  intro pins s σ H D I h
  refine wpAny_execs_cons (thn (h1 pins s σ H D I h) fun f s1 q => ?_)
  cases f with
  | next => exact wpAny_execs_nil q
  | ret v => exact q
  | brk => exact q
  | cont => exact q
noncomputable abbrev tBreak : TS := fun D σ H => D.bk σ H
noncomputable abbrev tCont : TS := fun D σ H => D.ct σ H
theorem Inv.quiet {pins : List (Addr × Obj)} {σ : St} {H : Hp} {s : Shared} (I : Inv X pins σ H s) : interactive X.env = false := by simp [interactive, I.ok.kind]
noncomputable abbrev tDrop (te : TE) : TS := fun D σ H => te σ H fun _ H1 => D.nx σ H1
theorem ps_expr (he : PE X e te) (hs : autoParam (swapsWith e none pos.line X.env = pure false) Internal.aut2._auto_1) : PS X (.Expr e pos) (tDrop te) := by
  intro pins s σ H D I h
  exact wpAny_Expr_any (thn (he pins s σ H _ I h) fun v s1 ⟨x, H1, I1, r1, q1⟩ => ⟨σ, H1, I1, q1⟩) I.quiet hs
noncomputable abbrev tRet (te : TE) : TS := fun D σ H => te σ H D.rt
theorem ps_ret (he : PE X e te) : PS X (.Return (some e) pos) (tRet te) := by
  intro pins s σ H D I h
  exact wpAny_Return_some (thn (he pins s σ H _ I h) fun v s1 ⟨x, H1, I1, r1, q1⟩ => ⟨x, σ, H1, I1, r1, q1⟩)
noncomputable abbrev tRetN : TS := fun D _ H => D.rt .non H
noncomputable abbrev tIfS (c : TT) (t u : TS) : TS := fun D σ H => c σ H fun b H1 => if b = true then t D σ H1 else u D σ H1
theorem ps_if {c : Expr} {a b : List Stmt} {tc : TT} (hc : PT X c tc) (ha : PSs X a t) (hb : PSs X b u) : PS X (.If c a b pos) (tIfS tc t u) := by
  intro pins s σ H D I h
  refine wpAny_If (thn (hc pins s σ H _ I h) fun d s1 ⟨H1, I1, q1⟩ => ?_)
  cases d with
  | true => exact ha pins s1 σ H1 D I1 q1
  | false => exact hb pins s1 σ H1 D I1 q1
end

noncomputable abbrev TG := V → St → Hp → (St → Hp → Prop) → Prop
noncomputable abbrev TGs := List V → St → Hp → (St → Hp → Prop) → Prop
noncomputable def PG (X : Cx) (target : Expr) (t : TG) : Prop :=
  ∀ (pins : List (Addr × Obj)) (s : Shared) (σ : St) (H : Hp) (v : V) (u : Value) (Q : St → Hp → Prop), Inv X pins σ H s → RelV v u → t v σ H Q →
    wpAny (model X.prog X.w) X.A (assign target X.env u) (fun _ s' => ∃ σ' H', Inv X pins σ' H' s' ∧ Q σ' H') X.xe s
noncomputable def PGs (X : Cx) (ts : List Expr) (t : TGs) : Prop :=
  ∀ (pins : List (Addr × Obj)) (s : Shared) (σ : St) (H : Hp) (vs : List V) (us : List Value) (Q : St → Hp → Prop), Inv X pins σ H s → Vals vs us → t vs σ H Q →
    wpAny (model X.prog X.w) X.A (assignInOrder ((assignEach ts X.env).map (·.2)) us) (fun _ s' => ∃ σ' H', Inv X pins σ' H' s' ∧ Q σ' H') X.xe s
noncomputable abbrev TSet := V → V → V → Hp → (Hp → Prop) → Prop
noncomputable def PSet (X : Cx) (t : TSet) : Prop :=
  ∀ (pins : List (Addr × Obj)) (s : Shared) (σ : St) (H : Hp) (o i v : V) (ov iv u : Value) (Q : Hp → Prop), Inv X pins σ H s → RelV o ov → RelV i iv → RelV v u → t o i v H Q →
    wpAny (model X.prog X.w) X.A (setItem ov iv u) (fun _ s' => ∃ H', Inv X pins σ H' s' ∧ Q H') X.xe s
noncomputable abbrev TIp := V → V → Hp → VK → Prop
section
variable {X : Cx} {pos : Pos}
noncomputable abbrev gName (i : Nat) : TG := fun v σ H Q => Q (σ.set i (some v)) H
theorem pg_name {i : Nat} {x : Str} (hN : X.N.Nodup) (hi : X.N[i]? = some x) (hx : Loc X.env.scope x) (hf : autoParam (X.fn x = true ∨ X.env.scope.names.lookup x = some .local) Internal.aut0._auto_1) : PG X (.Name x pos) (gName i) := by
  intro pins s σ H v u Q I r h
  exact wpAny_assign_Name (store_ok I hN hi hx r (fun s' I' => ⟨_, H, I', h⟩) hf)
noncomputable def gNil : TGs := fun vs σ H Q => vs = [] ∧ Q σ H
noncomputable def gCons (t : TG) (u : TGs) : TGs := fun vs σ H Q => ∃ v r, vs = v :: r ∧ t v σ H fun σ' H' => u r σ' H' Q
theorem pgs_nil : PGs X [] gNil := by
  intro pins s σ H vs us Q I r h
  obtain ⟨e, h⟩ := h
  subst e
  cases r
  exact assignInOrder_nil ⟨σ, H, I, h⟩
theorem pgs_cons {e : Expr} {es : List Expr} {t : TG} {u : TGs} (h1 : PG X e t) (h2 : PGs X es u)
    (hs : autoParam ((assignEach (e :: es) X.env).map (·.2) = assign e X.env :: (assignEach es X.env).map (·.2)) Internal.aut2._auto_1) : PGs X (e :: es) (gCons t u) := by
  intro pins s σ H vs us Q I r h
  obtain ⟨v, vr, e1, h⟩ := h
  subst e1
  cases r with
  | cons r rr =>
    rw [hs]
    refine assignInOrder_cons (thn (h1 pins s σ H _ _ _ I r h) fun _ s1 zz => ?_)
    obtain ⟨σ1, H1, I1, q1⟩ := zz
    exact h2 pins s1 σ1 H1 _ _ Q I1 rr q1
noncomputable def gTup (K : PySem.W.Frag) (n : Nat) (t : TGs) : TG := fun v σ H Q => ∃ a xs, v = .ref a ∧ SqT K H a xs ∧ xs.length = n ∧ t xs σ H Q
theorem pg_tup {es : List Expr} {k : Nat} {t : TGs} {n : Nat} (hc : X.calm = true) (h : PGs X es t)
    (hn : autoParam ((assignEach es X.env).length = n) Internal.aut2._auto_1) (hst : autoParam ((assignEach es X.env).findIdx? (·.1) = none) Internal.aut2._auto_1) : PG X (.Tuple es k pos) (gTup X.K n t) := by
  intro pins s σ H v u Q I r hw
  obtain ⟨a, xs, e1, hq, hl, hw⟩ := hw
  subst e1
  cases r
  obtain ⟨its, rv, ht, hz⟩ := I.tuple hq
  refine assign_Tuple_tuple (I.ok.hd hc) ht (by simp [hn, ← hl, rv.length]) hst fun h' hx => ?_
  have I1 : Inv X pins σ H { s with heap := h' } := I.kept (t' := s.toks) fun b o e => hx b o (Nat.ne_of_lt (Heap.lt_size e)) e
  exact h pins _ σ H xs _ Q I1 (by simpa using rv) hw
noncomputable abbrev gSub (to ti : TE) (t : TSet) : TG := fun v σ H Q => to σ H fun o H1 => ti σ H1 fun i H2 => t o i v H2 fun H3 => Q σ H3
theorem pg_sub {o i : Expr} {to ti : TE} {t : TSet} (ho : PE X o to) (hi : PE X i ti) (hs : PSet X t)
    (ha : autoParam (∀ v, assign (.Subscript o i pos) X.env v = (do
      let ov ← holding [v] (eval o X.env)
      let iv ← holding [v, ov] (eval i X.env)
      standAt pos
      holding [v, ov, iv] (setItem ov iv v)
      release [v, ov, iv] [])) Internal.aut3._auto_1) : PG X (.Subscript o i pos) (gSub to ti t) := by
  intro pins s σ H v u Q I r h
  rw [ha]
  refine wpAny_bind (wpAny_holding (thn (ho pins s σ H _ I h) fun ov s1 zz => ?_))
  obtain ⟨x, H1, I1, r1, q1⟩ := zz
  refine wpAny_bind (wpAny_holding (thn (hi pins s1 σ H1 _ I1 q1) fun iv s2 zz => ?_))
  obtain ⟨y, H2, I2, r2, q2⟩ := zz
  refine wpAny_bind (wpAny_standAt (wpAny_bind (wpAny_holding (thn (hs pins s2 σ H2 x y v ov iv u _ I2 r1 r2 r q2) fun _ s3 ⟨H3, I3, q3⟩ => ?_))))
  exact wpAny_release ⟨σ, H3, I3, q3⟩
noncomputable abbrev tAsg (te : TE) (g : TG) : TS := fun D σ H => te σ H fun x H1 => g x σ H1 D.nx
theorem ps_asg {tg e : Expr} {te : TE} {g : TG} (he : PE X e te) (hg : PG X tg g) (hs : autoParam (swapsWithSole [tg] e pos.line X.env = pure false) Internal.aut2._auto_1) (hw : autoParam (swappedStores [tg] e X.env = pure none) Internal.aut2._auto_1)
    (h1 : autoParam ((assignEach [tg] X.env).map (·.2) = [assign tg X.env]) Internal.aut2._auto_1) : PS X (.Assign [tg] e pos) (tAsg te g) := by
  intro pins s σ H D I h
  refine wpAny_Assign_stores (thn (he pins s σ H _ I h) fun v s1 zz => ?_) hs hw
  obtain ⟨x, H1, I1, r1, q1⟩ := zz
  rw [h1]
  exact thn (hg pins s1 σ H1 x v _ I1 r1 q1) fun _ s2 q => q
theorem ps_set {i : Nat} {x : Str} {e : Expr} {te : TE} {pos' : Pos} (hN : X.N.Nodup) (hi : X.N[i]? = some x) (hx : Loc X.env.scope x) (he : PE X e te) (hs : autoParam (swapsWith e (some (.Name x pos')) pos.line X.env = pure false) Internal.aut2._auto_1) (hf : autoParam (X.fn x = true ∨ X.env.scope.names.lookup x = some .local) Internal.aut0._auto_1) :
    PS X (.Assign [.Name x pos'] e pos) (tAsg te (gName i)) := by
  intro pins s σ H D I h
  refine wpAny_Assign_Name (thn (he pins s σ H _ I h) fun v s1 zz => ?_) hs
  obtain ⟨y, H1, I1, r1, q1⟩ := zz
  exact store_ok I1 hN hi hx r1 (fun s2 I2 => ⟨_, H1, I2, q1⟩) hf
end

section
variable {X : Cx} {pos : Pos}
end

set_option genInjectivity false in
set_option genSizeOf false in
structure It where
  go : Nat → Hp → Prop
  yld : Nat → Hp → V → Hp → Prop
  stop : Nat → Hp → Prop
noncomputable def FpOk (X : Cx) (pins : List (Addr × Obj)) (H : Hp) (b : Addr) : Prop :=
  H b = none ∧ b ≠ X.env.locals ∧ b ∉ X.fs ∧ (b ∈ X.ex ∨ X.s₀.heap.objs.size ≤ b) ∧ (∀ x c, X.env.cells.lookup x = some c → c ≠ b) ∧ ∀ p ∈ X.pn ++ pins, p.1 ≠ b
theorem Inv.fpOk {X : Cx} {pins : List (Addr × Obj)} {σ : St} {H H' : Hp} {s : Shared} {b : Addr} (I : Inv X pins σ H s) (hb : s.heap.objs.size ≤ b) (hn : H' b = none) : FpOk X pins H' b := by
  refine ⟨hn, Nat.ne_of_gt (Nat.lt_of_lt_of_le I.lt hb), I.nofs hb, .inr (Nat.le_trans I.sz hb), fun x c e z => ?_, fun p hp z => ?_⟩
  · obtain ⟨v, q⟩ := I.cell x c e
    exact absurd (Nat.lt_of_lt_of_le q.lt (by rw [z]; exact hb)) (Nat.lt_irrefl _)
  · exact absurd (Nat.lt_of_lt_of_le (Heap.lt_size (I.pin p hp).1) (by rw [z]; exact hb)) (Nat.lt_irrefl _)
set_option genInjectivity false in
set_option genSizeOf false in
structure Turn (P : Program) (w : World) (K : PySem.W.Frag) (tg : Expr) (J : It) (fp : List Addr) (it : Addr) (tn : Nat → Heap → Prop) : Prop where
  mem : it ∈ fp
  obj : ∀ i h, tn i h → ∀ b ∈ fp, ∃ o, h.get? b = some o ∧ ∀ v, o.data ≠ .cell v
  keep : ∀ i h h', tn i h → (∀ b ∈ fp, ∀ o, h.get? b = some o → h'.get? b = some o) → tn i h'
  item : ∀ (X : Cx), X.prog = P → X.w = w → X.K = K → X.calm = true → ∀ (i : Nat) (pins : List (Addr × Obj)) (s : Shared) (σ : St) (H : Hp) (E : Value → Shared → Prop), Inv X pins σ H s → (∀ b ∈ fp, FpOk X pins H b) → tn i s.heap → J.go i H →
    wpAny (model P w) X.A (pyNext (.ref it)) (fun r s1 => ∃ u, r = some u ∧
      wpAny (model P w) X.A (letOwnedTupleGo tg (.ref it) u) (fun _ s2 => ∃ x H', Inv X pins σ H' s2 ∧ RelV x u ∧ J.yld i H x H' ∧ tn (i + 1) s2.heap ∧ ∀ b ∈ fp, H' b = none) E s1) E s
  done : ∀ (X : Cx), X.prog = P → X.w = w → X.K = K → X.calm = true → ∀ (i : Nat) (pins : List (Addr × Obj)) (s : Shared) (σ : St) (H : Hp) (E : Value → Shared → Prop), Inv X pins σ H s → (∀ b ∈ fp, FpOk X pins H b) → tn i s.heap → J.stop i H →
    wpAny (model P w) X.A (pyNext (.ref it)) (fun r s1 => r = none ∧ Inv X pins σ H s1) E s
  self : ∀ (A : Around) (i : Nat) (s : Shared) (Q : Value → Shared → Prop) (E : Value → Shared → Prop), tn i s.heap → Q (.ref it) s → wpAny (model P w) A (pyIter (.ref it)) Q E s
noncomputable abbrev TI := St → Hp → (It → Hp → Prop) → Prop
noncomputable def PIE (X : Cx) (pins : List (Addr × Obj)) (σ : St) (tg : Expr) (R : It → Hp → Prop) (itv : Value) (s2 : Shared) : Prop :=
  ∃ (it : Addr) (fp : List Addr) (tn : Nat → Heap → Prop) (J : It) (H' : Hp), itv = .ref it ∧ Inv X pins σ H' s2 ∧ Turn X.prog X.w X.K tg J fp it tn ∧ tn 0 s2.heap ∧ (∀ b ∈ fp, FpOk X pins H' b) ∧ R J H'
noncomputable def PI (X : Cx) (tg iter : Expr) (wi : TI) : Prop :=
  ∀ (pins : List (Addr × Obj)) (s : Shared) (σ : St) (H : Hp) (R : It → Hp → Prop), Inv X pins σ H s → wi σ H R →
    wpAny (model X.prog X.w) X.A (eval iter X.env) (fun v s1 => wpAny (model X.prog X.w) X.A (pyIter v) (PIE X pins σ tg R) X.xe s1) X.xe s

theorem go_of {M : Model} {A : Around} {E : Value → Shared → Prop} {s : Shared} {tg : Expr} {it : Addr} {u : Value} {o : Obj} {n : String} {vs : Array Value} {Q : Unit → Shared → Prop} (ho : s.heap.get? it = some o) (hc : o.cls = .type n) (hd : o.data = .fields vs)
    (hn : ["enumerate", "zip", "dict_itemiterator", "dict_reverseitemiterator", "odict_iterator", "itertools.zip_longest", "itertools.pairwise"].contains n = false) (hQ : Q () s) : wpAny M A (letOwnedTupleGo tg (.ref it) u) Q E s := by
  unfold letOwnedTupleGo
  cases tg <;> first
    | exact wpAny_pure hQ
    | (cases u <;> first
        | exact wpAny_pure hQ
        | (refine wpAny_bind (wpAny_load ho ?_)
           rw [hc, hd]
           show wpAny M A (if (["enumerate", "zip", "dict_itemiterator", "dict_reverseitemiterator", "odict_iterator", "itertools.zip_longest", "itertools.pairwise"].contains n && vs[0]? == some (rawInt _)) = true then _ else _) Q E s
           rw [if_neg (by intro h; rw [hn, Bool.false_and] at h; cases h)]
           exact wpAny_pure hQ))

noncomputable def Itl (K : PySem.W.Frag) (a : Addr) : It :=
  ⟨fun i H => ∃ xs x, SqL K H a xs ∧ xs[i]? = some x, fun i H x H' => H' = H ∧ ∀ xs, SqL K H a xs → xs[i]? = some x, fun i H => ∃ xs, SqL K H a xs ∧ xs.length ≤ i⟩
noncomputable def Itt (K : PySem.W.Frag) (a : Addr) : It :=
  ⟨fun i H => ∃ xs x, SqT K H a xs ∧ xs[i]? = some x, fun i H x H' => H' = H ∧ ∀ xs, SqT K H a xs → xs[i]? = some x, fun i H => ∃ xs, SqT K H a xs ∧ xs.length ≤ i⟩
noncomputable def Itr (lo : Int) (n : Nat) : It := ⟨fun i _ => i < n, fun i H x H' => H' = H ∧ x = .int (lo + i), fun i _ => n ≤ i⟩
theorem turn_list {P : Program} {w : World} {K : PySem.W.Frag} {tg : Expr} (a it : Addr) : Turn P w K tg (Itl K a) [it] it (fun i h => h.IsListIter it a i) where
  mem := by simp
  obj := fun i h st b hb => by
    have e : b = it := by simpa using hb
    subst e
    obtain ⟨o, e, c, d⟩ := st
    exact ⟨o, e, fun v z => by rw [d] at z; cases z⟩
  keep := fun i h h' st k => st.at fun o e => k it (by simp) o e
  item := by
    intro X hP hw hK hc i pins s σ H E I hf st hg
    subst hP hw hK
    obtain ⟨xs, x, hq, hx⟩ := hg
    obtain ⟨its, rv, p, hz⟩ := I.list hq
    obtain ⟨u, hu, ru⟩ := rv.get hx
    obtain ⟨f0, f1, f2, f3, f4, f5⟩ := hf it (by simp)
    refine wpAny_pyNext_list_item st p.isList (x := u) (by simpa using hu) fun h' st' sb => ?_
    have I1 : Inv X pins σ H { s with heap := h' } := I.turned (t' := s.toks) (fun b o hb e => (sb.2 b hb).trans e) f0 f1 f3 f4 f5
    obtain ⟨o, e, c, d⟩ := id st'
    exact ⟨u, rfl, go_of (s := { s with heap := h' }) e c d (by decide) ⟨x, H, I1, ru, ⟨rfl, fun ys hy => by rw [I.list_inj hy hq]; exact hx⟩, st', fun b hb => (hf b hb).1⟩⟩
  done := by
    intro X hP hw hK hc i pins s σ H E I hf st hg
    subst hP hw hK
    obtain ⟨xs, hq, hx⟩ := hg
    obtain ⟨its, rv, p, hz⟩ := I.list hq
    obtain ⟨f0, f1, f2, f3, f4, f5⟩ := hf it (by simp)
    have hl := rv.length
    exact wpAny_pyNext_list_end (I.ok.hd hc) st p.isList (by simp; omega) fun h' eb => ⟨rfl, I.turned (t' := s.toks) (fun b o hb e => eb b o hb e) f0 f1 f3 f4 f5⟩
  self := fun _ _ _ _ _ st h => wpAny_pyIter_listiter st h
theorem turn_tuple {P : Program} {w : World} {K : PySem.W.Frag} {tg : Expr} (a it : Addr) : Turn P w K tg (Itt K a) [it] it (fun i h => h.IsTupleIter it a i) where
  mem := by simp
  obj := fun i h st b hb => by
    have e : b = it := by simpa using hb
    subst e
    obtain ⟨o, e, c, d⟩ := st
    exact ⟨o, e, fun v z => by rw [d] at z; cases z⟩
  keep := fun i h h' st k => st.at fun o e => k it (by simp) o e
  item := by
    intro X hP hw hK hc i pins s σ H E I hf st hg
    subst hP hw hK
    obtain ⟨xs, x, hq, hx⟩ := hg
    obtain ⟨its, rv, p, hz⟩ := I.tuple hq
    obtain ⟨u, hu, ru⟩ := rv.get hx
    obtain ⟨f0, f1, f2, f3, f4, f5⟩ := hf it (by simp)
    refine wpAny_pyNext_tuple_item st (show s.heap.IsTuple a its.toArray from p) (x := u) (by simpa using hu) fun h' st' sb => ?_
    have I1 : Inv X pins σ H { s with heap := h' } := I.turned (t' := s.toks) (fun b o hb e => (sb.2 b hb).trans e) f0 f1 f3 f4 f5
    obtain ⟨o, e, c, d⟩ := id st'
    exact ⟨u, rfl, go_of (s := { s with heap := h' }) e c d (by decide) ⟨x, H, I1, ru, ⟨rfl, fun ys hy => by rw [I.tuple_inj hy hq]; exact hx⟩, st', fun b hb => (hf b hb).1⟩⟩
  done := by
    intro X hP hw hK hc i pins s σ H E I hf st hg
    subst hP hw hK
    obtain ⟨xs, hq, hx⟩ := hg
    obtain ⟨its, rv, p, hz⟩ := I.tuple hq
    obtain ⟨f0, f1, f2, f3, f4, f5⟩ := hf it (by simp)
    have hl := rv.length
    exact wpAny_pyNext_tuple_end (I.ok.hd hc) st (show s.heap.IsTuple a its.toArray from p) (by simp; omega) fun h' eb => ⟨rfl, I.turned (t' := s.toks) (fun b o hb e => eb b o hb e) f0 f1 f3 f4 f5⟩
  self := fun _ _ _ _ _ st h => wpAny_pyIter_tupleiter st h
theorem turn_range {P : Program} {w : World} {K : PySem.W.Frag} {tg : Expr} (it : Addr) (lo : Int) (n : Nat) : Turn P w K tg (Itr lo n) [it] it (fun i h => IsRangeIter h it (lo + (i : Nat) * 1) ((n : Int) - (i : Nat)) 1) where
  mem := by simp
  obj := fun i h st b hb => by
    have e : b = it := by simpa using hb
    subst e
    exact ⟨_, st, fun v z => by
      have z' : Data.fields _ = Data.cell v := z
      cases z'⟩
  keep := fun i h h' st k => k it (by simp) _ st
  item := by
    intro X hP hw hK hc i pins s σ H E I hf st hg
    subst hP hw hK
    obtain ⟨f0, f1, f2, f3, f4, f5⟩ := hf it (by simp)
    have W := Walks.range (prog := X.prog) (w := X.w) (I.ok.hd hc) it lo 1 n
    refine W.item i s _ _ hg st fun v h' tk hv st' kk => ?_
    obtain ⟨t, rfl⟩ := hv
    have I1 : Inv X pins σ H { s with heap := h', toks := tk } := I.turned (fun b o hb e => kk b o (by simpa using hb) e) f0 f1 f3 f4 f5
    refine ⟨_, rfl, go_of (s := { s with heap := h', toks := tk }) (n := "range_iterator") st' rfl rfl (by decide) ⟨.int (lo + i), H, I1, ⟨t, ?_⟩, ⟨rfl, rfl⟩, st', fun b hb => (hf b hb).1⟩⟩
    rw [Int.mul_one]
  done := by
    intro X hP hw hK hc i pins s σ H E I hf st hg
    subst hP hw hK
    obtain ⟨f0, f1, f2, f3, f4, f5⟩ := hf it (by simp)
    exact wpAny_pyNext_range_end (I.ok.hd hc) st (by have : n ≤ i := hg; omega) fun h' eb => ⟨rfl, I.turned (t' := s.toks) (fun b o hb e => eb b o hb e) f0 f1 f3 f4 f5⟩
  self := fun _ _ _ _ _ st h => wpAny_pyIter_rangeiter st h
end Internal

namespace Internal
open PySem PySem.Spec PyProof.Rows
section
variable {X : Cx} {tg : Expr}
noncomputable def iList (K : PySem.W.Frag) (tl : TE) : TI := fun σ H R => tl σ H fun x H1 => ∃ a, x = .ref a ∧ (∃ xs, SqL K H1 a xs) ∧ R (Itl K a) H1
noncomputable def iTup (K : PySem.W.Frag) (tl : TE) : TI := fun σ H R => tl σ H fun x H1 => ∃ a, x = .ref a ∧ (∃ xs, SqT K H1 a xs) ∧ R (Itt K a) H1
theorem pi_list {l : Expr} {tl : TE} (hl : PE X l tl) : PI X tg l (iList X.K tl) := by
  intro pins s σ H R I h
  refine thn (hl pins s σ H _ I h) fun v s1 zz => ?_
  obtain ⟨x, H1, I1, r1, q1⟩ := zz
  obtain ⟨a, e, ⟨xs, hq⟩, q⟩ := q1
  subst e
  cases r1
  obtain ⟨its, rv, p, hz⟩ := I1.list hq
  refine wpAny_pyIter_list p.isList ?_
  refine ⟨s1.heap.objs.size, [s1.heap.objs.size], _, _, H1, rfl, I1.kept (t' := s1.toks) fun b o e => Heap.get?_push_of_some _ e, turn_list a _, ⟨_, Heap.get?_push_size _ rfl, rfl, rfl⟩, fun b hb => ?_, q⟩
  have e : b = s1.heap.objs.size := by simpa using hb
  subst e
  exact I1.fpOk (Nat.le_refl _) (I1.hok.fresh (Nat.le_refl _))
theorem pi_tup {l : Expr} {tl : TE} (hl : PE X l tl) : PI X tg l (iTup X.K tl) := by
  intro pins s σ H R I h
  refine thn (hl pins s σ H _ I h) fun v s1 zz => ?_
  obtain ⟨x, H1, I1, r1, q1⟩ := zz
  obtain ⟨a, e, ⟨xs, hq⟩, q⟩ := q1
  subst e
  cases r1
  obtain ⟨its, rv, p, hz⟩ := I1.tuple hq
  refine wpAny_pyIter_tuple (show s1.heap.IsTuple a its.toArray from p) ?_
  refine ⟨s1.heap.objs.size, [s1.heap.objs.size], _, _, H1, rfl, I1.kept (t' := s1.toks) fun b o e => Heap.get?_push_of_some _ e, turn_tuple a _, ⟨_, Heap.get?_push_size _ rfl, rfl, rfl⟩, fun b hb => ?_, q⟩
  have e : b = s1.heap.objs.size := by simpa using hb
  subst e
  exact I1.fpOk (Nat.le_refl _) (I1.hok.fresh (Nat.le_refl _))
theorem range_it {pins : List (Addr × Obj)} {σ : St} {H : Hp} {s : Shared} {R : It → Hp → Prop} {E : Value → Shared → Prop} {lo hi : Int} {t u v : Tok} {tk : Nat} (I : Inv X pins σ H s) (h1 : -(2 ^ 62) ≤ lo) (h2 : lo < 2 ^ 62) (h3 : -(2 ^ 62) ≤ hi) (h4 : hi < 2 ^ 62)
    (q : R (Itr lo (hi - lo).toNat) H) : wpAny (model X.prog X.w) X.A (pyIter (.ref s.heap.objs.size)) (PIE X pins σ tg R) E { s with heap := s.heap.push { cls := .type "range", data := .fields #[.int lo t, .int hi u, .int 1 v] }, toks := tk } := by
  refine wpAny_pyIter_range (IsRange.new ..) (small_one h1 h2 h3 h4) ?_
  have I1 : Inv X pins σ H { s with heap := s.heap.push { cls := .type "range", data := .fields #[.int lo t, .int hi u, .int 1 v] }, toks := tk } := I.kept fun b o e => Heap.get?_push_of_some _ e
  refine ⟨(s.heap.push { cls := .type "range", data := .fields #[.int lo t, .int hi u, .int 1 v] }).objs.size, [(s.heap.push { cls := .type "range", data := .fields #[.int lo t, .int hi u, .int 1 v] }).objs.size], _, _, H, rfl,
    I1.kept (t' := tk) fun b o e => Heap.get?_push_of_some _ e, turn_range _ lo (hi - lo).toNat, ?_, fun b hb => ?_, q⟩
  · have e1 : lo + ((0 : Nat) : Int) * 1 = lo := by simp
    have e2 : (((hi - lo).toNat : Nat) : Int) - ((0 : Nat) : Int) = Builtin.Range.rangeSize lo hi 1 := by rw [rangeSize_one]; split <;> omega
    show IsRangeIter _ _ (lo + ((0 : Nat) : Int) * 1) ((((hi - lo).toNat : Nat) : Int) - ((0 : Nat) : Int)) 1
    rw [e1, e2]
    exact Heap.get?_push_size _ rfl
  · have e : b = (s.heap.push { cls := .type "range", data := .fields #[.int lo t, .int hi u, .int 1 v] }).objs.size := by simpa using hb
    subst e
    exact I1.fpOk (Nat.le_refl _) (I1.hok.fresh (Nat.le_refl _))
noncomputable def iRng1 (ta : TA) : TI := fun σ H R => ta σ H fun vs H1 => ∃ j : Int, vs = [.int j] ∧ -(2 ^ 62) ≤ j ∧ j < 2 ^ 62 ∧ R (Itr 0 j.toNat) H1
theorem pi_range1 {a : Expr} {ta : TA} {p pos : Pos} (hg : Gl X "range") (hm : X.mg "range" = none) (ha : PA X [a] ta) (hs : autoParam (starEach [a] X.env = [(false, eval a X.env)]) Internal.aut2._auto_1) : PI X tg (.Call (.Name "range" p) [a] [] pos) (iRng1 ta) := by
  intro pins s σ H R I h
  refine Call_ (ld_blt I hg hm boot_range (PyProof.Rows.callWith_type1 (thn (ha pos pins s σ H _ I h) fun us s1 ⟨vs, H1, I1, r1, q1⟩ => ?_) hs rfl))
  obtain ⟨j, e, q1, q2, q⟩ := q1
  subst e
  cases r1 with
  | cons r rr =>
    cases rr
    obtain ⟨t, rfl⟩ := r
    exact call_range_1 (range_it I1 (by omega) (by omega) q1 q2 (by simpa using q))
noncomputable def tFor (wi : TI) (g : TG) (tb : TS) : TS := fun D σ H => wi σ H fun J H1 => ∃ W : Nat → Nat → St → Hp → Prop, (∃ m, W 0 m σ H1) ∧ ∀ i m σ H, W i m σ H →
  (J.stop i H ∧ D.nx σ H) ∨ (J.go i H ∧ ∃ N : St → Hp → Prop, (∀ σ' H', N σ' H' → ∃ m', m' < m ∧ W (i + 1) m' σ' H') ∧ ∀ x H', J.yld i H x H' → g x σ H' fun σ2 H2 => tb { D with nx := N, ct := N, bk := D.nx } σ2 H2)
noncomputable def pinsAt (fp : List Addr) (h : Heap) : List (Addr × Obj) := fp.filterMap fun b => (h.get? b).map fun o => (b, o)
theorem mem_pinsAt {fp : List Addr} {h : Heap} {b : Addr} {o : Obj} (hb : b ∈ fp) (e : h.get? b = some o) : (b, o) ∈ pinsAt fp h := List.mem_filterMap.mpr ⟨b, hb, by rw [e]; rfl⟩
theorem of_pinsAt {fp : List Addr} {h : Heap} {p : Addr × Obj} (hp : p ∈ pinsAt fp h) : p.1 ∈ fp ∧ h.get? p.1 = some p.2 := by
  obtain ⟨b, hb, e⟩ := List.mem_filterMap.mp hp
  cases q : h.get? b with
  | none => rw [q] at e; cases e
  | some o =>
    rw [q] at e
    have e' : (b, o) = p := Option.some.inj e
    subst e'
    exact ⟨hb, q⟩
theorem Inv.pinned {pins : List (Addr × Obj)} {σ : St} {H : Hp} {s : Shared} {fp : List Addr} (I : Inv X pins σ H s) (hf : ∀ b ∈ fp, FpOk X pins H b) (ho : ∀ b ∈ fp, ∃ o, s.heap.get? b = some o ∧ ∀ v, o.data ≠ .cell v) : Inv X (pins ++ pinsAt fp s.heap) σ H s :=
  I.pins_of fun p hp => (List.mem_append.mp hp).elim (fun z => I.pin p (List.mem_append_right _ z)) fun z => by
    obtain ⟨hb, e⟩ := of_pinsAt z
    obtain ⟨f0, f1, f2, _⟩ := hf p.1 hb
    obtain ⟨o, e', d⟩ := ho p.1 hb
    rw [e] at e'; cases e'
    exact ⟨e, f0, f1, f2, d⟩
theorem Inv.unpinned {pins pl : List (Addr × Obj)} {σ : St} {H : Hp} {s : Shared} (I : Inv X (pins ++ pl) σ H s) : Inv X pins σ H s := I.pins_of fun p hp => I.pin p (List.mem_append_right _ (List.mem_append_left _ hp))
theorem ps_for {iter : Expr} {body : List Stmt} {wi : TI} {g : TG} {tb : TS} {pos : Pos} (hp : PassesOwn (model X.prog X.w) X.A X.env X.xe) (hc : X.calm = true) (hi : PI X tg iter wi) (hg : PG X tg g) (hb : PSs X body tb)
    (hs : autoParam (∀ x, foldedSetIterable iter X.env x = pure x) Internal.aut3._auto_1) : PS X (.For tg iter body [] pos) (tFor wi g tb) := by
  intro pins s σ H D I h
  refine wpAny_For (thn (hi pins s σ H _ I h) fun v s1 h1 => thn h1 fun itv s2 h2 => ?_) hs
  obtain ⟨it, fp, tn, J, H2, e, I2, T, st2, f2, W, ⟨m0, w0⟩, turn⟩ := h2
  subst e
  -- what stays true of the iterator's objects through the loop
  have stat : ∀ {H' : Hp}, (∀ b ∈ fp, H' b = none) → ∀ b ∈ fp, FpOk X pins H' b := fun hn b hb => ⟨hn b hb, (f2 b hb).2⟩
  refine codeAny_forLoop_any (fun n s' => ∃ i σ' H', Inv X pins σ' H' s' ∧ tn i s'.heap ∧ (∀ b ∈ fp, H' b = none) ∧ W i n σ' H') ?_ m0 ⟨0, σ, H2, I2, st2, fun b hb => (f2 b hb).1, w0⟩
  rintro n s3 ⟨i, σ3, H3, I3, st3, fr3, w3⟩
  rcases turn i n σ3 H3 w3 with ⟨stop, qn⟩ | ⟨go, N, hN, step⟩
  · refine wpAny_passesOwn hp (thn (T.done X rfl rfl rfl hc i pins s3 σ3 H3 X.xe I3 (stat fr3) st3 stop) fun r s4 ⟨hr, I4⟩ => ?_)
    subst hr
    exact wpAny_execs_nil ⟨σ3, H3, I4, qn⟩
  · refine wpAny_passesOwn hp (thn (T.item X rfl rfl rfl hc i pins s3 σ3 H3 X.xe I3 (stat fr3) st3 go) fun r s4 ⟨u, hr, h4⟩ => ?_)
    subst hr
    refine wpAny_passesOwn hp (thn h4 fun _ s5 zz => ?_)
    obtain ⟨x, H5, I5, r5, y5, st5, fr5⟩ := zz
    have I5' := I5.pinned (stat fr5) (T.obj _ _ st5)
    refine wpAny_passesOwn hp (thn (hg _ s5 σ3 H5 x u _ I5' r5 (step x H5 y5)) fun _ s6 zz => ?_)
    obtain ⟨σ6, H6, I6, q6⟩ := zz
    refine wpAny_passesOwn hp (thn (hb _ s6 σ6 H6 _ I6 q6) fun f s7 q7 => ?_)
    have again : ∀ {σ7 : St} {H7 : Hp}, Inv X (pins ++ pinsAt fp s5.heap) σ7 H7 s7 → N σ7 H7 → ∃ m, m < n ∧ ∃ i σ' H', Inv X pins σ' H' s7 ∧ tn i s7.heap ∧ (∀ b ∈ fp, H' b = none) ∧ W i m σ' H' := fun {σ7 H7} I7 n7 => by
      obtain ⟨m', hm, w7⟩ := hN σ7 H7 n7
      refine ⟨m', hm, i + 1, σ7, H7, I7.unpinned, T.keep _ _ _ st5 fun b hb o e => (I7.pin (b, o) (List.mem_append_right _ (List.mem_append_right _ (mem_pinsAt hb e)))).1, fun b hb => ?_, w7⟩
      obtain ⟨o, e, d⟩ := T.obj _ _ st5 b hb
      exact (I7.pin (b, o) (List.mem_append_right _ (List.mem_append_right _ (mem_pinsAt hb e)))).2.1
    cases f with
    | next => obtain ⟨σ7, H7, I7, n7⟩ := q7; exact again I7 n7
    | cont => obtain ⟨σ7, H7, I7, n7⟩ := q7; exact again I7 n7
    | brk => obtain ⟨σ7, H7, I7, q7⟩ := q7; exact ⟨σ7, H7, I7.unpinned, q7⟩
    | ret v => obtain ⟨x7, σ7, H7, I7, r7, q7⟩ := q7; exact ⟨x7, σ7, H7, I7.unpinned, r7, q7⟩
end

theorem for_list {K : PySem.W.Frag} {a : Addr} {xs : List V} {g : TG} {tb : TS} {D : Ends} {σ : St} {H : Hp} (Pv : Nat → St → Hp → Prop) (h0 : Pv 0 σ H) (hl : ∀ i σ H, i ≤ xs.length → Pv i σ H → SqL K H a xs)
    (hs : ∀ i x σ H, xs[i]? = some x → Pv i σ H → g x σ H fun σ2 H2 => tb { D with nx := Pv (i + 1), ct := Pv (i + 1), bk := D.nx } σ2 H2) (hd : ∀ σ H, Pv xs.length σ H → D.nx σ H) :
    ∃ W : Nat → Nat → St → Hp → Prop, (∃ m, W 0 m σ H) ∧ ∀ i m σ H, W i m σ H →
      ((Itl K a).stop i H ∧ D.nx σ H) ∨ ((Itl K a).go i H ∧ ∃ N : St → Hp → Prop, (∀ σ' H', N σ' H' → ∃ m', m' < m ∧ W (i + 1) m' σ' H') ∧ ∀ x H', (Itl K a).yld i H x H' → g x σ H' fun σ2 H2 => tb { D with nx := N, ct := N, bk := D.nx } σ2 H2) := by
  refine ⟨fun i m σ H => m = xs.length - i ∧ i ≤ xs.length ∧ Pv i σ H, ⟨xs.length, by simp, Nat.zero_le _, h0⟩, ?_⟩
  rintro i m σ H ⟨rfl, hi, p⟩
  have q := hl i σ H hi p
  by_cases hlt : i < xs.length
  · refine .inr ⟨⟨xs, xs[i], q, by simp [hlt]⟩, Pv (i + 1), fun σ' H' p' => ⟨xs.length - (i + 1), by omega, rfl, hlt, p'⟩, fun x H' y => ?_⟩
    obtain ⟨e, y⟩ := y
    subst e
    exact hs i x σ _ (y xs q) p
  · have e : i = xs.length := by omega
    subst e
    exact .inl ⟨⟨xs, q, Nat.le_refl _⟩, hd σ H p⟩
theorem for_range {lo : Int} {n : Nat} {g : TG} {tb : TS} {D : Ends} {σ : St} {H : Hp} (Pv : Nat → St → Hp → Prop) (h0 : Pv 0 σ H)
    (hs : ∀ i σ H, i < n → Pv i σ H → g (.int (lo + i)) σ H fun σ2 H2 => tb { D with nx := Pv (i + 1), ct := Pv (i + 1), bk := D.nx } σ2 H2) (hd : ∀ σ H, Pv n σ H → D.nx σ H) :
    ∃ W : Nat → Nat → St → Hp → Prop, (∃ m, W 0 m σ H) ∧ ∀ i m σ H, W i m σ H →
      ((Itr lo n).stop i H ∧ D.nx σ H) ∨ ((Itr lo n).go i H ∧ ∃ N : St → Hp → Prop, (∀ σ' H', N σ' H' → ∃ m', m' < m ∧ W (i + 1) m' σ' H') ∧ ∀ x H', (Itr lo n).yld i H x H' → g x σ H' fun σ2 H2 => tb { D with nx := N, ct := N, bk := D.nx } σ2 H2) := by
  refine ⟨fun i m σ H => m = n - i ∧ i ≤ n ∧ Pv i σ H, ⟨n, by simp, Nat.zero_le _, h0⟩, ?_⟩
  rintro i m σ H ⟨rfl, hi, p⟩
  by_cases hlt : i < n
  · refine .inr ⟨hlt, Pv (i + 1), fun σ' H' p' => ⟨n - (i + 1), by omega, rfl, hlt, p'⟩, fun x H' y => ?_⟩
    obtain ⟨e, y⟩ := y
    subst e y
    exact hs i σ _ hlt p
  · have e : i = n := by omega
    subst e
    exact .inl ⟨Nat.le_refl _, hd σ H p⟩
end Internal

namespace Internal
open PySem PySem.Spec PyProof.Rows

noncomputable abbrev R2 := V → V → Hp → VK → Prop
noncomputable def OpR (X : Cx) (f : Value → Value → Sem Value) (r : R2) : Prop :=
  ∀ (pins : List (Addr × Obj)) (s : Shared) (σ : St) (H : Hp) (x y : V) (v u : Value) (Q : VK), Inv X pins σ H s → RelV x v → RelV y u → r x y H Q →
    wpAny (model X.prog X.w) X.A (f v u) (EP X pins σ Q) X.xe s
noncomputable def CallR (X : Cx) (f : Value) (r : List V → Hp → VK → Prop) : Prop :=
  ∀ (pins : List (Addr × Obj)) (s : Shared) (σ : St) (H : Hp) (xs : List V) (us : List Value) (Q : VK), Inv X pins σ H s → Vals xs us → r xs H Q →
    wpAny (model X.prog X.w) X.A (call f us) (EP X pins σ Q) X.xe s
noncomputable def TruR (X : Cx) (r : V → Hp → (Bool → Hp → Prop) → Prop) : Prop :=
  ∀ (pins : List (Addr × Obj)) (s : Shared) (σ : St) (H : Hp) (x : V) (v : Value) (Q : Bool → Hp → Prop), Inv X pins σ H s → RelV x v → r x H Q →
    wpAny (model X.prog X.w) X.A (truthy v) (TP X pins σ Q) X.xe s

noncomputable abbrev tOp (r : R2) (ta tb : TE) : TE := fun σ H Q => ta σ H fun x H1 => tb σ H1 fun y H2 => r x y H2 Q
noncomputable abbrev tUn (r : V → Hp → VK → Prop) (ta : TE) : TE := fun σ H Q => ta σ H fun x H1 => r x H1 Q
noncomputable def rI (C : Int → Int → Prop) (g : Int → Int → V) : R2 := fun x y H Q => ∃ i j, x = .int i ∧ y = .int j ∧ C i j ∧ Q (g i j) H
noncomputable def rI0 (g : Int → Int → V) : R2 := fun x y H Q => ∃ i j, x = .int i ∧ y = .int j ∧ Q (g i j) H
section
variable {X : Cx} {a b c : Expr} {ta tb tc : TE} {pos : Pos}

theorem binT (ha : PE X a ta) (hb : PE X b tb) {pins : List (Addr × Obj)} {s : Shared} {σ : St} {H : Hp} {R : V → V → Hp → Prop} (I : Inv X pins σ H s)
    (h : ta σ H fun x H1 => tb σ H1 fun y H2 => R x y H2) {Q : Value → Shared → Prop} {f : Value → Value → Sem Value}
    (hf : ∀ v u s2 x y H2, Inv X pins σ H2 s2 → RelV x v → RelV y u → R x y H2 → wpAny (model X.prog X.w) X.A (f v u) Q X.xe s2) :
    wpAny (model X.prog X.w) X.A (eval a X.env) (fun v s₁ => wpAny (model X.prog X.w) X.A (eval b X.env) (fun u s₂ => wpAny (model X.prog X.w) X.A (f v u) Q X.xe s₂) X.xe s₁) X.xe s := by
  refine thn (ha pins s σ H _ I h) fun v s1 zz => ?_
  obtain ⟨x, H1, I1, r1, q1⟩ := zz
  refine thn (hb pins s1 σ H1 _ I1 q1) fun u s2 zz => ?_
  obtain ⟨y, H2, I2, r2, q2⟩ := zz
  exact hf v u s2 x y H2 I2 r1 r2 q2

theorem pe_op {op : Operator} {r : R2} (ho : OpR X (binaryOp op) r) (ha : PE X a ta) (hb : PE X b tb) : PE X (.BinOp a op b pos) (tOp r ta tb) := by
  intro pins s σ H Q I h
  exact wpAny_BinOp (binT ha hb I h fun v u s2 x y H2 I2 rx ry q => ho pins s2 σ H2 x y v u Q I2 rx ry q)
theorem opI {f : Value → Value → Sem Value} {C : Int → Int → Prop} {g : Int → Int → Int}
    (rule : ∀ (i j : Int) (t u : Tok) (s : Shared) (Q : Value → Shared → Prop) (E : Value → Shared → Prop), C i j → Q (.int (g i j) s.toks) { s with toks := s.toks + 1 } → wpAny (model X.prog X.w) X.A (f (.int i t) (.int j u)) Q E s) :
    OpR X f (rI C fun i j => .int (g i j)) := by
  intro pins s σ H x y v u Q I rx ry h
  obtain ⟨i, j, rfl, rfl, hc, q⟩ := h
  obtain ⟨t, rfl⟩ := rx
  obtain ⟨t', rfl⟩ := ry
  exact rule i j t t' s _ _ hc ⟨.int (g i j), H, I.tok _, ⟨_, rfl⟩, q⟩
theorem opI0 {f : Value → Value → Sem Value} {g : Int → Int → Int}
    (rule : ∀ (i j : Int) (t u : Tok) (s : Shared) (Q : Value → Shared → Prop) (E : Value → Shared → Prop), Q (.int (g i j) s.toks) { s with toks := s.toks + 1 } → wpAny (model X.prog X.w) X.A (f (.int i t) (.int j u)) Q E s) :
    OpR X f (rI0 fun i j => .int (g i j)) := by
  intro pins s σ H x y v u Q I rx ry h
  obtain ⟨i, j, rfl, rfl, q⟩ := h
  obtain ⟨t, rfl⟩ := rx
  obtain ⟨t', rfl⟩ := ry
  exact rule i j t t' s _ _ ⟨.int (g i j), H, I.tok _, ⟨_, rfl⟩, q⟩
theorem opB0 {f : Value → Value → Sem Value} {g : Int → Int → Bool}
    (rule : ∀ (i j : Int) (t u : Tok) (s : Shared) (Q : Value → Shared → Prop) (E : Value → Shared → Prop), Q (.bool (g i j)) s → wpAny (model X.prog X.w) X.A (f (.int i t) (.int j u)) Q E s) :
    OpR X f (rI0 fun i j => .bl (g i j)) := by
  intro pins s σ H x y v u Q I rx ry h
  obtain ⟨i, j, rfl, rfl, q⟩ := h
  obtain ⟨t, rfl⟩ := rx
  obtain ⟨t', rfl⟩ := ry
  exact rule i j t t' s _ _ ⟨.bl (g i j), H, I, rfl, q⟩

noncomputable def CPow (i j : Int) : Prop := 0 ≤ j ∧ j ≤ 1000000 ∧ i.natAbs < 2 ^ 64
theorem op_add : OpR X (binaryOp .Add) (rI0 fun i j => .int (i + j)) := opI0 fun _ _ _ _ _ _ _ q => add_int q
theorem op_sub : OpR X (binaryOp .Sub) (rI0 fun i j => .int (i - j)) := opI0 fun _ _ _ _ _ _ _ q => sub_int q
theorem op_modN : OpR X (binaryOp .Mod) (rI (fun _ j => j ≠ 0) fun i j => .int (i.fmod j)) := opI fun _ _ _ _ _ _ _ hc q => mod_int' hc q
theorem op_pow : OpR X (binaryOp .Pow) (rI CPow fun i j => .int (i ^ j.toNat)) := opI fun _ _ _ _ _ _ _ hc q => pow_int_small hc.1 hc.2.1 hc.2.2 q
end

noncomputable def scal : V → V → Bool
  | .non, .non => true | .non, .int _ => true | .int _, .non => true | .non, .bl _ => true | .bl _, .non => true | .non, .str _ => true | .str _, .non => true
  | .int _, .int _ => true | .bl _, .bl _ => true | .str _, .str _ => true | .byt _, .byt _ => true
  | .int _, .str _ => true | .str _, .int _ => true | .bl _, .str _ => true | .str _, .bl _ => true
  | _, _ => false
noncomputable def rEq : R2 := fun x y H Q => scal x y = true ∧ Q (.bl (decide (x = y))) H
noncomputable def rNe : R2 := fun x y H Q => scal x y = true ∧ Q (.bl (!decide (x = y))) H

theorem dec_int {i j : Int} : decide (V.int i = V.int j) = (i == j) := by
  rw [Bool.eq_iff_iff]
  simp
theorem dec_bl {i j : Bool} : decide (V.bl i = V.bl j) = (i == j) := by
  rw [Bool.eq_iff_iff]
  simp
theorem dec_str {i j : Str} : decide (V.str i = V.str j) = (i == j) := by
  rw [Bool.eq_iff_iff]
  simp
theorem dec_byt {i j : Array UInt8} : decide (V.byt i = V.byt j) = (i.toList == j.toList) := by
  rw [Bool.eq_iff_iff]
  cases i
  cases j
  simp

section
variable {X : Cx} {a b c : Expr} {ta tb tc : TE} {pos : Pos}
theorem fin_bl {pins : List (Addr × Obj)} {σ : St} {H : Hp} {s : Shared} {Q : VK} {k k' : Bool} (I : Inv X pins σ H s) (q : Q (.bl k) H) (e : k = k') : EP X pins σ Q (.bool k') s := by
  subst e
  exact ⟨.bl k, H, I, rfl, q⟩
theorem op_eq : OpR X (compareOp .Eq) rEq := by
  intro pins s σ H x y v u Q I rx ry h
  obtain ⟨hs, q⟩ := h
  cases x with
  | non =>
    cases rx
    cases y with
    | non => cases ry; exact PySem.EqNone.eq_none_none (fin_bl I q (by simp))
    | bl j => cases ry; exact PySem.EqNone.eq_none_bool (fin_bl I q (by simp))
    | int j => obtain ⟨t', rfl⟩ := ry; exact PySem.EqNone.eq_none_int (fin_bl I q (by simp))
    | str j => obtain ⟨t', rfl⟩ := ry; exact PySem.EqNone.eq_none_str (fin_bl I q (by simp))
    | _ => exact absurd (show false = true from hs) Bool.false_ne_true
  | bl i =>
    cases rx
    cases y with
    | non => cases ry; exact PySem.EqNone.eq_bool_none (fin_bl I q (by simp))
    | bl j => cases ry; exact eq_bool (fin_bl I q dec_bl)
    | str j => obtain ⟨t', rfl⟩ := ry; exact PySem.EqMixed.eq_bool_str (fin_bl I q (by simp))
    | _ => exact absurd (show false = true from hs) Bool.false_ne_true
  | int i =>
    obtain ⟨t, rfl⟩ := rx
    cases y with
    | non => cases ry; exact PySem.EqNone.eq_int_none (fin_bl I q (by simp))
    | int j => obtain ⟨t', rfl⟩ := ry; exact eq_int (fin_bl I q dec_int)
    | str j => obtain ⟨t', rfl⟩ := ry; exact PySem.EqMixed.eq_int_str (fin_bl I q (by simp))
    | _ => exact absurd (show false = true from hs) Bool.false_ne_true
  | str i =>
    obtain ⟨t, rfl⟩ := rx
    cases y with
    | non => cases ry; exact PySem.EqNone.eq_str_none (fin_bl I q (by simp))
    | bl j => cases ry; exact PySem.EqMixed.eq_str_bool (fin_bl I q (by simp))
    | int j => obtain ⟨t', rfl⟩ := ry; exact PySem.EqMixed.eq_str_int (fin_bl I q (by simp))
    | str j => obtain ⟨t', rfl⟩ := ry; exact eq_str (fin_bl I q dec_str)
    | _ => exact absurd (show false = true from hs) Bool.false_ne_true
  | byt i =>
    obtain ⟨t, rfl⟩ := rx
    cases y with
    | byt j => obtain ⟨t', rfl⟩ := ry; exact PySem.W.eq_bytes (fin_bl I q dec_byt)
    | _ => exact absurd (show false = true from hs) Bool.false_ne_true
  | _ => cases y <;> exact absurd (show false = true from hs) Bool.false_ne_true
theorem op_ne : OpR X (compareOp .NotEq) rNe := by
  intro pins s σ H x y v u Q I rx ry h
  obtain ⟨hs, q⟩ := h
  cases x with
  | non =>
    cases rx
    cases y with
    | non => cases ry; exact PySem.EqNone.ne_none_none (fin_bl I q (by simp))
    | bl j => cases ry; exact PySem.EqNone.ne_none_bool (fin_bl I q (by simp))
    | int j => obtain ⟨t', rfl⟩ := ry; exact PySem.EqNone.ne_none_int (fin_bl I q (by simp))
    | str j => obtain ⟨t', rfl⟩ := ry; exact PySem.EqNone.ne_none_str (fin_bl I q (by simp))
    | _ => exact absurd (show false = true from hs) Bool.false_ne_true
  | bl i =>
    cases rx
    cases y with
    | non => cases ry; exact PySem.EqNone.ne_bool_none (fin_bl I q (by simp))
    | bl j => cases ry; exact ne_bool (fin_bl I q (congrArg not dec_bl))
    | str j => obtain ⟨t', rfl⟩ := ry; exact PySem.EqMixed.ne_bool_str (fin_bl I q (by simp))
    | _ => exact absurd (show false = true from hs) Bool.false_ne_true
  | int i =>
    obtain ⟨t, rfl⟩ := rx
    cases y with
    | non => cases ry; exact PySem.EqNone.ne_int_none (fin_bl I q (by simp))
    | int j => obtain ⟨t', rfl⟩ := ry; exact ne_int (fin_bl I q (congrArg not dec_int))
    | str j => obtain ⟨t', rfl⟩ := ry; exact PySem.EqMixed.ne_int_str (fin_bl I q (by simp))
    | _ => exact absurd (show false = true from hs) Bool.false_ne_true
  | str i =>
    obtain ⟨t, rfl⟩ := rx
    cases y with
    | non => cases ry; exact PySem.EqNone.ne_str_none (fin_bl I q (by simp))
    | bl j => cases ry; exact PySem.EqMixed.ne_str_bool (fin_bl I q (by simp))
    | int j => obtain ⟨t', rfl⟩ := ry; exact PySem.EqMixed.ne_str_int (fin_bl I q (by simp))
    | str j => obtain ⟨t', rfl⟩ := ry; exact ne_str (fin_bl I q (congrArg not dec_str))
    | _ => exact absurd (show false = true from hs) Bool.false_ne_true
  | byt i =>
    obtain ⟨t, rfl⟩ := rx
    cases y with
    | byt j => obtain ⟨t', rfl⟩ := ry; exact PySem.W.ne_bytes (fin_bl I q (congrArg not dec_byt))
    | _ => exact absurd (show false = true from hs) Bool.false_ne_true
  | _ => cases y <;> exact absurd (show false = true from hs) Bool.false_ne_true

theorem op_lt : OpR X (compareOp .Lt) (rI0 fun i j => .bl (decide (i < j))) := opB0 fun _ _ _ _ _ _ _ q => lt_int q
theorem op_gt : OpR X (compareOp .Gt) (rI0 fun i j => .bl (decide (j < i))) := opB0 fun _ _ _ _ _ _ _ q => gt_int q
theorem op_ge : OpR X (compareOp .GtE) (rI0 fun i j => .bl (decide (j ≤ i))) := opB0 fun _ _ _ _ _ _ _ q => ge_int q
theorem op_isN : OpR X (compareOp .Is) (fun x y H Q => y = .non ∧ Q (.bl (decide (x = .non))) H) := by
  intro pins s σ H x y v u Q I rx ry h
  obtain ⟨rfl, q⟩ := h
  cases ry
  refine is_none_gen (fin_bl I q ?_)
  cases x <;> first
    | (cases rx; rfl)
    | (obtain ⟨t, rfl⟩ := rx; rfl)
theorem OpR.or {f : Value → Value → Sem Value} {r r' : R2} (h : OpR X f r) (h' : OpR X f r') : OpR X f (fun x y H Q => r x y H Q ∨ r' x y H Q) := by
  intro pins s σ H x y v u Q I rx ry q
  rcases q with q | q
  · exact h pins s σ H x y v u Q I rx ry q
  · exact h' pins s σ H x y v u Q I rx ry q

theorem nomark (b : Expr) {op : CmpOp} (h : autoParam (op ≠ .In) Internal.aut1._auto_1) (h2 : autoParam (op ≠ .NotIn) Internal.aut1._auto_1) : behindInMarks op b = false := by
  have e1 : (op == CmpOp.In) = false := by cases op <;> first | rfl | exact absurd rfl h
  have e2 : (op == CmpOp.NotIn) = false := by cases op <;> first | rfl | exact absurd rfl h2
  cases b <;> simp [behindInMarks, e1, e2]
theorem pe_cmpR {op : CmpOp} {r : R2} (ho : OpR X (compareOp op) r) (ha : PE X a ta) (hb : PE X b tb) (hm : behindInMarks op b = false) : PE X (.Compare a [op] [b] pos) (tOp r ta tb) := by
  intro pins s σ H Q I h
  exact wpAny_Compare1 (binT ha hb I h fun v u s2 x y H2 I2 rx ry q => ho pins s2 σ H2 x y v u Q I2 rx ry q) hm
noncomputable abbrev tTest (t : TE) : TT := fun σ H Q => t σ H fun x H' => ∃ k, x = .bl k ∧ Q k H'
theorem pt_cmpR {op : CmpOp} {r : R2} (ho : OpR X (compareOp op) r) (ha : PE X a ta) (hb : PE X b tb) (hm : behindInMarks op b = false) : PT X (.Compare a [op] [b] pos) (tTest (tOp r ta tb)) := by
  intro pins s σ H Q I h
  refine wpAny_isTrue_Compare1 (thn (ha pins s σ H _ I h) fun v s1 ⟨x, H1, I1, r1, q1⟩ => thn (hb pins s1 σ H1 _ I1 q1) fun u s2 ⟨y, H2, I2, r2, q2⟩ =>
    thn (ho pins s2 σ H2 x y v u _ I2 r1 r2 q2) fun c s3 ⟨z, H3, I3, r3, k, e, q3⟩ => ?_) hm
  subst e
  cases r3
  exact wpAny_truthy_bool ⟨H3, I3, q3⟩
noncomputable def TruV (K : PySem.W.Frag) (x : V) (H : Hp) (k : Bool) : Prop :=
  match x with
  | .non => k = false
  | .bl b => k = b
  | .int i => k = (i != 0)
  | .str y => y.length ≤ sizeLine ∧ k = ((y.length : Int) != 0)
  | .byt y => y.size ≤ sizeLine ∧ k = ((y.size : Int) != 0)
  | .ref p => (∃ xs, SqL K H p xs ∧ k = !xs.isEmpty) ∨ (∃ xs, SqT K H p xs ∧ k = !xs.isEmpty) ∨ ∃ kvs, H p = some (.dK kvs) ∧ k = !kvs.isEmpty
  | _ => False
theorem isEmpty_kv {κ : Type} {kvs : List (κ × V)} {vs : List (κ × Value)} (r : KV kvs vs) : (!vs.isEmpty) = !kvs.isEmpty := by
  cases r <;> rfl
theorem isEmpty_of {xs : List V} {its : List Value} (r : Vals xs its) : (!its.toArray.isEmpty) = !xs.isEmpty := by
  cases r <;> simp
theorem line63 : (sizeLine : Nat) < 2 ^ 63 := by rw [sizeLine_eq]; decide
theorem tru_ok : TruR X (fun x H Q => ∃ k, TruV X.K x H k ∧ Q k H) := by
  intro pins s σ H x v Q I rx h
  obtain ⟨k, e, q⟩ := h
  have hl := line63
  have hs : sizeLine = 16777216 := sizeLine_eq
  cases x with
  | non =>
    cases rx
    have e' : k = false := e
    subst e'
    exact truthy_none ⟨H, I, q⟩
  | bl b =>
    cases rx
    have e' : k = b := e
    subst e'
    exact wpAny_truthy_bool ⟨H, I, q⟩
  | int i =>
    obtain ⟨t, rfl⟩ := rx
    have e' : k = (i != 0) := e
    subst e'
    exact PySem.P.truthy_int ⟨H, I, q⟩
  | str y =>
    obtain ⟨t, rfl⟩ := rx
    obtain ⟨hy, e'⟩ : y.length ≤ sizeLine ∧ k = ((y.length : Int) != 0) := e
    subst e'
    exact PySem.P.truthy_str (by omega) ⟨H, I.tok _, q⟩
  | byt y =>
    obtain ⟨t, rfl⟩ := rx
    obtain ⟨hy, e'⟩ : y.size ≤ sizeLine ∧ k = ((y.size : Int) != 0) := e
    subst e'
    exact PySem.W.truthy_bytes (by omega) ⟨H, I.tok _, q⟩
  | ref p =>
    cases rx
    have e' : (∃ xs, SqL X.K H p xs ∧ k = !xs.isEmpty) ∨ (∃ xs, SqT X.K H p xs ∧ k = !xs.isEmpty) ∨ ∃ kvs, H p = some (.dK kvs) ∧ k = !kvs.isEmpty := e
    rcases e' with ⟨xs, hx, e'⟩ | ⟨xs, hx, e'⟩ | ⟨kvs, hx, e'⟩
    · subst e'
      obtain ⟨its, r, pl, hz⟩ := I.list hx
      have hlen := r.length
      exact wpAny_truthy_list pl.isList (by simp only [List.size_toArray]; omega) ⟨H, I.tok _, by rw [isEmpty_of r]; exact q⟩
    · subst e'
      obtain ⟨its, r, pl, hz⟩ := I.tuple hx
      have hlen := r.length
      exact truthy_tuple pl (by simp only [List.size_toArray]; omega) ⟨H, I.tok _, by rw [isEmpty_of r]; exact q⟩
    · subst e'
      obtain ⟨hz, hS, vs, r, m⟩ : kvs.length ≤ sizeLine ∧ (p == sysModules) = false ∧ ∃ vs, KV kvs vs ∧ s.heap.DictOf (mixKind X.prog X.w) p vs := I.hok p _ hx
      have hlen : kvs.length = vs.length := Paired.length r
      exact wpAny_truthy_dict hS m (by omega) ⟨H, I.tok _, by rw [isEmpty_kv r]; exact q⟩
  | _ => exact (show False from e).elim
theorem pt_truth (ha : PE X a ta) (he : ∀ whole, isTrue a X.env whole = (do let v ← whole; standAt a.pos; holding [v] (truthy v))) :
    PT X a (fun σ H Q => ta σ H fun x H' => ∃ k, TruV X.K x H' k ∧ Q k H') := by
  intro pins s σ H Q I h
  exact isTrue_plain (thn (ha pins s σ H _ I h) fun v s1 ⟨x, H1, I1, r1, q1⟩ => tru_ok pins s1 σ H1 x v Q I1 r1 q1) (he _)

theorem vals1 {x : V} {us : List Value} (r : Vals [x] us) : ∃ u, us = [u] ∧ RelV x u := by
  cases r with
  | cons r1 r2 => cases r2; exact ⟨_, rfl, r1⟩
theorem vals2 {x y : V} {us : List Value} (r : Vals [x, y] us) : ∃ u w', us = [u, w'] ∧ RelV x u ∧ RelV y w' := by
  cases r with
  | cons r1 r2 =>
    cases r2 with
    | cons r3 r4 => cases r4; exact ⟨_, _, rfl, r1, r3⟩
end
end Internal

namespace Internal
open PySem PySem.Spec PyProof.Rows

set_option genInjectivity false in
set_option genSizeOf false in
structure ObjM (h : Heap) (x dx C : Addr) (mA : Str → Option Value) : Prop where
  obj : h.get? x = some (PySem.W.instObj C dx)
  ns : h.Ns1 dx mA
  ne : dx ≠ x

theorem lookIn_ns {h : Heap} {dx : Addr} {mA : Str → Option Value} (n : h.Ns1 dx mA) : ∃ od, h.get? dx = some od ∧ ∀ name, PySem.W.lookIn name od = some (mA name) := by
  obtain ⟨o, es, ep, ho, hd, hk, _, hm⟩ := n
  refine ⟨o, ho, fun name => ?_⟩
  have e := hm name
  unfold nsFind findBy at e
  rw [← Array.find?_toList] at e
  unfold PySem.W.lookIn
  rw [hd]
  dsimp only
  split
  · rename_i y q
    rw [q] at e
    exact congrArg some e
  · rename_i q
    rw [q] at e
    have a : es.toList.any (·.refKey) = false := by
      rw [List.any_eq_false]
      intro y hy
      obtain ⟨z, t, hkey⟩ := hk y (Array.mem_toList_iff.mp hy)
      simp [DictEntry.refKey, hkey]
    have a' : ¬ es.toList.any (·.refKey) = true := by rw [a]; exact Bool.false_ne_true
    rw [if_neg a']
    exact congrArg some e

theorem ObjM.look {h : Heap} {x dx C : Addr} {mA : Str → Option Value} (I : ObjM h x dx C mA) : ∃ od, PySem.W.InstAt h x (PySem.W.instObj C dx) C (some od) ∧ ∀ name, PySem.W.lookIn name od = some (mA name) :=
  let ⟨od, ho, hl⟩ := lookIn_ns I.ns
  ⟨od, ⟨I.obj, rfl, rfl, ho⟩, hl⟩

section
variable {prog : Program} {w : World} {A : Around} {E : Value → Shared → Prop} {s : Shared} {K : PySem.W.Frag} {x dx C f : Addr} {mA : Str → Option Value} {name : Str} {v : Value}

theorem get_map {expr : Bool} {Q : Value → Shared → Prop} (X : K.In s.heap) (I : ObjM s.heap x dx C mA) (hg : PySem.W.plainGet K C name = true) (hh : PySem.W.hasDictIn K C = true)
    (ha : PySem.W.findIn K (.ref C) name = some none) (hv : mA name = some v) (hv' : PySem.W.handedIn v = true) (h : Q v { s with toks := s.toks + 1 }) :
    wpAny (model prog w) A (getAttr (.ref x) name expr) Q E s := by
  obtain ⟨od, J, hl⟩ := I.look
  exact PySem.W.get_value X J (PySem.W.plainGet_of hg).1 (PySem.W.findObj_own hh ha rfl (by rw [hl, hv])) hv' h

theorem get_meth {pl : Sem Bool} {Q : Value × List Value → Shared → Prop} (X : K.In s.heap) (I : ObjM s.heap x dx C mA) (hg : PySem.W.plainGet K C name = true)
    (hf : PySem.W.findIn K (.ref C) name = some (some (.ref f))) (ht : PySem.W.isFn K (.ref f) = true) (hv : mA name = none) (h : Q (.ref f, [.ref x]) s) :
    wpAny (model prog w) A (getMethod (.ref x) name pl) Q E s := by
  obtain ⟨od, J, hl⟩ := I.look
  exact PySem.W.method_fn X J (PySem.W.plainGet_of hg).1 (PySem.W.plainGet_of hg).2 hf (beq_iff_eq.mp ht) (by show (PySem.W.lookIn name od).map (·.isSome) = some false; rw [hl, hv]; rfl) h

theorem set_map {ns : List Str} {Q : Unit → Shared → Prop} (X : K.In s.heap) (I : ObjM s.heap x dx C mA)
    (hs : PySem.W.findIn K (.ref C) "__setattr__" = some (some (.builtin "object.__setattr__"))) (hp : PySem.W.plainOver K C = true) (ht : PySem.W.takerIn K C name = some none) (hh : PySem.W.hasDictIn K C = true)
    (hw : PySem.Within mA ns) (hsz : ns.length ≤ sizeLine)
    (h : ∀ h', ObjM h' x dx C (fun y => if y = name then some v else mA y) → Heap.SameBut dx s.heap h' → Q () { s with heap := h', toks := s.toks + 2 }) :
    wpAny (model prog w) A (setAttr (.ref x) name v) Q E s := by
  obtain ⟨od, J, hl⟩ := I.look
  refine PySem.W.set_plain X J hs (PySem.W.osa_open (s := { s with toks := s.toks + 1 }) (r := none) X J hp ht fun b => ?_)
  obtain ⟨cd, hc, hd'⟩ := PySem.W.any_some hh
  have hx : s.heap.get? x = some ⟨.ref C, some dx, .plain, #[]⟩ := I.obj
  refine wpAny_bind (wpAny_pure (wpAny_bind (wpAny_bind (wpAny_loadPart hx (wpAny_bind (PySem.W.Looks.here (s := { s with toks := s.toks + 1 }) (PySem.W.looks_clsIn X hc) ?_))))))
  rw [hd']
  refine wpAny_pure (a := some dx) (wpAny_bind (wpAny_pure (wpAny_bind ?_)))
  refine wpAny_nsSet1 (s := { s with toks := s.toks + 1 }) I.ns fun h' hn2 hs2 => ?_
  obtain ⟨oD, esD, epD, hoD, hdD, hcD⟩ := hn2.count (PySem.Within.cons name v hw)
  refine wpAny_bind (wpAny_lookBehind hoD (by rw [hdD]; exact pastItsLine_dict (Nat.le_trans hcD (by rw [List.length_cons]; omega))) ?_)
  exact wpAny_pure (h _ ⟨(hs2.2 _ (Ne.symm I.ne)).trans I.obj, hn2, I.ne⟩ hs2)

theorem make_map {R : Result → Shared → Prop} {vs : List Value} {kw : List (Str × Value)} (X : K.In s.heap) (hm : PySem.W.makesIn K C = true)
    (hi : PySem.W.findIn K (.ref C) "__init__" = some (some (.ref f))) (hf : PySem.W.typeIn K (.ref f) = some (.type "function"))
    (h : codeAny (model prog w) (A.under (.builtin "type.__call__" ⟨.ref C :: vs, kw⟩)) (.call (.ref f) ⟨.ref (s.heap.objs.size + 1) :: vs, kw⟩) (PySem.W.InitBack (s.heap.objs.size + 1) R)
      { s with heap := (s.heap.push PySem.W.emptyDict).push (PySem.W.instObj C s.heap.objs.size) }) :
    codeAny (model prog w) A (.call (.ref C) ⟨vs, kw⟩) R s := by
  obtain ⟨hh, g, d, t, os⟩ := s
  exact PySem.W.make_core (PySem.W.makes_of X hm) (PySem.W.looks_findIn X hi) (fun self => PySem.W.bind_fn X self hf) (.inl rfl) h
end

noncomputable def putF (f : Str) (v : V) : List (Str × V) → List (Str × V)
  | [] => [(f, v)]
  | (g, x) :: r => if g = f then (g, v) :: r else (g, x) :: putF f v r
theorem lookup_putF (f g : Str) (v : V) : ∀ fs : List (Str × V), (putF f v fs).lookup g = if g = f then some v else fs.lookup g
  | [] => by
    show List.lookup g [(f, v)] = _
    by_cases h : g = f
    · have hb : (g == f) = true := beq_iff_eq.mpr h
      simp only [List.lookup, hb, if_pos h]
    · have hb : (g == f) = false := beq_eq_false_iff_ne.mpr h
      simp only [List.lookup, hb, if_neg h]
  | (k, x) :: r => by
    have ih := lookup_putF f g v r
    rw [show putF f v ((k, x) :: r) = (if k = f then (k, v) :: r else (k, x) :: putF f v r) from rfl]
    by_cases hk : k = f
    · rw [if_pos hk]
      by_cases h : g = k
      · have hb : (g == k) = true := beq_iff_eq.mpr h
        simp only [List.lookup, hb, if_pos (h.trans hk)]
      · have hb : (g == k) = false := beq_eq_false_iff_ne.mpr h
        simp only [List.lookup, hb, if_neg (fun e : g = f => h (e.trans hk.symm))]
    · rw [if_neg hk]
      by_cases h : g = k
      · have hb : (g == k) = true := beq_iff_eq.mpr h
        simp only [List.lookup, hb, if_neg (fun e : g = f => hk (h.symm.trans e))]
      · have hb : (g == k) = false := beq_eq_false_iff_ne.mpr h
        simp only [List.lookup, hb]
        exact ih
theorem keys_putF (f : Str) (v : V) : ∀ fs : List (Str × V), f ∈ (putF f v fs).map (·.1) ∧ ∀ g, g ∈ fs.map (·.1) → g ∈ (putF f v fs).map (·.1)
  | [] => ⟨by simp [putF], fun g h => by simp at h⟩
  | (k, x) :: r => by
    obtain ⟨i1, i2⟩ := keys_putF f v r
    rw [show putF f v ((k, x) :: r) = (if k = f then (k, v) :: r else (k, x) :: putF f v r) from rfl]
    by_cases hk : k = f
    · rw [if_pos hk]
      subst hk
      exact ⟨by simp, fun g h => by simpa using h⟩
    · rw [if_neg hk]
      refine ⟨?_, fun g h => ?_⟩
      · rw [List.map_cons]
        exact List.mem_cons_of_mem _ i1
      · rw [List.map_cons] at h ⊢
        rcases List.mem_cons.mp h with e | e
        · exact List.mem_cons.mpr (.inl e)
        · exact List.mem_cons_of_mem _ (i2 g e)
theorem length_putF (f : Str) (v : V) : ∀ fs : List (Str × V), (putF f v fs).length ≤ fs.length + 1
  | [] => by simp [putF]
  | (k, x) :: r => by
    have ih := length_putF f v r
    rw [show putF f v ((k, x) :: r) = (if k = f then (k, v) :: r else (k, x) :: putF f v r) from rfl]
    by_cases hk : k = f
    · rw [if_pos hk, List.length_cons, List.length_cons]; omega
    · rw [if_neg hk, List.length_cons, List.length_cons]; omega

theorem RelO.some_of {v : V} {o : Option Value} (r : RelO (some v) o) : ∃ u, o = some u ∧ RelV v u := by
  cases o with
  | none => exact (show False from r).elim
  | some u => exact ⟨u, rfl, r⟩
theorem RelO.none_of {o : Option Value} (r : RelO none o) : o = none := by
  cases o with
  | none => rfl
  | some u => exact (show False from r).elim
theorem handed_of {v : V} {u : Value} (r : RelV v u) : PySem.W.handedIn u = true := by
  cases v with
  | non => cases (show u = Value.none from r); rfl
  | bl b => cases (show u = Value.bool b from r); rfl
  | int i => obtain ⟨t, e⟩ := (show ∃ t, u = Value.int i t from r); cases e; rfl
  | str x => obtain ⟨t, e⟩ := (show ∃ t, u = Value.str x t from r); cases e; rfl
  | byt b => obtain ⟨t, e⟩ := (show ∃ t, u = Value.bytes b t from r); cases e; rfl
  | flt b => obtain ⟨t, e⟩ := (show ∃ t, u = Value.float b t from r); cases e; rfl
  | ref a => cases (show u = Value.ref a from r); rfl
  | ty n => cases (show u = Value.type n from r); rfl

section
variable {P : Program} {w : World} {H H' : Hp} {h h' : Heap} {a C dx : Addr} {fs fs' : List (Str × V)}
theorem ins_get (hok : HOk P w H h) (e : H a = some (.ins C dx fs)) : ∃ mA, ObjM h a dx C mA ∧ (∀ f, RelO (fs.lookup f) (mA f)) ∧ PySem.Within mA (fs.map (·.1)) ∧ fs.length ≤ 1000 ∧ H dx = some (.own a) := by
  obtain ⟨d, z, ne, ob, mA, n, r, q⟩ := (show ObjOk P w H h a (.ins C dx fs) from hok a _ e)
  exact ⟨mA, ⟨ob, n, ne⟩, r, q, z, d⟩
end

set_option genInjectivity false in
set_option genSizeOf false in
structure Cls (K : PySem.W.Frag) (C : Addr) : Prop where
  pg : PySem.W.plainGet K C Str.empty = true
  hd : PySem.W.hasDictIn K C = true
  po : PySem.W.plainOver K C = true
  sa : PySem.W.findIn K (.ref C) "__setattr__" = some (some (.builtin "object.__setattr__"))
theorem Cls.get {K : PySem.W.Frag} {C : Addr} (c : Cls K C) (f : Str) : PySem.W.plainGet K C f = true := c.pg
noncomputable def NoAttr (K : PySem.W.Frag) (C : Addr) (f : Str) : Prop := PySem.W.findIn K (.ref C) f = some none
theorem NoAttr.taker {K : PySem.W.Frag} {C : Addr} {f : Str} (n : NoAttr K C f) : PySem.W.takerIn K C f = some none := by
  unfold PySem.W.takerIn
  rw [show PySem.W.findIn K (.ref C) f = some none from n]
  rfl
set_option genInjectivity false in
set_option genSizeOf false in
structure Con (K : PySem.W.Frag) (C : Addr) (f : Str) (v : V) (u : Value) : Prop where
  at_ : PySem.W.findIn K (.ref C) f = some (some u)
  rel : RelV v u
  get : PySem.W.specialIn K u "__get__" = some none
  cp : PySem.W.copiedNames.contains f = false
set_option genInjectivity false in
set_option genSizeOf false in
structure Meth (K : PySem.W.Frag) (C : Addr) (m : Str) (f : Addr) : Prop where
  at_ : PySem.W.findIn K (.ref C) m = some (some (.ref f))
  fn : PySem.W.isFn K (.ref f) = true
  kp : PySem.W.keepIn K (.ref f) = true

section
variable {X : Cx} {pins : List (Addr × Obj)} {σ : St} {H : Hp} {s : Shared} {a C dx : Addr} {fs : List (Str × V)} {f : Str} {v : V} {A : Around} {E : Value → Shared → Prop}

theorem getattr_ok {b : Bool} {Q : Value → Shared → Prop} (I : Inv X pins σ H s) (e : H a = some (.ins C dx fs)) (c : Cls X.K C) (n : NoAttr X.K C f) (l : fs.lookup f = some v)
    (h : ∀ u s', Inv X pins σ H s' → RelV v u → Q u s') : wpAny (model X.prog X.w) A (getAttr (.ref a) f b) Q E s := by
  obtain ⟨mA, O, r, _, _, _⟩ := ins_get I.hok e
  obtain ⟨u, hu, ru⟩ := RelO.some_of (v := v) (o := mA f) (by rw [← l]; exact r f)
  exact get_map I.kIn O (c.get f) c.hd n hu (handed_of ru) (h u _ (I.tok _) ru)

theorem getmeth_ok {m : Str} {g : Addr} {pl : Sem Bool} {Q : Value × List Value → Shared → Prop} (I : Inv X pins σ H s) (e : H a = some (.ins C dx fs)) (c : Cls X.K C) (k : Meth X.K C m g) (l : fs.lookup m = none)
    (h : Q (.ref g, [.ref a]) s) : wpAny (model X.prog X.w) A (getMethod (.ref a) m pl) Q E s := by
  obtain ⟨mA, O, r, _, _, _⟩ := ins_get I.hok e
  have hn : mA m = none := RelO.none_of (by rw [← l]; exact r m)
  exact get_meth I.kIn O (c.get m) k.at_ k.fn hn h

theorem setattr_ok {y : V} {u : Value} {Q : Unit → Shared → Prop} (I : Inv X pins σ H s) (e : H a = some (.ins C dx fs)) (c : Cls X.K C) (n : NoAttr X.K C f) (hl : fs.length < 1000) (ry : RelV y u)
    (h : ∀ s', Inv X pins σ (upd H a (.ins C dx (putF f y fs))) s' → Q () s') : wpAny (model X.prog X.w) A (setAttr (.ref a) f u) Q E s := by
  obtain ⟨mA, O, r, wi, _, ho⟩ := ins_get I.hok e
  have hz : (fs.map (·.1)).length ≤ sizeLine := by rw [List.length_map, sizeLine_eq]; omega
  refine set_map I.kIn O c.sa c.po n.taker c.hd wi hz fun h' O' sb => h _ ?_
  have hd : ∃ o, h'.get? dx = some o := let ⟨o, _, _, e', _⟩ := O'.ns; ⟨o, e'⟩
  refine I.write (x := a) (e := dx) (by rw [e]; exact True.intro) (.inr ho) (fun b q hb z => (sb.2 b hb).trans z) hd ?_
  refine ⟨by rw [upd_ne O.ne]; exact ho, ?_, O.ne, O'.obj, _, O'.ns, fun g => ?_, fun g hg => ?_⟩
  · have := length_putF f y fs; omega
  · show RelO ((putF f y fs).lookup g) (if g = f then some u else mA g)
    rw [lookup_putF]
    by_cases q : g = f
    · rw [if_pos q, if_pos q]; exact ry
    · rw [if_neg q, if_neg q]; exact r g
  · by_cases q : g = f
    · rw [q]; exact (keys_putF f y fs).1
    · refine (keys_putF f y fs).2 g (wi g fun z => hg ?_)
      show (if g = f then some u else mA g) = none
      rw [if_neg q]; exact z

theorem Inv.made (I : Inv X pins σ H s) : Inv X pins σ (upd (upd H s.heap.objs.size (.own (s.heap.objs.size + 1))) (s.heap.objs.size + 1) (.ins C s.heap.objs.size []))
    { s with heap := (s.heap.push PySem.W.emptyDict).push (PySem.W.instObj C s.heap.objs.size) } := by
  have e1 : (s.heap.push PySem.W.emptyDict).get? s.heap.objs.size = some PySem.W.emptyDict := Heap.get?_push_size s.heap rfl
  have e2 : ((s.heap.push PySem.W.emptyDict).push (PySem.W.instObj C s.heap.objs.size)).get? (s.heap.objs.size + 1) = some (PySem.W.instObj C s.heap.objs.size) := by
    have := Heap.get?_push_size (s.heap.push PySem.W.emptyDict) (o := PySem.W.instObj C s.heap.objs.size) rfl
    rwa [Heap.size_push] at this
  have e3 : (s.heap.push PySem.W.emptyDict).Ns s.heap.objs.size (fun _ => none) := ⟨PySem.W.emptyDict, #[], _, e1, rfl, (fun e he => absurd he (by simp)), fun _ => rfl⟩
  have I1 := I.laid (a := s.heap.objs.size) (o := .own (s.heap.objs.size + 1)) (h' := s.heap.push PySem.W.emptyDict) (t' := s.toks) (fun b u q => Heap.get?_push_of_some _ q) (Nat.le_refl _) ⟨_, e1⟩
  refine I1.laid (a := s.heap.objs.size + 1) (o := .ins C s.heap.objs.size []) (t' := s.toks) (fun b u q => Heap.get?_push_of_some _ q) (Nat.le_of_eq (Heap.size_push _ _)) ?_
  have ne : s.heap.objs.size ≠ s.heap.objs.size + 1 := Nat.ne_of_lt (Nat.lt_succ_self _)
  refine ⟨by rw [upd_ne ne, upd_same], Nat.zero_le _, ne, e2, fun _ => none, (Heap.Ns1.of_empty e3).at fun o q => Heap.get?_push_of_some _ q, fun _ => True.intro, fun y hy => absurd rfl hy⟩

theorem attr_of {prog : Program} {w : World} {env : Env} {e : Expr} {f : Str} {pos : Pos} {s : Shared} {Q : Value → Shared → Prop} (hb : attributeBase e f env (eval e env) = eval e env)
    (h : wpAny (model prog w) A (eval e env) (fun o s₁ => wpAny (model prog w) A (getAttr o f true) Q E s₁) E s) : wpAny (model prog w) A (eval (.Attribute e f pos) env) Q E s :=
  Attribute_any_ h (by rw [arm_eval_Attribute, hb])
end

noncomputable def tFld (K : PySem.W.Frag) (ta : TE) (f : Str) : TE := fun σ H Q => ta σ H fun x H1 => ∃ a C dx fs v, x = .ref a ∧ H1 a = some (.ins C dx fs) ∧ Cls K C ∧ NoAttr K C f ∧ fs.lookup f = some v ∧ Q v H1
noncomputable def sFld (K : PySem.W.Frag) (ta tv : TE) (f : Str) : TS := fun D σ H => tv σ H fun y H1 => ta σ H1 fun x H2 => ∃ a C dx fs, x = .ref a ∧ H2 a = some (.ins C dx fs) ∧ Cls K C ∧ NoAttr K C f ∧ fs.length < 1000 ∧
  D.nx σ (upd H2 a (.ins C dx (putF f y fs)))
noncomputable def InOp (X : Cx) (op : Operator) (rd : V → V → Hp → VK → Prop) : Prop :=
  ∀ (pins : List (Addr × Obj)) (s : Shared) (σ : St) (H : Hp) (x y : V) (u v : Value) (Q : VK), Inv X pins σ H s → RelV x u → RelV y v → rd x y H Q → wpAny (model X.prog X.w) X.A (inplaceOp op u v) (EP X pins σ Q) X.xe s
noncomputable def sFldAug (K : PySem.W.Frag) (ta tv : TE) (rd : V → V → Hp → VK → Prop) (f : Str) : TS := fun D σ H => ta σ H fun x H1 => ∃ a C dx fs v, x = .ref a ∧ H1 a = some (.ins C dx fs) ∧ Cls K C ∧ NoAttr K C f ∧ fs.lookup f = some v ∧
  tv σ H1 fun y H2 => rd v y H2 fun z H3 => ∃ dx' fs', H3 a = some (.ins C dx' fs') ∧ fs'.length < 1000 ∧ D.nx σ (upd H3 a (.ins C dx' (putF f z fs')))

section
variable {X : Cx} {o e value : Expr} {f : Str} {pos pos' tpos : Pos} {ta tv : TE}
theorem pe_fld (he : PE X e ta) (hb : attributeBase e f X.env (eval e X.env) = eval e X.env) : PE X (.Attribute e f pos) (tFld X.K ta f) := by
  intro pins s σ H Q I h
  refine attr_of hb (thn (he pins s σ H _ I h) fun u s1 zz => ?_)
  obtain ⟨x, H1, I1, rx, a, C, dx, fs, v, ex, ea, c, n, l, q⟩ := zz
  subst ex
  obtain rfl : u = Value.ref a := rx
  exact getattr_ok I1 ea c n l fun u' s2 I2 ru => ⟨v, H1, I2, ru, q⟩
theorem ps_fld (ha : PE X o ta) (hv : PE X value tv) (hs : swapsWith value (some (.Attribute o f pos')) pos.line X.env = pure false) : PS X (.Assign [.Attribute o f pos'] value pos) (sFld X.K ta tv f) := by
  intro pins s σ H D I h
  refine plainObj_wpAny_Assign_Attribute (thn (hv pins s σ H _ I h) fun u s1 ⟨y, H1, I1, ry, q⟩ => thn (ha pins s1 σ H1 _ I1 q) fun ov s2 zz => ?_) hs
  obtain ⟨x, H2, I2, rx, a, C, dx, fs, ex, ea, c, n, l, q2⟩ := zz
  subst ex
  obtain rfl : ov = Value.ref a := rx
  exact setattr_ok I2 ea c n l ry fun s3 I3 => ⟨σ, _, I3, q2⟩
theorem ps_fldaug {op : Operator} {rd : V → V → Hp → VK → Prop} (ha : PE X o ta) (hv : PE X value tv) (hop : InOp X op rd) : PS X (.AugAssign (.Attribute o f tpos) op value pos) (sFldAug X.K ta tv rd f) := by
  intro pins s σ H D I h
  refine wpAny_AugAssign_AttributeAny (thn (ha pins s σ H _ I h) fun ov s1 zz => ?_)
  obtain ⟨x, H1, I1, rx, a, C, dx, fs, v, ex, ea, c, n, l, q⟩ := zz
  subst ex
  obtain rfl : ov = Value.ref a := rx
  refine getattr_ok I1 ea c n l fun u s2 I2 ru => thn (hv pins s2 σ H1 _ I2 q) fun w3 s3 ⟨y, H2, I3, ry, q3⟩ => thn (hop pins s3 σ H2 v y u w3 _ I3 ru ry q3) fun w4 s4 zz => ?_
  obtain ⟨z, H3, I4, rz, dx', fs', ea', l', q4⟩ := zz
  exact setattr_ok I4 ea' c n l' rz fun s5 I5 => ⟨σ, _, I5, q4⟩
noncomputable def rAdd : V → V → Hp → VK → Prop := fun x y H Q => ∃ i j, x = .int i ∧ y = .int j ∧ Q (.int (i + j)) H
theorem in_add : InOp X .Add rAdd := by
  rintro pins s σ H x y u v Q I rx ry ⟨i, j, rfl, rfl, q⟩
  obtain ⟨t, rfl⟩ := (show ∃ t, u = Value.int i t from rx)
  obtain ⟨t', rfl⟩ := (show ∃ t', v = Value.int j t' from ry)
  exact PyProof.Rows.iadd_int ⟨.int (i + j), H, I.tok _, ⟨_, rfl⟩, q⟩
end

section
variable {X : Cx} {pins : List (Addr × Obj)} {σ : St} {H : Hp} {s : Shared} {A : Around} {E : Value → Shared → Prop} {Q : Value → Shared → Prop} {c : Value} {b : Bool}
inductive TyOf (K : PySem.W.Frag) (H : Hp) : V → Value → Prop where
  | non : TyOf K H .non (.type "NoneType")
  | bl (x : Bool) : TyOf K H (.bl x) (.type "bool")
  | int (i : Int) : TyOf K H (.int i) (.type "int")
  | str (x : Str) : TyOf K H (.str x) (.type "str")
  | flt (x : UInt64) : TyOf K H (.flt x) (.type "float")
  | lst {a : Addr} {xs : List V} (e : H a = some (.lst xs)) : TyOf K H (.ref a) (.type "list")
  | frz {a : Addr} {o : Obj} {xs : List V} (e : H a = some (.frz o (.lst xs))) : TyOf K H (.ref a) (.type "list")
  | tup {a : Addr} {xs : List V} (e : H a = some (.tup xs)) : TyOf K H (.ref a) (.type "tuple")
  | dK {a : Addr} {kvs : List (Key × V)} (e : H a = some (.dK kvs)) : TyOf K H (.ref a) (.type "dict")
  | dT {a : Addr} {kvs : List (List Key × V)} (e : H a = some (.dT kvs)) : TyOf K H (.ref a) (.type "dict")
  | ins {a C dx : Addr} {fs : List (Str × V)} (e : H a = some (.ins C dx fs)) (cl : Cls K C) (ha : PySem.W.findIn K (.ref C) "__class__" = some (some (.builtin "object.__class__")))
      (hn : PySem.W.specialIn K (.builtin "object.__class__") "__get__" = some (some (.builtin "getset_descriptor.__get__"))) (htk : PySem.W.takesIn K (.builtin "object.__class__") = some true)
      (hm : PySem.W.mroIn K C (.type "object") = some true) : TyOf K H (.ref a) (.ref C)
theorem isinst_ok {x : V} {u t : Value} (I : Inv X pins σ H s) (rx : RelV x u) (ty : TyOf X.K H x t) (e : PySem.W.kitOne X.K t c = some b) (h : ∀ tk, Q (.bool b) { s with toks := tk }) :
    wpAny (model X.prog X.w) A (call (.builtin "isinstance") [u, c]) Q E s := by
  cases ty with
  | non => cases (show u = Value.none from rx); exact PySem.W.kia_one PySem.W.kitx_none I.kIn True.intro e (fun z => nomatch z) h
  | bl y => cases (show u = Value.bool y from rx); exact PySem.W.kia_one PySem.W.kitx_bool I.kIn True.intro e (fun z => nomatch z) h
  | int i => obtain ⟨t, q⟩ := (show ∃ t, u = Value.int i t from rx); cases q; exact PySem.W.kia_one PySem.W.kitx_int I.kIn True.intro e (fun z => nomatch z) h
  | str y => obtain ⟨t, q⟩ := (show ∃ t, u = Value.str y t from rx); cases q; exact PySem.W.kia_one PySem.W.kitx_str I.kIn True.intro e (fun z => nomatch z) h
  | flt y => obtain ⟨t, q⟩ := (show ∃ t, u = Value.float y t from rx); cases q; exact PySem.W.kia_one PySem.W.kitx_float I.kIn True.intro e (fun z => nomatch z) h
  | @lst a xs ea =>
    cases (show u = Value.ref a from rx)
    obtain ⟨_, _, n, _, h1⟩ := (show ObjOk X.prog X.w H s.heap a (.lst xs) from I.hok a _ ea)
    exact PySem.W.kia_one PySem.W.kitx_list I.kIn ⟨_, h1, rfl⟩ e (fun z => nomatch z) h
  | @frz a ob xs ea =>
    cases (show u = Value.ref a from rx)
    obtain ⟨_, _, _, n, _, h1⟩ := (show ObjOk X.prog X.w H s.heap a (.frz ob (.lst xs)) from I.hok a _ ea)
    exact PySem.W.kia_one PySem.W.kitx_list I.kIn ⟨_, h1, rfl⟩ e (fun z => nomatch z) h
  | @tup a xs ea =>
    cases (show u = Value.ref a from rx)
    obtain ⟨_, _, _, p⟩ := (show ObjOk X.prog X.w H s.heap a (.tup xs) from I.hok a _ ea)
    obtain ⟨o, h1, h2, _⟩ := p
    exact PySem.W.kia_one PySem.W.kitx_tuple I.kIn ⟨o, h1, h2⟩ e (fun z => nomatch z) h
  | @dK a kvs ea =>
    cases (show u = Value.ref a from rx)
    obtain ⟨_, _, vs, _, p⟩ := (show ObjOk X.prog X.w H s.heap a (.dK kvs) from I.hok a _ ea)
    obtain ⟨o, es, ep, h1, h2, _⟩ := p
    exact PySem.W.kia_one PySem.W.kitx_dict I.kIn ⟨o, h1, h2.1⟩ e (fun z => nomatch z) h
  | @dT a kvs ea =>
    cases (show u = Value.ref a from rx)
    obtain ⟨_, _, xs, _, o, es, ep, h1, h2, _⟩ := (show ObjOk X.prog X.w H s.heap a (.dT kvs) from I.hok a _ ea)
    exact PySem.W.kia_one PySem.W.kitx_dict I.kIn ⟨o, h1, h2.1⟩ e (fun z => nomatch z) h
  | @ins a C dx fs ea cl ha hn htk hm =>
    cases (show u = Value.ref a from rx)
    obtain ⟨mA, O, _⟩ := ins_get I.hok ea
    obtain ⟨od, J, _⟩ := O.look
    exact PySem.W.kia_one (PySem.W.kitx_own (cl.get _) cl.hd ha hn htk hm) I.kIn J e (fun z => nomatch z) h
end
end Internal

namespace Internal
open PySem PySem.Spec PyProof.Rows

set_option genInjectivity false in
set_option genSizeOf false in
structure Room (k : Nat) (A : Around) : Prop where
  hd : A.handled = none
  dp : A.depth + 3 * k + 5 < recursionLimit
  un : A.units + 16 * k + 200 < cLine
theorem Room.mono {j k : Nat} {A : Around} (r : Room k A) (h : j ≤ k) : Room j A := ⟨r.hd, by have := r.dp; omega, by have := r.un; omega⟩
theorem Room.deeper {k : Nat} {A : Around} (r : Room (k + 1) A) (env : Env) : Room k (A.deeper env) :=
  ⟨r.hd, by have := r.dp; show A.depth + 1 + 3 * k + 5 < _; omega, by have := r.un; show A.units + 3 + 16 * k + 200 < _; omega⟩
theorem make_depth {A : Around} {C : Addr} {us : List Value} {kw : List (Str × Value)} : (A.under (.builtin "type.__call__" ⟨.ref C :: us, kw⟩)).depth = A.depth + 1 := by
  first | rfl | simp [Around.under, Code.weight, Code.isCreation, Code.isGuard, Code.isCaller, Code.frames, Code.isFrame, guardIds]
theorem make_units {A : Around} {C : Addr} {us : List Value} {kw : List (Str × Value)} : (A.under (.builtin "type.__call__" ⟨.ref C :: us, kw⟩)).units = A.units + 1 := by
  first | rfl | simp [Around.under, Code.cUnits, Code.frames, Code.isFrame]
theorem Room.make {k : Nat} {A : Around} (r : Room (k + 1) A) (C : Addr) (us : List Value) (kw : List (Str × Value)) : Room k (A.under (.builtin "type.__call__" ⟨.ref C :: us, kw⟩)) :=
  ⟨r.hd, by have := r.dp; rw [make_depth]; omega, by have := r.un; rw [make_units]; omega⟩
theorem Room.depth {k : Nat} {A : Around} (r : Room k A) : A.depth < recursionLimit := by have := r.dp; omega
theorem Room.units {k : Nat} {A : Around} (r : Room k A) : A.units + 64 < cLine := by have := r.un; omega
noncomputable abbrev tNil : TA := fun _ H Q => Q [] H
noncomputable abbrev tCons (ta : TE) (tr : TA) : TA := fun σ H Q => ta σ H fun x H1 => tr σ H1 fun xs H2 => Q (x :: xs) H2
section
variable {X : Cx} {e : Expr} {es : List Expr} {te : TE} {t : TA} {pos : Pos}
theorem pa_nil : PA X [] tNil := fun _ _ _ _ H Q I h => Calls.spliced_nil ⟨[], H, I, .nil, h⟩
theorem pa_cons (ha : PE X e te) (hr : PA X es t) (hs : autoParam (starEach (e :: es) X.env = (false, eval e X.env) :: starEach es X.env) Internal.aut2._auto_1) : PA X (e :: es) (tCons te t) := by
  intro pos pins s σ H Q I h
  rw [hs]
  show wpAny _ _ (spliced ((false, eval e X.env) :: backTo pos (starEach es X.env))) _ _ s
  refine Calls.spliced_cons (thn (ha pins s σ H _ I h) fun u s1 zz => ?_)
  obtain ⟨x, H1, I1, r1, q1⟩ := zz
  exact thn (hr pos pins s1 σ H1 _ I1 q1) fun us s2 ⟨xs, H2, I2, r2, q2⟩ => ⟨x :: xs, H2, I2, .cons r1 r2, q2⟩

noncomputable def tTup (t : TA) : TE := fun σ H Q => t σ H fun xs H1 => xs.length ≤ sizeLine ∧ ∀ p, H1 p = none → Q (.ref p) (upd H1 p (.tup xs))
noncomputable def tLst (t : TA) : TE := fun σ H Q => t σ H fun xs H1 => xs.length ≤ sizeLine ∧ ∀ p, H1 p = none → Q (.ref p) (upd H1 p (.lst xs))
theorem pe_tup {x1} (h : PA X es t) : PE X (.Tuple es x1 pos) (tTup t) := by
  intro pins s σ H Q I hq
  refine wpAny_Tuple_spliced (thn (h pos pins s σ H _ I hq) fun us s1 ⟨xs, H1, I1, r, z, q⟩ => ⟨by rw [← r.length]; exact z, ?_⟩)
  have hf : H1 s1.heap.objs.size = none := I1.hok.fresh (Nat.le_refl _)
  refine ⟨.ref s1.heap.objs.size, upd H1 s1.heap.objs.size (.tup xs), I1.laid (t' := s1.toks) (fun b u e => Heap.get?_push_of_some _ e) (Nat.le_refl _) ?_, rfl, q _ hf⟩
  exact ⟨z, us, r, ⟨_, Heap.get?_push_size _ rfl, rfl, _, rfl⟩⟩
theorem pe_lst (h : PA X es t) : PE X (.List es pos) (tLst t) := by
  intro pins s σ H Q I hq
  refine wpAny_List_spliced (thn (h pos pins s σ H _ I hq) fun us s1 ⟨xs, H1, I1, r, z, q⟩ => ⟨by rw [← r.length]; exact z, ?_⟩)
  have hf : H1 s1.heap.objs.size = none := I1.hok.fresh (Nat.le_refl _)
  refine ⟨.ref s1.heap.objs.size, upd H1 s1.heap.objs.size (.lst xs), I1.laid (t' := s1.toks) (fun b u e => Heap.get?_push_of_some _ e) (Nat.le_refl _) ?_, rfl, q _ hf⟩
  exact ⟨z, us, 0, r, Heap.get?_push_size _ rfl⟩
end

noncomputable abbrev Sp := List V → Hp → VK → XK → Prop
noncomputable abbrev CXT := List Env → Hp → Shared → XK → Value → Shared → Prop

set_option genInjectivity false in
set_option genSizeOf false in
structure Env0 (P : Program) (w : World) (K : PySem.W.Frag) (mg : Str → Option Value) (base : Heap) (A : Around) (outer : List Env) (s : Shared) (H : Hp) : Prop where
  frames : A.frames = some outer
  mod : Mod K mg base
  bs : ∀ b o, base.get? b = some o → s.heap.get? b = some o ∧ H b = none
  bsz : base.objs.size ≤ s.heap.objs.size
  funs : s.heap.FunFrames base outer
  frf : ∀ b ∈ frs outer, H b = none
  hok : HOk P w H s.heap
  bare : AllBare s.gens
noncomputable def CE (outer : List Env) (P : Program) (w : World) (H : Hp) (s : Shared) (Q : VK) (u : Value) (s' : Shared) : Prop :=
  ∃ v H', s'.os = s.os ∧ AllBare s'.gens ∧ Un (frs outer) [] H H' s.heap s'.heap ∧ HOk P w H' s'.heap ∧ RelV v u ∧ Q v H'
noncomputable def CR (CX : CXT) (outer : List Env) (P : Program) (w : World) (H : Hp) (s : Shared) (Q : VK) (E : XK) (r : Result) (s' : Shared) : Prop :=
  match r with
  | .ok (.ret u) => CE outer P w H s Q u s'
  | .ok _ => False
  | .error e => CX outer H s E e s'
set_option genInjectivity false in
set_option genSizeOf false in
structure FnOk (P : Program) (w : World) (K : PySem.W.Frag) (mg : Str → Option Value) (base : Heap) (CX : CXT) (k : Nat) (f : Addr) (fd : FuncData) (ps : List Str) (sp : Sp) : Prop where
  len : ∀ vs H Q E, sp vs H Q E → vs.length = ps.length
  run : ∀ (A : Around) (outer : List Env) (s : Shared) (H : Hp) (args : Args) (us : List Value) (vs : List V) (Q : VK) (E : XK), Room k A → Env0 P w K mg base A outer s H → BindsTo s fd args (ps.zip us) → Vals vs us → sp vs H Q E →
    codeAny (model P w) A (.call (.ref f) args) (CR CX outer P w H s Q E) s
theorem Env0.make {P : Program} {w : World} {K : PySem.W.Frag} {mg : Str → Option Value} {base : Heap} {A : Around} {outer : List Env} {s : Shared} {H : Hp} (e : Env0 P w K mg base A outer s H) (C : Addr) (us : List Value) (kw : List (Str × Value)) :
    Env0 P w K mg base (A.under (.builtin "type.__call__" ⟨.ref C :: us, kw⟩)) outer s H := ⟨by first | exact e.frames | (simpa [Around.under, Code.envs, Code.isFrame, pushEnvs] using e.frames), e.mod, e.bs, e.bsz, e.funs, e.frf, e.hok, e.bare⟩
section
variable {X : Cx} {pins : List (Addr × Obj)} {σ : St} {H : Hp} {s s' : Shared}
theorem Inv.env0 (I : Inv X pins σ H s) : Env0 X.prog X.w X.K X.mg X.base X.A X.stack s H :=
  ⟨I.ok.frames, I.ok.mod, I.bs, Nat.le_trans I.ok.bsz I.sz, I.stack, I.stkFree, I.hok, I.bare⟩
theorem Inv.after {Q : VK} {u : Value} (I : Inv X pins σ H s) (h : CE X.stack X.prog X.w H s Q u s') : EP X pins σ Q u s' := by
  obtain ⟨v, H', os, bare, un, hok, r, q⟩ := h
  obtain ⟨hh, g, d, t, os'⟩ := s'
  obtain rfl : os' = s.os := os
  exact ⟨v, H', I.call (h' := hh) (g' := g) (d' := d) (t' := t) (ch := []) un hok bare (fun b z => absurd z (by simp)), r, q⟩
end

noncomputable def tCall (sp : Sp) (dvs : List V) (E : XK) (t : TA) : TE := fun σ H Q => t σ H fun vs H1 => sp (vs ++ dvs) H1 Q E
noncomputable def tMeth (C : Addr) (m : Str) (sp : Sp) (dvs : List V) (E : XK) (ta : TE) (t : TA) : TE := fun σ H Q => ta σ H fun x H1 => ∃ a dx fs, x = .ref a ∧ H1 a = some (.ins C dx fs) ∧ fs.lookup m = none ∧
  t σ H1 fun vs H2 => sp (x :: (vs ++ dvs)) H2 Q E
noncomputable def tMake (C : Addr) (sp : Sp) (dvs : List V) (E : XK) (t : TA) : TE := fun σ H Q => t σ H fun vs H1 => ∀ x dx, H1 x = none → H1 dx = none → dx ≠ x →
  sp (.ref x :: (vs ++ dvs)) (upd (upd H1 dx (.own x)) x (.ins C dx [])) (fun v H2 => v = .non ∧ Q (.ref x) H2) E

noncomputable def Binds (K : PySem.W.Frag) (fd : FuncData) (ps : List Str) (ds : List Value) : Prop :=
  ∀ (s : Shared) (us : List Value), K.In s.heap → (us ++ ds).length = ps.length → BindsTo s fd ⟨us, []⟩ (ps.zip (us ++ ds))
theorem Binds.all {K : PySem.W.Frag} {fd : FuncData} {ps : List Str} (h : ∀ us : List Value, us.length = ps.length → bindArgs fd ⟨us, []⟩ = pure (ps.zip us)) : Binds K fd ps [] := fun s us _ hl => by
  rw [List.append_nil] at hl ⊢
  exact .of_eq (h us hl)

noncomputable def Passes (CX : CXT) (X : Cx) (E : XK) : Prop := ∀ (pins : List (Addr × Obj)) (σ : St) (H : Hp) (s : Shared) (e : Value) (s' : Shared), Inv X pins σ H s → CX X.stack H s E e s' → X.xe e s'

section
variable {X : Cx} {CX : CXT} {k : Nat} {f C : Addr} {fd : FuncData} {ps : List Str} {sp : Sp} {dvs : List V} {ds : List Value} {E : XK} {x m : Str} {p pos apos : Pos} {e o : Expr} {es : List Expr} {ta : TE} {t : TA}

theorem run_fn {pins : List (Addr × Obj)} {σ : St} {H : Hp} {s : Shared} {Q : VK} {us : List Value} {vs : List V} (F : FnOk X.prog X.w X.K X.mg X.base CX k f fd ps sp) (hr : Room k X.A) (hb : Binds X.K fd ps ds) (hd : Vals dvs ds) (hx : Passes CX X E)
    (I : Inv X pins σ H s) (r : Vals vs us) (h : sp (vs ++ dvs) H Q E) : wpAny (model X.prog X.w) X.A (call (.ref f) us) (EP X pins σ Q) X.xe s := by
  have r2 : Vals (vs ++ dvs) (us ++ ds) := r.append hd
  have hl : (us ++ ds).length = ps.length := by rw [← r2.length]; exact F.len _ _ _ _ h
  refine wpAny_call (codeAny_mono (F.run X.A X.stack s H ⟨us, []⟩ (us ++ ds) (vs ++ dvs) Q E hr I.env0 (hb s us I.kIn hl) r2 h) fun r s' hq => ?_)
  cases r with
  | error e => exact hx pins σ H s e s' I hq
  | ok fl =>
    cases fl with
    | ret u => exact I.after hq
    | next => exact False.elim hq
    | brk => exact False.elim hq
    | cont => exact False.elim hq

theorem pe_call (F : FnOk X.prog X.w X.K X.mg X.base CX k f fd ps sp) (hr : Room k X.A) (hg : Gl X x) (hm : X.mg x = some (.ref f)) (hk : PySem.W.keepIn X.K (.ref f) = true) (hb : Binds X.K fd ps ds) (hd : Vals dvs ds) (hx : Passes CX X E)
    (ha : PA X (e :: es) t) (hdb : autoParam ((x == ("__debug__" : Str)) = false) Internal.aut1._auto_1) (he : autoParam (starEach (e :: es) X.env = (false, eval e X.env) :: starEach es X.env) Internal.aut2._auto_1) (hpl : autoParam ((backTo pos (starEach es X.env)).any (·.1) = false) Internal.aut2._auto_1) :
    PE X (.Call (.Name x p) (e :: es) [] pos) (tCall sp dvs E t) := by
  intro pins s σ H Q I h
  refine wpAny_Call_Name_kw (ld_glob I hg hm ?_ hdb)
  refine PySem.W.callWith_K (h₀ := X.base) I.ok.mod.kin hk (thn (ha pos pins s σ H _ I h) fun us s1 ⟨vs, H1, I1, r, q⟩ => ⟨I1.kIn, ?_⟩) he hpl
  exact run_fn F hr hb hd hx I1 r q
theorem pe_meth {pl : Sem Bool} (he : PE X o ta) (c : Cls X.K C) (hm : Meth X.K C m f) (F : FnOk X.prog X.w X.K X.mg X.base CX k f fd ps sp) (hr : Room k X.A) (hb : Binds X.K fd ps ds) (hd : Vals dvs ds) (hx : Passes CX X E) (ha : PA X (e :: es) t)
    (hst : autoParam (starEach (e :: es) X.env = (false, eval e X.env) :: starEach es X.env) Internal.aut2._auto_1) (hpl : autoParam ((backTo pos (starEach es X.env)).any (·.1) = false) Internal.aut2._auto_1)
    (ht : autoParam (eval (.Call (.Attribute o m apos) (e :: es) [] pos) X.env = (do
      let ov ← eval o X.env
      standAt apos.atName
      let (f, first) ← holding [ov] (getMethod ov m pl)
      callWith pos f first (backTo pos (starEach (e :: es) X.env)) (backToKw pos (keywordEach [] X.env)))) Internal.aut2._auto_1) :
    PE X (.Call (.Attribute o m apos) (e :: es) [] pos) (tMeth C m sp dvs E ta t) := by
  intro pins s σ H Q I h
  refine PySem.W.methodCall_KW (pl := pl) (thn (he pins s σ H _ I h) fun u s1 zz => ?_) ht
  obtain ⟨x, H1, I1, rx, a, dx, fs, ex, ea, l, q⟩ := zz
  subst ex
  obtain rfl : u = Value.ref a := rx
  refine getmeth_ok I1 ea c hm l ?_
  refine PySem.W.callWith_K (first := [.ref a]) (h₀ := X.base) I.ok.mod.kin hm.kp (thn (ha pos pins s1 σ H1 _ I1 q) fun us s2 ⟨vs, H2, I2, r, q2⟩ => ⟨I2.kIn, ?_⟩) hst hpl
  exact run_fn (us := .ref a :: us) (vs := .ref a :: vs) F hr hb hd hx I2 (.cons rfl r) q2
theorem pe_meth0 {pl : Sem Bool} (he : PE X o ta) (c : Cls X.K C) (hm : Meth X.K C m f) (F : FnOk X.prog X.w X.K X.mg X.base CX k f fd ps sp) (hr : Room k X.A) (hb : Binds X.K fd ps ds) (hd : Vals dvs ds) (hx : Passes CX X E)
    (ht : autoParam (eval (.Call (.Attribute o m apos) [] [] pos) X.env = (do
      let ov ← eval o X.env
      standAt apos.atName
      let (f, first) ← holding [ov] (getMethod ov m pl)
      callWith pos f first (backTo pos (starEach [] X.env)) (backToKw pos (keywordEach [] X.env)))) Internal.aut2._auto_1) :
    PE X (.Call (.Attribute o m apos) [] [] pos) (tMeth C m sp dvs E ta tNil) := by
  intro pins s σ H Q I h
  refine PySem.W.methodCall_KW (pl := pl) (thn (he pins s σ H _ I h) fun u s1 zz => ?_) ht
  obtain ⟨x, H1, I1, rx, a, dx, fs, ex, ea, l, q⟩ := zz
  subst ex
  obtain rfl : u = Value.ref a := rx
  refine getmeth_ok I1 ea c hm l ?_
  exact PySem.W.callWith_K0 (first := [.ref a]) I1.kIn hm.kp (run_fn (us := [.ref a]) (vs := [.ref a]) F hr hb hd hx I1 (.cons rfl .nil) q)

set_option genInjectivity false in
set_option genSizeOf false in
structure Mk (K : PySem.W.Frag) (C f : Addr) : Prop where
  makes : PySem.W.makesIn K C = true
  init : PySem.W.findIn K (.ref C) "__init__" = some (some (.ref f))
  fn : PySem.W.isFn K (.ref f) = true
  kp : PySem.W.keepIn K (.ref C) = true

theorem run_make {pins : List (Addr × Obj)} {σ : St} {H : Hp} {s : Shared} {Q : VK} {us : List Value} {vs : List V} (M : Mk X.K C f) (F : FnOk X.prog X.w X.K X.mg X.base CX k f fd ps sp) (hr : Room (k + 1) X.A) (hb : Binds X.K fd ps ds) (hd : Vals dvs ds)
    (hx : Passes CX X E) (I : Inv X pins σ H s) (r : Vals vs us)
    (h : ∀ x dx, H x = none → H dx = none → dx ≠ x → sp (.ref x :: (vs ++ dvs)) (upd (upd H dx (.own x)) x (.ins C dx [])) (fun v H2 => v = .non ∧ Q (.ref x) H2) E) :
    wpAny (model X.prog X.w) X.A (call (.ref C) us) (EP X pins σ Q) X.xe s := by
  have hq := h (s.heap.objs.size + 1) s.heap.objs.size (I.hok.fresh (Nat.le_succ _)) (I.hok.fresh (Nat.le_refl _)) (Nat.ne_of_lt (Nat.lt_succ_self _))
  have I2 := Inv.made (C := C) I
  have r2 : Vals (V.ref (s.heap.objs.size + 1) :: (vs ++ dvs)) (Value.ref (s.heap.objs.size + 1) :: (us ++ ds)) := .cons rfl (r.append hd)
  have hl : (Value.ref (s.heap.objs.size + 1) :: us ++ ds).length = ps.length := by
    have e := r2.length
    rw [F.len _ _ _ _ hq] at e
    exact e.symm
  refine wpAny_call (make_map (f := f) I.kIn M.makes M.init (beq_iff_eq.mp M.fn) (codeAny_mono (F.run _ X.stack _ _ ⟨Value.ref (s.heap.objs.size + 1) :: us, []⟩ (Value.ref (s.heap.objs.size + 1) :: (us ++ ds)) _ _ E (hr.make C us [])
    (I2.env0.make C us []) (hb _ (Value.ref (s.heap.objs.size + 1) :: us) I2.kIn hl) r2 hq) fun r s' hq' => ?_))
  cases r with
  | error e => exact hx pins σ _ _ e s' I2 hq'
  | ok fl =>
    cases fl with
    | ret u =>
      obtain ⟨v, H', I3, rv, ev, q3⟩ := I2.after hq'
      subst ev
      exact ⟨rv, ⟨V.ref (s.heap.objs.size + 1), H', I3, rfl, q3⟩⟩
    | next => exact False.elim hq'
    | brk => exact False.elim hq'
    | cont => exact False.elim hq'
theorem pe_make (M : Mk X.K C f) (F : FnOk X.prog X.w X.K X.mg X.base CX k f fd ps sp) (hr : Room (k + 1) X.A) (hg : Gl X x) (hm : X.mg x = some (.ref C)) (hb : Binds X.K fd ps ds) (hd : Vals dvs ds) (hx : Passes CX X E)
    (ha : PA X (e :: es) t) (hdb : autoParam ((x == ("__debug__" : Str)) = false) Internal.aut1._auto_1) (he : autoParam (starEach (e :: es) X.env = (false, eval e X.env) :: starEach es X.env) Internal.aut2._auto_1) (hpl : autoParam ((backTo pos (starEach es X.env)).any (·.1) = false) Internal.aut2._auto_1) :
    PE X (.Call (.Name x p) (e :: es) [] pos) (tMake C sp dvs E t) := by
  intro pins s σ H Q I h
  refine wpAny_Call_Name_kw (ld_glob I hg hm ?_ hdb)
  refine PySem.W.callWith_K (h₀ := X.base) I.ok.mod.kin M.kp (thn (ha pos pins s σ H _ I h) fun us s1 ⟨vs, H1, I1, r, q⟩ => ⟨I1.kIn, ?_⟩) he hpl
  exact run_make M F hr hb hd hx I1 r q
end

section
variable {X : Cx} {CX : CXT} {k : Nat} {f C : Addr} {fd : FuncData} {ps ks : List Str} {sp : Sp} {E : XK} {x m : Str} {p pos apos kpos : Pos} {e o : Expr} {es : List Expr} {kws : List Keyword} {te ta : TE} {t tk : TA} {nm : Option Str}
set_option genInjectivity false in
set_option genSizeOf false in
structure KBinds (K : PySem.W.Frag) (fd : FuncData) (ps ks : List Str) (g : List Value → List Value → List Value) (gV : List V → List V → List V) : Prop where
  to : ∀ (s : Shared) (us ws : List Value), K.In s.heap → (g us ws).length = ps.length → BindsTo s fd ⟨us, ks.zip ws⟩ (ps.zip (g us ws))
  rel : ∀ {vs : List V} {us : List Value} {zs : List V} {ws : List Value}, Vals vs us → Vals zs ws → Vals (gV vs zs) (g us ws)
variable {g : List Value → List Value → List Value} {gV : List V → List V → List V}
end

set_option genInjectivity false in
set_option genSizeOf false in
structure FnScope (N P : List Str) (sc : Scope) : Prop where
  kind : sc.kind = .function
  co : sc.isCoroutine = false
  gen : sc.isGenerator = false
  nd : N.Nodup
  pre : N.take P.length = P
  par : ∀ x ∈ P, sc.names.lookup x = some .local ∨ sc.names.lookup x = some .cell
  nofree : ∀ y ∈ sc.names, y.2 ≠ .free

theorem bindL_out {kindOf : Str → Option NameKind} {x : Str} : ∀ {binds : List (Str × Value)} {m : Str → Option Value}, (∀ v, (x, v) ∉ binds) → bindL kindOf binds m x = m x
  | [], _, _ => rfl
  | (n, v) :: r, m, h => by
    unfold bindL
    rw [bindL_out fun w hw => h w (List.mem_cons_of_mem _ hw)]
    split
    · have : x ≠ n := by rintro rfl; exact h v List.mem_cons_self
      simp [this]
    · rfl
theorem bindC_out {kindOf : Str → Option NameKind} {x : Str} : ∀ {binds : List (Str × Value)} {m : Str → Option Value}, (∀ v, (x, v) ∉ binds) → bindC kindOf binds m x = m x
  | [], _, _ => rfl
  | (n, v) :: r, m, h => by
    unfold bindC
    rw [bindC_out fun w hw => h w (List.mem_cons_of_mem _ hw)]
    split
    · rfl
    · have : x ≠ n := by rintro rfl; exact h v List.mem_cons_self
      simp [this]
theorem bindL_get {kindOf : Str → Option NameKind} {x : Str} {v : Value} : ∀ {P : List Str} {vs : List Value} {i : Nat} {m : Str → Option Value}, P.Nodup → P[i]? = some x → vs[i]? = some v → kindOf x = some .local →
    bindL kindOf (P.zip vs) m x = some v
  | [], _, _, _, _, h, _, _ => by simp at h
  | _ :: _, [], _, _, _, _, h, _ => by simp at h
  | p :: P, w :: vs, 0, m, nd, h1, h2, hk => by
    simp at h1 h2; subst h1; subst h2
    show bindL kindOf ((p, w) :: P.zip vs) m p = _
    unfold bindL
    rw [bindL_out fun v hv => (List.nodup_cons.mp nd).1 (List.of_mem_zip hv).1, if_pos hk]
    simp
  | p :: P, w :: vs, i + 1, m, nd, h1, h2, hk => by
    show bindL kindOf ((p, w) :: P.zip vs) m x = _
    unfold bindL
    exact bindL_get (i := i) (List.nodup_cons.mp nd).2 (by simpa using h1) (by simpa using h2) hk
theorem bindC_get {kindOf : Str → Option NameKind} {x : Str} {v : Value} : ∀ {P : List Str} {vs : List Value} {i : Nat} {m : Str → Option Value}, P.Nodup → P[i]? = some x → vs[i]? = some v → kindOf x ≠ some .local →
    bindC kindOf (P.zip vs) m x = some v
  | [], _, _, _, _, h, _, _ => by simp at h
  | _ :: _, [], _, _, _, _, h, _ => by simp at h
  | p :: P, w :: vs, 0, m, nd, h1, h2, hk => by
    simp at h1 h2; subst h1; subst h2
    show bindC kindOf ((p, w) :: P.zip vs) m p = _
    unfold bindC
    rw [bindC_out fun v hv => (List.nodup_cons.mp nd).1 (List.of_mem_zip hv).1, if_neg hk]
    simp
  | p :: P, w :: vs, i + 1, m, nd, h1, h2, hk => by
    show bindC kindOf ((p, w) :: P.zip vs) m x = _
    unfold bindC
    exact bindC_get (i := i) (List.nodup_cons.mp nd).2 (by simpa using h1) (by simpa using h2) hk

noncomputable def start (N : List Str) (vs : List V) : St := vs.map some ++ List.replicate (N.length - vs.length) none

noncomputable def cxOf (CX : CXT) (P : Program) (w : World) (K : PySem.W.Frag) (mg : Str → Option Value) (base : Heap) (N : List Str) (qual : Str) (scope : Scope) (f : Addr) (cd : Value) (A : Around) (outer : List Env) (s : Shared) (H : Hp) (E : XK) : Cx where
  prog := P
  w := w
  K := K
  mg := mg
  base := base
  A := A.deeper (envOfC qual scope s.heap.objs.size f cd)
  N := N
  s₀ := s
  H₀ := H
  env := envOfC qual scope s.heap.objs.size f cd
  outer := outer
  stack := envOfC qual scope s.heap.objs.size f cd :: outer
  ex := []
  calm := true
  fn := fun _ => true
  pn := []
  xe := fun e s' => wpAny (model P w) (A.deeper (envOfC qual scope s.heap.objs.size f cd)) (leaving (envOfC qual scope s.heap.objs.size f cd) e) (fun _ s'' => CX outer H s E e s'') (fun e' s'' => CX outer H s E e' s'') s'

theorem cell_has {sc : Scope} {n : Nat} {x : Str} (h : sc.names.lookup x = some .cell) : ∃ c, (cellsFrom n sc.names []).lookup x = some c := by
  have q := PySem.W.cellsFrom_some sc.names n [] (.inl h)
  exact Option.isSome_iff_exists.mp q

theorem inv_start {CX : CXT} {P : Program} {w : World} {K : PySem.W.Frag} {mg : Str → Option Value} {base : Heap} {N ps : List Str} {qual : Str} {scope : Scope} {f : Addr} {cd : Value} {A : Around} {outer : List Env} {s s1 : Shared} {H : Hp} {E : XK} {us : List Value} {vs : List V}
    (S : FnScope N ps scope) (hd : A.handled = none) (e0 : Env0 P w K mg base A outer s H) (hl : vs.length = ps.length) (r : Vals vs us)
    (x : InCallC s s.heap.objs.size (bindL (envOfC qual scope s.heap.objs.size f cd).kindOf (ps.zip us) fun _ => none) (cellsFrom (s.heap.objs.size + 1) scope.names []) (bindC (envOfC qual scope s.heap.objs.size f cd).kindOf (ps.zip us) fun _ => none) s1) :
    Inv (cxOf CX P w K mg base N qual scope f cd A outer s H E) [] (start N vs) H s1 := by
  have hpl : ps.length ≤ N.length := by have := congrArg List.length S.pre; rw [List.length_take] at this; omega
  obtain ⟨h1, tk, rfl, hk⟩ := x.done
  have noA : ∀ b : Addr, b ∉ (cxOf CX P w K mg base N qual scope f cd A outer s H E).ex := fun b z => absurd (show b ∈ ([] : List Addr) from z) (by simp)
  refine ⟨⟨e0.mod, S.kind, rfl, rfl, Nat.le_refl _, fun y z c h1 h2 => ?_, fun y hy => ?_, fun y c _ h => ?_, fun _ => hd, Around.frames_deeper e0.frames, .inr ⟨rfl, rfl⟩, fun b z => absurd z (noA b), e0.bs, e0.bsz, fun b _ _ => noA b, fun b z => absurd z (noA b), e0.funs, e0.frf⟩,
    rfl, e0.bare, Un.kept hk, ⟨_, x.toInCall.ns, fun i y v h1 h2 h3 => ?_⟩, fun y c h => ⟨_, x.cell y c h⟩, e0.hok.fresh (Nat.le_refl _), fun y c h => ?_, fun p hp => absurd (show p ∈ ([] : List (Addr × Obj)) from hp) (by simp), e0.hok.kept hk, ?_⟩
  · exact name_of_addr x.apart (PySem.mem_of_lookup h1) (PySem.mem_of_lookup h2)
  · have hy : scope.names.lookup y = some .cell ∨ scope.names.lookup y = some .free := hy
    rcases hy with hy | hy
    · exact cell_has hy
    · exact absurd rfl (S.nofree _ (PySem.mem_of_lookup hy))
  · exact Nat.le_of_lt (x.above y c (PySem.mem_of_lookup h))
  · have hi : i < vs.length := by
      unfold start at h2
      by_cases hi : i < vs.length
      · exact hi
      · rw [List.getElem?_append_right (by simpa using hi)] at h2
        rw [List.getElem?_replicate] at h2
        split at h2 <;> cases h2
    have ha : vs[i]? = some v := by
      unfold start at h2
      rw [List.getElem?_append_left (by simpa using hi), List.getElem?_map] at h2
      cases e : vs[i]? with
      | none => rw [e] at h2; cases h2
      | some a => rw [e] at h2; cases h2; rfl
    obtain ⟨u, hu, rv⟩ := r.get ha
    have hp : ps[i]? = some y := by
      rw [← S.pre, List.getElem?_take_of_lt (by omega)]; exact h1
    have ndP : ps.Nodup := by rw [← S.pre]; exact S.nd.sublist (List.take_sublist _ _)
    refine ⟨u, rv, ?_⟩
    rcases S.par y (List.mem_of_getElem? hp) with k | k
    · exact .inl ⟨k, bindL_get ndP hp hu k⟩
    · obtain ⟨c, e⟩ := cell_has (n := s.heap.objs.size + 1) k
      refine .inr ⟨.inl k, c, e, ?_⟩
      have q := x.cell y c e
      rw [bindC_get ndP hp hu (by show scope.names.lookup y ≠ _; rw [k]; decide)] at q
      exact q
  · exact e0.hok.fresh (Nat.le_of_lt (x.above y c (PySem.mem_of_lookup h)))
  · unfold start
    show _ = N.length
    rw [List.length_append, List.length_map, List.length_replicate]
    omega

theorem fn_of {CX : CXT} {P : Program} {w : World} {K : PySem.W.Frag} {mg : Str → Option Value} {base : Heap} {k : Nat} {f : Addr} {name qual : Str} {params : Arguments} {body : List Stmt} {scope : Scope} {dV kV doc pm cdv ct oc : Value} {an od : Option Addr}
    {osl : Array (Option Value)} {N ps : List Str} {sp : Sp} (lk : K.lookup f = some ⟨oc, od, .func (PySem.W.fnOf name qual params body scope dV kV doc pm an cdv ct), osl⟩) (hcd : PySem.W.codeIn K cdv qual = true) (S : FnScope N ps scope)
    (len : ∀ vs H Q E, sp vs H Q E → vs.length = ps.length)
    (hbody : ∀ (A : Around) (outer : List Env) (s : Shared) (H : Hp) (vs : List V) (Q : VK) (E : XK), Room k (A.deeper (envOfC qual scope s.heap.objs.size f cdv)) → sp vs H Q E →
      ∃ t, PSs (cxOf CX P w K mg base N qual scope f cdv A outer s H E) body t ∧ t { nx := fun _ H' => Q .non H', rt := Q } (start N vs) H) :
    FnOk P w K mg base CX (k + 1) f (PySem.W.fnOf name qual params body scope dV kV doc pm an cdv ct) ps sp := by
  refine ⟨len, fun A outer s H args us vs Q E hr e0 hb r hsp => ?_⟩
  have hl := len _ _ _ _ hsp
  have KX : K.In s.heap := e0.mod.kin.keeps fun b o e => (e0.bs b o e).1
  have lim : s.heap.NoLimit := e0.mod.nolimit.keeps fun b o e => (e0.bs b o e).1
  have hkind : ∀ y ∈ ps.zip us, scope.names.lookup y.1 = some .local ∨ (scope.names.lookup y.1 = some .cell ∧ ((cellsFrom (s.heap.objs.size + 1) scope.names []).lookup y.1).isSome = true) := fun ⟨n, v⟩ hy => by
    rcases S.par n (List.of_mem_zip hy).1 with q | q
    · exact .inl q
    · exact .inr ⟨q, PySem.W.cellsFrom_some _ _ _ (.inl q)⟩
  refine codeAny_call_function hr.depth (KX _ _ lk) rfl S.co S.gen rfl (PySem.W.codeRec_of KX hcd) (hb _ _ _ _ ?_)
  refine wpAny_newFunctionEnv_cells S.kind hkind fun env he s1 x => ?_
  subst he
  refine ⟨lim.keeps x.toInCall.keep, codeAny_func ?_⟩
  obtain ⟨t, ht, hq⟩ := hbody A outer s H vs Q E (hr.deeper _) hsp
  have I : Inv (cxOf CX P w K mg base N qual scope f cdv A outer s H E) [] (start N vs) H s1 := inv_start S hr.hd e0 hl r x
  refine wpAny_mono (ht [] s1 (start N vs) H _ I hq) (fun fl s' hs => ?_) fun e s' hs => hs
  have fin : ∀ {σ' : St} {H' : Hp} {v : V} {u : Value}, Inv (cxOf CX P w K mg base N qual scope f cdv A outer s H E) [] σ' H' s' → RelV v u → Q v H' → CE outer P w H s Q u s' :=
    fun {σ' H' v u} J rv q => ⟨v, H', J.os, J.bare, J.base, J.hok, rv, q⟩
  cases fl with
  | ret u =>
    obtain ⟨v, σ', H', J, rv, q⟩ := hs
    exact fin J rv q
  | next =>
    obtain ⟨σ', H', J, q⟩ := hs
    exact fin (v := V.non) (u := Value.none) J rfl q
  | brk =>
    obtain ⟨_, _, _, q⟩ := hs
    exact False.elim q
  | cont =>
    obtain ⟨_, _, _, q⟩ := hs
    exact False.elim q
end Internal

namespace Internal
open PySem PySem.Spec PyProof.Rows
section
variable {X : Cx} {x : Str} {p pos : Pos} {e : Expr} {es : List Expr} {t : TA} {id T : String} {r : List V → Hp → VK → Prop}

noncomputable abbrev tCB (r : List V → Hp → VK → Prop) (t : TA) : TE := fun σ H Q => t σ H fun vs H1 => r vs H1 Q
theorem pe_callB (hc : CallR X (.builtin id) r) (hg : Gl X x) (hm : X.mg x = none) (hv : bootBuiltins x = some (.builtin id)) (ha : PA X (e :: es) t) (hn : autoParam (x ≠ "__name__") Internal.aut1._auto_1) (hdb : autoParam ((x == ("__debug__" : Str)) = false) Internal.aut1._auto_1)
    (he : autoParam (starEach (e :: es) X.env = (false, eval e X.env) :: starEach es X.env) Internal.aut2._auto_1) (hpl : autoParam ((backTo pos (starEach es X.env)).any (·.1) = false) Internal.aut2._auto_1) : PE X (.Call (.Name x p) (e :: es) [] pos) (tCB r t) := by
  intro pins s σ H Q I h
  refine wpAny_Call_Name_kw (ld_blt I hg hm hv ?_ hn hdb)
  exact PyProof.Rows.callWith_builtin1 (thn (ha pos pins s σ H _ I h) fun us s1 ⟨vs, H1, I1, r1, q1⟩ => hc pins s1 σ H1 vs us Q I1 r1 q1) he hpl
theorem pe_callTy (hc : CallR X (.type T) r) (hg : Gl X x) (hm : X.mg x = none) (hv : bootBuiltins x = some (.type T)) (ha : PA X (e :: es) t) (hn : autoParam (x ≠ "__name__") Internal.aut1._auto_1) (hdb : autoParam ((x == ("__debug__" : Str)) = false) Internal.aut1._auto_1)
    (he : autoParam (starEach (e :: es) X.env = (false, eval e X.env) :: starEach es X.env) Internal.aut2._auto_1) (hpl : autoParam ((backTo pos (starEach es X.env)).any (·.1) = false) Internal.aut2._auto_1) : PE X (.Call (.Name x p) (e :: es) [] pos) (tCB r t) := by
  intro pins s σ H Q I h
  refine wpAny_Call_Name_kw (ld_blt I hg hm hv ?_ hn hdb)
  exact PyProof.Rows.callWith_type1 (thn (ha pos pins s σ H _ I h) fun us s1 ⟨vs, H1, I1, r1, q1⟩ => hc pins s1 σ H1 vs us Q I1 r1 q1) he hpl
end
end Internal

namespace HT
open PySem PyProof.Rows

section
open PySem.SeqAt
open PySem.AutoSeq1 (wpAny_loadPart')
open PySem.MeetsSeq PySem.MeetsSeq2 PySem.MeetsSeq3

end

section
variable {prog : Program} {w : World} {A : Around} {E : Value → Shared → Prop} {s : Shared}

theorem cat_tup {t b : Addr} {vs ws : List Value} {Q : Value → Shared → Prop} (ht : IsTup s.heap t vs.toArray) (hb : IsTup s.heap b ws.toArray) (hv : vs ≠ [])
    (h1 : ws = [] → Q (.ref t) s) (h2 : ws ≠ [] → Q (.ref s.heap.objs.size) { s with heap := s.heap.push { cls := .type "tuple", data := .seq (vs ++ ws).toArray } })
    (hsz : vs.length + ws.length ≤ sizeLine) : wpAny (model prog w) A (binaryOp .Add (.ref t) (.ref b)) Q E s := by
  obtain ⟨⟨cls, dd, data, sl⟩, ho, hc, n, hd⟩ := id ht
  obtain ⟨⟨cls2, dd2, data2, sl2⟩, ho2, hc2, n2, hd2⟩ := id hb
  simp only at hc hd hc2 hd2
  subst hc hd hc2 hd2
  have e : vs.toArray ++ ws.toArray = (vs ++ ws).toArray := by simp
  by_cases hw : ws = []
  · exact concat_meets ⟨_, ho, rfl⟩ ⟨_, ho2, rfl⟩ noFill_tuple_add seq_tuple_add PySem.F.slot_tuple_add PySem.F.entry_tuple_add (PySem.F.args_tuple_add_2 _ _)
      (tuple_addW1 t b vs.toArray ws.toArray n n2 dd dd2 sl sl2 (by simpa using hv) (by simp [hw])) ⟨ho, ho2, h1 hw⟩
  · refine concat_meets ⟨_, ho, rfl⟩ ⟨_, ho2, rfl⟩ noFill_tuple_add seq_tuple_add PySem.F.slot_tuple_add PySem.F.entry_tuple_add (PySem.F.args_tuple_add_2 _ _)
      (tuple_addW2 t b vs.toArray ws.toArray n n2 dd dd2 sl sl2 (by simpa using hv) (by simpa using hw) (by rw [List.size_toArray, List.size_toArray]; exact hsz)) ⟨ho, ho2, ?_⟩
    rw [e]
    exact h2 hw

noncomputable def sIx (n d : Nat) : Option Int → Nat
  | none => d
  | some v => if v < 0 then (v + (n : Int)).toNat else min v.toNat n
theorem sIx_none (n d : Nat) : sIx n d none = d := rfl
theorem sIx_nat (n d k : Nat) : sIx n d (some (k : Int)) = min k n := by
  show (if (k : Int) < 0 then ((k : Int) + (n : Int)).toNat else min (k : Int).toNat n) = min k n
  rw [if_neg (by omega), Int.toNat_natCast]
theorem sIx_le (n d : Nat) (hd : d ≤ n) (o : Option Int) : sIx n d o ≤ n := by
  cases o with
  | none => exact hd
  | some v =>
    show (if v < 0 then (v + (n : Int)).toNat else min v.toNat n) ≤ n
    by_cases hv : v < 0
    · rw [if_pos hv]; omega
    · rw [if_neg hv]; exact Nat.min_le_right _ _
theorem clip_eq (v : Int) (n d : Nat) : (if v < 0 then max (v + (n : Int)) 0 else min v (n : Int)) = ((sIx n d (some v) : Nat) : Int) := by
  show (if v < 0 then max (v + (n : Int)) 0 else min v (n : Int)) = (((if v < 0 then (v + (n : Int)).toNat else min v.toNat n) : Nat) : Int)
  by_cases hv : v < 0
  · simp only [if_pos hv]; omega
  · simp only [if_neg hv]; omega
theorem adjust_gen (lo hi : Option Int) (n : Nat) : Builtin.Slice.sliceAdjust lo hi 1 (n : Int) = (((sIx n 0 lo : Nat) : Int), ((sIx n n hi : Nat) : Int)) := by
  have h1 : ¬ ((1 : Int) < 0) := by omega
  unfold Builtin.Slice.sliceAdjust
  simp only [h1, if_false]
  refine Prod.ext ?_ ?_
  · cases lo with
    | none => rfl
    | some v => exact clip_eq v n 0
  · cases hi with
    | none => rfl
    | some v => exact clip_eq v n n
theorem places_gen (i j : Nat) : Builtin.Slice.slicePlaces (i : Int) (j : Int) 1 = j - i := by
  unfold Builtin.Slice.slicePlaces
  have h1 : (1 : Int) > 0 := by omega
  simp only [h1, if_true, Int.ediv_one]
  split <;> omega
theorem slicePart_ {v : Value} {o : Option Int} {Q : Option Int → Shared → Prop} (p : IsPart v o) (h : Q o s) : wpAny (model prog w) A (Builtin.Slice.slicePartIndex v) Q E s := by
  cases p with
  | none => exact slicePart_none h
  | int i t => exact slicePart_int h
theorem sliceApplied_gen {sl : Addr} {vl vu : Value} {lo hi : Option Int} {n : Nat} {Q : Int × Int × Nat → Shared → Prop} (hs : s.heap.IsSliceOf sl vl vu .none) (pl : IsPart vl lo) (pu : IsPart vu hi)
    (h : Q (((sIx n 0 lo : Nat) : Int), 1, sIx n n hi - sIx n 0 lo) s) : wpAny (model prog w) A (Builtin.Slice.sliceApplied (.ref sl) (pure (n : Int))) Q E s := by
  obtain ⟨os, hos, hcs, hds⟩ := id hs
  unfold Builtin.Slice.sliceApplied Builtin.Slice.sliceFields
  refine wpAny_bind (wpAny_bind (wpAny_field hos hds (x := vl) rfl (wpAny_bind (wpAny_field hos hds (x := vu) rfl (wpAny_bind (wpAny_field hos hds (x := .none) rfl (wpAny_pure ?_)))))))
  refine wpAny_bind (slicePart_none ?_)
  show wpAny _ _ (if ((1 : Int) == 0) = true then _ else _) _ _ s
  rw [if_neg (by decide)]
  refine wpAny_bind (slicePart_ pl (wpAny_bind (slicePart_ pu (wpAny_bind (wpAny_pure ?_)))))
  show wpAny _ _ (match Builtin.Slice.sliceAdjust lo hi 1 (n : Int) with | (lo, hi) => pure (lo, (1 : Int), Builtin.Slice.slicePlaces lo hi 1)) _ _ s
  rw [adjust_gen lo hi n]
  show wpAny _ _ (pure (((sIx n 0 lo : Nat) : Int), (1 : Int), Builtin.Slice.slicePlaces ((sIx n 0 lo : Nat) : Int) ((sIx n n hi : Nat) : Int) 1)) _ _ s
  rw [places_gen]
  exact wpAny_pure h
theorem pick_gen (xs : Array Value) (i k : Nat) : ((List.range k).filterMap fun (m : Nat) => xs[((i : Int) + (m : Int) * 1).toNat]?).toArray = ((xs.toList.drop i).take k).toArray := by
  have e : (fun (m : Nat) => xs[((i : Int) + (m : Int) * 1).toNat]?) = fun m => xs[i + m]? := by
    funext m
    have : ((i : Int) + (m : Int) * 1).toNat = i + m := by omega
    rw [this]
  rw [e]
  have := pick_run xs i k
  rw [List.filterMap_map] at this
  have e2 : ((fun x => xs[x]?) ∘ fun x => i + x) = fun m => xs[i + m]? := rfl
  rw [e2] at this
  rw [this]

theorem getItem_tuple_cut {t sl : Addr} {items : Array Value} {vl vu : Value} {lo hi : Option Int} {Q : Value → Shared → Prop} (ht : IsTup s.heap t items) (hs : s.heap.IsSliceOf sl vl vu .none) (pl : IsPart vl lo) (pu : IsPart vu hi)
    (hw : ¬ (sIx items.size 0 lo = 0 ∧ sIx items.size items.size hi = items.size))
    (h : Q (.ref s.heap.objs.size) { s with heap := s.heap.push { cls := .type "tuple", data := .seq ((items.toList.drop (sIx items.size 0 lo)).take (sIx items.size items.size hi - sIx items.size 0 lo)).toArray } })
    (hsz : items.size ≤ sizeLine) : wpAny (model prog w) A (getItem (.ref t) (.ref sl)) Q E s := by
  have htake : sizeOk (.seq ((items.toList.drop (sIx items.size 0 lo)).take (sIx items.size items.size hi - sIx items.size 0 lo)).toArray) := by
    show ((items.toList.drop (sIx items.size 0 lo)).take (sIx items.size items.size hi - sIx items.size 0 lo)).toArray.size ≤ sizeLine
    rw [List.size_toArray, List.length_take, List.length_drop, Array.length_toList]
    omega
  have hj : sIx items.size items.size hi ≤ items.size := sIx_le _ _ (Nat.le_refl _) hi
  obtain ⟨os, hos, hcs, hds⟩ := id hs
  have hTs : s.TypeIs (.ref sl) "slice" := ⟨os, hos, hcs⟩
  unfold getItem
  try with_reducible refine wpAny_holding ?_
  first | refine wpAny_bind (wpAny_pure ?_) | skip
  refine wpAny_bind (wpAny_sequenceKey ht.typeIs (by decide) ?_)
  refine wpAny_bind (wpAny_callSpecial?_slot (name := Str.ofString "__getitem__") ht.typeIs PyProof.Rows.slot_tuple_getitem
    (wpAny_call_entry PyProof.Rows.slot_tuple_getitem ht.typeIs entry_tuple_getitem ?_ (args_tuple_getitem _ _)))
  show wpAny _ _ (Builtin.Tuple.tupleItemsOf (.ref t) >>= _) _ _ s
  refine wpAny_bind (tupleItemsOf_ ht ?_)
  refine wpAny_bind (wpAny_typeOf hTs ?_)
  rw [if_pos (by decide)]
  refine wpAny_bind (sliceApplied_gen hs pl pu ?_)
  have hno : ¬ ((((sIx items.size 0 lo : Nat) : Int) == 0 && (1 : Int) == 1 && (sIx items.size items.size hi - sIx items.size 0 lo) == items.size) = true) := by
    intro q
    rw [Bool.and_eq_true, Bool.and_eq_true] at q
    have q1 : ((sIx items.size 0 lo : Nat) : Int) = 0 := eq_of_beq q.1.1
    have q2 : sIx items.size items.size hi - sIx items.size 0 lo = items.size := eq_of_beq q.2
    exact hw ⟨by omega, by omega⟩
  show wpAny _ _ (if (((sIx items.size 0 lo : Nat) : Int) == 0 && (1 : Int) == 1 && (sIx items.size items.size hi - sIx items.size 0 lo) == items.size) = true then _ else _) _ _ s
  rw [if_neg hno, pick_gen]
  first
    | exact wpAny_bind (m := Builtin.Tuple.tupleExact _) (wpAny_newObj_type (wpAny_pure ⟨_, rfl, wpAny_pure h⟩) htake)
    | exact wpAny_bind (m := Builtin.Tuple.tupleExact _) (wpAny_newObj_type (wpAny_bind (wpAny_pure (wpAny_pure ⟨_, rfl, wpAny_pure h⟩))) htake)
    | exact wpAny_bind (wpAny_bind (m := Builtin.Tuple.tupleExact _) (wpAny_newObj_type (wpAny_pure (wpAny_pure ⟨_, rfl, wpAny_pure h⟩)) htake))
    | exact wpAny_bind (wpAny_bind (m := Builtin.Tuple.tupleExact _) (wpAny_newObj_type (wpAny_pure ⟨_, rfl, wpAny_pure h⟩) htake))
end
end HT

namespace Internal
open PySem PySem.Spec PyProof.Rows

noncomputable abbrev TO := St → Hp → (Option Int → Hp → Prop) → Prop
noncomputable def PO (X : Cx) (e : Option Expr) (t : TO) : Prop :=
  ∀ (pins : List (Addr × Obj)) (s : Shared) (σ : St) (H : Hp) (Q : Option Int → Hp → Prop), Inv X pins σ H s → t σ H Q →
    wpAny (model X.prog X.w) X.A (evalPart e X.env) (fun u s' => ∃ o H', Inv X pins σ H' s' ∧ IsPart u o ∧ Q o H') X.xe s
noncomputable abbrev tNoPart : TO := fun _ H Q => Q none H
noncomputable def tPart (t : TE) : TO := fun σ H Q => t σ H fun x H1 => ∃ i, x = .int i ∧ Q (some i) H1

section
variable {X : Cx} {e : Expr} {te : TE} {lo hi : Option Expr} {tl th : TO} {pos p2 : Pos}

theorem po_none : PO X none tNoPart := by
  intro pins s σ H Q I h
  rw [evalPart_none]
  exact wpAny_pure ⟨none, H, I, .none, h⟩
theorem po_some (h : PE X e te) : PO X (some e) (tPart te) := by
  intro pins s σ H Q I hw
  rw [evalPart_some]
  refine thn (h pins s σ H _ I hw) fun u s1 zz => ?_
  obtain ⟨x, H1, I1, r1, q1⟩ := zz
  obtain ⟨i, rfl, q⟩ := q1
  obtain ⟨t, rfl⟩ := r1
  exact ⟨some i, H1, I1, .int i t, q⟩

noncomputable def SlR (X : Cx) (r : V → Option Int → Option Int → Hp → VK → Prop) : Prop :=
  ∀ (pins : List (Addr × Obj)) (s : Shared) (σ : St) (H : Hp) (x : V) (v vl vu : Value) (lo hi : Option Int) (sl : Addr) (Q : VK), Inv X pins σ H s → RelV x v → s.heap.IsSliceOf sl vl vu .none → IsPart vl lo → IsPart vu hi → r x lo hi H Q →
    ∃ T id, typeLookup (.type T) "__getitem__" = pure (some (.builtin id)) ∧ s.TypeIs v T ∧ wpAny (model X.prog X.w) X.A (getItem v (.ref sl)) (EP X pins σ Q) X.xe s
noncomputable abbrev tSl (r : V → Option Int → Option Int → Hp → VK → Prop) (te : TE) (tl th : TO) : TE := fun σ H Q => te σ H fun x H1 => tl σ H1 fun l H2 => th σ H2 fun u H3 => r x l u H3 Q
theorem pe_slice {r : V → Option Int → Option Int → Hp → VK → Prop} (hr : SlR X r) (he : PE X e te) (hl : PO X lo tl) (hu : PO X hi th) : PE X (.Subscript e (.Slice lo hi none p2) pos) (tSl r te tl th) := by
  intro pins s σ H Q I h
  refine Subscript_ (thn (he pins s σ H _ I h) fun v s1 zz => ?_)
  obtain ⟨x, H1, I1, r1, q1⟩ := zz
  refine wpAny_Slice (thn (hl pins s1 σ H1 _ I1 q1) fun vl s2 ⟨l, H2, I2, pl, q2⟩ => thn (hu pins s2 σ H2 _ I2 q2) fun vu s3 zz => ?_)
  obtain ⟨u, H3, I3, pu, q3⟩ := zz
  rw [evalPart_none]
  refine wpAny_pure ?_
  have I4 : Inv X pins σ H3 { s3 with heap := s3.heap.push { cls := .type "slice", data := .fields #[vl, vu, .none] } } := I3.kept (t' := s3.toks) fun b ob q => Heap.get?_push_of_some _ q
  obtain ⟨T, id, hT, ht, hg⟩ := hr pins { s3 with heap := s3.heap.push { cls := .type "slice", data := .fields #[vl, vu, .none] } } σ H3 x v vl vu l u s3.heap.objs.size Q I4 r1 (Heap.IsSliceOf.new ..) pl pu q3
  show wpAny (model X.prog X.w) X.A (subscriptTail e (.Slice lo hi none p2) v (.ref s3.heap.objs.size)) (EP X pins σ Q) X.xe { s3 with heap := s3.heap.push { cls := .type "slice", data := .fields #[vl, vu, .none] } }
  exact tail_any (ops := [.ref s3.heap.objs.size, v]) ht hT hg (by with_unfolding_all rfl)

noncomputable def cutV (xs : List V) (lo hi : Option Int) : List V := (xs.drop (HT.sIx xs.length 0 lo)).take (HT.sIx xs.length xs.length hi - HT.sIx xs.length 0 lo)
theorem cutV_length (xs : List V) (lo hi : Option Int) : (cutV xs lo hi).length ≤ xs.length := by
  unfold cutV
  rw [List.length_take, List.length_drop]
  omega
noncomputable def rSlT (K : PySem.W.Frag) : V → Option Int → Option Int → Hp → VK → Prop := fun x lo hi H Q => ∃ a xs, x = .ref a ∧ SqT K H a xs ∧
  ¬ (HT.sIx xs.length 0 lo = 0 ∧ HT.sIx xs.length xs.length hi = xs.length) ∧ ∀ p, H p = none → Q (.ref p) (upd H p (.tup (cutV xs lo hi)))
theorem sl_tup : SlR X (rSlT X.K) := by
  intro pins s σ H x v vl vu lo hi sl Q I rx hs pl pu h
  obtain ⟨a, xs, rfl, hx, hw, q⟩ := h
  cases rx
  obtain ⟨its, r, ht, hz⟩ := I.tuple hx
  have hlen : its.toArray.size = xs.length := by rw [List.size_toArray]; exact r.length.symm
  refine ⟨"tuple", _, PyProof.Rows.slot_tuple_getitem.lookup, ht.typeIs, ?_⟩
  refine HT.getItem_tuple_cut ht hs pl pu (by rw [hlen]; exact hw) ?_ (by rw [hlen]; exact hz)
  rw [hlen]
  refine ⟨.ref s.heap.objs.size, _, I.laid (t' := s.toks) (o := .tup (cutV xs lo hi)) (fun b ob q => Heap.get?_push_of_some _ q) (Nat.le_refl _) ?_, rfl, q _ (I.hok.fresh (Nat.le_refl _))⟩
  exact ⟨Nat.le_trans (cutV_length xs lo hi) hz, _, (r.drop (HT.sIx xs.length 0 lo)).take (HT.sIx xs.length xs.length hi - HT.sIx xs.length 0 lo), IsTup.new _ _⟩

noncomputable def rCatT (K : PySem.W.Frag) : R2 := fun x y H Q => ∃ a b xs ys, x = .ref a ∧ y = .ref b ∧ SqT K H a xs ∧ SqT K H b ys ∧ xs ≠ [] ∧ xs.length + ys.length ≤ sizeLine ∧
  (ys = [] → Q (.ref a) H) ∧ (ys ≠ [] → ∀ p, H p = none → Q (.ref p) (upd H p (.tup (xs ++ ys))))
theorem Vals.nil_iff {xs : List V} {us : List Value} (r : Vals xs us) : us = [] ↔ xs = [] := by
  cases r with
  | nil => simp
  | cons _ _ => simp
theorem op_catT : OpR X (binaryOp .Add) (rCatT X.K) := by
  intro pins s σ H x y v u Q I rx ry h
  obtain ⟨a, b, xs, ys, rfl, rfl, ha, hb, hx, hz, q1, q2⟩ := h
  cases rx
  cases ry
  obtain ⟨its, r1, p1, _⟩ := I.tuple ha
  obtain ⟨its2, r2, p2, _⟩ := I.tuple hb
  refine HT.cat_tup p1 p2 (fun z => hx (r1.nil_iff.mp z)) (fun z => ⟨.ref a, H, I, rfl, q1 (r2.nil_iff.mp z)⟩) (fun z => ?_) (by rw [← r1.length, ← r2.length]; exact hz)
  refine ⟨.ref s.heap.objs.size, _, I.laid (t' := s.toks) (o := .tup (xs ++ ys)) (fun b ob q => Heap.get?_push_of_some _ q) (Nat.le_refl _) ?_, rfl, q2 (fun w => z (r2.nil_iff.mpr w)) _ (I.hok.fresh (Nat.le_refl _))⟩
  exact ⟨by rw [List.length_append]; exact hz, _, r1.append r2, IsTup.new _ _⟩
end
end Internal

namespace Internal
open PySem PySem.Spec PyProof.Rows

noncomputable def ixN (n : Nat) (i : Int) : Option Nat := if 0 ≤ i then (if i < n then some i.toNat else none) else if -(n : Int) ≤ i then some (i + n).toNat else none
noncomputable def atI {α : Type} (xs : List α) (i : Int) : Option α := (ixN xs.length i).bind fun j => xs[j]?
theorem ixN_seq {n : Nat} {i : Int} {j : Nat} (h : ixN n i = some j) : seqIndex? i n = some j ∧ j < n ∧ -(n : Int) ≤ i ∧ i < n := by
  unfold ixN at h
  by_cases h0 : 0 ≤ i
  · rw [if_pos h0] at h
    by_cases h1 : i < n
    · rw [if_pos h1] at h
      have e : i.toNat = j := Option.some.inj h
      exact ⟨by rw [seqIndex_of h0 h1, e], by omega, by omega, h1⟩
    · rw [if_neg h1] at h; cases h
  · rw [if_neg h0] at h
    by_cases h1 : -(n : Int) ≤ i
    · rw [if_pos h1] at h
      have e : (i + n).toNat = j := Option.some.inj h
      exact ⟨by rw [seqIndex_neg (by omega) h1, e], by omega, h1, by omega⟩
    · rw [if_neg h1] at h; cases h
theorem atI_get {α : Type} {xs : List α} {i : Int} {v : α} (h : atI xs i = some v) : ∃ j, seqIndex? i xs.length = some j ∧ xs[j]? = some v ∧ j < xs.length ∧ -(xs.length : Int) ≤ i ∧ i < xs.length := by
  unfold atI at h
  cases e : ixN xs.length i with
  | none => rw [e] at h; cases h
  | some j =>
    rw [e] at h
    obtain ⟨h1, h2, h3, h4⟩ := ixN_seq e
    exact ⟨j, h1, h, h2, h3, h4⟩
theorem atI_nat {α : Type} {xs : List α} {j : Nat} {v : α} (h : xs[j]? = some v) : atI xs (j : Int) = some v := by
  have hj : j < xs.length := (List.getElem?_eq_some_iff.mp h).1
  have e : ixN xs.length (j : Int) = some j := by
    unfold ixN
    rw [if_pos (by omega), if_pos (by omega)]; simp
  unfold atI; rw [e]; exact h
noncomputable def PlainIx (b : Expr) : Prop := ∀ o i, subscripted b false o i = operate [o, i] (getItem o i)
noncomputable def IxR (X : Cx) (r : R2) : Prop :=
  ∀ (value slice : Expr) (pins : List (Addr × Obj)) (s : Shared) (σ : St) (H : Hp) (x y : V) (v u : Value) (Q : VK), Inv X pins σ H s → RelV x v → RelV y u → r x y H Q →
    subscripted slice false v u = operate [v, u] (getItem v u) → wpAny (model X.prog X.w) X.A (subscriptTail value slice v u) (EP X pins σ Q) X.xe s
noncomputable def MtR (X : Cx) (id : String) (r : V → List V → Hp → VK → Prop) : Prop :=
  ∀ (pins : List (Addr × Obj)) (s : Shared) (σ : St) (H : Hp) (x : V) (xs : List V) (v : Value) (us : List Value) (Q : VK), Inv X pins σ H s → RelV x v → Vals xs us → r x xs H Q →
    wpAny (model X.prog X.w) X.A (call (.builtin id) (v :: us)) (EP X pins σ Q) X.xe s
section
variable {X : Cx} {a b : Expr} {ta tb : TE} {pos : Pos}
theorem IxR.or {r r' : R2} (h : IxR X r) (h' : IxR X r') : IxR X (fun x y H Q => r x y H Q ∨ r' x y H Q) := by
  intro value slice pins s σ H x y v u Q I rx ry q hs
  rcases q with q | q
  · exact h value slice pins s σ H x y v u Q I rx ry q hs
  · exact h' value slice pins s σ H x y v u Q I rx ry q hs
theorem pe_ix {r : R2} (hr : IxR X r) (ha : PE X a ta) (hb : PE X b tb) (hs : PlainIx b) : PE X (.Subscript a b pos) (tOp r ta tb) := by
  intro pins s σ H Q I h
  exact Subscript_ (binT ha hb I h fun v u s2 x y H2 I2 rx ry q => hr a b pins s2 σ H2 x y v u Q I2 rx ry q (hs _ _))

noncomputable def rIxL (K : PySem.W.Frag) : R2 := fun x y H Q => ∃ p xs i v, x = .ref p ∧ y = .int i ∧ SqL K H p xs ∧ atI xs i = some v ∧ Q v H
noncomputable def rIxT (K : PySem.W.Frag) : R2 := fun x y H Q => ∃ p xs i v, x = .ref p ∧ y = .int i ∧ SqT K H p xs ∧ atI xs i = some v ∧ Q v H
noncomputable def rIxS : R2 := fun x y H Q => ∃ z i c, x = .str z ∧ y = .int i ∧ z.length ≤ sizeLine ∧ atI z.cps.toList i = some c ∧ Q (.str ⟨#[c]⟩) H
theorem ix_list : IxR X (rIxL X.K) := by
  intro value slice pins s σ H x y v u Q I rx ry h hs
  obtain ⟨p, xs, i, z, rfl, rfl, hq, he, q⟩ := h
  cases rx
  obtain ⟨t, rfl⟩ := ry
  obtain ⟨its, r, pl, hz⟩ := I.list hq
  obtain ⟨j, h1, h2, h3, h4, h5⟩ := atI_get he
  obtain ⟨w, ew, rw'⟩ := r.get h2
  have hl := r.length
  have hn := line63
  have fin : EP X pins σ Q w s := ⟨z, H, I, rw', q⟩
  by_cases h0 : 0 ≤ i
  · have hj : i.toNat = j := by
      rw [seqIndex_of h0 h5] at h1
      exact Option.some.inj h1
    exact item_listR pl.isList h0 (by omega) (by rw [hj]; simpa using ew) fin hs
  · have hj : (i + (its.toArray.size : Int)).toNat = j := by
      rw [seqIndex_neg (by omega) h4] at h1
      rw [List.size_toArray, ← hl]
      exact Option.some.inj h1
    exact subscriptTail_builtinR (x := w) pl.isList.typeIs slot_list_getitem.lookup
      (wpAny_getItem_list_neg (Q := fun r s' => r = w ∧ EP X pins σ Q r s') pl.isList (by omega) (by rw [List.size_toArray] <;> omega) (by omega) (by rw [hj]; simpa using ew) ⟨rfl, fin⟩) hs
theorem ix_tup : IxR X (rIxT X.K) := by
  intro value slice pins s σ H x y v u Q I rx ry h hs
  obtain ⟨p, xs, i, z, rfl, rfl, hq, he, q⟩ := h
  cases rx
  obtain ⟨t, rfl⟩ := ry
  obtain ⟨its, r, pl, hz⟩ := I.tuple hq
  obtain ⟨j, h1, h2, h3, h4, h5⟩ := atI_get he
  obtain ⟨w, ew, rw'⟩ := r.get h2
  have hl := r.length
  have hn := line63
  have fin : EP X pins σ Q w s := ⟨z, H, I, rw', q⟩
  exact subscriptTail_builtinR (x := w) pl.typeIs slot_tuple_getitem.lookup
    (getItem_tuple (j := j) (Q := fun r s' => r = w ∧ EP X pins σ Q r s') pl (by omega) (by omega) (by rw [List.size_toArray, ← hl]; exact h1) (by simpa using ew) ⟨rfl, fin⟩) hs
theorem ix_str : IxR X rIxS := by
  intro value slice pins s σ H x y v u Q I rx ry h hs
  obtain ⟨z, i, c, rfl, rfl, hz, he, q⟩ := h
  obtain ⟨t, rfl⟩ := rx
  obtain ⟨t', rfl⟩ := ry
  obtain ⟨j, h1, h2, h3, h4, h5⟩ := atI_get he
  have hl : z.cps.toList.length = z.length := by simp [Str.length]
  rw [hl] at h1 h4 h5
  have hn := line63
  exact tail_any (typeIs_str s z t) slot_str_getitem.lookup (getItem_str (c := c) (by
    have e1 : decide (i < -(2 ^ 63 : Int)) = false := decide_eq_false (by omega)
    have e2 : decide (i ≥ 2 ^ 63) = false := decide_eq_false (by omega)
    rw [e1, e2, Bool.or_false]) (by rw [h1]; simpa using h2) ⟨.str ⟨#[c]⟩, H, I.tok _, ⟨_, rfl⟩, q⟩) hs
noncomputable def rIx (K : PySem.W.Frag) : R2 := fun x y H Q => rIxL K x y H Q ∨ rIxT K x y H Q ∨ rIxS x y H Q
theorem ix_seq : IxR X (rIx X.K) := ix_list.or (ix_tup.or ix_str)

theorem mapSeq_set (its : List Value) (n j : Nat) (u : Value) : Obj.mapSeq (·.setIfInBounds j u) { cls := .type "list", data := .seq its.toArray n } = { cls := .type "list", data := .seq (its.set j u).toArray n } := by
  simp [Obj.mapSeq]
theorem Inv.lst {pins : List (Addr × Obj)} {σ : St} {H : Hp} {s : Shared} {p : Addr} {xs : List V} (I : Inv X pins σ H s) (h : H p = some (.lst xs)) :
    ∃ (its : List Value) (n : Nat), Vals xs its ∧ s.heap.get? p = some { cls := .type "list", data := .seq its.toArray n } ∧ xs.length ≤ sizeLine := by
  obtain ⟨z, its, n, r, e⟩ := I.hok p _ h
  exact ⟨its, n, r, e, z⟩
theorem Inv.lstUpd {pins : List (Addr × Obj)} {σ : St} {H : Hp} {s : Shared} {p : Addr} {xs ys : List V} {its its' : List Value} {n n' : Nat} {f : Obj → Obj} (I : Inv X pins σ H s) (h : H p = some (.lst xs))
    (ho : s.heap.get? p = some { cls := .type "list", data := .seq its.toArray n }) (hf : f { cls := .type "list", data := .seq its.toArray n } = { cls := .type "list", data := .seq its'.toArray n' }) (r : Vals ys its') (hz : ys.length ≤ sizeLine) (t : Nat) :
    Inv X pins σ (upd H p (.lst ys)) { s with heap := s.heap.update p f, toks := t } := by
  have e : (s.heap.update p f).get? p = some { cls := .type "list", data := .seq its'.toArray n' } := by
    rw [Heap.get?_update_self f ho (by rw [hf] <;> rfl), hf]
  refine I.write (x := p) (e := p) (by rw [h]; trivial) (.inl rfl) (fun b u hb q => (Heap.get?_update_other _ _ (Ne.symm hb)).trans q) ⟨_, e⟩ ?_
  exact ⟨hz, its', n', r, e⟩
noncomputable def rSetL : V → V → V → Hp → (Hp → Prop) → Prop := fun o i v H Q => ∃ p xs k j, o = .ref p ∧ i = .int k ∧ H p = some (.lst xs) ∧ ixN xs.length k = some j ∧ Q (upd H p (.lst (xs.set j v)))
theorem set_list : PSet X rSetL := by
  intro pins s σ H o i v ov iv u Q I ro ri rv h
  obtain ⟨p, xs, k, j, rfl, rfl, hp, hj, q⟩ := h
  cases ro
  obtain ⟨t, rfl⟩ := ri
  obtain ⟨its, n, r, ho, hz⟩ := I.lst hp
  obtain ⟨h1, h2, h3, h4⟩ := ixN_seq hj
  have hl := r.length
  have hn := line63
  have I' : Inv X pins σ (upd H p (.lst (xs.set j v))) { s with heap := s.heap.update p (Obj.mapSeq (·.setIfInBounds j u)) } :=
    I.lstUpd hp ho (mapSeq_set its n j u) (r.set rv j) (by rw [List.length_set]; exact hz) s.toks
  by_cases h0 : 0 ≤ k
  · have hk : k.toNat = j := by
      rw [seqIndex_of h0 h4] at h1
      exact Option.some.inj h1
    exact PySem.W.ki_setAt ho h0 (by omega) (by rw [List.size_toArray, ← hl]; exact h4) (by rw [hk]; exact ⟨_, I', q⟩)
  · have hk : (k + (its.toArray.size : Int)).toNat = j := by
      rw [seqIndex_neg (by omega) h3] at h1
      rw [List.size_toArray, ← hl]
      exact Option.some.inj h1
    exact PySem.W.ki_setBack ho (by omega) (by rw [List.size_toArray, ← hl]; exact h3) (by omega) (by rw [hk]; exact ⟨_, I', q⟩)

theorem slice_bounds (lo hi : Option Int) (n : Nat) : (sliceBounds lo hi none n).1 = ((HT.sIx n 0 lo : Nat) : Int) ∧ (sliceBounds lo hi none n).2.1 = ((HT.sIx n n hi : Nat) : Int) ∧ (sliceBounds lo hi none n).2.2 = 1 := by
  refine ⟨?_, ?_, rfl⟩
  · cases lo with
    | none => simp [sliceBounds, HT.sIx]
    | some i =>
      simp only [sliceBounds, HT.sIx, Option.getD_none, show (1 : Int) > 0 by decide, if_true]
      by_cases h : i < 0
      · simp only [h, if_true] <;> omega
      · simp only [h, if_false] <;> omega
  · cases hi with
    | none => simp [sliceBounds, HT.sIx]
    | some i =>
      simp only [sliceBounds, HT.sIx, Option.getD_none, show (1 : Int) > 0 by decide, if_true]
      by_cases h : i < 0
      · simp only [h, if_true] <;> omega
      · simp only [h, if_false] <;> omega
theorem slicePick_cut (its : List Value) (lo hi : Option Int) : slicePick its.toArray lo hi none = ((its.drop (HT.sIx its.length 0 lo)).take (HT.sIx its.length its.length hi - HT.sIx its.length 0 lo)).toArray := by
  obtain ⟨h1, h2, h3⟩ := slice_bounds lo hi its.toArray.size
  unfold slicePick
  rw [h1, h2, h3]
  simp only [sliceRange_one, pick_run, List.size_toArray] <;> rfl
noncomputable def rSlL (K : PySem.W.Frag) : V → Option Int → Option Int → Hp → VK → Prop := fun x lo hi H Q => ∃ a xs, x = .ref a ∧ SqL K H a xs ∧ ∀ p, H p = none → Q (.ref p) (upd H p (.lst (cutV xs lo hi)))
theorem sl_list : SlR X (rSlL X.K) := by
  intro pins s σ H x v vl vu lo hi sl Q I rx hs pl pu h
  obtain ⟨a, xs, rfl, hx, q⟩ := h
  cases rx
  obtain ⟨its, r, ht, hz⟩ := I.list hx
  have hlen := r.length
  refine ⟨"list", _, slot_list_getitem.lookup, ht.isList.typeIs, ?_⟩
  refine wpAny_getItem_list_slice ht.isList hs pl pu .none (by simp) ?_ (by rw [List.size_toArray] <;> omega)
  rw [slicePick_cut, ← hlen]
  refine ⟨.ref s.heap.objs.size, _, I.laid (t' := s.toks) (o := .lst (cutV xs lo hi)) (fun b ob q => Heap.get?_push_of_some _ q) (Nat.le_refl _) ?_, rfl, q _ (I.hok.fresh (Nat.le_refl _))⟩
  exact ⟨Nat.le_trans (cutV_length xs lo hi) hz, _, 0, (r.drop (HT.sIx xs.length 0 lo)).take (HT.sIx xs.length xs.length hi - HT.sIx xs.length 0 lo), Heap.get?_push_size _ rfl⟩

noncomputable def flatV : V → Bool
  | .non => true
  | .bl _ => true
  | .int _ => true
  | .str _ => true
  | _ => false
noncomputable def eqV : V → V → Bool
  | .non, .non => true
  | .bl a, .bl b => a == b
  | .bl a, .int b => (if a then 1 else 0) == b
  | .int a, .bl b => a == (if b then 1 else 0)
  | .int a, .int b => a == b
  | .str a, .str b => a == b
  | _, _ => false
theorem eqAt_V {A : Around} {s : Shared} {y x : V} {u v : Value} (ry : RelV y u) (rx : RelV x v) (fy : flatV y = true) (fx : flatV x = true) : SeqAt.EqAt A s u v (eqV y x) := by
  cases y with
  | non =>
    cases ry
    cases x with
    | non => cases rx; exact SeqAt.EqAt.same _
    | bl b => cases rx; exact SeqAt.EqAt.none_bool b
    | int b => obtain ⟨t, rfl⟩ := rx; exact SeqAt.EqAt.none_int b t
    | str b => obtain ⟨t, rfl⟩ := rx; exact SeqAt.EqAt.none_str b t
    | _ => exact absurd (show false = true from fx) Bool.false_ne_true
  | bl a =>
    cases ry
    cases x with
    | non => cases rx; exact SeqAt.EqAt.bool_none a
    | bl b => cases rx; exact SeqAt.EqAt.bool_bool a b
    | int b => obtain ⟨t, rfl⟩ := rx; exact SeqAt.EqAt.bool_int a b t
    | str b => obtain ⟨t, rfl⟩ := rx; exact SeqAt.EqAt.bool_str a b t
    | _ => exact absurd (show false = true from fx) Bool.false_ne_true
  | int a =>
    obtain ⟨t', rfl⟩ := ry
    cases x with
    | non => cases rx; exact SeqAt.EqAt.int_none a t'
    | bl b => cases rx; exact SeqAt.EqAt.int_bool a t' b
    | int b => obtain ⟨t, rfl⟩ := rx; exact SeqAt.EqAt.int_int a t' b t
    | str b => obtain ⟨t, rfl⟩ := rx; exact SeqAt.EqAt.int_str a t' b t
    | _ => exact absurd (show false = true from fx) Bool.false_ne_true
  | str a =>
    obtain ⟨t', rfl⟩ := ry
    cases x with
    | non => cases rx; exact SeqAt.EqAt.str_none a t'
    | bl b => cases rx; exact SeqAt.EqAt.str_bool a t' b
    | int b => obtain ⟨t, rfl⟩ := rx; exact SeqAt.EqAt.str_int a t' b t
    | str b => obtain ⟨t, rfl⟩ := rx; exact SeqAt.EqAt.str_str a t' b t
    | _ => exact absurd (show false = true from fx) Bool.false_ne_true
  | _ => exact absurd (show false = true from fy) Bool.false_ne_true
noncomputable def eqU (x : V) (u : Value) : Bool := match u with
  | .none => eqV .non x
  | .bool b => eqV (.bl b) x
  | .int i _ => eqV (.int i) x
  | .str z _ => eqV (.str z) x
  | _ => false
theorem eqU_of {x y : V} {u : Value} (r : RelV y u) (f : flatV y = true) : eqU x u = eqV y x := by
  cases y with
  | non => cases r; rfl
  | bl b => cases r; rfl
  | int i => obtain ⟨t, rfl⟩ := r; rfl
  | str z => obtain ⟨t, rfl⟩ := r; rfl
  | _ => exact absurd (show false = true from f) Bool.false_ne_true
theorem any_eqU {x : V} : ∀ {xs : List V} {us : List Value}, Vals xs us → xs.all flatV = true → us.any (eqU x) = xs.any fun y => eqV y x
  | _, _, .nil, _ => rfl
  | y :: xs, u :: us, .cons r t, f => by
    rw [List.all_cons, Bool.and_eq_true] at f
    rw [List.any_cons, List.any_cons, eqU_of r f.1, any_eqU t f.2]
theorem mem_eqAt {A : Around} {s : Shared} {x : V} {v : Value} (rx : RelV x v) (fx : flatV x = true) : ∀ {xs : List V} {us : List Value}, Vals xs us → xs.all flatV = true → ∀ u ∈ us, SeqAt.EqAt A s u v (eqU x u)
  | _, _, .nil, _ => fun u hu => by cases hu
  | y :: xs, u :: us, .cons r t, f => fun u' hu => by
    rw [List.all_cons, Bool.and_eq_true] at f
    rcases List.mem_cons.mp hu with rfl | hu
    · rw [eqU_of r f.1]; exact eqAt_V r rx f.1 fx
    · exact mem_eqAt rx fx t f.2 u' hu
noncomputable def inV (x : V) (xs : List V) : Bool := xs.any fun y => eqV y x
noncomputable def rIn (K : PySem.W.Frag) (neg : Bool) : R2 := fun x y H Q => ∃ p xs, y = .ref p ∧ (SqL K H p xs ∨ SqT K H p xs) ∧ flatV x = true ∧ xs.all flatV = true ∧ Q (.bl (if neg then !inV x xs else inV x xs)) H
theorem op_in_seq : OpR X (compareOp .In) (rIn X.K false) := by
  intro pins s σ H x y v u Q I rx ry h
  obtain ⟨p, xs, rfl, hq, fx, fs, q⟩ := h
  cases ry
  rcases hq with hq | hq
  · obtain ⟨its, r, pl, hz⟩ := I.list hq
    refine SeqAt.in_listAt (eqU x) pl.isList (fun w hw => mem_eqAt rx fx r fs w (by simpa using hw)) ⟨.bl _, H, I, rfl, ?_⟩
    rw [show its.toArray.any (eqU x) = its.any (eqU x) by simp, any_eqU r fs]
    exact q
  · obtain ⟨its, r, pl, hz⟩ := I.tuple hq
    refine SeqAt.in_tupleAt (eqU x) pl (fun w hw => mem_eqAt rx fx r fs w (by simpa using hw)) ⟨.bl _, H, I, rfl, ?_⟩
    rw [show its.toArray.any (eqU x) = its.any (eqU x) by simp, any_eqU r fs]
    exact q
theorem call_len_seq : CallR X (.builtin "len") (fun xs H Q => ∃ p ys, xs = [.ref p] ∧ (SqL X.K H p ys ∨ SqT X.K H p ys) ∧ Q (.int ys.length) H) := by
  intro pins s σ H xs us Q I r h
  obtain ⟨p, ys, rfl, hq, q⟩ := h
  obtain ⟨u, rfl, rx⟩ := vals1 r
  cases rx
  have hn := line63
  rcases hq with hq | hq
  · obtain ⟨its, r', pl, hz⟩ := I.list hq
    have hlen := r'.length
    exact Calls.call_len_list pl.isList (by simp only [List.size_toArray] <;> omega) ⟨.int ys.length, H, I.tok _, ⟨s.toks + 1, by rw [List.size_toArray, hlen]⟩, q⟩
  · obtain ⟨its, r', pl, hz⟩ := I.tuple hq
    have hlen := r'.length
    exact len_tuple pl (by simp only [List.size_toArray] <;> omega) ⟨.int ys.length, H, I.tok _, ⟨s.toks + 1, by rw [List.size_toArray, hlen]⟩, q⟩
theorem CallR.or {f : Value} {r r' : List V → Hp → VK → Prop} (h : CallR X f r) (h' : CallR X f r') : CallR X f (fun xs H Q => r xs H Q ∨ r' xs H Q) := by
  intro pins s σ H xs us Q I rs q
  rcases q with q | q
  · exact h pins s σ H xs us Q I rs q
  · exact h' pins s σ H xs us Q I rs q
theorem call_tuple_of : CallR X (.type "tuple") (fun xs H Q => ∃ p ys, xs = [.ref p] ∧ ((SqL X.K H p ys ∧ ∀ l, H l = none → Q (.ref l) (upd H l (.tup ys))) ∨ (SqT X.K H p ys ∧ Q (.ref p) H))) := by
  intro pins s σ H xs us Q I r h
  obtain ⟨p, ys, rfl, h⟩ := h
  obtain ⟨u, rfl, rx⟩ := vals1 r
  cases rx
  rcases h with ⟨hq, q⟩ | ⟨hq, q⟩
  · obtain ⟨its, r', pl, hz⟩ := I.list hq
    have hlen := r'.length
    refine call_tuple_list pl.isList (fun h' kp => ?_) (by simp only [List.size_toArray] <;> omega)
    have I1 : Inv X pins σ H { s with heap := h' } := I.kept (t' := s.toks) kp
    have I2 : Inv X pins σ (upd H h'.objs.size (.tup ys)) { s with heap := h'.push { cls := .type "tuple", data := .seq its.toArray } } :=
      I1.laid (t' := s.toks) (fun b o e => Heap.get?_push_of_some _ e) (Nat.le_refl _) (show ObjOk X.prog X.w _ _ _ (.tup ys) from ⟨hz, its, r', IsTup.new _ _⟩)
    exact ⟨.ref h'.objs.size, _, I2, rfl, q _ (I1.hok.fresh (Nat.le_refl _))⟩
  · obtain ⟨its, r', pl, hz⟩ := I.tuple hq
    exact call_tuple_same pl ⟨.ref p, H, I, rfl, q⟩

noncomputable def tyV (K : PySem.W.Frag) (T : String) (x : V) (H : Hp) : Prop := match x with
  | .str _ => T = "str"
  | .int _ => T = "int"
  | .ref p => (T = "list" ∧ ∃ xs, SqL K H p xs) ∨ (T = "tuple" ∧ ∃ o, K.lookup p = some o ∧ o.cls = .type "tuple" ∧ o.dict = none) ∨
      (T = "dict" ∧ ((∃ kvs, H p = some (.dK kvs)) ∨ ∃ kvs, H p = some (.dT kvs))) ∨ (T = "set" ∧ ∃ S n, H p = some (.set S n))
  | _ => False
theorem tyV_is {pins : List (Addr × Obj)} {σ : St} {H : Hp} {s : Shared} {T : String} {x : V} {v : Value} (I : Inv X pins σ H s) (r : RelV x v) (ty : tyV X.K T x H) :
    s.TypeIs v T ∧ ∀ a, v = .ref a → ∃ ob, s.heap.get? a = some ob ∧ ob.dict = none := by
  cases x with
  | str z =>
    obtain ⟨t, rfl⟩ := r
    cases (show T = "str" from ty)
    exact ⟨typeIs_str s z t, fun _ e => nomatch e⟩
  | int i =>
    obtain ⟨t, rfl⟩ := r
    cases (show T = "int" from ty)
    exact ⟨typeIs_int s i t, fun _ e => nomatch e⟩
  | ref p =>
    cases r
    rcases ty with ⟨rfl, xs, hq⟩ | ⟨rfl, o, hk, hc, hd⟩ | ⟨rfl, hk⟩ | ⟨rfl, S, n, hk⟩
    · obtain ⟨its, _, pl, _⟩ := I.list hq
      refine ⟨pl.isList.typeIs, fun a e => ?_⟩
      cases e
      obtain ⟨o, n, e, c, hd, _⟩ := pl
      exact ⟨o, e, hd⟩
    · refine ⟨⟨o, I.kIn p o hk, hc⟩, fun a e => ?_⟩
      cases e
      exact ⟨o, I.kIn _ o hk, hd⟩
    · have z : ∃ o, s.heap.get? p = some o ∧ o.ExactDict := by
        rcases hk with ⟨kvs, hk⟩ | ⟨kvs, hk⟩
        · obtain ⟨_, _, _, _, o, _, _, e, ex, _⟩ := I.hok p _ hk
          exact ⟨o, e, ex⟩
        · obtain ⟨_, _, _, _, o, _, _, e, ex, _⟩ := I.hok p _ hk
          exact ⟨o, e, ex⟩
      obtain ⟨o, e, ex⟩ := z
      refine ⟨⟨o, e, ex.1⟩, fun a e2 => ?_⟩
      cases e2
      exact ⟨o, e, ex.2.1⟩
    · obtain ⟨o, _, _, _, e, ex, _⟩ := I.hok p _ hk
      refine ⟨⟨o, e, ex.1⟩, fun a e2 => ?_⟩
      cases e2
      exact ⟨o, e, ex.2.1⟩
  | _ => exact False.elim ty
noncomputable def tBM (K : PySem.W.Frag) (T : String) (r : V → List V → Hp → VK → Prop) (to : TE) (t : TA) : TE := fun σ H Q => to σ H fun x H1 => tyV K T x H1 ∧ t σ H1 fun xs H2 => r x xs H2 Q
variable {o e : Expr} {es : List Expr} {to : TE} {t : TA} {name : Str} {apos cpos : Pos} {T id : String} {r : V → List V → Hp → VK → Prop}
theorem pe_bm (pa : PlainAttrs T) (slot : Slot T name id) (hty : typeOf (.builtin id) = pure (.type "method_descriptor")) (hm : MtR X id r) (ho : PE X o to) (ha : PA X (e :: es) t)
    (hbase : autoParam (attributeBase o name X.env (eval o X.env) = eval o X.env) Internal.aut2._auto_1)
    (hfew : autoParam (((backTo cpos (starEach (e :: es) X.env)).all (fun x => !x.1) && (backToKw cpos (keywordEach [] X.env)).all (fun x => x.1.isSome)
      && decide ((e :: es).length + ([] : List Keyword).length + (if ([] : List Keyword).isEmpty then 0 else 1) < 30)) = true) Internal.aut2._auto_1)
    (hline : autoParam ((apos.endLine == cpos.line) = true) Internal.aut2._auto_1) (hs : autoParam (starEach (e :: es) X.env = (false, eval e X.env) :: starEach es X.env) Internal.aut2._auto_1) (hplain : autoParam ((backTo cpos (starEach es X.env)).any (·.1) = false) Internal.aut2._auto_1) :
    PE X (.Call (.Attribute o name apos) (e :: es) [] cpos) (tBM X.K T r to t) := by
  intro pins s σ H Q I h
  refine wpAny_Call_method_late hbase hfew hline rfl (thn (ho pins s σ H _ I h) fun v s1 zz => ?_)
  obtain ⟨x, H1, I1, r1, ty, q1⟩ := zz
  obtain ⟨h1, h2⟩ := tyV_is I1 r1 ty
  refine ⟨T, id, pa, slot, hty, h1, h2, ?_⟩
  have hA := ha cpos pins s1 σ H1 _ I1 q1
  rw [hs] at hA ⊢
  refine Calls.callWith_builtin (by show (false || (backTo cpos (starEach es X.env)).any (·.1)) = false; rw [hplain] <;> rfl) (Calls.evalArgs_plain ?_)
  exact thn hA fun us s2 ⟨vs, H2, I2, r2, q2⟩ => hm pins s2 σ H2 x vs v us Q I2 r1 r2 q2
/- xs.append(e), list.index on a module's tuple .. are MtR facts of 06m -/
end
end Internal

namespace Internal
open PySem PySem.Spec PyProof.Rows

noncomputable def MtM (X : Cx) (id : String) (r : V → List V → Hp → VK → Prop) : Prop :=
  ∀ (pins : List (Addr × Obj)) (s : Shared) (σ : St) (H : Hp) (x : V) (xs : List V) (v : Value) (us : List Value) (Q : VK), Inv X pins σ H s → RelV x v → Vals xs us → r x xs H Q →
    wpAny (model X.prog X.w) X.A (call (.builtin id) (v :: us)) (EP X pins σ Q) X.xe s

theorem Vals.one : ∀ {x : V} {us : List Value}, Vals [x] us → ∃ u, us = [u] ∧ RelV x u
  | _, _, h => by
    cases h with
    | cons r t => cases t; exact ⟨_, rfl, r⟩
theorem Vals.rep {xs : List V} {us : List Value} (h : Vals xs us) : ∀ k : Nat, Vals (List.replicate k xs).flatten (List.replicate k us).flatten
  | 0 => .nil
  | k + 1 => by
    rw [List.replicate_succ, List.replicate_succ, List.flatten_cons, List.flatten_cons]
    exact Vals.append h (Vals.rep h k)
theorem foldl_rep (its : List Value) : ∀ (k : Nat) (acc : List Value),
    List.foldl (fun x1 x2 => x1 ++ x2) acc.toArray (List.replicate k its.toArray) = (acc ++ (List.replicate k its).flatten).toArray
  | 0, acc => by simp
  | k + 1, acc => by
    have e : acc.toArray ++ its.toArray = (acc ++ its).toArray := by simp
    have e2 : (acc ++ its) ++ (List.replicate k its).flatten = acc ++ (List.replicate (k + 1) its).flatten := by
      rw [List.replicate_succ, List.flatten_cons, List.append_assoc]
    rw [← e2, ← foldl_rep its k (acc ++ its), ← e, List.replicate_succ, List.foldl_cons]

section
variable {X : Cx} {pins : List (Addr × Obj)} {σ : St} {H : Hp} {s : Shared} {l b : Addr} {xs ys zs : List V}

theorem Inv.lset {its its' : List Value} {n : Nat} {f : Array Value → Array Value} {t' : Nat} (I : Inv X pins σ H s) (hH : H l = some (.lst xs))
    (e : s.heap.get? l = some { cls := .type "list", data := .seq its.toArray n }) (hf : f its.toArray = its'.toArray) (hv : Vals ys its') (hz : ys.length ≤ sizeLine) :
    Inv X pins σ (upd H l (.lst ys)) { s with heap := s.heap.update l (Obj.mapSeq f), toks := t' } := by
  have q := PySem.IsL.update e f
  rw [hf] at q
  refine I.write (x := l) (e := l) (by rw [hH]; exact trivial) (.inl rfl) (fun b' u hb hu => (Heap.get?_update_other s.heap (Obj.mapSeq f) (Ne.symm hb)).trans hu) ⟨_, q⟩ ?_
  exact ⟨hz, its', _, hv, q⟩
theorem Inv.lnew {its : List Value} {t' : Nat} (I : Inv X pins σ H s) (hv : Vals ys its) (hz : ys.length ≤ sizeLine) :
    Inv X pins σ (upd H s.heap.objs.size (.lst ys)) { s with heap := s.heap.push { cls := .type "list", data := .seq its.toArray }, toks := t' } :=
  I.laid (fun _ _ q => Heap.get?_push_of_some _ q) (Nat.le_refl _) ⟨hz, its, 0, hv, Heap.get?_push_size _ rfl⟩
theorem Inv.fresh (I : Inv X pins σ H s) : H s.heap.objs.size = none := I.hok.fresh (Nat.le_refl _)
theorem Inv.lstM (I : Inv X pins σ H s) (hH : H l = some (.lst xs)) : xs.length ≤ sizeLine ∧ ∃ (its : List Value) (n : Nat), Vals xs its ∧ xs.length = its.length ∧ s.heap.get? l = some { cls := .type "list", data := .seq its.toArray n } := by
  obtain ⟨z, its, n, r, e⟩ := I.hok l _ hH
  exact ⟨z, its, n, r, r.length, e⟩

theorem notLongL {n : Nat} (h : n ≤ sizeLine) : Builtin.List.listTooLong n = false := by
  unfold Builtin.List.listTooLong
  exact decide_eq_false (by omega)
end

section
variable {X : Cx}

noncomputable def rAppend : V → List V → Hp → VK → Prop := fun x vs H Q => ∃ l xs y, x = .ref l ∧ vs = [y] ∧ H l = some (.lst xs) ∧ xs.length < sizeLine ∧ Q .non (upd H l (.lst (xs ++ [y])))
theorem mt_append : MtM X "list.append" rAppend := by
  intro pins s σ H x vs v us Q I rx rv h
  obtain ⟨l, xs, y, rfl, rfl, hH, hz, q⟩ := h
  cases rx
  obtain ⟨u, rfl, ru⟩ := rv.one
  obtain ⟨z, its, n, r, hl, e⟩ := I.lstM hH
  refine call_meets F.slot_list_append ⟨_, e, rfl⟩ F.entry_list_append (F.args_list_append_2 _ _) (PySem.list_append l its.toArray n u (by rw [List.size_toArray]; omega)) ⟨e, ?_⟩
  refine ⟨.non, _, I.lset (its' := its ++ [u]) hH e (by simp) (r.append (.cons ru .nil)) ?_, rfl, q⟩
  rw [List.length_append, List.length_singleton]
  omega

noncomputable def rCat : R2 := fun x y H Q => ∃ l b xs zs, x = .ref l ∧ y = .ref b ∧ H l = some (.lst xs) ∧ H b = some (.lst zs) ∧ xs.length + zs.length ≤ sizeLine ∧ ∀ p, H p = none → Q (.ref p) (upd H p (.lst (xs ++ zs)))
theorem op_cat : OpR X (binaryOp .Add) rCat := by
  intro pins s σ H x y v u Q I rx ry h
  obtain ⟨l, b, xs, zs, rfl, rfl, hH, hB, hz, q⟩ := h
  cases rx
  cases ry
  obtain ⟨z, its, n, r, hl, e⟩ := I.lstM hH
  obtain ⟨z2, its2, n2, r2, hl2, e2⟩ := I.lstM hB
  refine PySem.P.add_list e e2 ?_ (by rw [List.size_toArray, List.size_toArray]; omega)
  have ea : its.toArray ++ its2.toArray = (its ++ its2).toArray := by simp
  rw [ea]
  exact ⟨.ref _, _, I.lnew (t' := s.toks) (r.append r2) (by rw [List.length_append]; omega), rfl, q _ I.fresh⟩
noncomputable def rRep : R2 := fun x y H Q => ∃ l k xs, x = .ref l ∧ y = .int k ∧ H l = some (.lst xs) ∧ -(2 ^ 63) ≤ k ∧ k < 2 ^ 63 ∧ xs.length * k.toNat ≤ sizeLine ∧
  ∀ p, H p = none → Q (.ref p) (upd H p (.lst (List.replicate k.toNat xs).flatten))
theorem len_rep {α : Type} (xs : List α) (k : Nat) : (List.replicate k xs).flatten.length = k * xs.length := by
  induction k with
  | zero => simp
  | succ k ih => rw [List.replicate_succ, List.flatten_cons, List.length_append, ih, Nat.succ_mul, Nat.add_comm]
theorem op_rep : OpR X (binaryOp .Mult) rRep := by
  intro pins s σ H x y v u Q I rx ry h
  obtain ⟨l, k, xs, rfl, rfl, hH, h1, h2, hz, q⟩ := h
  cases rx
  obtain ⟨t, rfl⟩ := ry
  obtain ⟨z, its, n, r, hl, e⟩ := I.lstM hH
  have hlen : its.toArray.size * k.toNat ≤ sizeLine := by rw [List.size_toArray, ← hl]; exact hz
  have hcap : ¬ its.toArray.size * k.toNat > (2 ^ 63 - 1) / 8 := by
    have : (sizeLine : Nat) ≤ (2 ^ 63 - 1) / 8 := by decide
    omega
  have hfit : ¬ (!Builtin.List.listFitsIndex k) = true := by
    rw [fitsIndex_both h1 h2]
    exact Bool.false_ne_true
  have hlong : ¬ Builtin.List.listTooLong (its.toArray.size * k.toNat) = true := by
    rw [notLongL hlen]
    exact Bool.false_ne_true
  have hnew : List.foldl (fun x1 x2 => x1 ++ x2) #[] (List.replicate (if its.toArray.isEmpty = true then 0 else k.toNat) its.toArray) = (List.replicate k.toNat its).flatten.toArray := by
    have f0 : ∀ m : Nat, List.foldl (fun x1 x2 => x1 ++ x2) #[] (List.replicate m its.toArray) = (List.replicate m its).flatten.toArray := fun m => by
      have := foldl_rep its m []
      rw [List.nil_append] at this
      exact this
    rw [f0]
    cases its with
    | nil => simp
    | cons a r' => rw [if_neg (by simp)]
  refine wpAny_binaryOp_repeat_ref (T := "list") (U := "int") (by decide) ⟨_, e, rfl⟩ (fun s' => typeIs_int s' k t) noFill_list_mul F.fills_int_mul F.slot_int_rmul repeat_list F.slot_int_index.lookup
    (call_meets F.slot_int_rmul (typeIs_int s k t) F.entry_int_rmul (F.args_int_rmul_2 _ _) (int___rmul___int_list k t l its.toArray n)
      ⟨e, rfl, ⟨_, e, rfl⟩, call_meets F.slot_list_mul ⟨_, e, rfl⟩ F.entry_list_mul (F.args_list_mul_2 _ _) (AutoListH.list___mul___list_int_3 l its.toArray n k t hfit hcap hlong) ⟨e, ?_⟩⟩)
  rw [hnew]
  exact ⟨.ref _, _, I.lnew (t' := s.toks) (r.rep k.toNat) (by rw [len_rep, Nat.mul_comm]; exact hz), rfl, q _ I.fresh⟩

end

section
variable {prog : Program} {w : World} {A : Around} {E : Value → Shared → Prop} {s : Shared}
end

section
variable {X : Cx}
end
end Internal

namespace Att
open PySem PySem.W PySem.Calls PyProof.Rows

theorem ints_of_wellAll {P : Params} {h : Heap} : ∀ (ns : List Int) (vs : List Value), WellAll P h vs (ns.map WData.int) → IntsAre vs ns := by
  intro ns
  induction ns with
  | nil =>
    intro vs w
    rw [List.map_nil] at w
    cases w
    exact .nil
  | cons n ns ih =>
    intro vs w
    rw [List.map_cons] at w
    cases w with
    | cons a b =>
      cases a
      exact .cons _ _ (ih _ b)

theorem script_of {l : OpenLaw} {n : Nat} (hn : l.most = some n) {P : Params} {h : Heap} {args : List WData} {vals : List Value}
    (hpre : l.row.toRowW.claim.pre args = true) (hwl : WellAll P h vals args) :
    ∃ a vs ns, vals = [Value.ref a] ∧ args = [WData.list (ns.map WData.int)] ∧ h.get? a = some { cls := .type "list", data := .seq vs.toArray } ∧ IntsAre vs ns ∧ ns.length ≤ n := by
  have hsh : WShape.hasAll [] args [.list .int] = true := (pre_splitW hpre).1
  have hc : l.pre.holds [] { args := args } = true := (pre_splitW hpre).2
  obtain ⟨d, r, rfl, h1, h2⟩ := hasAllW_cons hsh
  obtain rfl := hasAllW_nil h2
  obtain ⟨xs, rfl, h3⟩ := hasW_list h1
  obtain ⟨ns, rfl⟩ := items_int h3
  have hlen : ns.length ≤ n := by
    unfold OpenLaw.pre at hc
    have h4 : (WTm.not (.lt (.lit (.int (n : Int))) (.len (.arg 0)))).holds [] { args := [.list (ns.map .int)] } = true := by
      have h4 := (holds_andW hc).1
      rw [hn] at h4
      exact h4
    have h5 := condW_of h4 (w_not (w_lt w_lit (w_len_list (w_arg rfl))))
    rw [List.length_map] at h5
    refine Nat.le_of_not_lt fun q => ?_
    have q' : (n : Int) < ((ns.length : Nat) : Int) := by omega
    first
      | (rw [decide_eq_true q'] at h5; exact absurd h5 (by decide))
      | (simp at h5; omega)
  cases hwl with
  | cons w1 w2 =>
    cases w2
    cases w1 with
    | list ho hall => exact ⟨_, _, ns, rfl, rfl, ho, ints_of_wellAll ns _ hall, hlen⟩

theorem post_true (l : OpenLaw) (args : List WData) : l.row.toRowW.claim.post args (.bool true) args = true :=
  postW_of (r := l.row.toRowW) (X := (true == true))
    (show WShape.has [] (.bool true) .bool = true by first | rfl | decide | simp [WShape.has, WShape.arms, WShape.armsAll])
    (show (WTm.eq .res (.lit (.bool true))).value [] { args := args, res := some (.bool true), after := args } = some (.bool (true == true)) from w_eq_bool (w_res rfl) w_lit) rfl

theorem attach_call {l : OpenLaw} {n : Nat} {q : Program} {loose : List Str} {XP : (Str → Option Value) → Heap → Prop} {YP : World → Heap → Prop} {d : DefRec}
    (hn : l.most = some n) (hdf : d.params.defaults = [])
    (call : ∀ (w : World) (s₀ s₁ : Shared) (mg mb : Str → Option Value) (fa : Addr) (o : Obj) (pm cd doc : Value) (a : Addr) (vs : List Value) (ns : List Int),
      Ground q loose [] XP w s₀ mg mb s₁.heap → YP w s₁.heap →
      s₁.heap.get? fa = some o → o.data = .func (docDef d.name d.params d.body d.scope pm cd doc) → s₁.heap.CodeRec cd d.name → mg d.name = some (.ref fa) →
      s₁.heap.get? a = some { cls := .type "list", data := .seq vs.toArray } → IntsAre vs ns → ns.length ≤ n → s₁.gens = #[] →
      codeAny (model l.prog w) callerA (.call (.ref fa) ⟨[.ref a], []⟩) (fun r s' => r = .ok (.ret (.bool true)) ∧ OldK s₁.heap s'.heap ∧ s'.os = s₁.os ∧ AllBare s'.gens) s₁) :
    WalkO q loose XP YP l.row.toRowW d [] (fun f vs => PySem.call f vs) := by
  intro w s₀ s₁ mg mb G Y fa o pm cd doc dV kV ho hd hcd hD hmg hg args vals as hpre hlay hrd hwl hlo
  obtain rfl : dV = .none := Dflts.none hD hdf
  obtain rfl : kV = .none := Dflts.noKw hD
  obtain ⟨a, vs, ns, rfl, rfl, hobj, hints, hlen⟩ := script_of hn hpre hwl
  refine enter_call (codeAny_mono (call w s₀ s₁ mg mb fa o pm cd doc a vs ns G Y ho (fd_plain hd) hcd hmg hobj hints hlen hg) fun r s' hq => ?_)
  obtain ⟨rfl, h2, h3, h4⟩ := hq
  exact ⟨.inl ⟨.bool true, .bool true, [], rfl, fun _ => rfl, .bool true, post_true l _, fun _ => ⟨List.Pairwise.nil, fun _ hm => (nomatch hm)⟩⟩, h2, h3, h4⟩

section
variable {prog : Program} {w : World} {A : Around} {E : Value → Shared → Prop} {s : Shared} {K : Frag}

noncomputable def ledger (h : Heap) (L d : Addr) : List (Addr × Obj) := (List.range h.objs.size).filterMap fun a => if a = L ∨ a = d then none else (h.get? a).map fun o => (a, o)
end
end Att

namespace Internal
open PySem PySem.Spec PyProof.Rows

theorem vals_ints : ∀ {vs : List Value} {ns : List Int}, IntsAre vs ns → Vals (ns.map V.int) vs
  | _, _, .nil => .nil
  | _, _, .cons n t h => .cons ⟨t, rfl⟩ (vals_ints h)

noncomputable def Only (H : Hp) : Prop := ∀ b, H b = none ∨ ∃ o xs, H b = some (.frz o (.lst xs))

theorem law_call {P : Program} {w : World} {K : PySem.W.Frag} {mg mb : Str → Option Value} {CX : CXT} {k : Nat} {fa a : Addr} {fd : FuncData} {x : Str} {sp : Sp} {s₁ : Shared} {vs : List Value} {ns : List Int}
    (KX : K.In s₁.heap) (hns : s₁.heap.Ns mainGlobals mg) (hb : s₁.heap.Ns builtinsNs mb) (hbb : ∀ x : Str, x ≠ "__name__" → mb x = bootBuiltins x) (hlim : s₁.heap.NoLimit) (hg : s₁.gens = #[])
    (ha : s₁.heap.get? a = some { cls := .type "list", data := .seq vs.toArray }) (hi : IntsAre vs ns) (hl : ns.length ≤ sizeLine) (hr : Room k callerA)
    (F : ∀ base : Heap, K.In base → base.Ns mainGlobals mg → FnOk P w K mg base CX k fa fd [x] sp) (hbind : ∀ (s : Shared) (u : Value), BindsTo s fd ⟨[u], []⟩ [(x, u)])
    (hsp : ∀ H : Hp, Only H → SqL K H a (ns.map V.int) → sp [.ref a] H (fun v _ => v = .bl true) fun _ _ _ => False)
    (hCX : ∀ H e s', CX [] H s₁ (fun _ _ _ => False) e s' → False) :
    codeAny (model P w) callerA (.call (.ref fa) ⟨[.ref a], []⟩) (fun r s' => r = .ok (.ret (.bool true)) ∧ OldK s₁.heap s'.heap ∧ s'.os = s₁.os ∧ AllBare s'.gens) s₁ := by
  have rv := vals_ints hi
  have lenV := hi.length
  -- from an abstract heap in which nothing but the script may be tracked
  have core : ∀ H : Hp, Only H → SqL K H a (ns.map V.int) → HOk P w H s₁.heap → (∀ b, H b ≠ none → b = a) → (H a ≠ none → K.lookup a = none) →
      codeAny (model P w) callerA (.call (.ref fa) ⟨[.ref a], []⟩) (fun r s' => r = .ok (.ret (.bool true)) ∧ OldK s₁.heap s'.heap ∧ s'.os = s₁.os ∧ AllBare s'.gens) s₁ := by
    intro H hO hS hok hA hK
    have base_of : ∀ {b : Addr} {o : Obj}, s₁.heap.get? b = some o → H b = none → (hidT s₁.heap H).get? b = some o := fun e n => hidT_get e n
    have noA : ∀ {b : Addr} {o : Obj} {es : Array DictEntry} {ep : Nat}, s₁.heap.get? b = some o → o.data = .dict es ep → H b = none := fun {b o es ep} e d => by
      cases q : H b with
      | none => rfl
      | some u =>
        have e' : b = a := hA b (by rw [q]; simp)
        subst e'
        rw [ha] at e; cases e
        have d' : Data.seq vs.toArray _ = Data.dict es ep := d
        cases d'
    have nsK : ∀ {b : Addr} {m : Str → Option Value}, s₁.heap.Ns b m → (hidT s₁.heap H).Ns b m := fun {b m} ⟨o, es, ep, e, d, r⟩ => ⟨o, es, ep, base_of e (noA e d), d, r⟩
    have hKb : K.In (hidT s₁.heap H) := fun b o e => base_of (KX b o e) (by
      cases q : H b with
      | none => rfl
      | some u =>
        have e' : b = a := hA b (by rw [q]; simp)
        subst e'
        rw [hK (by rw [q]; simp)] at e; cases e)
    have hM : Mod K mg (hidT s₁.heap H) := ⟨hKb, nsK hns, ⟨mb, nsK hb, hbb⟩, let ⟨mc, h1, h2⟩ := hlim; ⟨mc, nsK h1, h2⟩⟩
    have e0 : Env0 P w K mg (hidT s₁.heap H) callerA [] s₁ H := ⟨rfl, hM, fun b o e => of_hidT e, Nat.le_of_eq (hidT_size _ _), trivial, fun b hb => absurd (show b ∈ ([] : List Addr) from hb) (by simp), hok, .of_eq hg⟩
    refine codeAny_mono ((F _ hKb (nsK hns)).run callerA [] s₁ H ⟨[.ref a], []⟩ [.ref a] [.ref a] _ _ hr e0 (hbind s₁ (.ref a)) (.cons rfl .nil) (hsp H hO hS)) fun r s' h => ?_
    cases r with
    | error e => exact (hCX H e s' h).elim
    | ok fl =>
      cases fl with
      | next => exact False.elim h
      | brk => exact False.elim h
      | cont => exact False.elim h
      | ret u =>
        obtain ⟨v, H', os, bare, un, hok', r', q⟩ := h
        have q' : v = .bl true := q
        subst q'
        obtain rfl : u = Value.bool true := r'
        refine ⟨rfl, OldK.of_keep fun b o e => ?_, os, bare⟩
        cases q : H b with
        | none => exact un.keep b o e q (by intro z; exact absurd (show b ∈ ([] : List Addr) from z) (by simp)) (by simp)
        | some u =>
          rcases hO b with z | ⟨ob, xs, z⟩
          · rw [q] at z; cases z
          · have z2 := un.frzs b ob _ z
            obtain ⟨e1, _⟩ := hok b _ z
            obtain ⟨e2, _⟩ := hok' b _ z2
            rw [e] at e1; cases e1
            exact e2
  cases hk : K.lookup a with
  | some o =>
    -- the script is one of the module's own objects
    have e := KX a o hk
    rw [ha] at e
    cases e
    refine core (fun _ => none) (fun _ => .inl rfl) (.inr ⟨_, vs.toArray, _, hk, rfl, rfl, rfl, by rw [List.size_toArray, lenV]; exact hl, by simpa using rv⟩) (fun b u z => by have z' : (none : Option HO) = some u := z; cases z') (fun b z => absurd rfl z) fun z => absurd rfl z
  | none =>
    refine core (fun b => if b = a then some (.frz { cls := .type "list", data := .seq vs.toArray } (.lst (ns.map V.int))) else none) (fun b => ?_) (.inl (.inr ⟨{ cls := .type "list", data := .seq vs.toArray }, if_pos rfl⟩)) (fun b u z => ?_) (fun b z => ?_) fun _ => hk
    · by_cases hb : b = a
      · exact .inr ⟨_, _, if_pos hb⟩
      · exact .inl (if_neg hb)
    · by_cases hb : b = a
      · have z' := (if_pos hb).symm.trans z
        cases z'
        subst hb
        exact ⟨ha, by rw [List.length_map]; exact hl, vs, _, rv, ha⟩
      · have z' := (if_neg hb).symm.trans z
        cases z'
    · by_cases hb : b = a
      · exact hb
      · exact absurd (if_neg hb) z
end Internal

namespace Internal
open PySem PySem.Spec PyProof.Rows

noncomputable abbrev KOf {K : PySem.W.Frag} {h : Heap} (_ : K.In h) : PySem.W.Frag := K

theorem walk_of {l : PySem.W.OpenLaw} {n k : Nat} {q : Program} {loose : List Str} {XP : (Str → Option Value) → Heap → Prop} {YP : World → Heap → Prop} {d : DefRec} {K : Params → PySem.W.Frag} {CX : World → CXT} {sp : World → Sp} {x : Str}
    (hn : l.most = some n) (hn2 : n ≤ sizeLine) (hdf : d.params.defaults = []) (hr : Room k callerA)
    (hY : ∀ (w : World) (h : Heap), YP w h → (K w.params).In h)
    (F : ∀ (w : World) (mg : Str → Option Value) (fa : Addr) (h : Heap), (K w.params).In h → h.Ns mainGlobals mg → mg d.name = some (.ref fa) →
      ∃ fd : FuncData, (∀ (s : Shared) (u : Value), BindsTo s fd ⟨[u], []⟩ [(x, u)]) ∧
        ∀ base : Heap, (K w.params).In base → base.Ns mainGlobals mg → FnOk l.prog w (K w.params) mg base (CX w) k fa fd [x] (sp w))
    (hsp : ∀ (w : World) (H : Hp) (a : Addr) (ns : List Int), ns.length ≤ n → Only H → SqL (K w.params) H a (ns.map V.int) → sp w [.ref a] H (fun v _ => v = .bl true) fun _ _ _ => False)
    (hCX : ∀ (w : World) (H : Hp) (s : Shared) (e : Value) (s' : Shared), CX w [] H s (fun _ _ _ => False) e s' → False) :
    PySem.W.WalkO q loose XP YP l.row.toRowW d [] (fun f vs => PySem.call f vs) := by
  refine Att.attach_call hn hdf fun w s₀ s₁ mg mb fa o pm cd doc a vs ns G Y ho hd hcd hmg hobj hints hlen hg => ?_
  have KX := hY w _ Y
  obtain ⟨fd, hb, hF⟩ := F w mg fa _ KX G.T.g hmg
  exact law_call KX G.T.g G.T.b G.T.builtins G.T.nolimit hg hobj hints (Nat.le_trans hlen hn2) hr hF hb (fun H hO hS => hsp w H a ns hlen hO hS) fun H e s' => hCX w H s₁ e s'
end Internal



namespace Internal
open PySem PySem.Spec PyProof.Rows

noncomputable def inClass (s : Stmt) (j : Nat) : Stmt := match s with
  | .ClassDef _ _ _ body _ _ _ _ _ _ _ => body.getD j (.Pass ⟨0, 0, 0, 0⟩)
  | _ => .Pass ⟨0, 0, 0, 0⟩
noncomputable def defArgs (s : Stmt) : Arguments := match s with
  | .FunctionDef _ a _ _ _ _ _ _ _ _ => a
  | _ => { posonlyargs := [], args := [], vararg := none, kwonlyargs := [], kw_defaults := [], kwarg := none, defaults := [] }
noncomputable def defBody (s : Stmt) : List Stmt := match s with
  | .FunctionDef _ _ b _ _ _ _ _ _ _ => b
  | _ => []
noncomputable def defScope (s : Stmt) : Scope := match s with
  | .FunctionDef _ _ _ _ _ _ sc _ _ _ => sc
  | _ => { kind := .function, names := [], isGenerator := false, isCoroutine := false }

noncomputable abbrev CX0 : CXT := fun _ _ _ _ _ _ => False
noncomputable abbrev E0 : XK := fun _ _ _ => False
set_option genInjectivity false in
set_option genSizeOf false in
structure Fun (K : PySem.W.Frag) (x qual : Str) (st : Stmt) (f : Addr) (fd : FuncData) : Prop where
  ex : ∃ (oc : Value) (od : Option Addr) (kV doc pm : Value) (an : Option Addr) (cdv ct : Value) (osl : Array (Option Value)),
    fd = PySem.W.fnOf x qual (defArgs st) (defBody st) (defScope st) .none kV doc pm an cdv ct ∧ K.lookup f = some ⟨oc, od, .func fd, osl⟩ ∧ PySem.W.codeIn K cdv qual = true
  kp : PySem.W.keepIn K (.ref f) = true
section
variable {P : Program} {w : World} {K : PySem.W.Frag} {mg : Str → Option Value} {base : Heap}
theorem Fun.binds {x qual : Str} {st : Stmt} {f : Addr} {fd : FuncData} {ps : List Str} (F : Fun K x qual st f fd)
    (h : ∀ (kV doc pm : Value) (an : Option Addr) (cdv ct : Value) (us : List Value), us.length = ps.length → bindArgs (PySem.W.fnOf x qual (defArgs st) (defBody st) (defScope st) .none kV doc pm an cdv ct) ⟨us, []⟩ = pure (ps.zip us)) : Binds K fd ps [] := by
  obtain ⟨oc, od, kV, doc, pm, an, cdv, ct, osl, rfl, lk, hcd⟩ := F.ex
  exact .all (h kV doc pm an cdv ct)
theorem fun_mk {x qual : Str} {st : Stmt} {f : Addr} {oc : Value} {od an : Option Addr} {osl : Array (Option Value)} {kV doc pm cdv ct : Value} (l : K.lookup f = some ⟨oc, od, .func (PySem.W.fnOf x qual (defArgs st) (defBody st) (defScope st) .none kV doc pm an cdv ct), osl⟩)
    (c : PySem.W.codeIn K cdv qual = true) (k : PySem.W.keepIn K (.ref f) = true) : Fun K x qual st f (PySem.W.fnOf x qual (defArgs st) (defBody st) (defScope st) .none kV doc pm an cdv ct) := ⟨⟨oc, od, kV, doc, pm, an, cdv, ct, osl, rfl, l, c⟩, k⟩
end
section
variable {X : Cx}
theorem pv (i : Nat) {x : Str} {pos : Pos} (hN : autoParam (X.N[i]? = some x) Internal.aut2._auto_1) (hv : Vis X.env.scope x := by first | exact Or.inl rfl | exact Or.inr (Or.inl rfl) | exact Or.inr (Or.inr rfl)) (hd : autoParam ((x == ("__debug__" : Str)) = false) Internal.aut1._auto_1)
    (hcd : autoParam ((x == ("__classdict__" : Str)) = false) Internal.aut1._auto_1) : PE X (.Name x pos) (tVar i) := pe_var hN hv hd hcd
end

noncomputable def Same (H H' : Hp) : Prop := ∀ b o, H b = some o → H' b = some o
theorem Same.refl (H : Hp) : Same H H := fun _ _ h => h
theorem Same.trans {H H1 H2 : Hp} (a : Same H H1) (b : Same H1 H2) : Same H H2 := fun c o h => b c o (a c o h)
theorem Same.seq {K : PySem.W.Frag} {H H' : Hp} {a : Addr} {xs : List V} (e : Same H H') (h : SqL K H a xs) : SqL K H' a xs := by
  rcases h with (h | ⟨o, h⟩) | h
  · exact .inl (.inl (e _ _ h))
  · exact .inl (.inr ⟨o, e _ _ h⟩)
  · exact .inr h

end Internal

set_option Elab.async false
set_option linter.all false
set_option maxRecDepth 100000
namespace Internal
open PySem PySem.Spec PyProof.Rows

namespace BT
theorem len : bootBuiltins "len" = some (.builtin "len") := by decide +kernel
theorem isinstance : bootBuiltins "isinstance" = some (.builtin "isinstance") := by decide +kernel
theorem int : bootBuiltins "int" = some (.type "int") := by decide +kernel
theorem bool : bootBuiltins "bool" = some (.type "bool") := by decide +kernel
theorem list : bootBuiltins "list" = some (.type "list") := by decide +kernel
theorem tuple : bootBuiltins "tuple" = some (.type "tuple") := by decide +kernel
theorem ValueError : bootBuiltins "ValueError" = some (.type "ValueError") := by decide +kernel
end BT

noncomputable def sz (i : Int) : Nat := Builtin.Int.intBits i
theorem sz_le {i : Int} {n : Nat} : sz i ≤ n ↔ i.natAbs < 2 ^ n := by
  unfold sz Builtin.Int.intBits
  by_cases h : i = 0
  · subst h; simp; exact Nat.two_pow_pos n
  · have h' : (i == 0) = false := by simp [h]
    rw [h', if_neg (by decide)]
    have hn : i.natAbs ≠ 0 := by omega
    rw [← Nat.log2_lt hn]; omega
theorem sz_of {i : Int} {n : Nat} (h : i.natAbs < 2 ^ n) : sz i ≤ n := sz_le.mpr h
theorem sz200 {i : Int} (h1 : -1606938044258990275541962092341162602522202993782792835301376 < i) (h2 : i < 1606938044258990275541962092341162602522202993782792835301376) : sz i ≤ 200 := sz_of (by
  have : (2 : Nat) ^ 200 = 1606938044258990275541962092341162602522202993782792835301376 := by decide
  omega)
section
variable {X : Cx}
noncomputable def CMulS (i j : Int) : Prop := sz i + sz j ≤ 134217728
theorem CMulS.ok {i j : Int} (h : CMulS i j) : IntMulOk i j := by
  unfold IntMulOk
  have e : Builtin.Int.intTooBig (((Builtin.Int.intBits i : Nat) : Int) + ((Builtin.Int.intBits j : Nat) : Int)) = false := by
    unfold Builtin.Int.intTooBig
    have hb : bitsLine = 134217728 := by decide
    rw [decide_eq_false]
    rw [hb]
    unfold CMulS sz at h
    omega
  rw [e]; simp
theorem CMulS.of {i j : Int} {n m : Nat} (h1 : sz i ≤ n) (h2 : sz j ≤ m) (h : n + m ≤ 134217728) : CMulS i j := by unfold CMulS; omega
theorem op_mulS : OpR X (binaryOp .Mult) (rI CMulS fun i j => .int (i * j)) := opI fun _ _ _ _ _ _ _ hc q => mul_int q hc.ok
noncomputable def rMulU : R2 := fun x y H Q => rI CMulS (fun i j => .int (i * j)) x y H Q ∨ rRep x y H Q
theorem op_mulU : OpR X (binaryOp .Mult) rMulU := op_mulS.or op_rep
noncomputable def rAddU (K : PySem.W.Frag) : R2 := fun x y H Q => rI0 (fun i j => .int (i + j)) x y H Q ∨ rCat x y H Q ∨ rCatT K x y H Q
theorem op_addU : OpR X (binaryOp .Add) (rAddU X.K) := op_add.or (op_cat.or op_catT)
noncomputable def rModU : R2 := rI (fun _ j => j ≠ 0) fun i j => .int (i.fmod j)
theorem op_modU : OpR X (binaryOp .Mod) rModU := op_modN

mutual
inductive RepD (K : PySem.W.Frag) (H : Hp) : V → PyData → Prop
  | non : RepD K H .non .none
  | bl (b : Bool) : RepD K H (.bl b) (.bool b)
  | int (i : Int) : RepD K H (.int i) (.int i)
  | str (x : Str) (ok : PyData.canLay0 (.str x) = true) : RepD K H (.str x) (.str x)
  | lst {a : Addr} {vs : List V} {ds : List PyData} : SqL K H a vs → RepAll K H vs ds → RepD K H (.ref a) (.list ds)
  | tup {a : Addr} {vs : List V} {ds : List PyData} : SqT K H a vs → RepAll K H vs ds → RepD K H (.ref a) (.tuple ds)
inductive RepAll (K : PySem.W.Frag) (H : Hp) : List V → List PyData → Prop
  | nil : RepAll K H [] []
  | cons {v : V} {d : PyData} {vs : List V} {ds : List PyData} : RepD K H v d → RepAll K H vs ds → RepAll K H (v :: vs) (d :: ds)
end
mutual
theorem RepD.reads {pins : List (Addr × Obj)} {σ : St} {H : Hp} {s : Shared} (I : Inv X pins σ H s) : ∀ {v : V} {d : PyData} {u : Value}, RepD X.K H v d → RelV v u → ∃ as, Reads s.heap u d as
  | _, _, _, .non, r => by cases (show _ = Value.none from r); exact ⟨_, .none⟩
  | _, _, _, .bl b, r => by cases (show _ = Value.bool b from r); exact ⟨_, .bool b⟩
  | _, _, _, .int i, r => by obtain ⟨t, rfl⟩ := (show ∃ t, _ = Value.int i t from r); exact ⟨_, .int i t⟩
  | _, _, _, .str x _, r => by obtain ⟨t, rfl⟩ := (show ∃ t, _ = Value.str x t from r); exact ⟨_, .str x t⟩
  | _, _, _, .lst h k, r => by
    cases (show _ = Value.ref _ from r)
    obtain ⟨its, rv, ⟨o, n, h1, h2, _, h3⟩, _⟩ := I.list h
    obtain ⟨as, q⟩ := RepAll.reads I k rv
    exact ⟨_, .list h1 h2 h3 (by simpa using q)⟩
  | _, _, _, .tup h k, r => by
    cases (show _ = Value.ref _ from r)
    obtain ⟨its, rv, ⟨o, h1, h2, n, h3⟩, _⟩ := I.tuple h
    obtain ⟨as, q⟩ := RepAll.reads I k rv
    exact ⟨_, .tuple h1 h2 h3 (by simpa using q)⟩
theorem RepAll.reads {pins : List (Addr × Obj)} {σ : St} {H : Hp} {s : Shared} (I : Inv X pins σ H s) : ∀ {vs : List V} {ds : List PyData} {us : List Value}, RepAll X.K H vs ds → Vals vs us → ∃ as, ReadsAll s.heap us ds as
  | _, _, _, .nil, .nil => ⟨_, .nil⟩
  | _, _, _, .cons h k, .cons r t => by
    obtain ⟨as, q⟩ := RepD.reads I h r
    obtain ⟨bs, p⟩ := RepAll.reads I k t
    exact ⟨_, .cons q p⟩
end
mutual
theorem RepD.lay {K : PySem.W.Frag} {H : Hp} : ∀ {v : V} {d : PyData}, RepD K H v d → d.canLay0 = true
  | _, _, .non => rfl
  | _, _, .bl _ => rfl
  | _, _, .int _ => rfl
  | _, _, .str _ ok => ok
  | _, _, .lst _ k => by rw [PyData.canLay0]; exact RepAll.lay k
  | _, _, .tup _ k => by rw [PyData.canLay0]; exact RepAll.lay k
theorem RepAll.lay {K : PySem.W.Frag} {H : Hp} : ∀ {vs : List V} {ds : List PyData}, RepAll K H vs ds → PyData.canLayAll0 ds = true
  | _, _, .nil => rfl
  | _, _, .cons h k => by rw [PyData.canLayAll0, RepD.lay h, RepAll.lay k]; rfl
end
theorem Same.seqT {K : PySem.W.Frag} {H H' : Hp} {a : Addr} {xs : List V} (e : Same H H') (h : SqT K H a xs) : SqT K H' a xs := by
  rcases h with (h | ⟨o, h⟩) | h
  · exact .inl (.inl (e _ _ h))
  · exact .inl (.inr ⟨o, e _ _ h⟩)
  · exact .inr h
mutual
theorem Same.rep {K : PySem.W.Frag} {H H' : Hp} (e : Same H H') : ∀ {v : V} {d : PyData}, RepD K H v d → RepD K H' v d
  | _, _, .non => .non
  | _, _, .bl b => .bl b
  | _, _, .int i => .int i
  | _, _, .str x ok => .str x ok
  | _, _, .lst h k => .lst (e.seq h) (e.repAll k)
  | _, _, .tup h k => .tup (e.seqT h) (e.repAll k)
theorem Same.repAll {K : PySem.W.Frag} {H H' : Hp} (e : Same H H') : ∀ {vs : List V} {ds : List PyData}, RepAll K H vs ds → RepAll K H' vs ds
  | _, _, .nil => .nil
  | _, _, .cons h k => .cons (e.rep h) (e.repAll k)
end
noncomputable def rEqU (K : PySem.W.Frag) : R2 := fun x y H Q => (∃ d e, RepD K H x d ∧ RepD K H y e ∧ min d.depth e.depth ≤ 60 ∧ Q (.bl (PyData.eqv d e)) H) ∨ rEq x y H Q
noncomputable def rNeU (K : PySem.W.Frag) : R2 := fun x y H Q => (∃ d e, RepD K H x d ∧ RepD K H y e ∧ min d.depth e.depth ≤ 60 ∧ Q (.bl (!PyData.eqv d e)) H) ∨ rNe x y H Q
theorem op_eqU (hu : X.A.units + 64 < cLine) : OpR X (compareOp .Eq) (rEqU X.K) := by
  refine OpR.or ?_ op_eq
  intro pins s σ H x y v u Q I rx ry h
  obtain ⟨d, e, h1, h2, hd, q⟩ := h
  obtain ⟨as, r1⟩ := h1.reads I rx
  obtain ⟨bs, r2⟩ := h2.reads I ry
  exact PySem.SeqAt.compareEq_reads r1 r2 h1.lay h2.lay (by omega) ⟨.bl _, H, I, rfl, q⟩
theorem op_neU (hu : X.A.units + 64 < cLine) : OpR X (compareOp .NotEq) (rNeU X.K) := by
  refine OpR.or ?_ op_ne
  intro pins s σ H x y v u Q I rx ry h
  obtain ⟨d, e, h1, h2, hd, q⟩ := h
  obtain ⟨as, r1⟩ := h1.reads I rx
  obtain ⟨bs, r2⟩ := h2.reads I ry
  exact PySem.SeqAt.compareNe_reads r1 r2 h1.lay h2.lay (by omega) ⟨.bl _, H, I, rfl, q⟩

noncomputable def rIsi (K : PySem.W.Frag) : List V → Hp → VK → Prop := fun xs H Q => ∃ x c t b cv, xs = [x, c] ∧ RelV c cv ∧ TyOf K H x t ∧ PySem.W.kitOne K t cv = some b ∧ Q (.bl b) H
theorem call_isinst : CallR X (.builtin "isinstance") (rIsi X.K) := by
  intro pins s σ H xs us Q I r h
  obtain ⟨x, c, t, b, cv, rfl, rc, ty, e, q⟩ := h
  obtain ⟨u, w', rfl, r1, r2⟩ := vals2 r
  have ec : w' = cv := by
    cases c with
    | ty n => exact (show w' = _ from r2).trans (show cv = _ from rc).symm
    | ref a => exact (show w' = _ from r2).trans (show cv = _ from rc).symm
    | non => exact (show w' = _ from r2).trans (show cv = _ from rc).symm
    | bl b => exact (show w' = _ from r2).trans (show cv = _ from rc).symm
    | _ => obtain ⟨_, rfl⟩ := rc; simp [PySem.W.kitOne, PySem.W.kitCls] at e; cases ty <;> simp at e
  subst ec
  exact isinst_ok I r1 ty e fun tk => ⟨.bl b, H, I.tok tk, rfl, q⟩
end

noncomputable def rLen (K : PySem.W.Frag) : List V → Hp → VK → Prop := fun xs H Q => ∃ p ys, xs = [.ref p] ∧ (SqL K H p ys ∨ SqT K H p ys) ∧ Q (.int ys.length) H
noncomputable def rTupleOf (K : PySem.W.Frag) : List V → Hp → VK → Prop := fun xs H Q => ∃ p ys, xs = [.ref p] ∧ ((SqL K H p ys ∧ ∀ l, H l = none → Q (.ref l) (upd H l (.tup ys))) ∨ (SqT K H p ys ∧ Q (.ref p) H))
section
variable {X : Cx}
theorem call_lenU : CallR X (.builtin "len") (rLen X.K) := call_len_seq
theorem call_tupleU : CallR X (.type "tuple") (rTupleOf X.K) := call_tuple_of
noncomputable abbrev tTru (K : PySem.W.Frag) (ta : TE) : TT := fun σ H Q => ta σ H fun x H' => ∃ k, TruV K x H' k ∧ Q k H'
theorem pt_truthU {a : Expr} {ta : TE} (ha : PE X a ta) (he : ∀ whole, isTrue a X.env whole = (do let v ← whole; standAt a.pos; holding [v] (truthy v))) : PT X a (tTru X.K ta) := pt_truth ha he
end
noncomputable def tMid (t u : TS) : TS := fun D σ H => ∃ M : St → Hp → Prop, t { D with nx := M } σ H ∧ ∀ σ' H', M σ' H' → u D σ' H'
theorem pss_mid {X : Cx} {st : Stmt} {rest : List Stmt} {t u : TS} (h1 : PS X st t) (h2 : PSs X rest u) : PSs X (st :: rest) (tMid t u) := by
  intro pins s σ H D I h
  obtain ⟨M, ht, hM⟩ := h
  refine wpAny_execs_cons (thn (h1 pins s σ H _ I ht) fun f s1 q => ?_)
  cases f with
  | next =>
    obtain ⟨σ', H', I', q'⟩ := q
    exact h2 pins s1 σ' H' D I' (hM σ' H' q')
  | brk => exact q
  | cont => exact q
  | ret u => exact q
noncomputable def NoX (CX : CXT) : Prop := ∀ (outer : List Env) (H : Hp) (s : Shared) (e : Value) (s' : Shared), CX outer H s E0 e s' → False
theorem passN {CX : CXT} {X : Cx} (h : NoX CX) : Passes CX X E0 := fun _ _ H s e s' _ q => (h _ H s e s' q).elim
theorem Fun.okN {P : Program} {w : World} {K : PySem.W.Frag} {mg : Str → Option Value} {base : Heap} {CX : CXT} {x qual : Str} {st : Stmt} {f : Addr} {fd : FuncData} {N ps : List Str} {k : Nat} {sp : Sp} (F : Fun K x qual st f fd) (S : FnScope N ps (defScope st)) (len : ∀ vs H Q E, sp vs H Q E → vs.length = ps.length)
    (hbody : ∀ (cdv : Value) (A : Around) (outer : List Env) (s : Shared) (H : Hp) (vs : List V) (Q : VK) (E : XK), Room k (A.deeper (envOfC qual (defScope st) s.heap.objs.size f cdv)) → sp vs H Q E →
      ∃ t, PSs (cxOf CX P w K mg base N qual (defScope st) f cdv A outer s H E).nox (defBody st) t ∧ t { nx := fun _ H' => Q .non H', rt := Q } (start N vs) H) : FnOk P w K mg base CX (k + 1) f fd ps sp := by
  obtain ⟨oc, od, kV, doc, pm, an, cdv, ct, osl, rfl, lk, hcd⟩ := F.ex
  refine fn_of lk hcd S len fun A outer s H vs Q E hr hsp => ?_
  obtain ⟨t, h, q⟩ := hbody cdv A outer s H vs Q E hr hsp
  exact ⟨t, h.nox, q⟩
section
variable {σ : St} {H : Hp} {Q : VK} {D : Ends} {ta tb tc te : TE} {t u : TS} {K : PySem.W.Frag}
theorem x_var {i : Nat} {v : V} (e : σ[i]? = some (some v)) (q : Q v H) : tVar i σ H Q := ⟨v, e, q⟩
theorem x_i0 {g : Int → Int → V} {i j : Int} (q : Q (g i j) H) : rI0 g (.int i) (.int j) H Q := ⟨i, j, rfl, rfl, q⟩
theorem x_add {i j : Int} (q : Q (.int (i + j)) H) : rAddU K (.int i) (.int j) H Q := .inl ⟨i, j, rfl, rfl, q⟩
theorem x_mul {i j : Int} (c : CMulS i j) (q : Q (.int (i * j)) H) : rMulU (.int i) (.int j) H Q := .inl ⟨i, j, rfl, rfl, c, q⟩
theorem x_mod {i j : Int} (h0 : 0 < j) (q : Q (.int (i % j)) H) : rModU (.int i) (.int j) H Q :=
  ⟨i, j, rfl, rfl, by omega, by show Q (.int (i.fmod j)) H; rw [Int.fmod_eq_emod_of_nonneg _ (Int.le_of_lt h0)]; exact q⟩
theorem x_pow {i j k : Int} (c : CPow i j) (e : i ^ j.toNat = k) (q : Q (.int k) H) : rI CPow (fun i j => .int (i ^ j.toNat)) (.int i) (.int j) H Q := ⟨i, j, rfl, rfl, c, by show Q (.int (i ^ j.toNat)) H; rw [e]; exact q⟩
theorem dI {i j : Int} : decide (V.int i = V.int j) = decide (i = j) := by simp
theorem x_eqI {i j : Int} (q : Q (.bl (decide (i = j))) H) : rEqU K (.int i) (.int j) H Q := .inr ⟨rfl, by rw [dI]; exact q⟩
theorem x_neI {i j : Int} (q : Q (.bl (!decide (i = j))) H) : rNeU K (.int i) (.int j) H Q := .inr ⟨rfl, by rw [dI]; exact q⟩
theorem x_eqD {x y : V} {d e : PyData} (h1 : RepD K H x d) (h2 : RepD K H y e) (hd : min d.depth e.depth ≤ 60) (q : Q (.bl (PyData.eqv d e)) H) : rEqU K x y H Q := .inl ⟨d, e, h1, h2, hd, q⟩
theorem x_neD {x y : V} {d e : PyData} (h1 : RepD K H x d) (h2 : RepD K H y e) (hd : min d.depth e.depth ≤ 60) (q : Q (.bl (!PyData.eqv d e)) H) : rNeU K x y H Q := .inl ⟨d, e, h1, h2, hd, q⟩
theorem x_ixL {a : Addr} {xs : List V} {i : Int} {v : V} (h : SqL K H a xs) (e : atI xs i = some v) (q : Q v H) : rIx K (.ref a) (.int i) H Q := .inl ⟨a, xs, i, v, rfl, rfl, h, e, q⟩
theorem x_ixT {a : Addr} {xs : List V} {i : Int} {v : V} (h : SqT K H a xs) (e : atI xs i = some v) (q : Q v H) : rIx K (.ref a) (.int i) H Q := .inr (.inl ⟨a, xs, i, v, rfl, rfl, h, e, q⟩)
theorem x_bl {T : Bool → Prop} {b : Bool} (q : T b) : ∃ k, V.bl b = .bl k ∧ T k := ⟨b, rfl, q⟩
theorem x_truB {T : Bool → Prop} {b : Bool} (q : T b) : ∃ k, TruV K (.bl b) H k ∧ T k := ⟨b, rfl, q⟩
theorem x_andV (q : ta σ H fun x H1 => ∃ c, x = .bl c ∧ if c = true then tb σ H1 Q else Q (.bl false) H1) : tAndV ta tb σ H Q := q
theorem x_ite {p : Prop} [Decidable p] {A B : Prop} (h1 : p → A) (h2 : ¬ p → B) : if decide p = true then A else B := by
  by_cases h : p
  · rw [if_pos (decide_eq_true h)]; exact h1 h
  · rw [if_neg (by rw [decide_eq_false h]; exact Bool.false_ne_true)]; exact h2 h
theorem x_iteN {p : Prop} [Decidable p] {A B : Prop} (h1 : ¬ p → A) (h2 : p → B) : if (!decide p) = true then A else B := by
  by_cases h : p
  · rw [if_neg (by rw [decide_eq_true h]; exact Bool.false_ne_true)]; exact h2 h
  · rw [if_pos (by rw [decide_eq_false h]; rfl)]; exact h1 h
theorem x_iteT {A B : Prop} (h : A) : if true = true then A else B := by rw [if_pos rfl]; exact h
theorem x_iteF {A B : Prop} (h : B) : if false = true then A else B := by rw [if_neg Bool.false_ne_true]; exact h
theorem x_iteNT {A B : Prop} (h : B) : if (!true) = true then A else B := x_iteF h
theorem x_mid (M : St → Hp → Prop) (q : t { D with nx := M } σ H) (r : ∀ σ' H', M σ' H' → u D σ' H') : tMid t u D σ H := ⟨M, q, r⟩
theorem x_call {sp : Sp} {E : XK} {tr : TA} (q : tr σ H fun vs H1 => sp vs H1 Q E) : tCall sp [] E tr σ H Q := by unfold tCall; simp only [List.append_nil]; exact q
noncomputable def rTup (Q : VK) (xs : List V) (H : Hp) : Prop := xs.length ≤ sizeLine ∧ ∀ p, H p = none → Q (.ref p) (upd H p (.tup xs))
noncomputable def rLst (Q : VK) (xs : List V) (H : Hp) : Prop := xs.length ≤ sizeLine ∧ ∀ p, H p = none → Q (.ref p) (upd H p (.lst xs))
theorem x_tup {tr : TA} (q : tr σ H (rTup Q)) : tTup tr σ H Q := q
theorem x_lst {tr : TA} (q : tr σ H (rLst Q)) : tLst tr σ H Q := q
theorem x_lenL {a : Addr} {xs : List V} (h : SqL K H a xs) (q : Q (.int xs.length) H) : rLen K [.ref a] H Q := ⟨a, xs, rfl, .inl h, q⟩
theorem x_start {N : List Str} {vs : List V} {σ0 : St} (e : start N vs = σ0) (q : t D σ0 H) : t D (start N vs) H := by rw [e]; exact q
theorem x_isi {x c : V} {t' cv : Value} {b : Bool} (rc : RelV c cv) (ty : TyOf K H x t') (e : PySem.W.kitOne K t' cv = some b) (q : Q (.bl b) H) : rIsi K [x, c] H Q := ⟨x, c, t', b, cv, rfl, rc, ty, e, q⟩
end
theorem Same.new {H : Hp} {p : Addr} (h : H p = none) (o : HO) : Same H (upd H p o) := fun b u q => by rw [upd_ne (ne_of_none q h)]; exact q
end Internal

set_option Elab.async false
set_option linter.all false
set_option maxRecDepth 100000
namespace Internal
open PySem PySem.Spec PyProof.Rows

theorem closureFor_all {env : Env} {scope : Scope} (h : ∀ y ∈ scope.names, y.2 = .free → ∃ c, env.cells.lookup y.1 = some c) :
    ∃ cl, closureFor scope env = pure cl ∧ (∀ x c, cl.lookup x = some c → env.cells.lookup x = some c) ∧ ∀ y ∈ scope.names, y.2 = .free → cl.lookup y.1 = env.cells.lookup y.1 := by
  unfold closureFor
  have key : ∀ (names : List (Str × NameKind)) (acc : List (Str × Addr)), (∀ y ∈ names, y.2 = .free → ∃ c, env.cells.lookup y.1 = some c) → (∀ x c, acc.lookup x = some c → env.cells.lookup x = some c) →
      ∃ cl, (forIn (m := Sem) names acc fun (x : Str × NameKind) r => if (x.2 == .free) = true then (do let a ← cellOf env x.1; pure (ForInStep.yield ((x.1, a) :: r))) else pure (ForInStep.yield r)) = pure cl ∧
        (∀ x c, cl.lookup x = some c → env.cells.lookup x = some c) ∧ (∀ y ∈ names, y.2 = .free → cl.lookup y.1 = env.cells.lookup y.1) ∧ (∀ x, (∃ c, acc.lookup x = some c) → cl.lookup x = env.cells.lookup x) := by
    intro names
    induction names with
    | nil => intro acc _ ha; exact ⟨acc, rfl, ha, fun _ hy => (nomatch hy), fun x ⟨c, e⟩ => by rw [e, ha x c e]⟩
    | cons y r ih =>
      intro acc hn ha
      obtain ⟨n, k⟩ := y
      have hr : ∀ y ∈ r, y.2 = .free → ∃ c, env.cells.lookup y.1 = some c := fun y hy => hn y (List.mem_cons_of_mem _ hy)
      by_cases hk : k = .free
      · subst hk
        obtain ⟨c, hc⟩ := hn (n, .free) List.mem_cons_self rfl
        have ha' : ∀ x c', List.lookup x ((n, c) :: acc) = some c' → env.cells.lookup x = some c' := fun x c' e => by
          rw [List.lookup_cons] at e
          cases hb : x == n with
          | true => rw [hb] at e; cases e; rw [beq_iff_eq.mp hb]; exact hc
          | false => rw [hb] at e; exact ha x c' e
        obtain ⟨cl, e, h1, h2, h3⟩ := ih ((n, c) :: acc) hr ha'
        refine ⟨cl, ?_, h1, fun y hy hf => ?_, fun x hx => ?_⟩
        · rw [List.forIn_cons]
          simp only [cellOf, hc, beq_self_eq_true, if_true]
          exact e
        · rcases List.mem_cons.mp hy with rfl | hy
          · exact h3 n ⟨c, by rw [List.lookup_cons]; simp⟩
          · exact h2 y hy hf
        · refine h3 x ?_
          obtain ⟨c', e'⟩ := hx
          rw [List.lookup_cons]
          cases hb : x == n with
          | true => exact ⟨c, rfl⟩
          | false => exact ⟨c', e'⟩
      · obtain ⟨cl, e, h1, h2, h3⟩ := ih acc hr ha
        refine ⟨cl, ?_, h1, fun y hy hf => ?_, h3⟩
        · rw [List.forIn_cons]
          have hb : (k == NameKind.free) = false := by simpa using hk
          simp only [hb, Bool.false_eq_true, if_false]
          exact e
        · rcases List.mem_cons.mp hy with rfl | hy
          · exact absurd hf hk
          · exact h2 y hy hf
  obtain ⟨cl, e, h1, h2, _⟩ := key scope.names [] h (fun _ _ z => by simp at z)
  refine ⟨cl, ?_, h1, h2⟩
  show (forIn scope.names [] _ >>= fun r => pure r) = pure cl
  have e' : (forIn (m := Sem) scope.names [] fun (x : Str × NameKind) (r : List (Str × Addr)) => match x with | (name, kind) => if (kind == .free) = true then (do let a ← cellOf env name; pure (ForInStep.yield ((name, a) :: r))) else pure (ForInStep.yield r)) = pure cl := e
  first
    | (rw [e']; rfl)
    | (simp only [e']; rfl)
theorem cellsFrom_app : ∀ (names : List (Str × NameKind)) (n : Nat) (acc : List (Str × Addr)), cellsFrom n names acc = cellsFrom n names [] ++ acc
  | [], _, _ => rfl
  | (name, kind) :: r, n, acc => by
    unfold cellsFrom
    split
    · rw [cellsFrom_app r (n + 1) ((name, n) :: acc), cellsFrom_app r (n + 1) [(name, n)], List.append_assoc]; rfl
    · exact cellsFrom_app r n acc
theorem lookup_app {α : Type} {x : Str} : ∀ {l r : List (Str × α)}, (l ++ r).lookup x = match l.lookup x with | some c => some c | none => r.lookup x
  | [], _ => rfl
  | (k, v) :: l, r => by
    rw [List.cons_append, List.lookup_cons, List.lookup_cons]
    cases x == k with
    | true => rfl
    | false => exact lookup_app (l := l)
noncomputable def compEnv (scope : Scope) (cs : List (Str × Addr)) (C : Addr) (env : Env) : Env :=
  { scope := relabel scope env, locals := C, globals := env.globals, cells := cs, qual := env.qual, func := none, code := env.code, frame := env.frame, builtins := env.builtins }
theorem wpAny_compEnv {M : Model} {A : Around} {E : Value → Shared → Prop} {s : Shared} {scope : Scope} {globals : Addr} {cl : List (Str × Addr)} {qual : Str} {env : Env} {Q : Env → Shared → Prop}
    (hQ : ∀ (own : List (Str × Addr)) (s' : Shared), own = cellsFrom (s.heap.objs.size + 1) scope.names [] → s' = { s with heap := s'.heap } → (∀ b o, s.heap.get? b = some o → s'.heap.get? b = some o) →
      s'.heap.Ns s.heap.objs.size (fun _ => none) → (∀ n c, (n, c) ∈ own → s'.heap.IsCell c none ∧ s.heap.objs.size + 1 ≤ c) → (own.Pairwise fun x y => x.2 ≠ y.2) →
      Q { scope := scope, locals := s.heap.objs.size, globals := globals, cells := own ++ cl, qual := qual, func := none, code := env.code, frame := env.frame, builtins := env.builtins } s') :
    wpAny M A (newFunctionEnv scope globals cl [] qual none .none (some env)) Q E s := by
  simp only [newFunctionEnv, Option.isSome_some, if_true]
  refine wpAny_bind (wpAny_alloc ?_)
  refine wpAny_bind (wpAny_layCells _ (fun name kind cells => by cases hkc : kind == NameKind.cell <;> simp [hkc]) _ _ _ _ ?_)
  have ok := cellsFrom_ok scope.names (s.heap.push { cls := .type "dict", data := .dict #[] }) (s.heap.objs.size + 1) [] ⟨fun _ _ hm => (nomatch hm), List.Pairwise.nil⟩ (by rw [Heap.size_push]; exact Nat.le_refl _)
  rw [Heap.size_push] at ok
  rw [show ({ s with heap := s.heap.push { cls := .type "dict", data := .dict #[] } } : Shared).heap.objs.size = s.heap.objs.size + 1 from Heap.size_push ..]
  rw [cellsFrom_app]
  have fin := hQ _ { s with heap := pushCells (s.heap.push { cls := .type "dict", data := .dict #[] }) scope.names } rfl rfl (fun b o e => pushCells_keeps _ _ b o (Heap.get?_push_of_some _ e))
    ((Heap.Ns.new s.heap (.type "dict")).keeps (pushCells_keeps _ _)) ok.empty ok.apart
  exact wpAny_bind (wpAny_pure (wpAny_pure fin))

theorem lookup_relabel_free {env : Env} : ∀ {names : List (Str × NameKind)} {x : Str}, names.lookup x = some .free →
    (names.map fun (n, k) => if (k == NameKind.free && env.scope.kind == .function && env.kindOf n == some .cell) then (n, NameKind.cell) else (n, k)).lookup x = some .cell ∨
    (names.map fun (n, k) => if (k == NameKind.free && env.scope.kind == .function && env.kindOf n == some .cell) then (n, NameKind.cell) else (n, k)).lookup x = some .free
  | [], _, h => by simp at h
  | (n, k) :: r, x, h => by
    have ih := @lookup_relabel_free env r x
    show List.lookup x ((if (k == NameKind.free && env.scope.kind == .function && env.kindOf n == some .cell) = true then (n, NameKind.cell) else (n, k)) :: _) = _ ∨ List.lookup x ((if (k == NameKind.free && env.scope.kind == .function && env.kindOf n == some .cell) = true then (n, NameKind.cell) else (n, k)) :: _) = _
    by_cases hc : (k == NameKind.free && env.scope.kind == .function && env.kindOf n == some .cell) = true
    · rw [if_pos hc]
      cases hx : x == n with
      | true => left; simp [List.lookup_cons, hx]
      | false => simp only [List.lookup_cons, hx] at h ⊢; exact ih h
    · rw [if_neg hc]
      cases hx : x == n with
      | true => simp only [List.lookup_cons, hx] at h ⊢; exact .inr h
      | false => simp only [List.lookup_cons, hx] at h ⊢; exact ih h
theorem lookup_relabel_cell {env : Env} : ∀ {names : List (Str × NameKind)} {x : Str}, (names.map fun (n, k) => if (k == NameKind.free && env.scope.kind == .function && env.kindOf n == some .cell) then (n, NameKind.cell) else (n, k)).lookup x = some .cell ∨
    (names.map fun (n, k) => if (k == NameKind.free && env.scope.kind == .function && env.kindOf n == some .cell) then (n, NameKind.cell) else (n, k)).lookup x = some .free → names.lookup x = some .cell ∨ names.lookup x = some .free
  | [], _, h => by simp at h
  | (n, k) :: r, x, h => by
    have ih := @lookup_relabel_cell env r x
    have h' : List.lookup x ((if (k == NameKind.free && env.scope.kind == .function && env.kindOf n == some .cell) = true then (n, NameKind.cell) else (n, k)) :: (r.map fun (n, k) => if (k == NameKind.free && env.scope.kind == .function && env.kindOf n == some .cell) then (n, NameKind.cell) else (n, k))) = some .cell ∨
      List.lookup x ((if (k == NameKind.free && env.scope.kind == .function && env.kindOf n == some .cell) = true then (n, NameKind.cell) else (n, k)) :: (r.map fun (n, k) => if (k == NameKind.free && env.scope.kind == .function && env.kindOf n == some .cell) then (n, NameKind.cell) else (n, k))) = some .free := h
    clear h
    by_cases hc : (k == NameKind.free && env.scope.kind == .function && env.kindOf n == some .cell) = true
    · have hk : k = .free := by
        rw [Bool.and_eq_true, Bool.and_eq_true] at hc
        exact beq_iff_eq.mp hc.1.1
      subst hk
      rw [if_pos hc] at h'
      cases hx : x == n with
      | true => right; simp [List.lookup_cons, hx]
      | false => simp only [List.lookup_cons, hx] at h' ⊢; exact ih h'
    · rw [if_neg hc] at h'
      cases hx : x == n with
      | true => simp only [List.lookup_cons, hx] at h' ⊢; exact h'
      | false => simp only [List.lookup_cons, hx] at h' ⊢; exact ih h'
theorem lookup_relabel_own {env : Env} : ∀ {names : List (Str × NameKind)} {x : Str}, names.lookup x = some .cell →
    (names.map fun (n, k) => if (k == NameKind.free && env.scope.kind == .function && env.kindOf n == some .cell) then (n, NameKind.cell) else (n, k)).lookup x = some .cell
  | [], _, h => by simp at h
  | (n, k) :: r, x, h => by
    have ih := @lookup_relabel_own env r x
    show List.lookup x ((if (k == NameKind.free && env.scope.kind == .function && env.kindOf n == some .cell) = true then (n, NameKind.cell) else (n, k)) :: _) = _
    by_cases hc : (k == NameKind.free && env.scope.kind == .function && env.kindOf n == some .cell) = true
    · rw [if_pos hc]
      cases hx : x == n with
      | true => simp [List.lookup_cons, hx]
      | false => simp only [List.lookup_cons, hx] at h ⊢; exact ih h
    · rw [if_neg hc]
      cases hx : x == n with
      | true => simp only [List.lookup_cons, hx] at h ⊢; exact h
      | false => simp only [List.lookup_cons, hx] at h ⊢; exact ih h
theorem own_mem {names : List (Str × NameKind)} : ∀ {n : Nat} {acc : List (Str × Addr)} {x : Str} {c : Addr}, (x, c) ∈ cellsFrom n names acc → (x, .cell) ∈ names ∨ (x, c) ∈ acc := by
  induction names with
  | nil => intro n acc x c h; exact .inr h
  | cons y r ih =>
    intro n acc x c h
    obtain ⟨nm, k⟩ := y
    unfold cellsFrom at h
    split at h
    · rename_i hk
      rcases ih h with h | h
      · exact .inl (List.mem_cons_of_mem _ h)
      · rcases List.mem_cons.mp h with e | h
        · cases e
          rw [beq_iff_eq.mp hk]; exact .inl List.mem_cons_self
        · exact .inr h
    · rcases ih h with h | h
      · exact .inl (List.mem_cons_of_mem _ h)
      · exact .inr h
theorem nodup_lookup {names : List (Str × NameKind)} (nd : (names.map (·.1)).Nodup) {x : Str} {k : NameKind} (h : (x, k) ∈ names) : names.lookup x = some k := by
  induction names with
  | nil => cases h
  | cons y r ih =>
    obtain ⟨n, k'⟩ := y
    rw [List.map_cons, List.nodup_cons] at nd
    rw [List.lookup_cons]
    rcases List.mem_cons.mp h with e | hm
    · cases e; simp
    · have hne : x ≠ n := fun e => nd.1 (List.mem_map.mpr ⟨(x, k), hm, e⟩)
      have hb : (x == n) = false := by simpa using hne
      rw [hb]; exact ih nd.2 hm

noncomputable def compCx (X : Cx) (scope : Scope) (Ni : List Str) (cs : List (Str × Addr)) (s₃ : Shared) (H₃ : Hp) (fp : List Addr) (pins : List (Addr × Obj)) : Cx :=
  { X with N := Ni, s₀ := s₃, H₀ := H₃, env := compEnv scope cs s₃.heap.objs.size X.env, outer := X.stack, stack := X.stack, ex := fp, fn := fun y => decide (scope.names.lookup y = some .cell), pn := X.pn ++ pins, xe := fun _ _ => False }
set_option genInjectivity false in
set_option genSizeOf false in
structure CompScope (X : Cx) (scope : Scope) (Ni : List Str) (caps : List (Option Nat)) : Prop where
  kind : scope.kind = .function
  ndn : (scope.names.map (·.1)).Nodup
  free : ∀ y ∈ scope.names, y.2 = .free → X.env.kindOf y.1 = some .cell ∨ X.env.kindOf y.1 = some .free
  nd : Ni.Nodup
  len : caps.length = Ni.length
  cap : ∀ (i : Nat) (y : Str) (j : Nat), Ni[i]? = some y → caps[i]? = some (some j) → X.N[j]? = some y ∧ scope.names.lookup y = some .free
noncomputable def compChk (so : Scope) (No : List Str) (scope : Scope) (Ni : List Str) (caps : List (Option Nat)) : Bool :=
  (scope.kind == .function) && decide ((scope.names.map (·.1)).Nodup) && (scope.names.all fun y => y.2 != .free || so.names.lookup y.1 == some .cell || so.names.lookup y.1 == some .free) &&
  decide Ni.Nodup && (caps.length == Ni.length) && ((Ni.zip caps).all fun p => match p.2 with | none => true | some j => No[j]? == some p.1 && scope.names.lookup p.1 == some .free)
theorem compScope_of {X : Cx} {scope : Scope} {Ni : List Str} {caps : List (Option Nat)} (h : compChk X.env.scope X.N scope Ni caps = true) : CompScope X scope Ni caps := by
  unfold compChk at h
  simp only [Bool.and_eq_true] at h
  obtain ⟨⟨⟨⟨⟨h1, h2⟩, h3⟩, h4⟩, h5⟩, h6⟩ := h
  refine ⟨beq_iff_eq.mp h1, of_decide_eq_true h2, fun y hy hf => ?_, of_decide_eq_true h4, beq_iff_eq.mp h5, fun i y j e1 e2 => ?_⟩
  · have q := List.all_eq_true.mp h3 y hy
    rw [Bool.or_eq_true, Bool.or_eq_true] at q
    rcases q with (q | q) | q
    · rw [hf] at q; simp at q
    · exact .inl (beq_iff_eq.mp q)
    · exact .inr (beq_iff_eq.mp q)
  · have hm : (y, some j) ∈ Ni.zip caps := by
      refine List.mem_of_getElem? (i := i) ?_
      rw [List.getElem?_zip_eq_some]; exact ⟨e1, e2⟩
    have q := List.all_eq_true.mp h6 _ hm
    simp only [Bool.and_eq_true] at q
    exact ⟨beq_iff_eq.mp q.1, beq_iff_eq.mp q.2⟩
noncomputable def capSt (caps : List (Option Nat)) (σ : St) : St := caps.map fun o => match o with | some j => (σ[j]?).getD none | none => none
section
variable {X : Cx}
set_option genInjectivity false in
set_option genSizeOf false in
structure CompAt (X : Cx) (scope : Scope) (own cl : List (Str × Addr)) (s₃ : Shared) : Prop where
  oeq : own = cellsFrom (s₃.heap.objs.size + 1) scope.names []
  apart : own.Pairwise fun x y => x.2 ≠ y.2
  above : ∀ n c, (n, c) ∈ own → s₃.heap.objs.size + 1 ≤ c
  sub : ∀ x c, cl.lookup x = some c → X.env.cells.lookup x = some c
  all : ∀ y ∈ scope.names, y.2 = .free → cl.lookup y.1 = X.env.cells.lookup y.1
theorem CompAt.look {scope : Scope} {own cl : List (Str × Addr)} {s₃ : Shared} (T : CompAt X scope own cl s₃) {x : Str} {c : Addr} (h : (own ++ cl).lookup x = some c) : (x, c) ∈ own ∨ X.env.cells.lookup x = some c := by
  rw [lookup_app] at h
  cases e : own.lookup x with
  | some c' => rw [e] at h; cases h; exact .inl (mem_of_lookup e)
  | none => rw [e] at h; exact .inr (T.sub x c h)
theorem cells_lt {pins : List (Addr × Obj)} {σ : St} {H : Hp} {s : Shared} (I : Inv X pins σ H s) {x : Str} {c : Addr} (h : X.env.cells.lookup x = some c) : c < s.heap.objs.size := by
  obtain ⟨v, o, ho, _⟩ := I.cell x c h
  exact Heap.lt_size ho
theorem comp_ok {scope : Scope} {Ni : List Str} {caps : List (Option Nat)} {own cl : List (Str × Addr)} {pins : List (Addr × Obj)} {σ : St} {H₃ : Hp} {s₃ : Shared} {fp : List Addr}
    (S : CompScope X scope Ni caps) (T : CompAt X scope own cl s₃) (I : Inv X pins σ H₃ s₃) (f : ∀ b ∈ fp, FpOk X pins H₃ b) (hf : ∀ b ∈ fp, b < s₃.heap.objs.size) : (compCx X scope Ni (own ++ cl) s₃ H₃ fp pins).Ok where
  mod := I.ok.mod
  kind := S.kind
  glob := I.ok.glob
  blt := I.ok.blt
  above := Nat.le_refl _
  inj := fun x y c h1 h2 => by
    rcases T.look h1 with a | a
    · rcases T.look h2 with b | b
      · exact name_of_addr T.apart a b
      · exact absurd (Nat.lt_of_lt_of_le (cells_lt I b) (Nat.le_of_succ_le (T.above x c a))) (Nat.lt_irrefl _)
    · rcases T.look h2 with b | b
      · exact absurd (Nat.lt_of_lt_of_le (cells_lt I a) (Nat.le_of_succ_le (T.above y c b))) (Nat.lt_irrefl _)
      · exact I.ok.inj x y c a b
  has := fun x h => by
    have h' := lookup_relabel_cell (env := X.env) (names := scope.names) (x := x) h
    show ∃ c, (own ++ cl).lookup x = some c
    rw [lookup_app]
    cases e : own.lookup x with
    | some c => exact ⟨c, rfl⟩
    | none =>
      rcases h' with h' | h'
      · obtain ⟨c, ec⟩ := cell_has (n := s₃.heap.objs.size + 1) h'
        rw [← T.oeq, e] at ec; cases ec
      · have hm := mem_of_lookup h'
        obtain ⟨c, ec⟩ := I.ok.has x (S.free _ hm rfl)
        exact ⟨c, (T.all _ hm rfl).trans ec⟩
  cab := fun x c h1 h2 => by
    have hk : scope.names.lookup x = some .cell := of_decide_eq_true h1
    obtain ⟨c', ec⟩ := cell_has (n := s₃.heap.objs.size + 1) hk
    rw [← T.oeq] at ec
    have h2' : (own ++ cl).lookup x = some c := h2
    rw [lookup_app, ec] at h2'
    cases h2'
    have := T.above x _ (mem_of_lookup ec)
    show s₃.heap.objs.size ≤ _
    omega
  hd := I.ok.hd
  frames := I.ok.frames
  stk := .inl rfl
  exf := fun b hb => ⟨Nat.ne_of_lt (hf b hb), fun x c h => by
    rcases T.look h with a | a
    · exact fun e => absurd (Nat.lt_of_lt_of_le (hf b hb) (Nat.le_of_succ_le (e ▸ T.above x c a))) (Nat.lt_irrefl _)
    · exact (f b hb).2.2.2.2.1 x c a⟩
  bs := I.bs
  bsz := Nat.le_trans I.ok.bsz I.sz
  noex := fun b o e hb => by
    rcases (f b hb).2.2.2.1 with z | z
    · exact I.ok.noex b o e z
    · have h1 : b < X.base.objs.size := Heap.lt_size e
      have h2 := I.ok.bsz
      exact absurd (Nat.lt_of_lt_of_le h1 (Nat.le_trans h2 z)) (Nat.lt_irrefl _)
  exfs := fun b hb hm => by
    rcases List.mem_cons.mp (I.stkSub b hm) with z | z
    · exact (f b hb).2.1 z
    · exact (f b hb).2.2.1 z
  funs := I.stack
  frf := I.stkFree
theorem comp_start {scope : Scope} {Ni : List Str} {caps : List (Option Nat)} {own cl : List (Str × Addr)} {pins : List (Addr × Obj)} {σ : St} {H₃ : Hp} {s₃ s₄ : Shared} {fp : List Addr}
    (S : CompScope X scope Ni caps) (T : CompAt X scope own cl s₃) (I : Inv X pins σ H₃ s₃) (f : ∀ b ∈ fp, FpOk X pins H₃ b) (hf : ∀ b ∈ fp, b < s₃.heap.objs.size)
    (e4 : s₄ = { s₃ with heap := s₄.heap }) (k : ∀ b o, s₃.heap.get? b = some o → s₄.heap.get? b = some o) (ns : s₄.heap.Ns s₃.heap.objs.size fun _ => none) (oc : ∀ n c, (n, c) ∈ own → s₄.heap.IsCell c none) :
    Inv (compCx X scope Ni (own ++ cl) s₃ H₃ fp pins) [] (capSt caps σ) H₃ s₄ where
  ok := comp_ok S T I f hf
  os := by rw [e4]; rfl
  bare := by rw [e4]; exact I.bare
  base := Un.kept k
  loc := by
    refine ⟨_, ns, fun i x v h1 h2 h3 => ?_⟩
    have h2' : (capSt caps σ)[i]? = some (some v) := h2
    unfold capSt at h2'
    rw [List.getElem?_map] at h2'
    cases ec : caps[i]? with
    | none => rw [ec] at h2'; cases h2'
    | some o =>
      cases o with
      | none => rw [ec] at h2'; cases h2'
      | some j =>
        rw [ec] at h2'
        have h2'' : (σ[j]?).getD none = some v := Option.some.inj h2'
        have hj : σ[j]? = some (some v) := by
          cases e : σ[j]? with
          | none => rw [e] at h2''; cases h2''
          | some z => rw [e] at h2''; exact congrArg some h2''
        obtain ⟨hN, hfr⟩ := S.cap i x j h1 ec
        have hm := mem_of_lookup hfr
        have hk := S.free _ hm rfl
        obtain ⟨m, _, hl⟩ := I.loc
        obtain ⟨u, r, l⟩ := hl j x v hN hj (by rcases hk with z | z; exact .inr (.inl z); exact .inr (.inr z))
        refine ⟨u, r, .inr ⟨lookup_relabel_free hfr, ?_⟩⟩
        rcases l with ⟨z, _⟩ | ⟨_, c, hc, q⟩
        · have z' : X.env.kindOf x = some .local := z
          rcases hk with y | y <;> (have y' : X.env.kindOf x = _ := y; rw [z'] at y'; cases y')
        · refine ⟨c, ?_, q.keeps k⟩
          show (own ++ cl).lookup x = some c
          rw [lookup_app]
          cases eo : own.lookup x with
          | some c' =>
            rw [T.oeq] at eo
            rcases own_mem (mem_of_lookup eo) with y | y
            · have := nodup_lookup S.ndn y
              rw [hfr] at this; cases this
            · cases y
          | none => exact (T.all _ hm rfl).trans hc
  cell := fun x c h => by
    rcases T.look h with a | a
    · exact ⟨_, oc x c a⟩
    · obtain ⟨v, q⟩ := I.cell x c a
      exact ⟨v, q.keeps k⟩
  free := I.hok.fresh (Nat.le_refl _)
  freeC := fun x c h => by
    rcases T.look h with a | a
    · exact I.hok.fresh (by have := T.above x c a; omega)
    · exact I.freeC x c a
  pin := fun p hp => by
    have hp' : p ∈ X.pn ++ pins := by
      have : p ∈ (X.pn ++ pins) ++ [] := hp
      simpa using this
    obtain ⟨h1, h2, h3, h4, h5⟩ := I.pin p hp'
    refine ⟨k _ _ h1, h2, Nat.ne_of_lt (Heap.lt_size h1), fun z => ?_, h5⟩
    rcases List.mem_cons.mp (I.stkSub _ z) with y | y
    · exact h3 y
    · exact h4 y
  hok := I.hok.kept k
  len := by
    show (capSt caps σ).length = Ni.length
    unfold capSt; rw [List.length_map]; exact S.len
theorem comp_end {scope : Scope} {Ni : List Str} {cs : List (Str × Addr)} {pins : List (Addr × Obj)} {σ σ' : St} {H₃ H' : Hp} {s₃ s' : Shared} {fp : List Addr} (I : Inv X pins σ H₃ s₃) (f : ∀ b ∈ fp, FpOk X pins H₃ b)
    (J : Inv (compCx X scope Ni cs s₃ H₃ fp pins) [] σ' H' s') : Inv X pins σ H' s' := by
  have u : Un (frs X.stack) fp H₃ H' s₃.heap s'.heap := J.base
  have q := I.call (g' := s'.gens) (t' := s'.toks) (d' := s'.drawn) (ch := fp) u J.hok J.bare fun b hb => ⟨(f b hb).2.2.2.1, (f b hb).2.1, (f b hb).2.2.2.2.1, (f b hb).2.2.2.2.2⟩
  have e : ({ s₃ with heap := s'.heap, gens := s'.gens, drawn := s'.drawn, toks := s'.toks } : Shared) = s' := by
    have h1 : s'.os = s₃.os := J.os
    cases s'; cases s₃
    simp only at h1
    subst h1; rfl
  rw [e] at q
  exact q
noncomputable def PF (Y : Cx) (ifs : List Expr) (t : TT) : Prop := ∀ (pins : List (Addr × Obj)) (s : Shared) (σ : St) (H : Hp) (Q : Bool → Hp → Prop), Inv Y pins σ H s → t σ H Q →
  wpAny (model Y.prog Y.w) Y.A (forIn ifs true fun c r => if r = true then do let ok ← isTrue c Y.env (eval c Y.env); pure (ForInStep.yield ok) else pure (ForInStep.yield r)) (TP Y pins σ Q) Y.xe s
noncomputable abbrev tYes : TT := fun _ H T => T true H
theorem pf_one {Y : Cx} {c : Expr} {t : TT} (h : PT Y c t) : PF Y [c] t := fun pins s σ H Q I q => wpAny_tests_one (h pins s σ H Q I q)
noncomputable def tComp (wi : TI) (caps : List (Option Nat)) (g : TG) (tf : TT) (te : TE) : TE := fun σ H Q => wi σ H fun J H1 => ∀ D, H1 D = none →
  ∃ W : Nat → Nat → St → Hp → Prop, (∃ m, W 0 m (capSt caps σ) (upd H1 D (.lst []))) ∧ ∀ i m σ' H', W i m σ' H' →
    (J.stop i H' ∧ Q (.ref D) H') ∨ (J.go i H' ∧ ∃ N : St → Hp → Prop, (∀ σ2 H2, N σ2 H2 → ∃ m', m' < m ∧ W (i + 1) m' σ2 H2) ∧
      ∀ x H2, J.yld i H' x H2 → g x σ' H2 fun σ1 H3 => tf σ1 H3 fun b H4 => if b = true then te σ1 H4 fun v H5 => rAppend (.ref D) [v] H5 fun _ H6 => N σ1 H6 else N σ1 H4)

theorem compLoop_own {P : Program} {w : World} {A : Around} {R : Result → Shared → Prop} {s0 : Shared} {elt tg iter : Expr} {tests : List Expr} {sc : Scope} {ps : Pos} {itv acc : Value} {en : Env} (J : Nat → Shared → Prop)
    (turn : ∀ n s, J n s → wpAny (model P w) A (pyNext itv) (fun r s1 => match r with | none => R (.ok .next) s1 | some v => wpAny (model P w) A (letOwnedTupleGo tg itv v) (fun _ s1' => wpAny (model P w) A (assign tg en v) (fun _ s2 =>
      wpAny (model P w) A (forIn tests true fun c r => if r = true then do let ok ← isTrue c en (eval c en); pure (ForInStep.yield ok) else pure (ForInStep.yield r)) (fun ok s3 => if ok = true then wpAny (model P w) A (eval elt en) (fun x s4 =>
        wpAny (model P w) A (call (.builtin "list.append") [acc, x]) (fun _ s5 => ∃ m, m < n ∧ J m s5) (notedBy (model P w) A en fun e s' => R (.error e) s') s4) (notedBy (model P w) A en fun e s' => R (.error e) s') s3
          else ∃ m, m < n ∧ J m s3) (notedBy (model P w) A en fun e s' => R (.error e) s') s2) (notedBy (model P w) A en fun e s' => R (.error e) s') s1') (notedBy (model P w) A en fun e s' => R (.error e) s') s1) (notedBy (model P w) A en fun e s' => R (.error e) s') s)
    (n0 : Nat) (j0 : J n0 s0) : codeAny (model P w) A (.compLoop (.ListComp elt [⟨tg, iter, tests, 0⟩] sc ps) 0 itv acc en) R s0 := by
  refine codeAny_loop rfl J (fun n s hJ => ?_) n0 j0
  show wpAny _ A ((compTurn (.ListComp elt [⟨tg, iter, tests, 0⟩] sc ps) 0 itv acc en).onRaise (fun x => do noteFrame x en; theTreesLotGoes x)) _ _ s
  refine wpAny_noted ?_
  rw [compTurn_list]
  refine wpAny_bind (wpAny_standAt (wpAny_bind (wpAny_mono (turn n s hJ) (fun r s1 h1 => ?_) fun _ _ z => z)))
  cases r with
  | none => exact wpAny_pure h1
  | some v =>
    refine wpAny_bind (wpAny_mono h1 (fun _ s1' h1' => wpAny_bind (wpAny_mono h1' (fun _ s2 h2 => wpAny_bind (wpAny_mono h2 (fun ok s3 h3 => ?_) fun _ _ z => z)) fun _ _ z => z)) fun _ _ z => z)
    cases ok with
    | false => exact wpAny_pure ⟨rfl, h3⟩
    | true =>
      exact wpAny_bind (wpAny_bind (wpAny_mono h3 (fun x s4 h4 => wpAny_bind (wpAny_mono h4 (fun _ s5 h5 => wpAny_pure (wpAny_pure ⟨rfl, h5⟩)) fun _ _ z => z)) fun _ _ z => z))
theorem comp_loop {Y : Cx} {elt iter : Expr} {tg : Expr} {ifs : List Expr} {scope : Scope} {pos : Pos} {it D : Addr} {fp : List Addr} {tn : Nat → Heap → Prop} {J : It} {g : TG} {tf : TT} {te : TE} {Q : VK} {R : Result → Shared → Prop}
    (T : Turn Y.prog Y.w Y.K tg J fp it tn) (hc : Y.calm = true) (gY : PG Y tg g) (hF : PF Y ifs tf) (hE : PE Y elt te) (fpY : ∀ {H' : Hp}, (∀ b ∈ fp, H' b = none) → ∀ b ∈ fp, FpOk Y [] H' b) (hx : ∀ e s, ¬ Y.xe e s)
    {W : Nat → Nat → St → Hp → Prop} (turn : ∀ i m σ' H', W i m σ' H' →
      (J.stop i H' ∧ Q (.ref D) H') ∨ (J.go i H' ∧ ∃ N : St → Hp → Prop, (∀ σ2 H2, N σ2 H2 → ∃ m', m' < m ∧ W (i + 1) m' σ2 H2) ∧
        ∀ x H2, J.yld i H' x H2 → g x σ' H2 fun σ1 H3 => tf σ1 H3 fun b H4 => if b = true then te σ1 H4 fun v H5 => rAppend (.ref D) [v] H5 fun _ H6 => N σ1 H6 else N σ1 H4))
    (fin : ∀ σ' H' s', Inv Y [] σ' H' s' → Q (.ref D) H' → R (.ok .next) s') {m0 : Nat} {σ0 : St} {H0 : Hp} {s0 : Shared} (I0 : Inv Y [] σ0 H0 s0) (st0 : tn 0 s0.heap) (fr0 : ∀ b ∈ fp, H0 b = none) (w0 : W 0 m0 σ0 H0) :
    codeAny (model Y.prog Y.w) Y.A (.compLoop (.ListComp elt [⟨tg, iter, ifs, 0⟩] scope pos) 0 (.ref it) (.ref D) Y.env) R s0 := by
  refine compLoop_own (fun n s' => ∃ i σ' H', Inv Y [] σ' H' s' ∧ tn i s'.heap ∧ (∀ b ∈ fp, H' b = none) ∧ W i n σ' H') ?_ m0 ⟨0, _, _, I0, st0, fr0, w0⟩
  rintro n s5 ⟨i, σ5, H5, I5, st5, fr5, w5⟩
  have noE : ∀ {α : Type} {t : Sem α} {Q1 : α → Shared → Prop} {E2 : Value → Shared → Prop} {s1 : Shared}, wpAny (model Y.prog Y.w) Y.A t Q1 Y.xe s1 → wpAny (model Y.prog Y.w) Y.A t Q1 E2 s1 :=
    fun h => wpAny_mono h (fun _ _ q => q) fun e s z => (hx e s z).elim
  rcases turn i n σ5 H5 w5 with ⟨stop, qn⟩ | ⟨go, N, hN, step⟩
  · refine thn (T.done Y rfl rfl rfl hc i [] s5 σ5 H5 _ I5 (fpY fr5) st5 stop) fun r s6 ⟨hr, I6⟩ => ?_
    subst hr
    exact fin σ5 H5 s6 I6 qn
  · refine thn (T.item Y rfl rfl rfl hc i [] s5 σ5 H5 _ I5 (fpY fr5) st5 go) fun r s6 ⟨u, hr, h6⟩ => ?_
    subst hr
    refine thn h6 fun _ s7 zz => ?_
    obtain ⟨x7, H7, I7, r7, y7, st7, fr7⟩ := zz
    have I7' := I7.pinned (fpY fr7) (T.obj _ _ st7)
    have again : ∀ {σ9 : St} {H9 : Hp} {s9 : Shared}, Inv Y ([] ++ pinsAt fp s7.heap) σ9 H9 s9 → N σ9 H9 → ∃ m, m < n ∧ ∃ i σ' H', Inv Y [] σ' H' s9 ∧ tn i s9.heap ∧ (∀ b ∈ fp, H' b = none) ∧ W i m σ' H' := fun {σ9 H9 s9} I9 n9 => by
      obtain ⟨m', hm, w9⟩ := hN σ9 H9 n9
      refine ⟨m', hm, i + 1, σ9, H9, I9.unpinned, T.keep _ _ _ st7 fun b hb o e => (I9.pin (b, o) (List.mem_append_right _ (List.mem_append_right _ (mem_pinsAt hb e)))).1, fun b hb => ?_, w9⟩
      obtain ⟨o, e, d⟩ := T.obj _ _ st7 b hb
      exact (I9.pin (b, o) (List.mem_append_right _ (List.mem_append_right _ (mem_pinsAt hb e)))).2.1
    refine noE (thn (gY _ s7 σ5 H7 x7 u _ I7' r7 (step x7 _ y7)) fun _ s8 zz => ?_)
    obtain ⟨σ8, H8, I8, q8⟩ := zz
    refine noE (thn (hF _ s8 _ _ _ I8 q8) fun b s9 ⟨H9, I9, q9⟩ => ?_)
    cases b with
    | false => exact again I9 q9
    | true =>
      refine noE (thn (hE _ s9 _ _ _ I9 q9) fun y s10 zz => ?_)
      obtain ⟨v10, H10, I10, r10, q10⟩ := zz
      refine noE (thn (mt_append (X := Y) _ s10 _ _ (.ref D) [v10] (.ref D) [y] _ I10 rfl (.cons r10 .nil) q10) fun _ s11 zz => ?_)
      obtain ⟨v11, H11, I11, _, q11⟩ := zz
      exact again I11 q11
theorem pg_nameC {scope : Scope} {Ni : List Str} {caps : List (Option Nat)} {x : Str} {px : Pos} {gi : Nat} {cs : List (Str × Addr)} {s₃ : Shared} {H₃ : Hp} {fp : List Addr} {pins : List (Addr × Obj)}
    (S : CompScope X scope Ni caps) (hx : scope.names.lookup x = some .local ∨ scope.names.lookup x = some .cell) (hgi : Ni[gi]? = some x) : PG (compCx X scope Ni cs s₃ H₃ fp pins) (.Name x px) (gName gi) := by
  rcases hx with hx | hx
  · exact pg_name S.nd hgi (.inl (lookup_relabel_local hx)) (.inr (lookup_relabel_local hx))
  · refine pg_name S.nd hgi ?_ (.inl (decide_eq_true hx))
    have : (relabel scope X.env).names.lookup x = some .cell := lookup_relabel_own hx
    exact .inr this
theorem comp_core {elt iter : Expr} {tg : Expr} {ifs : List Expr} {scope : Scope} {pos pos' : Pos} {wi : TI} {Ni : List Str} {caps : List (Option Nat)} {g : TG} {tf : TT} {te : TE}
    (hc : X.calm = true) (hi : PI X tg iter wi) (S : CompScope X scope Ni caps) (hG : CompScope X scope Ni caps → ∀ cs s₃ H₃ fp pins, PG (compCx X scope Ni cs s₃ H₃ fp pins) tg g)
    (hF : ∀ cs s₃ H₃ fp pins, PF (compCx X scope Ni cs s₃ H₃ fp pins) ifs tf) (hE : ∀ cs s₃ H₃ fp pins, PE (compCx X scope Ni cs s₃ H₃ fp pins) elt te)
    (hs : ∀ x, foldedSetIterable iter X.env x = pure x)
    {pins : List (Addr × Obj)} {s : Shared} {σ : St} {H : Hp} {Q : VK} (I : Inv X pins σ H s) (h : tComp wi caps g tf te σ H Q) {use : Option (Value → Sem Unit)} {R : Value → Shared → Prop}
    (fin : ∀ (D C : Addr) (H' : Hp) (s' : Shared) (m : Str → Option Value), Inv X pins σ H' s' → Q (.ref D) H' → s'.heap.Ns C m → H' C = none → X.s₀.heap.objs.size ≤ C → C ≠ X.env.locals → (∀ y c, X.env.cells.lookup y = some c → c ≠ C) → (∀ p ∈ X.pn ++ pins, p.1 ≠ C) →
      compPost (model X.prog X.w) X.A X.xe use R (.ref D) C (.ok .next) s') :
    wpAny (model X.prog X.w) X.A (comprehension (.ListComp elt [⟨tg, iter, ifs, 0⟩] scope pos) scope X.env pos' (newList []) false (eval iter X.env) use) R X.xe s := by
  obtain ⟨cl, hcl, hsub, hall⟩ := closureFor_all (env := X.env) (scope := scope) fun y hy hf => I.ok.has y.1 (S.free y hy hf)
  refine wpAny_comprehension_free rfl hs hcl S.kind (fun y hy hl => by obtain ⟨n, k⟩ := y; cases hl; exact nodup_lookup S.ndn hy) (thn (hi pins s σ H _ I h) fun v s1 h1 => thn h1 fun itv s2 h2 => ?_)
  obtain ⟨it, fp, tn, J, H2, e, I2, T, st2, f2, hW⟩ := h2
  subst e
  have I3 : Inv X pins σ (upd H2 s2.heap.objs.size (.lst [])) { s2 with heap := s2.heap.push { cls := .type "list", dict := none, data := .seq ([] : List Value).toArray }, toks := s2.toks } :=
    I2.laid (fun b u e => Heap.get?_push_of_some _ e) (Nat.le_refl _) ⟨Nat.zero_le _, [], _, .nil, Heap.get?_push_size _ rfl⟩
  have hD : H2 s2.heap.objs.size = none := I2.hok.fresh (Nat.le_refl _)
  obtain ⟨W, ⟨m0, w0⟩, turn⟩ := hW s2.heap.objs.size hD
  have st3 : tn 0 (s2.heap.push { cls := .type "list", dict := none, data := .seq ([] : List Value).toArray }) := T.keep _ _ _ st2 fun b _ o e => Heap.get?_push_of_some _ e
  have f3 : ∀ b ∈ fp, FpOk X pins (upd H2 s2.heap.objs.size (.lst [])) b := fun b hb => by
    obtain ⟨o, e, _⟩ := T.obj _ _ st2 b hb
    exact ⟨by rw [upd_ne (Nat.ne_of_lt (Heap.lt_size e))]; exact (f2 b hb).1, (f2 b hb).2⟩
  refine wpAny_newObj_type ?_
  generalize hs3 : ({ s2 with heap := s2.heap.push { cls := .type "list", dict := none, data := .seq ([] : List Value).toArray }, toks := s2.toks } : Shared) = s3 at I3
  have eh : s2.heap.push { cls := .type "list", dict := none, data := .seq ([] : List Value).toArray } = s3.heap := by rw [← hs3]
  rw [eh] at st3
  have hf3 : ∀ b ∈ fp, b < s3.heap.objs.size := fun b hb => by
    obtain ⟨o, e, _⟩ := T.obj _ _ st3 b hb
    exact Heap.lt_size e
  refine wpAny_compEnv fun own s4 eo e4 k4 ns4 oc4 ap4 => ?_
  have T4 : CompAt X scope own cl s3 := ⟨eo, ap4, fun n c hm => (oc4 n c hm).2, hsub, hall⟩
  have I4 := comp_start (Ni := Ni) (caps := caps) S T4 I3 f3 hf3 e4 k4 ns4 fun n c hm => (oc4 n c hm).1
  have st4 : tn 0 s4.heap := T.keep _ _ _ st3 fun b _ o e => k4 b o e
  have fpY : ∀ {H' : Hp}, (∀ b ∈ fp, H' b = none) → ∀ b ∈ fp, FpOk (compCx X scope Ni (own ++ cl) s3 (upd H2 s2.heap.objs.size (.lst [])) fp pins) [] H' b := fun hn b hb =>
    ⟨hn b hb, Nat.ne_of_lt (hf3 b hb), I4.ok.exfs b hb, .inl hb, (I4.ok.exf b hb).2, fun p hp => by
      have hp' : p ∈ X.pn ++ pins := by
        have : p ∈ (X.pn ++ pins) ++ [] := hp
        simpa using this
      exact (f3 b hb).2.2.2.2.2 p hp'⟩
  have loop := comp_loop (Q := Q) (elt := elt) (iter := iter) (scope := scope) (pos := pos) (R := compPost (model X.prog X.w) X.A X.xe use R (.ref s2.heap.objs.size) s3.heap.objs.size) (Y := compCx X scope Ni (own ++ cl) s3 (upd H2 s2.heap.objs.size (.lst [])) fp pins)
    T hc (hG S _ _ _ _ _) (hF _ _ _ _ _) (hE _ _ _ _ _) fpY (fun _ _ z => z) turn (fun σ' H' s' I6 qn => by
      have I6' := comp_end I3 f3 I6
      obtain ⟨m6, ns6, _⟩ := I6.loc
      exact fin _ _ H' s' m6 I6' qn ns6 I6.free I3.sz (Nat.ne_of_gt I3.lt) (fun y c hc' => Nat.ne_of_lt (cells_lt I3 hc')) fun p hp => Nat.ne_of_lt (Heap.lt_size (I3.pin p hp).1)) I4 st4 (fun b hb => (f3 b hb).1) w0
  exact codeAny_compStart_list loop (T.self _ _ _ _ _ st4 loop)
theorem ps_setC {i : Nat} {y : Str} {py : Pos} {elt iter : Expr} {tg : Expr} {ifs : List Expr} {scope : Scope} {pos spos : Pos} {wi : TI} {Ni : List Str} {caps : List (Option Nat)} {g : TG} {tf : TT} {te : TE}
    (hN : X.N.Nodup) (hyi : X.N[i]? = some y) (hy : X.env.scope.names.lookup y = some .local) (hc : X.calm = true) (hi : PI X tg iter wi) (S : CompScope X scope Ni caps) (hG : CompScope X scope Ni caps → ∀ cs s₃ H₃ fp pins, PG (compCx X scope Ni cs s₃ H₃ fp pins) tg g)
    (hF : ∀ cs s₃ H₃ fp pins, PF (compCx X scope Ni cs s₃ H₃ fp pins) ifs tf) (hE : ∀ cs s₃ H₃ fp pins, PE (compCx X scope Ni cs s₃ H₃ fp pins) elt te)
    (hsw : autoParam (swapsWith (.ListComp elt [⟨tg, iter, ifs, 0⟩] scope pos) (some (.Name y py)) spos.line X.env = pure true) Internal.aut2._auto_1)
    (hs : autoParam (∀ x, foldedSetIterable iter X.env x = pure x) Internal.aut3._auto_1) : PS X (.Assign [.Name y py] (.ListComp elt [⟨tg, iter, ifs, 0⟩] scope pos) spos) (tAsg (tComp wi caps g tf te) (gName i)) := by
  intro pins s σ H D I h
  rw [exec_Assign_Name_used _ _ _ _ hsw]
  refine wpAny_bind (wpAny_standAt (wpAny_bind ?_))
  show wpAny _ X.A (do let _ ← comprehension (.ListComp elt [⟨tg, iter, ifs, 0⟩] scope pos) scope X.env _ (newList []) false (eval iter X.env) (some (assign (.Name y py) X.env))) _ _ s
  refine wpAny_bind (wpAny_mono (comp_core (R := fun _ s' => SP X pins D .next s') hc hi S hG hF hE hs I h fun L C H' s' m I' q ns hn hC h1 h2 h3 => ?_) (fun _ s' hq => wpAny_pure (wpAny_pure hq)) fun _ _ e => e)
  show wpAny _ X.A (assign (.Name y py) X.env (.ref L)) _ _ _
  refine wpAny_assign_Name (store_ok2 (v := .ref L) I' hN hyi (.inl hy) rfl (fun s2 I2 sb2 => ?_) (.inr hy))
  obtain ⟨a, sb, ha⟩ := sb2
  have hCa : C ≠ a := by
    rcases ha with z | z
    · rw [z]; exact h1
    · exact fun w' => h2 y a z w'.symm
  refine ⟨m, ns.sameBut sb hCa, fun h' sb' => ?_⟩
  exact ⟨_, H', I2.turned (t' := s2.toks) (it := C) (fun b o hb e => (sb'.2 b hb).trans e) hn h1 (.inr hC) h2 h3, q⟩
end
end Internal

namespace My
end My

set_option Elab.async false
set_option linter.all false
set_option maxRecDepth 100000
namespace Internal
open PySem PySem.Spec PyProof.Rows
section
variable {K : PySem.W.Frag} {H : Hp} {Q : VK}
theorem x_isII {i : Int} (q : Q (.bl true) H) : rIsi K [.int i, .ty "int"] H Q := x_isi (t' := .type "int") (cv := .type "int") (b := true) rfl (.int i) (by with_unfolding_all rfl) q
theorem x_isIB {i : Int} (q : Q (.bl false) H) : rIsi K [.int i, .ty "bool"] H Q := x_isi (t' := .type "int") (cv := .type "bool") (b := false) rfl (.int i) (by with_unfolding_all rfl) q
theorem x_isTT {a : Addr} {xs : List V} (h : H a = some (.tup xs)) (q : Q (.bl true) H) : rIsi K [.ref a, .ty "tuple"] H Q := x_isi (t' := .type "tuple") (cv := .type "tuple") (b := true) rfl (.tup h) (by with_unfolding_all rfl) q
theorem x_isLL {a : Addr} {xs : List V} (h : H a = some (.lst xs)) (q : Q (.bl true) H) : rIsi K [.ref a, .ty "list"] H Q := x_isi (t' := .type "list") (cv := .type "list") (b := true) rfl (.lst h) (by with_unfolding_all rfl) q
end
noncomputable def cell (ns : List Int) (k : Int) : Int := ns.getD k.toNat 0
noncomputable def IsQ (H : Hp) (a : Addr) (q : Rat) : Prop := H a = some (.tup [.int q.num, .int (q.den : Int)])
noncomputable def NewQ (H : Hp) (Q : VK) (q : Rat) : Prop := ∀ p H', Same H H' → IsQ H' p q → Q (.ref p) H'
end Internal

set_option Elab.async false
set_option linter.all false
set_option maxRecDepth 100000
namespace Internal
open PySem PySem.Spec PyProof.Rows
section
variable {σ : St} {H : Hp} {Q : VK} {D : Ends} {ta tb tc te to : TE} {t u : TS} {K : PySem.W.Frag}
noncomputable def ForK (J : It) (g : TG) (tb : TS) : TS := fun D σ H => ∃ W : Nat → Nat → St → Hp → Prop, (∃ m, W 0 m σ H) ∧ ∀ i m σ H, W i m σ H →
  (J.stop i H ∧ D.nx σ H) ∨ (J.go i H ∧ ∃ N : St → Hp → Prop, (∀ σ' H', N σ' H' → ∃ m', m' < m ∧ W (i + 1) m' σ' H') ∧ ∀ x H', J.yld i H x H' → g x σ H' fun σ2 H2 => tb { D with nx := N, ct := N, bk := D.nx } σ2 H2)
theorem x_for {wi : TI} {g : TG} {tb : TS} (q : wi σ H fun J H1 => ForK J g tb D σ H1) : tFor wi g tb D σ H := q
noncomputable def rRng1 (R : It → Hp → Prop) (vs : List V) (H : Hp) : Prop := ∃ j : Int, vs = [.int j] ∧ -(2 ^ 62) ≤ j ∧ j < 2 ^ 62 ∧ R (Itr 0 j.toNat) H
noncomputable def rItL (K : PySem.W.Frag) (R : It → Hp → Prop) (x : V) (H : Hp) : Prop := ∃ a, x = .ref a ∧ (∃ xs, SqL K H a xs) ∧ R (Itl K a) H
theorem x_rng1 {tr : TA} {R : It → Hp → Prop} (q : tr σ H (rRng1 R)) : iRng1 tr σ H R := q
theorem x_itL {R : It → Hp → Prop} (q : te σ H (rItL K R)) : iList K te σ H R := q
theorem x_rngk1 {R : It → Hp → Prop} {j : Int} (h1 : -4611686018427387904 ≤ j) (h2 : j < 4611686018427387904) (q : R (Itr 0 j.toNat) H) : rRng1 R [.int j] H := ⟨j, rfl, h1, h2, q⟩
theorem x_itk {R : It → Hp → Prop} {a : Addr} {xs : List V} (h : SqL K H a xs) (q : R (Itl K a) H) : rItL K R (.ref a) H := ⟨a, rfl, ⟨xs, h⟩, q⟩
theorem x_forR {lo : Int} {n : Nat} {g : TG} {tb : TS} (Pv : Nat → St → Hp → Prop) (h0 : Pv 0 σ H)
    (hs : ∀ i σ H, i < n → Pv i σ H → g (.int (lo + i)) σ H fun σ2 H2 => tb { D with nx := Pv (i + 1), ct := Pv (i + 1), bk := D.nx } σ2 H2) (hd : ∀ σ H, Pv n σ H → D.nx σ H) : ForK (Itr lo n) g tb D σ H := for_range Pv h0 hs hd
theorem x_forL {a : Addr} {xs : List V} {g : TG} {tb : TS} (Pv : Nat → St → Hp → Prop) (h0 : Pv 0 σ H) (hl : ∀ i σ H, i ≤ xs.length → Pv i σ H → SqL K H a xs)
    (hs : ∀ i x σ H, xs[i]? = some x → Pv i σ H → g x σ H fun σ2 H2 => tb { D with nx := Pv (i + 1), ct := Pv (i + 1), bk := D.nx } σ2 H2) (hd : ∀ σ H, Pv xs.length σ H → D.nx σ H) : ForK (Itl K a) g tb D σ H := for_list Pv h0 hl hs hd
theorem x_bm {T : String} {r : V → List V → Hp → VK → Prop} {tr : TA} (q : to σ H fun x H1 => tyV K T x H1 ∧ tr σ H1 fun xs H2 => r x xs H2 Q) : tBM K T r to tr σ H Q := q
theorem x_tyL {l : Addr} {xs : List V} {A : Prop} (h : H l = some (.lst xs)) (q : A) : tyV K "list" (.ref l) H ∧ A := ⟨.inl ⟨rfl, xs, SqL.of h⟩, q⟩
theorem x_append {l : Addr} {xs : List V} {y : V} (h : H l = some (.lst xs)) (hl : xs.length < sizeLine) (q : Q .non (upd H l (.lst (xs ++ [y])))) : rAppend (.ref l) [y] H Q := ⟨l, xs, y, rfl, rfl, h, hl, q⟩
theorem x_setL {l : Addr} {xs : List V} {k : Int} {j : Nat} {v : V} {R : Hp → Prop} (h : H l = some (.lst xs)) (e : ixN xs.length k = some j) (q : R (upd H l (.lst (xs.set j v)))) : rSetL (.ref l) (.int k) v H R := ⟨l, xs, k, j, rfl, rfl, h, e, q⟩
theorem x_ixLs {a : Addr} {xs : List V} {i : Int} {v : V} (h : H a = some (.lst xs)) (e : atI xs i = some v) (q : Q v H) : rIx K (.ref a) (.int i) H Q := x_ixL (.of h) e q
noncomputable def rPart (R : Option Int → Hp → Prop) (x : V) (H : Hp) : Prop := ∃ i, x = .int i ∧ R (some i) H
theorem x_part {R : Option Int → Hp → Prop} (q : te σ H (rPart R)) : tPart te σ H R := q
theorem x_partI {R : Option Int → Hp → Prop} {i : Int} (q : R (some i) H) : rPart R (.int i) H := ⟨i, rfl, q⟩
theorem x_cut {a : Addr} {xs : List V} {lo hi : Option Int} (h : SqL K H a xs) (q : ∀ p, H p = none → Q (.ref p) (upd H p (.lst (cutV xs lo hi)))) : rSlL K (.ref a) lo hi H Q := ⟨a, xs, rfl, h, q⟩
end
theorem Same.fresh {H H' : Hp} {l : Addr} (g : Same H H') (h : H' l = none) : H l = none := by
  cases e : H l with
  | none => rfl
  | some o => rw [g l o e] at h; cases h
theorem small_of {n : Nat} (h : n ≤ 100000) : n < sizeLine := Nat.lt_of_le_of_lt h (by decide)
theorem small_le {n : Nat} (h : n ≤ 100000) : n ≤ sizeLine := Nat.le_of_lt (small_of h)
noncomputable def But (l : Addr) (H H' : Hp) : Prop := ∀ b, b ≠ l → H' b = H b
theorem But.upd {H : Hp} {l : Addr} {o : HO} : But l H (Internal.upd H l o) := fun _ h => upd_ne h
theorem But.at {l : Addr} {H H' : Hp} (g : But l H H') {a : Addr} {o : HO} (h : H a = some o) (n : a ≠ l) : H' a = some o := by rw [g a n]; exact h
theorem But.same {l : Addr} {H0 H H' : Hp} (g : But l H H') (e : Same H0 H) (h : H0 l = none) : Same H0 H' := fun b o q => by rw [g b (ne_of_none q h)]; exact e b o q
noncomputable def LBut (l : Addr) (H H' : Hp) : Prop := But l H H' ∧ ∃ xs, H l = some (.lst xs)
theorem LBut.tup {l : Addr} {H H' : Hp} (g : LBut l H H') {a : Addr} {xs : List V} (h : H a = some (.tup xs)) : H' a = some (.tup xs) := by
  obtain ⟨ys, e⟩ := g.2
  exact g.1.at h (ne_of h e (by intro z; cases z))
theorem LBut.lst {l : Addr} {H H' : Hp} (g : LBut l H H') {a : Addr} {o : HO} (h : H a = some o) (n : a ≠ l) : H' a = some o := g.1.at h n
theorem LBut.same {l : Addr} {H0 H H' : Hp} (g : LBut l H H') (e : Same H0 H) (h : H0 l = none) : Same H0 H' := g.1.same e h
theorem Same.at {H H' : Hp} (e : Same H H') {a : Addr} {o : HO} (h : H a = some o) : H' a = some o := e a o h
theorem SqL.keep {K : PySem.W.Frag} {H H' : Hp} {a : Addr} {xs : List V} (h : SqL K H a xs) (e : Same H H') : SqL K H' a xs := e.seq h
theorem Same.after {H H1 H2 : Hp} (b : Same H1 H2) (a : Same H H1) : Same H H2 := a.trans b
theorem Same.none {H H' : Hp} {l : Addr} (h : H' l = none) (g : Same H H') : H l = none := g.fresh h
theorem ne_new {H : Hp} {a b : Addr} {o : HO} (h' : H b = none) (h : H a = some o) : a ≠ b := ne_of_none h h'
theorem ne_new' {H : Hp} {a b : Addr} {o : HO} (h' : H b = none) (h : H a = some o) : b ≠ a := (ne_of_none h h').symm
section
variable {σ : St} {H : Hp} {Q : VK} {D : Ends} {t u : TS} {K : PySem.W.Frag}
theorem x_tupN {xs : List V} (hl : xs.length ≤ 100000) (q : ∀ p H', H p = none → Same H H' → H' p = some (.tup xs) → Q (.ref p) H') : rTup Q xs H := ⟨small_le hl, fun p hp => q p _ hp (Same.new hp _) upd_same⟩
theorem x_lstN {xs : List V} (hl : xs.length ≤ 100000) (q : ∀ p H', H p = none → Same H H' → H' p = some (.lst xs) → Q (.ref p) H') : rLst Q xs H := ⟨small_le hl, fun p hp => q p _ hp (Same.new hp _) upd_same⟩
theorem x_appN {l : Addr} {xs : List V} {y : V} (h : H l = some (.lst xs)) (hl : xs.length ≤ 100000) (q : ∀ H', LBut l H H' → H' l = some (.lst (xs ++ [y])) → Q .non H') : rAppend (.ref l) [y] H Q :=
  x_append h (small_of hl) (q _ ⟨But.upd, xs, h⟩ upd_same)
theorem x_setN {l : Addr} {xs : List V} {k : Int} {j : Nat} {v : V} {R : Hp → Prop} (h : H l = some (.lst xs)) (e : ixN xs.length k = some j) (q : ∀ H', LBut l H H' → H' l = some (.lst (xs.set j v)) → R H') : rSetL (.ref l) (.int k) v H R :=
  x_setL h e (q _ ⟨But.upd, xs, h⟩ upd_same)
theorem x_cutN {a : Addr} {xs : List V} {lo hi : Option Int} (h : SqL K H a xs) (q : ∀ p H', H p = none → Same H H' → H' p = some (.lst (cutV xs lo hi)) → Q (.ref p) H') : rSlL K (.ref a) lo hi H Q := x_cut h fun p hp => q p _ hp (Same.new hp _) upd_same
theorem x_midS (i : Nat) (P : V → Hp → Prop) (q : t { D with nx := fun σ' H' => ∃ v, σ' = σ.set i (some v) ∧ P v H' } σ H) (r : ∀ v H', P v H' → u D (σ.set i (some v)) H') : tMid t u D σ H :=
  ⟨_, q, fun σ' H' ⟨v, e, p⟩ => by subst e; exact r v H' p⟩
end
theorem ixN_lt {n : Nat} {k : Int} (h0 : 0 ≤ k) (h : k < n) : ixN n k = some k.toNat := by unfold ixN; rw [if_pos h0, if_pos h]
theorem atI_lt {α : Type} {xs : List α} {k : Int} {v : α} (h0 : 0 ≤ k) (h : xs[k.toNat]? = some v) : atI xs k = some v := by
  have e : k = (k.toNat : Int) := by omega
  rw [e]; exact atI_nat h
end Internal

set_option Elab.async false
set_option linter.all false
set_option maxRecDepth 100000
namespace Internal
open PySem PySem.Spec PyProof.Rows

theorem ObjOk.obj {P : Program} {w : World} {H : Hp} {h : Heap} {a : Addr} {o : HO} (x : ObjOk P w H h a o) : ∃ u, h.get? a = some u := by
  cases o with
  | lst xs => exact ⟨_, x.2.choose_spec.choose_spec.2⟩
  | tup xs => obtain ⟨_, _, _, ob, e, _⟩ := x; exact ⟨ob, e⟩
  | dK kvs => obtain ⟨_, _, _, _, ob, _, _, e, _⟩ := x; exact ⟨ob, e⟩
  | dT kvs => obtain ⟨_, _, _, _, ob, _, _, e, _⟩ := x; exact ⟨ob, e⟩
  | set S n => obtain ⟨ob, _, _, _, e, _⟩ := x; exact ⟨ob, e⟩
  | ins C dx fs => exact ⟨_, x.2.2.2.1⟩
  | own y => exact x
  | xd fs => obtain ⟨_, ⟨ob, _, _, e, _⟩, _⟩ := x; exact ⟨ob, e⟩
  | rng lo hi => obtain ⟨_, _, _, e⟩ := x; exact ⟨_, e⟩
  | frz ob u => exact ⟨ob, x.1⟩
  | tbl ps => exact ⟨_, show h.get? a = some _ from x⟩
  | met f y => exact ⟨_, show h.get? a = some _ from x⟩
  | ext φ => exact x.2.1

noncomputable def DK {α : Type} : Sem α → Prop
  | .pure _ => True
  | .raise _ => True
  | .unsupported _ => True
  | .finish _ => True
  | .rule _ k => DK (k ())
  | .at _ k => DK (k ())
  | .load _ _ k => ∀ o, DK (k o)
  | .update _ _ f k => (∀ o, (f o).dict = o.dict) ∧ DK (k ())
  | .alloc _ k => ∀ a, DK (k a)
  | .loadIfAlive _ k => ∀ o, DK (k o)
  | .point _ k => DK (k ())
  | .fresh k => ∀ t, DK (k t)
  | .ask k => ∀ t, DK (k t)
  | .handled _ k => ∀ t, DK (k t)
  | .stack k => ∀ t, DK (k t)
  | .thread k => ∀ t, DK (k t)
  | _ => False
theorem DK.bind {α β : Type} {m : Sem α} {f : α → Sem β} (hm : DK m) (hf : ∀ a, DK (f a)) : DK (m >>= f) := by
  show DK (Sem.bind m f)
  induction m with
  | pure a => exact hf a
  | raise e => trivial
  | unsupported w => trivial
  | finish e => trivial
  | rule t k ih => exact ih () hm
  | «at» p k ih => exact ih () hm
  | load a p k ih => exact fun o => ih o (hm o)
  | update a p g k ih => exact ⟨hm.1, ih () hm.2⟩
  | alloc o k ih => exact fun a => ih a (hm a)
  | loadIfAlive a k ih => exact fun a => ih a (hm a)
  | point l k ih => exact ih () hm
  | fresh k ih => exact fun a => ih a (hm a)
  | ask k ih => exact fun a => ih a (hm a)
  | handled o k ih => exact fun a => ih a (hm a)
  | stack k ih => exact fun a => ih a (hm a)
  | thread k ih => exact fun a => ih a (hm a)
  | _ => exact hm.elim
noncomputable def Bare (er : Addr) (s : Shared) : Prop := ∃ o, s.heap.objs[er]? = some o ∧ o.dict = none
theorem DK.wp {α : Type} {M : Model} {Γ : PySem.Ctx} {er : Addr} {t : Sem α} (h : DK t) : ∀ {Q : α → Pos → Shared → Prop} {E : Value → Pos → Shared → Prop} {p : Pos} {s : Shared}, Bare er s → Sem.wp M Γ t Q E p s →
    Sem.wp M Γ t (fun a p s' => Q a p s' ∧ Bare er s') (fun e p s' => E e p s' ∧ Bare er s') p s := by
  induction t with
  | pure a => intro Q E p s b w; rw [Sem.wp] at *; exact ⟨w, b⟩
  | raise e => intro Q E p s b w; rw [Sem.wp] at *; exact ⟨w, b⟩
  | unsupported _ => intro Q E p s b w; rw [Sem.wp] at *; exact w
  | finish _ => intro Q E p s b w; rw [Sem.wp] at *; exact w
  | rule t k ih => intro Q E p s b w; rw [Sem.wp] at *; exact ih () h b w
  | «at» q k ih => intro Q E p s b w; rw [Sem.wp] at *; exact ih () h b w
  | load a q k ih =>
    intro Q E p s b w; rw [Sem.wp] at *
    obtain ⟨o, e, w⟩ := w
    exact ⟨o, e, ih o (h o) b w⟩
  | update a q g k ih =>
    intro Q E p s b w; rw [Sem.wp] at *
    refine ⟨w.1, ih () h.2 ?_ w.2⟩
    obtain ⟨o, e, d⟩ := b
    by_cases c : a = er
    · subst c
      exact ⟨g o, by simp [Heap.update, Array.getElem?_modify, e], by rw [h.1]; exact d⟩
    · exact ⟨o, by simp [Heap.update, Array.getElem?_modify, c, e], d⟩
  | alloc o k ih =>
    intro Q E p s b w; rw [Sem.wp] at *
    refine ih _ (h _) ?_ w
    obtain ⟨o', e, d⟩ := b
    refine ⟨o', ?_, d⟩
    have hl : er < s.heap.objs.size := (Array.getElem?_eq_some_iff.mp e).1
    show (s.heap.objs.push o)[er]? = some o'
    rw [Array.getElem?_push]
    rw [if_neg (Nat.ne_of_lt hl)]; exact e
  | loadIfAlive a k ih => intro Q E p s b w; rw [Sem.wp] at *; exact ih _ (h _) b w
  | point l k ih => intro Q E p s b w; rw [Sem.wp] at *; exact ih () h b w
  | fresh k ih => intro Q E p s b w; rw [Sem.wp] at *; exact ih _ (h _) b w
  | ask k ih => intro Q E p s b w; rw [Sem.wp] at *; exact ih _ (h _) b w
  | handled o k ih => intro Q E p s b w; rw [Sem.wp] at *; exact ih _ (h _) b w
  | stack k ih => intro Q E p s b w; rw [Sem.wp] at *; exact ih _ (h _) b w
  | thread k ih => intro Q E p s b w; rw [Sem.wp] at *; exact ih _ (h _) b w
  | _ => exact h.elim
theorem DK.any {α : Type} {M : Model} {A : Around} {er : Addr} {t : Sem α} {Q : α → Shared → Prop} {E : Value → Shared → Prop} {s : Shared} (h : DK t) (b : Bare er s) (w : wpAny M A t Q E s) : wpAny M A t (fun a s' => Q a s' ∧ Bare er s') (fun e s' => E e s' ∧ Bare er s') s :=
  fun Γ p hΓ => h.wp b (w Γ p hΓ)
theorem Bare.get {er : Addr} {s : Shared} {o : Obj} (b : Bare er s) (e : s.heap.get? er = some o) : o.dict = none := by
  obtain ⟨o', e', d⟩ := b
  obtain ⟨e1, _⟩ := Heap.get?_some_iff.mp e
  rw [e'] at e1; cases e1; exact d
theorem mapFields_dict (f : Array Value → Array Value) (o : Obj) : (o.mapFields f).dict = o.dict := by
  obtain ⟨c, d, dt, sl⟩ := o; cases dt <;> rfl
theorem dk_load {a : Addr} : DK (load a) := fun _ => trivial
theorem dk_field (v : Value) (i : Nat) : DK (field v i) := by
  unfold field fieldsOf
  refine DK.bind ?_ fun x => ?_
  · cases v <;> try trivial
    refine DK.bind dk_load fun o => ?_
    split <;> trivial
  · split <;> trivial
theorem dk_setField (v : Value) (i : Nat) (x : Value) : DK (setField v i x) := by
  unfold setField updateField
  cases v <;> try trivial
  refine DK.bind dk_load fun o => ?_
  split
  · split
    · exact ⟨fun o => mapFields_dict _ o, trivial⟩
    · trivial
  · trivial
theorem dk_setFlight (e : Value) (f : Option Addr) : DK (setFlight e f) := by
  unfold setFlight
  refine DK.bind (dk_field _ _) fun tb => ?_
  split
  · exact dk_setField _ _ _
  · trivial
theorem dk_kept (env : Env) (i : Bool) (l : List Env) : DK (keptBack env i l) := by
  unfold keptBack
  cases l with
  | nil =>
    simp only
    split
    · trivial
    · refine DK.bind ?_ fun _ => trivial
      unfold underTheClaimsCaller
      exact fun _ => trivial
  | cons c r => trivial
theorem dk_behind (env : Env) (l : List Env) : DK (behindIsImport env l) := by
  unfold behindIsImport
  split
  · trivial
  · split
    · trivial
    · exact DK.bind (dk_field _ _) fun _ => trivial
theorem dk_ready : ∀ l : List Env, DK (readyFrames l)
  | [] => trivial
  | env :: outer => by
    unfold readyFrames
    split
    · refine DK.bind dk_load fun o => ?_
      split
      · trivial
      · refine DK.bind (dk_behind _ _) fun _ => DK.bind (dk_kept _ _ _) fun _ => DK.bind ⟨fun _ => rfl, trivial⟩ fun _ => dk_ready outer
    · trivial
theorem dk_frameObject (l : List Env) : DK (frameObject l) := by
  cases l with
  | nil => trivial
  | cons env outer => exact DK.bind (dk_ready _) fun _ => trivial
theorem dk_frameOf (env : Env) : DK (PySem.frameOf env) := by
  unfold PySem.frameOf frameEnvs
  refine DK.bind (DK.bind (fun _ => trivial) fun _ => trivial) fun _ => DK.bind (dk_frameObject _) fun o => ?_
  split <;> trivial
theorem dk_place (f : Addr) (b : Bool) : DK (entryPlaceOf f b) := by
  unfold entryPlaceOf
  refine DK.bind (fun _ => trivial) fun acts => ?_
  split <;> trivial
theorem dk_asIs (T : String) (d : Data) : DK (newObjAsIs (.type T) d) := by
  unfold newObjAsIs
  exact fun _ => trivial
theorem dk_rec (T : String) (vs : Array Value) : DK (newObj (.type T) (.fields vs)) := by
  unfold newObj
  simp only
  split
  · exact DK.bind (m := unsupported "record:memory") trivial fun _ => dk_asIs _ _
  · exact dk_asIs _ _
theorem dk_entry (a b c d e : Value) (pl : List Value) : DK (EntryCells.newEntry a b c d e pl) := dk_rec _ _
theorem dk_note (e : Value) (env : Env) : DK (noteFrame e env) := by
  unfold noteFrame
  have fin : ∀ (head : Value) (f : Addr), DK (do setField e 1 (← EntryCells.newEntry head (← frameOf env) .none (rawInt f) .none (← entryPlaceOf f (head != .none)))) := fun head f =>
    DK.bind (dk_frameOf _) fun _ => DK.bind (dk_place _ _) fun _ => DK.bind (dk_entry _ _ _ _ _ _) fun _ => dk_setField _ _ _
  split
  · refine DK.bind (dk_field _ _) fun head => ?_
    split
    · refine DK.bind (dk_field _ _) fun x => ?_
      split
      · trivial
      · exact DK.bind (dk_setField _ _ _) fun _ => fin _ _
    · exact fin _ _
  · trivial
theorem dk_leaving (env : Env) (e : Value) : DK (leaving env e) := DK.bind (dk_note _ _) fun _ => dk_setFlight _ _
set_option genInjectivity false in
set_option genSizeOf false in
structure Fly (P : Program) (w : World) (outer : List Env) (H : Hp) (s : Shared) (H' : Hp) (er C t : Addr) (B : Heap) (s' : Shared) : Prop where
  os : s'.os = s.os
  bare : AllBare s'.gens
  un : Un (frs outer) [] H H' s.heap s'.heap
  hok : HOk P w H' s'.heap
  fly : Heap.FlyingW B outer er (.ref C) (.ref t) s'.heap
  old : ∀ b o, s.heap.get? b = some o → H b = none → b ∉ frs outer → B.get? b = some o
  has : ∀ b o, s.heap.get? b = some o → b ∉ frs outer → ∃ u, B.get? b = some u
  trk : ∀ b o u, H' b = some o → s'.heap.get? b = some u → B.get? b = some u
  nod : Bare er s'
noncomputable def CXF (P : Program) (w : World) : CXT := fun outer H s E e s' => ∃ er C t B H', e = .ref er ∧ Fly P w outer H s H' er C t B s' ∧ E (.ref C) none H'
theorem nox_F {P : Program} {w : World} : NoX (CXF P w) := fun _ _ _ _ _ ⟨_, _, _, _, _, _, _, h⟩ => h

section
variable {P : Program} {w : World} {outer : List Env} {H H' : Hp} {s s' : Shared} {er C t : Addr} {B h : Heap}
theorem Fly.noTrk (F : Fly P w outer H s H' er C t B s') : H' er = none := by
  cases e : H' er with
  | none => rfl
  | some o =>
    obtain ⟨ob, q, _⟩ := F.fly.there
    have z := F.trk er o ob e q
    rw [F.fly.2.1] at z; cases z
theorem Fly.unAt (F : Fly P w outer H s H' er C t B s') (fr : s.heap.FunFrames base outer) (st : B.StaysIn h) (up : s'.heap.UpToSlots h) : Un (frs outer) [] H H' s.heap h where
  keep := fun b o q n hb _ => st b o (F.old b o q n hb)
  slot := fun b o q n hb _ => by
    obtain ⟨sl, e1⟩ := F.un.slot b o q n hb (by simp)
    obtain ⟨_, o', e', nf⟩ := fr.mem hb
    rw [q] at e'; cases e'
    obtain ⟨sl', e2⟩ := up b _ e1 nf
    exact ⟨sl', e2⟩
  free := F.un.free
  there := fun b o q _ => by
    by_cases hb : b ∈ frs outer
    · obtain ⟨_, o', e', nf⟩ := fr.mem hb
      rw [q] at e'; cases e'
      cases hn : H b with
      | none =>
        obtain ⟨sl, e1⟩ := F.un.slot b o q hn hb (by simp)
        obtain ⟨sl', e2⟩ := up b _ e1 nf
        exact ⟨_, e2⟩
      | some x =>
        obtain ⟨_, o1, e1, nf1⟩ := F.fly.2.2.1.mem hb
        obtain ⟨sl', e2⟩ := up b _ e1 nf1
        exact ⟨_, e2⟩
    · obtain ⟨u, e⟩ := F.has b o q hb
      exact ⟨u, st b u e⟩
  tups := F.un.tups
  frzs := F.un.frzs
  tbls := F.un.tbls
theorem Fly.hokAt (F : Fly P w outer H s H' er C t B s') (st : B.StaysIn h) : HOk P w H' h := fun a o e =>
  (F.hok a o e).stay (fun b u hb q => st b u (by
    rcases hb with rfl | hb
    · exact F.trk b o u e q
    · exact F.trk b _ u hb q)) (fun _ q => q) fun _ _ q => q
noncomputable def IsExc (er C : Addr) (h : Heap) : Prop := ∃ oe : Obj, PySem.W.InstAt h er oe C none
noncomputable def ExcAt (er C : Addr) : HO := .ext (IsExc er C)
theorem isExc_of {l : List Env} {a0 : Value} {B h : Heap} {s : Shared} {er C : Addr} (f : Heap.FlyingW B l er (.ref C) a0 h) (b : Bare er { s with heap := h }) : IsExc er C h := by
  obtain ⟨oe, vs, e, c, d, _⟩ := f.first
  have nd : oe.dict = none := b.get e
  exact ⟨oe, e, c, by unfold PySem.W.notCls; rw [d], by rw [nd]; trivial⟩
theorem Fly.unEr (F : Fly P w outer H s H' er C t B s') (u : Un (frs outer) [] H H' s.heap h) : Un (frs outer) [] H (upd H' er (ExcAt er C)) s.heap h := by
  have ne : ∀ b o, s.heap.get? b = some o → b ≠ er := fun b o q z => by
    subst z
    by_cases hb : b ∈ frs outer
    · obtain ⟨_, o1, e1, nf1⟩ := F.fly.2.2.1.mem hb
      obtain ⟨oe, vs, e2, _, d, _⟩ := F.fly.first
      rw [e1] at e2; cases e2
      exact nf1 vs d
    · obtain ⟨u, e⟩ := F.has b o q hb
      rw [F.fly.2.1] at e; cases e
  have nt := F.noTrk
  exact ⟨u.keep, u.slot, fun b o q n hx => by rw [upd_ne (ne b o q)]; exact u.free b o q n hx, u.there, fun b xs q => by
      rw [upd_ne (ne_of_none (u.tups b xs q) nt)]; exact u.tups b xs q, fun b o v q => by
      rw [upd_ne (ne_of_none (u.frzs b o v q) nt)]; exact u.frzs b o v q, fun b ps q => by
      obtain ⟨m, e⟩ := u.tbls b ps q
      exact ⟨m, by rw [upd_ne (ne_of_none e nt)]; exact e⟩⟩
theorem hok_er (hk : HOk P w H' h) (nt : H' er = none) (he : IsExc er C h) : HOk P w (upd H' er (ExcAt er C)) h := fun a o e => by
  by_cases ha : a = er
  · subst ha
    rw [upd_same] at e; cases e
    obtain ⟨oe, i⟩ := he
    refine ⟨⟨oe, i⟩, ⟨oe, i.at_⟩, fun h1 h2 ⟨o1, i1⟩ k => ⟨o1, k o1 i1.at_, i1.cls, i1.no, ?_⟩⟩
    have z := i1.dict
    cases hd : o1.dict with
    | none => trivial
    | some dx => rw [hd] at z; exact z.elim
  · rw [upd_ne ha] at e
    exact (hk a o e).stay (fun _ _ _ q => q) (fun b q => by rw [upd_ne (ne_of_none q nt)]; exact q) fun b xs q => by rw [upd_ne (ne_of_none q nt)]; exact q
end

noncomputable def bmV : List Value := [.type "ValueError", .type "Exception", .type "BaseException", .type "object"]
noncomputable def OwnErr (K : PySem.W.Frag) (C : Addr) : Prop := PySem.W.excIn K C bmV "ValueError.__new__" = true
theorem OwnErr.obj {K : PySem.W.Frag} {h : Heap} {C : Addr} (q : OwnErr K C) (X : K.In h) : ∃ bm N nm qn bs hd sn sub ab col dd k0 k1 k2 k3 k5 mN,
    h.get? C = some (excClassObj nm qn C N bs bm hd sn sub ab col dd k0 k1 k2 k3 k5 "ValueError.__new__") ∧ h.Ns N mN ∧ mN "__init__" = none ∧ OwnTail h bmV bm := by
  have q' : PySem.W.excIn K C bmV "ValueError.__new__" = true := q
  unfold PySem.W.excIn at q'
  split at q'
  · rename_i dd cd sl lk
    split at q'
    · rename_i C' bm k0 k1 k2 k3 nid k5 em es
      rw [Bool.and_eq_true, Bool.and_eq_true, Bool.and_eq_true, Bool.and_eq_true, Bool.and_eq_true] at q'
      obtain ⟨⟨⟨⟨⟨a1, a2⟩, a3⟩, a4⟩, a5⟩, a6⟩ := q'
      have b1 : C' = C := eq_of_beq a1
      have b2 : nid = "ValueError.__new__" := eq_of_beq a2
      have b3 : cd.hasDel = false := by simpa using a3
      have b6 := eq_of_beq a6
      have g := X C _ lk
      obtain ⟨nm, bs, mro, ns, qn, hd, sn, sub, ab, col, del⟩ := cd
      simp only at em b3 a5 b6
      subst em b3 b1 b2
      have hsl : sl = #[k0, k1, k2, k3, some (.builtin "ValueError.__new__"), k5] := by
        rw [← Array.toList_inj]; exact es
      subst hsl
      exact ⟨bm, ns, nm, qn, bs, hd, sn, sub, ab, col, dd, k0, k1, k2, k3, k5, _, g, Heap.Ns.of_isNs (PySem.W.isNs_of_in X a5), PySem.W.nsMap_none_of_in X a5 b6, PySem.W.tail_of_in X a4⟩
    · cases q'
  · cases q'
theorem exc_class {prog : Program} {w : World} {A : Around} {E : Value → Shared → Prop} {s : Shared} {K : PySem.W.Frag} {er C : Addr} {oe : Obj} {Q : Option Value → Shared → Prop}
    (ga : PySem.W.findIn K (.ref C) "__getattribute__" = some (some (.builtin "BaseException.__getattribute__"))) (gn : PySem.W.findIn K (.ref C) "__getattr__" = some none)
    (hf : PySem.W.findObj K C none "__class__" = some (.bind (.builtin "getset_descriptor.__get__") (.builtin "object.__class__"))) (mo : PySem.W.mroIn K C (.type "object") = some true) (be : PySem.W.mroIn K C (.type "BaseException") = some true)
    (X : K.In s.heap) (i : PySem.W.InstAt s.heap er oe C none) (q : Q (some (.ref C)) { s with toks := s.toks + 1 }) : wpAny (model prog w) A (getAttr? (.ref er) "__class__") Q E s := by
  obtain ⟨hh, g, d, t, os⟩ := s
  have L0 := i.type (M := model prog w)
  have L1 := PySem.W.looks_findIn (M := model prog w) X ga
  have Internal' := PySem.W.looks_findIn (M := model prog w) X gn
  have L3 := PySem.W.looks_find (M := model prog w) X i hf
  have L4 := PySem.W.looks_mroIn (M := model prog w) X be
  have f3 := PySem.F.attr_ValueError.ga.bind (.ref er)
  unfold getAttr? getAttrBy? getAttrBy
  refine wpAny_bind (wpAny_mkText (wpAny_bind (wpAny_attempt (wpAny_holding (wpAny_bind (L0.at (wpAny_bind (L1.at ?_))))))))
  show wpAny _ _ (getAttrByItsOwn _ _ _ _ _ _) _ _ _
  unfold getAttrByItsOwn hookBefore
  refine wpAny_bind (Internal'.at ?_)
  refine wpAny_bind (wpAny_attempt (wpAny_holding ?_))
  show wpAny _ _ (boundAndCalled _ _ _) _ _ _
  unfold boundAndCalled
  rw [f3]
  refine wpAny_bind (wpAny_pure ?_)
  refine wpAny_call (codeAny_call_builtin PySem.F.attr_ValueError.ga.plain PySem.F.entry_bexc_ga ?_)
  have hk : builtinKind "BaseException.__getattribute__" = some .slot := by decide +kernel
  have hsp : splitId "BaseException.__getattribute__" = some ("BaseException", "__getattribute__") := by decide +kernel
  simp only [checkBuiltinCall, hk, hsp]
  unfold isInstance
  refine wpAny_bind (wpAny_bind (L0.at (L4.at ?_)))
  simp only [Bool.not_true, Bool.false_eq_true, if_false]
  have ha := PySem.F.args_bexc_ga (.ref er) (.str "__class__" t)
  unfold argsOk at ha
  refine wpAny_of_eq (a := ()) ha ?_
  show wpAny _ _ (Builtin.«object.__getattribute__» _) _ _ _
  unfold Builtin.«object.__getattribute__»
  refine wpAny_bind (wpAny_pure ?_)
  refine wpAny_bind (wpAny_pure ?_)
  refine wpAny_bind (L0.at ?_)
  refine wpAny_bind (L3.at ?_)
  show wpAny _ _ (Builtin.ObjectAttr.bindTo _ _ _ _) _ _ _
  unfold Builtin.ObjectAttr.bindTo
  refine wpAny_bind (wpAny_holding (wpAny_call (PySem.W.class_get X i mo ?_)))
  exact wpAny_pure (PySem.W.handed_on rfl (wpAny_pure q))
noncomputable def errOk (K : PySem.W.Frag) (C : Addr) : Bool := PySem.W.excIn K C bmV "ValueError.__new__" && (PySem.W.findIn K (.ref C) "__getattribute__" == some (some (.builtin "BaseException.__getattribute__"))) && (PySem.W.findIn K (.ref C) "__getattr__" == some none) && (PySem.W.mroIn K C (.type "BaseException") == some true) && (PySem.W.clsIn K C).isSome && (PySem.W.findIn K (.ref C) "__class__" == some (some (.builtin "object.__class__"))) &&
  (PySem.W.specialIn K (.builtin "object.__class__") "__get__" == some (some (.builtin "getset_descriptor.__get__"))) && (PySem.W.takesIn K (.builtin "object.__class__") == some true) && (PySem.W.mroIn K C (.type "object") == some true)
theorem errOk.own {K : PySem.W.Frag} {C : Addr} (h : errOk K C = true) : OwnErr K C := by
  unfold errOk at h
  simp only [Bool.and_eq_true] at h
  exact h.1.1.1.1.1.1.1.1
theorem kitx_err {K : PySem.W.Frag} {er C : Addr} (h : errOk K C = true) : PySem.W.KitX K (.ref er) (.ref C) (IsExc er C) := by
  unfold errOk at h
  simp only [Bool.and_eq_true, beq_iff_eq] at h
  obtain ⟨⟨⟨⟨⟨⟨⟨⟨_, ga⟩, gn⟩, be⟩, cl⟩, fa⟩, sn⟩, tk⟩, mo⟩ := h
  obtain ⟨cd, hc⟩ := Option.isSome_iff_exists.mp cl
  have there : ∃ o : Obj, K.lookup C = some o ∧ o.data = .cls cd := by
    unfold PySem.W.clsIn at hc
    split at hc
    · rename_i lk; cases hc; exact ⟨_, lk, rfl⟩
    · cases hc
  obtain ⟨o, lk, dt⟩ := there
  refine ⟨fun M h _ ⟨oe, i⟩ => i.type, fun M h X _ A Q E s k q => ?_, fun h tp dd its n sl X e => ?_, fun {prog w A E Q s} X ⟨oe, i⟩ q => ?_⟩
  · have g := k _ _ (X _ _ lk)
    obtain ⟨oc, od, oda, osl⟩ := o
    simp only at dt
    subst dt
    unfold isType loadHead
    exact wpAny_bind (wpAny_loadPart g (wpAny_pure q))
  · rw [Bool.eq_false_iff]
    intro z
    have ec : C = tp := Value.ref.inj (beq_iff_eq.mp z)
    subst ec
    have g := X _ _ lk
    rw [e] at g; cases g; cases dt
  · have hf : PySem.W.findObj K C none "__class__" = some (.bind (.builtin "getset_descriptor.__get__") (.builtin "object.__class__")) := by
      unfold PySem.W.findObj
      rw [hc, Option.bind_some, fa, Option.bind_some]
      simp [sn, tk]
    exact exc_class ga gn hf mo be X i q
noncomputable def tRaise (C : Addr) (Ex : XK) (ta : TA) : TS := fun _ σ H => ta σ H fun vs H1 => vs.length ≤ sizeLine ∧ Ex (.ref C) none H1
noncomputable def Made (X : Cx) (C : Addr) (Ex : XK) : Prop := ∀ (pins : List (Addr × Obj)) (σ : St) (H : Hp) (s : Shared) (h' : Heap) (er : Addr) (args : List Value), Inv X pins σ H s → Heap.MadeExcOf s.heap h' er (.ref C) args → Ex (.ref C) none H → X.xe (.ref er) { s with heap := h' }
theorem ps_raise {X : Cx} {C : Addr} {x : Str} {np cpos pos : Pos} {e : Expr} {es : List Expr} {ta : TA} {Ex : XK} (hc : X.calm = true) (hg : Gl X x) (hm : X.mg x = some (.ref C)) (hX : OwnErr X.K C) (ha : PA X (e :: es) ta) (hl : Made X C Ex)
    (hdb : autoParam ((x == ("__debug__" : Str)) = false) Internal.aut1._auto_1) (he : autoParam (starEach (e :: es) X.env = (false, eval e X.env) :: starEach es X.env) Internal.aut2._auto_1) (hpl : autoParam ((backTo cpos (starEach es X.env)).any (·.1) = false) Internal.aut2._auto_1) :
    PS X (.Raise (some (.Call (.Name x np) (e :: es) [] cpos)) none pos) (tRaise C Ex ta) := by
  intro pins s σ H D I h
  obtain ⟨bm, N, nm, qn, bs, hd, sn, sub, ab, col, dd, k0, k1, k2, k3, k5, mN, g1, g2, g3, g4⟩ := hX.obj I.ok.mod.kin
  have pl : (backTo cpos (starEach (e :: es) X.env)).any (·.1) = false := by rw [he]; exact hpl
  refine wpAny_Raise_call_subT PySem.F.excBase_ValueError (C := C) (nm := nm) (q := qn) (N := N) (bs := bs) (hdct := hd) (sn := sn) (sub := sub) (ab := ab) (col := col) (dd := dd) (k0 := k0) (k1 := k1) (k2 := k2) (k3 := k3) (k5 := k5) (g4.hasType (by decide)) (I.ok.hd hc) pl g3 (ld_glob I hg hm ⟨rfl, ?_⟩ hdb)
  have run := ha cpos pins s σ H _ I h
  rw [he] at run ⊢
  refine Calls.evalArgs_plain (wpAny_mono run (fun us s1 q => ?_) fun _ _ z => z)
  obtain ⟨vs, H1, I1, r, z, ex⟩ := q
  exact ⟨rfl, by rw [← r.length]; exact z, I1.bk _ _ g1, g2.keeps I1.bk, g4.keeps I1.bk, fun h' er mk => hl pins σ H1 s1 h' er us I1 mk ex⟩
theorem made_F {P : Program} {w : World} {K : PySem.W.Frag} {mg : Str → Option Value} {base : Heap} {N : List Str} {qual : Str} {scope : Scope} {f : Addr} {cd : Value} {A : Around} {outer : List Env} {s : Shared} {H : Hp} {E : XK} {C : Addr} :
    Made (cxOf (CXF P w) P w K mg base N qual scope f cd A outer s H E) C E := by
  intro pins σ H1 s1 h' er args I mk ex
  have fr := I.stack
  have hin : ∀ env ∈ (envOfC qual scope s.heap.objs.size f cd :: outer), ∀ b, env.frame = some b → b ∈ frs (envOfC qual scope s.heap.objs.size f cd :: outer) := fun env he b hb => List.mem_filterMap.mpr ⟨env, he, hb⟩
  have sb : ∀ b o, (PySem.W.hideAll s1.heap (frs (envOfC qual scope s.heap.objs.size f cd :: outer))).get? b = some o → s1.heap.get? b = some o := fun b o q => PySem.W.of_hideAll _ q
  have inB : ∀ b o, s1.heap.get? b = some o → b ∉ frs (envOfC qual scope s.heap.objs.size f cd :: outer) → (PySem.W.hideAll s1.heap (frs (envOfC qual scope s.heap.objs.size f cd :: outer))).get? b = some o := fun b o q n => PySem.W.hideAll_get _ q n
  have nfr : ∀ b o, s.heap.get? b = some o → b ∉ frs outer → b ∉ frs (envOfC qual scope s.heap.objs.size f cd :: outer) := fun b o q n z => by
    rcases List.mem_cons.mp (show b ∈ s.heap.objs.size :: frs outer from z) with z | z
    · exact Nat.ne_of_lt (Heap.lt_size q) z
    · exact n z
  have trkB : ∀ b o u, H1 b = some o → s1.heap.get? b = some u → (PySem.W.hideAll s1.heap (frs (envOfC qual scope s.heap.objs.size f cd :: outer))).get? b = some u := fun b o u q e => inB b u e fun z => by
    have := I.stkFree b z
    rw [q] at this; cases this
  show wpAny (model P w) (A.deeper (envOfC qual scope s.heap.objs.size f cd)) (leaving (envOfC qual scope s.heap.objs.size f cd) (.ref er)) _ _ _
  have b0 : Bare er { s1 with heap := h' } := by
    obtain ⟨t, e, _⟩ := mk.there
    exact ⟨_, (Heap.get?_some_iff.mp e).1, rfl⟩
  refine wpAny_mono (DK.any (E := fun _ _ => False) (Q := fun _ s'' => Bare er s'' → CXF P w outer H s E (.ref er) s'') (dk_leaving _ _) b0 ?_) (fun _ s'' q => q.1 q.2) fun _ _ q => q.1.elim
  refine wpAny_leaves_madeW (L := s.heap.objs.size) (base := PySem.W.hideAll s1.heap (frs (envOfC qual scope s.heap.objs.size f cd :: outer))) (h := s1.heap) I.ok.frames rfl sb (PySem.W.funFrames_hide fr hin) mk fun h'' t fly _ _ up b1 => ?_
  refine ⟨er, C, t, _, H1, rfl, ⟨I.os, I.bare, ⟨fun b o q n hb _ => ?_, fun b o q n hb _ => ?_, fun b o q n _ => I.base.free b o q n (by simp [cxOf]), fun b o q _ => ?_, I.base.tups, I.base.frzs, I.base.tbls⟩, ?_, fly, fun b o q n hb => ?_, fun b o q hb => ?_, ?_, b1⟩, ex⟩
  · exact fly.1 b o (inB b o (I.base.keep b o q n hb (by simp [cxOf])) (nfr b o q hb))
  · obtain ⟨sl, e1⟩ := I.base.slot b o q n hb (by simp [cxOf])
    obtain ⟨_, o1, e2, nf⟩ := I.ok.funs.mem hb
    have e3 : s.heap.get? b = some o1 := e2
    rw [q] at e3; cases e3
    obtain ⟨sl', e4⟩ := up b _ (mk.keeps b _ e1) nf
    exact ⟨sl', e4⟩
  · by_cases hb : b ∈ frs outer
    · obtain ⟨_, o1, e1, _⟩ := fly.2.2.1.mem hb
      exact ⟨o1, e1⟩
    · obtain ⟨o1, e1⟩ := I.base.there b o q (by simp [cxOf])
      exact ⟨o1, fly.1 b o1 (inB b o1 e1 (nfr b o q hb))⟩
  · intro a o e
    exact (I.hok a o e).stay (fun b u hb q => fly.1 b u (by
      rcases hb with rfl | hb
      · exact trkB b o u e q
      · exact trkB b _ u hb q)) (fun _ q => q) fun _ _ q => q
  · exact inB b o (I.base.keep b o q n hb (by simp [cxOf])) (nfr b o q hb)
  · obtain ⟨o1, e1⟩ := I.base.there b o q (by simp [cxOf])
    exact ⟨o1, inB b o1 e1 (nfr b o q hb)⟩
  · intro b o u q e
    obtain ⟨u1, e1⟩ := (I.hok b o q).obj
    have z := fly.1 b u1 (trkB b o u1 q e1)
    have e' : h''.get? b = some u := e
    rw [z] at e'; cases e'
    exact trkB b o _ q e1

noncomputable abbrev Cx.inH (X : Cx) (er : Addr) : Cx := { X with A := X.A.mark (some (.ref er)), calm := false, xe := fun _ _ => False }
theorem Cx.Ok.inH {X : Cx} (ok : X.Ok) (er : Addr) : (X.inH er).Ok :=
  ⟨ok.mod, ok.kind, ok.glob, ok.blt, ok.above, ok.inj, ok.has, ok.cab, fun z => (by cases z), ok.frames, ok.stk, ok.exf, ok.bs, ok.bsz, ok.noex, ok.exfs, ok.funs, ok.frf⟩
section
variable {X : Cx} {pins : List (Addr × Obj)} {σ : St} {H H' : Hp} {s s' : Shared}
theorem Inv.inH (I : Inv X pins σ H s) (er : Addr) : Inv (X.inH er) pins σ H s := ⟨I.ok.inH er, I.os, I.bare, I.base, I.loc, I.cell, I.free, I.freeC, I.pin, I.hok, I.len⟩
theorem Inv.outH {er : Addr} (ok : X.Ok) (I : Inv (X.inH er) pins σ H s) : Inv X pins σ H s := ⟨ok, I.os, I.bare, I.base, I.loc, I.cell, I.free, I.freeC, I.pin, I.hok, I.len⟩
theorem unbind_ok {i : Nat} {n : Str} {pos : Pos} {Q : Unit → Shared → Prop} {E : Value → Shared → Prop} (I : Inv X pins σ H s) (hN : X.N.Nodup) (hi : X.N[i]? = some n) (hl : X.env.kindOf n = some .local) (q : ∀ s2, Inv X pins (σ.set i none) H s2 → Q () s2) :
    wpAny (model X.prog X.w) X.A (do bindName X.env n .none; unbindBehindTheSuite X.env n pos) Q E s := by
  obtain ⟨m, hn, lk⟩ := id I.loc
  obtain ⟨oL, _, _, hoL, _⟩ := id hn
  refine wpAny_nameGoes_keeps hl hn (by rw [I.ok.kind]; rfl) fun h' v hn' hs => q _ ?_
  have nL : ∀ b o, X.s₀.heap.get? b = some o → b ≠ X.env.locals := fun b o e => Nat.ne_of_lt (Nat.lt_of_lt_of_le (Heap.lt_size e) I.ok.above)
  refine ⟨I.ok, I.os, I.bare, ⟨fun b o e n hb hx => (hs.2 b (nL b o e)).trans (I.base.keep b o e n hb hx), fun b o e n hb hx => ?_, I.base.free, fun b o e hx => ?_, I.base.tups, I.base.frzs, I.base.tbls⟩, ⟨_, hn', fun j y v' e1 e2 e3 => ?_⟩, fun y c e => ?_, I.free, I.freeC, fun p hp => ?_, fun b ob e => ?_, by rw [List.length_set]; exact I.len⟩
  · obtain ⟨sl, e1⟩ := I.base.slot b o e n hb hx
    exact ⟨sl, (hs.2 b (nL b o e)).trans e1⟩
  · obtain ⟨o', e1⟩ := I.base.there b o e hx
    exact ⟨o', (hs.2 b (nL b o e)).trans e1⟩
  · by_cases hj : j = i
    · subst hj
      have hlt : j < σ.length := by rw [I.len]; exact (List.getElem?_eq_some_iff.mp hi).1
      rw [List.getElem?_set_self hlt] at e2
      cases e2
    · rw [List.getElem?_set_ne (Ne.symm hj)] at e2
      obtain ⟨u, r, z⟩ := lk j y v' e1 e2 e3
      refine ⟨u, r, ?_⟩
      have ny : y ≠ n := fun z => hj (nodup_ix hN e1 (z ▸ hi))
      rcases z with ⟨k, e⟩ | ⟨k, c, e, z⟩
      · exact .inl ⟨k, by show (if y = n then v else m y) = some u; rw [if_neg ny]; exact e⟩
      · exact .inr ⟨k, c, e, z.sameBut hs (I.cne y c e)⟩
  · obtain ⟨u, z⟩ := I.cell y c e
    exact ⟨u, z.sameBut hs (I.cne y c e)⟩
  · obtain ⟨e, n, ne, nf, d⟩ := I.pin p hp
    exact ⟨(hs.2 p.1 ne).trans e, n, ne, nf, d⟩
  · refine (I.hok b ob e).stay (fun c u hc q => (hs.2 c ?_).trans q) (fun _ q => q) fun _ _ q => q
    rintro rfl
    rcases hc with rfl | hc
    · have := I.free; rw [e] at this; cases this
    · have := I.free; rw [hc] at this; cases this
noncomputable def Ends.gone (D : Ends) (i : Nat) : Ends := ⟨fun σ H => D.nx (σ.set i none) H, D.rt, fun σ H => D.bk (σ.set i none) H, fun σ H => D.ct (σ.set i none) H⟩
theorem SP.gone {i : Nat} {D : Ends} {f : Flow} {er : Addr} (ok : X.Ok) (h : SP (X.inH er) pins (D.gone i) f s) : ∃ σ' H', Inv X pins σ' H' s ∧ ∀ s2, Inv X pins (σ'.set i none) H' s2 → SP X pins D f s2 := by
  cases f with
  | next => obtain ⟨σ', H', I, q⟩ := h; exact ⟨σ', H', I.outH ok, fun s2 J => ⟨_, _, J, q⟩⟩
  | brk => obtain ⟨σ', H', I, q⟩ := h; exact ⟨σ', H', I.outH ok, fun s2 J => ⟨_, _, J, q⟩⟩
  | cont => obtain ⟨σ', H', I, q⟩ := h; exact ⟨σ', H', I.outH ok, fun s2 J => ⟨_, _, J, q⟩⟩
  | ret u => obtain ⟨v, σ', H', I, r, q⟩ := h; exact ⟨σ', H', I.outH ok, fun s2 J => ⟨v, _, _, J, r, q⟩⟩
theorem taken {er C CQ t : Addr} {B : Heap} {qn n : Str} {qp hp : Pos} {b0 : Stmt} {suite : List Stmt} {rest : List ExceptHandler} {i : Nat} {th : TS} {D : Ends} (hst : X.stack = X.env :: X.outer ∧ X.env.frame = some X.env.locals) (I : Inv X pins σ H s)
    (F : Fly X.prog X.w X.stack H s H' er C t B s') (hg : Gl X qn) (hm : X.mg qn = some (.ref CQ)) (hx : PySem.W.exmOne X.K (.ref C) (.ref CQ) = some true) (hN : X.N.Nodup) (hi : X.N[i]? = some n) (hl : X.env.kindOf n = some .local)
    (hth : PSs (X.inH er) (b0 :: suite) th) (q : th (D.gone i) (σ.set i (some (.ref er))) (upd H' er (ExcAt er C))) (hdb : (qn == ("__debug__" : Str)) = false) :
    wpAny (model X.prog X.w) X.A (noteFrame (.ref er) X.env) (fun _ s₂ => wpAny (model X.prog X.w) X.A (setFlight (.ref er) none) (fun _ s₃ =>
      wpAny (model X.prog X.w) X.A (handleBy (.ref er) X.env (.ExceptHandler (some (.Name qn qp)) (some n) (b0 :: suite) hp :: rest)) (SP X pins D) X.xe s₃) X.xe s₂) X.xe s' := by
  have hfr : X.A.frames = some (X.env :: X.outer) := by rw [I.ok.frames, hst.1]
  have fly0 : Heap.FlyingW B (X.env :: X.outer) er (.ref C) (.ref t) s'.heap := hst.1 ▸ F.fly
  have at' : ∀ {h : Heap}, B.StaysIn h → s'.heap.UpToSlots h → ∀ tk, Inv X pins σ H' { s' with heap := h, toks := tk } := fun {h} st up tk =>
    I.call' (s' := { s' with heap := h, toks := tk }) (ch := []) F.os (F.unAt I.stack st up) (F.hokAt st) F.bare fun _ z => nomatch z
  refine wpAny_mono (DK.any (E := fun _ _ => False) (Q := fun _ s2 => Bare er s2 → _) (dk_note _ _) F.nod (wpAny_looks_onW hfr hst.2 fly0 fun h4 held up4 b4 => ?_)) (fun _ s2 q => q.1 q.2) fun _ _ q => q.1.elim
  refine wpAny_mono (DK.any (E := fun _ _ => False) (Q := fun _ s2 => Bare er s2 → _) (dk_setFlight _ _) b4 (wpAny_landsW held fun h5 fly5 up5 b5 => ?_)) (fun _ s2 q => q.1 q.2) fun _ _ q => q.1.elim
  have up : s'.heap.UpToSlots h5 := up4.trans up5
  have J5 := (at' fly5.1 up s'.toks).inH er
  obtain ⟨ob, hob, hoc⟩ := fly5.there
  refine wpAny_handleBy_cons (codeAny_handlers_test (ld_glob (X := X.inH er) J5 hg hm ?_ hdb)) (by intro z; cases z)
  have LT : PySem.W.Looks (model X.prog X.w) h5 (typeOf (.ref er)) (.ref C) := hoc ▸ (PySem.W.Looks.ld hob).andThen .now
  refine (PySem.W.exm_one J5.kIn LT hx) _ _ _ _ (fun _ _ e => e) ?_
  show codeAny _ _ _ _ _
  refine codeAny_handlers_suite_as ?_
  refine wpAny_mono (DK.any (E := fun _ _ => False) (Q := fun _ s2 => Bare er s2 → _) (dk_setFlight _ _) b5 (lands_againW fly5 fun h6 fly6 up6 b6 => ?_)) (fun _ s2 q => q.1 q.2) fun _ _ q => q.1.elim
  have J6 := at' fly6.1 (up.trans up6) s'.toks
  have u6 : Un (frs X.stack) [] H (upd H' er (ExcAt er C)) s.heap h6 := F.unEr (F.unAt I.stack fly6.1 (up.trans up6))
  have K6 : Inv X pins σ (upd H' er (ExcAt er C)) { s' with heap := h6 } :=
    I.call' (s' := { s' with heap := h6 }) (ch := []) F.os u6 (hok_er (F.hokAt fly6.1) F.noTrk (isExc_of fly6 b6)) F.bare fun _ z => nomatch z
  refine store_ok (X := X.inH er) (i := i) (v := .ref er) (K6.inH er) hN hi (.inl hl) rfl (fun s7 J7 => ?_) (.inr hl)
  refine wpAny_mono (hth pins s7 _ _ _ J7 q) (fun fl s8 hs => ?_) fun _ _ z => z.elim
  obtain ⟨σ9, H9, I9, fin⟩ := SP.gone I.ok hs
  exact unbind_ok I9 hN hi hl fun s10 J10 => fin s10 J10
end

theorem Fun.okX {P : Program} {w : World} {K : PySem.W.Frag} {mg : Str → Option Value} {base : Heap} {CX : CXT} {x qual : Str} {st : Stmt} {f : Addr} {fd : FuncData} {N ps : List Str} {k : Nat} {sp : Sp} (F : Fun K x qual st f fd) (S : FnScope N ps (defScope st)) (len : ∀ vs H Q E, sp vs H Q E → vs.length = ps.length)
    (body : ∀ (cdv : Value) (A : Around) (outer : List Env) (s : Shared) (H : Hp) (vs : List V) (Q : VK) (E : XK), Room k (A.deeper (envOfC qual (defScope st) s.heap.objs.size f cdv)) → sp vs H Q E →
      ∃ t, PSs (cxOf CX P w K mg base N qual (defScope st) f cdv A outer s H E) (defBody st) t ∧ t { nx := fun _ H' => Q .non H', rt := Q } (start N vs) H) : FnOk P w K mg base CX (k + 1) f fd ps sp := by
  obtain ⟨oc, od, kV, doc, pm, an, cdv, ct, osl, rfl, lk, hcd⟩ := F.ex
  exact fn_of lk hcd S len fun A outer s H vs Q E hr hsp => body cdv A outer s H vs Q E hr hsp
noncomputable def rIsiU (K : PySem.W.Frag) : List V → Hp → VK → Prop := fun xs H Q => (∃ er C c cv b, xs = [.ref er, c] ∧ RelV c cv ∧ H er = some (ExcAt er C) ∧ errOk K C = true ∧ PySem.W.kitOne K (.ref C) cv = some b ∧ Q (.bl b) H) ∨ rIsi K xs H Q
theorem call_isiU {X : Cx} : CallR X (.builtin "isinstance") (rIsiU X.K) := by
  refine CallR.or ?_ call_isinst
  intro pins s σ H xs us Q I r h
  obtain ⟨er, C, c, cv, b, rfl, rc, he, ok, hk, q⟩ := h
  obtain ⟨u, w', rfl, r1, r2⟩ := vals2 r
  obtain rfl : u = Value.ref er := r1
  have ie : IsExc er C s.heap := (I.hok er _ he).1
  have ec : w' = cv := by
    cases c with
    | ty n => exact (show w' = _ from r2).trans (show cv = _ from rc).symm
    | ref a => exact (show w' = _ from r2).trans (show cv = _ from rc).symm
    | non => exact (show w' = _ from r2).trans (show cv = _ from rc).symm
    | bl b => exact (show w' = _ from r2).trans (show cv = _ from rc).symm
    | _ => obtain ⟨_, rfl⟩ := rc; simp [PySem.W.kitOne, PySem.W.kitCls] at hk
  subst ec
  exact PySem.W.kia_one (kitx_err ok) I.kIn ie hk (by intro z; cases z) fun tk => ⟨.bl b, H, I.tok tk, rfl, q⟩
theorem x_isU {K : PySem.W.Frag} {xs : List V} {H : Hp} {Q : VK} (q : rIsi K xs H Q) : rIsiU K xs H Q := .inr q
theorem x_isE {K : PySem.W.Frag} {H : Hp} {Q : VK} {er C : Addr} {c : V} {cv : Value} {b : Bool} (h : H er = some (ExcAt er C)) (ok : errOk K C = true) (rc : RelV c cv) (e : PySem.W.kitOne K (.ref C) cv = some b) (q : Q (.bl b) H) : rIsiU K [.ref er, c] H Q := .inl ⟨er, C, c, cv, b, rfl, rc, h, ok, e, q⟩
theorem x_raise {C : Addr} {Ex : XK} {ta : TA} {D : Ends} {σ : St} {H : Hp} (q : ta σ H fun vs H1 => vs.length ≤ sizeLine ∧ Ex (.ref C) none H1) : tRaise C Ex ta D σ H := q
theorem x_catch {K : PySem.W.Frag} {C CQ : Addr} {th : TS} {D : Ends} {σ : St} {i : Nat} {H : Hp} (hx : PySem.W.exmOne K (.ref C) (.ref CQ) = some true) (q : ∀ er H', H er = none → Same H H' → H' er = some (ExcAt er C) → th D (σ.set i (some (.ref er))) H') :
    ∃ C', Value.ref C = Value.ref C' ∧ PySem.W.exmOne K (.ref C') (.ref CQ) = some true ∧ ∀ er, H er = none → th D (σ.set i (some (.ref er))) (upd H er (ExcAt er C')) := ⟨C, rfl, hx, fun er hn => q er _ hn (Same.new hn _) upd_same⟩
theorem cls_some {K : PySem.W.Frag} {D : Addr} (h : PySem.W.hasDictIn K D = true) : (PySem.W.clsIn K D).isSome = true := by
  obtain ⟨cd, e, _⟩ := PySem.W.any_some h
  rw [e]; rfl
theorem errOk_mk {K : PySem.W.Frag} {C : Addr} (x : PySem.W.excIn K C [.type "ValueError", .type "Exception", .type "BaseException", .type "object"] "ValueError.__new__" = true) (ga : PySem.W.findIn K (.ref C) "__getattribute__" = some (some (.builtin "BaseException.__getattribute__"))) (gn : PySem.W.findIn K (.ref C) "__getattr__" = some none) (be : PySem.W.mroIn K C (.type "BaseException") = some true) (hd : PySem.W.hasDictIn K C = true)
    (fa : PySem.W.findIn K (.ref C) "__class__" = some (some (.builtin "object.__class__"))) (sn : PySem.W.specialIn K (.builtin "object.__class__") "__get__" = some (some (.builtin "getset_descriptor.__get__"))) (tk : PySem.W.takesIn K (.builtin "object.__class__") = some true)
    (mo : PySem.W.mroIn K C (.type "object") = some true) : errOk K C = true := by
  unfold errOk bmV
  rw [x, ga, gn, be, cls_some hd, fa, sn, tk, mo]; simp
theorem kit_cls_of {K : PySem.W.Frag} {t : Value} {D : Addr} {b : Bool} (hd : PySem.W.hasDictIn K D = true) (ht : PySem.W.typeIn K (.ref D) = some (.type "type")) (hs : PySem.W.subIn K t (.ref D) = some b) : PySem.W.kitCls K t (.ref D) = some b := by
  unfold PySem.W.kitCls
  simp only
  rw [cls_some hd, ht, if_pos (by simp)]; exact hs
theorem kit_ne {K : PySem.W.Frag} {C D : Addr} {b : Bool} (h : C ≠ D) (hd : PySem.W.hasDictIn K D = true) (ht : PySem.W.typeIn K (.ref D) = some (.type "type")) (hs : PySem.W.subIn K (.ref C) (.ref D) = some b) : PySem.W.kitOne K (.ref C) (.ref D) = some b := by
  unfold PySem.W.kitOne
  rw [if_neg (by intro z; exact h (Value.ref.inj (beq_iff_eq.mp z)))]
  exact kit_cls_of hd ht hs
theorem kit_self {K : PySem.W.Frag} {C : Addr} : PySem.W.kitOne K (.ref C) (.ref C) = some true := by
  unfold PySem.W.kitOne
  rw [if_pos (by simp)]
theorem kit_V {K : PySem.W.Frag} {C : Addr} {b : Bool} (hs : PySem.W.subIn K (.ref C) (.type "ValueError") = some b) : PySem.W.kitOne K (.ref C) (.type "ValueError") = some b := by
  unfold PySem.W.kitOne
  rw [if_neg (by intro z; cases beq_iff_eq.mp z)]
  unfold PySem.W.kitCls
  simp only
  rw [if_pos (by decide +kernel)]; exact hs
theorem exm_mk {K : PySem.W.Frag} {C D : Addr} {b : Bool} (hq : PySem.W.subIn K (.ref D) (.type "BaseException") = some true) (hd : PySem.W.hasDictIn K D = true) (ht : PySem.W.typeIn K (.ref D) = some (.type "type")) (hs : PySem.W.subIn K (.ref C) (.ref D) = some b) : PySem.W.exmOne K (.ref C) (.ref D) = some b := by
  unfold PySem.W.exmOne
  rw [hq, if_pos (by simp)]
  exact kit_cls_of hd ht hs
end Internal

set_option Elab.async false
set_option linter.all false
set_option maxRecDepth 100000
namespace Internal
open PySem PySem.Spec PyProof.Rows
theorem pass_F {P : Program} {w : World} {K : PySem.W.Frag} {mg : Str → Option Value} {base : Heap} {N : List Str} {qual : Str} {scope : Scope} {f : Addr} {cd : Value} {A : Around} {outer : List Env} {s : Shared} {H : Hp} {E : XK} :
    Passes (CXF P w) (cxOf (CXF P w) P w K mg base N qual scope f cd A outer s H E) E := by
  intro pins σ H1 s1 e s2 I hx
  obtain ⟨er, C, t, B, H', rfl, F, ex⟩ := hx
  have fr := I.stack
  have nfr : ∀ b o, s.heap.get? b = some o → b ∉ frs outer → b ∉ frs (envOfC qual scope s.heap.objs.size f cd :: outer) := fun b o q n z => by
    rcases List.mem_cons.mp (show b ∈ s.heap.objs.size :: frs outer from z) with z | z
    · exact Nat.ne_of_lt (Heap.lt_size q) z
    · exact n z
  have sub : ∀ b ∈ frs outer, b ∈ frs (envOfC qual scope s.heap.objs.size f cd :: outer) := fun b hb => List.mem_cons_of_mem _ hb
  show wpAny (model P w) (A.deeper (envOfC qual scope s.heap.objs.size f cd)) (leaving (envOfC qual scope s.heap.objs.size f cd) (.ref er)) _ _ _
  refine wpAny_mono (DK.any (E := fun _ _ => False) (Q := fun _ s'' => Bare er s'' → CXF P w outer H s E (.ref er) s'') (dk_leaving _ _) F.nod ?_) (fun _ s'' q => q.1 q.2) fun _ _ q => q.1.elim
  refine wpAny_leaves_onW (L := s.heap.objs.size) I.ok.frames rfl F.fly fun h'' fly up b1 => ?_
  have u2 := F.unAt fr fly.1 up
  refine ⟨er, C, t, B, H', rfl, ⟨F.os.trans I.os, F.bare, ⟨fun b o q n hb _ => ?_, fun b o q n hb _ => ?_, fun b o q n _ => ?_, fun b o q _ => ?_, fun b xs q => u2.tups b xs (I.base.tups b xs q), fun b o xs q => u2.frzs b o xs (I.base.frzs b o xs q), fun b ps q => ?_⟩, F.hokAt fly.1, fly, fun b o q n hb => ?_, fun b o q hb => ?_, fun b o u q e => ?_, b1⟩, ex⟩
  · exact u2.keep b o (I.base.keep b o q n hb (by simp [cxOf])) (I.base.free b o q n (by simp [cxOf])) (nfr b o q hb) (by simp)
  · obtain ⟨sl, e1⟩ := I.base.slot b o q n hb (by simp [cxOf])
    obtain ⟨sl', e2⟩ := u2.slot b _ e1 (I.base.free b o q n (by simp [cxOf])) (sub b hb) (by simp)
    exact ⟨sl', e2⟩
  · obtain ⟨o1, e1⟩ := I.base.there b o q (by simp [cxOf])
    exact u2.free b o1 e1 (I.base.free b o q n (by simp [cxOf])) (by simp)
  · obtain ⟨o1, e1⟩ := I.base.there b o q (by simp [cxOf])
    exact u2.there b o1 e1 (by simp)
  · obtain ⟨m1, e1⟩ := I.base.tbls b ps q
    obtain ⟨m2, e2⟩ := u2.tbls b _ e1
    exact ⟨m1 ++ m2, by rw [e2, Array.append_assoc]⟩
  · exact F.old b o (I.base.keep b o q n hb (by simp [cxOf])) (I.base.free b o q n (by simp [cxOf])) (nfr b o q hb)
  · obtain ⟨o1, e1⟩ := I.base.there b o q (by simp [cxOf])
    exact F.has b o1 e1 (nfr b o q hb)
  · obtain ⟨u1, e1⟩ := (F.hok b o q).obj
    have z := F.trk b o u1 q e1
    have z2 := fly.1 b u1 z
    have e' : h''.get? b = some u := e
    rw [z2] at e'; cases e'
    exact z
noncomputable def Caught (X : Cx) (pins : List (Addr × Obj)) (Eh : Addr → St → Hp → Prop) : Value → Shared → Prop := fun e s' => ∃ σ' H1 s1 er C t B H', Inv X pins σ' H1 s1 ∧ e = .ref er ∧ Fly X.prog X.w X.stack H1 s1 H' er C t B s' ∧ Eh C σ' H'
noncomputable abbrev TEr := St → Hp → VK → (Addr → Hp → Prop) → Prop
noncomputable abbrev TTr := Ends → (Addr → St → Hp → Prop) → St → Hp → Prop
noncomputable def PEr (X : Cx) (e : Expr) (t : TEr) : Prop := ∀ (pins : List (Addr × Obj)) (s : Shared) (σ : St) (H : Hp) (Q : VK) (Eh : Addr → Hp → Prop), Inv X pins σ H s → t σ H Q Eh → wpAny (model X.prog X.w) X.A (eval e X.env) (EP X pins σ Q) (Caught X pins fun C σ' H' => σ' = σ ∧ Eh C H') s
noncomputable def PTr (X : Cx) (st : Stmt) (t : TTr) : Prop := ∀ (pins : List (Addr × Obj)) (s : Shared) (σ : St) (H : Hp) (D : Ends) (Eh : Addr → St → Hp → Prop), Inv X pins σ H s → t D Eh σ H → wpAny (model X.prog X.w) X.A (exec st X.env) (SP X pins D) (Caught X pins Eh) s
noncomputable def PTrs (X : Cx) (ss : List Stmt) (t : TTr) : Prop := ∀ (pins : List (Addr × Obj)) (s : Shared) (σ : St) (H : Hp) (D : Ends) (Eh : Addr → St → Hp → Prop), Inv X pins σ H s → t D Eh σ H → wpAny (model X.prog X.w) X.A (execs ss X.env) (SP X pins D) (Caught X pins Eh) s
section
variable {X : Cx} {pos : Pos}
noncomputable abbrev tExprR (te : TEr) : TTr := fun D Eh σ H => te σ H (fun _ H2 => D.nx σ H2) fun C H2 => Eh C σ H2
noncomputable abbrev tIfR (c : TT) (t u : TTr) : TTr := fun D Eh σ H => c σ H fun b H1 => if b = true then t D Eh σ H1 else u D Eh σ H1
noncomputable abbrev tNilR : TTr := fun D _ σ H => D.nx σ H
theorem ptrs_one {st : Stmt} {t : TTr} (h : PTr X st t) : PTrs X [st] t := by
  intro pins s σ H D Eh I q
  refine wpAny_execs_cons (wpAny_mono (h pins s σ H D Eh I q) (fun f s1 z => ?_) fun _ _ z => z)
  cases f with
  | next => exact wpAny_execs_nil z
  | _ => exact z
noncomputable def tTryG (K : PySem.W.Frag) (CQ : Addr) (i : Nat) (tb : TTr) (th : TS) : TS := fun D σ H => tb D (fun C σ' H2 => ∃ C', Value.ref C = .ref C' ∧ PySem.W.exmOne K (.ref C') (.ref CQ) = some true ∧ ∀ er, H2 er = none → th (D.gone i) (σ'.set i (some (.ref er))) (upd H2 er (ExcAt er C'))) σ H
theorem ps_tryG {CQ : Addr} {qn n : Str} {qp hp : Pos} {body : List Stmt} {tb : TTr} {b0 : Stmt} {suite : List Stmt} {i : Nat} {th : TS} (hst : X.stack = X.env :: X.outer ∧ X.env.frame = some X.env.locals) (hbd : PTrs X body tb)
    (hg : Gl X qn) (hm : X.mg qn = some (.ref CQ)) (hN : X.N.Nodup) (hi : X.N[i]? = some n) (hl : X.env.kindOf n = some .local) (hth : ∀ er, PSs (X.inH er) (b0 :: suite) th) (hdb : autoParam ((qn == ("__debug__" : Str)) = false) Internal.aut1._auto_1) :
    PS X (.Try body [.ExceptHandler (some (.Name qn qp)) (some n) (b0 :: suite) hp] [] [] pos) (tTryG X.K CQ i tb th) := by
  intro pins s σ H D I h
  refine wpAny_Try_except (wpAny_mono (hbd pins s σ H D _ I h) (fun f s1 z => ?_) fun e s1 z => ?_)
  · cases f with
    | next => exact wpAny_execs_nil z
    | _ => exact z
  · obtain ⟨σ', H1, s2, er, C, t, B, H', I', rfl, fl, C', ec, hx, hh⟩ := z
    cases ec
    exact taken hst I' fl hg hm hx hN hi hl (hth er) (hh er fl.noTrk) hdb
end
section
variable {σ : St} {H : Hp} {Q : VK} {D : Ends} {K : PySem.W.Frag} {Eh : Addr → Hp → Prop} {Eg : Addr → St → Hp → Prop}
theorem x_tryG {CQ : Addr} {i : Nat} {tb : TTr} {th : TS} (q : tb D (fun C σ' H2 => ∃ C', Value.ref C = .ref C' ∧ PySem.W.exmOne K (.ref C') (.ref CQ) = some true ∧ ∀ er, H2 er = none → th (D.gone i) (σ'.set i (some (.ref er))) (upd H2 er (ExcAt er C'))) σ H) : tTryG K CQ i tb th D σ H := q
end
end Internal

set_option Elab.async false
set_option linter.all false
set_option maxRecDepth 100000
namespace Internal
open PySem PySem.Spec PyProof.Rows
section
variable {X : Cx} {pins : List (Addr × Obj)} {σ : St} {H : Hp} {s : Shared} {h' : Heap}
theorem Inv.turnedL {t' : Nat} {fp : List Addr} (I : Inv X pins σ H s) (k : ∀ b o, b ∉ fp → s.heap.get? b = some o → h'.get? b = some o) (f : ∀ b ∈ fp, FpOk X pins H b) : Inv X pins σ H { s with heap := h', toks := t' } := by
  have nit : ∀ b u, H b = some u → b ∉ fp := fun b u e z => by rw [(f b z).1] at e; cases e
  refine I.step (g' := s.gens) (d' := s.drawn) (ch := fp) (fun b hb => ⟨(f b hb).2.2.2.1, (f b hb).2.1, (f b hb).2.2.2.2.1, (f b hb).2.2.2.2.2⟩) (fun b o _ _ hc e _ => k b o hc e) (fun b o _ _ hc e _ => ⟨o.slots, k b o hc e⟩) (fun _ _ _ _ n => n)
    (fun b o hc e => ⟨o, k b o hc e⟩) (fun _ _ e => e) (fun _ _ _ e => e) (fun b ps e => ⟨#[], by rw [e]; simp⟩) (fun m hm => ?_) (fun b u e => ?_) I.bare
  · obtain ⟨o, es, ep, ho, r⟩ := hm
    exact ⟨o, es, ep, k _ o (fun z => (f _ z).2.1 rfl) ho, r⟩
  · refine (I.hok b u e).stay (fun c v hc q => k c v ?_ q) (fun _ q => q) fun _ _ q => q
    rcases hc with z | z
    · rw [z]; exact nit b u e
    · exact nit c _ z
theorem Inv.turnedNew {t' : Nat} {fp : List Addr} {p : Addr} {o : HO} (I : Inv X pins σ H s) (k : ∀ b o, b ∉ fp → s.heap.get? b = some o → h'.get? b = some o) (f : ∀ b ∈ fp, FpOk X pins H b) (hp : s.heap.objs.size ≤ p) (new : ObjOk X.prog X.w (upd H p o) h' p o) :
    Inv X pins σ (upd H p o) { s with heap := h', toks := t' } := by
  have nit : ∀ b u, H b = some u → b ∉ fp := fun b u e z => by rw [(f b z).1] at e; cases e
  have hn : H p = none := I.hok.fresh hp
  refine I.step (g' := s.gens) (d' := s.drawn) (ch := fp) (fun b hb => ⟨(f b hb).2.2.2.1, (f b hb).2.1, (f b hb).2.2.2.2.1, (f b hb).2.2.2.2.2⟩) (fun b o _ _ hc e _ => k b o hc e) (fun b o _ _ hc e _ => ⟨o.slots, k b o hc e⟩) (fun b u _ e n => ?_)
    (fun b o hc e => ⟨o, k b o hc e⟩) (fun b xs e => by rw [upd_ne (ne_of_none e hn)]; exact e) (fun b u v e => by rw [upd_ne (ne_of_none e hn)]; exact e) (fun b ps e => ⟨#[], by rw [upd_ne (ne_of_none e hn), e]; simp⟩) (fun m hm => ?_) (fun b u e => ?_) I.bare
  · rw [upd_ne (Nat.ne_of_lt (Nat.lt_of_lt_of_le (Heap.lt_size e) hp))]; exact n
  · obtain ⟨o, es, ep, ho, r⟩ := hm
    exact ⟨o, es, ep, k _ o (fun z => (f _ z).2.1 rfl) ho, r⟩
  · by_cases hb : b = p
    · subst hb; rw [upd_same] at e; cases e; exact new
    · rw [upd_ne hb] at e
      refine (I.hok b u e).stay (fun c v hc q => k c v ?_ q) (fun c q => by rw [upd_ne (ne_of_none q hn)]; exact q) fun c xs q => by rw [upd_ne (ne_of_none q hn)]; exact q
      rcases hc with z | z
      · rw [z]; exact nit b u e
      · exact nit c _ z
end
theorem tup2 {P : Program} {w : World} {H : Hp} {h : Heap} {p : Addr} {x y : V} {u v : Value} (e : h.get? p = some { cls := .type "tuple", data := .seq #[u, v] }) (r1 : RelV x u) (r2 : RelV y v) : ObjOk P w H h p (.tup [x, y]) :=
  ⟨small_le (by simp), [u, v], .cons r1 (.cons r2 .nil), _, e, rfl, _, rfl⟩
noncomputable def Itn (K : PySem.W.Frag) (a : Addr) : It :=
  ⟨fun i H => ∃ xs x, SqL K H a xs ∧ xs[i]? = some x, fun i H v H' => ∃ p x, H p = none ∧ v = .ref p ∧ (∀ xs, SqL K H a xs → xs[i]? = some x) ∧ H' = upd H p (.tup [.int i, x]), fun i H => ∃ xs, SqL K H a xs ∧ xs.length ≤ i⟩
theorem turn_enum {P : Program} {w : World} {K : PySem.W.Frag} {es : List Expr} {kx : Nat} {tp : Pos} (a e it : Addr) (hne : e ≠ it) : Turn P w K (.Tuple es kx tp) (Itn K a) [e, it] e (fun i h => (∃ old, IsEnum h e it i old) ∧ h.IsListIter it a i) where
  mem := by simp
  obj := fun i h st b hb => by
    obtain ⟨⟨old, h1⟩, o, h2, c, d⟩ := st
    rcases List.mem_cons.mp hb with z | z
    · subst z; exact ⟨_, h1, fun v z => by cases z⟩
    · have e : b = it := by simpa using z
      subst e
      exact ⟨o, h2, fun v z => by rw [d] at z; cases z⟩
  keep := fun i h h' st k => by
    obtain ⟨⟨old, h1⟩, h2⟩ := st
    exact ⟨⟨old, k e (by simp) _ h1⟩, h2.at fun o q => k it (by simp) o q⟩
  item := by
    intro X hP hw hK hc i pins s σ H E I hf st hg
    subst hP hw hK
    obtain ⟨⟨old, he⟩, hit⟩ := st
    obtain ⟨xs, x, hq, hx⟩ := hg
    obtain ⟨its, rv, p, hz⟩ := I.list hq
    obtain ⟨u, hu, ru⟩ := rv.get hx
    refine wpAny_pyNext_enum_item he hit p.isList (x := u) (by simpa using hu) hne fun h1 eo it1 tp1 sz1 k1 => ?_
    refine ⟨_, rfl, wpAny_letOwnedTupleGo_enum eo fun h2 e2 sb2 => ?_⟩
    have hes : e ≠ s.heap.objs.size := Nat.ne_of_lt (Heap.lt_size he)
    have sb2' : Heap.SameBut e h1 h2 := sb2
    have t2 : h2.get? s.heap.objs.size = some { cls := .type "tuple", data := .seq #[.int i s.toks, u] } := (sb2'.2 _ (Ne.symm hes)).trans tp1
    have k2 : ∀ b o, b ∉ [e, it] → s.heap.get? b = some o → h2.get? b = some o := fun b o hb q => by
      have n1 : b ≠ e := fun z => hb (by simp [z])
      have n2 : b ≠ it := fun z => hb (by simp [z])
      exact (sb2'.2 b n1).trans (k1 b o n1 n2 q)
    have I2 : Inv X pins σ (upd H s.heap.objs.size (.tup [.int i, x])) { s with heap := h2, toks := s.toks + 1 } := I.turnedNew k2 hf (Nat.le_refl _) (tup2 t2 ⟨_, rfl⟩ ru)
    have hn : H s.heap.objs.size = none := I.hok.fresh (Nat.le_refl _)
    refine ⟨.ref s.heap.objs.size, _, I2, rfl, ⟨_, x, hn, rfl, fun ys hy => by rw [I.list_inj hy hq]; exact hx, rfl⟩, ⟨⟨_, e2⟩, it1.at fun o q => (sb2'.2 it (Ne.symm hne)).trans q⟩, fun b hb => ?_⟩
    have hbs : b ≠ s.heap.objs.size := by
      rcases List.mem_cons.mp hb with z | z
      · rw [z]; exact hes
      · have e : b = it := by simpa using z
        subst e
        obtain ⟨o, q, _⟩ := hit
        exact Nat.ne_of_lt (Heap.lt_size q)
    rw [upd_ne hbs]
    exact (hf b hb).1
  done := by
    intro X hP hw hK hc i pins s σ H E I hf st hg
    subst hP hw hK
    obtain ⟨⟨old, he⟩, hit⟩ := st
    obtain ⟨xs, hq, hx⟩ := hg
    obtain ⟨its, rv, p, hz⟩ := I.list hq
    have hl := rv.length
    refine wpAny_pyNext_enum_end (I.ok.hd hc) he hit p.isList (by simp; omega) fun h1 eb => ⟨rfl, I.turnedL (t' := s.toks) (fp := [e, it]) (fun b o hb q => eb b o (fun z => hb (by simp [z])) q) hf⟩
  self := fun _ _ _ _ _ st h => by
    obtain ⟨⟨old, he⟩, _⟩ := st
    exact wpAny_pyIter_enum he h
noncomputable def Itz (K : PySem.W.Frag) (a b : Addr) : It :=
  ⟨fun i H => ∃ xs ys x y, SqL K H a xs ∧ SqL K H b ys ∧ xs[i]? = some x ∧ ys[i]? = some y, fun i H v H' => ∃ p x y, H p = none ∧ v = .ref p ∧ (∀ xs, SqL K H a xs → xs[i]? = some x) ∧ (∀ ys, SqL K H b ys → ys[i]? = some y) ∧ H' = upd H p (.tup [x, y]),
    fun i H => ∃ xs ys, SqL K H a xs ∧ SqL K H b ys ∧ (xs.length ≤ i ∨ ys.length ≤ i)⟩
section
variable {X : Cx} {es : List Expr} {kx : Nat} {tp : Pos}
noncomputable def rEnum (K : PySem.W.Frag) (R : It → Hp → Prop) (vs : List V) (H : Hp) : Prop := ∃ a, vs = [.ref a] ∧ (∃ xs, SqL K H a xs) ∧ R (Itn K a) H
noncomputable def rZip (K : PySem.W.Frag) (R : It → Hp → Prop) (vs : List V) (H : Hp) : Prop := ∃ a b, vs = [.ref a, .ref b] ∧ (∃ xs, SqL K H a xs) ∧ (∃ ys, SqL K H b ys) ∧ R (Itz K a b) H
noncomputable abbrev iEnum (K : PySem.W.Frag) (ta : TA) : TI := fun σ H R => ta σ H (rEnum K R)
noncomputable abbrev iZip (K : PySem.W.Frag) (ta : TA) : TI := fun σ H R => ta σ H (rZip K R)
theorem pi_enum {a : Expr} {ta : TA} {p pos : Pos} (hg : Gl X "enumerate") (hm : X.mg "enumerate" = none) (ha : PA X [a] ta) (hs : autoParam (starEach [a] X.env = [(false, eval a X.env)]) Internal.aut2._auto_1) : PI X (.Tuple es kx tp) (.Call (.Name "enumerate" p) [a] [] pos) (iEnum X.K ta) := by
  intro pins s σ H R I h
  refine Call_ (ld_blt I hg hm boot_enumerate (PyProof.Rows.callWith_type1 (thn (ha pos pins s σ H _ I h) fun us s1 ⟨vs, H1, I1, r1, q1⟩ => ?_) hs rfl))
  obtain ⟨l, e, ⟨xs, hq⟩, q⟩ := q1
  subst e
  obtain ⟨u, rfl, r⟩ := vals1 r1
  cases r
  obtain ⟨its, rv, pl, hz⟩ := I1.list hq
  refine call_enumerate_list pl.isList fun h1 e1 i1 sz1 k1 => ?_
  refine wpAny_pyIter_enum e1 ?_
  have I2 : Inv X pins σ H1 { s1 with heap := h1, toks := s1.toks } := I1.kept k1
  refine ⟨s1.heap.objs.size + 1, [s1.heap.objs.size + 1, s1.heap.objs.size], _, _, H1, rfl, I2, turn_enum l _ _ (Nat.succ_ne_self _), ⟨⟨_, e1⟩, i1⟩, fun b hb => ?_, q⟩
  have hb' : s1.heap.objs.size ≤ b := by
    simp only [List.mem_cons, List.not_mem_nil, or_false] at hb
    rcases hb with rfl | rfl <;> omega
  exact I1.fpOk hb' (I1.hok.fresh hb')
end
section
variable {X : Cx}
end
end Internal

set_option Elab.async false
set_option linter.all false
set_option maxRecDepth 100000
namespace Internal
open PySem PySem.Spec PyProof.Rows
section
variable {X : Cx}
end
noncomputable def Src (J : It) (P : Hp → Prop) (n : Nat) (Y : Nat → V → Hp → Prop) : Prop :=
  (∀ i H, P H → i < n → J.go i H) ∧ (∀ H, P H → J.stop n H) ∧ ∀ i H x H', P H → i < n → J.yld i H x H' → Same H H' ∧ Y i x H'
theorem lt_some {α : Type} {xs : List α} {i : Nat} (h : i < xs.length) : ∃ x, xs[i]? = some x := ⟨xs[i], by simp [h]⟩
theorem src_enum {K : PySem.W.Frag} {a : Addr} {xs : List V} : Src (Itn K a) (fun H => SqL K H a xs) xs.length (fun i x H => ∃ p v, x = .ref p ∧ xs[i]? = some v ∧ H p = some (.tup [.int i, v])) :=
  ⟨fun i H h hi => by obtain ⟨x, hx⟩ := lt_some hi; exact ⟨xs, x, h, hx⟩, fun H h => ⟨xs, h, Nat.le_refl _⟩, fun i H x H' h hi ⟨p, v, hp, q, r, z⟩ => by subst z; exact ⟨Same.new hp _, p, v, q, r xs h, upd_same⟩⟩
section
variable {σ : St} {H : Hp} {Q : VK} {D : Ends} {ta tb tc te to ti : TE} {t u : TS} {K : PySem.W.Frag}
theorem x_forS {J : It} {P : Hp → Prop} {n : Nat} {Y : Nat → V → Hp → Prop} {g : TG} {tb : TS} (S : Src J P n Y) (Pv : Nat → St → Hp → Prop) (h0 : Pv 0 σ H) (hk : ∀ i σ H, Pv i σ H → P H)
    (hs : ∀ i x σ H H', i < n → Pv i σ H → Same H H' → Y i x H' → g x σ H' fun σ2 H2 => tb { D with nx := Pv (i + 1), ct := Pv (i + 1), bk := D.nx } σ2 H2) (hd : ∀ σ H, Pv n σ H → D.nx σ H) : ForK J g tb D σ H := by
  refine ⟨fun i m σ H => m = n - i ∧ i ≤ n ∧ Pv i σ H, ⟨n, by simp, Nat.zero_le _, h0⟩, ?_⟩
  rintro i m σ H ⟨rfl, hi, p⟩
  by_cases hlt : i < n
  · refine .inr ⟨S.1 i H (hk i σ H p) hlt, Pv (i + 1), fun σ' H' q => ⟨n - (i + 1), by omega, rfl, hlt, q⟩, fun x H' y => ?_⟩
    obtain ⟨e, y'⟩ := S.2.2 i H x H' (hk i σ H p) hlt y
    exact hs i x σ H H' hlt p e y'
  · have : i = n := by omega
    subst this
    exact .inl ⟨S.2.1 H (hk i σ H p), hd σ H p⟩
noncomputable def CompK (J : It) (caps : List (Option Nat)) (g : TG) (tf : TT) (te : TE) (σ : St) (Q : VK) (H1 : Hp) : Prop := ∀ D, H1 D = none →
  ∃ W : Nat → Nat → St → Hp → Prop, (∃ m, W 0 m (capSt caps σ) (upd H1 D (.lst []))) ∧ ∀ i m σ' H', W i m σ' H' →
    (J.stop i H' ∧ Q (.ref D) H') ∨ (J.go i H' ∧ ∃ N : St → Hp → Prop, (∀ σ2 H2, N σ2 H2 → ∃ m', m' < m ∧ W (i + 1) m' σ2 H2) ∧
      ∀ x H2, J.yld i H' x H2 → g x σ' H2 fun σ1 H3 => tf σ1 H3 fun b H4 => if b = true then te σ1 H4 fun v H5 => rAppend (.ref D) [v] H5 fun _ H6 => N σ1 H6 else N σ1 H4)
theorem x_comp {wi : TI} {caps : List (Option Nat)} {g : TG} {tf : TT} {te : TE} (q : wi σ H fun J H1 => CompK J caps g tf te σ Q H1) : tComp wi caps g tf te σ H Q := q
noncomputable def CompN (H : Hp) (Sv : St → Prop) (Pv : Nat → List V → Hp → Prop) (D : Addr) (i : Nat) (σ' : St) (H' : Hp) : Prop := Sv σ' ∧ Same H H' ∧ ∃ vs, H' D = some (.lst vs) ∧ vs.length ≤ i ∧ Pv i vs H'
theorem x_compS {J : It} {P : Hp → Prop} {n : Nat} {Y : Nat → V → Hp → Prop} {caps : List (Option Nat)} {g : TG} {tf : TT} {te : TE} (S : Src J P n Y) (e0 : ∀ H', Same H H' → P H') (Sv : St → Prop) (Pv : Nat → List V → Hp → Prop) (hc : Sv (capSt caps σ)) (h0 : ∀ H', Same H H' → Pv 0 [] H')
    (hs : ∀ i x D vs σ' H' H2, i < n → H D = none → Sv σ' → Same H H' → H' D = some (.lst vs) → vs.length ≤ i → Pv i vs H' → Same H' H2 → Y i x H2 → g x σ' H2 fun σ1 H3 => tf σ1 H3 fun b H4 => if b = true then te σ1 H4 fun v H5 => rAppend (.ref D) [v] H5 fun _ H6 => CompN H Sv Pv D (i + 1) σ1 H6 else CompN H Sv Pv D (i + 1) σ1 H4)
    (hq : ∀ D H' vs, H D = none → Same H H' → H' D = some (.lst vs) → vs.length ≤ n → Pv n vs H' → Q (.ref D) H') : CompK J caps g tf te σ Q H := by
  intro D hD
  refine ⟨fun i m σ' H' => m = n - i ∧ i ≤ n ∧ CompN H Sv Pv D i σ' H', ⟨n, by simp, Nat.zero_le _, hc, Same.new hD _, [], upd_same, Nat.le_refl _, h0 _ (Same.new hD _)⟩, ?_⟩
  rintro i m σ' H' ⟨rfl, hi, sv, e, vs, hv, hl, p⟩
  by_cases hlt : i < n
  · refine .inr ⟨S.1 i H' (e0 _ e) hlt, CompN H Sv Pv D (i + 1), fun σ2 H2 q => ⟨n - (i + 1), by omega, rfl, hlt, q⟩, fun x H2 y => ?_⟩
    obtain ⟨e', y'⟩ := S.2.2 i H' x H2 (e0 _ e) hlt y
    exact hs i x D vs σ' H' H2 hlt hD sv e hv hl p e' y'
  · have : i = n := by omega
    subst this
    exact .inl ⟨S.2.1 H' (e0 _ e), hq D H' vs hD e hv hl p⟩
theorem x_compS2 {J : It} {P : Hp → Prop} {n : Nat} {Y : Nat → V → Hp → Prop} {caps : List (Option Nat)} {g : TG} {tf : TT} {te : TE} {rest : St} (S : Src J P n Y) (e0 : ∀ H', Same H H' → P H') (hc : capSt caps σ = none :: none :: rest) (Pv : Nat → List V → Hp → Prop) (h0 : ∀ H', Same H H' → Pv 0 [] H')
    (hs : ∀ i x D vs o o' H' H2, i < n → H D = none → Same H H' → H' D = some (.lst vs) → vs.length ≤ i → Pv i vs H' → Same H' H2 → Y i x H2 → g x (o :: o' :: rest) H2 fun σ1 H3 => tf σ1 H3 fun b H4 => if b = true then te σ1 H4 fun v H5 => rAppend (.ref D) [v] H5 fun _ H6 => CompN H (fun σ' => ∃ o o', σ' = o :: o' :: rest) Pv D (i + 1) σ1 H6 else CompN H (fun σ' => ∃ o o', σ' = o :: o' :: rest) Pv D (i + 1) σ1 H4)
    (hq : ∀ D H' vs, H D = none → Same H H' → H' D = some (.lst vs) → vs.length ≤ n → Pv n vs H' → Q (.ref D) H') : CompK J caps g tf te σ Q H :=
  x_compS S e0 (fun σ' => ∃ o o', σ' = o :: o' :: rest) Pv ⟨_, _, hc⟩ h0 (fun i x D vs σ' H' H2 a1 a2 ⟨o, o', a3⟩ a4 a5 a6 a7 a8 a9 => by subst a3; exact hs i x D vs o o' H' H2 a1 a2 a4 a5 a6 a7 a8 a9) hq
theorem x_enumk {R : It → Hp → Prop} {a : Addr} {xs : List V} (h : SqL K H a xs) (q : R (Itn K a) H) : rEnum K R [.ref a] H := ⟨a, rfl, ⟨xs, h⟩, q⟩
theorem x_gTup {a : Addr} {xs : List V} {n : Nat} {t : TGs} {R : St → Hp → Prop} (h : H a = some (.tup xs)) (hn : xs.length = n) (q : t xs σ H R) : gTup K n t (.ref a) σ H R := ⟨a, xs, rfl, SqT.of h, hn, q⟩
theorem x_gCons {v : V} {r : List V} {t : TG} {u : TGs} {R : St → Hp → Prop} (q : t v σ H fun σ' H' => u r σ' H' R) : gCons t u (v :: r) σ H R := ⟨v, r, rfl, q⟩
theorem x_gNil {R : St → Hp → Prop} (q : R σ H) : gNil [] σ H R := ⟨rfl, q⟩
theorem x_catN {l b : Addr} {xs zs : List V} (h : H l = some (.lst xs)) (h' : H b = some (.lst zs)) (hz : xs.length + zs.length ≤ 100000) (q : ∀ p H', H p = none → Same H H' → H' p = some (.lst (xs ++ zs)) → Q (.ref p) H') : rAddU K (.ref l) (.ref b) H Q :=
  .inr (.inl ⟨l, b, xs, zs, rfl, rfl, h, h', small_le hz, fun p hp => q p _ hp (Same.new hp _) upd_same⟩)
end
theorem x_iteY {p : Prop} [Decidable p] {A B : Prop} (h : p) (a : A) : if decide p = true then A else B := by rw [decide_eq_true h]; exact x_iteT a
theorem x_iteZ {p : Prop} [Decidable p] {A B : Prop} (h : ¬ p) (b : B) : if decide p = true then A else B := by rw [decide_eq_false h]; exact x_iteF b
theorem x_iteNY {p : Prop} [Decidable p] {A B : Prop} (h : p) (b : B) : if (!decide p) = true then A else B := by rw [decide_eq_true h]; exact x_iteF b
theorem x_iteNZ {p : Prop} [Decidable p] {A B : Prop} (h : ¬ p) (a : A) : if (!decide p) = true then A else B := by rw [decide_eq_false h]; exact x_iteT a
section
variable {α : Type} {f : α → List V}
noncomputable def IsTs (f : α → List V) (H : Hp) : List V → List α → Prop
  | [], [] => True
  | v :: vs, x :: xs => (∃ a, v = .ref a ∧ H a = some (.tup (f x))) ∧ IsTs f H vs xs
  | _, _ => False
noncomputable def Tups (H H' : Hp) : Prop := ∀ a xs, H a = some (.tup xs) → H' a = some (.tup xs)
theorem Same.tups {H H' : Hp} (e : Same H H') : Tups H H' := fun a xs h => e a _ h
theorem LBut.tups {l : Addr} {H H' : Hp} (e : LBut l H H') : Tups H H' := fun a xs h => e.tup h
theorem IsTs.keep {H H' : Hp} (e : Tups H H') : ∀ {vs : List V} {xs : List α}, IsTs f H vs xs → IsTs f H' vs xs
  | [], [], _ => trivial
  | _ :: _, _ :: _, ⟨⟨a, q, h⟩, r⟩ => ⟨⟨a, q, e a _ h⟩, r.keep e⟩
theorem IsTs.same {H H' : Hp} {vs : List V} {xs : List α} (h : IsTs f H vs xs) (e : Same H H') : IsTs f H' vs xs := h.keep e.tups
theorem LBut.isTs {l : Addr} {H H' : Hp} {vs : List V} {xs : List α} (e : LBut l H H') (h : IsTs f H vs xs) : IsTs f H' vs xs := h.keep e.tups
theorem IsTs.length {H : Hp} : ∀ {vs : List V} {xs : List α}, IsTs f H vs xs → vs.length = xs.length
  | [], [], _ => rfl
  | _ :: _, _ :: _, ⟨_, r⟩ => by rw [List.length_cons, List.length_cons, r.length]
theorem IsTs.app {H : Hp} {a : Addr} {x : α} (h : H a = some (.tup (f x))) : ∀ {vs : List V} {xs : List α}, IsTs f H vs xs → IsTs f H (vs ++ [.ref a]) (xs ++ [x])
  | [], [], _ => ⟨⟨a, rfl, h⟩, trivial⟩
  | _ :: _, _ :: _, ⟨q, r⟩ => ⟨q, r.app h⟩
theorem IsTs.get {H : Hp} : ∀ {vs : List V} {xs : List α} {i : Nat} {v : V}, IsTs f H vs xs → vs[i]? = some v → ∃ a x, v = .ref a ∧ xs[i]? = some x ∧ H a = some (.tup (f x))
  | _ :: _, x :: _, 0, _, ⟨⟨a, q, h⟩, _⟩, e => by cases e; exact ⟨a, x, q, rfl, h⟩
  | _ :: _, _ :: _, i + 1, _, ⟨_, r⟩, e => by obtain ⟨a, x, q, e', h⟩ := r.get (i := i) e; exact ⟨a, x, q, e', h⟩
theorem IsTs.getI {H : Hp} {vs : List V} {xs : List α} {i : Nat} {x : α} (h : IsTs f H vs xs) (e : xs[i]? = some x) : ∃ a, vs[i]? = some (.ref a) ∧ H a = some (.tup (f x)) := by
  have hi : i < vs.length := by rw [h.length]; exact (List.getElem?_eq_some_iff.mp e).1
  obtain ⟨v, hv⟩ := lt_some hi
  obtain ⟨a, y, q, e', h'⟩ := h.get hv
  rw [e] at e'; cases e'
  exact ⟨a, by rw [hv, q], h'⟩
end
noncomputable def vec (n : Nat) (f : Nat → Int) : List Int := (List.range n).map f
theorem rep_ints {K : PySem.W.Frag} {H : Hp} : ∀ ns : List Int, RepAll K H (ns.map V.int) (ns.map PyData.int)
  | [] => .nil
  | n :: ns => .cons (.int n) (rep_ints ns)
theorem depth_ints : ∀ ns : List Int, PyData.depthAll (ns.map PyData.int) = 0
  | [] => by simp [PyData.depthAll]
  | n :: ns => by rw [List.map_cons, PyData.depthAll, depth_ints ns]; simp [PyData.depth]
theorem lay_ints : ∀ ns : List Int, PyData.canLayAll0 (ns.map PyData.int) = true
  | [] => by simp [PyData.canLayAll0]
  | n :: ns => by rw [List.map_cons, PyData.canLayAll0, lay_ints ns]; simp [PyData.canLay0]
theorem depth_list {ds : List PyData} : (PyData.list ds).depth = PyData.depthAll ds + 1 := by simp [PyData.depth]; try omega
section
variable {H : Hp} {Q : VK} {K : PySem.W.Frag}
theorem eqv_intsT {ns ms : List Int} (h : ns = ms) : PyData.eqv (.list (ns.map PyData.int)) (.list (ms.map PyData.int)) = true := by
  subst h; exact PySem.SeqAt.eqv_refl _ (by rw [PyData.canLay0]; exact lay_ints ns)
theorem x_eqInts {a b : Addr} {ns ms : List Int} (h1 : SqL K H a (ns.map V.int)) (h2 : SqL K H b (ms.map V.int)) (e : ns = ms) (q : Q (.bl true) H) : rEqU K (.ref a) (.ref b) H Q :=
  x_eqD (.lst h1 (rep_ints ns)) (.lst h2 (rep_ints ms)) (by rw [depth_list, depth_ints]; omega) (by rw [eqv_intsT e]; exact q)
theorem x_neInts {a b : Addr} {ns ms : List Int} (h1 : SqL K H a (ns.map V.int)) (h2 : SqL K H b (ms.map V.int)) (e : ns = ms) (q : Q (.bl false) H) : rNeU K (.ref a) (.ref b) H Q :=
  x_neD (.lst h1 (rep_ints ns)) (.lst h2 (rep_ints ms)) (by rw [depth_list, depth_ints]; omega) (by rw [eqv_intsT e]; exact q)
end
end Internal

set_option Elab.async false
set_option linter.all false
set_option maxRecDepth 100000
namespace Internal
open PySem PySem.Spec PyProof.Rows
section
variable {σ : St} {H : Hp} {Q : VK} {D : Ends} {K : PySem.W.Frag}
theorem x_ixTs {a : Addr} {xs : List V} {i : Int} {v : V} (h : H a = some (.tup xs)) (e : atI xs i = some v) (q : Q v H) : rIx K (.ref a) (.int i) H Q := x_ixT (.of h) e q
end
set_option genInjectivity false in
set_option genSizeOf false in
structure Due where
  p : Int
  q : Int
  r : Int
  a : Int
theorem take_snoc {α : Type} {xs : List α} {i : Nat} {x : α} (h : xs[i]? = some x) : xs.take (i + 1) = xs.take i ++ [x] := by
  obtain ⟨hi, rfl⟩ := List.getElem?_eq_some_iff.mp h
  exact List.take_succ_eq_append_getElem hi
section
variable {K : PySem.W.Frag} {H : Hp} {Q : VK} {E : XK} {n : Int} {a : Addr} {ds : List Due}
end
end Internal

set_option Elab.async false
set_option linter.all false
set_option maxRecDepth 100000
namespace Internal
open PySem PySem.Spec PyProof.Rows
noncomputable def Rows (H : Hp) (as : List Addr) (k : Nat) (F : Nat → Nat → Int) : Prop := as.Nodup ∧ ∀ i a, as[i]? = some a → H a = some (.lst ((vec k (F i)).map V.int))
section
variable {H H' : Hp} {as bs : List Addr} {k : Nat} {F G : Nat → Nat → Int} {K : PySem.W.Frag} {Q : VK}
theorem nodup_get {i j : Nat} {a : Addr} (n : as.Nodup) (h : as[i]? = some a) (h' : as[j]? = some a) : i = j := by
  obtain ⟨hi, e⟩ := List.getElem?_eq_some_iff.mp h
  obtain ⟨hj, e'⟩ := List.getElem?_eq_some_iff.mp h'
  exact (List.getElem_inj n).mp (e.trans e'.symm)
theorem x_ixRow {l a : Addr} {p : Int} (h : H l = some (.lst (as.map V.ref))) (h0 : 0 ≤ p) (e : as[p.toNat]? = some a) (q : Q (.ref a) H) : rIx K (.ref l) (.int p) H Q := x_ixLs h (atI_lt h0 (by rw [List.getElem?_map, e]; rfl)) q
end
end Internal

set_option linter.all false
namespace My
section
variable (ch : Nat → Bool) (x : Nat → Int) (L : Int)
noncomputable def rest : Nat → Int
  | 0 => L
  | i + 1 => if ch i = true ∧ rest i > 0 then rest i - 1 else rest i
noncomputable def more (i : Nat) : Int := if ch i = true ∧ rest ch L i > 0 then x i + 1 else x i
variable {ch x L}
end
end My

set_option Elab.async false
set_option linter.all false
set_option maxRecDepth 100000
namespace Internal
open PySem PySem.Spec PyProof.Rows
noncomputable def big : Int := 1000000000000000000000000000000000000000000000000000000000000
end Internal

set_option Elab.async false
set_option linter.all false
set_option maxRecDepth 100000
namespace Internal
open PySem PySem.Spec PyProof.Rows
end Internal

set_option Elab.async false
set_option linter.all false
set_option maxRecDepth 100000
namespace Internal
open PySem PySem.Spec PyProof.Rows
section
variable {X : Cx}
end
section
variable {H : Hp} {Q : VK} {K : PySem.W.Frag}
theorem in_ints {i : Int} : ∀ ns : List Int, inV (.int i) (ns.map V.int) = decide (i ∈ ns)
  | [] => by simp [inV]
  | n :: ns => by
    have ih := in_ints (i := i) ns
    unfold inV at ih ⊢
    rw [List.map_cons, List.any_cons, ih]
    show ((n == i) || _) = _
    by_cases h : n = i
    · subst h; simp
    · have : ¬ i = n := fun z => h z.symm
      simp [h, this]
end
noncomputable def useful (g : Nat → Bool) (m : Nat) (d : Due) : Prop := d.p = (m : Int) ∧ 0 < d.a ∧ g d.p.toNat = true ∧ g d.q.toNat = true
noncomputable instance {g : Nat → Bool} {m : Nat} {d : Due} : Decidable (useful g m d) := by unfold useful; infer_instance
theorem x_isNone {A : Prop} (q : A) : V.non = V.non ∧ A := ⟨rfl, q⟩
set_option genInjectivity false in
set_option genSizeOf false in
structure Lined (n : Nat) (ds : List Due) (ls : List Int) : Prop where
  nd : ls.Nodup
  lt : ∀ x ∈ ls, 0 ≤ x ∧ x < n
  up : ∀ d ∈ ds, 0 < d.a → ∀ j : Nat, ls[j]? = some d.q → ∃ i : Nat, i < j ∧ ls[i]? = some d.p
end Internal

set_option Elab.async false
set_option linter.all false
set_option maxRecDepth 100000
namespace Internal
open PySem PySem.Spec PyProof.Rows
section
variable {X : Cx} {tg : Expr}
end
theorem x_inT2 {K : PySem.W.Frag} {H : Hp} {Q : VK} {a : Addr} {i j k : Int} (h : H a = some (.tup [.int j, .int k])) (q : Q (.bl (decide (i ∈ [j, k]))) H) : rIn K false (.int i) (.ref a) H Q :=
  ⟨a, [.int j, .int k], rfl, .inr (.of h), rfl, rfl, by rw [if_neg Bool.false_ne_true, show inV (.int i) [.int j, .int k] = inV (.int i) ([j, k].map V.int) from rfl, in_ints]; exact q⟩
end Internal

set_option Elab.async false
set_option linter.all false
set_option maxRecDepth 100000
namespace Internal
open PySem PySem.Spec PyProof.Rows
section
variable {K : PySem.W.Frag} {σ : St} {H : Hp} {Q : VK} {D : Ends} {a C dx : Addr} {fs : List (Str × V)} {f m : Str}
noncomputable def rFld (K : PySem.W.Frag) (f : Str) (Q : VK) (x : V) (H : Hp) : Prop := ∃ a C dx fs v, x = .ref a ∧ H a = some (.ins C dx fs) ∧ Cls K C ∧ NoAttr K C f ∧ fs.lookup f = some v ∧ Q v H
theorem x_fld {ta : TE} (q : ta σ H (rFld K f Q)) : tFld K ta f σ H Q := q
theorem x_fldk {v : V} (h : H a = some (.ins C dx fs)) (c : Cls K C) (n : NoAttr K C f) (l : fs.lookup f = some v) (q : Q v H) : rFld K f Q (.ref a) H := ⟨a, C, dx, fs, v, rfl, h, c, n, l, q⟩
noncomputable def rSFld (K : PySem.W.Frag) (f : Str) (R : Hp → Prop) (y x : V) (H : Hp) : Prop := ∃ a C dx fs, x = .ref a ∧ H a = some (.ins C dx fs) ∧ Cls K C ∧ NoAttr K C f ∧ fs.length < 1000 ∧ R (upd H a (.ins C dx (putF f y fs)))
theorem x_sfld {ta tv : TE} (q : tv σ H fun y H1 => ta σ H1 (rSFld K f (D.nx σ) y)) : sFld K ta tv f D σ H := q
theorem x_sfldk {R : Hp → Prop} {y : V} (h : H a = some (.ins C dx fs)) (c : Cls K C) (n : NoAttr K C f) (hl : fs.length < 1000) (q : ∀ H', But a H H' → H' a = some (.ins C dx (putF f y fs)) → R H') : rSFld K f R y (.ref a) H :=
  ⟨a, C, dx, fs, rfl, h, c, n, hl, q _ But.upd upd_same⟩
noncomputable def rMeth (C : Addr) (m : Str) (sp : Sp) (E : XK) (t : TA) (σ : St) (Q : VK) (x : V) (H : Hp) : Prop := ∃ a dx fs, x = .ref a ∧ H a = some (.ins C dx fs) ∧ fs.lookup m = none ∧ t σ H fun vs H2 => sp (x :: (vs ++ [])) H2 Q E
theorem x_meth {sp : Sp} {E : XK} {ta : TE} {t : TA} (q : ta σ H (rMeth C m sp E t σ Q)) : tMeth C m sp [] E ta t σ H Q := q
theorem x_methk {sp : Sp} {E : XK} {t : TA} (h : H a = some (.ins C dx fs)) (l : fs.lookup m = none) (q : t σ H fun vs H2 => sp (.ref a :: vs) H2 Q E) : rMeth C m sp E t σ Q (.ref a) H := by
  refine ⟨a, dx, fs, rfl, h, l, ?_⟩
  simp only [List.append_nil]
  exact q
noncomputable def rMake (C : Addr) (sp : Sp) (E : XK) (Q : VK) (vs : List V) (H1 : Hp) : Prop := ∀ x dx, H1 x = none → H1 dx = none → dx ≠ x → sp (.ref x :: (vs ++ [])) (upd (upd H1 dx (.own x)) x (.ins C dx [])) (fun v H2 => v = .non ∧ Q (.ref x) H2) E
theorem x_make {sp : Sp} {E : XK} {t : TA} (q : t σ H (rMake C sp E Q)) : tMake C sp [] E t σ H Q := q
theorem x_makek {sp : Sp} {E : XK} {vs : List V} (q : ∀ x dx H', H x = none → Same H H' → H' x = some (.ins C dx []) → sp (.ref x :: vs) H' (fun v H2 => v = .non ∧ Q (.ref x) H2) E) : rMake C sp E Q vs H := fun x dx hx hd ne => by
  rw [List.append_nil]
  exact q x dx _ hx ((Same.new hd _).trans (Same.new (by rw [upd_ne ne.symm]; exact hx) _)) upd_same
end
noncomputable def rMethR (C : Addr) (m : Str) (sp : Sp) (t : TA) (σ : St) (Q : VK) (Eh : Addr → Hp → Prop) (x : V) (H : Hp) : Prop := ∃ a dx fs, x = .ref a ∧ H a = some (.ins C dx fs) ∧ fs.lookup m = none ∧ t σ H fun vs H2 => sp (x :: vs) H2 Q fun cls _ H3 => ∃ C', cls = .ref C' ∧ Eh C' H3
noncomputable abbrev tMethR (C : Addr) (m : Str) (sp : Sp) (ta : TE) (t : TA) : TEr := fun σ H Q Eh => ta σ H (rMethR C m sp t σ Q Eh)
theorem x_methRk {σ : St} {H : Hp} {Q : VK} {Eh : Addr → Hp → Prop} {a dx C : Addr} {fs : List (Str × V)} {m : Str} {sp : Sp} {t : TA} (h : H a = some (.ins C dx fs)) (l : fs.lookup m = none) (q : t σ H fun vs H2 => sp (.ref a :: vs) H2 Q fun cls _ H3 => ∃ C', cls = .ref C' ∧ Eh C' H3) : rMethR C m sp t σ Q Eh (.ref a) H := ⟨a, dx, fs, rfl, h, l, q⟩
theorem per_meth {X : Cx} {pl : Sem Bool} {k : Nat} {f C : Addr} {fd : FuncData} {ps : List Str} {sp : Sp} {m : Str} {apos pos : Pos} {o e : Expr} {es : List Expr} {ta : TE} {t : TA} (he : PE X.nox o ta) (c : Cls X.K C) (hm : Meth X.K C m f) (F : FnOk X.prog X.w X.K X.mg X.base (CXF X.prog X.w) k f fd ps sp) (hr : Room k X.A) (hb : Binds X.K fd ps [])
    (ha : PA X.nox (e :: es) t) (hst : autoParam (starEach (e :: es) X.env = (false, eval e X.env) :: starEach es X.env) Internal.aut2._auto_1) (hpl : autoParam ((backTo pos (starEach es X.env)).any (·.1) = false) Internal.aut2._auto_1)
    (ht : autoParam (eval (.Call (.Attribute o m apos) (e :: es) [] pos) X.env = (do
      let ov ← eval o X.env
      standAt apos.atName
      let (f, first) ← holding [ov] (getMethod ov m pl)
      callWith pos f first (backTo pos (starEach (e :: es) X.env)) (backToKw pos (keywordEach [] X.env)))) Internal.aut2._auto_1) : PEr X (.Call (.Attribute o m apos) (e :: es) [] pos) (tMethR C m sp ta t) := by
  intro pins s σ H Q Eh I h
  refine PySem.W.methodCall_KW (pl := pl) (wpAny_mono (he pins s σ H _ (I.wish _) h) (fun u s1 q => ?_) fun _ _ z => z.elim) ht
  obtain ⟨x, H1, J1, rx, a, dx, fs, ex, ea, l, q⟩ := q
  have I1 := J1.unwish
  subst ex
  obtain rfl : u = Value.ref a := rx
  refine getmeth_ok I1 ea c hm l ?_
  refine PySem.W.callWith_K (first := [.ref a]) (h₀ := X.base) I.ok.mod.kin hm.kp (wpAny_mono (ha pos pins s1 σ H1 _ (I1.wish _) q) (fun us s2 q2 => ?_) fun _ _ z => z.elim) hst hpl
  obtain ⟨vs, H2, J2, r, q2⟩ := q2
  have I2 := J2.unwish
  refine ⟨I2.kIn, ?_⟩
  have r2 : Vals (V.ref a :: vs) (Value.ref a :: us) := .cons rfl r
  have hlen : (Value.ref a :: us).length = ps.length := by rw [← r2.length]; exact F.len _ _ _ _ q2
  have hbd := hb s2 (.ref a :: us) I2.kIn (by rw [List.append_nil]; exact hlen)
  rw [List.append_nil] at hbd
  refine wpAny_call (codeAny_mono (F.run X.A X.stack s2 H2 ⟨.ref a :: us, []⟩ (.ref a :: us) (.ref a :: vs) _ _ hr I2.env0 hbd r2 q2) fun res s' hq => ?_)
  cases res with
  | error er0 =>
    obtain ⟨er, C, t, B, H3, rfl, fl, C', ec, hh⟩ := hq
    cases ec
    exact ⟨σ, H2, s2, er, C, t, B, H3, I2, rfl, fl, rfl, hh⟩
  | ok fw =>
    cases fw with
    | ret u => exact I2.after hq
    | next => exact hq.elim
    | brk => exact hq.elim
    | cont => exact hq.elim
theorem src_tup {K : PySem.W.Frag} {a : Addr} {xs : List V} : Src (Itt K a) (fun H => SqT K H a xs) xs.length (fun i x _ => xs[i]? = some x) :=
  ⟨fun i H h hi => by obtain ⟨x, hx⟩ := lt_some hi; exact ⟨xs, x, h, hx⟩, fun H h => ⟨xs, h, Nat.le_refl _⟩, fun i H x H' h hi ⟨q, r⟩ => by subst q; exact ⟨Same.refl _, r xs h⟩⟩
noncomputable def rItT (K : PySem.W.Frag) (R : It → Hp → Prop) (x : V) (H : Hp) : Prop := ∃ a, x = .ref a ∧ (∃ xs, SqT K H a xs) ∧ R (Itt K a) H
theorem x_itT {K : PySem.W.Frag} {σ : St} {H : Hp} {R : It → Hp → Prop} {tl : TE} (q : tl σ H (rItT K R)) : iTup K tl σ H R := q
theorem x_itTk {K : PySem.W.Frag} {H : Hp} {R : It → Hp → Prop} {a : Addr} {xs : List V} (h : SqT K H a xs) (q : R (Itt K a) H) : rItT K R (.ref a) H := ⟨a, rfl, ⟨xs, h⟩, q⟩
theorem x_cutT {K : PySem.W.Frag} {H : Hp} {Q : VK} {a : Addr} {xs : List V} {lo hi : Option Int} (h : H a = some (.tup xs)) (hw : ¬ (HT.sIx xs.length 0 lo = 0 ∧ HT.sIx xs.length xs.length hi = xs.length)) (q : ∀ p H', H p = none → Same H H' → H' p = some (.tup (cutV xs lo hi)) → Q (.ref p) H') : rSlT K (.ref a) lo hi H Q :=
  ⟨a, xs, rfl, .of h, hw, fun p hp => q p _ hp (Same.new hp _) upd_same⟩
theorem x_catT {K : PySem.W.Frag} {H : Hp} {Q : VK} {a b : Addr} {xs ys : List V} (h : H a = some (.tup xs)) (h' : H b = some (.tup ys)) (hx : xs ≠ []) (hy : ys ≠ []) (hz : xs.length + ys.length ≤ 100000) (q : ∀ p H', H p = none → Same H H' → H' p = some (.tup (xs ++ ys)) → Q (.ref p) H') : rAddU K (.ref a) (.ref b) H Q :=
  .inr (.inr ⟨a, b, xs, ys, rfl, rfl, .of h, .of h', hx, small_le hz, fun z => absurd z hy, fun _ p hp => q p _ hp (Same.new hp _) upd_same⟩)
theorem x_eqS {K : PySem.W.Frag} {H : Hp} {Q : VK} {x y : Str} (q : Q (.bl (decide (x = y))) H) : rEqU K (.str x) (.str y) H Q := .inr ⟨rfl, by rw [show decide (V.str x = V.str y) = decide (x = y) by simp]; exact q⟩
theorem x_neS {K : PySem.W.Frag} {H : Hp} {Q : VK} {x y : Str} (q : Q (.bl (!decide (x = y))) H) : rNeU K (.str x) (.str y) H Q := .inr ⟨rfl, by rw [show decide (V.str x = V.str y) = decide (x = y) by simp]; exact q⟩
end Internal

set_option Elab.async false
set_option linter.all false
set_option maxRecDepth 100000
namespace Internal
open PySem PySem.Spec PyProof.Rows
noncomputable def bfl (m w y : Int) (d : Addr) : List (Str × V) := putF "deals" (.ref d) (putF "day" (.int y) (putF "wares" (.int w) (putF "many" (.int m) [])))
section
variable {m w y : Int} {d : Addr}
theorem bfl_deals : (bfl m w y d).lookup ("deals" : Str) = some (.ref d) := by unfold bfl; rw [lookup_putF, if_pos rfl]
theorem bfl_day : (bfl m w y d).lookup ("day" : Str) = some (.int y) := by unfold bfl; rw [lookup_putF, if_neg (by decide +kernel), lookup_putF, if_pos rfl]
theorem bfl_wares : (bfl m w y d).lookup ("wares" : Str) = some (.int w) := by unfold bfl; rw [lookup_putF, if_neg (by decide +kernel), lookup_putF, if_neg (by decide +kernel), lookup_putF, if_pos rfl]
theorem bfl_many : (bfl m w y d).lookup ("many" : Str) = some (.int m) := by unfold bfl; rw [lookup_putF, if_neg (by decide +kernel), lookup_putF, if_neg (by decide +kernel), lookup_putF, if_neg (by decide +kernel), lookup_putF, if_pos rfl]
theorem bfl_no {n : Str} (h1 : ¬ n = "deals") (h2 : ¬ n = "day") (h3 : ¬ n = "wares") (h4 : ¬ n = "many") : (bfl m w y d).lookup n = none := by
  unfold bfl
  rw [lookup_putF, if_neg h1, lookup_putF, if_neg h2, lookup_putF, if_neg h3, lookup_putF, if_neg h4]
  rfl
end
set_option genInjectivity false in
set_option genSizeOf false in
structure T7 where
  p : Int
  q : Int
  w : Int
  u : Int
  a : Int
  y : Int
  r : Int
noncomputable def termV (t : T7) : List V := [.int t.p, .int t.q, .int t.w, .int t.u, .int t.a, .int t.y, .int t.r]
noncomputable def dealV (x : T7 × Str) : List V := termV x.1 ++ [.str x.2]
set_option genInjectivity false in
set_option genSizeOf false in
structure TermOk (m w y : Int) (t : T7) : Prop where
  p0 : 0 ≤ t.p
  p1 : t.p < m
  q0 : 0 ≤ t.q
  q1 : t.q < m
  pq : t.p ≠ t.q
  w0 : 0 ≤ t.w
  w1 : t.w < w
  u0 : 1 ≤ t.u
  u1 : t.u ≤ 1000000
  a0 : 1 ≤ t.a
  a1 : t.a ≤ 1000000000
  y0 : 0 ≤ t.y
  y1 : t.y ≤ 1000000
  r0 : 0 ≤ t.r
  r1 : t.r ≤ 2
  yd : y ≤ t.y
noncomputable def ButL (d : Addr) (H H' : Hp) : Prop := (∀ b o, b ≠ d → H b = some o → H' b = some o) ∧ ∃ xs, H d = some (.lst xs)
theorem ButL.at {d : Addr} {H H' : Hp} (g : ButL d H H') {a : Addr} {o : HO} (h : H a = some o) (n : a ≠ d) : H' a = some o := g.1 a o n h
theorem ButL.of {d : Addr} {H H1 H2 : Hp} {xs : List V} (h : H d = some (.lst xs)) (e : Same H H1) (g : LBut d H1 H2) : ButL d H H2 := ⟨fun b o n q => g.1.at (e b o q) n, xs, h⟩
theorem ButL.then {d : Addr} {H H1 H2 : Hp} (g : ButL d H H1) (e : Same H1 H2) : ButL d H H2 := ⟨fun b o n q => e b o (g.1 b o n q), g.2⟩
set_option genInjectivity false in
set_option genSizeOf false in
structure Bk (C : Addr) (H : Hp) (b d : Addr) (m w y : Int) (ts : List (T7 × Str)) : Prop where
  ob : ∃ dx, H b = some (.ins C dx (bfl m w y d))
  ds : ∃ xs, H d = some (.lst xs) ∧ IsTs dealV H xs ts
section
variable {C : Addr} {H H' : Hp} {b d : Addr} {m w y : Int} {ts : List (T7 × Str)}
theorem Bk.same (h : Bk C H b d m w y ts) (e : Same H H') : Bk C H' b d m w y ts := by
  obtain ⟨⟨dx, h1⟩, xs, h2, h3⟩ := h
  exact ⟨⟨dx, e.at h1⟩, xs, e.at h2, h3.same e⟩
theorem LBut.ins {l : Addr} (g : LBut l H H') {a C dx : Addr} {fs : List (Str × V)} (h : H a = some (.ins C dx fs)) : H' a = some (.ins C dx fs) := by
  obtain ⟨ys, e⟩ := g.2
  exact g.1.at h (ne_of h e (by intro z; cases z))
theorem Bk.but {l : Addr} (h : Bk C H b d m w y ts) (g : LBut l H H') (n : d ≠ l) : Bk C H' b d m w y ts := by
  obtain ⟨⟨dx, h1⟩, xs, h2, h3⟩ := h
  exact ⟨⟨dx, g.ins h1⟩, xs, g.lst h2 n, LBut.isTs g h3⟩
theorem Bk.app {H1 H2 : Hp} {t : T7 × Str} {a : Addr} {xs : List V} (h : Bk C H b d m w y ts) (hx : H d = some (.lst xs)) (e : Same H H1) (ha : H1 a = some (.tup (dealV t))) (g : LBut d H1 H2) (h2 : H2 d = some (.lst (xs ++ [.ref a]))) : Bk C H2 b d m w y (ts ++ [t]) := by
  obtain ⟨⟨dx, h1⟩, ys, h3, h4⟩ := h
  rw [hx] at h3; cases h3
  exact ⟨⟨dx, g.ins (e.at h1)⟩, _, h2, IsTs.app (f := dealV) (g.tup ha) (LBut.isTs g (h4.same e))⟩
end
noncomputable def spBInit (C : Addr) : Sp := fun vs H Q _ => ∃ (p dx : Addr) (m w : Int), vs = [.ref p, .int m, .int w] ∧ H p = some (.ins C dx []) ∧ ∀ d H', H d = none → (∀ b o, b ≠ p → H b = some o → H' b = some o) → H' p = some (.ins C dx (bfl m w 0 d)) → H' d = some (.lst []) → Q .non H'
noncomputable def spDealX (C CE : Addr) : Sp := fun vs H Q E => ∃ (b dx d : Addr) (m w y n : Int) (xs : List V), vs = [.ref b, .int n] ∧ H b = some (.ins C dx (bfl m w y d)) ∧ H d = some (.lst xs) ∧ ((0 ≤ n ∧ ∃ v, xs[n.toNat]? = some v ∧ Q v H) ∨ (¬ (0 ≤ n ∧ n < xs.length) ∧ E (.ref CE) none H))
noncomputable def spStruck (C : Addr) : Sp := fun vs H Q _ => ∃ (b dx d : Addr) (m w y : Int) (xs : List V), vs = [.ref b] ∧ H b = some (.ins C dx (bfl m w y d)) ∧ H d = some (.lst xs) ∧ Q (.int xs.length) H
noncomputable def spToday (C : Addr) : Sp := fun vs H Q _ => ∃ (b dx d : Addr) (m w y : Int), vs = [.ref b] ∧ H b = some (.ins C dx (bfl m w y d)) ∧ Q (.int y) H
noncomputable def spCellB (K : PySem.W.Frag) : Sp := fun vs H Q _ => ∃ (a : Addr) (ns : List Int) (k : Int), vs = [.ref a, .int k] ∧ SqL K H a (ns.map V.int) ∧ 0 ≤ k ∧ ∀ x, Q (.int x) H
theorem spCellB_i {K : PySem.W.Frag} {a : Addr} {ns : List Int} {k : Int} {H : Hp} {Q : VK} {E : XK} (hS : SqL K H a (ns.map V.int)) (h0 : 0 ≤ k) (q : ∀ x, Q (.int x) H) : spCellB K [.ref a, .int k] H Q E := ⟨a, ns, k, rfl, hS, h0, q⟩
noncomputable def spDrawB (K : PySem.W.Frag) : Sp := fun vs H Q _ => ∃ (a : Addr) (ns : List Int) (k n : Int), vs = [.ref a, .int k, .int n] ∧ SqL K H a (ns.map V.int) ∧ 0 ≤ k ∧ k ≤ 5000 ∧ 1 ≤ n ∧ ∀ x, 0 ≤ x → x < n → Q (.int x) H
theorem spDrawB_i {K : PySem.W.Frag} {a : Addr} {ns : List Int} {k n : Int} {H : Hp} {Q : VK} {E : XK} (hS : SqL K H a (ns.map V.int)) (h0 : 0 ≤ k) (h1 : k ≤ 5000) (n0 : 1 ≤ n) (q : ∀ x, 0 ≤ x → x < n → Q (.int x) H) : spDrawB K [.ref a, .int k, .int n] H Q E := ⟨a, ns, k, n, rfl, hS, h0, h1, n0, q⟩
noncomputable def spGreatB (K : PySem.W.Frag) : Sp := fun vs H Q _ => ∃ (a : Addr) (ns : List Int) (k n : Int), vs = [.ref a, .int k, .int n] ∧ SqL K H a (ns.map V.int) ∧ 0 ≤ k ∧ k ≤ 5000 ∧ 1 ≤ n ∧ n ≤ 1000000000000000000000000000000000000000000000000000 ∧ ∀ x, 0 ≤ x → x < n → Q (.int x) H
theorem spGreatB_i {K : PySem.W.Frag} {a : Addr} {ns : List Int} {k n : Int} {H : Hp} {Q : VK} {E : XK} (hS : SqL K H a (ns.map V.int)) (h0 : 0 ≤ k) (h1 : k ≤ 5000) (n0 : 1 ≤ n) (n1 : n ≤ 1000000000000000000000000000000000000000000000000000) (q : ∀ x, 0 ≤ x → x < n → Q (.int x) H) : spGreatB K [.ref a, .int k, .int n] H Q E := ⟨a, ns, k, n, rfl, hS, h0, h1, n0, n1, q⟩
theorem payeeB {p t n : Int} (p0 : 0 ≤ p) (p1 : p < n) (t0 : 0 ≤ t) (t1 : t < n - 1) : 0 ≤ (p + 1 + t) % n ∧ (p + 1 + t) % n < n ∧ p ≠ (p + 1 + t) % n := by
  refine ⟨Int.emod_nonneg _ (by omega), Int.emod_lt_of_pos _ (by omega), ?_⟩
  by_cases h : p + 1 + t < n
  · rw [Int.emod_eq_of_lt (by omega) h]; omega
  · rw [← Int.sub_emod_right, Int.emod_eq_of_lt (by omega) (by omega)]; omega
noncomputable def stand (t : T7) : T7 × Str := (t, ("standing" : Str))
theorem cut_le {xs : List V} {k : Nat} : (cutV xs none (some (k : Int))).length ≤ k := by
  unfold cutV
  rw [HT.sIx_nat, HT.sIx_none, List.length_take]
  omega
end Internal

set_option Elab.async false
set_option linter.all false
set_option maxRecDepth 100000
namespace Internal
open PySem PySem.Spec PyProof.Rows
noncomputable abbrev TAr := St → Hp → (List V → Hp → Prop) → (Addr → Hp → Prop) → Prop
noncomputable def PAr (X : Cx) (es : List Expr) (t : TAr) : Prop := ∀ (pos : Pos) (pins : List (Addr × Obj)) (s : Shared) (σ : St) (H : Hp) (Q : List V → Hp → Prop) (Eh : Addr → Hp → Prop), Inv X pins σ H s → t σ H Q Eh → wpAny (model X.prog X.w) X.A (spliced (backTo pos (starEach es X.env))) (AP X pins σ Q) (Caught X pins fun C σ' H' => σ' = σ ∧ Eh C H') s
section
variable {X : Cx} {pos : Pos}
noncomputable abbrev tLastR (te : TEr) : TAr := fun σ H Q Eh => te σ H (fun y H2 => Q [y] H2) Eh
noncomputable abbrev tConsR (tc : TE) (t : TAr) : TAr := fun σ H Q Eh => tc σ H fun x H1 => t σ H1 (fun xs H2 => Q (x :: xs) H2) Eh
noncomputable abbrev tTupR (t : TAr) : TEr := fun σ H Q Eh => t σ H (fun xs H1 => rTup Q xs H1) Eh
noncomputable abbrev tSetR (i : Nat) (te : TEr) : TTr := fun D Eh σ H => te σ H (fun y H2 => D.nx (σ.set i (some y)) H2) fun C H2 => Eh C σ H2
theorem par_last {e : Expr} {te : TEr} (he : PEr X e te) (hs : autoParam (starEach [e] X.env = [(false, eval e X.env)]) Internal.aut2._auto_1) : PAr X [e] (tLastR te) := by
  intro pos pins s σ H Q Eh I h
  rw [hs]
  show wpAny _ _ (spliced ((false, eval e X.env) :: backTo pos [])) _ _ s
  refine Calls.spliced_cons (wpAny_mono (he pins s σ H _ _ I h) (fun u s1 ⟨x, H1, I1, r1, q1⟩ => ?_) fun _ _ z => z)
  exact Calls.spliced_nil ⟨[x], H1, I1, .cons r1 .nil, q1⟩
theorem par_cons {c : Expr} {es : List Expr} {tc : TE} {t : TAr} (hc : PE X.nox c tc) (hr : PAr X es t) (hs : autoParam (starEach (c :: es) X.env = (false, eval c X.env) :: starEach es X.env) Internal.aut2._auto_1) : PAr X (c :: es) (tConsR tc t) := by
  intro pos pins s σ H Q Eh I h
  rw [hs]
  show wpAny _ _ (spliced ((false, eval c X.env) :: backTo pos (starEach es X.env))) _ _ s
  refine Calls.spliced_cons (wpAny_mono (hc pins s σ H _ (I.wish _) h) (fun u s1 ⟨x, H1, J1, r1, q1⟩ => ?_) fun _ _ z => z.elim)
  exact wpAny_mono (hr pos pins s1 σ H1 _ _ J1.unwish q1) (fun us s2 ⟨xs, H2, I2, r2, q2⟩ => ⟨x :: xs, H2, I2, .cons r1 r2, q2⟩) fun _ _ z => z
theorem per_tup {es : List Expr} {t : TAr} {x1} (h : PAr X es t) : PEr X (.Tuple es x1 pos) (tTupR t) := by
  intro pins s σ H Q Eh I hq
  refine wpAny_Tuple_spliced (wpAny_mono (h pos pins s σ H _ _ I hq) (fun us s1 ⟨xs, H1, I1, r, z, q⟩ => ⟨by rw [← r.length]; exact z, ?_⟩) fun _ _ z => z)
  have hf : H1 s1.heap.objs.size = none := I1.hok.fresh (Nat.le_refl _)
  refine ⟨.ref s1.heap.objs.size, upd H1 s1.heap.objs.size (.tup xs), I1.laid (t' := s1.toks) (fun b u e => Heap.get?_push_of_some _ e) (Nat.le_refl _) ?_, rfl, q _ hf⟩
  exact ⟨z, us, r, ⟨_, Heap.get?_push_size _ rfl, rfl, _, rfl⟩⟩
theorem ptr_set {i : Nat} {x : Str} {e : Expr} {te : TEr} {pos' : Pos} (hN : X.N.Nodup) (hi : X.N[i]? = some x) (hx : Loc X.env.scope x) (he : PEr X e te) (hs : autoParam (swapsWith e (some (.Name x pos')) pos.line X.env = pure false) Internal.aut2._auto_1) (hf : autoParam (X.fn x = true ∨ X.env.scope.names.lookup x = some .local) Internal.aut0._auto_1) :
    PTr X (.Assign [.Name x pos'] e pos) (tSetR i te) := by
  intro pins s σ H D Eh I h
  refine wpAny_Assign_Name (wpAny_mono (he pins s σ H _ _ I h) (fun v s1 ⟨y, H1, I1, r1, q1⟩ => ?_) fun e s1 zz => by obtain ⟨σ', H1, s2, er, C, t, B, H', I', e1, fl, e2, q⟩ := zz; exact ⟨σ', H1, s2, er, C, t, B, H', I', e1, fl, e2 ▸ q⟩) hs
  exact store_ok I1 hN hi hx r1 (fun s2 I2 => ⟨_, H1, I2, q1⟩) hf
end
section
variable {σ : St} {H : Hp} {D : Ends} {Eh : Addr → Hp → Prop} {Eg : Addr → St → Hp → Prop}
end
noncomputable def rAugF (K : PySem.W.Frag) (f : Str) (tv : TE) (rd : V → V → Hp → VK → Prop) (σ : St) (R : Hp → Prop) (x : V) (H1 : Hp) : Prop := ∃ a C dx fs v, x = .ref a ∧ H1 a = some (.ins C dx fs) ∧ Cls K C ∧ NoAttr K C f ∧ fs.lookup f = some v ∧
  tv σ H1 fun y H2 => rd v y H2 fun z H3 => ∃ dx' fs', H3 a = some (.ins C dx' fs') ∧ fs'.length < 1000 ∧ R (upd H3 a (.ins C dx' (putF f z fs')))
theorem x_augF {K : PySem.W.Frag} {f : Str} {ta tv : TE} {rd : V → V → Hp → VK → Prop} {D : Ends} {σ : St} {H : Hp} (q : ta σ H (rAugF K f tv rd σ (D.nx σ))) : sFldAug K ta tv rd f D σ H := q
end Internal

set_option Elab.async false
set_option linter.all false
set_option maxRecDepth 100000
namespace Internal
open PySem PySem.Spec PyProof.Rows
theorem ite_iff {p q : Prop} [Decidable p] [Decidable q] {α : Type} {a b : α} (h : p ↔ q) : (if p then a else b) = if q then a else b := by
  by_cases hp : p
  · rw [if_pos hp, if_pos (h.mp hp)]
  · rw [if_neg hp, if_neg fun z => hp (h.mpr z)]
noncomputable def MemOk (m p q : Int) : Prop := (0 ≤ p ∧ p < m) ∧ (0 ≤ q ∧ q < m) ∧ p ≠ q
noncomputable instance (m p q : Int) : Decidable (MemOk m p q) := inferInstanceAs (Decidable (_ ∧ _))
noncomputable def TrmOk (w : Int) (t : T7) : Prop := (0 ≤ t.w ∧ t.w < w) ∧ (1 ≤ t.u ∧ t.u ≤ 1000000) ∧ (1 ≤ t.a ∧ t.a ≤ 1000000000) ∧ (0 ≤ t.y ∧ t.y ≤ 1000000) ∧ (0 ≤ t.r ∧ t.r ≤ 2)
noncomputable instance (w : Int) (t : T7) : Decidable (TrmOk w t) := inferInstanceAs (Decidable (_ ∧ _))
noncomputable def dueK (m w y : Int) (t : T7) : Nat := if ¬ MemOk m t.p t.q then 1 else if ¬ TrmOk w t then 2 else if t.y < y then 3 else 0
theorem dueK_of {m w y : Int} {t : T7} (h : TermOk m w y t) : dueK m w y t = 0 := by
  unfold dueK
  rw [if_neg (Classical.not_not.mpr ⟨⟨h.p0, h.p1⟩, ⟨h.q0, h.q1⟩, h.pq⟩), if_neg (Classical.not_not.mpr ⟨⟨h.w0, h.w1⟩, ⟨h.u0, h.u1⟩, ⟨h.a0, h.a1⟩, ⟨h.y0, h.y1⟩, h.r0, h.r1⟩), if_neg (by have := h.yd; omega)]
theorem IsTs.set {α : Type} {f : α → List V} {H : Hp} {a : Addr} {x : α} (ha : H a = some (.tup (f x))) : ∀ {vs : List V} {xs : List α} (n : Nat), IsTs f H vs xs → IsTs f H (vs.set n (.ref a)) (xs.set n x)
  | [], [], _, _ => trivial
  | _ :: _, _ :: _, 0, ⟨_, h2⟩ => ⟨⟨a, rfl, ha⟩, h2⟩
  | _ :: _, _ :: _, n + 1, ⟨h1, h2⟩ => ⟨h1, IsTs.set ha n h2⟩
theorem bfl_eq (m w y : Int) (d : Addr) : bfl m w y d = [(("many" : Str), V.int m), (("wares" : Str), V.int w), (("day" : Str), V.int y), (("deals" : Str), V.ref d)] := by
  have h1 : ¬ (("many" : Str) = "wares") := by decide +kernel
  have h2 : ¬ (("many" : Str) = "day") := by decide +kernel
  have h3 : ¬ (("wares" : Str) = "day") := by decide +kernel
  have h4 : ¬ (("many" : Str) = "deals") := by decide +kernel
  have h5 : ¬ (("wares" : Str) = "deals") := by decide +kernel
  have h6 : ¬ (("day" : Str) = "deals") := by decide +kernel
  unfold bfl
  simp only [putF, if_neg h1, if_neg h2, if_neg h3, if_neg h4, if_neg h5, if_neg h6]
theorem bfl_put (m w y z : Int) (d : Addr) : putF "day" (.int z) (bfl m w y d) = bfl m w z d := by
  have h2 : ¬ (("many" : Str) = "day") := by decide +kernel
  have h3 : ¬ (("wares" : Str) = "day") := by decide +kernel
  rw [bfl_eq, bfl_eq]
  simp only [putF, if_neg h2, if_neg h3, if_pos]
theorem bfl_len (m w y : Int) (d : Addr) : (bfl m w y d).length < 1000 := by rw [bfl_eq]; show 4 < 1000; decide
noncomputable def spCheckMX (C CM : Addr) : Sp := fun vs H Q E => ∃ (b dx d : Addr) (m w y p q : Int), vs = [.ref b, .int p, .int q] ∧ H b = some (.ins C dx (bfl m w y d)) ∧ ((MemOk m p q ∧ ∀ H', Same H H' → Q .non H') ∨ (¬ MemOk m p q ∧ ∀ H', Same H H' → E (.ref CM) none H'))
noncomputable def spCheckTX (C CT CC : Addr) : Sp := fun vs H Q E => ∃ (b dx d : Addr) (m w y : Int) (t : T7), vs = [.ref b, .int t.w, .int t.u, .int t.a, .int t.y, .int t.r] ∧ H b = some (.ins C dx (bfl m w y d)) ∧ ((TrmOk w t ∧ y ≤ t.y ∧ Q .non H) ∨ (¬ TrmOk w t ∧ E (.ref CT) none H) ∨ (TrmOk w t ∧ t.y < y ∧ E (.ref CC) none H))
noncomputable def spStrikeX (C CM CT CC : Addr) : Sp := fun vs H Q E => ∃ (b dx d : Addr) (m w y : Int) (t : T7) (xs : List V), vs = .ref b :: termV t ∧ H b = some (.ins C dx (bfl m w y d)) ∧ H d = some (.lst xs) ∧ xs.length ≤ 1000 ∧
  ((dueK m w y t = 0 ∧ ∀ a H1 H2, Same H H1 → H1 a = some (.tup (dealV (t, ("standing" : Str)))) → LBut d H1 H2 → H2 d = some (.lst (xs ++ [.ref a])) → Q (.int xs.length) H2) ∨
   (dueK m w y t = 1 ∧ ∀ H', Same H H' → E (.ref CM) none H') ∨ (dueK m w y t = 2 ∧ ∀ H', Same H H' → E (.ref CT) none H') ∨ (dueK m w y t = 3 ∧ ∀ H', Same H H' → E (.ref CC) none H'))
noncomputable def markL (s : Str) (ts : List (T7 × Str)) (S : List Int) : List (T7 × Str) := (List.range ts.length).map fun i : Nat => if (i : Int) ∈ S then ((ts.getD i (⟨0, 0, 0, 0, 0, 0, 0⟩, "")).1, s) else ts.getD i (⟨0, 0, 0, 0, 0, 0, 0⟩, "")
theorem markL_len {s : Str} {ts : List (T7 × Str)} {S : List Int} : (markL s ts S).length = ts.length := by unfold markL; rw [List.length_map, List.length_range]
theorem markL_get {s : Str} {ts : List (T7 × Str)} {S : List Int} {i : Nat} {t : T7 × Str} (h : ts[i]? = some t) : (markL s ts S)[i]? = some (if (i : Int) ∈ S then (t.1, s) else t) := by
  have hi := (List.getElem?_eq_some_iff.mp h).1
  unfold markL
  rw [List.getElem?_map, List.getElem?_range hi]
  have hg : ts.getD i (⟨0, 0, 0, 0, 0, 0, 0⟩, "") = t := by rw [List.getD_eq_getElem?_getD, h]; rfl
  show some (if (i : Int) ∈ S then ((ts.getD i (⟨0, 0, 0, 0, 0, 0, 0⟩, "")).1, s) else ts.getD i (⟨0, 0, 0, 0, 0, 0, 0⟩, "")) = _
  rw [hg]
theorem ext_get {α : Type} {xs ys : List α} (hl : xs.length = ys.length) (h : ∀ (i : Nat) (x y : α), xs[i]? = some x → ys[i]? = some y → x = y) : xs = ys := by
  apply List.ext_getElem?
  intro i
  by_cases hi : i < xs.length
  · obtain ⟨x, hx⟩ := lt_some hi
    obtain ⟨y, hy⟩ := lt_some (show i < ys.length by omega)
    rw [hx, hy, h i x y hx hy]
  · rw [List.getElem?_eq_none (by omega), List.getElem?_eq_none (by omega)]
theorem markL_nil {s : Str} {ts : List (T7 × Str)} : markL s ts [] = ts := ext_get markL_len fun i x y hx hy => by
  rw [markL_get hy] at hx
  rw [if_neg (by simp)] at hx
  exact (Option.some.inj hx).symm
theorem markL_set {s : Str} {ts : List (T7 × Str)} {S : List Int} {n : Nat} {t : T7 × Str} (h : ts[n]? = some t) : (markL s ts S).set n (t.1, s) = markL s ts (S ++ [(n : Int)]) := by
  refine ext_get (by rw [List.length_set, markL_len, markL_len]) fun i x y hx hy => ?_
  have hi : i < ts.length := by have := (List.getElem?_eq_some_iff.mp hy).1; rwa [markL_len] at this
  obtain ⟨u, hu⟩ := lt_some hi
  rw [markL_get hu] at hy
  by_cases e : i = n
  · subst e
    rw [List.getElem?_set_self (by rw [markL_len]; exact hi)] at hx
    rw [h] at hu; cases hu
    rw [if_pos (by simp)] at hy
    exact (Option.some.inj hx).symm.trans (Option.some.inj hy)
  · rw [List.getElem?_set_ne (fun z => e z.symm), markL_get hu] at hx
    have hiff : ((i : Int) ∈ S ++ [(n : Int)]) ↔ (i : Int) ∈ S := by
      rw [List.mem_append, List.mem_singleton]
      exact ⟨fun h => h.elim id fun z => absurd z (by omega), .inl⟩
    rw [show (if (i : Int) ∈ S ++ [(n : Int)] then (u.1, s) else u) = if (i : Int) ∈ S then (u.1, s) else u from ite_iff hiff] at hy
    exact (Option.some.inj hx).symm.trans (Option.some.inj hy)
noncomputable def numF (P : T7 × Str → Bool) (ts : List (T7 × Str)) : Nat → List Int
  | 0 => []
  | n + 1 => numF P ts n ++ (match ts[n]? with | some t => if P t then [(n : Int)] else [] | none => [])
theorem numF_succ {P : T7 × Str → Bool} {ts : List (T7 × Str)} {n : Nat} {t : T7 × Str} (h : ts[n]? = some t) : numF P ts (n + 1) = numF P ts n ++ if P t then [(n : Int)] else [] := by
  show numF P ts n ++ _ = _
  rw [h]
theorem mem_numF {P : T7 × Str → Bool} {ts : List (T7 × Str)} {x : Int} : ∀ {n : Nat}, n ≤ ts.length → (x ∈ numF P ts n ↔ ∃ (i : Nat) (t : T7 × Str), i < n ∧ x = (i : Int) ∧ ts[i]? = some t ∧ P t = true)
  | 0, _ => by
    constructor
    · intro h; cases h
    · rintro ⟨i, t, h, _⟩; omega
  | n + 1, hn => by
    obtain ⟨t, ht⟩ := lt_some (show n < ts.length by omega)
    rw [numF_succ ht, List.mem_append, mem_numF (by omega)]
    constructor
    · rintro (⟨i, u, h1, h2, h3⟩ | h)
      · exact ⟨i, u, by omega, h2, h3⟩
      · by_cases hp : P t = true
        · rw [if_pos hp, List.mem_singleton] at h
          exact ⟨n, t, by omega, h, ht, hp⟩
        · rw [if_neg hp] at h; cases h
    · rintro ⟨i, u, h1, h2, h3, h4⟩
      by_cases e : i = n
      · subst e
        rw [ht] at h3; cases h3
        exact .inr (by rw [if_pos h4, List.mem_singleton]; exact h2)
      · exact .inl ⟨i, u, by omega, h2, h3, h4⟩
theorem numF_len {P : T7 × Str → Bool} {ts : List (T7 × Str)} : ∀ n, (numF P ts n).length ≤ n
  | 0 => Nat.le_refl _
  | n + 1 => by
    have := numF_len (P := P) (ts := ts) n
    show (numF P ts n ++ _).length ≤ _
    rw [List.length_append]
    have h2 : (match ts[n]? with | some t => if P t then [(n : Int)] else [] | none => []).length ≤ 1 := by
      split
      · split <;> simp
      · simp
    omega
noncomputable def standP (y : Int) (t : T7 × Str) : Bool := decide (t.2 = "standing") && decide (t.1.y = y)
noncomputable def clsF (y : Int) (t : T7 × Str) : T7 × Str := if standP y t then (t.1, "settled") else t
theorem mark_cls {y : Int} {ts : List (T7 × Str)} : markL "settled" ts (numF (standP y) ts ts.length) = ts.map (clsF y) := by
  refine ext_get (by rw [markL_len, List.length_map]) fun i a b ha hb => ?_
  have hi : i < ts.length := by have := (List.getElem?_eq_some_iff.mp ha).1; rwa [markL_len] at this
  obtain ⟨t, ht⟩ := lt_some hi
  rw [markL_get ht] at ha
  rw [List.getElem?_map, ht] at hb
  have hiff : ((i : Int) ∈ numF (standP y) ts ts.length) ↔ standP y t = true := by
    rw [mem_numF (Nat.le_refl _)]
    constructor
    · rintro ⟨j, u, h1, h2, h3, h4⟩
      obtain rfl : i = j := by omega
      rw [ht] at h3; cases h3; exact h4
    · exact fun h => ⟨i, t, hi, rfl, ht, h⟩
  rw [show (if (i : Int) ∈ numF (standP y) ts ts.length then (t.1, ("settled" : Str)) else t) = clsF y t from ite_iff hiff] at ha
  exact (Option.some.inj ha).symm.trans (Option.some.inj hb)
noncomputable def spPutState (C : Addr) : Sp := fun vs H Q _ => ∃ (b d : Addr) (m w y n : Int) (s : Str) (ts : List (T7 × Str)) (t : T7 × Str), vs = [.ref b, .int n, .str s] ∧ Bk C H b d m w y ts ∧ 0 ≤ n ∧ ts[n.toNat]? = some t ∧ ∀ H', Bk C H' b d m w y (ts.set n.toNat (t.1, s)) → ButL d H H' → Q .non H'
noncomputable def spClose (C : Addr) : Sp := fun vs H Q _ => ∃ (b d : Addr) (m w y : Int) (ts : List (T7 × Str)), vs = [.ref b] ∧ Bk C H b d m w y ts ∧ ts.length ≤ 1000 ∧ ∀ p H', Bk C H' b d m w (y + 1) (ts.map (clsF y)) → (∀ c o, c ≠ d → c ≠ b → H c = some o → H' c = some o) → H' p = some (.lst ((numF (standP y) ts ts.length).map V.int)) → Q (.ref p) H'
end Internal

set_option Elab.async false
set_option linter.all false
set_option maxRecDepth 100000
namespace Internal
open PySem PySem.Spec PyProof.Rows
noncomputable def DRows (H : Hp) (as : List Addr) (ts : List (T7 × Str)) : Prop := as.Nodup ∧ as.length = ts.length ∧ ∀ (i : Nat) (a : Addr) (t : T7 × Str), as[i]? = some a → ts[i]? = some t → H a = some (.lst (dealV t))
section
variable {H H' : Hp} {as : List Addr} {ts : List (T7 × Str)}
theorem DRows.same (h : DRows H as ts) (e : Same H H') : DRows H' as ts := ⟨h.1, h.2.1, fun i a t h1 h2 => e.at (h.2.2 i a t h1 h2)⟩
theorem DRows.keep (h : DRows H as ts) (e : ∀ a o, a ∈ as → H a = some o → H' a = some o) : DRows H' as ts := ⟨h.1, h.2.1, fun i a t h1 h2 => e a _ (List.mem_of_getElem? h1) (h.2.2 i a t h1 h2)⟩
theorem DRows.mem (h : DRows H as ts) {a : Addr} (m : a ∈ as) : ∃ (i : Nat) (t : T7 × Str), as[i]? = some a ∧ ts[i]? = some t ∧ H a = some (.lst (dealV t)) := by
  obtain ⟨i, hi, e⟩ := List.getElem_of_mem m
  have h1 : as[i]? = some a := by rw [List.getElem?_eq_getElem hi, e]
  obtain ⟨t, ht⟩ := lt_some (show i < ts.length by have := h.2.1; omega)
  exact ⟨i, t, h1, ht, h.2.2 i a t h1 ht⟩
theorem DRows.fresh {p : Addr} (h : DRows H as ts) (hp : H p = none) : p ∉ as := fun m => by
  obtain ⟨_, _, _, _, e⟩ := h.mem m
  rw [hp] at e; cases e
theorem DRows.neRef {d : Addr} {xs : List V} (h : DRows H as ts) (hd : H d = some (.lst xs)) (hx : ∀ v ∈ xs, ∃ a, v = .ref a) : d ∉ as := fun m => by
  obtain ⟨_, t, _, _, e⟩ := h.mem m
  rw [hd] at e
  have e' : xs = dealV t := by simpa using e
  obtain ⟨a, ha⟩ := hx (.int t.1.p) (by rw [e']; unfold dealV termV; simp)
  cases ha
theorem DRows.app {p : Addr} {t : T7 × Str} (h : DRows H as ts) (n : p ∉ as) (hp : H p = some (.lst (dealV t))) : DRows H (as ++ [p]) (ts ++ [t]) := by
  refine ⟨List.nodup_append.mpr ⟨h.1, by simp, fun a ha b hb e => n (by rw [List.mem_singleton] at hb; subst hb; subst e; exact ha)⟩, by rw [List.length_append, List.length_append, h.2.1]; rfl, fun i a u h1 h2 => ?_⟩
  rw [List.getElem?_append] at h1 h2
  have hl := h.2.1
  split at h1
  · rename_i hi
    rw [if_pos (by omega)] at h2
    exact h.2.2 i a u h1 h2
  · rename_i hi
    rw [if_neg (by omega)] at h2
    have e0 : i - as.length = 0 := by
      cases e : i - as.length with
      | zero => rfl
      | succ k => rw [e] at h1; cases h1
    rw [e0] at h1
    rw [show i - ts.length = 0 by omega] at h2
    cases h1; cases h2
    exact hp
theorem DRows.set {j : Nat} {a : Addr} {t : T7 × Str} (h : DRows H as ts) (ha : as[j]? = some a) (g : LBut a H H') (h' : H' a = some (.lst (dealV t))) : DRows H' as (ts.set j t) := by
  refine ⟨h.1, by rw [List.length_set]; exact h.2.1, fun i b u h1 h2 => ?_⟩
  by_cases e : i = j
  · subst e
    rw [ha] at h1; cases h1
    rw [List.getElem?_set_self (by have := (List.getElem?_eq_some_iff.mp ha).1; have := h.2.1; omega)] at h2
    cases h2; exact h'
  · rw [List.getElem?_set_ne (fun z => e z.symm)] at h2
    exact g.lst (h.2.2 i b u h1 h2) fun z => e (nodup_get h.1 h1 (z ▸ ha))
end
theorem x_neDeal {K : PySem.W.Frag} {H : Hp} {Q : VK} {a b : Addr} {x : T7 × Str} (h1 : H a = some (.tup (dealV x))) (h2 : H b = some (.tup (dealV x))) (ok : PyData.canLay0 (.str x.2) = true) (q : Q (.bl false) H) : rNeU K (.ref a) (.ref b) H Q := by
  have rep : RepAll K H (dealV x) [.int x.1.p, .int x.1.q, .int x.1.w, .int x.1.u, .int x.1.a, .int x.1.y, .int x.1.r, .str x.2] := .cons (.int _) (.cons (.int _) (.cons (.int _) (.cons (.int _) (.cons (.int _) (.cons (.int _) (.cons (.int _) (.cons (.str _ ok) .nil)))))))
  refine x_neD (.tup (.of h1) rep) (.tup (.of h2) rep) (by simp [PyData.depth, PyData.depthAll]) ?_
  rw [PySem.SeqAt.eqv_refl _ (by rw [PyData.canLay0]; exact rep.lay)]
  exact q
theorem x_tupOfL {K : PySem.W.Frag} {H : Hp} {Q : VK} {a : Addr} {xs : List V} (h : H a = some (.lst xs)) (q : ∀ p H', H p = none → Same H H' → H' p = some (.tup xs) → Q (.ref p) H') : rTupleOf K [.ref a] H Q := ⟨a, xs, rfl, .inl ⟨.of h, fun l hl => q l _ hl (Same.new hl _) upd_same⟩⟩
end Internal

set_option Elab.async false
set_option linter.all false
set_option maxRecDepth 100000
namespace Internal
open PySem PySem.Spec PyProof.Rows
theorem IsTs.refs {α : Type} {f : α → List V} {H : Hp} {vs : List V} {xs : List α} (h : IsTs f H vs xs) : ∀ v ∈ vs, ∃ a, v = .ref a := fun v hv => by
  obtain ⟨i, hi, e⟩ := List.getElem_of_mem hv
  obtain ⟨a, x, e2, _⟩ := h.get (show vs[i]? = some v by rw [List.getElem?_eq_getElem hi, e])
  exact ⟨a, e2⟩
theorem map_refs (as : List Addr) : ∀ v ∈ as.map V.ref, ∃ a, v = .ref a := fun v hv => by
  obtain ⟨a, _, e⟩ := List.mem_map.mp hv
  exact ⟨a, e.symm⟩
set_option genInjectivity false in
set_option genSizeOf false in
structure RoomH (k : Nat) (A : Around) : Prop where
  dp : A.depth + 3 * k + 5 < recursionLimit
  un : A.units + 16 * k + 200 < cLine
theorem RoomH.deeper {k : Nat} {A : Around} (r : RoomH (k + 1) A) (env : Env) : RoomH k (A.deeper env) :=
  ⟨by have := r.dp; show A.depth + 1 + 3 * k + 5 < _; omega, by have := r.un; show A.units + 3 + 16 * k + 200 < _; omega⟩
theorem RoomH.depth {k : Nat} {A : Around} (r : RoomH k A) : A.depth < recursionLimit := by have := r.dp; omega
theorem RoomH.units {k : Nat} {A : Around} (r : RoomH k A) : A.units + 64 < cLine := by have := r.un; omega
theorem Room.mark {k : Nat} {A : Around} (r : Room k A) (h : Option Value) : RoomH k (A.mark h) := ⟨r.dp, r.un⟩
noncomputable abbrev Cx.toH (X : Cx) (A : Around) : Cx := { X with A := A, calm := false, xe := fun _ _ => False }
theorem Inv.toH {X : Cx} {pins : List (Addr × Obj)} {σ : St} {H : Hp} {s : Shared} (I : Inv X pins σ H s) (A : Around) (hf : A.frames = some X.stack) : Inv (X.toH A) pins σ H s :=
  ⟨⟨I.ok.mod, I.ok.kind, I.ok.glob, I.ok.blt, I.ok.above, I.ok.inj, I.ok.has, I.ok.cab, fun z => (by cases z), hf, I.ok.stk, I.ok.exf, I.ok.bs, I.ok.bsz, I.ok.noex, I.ok.exfs, I.ok.funs, I.ok.frf⟩, I.os, I.bare, I.base, I.loc, I.cell, I.free, I.freeC, I.pin, I.hok, I.len⟩
set_option genInjectivity false in
set_option genSizeOf false in
structure FnOkH (P : Program) (w : World) (K : PySem.W.Frag) (mg : Str → Option Value) (base : Heap) (k : Nat) (f : Addr) (fd : FuncData) (ps : List Str) (sp : Sp) : Prop where
  len : ∀ vs H Q E, sp vs H Q E → vs.length = ps.length
  run : ∀ (A : Around) (outer : List Env) (s : Shared) (H : Hp) (args : Args) (us : List Value) (vs : List V) (Q : VK) (E : XK), RoomH k A → Env0 P w K mg base A outer s H → BindsTo s fd args (ps.zip us) → Vals vs us → sp vs H Q E →
    codeAny (model P w) A (.call (.ref f) args) (CR (fun _ _ _ _ _ _ => False) outer P w H s Q E) s
noncomputable abbrev cxH (P : Program) (w : World) (K : PySem.W.Frag) (mg : Str → Option Value) (base : Heap) (N : List Str) (qual : Str) (scope : Scope) (f : Addr) (cd : Value) (A : Around) (outer : List Env) (s : Shared) (H : Hp) (E : XK) : Cx :=
  (cxOf (CXF P w) P w K mg base N qual scope f cd A outer s H E).toH (A.deeper (envOfC qual scope s.heap.objs.size f cd))
theorem Fun.okH {P : Program} {w : World} {K : PySem.W.Frag} {mg : Str → Option Value} {base : Heap} {x qual : Str} {st : Stmt} {f : Addr} {fd : FuncData} {N ps : List Str} {k : Nat} {sp : Sp} (F : Fun K x qual st f fd) (S : FnScope N ps (defScope st)) (len : ∀ vs H Q E, sp vs H Q E → vs.length = ps.length)
    (hbody : ∀ (cdv : Value) (A : Around) (outer : List Env) (s : Shared) (H : Hp) (vs : List V) (Q : VK) (E : XK), RoomH k (A.deeper (envOfC qual (defScope st) s.heap.objs.size f cdv)) → sp vs H Q E →
      ∃ t, PSs (cxH P w K mg base N qual (defScope st) f cdv A outer s H E) (defBody st) t ∧ t { nx := fun _ H' => Q .non H', rt := Q } (start N vs) H) : FnOkH P w K mg base (k + 1) f fd ps sp := by
  obtain ⟨oc, od, kV, doc, pm, an, cdv, ct, osl, rfl, lk, hcd⟩ := F.ex
  refine ⟨len, fun A outer s H args us vs Q E hr e0 hb r hsp => ?_⟩
  have hl := len _ _ _ _ hsp
  have KX : K.In s.heap := e0.mod.kin.keeps fun b o e => (e0.bs b o e).1
  have lim : s.heap.NoLimit := e0.mod.nolimit.keeps fun b o e => (e0.bs b o e).1
  have hkind : ∀ y ∈ ps.zip us, (defScope st).names.lookup y.1 = some .local ∨ ((defScope st).names.lookup y.1 = some .cell ∧ ((cellsFrom (s.heap.objs.size + 1) (defScope st).names []).lookup y.1).isSome = true) := fun ⟨n, v⟩ hy => by
    rcases S.par n (List.of_mem_zip hy).1 with q | q
    · exact .inl q
    · exact .inr ⟨q, PySem.W.cellsFrom_some _ _ _ (.inl q)⟩
  refine codeAny_call_function hr.depth (KX _ _ lk) rfl S.co S.gen rfl (PySem.W.codeRec_of KX hcd) (hb _ _ _ _ ?_)
  refine wpAny_newFunctionEnv_cells S.kind hkind fun env he s1 x => ?_
  subst he
  refine ⟨lim.keeps x.toInCall.keep, codeAny_func ?_⟩
  obtain ⟨t, ht, hq⟩ := hbody cdv A outer s H vs Q E (hr.deeper _) hsp
  have e0' : Env0 P w K mg base { A with handled := none } outer s H := ⟨e0.frames, e0.mod, e0.bs, e0.bsz, e0.funs, e0.frf, e0.hok, e0.bare⟩
  have I0 : Inv (cxOf (CXF P w) P w K mg base N qual (defScope st) f cdv { A with handled := none } outer s H E) [] (start N vs) H s1 := inv_start S rfl e0' hl r x
  have I : Inv (cxH P w K mg base N qual (defScope st) f cdv A outer s H E) [] (start N vs) H s1 := I0.toH _ I0.ok.frames
  refine wpAny_mono (ht [] s1 (start N vs) H _ I hq) (fun fl s' hs => ?_) fun e s' hs => hs.elim
  have fin : ∀ {σ' : St} {H' : Hp} {v : V} {u : Value}, Inv (cxH P w K mg base N qual (defScope st) f cdv A outer s H E) [] σ' H' s' → RelV v u → Q v H' → CE outer P w H s Q u s' :=
    fun {σ' H' v u} J rv q => ⟨v, H', J.os, J.bare, J.base, J.hok, rv, q⟩
  cases fl with
  | ret u =>
    obtain ⟨v, σ', H', J, rv, q⟩ := hs
    exact fin J rv q
  | next =>
    obtain ⟨σ', H', J, q⟩ := hs
    exact fin (v := V.non) (u := Value.none) J rfl q
  | brk =>
    obtain ⟨_, _, _, q⟩ := hs
    exact False.elim q
  | cont =>
    obtain ⟨_, _, _, q⟩ := hs
    exact False.elim q
theorem pe_callH {X : Cx} {k : Nat} {f : Addr} {fd : FuncData} {ps : List Str} {sp : Sp} {E : XK} {x : Str} {p pos : Pos} {e : Expr} {es : List Expr} {t : TA} (F : FnOkH X.prog X.w X.K X.mg X.base k f fd ps sp) (hr : RoomH k X.A) (hg : Gl X x) (hm : X.mg x = some (.ref f)) (hk : PySem.W.keepIn X.K (.ref f) = true) (hb : Binds X.K fd ps [])
    (ha : PA X (e :: es) t) (hdb : autoParam ((x == ("__debug__" : Str)) = false) Internal.aut1._auto_1) (he : autoParam (starEach (e :: es) X.env = (false, eval e X.env) :: starEach es X.env) Internal.aut2._auto_1) (hpl : autoParam ((backTo pos (starEach es X.env)).any (·.1) = false) Internal.aut2._auto_1) :
    PE X (.Call (.Name x p) (e :: es) [] pos) (tCall sp [] E t) := by
  intro pins s σ H Q I h
  refine wpAny_Call_Name_kw (ld_glob I hg hm ?_ hdb)
  refine PySem.W.callWith_K (h₀ := X.base) I.ok.mod.kin hk (thn (ha pos pins s σ H _ I h) fun us s1 ⟨vs, H1, I1, r, q⟩ => ⟨I1.kIn, ?_⟩) he hpl
  have q : sp (vs ++ []) H1 Q E := q
  rw [List.append_nil] at q
  have hl : us.length = ps.length := by rw [← r.length]; exact F.len _ _ _ _ q
  have hbd := hb s1 us I1.kIn (by rw [List.append_nil]; exact hl)
  rw [List.append_nil] at hbd
  refine wpAny_call (codeAny_mono (F.run X.A X.stack s1 H1 ⟨us, []⟩ us vs Q E hr I1.env0 hbd r q) fun res s' hq => ?_)
  cases res with
  | error e => exact False.elim hq
  | ok fl =>
    cases fl with
    | ret u => exact I1.after hq
    | next => exact False.elim hq
    | brk => exact False.elim hq
    | cont => exact False.elim hq
end Internal

set_option Elab.async false
set_option linter.all false
set_option maxRecDepth 100000
namespace Internal
open PySem PySem.Spec PyProof.Rows
noncomputable def t0 : T7 × Str := (⟨0, 0, 0, 0, 0, 0, 0⟩, "")
noncomputable def St3 (ts : List (T7 × Str)) : Prop := ∀ t ∈ ts, t.2 = ("standing" : Str) ∨ t.2 = ("settled" : Str) ∨ t.2 = ("broken" : Str)
noncomputable def GoodT (w : Int) (ts : List (T7 × Str)) : Prop := ∀ t ∈ ts, (0 ≤ t.1.w ∧ t.1.w < w) ∧ (1 ≤ t.1.u ∧ t.1.u ≤ 1000000) ∧ (0 ≤ t.1.r ∧ t.1.r ≤ 2)
theorem st_lay {t : T7 × Str} (h : t.2 = ("standing" : Str) ∨ t.2 = ("settled" : Str) ∨ t.2 = ("broken" : Str)) : PyData.canLay0 (.str t.2) = true := by
  rcases h with h | h | h <;> rw [h] <;> decide +kernel
theorem mem_set_or {α : Type} {xs : List α} {n : Nat} {x y : α} (h : y ∈ xs.set n x) : y ∈ xs ∨ y = x := by
  rcases List.mem_or_eq_of_mem_set h with h | h
  · exact .inl h
  · exact .inr h
theorem st3_set {ts : List (T7 × Str)} {n : Nat} {t : T7 × Str} (h : St3 ts) (ht : t.2 = ("standing" : Str) ∨ t.2 = ("settled" : Str) ∨ t.2 = ("broken" : Str)) : St3 (ts.set n t) := fun u hu => by
  rcases mem_set_or hu with z | z
  · exact h u z
  · rw [z]; exact ht
theorem st3_app {ts : List (T7 × Str)} {t : T7} (h : St3 ts) : St3 (ts ++ [(t, ("standing" : Str))]) := fun u hu => by
  rcases List.mem_append.mp hu with z | z
  · exact h u z
  · rw [List.mem_singleton.mp z]; exact .inl rfl
theorem st3_cls {y : Int} {ts : List (T7 × Str)} (h : St3 ts) : St3 (ts.map (clsF y)) := fun t ht => by
  obtain ⟨u, hu, e⟩ := List.mem_map.mp ht
  rw [← e]
  unfold clsF
  split
  · exact .inr (.inl rfl)
  · exact h u hu
noncomputable def wordC : Nat → Str
  | 1 => "deal"
  | 2 => "gone"
  | 3 => "settled"
  | 4 => "terms"
  | 5 => "closed"
  | _ => ""
theorem wordC_ne {n : Nat} (h : n ≤ 5) : (wordC n = ("" : Str)) ↔ n = 0 := by
  obtain rfl | rfl | rfl | rfl | rfl | rfl : n = 0 ∨ n = 1 ∨ n = 2 ∨ n = 3 ∨ n = 4 ∨ n = 5 := by omega
  all_goals decide +kernel
theorem wordC_lay (n : Nat) : PyData.canLay0 (.str (wordC n)) = true := by
  unfold wordC
  split <;> decide +kernel
theorem getD_of {ts : List (T7 × Str)} {i : Nat} {t : T7 × Str} (h : ts[i]? = some t) : ts.getD i t0 = t := by rw [List.getD_eq_getElem?_getD, h]; rfl
noncomputable def spStanding (C CN CG CS : Addr) : Sp := fun vs H Q E => ∃ (b d : Addr) (m w y n : Int) (ts : List (T7 × Str)), vs = [.ref b, .int n] ∧ Bk C H b d m w y ts ∧
  ((∃ t, 0 ≤ n ∧ ts[n.toNat]? = some t ∧ ¬ t.2 = ("broken" : Str) ∧ ¬ t.2 = ("settled" : Str) ∧ ∀ x, H x = some (.tup (dealV t)) → Q (.ref x) H) ∨
   (¬ (0 ≤ n ∧ n < ts.length) ∧ E (.ref CN) none H) ∨ (∃ t, 0 ≤ n ∧ ts[n.toNat]? = some t ∧ t.2 = ("broken" : Str) ∧ E (.ref CG) none H) ∨ (∃ t, 0 ≤ n ∧ ts[n.toNat]? = some t ∧ t.2 = ("settled" : Str) ∧ E (.ref CS) none H))
set_option genInjectivity false in
set_option genSizeOf false in
structure BR (C : Addr) (H : Hp) (b d ro : Addr) (m w y : Int) (ts : List (T7 × Str)) (as : List Addr) : Prop where
  B : Bk C H b d m w y ts
  ro : H ro = some (.lst (as.map V.ref))
  R : DRows H as ts
  s : St3 ts
  g : GoodT w ts
end Internal

set_option Elab.async false
set_option linter.all false
set_option maxRecDepth 100000
namespace Internal
open PySem PySem.Spec PyProof.Rows
noncomputable def Good7 (m w : Int) (ts : List (T7 × Str)) : Prop := ∀ t ∈ ts, TermOk m w 0 t.1
theorem good7_set {m w : Int} {ts : List (T7 × Str)} {n : Nat} {t : T7 × Str} (h : Good7 m w ts) (ht : TermOk m w 0 t.1) : Good7 m w (ts.set n t) := fun u hu => by
  rcases mem_set_or hu with z | z
  · exact h u z
  · rw [z]; exact ht
theorem good7_app {m w : Int} {ts : List (T7 × Str)} {t : T7 × Str} (h : Good7 m w ts) (ht : TermOk m w 0 t.1) : Good7 m w (ts ++ [t]) := fun u hu => by
  rcases List.mem_append.mp hu with z | z
  · exact h u z
  · rw [List.mem_singleton.mp z]; exact ht
theorem good7_cls {m w y : Int} {ts : List (T7 × Str)} (h : Good7 m w ts) : Good7 m w (ts.map (clsF y)) := fun t ht => by
  obtain ⟨u, hu, e⟩ := List.mem_map.mp ht
  rw [← e]
  unfold clsF
  split <;> exact h u hu
set_option genInjectivity false in
set_option genSizeOf false in
structure BQ (C : Addr) (H : Hp) (b d ro : Addr) (m w y : Int) (ts : List (T7 × Str)) (as : List Addr) : Prop where
  B : Bk C H b d m w y ts
  ro : H ro = some (.lst (as.map V.ref))
  R : DRows H as ts
  s : St3 ts
  g : Good7 m w ts
theorem BQ.same {C : Addr} {H H' : Hp} {b d ro : Addr} {m w y : Int} {ts : List (T7 × Str)} {as : List Addr} (h : BQ C H b d ro m w y ts as) (e : Same H H') : BQ C H' b d ro m w y ts as := ⟨h.B.same e, e.at h.ro, h.R.same e, h.s, h.g⟩
noncomputable def spStandsS (C : Addr) : Sp := fun vs H Q _ => ∃ (b d ro : Addr) (m w y : Int) (ts : List (T7 × Str)) (as : List Addr), vs = [.ref b, .ref ro] ∧ Bk C H b d m w y ts ∧ H ro = some (.lst (as.map V.ref)) ∧ DRows H as ts ∧ St3 ts ∧ ts.length ≤ 1000 ∧ ∀ H', Same H H' → Q (.bl true) H'
end Internal

set_option Elab.async false
set_option linter.all false
set_option maxRecDepth 100000
namespace Internal
open PySem PySem.Spec PyProof.Rows

section
variable {κ : Type} [DecidableEq κ]
noncomputable def valV (kvs : List (κ × V)) (k : κ) : Option V := (kvs.find? fun kv => decide (kv.1 = k)).map (·.2)
noncomputable def putK (kvs : List (κ × V)) (k : κ) (v : V) : List (κ × V) :=
  if (kvs.any fun kv => decide (kv.1 = k)) = true then kvs.map (fun kv => if kv.1 = k then (kv.1, v) else kv) else kvs ++ [(k, v)]
theorem valV_pos {p : κ × V} {r : List (κ × V)} {k : κ} (e : p.1 = k) : valV (p :: r) k = some p.2 := by simp [valV, List.find?_cons, e]
theorem valV_neg {p : κ × V} {r : List (κ × V)} {k : κ} (e : ¬ p.1 = k) : valV (p :: r) k = valV r k := by simp [valV, List.find?_cons, e]
theorem length_putK (kvs : List (κ × V)) (k : κ) (v : V) : (putK kvs k v).length ≤ kvs.length + 1 := by
  unfold putK
  split
  · rw [List.length_map]; omega
  · rw [List.length_append, List.length_cons, List.length_nil]; omega
theorem KV.val {kvs : List (κ × V)} {vs : List (κ × Value)} (r : KV kvs vs) (k : κ) : RelO (valV kvs k) (valueAt vs k) := by
  unfold KV at r
  induction r with
  | nil => exact True.intro
  | @cons p q ps qs h t ih =>
    obtain ⟨h1, h2⟩ := h
    by_cases e : p.1 = k
    · have e' : q.1 = k := h1.symm.trans e
      have b : valueAt (q :: qs) k = some q.2 := by simp [valueAt, List.find?_cons, e']
      rw [valV_pos e, b]; exact h2
    · have e' : ¬ q.1 = k := fun z => e (h1.trans z)
      have b : valueAt (q :: qs) k = valueAt qs k := by simp [valueAt, List.find?_cons, e']
      rw [valV_neg e, b]; exact ih
theorem KV.any {kvs : List (κ × V)} {vs : List (κ × Value)} (r : KV kvs vs) (k : κ) : (kvs.any fun kv => decide (kv.1 = k)) = vs.any fun kv => decide (kv.1 = k) := by
  unfold KV at r
  induction r with
  | nil => rfl
  | cons h t ih => rw [List.any_cons, List.any_cons, ih, h.1]
theorem KV.repl {kvs : List (κ × V)} {vs : List (κ × Value)} (r : KV kvs vs) (k : κ) {y : V} {u : Value} (ry : RelV y u) :
    KV (kvs.map fun kv => if kv.1 = k then (kv.1, y) else kv) (vs.map fun kv => if kv.1 = k then (kv.1, u) else kv) := by
  unfold KV at r ⊢
  induction r with
  | nil => exact .nil
  | @cons p q ps qs h t ih =>
    rw [List.map_cons, List.map_cons]
    refine .cons ?_ ih
    obtain ⟨h1, h2⟩ := h
    by_cases e : p.1 = k
    · rw [if_pos e, if_pos (h1.symm.trans e)]; exact ⟨h1, ry⟩
    · rw [if_neg e, if_neg (fun z => e (h1.trans z))]; exact ⟨h1, h2⟩
theorem KV.put {kvs : List (κ × V)} {vs : List (κ × Value)} (r : KV kvs vs) (k : κ) {y : V} {u : Value} (ry : RelV y u) : KV (putK kvs k y) (stored vs k u) := by
  unfold putK stored
  rw [r.any k]
  by_cases e : (vs.any fun kv => decide (kv.1 = k)) = true
  · rw [if_pos e, if_pos e]; exact r.repl k ry
  · rw [if_neg e, if_neg e]; exact Paired.snoc r ⟨rfl, ry⟩
end


theorem kV_is {P : Program} {w : World} {k : Key} {u : Value} (r : RelV (kV k) u) : (mixKind P w).is k u = true := by
  cases k with
  | inl i => obtain ⟨t, e⟩ := (show ∃ t, u = Value.int i t from r); subst e; exact mixKind_int P w i t
  | inr x => obtain ⟨t, e⟩ := (show ∃ t, u = Value.str x t from r); subst e; exact mixKind_str P w x t
theorem items_are {P : Program} {w : World} : ∀ {ks : List Key} {us : List Value}, Vals (ks.map kV) us → ItemsAre (mixKind P w) ks us
  | [], _, r => by rw [List.map_nil] at r; cases r; exact .nil
  | k :: ks, _, r => by
    rw [List.map_cons] at r
    cases r with
    | cons h t => exact .cons (kV_is h) (items_are t)

noncomputable abbrev KT (H : Hp) : List (List Key × V) → List (List Key × Addr × Value) → Prop := Paired fun p q => p.1 = q.1 ∧ H q.2.1 = some (.tup (p.1.map kV)) ∧ RelV p.2 q.2.2
theorem KT.val {H : Hp} {kvs : List (List Key × V)} {xs : List (List Key × Addr × Value)} (r : KT H kvs xs) (k : List Key) : RelO (valV kvs k) ((atKey xs k).map (·.2)) := by
  induction r with
  | nil => exact True.intro
  | @cons p q ps qs h t ih =>
    obtain ⟨h1, _, h2⟩ := h
    by_cases e : p.1 = k
    · have e' : q.1 = k := h1.symm.trans e
      have b : atKey (q :: qs) k = some q.2 := by simp [atKey, List.find?_cons, e']
      rw [valV_pos e, b]; exact h2
    · have e' : ¬ q.1 = k := fun z => e (h1.trans z)
      have b : atKey (q :: qs) k = atKey qs k := by simp [atKey, List.find?_cons, e']
      rw [valV_neg e, b]; exact ih
section
variable {P : Program} {w : World} {H : Hp} {h : Heap} {a : Addr}
theorem rd_of {u : HO} (ok : HOk P w H h) (e : Rd H a u) : ObjOk P w H h a u := e.ok ok
theorem dk_rd {kvs : List (Key × V)} (ok : HOk P w H h) (e : Rd H a (.dK kvs)) : kvs.length ≤ sizeLine ∧ (a == sysModules) = false ∧ ∃ vs, KV kvs vs ∧ h.DictOf (mixKind P w) a vs :=
  show ObjOk P w H h a (.dK kvs) from rd_of ok e
theorem dk_of {kvs : List (Key × V)} (ok : HOk P w H h) (e : H a = some (.dK kvs)) : kvs.length ≤ sizeLine ∧ (a == sysModules) = false ∧ ∃ vs, KV kvs vs ∧ h.DictOf (mixKind P w) a vs := dk_rd ok (.inl e)
theorem key_of {ks : List Key} (ok : HOk P w H h) (e : H a = some (.tup (ks.map kV))) : (tupleKind (mixKind P w)).is h ks a := by
  obtain ⟨_, its, r, o, h1, h2, n, h3⟩ := (show ObjOk P w H h a (.tup (ks.map kV)) from ok a _ e)
  exact ⟨o, its.toArray, n, h1, h2, h3, by simpa using items_are r⟩
theorem dt_rd {kvs : List (List Key × V)} (ok : HOk P w H h) (e : Rd H a (.dT kvs)) : kvs.length ≤ sizeLine ∧ (a == sysModules) = false ∧
    ∃ xs, KT H kvs xs ∧ h.DictOfH (tupleKind (mixKind P w)) a xs := by
  obtain ⟨z, y, xs, r, o, es, ep, h1, h2, h3, h4, h5⟩ := (show ObjOk P w H h a (.dT kvs) from rd_of ok e)
  refine ⟨z, y, xs, r, o, es, ep, h1, h2, h3, h4, fun x hx => ?_, h5⟩
  have all : ∀ {l : List (List Key × V)} {m : List (List Key × Addr × Value)}, KT H l m → ∀ x ∈ m, (tupleKind (mixKind P w)).is h x.1 x.2.1 := by
    intro l m q
    induction q with
    | nil => intro x hx; exact nomatch hx
    | @cons p q ps qs hq t ih =>
      intro x hx
      rcases List.mem_cons.mp hx with e | hx
      · subst e
        exact key_of ok (by rw [← hq.1]; exact hq.2.1)
      · exact ih x hx
  exact all r x hx
end

noncomputable def DGet (H : Hp) (a : Addr) (y : V) (r : Option V) : Prop :=
  (∃ kvs k, Rd H a (.dK kvs) ∧ y = kV k ∧ r = valV kvs k) ∨ ∃ kvs k b, Rd H a (.dT kvs) ∧ y = .ref b ∧ H b = some (.tup (k.map kV)) ∧ r = valV kvs k
section
variable {X : Cx} {pins : List (Addr × Obj)} {σ : St} {H : Hp} {s : Shared} {a : Addr} {y v : V} {u r : Value} {o : Option V} {A : Around} {E : Value → Shared → Prop}

theorem Inv.big (I : Inv X pins σ H s) : sysModules < s.heap.objs.size := by
  have h : mainGlobals < s.heap.objs.size := (I.mod.glob.keeps I.bk).lt
  exact Nat.lt_trans (by decide) h

theorem d_getItem {Q : Value → Shared → Prop} (hu : A.units + 1 < cLine) (I : Inv X pins σ H s) (g : DGet H a y (some v)) (ry : RelV y u) (h : ∀ w' s', Inv X pins σ H s' → RelV v w' → Q w' s') :
    wpAny (model X.prog X.w) A (getItem (.ref a) u) Q E s := by
  rcases g with ⟨kvs, k, e, ey, l⟩ | ⟨kvs, k, b, e, ey, eb, l⟩
  · subst ey
    obtain ⟨z, hd, vs, rel, dd⟩ := dk_rd I.hok e
    obtain ⟨w', hw, rw'⟩ := RelO.some_of (v := v) (o := valueAt vs k) (by rw [l]; exact rel.val k)
    exact wpAny_getItem_of (kV_is ry) dd.mapOf hw (h w' _ (I.tok _) rw')
  · subst ey
    cases (show u = Value.ref b from ry)
    obtain ⟨z, hd, xs, rel, dd⟩ := dt_rd I.hok e
    obtain ⟨w', hw, rw'⟩ := RelO.some_of (v := v) (o := (atKey xs k).map (·.2)) (by rw [l]; exact rel.val k)
    obtain ⟨p, hp, hp2⟩ := Option.map_eq_some_iff.mp hw
    refine wpAny_getItem_heap (tupleKind_room_in1 hu) (key_of I.hok eb) dd hp ?_
    rw [hp2]
    exact h w' _ (I.tok _) rw'
theorem d_write {h' : Heap} {t' : Nat} {ob : HO} (I : Inv X pins σ H s) (mu : Mut (H a)) (hs : Heap.SameBut a s.heap h') (he : ∃ q, h'.get? a = some q) (new : ObjOk X.prog X.w (upd H a ob) h' a ob) :
    Inv X pins σ (upd H a ob) { s with heap := h', toks := t' } :=
  I.write (x := a) (e := a) mu (.inl rfl) (fun b q hb z => (hs.2 b hb).trans z) he new
theorem dk_new {P : Program} {w : World} {H' : Hp} {h' : Heap} {kvs : List (Key × V)} {vs : List (Key × Value)} (z : kvs.length ≤ sizeLine) (hd : (a == sysModules) = false) (rel : KV kvs vs) (dd : h'.DictOf (mixKind P w) a vs) :
    ObjOk P w H' h' a (.dK kvs) := ⟨z, hd, vs, rel, dd⟩
end

section
variable {X : Cx} {pins : List (Addr × Obj)} {σ : St} {H : Hp} {s : Shared} {a : Addr} {kvs : List (Key × V)} {k : Key} {u : Value} {A : Around} {E : Value → Shared → Prop}
end


noncomputable def NoSl (i : Expr) : Prop := ∀ ov iv, subscripted i false ov iv = operate [ov, iv] (getItem ov iv)
theorem subD_of {prog : Program} {w : World} {A : Around} {E : Value → Shared → Prop} {s : Shared} {env : Env} {value slice : Expr} {pos : Pos} {T id : String} {Q : Value → Shared → Prop}
    (hl : typeLookup (.type T) "__getitem__" = pure (some (.builtin id))) (hs : NoSl slice)
    (h : wpAny (model prog w) A (eval value env) (fun o s₁ => wpAny (model prog w) A (eval slice env) (fun i s₂ => s₂.TypeIs o T ∧ wpAny (model prog w) A (getItem o i) Q E s₂) E s₁) E s) :
    wpAny (model prog w) A (eval (.Subscript value slice pos) env) Q E s := by
  refine Subscript_ (wpAny_mono h (fun o s₁ h₁ => wpAny_mono h₁ (fun i s₂ h₂ => ?_) fun _ _ x => x) fun _ _ x => x)
  obtain ⟨hT, h₂⟩ := h₂
  unfold subscriptTail
  refine wpAny_bind ?_
  rw [getitemInPython_of_ne hT.not_modules]
  refine wpAny_bind (wpAny_specialOf hT hl ?_)
  have fin : wpAny (model prog w) A (subscripted slice false o i) (fun r s₃ => wpAny (model prog w) A (letTemporaryGo value o r >>= fun _ => pure r) Q E s₃) E s₂ := by
    rw [hs o i]
    exact wpAny_operating (wpAny_mono h₂ (fun r s₃ h₃ => wpAny_bind (wpAny_letTemporaryGo (wpAny_pure h₃))) fun _ _ x => x)
  first
    | exact wpAny_pure (wpAny_bind fin)
    | exact wpAny_bind (wpAny_pure (wpAny_bind fin))
    | exact wpAny_bind fin

theorem dict_typeIs {X : Cx} {pins : List (Addr × Obj)} {σ : St} {H : Hp} {s : Shared} {a : Addr} {y : V} {o : Option V} (I : Inv X pins σ H s) (g : DGet H a y o) : s.TypeIs (.ref a) "dict" := by
  rcases g with ⟨kvs, k, e, _, _⟩ | ⟨kvs, k, b, e, _, _, _⟩
  · obtain ⟨_, _, vs, _, dd⟩ := dk_rd I.hok e
    exact dd.typeIs
  · obtain ⟨_, _, xs, _, dd⟩ := dt_rd I.hok e
    exact dd.typeIs
noncomputable def tDGet (td ty : TE) : TE := fun σ H Q => td σ H fun x H1 => ty σ H1 fun y H2 => ∃ a v, x = .ref a ∧ DGet H2 a y (some v) ∧ Q v H2
section
variable {X : Cx} {o i e value : Expr} {pos pos' tpos : Pos} {td ty tv : TE}
theorem pe_dget (hu : X.A.units + 1 < cLine) (ho : PE X o td) (hi : PE X i ty) (hs : NoSl i) : PE X (.Subscript o i pos) (tDGet td ty) := by
  intro pins s σ H Q I h
  refine subD_of PySem.F.slot_dict_getitem.lookup hs (thn (ho pins s σ H _ I h) fun u s1 ⟨x, H1, I1, rx, q1⟩ => thn (hi pins s1 σ H1 _ I1 q1) fun iv s2 zz => ?_)
  obtain ⟨y, H2, I2, ry, a, v, ex, g, q2⟩ := zz
  subst ex
  obtain rfl : u = Value.ref a := rx
  exact ⟨dict_typeIs I2 g, d_getItem hu I2 g ry fun w' s3 I3 rw' => ⟨v, H2, I3, rw', q2⟩⟩
end


theorem dk_empty {P : Program} {w : World} {H : Hp} (h : Heap) (hb : sysModules < h.objs.size) : ObjOk P w H (h.push { cls := .type "dict", data := .dict #[] }) h.objs.size (.dK []) :=
  ⟨Nat.zero_le _, beq_eq_false_iff_ne.mpr (Ne.symm (Nat.ne_of_lt hb)), [], .nil, Heap.DictOf.new h⟩
section
variable {X : Cx} {pos : Pos}
end

noncomputable def tPairs : List (TE × TE) → St → Hp → (List (V × V) → Hp → Prop) → Prop
  | [], _, H, Q => Q [] H
  | (tk, tv) :: r, σ, H, Q => tk σ H fun x H1 => tv σ H1 fun y H2 => tPairs r σ H2 fun ps H3 => Q ((x, y) :: ps) H3
noncomputable abbrev VV : List (V × V) → List (Value × Value) → Prop := Paired fun p q => RelV p.1 q.1 ∧ RelV p.2 q.2
noncomputable def PPs (X : Cx) (pos : Pos) (keys : List (Option Expr)) (values : List Expr) (trs : List (TE × TE)) : Prop :=
  ∀ (pins : List (Addr × Obj)) (s : Shared) (σ : St) (H : Hp) (Q : List (V × V) → Hp → Prop), Inv X pins σ H s → tPairs trs σ H Q →
    wpAny (model X.prog X.w) X.A (evalPairs (pairTrees keys values X.env pos)) (fun vs s' => ∃ ps H', Inv X pins σ H' s' ∧ VV ps vs ∧ Q ps H') X.xe s
theorem pps_nil {X : Cx} {pos : Pos} : PPs X pos [] [] [] := fun pins s σ H Q I h => pairTrees_nil_walk ⟨[], H, I, .nil, h⟩
theorem pps_cons {X : Cx} {pos : Pos} {k v : Expr} {ks : List (Option Expr)} {vs : List Expr} {tk tv : TE} {trs : List (TE × TE)} (hk : PE X k tk) (hv : PE X v tv) (hr : PPs X pos ks vs trs) :
    PPs X pos (some k :: ks) (v :: vs) ((tk, tv) :: trs) := fun pins s σ H Q I h =>
  pairTrees_cons_walk (thn (hk pins s σ H _ I h) fun u s1 ⟨x, H1, I1, rx, q1⟩ => thn (hv pins s1 σ H1 _ I1 q1) fun w2 s2 ⟨y, H2, I2, ry, q2⟩ =>
    thn (hr pins s2 σ H2 _ I2 q2) fun ws s3 ⟨ps, H3, I3, rel, q3⟩ => ⟨(x, y) :: ps, H3, I3, .cons ⟨rx, ry⟩ rel, q3⟩)

noncomputable def mergeK (kvs more : List (Key × V)) : List (Key × V) := more.foldl (fun acc kv => putK acc kv.1 kv.2) kvs
theorem KV.merge : ∀ {more : List (Key × V)} {rs : List (Key × Value)} {kvs : List (Key × V)} {vs : List (Key × Value)}, KV more rs → KV kvs vs → KV (mergeK kvs more) (merged vs rs) := by
  intro more rs kvs vs r
  unfold KV at r
  induction r generalizing kvs vs with
  | nil => intro q; exact q
  | @cons p q ps qs h t ih =>
    intro r0
    have e : KV (putK kvs p.1 p.2) (stored vs q.1 q.2) := by
      have := r0.put p.1 h.2
      rw [← h.1]; exact this
    exact ih e
theorem length_mergeK : ∀ (more kvs : List (Key × V)), (mergeK kvs more).length ≤ kvs.length + more.length
  | [], kvs => by show kvs.length ≤ kvs.length + 0; omega
  | p :: r, kvs => by
    have h1 := length_mergeK r (putK kvs p.1 p.2)
    have h2 := length_putK kvs p.1 p.2
    show (mergeK (putK kvs p.1 p.2) r).length ≤ _
    rw [List.length_cons]; omega
theorem carries_of {P : Program} {w : World} : ∀ {kvs : List (Key × V)} {ws : List (Value × Value)}, VV (kvs.map fun kv => (kV kv.1, kv.2)) ws → ∃ rs, Carries (mixKind P w) ws rs ∧ KV kvs rs
  | [], _, r => by rw [List.map_nil] at r; cases r; exact ⟨[], True.intro, .nil⟩
  | p :: kvs, _, r => by
    rw [List.map_cons] at r
    cases r with
    | @cons a b as bs h t =>
      obtain ⟨rs, c, q⟩ := carries_of (P := P) (w := w) t
      obtain ⟨b1, b2⟩ := b
      exact ⟨(p.1, b2) :: rs, ⟨kV_is h.1, rfl, c⟩, .cons ⟨rfl, h.2⟩ q⟩
noncomputable def tDisp (trs : List (TE × TE)) : TE := fun σ H Q => ∀ p, H p = none → tPairs trs σ (upd H p (.dK [])) fun ps H2 => H2 p = some (.dK []) ∧ ∃ kvs : List (Key × V), ps = kvs.map (fun kv => (kV kv.1, kv.2)) ∧ kvs.length ≤ 15 ∧ Q (.ref p) (upd H2 p (.dK (mergeK [] kvs)))
theorem pe_disp {X : Cx} {pos : Pos} {keys : List (Option Expr)} {values : List Expr} {trs : List (TE × TE)} (h : PPs X pos keys values trs) (hall : keys.all (·.isSome) = true) (hl : keys.length = values.length) (h0 : keys ≠ [])
    (h15 : keys.length ≤ 15) : PE X (.Dict keys values pos) (tDisp trs) := by
  intro pins s σ H Q I q
  have hn := I.hok.fresh (Nat.le_refl s.heap.objs.size)
  have I1 := I.laid (a := s.heap.objs.size) (o := .dK []) (h' := s.heap.push { cls := .type "dict", data := .dict #[] }) (t' := s.toks) (fun _ _ q => Heap.get?_push_of_some _ q) (Nat.le_refl _) (dk_empty s.heap I.big)
  refine wpAny_Dict_walk (knd := mixKind X.prog X.w) hall hl h0 h15 (thn (h pins _ σ _ _ I1 (q _ hn)) fun ws s2 zz => ?_)
  obtain ⟨ps, H2, I2, rel, e, kvs, ep, lk, q2⟩ := zz
  subst ep
  obtain ⟨rs, c, rk⟩ := carries_of (P := X.prog) (w := X.w) rel
  obtain ⟨z, hd, vs0, r0, dd⟩ := dk_of I2.hok e
  cases r0
  refine ⟨rs, c, dd, fun h' dd' hs => ⟨.ref s.heap.objs.size, _, ?_, rfl, q2⟩⟩
  have hz : (mergeK [] kvs).length ≤ sizeLine := by
    have h1 := length_mergeK kvs []
    rw [List.length_nil] at h1
    rw [sizeLine_eq]; omega
  have he : ∃ q, h'.get? s.heap.objs.size = some q := let ⟨q, _, _, hq, _⟩ := dd'; ⟨q, hq⟩
  exact d_write I2 (by rw [e]; exact True.intro) hs he (dk_new hz hd (rk.merge .nil) dd')


set_option genInjectivity false in
set_option genSizeOf false in
structure M1 (X : Cx) (o : Expr) (m : Str) (apos : Pos) (e : Expr) (cpos : Pos) : Prop where
  base : attributeBase o m X.env (eval o X.env) = eval o X.env
  few : ((backTo cpos (starEach [e] X.env)).all (fun x => !x.1) && (backToKw cpos (keywordEach [] X.env)).all (fun x => x.1.isSome)
    && decide (([e] : List Expr).length + ([] : List Keyword).length + (if ([] : List Keyword).isEmpty then 0 else 1) < 30)) = true
  line : (apos.endLine == cpos.line) = true
  trees : backTo cpos (starEach [e] X.env) = [(false, eval e X.env)]
set_option genInjectivity false in
set_option genSizeOf false in
structure M2 (X : Cx) (o : Expr) (m : Str) (apos : Pos) (e f : Expr) (cpos : Pos) : Prop where
  base : attributeBase o m X.env (eval o X.env) = eval o X.env
  few : ((backTo cpos (starEach [e, f] X.env)).all (fun x => !x.1) && (backToKw cpos (keywordEach [] X.env)).all (fun x => x.1.isSome)
    && decide (([e, f] : List Expr).length + ([] : List Keyword).length + (if ([] : List Keyword).isEmpty then 0 else 1) < 30)) = true
  line : (apos.endLine == cpos.line) = true
  trees : backTo cpos (starEach [e, f] X.env) = [(false, eval e X.env), (false, eval f X.env)]

section
variable {X : Cx} {pins : List (Addr × Obj)} {σ : St} {H : Hp} {s : Shared} {a : Addr} {y d : V} {u r : Value} {o : Option V} {A : Around} {E : Value → Shared → Prop}
end

section
variable {X : Cx} {o e f : Expr} {apos cpos : Pos} {td ty tx : TE}
end

section
variable {X : Cx} {pins : List (Addr × Obj)} {σ : St} {H : Hp} {s : Shared} {a : Addr} {kvs : List (Key × V)} {A : Around} {E : Value → Shared → Prop}
end


section
variable {X : Cx} {pins : List (Addr × Obj)} {σ : St} {H : Hp} {s : Shared} {a : Addr} {y : V} {u : Value} {A : Around} {E : Value → Shared → Prop}
end
end Internal

set_option Elab.async false
set_option linter.all false
set_option maxRecDepth 100000
namespace Internal
open PySem PySem.Spec PyProof.Rows
noncomputable def spBreakOffX (C CN CG CS : Addr) : Sp := fun vs H Q E => ∃ (b d : Addr) (m w y n : Int) (ts : List (T7 × Str)), vs = [.ref b, .int n] ∧ Bk C H b d m w y ts ∧
  ((∃ t, 0 ≤ n ∧ ts[n.toNat]? = some t ∧ ¬ t.2 = ("broken" : Str) ∧ ¬ t.2 = ("settled" : Str) ∧ ∀ H', Bk C H' b d m w y (ts.set n.toNat (t.1, "broken")) → ButL d H H' → Q .non H') ∨
   (¬ (0 ≤ n ∧ n < ts.length) ∧ E (.ref CN) none H) ∨ (∃ t, 0 ≤ n ∧ ts[n.toNat]? = some t ∧ t.2 = ("broken" : Str) ∧ E (.ref CG) none H) ∨ (∃ t, 0 ≤ n ∧ ts[n.toNat]? = some t ∧ t.2 = ("settled" : Str) ∧ E (.ref CS) none H))
noncomputable def brK (ts : List (T7 × Str)) (n : Int) : Nat :=
  if ¬ (0 ≤ n ∧ n < ts.length) then 1 else if (ts.getD n.toNat t0).2 = ("broken" : Str) then 2 else if (ts.getD n.toNat t0).2 = ("settled" : Str) then 3 else 0
theorem brK_le (ts : List (T7 × Str)) (n : Int) : brK ts n ≤ 3 := by unfold brK; (repeat' split) <;> omega
noncomputable def allP (i : Int) (t : T7 × Str) : Bool := decide (t.2 = "standing") && (decide (t.1.p = i) || decide (t.1.q = i))
noncomputable def brkF (i : Int) (t : T7 × Str) : T7 × Str := if allP i t then (t.1, "broken") else t
noncomputable def spDueB : Sp := fun vs H Q _ => ∃ (ro : Addr) (n : Int) (ts : List (T7 × Str)) (as : List Addr), vs = [.ref ro, .int n] ∧ H ro = some (.lst (as.map V.ref)) ∧ DRows H as ts ∧ St3 ts ∧ ts.length ≤ 1000 ∧ ∀ H', Same H H' → Q (.str (wordC (brK ts n))) H'
theorem mark_brk {m : Int} {ts : List (T7 × Str)} : markL "broken" ts (numF (allP m) ts ts.length) = ts.map (brkF m) := by
  refine ext_get (by rw [markL_len, List.length_map]) fun i a b ha hb => ?_
  have hi : i < ts.length := by have := (List.getElem?_eq_some_iff.mp ha).1; rwa [markL_len] at this
  obtain ⟨t, ht⟩ := lt_some hi
  rw [markL_get ht] at ha
  rw [List.getElem?_map, ht] at hb
  have hiff : ((i : Int) ∈ numF (allP m) ts ts.length) ↔ allP m t = true := by
    rw [mem_numF (Nat.le_refl _)]
    constructor
    · rintro ⟨j, u, h1, h2, h3, h4⟩
      obtain rfl : i = j := by omega
      rw [ht] at h3; cases h3; exact h4
    · exact fun h => ⟨i, t, hi, rfl, ht, h⟩
  rw [show (if (i : Int) ∈ numF (allP m) ts ts.length then (t.1, ("broken" : Str)) else t) = brkF m t from ite_iff hiff] at ha
  exact (Option.some.inj ha).symm.trans (Option.some.inj hb)
theorem st3_brk {m : Int} {ts : List (T7 × Str)} (h : St3 ts) : St3 (ts.map (brkF m)) := fun t ht => by
  obtain ⟨u, hu, e⟩ := List.mem_map.mp ht
  rw [← e]
  unfold brkF
  split
  · exact .inr (.inr rfl)
  · exact h u hu
theorem good7_brk {m w i : Int} {ts : List (T7 × Str)} (h : Good7 m w ts) : Good7 m w (ts.map (brkF i)) := fun t ht => by
  obtain ⟨u, hu, e⟩ := List.mem_map.mp ht
  rw [← e]
  unfold brkF
  split <;> exact h u hu
theorem brkF_not (m : Int) (t : T7 × Str) : allP m (brkF m t) = false := by
  unfold brkF
  by_cases h : allP m t = true
  · rw [if_pos h]
    unfold allP
    rw [show decide (((t.1, ("broken" : Str)) : T7 × Str).2 = "standing") = false from (show decide (("broken" : Str) = ("standing" : Str)) = false by decide +kernel)]
    rfl
  · rw [if_neg h]
    exact Bool.eq_false_iff.mpr h
theorem numF_none {P : T7 × Str → Bool} {ts : List (T7 × Str)} (h : ∀ t ∈ ts, P t = false) {n : Nat} (hn : n ≤ ts.length) : numF P ts n = [] := by
  refine List.eq_nil_iff_forall_not_mem.mpr fun x hx => ?_
  obtain ⟨i, t, _, _, ht, hp⟩ := (mem_numF hn).mp hx
  rw [h t (List.mem_of_getElem? ht)] at hp
  cases hp
theorem brk_none {m : Int} {ts : List (T7 × Str)} : numF (allP m) (ts.map (brkF m)) (ts.map (brkF m)).length = [] := numF_none (fun t ht => by
  obtain ⟨u, _, e⟩ := List.mem_map.mp ht
  rw [← e]; exact brkF_not m u) (Nat.le_refl _)
theorem brk_again {m : Int} {ts : List (T7 × Str)} : (ts.map (brkF m)).map (brkF m) = ts.map (brkF m) := by
  rw [List.map_map]
  refine List.map_congr_left fun t _ => ?_
  show brkF m (brkF m t) = brkF m t
  conv => lhs; unfold brkF
  exact if_neg (by rw [show (if allP m t then (t.1, ("broken" : Str)) else t) = brkF m t from rfl, brkF_not]; exact Bool.false_ne_true)
theorem brK_cases (ts : List (T7 × Str)) (n : Int) : (brK ts n = 0 ∧ ∃ t, 0 ≤ n ∧ ts[n.toNat]? = some t ∧ ¬ t.2 = ("broken" : Str) ∧ ¬ t.2 = ("settled" : Str)) ∨ (brK ts n = 1 ∧ ¬ (0 ≤ n ∧ n < ts.length)) ∨ (brK ts n = 2 ∧ ∃ t, 0 ≤ n ∧ ts[n.toNat]? = some t ∧ t.2 = ("broken" : Str)) ∨ (brK ts n = 3 ∧ ∃ t, 0 ≤ n ∧ ts[n.toNat]? = some t ∧ t.2 = ("settled" : Str)) := by
  by_cases hr : 0 ≤ n ∧ n < ts.length
  · obtain ⟨t, ht⟩ := lt_some (show n.toNat < ts.length by omega)
    have hg := getD_of ht
    unfold brK
    rw [if_neg (Classical.not_not.mpr hr), hg]
    by_cases h1 : t.2 = ("broken" : Str)
    · rw [if_pos h1]; exact .inr (.inr (.inl ⟨rfl, t, hr.1, ht, h1⟩))
    · rw [if_neg h1]
      by_cases h2 : t.2 = ("settled" : Str)
      · rw [if_pos h2]; exact .inr (.inr (.inr ⟨rfl, t, hr.1, ht, h2⟩))
      · rw [if_neg h2]; exact .inl ⟨rfl, t, hr.1, ht, h1, h2⟩
  · unfold brK
    rw [if_pos hr]
    exact .inr (.inl ⟨rfl, hr⟩)
noncomputable def spBreakAll (C : Addr) : Sp := fun vs H Q _ => ∃ (b d : Addr) (m w y i : Int) (ts : List (T7 × Str)), vs = [.ref b, .int i] ∧ Bk C H b d m w y ts ∧ ts.length ≤ 1000 ∧ ∀ p H', H p = none → Bk C H' b d m w y (ts.map (brkF i)) → (∀ c o, c ≠ d → H c = some o → H' c = some o) → H' p = some (.lst ((numF (allP i) ts ts.length).map V.int)) → Q (.ref p) H'
noncomputable def spNameB (CN CG CS : Addr) : Sp := fun vs H Q _ => ∃ (er C : Addr) (n : Nat), vs = [.ref er] ∧ H er = some (ExcAt er C) ∧ ((C = CN ∧ n = 1) ∨ (C = CG ∧ n = 2) ∨ (C = CS ∧ n = 3)) ∧ ∀ H', Same H H' → Q (.str (wordC n)) H'
noncomputable def spBreakB (C : Addr) : Sp := fun vs H Q _ => ∃ (b d : Addr) (m w y n : Int) (ts : List (T7 × Str)), vs = [.ref b, .int n] ∧ Bk C H b d m w y ts ∧
  ((∃ t, brK ts n = 0 ∧ ts[n.toNat]? = some t ∧ 0 ≤ n ∧ ∀ p H', Bk C H' b d m w y (ts.set n.toNat (t.1, "broken")) → ButL d H H' → H' p = some (.tup [.str "told", .non]) → Q (.ref p) H') ∨
   (¬ brK ts n = 0 ∧ ∀ p H', Same H H' → H' p = some (.tup [.str "refused", .str (wordC (brK ts n))]) → Q (.ref p) H'))
noncomputable def spOneB (K : PySem.W.Frag) (C : Addr) : Sp := fun vs H Q _ => ∃ (a b d ro : Addr) (ns : List Int) (k m w y : Int) (ts : List (T7 × Str)) (as : List Addr), vs = [.ref a, .int k, .ref b, .ref ro] ∧ SqL K H a (ns.map V.int) ∧ 0 ≤ k ∧ k ≤ 4000 ∧ BQ C H b d ro m w y ts as ∧ d ≠ ro ∧ ts.length ≤ 900 ∧
  ∀ H' ts', BQ C H' b d ro m w y ts' as → ts'.length = ts.length → (∀ c o, c ≠ d → c ∉ as → H c = some o → H' c = some o) → Q (.bl true) H'
noncomputable def spAllB (C : Addr) : Sp := fun vs H Q _ => ∃ (b d ro : Addr) (m w y i : Int) (ts : List (T7 × Str)) (as : List Addr), vs = [.ref b, .ref ro, .int i] ∧ BQ C H b d ro m w y ts as ∧ d ≠ ro ∧ ts.length ≤ 900 ∧ ∀ H', BQ C H' b d ro m w y (ts.map (brkF i)) as → (∀ c o, c ≠ d → c ∉ as → H c = some o → H' c = some o) → Q (.bl true) H'
noncomputable def spSetUpB (K : PySem.W.Frag) (C : Addr) : Sp := fun vs H Q _ => ∃ (H0 : Hp) (a b d : Addr) (ns : List Int) (m w : Int), vs = [.ref a, .ref b, .int m, .int w] ∧ SqL K H0 a (ns.map V.int) ∧ Same H0 H ∧ H0 d = none ∧ Bk C H b d m w 0 [] ∧ 2 ≤ m ∧ m ≤ 8 ∧ 1 ≤ w ∧ w ≤ 4 ∧
  ∀ ro H' ts as, H ro = none → (∀ c ∈ as, H c = none) → d ≠ ro → BQ C H' b d ro m w 0 ts as → ts.length ≤ 12 → (∀ c o, c ≠ d → H c = some o → H' c = some o) → Q (.ref ro) H'
noncomputable def spClosedB (C : Addr) : Sp := fun vs H Q _ => ∃ (b d ro : Addr) (m w y : Int) (ts : List (T7 × Str)) (as : List Addr), vs = [.ref b, .ref ro, .int y] ∧ BQ C H b d ro m w y ts as ∧ d ≠ ro ∧ ts.length ≤ 1000 ∧ ∀ H', BQ C H' b d ro m w (y + 1) (ts.map (clsF y)) as → (∀ c o, c ≠ d → c ≠ b → c ∉ as → H c = some o → H' c = some o) → Q .non H'
theorem x_eqRefC {K : PySem.W.Frag} {H : Hp} {Q : VK} {a b : Addr} {n : Nat} (h1 : H a = some (.tup [.str "refused", .str (wordC n)])) (h2 : H b = some (.tup [.str "refused", .str (wordC n)])) (q : Q (.bl true) H) : rEqU K (.ref a) (.ref b) H Q := by
  have rep : RepAll K H [.str "refused", .str (wordC n)] [.str "refused", .str (wordC n)] := .cons (.str _ (by decide +kernel)) (.cons (.str _ (wordC_lay n)) .nil)
  refine x_eqD (.tup (.of h1) rep) (.tup (.of h2) rep) (by simp [PyData.depth, PyData.depthAll]) ?_
  rw [PySem.SeqAt.eqv_refl _ (by rw [PyData.canLay0]; exact rep.lay)]
  exact q
end Internal

set_option Elab.async false
set_option linter.all false
set_option maxRecDepth 100000
set_option maxHeartbeats 4000000
namespace Internal.K
open PySem Internal
local macro_rules | `(tactic| walk_at "z") => `(tactic| first
  | assumption
  | exact sz200 (by omega) (by omega)
  | exact szL (by decide) (by omega) (by omega)
  | ((with_reducible apply Nat.le_trans (m := _)); (focus assumption); omega))
local macro_rules | `(tactic| walk_at "h") => `(tactic| first
  | assumption
  | (with_reducible exact Same.refl _)
  | ((with_reducible apply Same.at); (focus assumption); walk_at "h")
  | ((with_reducible apply LBut.tup); (focus assumption); walk_at "h")
  | ((with_reducible apply LBut.lst); (focus assumption); (focus walk_at "h"); walk_at "h")
  | ((with_reducible apply SqL.keep); (focus (show SqL _ _ _ _; assumption)); walk_at "h")
  | ((with_reducible apply SqL.of); walk_at "h")
  | ((with_reducible apply Same.after); (focus assumption); walk_at "h")
  | ((with_reducible apply LBut.same); (focus assumption); (focus walk_at "h"); walk_at "h")
  | ((with_reducible apply Same.none); (focus assumption); walk_at "h")
  | ((with_reducible apply LBut.isTs); (focus assumption); walk_at "h")
  | ((with_reducible apply Same.cuts); (focus assumption); walk_at "h")
  | ((with_reducible apply LBut.ins); (focus assumption); walk_at "h")
  | ((with_reducible apply Bk.same); (focus walk_at "h"); (focus assumption))
  | ((with_reducible apply ne_new); (focus assumption); walk_at "h")
  | ((with_reducible apply ne_new'); (focus assumption); walk_at "h"))
local macro_rules | `(tactic| walk_at "x1") => `(tactic| first
  | ((with_reducible apply x_var); (focus (exact rfl)))
  | (with_reducible (first
      | apply x_bl
      | apply x_truB
      | apply x_eqI
      | apply x_neI
      | apply x_add
      | apply x_i0
      | apply x_call
      | apply x_andV
      | apply x_iteT
      | apply x_iteF
      | apply x_iteNT))
  | (with_reducible refine x_iteY (by assumption) ?_)
  | (with_reducible refine x_iteZ (by assumption) ?_)
  | (with_reducible refine x_iteNY (by assumption) ?_)
  | (with_reducible refine x_iteNZ (by assumption) ?_)
  | (with_reducible refine x_ite (fun _ => ?_) (fun _ => ?_))
  | (with_reducible refine x_iteN (fun _ => ?_) (fun _ => ?_))
  | (with_reducible (first
      | apply x_tup
      | apply x_lst))
  | ((with_reducible show rIx _ (V.ref _) (V.int _) _ _); first
      | refine x_ixTs (by assumption) (by rfl) ?_
      | refine x_ixRow (by assumption) (by omega) (by assumption) ?_
      | refine x_ixTs (by walk_at "h") (by rfl) ?_
      | refine x_ixLs (by walk_at "h") (by assumption) ?_
      | refine x_ixL (by walk_at "h") (by assumption) ?_
      | refine x_ixLs (by walk_at "h") (by rfl) ?_)
  | ((with_reducible show rIsiU _ [V.int _, _] _ _); refine x_isU ?_)
  | ((with_reducible show rIsiU _ [V.bl _, _] _ _); refine x_isU ?_)
  | (with_reducible (first
      | apply x_isII
      | apply x_isIB))
  | ((with_reducible show rIsiU _ [V.ref _, V.ty "tuple"] _ _); refine x_isU ?_; first | refine IsQ.isT (by walk_at "h") ?_ | refine x_isTT (by walk_at "h") ?_ | refine x_isLT (by walk_at "h") ?_)
  | ((with_reducible show rIsiU _ [V.ref _, V.ty "list"] _ _); refine x_isU ?_; first | refine x_isLL (by walk_at "h") ?_ | refine x_isTL (by walk_at "h") ?_)
  | ((with_reducible show rIsiU _ [V.ref _, V.ref _] _ _); refine x_isE (by walk_at "h") (by assumption) rfl (by assumption) ?_)
  | ((with_reducible show rIsiU _ [V.ref _, V.ty "ValueError"] _ _); refine x_isE (by walk_at "h") (by assumption) rfl (by assumption) ?_)
  | (with_reducible refine x_catch (by assumption) (fun _ _ _ _ _ => ?_))
  | ((with_reducible show rTup _ [] _); refine x_tupN (by first | decide | simp) (fun _ _ _ _ _ => ?_))
  | ((with_reducible show rTup _ [_] _); refine x_tupN (by first | decide | simp) (fun _ _ _ _ _ => ?_))
  | ((with_reducible show rTup _ (_ :: _ :: _ :: _) _); refine x_tupN (by first | decide | simp) (fun _ _ _ _ _ => ?_))
  | (with_reducible (first
      | apply x_raise
      | apply x_tryG))
  | ((with_reducible show rLen _ [V.ref _] _ _); first | refine IsQ.len (by walk_at "h") ?_ | refine x_lenL (by walk_at "h") ?_ | refine x_lenT' (by walk_at "h") ?_)
  | (with_reducible (first
      | apply x_for
      | apply x_comp
      | apply x_isNone
      | apply x_gNil
      | apply x_gCons))
  | ((with_reducible show gTup _ _ _ (V.ref _) _ _ _); refine x_gTup (by assumption) rfl ?_)
  | (with_reducible (first
      | apply x_fld
      | apply x_sfld
      | apply x_meth
      | apply x_make
      | apply x_augF
      | apply x_itT
      | apply x_eqS
      | apply x_neS))
  | ((with_reducible show rFld _ _ _ (V.ref _) _); refine x_fldk (by walk_at "h") (by assumption) (by assumption) (by first | exact bfl_many | exact bfl_wares | exact bfl_day | exact bfl_deals) ?_)
  | ((with_reducible show rMeth _ _ _ _ _ _ _ (V.ref _) _); refine x_methk (by walk_at "h") (bfl_no (by decide +kernel) (by decide +kernel) (by decide +kernel) (by decide +kernel)) ?_)
  | ((with_reducible show rMethR _ _ _ _ _ _ _ (V.ref _) _); refine x_methRk (by walk_at "h") (bfl_no (by decide +kernel) (by decide +kernel) (by decide +kernel) (by decide +kernel)) ?_)
  | ((with_reducible show spStruck _ _ _ _ _); refine ⟨_, _, _, _, _, _, _, rfl, (by walk_at "h"), (by walk_at "h"), ?_⟩)
  | ((with_reducible show spToday _ _ _ _ _); refine ⟨_, _, _, _, _, _, rfl, (by walk_at "h"), ?_⟩)
  | ((with_reducible show spCellB _ _ _ _ _); refine spCellB_i (by walk_at "h") (by omega) (fun _ => ?_))
  | ((with_reducible show spDrawB _ _ _ _ _); refine spDrawB_i (by walk_at "h") (by omega) (by omega) (by omega) (fun _ _ _ => ?_))
  | ((with_reducible show spGreatB _ _ _ _ _); refine spGreatB_i (by walk_at "h") (by omega) (by omega) (by omega) (by omega) (fun _ _ _ => ?_))
  | ((with_reducible show rRng1 _ [V.int _] _); refine x_rngk1 (by omega) (by omega) ?_)
  | ((with_reducible show rItL _ _ (V.ref _) _); refine x_itk (by walk_at "h") ?_)
  | ((with_reducible show rEnum _ _ [V.ref _] _); refine x_enumk (by walk_at "h") ?_)
  | ((with_reducible show rEqU _ (V.ref _) (V.ref _) _ _); first | refine x_eqInts (by walk_at "h") (by walk_at "h") rfl ?_ | refine x_eqSh (by walk_at "h") (by walk_at "h") rfl ?_ | refine x_eqQs (by walk_at "h") (by walk_at "h") (by walk_at "h") (by walk_at "h") ?_)
  | ((with_reducible show rNeU _ (V.ref _) (V.ref _) _ _); first | refine x_neInts (by walk_at "h") (by walk_at "h") rfl ?_ | refine x_neRows (by walk_at "h") (by walk_at "h") (by walk_at "h") (by walk_at "h") (by omega) (fun _ _ _ _ => rfl) ?_ | refine x_neSh (by walk_at "h") (by walk_at "h") rfl ?_ | refine x_neQs (by walk_at "h") (by walk_at "h") (by walk_at "h") (by walk_at "h") ?_)
  | (with_reducible (first
      | apply x_rng1
      | apply x_itL
      | apply x_bm
      | apply x_part
      | apply x_partI))
  | ((with_reducible show tyV _ "list" (V.ref _) _ ∧ _); refine x_tyL (by walk_at "h") ?_)
  | ((with_reducible show rAppend (V.ref _) [_] _ _); refine x_appN (by walk_at "h") (by omega) (fun _ _ _ => ?_))
  | ((with_reducible show NewQ _ _ _); intro _ _ _ _)
  | ((with_reducible show rLst _ _ _); refine x_lstN (by first | decide | simp) (fun _ _ _ _ _ => ?_))
  | ((with_reducible show rSlL _ _ _ _ _ _); refine x_cutN (by walk_at "h") (fun _ _ _ _ _ => ?_))
  | ((with_reducible show rModU _ _ _ _); refine x_mod (by first | decide | omega) ?_)
  | ((with_reducible show rMulU _ _ _ _); refine x_mul (by first | assumption | (apply CMulS.of; (focus walk_at "z"); (focus walk_at "z"); first | decide | omega)) ?_)
  | ((with_reducible show rI CPow _ _ _ _ _); refine x_pow ⟨by decide, by decide, by decide⟩ rfl ?_; (try simp only [Int.reduceToNat, Int.reducePow]))
  | ((with_reducible show Ends.nx _ _ _); dsimp only [List.set, Ends.gone]))
local macro_rules | `(tactic| walk_at "x") => `(tactic| repeat' (walk_at "x1"))

noncomputable def top (i : Nat) : Stmt := PySem.Challenge.pw_quits_k70_broken_off.main.body.getD i (.Pass ⟨0, 0, 0, 0⟩)
noncomputable abbrev s_Book___init__ : Stmt := inClass (top 18) 0
noncomputable abbrev s_Book_strike : Stmt := inClass (top 18) 1
noncomputable abbrev s_Book_check_members : Stmt := inClass (top 18) 2
noncomputable abbrev s_Book_check_terms : Stmt := inClass (top 18) 3
noncomputable abbrev s_Book_break_off : Stmt := inClass (top 18) 5
noncomputable abbrev s_Book_standing_deal : Stmt := inClass (top 18) 6
noncomputable abbrev s_Book_put_state : Stmt := inClass (top 18) 7
noncomputable abbrev s_Book_break_all : Stmt := inClass (top 18) 8
noncomputable abbrev s_Book_close : Stmt := inClass (top 18) 11
noncomputable abbrev s_Book_today : Stmt := inClass (top 18) 12
noncomputable abbrev s_Book_struck : Stmt := inClass (top 18) 13
noncomputable abbrev s_Book_deal : Stmt := inClass (top 18) 14
noncomputable abbrev s__law_cell : Stmt := top 20
noncomputable abbrev s__law_draw : Stmt := top 21
noncomputable abbrev s__law_great : Stmt := top 22
noncomputable abbrev s__law_name : Stmt := top 23
noncomputable abbrev s__law_due : Stmt := top 24
noncomputable abbrev s__law_break : Stmt := top 25
noncomputable abbrev s__law_one : Stmt := top 26
noncomputable abbrev s__law_all : Stmt := top 27
noncomputable abbrev s__law_stands : Stmt := top 28
noncomputable abbrev s__law_set_up : Stmt := top 29
noncomputable abbrev s__law_closed : Stmt := top 30
noncomputable abbrev s_law : Stmt := top 31
theorem sc_Book___init__ : FnScope ["self", "many", "wares"] ["self", "many", "wares"] (defScope s_Book___init__) := ⟨rfl, rfl, rfl, by decide +kernel, rfl, by decide +kernel, by decide +kernel⟩
theorem sc_Book_strike : FnScope ["self", "payer", "payee", "ware", "units", "amount", "day", "rank"] ["self", "payer", "payee", "ware", "units", "amount", "day", "rank"] (defScope s_Book_strike) := ⟨rfl, rfl, rfl, by decide +kernel, rfl, by decide +kernel, by decide +kernel⟩
theorem sc_Book_check_members : FnScope ["self", "payer", "payee", "member"] ["self", "payer", "payee"] (defScope s_Book_check_members) := ⟨rfl, rfl, rfl, by decide +kernel, rfl, by decide +kernel, by decide +kernel⟩
theorem sc_Book_check_terms : FnScope ["self", "ware", "units", "amount", "day", "rank"] ["self", "ware", "units", "amount", "day", "rank"] (defScope s_Book_check_terms) := ⟨rfl, rfl, rfl, by decide +kernel, rfl, by decide +kernel, by decide +kernel⟩
theorem sc_Book_break_off : FnScope ["self", "number"] ["self", "number"] (defScope s_Book_break_off) := ⟨rfl, rfl, rfl, by decide +kernel, rfl, by decide +kernel, by decide +kernel⟩
theorem sc_Book_standing_deal : FnScope ["self", "number", "found"] ["self", "number"] (defScope s_Book_standing_deal) := ⟨rfl, rfl, rfl, by decide +kernel, rfl, by decide +kernel, by decide +kernel⟩
theorem sc_Book_put_state : FnScope ["self", "number", "state"] ["self", "number", "state"] (defScope s_Book_put_state) := ⟨rfl, rfl, rfl, by decide +kernel, rfl, by decide +kernel, by decide +kernel⟩
theorem sc_Book_break_all : FnScope ["self", "member", "numbers", "number"] ["self", "member"] (defScope s_Book_break_all) := ⟨rfl, rfl, rfl, by decide +kernel, rfl, by decide +kernel, by decide +kernel⟩
theorem sc_Book_close : FnScope ["self", "numbers", "number"] ["self"] (defScope s_Book_close) := ⟨rfl, rfl, rfl, by decide +kernel, rfl, by decide +kernel, by decide +kernel⟩
theorem sc_Book_today : FnScope ["self"] ["self"] (defScope s_Book_today) := ⟨rfl, rfl, rfl, by decide +kernel, rfl, by decide +kernel, by decide +kernel⟩
theorem sc_Book_struck : FnScope ["self"] ["self"] (defScope s_Book_struck) := ⟨rfl, rfl, rfl, by decide +kernel, rfl, by decide +kernel, by decide +kernel⟩
theorem sc_Book_deal : FnScope ["self", "number"] ["self", "number"] (defScope s_Book_deal) := ⟨rfl, rfl, rfl, by decide +kernel, rfl, by decide +kernel, by decide +kernel⟩
theorem sc__law_cell : FnScope ["_law_script", "_law_k"] ["_law_script", "_law_k"] (defScope s__law_cell) := ⟨rfl, rfl, rfl, by decide +kernel, rfl, by decide +kernel, by decide +kernel⟩
theorem sc__law_draw : FnScope ["_law_script", "_law_k", "_law_many"] ["_law_script", "_law_k", "_law_many"] (defScope s__law_draw) := ⟨rfl, rfl, rfl, by decide +kernel, rfl, by decide +kernel, by decide +kernel⟩
theorem sc__law_great : FnScope ["_law_script", "_law_k", "_law_many"] ["_law_script", "_law_k", "_law_many"] (defScope s__law_great) := ⟨rfl, rfl, rfl, by decide +kernel, rfl, by decide +kernel, by decide +kernel⟩
theorem sc__law_name : FnScope ["_law_e", "_law_found"] ["_law_e"] (defScope s__law_name) := ⟨rfl, rfl, rfl, by decide +kernel, rfl, by decide +kernel, by decide +kernel⟩
theorem sc__law_due : FnScope ["_law_rows", "_law_number"] ["_law_rows", "_law_number"] (defScope s__law_due) := ⟨rfl, rfl, rfl, by decide +kernel, rfl, by decide +kernel, by decide +kernel⟩
theorem sc__law_break : FnScope ["_law_book", "_law_number", "_law_found", "_law_e"] ["_law_book", "_law_number"] (defScope s__law_break) := ⟨rfl, rfl, rfl, by decide +kernel, rfl, by decide +kernel, by decide +kernel⟩
theorem sc__law_one : FnScope ["_law_script", "_law_at", "_law_book", "_law_rows", "_law_number", "_law_due_here", "_law_found"] ["_law_script", "_law_at", "_law_book", "_law_rows"] (defScope s__law_one) := ⟨rfl, rfl, rfl, by decide +kernel, rfl, by decide +kernel, by decide +kernel⟩
theorem sc__law_all : FnScope ["_law_book", "_law_rows", "_law_member", "_law_due_here", "_law_number", "_law_row", "_law_told", "_law_one_here", "_law_again"] ["_law_book", "_law_rows", "_law_member"] (defScope s__law_all) := ⟨rfl, rfl, rfl, by decide +kernel, rfl, by decide +kernel, by decide +kernel⟩
theorem sc__law_stands : FnScope ["_law_book", "_law_rows", "_law_number", "_law_told"] ["_law_book", "_law_rows"] (defScope s__law_stands) := ⟨rfl, rfl, rfl, by decide +kernel, rfl, by decide +kernel, by decide +kernel⟩
theorem sc__law_set_up : FnScope ["_law_script", "_law_book", "_law_many", "_law_wares", "_law_rows", "_law_k", "_law_at", "_law_payer", "_law_payee", "_law_units", "_law_amount", "_law_row"] ["_law_script", "_law_book", "_law_many", "_law_wares"] (defScope s__law_set_up) := ⟨rfl, rfl, rfl, by decide +kernel, rfl, by decide +kernel, by decide +kernel⟩
theorem sc__law_closed : FnScope ["_law_book", "_law_rows", "_law_today", "_law_row"] ["_law_book", "_law_rows", "_law_today"] (defScope s__law_closed) := ⟨rfl, rfl, rfl, by decide +kernel, rfl, by decide +kernel, by decide +kernel⟩
theorem sc_law : FnScope ["_law_script", "_law_many", "_law_wares", "_law_book", "_law_rows", "_law_today", "_law_k", "_law_at", "_law_way", "_law_right"] ["_law_script"] (defScope s_law) := ⟨rfl, rfl, rfl, by decide +kernel, rfl, by decide +kernel, by decide +kernel⟩
theorem lenZ {α : Type} {us : List α} (h : us.length = 0) : us = [] := List.eq_nil_of_length_eq_zero h
theorem lenS {α : Type} {us : List α} {n : Nat} (h : us.length = n + 1) : ∃ a vs, us = a :: vs ∧ vs.length = n := by
  cases us with
  | nil => cases h
  | cons a vs => exact ⟨a, vs, rfl, Nat.succ.inj h⟩
theorem len1 {α : Type} {us : List α} (h : us.length = 1) : ∃ a0, us = [a0] := by
  obtain ⟨a0, us0, rfl, h0⟩ := lenS h
  obtain rfl := lenZ h0
  exact ⟨a0, rfl⟩
theorem len2 {α : Type} {us : List α} (h : us.length = 2) : ∃ a0 a1, us = [a0, a1] := by
  obtain ⟨a0, us0, rfl, h0⟩ := lenS h
  obtain ⟨a1, us1, rfl, h1⟩ := lenS h0
  obtain rfl := lenZ h1
  exact ⟨a0, a1, rfl⟩
theorem len3 {α : Type} {us : List α} (h : us.length = 3) : ∃ a0 a1 a2, us = [a0, a1, a2] := by
  obtain ⟨a0, us0, rfl, h0⟩ := lenS h
  obtain ⟨a1, us1, rfl, h1⟩ := lenS h0
  obtain ⟨a2, us2, rfl, h2⟩ := lenS h1
  obtain rfl := lenZ h2
  exact ⟨a0, a1, a2, rfl⟩
theorem len4 {α : Type} {us : List α} (h : us.length = 4) : ∃ a0 a1 a2 a3, us = [a0, a1, a2, a3] := by
  obtain ⟨a0, us0, rfl, h0⟩ := lenS h
  obtain ⟨a1, us1, rfl, h1⟩ := lenS h0
  obtain ⟨a2, us2, rfl, h2⟩ := lenS h1
  obtain ⟨a3, us3, rfl, h3⟩ := lenS h2
  obtain rfl := lenZ h3
  exact ⟨a0, a1, a2, a3, rfl⟩
theorem len6 {α : Type} {us : List α} (h : us.length = 6) : ∃ a0 a1 a2 a3 a4 a5, us = [a0, a1, a2, a3, a4, a5] := by
  obtain ⟨a0, us0, rfl, h0⟩ := lenS h
  obtain ⟨a1, us1, rfl, h1⟩ := lenS h0
  obtain ⟨a2, us2, rfl, h2⟩ := lenS h1
  obtain ⟨a3, us3, rfl, h3⟩ := lenS h2
  obtain ⟨a4, us4, rfl, h4⟩ := lenS h3
  obtain ⟨a5, us5, rfl, h5⟩ := lenS h4
  obtain rfl := lenZ h5
  exact ⟨a0, a1, a2, a3, a4, a5, rfl⟩
theorem len8 {α : Type} {us : List α} (h : us.length = 8) : ∃ a0 a1 a2 a3 a4 a5 a6 a7, us = [a0, a1, a2, a3, a4, a5, a6, a7] := by
  obtain ⟨a0, us0, rfl, h0⟩ := lenS h
  obtain ⟨a1, us1, rfl, h1⟩ := lenS h0
  obtain ⟨a2, us2, rfl, h2⟩ := lenS h1
  obtain ⟨a3, us3, rfl, h3⟩ := lenS h2
  obtain ⟨a4, us4, rfl, h4⟩ := lenS h3
  obtain ⟨a5, us5, rfl, h5⟩ := lenS h4
  obtain ⟨a6, us6, rfl, h6⟩ := lenS h5
  obtain ⟨a7, us7, rfl, h7⟩ := lenS h6
  obtain rfl := lenZ h7
  exact ⟨a0, a1, a2, a3, a4, a5, a6, a7, rfl⟩
set_option genInjectivity false in
set_option genSizeOf false in
set_option genInjectivity false in
set_option genSizeOf false in
structure Dfn (K : PySem.W.Frag) (mg : Str → Option Value) (x qual : Str) (st : Stmt) (ps : List Str) where
  a : Addr
  fd : FuncData
  F : Fun K x qual st a fd
  b : Binds K fd ps []
  m : mg x = some (.ref a)
set_option genInjectivity false in
set_option genSizeOf false in
set_option genInjectivity false in
set_option genSizeOf false in
structure DfnM (K : PySem.W.Frag) (C : Addr) (x qual : Str) (st : Stmt) (ps : List Str) where
  a : Addr
  fd : FuncData
  F : Fun K x qual st a fd
  b : Binds K fd ps []
  mt : Meth K C x a
set_option genInjectivity false in
set_option genSizeOf false in
set_option genInjectivity false in
set_option genSizeOf false in
structure Txt (K : PySem.W.Frag) (mg : Str → Option Value) where
  c_Closed : Addr
  m_Closed : mg "Closed" = some (.ref c_Closed)
  c_Gone : Addr
  m_Gone : mg "Gone" = some (.ref c_Gone)
  c_NoDeal : Addr
  m_NoDeal : mg "NoDeal" = some (.ref c_NoDeal)
  c_NoMember : Addr
  m_NoMember : mg "NoMember" = some (.ref c_NoMember)
  c_NoTerms : Addr
  m_NoTerms : mg "NoTerms" = some (.ref c_NoTerms)
  c_QuitsError : Addr
  m_QuitsError : mg "QuitsError" = some (.ref c_QuitsError)
  c_Settled : Addr
  m_Settled : mg "Settled" = some (.ref c_Settled)
  c_Standing : Addr
  m_Standing : mg "Standing" = some (.ref c_Standing)
  e_Closed : errOk K c_Closed = true
  i_Closed_Closed : PySem.W.kitOne K (.ref c_Closed) (.ref c_Closed) = some true
  i_Closed_Gone : PySem.W.kitOne K (.ref c_Closed) (.ref c_Gone) = some false
  i_Closed_NoDeal : PySem.W.kitOne K (.ref c_Closed) (.ref c_NoDeal) = some false
  i_Closed_NoMember : PySem.W.kitOne K (.ref c_Closed) (.ref c_NoMember) = some false
  i_Closed_NoTerms : PySem.W.kitOne K (.ref c_Closed) (.ref c_NoTerms) = some false
  i_Closed_QuitsError : PySem.W.kitOne K (.ref c_Closed) (.ref c_QuitsError) = some true
  i_Closed_Settled : PySem.W.kitOne K (.ref c_Closed) (.ref c_Settled) = some false
  i_Closed_Standing : PySem.W.kitOne K (.ref c_Closed) (.ref c_Standing) = some false
  i_Closed_ValueError : PySem.W.kitOne K (.ref c_Closed) (.type "ValueError") = some true
  q_Closed_QuitsError : PySem.W.exmOne K (.ref c_Closed) (.ref c_QuitsError) = some true
  e_Gone : errOk K c_Gone = true
  i_Gone_Closed : PySem.W.kitOne K (.ref c_Gone) (.ref c_Closed) = some false
  i_Gone_Gone : PySem.W.kitOne K (.ref c_Gone) (.ref c_Gone) = some true
  i_Gone_NoDeal : PySem.W.kitOne K (.ref c_Gone) (.ref c_NoDeal) = some false
  i_Gone_NoMember : PySem.W.kitOne K (.ref c_Gone) (.ref c_NoMember) = some false
  i_Gone_NoTerms : PySem.W.kitOne K (.ref c_Gone) (.ref c_NoTerms) = some false
  i_Gone_QuitsError : PySem.W.kitOne K (.ref c_Gone) (.ref c_QuitsError) = some true
  i_Gone_Settled : PySem.W.kitOne K (.ref c_Gone) (.ref c_Settled) = some false
  i_Gone_Standing : PySem.W.kitOne K (.ref c_Gone) (.ref c_Standing) = some false
  i_Gone_ValueError : PySem.W.kitOne K (.ref c_Gone) (.type "ValueError") = some true
  q_Gone_QuitsError : PySem.W.exmOne K (.ref c_Gone) (.ref c_QuitsError) = some true
  e_NoDeal : errOk K c_NoDeal = true
  i_NoDeal_Closed : PySem.W.kitOne K (.ref c_NoDeal) (.ref c_Closed) = some false
  i_NoDeal_Gone : PySem.W.kitOne K (.ref c_NoDeal) (.ref c_Gone) = some false
  i_NoDeal_NoDeal : PySem.W.kitOne K (.ref c_NoDeal) (.ref c_NoDeal) = some true
  i_NoDeal_NoMember : PySem.W.kitOne K (.ref c_NoDeal) (.ref c_NoMember) = some false
  i_NoDeal_NoTerms : PySem.W.kitOne K (.ref c_NoDeal) (.ref c_NoTerms) = some false
  i_NoDeal_QuitsError : PySem.W.kitOne K (.ref c_NoDeal) (.ref c_QuitsError) = some true
  i_NoDeal_Settled : PySem.W.kitOne K (.ref c_NoDeal) (.ref c_Settled) = some false
  i_NoDeal_Standing : PySem.W.kitOne K (.ref c_NoDeal) (.ref c_Standing) = some false
  i_NoDeal_ValueError : PySem.W.kitOne K (.ref c_NoDeal) (.type "ValueError") = some true
  q_NoDeal_QuitsError : PySem.W.exmOne K (.ref c_NoDeal) (.ref c_QuitsError) = some true
  e_NoMember : errOk K c_NoMember = true
  i_NoMember_Closed : PySem.W.kitOne K (.ref c_NoMember) (.ref c_Closed) = some false
  i_NoMember_Gone : PySem.W.kitOne K (.ref c_NoMember) (.ref c_Gone) = some false
  i_NoMember_NoDeal : PySem.W.kitOne K (.ref c_NoMember) (.ref c_NoDeal) = some false
  i_NoMember_NoMember : PySem.W.kitOne K (.ref c_NoMember) (.ref c_NoMember) = some true
  i_NoMember_NoTerms : PySem.W.kitOne K (.ref c_NoMember) (.ref c_NoTerms) = some false
  i_NoMember_QuitsError : PySem.W.kitOne K (.ref c_NoMember) (.ref c_QuitsError) = some true
  i_NoMember_Settled : PySem.W.kitOne K (.ref c_NoMember) (.ref c_Settled) = some false
  i_NoMember_Standing : PySem.W.kitOne K (.ref c_NoMember) (.ref c_Standing) = some false
  i_NoMember_ValueError : PySem.W.kitOne K (.ref c_NoMember) (.type "ValueError") = some true
  q_NoMember_QuitsError : PySem.W.exmOne K (.ref c_NoMember) (.ref c_QuitsError) = some true
  e_NoTerms : errOk K c_NoTerms = true
  i_NoTerms_Closed : PySem.W.kitOne K (.ref c_NoTerms) (.ref c_Closed) = some false
  i_NoTerms_Gone : PySem.W.kitOne K (.ref c_NoTerms) (.ref c_Gone) = some false
  i_NoTerms_NoDeal : PySem.W.kitOne K (.ref c_NoTerms) (.ref c_NoDeal) = some false
  i_NoTerms_NoMember : PySem.W.kitOne K (.ref c_NoTerms) (.ref c_NoMember) = some false
  i_NoTerms_NoTerms : PySem.W.kitOne K (.ref c_NoTerms) (.ref c_NoTerms) = some true
  i_NoTerms_QuitsError : PySem.W.kitOne K (.ref c_NoTerms) (.ref c_QuitsError) = some true
  i_NoTerms_Settled : PySem.W.kitOne K (.ref c_NoTerms) (.ref c_Settled) = some false
  i_NoTerms_Standing : PySem.W.kitOne K (.ref c_NoTerms) (.ref c_Standing) = some false
  i_NoTerms_ValueError : PySem.W.kitOne K (.ref c_NoTerms) (.type "ValueError") = some true
  q_NoTerms_QuitsError : PySem.W.exmOne K (.ref c_NoTerms) (.ref c_QuitsError) = some true
  e_Settled : errOk K c_Settled = true
  i_Settled_Closed : PySem.W.kitOne K (.ref c_Settled) (.ref c_Closed) = some false
  i_Settled_Gone : PySem.W.kitOne K (.ref c_Settled) (.ref c_Gone) = some false
  i_Settled_NoDeal : PySem.W.kitOne K (.ref c_Settled) (.ref c_NoDeal) = some false
  i_Settled_NoMember : PySem.W.kitOne K (.ref c_Settled) (.ref c_NoMember) = some false
  i_Settled_NoTerms : PySem.W.kitOne K (.ref c_Settled) (.ref c_NoTerms) = some false
  i_Settled_QuitsError : PySem.W.kitOne K (.ref c_Settled) (.ref c_QuitsError) = some true
  i_Settled_Settled : PySem.W.kitOne K (.ref c_Settled) (.ref c_Settled) = some true
  i_Settled_Standing : PySem.W.kitOne K (.ref c_Settled) (.ref c_Standing) = some false
  i_Settled_ValueError : PySem.W.kitOne K (.ref c_Settled) (.type "ValueError") = some true
  q_Settled_QuitsError : PySem.W.exmOne K (.ref c_Settled) (.ref c_QuitsError) = some true
  c_Book : Addr
  m_Book : mg "Book" = some (.ref c_Book)
  cl_Book : Cls K c_Book
  na_Book_day : NoAttr K c_Book "day"
  na_Book_deals : NoAttr K c_Book "deals"
  na_Book_many : NoAttr K c_Book "many"
  na_Book_wares : NoAttr K c_Book "wares"
  t_DAY : Tok
  g_DAY : mg "DAY" = some (.int 5 t_DAY)
  t_MOST_AMOUNT : Tok
  g_MOST_AMOUNT : mg "MOST_AMOUNT" = some (.int 1000000000 t_MOST_AMOUNT)
  t_MOST_DAY : Tok
  g_MOST_DAY : mg "MOST_DAY" = some (.int 1000000 t_MOST_DAY)
  t_MOST_UNITS : Tok
  g_MOST_UNITS : mg "MOST_UNITS" = some (.int 1000000 t_MOST_UNITS)
  t_PAYEE : Tok
  g_PAYEE : mg "PAYEE" = some (.int 1 t_PAYEE)
  t_PAYER : Tok
  g_PAYER : mg "PAYER" = some (.int 0 t_PAYER)
  t_STATE : Tok
  g_STATE : mg "STATE" = some (.int 7 t_STATE)
  d_Book___init__ : DfnM K c_Book "__init__" "Book.__init__" s_Book___init__ ["self", "many", "wares"]
  mk_Book : Mk K c_Book d_Book___init__.a
  d_Book_strike : DfnM K c_Book "strike" "Book.strike" s_Book_strike ["self", "payer", "payee", "ware", "units", "amount", "day", "rank"]
  d_Book_check_members : DfnM K c_Book "check_members" "Book.check_members" s_Book_check_members ["self", "payer", "payee"]
  d_Book_check_terms : DfnM K c_Book "check_terms" "Book.check_terms" s_Book_check_terms ["self", "ware", "units", "amount", "day", "rank"]
  d_Book_break_off : DfnM K c_Book "break_off" "Book.break_off" s_Book_break_off ["self", "number"]
  d_Book_standing_deal : DfnM K c_Book "standing_deal" "Book.standing_deal" s_Book_standing_deal ["self", "number"]
  d_Book_put_state : DfnM K c_Book "put_state" "Book.put_state" s_Book_put_state ["self", "number", "state"]
  d_Book_break_all : DfnM K c_Book "break_all" "Book.break_all" s_Book_break_all ["self", "member"]
  d_Book_close : DfnM K c_Book "close" "Book.close" s_Book_close ["self"]
  d_Book_today : DfnM K c_Book "today" "Book.today" s_Book_today ["self"]
  d_Book_struck : DfnM K c_Book "struck" "Book.struck" s_Book_struck ["self"]
  d_Book_deal : DfnM K c_Book "deal" "Book.deal" s_Book_deal ["self", "number"]
  d__law_cell : Dfn K mg "_law_cell" "_law_cell" s__law_cell ["_law_script", "_law_k"]
  d__law_draw : Dfn K mg "_law_draw" "_law_draw" s__law_draw ["_law_script", "_law_k", "_law_many"]
  d__law_great : Dfn K mg "_law_great" "_law_great" s__law_great ["_law_script", "_law_k", "_law_many"]
  d__law_name : Dfn K mg "_law_name" "_law_name" s__law_name ["_law_e"]
  d__law_due : Dfn K mg "_law_due" "_law_due" s__law_due ["_law_rows", "_law_number"]
  d__law_break : Dfn K mg "_law_break" "_law_break" s__law_break ["_law_book", "_law_number"]
  d__law_one : Dfn K mg "_law_one" "_law_one" s__law_one ["_law_script", "_law_at", "_law_book", "_law_rows"]
  d__law_all : Dfn K mg "_law_all" "_law_all" s__law_all ["_law_book", "_law_rows", "_law_member"]
  d__law_stands : Dfn K mg "_law_stands" "_law_stands" s__law_stands ["_law_book", "_law_rows"]
  d__law_set_up : Dfn K mg "_law_set_up" "_law_set_up" s__law_set_up ["_law_script", "_law_book", "_law_many", "_law_wares"]
  d__law_closed : Dfn K mg "_law_closed" "_law_closed" s__law_closed ["_law_book", "_law_rows", "_law_today"]
  d_law : Dfn K mg "law" "law" s_law ["_law_script"]
  bl_law : ∀ (s : Shared) (v : Value), BindsTo s d_law.fd ⟨[v], []⟩ [("_law_script", v)]
  z_ValueError : mg "ValueError" = none
  z_bool : mg "bool" = none
  z_enumerate : mg "enumerate" = none
  z_int : mg "int" = none
  z_isinstance : mg "isinstance" = none
  z_len : mg "len" = none
  z_list : mg "list" = none
  z_range : mg "range" = none
  z_tuple : mg "tuple" = none
noncomputable def txt_mk {K : PySem.W.Frag} {h : Heap} {mg : Str → Option Value} (X : K.In h) (G : h.Ns mainGlobals mg)
    {c_Closed : Addr}
    {c_Gone : Addr}
    {c_NoDeal : Addr}
    {c_NoMember : Addr}
    {c_NoTerms : Addr}
    {c_QuitsError : Addr}
    {c_Settled : Addr}
    {c_Standing : Addr}
    {c_Book : Addr}
    {t_DAY : Tok}
    {t_MOST_AMOUNT : Tok}
    {t_MOST_DAY : Tok}
    {t_MOST_UNITS : Tok}
    {t_PAYEE : Tok}
    {t_PAYER : Tok}
    {t_STATE : Tok}
    {f_Book___init__ : Addr} {oc_Book___init__ kV_Book___init__ dc_Book___init__ pm_Book___init__ cd_Book___init__ ct_Book___init__ : Value} {od_Book___init__ an_Book___init__ : Option Addr} {sl_Book___init__ : Array (Option Value)}
    {f_Book_strike : Addr} {oc_Book_strike kV_Book_strike dc_Book_strike pm_Book_strike cd_Book_strike ct_Book_strike : Value} {od_Book_strike an_Book_strike : Option Addr} {sl_Book_strike : Array (Option Value)}
    {f_Book_check_members : Addr} {oc_Book_check_members kV_Book_check_members dc_Book_check_members pm_Book_check_members cd_Book_check_members ct_Book_check_members : Value} {od_Book_check_members an_Book_check_members : Option Addr} {sl_Book_check_members : Array (Option Value)}
    {f_Book_check_terms : Addr} {oc_Book_check_terms kV_Book_check_terms dc_Book_check_terms pm_Book_check_terms cd_Book_check_terms ct_Book_check_terms : Value} {od_Book_check_terms an_Book_check_terms : Option Addr} {sl_Book_check_terms : Array (Option Value)}
    {f_Book_break_off : Addr} {oc_Book_break_off kV_Book_break_off dc_Book_break_off pm_Book_break_off cd_Book_break_off ct_Book_break_off : Value} {od_Book_break_off an_Book_break_off : Option Addr} {sl_Book_break_off : Array (Option Value)}
    {f_Book_standing_deal : Addr} {oc_Book_standing_deal kV_Book_standing_deal dc_Book_standing_deal pm_Book_standing_deal cd_Book_standing_deal ct_Book_standing_deal : Value} {od_Book_standing_deal an_Book_standing_deal : Option Addr} {sl_Book_standing_deal : Array (Option Value)}
    {f_Book_put_state : Addr} {oc_Book_put_state kV_Book_put_state dc_Book_put_state pm_Book_put_state cd_Book_put_state ct_Book_put_state : Value} {od_Book_put_state an_Book_put_state : Option Addr} {sl_Book_put_state : Array (Option Value)}
    {f_Book_break_all : Addr} {oc_Book_break_all kV_Book_break_all dc_Book_break_all pm_Book_break_all cd_Book_break_all ct_Book_break_all : Value} {od_Book_break_all an_Book_break_all : Option Addr} {sl_Book_break_all : Array (Option Value)}
    {f_Book_close : Addr} {oc_Book_close kV_Book_close dc_Book_close pm_Book_close cd_Book_close ct_Book_close : Value} {od_Book_close an_Book_close : Option Addr} {sl_Book_close : Array (Option Value)}
    {f_Book_today : Addr} {oc_Book_today kV_Book_today dc_Book_today pm_Book_today cd_Book_today ct_Book_today : Value} {od_Book_today an_Book_today : Option Addr} {sl_Book_today : Array (Option Value)}
    {f_Book_struck : Addr} {oc_Book_struck kV_Book_struck dc_Book_struck pm_Book_struck cd_Book_struck ct_Book_struck : Value} {od_Book_struck an_Book_struck : Option Addr} {sl_Book_struck : Array (Option Value)}
    {f_Book_deal : Addr} {oc_Book_deal kV_Book_deal dc_Book_deal pm_Book_deal cd_Book_deal ct_Book_deal : Value} {od_Book_deal an_Book_deal : Option Addr} {sl_Book_deal : Array (Option Value)}
    {f__law_cell : Addr} {oc__law_cell kV__law_cell dc__law_cell pm__law_cell cd__law_cell ct__law_cell : Value} {od__law_cell an__law_cell : Option Addr} {sl__law_cell : Array (Option Value)}
    {f__law_draw : Addr} {oc__law_draw kV__law_draw dc__law_draw pm__law_draw cd__law_draw ct__law_draw : Value} {od__law_draw an__law_draw : Option Addr} {sl__law_draw : Array (Option Value)}
    {f__law_great : Addr} {oc__law_great kV__law_great dc__law_great pm__law_great cd__law_great ct__law_great : Value} {od__law_great an__law_great : Option Addr} {sl__law_great : Array (Option Value)}
    {f__law_name : Addr} {oc__law_name kV__law_name dc__law_name pm__law_name cd__law_name ct__law_name : Value} {od__law_name an__law_name : Option Addr} {sl__law_name : Array (Option Value)}
    {f__law_due : Addr} {oc__law_due kV__law_due dc__law_due pm__law_due cd__law_due ct__law_due : Value} {od__law_due an__law_due : Option Addr} {sl__law_due : Array (Option Value)}
    {f__law_break : Addr} {oc__law_break kV__law_break dc__law_break pm__law_break cd__law_break ct__law_break : Value} {od__law_break an__law_break : Option Addr} {sl__law_break : Array (Option Value)}
    {f__law_one : Addr} {oc__law_one kV__law_one dc__law_one pm__law_one cd__law_one ct__law_one : Value} {od__law_one an__law_one : Option Addr} {sl__law_one : Array (Option Value)}
    {f__law_all : Addr} {oc__law_all kV__law_all dc__law_all pm__law_all cd__law_all ct__law_all : Value} {od__law_all an__law_all : Option Addr} {sl__law_all : Array (Option Value)}
    {f__law_stands : Addr} {oc__law_stands kV__law_stands dc__law_stands pm__law_stands cd__law_stands ct__law_stands : Value} {od__law_stands an__law_stands : Option Addr} {sl__law_stands : Array (Option Value)}
    {f__law_set_up : Addr} {oc__law_set_up kV__law_set_up dc__law_set_up pm__law_set_up cd__law_set_up ct__law_set_up : Value} {od__law_set_up an__law_set_up : Option Addr} {sl__law_set_up : Array (Option Value)}
    {f__law_closed : Addr} {oc__law_closed kV__law_closed dc__law_closed pm__law_closed cd__law_closed ct__law_closed : Value} {od__law_closed an__law_closed : Option Addr} {sl__law_closed : Array (Option Value)}
    {f_law : Addr} {oc_law kV_law dc_law pm_law cd_law ct_law : Value} {od_law an_law : Option Addr} {sl_law : Array (Option Value)}
    (m_Closed : PySem.W.nsIn K mainGlobals "Closed" = some (some (.ref c_Closed)))
    (m_Gone : PySem.W.nsIn K mainGlobals "Gone" = some (some (.ref c_Gone)))
    (m_NoDeal : PySem.W.nsIn K mainGlobals "NoDeal" = some (some (.ref c_NoDeal)))
    (m_NoMember : PySem.W.nsIn K mainGlobals "NoMember" = some (some (.ref c_NoMember)))
    (m_NoTerms : PySem.W.nsIn K mainGlobals "NoTerms" = some (some (.ref c_NoTerms)))
    (m_QuitsError : PySem.W.nsIn K mainGlobals "QuitsError" = some (some (.ref c_QuitsError)))
    (m_Settled : PySem.W.nsIn K mainGlobals "Settled" = some (some (.ref c_Settled)))
    (m_Standing : PySem.W.nsIn K mainGlobals "Standing" = some (some (.ref c_Standing)))
    (hd_Closed : PySem.W.hasDictIn K c_Closed = true) (ty_Closed : PySem.W.typeIn K (.ref c_Closed) = some (.type "type"))
    (hd_Gone : PySem.W.hasDictIn K c_Gone = true) (ty_Gone : PySem.W.typeIn K (.ref c_Gone) = some (.type "type"))
    (hd_NoDeal : PySem.W.hasDictIn K c_NoDeal = true) (ty_NoDeal : PySem.W.typeIn K (.ref c_NoDeal) = some (.type "type"))
    (hd_NoMember : PySem.W.hasDictIn K c_NoMember = true) (ty_NoMember : PySem.W.typeIn K (.ref c_NoMember) = some (.type "type"))
    (hd_NoTerms : PySem.W.hasDictIn K c_NoTerms = true) (ty_NoTerms : PySem.W.typeIn K (.ref c_NoTerms) = some (.type "type"))
    (hd_QuitsError : PySem.W.hasDictIn K c_QuitsError = true) (ty_QuitsError : PySem.W.typeIn K (.ref c_QuitsError) = some (.type "type"))
    (hd_Settled : PySem.W.hasDictIn K c_Settled = true) (ty_Settled : PySem.W.typeIn K (.ref c_Settled) = some (.type "type"))
    (hd_Standing : PySem.W.hasDictIn K c_Standing = true) (ty_Standing : PySem.W.typeIn K (.ref c_Standing) = some (.type "type"))
    (sn_ : PySem.W.specialIn K (.builtin "object.__class__") "__get__" = some (some (.builtin "getset_descriptor.__get__"))) (tk_ : PySem.W.takesIn K (.builtin "object.__class__") = some true)
    (b_QuitsError : PySem.W.subIn K (.ref c_QuitsError) (.type "BaseException") = some true)
    (x_Closed : PySem.W.excIn K c_Closed [.type "ValueError", .type "Exception", .type "BaseException", .type "object"] "ValueError.__new__" = true) (ga_Closed : PySem.W.findIn K (.ref c_Closed) "__getattribute__" = some (some (.builtin "BaseException.__getattribute__"))) (gn_Closed : PySem.W.findIn K (.ref c_Closed) "__getattr__" = some none) (be_Closed : PySem.W.mroIn K c_Closed (.type "BaseException") = some true) (fa_Closed : PySem.W.findIn K (.ref c_Closed) "__class__" = some (some (.builtin "object.__class__"))) (mo_Closed : PySem.W.mroIn K c_Closed (.type "object") = some true)
    (s_Closed_Closed : PySem.W.subIn K (.ref c_Closed) (.ref c_Closed) = some true)
    (s_Closed_Gone : PySem.W.subIn K (.ref c_Closed) (.ref c_Gone) = some false)
    (n_Closed_Gone : c_Closed ≠ c_Gone)
    (s_Closed_NoDeal : PySem.W.subIn K (.ref c_Closed) (.ref c_NoDeal) = some false)
    (n_Closed_NoDeal : c_Closed ≠ c_NoDeal)
    (s_Closed_NoMember : PySem.W.subIn K (.ref c_Closed) (.ref c_NoMember) = some false)
    (n_Closed_NoMember : c_Closed ≠ c_NoMember)
    (s_Closed_NoTerms : PySem.W.subIn K (.ref c_Closed) (.ref c_NoTerms) = some false)
    (n_Closed_NoTerms : c_Closed ≠ c_NoTerms)
    (s_Closed_QuitsError : PySem.W.subIn K (.ref c_Closed) (.ref c_QuitsError) = some true)
    (n_Closed_QuitsError : c_Closed ≠ c_QuitsError)
    (s_Closed_Settled : PySem.W.subIn K (.ref c_Closed) (.ref c_Settled) = some false)
    (n_Closed_Settled : c_Closed ≠ c_Settled)
    (s_Closed_Standing : PySem.W.subIn K (.ref c_Closed) (.ref c_Standing) = some false)
    (n_Closed_Standing : c_Closed ≠ c_Standing)
    (v_Closed : PySem.W.subIn K (.ref c_Closed) (.type "ValueError") = some true)
    (x_Gone : PySem.W.excIn K c_Gone [.type "ValueError", .type "Exception", .type "BaseException", .type "object"] "ValueError.__new__" = true) (ga_Gone : PySem.W.findIn K (.ref c_Gone) "__getattribute__" = some (some (.builtin "BaseException.__getattribute__"))) (gn_Gone : PySem.W.findIn K (.ref c_Gone) "__getattr__" = some none) (be_Gone : PySem.W.mroIn K c_Gone (.type "BaseException") = some true) (fa_Gone : PySem.W.findIn K (.ref c_Gone) "__class__" = some (some (.builtin "object.__class__"))) (mo_Gone : PySem.W.mroIn K c_Gone (.type "object") = some true)
    (s_Gone_Closed : PySem.W.subIn K (.ref c_Gone) (.ref c_Closed) = some false)
    (n_Gone_Closed : c_Gone ≠ c_Closed)
    (s_Gone_Gone : PySem.W.subIn K (.ref c_Gone) (.ref c_Gone) = some true)
    (s_Gone_NoDeal : PySem.W.subIn K (.ref c_Gone) (.ref c_NoDeal) = some false)
    (n_Gone_NoDeal : c_Gone ≠ c_NoDeal)
    (s_Gone_NoMember : PySem.W.subIn K (.ref c_Gone) (.ref c_NoMember) = some false)
    (n_Gone_NoMember : c_Gone ≠ c_NoMember)
    (s_Gone_NoTerms : PySem.W.subIn K (.ref c_Gone) (.ref c_NoTerms) = some false)
    (n_Gone_NoTerms : c_Gone ≠ c_NoTerms)
    (s_Gone_QuitsError : PySem.W.subIn K (.ref c_Gone) (.ref c_QuitsError) = some true)
    (n_Gone_QuitsError : c_Gone ≠ c_QuitsError)
    (s_Gone_Settled : PySem.W.subIn K (.ref c_Gone) (.ref c_Settled) = some false)
    (n_Gone_Settled : c_Gone ≠ c_Settled)
    (s_Gone_Standing : PySem.W.subIn K (.ref c_Gone) (.ref c_Standing) = some false)
    (n_Gone_Standing : c_Gone ≠ c_Standing)
    (v_Gone : PySem.W.subIn K (.ref c_Gone) (.type "ValueError") = some true)
    (x_NoDeal : PySem.W.excIn K c_NoDeal [.type "ValueError", .type "Exception", .type "BaseException", .type "object"] "ValueError.__new__" = true) (ga_NoDeal : PySem.W.findIn K (.ref c_NoDeal) "__getattribute__" = some (some (.builtin "BaseException.__getattribute__"))) (gn_NoDeal : PySem.W.findIn K (.ref c_NoDeal) "__getattr__" = some none) (be_NoDeal : PySem.W.mroIn K c_NoDeal (.type "BaseException") = some true) (fa_NoDeal : PySem.W.findIn K (.ref c_NoDeal) "__class__" = some (some (.builtin "object.__class__"))) (mo_NoDeal : PySem.W.mroIn K c_NoDeal (.type "object") = some true)
    (s_NoDeal_Closed : PySem.W.subIn K (.ref c_NoDeal) (.ref c_Closed) = some false)
    (n_NoDeal_Closed : c_NoDeal ≠ c_Closed)
    (s_NoDeal_Gone : PySem.W.subIn K (.ref c_NoDeal) (.ref c_Gone) = some false)
    (n_NoDeal_Gone : c_NoDeal ≠ c_Gone)
    (s_NoDeal_NoDeal : PySem.W.subIn K (.ref c_NoDeal) (.ref c_NoDeal) = some true)
    (s_NoDeal_NoMember : PySem.W.subIn K (.ref c_NoDeal) (.ref c_NoMember) = some false)
    (n_NoDeal_NoMember : c_NoDeal ≠ c_NoMember)
    (s_NoDeal_NoTerms : PySem.W.subIn K (.ref c_NoDeal) (.ref c_NoTerms) = some false)
    (n_NoDeal_NoTerms : c_NoDeal ≠ c_NoTerms)
    (s_NoDeal_QuitsError : PySem.W.subIn K (.ref c_NoDeal) (.ref c_QuitsError) = some true)
    (n_NoDeal_QuitsError : c_NoDeal ≠ c_QuitsError)
    (s_NoDeal_Settled : PySem.W.subIn K (.ref c_NoDeal) (.ref c_Settled) = some false)
    (n_NoDeal_Settled : c_NoDeal ≠ c_Settled)
    (s_NoDeal_Standing : PySem.W.subIn K (.ref c_NoDeal) (.ref c_Standing) = some false)
    (n_NoDeal_Standing : c_NoDeal ≠ c_Standing)
    (v_NoDeal : PySem.W.subIn K (.ref c_NoDeal) (.type "ValueError") = some true)
    (x_NoMember : PySem.W.excIn K c_NoMember [.type "ValueError", .type "Exception", .type "BaseException", .type "object"] "ValueError.__new__" = true) (ga_NoMember : PySem.W.findIn K (.ref c_NoMember) "__getattribute__" = some (some (.builtin "BaseException.__getattribute__"))) (gn_NoMember : PySem.W.findIn K (.ref c_NoMember) "__getattr__" = some none) (be_NoMember : PySem.W.mroIn K c_NoMember (.type "BaseException") = some true) (fa_NoMember : PySem.W.findIn K (.ref c_NoMember) "__class__" = some (some (.builtin "object.__class__"))) (mo_NoMember : PySem.W.mroIn K c_NoMember (.type "object") = some true)
    (s_NoMember_Closed : PySem.W.subIn K (.ref c_NoMember) (.ref c_Closed) = some false)
    (n_NoMember_Closed : c_NoMember ≠ c_Closed)
    (s_NoMember_Gone : PySem.W.subIn K (.ref c_NoMember) (.ref c_Gone) = some false)
    (n_NoMember_Gone : c_NoMember ≠ c_Gone)
    (s_NoMember_NoDeal : PySem.W.subIn K (.ref c_NoMember) (.ref c_NoDeal) = some false)
    (n_NoMember_NoDeal : c_NoMember ≠ c_NoDeal)
    (s_NoMember_NoMember : PySem.W.subIn K (.ref c_NoMember) (.ref c_NoMember) = some true)
    (s_NoMember_NoTerms : PySem.W.subIn K (.ref c_NoMember) (.ref c_NoTerms) = some false)
    (n_NoMember_NoTerms : c_NoMember ≠ c_NoTerms)
    (s_NoMember_QuitsError : PySem.W.subIn K (.ref c_NoMember) (.ref c_QuitsError) = some true)
    (n_NoMember_QuitsError : c_NoMember ≠ c_QuitsError)
    (s_NoMember_Settled : PySem.W.subIn K (.ref c_NoMember) (.ref c_Settled) = some false)
    (n_NoMember_Settled : c_NoMember ≠ c_Settled)
    (s_NoMember_Standing : PySem.W.subIn K (.ref c_NoMember) (.ref c_Standing) = some false)
    (n_NoMember_Standing : c_NoMember ≠ c_Standing)
    (v_NoMember : PySem.W.subIn K (.ref c_NoMember) (.type "ValueError") = some true)
    (x_NoTerms : PySem.W.excIn K c_NoTerms [.type "ValueError", .type "Exception", .type "BaseException", .type "object"] "ValueError.__new__" = true) (ga_NoTerms : PySem.W.findIn K (.ref c_NoTerms) "__getattribute__" = some (some (.builtin "BaseException.__getattribute__"))) (gn_NoTerms : PySem.W.findIn K (.ref c_NoTerms) "__getattr__" = some none) (be_NoTerms : PySem.W.mroIn K c_NoTerms (.type "BaseException") = some true) (fa_NoTerms : PySem.W.findIn K (.ref c_NoTerms) "__class__" = some (some (.builtin "object.__class__"))) (mo_NoTerms : PySem.W.mroIn K c_NoTerms (.type "object") = some true)
    (s_NoTerms_Closed : PySem.W.subIn K (.ref c_NoTerms) (.ref c_Closed) = some false)
    (n_NoTerms_Closed : c_NoTerms ≠ c_Closed)
    (s_NoTerms_Gone : PySem.W.subIn K (.ref c_NoTerms) (.ref c_Gone) = some false)
    (n_NoTerms_Gone : c_NoTerms ≠ c_Gone)
    (s_NoTerms_NoDeal : PySem.W.subIn K (.ref c_NoTerms) (.ref c_NoDeal) = some false)
    (n_NoTerms_NoDeal : c_NoTerms ≠ c_NoDeal)
    (s_NoTerms_NoMember : PySem.W.subIn K (.ref c_NoTerms) (.ref c_NoMember) = some false)
    (n_NoTerms_NoMember : c_NoTerms ≠ c_NoMember)
    (s_NoTerms_NoTerms : PySem.W.subIn K (.ref c_NoTerms) (.ref c_NoTerms) = some true)
    (s_NoTerms_QuitsError : PySem.W.subIn K (.ref c_NoTerms) (.ref c_QuitsError) = some true)
    (n_NoTerms_QuitsError : c_NoTerms ≠ c_QuitsError)
    (s_NoTerms_Settled : PySem.W.subIn K (.ref c_NoTerms) (.ref c_Settled) = some false)
    (n_NoTerms_Settled : c_NoTerms ≠ c_Settled)
    (s_NoTerms_Standing : PySem.W.subIn K (.ref c_NoTerms) (.ref c_Standing) = some false)
    (n_NoTerms_Standing : c_NoTerms ≠ c_Standing)
    (v_NoTerms : PySem.W.subIn K (.ref c_NoTerms) (.type "ValueError") = some true)
    (x_Settled : PySem.W.excIn K c_Settled [.type "ValueError", .type "Exception", .type "BaseException", .type "object"] "ValueError.__new__" = true) (ga_Settled : PySem.W.findIn K (.ref c_Settled) "__getattribute__" = some (some (.builtin "BaseException.__getattribute__"))) (gn_Settled : PySem.W.findIn K (.ref c_Settled) "__getattr__" = some none) (be_Settled : PySem.W.mroIn K c_Settled (.type "BaseException") = some true) (fa_Settled : PySem.W.findIn K (.ref c_Settled) "__class__" = some (some (.builtin "object.__class__"))) (mo_Settled : PySem.W.mroIn K c_Settled (.type "object") = some true)
    (s_Settled_Closed : PySem.W.subIn K (.ref c_Settled) (.ref c_Closed) = some false)
    (n_Settled_Closed : c_Settled ≠ c_Closed)
    (s_Settled_Gone : PySem.W.subIn K (.ref c_Settled) (.ref c_Gone) = some false)
    (n_Settled_Gone : c_Settled ≠ c_Gone)
    (s_Settled_NoDeal : PySem.W.subIn K (.ref c_Settled) (.ref c_NoDeal) = some false)
    (n_Settled_NoDeal : c_Settled ≠ c_NoDeal)
    (s_Settled_NoMember : PySem.W.subIn K (.ref c_Settled) (.ref c_NoMember) = some false)
    (n_Settled_NoMember : c_Settled ≠ c_NoMember)
    (s_Settled_NoTerms : PySem.W.subIn K (.ref c_Settled) (.ref c_NoTerms) = some false)
    (n_Settled_NoTerms : c_Settled ≠ c_NoTerms)
    (s_Settled_QuitsError : PySem.W.subIn K (.ref c_Settled) (.ref c_QuitsError) = some true)
    (n_Settled_QuitsError : c_Settled ≠ c_QuitsError)
    (s_Settled_Settled : PySem.W.subIn K (.ref c_Settled) (.ref c_Settled) = some true)
    (s_Settled_Standing : PySem.W.subIn K (.ref c_Settled) (.ref c_Standing) = some false)
    (n_Settled_Standing : c_Settled ≠ c_Standing)
    (v_Settled : PySem.W.subIn K (.ref c_Settled) (.type "ValueError") = some true)
    (m_Book : PySem.W.nsIn K mainGlobals "Book" = some (some (.ref c_Book))) (pg_Book : PySem.W.plainGet K c_Book Str.empty = true) (hd_Book : PySem.W.hasDictIn K c_Book = true) (po_Book : PySem.W.plainOver K c_Book = true) (sa_Book : PySem.W.findIn K (.ref c_Book) "__setattr__" = some (some (.builtin "object.__setattr__"))) (mk_Book : PySem.W.makesIn K c_Book = true) (kc_Book : PySem.W.keepIn K (.ref c_Book) = true)
    (na_Book_day : PySem.W.findIn K (.ref c_Book) "day" = some none)
    (na_Book_deals : PySem.W.findIn K (.ref c_Book) "deals" = some none)
    (na_Book_many : PySem.W.findIn K (.ref c_Book) "many" = some none)
    (na_Book_wares : PySem.W.findIn K (.ref c_Book) "wares" = some none)
    (g_DAY : PySem.W.nsIn K mainGlobals "DAY" = some (some (.int 5 t_DAY)))
    (g_MOST_AMOUNT : PySem.W.nsIn K mainGlobals "MOST_AMOUNT" = some (some (.int 1000000000 t_MOST_AMOUNT)))
    (g_MOST_DAY : PySem.W.nsIn K mainGlobals "MOST_DAY" = some (some (.int 1000000 t_MOST_DAY)))
    (g_MOST_UNITS : PySem.W.nsIn K mainGlobals "MOST_UNITS" = some (some (.int 1000000 t_MOST_UNITS)))
    (g_PAYEE : PySem.W.nsIn K mainGlobals "PAYEE" = some (some (.int 1 t_PAYEE)))
    (g_PAYER : PySem.W.nsIn K mainGlobals "PAYER" = some (some (.int 0 t_PAYER)))
    (g_STATE : PySem.W.nsIn K mainGlobals "STATE" = some (some (.int 7 t_STATE)))
    (a_Book___init__ : PySem.W.findIn K (.ref c_Book) "__init__" = some (some (.ref f_Book___init__))) (i_Book___init__ : PySem.W.isFn K (.ref f_Book___init__) = true) (l_Book___init__ : K.lookup f_Book___init__ = some ⟨oc_Book___init__, od_Book___init__, .func (PySem.W.fnOf "__init__" "Book.__init__" (defArgs s_Book___init__) (defBody s_Book___init__) (defScope s_Book___init__) .none kV_Book___init__ dc_Book___init__ pm_Book___init__ an_Book___init__ cd_Book___init__ ct_Book___init__), sl_Book___init__⟩) (c_Book___init__ : PySem.W.codeIn K cd_Book___init__ "Book.__init__" = true) (k_Book___init__ : PySem.W.keepIn K (.ref f_Book___init__) = true)
    (a_Book_strike : PySem.W.findIn K (.ref c_Book) "strike" = some (some (.ref f_Book_strike))) (i_Book_strike : PySem.W.isFn K (.ref f_Book_strike) = true) (l_Book_strike : K.lookup f_Book_strike = some ⟨oc_Book_strike, od_Book_strike, .func (PySem.W.fnOf "strike" "Book.strike" (defArgs s_Book_strike) (defBody s_Book_strike) (defScope s_Book_strike) .none kV_Book_strike dc_Book_strike pm_Book_strike an_Book_strike cd_Book_strike ct_Book_strike), sl_Book_strike⟩) (c_Book_strike : PySem.W.codeIn K cd_Book_strike "Book.strike" = true) (k_Book_strike : PySem.W.keepIn K (.ref f_Book_strike) = true)
    (a_Book_check_members : PySem.W.findIn K (.ref c_Book) "check_members" = some (some (.ref f_Book_check_members))) (i_Book_check_members : PySem.W.isFn K (.ref f_Book_check_members) = true) (l_Book_check_members : K.lookup f_Book_check_members = some ⟨oc_Book_check_members, od_Book_check_members, .func (PySem.W.fnOf "check_members" "Book.check_members" (defArgs s_Book_check_members) (defBody s_Book_check_members) (defScope s_Book_check_members) .none kV_Book_check_members dc_Book_check_members pm_Book_check_members an_Book_check_members cd_Book_check_members ct_Book_check_members), sl_Book_check_members⟩) (c_Book_check_members : PySem.W.codeIn K cd_Book_check_members "Book.check_members" = true) (k_Book_check_members : PySem.W.keepIn K (.ref f_Book_check_members) = true)
    (a_Book_check_terms : PySem.W.findIn K (.ref c_Book) "check_terms" = some (some (.ref f_Book_check_terms))) (i_Book_check_terms : PySem.W.isFn K (.ref f_Book_check_terms) = true) (l_Book_check_terms : K.lookup f_Book_check_terms = some ⟨oc_Book_check_terms, od_Book_check_terms, .func (PySem.W.fnOf "check_terms" "Book.check_terms" (defArgs s_Book_check_terms) (defBody s_Book_check_terms) (defScope s_Book_check_terms) .none kV_Book_check_terms dc_Book_check_terms pm_Book_check_terms an_Book_check_terms cd_Book_check_terms ct_Book_check_terms), sl_Book_check_terms⟩) (c_Book_check_terms : PySem.W.codeIn K cd_Book_check_terms "Book.check_terms" = true) (k_Book_check_terms : PySem.W.keepIn K (.ref f_Book_check_terms) = true)
    (a_Book_break_off : PySem.W.findIn K (.ref c_Book) "break_off" = some (some (.ref f_Book_break_off))) (i_Book_break_off : PySem.W.isFn K (.ref f_Book_break_off) = true) (l_Book_break_off : K.lookup f_Book_break_off = some ⟨oc_Book_break_off, od_Book_break_off, .func (PySem.W.fnOf "break_off" "Book.break_off" (defArgs s_Book_break_off) (defBody s_Book_break_off) (defScope s_Book_break_off) .none kV_Book_break_off dc_Book_break_off pm_Book_break_off an_Book_break_off cd_Book_break_off ct_Book_break_off), sl_Book_break_off⟩) (c_Book_break_off : PySem.W.codeIn K cd_Book_break_off "Book.break_off" = true) (k_Book_break_off : PySem.W.keepIn K (.ref f_Book_break_off) = true)
    (a_Book_standing_deal : PySem.W.findIn K (.ref c_Book) "standing_deal" = some (some (.ref f_Book_standing_deal))) (i_Book_standing_deal : PySem.W.isFn K (.ref f_Book_standing_deal) = true) (l_Book_standing_deal : K.lookup f_Book_standing_deal = some ⟨oc_Book_standing_deal, od_Book_standing_deal, .func (PySem.W.fnOf "standing_deal" "Book.standing_deal" (defArgs s_Book_standing_deal) (defBody s_Book_standing_deal) (defScope s_Book_standing_deal) .none kV_Book_standing_deal dc_Book_standing_deal pm_Book_standing_deal an_Book_standing_deal cd_Book_standing_deal ct_Book_standing_deal), sl_Book_standing_deal⟩) (c_Book_standing_deal : PySem.W.codeIn K cd_Book_standing_deal "Book.standing_deal" = true) (k_Book_standing_deal : PySem.W.keepIn K (.ref f_Book_standing_deal) = true)
    (a_Book_put_state : PySem.W.findIn K (.ref c_Book) "put_state" = some (some (.ref f_Book_put_state))) (i_Book_put_state : PySem.W.isFn K (.ref f_Book_put_state) = true) (l_Book_put_state : K.lookup f_Book_put_state = some ⟨oc_Book_put_state, od_Book_put_state, .func (PySem.W.fnOf "put_state" "Book.put_state" (defArgs s_Book_put_state) (defBody s_Book_put_state) (defScope s_Book_put_state) .none kV_Book_put_state dc_Book_put_state pm_Book_put_state an_Book_put_state cd_Book_put_state ct_Book_put_state), sl_Book_put_state⟩) (c_Book_put_state : PySem.W.codeIn K cd_Book_put_state "Book.put_state" = true) (k_Book_put_state : PySem.W.keepIn K (.ref f_Book_put_state) = true)
    (a_Book_break_all : PySem.W.findIn K (.ref c_Book) "break_all" = some (some (.ref f_Book_break_all))) (i_Book_break_all : PySem.W.isFn K (.ref f_Book_break_all) = true) (l_Book_break_all : K.lookup f_Book_break_all = some ⟨oc_Book_break_all, od_Book_break_all, .func (PySem.W.fnOf "break_all" "Book.break_all" (defArgs s_Book_break_all) (defBody s_Book_break_all) (defScope s_Book_break_all) .none kV_Book_break_all dc_Book_break_all pm_Book_break_all an_Book_break_all cd_Book_break_all ct_Book_break_all), sl_Book_break_all⟩) (c_Book_break_all : PySem.W.codeIn K cd_Book_break_all "Book.break_all" = true) (k_Book_break_all : PySem.W.keepIn K (.ref f_Book_break_all) = true)
    (a_Book_close : PySem.W.findIn K (.ref c_Book) "close" = some (some (.ref f_Book_close))) (i_Book_close : PySem.W.isFn K (.ref f_Book_close) = true) (l_Book_close : K.lookup f_Book_close = some ⟨oc_Book_close, od_Book_close, .func (PySem.W.fnOf "close" "Book.close" (defArgs s_Book_close) (defBody s_Book_close) (defScope s_Book_close) .none kV_Book_close dc_Book_close pm_Book_close an_Book_close cd_Book_close ct_Book_close), sl_Book_close⟩) (c_Book_close : PySem.W.codeIn K cd_Book_close "Book.close" = true) (k_Book_close : PySem.W.keepIn K (.ref f_Book_close) = true)
    (a_Book_today : PySem.W.findIn K (.ref c_Book) "today" = some (some (.ref f_Book_today))) (i_Book_today : PySem.W.isFn K (.ref f_Book_today) = true) (l_Book_today : K.lookup f_Book_today = some ⟨oc_Book_today, od_Book_today, .func (PySem.W.fnOf "today" "Book.today" (defArgs s_Book_today) (defBody s_Book_today) (defScope s_Book_today) .none kV_Book_today dc_Book_today pm_Book_today an_Book_today cd_Book_today ct_Book_today), sl_Book_today⟩) (c_Book_today : PySem.W.codeIn K cd_Book_today "Book.today" = true) (k_Book_today : PySem.W.keepIn K (.ref f_Book_today) = true)
    (a_Book_struck : PySem.W.findIn K (.ref c_Book) "struck" = some (some (.ref f_Book_struck))) (i_Book_struck : PySem.W.isFn K (.ref f_Book_struck) = true) (l_Book_struck : K.lookup f_Book_struck = some ⟨oc_Book_struck, od_Book_struck, .func (PySem.W.fnOf "struck" "Book.struck" (defArgs s_Book_struck) (defBody s_Book_struck) (defScope s_Book_struck) .none kV_Book_struck dc_Book_struck pm_Book_struck an_Book_struck cd_Book_struck ct_Book_struck), sl_Book_struck⟩) (c_Book_struck : PySem.W.codeIn K cd_Book_struck "Book.struck" = true) (k_Book_struck : PySem.W.keepIn K (.ref f_Book_struck) = true)
    (a_Book_deal : PySem.W.findIn K (.ref c_Book) "deal" = some (some (.ref f_Book_deal))) (i_Book_deal : PySem.W.isFn K (.ref f_Book_deal) = true) (l_Book_deal : K.lookup f_Book_deal = some ⟨oc_Book_deal, od_Book_deal, .func (PySem.W.fnOf "deal" "Book.deal" (defArgs s_Book_deal) (defBody s_Book_deal) (defScope s_Book_deal) .none kV_Book_deal dc_Book_deal pm_Book_deal an_Book_deal cd_Book_deal ct_Book_deal), sl_Book_deal⟩) (c_Book_deal : PySem.W.codeIn K cd_Book_deal "Book.deal" = true) (k_Book_deal : PySem.W.keepIn K (.ref f_Book_deal) = true)
    (a__law_cell : PySem.W.nsIn K mainGlobals "_law_cell" = some (some (.ref f__law_cell))) (l__law_cell : K.lookup f__law_cell = some ⟨oc__law_cell, od__law_cell, .func (PySem.W.fnOf "_law_cell" "_law_cell" (defArgs s__law_cell) (defBody s__law_cell) (defScope s__law_cell) .none kV__law_cell dc__law_cell pm__law_cell an__law_cell cd__law_cell ct__law_cell), sl__law_cell⟩) (c__law_cell : PySem.W.codeIn K cd__law_cell "_law_cell" = true) (k__law_cell : PySem.W.keepIn K (.ref f__law_cell) = true)
    (a__law_draw : PySem.W.nsIn K mainGlobals "_law_draw" = some (some (.ref f__law_draw))) (l__law_draw : K.lookup f__law_draw = some ⟨oc__law_draw, od__law_draw, .func (PySem.W.fnOf "_law_draw" "_law_draw" (defArgs s__law_draw) (defBody s__law_draw) (defScope s__law_draw) .none kV__law_draw dc__law_draw pm__law_draw an__law_draw cd__law_draw ct__law_draw), sl__law_draw⟩) (c__law_draw : PySem.W.codeIn K cd__law_draw "_law_draw" = true) (k__law_draw : PySem.W.keepIn K (.ref f__law_draw) = true)
    (a__law_great : PySem.W.nsIn K mainGlobals "_law_great" = some (some (.ref f__law_great))) (l__law_great : K.lookup f__law_great = some ⟨oc__law_great, od__law_great, .func (PySem.W.fnOf "_law_great" "_law_great" (defArgs s__law_great) (defBody s__law_great) (defScope s__law_great) .none kV__law_great dc__law_great pm__law_great an__law_great cd__law_great ct__law_great), sl__law_great⟩) (c__law_great : PySem.W.codeIn K cd__law_great "_law_great" = true) (k__law_great : PySem.W.keepIn K (.ref f__law_great) = true)
    (a__law_name : PySem.W.nsIn K mainGlobals "_law_name" = some (some (.ref f__law_name))) (l__law_name : K.lookup f__law_name = some ⟨oc__law_name, od__law_name, .func (PySem.W.fnOf "_law_name" "_law_name" (defArgs s__law_name) (defBody s__law_name) (defScope s__law_name) .none kV__law_name dc__law_name pm__law_name an__law_name cd__law_name ct__law_name), sl__law_name⟩) (c__law_name : PySem.W.codeIn K cd__law_name "_law_name" = true) (k__law_name : PySem.W.keepIn K (.ref f__law_name) = true)
    (a__law_due : PySem.W.nsIn K mainGlobals "_law_due" = some (some (.ref f__law_due))) (l__law_due : K.lookup f__law_due = some ⟨oc__law_due, od__law_due, .func (PySem.W.fnOf "_law_due" "_law_due" (defArgs s__law_due) (defBody s__law_due) (defScope s__law_due) .none kV__law_due dc__law_due pm__law_due an__law_due cd__law_due ct__law_due), sl__law_due⟩) (c__law_due : PySem.W.codeIn K cd__law_due "_law_due" = true) (k__law_due : PySem.W.keepIn K (.ref f__law_due) = true)
    (a__law_break : PySem.W.nsIn K mainGlobals "_law_break" = some (some (.ref f__law_break))) (l__law_break : K.lookup f__law_break = some ⟨oc__law_break, od__law_break, .func (PySem.W.fnOf "_law_break" "_law_break" (defArgs s__law_break) (defBody s__law_break) (defScope s__law_break) .none kV__law_break dc__law_break pm__law_break an__law_break cd__law_break ct__law_break), sl__law_break⟩) (c__law_break : PySem.W.codeIn K cd__law_break "_law_break" = true) (k__law_break : PySem.W.keepIn K (.ref f__law_break) = true)
    (a__law_one : PySem.W.nsIn K mainGlobals "_law_one" = some (some (.ref f__law_one))) (l__law_one : K.lookup f__law_one = some ⟨oc__law_one, od__law_one, .func (PySem.W.fnOf "_law_one" "_law_one" (defArgs s__law_one) (defBody s__law_one) (defScope s__law_one) .none kV__law_one dc__law_one pm__law_one an__law_one cd__law_one ct__law_one), sl__law_one⟩) (c__law_one : PySem.W.codeIn K cd__law_one "_law_one" = true) (k__law_one : PySem.W.keepIn K (.ref f__law_one) = true)
    (a__law_all : PySem.W.nsIn K mainGlobals "_law_all" = some (some (.ref f__law_all))) (l__law_all : K.lookup f__law_all = some ⟨oc__law_all, od__law_all, .func (PySem.W.fnOf "_law_all" "_law_all" (defArgs s__law_all) (defBody s__law_all) (defScope s__law_all) .none kV__law_all dc__law_all pm__law_all an__law_all cd__law_all ct__law_all), sl__law_all⟩) (c__law_all : PySem.W.codeIn K cd__law_all "_law_all" = true) (k__law_all : PySem.W.keepIn K (.ref f__law_all) = true)
    (a__law_stands : PySem.W.nsIn K mainGlobals "_law_stands" = some (some (.ref f__law_stands))) (l__law_stands : K.lookup f__law_stands = some ⟨oc__law_stands, od__law_stands, .func (PySem.W.fnOf "_law_stands" "_law_stands" (defArgs s__law_stands) (defBody s__law_stands) (defScope s__law_stands) .none kV__law_stands dc__law_stands pm__law_stands an__law_stands cd__law_stands ct__law_stands), sl__law_stands⟩) (c__law_stands : PySem.W.codeIn K cd__law_stands "_law_stands" = true) (k__law_stands : PySem.W.keepIn K (.ref f__law_stands) = true)
    (a__law_set_up : PySem.W.nsIn K mainGlobals "_law_set_up" = some (some (.ref f__law_set_up))) (l__law_set_up : K.lookup f__law_set_up = some ⟨oc__law_set_up, od__law_set_up, .func (PySem.W.fnOf "_law_set_up" "_law_set_up" (defArgs s__law_set_up) (defBody s__law_set_up) (defScope s__law_set_up) .none kV__law_set_up dc__law_set_up pm__law_set_up an__law_set_up cd__law_set_up ct__law_set_up), sl__law_set_up⟩) (c__law_set_up : PySem.W.codeIn K cd__law_set_up "_law_set_up" = true) (k__law_set_up : PySem.W.keepIn K (.ref f__law_set_up) = true)
    (a__law_closed : PySem.W.nsIn K mainGlobals "_law_closed" = some (some (.ref f__law_closed))) (l__law_closed : K.lookup f__law_closed = some ⟨oc__law_closed, od__law_closed, .func (PySem.W.fnOf "_law_closed" "_law_closed" (defArgs s__law_closed) (defBody s__law_closed) (defScope s__law_closed) .none kV__law_closed dc__law_closed pm__law_closed an__law_closed cd__law_closed ct__law_closed), sl__law_closed⟩) (c__law_closed : PySem.W.codeIn K cd__law_closed "_law_closed" = true) (k__law_closed : PySem.W.keepIn K (.ref f__law_closed) = true)
    (a_law : PySem.W.nsIn K mainGlobals "law" = some (some (.ref f_law))) (l_law : K.lookup f_law = some ⟨oc_law, od_law, .func (PySem.W.fnOf "law" "law" (defArgs s_law) (defBody s_law) (defScope s_law) .none kV_law dc_law pm_law an_law cd_law ct_law), sl_law⟩) (c_law : PySem.W.codeIn K cd_law "law" = true) (k_law : PySem.W.keepIn K (.ref f_law) = true)
    (w_ValueError : PySem.W.nsIn K mainGlobals "ValueError" = some none)
    (w_bool : PySem.W.nsIn K mainGlobals "bool" = some none)
    (w_enumerate : PySem.W.nsIn K mainGlobals "enumerate" = some none)
    (w_int : PySem.W.nsIn K mainGlobals "int" = some none)
    (w_isinstance : PySem.W.nsIn K mainGlobals "isinstance" = some none)
    (w_len : PySem.W.nsIn K mainGlobals "len" = some none)
    (w_list : PySem.W.nsIn K mainGlobals "list" = some none)
    (w_range : PySem.W.nsIn K mainGlobals "range" = some none)
    (w_tuple : PySem.W.nsIn K mainGlobals "tuple" = some none) : Txt K mg := {
    c_Closed := c_Closed, m_Closed := PySem.W.mg_of X G m_Closed,
    c_Gone := c_Gone, m_Gone := PySem.W.mg_of X G m_Gone,
    c_NoDeal := c_NoDeal, m_NoDeal := PySem.W.mg_of X G m_NoDeal,
    c_NoMember := c_NoMember, m_NoMember := PySem.W.mg_of X G m_NoMember,
    c_NoTerms := c_NoTerms, m_NoTerms := PySem.W.mg_of X G m_NoTerms,
    c_QuitsError := c_QuitsError, m_QuitsError := PySem.W.mg_of X G m_QuitsError,
    c_Settled := c_Settled, m_Settled := PySem.W.mg_of X G m_Settled,
    c_Standing := c_Standing, m_Standing := PySem.W.mg_of X G m_Standing,
    e_Closed := errOk_mk x_Closed ga_Closed gn_Closed be_Closed hd_Closed fa_Closed sn_ tk_ mo_Closed,
    i_Closed_Closed := kit_self,
    i_Closed_Gone := kit_ne n_Closed_Gone hd_Gone ty_Gone s_Closed_Gone,
    i_Closed_NoDeal := kit_ne n_Closed_NoDeal hd_NoDeal ty_NoDeal s_Closed_NoDeal,
    i_Closed_NoMember := kit_ne n_Closed_NoMember hd_NoMember ty_NoMember s_Closed_NoMember,
    i_Closed_NoTerms := kit_ne n_Closed_NoTerms hd_NoTerms ty_NoTerms s_Closed_NoTerms,
    i_Closed_QuitsError := kit_ne n_Closed_QuitsError hd_QuitsError ty_QuitsError s_Closed_QuitsError,
    i_Closed_Settled := kit_ne n_Closed_Settled hd_Settled ty_Settled s_Closed_Settled,
    i_Closed_Standing := kit_ne n_Closed_Standing hd_Standing ty_Standing s_Closed_Standing,
    i_Closed_ValueError := kit_V v_Closed,
    q_Closed_QuitsError := exm_mk b_QuitsError hd_QuitsError ty_QuitsError s_Closed_QuitsError,
    e_Gone := errOk_mk x_Gone ga_Gone gn_Gone be_Gone hd_Gone fa_Gone sn_ tk_ mo_Gone,
    i_Gone_Closed := kit_ne n_Gone_Closed hd_Closed ty_Closed s_Gone_Closed,
    i_Gone_Gone := kit_self,
    i_Gone_NoDeal := kit_ne n_Gone_NoDeal hd_NoDeal ty_NoDeal s_Gone_NoDeal,
    i_Gone_NoMember := kit_ne n_Gone_NoMember hd_NoMember ty_NoMember s_Gone_NoMember,
    i_Gone_NoTerms := kit_ne n_Gone_NoTerms hd_NoTerms ty_NoTerms s_Gone_NoTerms,
    i_Gone_QuitsError := kit_ne n_Gone_QuitsError hd_QuitsError ty_QuitsError s_Gone_QuitsError,
    i_Gone_Settled := kit_ne n_Gone_Settled hd_Settled ty_Settled s_Gone_Settled,
    i_Gone_Standing := kit_ne n_Gone_Standing hd_Standing ty_Standing s_Gone_Standing,
    i_Gone_ValueError := kit_V v_Gone,
    q_Gone_QuitsError := exm_mk b_QuitsError hd_QuitsError ty_QuitsError s_Gone_QuitsError,
    e_NoDeal := errOk_mk x_NoDeal ga_NoDeal gn_NoDeal be_NoDeal hd_NoDeal fa_NoDeal sn_ tk_ mo_NoDeal,
    i_NoDeal_Closed := kit_ne n_NoDeal_Closed hd_Closed ty_Closed s_NoDeal_Closed,
    i_NoDeal_Gone := kit_ne n_NoDeal_Gone hd_Gone ty_Gone s_NoDeal_Gone,
    i_NoDeal_NoDeal := kit_self,
    i_NoDeal_NoMember := kit_ne n_NoDeal_NoMember hd_NoMember ty_NoMember s_NoDeal_NoMember,
    i_NoDeal_NoTerms := kit_ne n_NoDeal_NoTerms hd_NoTerms ty_NoTerms s_NoDeal_NoTerms,
    i_NoDeal_QuitsError := kit_ne n_NoDeal_QuitsError hd_QuitsError ty_QuitsError s_NoDeal_QuitsError,
    i_NoDeal_Settled := kit_ne n_NoDeal_Settled hd_Settled ty_Settled s_NoDeal_Settled,
    i_NoDeal_Standing := kit_ne n_NoDeal_Standing hd_Standing ty_Standing s_NoDeal_Standing,
    i_NoDeal_ValueError := kit_V v_NoDeal,
    q_NoDeal_QuitsError := exm_mk b_QuitsError hd_QuitsError ty_QuitsError s_NoDeal_QuitsError,
    e_NoMember := errOk_mk x_NoMember ga_NoMember gn_NoMember be_NoMember hd_NoMember fa_NoMember sn_ tk_ mo_NoMember,
    i_NoMember_Closed := kit_ne n_NoMember_Closed hd_Closed ty_Closed s_NoMember_Closed,
    i_NoMember_Gone := kit_ne n_NoMember_Gone hd_Gone ty_Gone s_NoMember_Gone,
    i_NoMember_NoDeal := kit_ne n_NoMember_NoDeal hd_NoDeal ty_NoDeal s_NoMember_NoDeal,
    i_NoMember_NoMember := kit_self,
    i_NoMember_NoTerms := kit_ne n_NoMember_NoTerms hd_NoTerms ty_NoTerms s_NoMember_NoTerms,
    i_NoMember_QuitsError := kit_ne n_NoMember_QuitsError hd_QuitsError ty_QuitsError s_NoMember_QuitsError,
    i_NoMember_Settled := kit_ne n_NoMember_Settled hd_Settled ty_Settled s_NoMember_Settled,
    i_NoMember_Standing := kit_ne n_NoMember_Standing hd_Standing ty_Standing s_NoMember_Standing,
    i_NoMember_ValueError := kit_V v_NoMember,
    q_NoMember_QuitsError := exm_mk b_QuitsError hd_QuitsError ty_QuitsError s_NoMember_QuitsError,
    e_NoTerms := errOk_mk x_NoTerms ga_NoTerms gn_NoTerms be_NoTerms hd_NoTerms fa_NoTerms sn_ tk_ mo_NoTerms,
    i_NoTerms_Closed := kit_ne n_NoTerms_Closed hd_Closed ty_Closed s_NoTerms_Closed,
    i_NoTerms_Gone := kit_ne n_NoTerms_Gone hd_Gone ty_Gone s_NoTerms_Gone,
    i_NoTerms_NoDeal := kit_ne n_NoTerms_NoDeal hd_NoDeal ty_NoDeal s_NoTerms_NoDeal,
    i_NoTerms_NoMember := kit_ne n_NoTerms_NoMember hd_NoMember ty_NoMember s_NoTerms_NoMember,
    i_NoTerms_NoTerms := kit_self,
    i_NoTerms_QuitsError := kit_ne n_NoTerms_QuitsError hd_QuitsError ty_QuitsError s_NoTerms_QuitsError,
    i_NoTerms_Settled := kit_ne n_NoTerms_Settled hd_Settled ty_Settled s_NoTerms_Settled,
    i_NoTerms_Standing := kit_ne n_NoTerms_Standing hd_Standing ty_Standing s_NoTerms_Standing,
    i_NoTerms_ValueError := kit_V v_NoTerms,
    q_NoTerms_QuitsError := exm_mk b_QuitsError hd_QuitsError ty_QuitsError s_NoTerms_QuitsError,
    e_Settled := errOk_mk x_Settled ga_Settled gn_Settled be_Settled hd_Settled fa_Settled sn_ tk_ mo_Settled,
    i_Settled_Closed := kit_ne n_Settled_Closed hd_Closed ty_Closed s_Settled_Closed,
    i_Settled_Gone := kit_ne n_Settled_Gone hd_Gone ty_Gone s_Settled_Gone,
    i_Settled_NoDeal := kit_ne n_Settled_NoDeal hd_NoDeal ty_NoDeal s_Settled_NoDeal,
    i_Settled_NoMember := kit_ne n_Settled_NoMember hd_NoMember ty_NoMember s_Settled_NoMember,
    i_Settled_NoTerms := kit_ne n_Settled_NoTerms hd_NoTerms ty_NoTerms s_Settled_NoTerms,
    i_Settled_QuitsError := kit_ne n_Settled_QuitsError hd_QuitsError ty_QuitsError s_Settled_QuitsError,
    i_Settled_Settled := kit_self,
    i_Settled_Standing := kit_ne n_Settled_Standing hd_Standing ty_Standing s_Settled_Standing,
    i_Settled_ValueError := kit_V v_Settled,
    q_Settled_QuitsError := exm_mk b_QuitsError hd_QuitsError ty_QuitsError s_Settled_QuitsError,
    c_Book := c_Book, m_Book := PySem.W.mg_of X G m_Book, cl_Book := ⟨pg_Book, hd_Book, po_Book, sa_Book⟩,
    na_Book_day := na_Book_day,
    na_Book_deals := na_Book_deals,
    na_Book_many := na_Book_many,
    na_Book_wares := na_Book_wares,
    t_DAY := t_DAY, g_DAY := PySem.W.mg_of X G g_DAY,
    t_MOST_AMOUNT := t_MOST_AMOUNT, g_MOST_AMOUNT := PySem.W.mg_of X G g_MOST_AMOUNT,
    t_MOST_DAY := t_MOST_DAY, g_MOST_DAY := PySem.W.mg_of X G g_MOST_DAY,
    t_MOST_UNITS := t_MOST_UNITS, g_MOST_UNITS := PySem.W.mg_of X G g_MOST_UNITS,
    t_PAYEE := t_PAYEE, g_PAYEE := PySem.W.mg_of X G g_PAYEE,
    t_PAYER := t_PAYER, g_PAYER := PySem.W.mg_of X G g_PAYER,
    t_STATE := t_STATE, g_STATE := PySem.W.mg_of X G g_STATE,
    d_Book___init__ := { a := f_Book___init__, fd := _, F := fun_mk (st := s_Book___init__) l_Book___init__ c_Book___init__ k_Book___init__, b := (fun_mk (st := s_Book___init__) l_Book___init__ c_Book___init__ k_Book___init__).binds (ps := ["self", "many", "wares"]) fun _ _ _ _ _ _ us hl => (by obtain ⟨_, _, _, rfl⟩ := len3 hl; rfl), mt := ⟨a_Book___init__, i_Book___init__, k_Book___init__⟩ }, mk_Book := ⟨mk_Book, a_Book___init__, i_Book___init__, kc_Book⟩,
    d_Book_strike := { a := f_Book_strike, fd := _, F := fun_mk (st := s_Book_strike) l_Book_strike c_Book_strike k_Book_strike, b := (fun_mk (st := s_Book_strike) l_Book_strike c_Book_strike k_Book_strike).binds (ps := ["self", "payer", "payee", "ware", "units", "amount", "day", "rank"]) fun _ _ _ _ _ _ us hl => (by obtain ⟨_, _, _, _, _, _, _, _, rfl⟩ := len8 hl; rfl), mt := ⟨a_Book_strike, i_Book_strike, k_Book_strike⟩ },
    d_Book_check_members := { a := f_Book_check_members, fd := _, F := fun_mk (st := s_Book_check_members) l_Book_check_members c_Book_check_members k_Book_check_members, b := (fun_mk (st := s_Book_check_members) l_Book_check_members c_Book_check_members k_Book_check_members).binds (ps := ["self", "payer", "payee"]) fun _ _ _ _ _ _ us hl => (by obtain ⟨_, _, _, rfl⟩ := len3 hl; rfl), mt := ⟨a_Book_check_members, i_Book_check_members, k_Book_check_members⟩ },
    d_Book_check_terms := { a := f_Book_check_terms, fd := _, F := fun_mk (st := s_Book_check_terms) l_Book_check_terms c_Book_check_terms k_Book_check_terms, b := (fun_mk (st := s_Book_check_terms) l_Book_check_terms c_Book_check_terms k_Book_check_terms).binds (ps := ["self", "ware", "units", "amount", "day", "rank"]) fun _ _ _ _ _ _ us hl => (by obtain ⟨_, _, _, _, _, _, rfl⟩ := len6 hl; rfl), mt := ⟨a_Book_check_terms, i_Book_check_terms, k_Book_check_terms⟩ },
    d_Book_break_off := { a := f_Book_break_off, fd := _, F := fun_mk (st := s_Book_break_off) l_Book_break_off c_Book_break_off k_Book_break_off, b := (fun_mk (st := s_Book_break_off) l_Book_break_off c_Book_break_off k_Book_break_off).binds (ps := ["self", "number"]) fun _ _ _ _ _ _ us hl => (by obtain ⟨_, _, rfl⟩ := len2 hl; rfl), mt := ⟨a_Book_break_off, i_Book_break_off, k_Book_break_off⟩ },
    d_Book_standing_deal := { a := f_Book_standing_deal, fd := _, F := fun_mk (st := s_Book_standing_deal) l_Book_standing_deal c_Book_standing_deal k_Book_standing_deal, b := (fun_mk (st := s_Book_standing_deal) l_Book_standing_deal c_Book_standing_deal k_Book_standing_deal).binds (ps := ["self", "number"]) fun _ _ _ _ _ _ us hl => (by obtain ⟨_, _, rfl⟩ := len2 hl; rfl), mt := ⟨a_Book_standing_deal, i_Book_standing_deal, k_Book_standing_deal⟩ },
    d_Book_put_state := { a := f_Book_put_state, fd := _, F := fun_mk (st := s_Book_put_state) l_Book_put_state c_Book_put_state k_Book_put_state, b := (fun_mk (st := s_Book_put_state) l_Book_put_state c_Book_put_state k_Book_put_state).binds (ps := ["self", "number", "state"]) fun _ _ _ _ _ _ us hl => (by obtain ⟨_, _, _, rfl⟩ := len3 hl; rfl), mt := ⟨a_Book_put_state, i_Book_put_state, k_Book_put_state⟩ },
    d_Book_break_all := { a := f_Book_break_all, fd := _, F := fun_mk (st := s_Book_break_all) l_Book_break_all c_Book_break_all k_Book_break_all, b := (fun_mk (st := s_Book_break_all) l_Book_break_all c_Book_break_all k_Book_break_all).binds (ps := ["self", "member"]) fun _ _ _ _ _ _ us hl => (by obtain ⟨_, _, rfl⟩ := len2 hl; rfl), mt := ⟨a_Book_break_all, i_Book_break_all, k_Book_break_all⟩ },
    d_Book_close := { a := f_Book_close, fd := _, F := fun_mk (st := s_Book_close) l_Book_close c_Book_close k_Book_close, b := (fun_mk (st := s_Book_close) l_Book_close c_Book_close k_Book_close).binds (ps := ["self"]) fun _ _ _ _ _ _ us hl => (by obtain ⟨_, rfl⟩ := len1 hl; rfl), mt := ⟨a_Book_close, i_Book_close, k_Book_close⟩ },
    d_Book_today := { a := f_Book_today, fd := _, F := fun_mk (st := s_Book_today) l_Book_today c_Book_today k_Book_today, b := (fun_mk (st := s_Book_today) l_Book_today c_Book_today k_Book_today).binds (ps := ["self"]) fun _ _ _ _ _ _ us hl => (by obtain ⟨_, rfl⟩ := len1 hl; rfl), mt := ⟨a_Book_today, i_Book_today, k_Book_today⟩ },
    d_Book_struck := { a := f_Book_struck, fd := _, F := fun_mk (st := s_Book_struck) l_Book_struck c_Book_struck k_Book_struck, b := (fun_mk (st := s_Book_struck) l_Book_struck c_Book_struck k_Book_struck).binds (ps := ["self"]) fun _ _ _ _ _ _ us hl => (by obtain ⟨_, rfl⟩ := len1 hl; rfl), mt := ⟨a_Book_struck, i_Book_struck, k_Book_struck⟩ },
    d_Book_deal := { a := f_Book_deal, fd := _, F := fun_mk (st := s_Book_deal) l_Book_deal c_Book_deal k_Book_deal, b := (fun_mk (st := s_Book_deal) l_Book_deal c_Book_deal k_Book_deal).binds (ps := ["self", "number"]) fun _ _ _ _ _ _ us hl => (by obtain ⟨_, _, rfl⟩ := len2 hl; rfl), mt := ⟨a_Book_deal, i_Book_deal, k_Book_deal⟩ },
    d__law_cell := { a := f__law_cell, fd := _, F := fun_mk (st := s__law_cell) l__law_cell c__law_cell k__law_cell, b := (fun_mk (st := s__law_cell) l__law_cell c__law_cell k__law_cell).binds (ps := ["_law_script", "_law_k"]) fun _ _ _ _ _ _ us hl => (by obtain ⟨_, _, rfl⟩ := len2 hl; rfl), m := PySem.W.mg_of X G a__law_cell },
    d__law_draw := { a := f__law_draw, fd := _, F := fun_mk (st := s__law_draw) l__law_draw c__law_draw k__law_draw, b := (fun_mk (st := s__law_draw) l__law_draw c__law_draw k__law_draw).binds (ps := ["_law_script", "_law_k", "_law_many"]) fun _ _ _ _ _ _ us hl => (by obtain ⟨_, _, _, rfl⟩ := len3 hl; rfl), m := PySem.W.mg_of X G a__law_draw },
    d__law_great := { a := f__law_great, fd := _, F := fun_mk (st := s__law_great) l__law_great c__law_great k__law_great, b := (fun_mk (st := s__law_great) l__law_great c__law_great k__law_great).binds (ps := ["_law_script", "_law_k", "_law_many"]) fun _ _ _ _ _ _ us hl => (by obtain ⟨_, _, _, rfl⟩ := len3 hl; rfl), m := PySem.W.mg_of X G a__law_great },
    d__law_name := { a := f__law_name, fd := _, F := fun_mk (st := s__law_name) l__law_name c__law_name k__law_name, b := (fun_mk (st := s__law_name) l__law_name c__law_name k__law_name).binds (ps := ["_law_e"]) fun _ _ _ _ _ _ us hl => (by obtain ⟨_, rfl⟩ := len1 hl; rfl), m := PySem.W.mg_of X G a__law_name },
    d__law_due := { a := f__law_due, fd := _, F := fun_mk (st := s__law_due) l__law_due c__law_due k__law_due, b := (fun_mk (st := s__law_due) l__law_due c__law_due k__law_due).binds (ps := ["_law_rows", "_law_number"]) fun _ _ _ _ _ _ us hl => (by obtain ⟨_, _, rfl⟩ := len2 hl; rfl), m := PySem.W.mg_of X G a__law_due },
    d__law_break := { a := f__law_break, fd := _, F := fun_mk (st := s__law_break) l__law_break c__law_break k__law_break, b := (fun_mk (st := s__law_break) l__law_break c__law_break k__law_break).binds (ps := ["_law_book", "_law_number"]) fun _ _ _ _ _ _ us hl => (by obtain ⟨_, _, rfl⟩ := len2 hl; rfl), m := PySem.W.mg_of X G a__law_break },
    d__law_one := { a := f__law_one, fd := _, F := fun_mk (st := s__law_one) l__law_one c__law_one k__law_one, b := (fun_mk (st := s__law_one) l__law_one c__law_one k__law_one).binds (ps := ["_law_script", "_law_at", "_law_book", "_law_rows"]) fun _ _ _ _ _ _ us hl => (by obtain ⟨_, _, _, _, rfl⟩ := len4 hl; rfl), m := PySem.W.mg_of X G a__law_one },
    d__law_all := { a := f__law_all, fd := _, F := fun_mk (st := s__law_all) l__law_all c__law_all k__law_all, b := (fun_mk (st := s__law_all) l__law_all c__law_all k__law_all).binds (ps := ["_law_book", "_law_rows", "_law_member"]) fun _ _ _ _ _ _ us hl => (by obtain ⟨_, _, _, rfl⟩ := len3 hl; rfl), m := PySem.W.mg_of X G a__law_all },
    d__law_stands := { a := f__law_stands, fd := _, F := fun_mk (st := s__law_stands) l__law_stands c__law_stands k__law_stands, b := (fun_mk (st := s__law_stands) l__law_stands c__law_stands k__law_stands).binds (ps := ["_law_book", "_law_rows"]) fun _ _ _ _ _ _ us hl => (by obtain ⟨_, _, rfl⟩ := len2 hl; rfl), m := PySem.W.mg_of X G a__law_stands },
    d__law_set_up := { a := f__law_set_up, fd := _, F := fun_mk (st := s__law_set_up) l__law_set_up c__law_set_up k__law_set_up, b := (fun_mk (st := s__law_set_up) l__law_set_up c__law_set_up k__law_set_up).binds (ps := ["_law_script", "_law_book", "_law_many", "_law_wares"]) fun _ _ _ _ _ _ us hl => (by obtain ⟨_, _, _, _, rfl⟩ := len4 hl; rfl), m := PySem.W.mg_of X G a__law_set_up },
    d__law_closed := { a := f__law_closed, fd := _, F := fun_mk (st := s__law_closed) l__law_closed c__law_closed k__law_closed, b := (fun_mk (st := s__law_closed) l__law_closed c__law_closed k__law_closed).binds (ps := ["_law_book", "_law_rows", "_law_today"]) fun _ _ _ _ _ _ us hl => (by obtain ⟨_, _, _, rfl⟩ := len3 hl; rfl), m := PySem.W.mg_of X G a__law_closed },
    d_law := { a := f_law, fd := _, F := fun_mk (st := s_law) l_law c_law k_law, b := (fun_mk (st := s_law) l_law c_law k_law).binds (ps := ["_law_script"]) fun _ _ _ _ _ _ us hl => (by obtain ⟨_, rfl⟩ := len1 hl; rfl), m := PySem.W.mg_of X G a_law },
    bl_law := fun s v => .of_eq rfl,
    z_ValueError := PySem.W.mg_none_of X G w_ValueError,
    z_bool := PySem.W.mg_none_of X G w_bool,
    z_enumerate := PySem.W.mg_none_of X G w_enumerate,
    z_int := PySem.W.mg_none_of X G w_int,
    z_isinstance := PySem.W.mg_none_of X G w_isinstance,
    z_len := PySem.W.mg_none_of X G w_len,
    z_list := PySem.W.mg_none_of X G w_list,
    z_range := PySem.W.mg_none_of X G w_range,
    z_tuple := PySem.W.mg_none_of X G w_tuple }
section
variable {P : Program} {w : World} {K : PySem.W.Frag} {mg : Str → Option Value} {base : Heap}

theorem ok_Book___init__ (T : Txt K mg) : FnOk P w K mg base (CXF P w) 1 T.d_Book___init__.a T.d_Book___init__.fd ["self", "many", "wares"] (spBInit T.c_Book) := by
  refine T.d_Book___init__.F.okN sc_Book___init__ (fun vs H Q E h => ?_) (fun cdv A outer s H vs Q E hr h => ?_)
  · obtain ⟨p, dx, m, w, rfl, _⟩ := h; rfl
  obtain ⟨p, dx, m, w, rfl, hp, k⟩ := h
  refine ⟨_, (pss_cons (show PS _ _ (sFld K _ _ _) from ps_fld (pv 0) (pv 1) rfl)
 (pss_cons (show PS _ _ (sFld K _ _ _) from ps_fld (pv 0) (pv 2) rfl)
 (pss_cons (show PS _ _ (sFld K _ _ _) from ps_fld (pv 0) pe_int rfl)
 (pss_one (show PS _ _ (sFld K _ _ _) from ps_fld (pv 0) (pe_lst pa_nil) rfl))))), ?_⟩
  refine x_start (σ0 := [some (.ref p), some (.int m), some (.int w)]) rfl ?_
  walk_at "x"
  refine x_sfldk hp T.cl_Book T.na_Book_many (by show 0 < 1000; decide) fun H1 b1 h1 => ?_
  walk_at "x"
  refine x_sfldk h1 T.cl_Book T.na_Book_wares (by show 1 < 1000; decide) fun H2 b2 h2 => ?_
  walk_at "x"
  refine x_sfldk h2 T.cl_Book T.na_Book_day (Nat.lt_of_le_of_lt (length_putF _ _ _) (by show 2 < 1000; decide)) fun H3 b3 h3 => ?_
  walk_at "x"
  rename_i d H4 fd e4 hd
  refine x_sfldk (e4.at h3) T.cl_Book T.na_Book_deals (Nat.lt_of_le_of_lt (length_putF _ _ _) (Nat.lt_of_le_of_lt (Nat.add_le_add_right (length_putF _ _ _) 1) (by show 3 < 1000; decide))) fun H5 b5 h5 => ?_
  have npd : d ≠ p := ne_new' fd h3
  refine k d H5 ?_ (fun b o n q => b5.at (e4.at (b3.at (b2.at (b1.at q n) n) n)) n) h5 (b5.at hd npd)
  have f3 : H2 d = none := by rw [← b3 d npd]; exact fd
  have f2 : H1 d = none := by rw [← b2 d npd]; exact f3
  rw [← b1 d npd]; exact f2
theorem ok_Book_check_members (T : Txt K mg) : FnOk P w K mg base (CXF P w) 1 T.d_Book_check_members.a T.d_Book_check_members.fd ["self", "payer", "payee"] (spCheckMX T.c_Book T.c_NoMember) := by
  refine T.d_Book_check_members.F.okX sc_Book_check_members (fun vs H Q E h => ?_) (fun cdv A outer s H vs Q E hr h => ?_)
  · obtain ⟨b, dx, d, m, w, y, p, q, rfl, _⟩ := h; rfl
  obtain ⟨b, dx, d, m, w, y, p, q, rfl, hb, h⟩ := h
  have cl_Book := T.cl_Book
  have na_Book_many := T.na_Book_many
  refine ⟨_, (pss_cons (ps_for PassesOwn.leaving rfl (show PI _ _ _ (iTup K _) from pi_tup (pe_tup (pa_cons (pv 1) (pa_cons (pv 2) pa_nil)))) (pg_name (i := 3) sc_Book_check_members.nd rfl (Or.inl rfl))
  (pss_one (ps_if (PW.pt (pw_or (pt_cmpR op_lt (pv 3) pe_int (nomark _)) (pw_or1 (pt_cmpR op_ge (pv 3) (show PE _ _ (tFld K _ _) from pe_fld (pv 0) rfl) (nomark _)))))
  (pss_one (ps_raise rfl rfl T.m_NoMember (errOk.own T.e_NoMember) (pa_cons pe_str pa_nil) made_F))
  pss_nil)))
 (pss_one (ps_if (pt_cmpR (show OpR _ (compareOp .Eq) (rEqU K) from op_eqU hr.units) (pv 1) (pv 2) (nomark _))
  (pss_one (ps_raise rfl rfl T.m_NoMember (errOk.own T.e_NoMember) (pa_cons pe_str pa_nil) made_F))
  pss_nil))), ?_⟩
  refine x_start (σ0 := [some (.ref b), some (.int p), some (.int q), none]) rfl ?_
  walk_at "x"
  refine x_tupN (by first | decide | simp) fun t H1 ft e1 ht => ?_
  refine x_itTk (.of ht) ?_
  refine x_forS (src_tup (xs := [.int p, .int q])) (fun i σ' H' => ∃ f3 : Option V, σ' = [some (.ref b), some (.int p), some (.int q), f3] ∧ Same H1 H' ∧ (0 < i → 0 ≤ p ∧ p < m) ∧ (1 < i → 0 ≤ q ∧ q < m)) ⟨_, rfl, Same.refl _, fun z => absurd z (by omega), fun z => absurd z (by omega)⟩ ?_ ?_ ?_
  · rintro i σ' H' ⟨_, _, e, _⟩; exact .of (e.at ht)
  · rintro i x σ' H' H2 hi ⟨f3, rfl, e', i0, i1⟩ e2 hx
    have hb2 : H2 b = some (.ins T.c_Book dx (bfl m w y d)) := e2.at (e'.at (e1.at hb))
    obtain ⟨v, rfl, hv⟩ : ∃ v : Int, x = .int v ∧ ((i = 0 ∧ v = p) ∨ (i = 1 ∧ v = q)) := by
      have hi2 : i < 2 := hi
      obtain rfl | rfl : i = 0 ∨ i = 1 := by omega
      · exact ⟨p, (Option.some.inj hx).symm, .inl ⟨rfl, rfl⟩⟩
      · exact ⟨q, (Option.some.inj hx).symm, .inr ⟨rfl, rfl⟩⟩
    walk_at "x"
    all_goals first
      | exact ⟨_, rfl, e'.trans e2, fun _ => by rcases hv with ⟨_, rfl⟩ | ⟨z, _⟩ <;> first | (constructor <;> omega) | exact i0 (by omega), fun _ => by rcases hv with ⟨z, _⟩ | ⟨_, rfl⟩ <;> first | (exfalso; omega) | (constructor <;> omega)⟩
      | (rcases h with ⟨⟨⟨a1, a2⟩, ⟨a3, a4⟩, a5⟩, _⟩ | ⟨_, k⟩
         · exfalso; omega
         · exact ⟨by decide, k _ (e1.trans (e'.trans e2))⟩)
  · rintro σ' H' ⟨f3, rfl, e', i0, i1⟩
    have p0 := i0 (show 0 < 2 by decide)
    have q0 := i1 (show 1 < 2 by decide)
    walk_at "x"
    all_goals rcases h with ⟨⟨⟨a1, a2⟩, ⟨a3, a4⟩, a5⟩, k⟩ | ⟨hn, k⟩
    all_goals first
      | exact k _ (e1.trans e')
      | exact ⟨by decide, k _ (e1.trans e')⟩
      | (exfalso; omega)
      | exact absurd ⟨p0, q0, by omega⟩ hn
theorem ok_Book_check_terms (T : Txt K mg) : FnOk P w K mg base (CXF P w) 1 T.d_Book_check_terms.a T.d_Book_check_terms.fd ["self", "ware", "units", "amount", "day", "rank"] (spCheckTX T.c_Book T.c_NoTerms T.c_Closed) := by
  refine T.d_Book_check_terms.F.okX sc_Book_check_terms (fun vs H Q E h => ?_) (fun cdv A outer s H vs Q E hr h => ?_)
  · obtain ⟨b, dx, d, m, w, y, t, rfl, _⟩ := h; rfl
  obtain ⟨b, dx, d, m, w, y, t, rfl, hb, h⟩ := h
  have cl_Book := T.cl_Book
  have na_Book_wares := T.na_Book_wares
  have na_Book_day := T.na_Book_day
  refine ⟨_, (pss_cons (ps_if (PW.pt (pw_or (pt_cmpR op_lt (pv 1) pe_int (nomark _)) (pw_or1 (pt_cmpR op_ge (pv 1) (show PE _ _ (tFld K _ _) from pe_fld (pv 0) rfl) (nomark _)))))
  (pss_one (ps_raise rfl rfl T.m_NoTerms (errOk.own T.e_NoTerms) (pa_cons pe_str pa_nil) made_F))
  pss_nil)
 (pss_cons (ps_if (PW.pt (pw_or (pt_cmpR op_lt (pv 2) pe_int (nomark _)) (pw_or1 (pt_cmpR op_gt (pv 2) (pe_glob (v := .int 1000000) rfl T.g_MOST_UNITS ⟨_, rfl⟩) (nomark _)))))
  (pss_one (ps_raise rfl rfl T.m_NoTerms (errOk.own T.e_NoTerms) (pa_cons pe_str pa_nil) made_F))
  pss_nil)
 (pss_cons (ps_if (PW.pt (pw_or (pt_cmpR op_lt (pv 3) pe_int (nomark _)) (pw_or1 (pt_cmpR op_gt (pv 3) (pe_glob (v := .int 1000000000) rfl T.g_MOST_AMOUNT ⟨_, rfl⟩) (nomark _)))))
  (pss_one (ps_raise rfl rfl T.m_NoTerms (errOk.own T.e_NoTerms) (pa_cons pe_str pa_nil) made_F))
  pss_nil)
 (pss_cons (ps_if (PW.pt (pw_or (pt_cmpR op_lt (pv 4) pe_int (nomark _)) (pw_or1 (pt_cmpR op_gt (pv 4) (pe_glob (v := .int 1000000) rfl T.g_MOST_DAY ⟨_, rfl⟩) (nomark _)))))
  (pss_one (ps_raise rfl rfl T.m_NoTerms (errOk.own T.e_NoTerms) (pa_cons pe_str pa_nil) made_F))
  pss_nil)
 (pss_cons (ps_if (PW.pt (pw_or (pt_cmpR op_lt (pv 5) pe_int (nomark _)) (pw_or1 (pt_cmpR op_gt (pv 5) pe_int (nomark _)))))
  (pss_one (ps_raise rfl rfl T.m_NoTerms (errOk.own T.e_NoTerms) (pa_cons pe_str pa_nil) made_F))
  pss_nil)
 (pss_one (ps_if (pt_cmpR op_lt (pv 4) (show PE _ _ (tFld K _ _) from pe_fld (pv 0) rfl) (nomark _))
  (pss_one (ps_raise rfl rfl T.m_Closed (errOk.own T.e_Closed) (pa_cons pe_str pa_nil) made_F))
  pss_nil))))))), ?_⟩
  refine x_start (σ0 := [some (.ref b), some (.int t.w), some (.int t.u), some (.int t.a), some (.int t.y), some (.int t.r)]) rfl ?_
  rcases h with ⟨⟨⟨b1, b2⟩, ⟨b3, b4⟩, ⟨b5, b6⟩, ⟨b7, b8⟩, b9, b10⟩, h2, k⟩ | ⟨h1, k⟩ | ⟨⟨⟨b1, b2⟩, ⟨b3, b4⟩, ⟨b5, b6⟩, ⟨b7, b8⟩, b9, b10⟩, h2, k⟩
  · walk_at "x"
    all_goals first | exact k | (exfalso; omega)
  · walk_at "x"
    all_goals first | exact ⟨by decide, k⟩ | exact absurd (show TrmOk w t from ⟨⟨by omega, by omega⟩, ⟨by omega, by omega⟩, ⟨by omega, by omega⟩, ⟨by omega, by omega⟩, by omega, by omega⟩) h1
  · walk_at "x"
    all_goals first | exact ⟨by decide, k⟩ | (exfalso; omega)
theorem ok_Book_strike (T : Txt K mg) : FnOk P w K mg base (CXF P w) 2 T.d_Book_strike.a T.d_Book_strike.fd ["self", "payer", "payee", "ware", "units", "amount", "day", "rank"] (spStrikeX T.c_Book T.c_NoMember T.c_NoTerms T.c_Closed) := by
  refine T.d_Book_strike.F.okX sc_Book_strike (fun vs H Q E h => ?_) (fun cdv A outer s H vs Q E hr h => ?_)
  · obtain ⟨b, dx, d, m, w, y, t, xs, rfl, _⟩ := h; rfl
  obtain ⟨b, dx, d, m, w, y, t, xs, rfl, hb, hd, hl, h⟩ := h
  have cl_Book := T.cl_Book
  have na_Book_deals := T.na_Book_deals
  refine ⟨_, (pss_cons (ps_expr (pe_meth (pv 0) T.cl_Book T.d_Book_check_members.mt (ok_Book_check_members T) (hr.mono (by decide)) T.d_Book_check_members.b .nil pass_F (pa_cons (pv 1) (pa_cons (pv 2) pa_nil))))
 (pss_cons (ps_expr (pe_meth (pv 0) T.cl_Book T.d_Book_check_terms.mt (ok_Book_check_terms T) (hr.mono (by decide)) T.d_Book_check_terms.b .nil pass_F (pa_cons (pv 3) (pa_cons (pv 4) (pa_cons (pv 5) (pa_cons (pv 6) (pa_cons (pv 7) pa_nil)))))))
 (pss_cons (ps_expr (show PE _ _ (tBM K _ _ _ _) from pe_bm PySem.F.plainAttrs_list PySem.F.slot_list_append PySem.F.type_list_append mt_append (show PE _ _ (tFld K _ _) from pe_fld (pv 0) rfl) (pa_cons (pe_tup (pa_cons (pv 1) (pa_cons (pv 2) (pa_cons (pv 3) (pa_cons (pv 4) (pa_cons (pv 5) (pa_cons (pv 6) (pa_cons (pv 7) (pa_cons pe_str pa_nil))))))))) pa_nil)))
 (pss_one (ps_ret (pe_op op_sub (pe_callB (show CallR _ _ (rLen K) from call_lenU) rfl T.z_len BT.len (pa_cons (show PE _ _ (tFld K _ _) from pe_fld (pv 0) rfl) pa_nil)) pe_int)))))), ?_⟩
  refine x_start (σ0 := [some (.ref b), some (.int t.p), some (.int t.q), some (.int t.w), some (.int t.u), some (.int t.a), some (.int t.y), some (.int t.r)]) rfl ?_
  walk_at "x"
  by_cases hM : MemOk m t.p t.q
  · refine ⟨b, dx, d, m, w, y, _, _, rfl, hb, .inl ⟨hM, fun H1 e1 => ?_⟩⟩
    walk_at "x"
    by_cases hT : TrmOk w t
    · by_cases hy : t.y < y
      · have hk : dueK m w y t = 3 := by unfold dueK; rw [if_neg (Classical.not_not.mpr hM), if_neg (Classical.not_not.mpr hT), if_pos hy]
        refine ⟨b, dx, d, m, w, y, t, rfl, e1.at hb, .inr (.inr ⟨hT, hy, ?_⟩)⟩
        rcases h with ⟨z, _⟩ | ⟨z, _⟩ | ⟨z, _⟩ | ⟨_, k⟩
        all_goals first | exact k _ e1 | (exfalso; omega)
      · have hk : dueK m w y t = 0 := by unfold dueK; rw [if_neg (Classical.not_not.mpr hM), if_neg (Classical.not_not.mpr hT), if_neg hy]
        refine ⟨b, dx, d, m, w, y, t, rfl, e1.at hb, .inl ⟨hT, by omega, ?_⟩⟩
        rcases h with ⟨_, k⟩ | ⟨z, _⟩ | ⟨z, _⟩ | ⟨z, _⟩
        case inr.inl => exfalso; omega
        case inr.inr.inl => exfalso; omega
        case inr.inr.inr => exfalso; omega
        walk_at "x"
        rename_i a H2 fa e2 ha H3 b3 h3
        have el : (((xs ++ [V.ref a]).length : Nat) : Int) - 1 = ((xs.length : Nat) : Int) := by rw [List.length_append]; show (((xs.length + 1 : Nat) : Nat) : Int) - 1 = _; omega
        rw [el]
        exact k a H2 H3 (e1.trans e2) ha b3 h3
    · have hk : dueK m w y t = 2 := by unfold dueK; rw [if_neg (Classical.not_not.mpr hM), if_pos hT]
      refine ⟨b, dx, d, m, w, y, t, rfl, e1.at hb, .inr (.inl ⟨hT, ?_⟩)⟩
      rcases h with ⟨z, _⟩ | ⟨z, _⟩ | ⟨_, k⟩ | ⟨z, _⟩
      all_goals first | exact k _ e1 | (exfalso; omega)
  · have hk : dueK m w y t = 1 := by unfold dueK; rw [if_pos hM]
    refine ⟨b, dx, d, m, w, y, _, _, rfl, hb, .inr ⟨hM, fun H1 e1 => ?_⟩⟩
    rcases h with ⟨z, _⟩ | ⟨_, k⟩ | ⟨z, _⟩ | ⟨z, _⟩
    all_goals first | exact k _ e1 | (exfalso; omega)
theorem ok_Book_deal (T : Txt K mg) : FnOk P w K mg base (CXF P w) 1 T.d_Book_deal.a T.d_Book_deal.fd ["self", "number"] (spDealX T.c_Book T.c_NoDeal) := by
  refine T.d_Book_deal.F.okX sc_Book_deal (fun vs H Q E h => ?_) (fun cdv A outer s H vs Q E hr h => ?_)
  · obtain ⟨b, dx, d, m, w, y, n, xs, rfl, _⟩ := h; rfl
  obtain ⟨b, dx, d, m, w, y, n, xs, rfl, hb, hd, h⟩ := h
  have cl_Book := T.cl_Book
  have na_Book_deals := T.na_Book_deals
  refine ⟨_, (pss_cons (ps_if (PW.pt (pw_or (pt_cmpR op_lt (pv 1) pe_int (nomark _)) (pw_or1 (pt_cmpR op_ge (pv 1) (pe_callB (show CallR _ _ (rLen K) from call_lenU) rfl T.z_len BT.len (pa_cons (show PE _ _ (tFld K _ _) from pe_fld (pv 0) rfl) pa_nil)) (nomark _)))))
  (pss_one (ps_raise rfl rfl T.m_NoDeal (errOk.own T.e_NoDeal) (pa_cons pe_str pa_nil) made_F))
  pss_nil)
 (pss_one (ps_ret (pe_ix (show IxR _ (rIx K) from ix_seq) (show PE _ _ (tFld K _ _) from pe_fld (pv 0) rfl) (pv 1) (fun _ _ => rfl))))), ?_⟩
  refine x_start (σ0 := [some (.ref b), some (.int n)]) rfl ?_
  rcases h with ⟨n0, v, hv, k⟩ | ⟨hn, k⟩
  · have hlt := (List.getElem?_eq_some_iff.mp hv).1
    have hat : atI xs n = some v := atI_lt n0 hv
    walk_at "x"
    all_goals first | exact k | (exfalso; omega)
  · walk_at "x"
    all_goals first | exact ⟨by decide, k⟩ | (exfalso; omega)
theorem ok_Book_struck (T : Txt K mg) : FnOk P w K mg base (CXF P w) 1 T.d_Book_struck.a T.d_Book_struck.fd ["self"] (spStruck T.c_Book) := by
  refine T.d_Book_struck.F.okN sc_Book_struck (fun vs H Q E h => ?_) (fun cdv A outer s H vs Q E hr h => ?_)
  · obtain ⟨b, dx, d, m, w, y, xs, rfl, _⟩ := h; rfl
  obtain ⟨b, dx, d, m, w, y, xs, rfl, hb, hd, k⟩ := h
  have cl_Book := T.cl_Book
  have na_Book_deals := T.na_Book_deals
  refine ⟨_, (pss_one (ps_ret (pe_callB (show CallR _ _ (rLen K) from call_lenU) rfl T.z_len BT.len (pa_cons (show PE _ _ (tFld K _ _) from pe_fld (pv 0) rfl) pa_nil)))), ?_⟩
  refine x_start (σ0 := [some (.ref b)]) rfl ?_
  walk_at "x"
  exact k
theorem ok_Book_today (T : Txt K mg) : FnOk P w K mg base (CXF P w) 1 T.d_Book_today.a T.d_Book_today.fd ["self"] (spToday T.c_Book) := by
  refine T.d_Book_today.F.okN sc_Book_today (fun vs H Q E h => ?_) (fun cdv A outer s H vs Q E hr h => ?_)
  · obtain ⟨b, dx, d, m, w, y, rfl, _⟩ := h; rfl
  obtain ⟨b, dx, d, m, w, y, rfl, hb, k⟩ := h
  have cl_Book := T.cl_Book
  have na_Book_day := T.na_Book_day
  refine ⟨_, (pss_one (ps_ret (show PE _ _ (tFld K _ _) from pe_fld (pv 0) rfl))), ?_⟩
  refine x_start (σ0 := [some (.ref b)]) rfl ?_
  walk_at "x"
  exact k

theorem ok_Book_put_state (T : Txt K mg) : FnOk P w K mg base (CXF P w) 1 T.d_Book_put_state.a T.d_Book_put_state.fd ["self", "number", "state"] (spPutState T.c_Book) := by
  refine T.d_Book_put_state.F.okN sc_Book_put_state (fun vs H Q E h => ?_) (fun cdv A outer s H vs Q E hr h => ?_)
  · obtain ⟨b, d, m, w, y, n, st, ts, t, rfl, _⟩ := h; rfl
  obtain ⟨b, d, m, w, y, n, st, ts, t, rfl, hB, n0, ht, k⟩ := h
  obtain ⟨⟨dx, hb⟩, xs, hd, hI⟩ := id hB
  have hxl := hI.length
  have hnl := (List.getElem?_eq_some_iff.mp ht).1
  obtain ⟨a, ha1, ha2⟩ := hI.getI ht
  have ha3 : H a = some (.tup [.int t.1.p, .int t.1.q, .int t.1.w, .int t.1.u, .int t.1.a, .int t.1.y, .int t.1.r, .str t.2]) := ha2
  have hat : atI xs n = some (.ref a) := atI_lt n0 ha1
  have cl_Book := T.cl_Book
  have na_Book_deals := T.na_Book_deals
  refine ⟨_, (pss_one (ps_asg (pe_op (show OpR _ (binaryOp .Add) (rAddU K) from op_addU) (pe_slice (show SlR _ (rSlT K) from sl_tup) (pe_ix (show IxR _ (rIx K) from ix_seq) (show PE _ _ (tFld K _ _) from pe_fld (pv 0) rfl) (pv 1) (fun _ _ => rfl)) po_none (po_some (pe_glob (v := .int 7) rfl T.g_STATE ⟨_, rfl⟩))) (pe_tup (pa_cons (pv 2) pa_nil))) (pg_sub (show PE _ _ (tFld K _ _) from pe_fld (pv 0) rfl) (pv 1) set_list))), ?_⟩
  refine x_start (σ0 := [some (.ref b), some (.int n), some (.str st)]) rfl ?_
  walk_at "x"
  refine x_cutT ha3 (by show ¬ (HT.sIx 8 0 none = 0 ∧ HT.sIx 8 8 (some 7) = 8); decide) fun p H1 fp e1 hp => ?_
  have hp' : H1 p = some (.tup (termV t.1)) := hp
  walk_at "x"
  rename_i o H2 fo e2 ho
  refine x_catT (e2.at hp') ho (by unfold termV; simp) (by simp) (by show 7 + 1 ≤ 100000; decide) fun p2 H3 fp2 e3 hp2 => ?_
  have hp3 : H3 p2 = some (.tup (dealV (t.1, st))) := hp2
  have hd3 := e3.at (e2.at (e1.at hd))
  have hb3 := e3.at (e2.at (e1.at hb))
  walk_at "x"
  refine x_setN hd3 (ixN_lt n0 (by omega)) fun H4 b4 h4 => ?_
  walk_at "x"
  refine k H4 ⟨⟨dx, b4.ins hb3⟩, _, h4, ?_⟩ (ButL.of hd (e1.trans (e2.trans e3)) b4)
  exact IsTs.set (f := dealV) (b4.tup hp3) _ (LBut.isTs b4 (hI.same (e1.trans (e2.trans e3))))
theorem ok_Book_close (T : Txt K mg) : FnOk P w K mg base (CXF P w) 2 T.d_Book_close.a T.d_Book_close.fd ["self"] (spClose T.c_Book) := by
  refine T.d_Book_close.F.okN sc_Book_close (fun vs H Q E h => ?_) (fun cdv A outer s H vs Q E hr h => ?_)
  · obtain ⟨b, d, m, w, y, ts, rfl, _⟩ := h; rfl
  obtain ⟨b, d, m, w, y, ts, rfl, hB, hl, k⟩ := h
  obtain ⟨⟨dx, hb⟩, xs, hd, hI⟩ := id hB
  have hxl := hI.length
  have cl_Book := T.cl_Book
  have na_Book_deals := T.na_Book_deals
  have na_Book_day := T.na_Book_day
  refine ⟨_, (pss_cons (ps_setC (i := 1) sc_Book_close.nd rfl rfl rfl (show PI _ _ _ (iEnum K _) from pi_enum rfl T.z_enumerate (pa_cons (show PE _ _ (tFld K _ _) from pe_fld (pv 0) rfl) pa_nil)) (compScope_of (Ni := ["number", "one", "self"]) (caps := [none, none, some 0]) (by rfl)) (fun S _ _ _ _ _ => (show PG _ _ (gTup K 2 _) from pg_tup (n := 2) rfl (pgs_cons (pg_nameC (gi := 0) S (Or.inl rfl) rfl) (pgs_cons (pg_nameC (gi := 1) S (Or.inl rfl) rfl) pgs_nil)))) (fun _ _ _ _ _ => (pf_one (PW.pt (pw_and (pt_cmpR (show OpR _ (compareOp .Eq) (rEqU K) from op_eqU hr.units) (pe_ix (show IxR _ (rIx K) from ix_seq) (pv 1) (pe_glob (v := .int 7) rfl T.g_STATE ⟨_, rfl⟩) (fun _ _ => rfl)) pe_str (nomark _)) (pw_and1 (pt_cmpR (show OpR _ (compareOp .Eq) (rEqU K) from op_eqU hr.units) (pe_ix (show IxR _ (rIx K) from ix_seq) (pv 1) (pe_glob (v := .int 5) rfl T.g_DAY ⟨_, rfl⟩) (fun _ _ => rfl)) (show PE _ _ (tFld K _ _) from pe_fld (pv 2) rfl) (nomark _))))))) (fun _ _ _ _ _ => (pv 0)))
 (pss_cons (ps_for PassesOwn.never rfl (show PI _ _ _ (iList K _) from pi_list (pv 1)) (pg_name (i := 2) sc_Book_close.nd rfl (Or.inl rfl))
  (pss_one (ps_expr (pe_meth (pv 0) T.cl_Book T.d_Book_put_state.mt (ok_Book_put_state T) (hr.mono (by decide)) T.d_Book_put_state.b .nil (passN nox_F) (pa_cons (pv 2) (pa_cons pe_str pa_nil))))))
 (pss_cons (show PS _ _ (sFldAug K _ _ _ _) from ps_fldaug (pv 0) pe_int in_add)
 (pss_one (ps_ret (pv 1)))))), ?_⟩
  refine x_start (σ0 := [some (.ref b), none, none]) rfl ?_
  walk_at "x"
  refine x_compS2 (src_enum (K := K) (a := d) (xs := xs)) (fun H' e => SqL.of (e.at hd)) rfl (fun i vs _ => vs = (numF (standP y) ts i).map V.int) (fun H' _ => rfl) ?_ ?_
  · rintro i x D vs o o' H2 H3 hi hD e2 hv hvl rfl e3 ⟨t, v, rfl, hx, htt⟩
    obtain ⟨a, u, rfl, hu, ha⟩ := (hI.same (e2.trans e3)).get hx
    have ht' : H3 t = some (.tup [.int (i : Int), .ref a]) := htt
    have ha3 : H3 a = some (.tup [.int u.1.p, .int u.1.q, .int u.1.w, .int u.1.u, .int u.1.a, .int u.1.y, .int u.1.r, .str u.2]) := ha
    have hb3 : H3 b = some (.ins T.c_Book dx (bfl m w y d)) := e3.at (e2.at hb)
    have es := numF_succ (P := standP y) hu
    walk_at "x"
    · rename_i h1 h2 H5 b5 h5
      rw [if_pos (by unfold standP; rw [decide_eq_true h1, decide_eq_true h2]; rfl)] at es
      refine ⟨⟨_, _, rfl⟩, by walk_at "h", _, h5, by rw [List.length_append]; exact Nat.succ_le_succ hvl, ?_⟩
      show _ = (numF (standP y) ts (i + 1)).map V.int
      rw [es, List.map_append]; rfl
    · rename_i h1 h2
      rw [if_neg (by unfold standP; rw [decide_eq_false h2]; simp), List.append_nil] at es
      refine ⟨⟨_, _, rfl⟩, by walk_at "h", _, by walk_at "h", by omega, ?_⟩
      show _ = (numF (standP y) ts (i + 1)).map V.int
      rw [es]
    · rename_i h1
      rw [if_neg (by unfold standP; rw [decide_eq_false h1]; simp), List.append_nil] at es
      refine ⟨⟨_, _, rfl⟩, by walk_at "h", _, by walk_at "h", by omega, ?_⟩
      show _ = (numF (standP y) ts (i + 1)).map V.int
      rw [es]
  rintro nu H1 vs fnu e1 hnu hvl rfl
  rw [hxl] at hnu
  have hnl := numF_len (P := standP y) (ts := ts) ts.length
  walk_at "x"
  have ndn : nu ≠ d := ne_new' fnu hd
  refine x_forL (xs := (numF (standP y) ts ts.length).map V.int) (fun i σ' H' => ∃ f2 : Option V, σ' = [some (.ref b), some (.ref nu), f2] ∧ Bk T.c_Book H' b d m w y (markL "settled" ts ((numF (standP y) ts ts.length).take i)) ∧ H' nu = some (.lst ((numF (standP y) ts ts.length).map V.int)) ∧ ∀ c o, c ≠ d → H1 c = some o → H' c = some o) ⟨_, rfl, by rw [List.take_zero, markL_nil]; exact hB.same e1, hnu, fun c o _ h => h⟩ ?_ ?_ ?_
  · rintro i σ' H' _ ⟨_, _, _, h, _⟩; exact SqL.of h
  · rintro i x σ' H' hx ⟨f2, rfl, hB', hnu', hK'⟩
    obtain ⟨n, hn, ex⟩ : ∃ n, (numF (standP y) ts ts.length)[i]? = some n ∧ x = .int n := by
      rw [List.getElem?_map] at hx
      cases h : (numF (standP y) ts ts.length)[i]? with
      | none => rw [h] at hx; cases hx
      | some n => rw [h] at hx; exact ⟨n, rfl, (Option.some.inj hx).symm⟩
    subst ex
    obtain ⟨j, t, hj, rfl, htj, hP⟩ := (mem_numF (Nat.le_refl _)).mp (List.mem_of_getElem? hn)
    obtain ⟨⟨dx', hb'⟩, _⟩ := id hB'
    walk_at "x"
    have hmj := markL_get (s := "settled") (S := (numF (standP y) ts ts.length).take i) htj
    refine ⟨b, d, m, w, y, _, "settled", _, _, rfl, hB', by omega, by rw [Int.toNat_natCast]; exact hmj, fun H2 hB2 g2 => ?_⟩
    rw [Int.toNat_natCast] at hB2
    have e1st : (if (j : Int) ∈ (numF (standP y) ts ts.length).take i then (t.1, ("settled" : Str)) else t).1 = t.1 := by split <;> rfl
    rw [e1st, markL_set htj, ← take_snoc hn] at hB2
    walk_at "x"
    exact ⟨_, rfl, hB2, g2.at hnu' ndn, fun c o n h => g2.at (hK' c o n h) n⟩
  · rintro σ' H' ⟨f2, rfl, hB', hnu', hK'⟩
    rw [List.length_map, List.take_length, mark_cls] at hB'
    obtain ⟨⟨dx', hb'⟩, xs', hd', hI'⟩ := id hB'
    walk_at "x"
    have nbd : d ≠ b := ne_of hd' hb' (by intro z; cases z)
    refine ⟨b, T.c_Book, dx', _, _, rfl, hb', cl_Book, na_Book_day, bfl_day, ?_⟩
    walk_at "x"
    refine ⟨y, 1, rfl, rfl, dx', _, hb', bfl_len _ _ _ _, ?_⟩
    rw [bfl_put]
    walk_at "x"
    refine k nu _ ⟨⟨dx', upd_same⟩, xs', by rw [upd_ne nbd]; exact hd', IsTs.keep (fun a ys z => by rw [upd_ne (ne_of z hb' (by intro q; cases q))]; exact z) hI'⟩ (fun c o n1 n2 h => ?_) ?_
    · rw [upd_ne n2]
      exact hK' c o n1 (e1 c o h)
    · rw [upd_ne (ne_of hnu' hb' (by intro z; cases z))]
      exact hnu'
theorem ok_Book_standing_deal (T : Txt K mg) : FnOk P w K mg base (CXF P w) 2 T.d_Book_standing_deal.a T.d_Book_standing_deal.fd ["self", "number"] (spStanding T.c_Book T.c_NoDeal T.c_Gone T.c_Settled) := by
  refine T.d_Book_standing_deal.F.okX sc_Book_standing_deal (fun vs H Q E h => ?_) (fun cdv A outer s H vs Q E hr h => ?_)
  · obtain ⟨b, d, m, w, y, n, ts, rfl, _⟩ := h; rfl
  obtain ⟨b, d, m, w, y, n, ts, rfl, hB, h⟩ := h
  obtain ⟨⟨dx, hb⟩, xs, hd, hI⟩ := id hB
  have hxl := hI.length
  refine ⟨_, (pss_cons (ps_set (i := 2) sc_Book_standing_deal.nd rfl (Or.inl rfl) (pe_meth (pv 0) T.cl_Book T.d_Book_deal.mt (ok_Book_deal T) (hr.mono (by decide)) T.d_Book_deal.b .nil pass_F (pa_cons (pv 1) pa_nil)))
 (pss_cons (ps_if (pt_cmpR (show OpR _ (compareOp .Eq) (rEqU K) from op_eqU hr.units) (pe_ix (show IxR _ (rIx K) from ix_seq) (pv 2) (pe_glob (v := .int 7) rfl T.g_STATE ⟨_, rfl⟩) (fun _ _ => rfl)) pe_str (nomark _))
  (pss_one (ps_raise rfl rfl T.m_Gone (errOk.own T.e_Gone) (pa_cons pe_str pa_nil) made_F))
  pss_nil)
 (pss_cons (ps_if (pt_cmpR (show OpR _ (compareOp .Eq) (rEqU K) from op_eqU hr.units) (pe_ix (show IxR _ (rIx K) from ix_seq) (pv 2) (pe_glob (v := .int 7) rfl T.g_STATE ⟨_, rfl⟩) (fun _ _ => rfl)) pe_str (nomark _))
  (pss_one (ps_raise rfl rfl T.m_Settled (errOk.own T.e_Settled) (pa_cons pe_str pa_nil) made_F))
  pss_nil)
 (pss_one (ps_ret (pv 2)))))), ?_⟩
  refine x_start (σ0 := [some (.ref b), some (.int n), none]) rfl ?_
  walk_at "x"
  rcases h with ⟨t, n0, ht, h1, h2, k⟩ | ⟨hn, k⟩ | ⟨t, n0, ht, h1, k⟩ | ⟨t, n0, ht, h2, k⟩
  · obtain ⟨x, hx1, hx2⟩ := hI.getI ht
    have hx3 : H x = some (.tup [.int t.1.p, .int t.1.q, .int t.1.w, .int t.1.u, .int t.1.a, .int t.1.y, .int t.1.r, .str t.2]) := hx2
    refine ⟨b, dx, d, m, w, y, n, xs, rfl, hb, hd, .inl ⟨n0, .ref x, hx1, ?_⟩⟩
    walk_at "x"
    all_goals first | exact k x hx2 | (exfalso; contradiction)
  · exact ⟨b, dx, d, m, w, y, n, xs, rfl, hb, hd, .inr ⟨by omega, k⟩⟩
  · obtain ⟨x, hx1, hx2⟩ := hI.getI ht
    have hx3 : H x = some (.tup [.int t.1.p, .int t.1.q, .int t.1.w, .int t.1.u, .int t.1.a, .int t.1.y, .int t.1.r, .str t.2]) := hx2
    refine ⟨b, dx, d, m, w, y, n, xs, rfl, hb, hd, .inl ⟨n0, .ref x, hx1, ?_⟩⟩
    walk_at "x"
    all_goals first | exact ⟨by decide, k⟩ | (exfalso; contradiction)
  · have h1 : ¬ t.2 = ("broken" : Str) := by rw [h2]; decide +kernel
    obtain ⟨x, hx1, hx2⟩ := hI.getI ht
    have hx3 : H x = some (.tup [.int t.1.p, .int t.1.q, .int t.1.w, .int t.1.u, .int t.1.a, .int t.1.y, .int t.1.r, .str t.2]) := hx2
    refine ⟨b, dx, d, m, w, y, n, xs, rfl, hb, hd, .inl ⟨n0, .ref x, hx1, ?_⟩⟩
    walk_at "x"
    all_goals first | exact ⟨by decide, k⟩ | (exfalso; contradiction)
theorem ok_Book_break_off (T : Txt K mg) : FnOk P w K mg base (CXF P w) 3 T.d_Book_break_off.a T.d_Book_break_off.fd ["self", "number"] (spBreakOffX T.c_Book T.c_NoDeal T.c_Gone T.c_Settled) := by
  refine T.d_Book_break_off.F.okX sc_Book_break_off (fun vs H Q E h => ?_) (fun cdv A outer s H vs Q E hr h => ?_)
  · obtain ⟨b, d, m, w, y, n, ts, rfl, _⟩ := h; rfl
  obtain ⟨b, d, m, w, y, n, ts, rfl, hB, h⟩ := h
  obtain ⟨⟨dx, hb⟩, xs, hd, hI⟩ := id hB
  refine ⟨_, (pss_cons (ps_expr (pe_meth (pv 0) T.cl_Book T.d_Book_standing_deal.mt (ok_Book_standing_deal T) (hr.mono (by decide)) T.d_Book_standing_deal.b .nil pass_F (pa_cons (pv 1) pa_nil)))
 (pss_one (ps_expr (pe_meth (pv 0) T.cl_Book T.d_Book_put_state.mt (ok_Book_put_state T) (hr.mono (by decide)) T.d_Book_put_state.b .nil (passN nox_F) (pa_cons (pv 1) (pa_cons pe_str pa_nil)))))), ?_⟩
  refine x_start (σ0 := [some (.ref b), some (.int n)]) rfl ?_
  walk_at "x"
  rcases h with ⟨t, n0, ht, h1, h2, k⟩ | ⟨hn, k⟩ | ⟨t, n0, ht, h1, k⟩ | ⟨t, n0, ht, h2, k⟩
  · refine ⟨b, d, m, w, y, n, ts, rfl, hB, .inl ⟨t, n0, ht, h1, h2, fun x hx => ?_⟩⟩
    walk_at "x"
    refine ⟨b, d, m, w, y, n, "broken", ts, t, rfl, hB, n0, ht, fun H1 hB1 g1 => ?_⟩
    walk_at "x"
    exact k H1 hB1 g1
  · exact ⟨b, d, m, w, y, n, ts, rfl, hB, .inr (.inl ⟨hn, k⟩)⟩
  · exact ⟨b, d, m, w, y, n, ts, rfl, hB, .inr (.inr (.inl ⟨t, n0, ht, h1, k⟩))⟩
  · exact ⟨b, d, m, w, y, n, ts, rfl, hB, .inr (.inr (.inr ⟨t, n0, ht, h2, k⟩))⟩
theorem ok_Book_break_all (T : Txt K mg) : FnOk P w K mg base (CXF P w) 2 T.d_Book_break_all.a T.d_Book_break_all.fd ["self", "member"] (spBreakAll T.c_Book) := by
  refine T.d_Book_break_all.F.okN sc_Book_break_all (fun vs H Q E h => ?_) (fun cdv A outer s H vs Q E hr h => ?_)
  · obtain ⟨b, d, m, w, y, i, ts, rfl, _⟩ := h; rfl
  obtain ⟨b, d, m, w, y, mb, ts, rfl, hB, hl, k⟩ := h
  obtain ⟨⟨dx, hb⟩, xs, hd, hI⟩ := id hB
  have hxl := hI.length
  have cl_Book := T.cl_Book
  have na_Book_deals := T.na_Book_deals
  refine ⟨_, (pss_cons (ps_setC (i := 2) sc_Book_break_all.nd rfl rfl rfl (show PI _ _ _ (iEnum K _) from pi_enum rfl T.z_enumerate (pa_cons (show PE _ _ (tFld K _ _) from pe_fld (pv 0) rfl) pa_nil)) (compScope_of (Ni := ["number", "one", "member"]) (caps := [none, none, some 1]) (by rfl)) (fun S _ _ _ _ _ => (show PG _ _ (gTup K 2 _) from pg_tup (n := 2) rfl (pgs_cons (pg_nameC (gi := 0) S (Or.inl rfl) rfl) (pgs_cons (pg_nameC (gi := 1) S (Or.inl rfl) rfl) pgs_nil)))) (fun _ _ _ _ _ => (pf_one (PW.pt (pw_and (pt_cmpR (show OpR _ (compareOp .Eq) (rEqU K) from op_eqU hr.units) (pe_ix (show IxR _ (rIx K) from ix_seq) (pv 1) (pe_glob (v := .int 7) rfl T.g_STATE ⟨_, rfl⟩) (fun _ _ => rfl)) pe_str (nomark _)) (pw_and1 (pt_cmpR (show OpR _ (compareOp .In) (rIn K false) from op_in_seq) (pv 2) (pe_tup (pa_cons (pe_ix (show IxR _ (rIx K) from ix_seq) (pv 1) (pe_glob (v := .int 0) rfl T.g_PAYER ⟨_, rfl⟩) (fun _ _ => rfl)) (pa_cons (pe_ix (show IxR _ (rIx K) from ix_seq) (pv 1) (pe_glob (v := .int 1) rfl T.g_PAYEE ⟨_, rfl⟩) (fun _ _ => rfl)) pa_nil))) (by with_unfolding_all rfl))))))) (fun _ _ _ _ _ => (pv 0)))
 (pss_cons (ps_for PassesOwn.never rfl (show PI _ _ _ (iList K _) from pi_list (pv 2)) (pg_name (i := 3) sc_Book_break_all.nd rfl (Or.inl rfl))
  (pss_one (ps_expr (pe_meth (pv 0) T.cl_Book T.d_Book_put_state.mt (ok_Book_put_state T) (hr.mono (by decide)) T.d_Book_put_state.b .nil (passN nox_F) (pa_cons (pv 3) (pa_cons pe_str pa_nil))))))
 (pss_one (ps_ret (pv 2))))), ?_⟩
  refine x_start (σ0 := [some (.ref b), some (.int mb), none, none]) rfl ?_
  walk_at "x"
  refine x_compS2 (src_enum (K := K) (a := d) (xs := xs)) (fun H' e => SqL.of (e.at hd)) rfl (fun i vs _ => vs = (numF (allP mb) ts i).map V.int) (fun H' _ => rfl) ?_ ?_
  · rintro i x D vs o o' H2 H3 hi hD e2 hv hvl rfl e3 ⟨t, v, rfl, hx, htt⟩
    obtain ⟨a, u, rfl, hu, ha⟩ := (hI.same (e2.trans e3)).get hx
    have ht' : H3 t = some (.tup [.int (i : Int), .ref a]) := htt
    have ha3 : H3 a = some (.tup [.int u.1.p, .int u.1.q, .int u.1.w, .int u.1.u, .int u.1.a, .int u.1.y, .int u.1.r, .str u.2]) := ha
    have hb3 : H3 b = some (.ins T.c_Book dx (bfl m w y d)) := e3.at (e2.at hb)
    have es := numF_succ (P := allP mb) hu
    walk_at "x"
    · rename_i h1
      refine x_tupN (by first | decide | simp) fun tp H4 ftp e4 htp => ?_
      refine x_inT2 htp ?_
      by_cases hm : mb ∈ [u.1.p, u.1.q]
      · rw [decide_eq_true hm]
        have hpq : u.1.p = mb ∨ u.1.q = mb := by
          rcases List.mem_cons.mp hm with z | z
          · exact .inl z.symm
          · exact .inr (List.mem_singleton.mp z).symm
        have hP : allP mb u = true := by
          unfold allP
          rw [Bool.and_eq_true, Bool.or_eq_true, decide_eq_true_iff, decide_eq_true_iff, decide_eq_true_iff]
          exact ⟨h1, hpq⟩
        rw [if_pos hP] at es
        walk_at "x"
        rename_i H5 b5 h5
        refine ⟨⟨_, _, rfl⟩, by walk_at "h", _, h5, by rw [List.length_append]; exact Nat.succ_le_succ hvl, ?_⟩
        show _ = (numF (allP mb) ts (i + 1)).map V.int
        rw [es, List.map_append]; rfl
      · rw [decide_eq_false hm]
        have hP : ¬ allP mb u = true := fun z => by
          unfold allP at z
          rw [Bool.and_eq_true, Bool.or_eq_true, decide_eq_true_iff, decide_eq_true_iff, decide_eq_true_iff] at z
          refine hm ?_
          rcases z.2 with q | q <;> simp [q]
        rw [if_neg hP, List.append_nil] at es
        walk_at "x"
        refine ⟨⟨_, _, rfl⟩, by walk_at "h", _, by walk_at "h", by omega, ?_⟩
        show _ = (numF (allP mb) ts (i + 1)).map V.int
        rw [es]
    · rename_i h1
      rw [if_neg (by unfold allP; rw [decide_eq_false h1]; simp), List.append_nil] at es
      refine ⟨⟨_, _, rfl⟩, by walk_at "h", _, by walk_at "h", by omega, ?_⟩
      show _ = (numF (allP mb) ts (i + 1)).map V.int
      rw [es]
  rintro nu H1 vs fnu e1 hnu hvl rfl
  rw [hxl] at hnu
  have hnl := numF_len (P := allP mb) (ts := ts) ts.length
  walk_at "x"
  have ndn : nu ≠ d := ne_new' fnu hd
  refine x_forL (xs := (numF (allP mb) ts ts.length).map V.int) (fun i σ' H' => ∃ f2 : Option V, σ' = [some (.ref b), some (.int mb), some (.ref nu), f2] ∧ Bk T.c_Book H' b d m w y (markL "broken" ts ((numF (allP mb) ts ts.length).take i)) ∧ H' nu = some (.lst ((numF (allP mb) ts ts.length).map V.int)) ∧ ∀ c o, c ≠ d → H1 c = some o → H' c = some o) ⟨_, rfl, by rw [List.take_zero, markL_nil]; exact hB.same e1, hnu, fun c o _ h => h⟩ ?_ ?_ ?_
  · rintro i σ' H' _ ⟨_, _, _, h, _⟩; exact SqL.of h
  · rintro i x σ' H' hx ⟨f2, rfl, hB', hnu', hK'⟩
    obtain ⟨n, hn, ex⟩ : ∃ n, (numF (allP mb) ts ts.length)[i]? = some n ∧ x = .int n := by
      rw [List.getElem?_map] at hx
      cases h : (numF (allP mb) ts ts.length)[i]? with
      | none => rw [h] at hx; cases hx
      | some n => rw [h] at hx; exact ⟨n, rfl, (Option.some.inj hx).symm⟩
    subst ex
    obtain ⟨j, t, hj, rfl, htj, hP⟩ := (mem_numF (Nat.le_refl _)).mp (List.mem_of_getElem? hn)
    obtain ⟨⟨dx', hb'⟩, _⟩ := id hB'
    walk_at "x"
    have hmj := markL_get (s := "broken") (S := (numF (allP mb) ts ts.length).take i) htj
    refine ⟨b, d, m, w, y, _, "broken", _, _, rfl, hB', by omega, by rw [Int.toNat_natCast]; exact hmj, fun H2 hB2 g2 => ?_⟩
    rw [Int.toNat_natCast] at hB2
    have e1st : (if (j : Int) ∈ (numF (allP mb) ts ts.length).take i then (t.1, ("broken" : Str)) else t).1 = t.1 := by split <;> rfl
    rw [e1st, markL_set htj, ← take_snoc hn] at hB2
    walk_at "x"
    exact ⟨_, rfl, hB2, g2.at hnu' ndn, fun c o n h => g2.at (hK' c o n h) n⟩
  · rintro σ' H' ⟨f2, rfl, hB', hnu', hK'⟩
    rw [List.length_map, List.take_length, mark_brk] at hB'
    obtain ⟨⟨dx', hb'⟩, xs', hd', hI'⟩ := id hB'
    walk_at "x"
    exact k nu H' fnu hB' (fun c o n h => hK' c o n (e1 c o h)) hnu'

theorem ok__law_cell (T : Txt K mg) : FnOk P w K mg base (CXF P w) 1 T.d__law_cell.a T.d__law_cell.fd ["_law_script", "_law_k"] (spCellB K) := by
  refine T.d__law_cell.F.okN sc__law_cell (fun vs H Q E h => ?_) (fun cdv A outer s H vs Q E hr h => ?_)
  · obtain ⟨a, ns, k, rfl, _⟩ := h; rfl
  obtain ⟨a, ns, k, rfl, hS, h0, q⟩ := h
  refine ⟨_, (pss_cons (ps_if (pt_cmpR (show OpR _ (compareOp .Eq) (rEqU K) from op_eqU hr.units) (pe_callB (show CallR _ _ (rLen K) from call_lenU) rfl T.z_len BT.len (pa_cons (pv 0) pa_nil)) pe_int (nomark _))
  (pss_one (ps_ret pe_int))
  pss_nil)
 (pss_one (ps_ret (pe_ix (show IxR _ (rIx K) from ix_seq) (pv 0) (pe_op op_modU (pv 1) (pe_callB (show CallR _ _ (rLen K) from call_lenU) rfl T.z_len BT.len (pa_cons (pv 0) pa_nil))) (fun _ _ => rfl))))), ?_⟩
  refine x_start (σ0 := [some (.ref a), some (.int k)]) rfl ?_
  have hml : (ns.map V.int).length = ns.length := List.length_map ..
  walk_at "x"
  · exact q _
  · rename_i h
    have hp : 0 < ((ns.map V.int).length : Int) := by omega
    have i0 := Int.emod_nonneg k (show ((ns.map V.int).length : Int) ≠ 0 by omega)
    have i1 := Int.emod_lt_of_pos k hp
    obtain ⟨x, hx⟩ := lt_some (show (k % ((ns.map V.int).length : Int)).toNat < ns.length by omega)
    refine x_ixL hS (atI_lt i0 (v := .int x) ?_) (q _)
    rw [List.getElem?_map, hx]; rfl
theorem ok__law_draw (T : Txt K mg) : FnOk P w K mg base (CXF P w) 2 T.d__law_draw.a T.d__law_draw.fd ["_law_script", "_law_k", "_law_many"] (spDrawB K) := by
  refine T.d__law_draw.F.okN sc__law_draw (fun vs H Q E h => ?_) (fun cdv A outer s H vs Q E hr h => ?_)
  · obtain ⟨a, ns, k, n, rfl, _⟩ := h; rfl
  obtain ⟨a, ns, k, n, rfl, hS, h0, h1, n0, q⟩ := h
  refine ⟨_, (pss_one (ps_ret (pe_op op_modU (pe_op op_modU (pe_op op_mulU (pe_op (show OpR _ (binaryOp .Add) (rAddU K) from op_addU) (pe_op (show OpR _ (binaryOp .Add) (rAddU K) from op_addU) (pe_op op_modU (pe_call (ok__law_cell T) (hr.mono (by decide)) rfl T.d__law_cell.m T.d__law_cell.F.kp T.d__law_cell.b .nil (passN nox_F) (pa_cons (pv 0) (pa_cons (pv 1) pa_nil))) pe_int) (pe_op op_mulU (pv 1) (pv 1))) pe_int) pe_int) pe_int) (pv 2)))), ?_⟩
  refine x_start (σ0 := [some (.ref a), some (.int k), some (.int n)]) rfl ?_
  have mk : CMulS k k := CMulS.of (sz200 (by omega) (by omega)) (sz200 (by omega) (by omega)) (by decide)
  have hkk : 0 ≤ k * k ∧ k * k ≤ 25000000 := ⟨Int.mul_nonneg h0 h0, Int.le_trans (Int.mul_le_mul h1 h1 h0 (by decide)) (by decide)⟩
  walk_at "x"
  exact q _ (Int.emod_nonneg _ (by omega)) (Int.emod_lt_of_pos _ (by omega))
theorem ok__law_great (T : Txt K mg) : FnOk P w K mg base (CXF P w) 2 T.d__law_great.a T.d__law_great.fd ["_law_script", "_law_k", "_law_many"] (spGreatB K) := by
  refine T.d__law_great.F.okN sc__law_great (fun vs H Q E h => ?_) (fun cdv A outer s H vs Q E hr h => ?_)
  · obtain ⟨a, ns, k, n, rfl, _⟩ := h; rfl
  obtain ⟨a, ns, k, n, rfl, hS, h0, h1, n0, n1, q⟩ := h
  refine ⟨_, (pss_one (ps_ret (pe_op op_modU (pe_op (show OpR _ (binaryOp .Add) (rAddU K) from op_addU) (pe_op (show OpR _ (binaryOp .Add) (rAddU K) from op_addU) (pe_op op_mulU (pe_op op_modU (pe_call (ok__law_cell T) (hr.mono (by decide)) rfl T.d__law_cell.m T.d__law_cell.F.kp T.d__law_cell.b .nil (passN nox_F) (pa_cons (pv 0) (pa_cons (pv 1) pa_nil))) (pv 2)) pe_int) (pe_op op_mulU (pe_op op_mulU (pv 1) (pv 1)) pe_int)) pe_int) (pv 2)))), ?_⟩
  refine x_start (σ0 := [some (.ref a), some (.int k), some (.int n)]) rfl ?_
  have mk : CMulS k k := CMulS.of (sz200 (by omega) (by omega)) (sz200 (by omega) (by omega)) (by decide)
  have hkk : 0 ≤ k * k ∧ k * k ≤ 25000000 := ⟨Int.mul_nonneg h0 h0, Int.le_trans (Int.mul_le_mul h1 h1 h0 (by decide)) (by decide)⟩
  have mk2 : CMulS (k * k) 40692 := CMulS.of (sz200 (by omega) (by omega)) (sz200 (by decide) (by decide)) (by decide)
  walk_at "x"
  rename_i x
  have x0 := Int.emod_nonneg x (show n ≠ 0 by omega)
  have x1 := Int.emod_lt_of_pos x (show (0 : Int) < n by omega)
  obtain ⟨v, ev⟩ : ∃ v, v = x % n := ⟨_, rfl⟩
  rw [← ev] at x0 x1 ⊢
  have mv : CMulS v 69621 := CMulS.of (sz200 (by omega) (by omega)) (sz200 (by decide) (by decide)) (by decide)
  walk_at "x"
  exact q _ (Int.emod_nonneg _ (by omega)) (Int.emod_lt_of_pos _ (by omega))
theorem ok__law_due (T : Txt K mg) : FnOk P w K mg base (CXF P w) 1 T.d__law_due.a T.d__law_due.fd ["_law_rows", "_law_number"] spDueB := by
  refine T.d__law_due.F.okN sc__law_due (fun vs H Q E h => ?_) (fun cdv A outer s H vs Q E hr h => ?_)
  · obtain ⟨ro, n, ts, as, rfl, _⟩ := h; rfl
  obtain ⟨ro, n, ts, as, rfl, hro, hR, h3, hn, k⟩ := h
  have hal := hR.2.1
  have haml : (as.map V.ref).length = as.length := List.length_map ..
  refine ⟨_, (pss_cons (ps_if (PW.pt (pw_or (pt_cmpR op_lt (pv 1) pe_int (nomark _)) (pw_or1 (pt_cmpR op_ge (pv 1) (pe_callB (show CallR _ _ (rLen K) from call_lenU) rfl T.z_len BT.len (pa_cons (pv 0) pa_nil)) (nomark _)))))
  (pss_one (ps_ret pe_str))
  pss_nil)
 (pss_one (ps_ret (pe_dget (Nat.lt_of_le_of_lt (Nat.add_le_add_left (by decide : (1 : Nat) ≤ 64) _) hr.units) (pe_disp (pps_cons pe_str pe_str (pps_cons pe_str pe_str (pps_cons pe_str pe_str pps_nil))) rfl rfl (by simp) (by decide)) (pe_ix (show IxR _ (rIx K) from ix_seq) (pe_ix (show IxR _ (rIx K) from ix_seq) (pv 0) (pv 1) (fun _ _ => rfl)) pe_int (fun _ _ => rfl)) (fun _ _ => rfl))))), ?_⟩
  refine x_start (σ0 := [some (.ref ro), some (.int n)]) rfl ?_
  by_cases hr' : 0 ≤ n ∧ n < ts.length
  case neg =>
    have hk : brK ts n = 1 := by unfold brK; rw [if_pos hr']
    rw [hk] at k
    walk_at "x"
    all_goals first | exact k _ (Same.refl _) | (exfalso; omega)
  have hnn := Classical.not_not.mpr hr'
  obtain ⟨t, ht⟩ := lt_some (show n.toNat < ts.length by omega)
  obtain ⟨c, hc⟩ := lt_some (show n.toNat < as.length by omega)
  have hg := getD_of ht
  have hrow : H c = some (.lst [.int t.1.p, .int t.1.q, .int t.1.w, .int t.1.u, .int t.1.a, .int t.1.y, .int t.1.r, .str t.2]) := hR.2.2 _ c t hc ht
  have hat : atI (as.map V.ref) n = some (.ref c) := atI_lt hr'.1 (by rw [List.getElem?_map, hc]; rfl)
  have hst := h3 t (List.mem_of_getElem? ht)
  obtain ⟨r0, r1⟩ := hr'
  walk_at "x"
  all_goals first | (exfalso; omega) | skip
  intro p fp
  refine ⟨upd_same, [(.inr "broken", .str "gone"), (.inr "settled", .str "settled"), (.inr "standing", .str "")], rfl, by decide, ?_⟩
  have hs : Same H (upd (upd H p (.dK [])) p (.dK (mergeK [] [(.inr "broken", .str "gone"), (.inr "settled", .str "settled"), (.inr "standing", .str "")]))) := fun e o q => by rw [upd_ne (ne_of_none q fp), upd_ne (ne_of_none q fp)]; exact q
  have hro' := hs.at hro
  have hrow' := hs.at hrow
  walk_at "x"
  rcases hst with h | h | h
  · have hk : brK ts n = 0 := by unfold brK; rw [if_neg hnn, hg, h, if_neg (by decide +kernel), if_neg (by decide +kernel)]
    rw [hk] at k
    exact ⟨p, .str "", rfl, .inl ⟨_, .inr t.2, .inl upd_same, rfl, by rw [h]; decide +kernel⟩, k _ hs⟩
  · have hk : brK ts n = 3 := by unfold brK; rw [if_neg hnn, hg, h, if_neg (by decide +kernel), if_pos rfl]
    rw [hk] at k
    exact ⟨p, .str "settled", rfl, .inl ⟨_, .inr t.2, .inl upd_same, rfl, by rw [h]; decide +kernel⟩, k _ hs⟩
  · have hk : brK ts n = 2 := by unfold brK; rw [if_neg hnn, hg, h, if_pos rfl]
    rw [hk] at k
    exact ⟨p, .str "gone", rfl, .inl ⟨_, .inr t.2, .inl upd_same, rfl, by rw [h]; decide +kernel⟩, k _ hs⟩

theorem ok__law_name (T : Txt K mg) : FnOkH P w K mg base 1 T.d__law_name.a T.d__law_name.fd ["_law_e"] (spNameB T.c_NoDeal T.c_Gone T.c_Settled) := by
  refine T.d__law_name.F.okH sc__law_name (fun vs H Q E h => ?_) (fun cdv A outer s H vs Q E hr h => ?_)
  · obtain ⟨er, C, n, rfl, _⟩ := h; rfl
  obtain ⟨er, C, n, rfl, he, hC, k⟩ := h
  have e_Closed := T.e_Closed
  have i_Closed_Closed := T.i_Closed_Closed
  have i_Closed_Gone := T.i_Closed_Gone
  have i_Closed_NoDeal := T.i_Closed_NoDeal
  have i_Closed_NoMember := T.i_Closed_NoMember
  have i_Closed_NoTerms := T.i_Closed_NoTerms
  have i_Closed_QuitsError := T.i_Closed_QuitsError
  have i_Closed_Settled := T.i_Closed_Settled
  have i_Closed_Standing := T.i_Closed_Standing
  have i_Closed_ValueError := T.i_Closed_ValueError
  have q_Closed_QuitsError := T.q_Closed_QuitsError
  have e_Gone := T.e_Gone
  have i_Gone_Closed := T.i_Gone_Closed
  have i_Gone_Gone := T.i_Gone_Gone
  have i_Gone_NoDeal := T.i_Gone_NoDeal
  have i_Gone_NoMember := T.i_Gone_NoMember
  have i_Gone_NoTerms := T.i_Gone_NoTerms
  have i_Gone_QuitsError := T.i_Gone_QuitsError
  have i_Gone_Settled := T.i_Gone_Settled
  have i_Gone_Standing := T.i_Gone_Standing
  have i_Gone_ValueError := T.i_Gone_ValueError
  have q_Gone_QuitsError := T.q_Gone_QuitsError
  have e_NoDeal := T.e_NoDeal
  have i_NoDeal_Closed := T.i_NoDeal_Closed
  have i_NoDeal_Gone := T.i_NoDeal_Gone
  have i_NoDeal_NoDeal := T.i_NoDeal_NoDeal
  have i_NoDeal_NoMember := T.i_NoDeal_NoMember
  have i_NoDeal_NoTerms := T.i_NoDeal_NoTerms
  have i_NoDeal_QuitsError := T.i_NoDeal_QuitsError
  have i_NoDeal_Settled := T.i_NoDeal_Settled
  have i_NoDeal_Standing := T.i_NoDeal_Standing
  have i_NoDeal_ValueError := T.i_NoDeal_ValueError
  have q_NoDeal_QuitsError := T.q_NoDeal_QuitsError
  have e_NoMember := T.e_NoMember
  have i_NoMember_Closed := T.i_NoMember_Closed
  have i_NoMember_Gone := T.i_NoMember_Gone
  have i_NoMember_NoDeal := T.i_NoMember_NoDeal
  have i_NoMember_NoMember := T.i_NoMember_NoMember
  have i_NoMember_NoTerms := T.i_NoMember_NoTerms
  have i_NoMember_QuitsError := T.i_NoMember_QuitsError
  have i_NoMember_Settled := T.i_NoMember_Settled
  have i_NoMember_Standing := T.i_NoMember_Standing
  have i_NoMember_ValueError := T.i_NoMember_ValueError
  have q_NoMember_QuitsError := T.q_NoMember_QuitsError
  have e_NoTerms := T.e_NoTerms
  have i_NoTerms_Closed := T.i_NoTerms_Closed
  have i_NoTerms_Gone := T.i_NoTerms_Gone
  have i_NoTerms_NoDeal := T.i_NoTerms_NoDeal
  have i_NoTerms_NoMember := T.i_NoTerms_NoMember
  have i_NoTerms_NoTerms := T.i_NoTerms_NoTerms
  have i_NoTerms_QuitsError := T.i_NoTerms_QuitsError
  have i_NoTerms_Settled := T.i_NoTerms_Settled
  have i_NoTerms_Standing := T.i_NoTerms_Standing
  have i_NoTerms_ValueError := T.i_NoTerms_ValueError
  have q_NoTerms_QuitsError := T.q_NoTerms_QuitsError
  have e_Settled := T.e_Settled
  have i_Settled_Closed := T.i_Settled_Closed
  have i_Settled_Gone := T.i_Settled_Gone
  have i_Settled_NoDeal := T.i_Settled_NoDeal
  have i_Settled_NoMember := T.i_Settled_NoMember
  have i_Settled_NoTerms := T.i_Settled_NoTerms
  have i_Settled_QuitsError := T.i_Settled_QuitsError
  have i_Settled_Settled := T.i_Settled_Settled
  have i_Settled_Standing := T.i_Settled_Standing
  have i_Settled_ValueError := T.i_Settled_ValueError
  have q_Settled_QuitsError := T.q_Settled_QuitsError
  have cl_Book := T.cl_Book
  have na_Book_day := T.na_Book_day
  have na_Book_deals := T.na_Book_deals
  have na_Book_many := T.na_Book_many
  have na_Book_wares := T.na_Book_wares
  refine ⟨_, (pss_cons (ps_set (i := 1) sc__law_name.nd rfl (Or.inl rfl) (pe_lst pa_nil))
 (pss_mid (ps_if (show PT _ _ (tTru K _) from pt_truthU (pe_callB (show CallR _ _ (rIsiU K) from call_isiU) rfl T.z_isinstance BT.isinstance (pa_cons (pv 0) (pa_cons (pe_glob (v := .ref T.c_NoDeal) rfl T.m_NoDeal rfl) pa_nil))) (fun _ => rfl))
  (pss_one (ps_expr (show PE _ _ (tBM K _ _ _ _) from pe_bm PySem.F.plainAttrs_list PySem.F.slot_list_append PySem.F.type_list_append mt_append (pv 1) (pa_cons pe_str pa_nil))))
  pss_nil)
 (pss_mid (ps_if (show PT _ _ (tTru K _) from pt_truthU (pe_callB (show CallR _ _ (rIsiU K) from call_isiU) rfl T.z_isinstance BT.isinstance (pa_cons (pv 0) (pa_cons (pe_glob (v := .ref T.c_Gone) rfl T.m_Gone rfl) pa_nil))) (fun _ => rfl))
  (pss_one (ps_expr (show PE _ _ (tBM K _ _ _ _) from pe_bm PySem.F.plainAttrs_list PySem.F.slot_list_append PySem.F.type_list_append mt_append (pv 1) (pa_cons pe_str pa_nil))))
  pss_nil)
 (pss_mid (ps_if (show PT _ _ (tTru K _) from pt_truthU (pe_callB (show CallR _ _ (rIsiU K) from call_isiU) rfl T.z_isinstance BT.isinstance (pa_cons (pv 0) (pa_cons (pe_glob (v := .ref T.c_Settled) rfl T.m_Settled rfl) pa_nil))) (fun _ => rfl))
  (pss_one (ps_expr (show PE _ _ (tBM K _ _ _ _) from pe_bm PySem.F.plainAttrs_list PySem.F.slot_list_append PySem.F.type_list_append mt_append (pv 1) (pa_cons pe_str pa_nil))))
  pss_nil)
 (pss_mid (ps_if (PW.pt (pw_or (show PT _ _ (tTru K _) from pt_truthU (pe_callB (show CallR _ _ (rIsiU K) from call_isiU) rfl T.z_isinstance BT.isinstance (pa_cons (pv 0) (pa_cons (pe_glob (v := .ref T.c_NoTerms) rfl T.m_NoTerms rfl) pa_nil))) (fun _ => rfl)) (pw_or (show PT _ _ (tTru K _) from pt_truthU (pe_callB (show CallR _ _ (rIsiU K) from call_isiU) rfl T.z_isinstance BT.isinstance (pa_cons (pv 0) (pa_cons (pe_glob (v := .ref T.c_Closed) rfl T.m_Closed rfl) pa_nil))) (fun _ => rfl)) (pw_or (show PT _ _ (tTru K _) from pt_truthU (pe_callB (show CallR _ _ (rIsiU K) from call_isiU) rfl T.z_isinstance BT.isinstance (pa_cons (pv 0) (pa_cons (pe_glob (v := .ref T.c_NoMember) rfl T.m_NoMember rfl) pa_nil))) (fun _ => rfl)) (pw_or1 (show PT _ _ (tTru K _) from pt_truthU (pe_callB (show CallR _ _ (rIsiU K) from call_isiU) rfl T.z_isinstance BT.isinstance (pa_cons (pv 0) (pa_cons (pe_glob (v := .ref T.c_Standing) rfl T.m_Standing rfl) pa_nil))) (fun _ => rfl)))))))
  (pss_one (ps_expr (show PE _ _ (tBM K _ _ _ _) from pe_bm PySem.F.plainAttrs_list PySem.F.slot_list_append PySem.F.type_list_append mt_append (pv 1) (pa_cons pe_str pa_nil))))
  pss_nil)
 (pss_cons (ps_if (PW.pt (pw_or (pt_cmpR (show OpR _ (compareOp .NotEq) (rNeU K) from op_neU hr.units) (pe_callB (show CallR _ _ (rLen K) from call_lenU) rfl T.z_len BT.len (pa_cons (pv 1) pa_nil)) pe_int (nomark _)) (pw_or1 (pt_not (show PT _ _ (tTru K _) from pt_truthU (pe_callB (show CallR _ _ (rIsiU K) from call_isiU) rfl T.z_isinstance BT.isinstance (pa_cons (pv 0) (pa_cons (pe_bltn (v := .ty "ValueError") rfl T.z_ValueError BT.ValueError rfl) pa_nil))) (fun _ => rfl))))))
  (pss_one (ps_ret pe_str))
  pss_nil)
 (pss_one (ps_ret (pe_ix (show IxR _ (rIx K) from ix_seq) (pv 1) pe_int (fun _ _ => rfl)))))))))), ?_⟩
  refine x_start (σ0 := [some (.ref er), none]) rfl ?_
  rcases hC with ⟨rfl, rfl⟩ | ⟨rfl, rfl⟩ | ⟨rfl, rfl⟩
  · walk_at "x"
    rename_i fo H1 ffo e1 hfo
    refine x_mid (fun σ' H' => σ' = [some (.ref er), some (.ref fo)] ∧ H' fo = some (.lst [V.str "deal"]) ∧ Same H H') ?_ ?_
    · walk_at "x"
      first | exact ⟨rfl, hfo, e1⟩ | (refine x_appN (by assumption) (by show 0 ≤ 100000; decide) fun Hn bn hn => ?_; walk_at "x"; exact ⟨rfl, hn, bn.same e1 ffo⟩)
    rintro σ' G0 ⟨rfl, hg0, eg0⟩
    have he0 := eg0.at he
    refine x_mid (fun σ' H' => σ' = [some (.ref er), some (.ref fo)] ∧ H' fo = some (.lst [V.str "deal"]) ∧ Same H H') ?_ ?_
    · walk_at "x"
      first | exact ⟨rfl, hg0, eg0⟩ | (refine x_appN (by assumption) (by show 0 ≤ 100000; decide) fun Hn bn hn => ?_; walk_at "x"; exact ⟨rfl, hn, bn.same eg0 ffo⟩)
    rintro σ' G1 ⟨rfl, hg1, eg1⟩
    have he1 := eg1.at he
    refine x_mid (fun σ' H' => σ' = [some (.ref er), some (.ref fo)] ∧ H' fo = some (.lst [V.str "deal"]) ∧ Same H H') ?_ ?_
    · walk_at "x"
      first | exact ⟨rfl, hg1, eg1⟩ | (refine x_appN (by assumption) (by show 0 ≤ 100000; decide) fun Hn bn hn => ?_; walk_at "x"; exact ⟨rfl, hn, bn.same eg1 ffo⟩)
    rintro σ' G2 ⟨rfl, hg2, eg2⟩
    have he2 := eg2.at he
    refine x_mid (fun σ' H' => σ' = [some (.ref er), some (.ref fo)] ∧ H' fo = some (.lst [V.str "deal"]) ∧ Same H H') ?_ ?_
    · walk_at "x"
      first | exact ⟨rfl, hg2, eg2⟩ | (refine x_appN (by assumption) (by show 0 ≤ 100000; decide) fun Hn bn hn => ?_; walk_at "x"; exact ⟨rfl, hn, bn.same eg2 ffo⟩)
    rintro σ' G3 ⟨rfl, hg3, eg3⟩
    have he3 := eg3.at he
    walk_at "x"
    all_goals first | (rename_i h; exact absurd rfl h) | exact k _ eg3
  · walk_at "x"
    rename_i fo H1 ffo e1 hfo
    refine x_mid (fun σ' H' => σ' = [some (.ref er), some (.ref fo)] ∧ H' fo = some (.lst []) ∧ Same H H') ?_ ?_
    · walk_at "x"
      first | exact ⟨rfl, hfo, e1⟩ | (refine x_appN (by assumption) (by show 0 ≤ 100000; decide) fun Hn bn hn => ?_; walk_at "x"; exact ⟨rfl, hn, bn.same e1 ffo⟩)
    rintro σ' G0 ⟨rfl, hg0, eg0⟩
    have he0 := eg0.at he
    refine x_mid (fun σ' H' => σ' = [some (.ref er), some (.ref fo)] ∧ H' fo = some (.lst [V.str "gone"]) ∧ Same H H') ?_ ?_
    · walk_at "x"
      first | exact ⟨rfl, hg0, eg0⟩ | (refine x_appN (by assumption) (by show 0 ≤ 100000; decide) fun Hn bn hn => ?_; walk_at "x"; exact ⟨rfl, hn, bn.same eg0 ffo⟩)
    rintro σ' G1 ⟨rfl, hg1, eg1⟩
    have he1 := eg1.at he
    refine x_mid (fun σ' H' => σ' = [some (.ref er), some (.ref fo)] ∧ H' fo = some (.lst [V.str "gone"]) ∧ Same H H') ?_ ?_
    · walk_at "x"
      first | exact ⟨rfl, hg1, eg1⟩ | (refine x_appN (by assumption) (by show 0 ≤ 100000; decide) fun Hn bn hn => ?_; walk_at "x"; exact ⟨rfl, hn, bn.same eg1 ffo⟩)
    rintro σ' G2 ⟨rfl, hg2, eg2⟩
    have he2 := eg2.at he
    refine x_mid (fun σ' H' => σ' = [some (.ref er), some (.ref fo)] ∧ H' fo = some (.lst [V.str "gone"]) ∧ Same H H') ?_ ?_
    · walk_at "x"
      first | exact ⟨rfl, hg2, eg2⟩ | (refine x_appN (by assumption) (by show 0 ≤ 100000; decide) fun Hn bn hn => ?_; walk_at "x"; exact ⟨rfl, hn, bn.same eg2 ffo⟩)
    rintro σ' G3 ⟨rfl, hg3, eg3⟩
    have he3 := eg3.at he
    walk_at "x"
    all_goals first | (rename_i h; exact absurd rfl h) | exact k _ eg3
  · walk_at "x"
    rename_i fo H1 ffo e1 hfo
    refine x_mid (fun σ' H' => σ' = [some (.ref er), some (.ref fo)] ∧ H' fo = some (.lst []) ∧ Same H H') ?_ ?_
    · walk_at "x"
      first | exact ⟨rfl, hfo, e1⟩ | (refine x_appN (by assumption) (by show 0 ≤ 100000; decide) fun Hn bn hn => ?_; walk_at "x"; exact ⟨rfl, hn, bn.same e1 ffo⟩)
    rintro σ' G0 ⟨rfl, hg0, eg0⟩
    have he0 := eg0.at he
    refine x_mid (fun σ' H' => σ' = [some (.ref er), some (.ref fo)] ∧ H' fo = some (.lst []) ∧ Same H H') ?_ ?_
    · walk_at "x"
      first | exact ⟨rfl, hg0, eg0⟩ | (refine x_appN (by assumption) (by show 0 ≤ 100000; decide) fun Hn bn hn => ?_; walk_at "x"; exact ⟨rfl, hn, bn.same eg0 ffo⟩)
    rintro σ' G1 ⟨rfl, hg1, eg1⟩
    have he1 := eg1.at he
    refine x_mid (fun σ' H' => σ' = [some (.ref er), some (.ref fo)] ∧ H' fo = some (.lst [V.str "settled"]) ∧ Same H H') ?_ ?_
    · walk_at "x"
      first | exact ⟨rfl, hg1, eg1⟩ | (refine x_appN (by assumption) (by show 0 ≤ 100000; decide) fun Hn bn hn => ?_; walk_at "x"; exact ⟨rfl, hn, bn.same eg1 ffo⟩)
    rintro σ' G2 ⟨rfl, hg2, eg2⟩
    have he2 := eg2.at he
    refine x_mid (fun σ' H' => σ' = [some (.ref er), some (.ref fo)] ∧ H' fo = some (.lst [V.str "settled"]) ∧ Same H H') ?_ ?_
    · walk_at "x"
      first | exact ⟨rfl, hg2, eg2⟩ | (refine x_appN (by assumption) (by show 0 ≤ 100000; decide) fun Hn bn hn => ?_; walk_at "x"; exact ⟨rfl, hn, bn.same eg2 ffo⟩)
    rintro σ' G3 ⟨rfl, hg3, eg3⟩
    have he3 := eg3.at he
    walk_at "x"
    all_goals first | (rename_i h; exact absurd rfl h) | exact k _ eg3
theorem ok__law_break (T : Txt K mg) : FnOk P w K mg base (CXF P w) 4 T.d__law_break.a T.d__law_break.fd ["_law_book", "_law_number"] (spBreakB T.c_Book) := by
  refine T.d__law_break.F.okN sc__law_break (fun vs H Q E h => ?_) (fun cdv A outer s H vs Q E hr h => ?_)
  · obtain ⟨b, d, m, w, y, n, ts, rfl, _⟩ := h; rfl
  obtain ⟨b, d, m, w, y, n, ts, rfl, hB, h⟩ := h
  obtain ⟨⟨dx, hb⟩, xs, hd, hI⟩ := id hB
  have e_Closed := T.e_Closed
  have i_Closed_Closed := T.i_Closed_Closed
  have i_Closed_Gone := T.i_Closed_Gone
  have i_Closed_NoDeal := T.i_Closed_NoDeal
  have i_Closed_NoMember := T.i_Closed_NoMember
  have i_Closed_NoTerms := T.i_Closed_NoTerms
  have i_Closed_QuitsError := T.i_Closed_QuitsError
  have i_Closed_Settled := T.i_Closed_Settled
  have i_Closed_Standing := T.i_Closed_Standing
  have i_Closed_ValueError := T.i_Closed_ValueError
  have q_Closed_QuitsError := T.q_Closed_QuitsError
  have e_Gone := T.e_Gone
  have i_Gone_Closed := T.i_Gone_Closed
  have i_Gone_Gone := T.i_Gone_Gone
  have i_Gone_NoDeal := T.i_Gone_NoDeal
  have i_Gone_NoMember := T.i_Gone_NoMember
  have i_Gone_NoTerms := T.i_Gone_NoTerms
  have i_Gone_QuitsError := T.i_Gone_QuitsError
  have i_Gone_Settled := T.i_Gone_Settled
  have i_Gone_Standing := T.i_Gone_Standing
  have i_Gone_ValueError := T.i_Gone_ValueError
  have q_Gone_QuitsError := T.q_Gone_QuitsError
  have e_NoDeal := T.e_NoDeal
  have i_NoDeal_Closed := T.i_NoDeal_Closed
  have i_NoDeal_Gone := T.i_NoDeal_Gone
  have i_NoDeal_NoDeal := T.i_NoDeal_NoDeal
  have i_NoDeal_NoMember := T.i_NoDeal_NoMember
  have i_NoDeal_NoTerms := T.i_NoDeal_NoTerms
  have i_NoDeal_QuitsError := T.i_NoDeal_QuitsError
  have i_NoDeal_Settled := T.i_NoDeal_Settled
  have i_NoDeal_Standing := T.i_NoDeal_Standing
  have i_NoDeal_ValueError := T.i_NoDeal_ValueError
  have q_NoDeal_QuitsError := T.q_NoDeal_QuitsError
  have e_NoMember := T.e_NoMember
  have i_NoMember_Closed := T.i_NoMember_Closed
  have i_NoMember_Gone := T.i_NoMember_Gone
  have i_NoMember_NoDeal := T.i_NoMember_NoDeal
  have i_NoMember_NoMember := T.i_NoMember_NoMember
  have i_NoMember_NoTerms := T.i_NoMember_NoTerms
  have i_NoMember_QuitsError := T.i_NoMember_QuitsError
  have i_NoMember_Settled := T.i_NoMember_Settled
  have i_NoMember_Standing := T.i_NoMember_Standing
  have i_NoMember_ValueError := T.i_NoMember_ValueError
  have q_NoMember_QuitsError := T.q_NoMember_QuitsError
  have e_NoTerms := T.e_NoTerms
  have i_NoTerms_Closed := T.i_NoTerms_Closed
  have i_NoTerms_Gone := T.i_NoTerms_Gone
  have i_NoTerms_NoDeal := T.i_NoTerms_NoDeal
  have i_NoTerms_NoMember := T.i_NoTerms_NoMember
  have i_NoTerms_NoTerms := T.i_NoTerms_NoTerms
  have i_NoTerms_QuitsError := T.i_NoTerms_QuitsError
  have i_NoTerms_Settled := T.i_NoTerms_Settled
  have i_NoTerms_Standing := T.i_NoTerms_Standing
  have i_NoTerms_ValueError := T.i_NoTerms_ValueError
  have q_NoTerms_QuitsError := T.q_NoTerms_QuitsError
  have e_Settled := T.e_Settled
  have i_Settled_Closed := T.i_Settled_Closed
  have i_Settled_Gone := T.i_Settled_Gone
  have i_Settled_NoDeal := T.i_Settled_NoDeal
  have i_Settled_NoMember := T.i_Settled_NoMember
  have i_Settled_NoTerms := T.i_Settled_NoTerms
  have i_Settled_QuitsError := T.i_Settled_QuitsError
  have i_Settled_Settled := T.i_Settled_Settled
  have i_Settled_Standing := T.i_Settled_Standing
  have i_Settled_ValueError := T.i_Settled_ValueError
  have q_Settled_QuitsError := T.q_Settled_QuitsError
  have cl_Book := T.cl_Book
  have na_Book_day := T.na_Book_day
  have na_Book_deals := T.na_Book_deals
  have na_Book_many := T.na_Book_many
  have na_Book_wares := T.na_Book_wares
  refine ⟨_, (pss_cons (ps_set (i := 2) sc__law_break.nd rfl (Or.inl rfl) (pe_tup (pa_cons pe_str (pa_cons pe_int pa_nil))))
 (pss_cons (show PS _ _ (tTryG K _ _ _ _) from ps_tryG (i := 3) ⟨rfl, rfl⟩ (ptrs_one (ptr_set (i := 2) sc__law_break.nd rfl (Or.inl rfl) (per_tup (par_cons pe_str (par_last (per_meth (pv 0) T.cl_Book T.d_Book_break_off.mt (ok_Book_break_off T) (hr.mono (j := 3) (by decide)) T.d_Book_break_off.b (pa_cons (pv 1) pa_nil))))))) rfl T.m_QuitsError sc__law_break.nd rfl rfl (fun _ => (pss_one (ps_set (i := 2) sc__law_break.nd rfl (Or.inl rfl) (pe_tup (pa_cons pe_str (pa_cons (show PE _ _ (tCall _ [] E0 _) from pe_callH (ok__law_name T) (Room.mark (hr.mono (j := 1) (by decide)) _) (by rfl) T.d__law_name.m T.d__law_name.F.kp T.d__law_name.b (pa_cons (pv 3) pa_nil)) pa_nil)))))))
 (pss_one (ps_ret (pv 2))))), ?_⟩
  refine x_start (σ0 := [some (.ref b), some (.int n), none, none]) rfl ?_
  walk_at "x"
  refine x_tupN (by first | decide | simp) fun t0' H1 ft0 e1 ht0 => ?_
  have hb1 := e1.at hb
  walk_at "x"
  refine ⟨b, d, m, w, y, n, ts, rfl, hB.same e1, ?_⟩
  rcases brK_cases ts n with ⟨hK, t, n0, ht, h1, h2⟩ | ⟨hK, hn⟩ | ⟨hK, t, n0, ht, h1⟩ | ⟨hK, t, n0, ht, h1⟩
  · rcases h with ⟨t', _, ht', _, k⟩ | ⟨h0, _⟩
    · obtain rfl : t' = t := Option.some.inj (ht'.symm.trans ht)
      refine .inl ⟨t', n0, ht, h1, h2, fun H2 hB2 g2 => ?_⟩
      walk_at "x"
      refine x_tupN (by first | decide | simp) fun p H3 fp e3 hp => ?_
      walk_at "x"
      have g02 : ButL d H H2 := ⟨fun c o nc q => g2.1 c o nc (e1 c o q), xs, hd⟩
      exact k p H3 (hB2.same e3) (g02.then e3) hp
    · exact absurd hK h0
  · rcases h with ⟨_, h0, _⟩ | ⟨h0, k⟩
    · omega
    rw [hK] at k
    refine .inr (.inl ⟨hn, ?_⟩)
    refine ⟨_, rfl, ?_⟩
    refine x_catch (by assumption) fun er H3 f3 e3 h3 => ?_
    walk_at "x"
    refine ⟨er, _, 1, rfl, h3, .inl ⟨rfl, rfl⟩, fun H4 e4 => ?_⟩
    walk_at "x"
    refine x_tupN (by first | decide | simp) fun p H5 fp e5 hp => ?_
    walk_at "x"
    exact k p H5 (e1.trans (e3.trans (e4.trans e5))) hp
  · rcases h with ⟨_, h0, _⟩ | ⟨h0, k⟩
    · omega
    rw [hK] at k
    refine .inr (.inr (.inl ⟨t, n0, ht, h1, ?_⟩))
    refine ⟨_, rfl, ?_⟩
    refine x_catch (by assumption) fun er H3 f3 e3 h3 => ?_
    walk_at "x"
    refine ⟨er, _, 2, rfl, h3, .inr (.inl ⟨rfl, rfl⟩), fun H4 e4 => ?_⟩
    walk_at "x"
    refine x_tupN (by first | decide | simp) fun p H5 fp e5 hp => ?_
    walk_at "x"
    exact k p H5 (e1.trans (e3.trans (e4.trans e5))) hp
  · rcases h with ⟨_, h0, _⟩ | ⟨h0, k⟩
    · omega
    rw [hK] at k
    refine .inr (.inr (.inr ⟨t, n0, ht, h1, ?_⟩))
    refine ⟨_, rfl, ?_⟩
    refine x_catch (by assumption) fun er H3 f3 e3 h3 => ?_
    walk_at "x"
    refine ⟨er, _, 3, rfl, h3, .inr (.inr ⟨rfl, rfl⟩), fun H4 e4 => ?_⟩
    walk_at "x"
    refine x_tupN (by first | decide | simp) fun p H5 fp e5 hp => ?_
    walk_at "x"
    exact k p H5 (e1.trans (e3.trans (e4.trans e5))) hp
theorem ok__law_stands (T : Txt K mg) : FnOk P w K mg base (CXF P w) 2 T.d__law_stands.a T.d__law_stands.fd ["_law_book", "_law_rows"] (spStandsS T.c_Book) := by
  refine T.d__law_stands.F.okN sc__law_stands (fun vs H Q E h => ?_) (fun cdv A outer s H vs Q E hr h => ?_)
  · obtain ⟨b, d, ro, m, w, y, ts, as, rfl, _⟩ := h; rfl
  obtain ⟨b, d, ro, m, w, y, ts, as, rfl, hB, hro, hR, h3, hn, k⟩ := h
  obtain ⟨⟨dx, hb⟩, xs, hd, hI⟩ := id hB
  have hxl := hI.length
  have hal := hR.2.1
  have haml : (as.map V.ref).length = as.length := List.length_map ..
  refine ⟨_, (pss_cons (ps_if (pt_cmpR (show OpR _ (compareOp .NotEq) (rNeU K) from op_neU hr.units) (pe_meth0 (pv 0) T.cl_Book T.d_Book_struck.mt (ok_Book_struck T) (hr.mono (by decide)) T.d_Book_struck.b .nil (passN nox_F)) (pe_callB (show CallR _ _ (rLen K) from call_lenU) rfl T.z_len BT.len (pa_cons (pv 1) pa_nil)) (nomark _))
  (pss_one (ps_ret pe_bl))
  pss_nil)
 (pss_cons (ps_for PassesOwn.never rfl (pi_range1 rfl T.z_range (pa_cons (pe_callB (show CallR _ _ (rLen K) from call_lenU) rfl T.z_len BT.len (pa_cons (pv 1) pa_nil)) pa_nil)) (pg_name (i := 2) sc__law_stands.nd rfl (Or.inl rfl))
  (pss_cons (ps_set (i := 3) sc__law_stands.nd rfl (Or.inl rfl) (pe_meth (pv 0) T.cl_Book T.d_Book_deal.mt (ok_Book_deal T) (hr.mono (by decide)) T.d_Book_deal.b .nil (passN nox_F) (pa_cons (pv 2) pa_nil)))
 (pss_one (ps_if (PW.pt (pw_or (pt_not (show PT _ _ (tTru K _) from pt_truthU (pe_callB (show CallR _ _ (rIsiU K) from call_isiU) rfl T.z_isinstance BT.isinstance (pa_cons (pv 3) (pa_cons (pe_bltn (v := .ty "tuple") rfl T.z_tuple BT.tuple rfl) pa_nil))) (fun _ => rfl))) (pw_or1 (pt_cmpR (show OpR _ (compareOp .NotEq) (rNeU K) from op_neU hr.units) (pv 3) (pe_callTy (show CallR _ _ (rTupleOf K) from call_tupleU) rfl T.z_tuple BT.tuple (pa_cons (pe_ix (show IxR _ (rIx K) from ix_seq) (pv 1) (pv 2) (fun _ _ => rfl)) pa_nil)) (nomark _)))))
  (pss_one (ps_ret pe_bl))
  pss_nil))))
 (pss_one (ps_ret pe_bl)))), ?_⟩
  refine x_start (σ0 := [some (.ref b), some (.ref ro), none, none]) rfl ?_
  walk_at "x"
  all_goals first | (exfalso; omega) | skip
  refine x_forR (fun i σ' H' => ∃ f4 f5 : Option V, σ' = [some (.ref b), some (.ref ro), f4, f5] ∧ Same H H') ⟨_, _, rfl, Same.refl _⟩ ?_ ?_
  · rintro i σ' H1 hi ⟨f4, f5, rfl, e1⟩
    have ei : ((0 : Int) + (i : Int)).toNat = i := by omega
    obtain ⟨a, ha⟩ := lt_some (show i < as.length by omega)
    obtain ⟨t, ht⟩ := lt_some (show i < ts.length by omega)
    obtain ⟨x, hx1, hx2⟩ := hI.getI ht
    have hro1 := e1.at hro
    have hb1 := e1.at hb
    have hd1 := e1.at hd
    have hx21 := e1.at hx2
    have hra := e1.at (hR.2.2 i a t ha ht)
    have hat : atI (as.map V.ref) ((0 : Int) + (i : Int)) = some (.ref a) := atI_lt (by omega) (by rw [ei, List.getElem?_map, ha]; rfl)
    walk_at "x"
    refine ⟨b, dx, d, m, w, y, _, xs, rfl, hb1, hd1, .inl ⟨by omega, .ref x, by rw [ei]; exact hx1, ?_⟩⟩
    walk_at "x"
    refine x_tupOfL hra fun p H2 fp e2 hp => ?_
    refine x_neDeal (e2.at hx21) hp (st_lay (h3 t (List.mem_of_getElem? ht))) ?_
    walk_at "x"
    exact ⟨_, _, rfl, e1.trans e2⟩
  · rintro σ' H1 ⟨f4, f5, rfl, e1⟩
    walk_at "x"
    exact k _ e1

theorem ok__law_set_up (T : Txt K mg) : FnOk P w K mg base (CXF P w) 3 T.d__law_set_up.a T.d__law_set_up.fd ["_law_script", "_law_book", "_law_many", "_law_wares"] (spSetUpB K T.c_Book) := by
  refine T.d__law_set_up.F.okN sc__law_set_up (fun vs H Q E h => ?_) (fun cdv A outer s H vs Q E hr h => ?_)
  · obtain ⟨H0, a, b, d, ns, m, w, rfl, _⟩ := h; rfl
  obtain ⟨H0, a, b, d, ns, m, w, rfl, hS0, e0, fd0, hB, m0, m1, w0, w1, k⟩ := h
  have hS := e0.seq hS0
  obtain ⟨⟨dx0, hb0⟩, xs0, hd0, hI0⟩ := id hB
  refine ⟨_, (pss_cons (ps_set (i := 4) sc__law_set_up.nd rfl (Or.inl rfl) (pe_lst pa_nil))
 (pss_cons (ps_for PassesOwn.never rfl (pi_range1 rfl T.z_range (pa_cons (pe_op (show OpR _ (binaryOp .Add) (rAddU K) from op_addU) pe_int (pe_call (ok__law_draw T) (hr.mono (by decide)) rfl T.d__law_draw.m T.d__law_draw.F.kp T.d__law_draw.b .nil (passN nox_F) (pa_cons (pv 0) (pa_cons pe_int (pa_cons pe_int pa_nil))))) pa_nil)) (pg_name (i := 5) sc__law_set_up.nd rfl (Or.inl rfl))
  (pss_cons (ps_set (i := 6) sc__law_set_up.nd rfl (Or.inl rfl) (pe_op (show OpR _ (binaryOp .Add) (rAddU K) from op_addU) pe_int (pe_op op_mulU pe_int (pv 5))))
 (pss_cons (ps_set (i := 7) sc__law_set_up.nd rfl (Or.inl rfl) (pe_call (ok__law_draw T) (hr.mono (by decide)) rfl T.d__law_draw.m T.d__law_draw.F.kp T.d__law_draw.b .nil (passN nox_F) (pa_cons (pv 0) (pa_cons (pv 6) (pa_cons (pv 2) pa_nil)))))
 (pss_cons (ps_set (i := 8) sc__law_set_up.nd rfl (Or.inl rfl) (pe_op op_modU (pe_op (show OpR _ (binaryOp .Add) (rAddU K) from op_addU) (pe_op (show OpR _ (binaryOp .Add) (rAddU K) from op_addU) (pv 7) pe_int) (pe_call (ok__law_draw T) (hr.mono (by decide)) rfl T.d__law_draw.m T.d__law_draw.F.kp T.d__law_draw.b .nil (passN nox_F) (pa_cons (pv 0) (pa_cons (pe_op (show OpR _ (binaryOp .Add) (rAddU K) from op_addU) (pv 6) pe_int) (pa_cons (pe_op op_sub (pv 2) pe_int) pa_nil))))) (pv 2)))
 (pss_cons (ps_set (i := 9) sc__law_set_up.nd rfl (Or.inl rfl) (pe_op (show OpR _ (binaryOp .Add) (rAddU K) from op_addU) pe_int (pe_call (ok__law_great T) (hr.mono (by decide)) rfl T.d__law_great.m T.d__law_great.F.kp T.d__law_great.b .nil (passN nox_F) (pa_cons (pv 0) (pa_cons (pe_op (show OpR _ (binaryOp .Add) (rAddU K) from op_addU) (pv 6) pe_int) (pa_cons (pe_op op_pow pe_int pe_int) pa_nil))))))
 (pss_cons (ps_set (i := 10) sc__law_set_up.nd rfl (Or.inl rfl) (pe_op (show OpR _ (binaryOp .Add) (rAddU K) from op_addU) pe_int (pe_call (ok__law_great T) (hr.mono (by decide)) rfl T.d__law_great.m T.d__law_great.F.kp T.d__law_great.b .nil (passN nox_F) (pa_cons (pv 0) (pa_cons (pe_op (show OpR _ (binaryOp .Add) (rAddU K) from op_addU) (pv 6) pe_int) (pa_cons (pe_op op_pow pe_int pe_int) pa_nil))))))
 (pss_cons (ps_set (i := 11) sc__law_set_up.nd rfl (Or.inl rfl) (pe_lst (pa_cons (pv 7) (pa_cons (pv 8) (pa_cons (pe_call (ok__law_draw T) (hr.mono (by decide)) rfl T.d__law_draw.m T.d__law_draw.F.kp T.d__law_draw.b .nil (passN nox_F) (pa_cons (pv 0) (pa_cons (pe_op (show OpR _ (binaryOp .Add) (rAddU K) from op_addU) (pv 6) pe_int) (pa_cons (pv 3) pa_nil)))) (pa_cons (pv 9) (pa_cons (pv 10) pa_nil)))))))
 (pss_cons (ps_set (i := 11) sc__law_set_up.nd rfl (Or.inl rfl) (pe_op (show OpR _ (binaryOp .Add) (rAddU K) from op_addU) (pv 11) (pe_lst (pa_cons (pe_call (ok__law_draw T) (hr.mono (by decide)) rfl T.d__law_draw.m T.d__law_draw.F.kp T.d__law_draw.b .nil (passN nox_F) (pa_cons (pv 0) (pa_cons (pe_op (show OpR _ (binaryOp .Add) (rAddU K) from op_addU) (pv 6) pe_int) (pa_cons pe_int pa_nil)))) (pa_cons (pe_call (ok__law_draw T) (hr.mono (by decide)) rfl T.d__law_draw.m T.d__law_draw.F.kp T.d__law_draw.b .nil (passN nox_F) (pa_cons (pv 0) (pa_cons (pe_op (show OpR _ (binaryOp .Add) (rAddU K) from op_addU) (pv 6) pe_int) (pa_cons pe_int pa_nil)))) (pa_cons pe_str pa_nil))))))
 (pss_cons (ps_expr (pe_meth (pv 1) T.cl_Book T.d_Book_strike.mt (ok_Book_strike T) (hr.mono (by decide)) T.d_Book_strike.b .nil (passN nox_F) (pa_cons (pe_ix (show IxR _ (rIx K) from ix_seq) (pv 11) pe_int (fun _ _ => rfl)) (pa_cons (pe_ix (show IxR _ (rIx K) from ix_seq) (pv 11) pe_int (fun _ _ => rfl)) (pa_cons (pe_ix (show IxR _ (rIx K) from ix_seq) (pv 11) pe_int (fun _ _ => rfl)) (pa_cons (pe_ix (show IxR _ (rIx K) from ix_seq) (pv 11) pe_int (fun _ _ => rfl)) (pa_cons (pe_ix (show IxR _ (rIx K) from ix_seq) (pv 11) pe_int (fun _ _ => rfl)) (pa_cons (pe_ix (show IxR _ (rIx K) from ix_seq) (pv 11) pe_int (fun _ _ => rfl)) (pa_cons (pe_ix (show IxR _ (rIx K) from ix_seq) (pv 11) pe_int (fun _ _ => rfl)) pa_nil)))))))))
 (pss_one (ps_expr (show PE _ _ (tBM K _ _ _ _) from pe_bm PySem.F.plainAttrs_list PySem.F.slot_list_append PySem.F.type_list_append mt_append (pv 4) (pa_cons (pv 11) pa_nil)))))))))))))
 (pss_one (ps_ret (pv 4))))), ?_⟩
  refine x_start (σ0 := [some (.ref a), some (.ref b), some (.int m), some (.int w), none, none, none, none, none, none, none, none]) rfl ?_
  walk_at "x"
  rename_i ro H1 fro e1 hro x x0 x1
  have ndro : d ≠ ro := ne_of_none hd0 fro
  refine x_forR (fun i σ' H' => ∃ (f5 f6 f7 f8 f9 f10 f11 : Option V) (ts : List (T7 × Str)) (as : List Addr), σ' = [some (.ref a), some (.ref b), some (.int m), some (.int w), some (.ref ro), f5, f6, f7, f8, f9, f10, f11] ∧ BQ T.c_Book H' b d ro m w 0 ts as ∧ ts.length = i ∧ (∀ c ∈ as, H c = none) ∧ (∀ c o, c ≠ d → H c = some o → H' c = some o)) ⟨_, _, _, _, _, _, _, [], [], rfl, ⟨hB.same e1, hro, ⟨List.nodup_nil, rfl, fun i c t z => nomatch z⟩, (fun t z => nomatch z), (fun t z => nomatch z)⟩, rfl, (fun c z => nomatch z), fun c o _ h => e1.at h⟩ ?_ ?_
  · rintro i σ' H2 hi ⟨f5, f6, f7, f8, f9, f10, f11, ts, as, rfl, hBQ, hlen, hfr, hK⟩
    have hi' : (i : Int) ≤ 11 := by omega
    have e02 : Same H0 H2 := fun c o q => hK c o (ne_of_none q fd0) (e0 c o q)
    have hS2 : SqL K H2 a (ns.map V.int) := e02.seq hS0
    have hS0' := hS0
    clear hS
    obtain ⟨hB2, hro2, hR2, h32, hG2⟩ := id hBQ
    obtain ⟨⟨dx, hb⟩, xs, hd, hI⟩ := id hB2
    have hxl := hI.length
    have hal := hR2.2.1
    have nda : d ∉ as := hR2.neRef hd hI.refs
    have nra : ro ∉ as := hR2.neRef hro2 (map_refs as)
    walk_at "x"
    rename_i p p0 p1 q q0 q1 u u0 u1 v v0 v1 wr wr0 wr1 l1 H3 fl1 e3 hl1 dd dd0 dd1 rk rk0 rk1 l2 H4 fl2 e4 hl2
    obtain ⟨py0, py1, pyn⟩ := payeeB p0 p1 q0 q1
    generalize (p + 1 + q) % m = pe at *
    refine x_catN (e4.at hl1) hl2 (by show 5 + 3 ≤ 100000; decide) fun rw' H5 frw e5 hrw => ?_
    have hrw' : H5 rw' = some (.lst [.int p, .int pe, .int wr, .int (1 + u), .int (1 + v), .int dd, .int rk, .str "standing"]) := hrw
    have hT : TermOk m w 0 ⟨p, pe, wr, 1 + u, 1 + v, dd, rk⟩ := ⟨p0, p1, py0, py1, pyn, wr0, wr1, by show 1 ≤ 1 + u; omega, by show 1 + u ≤ 1000000; omega, by show 1 ≤ 1 + v; omega, by show 1 + v ≤ 1000000000; omega, dd0, by show dd ≤ 1000000; omega, rk0, by show rk ≤ 2; omega, dd0⟩
    have e24 : Same H2 H4 := e3.trans e4
    have e25 : Same H2 H5 := e24.trans e5
    have hb5 := e25.at hb
    have hd5 := e25.at hd
    have hro5 := e25.at hro2
    have hB5 := hB2.same e25
    have hR5 := hR2.same e25
    have nrd : rw' ≠ d := ne_new' frw (e24.at hd)
    have nrr : rw' ≠ ro := ne_new' frw (e24.at hro2)
    have nrw : rw' ∉ as := (hR2.same e24).fresh frw
    have frH : H rw' = none := by
      cases hq : H rw' with
      | none => rfl
      | some o =>
        have := e24.at (hK rw' o nrd hq)
        rw [frw] at this; cases this
    have haml : (as.map V.ref).length = as.length := List.length_map ..
    have hK5 : ∀ c o, c ≠ d → H c = some o → H5 c = some o := fun c o n h => e25.at (hK c o n h)
    clear e24 e25 e3 e4 e5 e02 hK
    walk_at "x"
    refine ⟨b, dx, d, m, w, 0, ⟨p, pe, wr, 1 + u, 1 + v, dd, rk⟩, xs, rfl, hb5, hd5, by omega, .inl ⟨dueK_of hT, fun a1 H6 H7 e6 ha1 g7 h7 => ?_⟩⟩
    have hB7 := hB5.app hd5 e6 ha1 g7 h7
    have hro7 : H7 ro = some (.lst (as.map V.ref)) := g7.lst (e6.at hro5) ndro.symm
    have hrw7 := g7.lst (e6.at hrw') nrd
    have hR7 : DRows H7 as ts := hR5.keep fun c o hc h => g7.lst (e6.at h) fun z => nda (z ▸ hc)
    have hK7 : ∀ c o, c ≠ d → H c = some o → H7 c = some o := fun c o n h => g7.lst (e6.at (hK5 c o n h)) n
    clear e6 g7
    walk_at "x"
    rename_i H8 b8 h8
    have hK8 : ∀ c o, c ≠ d → H c = some o → H8 c = some o := fun c o n h => b8.lst (hK7 c o n h) (ne_of_none h fro)
    have e08 : Same H0 H8 := fun c o z => hK8 c o (ne_of_none z fd0) (e0 c o z)
    have hBQ8 : BQ T.c_Book H8 b d ro m w 0 (ts ++ [(⟨p, pe, wr, 1 + u, 1 + v, dd, rk⟩, ("standing" : Str))]) (as ++ [rw']) := ⟨hB7.but b8 ndro, by rw [List.map_append]; exact h8, DRows.app (hR7.keep fun c o hc h => b8.lst h fun z => nra (z ▸ hc)) nrw (b8.lst hrw7 nrr), st3_app h32, good7_app hG2 hT⟩
    have hS8 := e08.seq hS0'
    have hfr' : ∀ c ∈ as ++ [rw'], H c = none := fun c hc => by
      rcases List.mem_append.mp hc with z | z
      · exact hfr c z
      · rw [List.mem_singleton.mp z]; exact frH
    exact ⟨_, _, _, _, _, _, _, _, as ++ [rw'], rfl, hBQ8, by rw [List.length_append]; show ts.length + 1 = i + 1; omega, hfr', hK8⟩
  · rintro σ' H2 ⟨f5, f6, f7, f8, f9, f10, f11, ts, as, rfl, hBQ, hlen, hfr, hK⟩
    walk_at "x"
    exact k ro H2 ts as fro hfr ndro hBQ (by omega) hK
theorem ok__law_closed (T : Txt K mg) : FnOk P w K mg base (CXF P w) 3 T.d__law_closed.a T.d__law_closed.fd ["_law_book", "_law_rows", "_law_today"] (spClosedB T.c_Book) := by
  refine T.d__law_closed.F.okN sc__law_closed (fun vs H Q E h => ?_) (fun cdv A outer s H vs Q E hr h => ?_)
  · obtain ⟨b, d, ro, m, w, y, ts, as, rfl, _⟩ := h; rfl
  obtain ⟨b, d, ro, m, w, y, ts, as, rfl, ⟨hB, hro, hR, h3, hG⟩, ndro, hn, k⟩ := h
  have hal := hR.2.1
  obtain ⟨⟨dx, hb⟩, xs, hd, hI⟩ := id hB
  have nda : d ∉ as := hR.neRef hd hI.refs
  have nra : ro ∉ as := hR.neRef hro (map_refs as)
  refine ⟨_, (pss_cons (ps_expr (pe_meth0 (pv 0) T.cl_Book T.d_Book_close.mt (ok_Book_close T) (hr.mono (by decide)) T.d_Book_close.b .nil (passN nox_F)))
 (pss_one (ps_for PassesOwn.never rfl (show PI _ _ _ (iList K _) from pi_list (pv 1)) (pg_name (i := 3) sc__law_closed.nd rfl (Or.inl rfl))
  (pss_one (ps_if (PW.pt (pw_and (pt_cmpR (show OpR _ (compareOp .Eq) (rEqU K) from op_eqU hr.units) (pe_ix (show IxR _ (rIx K) from ix_seq) (pv 3) pe_int (fun _ _ => rfl)) (pv 2) (nomark _)) (pw_and1 (pt_cmpR (show OpR _ (compareOp .Eq) (rEqU K) from op_eqU hr.units) (pe_ix (show IxR _ (rIx K) from ix_seq) (pv 3) pe_int (fun _ _ => rfl)) pe_str (nomark _)))))
  (pss_one (ps_asg pe_str (pg_sub (pv 3) pe_int set_list)))
  pss_nil))))), ?_⟩
  refine x_start (σ0 := [some (.ref b), some (.ref ro), some (.int y), none]) rfl ?_
  walk_at "x"
  refine ⟨b, d, m, w, y, ts, rfl, hB, hn, fun p H1 hB1 hK1 hp => ?_⟩
  have nrb : ro ≠ b := ne_of hro hb (by intro z; cases z)
  have hro1 : H1 ro = some (.lst (as.map V.ref)) := hK1 _ _ ndro.symm nrb hro
  have hR1 : DRows H1 as ts := hR.keep fun a o ha h => hK1 a o (fun z => nda (z ▸ ha)) (fun z => by
    obtain ⟨_, t, _, _, e⟩ := hR.mem ha
    rw [z, hb] at e; cases e) h
  walk_at "x"
  refine x_forL (xs := as.map V.ref) (fun i σ' H' => ∃ f3 : Option V, σ' = [some (.ref b), some (.ref ro), some (.int y), f3] ∧ Bk T.c_Book H' b d m w (y + 1) (ts.map (clsF y)) ∧ H' ro = some (.lst (as.map V.ref)) ∧ DRows H' as ((ts.take i).map (clsF y) ++ ts.drop i) ∧ ∀ c o, c ≠ d → c ≠ b → c ∉ as → H c = some o → H' c = some o) ⟨_, rfl, hB1, hro1, by rw [List.take_zero, List.map_nil, List.nil_append, List.drop_zero]; exact hR1, fun c o n1 n2 _ h => hK1 c o n1 n2 h⟩ ?_ ?_ ?_
  · rintro i σ' H' _ ⟨_, _, _, h, _⟩; exact SqL.of h
  · rintro i x σ' H' hx ⟨f3, rfl, hB', hro', hR', hK'⟩
    have hi : i < as.length := by have := (List.getElem?_eq_some_iff.mp hx).1; rwa [List.length_map] at this
    obtain ⟨a, ha⟩ := lt_some hi
    obtain ⟨t, ht⟩ := lt_some (show i < ts.length by omega)
    have ex : x = .ref a := by rw [List.getElem?_map, ha] at hx; exact (Option.some.inj hx).symm
    subst ex
    have ham := List.mem_of_getElem? ha
    have hcur : ((ts.take i).map (clsF y) ++ ts.drop i)[i]? = some t := by
      rw [List.getElem?_append_right (by rw [List.length_map, List.length_take]; omega), List.length_map, List.length_take, List.getElem?_drop, show i + (i - min i ts.length) = i by omega]
      exact ht
    have hrow : H' a = some (.lst [.int t.1.p, .int t.1.q, .int t.1.w, .int t.1.u, .int t.1.a, .int t.1.y, .int t.1.r, .str t.2]) := hR'.2.2 i a t ha hcur
    have hnext : ((ts.take i).map (clsF y) ++ ts.drop i).set i (clsF y t) = (ts.take (i + 1)).map (clsF y) ++ ts.drop (i + 1) := by
      rw [List.set_append_right _ _ (by rw [List.length_map, List.length_take]; omega), List.length_map, List.length_take, show i - min i ts.length = 0 by omega, List.drop_eq_getElem_cons (show i < ts.length by omega), List.set_cons_zero, take_snoc ht, List.map_append, List.map_singleton, List.append_assoc]
      rfl
    have hself : ((ts.take i).map (clsF y) ++ ts.drop i).set i t = (ts.take i).map (clsF y) ++ ts.drop i := by
      refine ext_get (by rw [List.length_set]) fun j u v hu hv => ?_
      by_cases e : j = i
      · subst e
        rw [List.getElem?_set_self (List.getElem?_eq_some_iff.mp hcur).1] at hu
        rw [hcur] at hv
        exact (Option.some.inj hu).symm.trans (Option.some.inj hv)
      · rw [List.getElem?_set_ne (fun z => e z.symm), hv] at hu
        exact (Option.some.inj hu).symm
    walk_at "x"
    · rename_i hy hs
      refine x_setN hrow (show ixN 8 7 = some 7 from rfl) fun H2 b2 h2' => ?_
      have hset : clsF y t = (t.1, ("settled" : Str)) := if_pos (by unfold standP; rw [decide_eq_true hs, decide_eq_true hy]; rfl)
      have hR2 := hR'.set ha b2 (t := clsF y t) (by rw [hset]; exact h2')
      rw [hnext] at hR2
      walk_at "x"
      exact ⟨_, rfl, hB'.but b2 (fun z => nda (z ▸ ham)), b2.lst hro' (fun z => nra (z ▸ ham)), hR2, fun c o n1 n2 n3 h => b2.lst (hK' c o n1 n2 n3 h) fun z => n3 (z ▸ ham)⟩
    · rename_i hy hs
      have hset : clsF y t = t := if_neg (by unfold standP; rw [decide_eq_false hs]; simp)
      rw [hset, hself] at hnext
      exact ⟨_, rfl, hB', hro', by rw [← hnext]; exact hR', hK'⟩
    · rename_i hy
      have hset : clsF y t = t := if_neg (by unfold standP; rw [decide_eq_false hy]; simp)
      rw [hset, hself] at hnext
      exact ⟨_, rfl, hB', hro', by rw [← hnext]; exact hR', hK'⟩
  · rintro σ' H' ⟨f3, rfl, hB', hro', hR', hK'⟩
    rw [List.length_map, hal, List.take_length, List.drop_length, List.append_nil] at hR'
    walk_at "x"
    exact k H' ⟨hB', hro', hR', st3_cls h3, good7_cls hG⟩ hK'

theorem ok__law_one (T : Txt K mg) : FnOk P w K mg base (CXF P w) 5 T.d__law_one.a T.d__law_one.fd ["_law_script", "_law_at", "_law_book", "_law_rows"] (spOneB K T.c_Book) := by
  refine T.d__law_one.F.okN sc__law_one (fun vs H Q E h => ?_) (fun cdv A outer s H vs Q E hr h => ?_)
  · obtain ⟨a, b, d, ro, ns, kk, m, w, y, ts, as, rfl, _⟩ := h; rfl
  obtain ⟨a, b, d, ro, ns, kk, m, w, y, ts, as, rfl, hS, k0, k1, hBQ, ndro, hn, k⟩ := h
  obtain ⟨hB, hro, hR, h3, hG⟩ := id hBQ
  obtain ⟨⟨dx, hb⟩, xs, hd, hI⟩ := id hB
  have hal := hR.2.1
  have haml : (as.map V.ref).length = as.length := List.length_map ..
  have nda : d ∉ as := hR.neRef hd hI.refs
  have nra : ro ∉ as := hR.neRef hro (map_refs as)
  refine ⟨_, (pss_cons (ps_set (i := 4) sc__law_one.nd rfl (Or.inl rfl) (pe_op op_sub (pe_call (ok__law_draw T) (hr.mono (by decide)) rfl T.d__law_draw.m T.d__law_draw.F.kp T.d__law_draw.b .nil (passN nox_F) (pa_cons (pv 0) (pa_cons (pe_op (show OpR _ (binaryOp .Add) (rAddU K) from op_addU) (pv 1) pe_int) (pa_cons (pe_op (show OpR _ (binaryOp .Add) (rAddU K) from op_addU) (pe_callB (show CallR _ _ (rLen K) from call_lenU) rfl T.z_len BT.len (pa_cons (pv 3) pa_nil)) pe_int) pa_nil)))) pe_int))
 (pss_mid (ps_if (pt_cmpR (show OpR _ (compareOp .Eq) (rEqU K) from op_eqU hr.units) (pe_call (ok__law_draw T) (hr.mono (by decide)) rfl T.d__law_draw.m T.d__law_draw.F.kp T.d__law_draw.b .nil (passN nox_F) (pa_cons (pv 0) (pa_cons (pe_op (show OpR _ (binaryOp .Add) (rAddU K) from op_addU) (pv 1) pe_int) (pa_cons pe_int pa_nil)))) pe_int (nomark _))
  (pss_one (ps_set (i := 4) sc__law_one.nd rfl (Or.inl rfl) (pe_op op_mulU (pe_op op_sub (pe_op op_mulU (pe_op op_modU (pv 4) pe_int) pe_int) pe_int) (pe_op (show OpR _ (binaryOp .Add) (rAddU K) from op_addU) (pe_callB (show CallR _ _ (rLen K) from call_lenU) rfl T.z_len BT.len (pa_cons (pv 3) pa_nil)) (pe_call (ok__law_great T) (hr.mono (by decide)) rfl T.d__law_great.m T.d__law_great.F.kp T.d__law_great.b .nil (passN nox_F) (pa_cons (pv 0) (pa_cons (pe_op (show OpR _ (binaryOp .Add) (rAddU K) from op_addU) (pv 1) pe_int) (pa_cons (pe_op op_pow pe_int pe_int) pa_nil))))))))
  pss_nil)
 (pss_cons (ps_set (i := 5) sc__law_one.nd rfl (Or.inl rfl) (pe_call (ok__law_due T) (hr.mono (by decide)) rfl T.d__law_due.m T.d__law_due.F.kp T.d__law_due.b .nil (passN nox_F) (pa_cons (pv 3) (pa_cons (pv 4) pa_nil))))
 (pss_cons (ps_set (i := 6) sc__law_one.nd rfl (Or.inl rfl) (pe_call (ok__law_break T) (hr.mono (by decide)) rfl T.d__law_break.m T.d__law_break.F.kp T.d__law_break.b .nil (passN nox_F) (pa_cons (pv 2) (pa_cons (pv 4) pa_nil))))
 (pss_cons (ps_if (pt_cmpR (show OpR _ (compareOp .NotEq) (rNeU K) from op_neU hr.units) (pv 5) pe_str (nomark _))
  (pss_one (ps_ret (pe_cmpR (show OpR _ (compareOp .Eq) (rEqU K) from op_eqU hr.units) (pv 6) (pe_tup (pa_cons pe_str (pa_cons (pv 5) pa_nil))) (nomark _))))
  pss_nil)
 (pss_cons (ps_asg pe_str (pg_sub (pe_ix (show IxR _ (rIx K) from ix_seq) (pv 3) (pv 4) (fun _ _ => rfl)) pe_int set_list))
 (pss_one (ps_ret (pe_and (pe_cmpR (show OpR _ (compareOp .Eq) (rEqU K) from op_eqU hr.units) (pe_ix (show IxR _ (rIx K) from ix_seq) (pv 6) pe_int (fun _ _ => rfl)) pe_str (nomark _)) (pe_one (pe_cmpR op_isN (pe_ix (show IxR _ (rIx K) from ix_seq) (pv 6) pe_int (fun _ _ => rfl)) pe_non (nomark _)))))))))))), ?_⟩
  refine x_start (σ0 := [some (.ref a), some (.int kk), some (.ref b), some (.ref ro), none, none, none]) rfl ?_
  walk_at "x"
  refine x_midS 4 (fun v H' => ∃ zz : Int, v = .int zz ∧ Same H H') ?_ ?_
  · walk_at "x"
    all_goals exact ⟨_, rfl, _, rfl, Same.refl _⟩
  rintro v H1 ⟨zz, rfl, e1⟩
  walk_at "x"
  refine ⟨ro, zz, ts, as, rfl, e1.at hro, hR.same e1, h3, by omega, fun H2 e2 => ?_⟩
  have e02 : Same H H2 := e1.trans e2
  have hBQ2 := hBQ.same e02
  obtain ⟨hB2, hro2, hR2, _, _⟩ := id hBQ2
  clear e1 e2
  walk_at "x"
  refine ⟨b, d, m, w, y, zz, ts, rfl, hB2, ?_⟩
  have hle := brK_le ts zz
  have hwn := wordC_ne (Nat.le_trans hle (show 3 ≤ 5 by decide))
  by_cases hc0 : brK ts zz = 0
  · have hw := hwn.mpr hc0
    have hrg : 0 ≤ zz ∧ zz < ts.length := by
      refine Classical.byContradiction fun q => ?_
      have : brK ts zz = 1 := by unfold brK; rw [if_pos q]
      omega
    obtain ⟨t, ht⟩ := lt_some (show zz.toNat < ts.length by omega)
    obtain ⟨c, hc⟩ := lt_some (show zz.toNat < as.length by omega)
    have hcm := List.mem_of_getElem? hc
    have ncd : d ≠ c := fun z => nda (z ▸ hcm)
    have ncr : ro ≠ c := fun z => nra (z ▸ hcm)
    have hrow : H2 c = some (.lst [.int t.1.p, .int t.1.q, .int t.1.w, .int t.1.u, .int t.1.a, .int t.1.y, .int t.1.r, .str t.2]) := hR2.2.2 _ c t hc ht
    have hat : atI (as.map V.ref) zz = some (.ref c) := atI_lt hrg.1 (by rw [List.getElem?_map, hc]; rfl)
    refine .inl ⟨t, hc0, ht, hrg.1, fun p H3 hB3 g3 hp => ?_⟩
    have hro3 := g3.at hro2 ndro.symm
    have hrow3 := g3.at hrow ncd.symm
    have hR3 : DRows H3 as ts := hR2.keep fun e o he h => g3.at h fun z => nda (z ▸ he)
    obtain ⟨_, xs3, hd3, hI3⟩ := id hB3
    walk_at "x"
    refine x_setN hrow3 (show ixN 8 7 = some 7 from rfl) fun H4 b4 h4 => ?_
    have hp4 := b4.tup hp
    walk_at "x"
    all_goals first | (rename_i h; exact absurd rfl h) | skip
    refine k H4 (ts.set zz.toNat (t.1, "broken")) ⟨hB3.but b4 ncd, b4.lst hro3 ncr, hR3.set hc b4 (t := (t.1, "broken")) h4, st3_set h3 (.inr (.inr rfl)), good7_set hG (hG t (List.mem_of_getElem? ht))⟩ (List.length_set ..) fun e o n1 n2 h => b4.lst (g3.at (e02.at h) n1) fun z => n2 (z ▸ hcm)
  · have hw : ¬ wordC (brK ts zz) = "" := fun q => hc0 (hwn.mp q)
    refine .inr ⟨hc0, fun p H3 e3 hp => ?_⟩
    walk_at "x"
    refine x_tupN (by first | decide | simp) fun p2 H4 fp2 e4 hp2 => ?_
    refine x_eqRefC (e4.at hp) hp2 ?_
    have e04 : Same H H4 := e02.trans (e3.trans e4)
    exact k H4 ts (hBQ.same e04) rfl fun c o _ _ h => e04.at h
theorem ok__law_all (T : Txt K mg) : FnOk P w K mg base (CXF P w) 3 T.d__law_all.a T.d__law_all.fd ["_law_book", "_law_rows", "_law_member"] (spAllB T.c_Book) := by
  refine T.d__law_all.F.okN sc__law_all (fun vs H Q E h => ?_) (fun cdv A outer s H vs Q E hr h => ?_)
  · obtain ⟨b, d, ro, m, w, y, i, ts, as, rfl, _⟩ := h; rfl
  obtain ⟨b, d, ro, m, w, y, mb, ts, as, rfl, ⟨hB, hro, hR, h3, hG⟩, ndro, hn, k⟩ := h
  have hal := hR.2.1
  have haml : (as.map V.ref).length = as.length := List.length_map ..
  obtain ⟨⟨dx, hb⟩, xs, hd, hI⟩ := id hB
  have nda : d ∉ as := hR.neRef hd hI.refs
  have nra : ro ∉ as := hR.neRef hro (map_refs as)
  have nrb : ro ≠ b := ne_of hro hb (by intro z; cases z)
  refine ⟨_, (pss_cons (ps_set (i := 3) sc__law_all.nd rfl (Or.inl rfl) (pe_lst pa_nil))
 (pss_cons (ps_for PassesOwn.never rfl (pi_range1 rfl T.z_range (pa_cons (pe_callB (show CallR _ _ (rLen K) from call_lenU) rfl T.z_len BT.len (pa_cons (pv 1) pa_nil)) pa_nil)) (pg_name (i := 4) sc__law_all.nd rfl (Or.inl rfl))
  (pss_cons (ps_set (i := 5) sc__law_all.nd rfl (Or.inl rfl) (pe_ix (show IxR _ (rIx K) from ix_seq) (pv 1) (pv 4) (fun _ _ => rfl)))
 (pss_one (ps_if (PW.pt (pw_and (pt_cmpR (show OpR _ (compareOp .Eq) (rEqU K) from op_eqU hr.units) (pe_ix (show IxR _ (rIx K) from ix_seq) (pv 5) pe_int (fun _ _ => rfl)) pe_str (nomark _)) (pw_and1 (PW.pt (pw_or (pt_cmpR (show OpR _ (compareOp .Eq) (rEqU K) from op_eqU hr.units) (pe_ix (show IxR _ (rIx K) from ix_seq) (pv 5) pe_int (fun _ _ => rfl)) (pv 2) (nomark _)) (pw_or1 (pt_cmpR (show OpR _ (compareOp .Eq) (rEqU K) from op_eqU hr.units) (pe_ix (show IxR _ (rIx K) from ix_seq) (pv 5) pe_int (fun _ _ => rfl)) (pv 2) (nomark _))))))))
  (pss_cons (ps_expr (show PE _ _ (tBM K _ _ _ _) from pe_bm PySem.F.plainAttrs_list PySem.F.slot_list_append PySem.F.type_list_append mt_append (pv 3) (pa_cons (pv 4) pa_nil)))
 (pss_one (ps_asg pe_str (pg_sub (pv 5) pe_int set_list))))
  pss_nil))))
 (pss_cons (ps_set (i := 6) sc__law_all.nd rfl (Or.inl rfl) (pe_meth (pv 0) T.cl_Book T.d_Book_break_all.mt (ok_Book_break_all T) (hr.mono (by decide)) T.d_Book_break_all.b .nil (passN nox_F) (pa_cons (pv 2) pa_nil)))
 (pss_cons (ps_if (PW.pt (pw_or (pt_not (show PT _ _ (tTru K _) from pt_truthU (pe_callB (show CallR _ _ (rIsiU K) from call_isiU) rfl T.z_isinstance BT.isinstance (pa_cons (pv 6) (pa_cons (pe_bltn (v := .ty "list") rfl T.z_list BT.list rfl) pa_nil))) (fun _ => rfl))) (pw_or1 (pt_cmpR (show OpR _ (compareOp .NotEq) (rNeU K) from op_neU hr.units) (pv 6) (pv 3) (nomark _)))))
  (pss_one (ps_ret pe_bl))
  pss_nil)
 (pss_cons (ps_for PassesOwn.never rfl (show PI _ _ _ (iList K _) from pi_list (pv 6)) (pg_name (i := 7) sc__law_all.nd rfl (Or.inl rfl))
  (pss_one (ps_if (PW.pt (pw_or (show PT _ _ (tTru K _) from pt_truthU (pe_callB (show CallR _ _ (rIsiU K) from call_isiU) rfl T.z_isinstance BT.isinstance (pa_cons (pv 7) (pa_cons (pe_bltn (v := .ty "bool") rfl T.z_bool BT.bool rfl) pa_nil))) (fun _ => rfl)) (pw_or1 (pt_not (show PT _ _ (tTru K _) from pt_truthU (pe_callB (show CallR _ _ (rIsiU K) from call_isiU) rfl T.z_isinstance BT.isinstance (pa_cons (pv 7) (pa_cons (pe_bltn (v := .ty "int") rfl T.z_int BT.int rfl) pa_nil))) (fun _ => rfl))))))
  (pss_one (ps_ret pe_bl))
  pss_nil)))
 (pss_cons (ps_expr (show PE _ _ (tBM K _ _ _ _) from pe_bm PySem.F.plainAttrs_list PySem.F.slot_list_append PySem.F.type_list_append mt_append (pv 6) (pa_cons pe_int pa_nil)))
 (pss_cons (ps_set (i := 8) sc__law_all.nd rfl (Or.inl rfl) (pe_meth (pv 0) T.cl_Book T.d_Book_break_all.mt (ok_Book_break_all T) (hr.mono (by decide)) T.d_Book_break_all.b .nil (passN nox_F) (pa_cons (pv 2) pa_nil)))
 (pss_one (ps_ret (pe_and (pe_callB (show CallR _ _ (rIsiU K) from call_isiU) rfl T.z_isinstance BT.isinstance (pa_cons (pv 8) (pa_cons (pe_bltn (v := .ty "list") rfl T.z_list BT.list rfl) pa_nil))) (pe_one (pe_cmpR (show OpR _ (compareOp .Eq) (rEqU K) from op_eqU hr.units) (pv 8) (pe_lst pa_nil) (nomark _))))))))))))), ?_⟩
  refine x_start (σ0 := [some (.ref b), some (.ref ro), some (.int mb), none, none, none, none, none, none]) rfl ?_
  walk_at "x"
  rename_i du H1 fdu e1 hdu
  have ndud : d ≠ du := ne_of_none hd fdu
  have nrodu : ro ≠ du := ne_of_none hro fdu
  have nadu : du ∉ as := hR.fresh fdu
  refine x_forR (fun i σ' H' => ∃ f4 f5 : Option V, σ' = [some (.ref b), some (.ref ro), some (.int mb), some (.ref du), f4, f5, none, none, none] ∧ H' du = some (.lst ((numF (allP mb) ts i).map V.int)) ∧ Bk T.c_Book H' b d m w y ts ∧ H' ro = some (.lst (as.map V.ref)) ∧ DRows H' as ((ts.take i).map (brkF mb) ++ ts.drop i) ∧ ∀ c o, c ∉ as → H c = some o → H' c = some o) ⟨_, _, rfl, hdu, hB.same e1, e1.at hro, by rw [List.take_zero, List.drop_zero]; exact hR.same e1, fun c o _ h => e1.at h⟩ ?_ ?_
  · rintro i σ' H' hi ⟨f4, f5, rfl, hdu', hB', hro', hR', hK'⟩
    have ez : (0 : Int) + (i : Int) = i := by omega
    have ei : ((0 : Int) + (i : Int)).toNat = i := by omega
    obtain ⟨a, ha⟩ := lt_some (show i < as.length by omega)
    obtain ⟨t, ht⟩ := lt_some (show i < ts.length by omega)
    have ham := List.mem_of_getElem? ha
    have nadu' : a ≠ du := fun z => nadu (z ▸ ham)
    have hat : atI (as.map V.ref) ((0 : Int) + (i : Int)) = some (.ref a) := atI_lt (by omega) (by rw [ei, List.getElem?_map, ha]; rfl)
    have es := numF_succ (P := allP mb) ht
    have hnl := numF_len (P := allP mb) (ts := ts) i
    have hnl' : ((numF (allP mb) ts i).map V.int).length ≤ 1000 := by rw [List.length_map]; omega
    have hcur : ((ts.take i).map (brkF mb) ++ ts.drop i)[i]? = some t := by
      rw [List.getElem?_append_right (by rw [List.length_map, List.length_take]; omega), List.length_map, List.length_take, List.getElem?_drop, show i + (i - min i ts.length) = i by omega]
      exact ht
    have hrow : H' a = some (.lst [.int t.1.p, .int t.1.q, .int t.1.w, .int t.1.u, .int t.1.a, .int t.1.y, .int t.1.r, .str t.2]) := hR'.2.2 i a t ha hcur
    have hnext : ((ts.take i).map (brkF mb) ++ ts.drop i).set i (brkF mb t) = (ts.take (i + 1)).map (brkF mb) ++ ts.drop (i + 1) := by
      rw [List.set_append_right _ _ (by rw [List.length_map, List.length_take]; omega), List.length_map, List.length_take, show i - min i ts.length = 0 by omega, List.drop_eq_getElem_cons (show i < ts.length by omega), List.set_cons_zero, take_snoc ht, List.map_append, List.map_singleton, List.append_assoc]
      rfl
    have hself : ((ts.take i).map (brkF mb) ++ ts.drop i).set i t = (ts.take i).map (brkF mb) ++ ts.drop i := by
      refine ext_get (by rw [List.length_set]) fun j u v hu hv => ?_
      by_cases e : j = i
      · subst e
        rw [List.getElem?_set_self (List.getElem?_eq_some_iff.mp hcur).1] at hu
        rw [hcur] at hv
        exact (Option.some.inj hu).symm.trans (Option.some.inj hv)
      · rw [List.getElem?_set_ne (fun z => e z.symm), hv] at hu
        exact (Option.some.inj hu).symm
    by_cases hst : allP mb t = true
    · have hset : brkF mb t = (t.1, ("broken" : Str)) := if_pos hst
      have hs0 := hst
      unfold allP at hs0
      rw [Bool.and_eq_true, Bool.or_eq_true, decide_eq_true_iff, decide_eq_true_iff, decide_eq_true_iff] at hs0
      obtain ⟨hs, hpq⟩ := hs0
      rw [if_pos hst] at es
      walk_at "x"
      all_goals first | (exfalso; omega) | skip
      all_goals
        rename_i H2 b2 h2
        have hrow2 := b2.lst hrow nadu'
        refine x_setN hrow2 (show ixN 8 7 = some 7 from rfl) fun H3 b3 h3' => ?_
        have hR2 : DRows H2 as ((ts.take i).map (brkF mb) ++ ts.drop i) := hR'.keep fun e o he h => b2.lst h fun z => nadu (z ▸ he)
        have hR3 := hR2.set ha b3 (t := brkF mb t) (by rw [hset]; exact h3')
        rw [hnext] at hR3
        walk_at "x"
        refine ⟨_, _, rfl, ?_, (hB'.but b2 ndud).but b3 (fun z => nda (z ▸ ham)), b3.lst (b2.lst hro' nrodu) (fun z => nra (z ▸ ham)), hR3, fun c o n h => b3.lst (b2.lst (hK' c o n h) (ne_of_none h fdu)) fun z => n (z ▸ ham)⟩
        rw [es, List.map_append]
        rw [ez] at h2
        exact b3.lst h2 nadu'.symm
    · have hset : brkF mb t = t := if_neg hst
      have hst' : ¬ (t.2 = ("standing" : Str) ∧ (t.1.p = mb ∨ t.1.q = mb)) := fun z => hst (by
        unfold allP
        rw [Bool.and_eq_true, Bool.or_eq_true, decide_eq_true_iff, decide_eq_true_iff, decide_eq_true_iff]
        exact z)
      rw [hset, hself] at hnext
      rw [if_neg hst, List.append_nil] at es
      walk_at "x"
      all_goals first
        | exact ⟨_, _, rfl, by rw [es]; exact hdu', hB', hro', by rw [← hnext]; exact hR', hK'⟩
        | exact absurd ⟨by assumption, by omega⟩ hst'
  rintro σ' H2 ⟨f4, f5, rfl, hdu2, hB2, hro2, hR2, hK2⟩
  have hcount : ((as.map V.ref).length : Int).toNat = ts.length := by omega
  rw [hcount] at hdu2 hR2
  rw [List.take_length, List.drop_length, List.append_nil] at hR2
  obtain ⟨⟨dx2, hb2⟩, xs2, hd2, hI2⟩ := id hB2
  walk_at "x"
  refine ⟨b, d, m, w, y, mb, ts, rfl, hB2, by omega, fun p H3 fp hB3 hK3 hp => ?_⟩
  have hdu3 := hK3 du _ ndud.symm hdu2
  have hro3 := hK3 ro _ ndro.symm hro2
  have hR3 : DRows H3 as (ts.map (brkF mb)) := hR2.keep fun e o he h => hK3 e o (fun z => nda (z ▸ he)) h
  have npd : d ≠ p := ne_of_none hd2 fp
  have npro : ro ≠ p := ne_of_none hro2 fp
  have npas : p ∉ as := hR2.fresh fp
  have hnl := numF_len (P := allP mb) (ts := ts) ts.length
  have hnl' : ((numF (allP mb) ts ts.length).map V.int).length ≤ 1000 := by rw [List.length_map]; omega
  obtain ⟨⟨dx3, hb3⟩, xs3, hd3, hI3⟩ := id hB3
  walk_at "x"
  refine x_forL (xs := (numF (allP mb) ts ts.length).map V.int) (fun i σ' H' => ∃ f7 : Option V, σ' = [some (.ref b), some (.ref ro), some (.int mb), some (.ref du), f4, f5, some (.ref p), f7, none] ∧ Same H3 H') ⟨_, rfl, Same.refl _⟩ ?_ ?_ ?_
  · rintro i σ' H' _ ⟨_, _, e⟩; exact SqL.of (e.at hp)
  · rintro i x σ' H4 hx ⟨f7, rfl, e4⟩
    obtain ⟨z, hz, ex⟩ : ∃ n, (numF (allP mb) ts ts.length)[i]? = some n ∧ x = .int n := by
      rw [List.getElem?_map] at hx
      cases h : (numF (allP mb) ts ts.length)[i]? with
      | none => rw [h] at hx; cases hx
      | some n => rw [h] at hx; exact ⟨n, rfl, (Option.some.inj hx).symm⟩
    subst ex
    walk_at "x"
    all_goals exact ⟨_, rfl, e4⟩
  · rintro σ' H4 ⟨f7, rfl, e4⟩
    have hp4 := e4.at hp
    have hb4 := e4.at hb3
    walk_at "x"
    rename_i H5 b5 h5
    have hB5 := (hB3.same e4).but b5 npd
    have hro5 := b5.lst (e4.at hro3) npro
    have hR5 : DRows H5 as (ts.map (brkF mb)) := (hR3.same e4).keep fun e o he h => b5.lst h fun z => npas (z ▸ he)
    have hK5 : ∀ c o, c ≠ d → c ∉ as → H c = some o → H5 c = some o := fun c o n1 n3 h => b5.lst (e4.at (hK3 c o n1 (hK2 c o n3 h))) (ne_of_none (hK2 c o n3 h) fp)
    refine ⟨b, d, m, w, y, mb, _, rfl, hB5, by rw [List.length_map]; omega, fun p6 H6 fp6 hB6 hK6 hp6 => ?_⟩
    rw [brk_again] at hB6
    rw [brk_none] at hp6
    have hro6 := hK6 ro _ ndro.symm hro5
    have hR6 : DRows H6 as (ts.map (brkF mb)) := hR5.keep fun e o he h => hK6 e o (fun z => nda (z ▸ he)) h
    walk_at "x"
    rename_i q7 H7 fq7 e7 hq7
    exact k H7 ⟨hB6.same e7, e7.at hro6, hR6.same e7, st3_brk h3, good7_brk hG⟩ fun c o n1 n3 h => e7.at (hK6 c o n1 (hK5 c o n1 n3 h))

noncomputable def spLaw (K : PySem.W.Frag) : Sp := fun vs H Q _ => ∃ (a : Addr) (ns : List Int), vs = [.ref a] ∧ SqL K H a (ns.map V.int) ∧ ns.length ≤ 63 ∧ ∀ H', Q (.bl true) H'
theorem ok_law (T : Txt K mg) : FnOk P w K mg base (CXF P w) 6 T.d_law.a T.d_law.fd ["_law_script"] (spLaw K) := by
  refine T.d_law.F.okN sc_law (fun vs H Q E h => ?_) (fun cdv A outer s H vs Q E hr h => ?_)
  · obtain ⟨a, ns, rfl, _⟩ := h; rfl
  obtain ⟨a, ns, rfl, hS, h63, k⟩ := h
  refine ⟨_, (pss_cons (ps_set (i := 1) sc_law.nd rfl (Or.inl rfl) (pe_op (show OpR _ (binaryOp .Add) (rAddU K) from op_addU) pe_int (pe_call (ok__law_draw T) (hr.mono (by decide)) rfl T.d__law_draw.m T.d__law_draw.F.kp T.d__law_draw.b .nil (passN nox_F) (pa_cons (pv 0) (pa_cons pe_int (pa_cons pe_int pa_nil))))))
 (pss_cons (ps_set (i := 2) sc_law.nd rfl (Or.inl rfl) (pe_op (show OpR _ (binaryOp .Add) (rAddU K) from op_addU) pe_int (pe_call (ok__law_draw T) (hr.mono (by decide)) rfl T.d__law_draw.m T.d__law_draw.F.kp T.d__law_draw.b .nil (passN nox_F) (pa_cons (pv 0) (pa_cons pe_int (pa_cons pe_int pa_nil))))))
 (pss_cons (ps_set (i := 3) sc_law.nd rfl (Or.inl rfl) (pe_make T.mk_Book (ok_Book___init__ T) (hr.mono (by decide)) rfl T.m_Book T.d_Book___init__.b .nil (passN nox_F) (pa_cons (pv 1) (pa_cons (pv 2) pa_nil))))
 (pss_cons (ps_set (i := 4) sc_law.nd rfl (Or.inl rfl) (pe_call (ok__law_set_up T) (hr.mono (by decide)) rfl T.d__law_set_up.m T.d__law_set_up.F.kp T.d__law_set_up.b .nil (passN nox_F) (pa_cons (pv 0) (pa_cons (pv 3) (pa_cons (pv 1) (pa_cons (pv 2) pa_nil))))))
 (pss_cons (ps_set (i := 5) sc_law.nd rfl (Or.inl rfl) pe_int)
 (pss_cons (ps_for PassesOwn.never rfl (pi_range1 rfl T.z_range (pa_cons (pe_op (show OpR _ (binaryOp .Add) (rAddU K) from op_addU) pe_int (pe_callB (show CallR _ _ (rLen K) from call_lenU) rfl T.z_len BT.len (pa_cons (pe_slice (show SlR _ (rSlL K) from sl_list) (pv 0) po_none (po_some pe_int)) pa_nil))) pa_nil)) (pg_name (i := 6) sc_law.nd rfl (Or.inl rfl))
  (pss_cons (ps_set (i := 7) sc_law.nd rfl (Or.inl rfl) (pe_op (show OpR _ (binaryOp .Add) (rAddU K) from op_addU) pe_int (pe_op op_mulU pe_int (pv 6))))
 (pss_cons (ps_set (i := 8) sc_law.nd rfl (Or.inl rfl) (pe_call (ok__law_draw T) (hr.mono (by decide)) rfl T.d__law_draw.m T.d__law_draw.F.kp T.d__law_draw.b .nil (passN nox_F) (pa_cons (pv 0) (pa_cons (pv 7) (pa_cons pe_int pa_nil)))))
 (pss_cons (ps_set (i := 9) sc_law.nd rfl (Or.inl rfl) pe_bl)
 (pss_mid (ps_if (pt_cmpR (show OpR _ (compareOp .Eq) (rEqU K) from op_eqU hr.units) (pv 8) pe_int (nomark _))
  (pss_cons (ps_expr (pe_call (ok__law_closed T) (hr.mono (by decide)) rfl T.d__law_closed.m T.d__law_closed.F.kp T.d__law_closed.b .nil (passN nox_F) (pa_cons (pv 3) (pa_cons (pv 4) (pa_cons (pv 5) pa_nil)))))
 (pss_one (ps_set (i := 5) sc_law.nd rfl (Or.inl rfl) (pe_op (show OpR _ (binaryOp .Add) (rAddU K) from op_addU) (pv 5) pe_int))))
  (pss_one (ps_if (pt_cmpR (show OpR _ (compareOp .Eq) (rEqU K) from op_eqU hr.units) (pv 8) pe_int (nomark _))
  (pss_one (ps_set (i := 9) sc_law.nd rfl (Or.inl rfl) (pe_call (ok__law_all T) (hr.mono (by decide)) rfl T.d__law_all.m T.d__law_all.F.kp T.d__law_all.b .nil (passN nox_F) (pa_cons (pv 3) (pa_cons (pv 4) (pa_cons (pe_call (ok__law_draw T) (hr.mono (by decide)) rfl T.d__law_draw.m T.d__law_draw.F.kp T.d__law_draw.b .nil (passN nox_F) (pa_cons (pv 0) (pa_cons (pe_op (show OpR _ (binaryOp .Add) (rAddU K) from op_addU) (pv 7) pe_int) (pa_cons (pv 1) pa_nil)))) pa_nil))))))
  (pss_one (ps_set (i := 9) sc_law.nd rfl (Or.inl rfl) (pe_call (ok__law_one T) (hr.mono (by decide)) rfl T.d__law_one.m T.d__law_one.F.kp T.d__law_one.b .nil (passN nox_F) (pa_cons (pv 0) (pa_cons (pv 7) (pa_cons (pv 3) (pa_cons (pv 4) pa_nil))))))))))
 (pss_one (ps_if (PW.pt (pw_or (pt_not (show PT _ _ (tTru K _) from pt_truthU (pv 9) (fun _ => rfl))) (pw_or1 (pt_not (show PT _ _ (tTru K _) from pt_truthU (pe_call (ok__law_stands T) (hr.mono (by decide)) rfl T.d__law_stands.m T.d__law_stands.F.kp T.d__law_stands.b .nil (passN nox_F) (pa_cons (pv 3) (pa_cons (pv 4) pa_nil))) (fun _ => rfl))))))
  (pss_one (ps_ret pe_bl))
  pss_nil)))))))
 (pss_one (ps_ret (pe_cmpR (show OpR _ (compareOp .Eq) (rEqU K) from op_eqU hr.units) (pe_meth0 (pv 3) T.cl_Book T.d_Book_today.mt (ok_Book_today T) (hr.mono (by decide)) T.d_Book_today.b .nil (passN nox_F)) (pv 5) (nomark _)))))))))), ?_⟩
  refine x_start (σ0 := [some (.ref a), none, none, none, none, none, none, none, none, none]) rfl ?_
  walk_at "x"
  rename_i x x0 x1 x' x0' x1'
  obtain ⟨N, eN, N0, N1⟩ : ∃ N, 2 + x = N ∧ 2 ≤ N ∧ N ≤ 8 := ⟨_, rfl, by omega, by omega⟩
  obtain ⟨W, eW, W0, W1⟩ : ∃ W, 1 + x' = W ∧ 1 ≤ W ∧ W ≤ 4 := ⟨_, rfl, by omega, by omega⟩
  rw [eN, eW]
  refine x_makek fun b dx H1 fb e1 h1 => ?_
  refine ⟨b, dx, _, _, rfl, h1, fun d H2 fd s2 hb2 hd2 => ⟨rfl, ?_⟩⟩
  have e2 : Same H H2 := fun c o q => s2 c o (ne_of_none q fb) (e1 c o q)
  have fd0 : H d = none := Same.none fd e1
  have hBk : Bk T.c_Book H2 b d N W 0 [] := ⟨⟨dx, hb2⟩, [], hd2, trivial⟩
  walk_at "x"
  refine ⟨H, a, b, d, ns, N, W, rfl, hS, e2, fd0, hBk, N0, N1, W0, W1, fun ro H3 ts as fro hfr ndro hBQ l1 hK3 => ?_⟩
  have e3 : Same H H3 := fun c o q => hK3 c o (ne_of_none q fd0) (e2 c o q)
  have hfrH : ∀ c ∈ as, H c = none := fun c hc => Same.none (hfr c hc) e2
  have hS3 := e3.seq hS
  have hcl : (cutV (ns.map V.int) none (some 16)).length ≤ 16 := cut_le (k := 16)
  clear e1 e2 hb2 hd2 h1 hBk s2 hK3 fro hfr fd
  walk_at "x"
  rename_i sl H4 fsl e4 hsl
  refine x_forR (fun i σ' H' => ∃ (f6 f7 f8 f9 : Option V) (Y : Int) (ts' : List (T7 × Str)), σ' = [some (.ref a), some (.int N), some (.int W), some (.ref b), some (.ref ro), some (.int Y), f6, f7, f8, f9] ∧ BQ T.c_Book H' b d ro N W Y ts' as ∧ ts'.length = ts.length ∧ Same H H') ⟨_, _, _, _, 0, ts, rfl, hBQ.same e4, rfl, e3.trans e4⟩ ?_ ?_
  · rintro i σ' H7 hi ⟨f6, f7, f8, f9, Y, ts7, rfl, hBQ7, hl7, e7⟩
    have hi' : (i : Int) ≤ 20 := by omega
    have hS7 := e7.seq hS
    have ez : (0 : Int) + (i : Int) = i := by omega
    clear e3 e4 hS3 hBQ hsl
    walk_at "x"
    rename_i wy wy0 wy1
    refine x_mid (fun σ' H' => ∃ (Y' : Int) (ts' : List (T7 × Str)), σ' = [some (.ref a), some (.int N), some (.int W), some (.ref b), some (.ref ro), some (.int Y'), some (.int ((0 : Int) + (i : Int))), some (.int (110 + 8 * ((0 : Int) + (i : Int)))), some (.int wy), some (.bl true)] ∧ BQ T.c_Book H' b d ro N W Y' ts' as ∧ ts'.length = ts.length ∧ Same H H') ?_ ?_
    · walk_at "x"
      · refine ⟨b, d, ro, N, W, Y, ts7, as, rfl, hBQ7, ndro, by omega, fun H8 hBQ8 hK8 => ?_⟩
        walk_at "x"
        exact ⟨Y + 1, ts7.map (clsF Y), rfl, hBQ8, by rw [List.length_map]; omega, fun c o q => hK8 c o (ne_of_none q fd0) (ne_of_none q fb) (fun hm => by rw [hfrH c hm] at q; cases q) (e7 c o q)⟩
      · refine ⟨b, d, ro, N, W, Y, _, ts7, as, rfl, hBQ7, ndro, by omega, fun H8 hBQ8 hK8 => ?_⟩
        walk_at "x"
        exact ⟨Y, _, rfl, hBQ8, by rw [List.length_map]; omega, fun c o q => hK8 c o (ne_of_none q fd0) (fun hm => by rw [hfrH c hm] at q; cases q) (e7 c o q)⟩
      · refine ⟨a, b, d, ro, ns, _, N, W, Y, ts7, as, rfl, hS7, by omega, by omega, hBQ7, ndro, by omega, fun H8 ts8 hBQ8 hl8 hK8 => ?_⟩
        walk_at "x"
        exact ⟨Y, ts8, rfl, hBQ8, by omega, fun c o q => hK8 c o (ne_of_none q fd0) (fun hm => by rw [hfrH c hm] at q; cases q) (e7 c o q)⟩
    rintro σ' H8 ⟨Y8, ts8, rfl, hBQ8, hl8, e8⟩
    walk_at "x"
    refine ⟨b, d, ro, N, W, Y8, ts8, as, rfl, hBQ8.B, hBQ8.ro, hBQ8.R, hBQ8.s, by omega, fun H9 e9 => ?_⟩
    walk_at "x"
    exact ⟨_, _, _, _, Y8, ts8, rfl, hBQ8.same e9, hl8, e8.trans e9⟩
  · rintro σ' H7 ⟨f6, f7, f8, f9, Y, ts7, rfl, hBQ7, _⟩
    obtain ⟨⟨dx7, hb7⟩, _⟩ := id hBQ7.B
    walk_at "x"
    rw [decide_eq_true rfl]
    exact k _

end
theorem fin {P : Program} {w : World} {K : PySem.W.Frag} {mg : Str → Option Value} {fa : Addr} (T : Txt K mg) (hfa : mg "law" = some (.ref fa)) :
    ∃ fd : FuncData, (∀ (s : Shared) (v : Value), BindsTo s fd ⟨[v], []⟩ [("_law_script", v)]) ∧ ∀ base : Heap, K.In base → base.Ns mainGlobals mg → FnOk P w K mg base (CXF P w) 6 fa fd ["_law_script"] (spLaw K) := by
  have e := hfa.symm.trans T.d_law.m
  cases e
  exact ⟨_, T.bl_law, fun base _ _ => ok_law T⟩
theorem walk {l : PySem.W.OpenLaw} {q : Program} {loose : List Str} {XP : (Str → Option Value) → Heap → Prop} {YP : World → Heap → Prop} {d : DefRec} {K : Params → PySem.W.Frag} (hn : l.most = some 63) (hdf : d.params.defaults = [])
    (hY : ∀ (w : World) (h : Heap), YP w h → (K w.params).In h)
    (F : ∀ (w : World) (mg : Str → Option Value) (fa : Addr) (h : Heap), (K w.params).In h → h.Ns mainGlobals mg → mg d.name = some (.ref fa) →
      ∃ fd : FuncData, (∀ (s : Shared) (u : Value), BindsTo s fd ⟨[u], []⟩ [("_law_script", u)]) ∧ ∀ base : Heap, (K w.params).In base → base.Ns mainGlobals mg → FnOk l.prog w (K w.params) mg base (CXF l.prog w) 6 fa fd ["_law_script"] (spLaw (K w.params))) :
    PySem.W.WalkO q loose XP YP l.row.toRowW d [] (fun f vs => PySem.call f vs) :=
  Internal.walk_of (n := 63) (k := 6) (x := "_law_script") (CX := fun w => CXF l.prog w) (sp := fun w => spLaw (K w.params)) hn (by decide) hdf ⟨rfl, by decide, by decide⟩ hY F (fun _ _ a ns hl _ hS => ⟨a, ns, rfl, hS, hl, fun _ => rfl⟩) fun _ H s e s' z => nox_F _ H s e s' z
end Internal.K
theorem PySem.W.Fast.tw6277489642541828242 : True := trivial
open PySem PySem.W PyProof.Rows
set_option maxRecDepth 100000 in
set_option maxHeartbeats 0 in
theorem PySem.Challenge.cw_quits_k70_broken_off_holds : PySem.Challenge.rw_quits_k70_broken_off.Holds := by
  w_on; o_law; k_head; (case hw => w_witness2)
  k_fill
  refine Internal.K.walk (l := PySem.Challenge.rw_quits_k70_broken_off) rfl rfl (fun w h Y => PySem.W.kIn_of Y) ?F
  case F =>
    intro w mg fa h KX G hmg
    refine Internal.K.fin ?T hmg
    case T =>
      refine' Internal.K.txt_mk KX G ?m_Closed ?m_Gone ?m_NoDeal ?m_NoMember ?m_NoTerms ?m_QuitsError ?m_Settled ?m_Standing ?hd_Closed ?ty_Closed ?hd_Gone ?ty_Gone ?hd_NoDeal ?ty_NoDeal ?hd_NoMember ?ty_NoMember ?hd_NoTerms ?ty_NoTerms ?hd_QuitsError ?ty_QuitsError ?hd_Settled ?ty_Settled ?hd_Standing ?ty_Standing ?sn_ ?tk_ ?b_QuitsError ?x_Closed ?ga_Closed ?gn_Closed ?be_Closed ?fa_Closed ?mo_Closed ?s_Closed_Closed ?s_Closed_Gone ?n_Closed_Gone ?s_Closed_NoDeal ?n_Closed_NoDeal ?s_Closed_NoMember ?n_Closed_NoMember ?s_Closed_NoTerms ?n_Closed_NoTerms ?s_Closed_QuitsError ?n_Closed_QuitsError ?s_Closed_Settled ?n_Closed_Settled ?s_Closed_Standing ?n_Closed_Standing ?v_Closed ?x_Gone ?ga_Gone ?gn_Gone ?be_Gone ?fa_Gone ?mo_Gone ?s_Gone_Closed ?n_Gone_Closed ?s_Gone_Gone ?s_Gone_NoDeal ?n_Gone_NoDeal ?s_Gone_NoMember ?n_Gone_NoMember ?s_Gone_NoTerms ?n_Gone_NoTerms ?s_Gone_QuitsError ?n_Gone_QuitsError ?s_Gone_Settled ?n_Gone_Settled ?s_Gone_Standing ?n_Gone_Standing ?v_Gone ?x_NoDeal ?ga_NoDeal ?gn_NoDeal ?be_NoDeal ?fa_NoDeal ?mo_NoDeal ?s_NoDeal_Closed ?n_NoDeal_Closed ?s_NoDeal_Gone ?n_NoDeal_Gone ?s_NoDeal_NoDeal ?s_NoDeal_NoMember ?n_NoDeal_NoMember ?s_NoDeal_NoTerms ?n_NoDeal_NoTerms ?s_NoDeal_QuitsError ?n_NoDeal_QuitsError ?s_NoDeal_Settled ?n_NoDeal_Settled ?s_NoDeal_Standing ?n_NoDeal_Standing ?v_NoDeal ?x_NoMember ?ga_NoMember ?gn_NoMember ?be_NoMember ?fa_NoMember ?mo_NoMember ?s_NoMember_Closed ?n_NoMember_Closed ?s_NoMember_Gone ?n_NoMember_Gone ?s_NoMember_NoDeal ?n_NoMember_NoDeal ?s_NoMember_NoMember ?s_NoMember_NoTerms ?n_NoMember_NoTerms ?s_NoMember_QuitsError ?n_NoMember_QuitsError ?s_NoMember_Settled ?n_NoMember_Settled ?s_NoMember_Standing ?n_NoMember_Standing ?v_NoMember ?x_NoTerms ?ga_NoTerms ?gn_NoTerms ?be_NoTerms ?fa_NoTerms ?mo_NoTerms ?s_NoTerms_Closed ?n_NoTerms_Closed ?s_NoTerms_Gone ?n_NoTerms_Gone ?s_NoTerms_NoDeal ?n_NoTerms_NoDeal ?s_NoTerms_NoMember ?n_NoTerms_NoMember ?s_NoTerms_NoTerms ?s_NoTerms_QuitsError ?n_NoTerms_QuitsError ?s_NoTerms_Settled ?n_NoTerms_Settled ?s_NoTerms_Standing ?n_NoTerms_Standing ?v_NoTerms ?x_Settled ?ga_Settled ?gn_Settled ?be_Settled ?fa_Settled ?mo_Settled ?s_Settled_Closed ?n_Settled_Closed ?s_Settled_Gone ?n_Settled_Gone ?s_Settled_NoDeal ?n_Settled_NoDeal ?s_Settled_NoMember ?n_Settled_NoMember ?s_Settled_NoTerms ?n_Settled_NoTerms ?s_Settled_QuitsError ?n_Settled_QuitsError ?s_Settled_Settled ?s_Settled_Standing ?n_Settled_Standing ?v_Settled ?m_Book ?pg_Book ?hd_Book ?po_Book ?sa_Book ?mk_Book ?kc_Book ?na_Book_day ?na_Book_deals ?na_Book_many ?na_Book_wares ?g_DAY ?g_MOST_AMOUNT ?g_MOST_DAY ?g_MOST_UNITS ?g_PAYEE ?g_PAYER ?g_STATE ?a_Book___init__ ?i_Book___init__ ?l_Book___init__ ?c_Book___init__ ?k_Book___init__ ?a_Book_strike ?i_Book_strike ?l_Book_strike ?c_Book_strike ?k_Book_strike ?a_Book_check_members ?i_Book_check_members ?l_Book_check_members ?c_Book_check_members ?k_Book_check_members ?a_Book_check_terms ?i_Book_check_terms ?l_Book_check_terms ?c_Book_check_terms ?k_Book_check_terms ?a_Book_break_off ?i_Book_break_off ?l_Book_break_off ?c_Book_break_off ?k_Book_break_off ?a_Book_standing_deal ?i_Book_standing_deal ?l_Book_standing_deal ?c_Book_standing_deal ?k_Book_standing_deal ?a_Book_put_state ?i_Book_put_state ?l_Book_put_state ?c_Book_put_state ?k_Book_put_state ?a_Book_break_all ?i_Book_break_all ?l_Book_break_all ?c_Book_break_all ?k_Book_break_all ?a_Book_close ?i_Book_close ?l_Book_close ?c_Book_close ?k_Book_close ?a_Book_today ?i_Book_today ?l_Book_today ?c_Book_today ?k_Book_today ?a_Book_struck ?i_Book_struck ?l_Book_struck ?c_Book_struck ?k_Book_struck ?a_Book_deal ?i_Book_deal ?l_Book_deal ?c_Book_deal ?k_Book_deal ?a__law_cell ?l__law_cell ?c__law_cell ?k__law_cell ?a__law_draw ?l__law_draw ?c__law_draw ?k__law_draw ?a__law_great ?l__law_great ?c__law_great ?k__law_great ?a__law_name ?l__law_name ?c__law_name ?k__law_name ?a__law_due ?l__law_due ?c__law_due ?k__law_due ?a__law_break ?l__law_break ?c__law_break ?k__law_break ?a__law_one ?l__law_one ?c__law_one ?k__law_one ?a__law_all ?l__law_all ?c__law_all ?k__law_all ?a__law_stands ?l__law_stands ?c__law_stands ?k__law_stands ?a__law_set_up ?l__law_set_up ?c__law_set_up ?k__law_set_up ?a__law_closed ?l__law_closed ?c__law_closed ?k__law_closed ?a_law ?l_law ?c_law ?k_law ?w_ValueError ?w_bool ?w_enumerate ?w_int ?w_isinstance ?w_len ?w_list ?w_range ?w_tuple
      (case m_Closed => k_is)
      (case m_Gone => k_is)
      (case m_NoDeal => k_is)
      (case m_NoMember => k_is)
      (case m_NoTerms => k_is)
      (case m_QuitsError => k_is)
      (case m_Settled => k_is)
      (case m_Standing => k_is)
      (case hd_Closed => k_is)
      (case ty_Closed => k_is)
      (case hd_Gone => k_is)
      (case ty_Gone => k_is)
      (case hd_NoDeal => k_is)
      (case ty_NoDeal => k_is)
      (case hd_NoMember => k_is)
      (case ty_NoMember => k_is)
      (case hd_NoTerms => k_is)
      (case ty_NoTerms => k_is)
      (case hd_QuitsError => k_is)
      (case ty_QuitsError => k_is)
      (case hd_Settled => k_is)
      (case ty_Settled => k_is)
      (case hd_Standing => k_is)
      (case ty_Standing => k_is)
      (case sn_ => k_is)
      (case tk_ => k_is)
      (case b_QuitsError => k_is)
      (case x_Closed => k_exc)
      (case ga_Closed => k_is)
      (case gn_Closed => k_is)
      (case be_Closed => k_is)
      (case fa_Closed => k_is)
      (case mo_Closed => k_is)
      (case s_Closed_Closed => k_is)
      (case s_Closed_Gone => k_is)
      (case n_Closed_Gone => decide)
      (case s_Closed_NoDeal => k_is)
      (case n_Closed_NoDeal => decide)
      (case s_Closed_NoMember => k_is)
      (case n_Closed_NoMember => decide)
      (case s_Closed_NoTerms => k_is)
      (case n_Closed_NoTerms => decide)
      (case s_Closed_QuitsError => k_is)
      (case n_Closed_QuitsError => decide)
      (case s_Closed_Settled => k_is)
      (case n_Closed_Settled => decide)
      (case s_Closed_Standing => k_is)
      (case n_Closed_Standing => decide)
      (case v_Closed => k_is)
      (case x_Gone => k_exc)
      (case ga_Gone => k_is)
      (case gn_Gone => k_is)
      (case be_Gone => k_is)
      (case fa_Gone => k_is)
      (case mo_Gone => k_is)
      (case s_Gone_Closed => k_is)
      (case n_Gone_Closed => decide)
      (case s_Gone_Gone => k_is)
      (case s_Gone_NoDeal => k_is)
      (case n_Gone_NoDeal => decide)
      (case s_Gone_NoMember => k_is)
      (case n_Gone_NoMember => decide)
      (case s_Gone_NoTerms => k_is)
      (case n_Gone_NoTerms => decide)
      (case s_Gone_QuitsError => k_is)
      (case n_Gone_QuitsError => decide)
      (case s_Gone_Settled => k_is)
      (case n_Gone_Settled => decide)
      (case s_Gone_Standing => k_is)
      (case n_Gone_Standing => decide)
      (case v_Gone => k_is)
      (case x_NoDeal => k_exc)
      (case ga_NoDeal => k_is)
      (case gn_NoDeal => k_is)
      (case be_NoDeal => k_is)
      (case fa_NoDeal => k_is)
      (case mo_NoDeal => k_is)
      (case s_NoDeal_Closed => k_is)
      (case n_NoDeal_Closed => decide)
      (case s_NoDeal_Gone => k_is)
      (case n_NoDeal_Gone => decide)
      (case s_NoDeal_NoDeal => k_is)
      (case s_NoDeal_NoMember => k_is)
      (case n_NoDeal_NoMember => decide)
      (case s_NoDeal_NoTerms => k_is)
      (case n_NoDeal_NoTerms => decide)
      (case s_NoDeal_QuitsError => k_is)
      (case n_NoDeal_QuitsError => decide)
      (case s_NoDeal_Settled => k_is)
      (case n_NoDeal_Settled => decide)
      (case s_NoDeal_Standing => k_is)
      (case n_NoDeal_Standing => decide)
      (case v_NoDeal => k_is)
      (case x_NoMember => k_exc)
      (case ga_NoMember => k_is)
      (case gn_NoMember => k_is)
      (case be_NoMember => k_is)
      (case fa_NoMember => k_is)
      (case mo_NoMember => k_is)
      (case s_NoMember_Closed => k_is)
      (case n_NoMember_Closed => decide)
      (case s_NoMember_Gone => k_is)
      (case n_NoMember_Gone => decide)
      (case s_NoMember_NoDeal => k_is)
      (case n_NoMember_NoDeal => decide)
      (case s_NoMember_NoMember => k_is)
      (case s_NoMember_NoTerms => k_is)
      (case n_NoMember_NoTerms => decide)
      (case s_NoMember_QuitsError => k_is)
      (case n_NoMember_QuitsError => decide)
      (case s_NoMember_Settled => k_is)
      (case n_NoMember_Settled => decide)
      (case s_NoMember_Standing => k_is)
      (case n_NoMember_Standing => decide)
      (case v_NoMember => k_is)
      (case x_NoTerms => k_exc)
      (case ga_NoTerms => k_is)
      (case gn_NoTerms => k_is)
      (case be_NoTerms => k_is)
      (case fa_NoTerms => k_is)
      (case mo_NoTerms => k_is)
      (case s_NoTerms_Closed => k_is)
      (case n_NoTerms_Closed => decide)
      (case s_NoTerms_Gone => k_is)
      (case n_NoTerms_Gone => decide)
      (case s_NoTerms_NoDeal => k_is)
      (case n_NoTerms_NoDeal => decide)
      (case s_NoTerms_NoMember => k_is)
      (case n_NoTerms_NoMember => decide)
      (case s_NoTerms_NoTerms => k_is)
      (case s_NoTerms_QuitsError => k_is)
      (case n_NoTerms_QuitsError => decide)
      (case s_NoTerms_Settled => k_is)
      (case n_NoTerms_Settled => decide)
      (case s_NoTerms_Standing => k_is)
      (case n_NoTerms_Standing => decide)
      (case v_NoTerms => k_is)
      (case x_Settled => k_exc)
      (case ga_Settled => k_is)
      (case gn_Settled => k_is)
      (case be_Settled => k_is)
      (case fa_Settled => k_is)
      (case mo_Settled => k_is)
      (case s_Settled_Closed => k_is)
      (case n_Settled_Closed => decide)
      (case s_Settled_Gone => k_is)
      (case n_Settled_Gone => decide)
      (case s_Settled_NoDeal => k_is)
      (case n_Settled_NoDeal => decide)
      (case s_Settled_NoMember => k_is)
      (case n_Settled_NoMember => decide)
      (case s_Settled_NoTerms => k_is)
      (case n_Settled_NoTerms => decide)
      (case s_Settled_QuitsError => k_is)
      (case n_Settled_QuitsError => decide)
      (case s_Settled_Settled => k_is)
      (case s_Settled_Standing => k_is)
      (case n_Settled_Standing => decide)
      (case v_Settled => k_is)
      (case m_Book => k_is)
      (case pg_Book => k_is)
      (case hd_Book => k_is)
      (case po_Book => k_is)
      (case sa_Book => k_is)
      (case mk_Book => k_is)
      (case kc_Book => k_is)
      (case na_Book_day => k_is)
      (case na_Book_deals => k_is)
      (case na_Book_many => k_is)
      (case na_Book_wares => k_is)
      (case g_DAY => k_is)
      (case g_MOST_AMOUNT => k_is)
      (case g_MOST_DAY => k_is)
      (case g_MOST_UNITS => k_is)
      (case g_PAYEE => k_is)
      (case g_PAYER => k_is)
      (case g_STATE => k_is)
      (case a_Book___init__ => k_is)
      (case i_Book___init__ => k_is)
      (case l_Book___init__ => k_is)
      (case c_Book___init__ => k_is)
      (case k_Book___init__ => k_is)
      (case a_Book_strike => k_is)
      (case i_Book_strike => k_is)
      (case l_Book_strike => k_is)
      (case c_Book_strike => k_is)
      (case k_Book_strike => k_is)
      (case a_Book_check_members => k_is)
      (case i_Book_check_members => k_is)
      (case l_Book_check_members => k_is)
      (case c_Book_check_members => k_is)
      (case k_Book_check_members => k_is)
      (case a_Book_check_terms => k_is)
      (case i_Book_check_terms => k_is)
      (case l_Book_check_terms => k_is)
      (case c_Book_check_terms => k_is)
      (case k_Book_check_terms => k_is)
      (case a_Book_break_off => k_is)
      (case i_Book_break_off => k_is)
      (case l_Book_break_off => k_is)
      (case c_Book_break_off => k_is)
      (case k_Book_break_off => k_is)
      (case a_Book_standing_deal => k_is)
      (case i_Book_standing_deal => k_is)
      (case l_Book_standing_deal => k_is)
      (case c_Book_standing_deal => k_is)
      (case k_Book_standing_deal => k_is)
      (case a_Book_put_state => k_is)
      (case i_Book_put_state => k_is)
      (case l_Book_put_state => k_is)
      (case c_Book_put_state => k_is)
      (case k_Book_put_state => k_is)
      (case a_Book_break_all => k_is)
      (case i_Book_break_all => k_is)
      (case l_Book_break_all => k_is)
      (case c_Book_break_all => k_is)
      (case k_Book_break_all => k_is)
      (case a_Book_close => k_is)
      (case i_Book_close => k_is)
      (case l_Book_close => k_is)
      (case c_Book_close => k_is)
      (case k_Book_close => k_is)
      (case a_Book_today => k_is)
      (case i_Book_today => k_is)
      (case l_Book_today => k_is)
      (case c_Book_today => k_is)
      (case k_Book_today => k_is)
      (case a_Book_struck => k_is)
      (case i_Book_struck => k_is)
      (case l_Book_struck => k_is)
      (case c_Book_struck => k_is)
      (case k_Book_struck => k_is)
      (case a_Book_deal => k_is)
      (case i_Book_deal => k_is)
      (case l_Book_deal => k_is)
      (case c_Book_deal => k_is)
      (case k_Book_deal => k_is)
      (case a__law_cell => k_is)
      (case l__law_cell => k_is)
      (case c__law_cell => k_is)
      (case k__law_cell => k_is)
      (case a__law_draw => k_is)
      (case l__law_draw => k_is)
      (case c__law_draw => k_is)
      (case k__law_draw => k_is)
      (case a__law_great => k_is)
      (case l__law_great => k_is)
      (case c__law_great => k_is)
      (case k__law_great => k_is)
      (case a__law_name => k_is)
      (case l__law_name => k_is)
      (case c__law_name => k_is)
      (case k__law_name => k_is)
      (case a__law_due => k_is)
      (case l__law_due => k_is)
      (case c__law_due => k_is)
      (case k__law_due => k_is)
      (case a__law_break => k_is)
      (case l__law_break => k_is)
      (case c__law_break => k_is)
      (case k__law_break => k_is)
      (case a__law_one => k_is)
      (case l__law_one => k_is)
      (case c__law_one => k_is)
      (case k__law_one => k_is)
      (case a__law_all => k_is)
      (case l__law_all => k_is)
      (case c__law_all => k_is)
      (case k__law_all => k_is)
      (case a__law_stands => k_is)
      (case l__law_stands => k_is)
      (case c__law_stands => k_is)
      (case k__law_stands => k_is)
      (case a__law_set_up => k_is)
      (case l__law_set_up => k_is)
      (case c__law_set_up => k_is)
      (case k__law_set_up => k_is)
      (case a__law_closed => k_is)
      (case l__law_closed => k_is)
      (case c__law_closed => k_is)
      (case k__law_closed => k_is)
      (case a_law => k_is)
      (case l_law => k_is)
      (case c_law => k_is)
      (case k_law => k_is)
      (case w_ValueError => k_is)
      (case w_bool => k_is)
      (case w_enumerate => k_is)
      (case w_int => k_is)
      (case w_isinstance => k_is)
      (case w_len => k_is)
      (case w_list => k_is)
      (case w_range => k_is)
      (case w_tuple => k_is)
