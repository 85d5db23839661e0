import PyProof.Rows.All
import Wide.All
import OpenK.AllK
import Wide.FinOn
import Lean
import PyProof.EqAt
import PyProof.EqKinds
import PyProof.TupleCall
import PyProof.CompFree
import PyProof.Cells
import PyProof.EnumFor
import PyProof.EnumStmt
import PyProof.EnumMake
import PyProof.ZipIter
import PyProof.SumAny
import PyProof.MinMaxWalk
import PyProof.ConsumeWalk
import PyProof.Rows.EnumRows
import PyProof.Rows.FactsT2
import PyProof.Rows.SeqGen
import KE.KTryMore
import PyProof.ExcBaseAll.ValueError
import PyProof.ExcAttrAll.ValueError
import PyProof.ListRange
import PyProof.Rows.SortShell
import PyProof.Rows.SortWalk
import KE.LcSums
import KE.KMinBuiltin
import KE.RegKLenAny
import PyProof.Rows.CallKwBuiltin
import PyProof.Rows.SortRev
import PyProof.SeqI3
import PySem.Challenge.RW_quits_k34_is_a_clearing
set_option compiler.extract_closed false
set_option bootstrap.genMatcherCode false
set_option Elab.async false
set_option linter.all false
set_option maxRecDepth 100000
namespace Internal
theorem aut0 (h : True := by first | exact .inl rfl | exact .inr rfl | assumption) : True := h
theorem aut1 (h : True := by decide) : True := h
theorem aut2 (h : True := by rfl) : True := h
theorem aut3 (h : True := by intro _; rfl) : True := h
theorem aut4 (h : True := by intros; rfl) : True := h
open PySem PySem.Spec PyProof.Rows

noncomputable abbrev Key := Sum Int Str
noncomputable def keyIs : Key → Value → Bool
  | .inl k, v => Value.isInt k v
  | .inr x, v => Value.isStrOf x v
noncomputable def keyH (w : World) : Key → Int
  | .inl k => hashInt k
  | .inr x => hashStr w x
theorem keyIs_shape : ∀ {k : Key} {v : Value}, keyIs k v = true → (∃ i t, k = Sum.inl i ∧ v = Value.int i t) ∨ (∃ x t, k = Sum.inr x ∧ v = Value.str x t)
  | .inl i, v, h => by
    obtain ⟨t, e⟩ := Value.isInt_shape (k := i) (v := v) h
    exact .inl ⟨i, t, rfl, e⟩
  | .inr x, v, h => by
    obtain ⟨t, e⟩ := Value.isStrOf_shape (x := x) (v := v) h
    exact .inr ⟨x, t, rfl, e⟩
theorem key_ll (a b : Int) : decide ((Sum.inl a : Key) = Sum.inl b) = (a == b) := by
  by_cases e : a = b
  · subst e; simp
  · have h : ¬ (Sum.inl a : Key) = Sum.inl b := fun q => e (Sum.inl.inj q)
    rw [decide_eq_false h]
    exact (beq_eq_false_iff_ne.mpr e).symm
theorem key_rr (a b : Str) : decide ((Sum.inr a : Key) = Sum.inr b) = decide (a = b) := by
  by_cases e : a = b
  · subst e; simp
  · have h : ¬ (Sum.inr a : Key) = Sum.inr b := fun q => e (Sum.inr.inj q)
    rw [decide_eq_false h, decide_eq_false e]
theorem key_lr (a : Int) (b : Str) : decide ((Sum.inl a : Key) = Sum.inr b) = false := decide_eq_false (fun q => nomatch q)
theorem key_rl (a : Str) (b : Int) : decide ((Sum.inr a : Key) = Sum.inl b) = false := decide_eq_false (fun q => nomatch q)

noncomputable def mixKind (prog : Program) (w : World) : PySem.KeyKind prog w Key where
  is := keyIs
  hash := keyH w
  inj := fun v a b ha hb => by
    rcases keyIs_shape ha with ⟨i, t, rfl, rfl⟩ | ⟨x, t, rfl, rfl⟩
    · rcases keyIs_shape hb with ⟨j, u, rfl, e⟩ | ⟨y, u, rfl, e⟩
      · injection e with e1 _; rw [e1]
      · exact nomatch e
    · rcases keyIs_shape hb with ⟨j, u, rfl, e⟩ | ⟨y, u, rfl, e⟩
      · exact nomatch e
      · injection e with e1 _; rw [e1]
  byValue := fun k v h => by
    rcases keyIs_shape h with ⟨i, t, rfl, rfl⟩ | ⟨x, t, rfl, rfl⟩ <;> rfl
  pyHash := fun hv h => by
    rcases keyIs_shape hv with ⟨i, t, rfl, rfl⟩ | ⟨x, t, rfl, rfl⟩
    · exact wpAny_pyHash_int h
    · exact wpAny_pyHash_str h
  eqBool := fun hu hv h => by
    rcases keyIs_shape hu with ⟨i, t, rfl, rfl⟩ | ⟨x, t, rfl, rfl⟩
    · rcases keyIs_shape hv with ⟨j, u, rfl, rfl⟩ | ⟨y, u, rfl, rfl⟩
      · rw [key_ll] at h; exact wpAny_eqBool_int h
      · rw [key_lr] at h; exact SeqAt.EqAt.int_str i t y u _ _ _ _ h
    · rcases keyIs_shape hv with ⟨j, u, rfl, rfl⟩ | ⟨y, u, rfl, rfl⟩
      · rw [key_rl] at h; exact SeqAt.EqAt.str_int x t j u _ _ _ _ h
      · rw [key_rr] at h; exact wpAny_eqBool_str h
  «strs» := fun k x t v h => by
    rcases keyIs_shape h with ⟨i, u, rfl, e⟩ | ⟨y, u, rfl, e⟩
    · exact nomatch e
    · injection e with e1 _
      subst e1
      cases v <;> rfl

end Internal

namespace Internal
open PySem PySem.Spec PyProof.Rows

inductive V where
  | non | bl (b : Bool) | int (i : Int) | str (x : Str) | byt (b : Array UInt8) | flt (b : UInt64) | ref (a : Addr) | ty (n : String)
  deriving DecidableEq

noncomputable def RelV : V → Value → Prop
  | .non, u => u = Value.none
  | .bl b, u => u = Value.bool b
  | .int i, u => ∃ t, u = Value.int i t
  | .str x, u => ∃ t, u = Value.str x t
  | .byt b, u => ∃ t, u = Value.bytes b t
  | .flt b, u => ∃ t, u = Value.float b t
  | .ref a, u => u = Value.ref a
  | .ty n, u => u = Value.type n

noncomputable abbrev Vals : List V → List Value → Prop := Paired RelV
theorem Vals.length {xs : List V} {us : List Value} (r : Vals xs us) : xs.length = us.length := Paired.length r
theorem Vals.get : ∀ {xs : List V} {us : List Value} {i : Nat} {x : V}, Vals xs us → xs[i]? = some x → ∃ u, us[i]? = some u ∧ RelV x u
  | _, _, _, _, .nil, e => by simp at e
  | _, _, 0, _, .cons r _, e => by simp at e; subst e; exact ⟨_, rfl, r⟩
  | _, _, i + 1, x, .cons _ t, e => by
    obtain ⟨u, h1, h2⟩ := Vals.get (i := i) (x := x) t (by simpa using e)
    exact ⟨u, by simpa using h1, h2⟩
theorem Vals.set {x : V} {u : Value} (r : RelV x u) : ∀ {xs : List V} {us : List Value} (i : Nat), Vals xs us → Vals (xs.set i x) (us.set i u)
  | _, _, _, .nil => .nil
  | _, _, 0, .cons _ t => .cons r t
  | _, _, i + 1, .cons q t => .cons q (Vals.set r i t)
theorem Vals.append : ∀ {xs ys : List V} {us ws : List Value}, Vals xs us → Vals ys ws → Vals (xs ++ ys) (us ++ ws)
  | _, _, _, _, .nil, s => s
  | _, _, _, _, .cons r t, s => .cons r (Vals.append t s)
theorem Vals.take : ∀ {xs : List V} {us : List Value} (n : Nat), Vals xs us → Vals (xs.take n) (us.take n)
  | _, _, 0, _ => .nil
  | _, _, _ + 1, .nil => .nil
  | _, _, n + 1, .cons r t => .cons r (Vals.take n t)
theorem Vals.drop : ∀ {xs : List V} {us : List Value} (n : Nat), Vals xs us → Vals (xs.drop n) (us.drop n)
  | _, _, 0, r => r
  | _, _, _ + 1, .nil => .nil
  | _, _, n + 1, .cons _ t => Vals.drop n t
noncomputable def RelO : Option V → Option Value → Prop
  | some v, some u => RelV v u
  | none, none => True
  | _, _ => False
noncomputable def KV {κ : Type} : List (κ × V) → List (κ × Value) → Prop := Paired fun (p : κ × V) (q : κ × Value) => p.1 = q.1 ∧ RelV p.2 q.2

noncomputable def kV : Key → V
  | .inl i => .int i
  | .inr x => .str x

inductive HO where
  /-- a list -/
  | lst (xs : List V)
  /-- a tuple (never changes) -/
  | tup (xs : List V)
  /-- a dict whose keys are ints and texts; one whose keys are tuples of ints and texts (the empty one is both) -/
  | dK (kvs : List (Key × V)) | dT (kvs : List (List Key × V))
  /-- a set of ints: its members, its size -/
  | set (S : Int → Bool) (n : Nat)
  /-- an instance of the class at C, its dict at dx, its attributes -/
  | ins (C dx : Addr) (fs : List (Str × V))
  /-- the dict of the instance at x -/
  | own (x : Addr)
  /-- the dict of an exception -/
  | xd (fs : List (Str × V))
  /-- a bound method, f of x -/
  | met (f x : Addr)
  /-- a range object lo, lo + 1, .. below hi -/
  | rng (lo hi : Int)
  /-- a thing that is known to the object (the script; a dict while a loop walks it): read, never written while it is so -/
  | frz (o : Obj) (u : HO)
  /-- a code object's table -/
  | tbl (ps : Array Value)
  /-- any other thing, by what is true of its one object (a def of one's own: SetO a S n := HO.ext fun h => ..) -/
  | ext (φ : Heap → Prop)

noncomputable abbrev Hp := Addr → Option HO
noncomputable def upd (H : Hp) (a : Addr) (o : HO) : Hp := fun b => if b = a then some o else H b
theorem upd_same {H : Hp} {a : Addr} {o : HO} : upd H a o a = some o := by unfold upd; rw [if_pos rfl]
theorem upd_ne {H : Hp} {a b : Addr} {o : HO} (h : b ≠ a) : upd H a o b = H b := by unfold upd; rw [if_neg h]
theorem ne_of {H : Hp} {a b : Addr} {o u : HO} (h : H a = some o) (h' : H b = some u) (d : o ≠ u) : a ≠ b := by
  intro e; subst e; rw [h] at h'; exact d (Option.some.inj h')
theorem ne_of_none {H : Hp} {a b : Addr} {o : HO} (h : H a = some o) (h' : H b = none) : a ≠ b := by
  intro e; subst e; rw [h] at h'; cases h'

section
variable (P : Program) (w : World)
noncomputable def ObjOk (H : Hp) (h : Heap) (a : Addr) : HO → Prop
  | .lst xs => xs.length ≤ sizeLine ∧ ∃ (its : List Value) (n : Nat), Vals xs its ∧ h.get? a = some { cls := .type "list", data := .seq its.toArray n }
  | .tup xs => xs.length ≤ sizeLine ∧ ∃ its : List Value, Vals xs its ∧ IsTup h a its.toArray
  | .dK kvs => kvs.length ≤ sizeLine ∧ (a == sysModules) = false ∧ ∃ vs, KV kvs vs ∧ h.DictOf (mixKind P w) a vs
  | .dT kvs => kvs.length ≤ sizeLine ∧ (a == sysModules) = false ∧ ∃ xs : List (List Key × Addr × Value),
      Paired (fun (p : List Key × V) (q : List Key × Addr × Value) => p.1 = q.1 ∧ H q.2.1 = some (.tup (p.1.map kV)) ∧ RelV p.2 q.2.2) kvs xs ∧
      ∃ o es ep, h.get? a = some o ∧ o.ExactDict ∧ o.data = .dict es ep ∧ es.toList = xs.map (entryOfKey (tupleKind (mixKind P w))) ∧ (xs.map (·.1)).Nodup
  | .set S n => h.SetOf (intKind P w) a S n
  | .ins C dx fs => H dx = some (.own a) ∧ fs.length ≤ 1000 ∧ dx ≠ a ∧ h.get? a = some (PySem.W.instObj C dx) ∧
      ∃ mA, h.Ns1 dx mA ∧ (∀ f, RelO (fs.lookup f) (mA f)) ∧ PySem.Within mA (fs.map (·.1))
  | .own _ => ∃ o, h.get? a = some o
  | .xd fs => ∃ mA, h.Ns1 a mA ∧ ∀ f, RelO (fs.lookup f) (mA f)
  | .rng lo hi => ∃ t u v, h.get? a = some { cls := .type "range", data := .fields #[.int lo t, .int hi u, .int 1 v] }
  | .frz o u => h.get? a = some o ∧ ObjOk H h a u
  | .tbl ps => h.get? a = some { cls := .none, data := .fields ps }
  | .met f x => h.get? a = some (PySem.W.methodObj (.ref f) (.ref x))
  | .ext φ => φ h ∧ (∃ o, h.get? a = some o) ∧ ∀ h1 h2 : Heap, φ h1 → (∀ o, h1.get? a = some o → h2.get? a = some o) → φ h2
noncomputable def HOk (H : Hp) (h : Heap) : Prop := ∀ a o, H a = some o → ObjOk P w H h a o
end

section
variable {P : Program} {w : World} {H H' : Hp} {h h' : Heap} {a : Addr} {o : HO}
theorem ObjOk.lt (x : ObjOk P w H h a o) : a < h.objs.size := by
  cases o with
  | lst xs => obtain ⟨_, _, _, _, e⟩ := x; exact Heap.lt_size e
  | tup xs => obtain ⟨_, _, _, p⟩ := x; exact p.lt
  | dK kvs => obtain ⟨_, _, _, _, o, _, _, e, _⟩ := x; exact Heap.lt_size e
  | dT kvs => obtain ⟨_, _, _, _, o, _, _, e, _⟩ := x; exact Heap.lt_size e
  | set S n => obtain ⟨o, _, _, _, e, _⟩ := x; exact Heap.lt_size e
  | ins C dx fs => obtain ⟨_, _, _, e, _⟩ := x; exact Heap.lt_size e
  | own y => obtain ⟨_, e⟩ := x; exact Heap.lt_size e
  | xd fs => obtain ⟨_, ⟨_, _, _, e, _⟩, _⟩ := x; exact Heap.lt_size e
  | rng lo hi => obtain ⟨_, _, _, e⟩ := x; exact Heap.lt_size e
  | frz ob u => obtain ⟨e, _⟩ := x; exact Heap.lt_size e
  | tbl ps => exact Heap.lt_size (show h.get? a = some _ from x)
  | met f y => exact Heap.lt_size (show h.get? a = some _ from x)
  | ext φ => obtain ⟨_, ⟨_, e⟩, _⟩ := x; exact Heap.lt_size e
theorem Paired.mapP {α β : Type} {F G : α → β → Prop} : ∀ {l₁ : List α} {l₂ : List β}, Paired F l₁ l₂ → (∀ a b, F a b → G a b) → Paired G l₁ l₂
  | _, _, .nil, _ => .nil
  | _, _, .cons r t, f => .cons (f _ _ r) (Paired.mapP t f)
theorem ObjOk.stay (x : ObjOk P w H h a o) (k : ∀ b u, (b = a ∨ H b = some (.own a)) → h.get? b = some u → h'.get? b = some u)
    (ho : ∀ b, H b = some (.own a) → H' b = some (.own a)) (ht : ∀ b xs, H b = some (.tup xs) → H' b = some (.tup xs)) : ObjOk P w H' h' a o := by
  induction o with
  | lst xs => obtain ⟨z, its, n, r, e⟩ := x; exact ⟨z, its, n, r, k _ _ (.inl rfl) e⟩
  | tup xs => obtain ⟨z, its, r, ob, e, c⟩ := x; exact ⟨z, its, r, ob, k _ _ (.inl rfl) e, c⟩
  | dK kvs => obtain ⟨z, y, vs, r, ob, es, ep, e, c⟩ := x; exact ⟨z, y, vs, r, ob, es, ep, k _ _ (.inl rfl) e, c⟩
  | dT kvs =>
    obtain ⟨z, y, xs, r, ob, es, ep, e, c⟩ := x
    exact ⟨z, y, xs, Paired.mapP r fun p q z => ⟨z.1, ht _ _ z.2.1, z.2.2⟩, ob, es, ep, k _ _ (.inl rfl) e, c⟩
  | set S n => obtain ⟨ob, es, ep, t, e, c⟩ := x; exact ⟨ob, es, ep, t, k _ _ (.inl rfl) e, c⟩
  | ins C dx fs =>
    obtain ⟨d, z, ne, e, mA, ⟨od, es, ep, e2, c⟩, r⟩ := x
    exact ⟨ho _ d, z, ne, k _ _ (.inl rfl) e, mA, ⟨od, es, ep, k _ _ (.inr d) e2, c⟩, r⟩
  | own y => obtain ⟨ob, e⟩ := x; exact ⟨ob, k _ _ (.inl rfl) e⟩
  | xd fs => obtain ⟨mA, ⟨od, es, ep, e, c⟩, r⟩ := x; exact ⟨mA, ⟨od, es, ep, k _ _ (.inl rfl) e, c⟩, r⟩
  | rng lo hi => obtain ⟨t, u, v, e⟩ := x; exact ⟨t, u, v, k _ _ (.inl rfl) e⟩
  | frz ob u ih => obtain ⟨e, q⟩ := x; exact ⟨k _ _ (.inl rfl) e, ih q⟩
  | tbl ps =>
    have e : h.get? a = some { cls := .none, data := .fields ps } := x
    show h'.get? a = some { cls := .none, data := .fields ps }
    exact k a _ (.inl rfl) e
  | met f y =>
    have e : h.get? a = some (PySem.W.methodObj (.ref f) (.ref y)) := x
    show h'.get? a = some (PySem.W.methodObj (.ref f) (.ref y))
    exact k a _ (.inl rfl) e
  | ext φ => obtain ⟨p, ⟨o, e⟩, st⟩ := x; exact ⟨st _ _ p fun o q => k _ _ (.inl rfl) q, ⟨o, k _ _ (.inl rfl) e⟩, st⟩
theorem HOk.lt (x : HOk P w H h) (e : H a = some o) : a < h.objs.size := (x a o e).lt
theorem HOk.fresh (x : HOk P w H h) (e : h.objs.size ≤ a) : H a = none := by
  cases q : H a with
  | none => rfl
  | some u => exact absurd (Nat.lt_of_lt_of_le (x.lt q) e) (Nat.lt_irrefl _)
theorem HOk.kept (x : HOk P w H h) (k : ∀ b u, h.get? b = some u → h'.get? b = some u) : HOk P w H h' := fun a o e =>
  (x a o e).stay (fun b u _ q => k b u q) (fun _ q => q) fun _ _ q => q
theorem HOk.laid (x : HOk P w H h) (k : ∀ b u, h.get? b = some u → h'.get? b = some u) (hp : h.objs.size ≤ a) (new : ObjOk P w (upd H a o) h' a o) : HOk P w (upd H a o) h' := fun b u e => by
  have hn := x.fresh hp
  by_cases hb : b = a
  · subst hb; rw [upd_same] at e; cases e; exact new
  · rw [upd_ne hb] at e
    exact (x b u e).stay (fun c v _ q => k c v q) (fun c q => by rw [upd_ne (ne_of_none q hn)]; exact q) fun c xs q => by rw [upd_ne (ne_of_none q hn)]; exact q
end

noncomputable def Rd (H : Hp) (a : Addr) (u : HO) : Prop := H a = some u ∨ ∃ o, H a = some (.frz o u)
theorem Rd.ok {P : Program} {w : World} {H : Hp} {h : Heap} {a : Addr} {u : HO} (r : Rd H a u) (x : HOk P w H h) : ObjOk P w H h a u := by
  rcases r with r | ⟨o, r⟩
  · exact x a u r
  · obtain ⟨_, q⟩ := x a _ r
    exact q
noncomputable def Mut : Option HO → Prop
  | some (.lst _) => True
  | some (.dK _) => True
  | some (.dT _) => True
  | some (.set _ _) => True
  | some (.ins _ _ _) => True
  | some (.ext _) => True
  | _ => False
section
variable {P : Program} {w : World} {H : Hp} {h h' : Heap} {x e : Addr} {o' : HO}
theorem HOk.write (ok : HOk P w H h) (mu : Mut (H x)) (he : e = x ∨ H e = some (.own x)) (k : ∀ b u, b ≠ e → h.get? b = some u → h'.get? b = some u) (heo : ∃ u, h'.get? e = some u)
    (new : ObjOk P w (upd H x o') h' x o') : HOk P w (upd H x o') h' := fun b u q => by
  have nown : ∀ c y, H c = some (.own y) → c ≠ x := fun c y r z => by subst z; rw [r] at mu; exact mu
  have ntup : ∀ c xs, H c = some (.tup xs) → c ≠ x := fun c xs r z => by subst z; rw [r] at mu; exact mu
  by_cases hb : b = x
  · subst hb; rw [upd_same] at q; cases q; exact new
  · rw [upd_ne hb] at q
    by_cases hbe : b = e
    · have q' : H b = some (.own x) := by
        rcases he with z | z
        · exact absurd (hbe.trans z) hb
        · rw [hbe]; exact z
      rw [q] at q'; cases q'
      obtain ⟨v, hv⟩ := heo
      exact ⟨v, by rw [hbe]; exact hv⟩
    · refine (ok b u q).stay (fun c v hc r => k c v ?_ r) (fun c r => by rw [upd_ne (nown c b r)]; exact r) fun c xs r => by rw [upd_ne (ntup c xs r)]; exact r
      rcases hc with rfl | hc
      · exact hbe
      · rintro rfl
        rcases he with z | z
        · exact nown c b hc z
        · rw [hc] at z; cases z; exact hb rfl
end

set_option genInjectivity false in
set_option genSizeOf false in
structure Un (fs ex : List Addr) (H H' : Hp) (h h' : Heap) : Prop where
  keep : ∀ b o, h.get? b = some o → H b = none → b ∉ fs → b ∉ ex → h'.get? b = some o
  slot : ∀ b o, h.get? b = some o → H b = none → b ∈ fs → b ∉ ex → ∃ sl, h'.get? b = some { o with slots := sl }
  free : ∀ b o, h.get? b = some o → H b = none → b ∉ ex → H' b = none
  there : ∀ b o, h.get? b = some o → b ∉ ex → ∃ o', h'.get? b = some o'
  tups : ∀ b xs, H b = some (.tup xs) → H' b = some (.tup xs)
  frzs : ∀ b o u, H b = some (.frz o u) → H' b = some (.frz o u)
  tbls : ∀ b ps, H b = some (.tbl ps) → ∃ more, H' b = some (.tbl (ps ++ more))
section
variable {fs fs' ex ex' : List Addr} {H H1 H2 : Hp} {h h1 h2 h' : Heap} {a x e : Addr} {o : HO}
theorem Un.any (u : Un fs ex H H1 h h1) {b : Addr} {ob : Obj} (q : h.get? b = some ob) (n : H b = none) (hx : b ∉ ex) : ∃ sl, h1.get? b = some { ob with slots := sl } := by
  by_cases hb : b ∈ fs
  · exact u.slot b ob q n hb hx
  · exact ⟨ob.slots, u.keep b ob q n hb hx⟩
theorem Un.kept (k : ∀ b u, h.get? b = some u → h'.get? b = some u) : Un fs ex H H h h' :=
  ⟨fun b ob q _ _ _ => k b ob q, fun b ob q _ _ _ => ⟨ob.slots, k b ob q⟩, fun _ _ _ n _ => n, fun b ob q _ => ⟨ob, k b ob q⟩, fun _ _ q => q, fun _ _ _ q => q, fun _ ps q => ⟨#[], by rw [q]; simp⟩⟩
theorem Un.refl : Un fs ex H H h h := Un.kept fun _ _ q => q
theorem Un.laid (k : ∀ b u, h.get? b = some u → h'.get? b = some u) (hp : h.objs.size ≤ a) (hn : H a = none) : Un fs ex H (upd H a o) h h' where
  keep := fun b u q _ _ _ => k b u q
  slot := fun b u q _ _ _ => ⟨u.slots, k b u q⟩
  free := fun b u q n _ => by rw [upd_ne (Nat.ne_of_lt (Nat.lt_of_lt_of_le (Heap.lt_size q) hp))]; exact n
  there := fun b u q _ => ⟨u, k b u q⟩
  tups := fun b xs q => by rw [upd_ne (ne_of_none q hn)]; exact q
  frzs := fun b u xs q => by rw [upd_ne (ne_of_none q hn)]; exact q
  tbls := fun b ps q => ⟨#[], by rw [upd_ne (ne_of_none q hn), q]; simp⟩
theorem Un.write (mu : Mut (H x)) (he : e = x ∨ H e = some (.own x)) (k : ∀ b u, b ≠ e → h.get? b = some u → h'.get? b = some u) (heo : ∃ u, h'.get? e = some u) : Un fs ex H (upd H x o) h h' := by
  have hx : ∀ b, H b = none → b ≠ x := fun b n z => by subst z; rw [n] at mu; exact mu
  have hb : ∀ b, H b = none → b ≠ e := fun b n z => by
    subst z
    rcases he with r | r
    · exact hx b n r
    · rw [n] at r; cases r
  have hm : ∀ b u, H b = some u → ¬ Mut (some u) → b ≠ x := fun b u q nm z => by subst z; rw [q] at mu; exact nm mu
  refine ⟨fun b u q n _ _ => k b u (hb b n) q, fun b u q n _ _ => ⟨u.slots, k b u (hb b n) q⟩, fun b u q n _ => by rw [upd_ne (hx b n)]; exact n, fun b u q _ => ?_,
    fun b xs q => by rw [upd_ne (hm b _ q fun z => z)]; exact q, fun b u xs q => by rw [upd_ne (hm b _ q fun z => z)]; exact q, fun b ps q => ⟨#[], by rw [upd_ne (hm b _ q fun z => z), q]; simp⟩⟩
  by_cases hbe : b = e
  · subst hbe; exact heo
  · exact ⟨u, k b u hbe q⟩
end

noncomputable def trk (h : Heap) (H : Hp) : List Addr := (List.range h.objs.size).filter fun a => (H a).isSome
noncomputable def hidT (h : Heap) (H : Hp) : Heap := PySem.W.hideAll h (trk h H)
theorem hidT_size (h : Heap) (H : Hp) : (hidT h H).objs.size = h.objs.size := PySem.W.hideAll_size _ _
theorem hidT_get {h : Heap} {H : Hp} {b : Addr} {o : Obj} (e : h.get? b = some o) (n : H b = none) : (hidT h H).get? b = some o :=
  PySem.W.hideAll_get _ e fun hm => by
    have q : (H b).isSome = true := (List.mem_filter.mp hm).2
    rw [n] at q; simp at q
theorem of_hidT {h : Heap} {H : Hp} {b : Addr} {o : Obj} (e : (hidT h H).get? b = some o) : h.get? b = some o ∧ H b = none := by
  have e' : h.get? b = some o := PySem.W.of_hideAll (trk h H) e
  refine ⟨e', ?_⟩
  cases q : H b with
  | none => rfl
  | some x =>
    have hm : b ∈ trk h H := List.mem_filter.mpr ⟨List.mem_range.mpr (Heap.lt_size e'), by simp [q]⟩
    have z : (hidT h H).get? b = none := PySem.W.hideAll_none (trk h H) hm
    rw [z] at e; cases e

noncomputable def allNews (g h : Heap) (L : Addr) : List (Addr × Obj) := (List.range h.objs.size).filterMap fun a => if a = L ∨ (g.get? a).isSome = true then none else (h.get? a).map fun o => (a, o)
noncomputable def rest (g h : Heap) (L d : Addr) : List (Addr × Obj) := (allNews g h L).filter fun p => decide (p.1 ≠ d)
end Internal

namespace Internal
open PySem PySem.Spec PyProof.Rows

set_option genInjectivity false in
set_option genSizeOf false in
structure Mod (K : PySem.W.Frag) (mg : Str → Option Value) (base : Heap) : Prop where
  kin : K.In base
  glob : base.Ns mainGlobals mg
  blt : ∃ mb, base.Ns builtinsNs mb ∧ ∀ x : Str, x ≠ "__name__" → mb x = bootBuiltins x
  nolimit : base.NoLimit

set_option genSizeOf false in
structure Cx where
  prog : Program
  w : World
  K : PySem.W.Frag
  mg : Str → Option Value
  base : Heap
  A : Around
  N : List Str
  s₀ : Shared
  H₀ : Hp
  env : Env
  outer : List Env
  stack : List Env
  ex : List Addr
  fn : Str → Bool
  calm : Bool
  pn : List (Addr × Obj)
  xe : Value → Shared → Prop
noncomputable def frs (l : List Env) : List Addr := l.filterMap (·.frame)
noncomputable abbrev Cx.fs (X : Cx) : List Addr := frs X.outer

noncomputable def Vis (sc : Scope) (x : Str) : Prop := sc.names.lookup x = some .local ∨ sc.names.lookup x = some .cell ∨ sc.names.lookup x = some .free
noncomputable def Loc (sc : Scope) (x : Str) : Prop := sc.names.lookup x = some .local ∨ sc.names.lookup x = some .cell
noncomputable def Look (env : Env) (h : Heap) (m : Str → Option Value) (x : Str) (u : Value) : Prop :=
  (env.kindOf x = some .local ∧ m x = some u) ∨ ((env.kindOf x = some .cell ∨ env.kindOf x = some .free) ∧ ∃ c, env.cells.lookup x = some c ∧ h.IsCell c (some u))

set_option genSizeOf false in
structure Cx.Ok (X : Cx) : Prop where
  mod : Mod X.K X.mg X.base
  kind : X.env.scope.kind = .function
  glob : X.env.globals = mainGlobals
  blt : X.env.builtins = builtinsNs
  above : X.s₀.heap.objs.size ≤ X.env.locals
  inj : ∀ x y c, X.env.cells.lookup x = some c → X.env.cells.lookup y = some c → x = y
  has : ∀ x, (X.env.kindOf x = some .cell ∨ X.env.kindOf x = some .free) → ∃ c, X.env.cells.lookup x = some c
  cab : ∀ x c, X.fn x = true → X.env.cells.lookup x = some c → X.s₀.heap.objs.size ≤ c
  hd : X.calm = true → X.A.handled = none
  frames : X.A.frames = some X.stack
  stk : X.stack = X.outer ∨ (X.stack = X.env :: X.outer ∧ X.env.frame = some X.env.locals)
  exf : ∀ b ∈ X.ex, b ≠ X.env.locals ∧ ∀ x c, X.env.cells.lookup x = some c → c ≠ b
  bs : ∀ b o, X.base.get? b = some o → X.s₀.heap.get? b = some o ∧ X.H₀ b = none
  bsz : X.base.objs.size ≤ X.s₀.heap.objs.size
  noex : ∀ b o, X.base.get? b = some o → b ∉ X.ex
  exfs : ∀ b ∈ X.ex, b ∉ X.fs
  funs : X.s₀.heap.FunFrames X.base X.outer
  frf : ∀ b ∈ X.fs, X.H₀ b = none

set_option genInjectivity false in
set_option genSizeOf false in
structure Inv (X : Cx) (pins : List (Addr × Obj)) (σ : List (Option V)) (H : Hp) (s : Shared) : Prop where
  ok : X.Ok
  os : s.os = X.s₀.os
  bare : AllBare s.gens
  base : Un X.fs X.ex X.H₀ H X.s₀.heap s.heap
  loc : ∃ m, s.heap.Ns X.env.locals m ∧ ∀ (i : Nat) (x : Str) (v : V), X.N[i]? = some x → σ[i]? = some (some v) → Vis X.env.scope x → ∃ u, RelV v u ∧ Look X.env s.heap m x u
  cell : ∀ x c, X.env.cells.lookup x = some c → ∃ v, s.heap.IsCell c v
  free : H X.env.locals = none
  freeC : ∀ x c, X.env.cells.lookup x = some c → H c = none
  pin : ∀ p ∈ X.pn ++ pins, s.heap.get? p.1 = some p.2 ∧ H p.1 = none ∧ p.1 ≠ X.env.locals ∧ p.1 ∉ X.fs ∧ ∀ v, p.2.data ≠ .cell v
  hok : HOk X.prog X.w H s.heap
  len : σ.length = X.N.length

section
variable {X : Cx} {pins : List (Addr × Obj)} {σ : List (Option V)} {H H' : Hp} {s : Shared} {h' : Heap}

theorem Cx.Ok.nofr (ok : X.Ok) {b : Addr} {o : Obj} (e : X.base.get? b = some o) : b ∉ X.fs := fun hb => by
  have := (ok.funs.mem hb).1
  rw [e] at this; cases this
theorem Inv.bs (I : Inv X pins σ H s) : ∀ b o, X.base.get? b = some o → s.heap.get? b = some o ∧ H b = none := fun b o e =>
  ⟨I.base.keep b o (I.ok.bs b o e).1 (I.ok.bs b o e).2 (I.ok.nofr e) (I.ok.noex b o e), I.base.free b o (I.ok.bs b o e).1 (I.ok.bs b o e).2 (I.ok.noex b o e)⟩
theorem Inv.bk (I : Inv X pins σ H s) : ∀ b o, X.base.get? b = some o → s.heap.get? b = some o := fun b o e => (I.bs b o e).1
theorem Inv.mod (I : Inv X pins σ H s) : Mod X.K X.mg X.base := I.ok.mod
theorem Inv.kIn (I : Inv X pins σ H s) : X.K.In s.heap := I.ok.mod.kin.keeps I.bk
theorem Inv.lt (I : Inv X pins σ H s) : X.env.locals < s.heap.objs.size := let ⟨_, hn, _⟩ := I.loc; hn.lt
theorem Inv.sz (I : Inv X pins σ H s) : X.s₀.heap.objs.size ≤ s.heap.objs.size := Nat.le_trans I.ok.above (Nat.le_of_lt I.lt)
theorem Inv.nofs (I : Inv X pins σ H s) {a : Addr} (h : s.heap.objs.size ≤ a) : a ∉ X.fs := fun hb => by
  obtain ⟨_, o, ho, _⟩ := I.ok.funs.mem hb
  exact absurd (Nat.lt_of_lt_of_le (Heap.lt_size ho) (Nat.le_trans I.sz h)) (Nat.lt_irrefl _)
theorem Inv.cne (I : Inv X pins σ H s) : ∀ x c, X.env.cells.lookup x = some c → c ≠ X.env.locals := fun x c e z => by
  obtain ⟨v, o, ho, hd⟩ := I.cell x c e
  obtain ⟨m, ⟨o', es, ep, ho', hd', _⟩, _⟩ := I.loc
  rw [z, ho'] at ho; cases ho; rw [hd'] at hd; cases hd
theorem Inv.funs (I : Inv X pins σ H s) : s.heap.FunFrames X.base X.outer := by
  have all : ∀ (l : List Env), (∀ b ∈ frs l, b ∈ X.fs) → X.s₀.heap.FunFrames X.base l → s.heap.FunFrames X.base l := by
    intro l
    induction l with
    | nil => intro _ _; trivial
    | cons env r ih =>
      intro hs hl
      obtain ⟨hk, ⟨L, o, hf, hn, ho, hd⟩, hr⟩ := hl
      have hL : L ∈ X.fs := hs L (by unfold frs; rw [List.filterMap_cons, hf]; exact List.mem_cons_self)
      obtain ⟨sl, e⟩ := I.base.slot L o ho (I.ok.frf L hL) hL fun z => I.ok.exfs L z hL
      exact ⟨hk, ⟨L, _, hf, hn, e, hd⟩, ih (fun b hb => hs b (by unfold frs; rw [List.filterMap_cons, hf]; exact List.mem_cons_of_mem _ hb)) hr⟩
  exact all X.outer (fun _ hb => hb) I.ok.funs

theorem Inv.stack (I : Inv X pins σ H s) : s.heap.FunFrames X.base X.stack := by
  rcases I.ok.stk with e | ⟨e, hf⟩
  · rw [e]; exact I.funs
  · rw [e]
    obtain ⟨m, hn, _⟩ := I.loc
    refine .cons (by rw [I.ok.kind]; decide) hf hn ?_ I.funs
    exact Heap.get?_none_of_le (Nat.le_trans I.ok.bsz I.ok.above)
theorem Inv.stkSub (I : Inv X pins σ H s) : ∀ b ∈ frs X.stack, b ∈ X.env.locals :: X.fs := fun b hb => by
  rcases I.ok.stk with e | ⟨e, hf⟩
  · rw [e] at hb; exact List.mem_cons_of_mem _ hb
  · rw [e] at hb
    unfold frs at hb
    rw [List.filterMap_cons, hf] at hb
    exact hb
theorem Inv.stkFree (I : Inv X pins σ H s) : ∀ b ∈ frs X.stack, H b = none := fun b hb => by
  rcases List.mem_cons.mp (I.stkSub b hb) with e | hb
  · rw [e]; exact I.free
  · obtain ⟨_, o, ho, _⟩ := I.ok.funs.mem hb
    exact I.base.free b o ho (I.ok.frf b hb) fun z => I.ok.exfs b z hb

theorem Inv.step {g' : Array GenState} {t' : Nat} {d' : Drawn} {ch : List Addr} (I : Inv X pins σ H s)
    (hch : ∀ b ∈ ch, (b ∈ X.ex ∨ X.s₀.heap.objs.size ≤ b) ∧ b ≠ X.env.locals ∧ (∀ x c, X.env.cells.lookup x = some c → c ≠ b) ∧ ∀ p ∈ X.pn ++ pins, p.1 ≠ b)
    (keep : ∀ b o, b ≠ X.env.locals → b ∉ X.fs → b ∉ ch → s.heap.get? b = some o → H b = none → h'.get? b = some o)
    (slot : ∀ b o, b ≠ X.env.locals → b ∈ X.fs → b ∉ ch → s.heap.get? b = some o → H b = none → ∃ sl, h'.get? b = some { o with slots := sl }) (free : ∀ b o, b ∉ ch → s.heap.get? b = some o → H b = none → H' b = none)
    (there : ∀ b o, b ∉ ch → s.heap.get? b = some o → ∃ o', h'.get? b = some o')
    (tups : ∀ b xs, H b = some (.tup xs) → H' b = some (.tup xs)) (frzs : ∀ b o u, H b = some (.frz o u) → H' b = some (.frz o u)) (tbls : ∀ b ps, H b = some (.tbl ps) → ∃ more, H' b = some (.tbl (ps ++ more)))
    (ns : ∀ m, s.heap.Ns X.env.locals m → h'.Ns X.env.locals m) (hok : HOk X.prog X.w H' h') (hg : AllBare g') :
    Inv X pins σ H' { s with heap := h', gens := g', drawn := d', toks := t' } := by
  have neL : ∀ b o, X.s₀.heap.get? b = some o → b ≠ X.env.locals := fun b o e => Nat.ne_of_lt (Nat.lt_of_lt_of_le (Heap.lt_size e) I.ok.above)
  have neC : ∀ b o, X.s₀.heap.get? b = some o → b ∉ X.ex → b ∉ ch := fun b o e hx hb => by
    rcases (hch b hb).1 with z | z
    · exact hx z
    · exact absurd (Nat.lt_of_lt_of_le (Heap.lt_size e) z) (Nat.lt_irrefl _)
  have cellK : ∀ x c, X.env.cells.lookup x = some c → ∀ v, s.heap.IsCell c v → h'.IsCell c v := fun x c e v ⟨o, ho, hd⟩ => by
    have nch : c ∉ ch := fun z => (hch c z).2.2.1 x c e rfl
    by_cases hc : c ∈ X.fs
    · obtain ⟨sl, q⟩ := slot c o (I.cne x c e) hc nch ho (I.freeC x c e)
      exact ⟨_, q, hd⟩
    · exact ⟨o, keep c o (I.cne x c e) hc nch ho (I.freeC x c e), hd⟩
  refine ⟨I.ok, I.os, hg, ⟨fun b o e n hb hx => ?_, fun b o e n hb hx => ?_, fun b o e n hx => ?_, fun b o e hx => ?_, fun b xs e => tups b xs (I.base.tups b xs e), fun b o xs e => frzs b o xs (I.base.frzs b o xs e), fun b ps e => ?_⟩, ?_, fun x c e => ?_, ?_, fun x c e => ?_, fun p hp => ?_, hok, I.len⟩
  · exact keep b o (neL b o e) hb (neC b o e hx) (I.base.keep b o e n hb hx) (I.base.free b o e n hx)
  · obtain ⟨sl, e1⟩ := I.base.slot b o e n hb hx
    obtain ⟨sl', e2⟩ := slot b _ (neL b o e) hb (neC b o e hx) e1 (I.base.free b o e n hx)
    exact ⟨sl', e2⟩
  · obtain ⟨o', e1⟩ := I.base.there b o e hx
    exact free b o' (neC b o e hx) e1 (I.base.free b o e n hx)
  · obtain ⟨o', e1⟩ := I.base.there b o e hx
    exact there b o' (neC b o e hx) e1
  · obtain ⟨m1, e1⟩ := I.base.tbls b ps e
    obtain ⟨m2, e2⟩ := tbls b _ e1
    exact ⟨m1 ++ m2, by rw [e2, Array.append_assoc]⟩
  · obtain ⟨m, hn, hl⟩ := I.loc
    refine ⟨m, ns m hn, fun i x v e1 e2 e3 => ?_⟩
    obtain ⟨u, r, l⟩ := hl i x v e1 e2 e3
    refine ⟨u, r, ?_⟩
    rcases l with l | ⟨k, c, e, z⟩
    · exact .inl l
    · exact .inr ⟨k, c, e, cellK x c e _ z⟩
  · obtain ⟨v, z⟩ := I.cell x c e
    exact ⟨v, cellK x c e v z⟩
  · obtain ⟨m, ⟨o, _, _, ho, _⟩, _⟩ := I.loc
    exact free _ o (fun z => (hch _ z).2.1 rfl) ho I.free
  · obtain ⟨v, o, ho, hd⟩ := I.cell x c e
    exact free c o (fun z => (hch c z).2.2.1 x c e rfl) ho (I.freeC x c e)
  · obtain ⟨e, n, ne, nf, d⟩ := I.pin p hp
    have nch : p.1 ∉ ch := fun z => (hch p.1 z).2.2.2 p hp rfl
    exact ⟨keep p.1 p.2 ne nf nch e n, free p.1 p.2 nch e n, ne, nf, d⟩
theorem Inv.un {t' : Nat} (I : Inv X pins σ H s) (u : Un X.fs [] H H' s.heap h') (hok : HOk X.prog X.w H' h') : Inv X pins σ H' { s with heap := h', toks := t' } := by
  obtain ⟨m, ⟨o, es, ep, ho, r⟩, _⟩ := id I.loc
  obtain ⟨sl, hL⟩ := u.any ho I.free (by simp)
  exact I.step (g' := s.gens) (d' := s.drawn) (ch := []) (fun _ z => nomatch z) (fun b o _ hb _ e n => u.keep b o e n hb (by simp)) (fun b o _ hb _ e n => u.slot b o e n hb (by simp)) (fun b o _ e n => u.free b o e n (by simp)) (fun b o _ e => u.there b o e (by simp)) u.tups u.frzs u.tbls (fun m' hm => by
    obtain ⟨o', es', ep', ho', r'⟩ := hm
    rw [ho] at ho'; cases ho'
    exact ⟨_, es', ep', hL, r'⟩) hok I.bare
theorem Inv.call {g' : Array GenState} {t' : Nat} {d' : Drawn} {ch : List Addr} (I : Inv X pins σ H s) (u : Un (frs X.stack) ch H H' s.heap h') (hok : HOk X.prog X.w H' h') (hg : AllBare g')
    (hch : ∀ b ∈ ch, (b ∈ X.ex ∨ X.s₀.heap.objs.size ≤ b) ∧ b ≠ X.env.locals ∧ (∀ x c, X.env.cells.lookup x = some c → c ≠ b) ∧ ∀ p ∈ X.pn ++ pins, p.1 ≠ b) :
    Inv X pins σ H' { s with heap := h', gens := g', drawn := d', toks := t' } := by
  obtain ⟨m, ⟨o, es, ep, ho, r⟩, _⟩ := id I.loc
  obtain ⟨sl, hL⟩ := u.any ho I.free fun z => (hch _ z).2.1 rfl
  exact I.step (ch := ch) hch (fun b o hL hb hc e n => u.keep b o e n (fun z => (List.mem_cons.mp (I.stkSub b z)).elim hL hb) hc) (fun b o _ _ hc e n => u.any e n hc) (fun b o hc e n => u.free b o e n hc) (fun b o hc e => u.there b o e hc) u.tups u.frzs u.tbls (fun m' hm => by
    obtain ⟨o', es', ep', ho', r'⟩ := hm
    rw [ho] at ho'; cases ho'
    exact ⟨_, es', ep', hL, r'⟩) hok hg
theorem Inv.turned {t' : Nat} {it : Addr} (I : Inv X pins σ H s) (k : ∀ b o, b ≠ it → s.heap.get? b = some o → h'.get? b = some o) (hn : H it = none) (hL : it ≠ X.env.locals)
    (h1 : it ∈ X.ex ∨ X.s₀.heap.objs.size ≤ it) (h2 : ∀ x c, X.env.cells.lookup x = some c → c ≠ it) (h3 : ∀ p ∈ X.pn ++ pins, p.1 ≠ it) : Inv X pins σ H { s with heap := h', toks := t' } := by
  have nit : ∀ b u, H b = some u → b ≠ it := fun b u e z => by rw [z, hn] at e; cases e
  refine I.step (g' := s.gens) (d' := s.drawn) (ch := [it]) (fun b hb => ?_) (fun b o _ _ hc e _ => k b o (fun z => hc (by simp [z])) e) (fun b o _ _ hc e _ => ⟨o.slots, k b o (fun z => hc (by simp [z])) e⟩) (fun _ _ _ _ n => n)
    (fun b o hc e => ⟨o, k b o (fun z => hc (by simp [z])) e⟩) (fun _ _ e => e) (fun _ _ _ e => e) (fun b ps e => ⟨#[], by rw [e]; simp⟩) (fun m hm => ?_) (fun b u e => ?_) I.bare
  · have e : b = it := by simpa using hb
    subst e
    exact ⟨h1, hL, h2, h3⟩
  · obtain ⟨o, es, ep, ho, r⟩ := hm
    exact ⟨o, es, ep, k _ o (Ne.symm hL) ho, r⟩
  · refine (I.hok b u e).stay (fun c v hc q => k c v ?_ q) (fun _ q => q) fun _ _ q => q
    rcases hc with z | z
    · rw [z]; exact nit b u e
    · exact nit c _ z
theorem Inv.tok (I : Inv X pins σ H s) (t : Nat) : Inv X pins σ H { s with toks := t } := I.un (h' := s.heap) (t' := t) Un.refl I.hok
theorem Inv.kept {t' : Nat} (I : Inv X pins σ H s) (k : ∀ b u, s.heap.get? b = some u → h'.get? b = some u) : Inv X pins σ H { s with heap := h', toks := t' } := I.un (Un.kept k) (I.hok.kept k)
theorem Inv.laid {a : Addr} {o : HO} {t' : Nat} (I : Inv X pins σ H s) (k : ∀ b u, s.heap.get? b = some u → h'.get? b = some u) (hp : s.heap.objs.size ≤ a) (new : ObjOk X.prog X.w (upd H a o) h' a o) :
    Inv X pins σ (upd H a o) { s with heap := h', toks := t' } := I.un (Un.laid k hp (I.hok.fresh hp)) (I.hok.laid k hp new)
theorem Inv.write {x e : Addr} {o : HO} {t' : Nat} (I : Inv X pins σ H s) (mu : Mut (H x)) (he : e = x ∨ H e = some (.own x)) (k : ∀ b u, b ≠ e → s.heap.get? b = some u → h'.get? b = some u) (heo : ∃ u, h'.get? e = some u)
    (new : ObjOk X.prog X.w (upd H x o) h' x o) : Inv X pins σ (upd H x o) { s with heap := h', toks := t' } := I.un (Un.write mu he k heo) (I.hok.write mu he k heo new)
theorem Inv.pins_of {pins' : List (Addr × Obj)} (I : Inv X pins σ H s) (h : ∀ p ∈ pins', s.heap.get? p.1 = some p.2 ∧ H p.1 = none ∧ p.1 ≠ X.env.locals ∧ p.1 ∉ X.fs ∧ ∀ v, p.2.data ≠ .cell v) : Inv X pins' σ H s :=
  ⟨I.ok, I.os, I.bare, I.base, I.loc, I.cell, I.free, I.freeC, fun p hp => (List.mem_append.mp hp).elim (fun z => I.pin p (List.mem_append_left _ z)) (h p), I.hok, I.len⟩

theorem nodup_ix {N : List Str} (hN : N.Nodup) {i j : Nat} {x : Str} (a : N[i]? = some x) (b : N[j]? = some x) : i = j := by
  obtain ⟨h1, e1⟩ := List.getElem?_eq_some_iff.mp a
  obtain ⟨h2, e2⟩ := List.getElem?_eq_some_iff.mp b
  exact (List.getElem_inj hN).mp (e1.trans e2.symm)

theorem store_ok2 {M : Model} {A : Around} {E : Value → Shared → Prop} {i : Nat} {x : Str} {v : V} {u : Value} {Q : Unit → Shared → Prop} (I : Inv X pins σ H s) (hN : X.N.Nodup) (hi : X.N[i]? = some x) (hx : Loc X.env.scope x) (r : RelV v u)
    (h : ∀ s', Inv X pins (σ.set i (some v)) H s' → (∃ a, Heap.SameBut a s.heap s'.heap ∧ (a = X.env.locals ∨ X.env.cells.lookup x = some a)) → Q () s') (hf : autoParam (X.fn x = true ∨ X.env.scope.names.lookup x = some .local) Internal.aut0._auto_1) : wpAny M A (storeName X.env x u) Q E s := by
  obtain ⟨m, hn, hl⟩ := id I.loc
  have hcls : (X.env.scope.kind == .class || (X.env.scope.kind == .module && X.env.locals != X.env.globals)) = false := by rw [I.ok.kind]; rfl
  have hiσ : i < σ.length := by rw [I.len]; exact (List.getElem?_eq_some_iff.mp hi).1
  have cne := I.cne
  have tracked : ∀ {a : Addr} {h' : Heap}, (∃ o, s.heap.get? a = some o ∧ H a = none) → Heap.SameBut a s.heap h' → HOk X.prog X.w H h' := fun {a h'} ha hs b ob e => by
    obtain ⟨_, _, hfree⟩ := ha
    refine (I.hok b ob e).stay (fun c w' hc q => (hs.2 c ?_).trans q) (fun _ q => q) fun _ _ q => q
    rintro rfl
    rcases hc with rfl | hc
    · rw [hfree] at e; cases e
    · rw [hfree] at hc; cases hc
  rcases hx with hk | hk
  · refine wpAny_storeName_local hk hn (fun h' hn' hs => ?_) hcls
    obtain ⟨oL, _, _, hoL, _⟩ := id hn
    refine h _ ⟨I.ok, I.os, I.bare, ⟨fun b o e n hb hx => ?_, fun b o e n hb hx => ?_, I.base.free, fun b o e hx => ?_, I.base.tups, I.base.frzs, I.base.tbls⟩, ⟨_, hn', fun j y v' e1 e2 e3 => ?_⟩, fun y c e => ?_, I.free, I.freeC, fun p hp => ?_, tracked ⟨oL, hoL, I.free⟩ hs, by simpa using I.len⟩ ⟨_, hs, .inl rfl⟩
    · exact (hs.2 b (Nat.ne_of_lt (Nat.lt_of_lt_of_le (Heap.lt_size e) I.ok.above))).trans (I.base.keep b o e n hb hx)
    · obtain ⟨sl, e1⟩ := I.base.slot b o e n hb hx
      exact ⟨sl, (hs.2 b (Nat.ne_of_lt (Nat.lt_of_lt_of_le (Heap.lt_size e) I.ok.above))).trans e1⟩
    · obtain ⟨o', e1⟩ := I.base.there b o e hx
      exact ⟨o', (hs.2 b (Nat.ne_of_lt (Nat.lt_of_lt_of_le (Heap.lt_size e) I.ok.above))).trans e1⟩
    · by_cases hj : j = i
      · subst hj
        rw [hi] at e1; cases e1
        rw [List.getElem?_set_self hiσ] at e2
        cases e2
        exact ⟨u, r, .inl ⟨hk, by simp⟩⟩
      · rw [List.getElem?_set_ne (Ne.symm hj)] at e2
        obtain ⟨u', r', q⟩ := hl j y v' e1 e2 e3
        refine ⟨u', r', ?_⟩
        rcases q with ⟨k, e⟩ | ⟨k, c, e, z⟩
        · refine .inl ⟨k, ?_⟩
          have : y ≠ x := fun e => hj (nodup_ix hN e1 (e ▸ hi))
          simp [this, e]
        · exact .inr ⟨k, c, e, z.sameBut hs (cne y c e)⟩
    · obtain ⟨w', z⟩ := I.cell y c e
      exact ⟨w', z.sameBut hs (cne y c e)⟩
    · obtain ⟨e, n, ne, nf, d⟩ := I.pin p hp
      exact ⟨(hs.2 p.1 ne).trans e, n, ne, nf, d⟩
  · have hfn : X.fn x = true := by
      rcases hf with z | z
      · exact z
      · rw [z] at hk; cases hk
    obtain ⟨c, hc⟩ := I.ok.has x (.inl hk)
    obtain ⟨w', z⟩ := I.cell x c hc
    refine wpAny_storeName_cell I.ok.kind hk hc z (fun h' hc' hs => ?_)
    obtain ⟨oc, hoc, hocd⟩ := id z
    refine h { s with heap := h' } ⟨I.ok, I.os, I.bare, ⟨fun b o e n hb hx => ?_, fun b o e n hb hx => ?_, I.base.free, fun b o e hx => ?_, I.base.tups, I.base.frzs, I.base.tbls⟩, ⟨m, hn.sameBut hs (Ne.symm (cne x c hc)), fun j y v' e1 e2 e3 => ?_⟩, fun y c' e => ?_, I.free, I.freeC, fun p hp => ?_, tracked ⟨oc, hoc, I.freeC x c hc⟩ hs, by simpa using I.len⟩ ⟨c, hs, .inr hc⟩
    · exact (hs.2 b (Nat.ne_of_lt (Nat.lt_of_lt_of_le (Heap.lt_size e) (I.ok.cab x c hfn hc)))).trans (I.base.keep b o e n hb hx)
    · obtain ⟨sl, e1⟩ := I.base.slot b o e n hb hx
      exact ⟨sl, (hs.2 b (Nat.ne_of_lt (Nat.lt_of_lt_of_le (Heap.lt_size e) (I.ok.cab x c hfn hc)))).trans e1⟩
    · obtain ⟨o', e1⟩ := I.base.there b o e hx
      exact ⟨o', (hs.2 b (Nat.ne_of_lt (Nat.lt_of_lt_of_le (Heap.lt_size e) (I.ok.cab x c hfn hc)))).trans e1⟩
    · by_cases hj : j = i
      · subst hj
        rw [hi] at e1; cases e1
        rw [List.getElem?_set_self hiσ] at e2
        cases e2
        exact ⟨u, r, .inr ⟨.inl hk, c, hc, hc'⟩⟩
      · rw [List.getElem?_set_ne (Ne.symm hj)] at e2
        obtain ⟨u', r', q⟩ := hl j y v' e1 e2 e3
        refine ⟨u', r', ?_⟩
        rcases q with q | ⟨k, c', e, z'⟩
        · exact .inl q
        · refine .inr ⟨k, c', e, z'.sameBut hs ?_⟩
          rintro rfl
          exact hj (nodup_ix hN e1 (I.ok.inj _ _ _ e hc ▸ hi))
    · by_cases hcc : c' = c
      · subst hcc; exact ⟨_, hc'⟩
      · obtain ⟨w2, z2⟩ := I.cell y c' e
        exact ⟨w2, z2.sameBut hs hcc⟩
    · obtain ⟨e, n, ne, nf, d⟩ := I.pin p hp
      refine ⟨(hs.2 p.1 ?_).trans e, n, ne, nf, d⟩
      intro q
      rw [q, hoc] at e
      have q' : oc = p.2 := Option.some.inj e
      exact d w' (by rw [← q']; exact hocd)
theorem store_ok {M : Model} {A : Around} {E : Value → Shared → Prop} {i : Nat} {x : Str} {v : V} {u : Value} {Q : Unit → Shared → Prop} (I : Inv X pins σ H s) (hN : X.N.Nodup) (hi : X.N[i]? = some x) (hx : Loc X.env.scope x) (r : RelV v u)
    (h : ∀ s', Inv X pins (σ.set i (some v)) H s' → Q () s') (hf : autoParam (X.fn x = true ∨ X.env.scope.names.lookup x = some .local) Internal.aut0._auto_1) : wpAny M A (storeName X.env x u) Q E s :=
  store_ok2 I hN hi hx r (fun s' I' _ => h s' I') hf
end

noncomputable abbrev XK := Value → Option Addr → Hp → Prop
noncomputable abbrev St := List (Option V)
noncomputable abbrev VK := V → Hp → Prop
noncomputable abbrev TE := St → Hp → VK → Prop
noncomputable abbrev TT := St → Hp → (Bool → Hp → Prop) → Prop
noncomputable abbrev TA := St → Hp → (List V → Hp → Prop) → Prop
set_option genInjectivity false in
set_option genSizeOf false in
structure Ends where
  nx : St → Hp → Prop
  rt : VK
  bk : St → Hp → Prop := fun _ _ => False
  ct : St → Hp → Prop := fun _ _ => False
noncomputable abbrev TS := Ends → St → Hp → Prop

noncomputable def EP (X : Cx) (pins : List (Addr × Obj)) (σ : St) (Q : VK) (u : Value) (s' : Shared) : Prop := ∃ v H', Inv X pins σ H' s' ∧ RelV v u ∧ Q v H'
noncomputable def TP (X : Cx) (pins : List (Addr × Obj)) (σ : St) (Q : Bool → Hp → Prop) (b : Bool) (s' : Shared) : Prop := ∃ H', Inv X pins σ H' s' ∧ Q b H'
noncomputable def AP (X : Cx) (pins : List (Addr × Obj)) (σ : St) (Q : List V → Hp → Prop) (us : List Value) (s' : Shared) : Prop := ∃ vs H', Inv X pins σ H' s' ∧ Vals vs us ∧ Q vs H'
noncomputable def SP (X : Cx) (pins : List (Addr × Obj)) (D : Ends) (f : Flow) (s' : Shared) : Prop :=
  match f with
  | .next => ∃ σ' H', Inv X pins σ' H' s' ∧ D.nx σ' H'
  | .brk => ∃ σ' H', Inv X pins σ' H' s' ∧ D.bk σ' H'
  | .cont => ∃ σ' H', Inv X pins σ' H' s' ∧ D.ct σ' H'
  | .ret u => ∃ v σ' H', Inv X pins σ' H' s' ∧ RelV v u ∧ D.rt v H'

noncomputable def PE (X : Cx) (e : Expr) (t : TE) : Prop :=
  ∀ (pins : List (Addr × Obj)) (s : Shared) (σ : St) (H : Hp) (Q : VK), Inv X pins σ H s → t σ H Q → wpAny (model X.prog X.w) X.A (eval e X.env) (EP X pins σ Q) X.xe s
noncomputable def PT (X : Cx) (e : Expr) (t : TT) : Prop :=
  ∀ (pins : List (Addr × Obj)) (s : Shared) (σ : St) (H : Hp) (Q : Bool → Hp → Prop), Inv X pins σ H s → t σ H Q → wpAny (model X.prog X.w) X.A (isTrue e X.env (eval e X.env)) (TP X pins σ Q) X.xe s
noncomputable def PW (X : Cx) (e : Expr) (t : TT) : Prop :=
  ∀ (whole : Sem Value) (pins : List (Addr × Obj)) (s : Shared) (σ : St) (H : Hp) (Q : Bool → Hp → Prop), Inv X pins σ H s → t σ H Q → wpAny (model X.prog X.w) X.A (isTrue e X.env whole) (TP X pins σ Q) X.xe s
theorem PW.pt {X : Cx} {e : Expr} {t : TT} (h : PW X e t) : PT X e t := h _
noncomputable def PA (X : Cx) (es : List Expr) (t : TA) : Prop :=
  ∀ (pos : Pos) (pins : List (Addr × Obj)) (s : Shared) (σ : St) (H : Hp) (Q : List V → Hp → Prop), Inv X pins σ H s → t σ H Q → wpAny (model X.prog X.w) X.A (spliced (backTo pos (starEach es X.env))) (AP X pins σ Q) X.xe s
noncomputable def PS (X : Cx) (st : Stmt) (t : TS) : Prop :=
  ∀ (pins : List (Addr × Obj)) (s : Shared) (σ : St) (H : Hp) (D : Ends), Inv X pins σ H s → t D σ H → wpAny (model X.prog X.w) X.A (exec st X.env) (SP X pins D) X.xe s
noncomputable def PSs (X : Cx) (st : List Stmt) (t : TS) : Prop :=
  ∀ (pins : List (Addr × Obj)) (s : Shared) (σ : St) (H : Hp) (D : Ends), Inv X pins σ H s → t D σ H → wpAny (model X.prog X.w) X.A (execs st X.env) (SP X pins D) X.xe s
theorem thn {α : Type} {t : Sem α} {Q Q' : α → Shared → Prop} {M : Model} {A : Around} {E : Value → Shared → Prop} {s : Shared} (h : wpAny M A t Q E s) (hQ : ∀ a s, Q a s → Q' a s) : wpAny M A t Q' E s := wpAny_mono h hQ fun _ _ x => x
end Internal

namespace Internal
open PySem PySem.Spec PyProof.Rows
section
variable {X : Cx}

noncomputable def tVar (i : Nat) : TE := fun σ H Q => ∃ v, σ[i]? = some (some v) ∧ Q v H
noncomputable abbrev tC (v : V) : TE := fun _ H Q => Q v H
theorem pe_var {i : Nat} {x : Str} {pos : Pos} (hN : X.N[i]? = some x) (hv : Vis X.env.scope x) (hd : autoParam ((x == ("__debug__" : Str)) = false) Internal.aut1._auto_1) (hcd : autoParam ((x == ("__classdict__" : Str)) = false) Internal.aut1._auto_1) : PE X (.Name x pos) (tVar i) := by
  intro pins s σ H Q I h
  obtain ⟨v, e, h⟩ := h
  obtain ⟨m, hn, hl⟩ := I.loc
  obtain ⟨u, r, l⟩ := hl i x v hN e hv
  have fin : EP X pins σ Q u s := ⟨v, H, I, r, h⟩
  rcases l with ⟨hk, hm⟩ | ⟨hk, c, hc, hcell⟩
  · exact wpAny_Name (wpAny_loadName_local I.ok.kind hk hn hm fin) hd
  · rcases hk with hk | hk
    · exact wpAny_Name (wpAny_loadName_cell I.ok.kind hk hc hcell fin) hd
    · exact wpAny_Name (wpAny_loadName_free I.ok.kind hk hc hcell fin hcd) hd
theorem pe_int {i j pos} : PE X (.Constant (.int i) j pos) (tC (.int i)) := fun _ _ _ H _ I h => wpAny_Constant_int ⟨.int i, H, I.tok _, ⟨_, rfl⟩, h⟩
theorem pe_bl {b j pos} : PE X (.Constant (.bool b) j pos) (tC (.bl b)) := fun _ _ _ H _ I h => Constant_bool ⟨.bl b, H, I, rfl, h⟩
noncomputable def Gl (X : Cx) (x : Str) : Prop := X.env.kindOf x = some .globalImplicit
theorem ld_glob {E : Value → Shared → Prop} {pins : List (Addr × Obj)} {s : Shared} {σ : St} {H : Hp} {x : Str} {u : Value} {pos : Pos} {Q : Value → Shared → Prop} (I : Inv X pins σ H s) (hg : Gl X x) (hm : X.mg x = some u) (h : Q u s)
    (hd : autoParam ((x == ("__debug__" : Str)) = false) Internal.aut1._auto_1) : wpAny (model X.prog X.w) X.A (eval (.Name x pos) X.env) Q E s :=
  Calls.Name_function_global I.ok.kind hg (Calls.loadGlobal_global (by rw [I.ok.glob]; exact I.mod.glob.keeps I.bk) hm h) hd
theorem ld_blt {E : Value → Shared → Prop} {pins : List (Addr × Obj)} {s : Shared} {σ : St} {H : Hp} {x : Str} {u : Value} {pos : Pos} {Q : Value → Shared → Prop} (I : Inv X pins σ H s) (hg : Gl X x) (hm : X.mg x = none) (hv : bootBuiltins x = some u) (h : Q u s)
    (hn : autoParam (x ≠ "__name__") Internal.aut1._auto_1) (hd : autoParam ((x == ("__debug__" : Str)) = false) Internal.aut1._auto_1) : wpAny (model X.prog X.w) X.A (eval (.Name x pos) X.env) Q E s := by
  obtain ⟨mb, h1, h2⟩ := I.mod.blt
  exact Calls.Name_function_global I.ok.kind hg (Calls.loadGlobal_builtin (by rw [I.ok.glob]; exact I.mod.glob.keeps I.bk) hm (by rw [I.ok.blt]; exact h1.keeps I.bk) ((h2 x hn).trans hv) h) hd
theorem pe_bltn {x : Str} {v : V} {u : Value} {pos : Pos} (hg : Gl X x) (hm : X.mg x = none) (hv : bootBuiltins x = some u) (r : RelV v u) (hn : autoParam (x ≠ "__name__") Internal.aut1._auto_1) (hd : autoParam ((x == ("__debug__" : Str)) = false) Internal.aut1._auto_1) : PE X (.Name x pos) (tC v) :=
  fun _ _ _ H _ I h => ld_blt I hg hm hv ⟨v, H, I, r, h⟩ hn hd

noncomputable def t2I (ta tb : TE) (k : Int → Int → Hp → Prop) : St → Hp → Prop := fun σ H => ta σ H fun x H1 => tb σ H1 fun y H2 => ∃ i j, x = .int i ∧ y = .int j ∧ k i j H2
variable {a b : Expr} {ta tb : TE} {pos : Pos}
noncomputable def tCmp (p : Int → Int → Bool) (ta tb : TE) : TE := fun σ H Q => t2I ta tb (fun i j H2 => Q (.bl (p i j)) H2) σ H
noncomputable abbrev tLt : TE → TE → TE := tCmp fun i j => decide (i < j)
noncomputable abbrev tLe : TE → TE → TE := tCmp fun i j => decide (i ≤ j)
noncomputable abbrev tGt : TE → TE → TE := tCmp fun i j => decide (j < i)
noncomputable abbrev tGe : TE → TE → TE := tCmp fun i j => decide (j ≤ i)
noncomputable abbrev tEqI : TE → TE → TE := tCmp fun i j => decide (i = j)
noncomputable abbrev tNeI : TE → TE → TE := tCmp fun i j => !decide (i = j)
variable {tA tB' : TT} {rest : List Expr}
noncomputable abbrev tAnd (t u : TT) : TT := fun σ H Q => t σ H fun c H1 => if c = true then u σ H1 Q else Q false H1
noncomputable abbrev tOr (t u : TT) : TT := fun σ H Q => t σ H fun c H1 => if c = true then Q true H1 else u σ H1 Q
noncomputable abbrev tNot (t : TT) : TT := fun σ H Q => t σ H fun c H1 => Q (!c) H1
theorem pw_and1 (ha : PT X a tA) : PW X (.BoolOp .And [a] pos) tA := by
  intro wh pins s σ H Q I h
  refine isTrue_and (thn (ha pins s σ H Q I h) fun c s1 e => ?_)
  cases c with
  | true => exact isTrue_and_nil e
  | false => exact e
theorem pw_or1 (ha : PT X a tA) : PW X (.BoolOp .Or [a] pos) tA := by
  intro wh pins s σ H Q I h
  refine isTrue_or (thn (ha pins s σ H Q I h) fun c s1 e => ?_)
  cases c with
  | false => exact isTrue_or_nil e
  | true => exact e
theorem pw_and (ha : PT X a tA) (hb : PW X (.BoolOp .And (b :: rest) pos) tB') : PW X (.BoolOp .And (a :: b :: rest) pos) (tAnd tA tB') := by
  intro wh pins s σ H Q I h
  refine isTrue_and (thn (ha pins s σ H _ I h) fun c s1 ⟨H1, I1, q1⟩ => ?_)
  cases c with
  | true => exact hb wh pins s1 σ H1 Q I1 q1
  | false => exact ⟨H1, I1, q1⟩
theorem pw_or (ha : PT X a tA) (hb : PW X (.BoolOp .Or (b :: rest) pos) tB') : PW X (.BoolOp .Or (a :: b :: rest) pos) (tOr tA tB') := by
  intro wh pins s σ H Q I h
  refine isTrue_or (thn (ha pins s σ H _ I h) fun c s1 ⟨H1, I1, q1⟩ => ?_)
  cases c with
  | true => exact ⟨H1, I1, q1⟩
  | false => exact hb wh pins s1 σ H1 Q I1 q1
theorem pt_not (ha : PT X a tA) : PT X (.UnaryOp .Not a pos) (tNot tA) := by
  intro pins s σ H Q I h
  exact isTrue_not (ha pins s σ H (fun c H1 => Q (!c) H1) I h)
noncomputable def tAndV (ta tb : TE) : TE := fun σ H Q => ta σ H fun x H1 => ∃ c, x = .bl c ∧ if c = true then tb σ H1 Q else Q (.bl false) H1
theorem pe_one {op} {t : TE} (h : PE X a t) : PE X (.BoolOp op [a] pos) t := fun pins s σ H Q I hw => BoolOp_one (h pins s σ H Q I hw)
theorem pe_and (ha : PE X a ta) (hb : PE X (.BoolOp .And (b :: rest) pos) tb) : PE X (.BoolOp .And (a :: b :: rest) pos) (tAndV ta tb) := by
  intro pins s σ H Q I h
  refine BoolOp_and (thn (ha pins s σ H _ I h) fun v s1 zz => ?_)
  obtain ⟨x, H1, I1, r1, q1⟩ := zz
  obtain ⟨c, rfl, q1⟩ := q1
  cases r1
  refine wpAny_truthy_bool ?_
  cases c with
  | true => exact hb pins s1 σ H1 Q I1 q1
  | false => exact ⟨.bl false, H1, I1, rfl, q1⟩
noncomputable abbrev tIf (t : TT) (ta tb : TE) : TE := fun σ H Q => t σ H fun c H1 => if c = true then ta σ H1 Q else tb σ H1 Q
theorem pe_ifExp {c : Expr} (hc : PT X c tA) (ha : PE X a ta) (hb : PE X b tb) : PE X (.IfExp c a b pos) (tIf tA ta tb) := by
  intro pins s σ H Q I h
  refine wpAny_IfExp (thn (hc pins s σ H _ I h) fun d s1 ⟨H1, I1, q1⟩ => ?_)
  cases d with
  | true => exact ha pins s1 σ H1 Q I1 q1
  | false => exact hb pins s1 σ H1 Q I1 q1
end
end Internal

namespace Internal
open PySem PySem.Spec PyProof.Rows

noncomputable def SqL (K : PySem.W.Frag) (H : Hp) (a : Addr) (xs : List V) : Prop :=
  Rd H a (.lst xs) ∨
    ∃ (o : Obj) (its : Array Value) (n : Nat), K.lookup a = some o ∧ o.cls = .type "list" ∧ o.dict = none ∧ o.data = .seq its n ∧ its.size ≤ sizeLine ∧ Vals xs its.toList
noncomputable def SqT (K : PySem.W.Frag) (H : Hp) (a : Addr) (xs : List V) : Prop :=
  Rd H a (.tup xs) ∨
    ∃ (o : Obj) (its : Array Value) (n : Nat), K.lookup a = some o ∧ o.cls = .type "tuple" ∧ o.data = .seq its n ∧ its.size ≤ sizeLine ∧ Vals xs its.toList
noncomputable def absV : Value → Option V
  | .none => some .non
  | .bool b => some (.bl b)
  | .int i _ => some (.int i)
  | .str x _ => some (.str x)
  | .bytes b _ => some (.byt b)
  | .float b _ => some (.flt b)
  | .ref a => some (.ref a)
  | .type n => some (.ty n)
  | _ => none
theorem RelV.abs {x : V} {u : Value} (r : RelV x u) : absV u = some x := by
  cases x with
  | non => cases r; rfl
  | bl _ => cases r; rfl
  | int _ => obtain ⟨t, rfl⟩ := r; rfl
  | str _ => obtain ⟨t, rfl⟩ := r; rfl
  | byt _ => obtain ⟨t, rfl⟩ := r; rfl
  | flt _ => obtain ⟨t, rfl⟩ := r; rfl
  | ref _ => cases r; rfl
  | ty _ => cases r; rfl
theorem RelV.inj {x y : V} {u : Value} (r : RelV x u) (q : RelV y u) : x = y := Option.some.inj (r.abs.symm.trans q.abs)
theorem Vals.inj : ∀ {xs ys : List V} {us : List Value}, Vals xs us → Vals ys us → xs = ys
  | _, _, _, .nil, .nil => rfl
  | _, _, _, .cons r t, .cons r' t' => by rw [r.inj r', Vals.inj t t']
section
variable {X : Cx} {pins : List (Addr × Obj)} {σ : St} {H : Hp} {s : Shared} {a : Addr} {xs ys : List V}
theorem SqL.of {K : PySem.W.Frag} (h : H a = some (.lst xs)) : SqL K H a xs := .inl (.inl h)
theorem SqT.of {K : PySem.W.Frag} (h : H a = some (.tup xs)) : SqT K H a xs := .inl (.inl h)
theorem Inv.list (I : Inv X pins σ H s) (h : SqL X.K H a xs) : ∃ its : List Value, Vals xs its ∧ PlainL s.heap a its.toArray ∧ xs.length ≤ sizeLine := by
  rcases h with h | ⟨o, its, n, hk, hc, hd, hs, hz, r⟩
  · obtain ⟨z, its, n, r, e⟩ := h.ok I.hok
    exact ⟨its, r, ⟨_, n, e, rfl, rfl, rfl⟩, z⟩
  · refine ⟨its.toList, r, ⟨o, n, I.kIn a o hk, hc, hd, by simpa using hs⟩, ?_⟩
    have e := r.length
    simp only [Array.length_toList] at e
    omega
theorem Inv.tuple (I : Inv X pins σ H s) (h : SqT X.K H a xs) : ∃ its : List Value, Vals xs its ∧ IsTup s.heap a its.toArray ∧ xs.length ≤ sizeLine := by
  rcases h with h | ⟨o, its, n, hk, hc, hs, hz, r⟩
  · obtain ⟨z, its, r, p⟩ := h.ok I.hok
    exact ⟨its, r, p, z⟩
  · refine ⟨its.toList, r, ⟨o, I.kIn a o hk, hc, n, by simpa using hs⟩, ?_⟩
    have e := r.length
    simp only [Array.length_toList] at e
    omega
theorem Inv.list_inj (I : Inv X pins σ H s) (h : SqL X.K H a xs) (h' : SqL X.K H a ys) : xs = ys := by
  obtain ⟨its, r, ⟨o, n, e, _, _, d⟩, _⟩ := I.list h
  obtain ⟨its', r', ⟨o', n', e', _, _, d'⟩, _⟩ := I.list h'
  rw [e] at e'; cases e'
  rw [d] at d'
  injection d' with d1 _
  have : its = its' := by simpa using congrArg Array.toList d1
  subst this
  exact r.inj r'
end

noncomputable abbrev Cx.wish (X : Cx) (E : Value → Shared → Prop) : Cx := { X with xe := E }
noncomputable abbrev Cx.nox (X : Cx) : Cx := X.wish fun _ _ => False
theorem Cx.Ok.wish {X : Cx} (ok : X.Ok) (E : Value → Shared → Prop) : (X.wish E).Ok :=
  ⟨ok.mod, ok.kind, ok.glob, ok.blt, ok.above, ok.inj, ok.has, ok.cab, ok.hd, ok.frames, ok.stk, ok.exf, ok.bs, ok.bsz, ok.noex, ok.exfs, ok.funs, ok.frf⟩
theorem Cx.Ok.unwish {X : Cx} {E : Value → Shared → Prop} (ok : (X.wish E).Ok) : X.Ok :=
  ⟨ok.mod, ok.kind, ok.glob, ok.blt, ok.above, ok.inj, ok.has, ok.cab, ok.hd, ok.frames, ok.stk, ok.exf, ok.bs, ok.bsz, ok.noex, ok.exfs, ok.funs, ok.frf⟩
section
variable {X : Cx} {pins : List (Addr × Obj)} {σ : St} {H : Hp} {s : Shared} {E : Value → Shared → Prop}
theorem Inv.wish (I : Inv X pins σ H s) (E : Value → Shared → Prop) : Inv (X.wish E) pins σ H s := ⟨I.ok.wish E, I.os, I.bare, I.base, I.loc, I.cell, I.free, I.freeC, I.pin, I.hok, I.len⟩
theorem Inv.unwish (I : Inv (X.wish E) pins σ H s) : Inv X pins σ H s := ⟨I.ok.unwish, I.os, I.bare, I.base, I.loc, I.cell, I.free, I.freeC, I.pin, I.hok, I.len⟩
theorem SP.unwish {D : Ends} {f : Flow} {s' : Shared} (h : SP (X.wish E) pins D f s') : SP X pins D f s' := by
  cases f with
  | next => obtain ⟨σ', H', I, q⟩ := h; exact ⟨σ', H', I.unwish, q⟩
  | brk => obtain ⟨σ', H', I, q⟩ := h; exact ⟨σ', H', I.unwish, q⟩
  | cont => obtain ⟨σ', H', I, q⟩ := h; exact ⟨σ', H', I.unwish, q⟩
  | ret u => obtain ⟨v, σ', H', I, r, q⟩ := h; exact ⟨v, σ', H', I.unwish, r, q⟩
theorem PSs.nox {st : List Stmt} {t : TS} (h : PSs X.nox st t) : PSs X st t := fun pins s σ H D I hw =>
  wpAny_mono (h pins s σ H D (I.wish _) hw) (fun _ _ q => q.unwish) fun _ _ z => False.elim z
end

section
variable {X : Cx} {st : Stmt} {rest : List Stmt} {t u : TS} {e : Expr} {te : TE} {pos : Pos}
noncomputable abbrev tNext : TS := fun D σ H => D.nx σ H
noncomputable abbrev tSeq (t u : TS) : TS := fun D σ H => t { D with nx := u D } σ H
theorem pss_nil : PSs X [] tNext := fun _ _ σ H _ I h => wpAny_execs_nil ⟨σ, H, I, h⟩
theorem pss_cons (h1 : PS X st t) (h2 : PSs X rest u) : PSs X (st :: rest) (tSeq t u) := by
  intro pins s σ H D I h
  refine wpAny_execs_cons (thn (h1 pins s σ H { D with nx := u D } I h) fun f s1 q => ?_)
  cases f with
  | next =>
    obtain ⟨σ', H', I', q⟩ := q
    exact h2 pins s1 σ' H' D I' q
  | ret v => exact q
  | brk => exact q
  | cont => exact q
theorem pss_one (h1 : PS X st t) : PSs X [st] t := by
  intro pins s σ H D I h
  refine wpAny_execs_cons (thn (h1 pins s σ H D I h) fun f s1 q => ?_)
  cases f with
  | next => exact wpAny_execs_nil q
  | ret v => exact q
  | brk => exact q
  | cont => exact q
noncomputable abbrev tBreak : TS := fun D σ H => D.bk σ H
noncomputable abbrev tCont : TS := fun D σ H => D.ct σ H
theorem Inv.quiet {pins : List (Addr × Obj)} {σ : St} {H : Hp} {s : Shared} (I : Inv X pins σ H s) : interactive X.env = false := by simp [interactive, I.ok.kind]
noncomputable abbrev tDrop (te : TE) : TS := fun D σ H => te σ H fun _ H1 => D.nx σ H1
theorem ps_expr (he : PE X e te) (hs : autoParam (swapsWith e none pos.line X.env = pure false) Internal.aut2._auto_1) : PS X (.Expr e pos) (tDrop te) := by
  intro pins s σ H D I h
  exact wpAny_Expr_any (thn (he pins s σ H _ I h) fun v s1 ⟨x, H1, I1, r1, q1⟩ => ⟨σ, H1, I1, q1⟩) I.quiet hs
noncomputable abbrev tRet (te : TE) : TS := fun D σ H => te σ H D.rt
theorem ps_ret (he : PE X e te) : PS X (.Return (some e) pos) (tRet te) := by
  intro pins s σ H D I h
  exact wpAny_Return_some (thn (he pins s σ H _ I h) fun v s1 ⟨x, H1, I1, r1, q1⟩ => ⟨x, σ, H1, I1, r1, q1⟩)
noncomputable abbrev tRetN : TS := fun D _ H => D.rt .non H
noncomputable abbrev tIfS (c : TT) (t u : TS) : TS := fun D σ H => c σ H fun b H1 => if b = true then t D σ H1 else u D σ H1
theorem ps_if {c : Expr} {a b : List Stmt} {tc : TT} (hc : PT X c tc) (ha : PSs X a t) (hb : PSs X b u) : PS X (.If c a b pos) (tIfS tc t u) := by
  intro pins s σ H D I h
  refine wpAny_If (thn (hc pins s σ H _ I h) fun d s1 ⟨H1, I1, q1⟩ => ?_)
  cases d with
  | true => exact ha pins s1 σ H1 D I1 q1
  | false => exact hb pins s1 σ H1 D I1 q1
noncomputable def tNever : TS := fun _ _ _ => False
theorem ps_never : PS X st tNever := fun _ _ _ _ _ _ h => h.elim
end

noncomputable abbrev TG := V → St → Hp → (St → Hp → Prop) → Prop
noncomputable abbrev TGs := List V → St → Hp → (St → Hp → Prop) → Prop
noncomputable def PG (X : Cx) (target : Expr) (t : TG) : Prop :=
  ∀ (pins : List (Addr × Obj)) (s : Shared) (σ : St) (H : Hp) (v : V) (u : Value) (Q : St → Hp → Prop), Inv X pins σ H s → RelV v u → t v σ H Q →
    wpAny (model X.prog X.w) X.A (assign target X.env u) (fun _ s' => ∃ σ' H', Inv X pins σ' H' s' ∧ Q σ' H') X.xe s
noncomputable def PGs (X : Cx) (ts : List Expr) (t : TGs) : Prop :=
  ∀ (pins : List (Addr × Obj)) (s : Shared) (σ : St) (H : Hp) (vs : List V) (us : List Value) (Q : St → Hp → Prop), Inv X pins σ H s → Vals vs us → t vs σ H Q →
    wpAny (model X.prog X.w) X.A (assignInOrder ((assignEach ts X.env).map (·.2)) us) (fun _ s' => ∃ σ' H', Inv X pins σ' H' s' ∧ Q σ' H') X.xe s
noncomputable abbrev TSet := V → V → V → Hp → (Hp → Prop) → Prop
noncomputable def PSet (X : Cx) (t : TSet) : Prop :=
  ∀ (pins : List (Addr × Obj)) (s : Shared) (σ : St) (H : Hp) (o i v : V) (ov iv u : Value) (Q : Hp → Prop), Inv X pins σ H s → RelV o ov → RelV i iv → RelV v u → t o i v H Q →
    wpAny (model X.prog X.w) X.A (setItem ov iv u) (fun _ s' => ∃ H', Inv X pins σ H' s' ∧ Q H') X.xe s
noncomputable abbrev TIp := V → V → Hp → VK → Prop
noncomputable def PIp (X : Cx) (op : Operator) (t : TIp) : Prop :=
  ∀ (pins : List (Addr × Obj)) (s : Shared) (σ : St) (H : Hp) (x y : V) (v u : Value) (Q : VK), Inv X pins σ H s → RelV x v → RelV y u → t x y H Q →
    wpAny (model X.prog X.w) X.A (inplaceOp op v u) (EP X pins σ Q) X.xe s
section
variable {X : Cx} {pos : Pos}
noncomputable abbrev gName (i : Nat) : TG := fun v σ H Q => Q (σ.set i (some v)) H
theorem pg_name {i : Nat} {x : Str} (hN : X.N.Nodup) (hi : X.N[i]? = some x) (hx : Loc X.env.scope x) (hf : autoParam (X.fn x = true ∨ X.env.scope.names.lookup x = some .local) Internal.aut0._auto_1) : PG X (.Name x pos) (gName i) := by
  intro pins s σ H v u Q I r h
  exact wpAny_assign_Name (store_ok I hN hi hx r (fun s' I' => ⟨_, H, I', h⟩) hf)
noncomputable def gNil : TGs := fun vs σ H Q => vs = [] ∧ Q σ H
noncomputable def gCons (t : TG) (u : TGs) : TGs := fun vs σ H Q => ∃ v r, vs = v :: r ∧ t v σ H fun σ' H' => u r σ' H' Q
theorem pgs_nil : PGs X [] gNil := by
  intro pins s σ H vs us Q I r h
  obtain ⟨e, h⟩ := h
  subst e
  cases r
  exact assignInOrder_nil ⟨σ, H, I, h⟩
theorem pgs_cons {e : Expr} {es : List Expr} {t : TG} {u : TGs} (h1 : PG X e t) (h2 : PGs X es u)
    (hs : autoParam ((assignEach (e :: es) X.env).map (·.2) = assign e X.env :: (assignEach es X.env).map (·.2)) Internal.aut2._auto_1) : PGs X (e :: es) (gCons t u) := by
  intro pins s σ H vs us Q I r h
  obtain ⟨v, vr, e1, h⟩ := h
  subst e1
  cases r with
  | cons r rr =>
    rw [hs]
    refine assignInOrder_cons (thn (h1 pins s σ H _ _ _ I r h) fun _ s1 zz => ?_)
    obtain ⟨σ1, H1, I1, q1⟩ := zz
    exact h2 pins s1 σ1 H1 _ _ Q I1 rr q1
noncomputable def gTup (K : PySem.W.Frag) (n : Nat) (t : TGs) : TG := fun v σ H Q => ∃ a xs, v = .ref a ∧ SqT K H a xs ∧ xs.length = n ∧ t xs σ H Q
theorem pg_tup {es : List Expr} {k : Nat} {t : TGs} {n : Nat} (hc : X.calm = true) (h : PGs X es t)
    (hn : autoParam ((assignEach es X.env).length = n) Internal.aut2._auto_1) (hst : autoParam ((assignEach es X.env).findIdx? (·.1) = none) Internal.aut2._auto_1) : PG X (.Tuple es k pos) (gTup X.K n t) := by
  intro pins s σ H v u Q I r hw
  obtain ⟨a, xs, e1, hq, hl, hw⟩ := hw
  subst e1
  cases r
  obtain ⟨its, rv, ht, hz⟩ := I.tuple hq
  refine assign_Tuple_tuple (I.ok.hd hc) ht (by simp [hn, ← hl, rv.length]) hst fun h' hx => ?_
  have I1 : Inv X pins σ H { s with heap := h' } := I.kept (t' := s.toks) fun b o e => hx b o (Nat.ne_of_lt (Heap.lt_size e)) e
  exact h pins _ σ H xs _ Q I1 (by simpa using rv) hw
noncomputable abbrev gSub (to ti : TE) (t : TSet) : TG := fun v σ H Q => to σ H fun o H1 => ti σ H1 fun i H2 => t o i v H2 fun H3 => Q σ H3
theorem pg_sub {o i : Expr} {to ti : TE} {t : TSet} (ho : PE X o to) (hi : PE X i ti) (hs : PSet X t)
    (ha : autoParam (∀ v, assign (.Subscript o i pos) X.env v = (do
      let ov ← holding [v] (eval o X.env)
      let iv ← holding [v, ov] (eval i X.env)
      standAt pos
      holding [v, ov, iv] (setItem ov iv v)
      release [v, ov, iv] [])) Internal.aut3._auto_1) : PG X (.Subscript o i pos) (gSub to ti t) := by
  intro pins s σ H v u Q I r h
  rw [ha]
  refine wpAny_bind (wpAny_holding (thn (ho pins s σ H _ I h) fun ov s1 zz => ?_))
  obtain ⟨x, H1, I1, r1, q1⟩ := zz
  refine wpAny_bind (wpAny_holding (thn (hi pins s1 σ H1 _ I1 q1) fun iv s2 zz => ?_))
  obtain ⟨y, H2, I2, r2, q2⟩ := zz
  refine wpAny_bind (wpAny_standAt (wpAny_bind (wpAny_holding (thn (hs pins s2 σ H2 x y v ov iv u _ I2 r1 r2 r q2) fun _ s3 ⟨H3, I3, q3⟩ => ?_))))
  exact wpAny_release ⟨σ, H3, I3, q3⟩
noncomputable abbrev tAsg (te : TE) (g : TG) : TS := fun D σ H => te σ H fun x H1 => g x σ H1 D.nx
theorem ps_asg {tg e : Expr} {te : TE} {g : TG} (he : PE X e te) (hg : PG X tg g) (hs : autoParam (swapsWithSole [tg] e pos.line X.env = pure false) Internal.aut2._auto_1) (hw : autoParam (swappedStores [tg] e X.env = pure none) Internal.aut2._auto_1)
    (h1 : autoParam ((assignEach [tg] X.env).map (·.2) = [assign tg X.env]) Internal.aut2._auto_1) : PS X (.Assign [tg] e pos) (tAsg te g) := by
  intro pins s σ H D I h
  refine wpAny_Assign_stores (thn (he pins s σ H _ I h) fun v s1 zz => ?_) hs hw
  obtain ⟨x, H1, I1, r1, q1⟩ := zz
  rw [h1]
  exact thn (hg pins s1 σ H1 x v _ I1 r1 q1) fun _ s2 q => q
theorem ps_set {i : Nat} {x : Str} {e : Expr} {te : TE} {pos' : Pos} (hN : X.N.Nodup) (hi : X.N[i]? = some x) (hx : Loc X.env.scope x) (he : PE X e te) (hs : autoParam (swapsWith e (some (.Name x pos')) pos.line X.env = pure false) Internal.aut2._auto_1) (hf : autoParam (X.fn x = true ∨ X.env.scope.names.lookup x = some .local) Internal.aut0._auto_1) :
    PS X (.Assign [.Name x pos'] e pos) (tAsg te (gName i)) := by
  intro pins s σ H D I h
  refine wpAny_Assign_Name (thn (he pins s σ H _ I h) fun v s1 zz => ?_) hs
  obtain ⟨y, H1, I1, r1, q1⟩ := zz
  exact store_ok I1 hN hi hx r1 (fun s2 I2 => ⟨_, H1, I2, q1⟩) hf
noncomputable def tAugS (to ti te : TE) (tget : V → V → Hp → VK → Prop) (tip : TIp) (tset : TSet) : TS := fun D σ H => to σ H fun o H1 => ti σ H1 fun i H2 => tget o i H2 fun x H3 => te σ H3 fun y H4 => tip x y H4 fun z H5 => tset o i z H5 fun H6 => D.nx σ H6
noncomputable def PGet (X : Cx) (t : V → V → Hp → VK → Prop) : Prop :=
  ∀ (pins : List (Addr × Obj)) (s : Shared) (σ : St) (H : Hp) (o i : V) (ov iv : Value) (Q : VK), Inv X pins σ H s → RelV o ov → RelV i iv → t o i H Q →
    wpAny (model X.prog X.w) X.A (getItem ov iv) (EP X pins σ Q) X.xe s
theorem ps_augS {o i e : Expr} {to ti te : TE} {tget : V → V → Hp → VK → Prop} {tip : TIp} {tset : TSet} {op : Operator} {tpos : Pos} (ho : PE X o to) (hi : PE X i ti) (hg : PGet X tget) (he : PE X e te) (hp : PIp X op tip) (hs : PSet X tset)
    (ha : autoParam (∀ ov iv new, augStore i ov iv new = (do holding [new, ov, iv] (setItem ov iv new); release [new, ov, iv] []; pure .next)) Internal.aut4._auto_1) : PS X (.AugAssign (.Subscript o i tpos) op e pos) (tAugS to ti te tget tip tset) := by
  intro pins s σ H D I h
  refine wpAny_AugAssign_SubscriptAny (thn (ho pins s σ H _ I h) fun ov s1 zz => ?_) ha
  obtain ⟨x1, H1, I1, r1, q1⟩ := zz
  refine thn (hi pins s1 σ H1 _ I1 q1) fun iv s2 zz => ?_
  obtain ⟨x2, H2, I2, r2, q2⟩ := zz
  refine thn (hg pins s2 σ H2 x1 x2 ov iv _ I2 r1 r2 q2) fun old s3 zz => ?_
  obtain ⟨x3, H3, I3, r3, q3⟩ := zz
  refine thn (he pins s3 σ H3 _ I3 q3) fun v s4 zz => ?_
  obtain ⟨x4, H4, I4, r4, q4⟩ := zz
  refine thn (hp pins s4 σ H4 x3 x4 old v _ I4 r3 r4 q4) fun new s5 zz => ?_
  obtain ⟨x5, H5, I5, r5, q5⟩ := zz
  exact thn (hs pins s5 σ H5 x1 x2 x5 ov iv new _ I5 r1 r2 r5 q5) fun _ s6 ⟨H6, I6, q6⟩ => ⟨σ, H6, I6, q6⟩
noncomputable def ipI (f : Int → Int → Int) : TIp := fun x y H Q => ∃ i j, x = .int i ∧ y = .int j ∧ Q (.int (f i j)) H
theorem ip_add : PIp X .Add (ipI fun i j => i + j) := by
  intro pins s σ H x y v u Q I r1 r2 h
  obtain ⟨i, j, e1, e2, q⟩ := h
  subst e1; subst e2
  obtain ⟨t, rfl⟩ := r1
  obtain ⟨t', rfl⟩ := r2
  exact iadd_int ⟨.int _, H, I.tok _, ⟨_, rfl⟩, q⟩
end

section
variable {X : Cx} {pos : Pos}
noncomputable def tWhile (c : TT) (tb : TS) : TS := fun D σ H => ∃ W : Nat → St → Hp → Prop, (∃ m, W m σ H) ∧ ∀ m σ H, W m σ H →
  c σ H fun b H1 => if b = true then ∃ N : St → Hp → Prop, (∀ σ' H', N σ' H' → ∃ m', m' < m ∧ W m' σ' H') ∧ tb { D with nx := N, ct := N, bk := D.nx } σ H1 else D.nx σ H1
theorem ps_while {c : Expr} {body : List Stmt} {tc : TT} {tb : TS} (hp : PassesOwn (model X.prog X.w) X.A X.env X.xe) (hc : PT X c tc) (hb : PSs X body tb) : PS X (.While c body [] pos) (tWhile tc tb) := by
  intro pins s σ H D I h
  obtain ⟨W, ⟨m0, w0⟩, turn⟩ := h
  refine wpAny_While (codeAny_whileLoop (fun n s' => ∃ σ' H', Inv X pins σ' H' s' ∧ W n σ' H') ?_ m0 ⟨σ, H, I, w0⟩)
  rintro n s1 ⟨σ1, H1, I1, w1⟩
  refine wpAny_passesOwn hp (thn (hc pins s1 σ1 H1 _ I1 (turn n σ1 H1 w1)) fun b s2 ⟨H2, I2, q2⟩ => ?_)
  cases b with
  | true =>
    obtain ⟨N, hN, q2⟩ := q2
    rw [if_pos rfl]
    refine wpAny_passesOwn hp (thn (hb pins s2 σ1 H2 _ I2 q2) fun f s3 q3 => ?_)
    cases f with
    | next =>
      obtain ⟨σ3, H3, I3, n3⟩ := q3
      obtain ⟨m', hm, w3⟩ := hN σ3 H3 n3
      exact ⟨m', hm, σ3, H3, I3, w3⟩
    | cont =>
      obtain ⟨σ3, H3, I3, n3⟩ := q3
      obtain ⟨m', hm, w3⟩ := hN σ3 H3 n3
      exact ⟨m', hm, σ3, H3, I3, w3⟩
    | brk => exact q3
    | ret v => exact q3
  | false =>
    rw [if_neg Bool.false_ne_true]
    exact wpAny_execs_nil ⟨σ1, H2, I2, q2⟩
end

set_option genInjectivity false in
set_option genSizeOf false in
structure It where
  go : Nat → Hp → Prop
  yld : Nat → Hp → V → Hp → Prop
  stop : Nat → Hp → Prop
noncomputable def FpOk (X : Cx) (pins : List (Addr × Obj)) (H : Hp) (b : Addr) : Prop :=
  H b = none ∧ b ≠ X.env.locals ∧ b ∉ X.fs ∧ (b ∈ X.ex ∨ X.s₀.heap.objs.size ≤ b) ∧ (∀ x c, X.env.cells.lookup x = some c → c ≠ b) ∧ ∀ p ∈ X.pn ++ pins, p.1 ≠ b
theorem Inv.fpOk {X : Cx} {pins : List (Addr × Obj)} {σ : St} {H H' : Hp} {s : Shared} {b : Addr} (I : Inv X pins σ H s) (hb : s.heap.objs.size ≤ b) (hn : H' b = none) : FpOk X pins H' b := by
  refine ⟨hn, Nat.ne_of_gt (Nat.lt_of_lt_of_le I.lt hb), I.nofs hb, .inr (Nat.le_trans I.sz hb), fun x c e z => ?_, fun p hp z => ?_⟩
  · obtain ⟨v, q⟩ := I.cell x c e
    exact absurd (Nat.lt_of_lt_of_le q.lt (by rw [z]; exact hb)) (Nat.lt_irrefl _)
  · exact absurd (Nat.lt_of_lt_of_le (Heap.lt_size (I.pin p hp).1) (by rw [z]; exact hb)) (Nat.lt_irrefl _)
set_option genInjectivity false in
set_option genSizeOf false in
structure Turn (P : Program) (w : World) (K : PySem.W.Frag) (tg : Expr) (J : It) (fp : List Addr) (it : Addr) (tn : Nat → Heap → Prop) : Prop where
  mem : it ∈ fp
  obj : ∀ i h, tn i h → ∀ b ∈ fp, ∃ o, h.get? b = some o ∧ ∀ v, o.data ≠ .cell v
  keep : ∀ i h h', tn i h → (∀ b ∈ fp, ∀ o, h.get? b = some o → h'.get? b = some o) → tn i h'
  item : ∀ (X : Cx), X.prog = P → X.w = w → X.K = K → X.calm = true → ∀ (i : Nat) (pins : List (Addr × Obj)) (s : Shared) (σ : St) (H : Hp) (E : Value → Shared → Prop), Inv X pins σ H s → (∀ b ∈ fp, FpOk X pins H b) → tn i s.heap → J.go i H →
    wpAny (model P w) X.A (pyNext (.ref it)) (fun r s1 => ∃ u, r = some u ∧
      wpAny (model P w) X.A (letOwnedTupleGo tg (.ref it) u) (fun _ s2 => ∃ x H', Inv X pins σ H' s2 ∧ RelV x u ∧ J.yld i H x H' ∧ tn (i + 1) s2.heap ∧ ∀ b ∈ fp, H' b = none) E s1) E s
  done : ∀ (X : Cx), X.prog = P → X.w = w → X.K = K → X.calm = true → ∀ (i : Nat) (pins : List (Addr × Obj)) (s : Shared) (σ : St) (H : Hp) (E : Value → Shared → Prop), Inv X pins σ H s → (∀ b ∈ fp, FpOk X pins H b) → tn i s.heap → J.stop i H →
    wpAny (model P w) X.A (pyNext (.ref it)) (fun r s1 => r = none ∧ Inv X pins σ H s1) E s
  self : ∀ (A : Around) (i : Nat) (s : Shared) (Q : Value → Shared → Prop) (E : Value → Shared → Prop), tn i s.heap → Q (.ref it) s → wpAny (model P w) A (pyIter (.ref it)) Q E s
noncomputable abbrev TI := St → Hp → (It → Hp → Prop) → Prop
noncomputable def PIE (X : Cx) (pins : List (Addr × Obj)) (σ : St) (tg : Expr) (R : It → Hp → Prop) (itv : Value) (s2 : Shared) : Prop :=
  ∃ (it : Addr) (fp : List Addr) (tn : Nat → Heap → Prop) (J : It) (H' : Hp), itv = .ref it ∧ Inv X pins σ H' s2 ∧ Turn X.prog X.w X.K tg J fp it tn ∧ tn 0 s2.heap ∧ (∀ b ∈ fp, FpOk X pins H' b) ∧ R J H'
noncomputable def PI (X : Cx) (tg iter : Expr) (wi : TI) : Prop :=
  ∀ (pins : List (Addr × Obj)) (s : Shared) (σ : St) (H : Hp) (R : It → Hp → Prop), Inv X pins σ H s → wi σ H R →
    wpAny (model X.prog X.w) X.A (eval iter X.env) (fun v s1 => wpAny (model X.prog X.w) X.A (pyIter v) (PIE X pins σ tg R) X.xe s1) X.xe s

theorem go_of {M : Model} {A : Around} {E : Value → Shared → Prop} {s : Shared} {tg : Expr} {it : Addr} {u : Value} {o : Obj} {n : String} {vs : Array Value} {Q : Unit → Shared → Prop} (ho : s.heap.get? it = some o) (hc : o.cls = .type n) (hd : o.data = .fields vs)
    (hn : ["enumerate", "zip", "dict_itemiterator", "dict_reverseitemiterator", "odict_iterator", "itertools.zip_longest", "itertools.pairwise"].contains n = false) (hQ : Q () s) : wpAny M A (letOwnedTupleGo tg (.ref it) u) Q E s := by
  unfold letOwnedTupleGo
  cases tg <;> first
    | exact wpAny_pure hQ
    | (cases u <;> first
        | exact wpAny_pure hQ
        | (refine wpAny_bind (wpAny_load ho ?_)
           rw [hc, hd]
           show wpAny M A (if (["enumerate", "zip", "dict_itemiterator", "dict_reverseitemiterator", "odict_iterator", "itertools.zip_longest", "itertools.pairwise"].contains n && vs[0]? == some (rawInt _)) = true then _ else _) Q E s
           rw [if_neg (by intro h; rw [hn, Bool.false_and] at h; cases h)]
           exact wpAny_pure hQ))

noncomputable def Itl (K : PySem.W.Frag) (a : Addr) : It :=
  ⟨fun i H => ∃ xs x, SqL K H a xs ∧ xs[i]? = some x, fun i H x H' => H' = H ∧ ∀ xs, SqL K H a xs → xs[i]? = some x, fun i H => ∃ xs, SqL K H a xs ∧ xs.length ≤ i⟩
noncomputable def Itr (lo : Int) (n : Nat) : It := ⟨fun i _ => i < n, fun i H x H' => H' = H ∧ x = .int (lo + i), fun i _ => n ≤ i⟩
theorem turn_list {P : Program} {w : World} {K : PySem.W.Frag} {tg : Expr} (a it : Addr) : Turn P w K tg (Itl K a) [it] it (fun i h => h.IsListIter it a i) where
  mem := by simp
  obj := fun i h st b hb => by
    have e : b = it := by simpa using hb
    subst e
    obtain ⟨o, e, c, d⟩ := st
    exact ⟨o, e, fun v z => by rw [d] at z; cases z⟩
  keep := fun i h h' st k => st.at fun o e => k it (by simp) o e
  item := by
    intro X hP hw hK hc i pins s σ H E I hf st hg
    subst hP hw hK
    obtain ⟨xs, x, hq, hx⟩ := hg
    obtain ⟨its, rv, p, hz⟩ := I.list hq
    obtain ⟨u, hu, ru⟩ := rv.get hx
    obtain ⟨f0, f1, f2, f3, f4, f5⟩ := hf it (by simp)
    refine wpAny_pyNext_list_item st p.isList (x := u) (by simpa using hu) fun h' st' sb => ?_
    have I1 : Inv X pins σ H { s with heap := h' } := I.turned (t' := s.toks) (fun b o hb e => (sb.2 b hb).trans e) f0 f1 f3 f4 f5
    obtain ⟨o, e, c, d⟩ := id st'
    exact ⟨u, rfl, go_of (s := { s with heap := h' }) e c d (by decide) ⟨x, H, I1, ru, ⟨rfl, fun ys hy => by rw [I.list_inj hy hq]; exact hx⟩, st', fun b hb => (hf b hb).1⟩⟩
  done := by
    intro X hP hw hK hc i pins s σ H E I hf st hg
    subst hP hw hK
    obtain ⟨xs, hq, hx⟩ := hg
    obtain ⟨its, rv, p, hz⟩ := I.list hq
    obtain ⟨f0, f1, f2, f3, f4, f5⟩ := hf it (by simp)
    have hl := rv.length
    exact wpAny_pyNext_list_end (I.ok.hd hc) st p.isList (by simp; omega) fun h' eb => ⟨rfl, I.turned (t' := s.toks) (fun b o hb e => eb b o hb e) f0 f1 f3 f4 f5⟩
  self := fun _ _ _ _ _ st h => wpAny_pyIter_listiter st h
theorem turn_range {P : Program} {w : World} {K : PySem.W.Frag} {tg : Expr} (it : Addr) (lo : Int) (n : Nat) : Turn P w K tg (Itr lo n) [it] it (fun i h => IsRangeIter h it (lo + (i : Nat) * 1) ((n : Int) - (i : Nat)) 1) where
  mem := by simp
  obj := fun i h st b hb => by
    have e : b = it := by simpa using hb
    subst e
    exact ⟨_, st, fun v z => by
      have z' : Data.fields _ = Data.cell v := z
      cases z'⟩
  keep := fun i h h' st k => k it (by simp) _ st
  item := by
    intro X hP hw hK hc i pins s σ H E I hf st hg
    subst hP hw hK
    obtain ⟨f0, f1, f2, f3, f4, f5⟩ := hf it (by simp)
    have W := Walks.range (prog := X.prog) (w := X.w) (I.ok.hd hc) it lo 1 n
    refine W.item i s _ _ hg st fun v h' tk hv st' kk => ?_
    obtain ⟨t, rfl⟩ := hv
    have I1 : Inv X pins σ H { s with heap := h', toks := tk } := I.turned (fun b o hb e => kk b o (by simpa using hb) e) f0 f1 f3 f4 f5
    refine ⟨_, rfl, go_of (s := { s with heap := h', toks := tk }) (n := "range_iterator") st' rfl rfl (by decide) ⟨.int (lo + i), H, I1, ⟨t, ?_⟩, ⟨rfl, rfl⟩, st', fun b hb => (hf b hb).1⟩⟩
    rw [Int.mul_one]
  done := by
    intro X hP hw hK hc i pins s σ H E I hf st hg
    subst hP hw hK
    obtain ⟨f0, f1, f2, f3, f4, f5⟩ := hf it (by simp)
    exact wpAny_pyNext_range_end (I.ok.hd hc) st (by have : n ≤ i := hg; omega) fun h' eb => ⟨rfl, I.turned (t' := s.toks) (fun b o hb e => eb b o hb e) f0 f1 f3 f4 f5⟩
  self := fun _ _ _ _ _ st h => wpAny_pyIter_rangeiter st h
end Internal

namespace Internal
open PySem PySem.Spec PyProof.Rows
section
variable {X : Cx} {tg : Expr}
noncomputable def iList (K : PySem.W.Frag) (tl : TE) : TI := fun σ H R => tl σ H fun x H1 => ∃ a, x = .ref a ∧ (∃ xs, SqL K H1 a xs) ∧ R (Itl K a) H1
theorem pi_list {l : Expr} {tl : TE} (hl : PE X l tl) : PI X tg l (iList X.K tl) := by
  intro pins s σ H R I h
  refine thn (hl pins s σ H _ I h) fun v s1 zz => ?_
  obtain ⟨x, H1, I1, r1, q1⟩ := zz
  obtain ⟨a, e, ⟨xs, hq⟩, q⟩ := q1
  subst e
  cases r1
  obtain ⟨its, rv, p, hz⟩ := I1.list hq
  refine wpAny_pyIter_list p.isList ?_
  refine ⟨s1.heap.objs.size, [s1.heap.objs.size], _, _, H1, rfl, I1.kept (t' := s1.toks) fun b o e => Heap.get?_push_of_some _ e, turn_list a _, ⟨_, Heap.get?_push_size _ rfl, rfl, rfl⟩, fun b hb => ?_, q⟩
  have e : b = s1.heap.objs.size := by simpa using hb
  subst e
  exact I1.fpOk (Nat.le_refl _) (I1.hok.fresh (Nat.le_refl _))
theorem range_it {pins : List (Addr × Obj)} {σ : St} {H : Hp} {s : Shared} {R : It → Hp → Prop} {E : Value → Shared → Prop} {lo hi : Int} {t u v : Tok} {tk : Nat} (I : Inv X pins σ H s) (h1 : -(2 ^ 62) ≤ lo) (h2 : lo < 2 ^ 62) (h3 : -(2 ^ 62) ≤ hi) (h4 : hi < 2 ^ 62)
    (q : R (Itr lo (hi - lo).toNat) H) : wpAny (model X.prog X.w) X.A (pyIter (.ref s.heap.objs.size)) (PIE X pins σ tg R) E { s with heap := s.heap.push { cls := .type "range", data := .fields #[.int lo t, .int hi u, .int 1 v] }, toks := tk } := by
  refine wpAny_pyIter_range (IsRange.new ..) (small_one h1 h2 h3 h4) ?_
  have I1 : Inv X pins σ H { s with heap := s.heap.push { cls := .type "range", data := .fields #[.int lo t, .int hi u, .int 1 v] }, toks := tk } := I.kept fun b o e => Heap.get?_push_of_some _ e
  refine ⟨(s.heap.push { cls := .type "range", data := .fields #[.int lo t, .int hi u, .int 1 v] }).objs.size, [(s.heap.push { cls := .type "range", data := .fields #[.int lo t, .int hi u, .int 1 v] }).objs.size], _, _, H, rfl,
    I1.kept (t' := tk) fun b o e => Heap.get?_push_of_some _ e, turn_range _ lo (hi - lo).toNat, ?_, fun b hb => ?_, q⟩
  · have e1 : lo + ((0 : Nat) : Int) * 1 = lo := by simp
    have e2 : (((hi - lo).toNat : Nat) : Int) - ((0 : Nat) : Int) = Builtin.Range.rangeSize lo hi 1 := by rw [rangeSize_one]; split <;> omega
    show IsRangeIter _ _ (lo + ((0 : Nat) : Int) * 1) ((((hi - lo).toNat : Nat) : Int) - ((0 : Nat) : Int)) 1
    rw [e1, e2]
    exact Heap.get?_push_size _ rfl
  · have e : b = (s.heap.push { cls := .type "range", data := .fields #[.int lo t, .int hi u, .int 1 v] }).objs.size := by simpa using hb
    subst e
    exact I1.fpOk (Nat.le_refl _) (I1.hok.fresh (Nat.le_refl _))
noncomputable def iRng1 (ta : TA) : TI := fun σ H R => ta σ H fun vs H1 => ∃ j : Int, vs = [.int j] ∧ -(2 ^ 62) ≤ j ∧ j < 2 ^ 62 ∧ R (Itr 0 j.toNat) H1
theorem pi_range1 {a : Expr} {ta : TA} {p pos : Pos} (hg : Gl X "range") (hm : X.mg "range" = none) (ha : PA X [a] ta) (hs : autoParam (starEach [a] X.env = [(false, eval a X.env)]) Internal.aut2._auto_1) : PI X tg (.Call (.Name "range" p) [a] [] pos) (iRng1 ta) := by
  intro pins s σ H R I h
  refine Call_ (ld_blt I hg hm boot_range (PyProof.Rows.callWith_type1 (thn (ha pos pins s σ H _ I h) fun us s1 ⟨vs, H1, I1, r1, q1⟩ => ?_) hs rfl))
  obtain ⟨j, e, q1, q2, q⟩ := q1
  subst e
  cases r1 with
  | cons r rr =>
    cases rr
    obtain ⟨t, rfl⟩ := r
    exact call_range_1 (range_it I1 (by omega) (by omega) q1 q2 (by simpa using q))
noncomputable def tFor (wi : TI) (g : TG) (tb : TS) : TS := fun D σ H => wi σ H fun J H1 => ∃ W : Nat → Nat → St → Hp → Prop, (∃ m, W 0 m σ H1) ∧ ∀ i m σ H, W i m σ H →
  (J.stop i H ∧ D.nx σ H) ∨ (J.go i H ∧ ∃ N : St → Hp → Prop, (∀ σ' H', N σ' H' → ∃ m', m' < m ∧ W (i + 1) m' σ' H') ∧ ∀ x H', J.yld i H x H' → g x σ H' fun σ2 H2 => tb { D with nx := N, ct := N, bk := D.nx } σ2 H2)
noncomputable def pinsAt (fp : List Addr) (h : Heap) : List (Addr × Obj) := fp.filterMap fun b => (h.get? b).map fun o => (b, o)
theorem mem_pinsAt {fp : List Addr} {h : Heap} {b : Addr} {o : Obj} (hb : b ∈ fp) (e : h.get? b = some o) : (b, o) ∈ pinsAt fp h := List.mem_filterMap.mpr ⟨b, hb, by rw [e]; rfl⟩
theorem of_pinsAt {fp : List Addr} {h : Heap} {p : Addr × Obj} (hp : p ∈ pinsAt fp h) : p.1 ∈ fp ∧ h.get? p.1 = some p.2 := by
  obtain ⟨b, hb, e⟩ := List.mem_filterMap.mp hp
  cases q : h.get? b with
  | none => rw [q] at e; cases e
  | some o =>
    rw [q] at e
    have e' : (b, o) = p := Option.some.inj e
    subst e'
    exact ⟨hb, q⟩
theorem Inv.pinned {pins : List (Addr × Obj)} {σ : St} {H : Hp} {s : Shared} {fp : List Addr} (I : Inv X pins σ H s) (hf : ∀ b ∈ fp, FpOk X pins H b) (ho : ∀ b ∈ fp, ∃ o, s.heap.get? b = some o ∧ ∀ v, o.data ≠ .cell v) : Inv X (pins ++ pinsAt fp s.heap) σ H s :=
  I.pins_of fun p hp => (List.mem_append.mp hp).elim (fun z => I.pin p (List.mem_append_right _ z)) fun z => by
    obtain ⟨hb, e⟩ := of_pinsAt z
    obtain ⟨f0, f1, f2, _⟩ := hf p.1 hb
    obtain ⟨o, e', d⟩ := ho p.1 hb
    rw [e] at e'; cases e'
    exact ⟨e, f0, f1, f2, d⟩
theorem Inv.unpinned {pins pl : List (Addr × Obj)} {σ : St} {H : Hp} {s : Shared} (I : Inv X (pins ++ pl) σ H s) : Inv X pins σ H s := I.pins_of fun p hp => I.pin p (List.mem_append_right _ (List.mem_append_left _ hp))
theorem ps_for {iter : Expr} {body : List Stmt} {wi : TI} {g : TG} {tb : TS} {pos : Pos} (hp : PassesOwn (model X.prog X.w) X.A X.env X.xe) (hc : X.calm = true) (hi : PI X tg iter wi) (hg : PG X tg g) (hb : PSs X body tb)
    (hs : autoParam (∀ x, foldedSetIterable iter X.env x = pure x) Internal.aut3._auto_1) : PS X (.For tg iter body [] pos) (tFor wi g tb) := by
  intro pins s σ H D I h
  refine wpAny_For (thn (hi pins s σ H _ I h) fun v s1 h1 => thn h1 fun itv s2 h2 => ?_) hs
  obtain ⟨it, fp, tn, J, H2, e, I2, T, st2, f2, W, ⟨m0, w0⟩, turn⟩ := h2
  subst e
  -- what stays true of the iterator's objects through the loop
  have stat : ∀ {H' : Hp}, (∀ b ∈ fp, H' b = none) → ∀ b ∈ fp, FpOk X pins H' b := fun hn b hb => ⟨hn b hb, (f2 b hb).2⟩
  refine codeAny_forLoop_any (fun n s' => ∃ i σ' H', Inv X pins σ' H' s' ∧ tn i s'.heap ∧ (∀ b ∈ fp, H' b = none) ∧ W i n σ' H') ?_ m0 ⟨0, σ, H2, I2, st2, fun b hb => (f2 b hb).1, w0⟩
  rintro n s3 ⟨i, σ3, H3, I3, st3, fr3, w3⟩
  rcases turn i n σ3 H3 w3 with ⟨stop, qn⟩ | ⟨go, N, hN, step⟩
  · refine wpAny_passesOwn hp (thn (T.done X rfl rfl rfl hc i pins s3 σ3 H3 X.xe I3 (stat fr3) st3 stop) fun r s4 ⟨hr, I4⟩ => ?_)
    subst hr
    exact wpAny_execs_nil ⟨σ3, H3, I4, qn⟩
  · refine wpAny_passesOwn hp (thn (T.item X rfl rfl rfl hc i pins s3 σ3 H3 X.xe I3 (stat fr3) st3 go) fun r s4 ⟨u, hr, h4⟩ => ?_)
    subst hr
    refine wpAny_passesOwn hp (thn h4 fun _ s5 zz => ?_)
    obtain ⟨x, H5, I5, r5, y5, st5, fr5⟩ := zz
    have I5' := I5.pinned (stat fr5) (T.obj _ _ st5)
    refine wpAny_passesOwn hp (thn (hg _ s5 σ3 H5 x u _ I5' r5 (step x H5 y5)) fun _ s6 zz => ?_)
    obtain ⟨σ6, H6, I6, q6⟩ := zz
    refine wpAny_passesOwn hp (thn (hb _ s6 σ6 H6 _ I6 q6) fun f s7 q7 => ?_)
    have again : ∀ {σ7 : St} {H7 : Hp}, Inv X (pins ++ pinsAt fp s5.heap) σ7 H7 s7 → N σ7 H7 → ∃ m, m < n ∧ ∃ i σ' H', Inv X pins σ' H' s7 ∧ tn i s7.heap ∧ (∀ b ∈ fp, H' b = none) ∧ W i m σ' H' := fun {σ7 H7} I7 n7 => by
      obtain ⟨m', hm, w7⟩ := hN σ7 H7 n7
      refine ⟨m', hm, i + 1, σ7, H7, I7.unpinned, T.keep _ _ _ st5 fun b hb o e => (I7.pin (b, o) (List.mem_append_right _ (List.mem_append_right _ (mem_pinsAt hb e)))).1, fun b hb => ?_, w7⟩
      obtain ⟨o, e, d⟩ := T.obj _ _ st5 b hb
      exact (I7.pin (b, o) (List.mem_append_right _ (List.mem_append_right _ (mem_pinsAt hb e)))).2.1
    cases f with
    | next => obtain ⟨σ7, H7, I7, n7⟩ := q7; exact again I7 n7
    | cont => obtain ⟨σ7, H7, I7, n7⟩ := q7; exact again I7 n7
    | brk => obtain ⟨σ7, H7, I7, q7⟩ := q7; exact ⟨σ7, H7, I7.unpinned, q7⟩
    | ret v => obtain ⟨x7, σ7, H7, I7, r7, q7⟩ := q7; exact ⟨x7, σ7, H7, I7.unpinned, r7, q7⟩
end

theorem for_list {K : PySem.W.Frag} {a : Addr} {xs : List V} {g : TG} {tb : TS} {D : Ends} {σ : St} {H : Hp} (Pv : Nat → St → Hp → Prop) (h0 : Pv 0 σ H) (hl : ∀ i σ H, i ≤ xs.length → Pv i σ H → SqL K H a xs)
    (hs : ∀ i x σ H, xs[i]? = some x → Pv i σ H → g x σ H fun σ2 H2 => tb { D with nx := Pv (i + 1), ct := Pv (i + 1), bk := D.nx } σ2 H2) (hd : ∀ σ H, Pv xs.length σ H → D.nx σ H) :
    ∃ W : Nat → Nat → St → Hp → Prop, (∃ m, W 0 m σ H) ∧ ∀ i m σ H, W i m σ H →
      ((Itl K a).stop i H ∧ D.nx σ H) ∨ ((Itl K a).go i H ∧ ∃ N : St → Hp → Prop, (∀ σ' H', N σ' H' → ∃ m', m' < m ∧ W (i + 1) m' σ' H') ∧ ∀ x H', (Itl K a).yld i H x H' → g x σ H' fun σ2 H2 => tb { D with nx := N, ct := N, bk := D.nx } σ2 H2) := by
  refine ⟨fun i m σ H => m = xs.length - i ∧ i ≤ xs.length ∧ Pv i σ H, ⟨xs.length, by simp, Nat.zero_le _, h0⟩, ?_⟩
  rintro i m σ H ⟨rfl, hi, p⟩
  have q := hl i σ H hi p
  by_cases hlt : i < xs.length
  · refine .inr ⟨⟨xs, xs[i], q, by simp [hlt]⟩, Pv (i + 1), fun σ' H' p' => ⟨xs.length - (i + 1), by omega, rfl, hlt, p'⟩, fun x H' y => ?_⟩
    obtain ⟨e, y⟩ := y
    subst e
    exact hs i x σ _ (y xs q) p
  · have e : i = xs.length := by omega
    subst e
    exact .inl ⟨⟨xs, q, Nat.le_refl _⟩, hd σ H p⟩
theorem for_range {lo : Int} {n : Nat} {g : TG} {tb : TS} {D : Ends} {σ : St} {H : Hp} (Pv : Nat → St → Hp → Prop) (h0 : Pv 0 σ H)
    (hs : ∀ i σ H, i < n → Pv i σ H → g (.int (lo + i)) σ H fun σ2 H2 => tb { D with nx := Pv (i + 1), ct := Pv (i + 1), bk := D.nx } σ2 H2) (hd : ∀ σ H, Pv n σ H → D.nx σ H) :
    ∃ W : Nat → Nat → St → Hp → Prop, (∃ m, W 0 m σ H) ∧ ∀ i m σ H, W i m σ H →
      ((Itr lo n).stop i H ∧ D.nx σ H) ∨ ((Itr lo n).go i H ∧ ∃ N : St → Hp → Prop, (∀ σ' H', N σ' H' → ∃ m', m' < m ∧ W (i + 1) m' σ' H') ∧ ∀ x H', (Itr lo n).yld i H x H' → g x σ H' fun σ2 H2 => tb { D with nx := N, ct := N, bk := D.nx } σ2 H2) := by
  refine ⟨fun i m σ H => m = n - i ∧ i ≤ n ∧ Pv i σ H, ⟨n, by simp, Nat.zero_le _, h0⟩, ?_⟩
  rintro i m σ H ⟨rfl, hi, p⟩
  by_cases hlt : i < n
  · refine .inr ⟨hlt, Pv (i + 1), fun σ' H' p' => ⟨n - (i + 1), by omega, rfl, hlt, p'⟩, fun x H' y => ?_⟩
    obtain ⟨e, y⟩ := y
    subst e y
    exact hs i σ _ hlt p
  · have e : i = n := by omega
    subst e
    exact .inl ⟨Nat.le_refl _, hd σ H p⟩
end Internal

namespace Internal
open PySem PySem.Spec PyProof.Rows

noncomputable abbrev R2 := V → V → Hp → VK → Prop
noncomputable def OpR (X : Cx) (f : Value → Value → Sem Value) (r : R2) : Prop :=
  ∀ (pins : List (Addr × Obj)) (s : Shared) (σ : St) (H : Hp) (x y : V) (v u : Value) (Q : VK), Inv X pins σ H s → RelV x v → RelV y u → r x y H Q →
    wpAny (model X.prog X.w) X.A (f v u) (EP X pins σ Q) X.xe s
noncomputable def UnR (X : Cx) (f : Value → Sem Value) (r : V → Hp → VK → Prop) : Prop :=
  ∀ (pins : List (Addr × Obj)) (s : Shared) (σ : St) (H : Hp) (x : V) (v : Value) (Q : VK), Inv X pins σ H s → RelV x v → r x H Q →
    wpAny (model X.prog X.w) X.A (f v) (EP X pins σ Q) X.xe s
noncomputable def CallR (X : Cx) (f : Value) (r : List V → Hp → VK → Prop) : Prop :=
  ∀ (pins : List (Addr × Obj)) (s : Shared) (σ : St) (H : Hp) (xs : List V) (us : List Value) (Q : VK), Inv X pins σ H s → Vals xs us → r xs H Q →
    wpAny (model X.prog X.w) X.A (call f us) (EP X pins σ Q) X.xe s
noncomputable def TruR (X : Cx) (r : V → Hp → (Bool → Hp → Prop) → Prop) : Prop :=
  ∀ (pins : List (Addr × Obj)) (s : Shared) (σ : St) (H : Hp) (x : V) (v : Value) (Q : Bool → Hp → Prop), Inv X pins σ H s → RelV x v → r x H Q →
    wpAny (model X.prog X.w) X.A (truthy v) (TP X pins σ Q) X.xe s

noncomputable abbrev tOp (r : R2) (ta tb : TE) : TE := fun σ H Q => ta σ H fun x H1 => tb σ H1 fun y H2 => r x y H2 Q
noncomputable abbrev tUn (r : V → Hp → VK → Prop) (ta : TE) : TE := fun σ H Q => ta σ H fun x H1 => r x H1 Q
noncomputable def rI (C : Int → Int → Prop) (g : Int → Int → V) : R2 := fun x y H Q => ∃ i j, x = .int i ∧ y = .int j ∧ C i j ∧ Q (g i j) H
noncomputable def rI0 (g : Int → Int → V) : R2 := fun x y H Q => ∃ i j, x = .int i ∧ y = .int j ∧ Q (g i j) H
noncomputable def rU (g : Int → V) : V → Hp → VK → Prop := fun x H Q => ∃ i, x = .int i ∧ Q (g i) H

section
variable {X : Cx} {a b c : Expr} {ta tb tc : TE} {pos : Pos}

theorem binT (ha : PE X a ta) (hb : PE X b tb) {pins : List (Addr × Obj)} {s : Shared} {σ : St} {H : Hp} {R : V → V → Hp → Prop} (I : Inv X pins σ H s)
    (h : ta σ H fun x H1 => tb σ H1 fun y H2 => R x y H2) {Q : Value → Shared → Prop} {f : Value → Value → Sem Value}
    (hf : ∀ v u s2 x y H2, Inv X pins σ H2 s2 → RelV x v → RelV y u → R x y H2 → wpAny (model X.prog X.w) X.A (f v u) Q X.xe s2) :
    wpAny (model X.prog X.w) X.A (eval a X.env) (fun v s₁ => wpAny (model X.prog X.w) X.A (eval b X.env) (fun u s₂ => wpAny (model X.prog X.w) X.A (f v u) Q X.xe s₂) X.xe s₁) X.xe s := by
  refine thn (ha pins s σ H _ I h) fun v s1 zz => ?_
  obtain ⟨x, H1, I1, r1, q1⟩ := zz
  refine thn (hb pins s1 σ H1 _ I1 q1) fun u s2 zz => ?_
  obtain ⟨y, H2, I2, r2, q2⟩ := zz
  exact hf v u s2 x y H2 I2 r1 r2 q2

theorem pe_op {op : Operator} {r : R2} (ho : OpR X (binaryOp op) r) (ha : PE X a ta) (hb : PE X b tb) : PE X (.BinOp a op b pos) (tOp r ta tb) := by
  intro pins s σ H Q I h
  exact wpAny_BinOp (binT ha hb I h fun v u s2 x y H2 I2 rx ry q => ho pins s2 σ H2 x y v u Q I2 rx ry q)
theorem pe_un {op : UnaryOp} {r : V → Hp → VK → Prop} (ho : UnR X (unaryOp op) r) (ha : PE X a ta) : PE X (.UnaryOp op a pos) (tUn r ta) := by
  intro pins s σ H Q I h
  exact UnaryOp_ (thn (ha pins s σ H _ I h) fun v s1 ⟨x, H1, I1, r1, q1⟩ => ho pins s1 σ H1 x v Q I1 r1 q1)
theorem opI {f : Value → Value → Sem Value} {C : Int → Int → Prop} {g : Int → Int → Int}
    (rule : ∀ (i j : Int) (t u : Tok) (s : Shared) (Q : Value → Shared → Prop) (E : Value → Shared → Prop), C i j → Q (.int (g i j) s.toks) { s with toks := s.toks + 1 } → wpAny (model X.prog X.w) X.A (f (.int i t) (.int j u)) Q E s) :
    OpR X f (rI C fun i j => .int (g i j)) := by
  intro pins s σ H x y v u Q I rx ry h
  obtain ⟨i, j, rfl, rfl, hc, q⟩ := h
  obtain ⟨t, rfl⟩ := rx
  obtain ⟨t', rfl⟩ := ry
  exact rule i j t t' s _ _ hc ⟨.int (g i j), H, I.tok _, ⟨_, rfl⟩, q⟩
theorem opI0 {f : Value → Value → Sem Value} {g : Int → Int → Int}
    (rule : ∀ (i j : Int) (t u : Tok) (s : Shared) (Q : Value → Shared → Prop) (E : Value → Shared → Prop), Q (.int (g i j) s.toks) { s with toks := s.toks + 1 } → wpAny (model X.prog X.w) X.A (f (.int i t) (.int j u)) Q E s) :
    OpR X f (rI0 fun i j => .int (g i j)) := by
  intro pins s σ H x y v u Q I rx ry h
  obtain ⟨i, j, rfl, rfl, q⟩ := h
  obtain ⟨t, rfl⟩ := rx
  obtain ⟨t', rfl⟩ := ry
  exact rule i j t t' s _ _ ⟨.int (g i j), H, I.tok _, ⟨_, rfl⟩, q⟩
theorem opB0 {f : Value → Value → Sem Value} {g : Int → Int → Bool}
    (rule : ∀ (i j : Int) (t u : Tok) (s : Shared) (Q : Value → Shared → Prop) (E : Value → Shared → Prop), Q (.bool (g i j)) s → wpAny (model X.prog X.w) X.A (f (.int i t) (.int j u)) Q E s) :
    OpR X f (rI0 fun i j => .bl (g i j)) := by
  intro pins s σ H x y v u Q I rx ry h
  obtain ⟨i, j, rfl, rfl, q⟩ := h
  obtain ⟨t, rfl⟩ := rx
  obtain ⟨t', rfl⟩ := ry
  exact rule i j t t' s _ _ ⟨.bl (g i j), H, I, rfl, q⟩

noncomputable def CPow (i j : Int) : Prop := 0 ≤ j ∧ j ≤ 1000000 ∧ i.natAbs < 2 ^ 64
theorem op_add : OpR X (binaryOp .Add) (rI0 fun i j => .int (i + j)) := opI0 fun _ _ _ _ _ _ _ q => add_int q
theorem op_sub : OpR X (binaryOp .Sub) (rI0 fun i j => .int (i - j)) := opI0 fun _ _ _ _ _ _ _ q => sub_int q
theorem op_modN : OpR X (binaryOp .Mod) (rI (fun _ j => j ≠ 0) fun i j => .int (i.fmod j)) := opI fun _ _ _ _ _ _ _ hc q => mod_int' hc q
theorem op_pow : OpR X (binaryOp .Pow) (rI CPow fun i j => .int (i ^ j.toNat)) := opI fun _ _ _ _ _ _ _ hc q => pow_int_small hc.1 hc.2.1 hc.2.2 q
theorem unI {f : Value → Sem Value} {g : Int → Int}
    (rule : ∀ (i : Int) (t : Tok) (s : Shared) (Q : Value → Shared → Prop) (E : Value → Shared → Prop), Q (.int (g i) s.toks) { s with toks := s.toks + 1 } → wpAny (model X.prog X.w) X.A (f (.int i t)) Q E s) :
    UnR X f (rU fun i => .int (g i)) := by
  intro pins s σ H x v Q I rx h
  obtain ⟨i, rfl, q⟩ := h
  obtain ⟨t, rfl⟩ := rx
  exact rule i t s _ _ ⟨.int (g i), H, I.tok _, ⟨_, rfl⟩, q⟩
theorem un_neg : UnR X (unaryOp .USub) (rU fun i => .int (-i)) := unI fun _ _ _ _ _ q => neg_int q
end

noncomputable def scal : V → V → Bool
  | .non, .non => true | .non, .int _ => true | .int _, .non => true | .non, .bl _ => true | .bl _, .non => true | .non, .str _ => true | .str _, .non => true
  | .int _, .int _ => true | .bl _, .bl _ => true | .str _, .str _ => true | .byt _, .byt _ => true
  | .int _, .str _ => true | .str _, .int _ => true | .bl _, .str _ => true | .str _, .bl _ => true
  | _, _ => false
noncomputable def rEq : R2 := fun x y H Q => scal x y = true ∧ Q (.bl (decide (x = y))) H
noncomputable def rNe : R2 := fun x y H Q => scal x y = true ∧ Q (.bl (!decide (x = y))) H

theorem dec_int {i j : Int} : decide (V.int i = V.int j) = (i == j) := by
  rw [Bool.eq_iff_iff]
  simp
theorem dec_bl {i j : Bool} : decide (V.bl i = V.bl j) = (i == j) := by
  rw [Bool.eq_iff_iff]
  simp
theorem dec_str {i j : Str} : decide (V.str i = V.str j) = (i == j) := by
  rw [Bool.eq_iff_iff]
  simp
theorem dec_byt {i j : Array UInt8} : decide (V.byt i = V.byt j) = (i.toList == j.toList) := by
  rw [Bool.eq_iff_iff]
  cases i
  cases j
  simp

section
variable {X : Cx} {a b c : Expr} {ta tb tc : TE} {pos : Pos}
theorem fin_bl {pins : List (Addr × Obj)} {σ : St} {H : Hp} {s : Shared} {Q : VK} {k k' : Bool} (I : Inv X pins σ H s) (q : Q (.bl k) H) (e : k = k') : EP X pins σ Q (.bool k') s := by
  subst e
  exact ⟨.bl k, H, I, rfl, q⟩
theorem op_eq : OpR X (compareOp .Eq) rEq := by
  intro pins s σ H x y v u Q I rx ry h
  obtain ⟨hs, q⟩ := h
  cases x with
  | non =>
    cases rx
    cases y with
    | non => cases ry; exact PySem.EqNone.eq_none_none (fin_bl I q (by simp))
    | bl j => cases ry; exact PySem.EqNone.eq_none_bool (fin_bl I q (by simp))
    | int j => obtain ⟨t', rfl⟩ := ry; exact PySem.EqNone.eq_none_int (fin_bl I q (by simp))
    | str j => obtain ⟨t', rfl⟩ := ry; exact PySem.EqNone.eq_none_str (fin_bl I q (by simp))
    | _ => exact absurd (show false = true from hs) Bool.false_ne_true
  | bl i =>
    cases rx
    cases y with
    | non => cases ry; exact PySem.EqNone.eq_bool_none (fin_bl I q (by simp))
    | bl j => cases ry; exact eq_bool (fin_bl I q dec_bl)
    | str j => obtain ⟨t', rfl⟩ := ry; exact PySem.EqMixed.eq_bool_str (fin_bl I q (by simp))
    | _ => exact absurd (show false = true from hs) Bool.false_ne_true
  | int i =>
    obtain ⟨t, rfl⟩ := rx
    cases y with
    | non => cases ry; exact PySem.EqNone.eq_int_none (fin_bl I q (by simp))
    | int j => obtain ⟨t', rfl⟩ := ry; exact eq_int (fin_bl I q dec_int)
    | str j => obtain ⟨t', rfl⟩ := ry; exact PySem.EqMixed.eq_int_str (fin_bl I q (by simp))
    | _ => exact absurd (show false = true from hs) Bool.false_ne_true
  | str i =>
    obtain ⟨t, rfl⟩ := rx
    cases y with
    | non => cases ry; exact PySem.EqNone.eq_str_none (fin_bl I q (by simp))
    | bl j => cases ry; exact PySem.EqMixed.eq_str_bool (fin_bl I q (by simp))
    | int j => obtain ⟨t', rfl⟩ := ry; exact PySem.EqMixed.eq_str_int (fin_bl I q (by simp))
    | str j => obtain ⟨t', rfl⟩ := ry; exact eq_str (fin_bl I q dec_str)
    | _ => exact absurd (show false = true from hs) Bool.false_ne_true
  | byt i =>
    obtain ⟨t, rfl⟩ := rx
    cases y with
    | byt j => obtain ⟨t', rfl⟩ := ry; exact PySem.W.eq_bytes (fin_bl I q dec_byt)
    | _ => exact absurd (show false = true from hs) Bool.false_ne_true
  | _ => cases y <;> exact absurd (show false = true from hs) Bool.false_ne_true
theorem op_ne : OpR X (compareOp .NotEq) rNe := by
  intro pins s σ H x y v u Q I rx ry h
  obtain ⟨hs, q⟩ := h
  cases x with
  | non =>
    cases rx
    cases y with
    | non => cases ry; exact PySem.EqNone.ne_none_none (fin_bl I q (by simp))
    | bl j => cases ry; exact PySem.EqNone.ne_none_bool (fin_bl I q (by simp))
    | int j => obtain ⟨t', rfl⟩ := ry; exact PySem.EqNone.ne_none_int (fin_bl I q (by simp))
    | str j => obtain ⟨t', rfl⟩ := ry; exact PySem.EqNone.ne_none_str (fin_bl I q (by simp))
    | _ => exact absurd (show false = true from hs) Bool.false_ne_true
  | bl i =>
    cases rx
    cases y with
    | non => cases ry; exact PySem.EqNone.ne_bool_none (fin_bl I q (by simp))
    | bl j => cases ry; exact ne_bool (fin_bl I q (congrArg not dec_bl))
    | str j => obtain ⟨t', rfl⟩ := ry; exact PySem.EqMixed.ne_bool_str (fin_bl I q (by simp))
    | _ => exact absurd (show false = true from hs) Bool.false_ne_true
  | int i =>
    obtain ⟨t, rfl⟩ := rx
    cases y with
    | non => cases ry; exact PySem.EqNone.ne_int_none (fin_bl I q (by simp))
    | int j => obtain ⟨t', rfl⟩ := ry; exact ne_int (fin_bl I q (congrArg not dec_int))
    | str j => obtain ⟨t', rfl⟩ := ry; exact PySem.EqMixed.ne_int_str (fin_bl I q (by simp))
    | _ => exact absurd (show false = true from hs) Bool.false_ne_true
  | str i =>
    obtain ⟨t, rfl⟩ := rx
    cases y with
    | non => cases ry; exact PySem.EqNone.ne_str_none (fin_bl I q (by simp))
    | bl j => cases ry; exact PySem.EqMixed.ne_str_bool (fin_bl I q (by simp))
    | int j => obtain ⟨t', rfl⟩ := ry; exact PySem.EqMixed.ne_str_int (fin_bl I q (by simp))
    | str j => obtain ⟨t', rfl⟩ := ry; exact ne_str (fin_bl I q (congrArg not dec_str))
    | _ => exact absurd (show false = true from hs) Bool.false_ne_true
  | byt i =>
    obtain ⟨t, rfl⟩ := rx
    cases y with
    | byt j => obtain ⟨t', rfl⟩ := ry; exact PySem.W.ne_bytes (fin_bl I q (congrArg not dec_byt))
    | _ => exact absurd (show false = true from hs) Bool.false_ne_true
  | _ => cases y <;> exact absurd (show false = true from hs) Bool.false_ne_true

theorem op_lt : OpR X (compareOp .Lt) (rI0 fun i j => .bl (decide (i < j))) := opB0 fun _ _ _ _ _ _ _ q => lt_int q
theorem op_gt : OpR X (compareOp .Gt) (rI0 fun i j => .bl (decide (j < i))) := opB0 fun _ _ _ _ _ _ _ q => gt_int q
theorem OpR.or {f : Value → Value → Sem Value} {r r' : R2} (h : OpR X f r) (h' : OpR X f r') : OpR X f (fun x y H Q => r x y H Q ∨ r' x y H Q) := by
  intro pins s σ H x y v u Q I rx ry q
  rcases q with q | q
  · exact h pins s σ H x y v u Q I rx ry q
  · exact h' pins s σ H x y v u Q I rx ry q

theorem nomark (b : Expr) {op : CmpOp} (h : autoParam (op ≠ .In) Internal.aut1._auto_1) (h2 : autoParam (op ≠ .NotIn) Internal.aut1._auto_1) : behindInMarks op b = false := by
  have e1 : (op == CmpOp.In) = false := by cases op <;> first | rfl | exact absurd rfl h
  have e2 : (op == CmpOp.NotIn) = false := by cases op <;> first | rfl | exact absurd rfl h2
  cases b <;> simp [behindInMarks, e1, e2]
theorem pe_cmpR {op : CmpOp} {r : R2} (ho : OpR X (compareOp op) r) (ha : PE X a ta) (hb : PE X b tb) (hm : behindInMarks op b = false) : PE X (.Compare a [op] [b] pos) (tOp r ta tb) := by
  intro pins s σ H Q I h
  exact wpAny_Compare1 (binT ha hb I h fun v u s2 x y H2 I2 rx ry q => ho pins s2 σ H2 x y v u Q I2 rx ry q) hm
noncomputable abbrev tTest (t : TE) : TT := fun σ H Q => t σ H fun x H' => ∃ k, x = .bl k ∧ Q k H'
theorem pt_cmpR {op : CmpOp} {r : R2} (ho : OpR X (compareOp op) r) (ha : PE X a ta) (hb : PE X b tb) (hm : behindInMarks op b = false) : PT X (.Compare a [op] [b] pos) (tTest (tOp r ta tb)) := by
  intro pins s σ H Q I h
  refine wpAny_isTrue_Compare1 (thn (ha pins s σ H _ I h) fun v s1 ⟨x, H1, I1, r1, q1⟩ => thn (hb pins s1 σ H1 _ I1 q1) fun u s2 ⟨y, H2, I2, r2, q2⟩ =>
    thn (ho pins s2 σ H2 x y v u _ I2 r1 r2 q2) fun c s3 ⟨z, H3, I3, r3, k, e, q3⟩ => ?_) hm
  subst e
  cases r3
  exact wpAny_truthy_bool ⟨H3, I3, q3⟩
noncomputable def TruV (K : PySem.W.Frag) (x : V) (H : Hp) (k : Bool) : Prop :=
  match x with
  | .non => k = false
  | .bl b => k = b
  | .int i => k = (i != 0)
  | .str y => y.length ≤ sizeLine ∧ k = ((y.length : Int) != 0)
  | .byt y => y.size ≤ sizeLine ∧ k = ((y.size : Int) != 0)
  | .ref p => (∃ xs, SqL K H p xs ∧ k = !xs.isEmpty) ∨ (∃ xs, SqT K H p xs ∧ k = !xs.isEmpty) ∨ ∃ kvs, H p = some (.dK kvs) ∧ k = !kvs.isEmpty
  | _ => False
theorem isEmpty_kv {κ : Type} {kvs : List (κ × V)} {vs : List (κ × Value)} (r : KV kvs vs) : (!vs.isEmpty) = !kvs.isEmpty := by
  cases r <;> rfl
theorem isEmpty_of {xs : List V} {its : List Value} (r : Vals xs its) : (!its.toArray.isEmpty) = !xs.isEmpty := by
  cases r <;> simp
theorem line63 : (sizeLine : Nat) < 2 ^ 63 := by rw [sizeLine_eq]; decide
theorem tru_ok : TruR X (fun x H Q => ∃ k, TruV X.K x H k ∧ Q k H) := by
  intro pins s σ H x v Q I rx h
  obtain ⟨k, e, q⟩ := h
  have hl := line63
  have hs : sizeLine = 16777216 := sizeLine_eq
  cases x with
  | non =>
    cases rx
    have e' : k = false := e
    subst e'
    exact truthy_none ⟨H, I, q⟩
  | bl b =>
    cases rx
    have e' : k = b := e
    subst e'
    exact wpAny_truthy_bool ⟨H, I, q⟩
  | int i =>
    obtain ⟨t, rfl⟩ := rx
    have e' : k = (i != 0) := e
    subst e'
    exact PySem.P.truthy_int ⟨H, I, q⟩
  | str y =>
    obtain ⟨t, rfl⟩ := rx
    obtain ⟨hy, e'⟩ : y.length ≤ sizeLine ∧ k = ((y.length : Int) != 0) := e
    subst e'
    exact PySem.P.truthy_str (by omega) ⟨H, I.tok _, q⟩
  | byt y =>
    obtain ⟨t, rfl⟩ := rx
    obtain ⟨hy, e'⟩ : y.size ≤ sizeLine ∧ k = ((y.size : Int) != 0) := e
    subst e'
    exact PySem.W.truthy_bytes (by omega) ⟨H, I.tok _, q⟩
  | ref p =>
    cases rx
    have e' : (∃ xs, SqL X.K H p xs ∧ k = !xs.isEmpty) ∨ (∃ xs, SqT X.K H p xs ∧ k = !xs.isEmpty) ∨ ∃ kvs, H p = some (.dK kvs) ∧ k = !kvs.isEmpty := e
    rcases e' with ⟨xs, hx, e'⟩ | ⟨xs, hx, e'⟩ | ⟨kvs, hx, e'⟩
    · subst e'
      obtain ⟨its, r, pl, hz⟩ := I.list hx
      have hlen := r.length
      exact wpAny_truthy_list pl.isList (by simp only [List.size_toArray]; omega) ⟨H, I.tok _, by rw [isEmpty_of r]; exact q⟩
    · subst e'
      obtain ⟨its, r, pl, hz⟩ := I.tuple hx
      have hlen := r.length
      exact truthy_tuple pl (by simp only [List.size_toArray]; omega) ⟨H, I.tok _, by rw [isEmpty_of r]; exact q⟩
    · subst e'
      obtain ⟨hz, hS, vs, r, m⟩ : kvs.length ≤ sizeLine ∧ (p == sysModules) = false ∧ ∃ vs, KV kvs vs ∧ s.heap.DictOf (mixKind X.prog X.w) p vs := I.hok p _ hx
      have hlen : kvs.length = vs.length := Paired.length r
      exact wpAny_truthy_dict hS m (by omega) ⟨H, I.tok _, by rw [isEmpty_kv r]; exact q⟩
  | _ => exact (show False from e).elim
theorem pt_truth (ha : PE X a ta) (he : ∀ whole, isTrue a X.env whole = (do let v ← whole; standAt a.pos; holding [v] (truthy v))) :
    PT X a (fun σ H Q => ta σ H fun x H' => ∃ k, TruV X.K x H' k ∧ Q k H') := by
  intro pins s σ H Q I h
  exact isTrue_plain (thn (ha pins s σ H _ I h) fun v s1 ⟨x, H1, I1, r1, q1⟩ => tru_ok pins s1 σ H1 x v Q I1 r1 q1) (he _)

theorem vals1 {x : V} {us : List Value} (r : Vals [x] us) : ∃ u, us = [u] ∧ RelV x u := by
  cases r with
  | cons r1 r2 => cases r2; exact ⟨_, rfl, r1⟩
theorem vals2 {x y : V} {us : List Value} (r : Vals [x, y] us) : ∃ u w', us = [u, w'] ∧ RelV x u ∧ RelV y w' := by
  cases r with
  | cons r1 r2 =>
    cases r2 with
    | cons r3 r4 => cases r4; exact ⟨_, _, rfl, r1, r3⟩
theorem call_abs : CallR X (.builtin "abs") (fun xs H Q => ∃ i, xs = [.int i] ∧ Q (.int (if i < 0 then -i else i)) H) := by
  intro pins s σ H xs us Q I r h
  obtain ⟨i, rfl, q⟩ := h
  obtain ⟨u, rfl, t, rfl⟩ := vals1 r
  exact call_abs_int fun u tk => ⟨.int (if i < 0 then -i else i), H, I.tok _, ⟨_, rfl⟩, q⟩
theorem call_max2 (hc : X.calm = true) : CallR X (.builtin "max") (fun xs H Q => ∃ i j, xs = [.int i, .int j] ∧ Q (.int (if j > i then j else i)) H) := by
  intro pins s σ H xs us Q I r h
  obtain ⟨i, j, rfl, q⟩ := h
  obtain ⟨u, w', rfl, ⟨t, rfl⟩, ⟨t', rfl⟩⟩ := vals2 r
  refine max_two_ints (I.ok.hd hc) fun h' tk k => ⟨_, H, I.kept k, ?_, q⟩
  by_cases hj : j > i
  · rw [if_pos hj, if_pos hj]; exact ⟨_, rfl⟩
  · rw [if_neg hj, if_neg hj]; exact ⟨_, rfl⟩
theorem call_min2 (hc : X.calm = true) : CallR X (.builtin "min") (fun xs H Q => ∃ i j, xs = [.int i, .int j] ∧ Q (.int (if j < i then j else i)) H) := by
  intro pins s σ H xs us Q I r h
  obtain ⟨i, j, rfl, q⟩ := h
  obtain ⟨u, w', rfl, ⟨t, rfl⟩, ⟨t', rfl⟩⟩ := vals2 r
  refine min_two_ints (I.ok.hd hc) fun h' tk k => ⟨_, H, I.kept k, ?_, q⟩
  by_cases hj : j < i
  · rw [if_pos hj, if_pos hj]; exact ⟨_, rfl⟩
  · rw [if_neg hj, if_neg hj]; exact ⟨_, rfl⟩
end
end Internal

namespace Internal
open PySem PySem.Spec PyProof.Rows

set_option genInjectivity false in
set_option genSizeOf false in
structure ObjM (h : Heap) (x dx C : Addr) (mA : Str → Option Value) : Prop where
  obj : h.get? x = some (PySem.W.instObj C dx)
  ns : h.Ns1 dx mA
  ne : dx ≠ x

theorem lookIn_ns {h : Heap} {dx : Addr} {mA : Str → Option Value} (n : h.Ns1 dx mA) : ∃ od, h.get? dx = some od ∧ ∀ name, PySem.W.lookIn name od = some (mA name) := by
  obtain ⟨o, es, ep, ho, hd, hk, _, hm⟩ := n
  refine ⟨o, ho, fun name => ?_⟩
  have e := hm name
  unfold nsFind findBy at e
  rw [← Array.find?_toList] at e
  unfold PySem.W.lookIn
  rw [hd]
  dsimp only
  split
  · rename_i y q
    rw [q] at e
    exact congrArg some e
  · rename_i q
    rw [q] at e
    have a : es.toList.any (·.refKey) = false := by
      rw [List.any_eq_false]
      intro y hy
      obtain ⟨z, t, hkey⟩ := hk y (Array.mem_toList_iff.mp hy)
      simp [DictEntry.refKey, hkey]
    have a' : ¬ es.toList.any (·.refKey) = true := by rw [a]; exact Bool.false_ne_true
    rw [if_neg a']
    exact congrArg some e

theorem ObjM.look {h : Heap} {x dx C : Addr} {mA : Str → Option Value} (I : ObjM h x dx C mA) : ∃ od, PySem.W.InstAt h x (PySem.W.instObj C dx) C (some od) ∧ ∀ name, PySem.W.lookIn name od = some (mA name) :=
  let ⟨od, ho, hl⟩ := lookIn_ns I.ns
  ⟨od, ⟨I.obj, rfl, rfl, ho⟩, hl⟩

section
variable {prog : Program} {w : World} {A : Around} {E : Value → Shared → Prop} {s : Shared} {K : PySem.W.Frag} {x dx C f : Addr} {mA : Str → Option Value} {name : Str} {v : Value}

end

noncomputable def putF (f : Str) (v : V) : List (Str × V) → List (Str × V)
  | [] => [(f, v)]
  | (g, x) :: r => if g = f then (g, v) :: r else (g, x) :: putF f v r
section
variable {P : Program} {w : World} {H H' : Hp} {h h' : Heap} {a C dx : Addr} {fs fs' : List (Str × V)}
theorem ins_get (hok : HOk P w H h) (e : H a = some (.ins C dx fs)) : ∃ mA, ObjM h a dx C mA ∧ (∀ f, RelO (fs.lookup f) (mA f)) ∧ PySem.Within mA (fs.map (·.1)) ∧ fs.length ≤ 1000 ∧ H dx = some (.own a) := by
  obtain ⟨d, z, ne, ob, mA, n, r, q⟩ := (show ObjOk P w H h a (.ins C dx fs) from hok a _ e)
  exact ⟨mA, ⟨ob, n, ne⟩, r, q, z, d⟩
end

set_option genInjectivity false in
set_option genSizeOf false in
structure Cls (K : PySem.W.Frag) (C : Addr) : Prop where
  pg : PySem.W.plainGet K C Str.empty = true
  hd : PySem.W.hasDictIn K C = true
  po : PySem.W.plainOver K C = true
  sa : PySem.W.findIn K (.ref C) "__setattr__" = some (some (.builtin "object.__setattr__"))
theorem Cls.get {K : PySem.W.Frag} {C : Addr} (c : Cls K C) (f : Str) : PySem.W.plainGet K C f = true := c.pg
set_option genInjectivity false in
set_option genSizeOf false in
structure Con (K : PySem.W.Frag) (C : Addr) (f : Str) (v : V) (u : Value) : Prop where
  at_ : PySem.W.findIn K (.ref C) f = some (some u)
  rel : RelV v u
  get : PySem.W.specialIn K u "__get__" = some none
  cp : PySem.W.copiedNames.contains f = false
set_option genInjectivity false in
set_option genSizeOf false in
structure Meth (K : PySem.W.Frag) (C : Addr) (m : Str) (f : Addr) : Prop where
  at_ : PySem.W.findIn K (.ref C) m = some (some (.ref f))
  fn : PySem.W.isFn K (.ref f) = true
  kp : PySem.W.keepIn K (.ref f) = true

section
variable {X : Cx} {pins : List (Addr × Obj)} {σ : St} {H : Hp} {s : Shared} {a C dx : Addr} {fs : List (Str × V)} {f : Str} {v : V} {A : Around} {E : Value → Shared → Prop}

end

section
variable {X : Cx} {o e value : Expr} {f : Str} {pos pos' tpos : Pos} {ta tv : TE}
end

section
variable {X : Cx} {pins : List (Addr × Obj)} {σ : St} {H : Hp} {s : Shared} {A : Around} {E : Value → Shared → Prop} {Q : Value → Shared → Prop} {c : Value} {b : Bool}
inductive TyOf (K : PySem.W.Frag) (H : Hp) : V → Value → Prop where
  | non : TyOf K H .non (.type "NoneType")
  | bl (x : Bool) : TyOf K H (.bl x) (.type "bool")
  | int (i : Int) : TyOf K H (.int i) (.type "int")
  | str (x : Str) : TyOf K H (.str x) (.type "str")
  | flt (x : UInt64) : TyOf K H (.flt x) (.type "float")
  | lst {a : Addr} {xs : List V} (e : H a = some (.lst xs)) : TyOf K H (.ref a) (.type "list")
  | frz {a : Addr} {o : Obj} {xs : List V} (e : H a = some (.frz o (.lst xs))) : TyOf K H (.ref a) (.type "list")
  | tup {a : Addr} {xs : List V} (e : H a = some (.tup xs)) : TyOf K H (.ref a) (.type "tuple")
  | dK {a : Addr} {kvs : List (Key × V)} (e : H a = some (.dK kvs)) : TyOf K H (.ref a) (.type "dict")
  | dT {a : Addr} {kvs : List (List Key × V)} (e : H a = some (.dT kvs)) : TyOf K H (.ref a) (.type "dict")
  | ins {a C dx : Addr} {fs : List (Str × V)} (e : H a = some (.ins C dx fs)) (cl : Cls K C) (ha : PySem.W.findIn K (.ref C) "__class__" = some (some (.builtin "object.__class__")))
      (hn : PySem.W.specialIn K (.builtin "object.__class__") "__get__" = some (some (.builtin "getset_descriptor.__get__"))) (htk : PySem.W.takesIn K (.builtin "object.__class__") = some true)
      (hm : PySem.W.mroIn K C (.type "object") = some true) : TyOf K H (.ref a) (.ref C)
theorem isinst_ok {x : V} {u t : Value} (I : Inv X pins σ H s) (rx : RelV x u) (ty : TyOf X.K H x t) (e : PySem.W.kitOne X.K t c = some b) (h : ∀ tk, Q (.bool b) { s with toks := tk }) :
    wpAny (model X.prog X.w) A (call (.builtin "isinstance") [u, c]) Q E s := by
  cases ty with
  | non => cases (show u = Value.none from rx); exact PySem.W.kia_one PySem.W.kitx_none I.kIn True.intro e (fun z => nomatch z) h
  | bl y => cases (show u = Value.bool y from rx); exact PySem.W.kia_one PySem.W.kitx_bool I.kIn True.intro e (fun z => nomatch z) h
  | int i => obtain ⟨t, q⟩ := (show ∃ t, u = Value.int i t from rx); cases q; exact PySem.W.kia_one PySem.W.kitx_int I.kIn True.intro e (fun z => nomatch z) h
  | str y => obtain ⟨t, q⟩ := (show ∃ t, u = Value.str y t from rx); cases q; exact PySem.W.kia_one PySem.W.kitx_str I.kIn True.intro e (fun z => nomatch z) h
  | flt y => obtain ⟨t, q⟩ := (show ∃ t, u = Value.float y t from rx); cases q; exact PySem.W.kia_one PySem.W.kitx_float I.kIn True.intro e (fun z => nomatch z) h
  | @lst a xs ea =>
    cases (show u = Value.ref a from rx)
    obtain ⟨_, _, n, _, h1⟩ := (show ObjOk X.prog X.w H s.heap a (.lst xs) from I.hok a _ ea)
    exact PySem.W.kia_one PySem.W.kitx_list I.kIn ⟨_, h1, rfl⟩ e (fun z => nomatch z) h
  | @frz a ob xs ea =>
    cases (show u = Value.ref a from rx)
    obtain ⟨_, _, _, n, _, h1⟩ := (show ObjOk X.prog X.w H s.heap a (.frz ob (.lst xs)) from I.hok a _ ea)
    exact PySem.W.kia_one PySem.W.kitx_list I.kIn ⟨_, h1, rfl⟩ e (fun z => nomatch z) h
  | @tup a xs ea =>
    cases (show u = Value.ref a from rx)
    obtain ⟨_, _, _, p⟩ := (show ObjOk X.prog X.w H s.heap a (.tup xs) from I.hok a _ ea)
    obtain ⟨o, h1, h2, _⟩ := p
    exact PySem.W.kia_one PySem.W.kitx_tuple I.kIn ⟨o, h1, h2⟩ e (fun z => nomatch z) h
  | @dK a kvs ea =>
    cases (show u = Value.ref a from rx)
    obtain ⟨_, _, vs, _, p⟩ := (show ObjOk X.prog X.w H s.heap a (.dK kvs) from I.hok a _ ea)
    obtain ⟨o, es, ep, h1, h2, _⟩ := p
    exact PySem.W.kia_one PySem.W.kitx_dict I.kIn ⟨o, h1, h2.1⟩ e (fun z => nomatch z) h
  | @dT a kvs ea =>
    cases (show u = Value.ref a from rx)
    obtain ⟨_, _, xs, _, o, es, ep, h1, h2, _⟩ := (show ObjOk X.prog X.w H s.heap a (.dT kvs) from I.hok a _ ea)
    exact PySem.W.kia_one PySem.W.kitx_dict I.kIn ⟨o, h1, h2.1⟩ e (fun z => nomatch z) h
  | @ins a C dx fs ea cl ha hn htk hm =>
    cases (show u = Value.ref a from rx)
    obtain ⟨mA, O, _⟩ := ins_get I.hok ea
    obtain ⟨od, J, _⟩ := O.look
    exact PySem.W.kia_one (PySem.W.kitx_own (cl.get _) cl.hd ha hn htk hm) I.kIn J e (fun z => nomatch z) h
end
end Internal

namespace Internal
open PySem PySem.Spec PyProof.Rows

set_option genInjectivity false in
set_option genSizeOf false in
structure Room (k : Nat) (A : Around) : Prop where
  hd : A.handled = none
  dp : A.depth + 3 * k + 5 < recursionLimit
  un : A.units + 16 * k + 200 < cLine
theorem Room.mono {j k : Nat} {A : Around} (r : Room k A) (h : j ≤ k) : Room j A := ⟨r.hd, by have := r.dp; omega, by have := r.un; omega⟩
theorem Room.deeper {k : Nat} {A : Around} (r : Room (k + 1) A) (env : Env) : Room k (A.deeper env) :=
  ⟨r.hd, by have := r.dp; show A.depth + 1 + 3 * k + 5 < _; omega, by have := r.un; show A.units + 3 + 16 * k + 200 < _; omega⟩
theorem Room.depth {k : Nat} {A : Around} (r : Room k A) : A.depth < recursionLimit := by have := r.dp; omega
theorem Room.units {k : Nat} {A : Around} (r : Room k A) : A.units + 64 < cLine := by have := r.un; omega
noncomputable abbrev tNil : TA := fun _ H Q => Q [] H
noncomputable abbrev tCons (ta : TE) (tr : TA) : TA := fun σ H Q => ta σ H fun x H1 => tr σ H1 fun xs H2 => Q (x :: xs) H2
section
variable {X : Cx} {e : Expr} {es : List Expr} {te : TE} {t : TA} {pos : Pos}
theorem pa_nil : PA X [] tNil := fun _ _ _ _ H Q I h => Calls.spliced_nil ⟨[], H, I, .nil, h⟩
theorem pa_cons (ha : PE X e te) (hr : PA X es t) (hs : autoParam (starEach (e :: es) X.env = (false, eval e X.env) :: starEach es X.env) Internal.aut2._auto_1) : PA X (e :: es) (tCons te t) := by
  intro pos pins s σ H Q I h
  rw [hs]
  show wpAny _ _ (spliced ((false, eval e X.env) :: backTo pos (starEach es X.env))) _ _ s
  refine Calls.spliced_cons (thn (ha pins s σ H _ I h) fun u s1 zz => ?_)
  obtain ⟨x, H1, I1, r1, q1⟩ := zz
  exact thn (hr pos pins s1 σ H1 _ I1 q1) fun us s2 ⟨xs, H2, I2, r2, q2⟩ => ⟨x :: xs, H2, I2, .cons r1 r2, q2⟩

noncomputable def tTup (t : TA) : TE := fun σ H Q => t σ H fun xs H1 => xs.length ≤ sizeLine ∧ ∀ p, H1 p = none → Q (.ref p) (upd H1 p (.tup xs))
noncomputable def tLst (t : TA) : TE := fun σ H Q => t σ H fun xs H1 => xs.length ≤ sizeLine ∧ ∀ p, H1 p = none → Q (.ref p) (upd H1 p (.lst xs))
theorem pe_tup {x1} (h : PA X es t) : PE X (.Tuple es x1 pos) (tTup t) := by
  intro pins s σ H Q I hq
  refine wpAny_Tuple_spliced (thn (h pos pins s σ H _ I hq) fun us s1 ⟨xs, H1, I1, r, z, q⟩ => ⟨by rw [← r.length]; exact z, ?_⟩)
  have hf : H1 s1.heap.objs.size = none := I1.hok.fresh (Nat.le_refl _)
  refine ⟨.ref s1.heap.objs.size, upd H1 s1.heap.objs.size (.tup xs), I1.laid (t' := s1.toks) (fun b u e => Heap.get?_push_of_some _ e) (Nat.le_refl _) ?_, rfl, q _ hf⟩
  exact ⟨z, us, r, ⟨_, Heap.get?_push_size _ rfl, rfl, _, rfl⟩⟩
theorem pe_lst (h : PA X es t) : PE X (.List es pos) (tLst t) := by
  intro pins s σ H Q I hq
  refine wpAny_List_spliced (thn (h pos pins s σ H _ I hq) fun us s1 ⟨xs, H1, I1, r, z, q⟩ => ⟨by rw [← r.length]; exact z, ?_⟩)
  have hf : H1 s1.heap.objs.size = none := I1.hok.fresh (Nat.le_refl _)
  refine ⟨.ref s1.heap.objs.size, upd H1 s1.heap.objs.size (.lst xs), I1.laid (t' := s1.toks) (fun b u e => Heap.get?_push_of_some _ e) (Nat.le_refl _) ?_, rfl, q _ hf⟩
  exact ⟨z, us, 0, r, Heap.get?_push_size _ rfl⟩
end

noncomputable abbrev Sp := List V → Hp → VK → XK → Prop
noncomputable abbrev CXT := List Env → Hp → Shared → XK → Value → Shared → Prop

set_option genInjectivity false in
set_option genSizeOf false in
structure Env0 (P : Program) (w : World) (K : PySem.W.Frag) (mg : Str → Option Value) (base : Heap) (A : Around) (outer : List Env) (s : Shared) (H : Hp) : Prop where
  frames : A.frames = some outer
  mod : Mod K mg base
  bs : ∀ b o, base.get? b = some o → s.heap.get? b = some o ∧ H b = none
  bsz : base.objs.size ≤ s.heap.objs.size
  funs : s.heap.FunFrames base outer
  frf : ∀ b ∈ frs outer, H b = none
  hok : HOk P w H s.heap
  bare : AllBare s.gens
noncomputable def CE (outer : List Env) (P : Program) (w : World) (H : Hp) (s : Shared) (Q : VK) (u : Value) (s' : Shared) : Prop :=
  ∃ v H', s'.os = s.os ∧ AllBare s'.gens ∧ Un (frs outer) [] H H' s.heap s'.heap ∧ HOk P w H' s'.heap ∧ RelV v u ∧ Q v H'
noncomputable def CR (CX : CXT) (outer : List Env) (P : Program) (w : World) (H : Hp) (s : Shared) (Q : VK) (E : XK) (r : Result) (s' : Shared) : Prop :=
  match r with
  | .ok (.ret u) => CE outer P w H s Q u s'
  | .ok _ => False
  | .error e => CX outer H s E e s'
set_option genInjectivity false in
set_option genSizeOf false in
structure FnOk (P : Program) (w : World) (K : PySem.W.Frag) (mg : Str → Option Value) (base : Heap) (CX : CXT) (k : Nat) (f : Addr) (fd : FuncData) (ps : List Str) (sp : Sp) : Prop where
  len : ∀ vs H Q E, sp vs H Q E → vs.length = ps.length
  run : ∀ (A : Around) (outer : List Env) (s : Shared) (H : Hp) (args : Args) (us : List Value) (vs : List V) (Q : VK) (E : XK), Room k A → Env0 P w K mg base A outer s H → BindsTo s fd args (ps.zip us) → Vals vs us → sp vs H Q E →
    codeAny (model P w) A (.call (.ref f) args) (CR CX outer P w H s Q E) s
section
variable {X : Cx} {pins : List (Addr × Obj)} {σ : St} {H : Hp} {s s' : Shared}
theorem Inv.env0 (I : Inv X pins σ H s) : Env0 X.prog X.w X.K X.mg X.base X.A X.stack s H :=
  ⟨I.ok.frames, I.ok.mod, I.bs, Nat.le_trans I.ok.bsz I.sz, I.stack, I.stkFree, I.hok, I.bare⟩
theorem Inv.after {Q : VK} {u : Value} (I : Inv X pins σ H s) (h : CE X.stack X.prog X.w H s Q u s') : EP X pins σ Q u s' := by
  obtain ⟨v, H', os, bare, un, hok, r, q⟩ := h
  obtain ⟨hh, g, d, t, os'⟩ := s'
  obtain rfl : os' = s.os := os
  exact ⟨v, H', I.call (h' := hh) (g' := g) (d' := d) (t' := t) (ch := []) un hok bare (fun b z => absurd z (by simp)), r, q⟩
end

noncomputable def tCall (sp : Sp) (dvs : List V) (E : XK) (t : TA) : TE := fun σ H Q => t σ H fun vs H1 => sp (vs ++ dvs) H1 Q E
noncomputable def Binds (K : PySem.W.Frag) (fd : FuncData) (ps : List Str) (ds : List Value) : Prop :=
  ∀ (s : Shared) (us : List Value), K.In s.heap → (us ++ ds).length = ps.length → BindsTo s fd ⟨us, []⟩ (ps.zip (us ++ ds))
theorem Binds.all {K : PySem.W.Frag} {fd : FuncData} {ps : List Str} (h : ∀ us : List Value, us.length = ps.length → bindArgs fd ⟨us, []⟩ = pure (ps.zip us)) : Binds K fd ps [] := fun s us _ hl => by
  rw [List.append_nil] at hl ⊢
  exact .of_eq (h us hl)

noncomputable def Passes (CX : CXT) (X : Cx) (E : XK) : Prop := ∀ (pins : List (Addr × Obj)) (σ : St) (H : Hp) (s : Shared) (e : Value) (s' : Shared), Inv X pins σ H s → CX X.stack H s E e s' → X.xe e s'

section
variable {X : Cx} {CX : CXT} {k : Nat} {f C : Addr} {fd : FuncData} {ps : List Str} {sp : Sp} {dvs : List V} {ds : List Value} {E : XK} {x m : Str} {p pos apos : Pos} {e o : Expr} {es : List Expr} {ta : TE} {t : TA}

theorem run_fn {pins : List (Addr × Obj)} {σ : St} {H : Hp} {s : Shared} {Q : VK} {us : List Value} {vs : List V} (F : FnOk X.prog X.w X.K X.mg X.base CX k f fd ps sp) (hr : Room k X.A) (hb : Binds X.K fd ps ds) (hd : Vals dvs ds) (hx : Passes CX X E)
    (I : Inv X pins σ H s) (r : Vals vs us) (h : sp (vs ++ dvs) H Q E) : wpAny (model X.prog X.w) X.A (call (.ref f) us) (EP X pins σ Q) X.xe s := by
  have r2 : Vals (vs ++ dvs) (us ++ ds) := r.append hd
  have hl : (us ++ ds).length = ps.length := by rw [← r2.length]; exact F.len _ _ _ _ h
  refine wpAny_call (codeAny_mono (F.run X.A X.stack s H ⟨us, []⟩ (us ++ ds) (vs ++ dvs) Q E hr I.env0 (hb s us I.kIn hl) r2 h) fun r s' hq => ?_)
  cases r with
  | error e => exact hx pins σ H s e s' I hq
  | ok fl =>
    cases fl with
    | ret u => exact I.after hq
    | next => exact False.elim hq
    | brk => exact False.elim hq
    | cont => exact False.elim hq

theorem pe_call (F : FnOk X.prog X.w X.K X.mg X.base CX k f fd ps sp) (hr : Room k X.A) (hg : Gl X x) (hm : X.mg x = some (.ref f)) (hk : PySem.W.keepIn X.K (.ref f) = true) (hb : Binds X.K fd ps ds) (hd : Vals dvs ds) (hx : Passes CX X E)
    (ha : PA X (e :: es) t) (hdb : autoParam ((x == ("__debug__" : Str)) = false) Internal.aut1._auto_1) (he : autoParam (starEach (e :: es) X.env = (false, eval e X.env) :: starEach es X.env) Internal.aut2._auto_1) (hpl : autoParam ((backTo pos (starEach es X.env)).any (·.1) = false) Internal.aut2._auto_1) :
    PE X (.Call (.Name x p) (e :: es) [] pos) (tCall sp dvs E t) := by
  intro pins s σ H Q I h
  refine wpAny_Call_Name_kw (ld_glob I hg hm ?_ hdb)
  refine PySem.W.callWith_K (h₀ := X.base) I.ok.mod.kin hk (thn (ha pos pins s σ H _ I h) fun us s1 ⟨vs, H1, I1, r, q⟩ => ⟨I1.kIn, ?_⟩) he hpl
  exact run_fn F hr hb hd hx I1 r q
set_option genInjectivity false in
set_option genSizeOf false in
structure Mk (K : PySem.W.Frag) (C f : Addr) : Prop where
  makes : PySem.W.makesIn K C = true
  init : PySem.W.findIn K (.ref C) "__init__" = some (some (.ref f))
  fn : PySem.W.isFn K (.ref f) = true
  kp : PySem.W.keepIn K (.ref C) = true

end

section
variable {X : Cx} {CX : CXT} {k : Nat} {f C : Addr} {fd : FuncData} {ps ks : List Str} {sp : Sp} {E : XK} {x m : Str} {p pos apos kpos : Pos} {e o : Expr} {es : List Expr} {kws : List Keyword} {te ta : TE} {t tk : TA} {nm : Option Str}
set_option genInjectivity false in
set_option genSizeOf false in
structure KBinds (K : PySem.W.Frag) (fd : FuncData) (ps ks : List Str) (g : List Value → List Value → List Value) (gV : List V → List V → List V) : Prop where
  to : ∀ (s : Shared) (us ws : List Value), K.In s.heap → (g us ws).length = ps.length → BindsTo s fd ⟨us, ks.zip ws⟩ (ps.zip (g us ws))
  rel : ∀ {vs : List V} {us : List Value} {zs : List V} {ws : List Value}, Vals vs us → Vals zs ws → Vals (gV vs zs) (g us ws)
variable {g : List Value → List Value → List Value} {gV : List V → List V → List V}
end

set_option genInjectivity false in
set_option genSizeOf false in
structure FnScope (N P : List Str) (sc : Scope) : Prop where
  kind : sc.kind = .function
  co : sc.isCoroutine = false
  gen : sc.isGenerator = false
  nd : N.Nodup
  pre : N.take P.length = P
  par : ∀ x ∈ P, sc.names.lookup x = some .local ∨ sc.names.lookup x = some .cell
  nofree : ∀ y ∈ sc.names, y.2 ≠ .free

theorem bindL_out {kindOf : Str → Option NameKind} {x : Str} : ∀ {binds : List (Str × Value)} {m : Str → Option Value}, (∀ v, (x, v) ∉ binds) → bindL kindOf binds m x = m x
  | [], _, _ => rfl
  | (n, v) :: r, m, h => by
    unfold bindL
    rw [bindL_out fun w hw => h w (List.mem_cons_of_mem _ hw)]
    split
    · have : x ≠ n := by rintro rfl; exact h v List.mem_cons_self
      simp [this]
    · rfl
theorem bindC_out {kindOf : Str → Option NameKind} {x : Str} : ∀ {binds : List (Str × Value)} {m : Str → Option Value}, (∀ v, (x, v) ∉ binds) → bindC kindOf binds m x = m x
  | [], _, _ => rfl
  | (n, v) :: r, m, h => by
    unfold bindC
    rw [bindC_out fun w hw => h w (List.mem_cons_of_mem _ hw)]
    split
    · rfl
    · have : x ≠ n := by rintro rfl; exact h v List.mem_cons_self
      simp [this]
theorem bindL_get {kindOf : Str → Option NameKind} {x : Str} {v : Value} : ∀ {P : List Str} {vs : List Value} {i : Nat} {m : Str → Option Value}, P.Nodup → P[i]? = some x → vs[i]? = some v → kindOf x = some .local →
    bindL kindOf (P.zip vs) m x = some v
  | [], _, _, _, _, h, _, _ => by simp at h
  | _ :: _, [], _, _, _, _, h, _ => by simp at h
  | p :: P, w :: vs, 0, m, nd, h1, h2, hk => by
    simp at h1 h2; subst h1; subst h2
    show bindL kindOf ((p, w) :: P.zip vs) m p = _
    unfold bindL
    rw [bindL_out fun v hv => (List.nodup_cons.mp nd).1 (List.of_mem_zip hv).1, if_pos hk]
    simp
  | p :: P, w :: vs, i + 1, m, nd, h1, h2, hk => by
    show bindL kindOf ((p, w) :: P.zip vs) m x = _
    unfold bindL
    exact bindL_get (i := i) (List.nodup_cons.mp nd).2 (by simpa using h1) (by simpa using h2) hk
theorem bindC_get {kindOf : Str → Option NameKind} {x : Str} {v : Value} : ∀ {P : List Str} {vs : List Value} {i : Nat} {m : Str → Option Value}, P.Nodup → P[i]? = some x → vs[i]? = some v → kindOf x ≠ some .local →
    bindC kindOf (P.zip vs) m x = some v
  | [], _, _, _, _, h, _, _ => by simp at h
  | _ :: _, [], _, _, _, _, h, _ => by simp at h
  | p :: P, w :: vs, 0, m, nd, h1, h2, hk => by
    simp at h1 h2; subst h1; subst h2
    show bindC kindOf ((p, w) :: P.zip vs) m p = _
    unfold bindC
    rw [bindC_out fun v hv => (List.nodup_cons.mp nd).1 (List.of_mem_zip hv).1, if_neg hk]
    simp
  | p :: P, w :: vs, i + 1, m, nd, h1, h2, hk => by
    show bindC kindOf ((p, w) :: P.zip vs) m x = _
    unfold bindC
    exact bindC_get (i := i) (List.nodup_cons.mp nd).2 (by simpa using h1) (by simpa using h2) hk

noncomputable def start (N : List Str) (vs : List V) : St := vs.map some ++ List.replicate (N.length - vs.length) none

noncomputable def cxOf (CX : CXT) (P : Program) (w : World) (K : PySem.W.Frag) (mg : Str → Option Value) (base : Heap) (N : List Str) (qual : Str) (scope : Scope) (f : Addr) (cd : Value) (A : Around) (outer : List Env) (s : Shared) (H : Hp) (E : XK) : Cx where
  prog := P
  w := w
  K := K
  mg := mg
  base := base
  A := A.deeper (envOfC qual scope s.heap.objs.size f cd)
  N := N
  s₀ := s
  H₀ := H
  env := envOfC qual scope s.heap.objs.size f cd
  outer := outer
  stack := envOfC qual scope s.heap.objs.size f cd :: outer
  ex := []
  calm := true
  fn := fun _ => true
  pn := []
  xe := fun e s' => wpAny (model P w) (A.deeper (envOfC qual scope s.heap.objs.size f cd)) (leaving (envOfC qual scope s.heap.objs.size f cd) e) (fun _ s'' => CX outer H s E e s'') (fun e' s'' => CX outer H s E e' s'') s'

theorem cell_has {sc : Scope} {n : Nat} {x : Str} (h : sc.names.lookup x = some .cell) : ∃ c, (cellsFrom n sc.names []).lookup x = some c := by
  have q := PySem.W.cellsFrom_some sc.names n [] (.inl h)
  exact Option.isSome_iff_exists.mp q

theorem inv_start {CX : CXT} {P : Program} {w : World} {K : PySem.W.Frag} {mg : Str → Option Value} {base : Heap} {N ps : List Str} {qual : Str} {scope : Scope} {f : Addr} {cd : Value} {A : Around} {outer : List Env} {s s1 : Shared} {H : Hp} {E : XK} {us : List Value} {vs : List V}
    (S : FnScope N ps scope) (hd : A.handled = none) (e0 : Env0 P w K mg base A outer s H) (hl : vs.length = ps.length) (r : Vals vs us)
    (x : InCallC s s.heap.objs.size (bindL (envOfC qual scope s.heap.objs.size f cd).kindOf (ps.zip us) fun _ => none) (cellsFrom (s.heap.objs.size + 1) scope.names []) (bindC (envOfC qual scope s.heap.objs.size f cd).kindOf (ps.zip us) fun _ => none) s1) :
    Inv (cxOf CX P w K mg base N qual scope f cd A outer s H E) [] (start N vs) H s1 := by
  have hpl : ps.length ≤ N.length := by have := congrArg List.length S.pre; rw [List.length_take] at this; omega
  obtain ⟨h1, tk, rfl, hk⟩ := x.done
  have noA : ∀ b : Addr, b ∉ (cxOf CX P w K mg base N qual scope f cd A outer s H E).ex := fun b z => absurd (show b ∈ ([] : List Addr) from z) (by simp)
  refine ⟨⟨e0.mod, S.kind, rfl, rfl, Nat.le_refl _, fun y z c h1 h2 => ?_, fun y hy => ?_, fun y c _ h => ?_, fun _ => hd, Around.frames_deeper e0.frames, .inr ⟨rfl, rfl⟩, fun b z => absurd z (noA b), e0.bs, e0.bsz, fun b _ _ => noA b, fun b z => absurd z (noA b), e0.funs, e0.frf⟩,
    rfl, e0.bare, Un.kept hk, ⟨_, x.toInCall.ns, fun i y v h1 h2 h3 => ?_⟩, fun y c h => ⟨_, x.cell y c h⟩, e0.hok.fresh (Nat.le_refl _), fun y c h => ?_, fun p hp => absurd (show p ∈ ([] : List (Addr × Obj)) from hp) (by simp), e0.hok.kept hk, ?_⟩
  · exact name_of_addr x.apart (PySem.mem_of_lookup h1) (PySem.mem_of_lookup h2)
  · have hy : scope.names.lookup y = some .cell ∨ scope.names.lookup y = some .free := hy
    rcases hy with hy | hy
    · exact cell_has hy
    · exact absurd rfl (S.nofree _ (PySem.mem_of_lookup hy))
  · exact Nat.le_of_lt (x.above y c (PySem.mem_of_lookup h))
  · have hi : i < vs.length := by
      unfold start at h2
      by_cases hi : i < vs.length
      · exact hi
      · rw [List.getElem?_append_right (by simpa using hi)] at h2
        rw [List.getElem?_replicate] at h2
        split at h2 <;> cases h2
    have ha : vs[i]? = some v := by
      unfold start at h2
      rw [List.getElem?_append_left (by simpa using hi), List.getElem?_map] at h2
      cases e : vs[i]? with
      | none => rw [e] at h2; cases h2
      | some a => rw [e] at h2; cases h2; rfl
    obtain ⟨u, hu, rv⟩ := r.get ha
    have hp : ps[i]? = some y := by
      rw [← S.pre, List.getElem?_take_of_lt (by omega)]; exact h1
    have ndP : ps.Nodup := by rw [← S.pre]; exact S.nd.sublist (List.take_sublist _ _)
    refine ⟨u, rv, ?_⟩
    rcases S.par y (List.mem_of_getElem? hp) with k | k
    · exact .inl ⟨k, bindL_get ndP hp hu k⟩
    · obtain ⟨c, e⟩ := cell_has (n := s.heap.objs.size + 1) k
      refine .inr ⟨.inl k, c, e, ?_⟩
      have q := x.cell y c e
      rw [bindC_get ndP hp hu (by show scope.names.lookup y ≠ _; rw [k]; decide)] at q
      exact q
  · exact e0.hok.fresh (Nat.le_of_lt (x.above y c (PySem.mem_of_lookup h)))
  · unfold start
    show _ = N.length
    rw [List.length_append, List.length_map, List.length_replicate]
    omega

theorem fn_of {CX : CXT} {P : Program} {w : World} {K : PySem.W.Frag} {mg : Str → Option Value} {base : Heap} {k : Nat} {f : Addr} {name qual : Str} {params : Arguments} {body : List Stmt} {scope : Scope} {dV kV doc pm cdv ct oc : Value} {an od : Option Addr}
    {osl : Array (Option Value)} {N ps : List Str} {sp : Sp} (lk : K.lookup f = some ⟨oc, od, .func (PySem.W.fnOf name qual params body scope dV kV doc pm an cdv ct), osl⟩) (hcd : PySem.W.codeIn K cdv qual = true) (S : FnScope N ps scope)
    (len : ∀ vs H Q E, sp vs H Q E → vs.length = ps.length)
    (hbody : ∀ (A : Around) (outer : List Env) (s : Shared) (H : Hp) (vs : List V) (Q : VK) (E : XK), Room k (A.deeper (envOfC qual scope s.heap.objs.size f cdv)) → sp vs H Q E →
      ∃ t, PSs (cxOf CX P w K mg base N qual scope f cdv A outer s H E) body t ∧ t { nx := fun _ H' => Q .non H', rt := Q } (start N vs) H) :
    FnOk P w K mg base CX (k + 1) f (PySem.W.fnOf name qual params body scope dV kV doc pm an cdv ct) ps sp := by
  refine ⟨len, fun A outer s H args us vs Q E hr e0 hb r hsp => ?_⟩
  have hl := len _ _ _ _ hsp
  have KX : K.In s.heap := e0.mod.kin.keeps fun b o e => (e0.bs b o e).1
  have lim : s.heap.NoLimit := e0.mod.nolimit.keeps fun b o e => (e0.bs b o e).1
  have hkind : ∀ y ∈ ps.zip us, scope.names.lookup y.1 = some .local ∨ (scope.names.lookup y.1 = some .cell ∧ ((cellsFrom (s.heap.objs.size + 1) scope.names []).lookup y.1).isSome = true) := fun ⟨n, v⟩ hy => by
    rcases S.par n (List.of_mem_zip hy).1 with q | q
    · exact .inl q
    · exact .inr ⟨q, PySem.W.cellsFrom_some _ _ _ (.inl q)⟩
  refine codeAny_call_function hr.depth (KX _ _ lk) rfl S.co S.gen rfl (PySem.W.codeRec_of KX hcd) (hb _ _ _ _ ?_)
  refine wpAny_newFunctionEnv_cells S.kind hkind fun env he s1 x => ?_
  subst he
  refine ⟨lim.keeps x.toInCall.keep, codeAny_func ?_⟩
  obtain ⟨t, ht, hq⟩ := hbody A outer s H vs Q E (hr.deeper _) hsp
  have I : Inv (cxOf CX P w K mg base N qual scope f cdv A outer s H E) [] (start N vs) H s1 := inv_start S hr.hd e0 hl r x
  refine wpAny_mono (ht [] s1 (start N vs) H _ I hq) (fun fl s' hs => ?_) fun e s' hs => hs
  have fin : ∀ {σ' : St} {H' : Hp} {v : V} {u : Value}, Inv (cxOf CX P w K mg base N qual scope f cdv A outer s H E) [] σ' H' s' → RelV v u → Q v H' → CE outer P w H s Q u s' :=
    fun {σ' H' v u} J rv q => ⟨v, H', J.os, J.bare, J.base, J.hok, rv, q⟩
  cases fl with
  | ret u =>
    obtain ⟨v, σ', H', J, rv, q⟩ := hs
    exact fin J rv q
  | next =>
    obtain ⟨σ', H', J, q⟩ := hs
    exact fin (v := V.non) (u := Value.none) J rfl q
  | brk =>
    obtain ⟨_, _, _, q⟩ := hs
    exact False.elim q
  | cont =>
    obtain ⟨_, _, _, q⟩ := hs
    exact False.elim q
end Internal

namespace Internal
open PySem PySem.Spec PyProof.Rows
section
variable {X : Cx} {x : Str} {p pos : Pos} {e : Expr} {es : List Expr} {t : TA} {id T : String} {r : List V → Hp → VK → Prop}

noncomputable abbrev tCB (r : List V → Hp → VK → Prop) (t : TA) : TE := fun σ H Q => t σ H fun vs H1 => r vs H1 Q
theorem pe_callB (hc : CallR X (.builtin id) r) (hg : Gl X x) (hm : X.mg x = none) (hv : bootBuiltins x = some (.builtin id)) (ha : PA X (e :: es) t) (hn : autoParam (x ≠ "__name__") Internal.aut1._auto_1) (hdb : autoParam ((x == ("__debug__" : Str)) = false) Internal.aut1._auto_1)
    (he : autoParam (starEach (e :: es) X.env = (false, eval e X.env) :: starEach es X.env) Internal.aut2._auto_1) (hpl : autoParam ((backTo pos (starEach es X.env)).any (·.1) = false) Internal.aut2._auto_1) : PE X (.Call (.Name x p) (e :: es) [] pos) (tCB r t) := by
  intro pins s σ H Q I h
  refine wpAny_Call_Name_kw (ld_blt I hg hm hv ?_ hn hdb)
  exact PyProof.Rows.callWith_builtin1 (thn (ha pos pins s σ H _ I h) fun us s1 ⟨vs, H1, I1, r1, q1⟩ => hc pins s1 σ H1 vs us Q I1 r1 q1) he hpl
theorem pe_callTy (hc : CallR X (.type T) r) (hg : Gl X x) (hm : X.mg x = none) (hv : bootBuiltins x = some (.type T)) (ha : PA X (e :: es) t) (hn : autoParam (x ≠ "__name__") Internal.aut1._auto_1) (hdb : autoParam ((x == ("__debug__" : Str)) = false) Internal.aut1._auto_1)
    (he : autoParam (starEach (e :: es) X.env = (false, eval e X.env) :: starEach es X.env) Internal.aut2._auto_1) (hpl : autoParam ((backTo pos (starEach es X.env)).any (·.1) = false) Internal.aut2._auto_1) : PE X (.Call (.Name x p) (e :: es) [] pos) (tCB r t) := by
  intro pins s σ H Q I h
  refine wpAny_Call_Name_kw (ld_blt I hg hm hv ?_ hn hdb)
  exact PyProof.Rows.callWith_type1 (thn (ha pos pins s σ H _ I h) fun us s1 ⟨vs, H1, I1, r1, q1⟩ => hc pins s1 σ H1 vs us Q I1 r1 q1) he hpl
end
end Internal

namespace HT
open PySem PyProof.Rows

section
open PySem.SeqAt
open PySem.AutoSeq1 (wpAny_loadPart')
open PySem.MeetsSeq PySem.MeetsSeq2 PySem.MeetsSeq3

end

section
variable {prog : Program} {w : World} {A : Around} {E : Value → Shared → Prop} {s : Shared}

theorem cat_tup {t b : Addr} {vs ws : List Value} {Q : Value → Shared → Prop} (ht : IsTup s.heap t vs.toArray) (hb : IsTup s.heap b ws.toArray) (hv : vs ≠ [])
    (h1 : ws = [] → Q (.ref t) s) (h2 : ws ≠ [] → Q (.ref s.heap.objs.size) { s with heap := s.heap.push { cls := .type "tuple", data := .seq (vs ++ ws).toArray } })
    (hsz : vs.length + ws.length ≤ sizeLine) : wpAny (model prog w) A (binaryOp .Add (.ref t) (.ref b)) Q E s := by
  obtain ⟨⟨cls, dd, data, sl⟩, ho, hc, n, hd⟩ := id ht
  obtain ⟨⟨cls2, dd2, data2, sl2⟩, ho2, hc2, n2, hd2⟩ := id hb
  simp only at hc hd hc2 hd2
  subst hc hd hc2 hd2
  have e : vs.toArray ++ ws.toArray = (vs ++ ws).toArray := by simp
  by_cases hw : ws = []
  · exact concat_meets ⟨_, ho, rfl⟩ ⟨_, ho2, rfl⟩ noFill_tuple_add seq_tuple_add PySem.F.slot_tuple_add PySem.F.entry_tuple_add (PySem.F.args_tuple_add_2 _ _)
      (tuple_addW1 t b vs.toArray ws.toArray n n2 dd dd2 sl sl2 (by simpa using hv) (by simp [hw])) ⟨ho, ho2, h1 hw⟩
  · refine concat_meets ⟨_, ho, rfl⟩ ⟨_, ho2, rfl⟩ noFill_tuple_add seq_tuple_add PySem.F.slot_tuple_add PySem.F.entry_tuple_add (PySem.F.args_tuple_add_2 _ _)
      (tuple_addW2 t b vs.toArray ws.toArray n n2 dd dd2 sl sl2 (by simpa using hv) (by simpa using hw) (by rw [List.size_toArray, List.size_toArray]; exact hsz)) ⟨ho, ho2, ?_⟩
    rw [e]
    exact h2 hw

noncomputable def sIx (n d : Nat) : Option Int → Nat
  | none => d
  | some v => if v < 0 then (v + (n : Int)).toNat else min v.toNat n
end
end HT

namespace Internal
open PySem PySem.Spec PyProof.Rows

noncomputable abbrev TO := St → Hp → (Option Int → Hp → Prop) → Prop
noncomputable def PO (X : Cx) (e : Option Expr) (t : TO) : Prop :=
  ∀ (pins : List (Addr × Obj)) (s : Shared) (σ : St) (H : Hp) (Q : Option Int → Hp → Prop), Inv X pins σ H s → t σ H Q →
    wpAny (model X.prog X.w) X.A (evalPart e X.env) (fun u s' => ∃ o H', Inv X pins σ H' s' ∧ IsPart u o ∧ Q o H') X.xe s
noncomputable abbrev tNoPart : TO := fun _ H Q => Q none H
noncomputable def tPart (t : TE) : TO := fun σ H Q => t σ H fun x H1 => ∃ i, x = .int i ∧ Q (some i) H1

section
variable {X : Cx} {e : Expr} {te : TE} {lo hi : Option Expr} {tl th : TO} {pos p2 : Pos}

theorem po_none : PO X none tNoPart := by
  intro pins s σ H Q I h
  rw [evalPart_none]
  exact wpAny_pure ⟨none, H, I, .none, h⟩
theorem po_some (h : PE X e te) : PO X (some e) (tPart te) := by
  intro pins s σ H Q I hw
  rw [evalPart_some]
  refine thn (h pins s σ H _ I hw) fun u s1 zz => ?_
  obtain ⟨x, H1, I1, r1, q1⟩ := zz
  obtain ⟨i, rfl, q⟩ := q1
  obtain ⟨t, rfl⟩ := r1
  exact ⟨some i, H1, I1, .int i t, q⟩

noncomputable def SlR (X : Cx) (r : V → Option Int → Option Int → Hp → VK → Prop) : Prop :=
  ∀ (pins : List (Addr × Obj)) (s : Shared) (σ : St) (H : Hp) (x : V) (v vl vu : Value) (lo hi : Option Int) (sl : Addr) (Q : VK), Inv X pins σ H s → RelV x v → s.heap.IsSliceOf sl vl vu .none → IsPart vl lo → IsPart vu hi → r x lo hi H Q →
    ∃ T id, typeLookup (.type T) "__getitem__" = pure (some (.builtin id)) ∧ s.TypeIs v T ∧ wpAny (model X.prog X.w) X.A (getItem v (.ref sl)) (EP X pins σ Q) X.xe s
noncomputable abbrev tSl (r : V → Option Int → Option Int → Hp → VK → Prop) (te : TE) (tl th : TO) : TE := fun σ H Q => te σ H fun x H1 => tl σ H1 fun l H2 => th σ H2 fun u H3 => r x l u H3 Q
theorem pe_slice {r : V → Option Int → Option Int → Hp → VK → Prop} (hr : SlR X r) (he : PE X e te) (hl : PO X lo tl) (hu : PO X hi th) : PE X (.Subscript e (.Slice lo hi none p2) pos) (tSl r te tl th) := by
  intro pins s σ H Q I h
  refine Subscript_ (thn (he pins s σ H _ I h) fun v s1 zz => ?_)
  obtain ⟨x, H1, I1, r1, q1⟩ := zz
  refine wpAny_Slice (thn (hl pins s1 σ H1 _ I1 q1) fun vl s2 ⟨l, H2, I2, pl, q2⟩ => thn (hu pins s2 σ H2 _ I2 q2) fun vu s3 zz => ?_)
  obtain ⟨u, H3, I3, pu, q3⟩ := zz
  rw [evalPart_none]
  refine wpAny_pure ?_
  have I4 : Inv X pins σ H3 { s3 with heap := s3.heap.push { cls := .type "slice", data := .fields #[vl, vu, .none] } } := I3.kept (t' := s3.toks) fun b ob q => Heap.get?_push_of_some _ q
  obtain ⟨T, id, hT, ht, hg⟩ := hr pins { s3 with heap := s3.heap.push { cls := .type "slice", data := .fields #[vl, vu, .none] } } σ H3 x v vl vu l u s3.heap.objs.size Q I4 r1 (Heap.IsSliceOf.new ..) pl pu q3
  show wpAny (model X.prog X.w) X.A (subscriptTail e (.Slice lo hi none p2) v (.ref s3.heap.objs.size)) (EP X pins σ Q) X.xe { s3 with heap := s3.heap.push { cls := .type "slice", data := .fields #[vl, vu, .none] } }
  exact tail_any (ops := [.ref s3.heap.objs.size, v]) ht hT hg (by with_unfolding_all rfl)

noncomputable def cutV (xs : List V) (lo hi : Option Int) : List V := (xs.drop (HT.sIx xs.length 0 lo)).take (HT.sIx xs.length xs.length hi - HT.sIx xs.length 0 lo)
theorem cutV_length (xs : List V) (lo hi : Option Int) : (cutV xs lo hi).length ≤ xs.length := by
  unfold cutV
  rw [List.length_take, List.length_drop]
  omega
noncomputable def rCatT (K : PySem.W.Frag) : R2 := fun x y H Q => ∃ a b xs ys, x = .ref a ∧ y = .ref b ∧ SqT K H a xs ∧ SqT K H b ys ∧ xs ≠ [] ∧ xs.length + ys.length ≤ sizeLine ∧
  (ys = [] → Q (.ref a) H) ∧ (ys ≠ [] → ∀ p, H p = none → Q (.ref p) (upd H p (.tup (xs ++ ys))))
theorem Vals.nil_iff {xs : List V} {us : List Value} (r : Vals xs us) : us = [] ↔ xs = [] := by
  cases r with
  | nil => simp
  | cons _ _ => simp
theorem op_catT : OpR X (binaryOp .Add) (rCatT X.K) := by
  intro pins s σ H x y v u Q I rx ry h
  obtain ⟨a, b, xs, ys, rfl, rfl, ha, hb, hx, hz, q1, q2⟩ := h
  cases rx
  cases ry
  obtain ⟨its, r1, p1, _⟩ := I.tuple ha
  obtain ⟨its2, r2, p2, _⟩ := I.tuple hb
  refine HT.cat_tup p1 p2 (fun z => hx (r1.nil_iff.mp z)) (fun z => ⟨.ref a, H, I, rfl, q1 (r2.nil_iff.mp z)⟩) (fun z => ?_) (by rw [← r1.length, ← r2.length]; exact hz)
  refine ⟨.ref s.heap.objs.size, _, I.laid (t' := s.toks) (o := .tup (xs ++ ys)) (fun b ob q => Heap.get?_push_of_some _ q) (Nat.le_refl _) ?_, rfl, q2 (fun w => z (r2.nil_iff.mpr w)) _ (I.hok.fresh (Nat.le_refl _))⟩
  exact ⟨by rw [List.length_append]; exact hz, _, r1.append r2, IsTup.new _ _⟩
end
end Internal

namespace Internal
open PySem PySem.Spec PyProof.Rows

noncomputable def ixN (n : Nat) (i : Int) : Option Nat := if 0 ≤ i then (if i < n then some i.toNat else none) else if -(n : Int) ≤ i then some (i + n).toNat else none
noncomputable def atI {α : Type} (xs : List α) (i : Int) : Option α := (ixN xs.length i).bind fun j => xs[j]?
theorem ixN_seq {n : Nat} {i : Int} {j : Nat} (h : ixN n i = some j) : seqIndex? i n = some j ∧ j < n ∧ -(n : Int) ≤ i ∧ i < n := by
  unfold ixN at h
  by_cases h0 : 0 ≤ i
  · rw [if_pos h0] at h
    by_cases h1 : i < n
    · rw [if_pos h1] at h
      have e : i.toNat = j := Option.some.inj h
      exact ⟨by rw [seqIndex_of h0 h1, e], by omega, by omega, h1⟩
    · rw [if_neg h1] at h; cases h
  · rw [if_neg h0] at h
    by_cases h1 : -(n : Int) ≤ i
    · rw [if_pos h1] at h
      have e : (i + n).toNat = j := Option.some.inj h
      exact ⟨by rw [seqIndex_neg (by omega) h1, e], by omega, h1, by omega⟩
    · rw [if_neg h1] at h; cases h
theorem atI_get {α : Type} {xs : List α} {i : Int} {v : α} (h : atI xs i = some v) : ∃ j, seqIndex? i xs.length = some j ∧ xs[j]? = some v ∧ j < xs.length ∧ -(xs.length : Int) ≤ i ∧ i < xs.length := by
  unfold atI at h
  cases e : ixN xs.length i with
  | none => rw [e] at h; cases h
  | some j =>
    rw [e] at h
    obtain ⟨h1, h2, h3, h4⟩ := ixN_seq e
    exact ⟨j, h1, h, h2, h3, h4⟩
theorem atI_nat {α : Type} {xs : List α} {j : Nat} {v : α} (h : xs[j]? = some v) : atI xs (j : Int) = some v := by
  have hj : j < xs.length := (List.getElem?_eq_some_iff.mp h).1
  have e : ixN xs.length (j : Int) = some j := by
    unfold ixN
    rw [if_pos (by omega), if_pos (by omega)]; simp
  unfold atI; rw [e]; exact h
noncomputable def PlainIx (b : Expr) : Prop := ∀ o i, subscripted b false o i = operate [o, i] (getItem o i)
noncomputable def IxR (X : Cx) (r : R2) : Prop :=
  ∀ (value slice : Expr) (pins : List (Addr × Obj)) (s : Shared) (σ : St) (H : Hp) (x y : V) (v u : Value) (Q : VK), Inv X pins σ H s → RelV x v → RelV y u → r x y H Q →
    subscripted slice false v u = operate [v, u] (getItem v u) → wpAny (model X.prog X.w) X.A (subscriptTail value slice v u) (EP X pins σ Q) X.xe s
noncomputable def MtR (X : Cx) (id : String) (r : V → List V → Hp → VK → Prop) : Prop :=
  ∀ (pins : List (Addr × Obj)) (s : Shared) (σ : St) (H : Hp) (x : V) (xs : List V) (v : Value) (us : List Value) (Q : VK), Inv X pins σ H s → RelV x v → Vals xs us → r x xs H Q →
    wpAny (model X.prog X.w) X.A (call (.builtin id) (v :: us)) (EP X pins σ Q) X.xe s
section
variable {X : Cx} {a b : Expr} {ta tb : TE} {pos : Pos}
theorem IxR.or {r r' : R2} (h : IxR X r) (h' : IxR X r') : IxR X (fun x y H Q => r x y H Q ∨ r' x y H Q) := by
  intro value slice pins s σ H x y v u Q I rx ry q hs
  rcases q with q | q
  · exact h value slice pins s σ H x y v u Q I rx ry q hs
  · exact h' value slice pins s σ H x y v u Q I rx ry q hs
theorem pe_ix {r : R2} (hr : IxR X r) (ha : PE X a ta) (hb : PE X b tb) (hs : PlainIx b) : PE X (.Subscript a b pos) (tOp r ta tb) := by
  intro pins s σ H Q I h
  exact Subscript_ (binT ha hb I h fun v u s2 x y H2 I2 rx ry q => hr a b pins s2 σ H2 x y v u Q I2 rx ry q (hs _ _))

noncomputable def rIxL (K : PySem.W.Frag) : R2 := fun x y H Q => ∃ p xs i v, x = .ref p ∧ y = .int i ∧ SqL K H p xs ∧ atI xs i = some v ∧ Q v H
noncomputable def rIxT (K : PySem.W.Frag) : R2 := fun x y H Q => ∃ p xs i v, x = .ref p ∧ y = .int i ∧ SqT K H p xs ∧ atI xs i = some v ∧ Q v H
noncomputable def rIxS : R2 := fun x y H Q => ∃ z i c, x = .str z ∧ y = .int i ∧ z.length ≤ sizeLine ∧ atI z.cps.toList i = some c ∧ Q (.str ⟨#[c]⟩) H
theorem ix_list : IxR X (rIxL X.K) := by
  intro value slice pins s σ H x y v u Q I rx ry h hs
  obtain ⟨p, xs, i, z, rfl, rfl, hq, he, q⟩ := h
  cases rx
  obtain ⟨t, rfl⟩ := ry
  obtain ⟨its, r, pl, hz⟩ := I.list hq
  obtain ⟨j, h1, h2, h3, h4, h5⟩ := atI_get he
  obtain ⟨w, ew, rw'⟩ := r.get h2
  have hl := r.length
  have hn := line63
  have fin : EP X pins σ Q w s := ⟨z, H, I, rw', q⟩
  by_cases h0 : 0 ≤ i
  · have hj : i.toNat = j := by
      rw [seqIndex_of h0 h5] at h1
      exact Option.some.inj h1
    exact item_listR pl.isList h0 (by omega) (by rw [hj]; simpa using ew) fin hs
  · have hj : (i + (its.toArray.size : Int)).toNat = j := by
      rw [seqIndex_neg (by omega) h4] at h1
      rw [List.size_toArray, ← hl]
      exact Option.some.inj h1
    exact subscriptTail_builtinR (x := w) pl.isList.typeIs slot_list_getitem.lookup
      (wpAny_getItem_list_neg (Q := fun r s' => r = w ∧ EP X pins σ Q r s') pl.isList (by omega) (by rw [List.size_toArray] <;> omega) (by omega) (by rw [hj]; simpa using ew) ⟨rfl, fin⟩) hs
theorem ix_tup : IxR X (rIxT X.K) := by
  intro value slice pins s σ H x y v u Q I rx ry h hs
  obtain ⟨p, xs, i, z, rfl, rfl, hq, he, q⟩ := h
  cases rx
  obtain ⟨t, rfl⟩ := ry
  obtain ⟨its, r, pl, hz⟩ := I.tuple hq
  obtain ⟨j, h1, h2, h3, h4, h5⟩ := atI_get he
  obtain ⟨w, ew, rw'⟩ := r.get h2
  have hl := r.length
  have hn := line63
  have fin : EP X pins σ Q w s := ⟨z, H, I, rw', q⟩
  exact subscriptTail_builtinR (x := w) pl.typeIs slot_tuple_getitem.lookup
    (getItem_tuple (j := j) (Q := fun r s' => r = w ∧ EP X pins σ Q r s') pl (by omega) (by omega) (by rw [List.size_toArray, ← hl]; exact h1) (by simpa using ew) ⟨rfl, fin⟩) hs
theorem ix_str : IxR X rIxS := by
  intro value slice pins s σ H x y v u Q I rx ry h hs
  obtain ⟨z, i, c, rfl, rfl, hz, he, q⟩ := h
  obtain ⟨t, rfl⟩ := rx
  obtain ⟨t', rfl⟩ := ry
  obtain ⟨j, h1, h2, h3, h4, h5⟩ := atI_get he
  have hl : z.cps.toList.length = z.length := by simp [Str.length]
  rw [hl] at h1 h4 h5
  have hn := line63
  exact tail_any (typeIs_str s z t) slot_str_getitem.lookup (getItem_str (c := c) (by
    have e1 : decide (i < -(2 ^ 63 : Int)) = false := decide_eq_false (by omega)
    have e2 : decide (i ≥ 2 ^ 63) = false := decide_eq_false (by omega)
    rw [e1, e2, Bool.or_false]) (by rw [h1]; simpa using h2) ⟨.str ⟨#[c]⟩, H, I.tok _, ⟨_, rfl⟩, q⟩) hs
noncomputable def rIx (K : PySem.W.Frag) : R2 := fun x y H Q => rIxL K x y H Q ∨ rIxT K x y H Q ∨ rIxS x y H Q
theorem ix_seq : IxR X (rIx X.K) := ix_list.or (ix_tup.or ix_str)

theorem mapSeq_set (its : List Value) (n j : Nat) (u : Value) : Obj.mapSeq (·.setIfInBounds j u) { cls := .type "list", data := .seq its.toArray n } = { cls := .type "list", data := .seq (its.set j u).toArray n } := by
  simp [Obj.mapSeq]
theorem Inv.lst {pins : List (Addr × Obj)} {σ : St} {H : Hp} {s : Shared} {p : Addr} {xs : List V} (I : Inv X pins σ H s) (h : H p = some (.lst xs)) :
    ∃ (its : List Value) (n : Nat), Vals xs its ∧ s.heap.get? p = some { cls := .type "list", data := .seq its.toArray n } ∧ xs.length ≤ sizeLine := by
  obtain ⟨z, its, n, r, e⟩ := I.hok p _ h
  exact ⟨its, n, r, e, z⟩
theorem Inv.lstUpd {pins : List (Addr × Obj)} {σ : St} {H : Hp} {s : Shared} {p : Addr} {xs ys : List V} {its its' : List Value} {n n' : Nat} {f : Obj → Obj} (I : Inv X pins σ H s) (h : H p = some (.lst xs))
    (ho : s.heap.get? p = some { cls := .type "list", data := .seq its.toArray n }) (hf : f { cls := .type "list", data := .seq its.toArray n } = { cls := .type "list", data := .seq its'.toArray n' }) (r : Vals ys its') (hz : ys.length ≤ sizeLine) (t : Nat) :
    Inv X pins σ (upd H p (.lst ys)) { s with heap := s.heap.update p f, toks := t } := by
  have e : (s.heap.update p f).get? p = some { cls := .type "list", data := .seq its'.toArray n' } := by
    rw [Heap.get?_update_self f ho (by rw [hf] <;> rfl), hf]
  refine I.write (x := p) (e := p) (by rw [h]; trivial) (.inl rfl) (fun b u hb q => (Heap.get?_update_other _ _ (Ne.symm hb)).trans q) ⟨_, e⟩ ?_
  exact ⟨hz, its', n', r, e⟩
noncomputable def rSetL : V → V → V → Hp → (Hp → Prop) → Prop := fun o i v H Q => ∃ p xs k j, o = .ref p ∧ i = .int k ∧ H p = some (.lst xs) ∧ ixN xs.length k = some j ∧ Q (upd H p (.lst (xs.set j v)))
theorem set_list : PSet X rSetL := by
  intro pins s σ H o i v ov iv u Q I ro ri rv h
  obtain ⟨p, xs, k, j, rfl, rfl, hp, hj, q⟩ := h
  cases ro
  obtain ⟨t, rfl⟩ := ri
  obtain ⟨its, n, r, ho, hz⟩ := I.lst hp
  obtain ⟨h1, h2, h3, h4⟩ := ixN_seq hj
  have hl := r.length
  have hn := line63
  have I' : Inv X pins σ (upd H p (.lst (xs.set j v))) { s with heap := s.heap.update p (Obj.mapSeq (·.setIfInBounds j u)) } :=
    I.lstUpd hp ho (mapSeq_set its n j u) (r.set rv j) (by rw [List.length_set]; exact hz) s.toks
  by_cases h0 : 0 ≤ k
  · have hk : k.toNat = j := by
      rw [seqIndex_of h0 h4] at h1
      exact Option.some.inj h1
    exact PySem.W.ki_setAt ho h0 (by omega) (by rw [List.size_toArray, ← hl]; exact h4) (by rw [hk]; exact ⟨_, I', q⟩)
  · have hk : (k + (its.toArray.size : Int)).toNat = j := by
      rw [seqIndex_neg (by omega) h3] at h1
      rw [List.size_toArray, ← hl]
      exact Option.some.inj h1
    exact PySem.W.ki_setBack ho (by omega) (by rw [List.size_toArray, ← hl]; exact h3) (by omega) (by rw [hk]; exact ⟨_, I', q⟩)

theorem slice_bounds (lo hi : Option Int) (n : Nat) : (sliceBounds lo hi none n).1 = ((HT.sIx n 0 lo : Nat) : Int) ∧ (sliceBounds lo hi none n).2.1 = ((HT.sIx n n hi : Nat) : Int) ∧ (sliceBounds lo hi none n).2.2 = 1 := by
  refine ⟨?_, ?_, rfl⟩
  · cases lo with
    | none => simp [sliceBounds, HT.sIx]
    | some i =>
      simp only [sliceBounds, HT.sIx, Option.getD_none, show (1 : Int) > 0 by decide, if_true]
      by_cases h : i < 0
      · simp only [h, if_true] <;> omega
      · simp only [h, if_false] <;> omega
  · cases hi with
    | none => simp [sliceBounds, HT.sIx]
    | some i =>
      simp only [sliceBounds, HT.sIx, Option.getD_none, show (1 : Int) > 0 by decide, if_true]
      by_cases h : i < 0
      · simp only [h, if_true] <;> omega
      · simp only [h, if_false] <;> omega
theorem slicePick_cut (its : List Value) (lo hi : Option Int) : slicePick its.toArray lo hi none = ((its.drop (HT.sIx its.length 0 lo)).take (HT.sIx its.length its.length hi - HT.sIx its.length 0 lo)).toArray := by
  obtain ⟨h1, h2, h3⟩ := slice_bounds lo hi its.toArray.size
  unfold slicePick
  rw [h1, h2, h3]
  simp only [sliceRange_one, pick_run, List.size_toArray] <;> rfl
noncomputable def rSlL (K : PySem.W.Frag) : V → Option Int → Option Int → Hp → VK → Prop := fun x lo hi H Q => ∃ a xs, x = .ref a ∧ SqL K H a xs ∧ ∀ p, H p = none → Q (.ref p) (upd H p (.lst (cutV xs lo hi)))
theorem sl_list : SlR X (rSlL X.K) := by
  intro pins s σ H x v vl vu lo hi sl Q I rx hs pl pu h
  obtain ⟨a, xs, rfl, hx, q⟩ := h
  cases rx
  obtain ⟨its, r, ht, hz⟩ := I.list hx
  have hlen := r.length
  refine ⟨"list", _, slot_list_getitem.lookup, ht.isList.typeIs, ?_⟩
  refine wpAny_getItem_list_slice ht.isList hs pl pu .none (by simp) ?_ (by rw [List.size_toArray] <;> omega)
  rw [slicePick_cut, ← hlen]
  refine ⟨.ref s.heap.objs.size, _, I.laid (t' := s.toks) (o := .lst (cutV xs lo hi)) (fun b ob q => Heap.get?_push_of_some _ q) (Nat.le_refl _) ?_, rfl, q _ (I.hok.fresh (Nat.le_refl _))⟩
  exact ⟨Nat.le_trans (cutV_length xs lo hi) hz, _, 0, (r.drop (HT.sIx xs.length 0 lo)).take (HT.sIx xs.length xs.length hi - HT.sIx xs.length 0 lo), Heap.get?_push_size _ rfl⟩

noncomputable def flatV : V → Bool
  | .non => true
  | .bl _ => true
  | .int _ => true
  | .str _ => true
  | _ => false
noncomputable def eqV : V → V → Bool
  | .non, .non => true
  | .bl a, .bl b => a == b
  | .bl a, .int b => (if a then 1 else 0) == b
  | .int a, .bl b => a == (if b then 1 else 0)
  | .int a, .int b => a == b
  | .str a, .str b => a == b
  | _, _ => false
theorem eqAt_V {A : Around} {s : Shared} {y x : V} {u v : Value} (ry : RelV y u) (rx : RelV x v) (fy : flatV y = true) (fx : flatV x = true) : SeqAt.EqAt A s u v (eqV y x) := by
  cases y with
  | non =>
    cases ry
    cases x with
    | non => cases rx; exact SeqAt.EqAt.same _
    | bl b => cases rx; exact SeqAt.EqAt.none_bool b
    | int b => obtain ⟨t, rfl⟩ := rx; exact SeqAt.EqAt.none_int b t
    | str b => obtain ⟨t, rfl⟩ := rx; exact SeqAt.EqAt.none_str b t
    | _ => exact absurd (show false = true from fx) Bool.false_ne_true
  | bl a =>
    cases ry
    cases x with
    | non => cases rx; exact SeqAt.EqAt.bool_none a
    | bl b => cases rx; exact SeqAt.EqAt.bool_bool a b
    | int b => obtain ⟨t, rfl⟩ := rx; exact SeqAt.EqAt.bool_int a b t
    | str b => obtain ⟨t, rfl⟩ := rx; exact SeqAt.EqAt.bool_str a b t
    | _ => exact absurd (show false = true from fx) Bool.false_ne_true
  | int a =>
    obtain ⟨t', rfl⟩ := ry
    cases x with
    | non => cases rx; exact SeqAt.EqAt.int_none a t'
    | bl b => cases rx; exact SeqAt.EqAt.int_bool a t' b
    | int b => obtain ⟨t, rfl⟩ := rx; exact SeqAt.EqAt.int_int a t' b t
    | str b => obtain ⟨t, rfl⟩ := rx; exact SeqAt.EqAt.int_str a t' b t
    | _ => exact absurd (show false = true from fx) Bool.false_ne_true
  | str a =>
    obtain ⟨t', rfl⟩ := ry
    cases x with
    | non => cases rx; exact SeqAt.EqAt.str_none a t'
    | bl b => cases rx; exact SeqAt.EqAt.str_bool a t' b
    | int b => obtain ⟨t, rfl⟩ := rx; exact SeqAt.EqAt.str_int a t' b t
    | str b => obtain ⟨t, rfl⟩ := rx; exact SeqAt.EqAt.str_str a t' b t
    | _ => exact absurd (show false = true from fx) Bool.false_ne_true
  | _ => exact absurd (show false = true from fy) Bool.false_ne_true
noncomputable def eqU (x : V) (u : Value) : Bool := match u with
  | .none => eqV .non x
  | .bool b => eqV (.bl b) x
  | .int i _ => eqV (.int i) x
  | .str z _ => eqV (.str z) x
  | _ => false
theorem eqU_of {x y : V} {u : Value} (r : RelV y u) (f : flatV y = true) : eqU x u = eqV y x := by
  cases y with
  | non => cases r; rfl
  | bl b => cases r; rfl
  | int i => obtain ⟨t, rfl⟩ := r; rfl
  | str z => obtain ⟨t, rfl⟩ := r; rfl
  | _ => exact absurd (show false = true from f) Bool.false_ne_true
theorem any_eqU {x : V} : ∀ {xs : List V} {us : List Value}, Vals xs us → xs.all flatV = true → us.any (eqU x) = xs.any fun y => eqV y x
  | _, _, .nil, _ => rfl
  | y :: xs, u :: us, .cons r t, f => by
    rw [List.all_cons, Bool.and_eq_true] at f
    rw [List.any_cons, List.any_cons, eqU_of r f.1, any_eqU t f.2]
theorem mem_eqAt {A : Around} {s : Shared} {x : V} {v : Value} (rx : RelV x v) (fx : flatV x = true) : ∀ {xs : List V} {us : List Value}, Vals xs us → xs.all flatV = true → ∀ u ∈ us, SeqAt.EqAt A s u v (eqU x u)
  | _, _, .nil, _ => fun u hu => by cases hu
  | y :: xs, u :: us, .cons r t, f => fun u' hu => by
    rw [List.all_cons, Bool.and_eq_true] at f
    rcases List.mem_cons.mp hu with rfl | hu
    · rw [eqU_of r f.1]; exact eqAt_V r rx f.1 fx
    · exact mem_eqAt rx fx t f.2 u' hu
noncomputable def inV (x : V) (xs : List V) : Bool := xs.any fun y => eqV y x
noncomputable def rIn (K : PySem.W.Frag) (neg : Bool) : R2 := fun x y H Q => ∃ p xs, y = .ref p ∧ (SqL K H p xs ∨ SqT K H p xs) ∧ flatV x = true ∧ xs.all flatV = true ∧ Q (.bl (if neg then !inV x xs else inV x xs)) H
theorem op_in_seq : OpR X (compareOp .In) (rIn X.K false) := by
  intro pins s σ H x y v u Q I rx ry h
  obtain ⟨p, xs, rfl, hq, fx, fs, q⟩ := h
  cases ry
  rcases hq with hq | hq
  · obtain ⟨its, r, pl, hz⟩ := I.list hq
    refine SeqAt.in_listAt (eqU x) pl.isList (fun w hw => mem_eqAt rx fx r fs w (by simpa using hw)) ⟨.bl _, H, I, rfl, ?_⟩
    rw [show its.toArray.any (eqU x) = its.any (eqU x) by simp, any_eqU r fs]
    exact q
  · obtain ⟨its, r, pl, hz⟩ := I.tuple hq
    refine SeqAt.in_tupleAt (eqU x) pl (fun w hw => mem_eqAt rx fx r fs w (by simpa using hw)) ⟨.bl _, H, I, rfl, ?_⟩
    rw [show its.toArray.any (eqU x) = its.any (eqU x) by simp, any_eqU r fs]
    exact q
theorem call_len_seq : CallR X (.builtin "len") (fun xs H Q => ∃ p ys, xs = [.ref p] ∧ (SqL X.K H p ys ∨ SqT X.K H p ys) ∧ Q (.int ys.length) H) := by
  intro pins s σ H xs us Q I r h
  obtain ⟨p, ys, rfl, hq, q⟩ := h
  obtain ⟨u, rfl, rx⟩ := vals1 r
  cases rx
  have hn := line63
  rcases hq with hq | hq
  · obtain ⟨its, r', pl, hz⟩ := I.list hq
    have hlen := r'.length
    exact Calls.call_len_list pl.isList (by simp only [List.size_toArray] <;> omega) ⟨.int ys.length, H, I.tok _, ⟨s.toks + 1, by rw [List.size_toArray, hlen]⟩, q⟩
  · obtain ⟨its, r', pl, hz⟩ := I.tuple hq
    have hlen := r'.length
    exact len_tuple pl (by simp only [List.size_toArray] <;> omega) ⟨.int ys.length, H, I.tok _, ⟨s.toks + 1, by rw [List.size_toArray, hlen]⟩, q⟩
theorem CallR.or {f : Value} {r r' : List V → Hp → VK → Prop} (h : CallR X f r) (h' : CallR X f r') : CallR X f (fun xs H Q => r xs H Q ∨ r' xs H Q) := by
  intro pins s σ H xs us Q I rs q
  rcases q with q | q
  · exact h pins s σ H xs us Q I rs q
  · exact h' pins s σ H xs us Q I rs q
theorem call_list_of : CallR X (.type "list") (fun xs H Q => ∃ p ys, xs = [.ref p] ∧ (SqL X.K H p ys ∨ SqT X.K H p ys) ∧ ∀ l, H l = none → Q (.ref l) (upd H l (.lst ys))) := by
  intro pins s σ H xs us Q I r h
  obtain ⟨p, ys, rfl, hq, q⟩ := h
  obtain ⟨u, rfl, rx⟩ := vals1 r
  cases rx
  have fin : ∀ (its : List Value), Vals ys its → ys.length ≤ sizeLine → ∀ (h' : Heap) (c' : Nat), (∀ b o', s.heap.get? b = some o' → h'.get? b = some o') →
      h'.get? s.heap.objs.size = some { cls := .type "list", dict := none, data := .seq its.toArray c', slots := #[] } → EP X pins σ Q (.ref s.heap.objs.size) { s with heap := h' } := fun its r' hz h' c' kp e =>
    ⟨.ref s.heap.objs.size, _, I.laid (t' := s.toks) kp (Nat.le_refl _) (show ObjOk X.prog X.w _ h' _ (.lst ys) from ⟨hz, its, c', r', e⟩), rfl, q _ (I.hok.fresh (Nat.le_refl _))⟩
  rcases hq with hq | hq
  · obtain ⟨its, r', pl, hz⟩ := I.list hq
    have hlen := r'.length
    obtain ⟨o, ho, hc, n, hd⟩ := pl.isList
    exact call_list_seq p (.inl rfl) ho hc hd (fun h' c' kp e => fin its r' hz h' c' kp e) (by simp only [List.size_toArray] <;> omega)
  · obtain ⟨its, r', pl, hz⟩ := I.tuple hq
    have hlen := r'.length
    obtain ⟨o, ho, hc, n, hd⟩ := pl
    exact call_list_seq p (.inr rfl) ho hc hd (fun h' c' kp e => fin its r' hz h' c' kp e) (by simp only [List.size_toArray] <;> omega)
noncomputable def tyV (K : PySem.W.Frag) (T : String) (x : V) (H : Hp) : Prop := match x with
  | .str _ => T = "str"
  | .int _ => T = "int"
  | .ref p => (T = "list" ∧ ∃ xs, SqL K H p xs) ∨ (T = "tuple" ∧ ∃ o, K.lookup p = some o ∧ o.cls = .type "tuple" ∧ o.dict = none) ∨
      (T = "dict" ∧ ((∃ kvs, H p = some (.dK kvs)) ∨ ∃ kvs, H p = some (.dT kvs))) ∨ (T = "set" ∧ ∃ S n, H p = some (.set S n))
  | _ => False
theorem tyV_is {pins : List (Addr × Obj)} {σ : St} {H : Hp} {s : Shared} {T : String} {x : V} {v : Value} (I : Inv X pins σ H s) (r : RelV x v) (ty : tyV X.K T x H) :
    s.TypeIs v T ∧ ∀ a, v = .ref a → ∃ ob, s.heap.get? a = some ob ∧ ob.dict = none := by
  cases x with
  | str z =>
    obtain ⟨t, rfl⟩ := r
    cases (show T = "str" from ty)
    exact ⟨typeIs_str s z t, fun _ e => nomatch e⟩
  | int i =>
    obtain ⟨t, rfl⟩ := r
    cases (show T = "int" from ty)
    exact ⟨typeIs_int s i t, fun _ e => nomatch e⟩
  | ref p =>
    cases r
    rcases ty with ⟨rfl, xs, hq⟩ | ⟨rfl, o, hk, hc, hd⟩ | ⟨rfl, hk⟩ | ⟨rfl, S, n, hk⟩
    · obtain ⟨its, _, pl, _⟩ := I.list hq
      refine ⟨pl.isList.typeIs, fun a e => ?_⟩
      cases e
      obtain ⟨o, n, e, c, hd, _⟩ := pl
      exact ⟨o, e, hd⟩
    · refine ⟨⟨o, I.kIn p o hk, hc⟩, fun a e => ?_⟩
      cases e
      exact ⟨o, I.kIn _ o hk, hd⟩
    · have z : ∃ o, s.heap.get? p = some o ∧ o.ExactDict := by
        rcases hk with ⟨kvs, hk⟩ | ⟨kvs, hk⟩
        · obtain ⟨_, _, _, _, o, _, _, e, ex, _⟩ := I.hok p _ hk
          exact ⟨o, e, ex⟩
        · obtain ⟨_, _, _, _, o, _, _, e, ex, _⟩ := I.hok p _ hk
          exact ⟨o, e, ex⟩
      obtain ⟨o, e, ex⟩ := z
      refine ⟨⟨o, e, ex.1⟩, fun a e2 => ?_⟩
      cases e2
      exact ⟨o, e, ex.2.1⟩
    · obtain ⟨o, _, _, _, e, ex, _⟩ := I.hok p _ hk
      refine ⟨⟨o, e, ex.1⟩, fun a e2 => ?_⟩
      cases e2
      exact ⟨o, e, ex.2.1⟩
  | _ => exact False.elim ty
noncomputable def tBM (K : PySem.W.Frag) (T : String) (r : V → List V → Hp → VK → Prop) (to : TE) (t : TA) : TE := fun σ H Q => to σ H fun x H1 => tyV K T x H1 ∧ t σ H1 fun xs H2 => r x xs H2 Q
variable {o e : Expr} {es : List Expr} {to : TE} {t : TA} {name : Str} {apos cpos : Pos} {T id : String} {r : V → List V → Hp → VK → Prop}
theorem pe_bm (pa : PlainAttrs T) (slot : Slot T name id) (hty : typeOf (.builtin id) = pure (.type "method_descriptor")) (hm : MtR X id r) (ho : PE X o to) (ha : PA X (e :: es) t)
    (hbase : autoParam (attributeBase o name X.env (eval o X.env) = eval o X.env) Internal.aut2._auto_1)
    (hfew : autoParam (((backTo cpos (starEach (e :: es) X.env)).all (fun x => !x.1) && (backToKw cpos (keywordEach [] X.env)).all (fun x => x.1.isSome)
      && decide ((e :: es).length + ([] : List Keyword).length + (if ([] : List Keyword).isEmpty then 0 else 1) < 30)) = true) Internal.aut2._auto_1)
    (hline : autoParam ((apos.endLine == cpos.line) = true) Internal.aut2._auto_1) (hs : autoParam (starEach (e :: es) X.env = (false, eval e X.env) :: starEach es X.env) Internal.aut2._auto_1) (hplain : autoParam ((backTo cpos (starEach es X.env)).any (·.1) = false) Internal.aut2._auto_1) :
    PE X (.Call (.Attribute o name apos) (e :: es) [] cpos) (tBM X.K T r to t) := by
  intro pins s σ H Q I h
  refine wpAny_Call_method_late hbase hfew hline rfl (thn (ho pins s σ H _ I h) fun v s1 zz => ?_)
  obtain ⟨x, H1, I1, r1, ty, q1⟩ := zz
  obtain ⟨h1, h2⟩ := tyV_is I1 r1 ty
  refine ⟨T, id, pa, slot, hty, h1, h2, ?_⟩
  have hA := ha cpos pins s1 σ H1 _ I1 q1
  rw [hs] at hA ⊢
  refine Calls.callWith_builtin (by show (false || (backTo cpos (starEach es X.env)).any (·.1)) = false; rw [hplain] <;> rfl) (Calls.evalArgs_plain ?_)
  exact thn hA fun us s2 ⟨vs, H2, I2, r2, q2⟩ => hm pins s2 σ H2 x vs v us Q I2 r1 r2 q2
/- xs.append(e), list.index on a module's tuple .. are MtR facts of 06m -/
end
end Internal

namespace Internal
open PySem PySem.Spec PyProof.Rows

noncomputable def MtM (X : Cx) (id : String) (r : V → List V → Hp → VK → Prop) : Prop :=
  ∀ (pins : List (Addr × Obj)) (s : Shared) (σ : St) (H : Hp) (x : V) (xs : List V) (v : Value) (us : List Value) (Q : VK), Inv X pins σ H s → RelV x v → Vals xs us → r x xs H Q →
    wpAny (model X.prog X.w) X.A (call (.builtin id) (v :: us)) (EP X pins σ Q) X.xe s

theorem Vals.one : ∀ {x : V} {us : List Value}, Vals [x] us → ∃ u, us = [u] ∧ RelV x u
  | _, _, h => by
    cases h with
    | cons r t => cases t; exact ⟨_, rfl, r⟩
theorem Vals.rep {xs : List V} {us : List Value} (h : Vals xs us) : ∀ k : Nat, Vals (List.replicate k xs).flatten (List.replicate k us).flatten
  | 0 => .nil
  | k + 1 => by
    rw [List.replicate_succ, List.replicate_succ, List.flatten_cons, List.flatten_cons]
    exact Vals.append h (Vals.rep h k)
theorem foldl_rep (its : List Value) : ∀ (k : Nat) (acc : List Value),
    List.foldl (fun x1 x2 => x1 ++ x2) acc.toArray (List.replicate k its.toArray) = (acc ++ (List.replicate k its).flatten).toArray
  | 0, acc => by simp
  | k + 1, acc => by
    have e : acc.toArray ++ its.toArray = (acc ++ its).toArray := by simp
    have e2 : (acc ++ its) ++ (List.replicate k its).flatten = acc ++ (List.replicate (k + 1) its).flatten := by
      rw [List.replicate_succ, List.flatten_cons, List.append_assoc]
    rw [← e2, ← foldl_rep its k (acc ++ its), ← e, List.replicate_succ, List.foldl_cons]

section
variable {X : Cx} {pins : List (Addr × Obj)} {σ : St} {H : Hp} {s : Shared} {l b : Addr} {xs ys zs : List V}

theorem Inv.lset {its its' : List Value} {n : Nat} {f : Array Value → Array Value} {t' : Nat} (I : Inv X pins σ H s) (hH : H l = some (.lst xs))
    (e : s.heap.get? l = some { cls := .type "list", data := .seq its.toArray n }) (hf : f its.toArray = its'.toArray) (hv : Vals ys its') (hz : ys.length ≤ sizeLine) :
    Inv X pins σ (upd H l (.lst ys)) { s with heap := s.heap.update l (Obj.mapSeq f), toks := t' } := by
  have q := PySem.IsL.update e f
  rw [hf] at q
  refine I.write (x := l) (e := l) (by rw [hH]; exact trivial) (.inl rfl) (fun b' u hb hu => (Heap.get?_update_other s.heap (Obj.mapSeq f) (Ne.symm hb)).trans hu) ⟨_, q⟩ ?_
  exact ⟨hz, its', _, hv, q⟩
theorem Inv.lnew {its : List Value} {t' : Nat} (I : Inv X pins σ H s) (hv : Vals ys its) (hz : ys.length ≤ sizeLine) :
    Inv X pins σ (upd H s.heap.objs.size (.lst ys)) { s with heap := s.heap.push { cls := .type "list", data := .seq its.toArray }, toks := t' } :=
  I.laid (fun _ _ q => Heap.get?_push_of_some _ q) (Nat.le_refl _) ⟨hz, its, 0, hv, Heap.get?_push_size _ rfl⟩
theorem Inv.fresh (I : Inv X pins σ H s) : H s.heap.objs.size = none := I.hok.fresh (Nat.le_refl _)
theorem Inv.lstM (I : Inv X pins σ H s) (hH : H l = some (.lst xs)) : xs.length ≤ sizeLine ∧ ∃ (its : List Value) (n : Nat), Vals xs its ∧ xs.length = its.length ∧ s.heap.get? l = some { cls := .type "list", data := .seq its.toArray n } := by
  obtain ⟨z, its, n, r, e⟩ := I.hok l _ hH
  exact ⟨z, its, n, r, r.length, e⟩

theorem notLongL {n : Nat} (h : n ≤ sizeLine) : Builtin.List.listTooLong n = false := by
  unfold Builtin.List.listTooLong
  exact decide_eq_false (by omega)
end

section
variable {X : Cx}

noncomputable def rAppend : V → List V → Hp → VK → Prop := fun x vs H Q => ∃ l xs y, x = .ref l ∧ vs = [y] ∧ H l = some (.lst xs) ∧ xs.length < sizeLine ∧ Q .non (upd H l (.lst (xs ++ [y])))
theorem mt_append : MtM X "list.append" rAppend := by
  intro pins s σ H x vs v us Q I rx rv h
  obtain ⟨l, xs, y, rfl, rfl, hH, hz, q⟩ := h
  cases rx
  obtain ⟨u, rfl, ru⟩ := rv.one
  obtain ⟨z, its, n, r, hl, e⟩ := I.lstM hH
  refine call_meets F.slot_list_append ⟨_, e, rfl⟩ F.entry_list_append (F.args_list_append_2 _ _) (PySem.list_append l its.toArray n u (by rw [List.size_toArray]; omega)) ⟨e, ?_⟩
  refine ⟨.non, _, I.lset (its' := its ++ [u]) hH e (by simp) (r.append (.cons ru .nil)) ?_, rfl, q⟩
  rw [List.length_append, List.length_singleton]
  omega

noncomputable def rCat : R2 := fun x y H Q => ∃ l b xs zs, x = .ref l ∧ y = .ref b ∧ H l = some (.lst xs) ∧ H b = some (.lst zs) ∧ xs.length + zs.length ≤ sizeLine ∧ ∀ p, H p = none → Q (.ref p) (upd H p (.lst (xs ++ zs)))
theorem op_cat : OpR X (binaryOp .Add) rCat := by
  intro pins s σ H x y v u Q I rx ry h
  obtain ⟨l, b, xs, zs, rfl, rfl, hH, hB, hz, q⟩ := h
  cases rx
  cases ry
  obtain ⟨z, its, n, r, hl, e⟩ := I.lstM hH
  obtain ⟨z2, its2, n2, r2, hl2, e2⟩ := I.lstM hB
  refine PySem.P.add_list e e2 ?_ (by rw [List.size_toArray, List.size_toArray]; omega)
  have ea : its.toArray ++ its2.toArray = (its ++ its2).toArray := by simp
  rw [ea]
  exact ⟨.ref _, _, I.lnew (t' := s.toks) (r.append r2) (by rw [List.length_append]; omega), rfl, q _ I.fresh⟩
noncomputable def rRep : R2 := fun x y H Q => ∃ l k xs, x = .ref l ∧ y = .int k ∧ H l = some (.lst xs) ∧ -(2 ^ 63) ≤ k ∧ k < 2 ^ 63 ∧ xs.length * k.toNat ≤ sizeLine ∧
  ∀ p, H p = none → Q (.ref p) (upd H p (.lst (List.replicate k.toNat xs).flatten))
theorem len_rep {α : Type} (xs : List α) (k : Nat) : (List.replicate k xs).flatten.length = k * xs.length := by
  induction k with
  | zero => simp
  | succ k ih => rw [List.replicate_succ, List.flatten_cons, List.length_append, ih, Nat.succ_mul, Nat.add_comm]
theorem op_rep : OpR X (binaryOp .Mult) rRep := by
  intro pins s σ H x y v u Q I rx ry h
  obtain ⟨l, k, xs, rfl, rfl, hH, h1, h2, hz, q⟩ := h
  cases rx
  obtain ⟨t, rfl⟩ := ry
  obtain ⟨z, its, n, r, hl, e⟩ := I.lstM hH
  have hlen : its.toArray.size * k.toNat ≤ sizeLine := by rw [List.size_toArray, ← hl]; exact hz
  have hcap : ¬ its.toArray.size * k.toNat > (2 ^ 63 - 1) / 8 := by
    have : (sizeLine : Nat) ≤ (2 ^ 63 - 1) / 8 := by decide
    omega
  have hfit : ¬ (!Builtin.List.listFitsIndex k) = true := by
    rw [fitsIndex_both h1 h2]
    exact Bool.false_ne_true
  have hlong : ¬ Builtin.List.listTooLong (its.toArray.size * k.toNat) = true := by
    rw [notLongL hlen]
    exact Bool.false_ne_true
  have hnew : List.foldl (fun x1 x2 => x1 ++ x2) #[] (List.replicate (if its.toArray.isEmpty = true then 0 else k.toNat) its.toArray) = (List.replicate k.toNat its).flatten.toArray := by
    have f0 : ∀ m : Nat, List.foldl (fun x1 x2 => x1 ++ x2) #[] (List.replicate m its.toArray) = (List.replicate m its).flatten.toArray := fun m => by
      have := foldl_rep its m []
      rw [List.nil_append] at this
      exact this
    rw [f0]
    cases its with
    | nil => simp
    | cons a r' => rw [if_neg (by simp)]
  refine wpAny_binaryOp_repeat_ref (T := "list") (U := "int") (by decide) ⟨_, e, rfl⟩ (fun s' => typeIs_int s' k t) noFill_list_mul F.fills_int_mul F.slot_int_rmul repeat_list F.slot_int_index.lookup
    (call_meets F.slot_int_rmul (typeIs_int s k t) F.entry_int_rmul (F.args_int_rmul_2 _ _) (int___rmul___int_list k t l its.toArray n)
      ⟨e, rfl, ⟨_, e, rfl⟩, call_meets F.slot_list_mul ⟨_, e, rfl⟩ F.entry_list_mul (F.args_list_mul_2 _ _) (AutoListH.list___mul___list_int_3 l its.toArray n k t hfit hcap hlong) ⟨e, ?_⟩⟩)
  rw [hnew]
  exact ⟨.ref _, _, I.lnew (t' := s.toks) (r.rep k.toNat) (by rw [len_rep, Nat.mul_comm]; exact hz), rfl, q _ I.fresh⟩

end

section
variable {prog : Program} {w : World} {A : Around} {E : Value → Shared → Prop} {s : Shared}
end

section
variable {X : Cx}
end
end Internal

namespace Att
open PySem PySem.W PySem.Calls PyProof.Rows

theorem ints_of_wellAll {P : Params} {h : Heap} : ∀ (ns : List Int) (vs : List Value), WellAll P h vs (ns.map WData.int) → IntsAre vs ns := by
  intro ns
  induction ns with
  | nil =>
    intro vs w
    rw [List.map_nil] at w
    cases w
    exact .nil
  | cons n ns ih =>
    intro vs w
    rw [List.map_cons] at w
    cases w with
    | cons a b =>
      cases a
      exact .cons _ _ (ih _ b)

theorem script_of {l : OpenLaw} {n : Nat} (hn : l.most = some n) {P : Params} {h : Heap} {args : List WData} {vals : List Value}
    (hpre : l.row.toRowW.claim.pre args = true) (hwl : WellAll P h vals args) :
    ∃ a vs ns, vals = [Value.ref a] ∧ args = [WData.list (ns.map WData.int)] ∧ h.get? a = some { cls := .type "list", data := .seq vs.toArray } ∧ IntsAre vs ns ∧ ns.length ≤ n := by
  have hsh : WShape.hasAll [] args [.list .int] = true := (pre_splitW hpre).1
  have hc : l.pre.holds [] { args := args } = true := (pre_splitW hpre).2
  obtain ⟨d, r, rfl, h1, h2⟩ := hasAllW_cons hsh
  obtain rfl := hasAllW_nil h2
  obtain ⟨xs, rfl, h3⟩ := hasW_list h1
  obtain ⟨ns, rfl⟩ := items_int h3
  have hlen : ns.length ≤ n := by
    unfold OpenLaw.pre at hc
    have h4 : (WTm.not (.lt (.lit (.int (n : Int))) (.len (.arg 0)))).holds [] { args := [.list (ns.map .int)] } = true := by
      have h4 := (holds_andW hc).1
      rw [hn] at h4
      exact h4
    have h5 := condW_of h4 (w_not (w_lt w_lit (w_len_list (w_arg rfl))))
    rw [List.length_map] at h5
    refine Nat.le_of_not_lt fun q => ?_
    have q' : (n : Int) < ((ns.length : Nat) : Int) := by omega
    first
      | (rw [decide_eq_true q'] at h5; exact absurd h5 (by decide))
      | (simp at h5; omega)
  cases hwl with
  | cons w1 w2 =>
    cases w2
    cases w1 with
    | list ho hall => exact ⟨_, _, ns, rfl, rfl, ho, ints_of_wellAll ns _ hall, hlen⟩

theorem post_true (l : OpenLaw) (args : List WData) : l.row.toRowW.claim.post args (.bool true) args = true :=
  postW_of (r := l.row.toRowW) (X := (true == true))
    (show WShape.has [] (.bool true) .bool = true by first | rfl | decide | simp [WShape.has, WShape.arms, WShape.armsAll])
    (show (WTm.eq .res (.lit (.bool true))).value [] { args := args, res := some (.bool true), after := args } = some (.bool (true == true)) from w_eq_bool (w_res rfl) w_lit) rfl

section
variable {prog : Program} {w : World} {A : Around} {E : Value → Shared → Prop} {s : Shared} {K : Frag}

noncomputable def ledger (h : Heap) (L d : Addr) : List (Addr × Obj) := (List.range h.objs.size).filterMap fun a => if a = L ∨ a = d then none else (h.get? a).map fun o => (a, o)
end
end Att

namespace Internal
open PySem PySem.Spec PyProof.Rows

theorem vals_ints : ∀ {vs : List Value} {ns : List Int}, IntsAre vs ns → Vals (ns.map V.int) vs
  | _, _, .nil => .nil
  | _, _, .cons n t h => .cons ⟨t, rfl⟩ (vals_ints h)

noncomputable def Only (H : Hp) : Prop := ∀ b, H b = none ∨ ∃ o xs, H b = some (.frz o (.lst xs))

theorem law_call {P : Program} {w : World} {K : PySem.W.Frag} {mg mb : Str → Option Value} {CX : CXT} {k : Nat} {fa a : Addr} {fd : FuncData} {x : Str} {sp : Sp} {s₁ : Shared} {vs : List Value} {ns : List Int}
    (KX : K.In s₁.heap) (hns : s₁.heap.Ns mainGlobals mg) (hb : s₁.heap.Ns builtinsNs mb) (hbb : ∀ x : Str, x ≠ "__name__" → mb x = bootBuiltins x) (hlim : s₁.heap.NoLimit) (hg : s₁.gens = #[])
    (ha : s₁.heap.get? a = some { cls := .type "list", data := .seq vs.toArray }) (hi : IntsAre vs ns) (hl : ns.length ≤ sizeLine) (hr : Room k callerA)
    (F : ∀ base : Heap, K.In base → base.Ns mainGlobals mg → FnOk P w K mg base CX k fa fd [x] sp) (hbind : ∀ (s : Shared) (u : Value), BindsTo s fd ⟨[u], []⟩ [(x, u)])
    (hsp : ∀ H : Hp, Only H → SqL K H a (ns.map V.int) → sp [.ref a] H (fun v _ => v = .bl true) fun _ _ _ => False)
    (hCX : ∀ H e s', CX [] H s₁ (fun _ _ _ => False) e s' → False) :
    codeAny (model P w) callerA (.call (.ref fa) ⟨[.ref a], []⟩) (fun r s' => r = .ok (.ret (.bool true)) ∧ OldK s₁.heap s'.heap ∧ s'.os = s₁.os ∧ AllBare s'.gens) s₁ := by
  have rv := vals_ints hi
  have lenV := hi.length
  -- from an abstract heap in which nothing but the script may be tracked
  have core : ∀ H : Hp, Only H → SqL K H a (ns.map V.int) → HOk P w H s₁.heap → (∀ b, H b ≠ none → b = a) → (H a ≠ none → K.lookup a = none) →
      codeAny (model P w) callerA (.call (.ref fa) ⟨[.ref a], []⟩) (fun r s' => r = .ok (.ret (.bool true)) ∧ OldK s₁.heap s'.heap ∧ s'.os = s₁.os ∧ AllBare s'.gens) s₁ := by
    intro H hO hS hok hA hK
    have base_of : ∀ {b : Addr} {o : Obj}, s₁.heap.get? b = some o → H b = none → (hidT s₁.heap H).get? b = some o := fun e n => hidT_get e n
    have noA : ∀ {b : Addr} {o : Obj} {es : Array DictEntry} {ep : Nat}, s₁.heap.get? b = some o → o.data = .dict es ep → H b = none := fun {b o es ep} e d => by
      cases q : H b with
      | none => rfl
      | some u =>
        have e' : b = a := hA b (by rw [q]; simp)
        subst e'
        rw [ha] at e; cases e
        have d' : Data.seq vs.toArray _ = Data.dict es ep := d
        cases d'
    have nsK : ∀ {b : Addr} {m : Str → Option Value}, s₁.heap.Ns b m → (hidT s₁.heap H).Ns b m := fun {b m} ⟨o, es, ep, e, d, r⟩ => ⟨o, es, ep, base_of e (noA e d), d, r⟩
    have hKb : K.In (hidT s₁.heap H) := fun b o e => base_of (KX b o e) (by
      cases q : H b with
      | none => rfl
      | some u =>
        have e' : b = a := hA b (by rw [q]; simp)
        subst e'
        rw [hK (by rw [q]; simp)] at e; cases e)
    have hM : Mod K mg (hidT s₁.heap H) := ⟨hKb, nsK hns, ⟨mb, nsK hb, hbb⟩, let ⟨mc, h1, h2⟩ := hlim; ⟨mc, nsK h1, h2⟩⟩
    have e0 : Env0 P w K mg (hidT s₁.heap H) callerA [] s₁ H := ⟨rfl, hM, fun b o e => of_hidT e, Nat.le_of_eq (hidT_size _ _), trivial, fun b hb => absurd (show b ∈ ([] : List Addr) from hb) (by simp), hok, .of_eq hg⟩
    refine codeAny_mono ((F _ hKb (nsK hns)).run callerA [] s₁ H ⟨[.ref a], []⟩ [.ref a] [.ref a] _ _ hr e0 (hbind s₁ (.ref a)) (.cons rfl .nil) (hsp H hO hS)) fun r s' h => ?_
    cases r with
    | error e => exact (hCX H e s' h).elim
    | ok fl =>
      cases fl with
      | next => exact False.elim h
      | brk => exact False.elim h
      | cont => exact False.elim h
      | ret u =>
        obtain ⟨v, H', os, bare, un, hok', r', q⟩ := h
        have q' : v = .bl true := q
        subst q'
        obtain rfl : u = Value.bool true := r'
        refine ⟨rfl, OldK.of_keep fun b o e => ?_, os, bare⟩
        cases q : H b with
        | none => exact un.keep b o e q (by intro z; exact absurd (show b ∈ ([] : List Addr) from z) (by simp)) (by simp)
        | some u =>
          rcases hO b with z | ⟨ob, xs, z⟩
          · rw [q] at z; cases z
          · have z2 := un.frzs b ob _ z
            obtain ⟨e1, _⟩ := hok b _ z
            obtain ⟨e2, _⟩ := hok' b _ z2
            rw [e] at e1; cases e1
            exact e2
  cases hk : K.lookup a with
  | some o =>
    -- the script is one of the module's own objects
    have e := KX a o hk
    rw [ha] at e
    cases e
    refine core (fun _ => none) (fun _ => .inl rfl) (.inr ⟨_, vs.toArray, _, hk, rfl, rfl, rfl, by rw [List.size_toArray, lenV]; exact hl, by simpa using rv⟩) (fun b u z => by have z' : (none : Option HO) = some u := z; cases z') (fun b z => absurd rfl z) fun z => absurd rfl z
  | none =>
    refine core (fun b => if b = a then some (.frz { cls := .type "list", data := .seq vs.toArray } (.lst (ns.map V.int))) else none) (fun b => ?_) (.inl (.inr ⟨{ cls := .type "list", data := .seq vs.toArray }, if_pos rfl⟩)) (fun b u z => ?_) (fun b z => ?_) fun _ => hk
    · by_cases hb : b = a
      · exact .inr ⟨_, _, if_pos hb⟩
      · exact .inl (if_neg hb)
    · by_cases hb : b = a
      · have z' := (if_pos hb).symm.trans z
        cases z'
        subst hb
        exact ⟨ha, by rw [List.length_map]; exact hl, vs, _, rv, ha⟩
      · have z' := (if_neg hb).symm.trans z
        cases z'
    · by_cases hb : b = a
      · exact hb
      · exact absurd (if_neg hb) z
end Internal

namespace Internal
open PySem PySem.Spec PyProof.Rows

noncomputable abbrev KOf {K : PySem.W.Frag} {h : Heap} (_ : K.In h) : PySem.W.Frag := K

end Internal



namespace Internal
open PySem PySem.Spec PyProof.Rows

noncomputable def defArgs (s : Stmt) : Arguments := match s with
  | .FunctionDef _ a _ _ _ _ _ _ _ _ => a
  | _ => { posonlyargs := [], args := [], vararg := none, kwonlyargs := [], kw_defaults := [], kwarg := none, defaults := [] }
noncomputable def defBody (s : Stmt) : List Stmt := match s with
  | .FunctionDef _ _ b _ _ _ _ _ _ _ => b
  | _ => []
noncomputable def defScope (s : Stmt) : Scope := match s with
  | .FunctionDef _ _ _ _ _ _ sc _ _ _ => sc
  | _ => { kind := .function, names := [], isGenerator := false, isCoroutine := false }

noncomputable abbrev CX0 : CXT := fun _ _ _ _ _ _ => False
noncomputable abbrev E0 : XK := fun _ _ _ => False
set_option genInjectivity false in
set_option genSizeOf false in
structure Fun (K : PySem.W.Frag) (x qual : Str) (st : Stmt) (f : Addr) (fd : FuncData) : Prop where
  ex : ∃ (oc : Value) (od : Option Addr) (kV doc pm : Value) (an : Option Addr) (cdv ct : Value) (osl : Array (Option Value)),
    fd = PySem.W.fnOf x qual (defArgs st) (defBody st) (defScope st) .none kV doc pm an cdv ct ∧ K.lookup f = some ⟨oc, od, .func fd, osl⟩ ∧ PySem.W.codeIn K cdv qual = true
  kp : PySem.W.keepIn K (.ref f) = true
section
variable {P : Program} {w : World} {K : PySem.W.Frag} {mg : Str → Option Value} {base : Heap}
theorem Fun.binds {x qual : Str} {st : Stmt} {f : Addr} {fd : FuncData} {ps : List Str} (F : Fun K x qual st f fd)
    (h : ∀ (kV doc pm : Value) (an : Option Addr) (cdv ct : Value) (us : List Value), us.length = ps.length → bindArgs (PySem.W.fnOf x qual (defArgs st) (defBody st) (defScope st) .none kV doc pm an cdv ct) ⟨us, []⟩ = pure (ps.zip us)) : Binds K fd ps [] := by
  obtain ⟨oc, od, kV, doc, pm, an, cdv, ct, osl, rfl, lk, hcd⟩ := F.ex
  exact .all (h kV doc pm an cdv ct)
theorem fun_mk {x qual : Str} {st : Stmt} {f : Addr} {oc : Value} {od an : Option Addr} {osl : Array (Option Value)} {kV doc pm cdv ct : Value} (l : K.lookup f = some ⟨oc, od, .func (PySem.W.fnOf x qual (defArgs st) (defBody st) (defScope st) .none kV doc pm an cdv ct), osl⟩)
    (c : PySem.W.codeIn K cdv qual = true) (k : PySem.W.keepIn K (.ref f) = true) : Fun K x qual st f (PySem.W.fnOf x qual (defArgs st) (defBody st) (defScope st) .none kV doc pm an cdv ct) := ⟨⟨oc, od, kV, doc, pm, an, cdv, ct, osl, rfl, l, c⟩, k⟩
end
section
variable {X : Cx}
theorem pv (i : Nat) {x : Str} {pos : Pos} (hN : autoParam (X.N[i]? = some x) Internal.aut2._auto_1) (hv : Vis X.env.scope x := by first | exact Or.inl rfl | exact Or.inr (Or.inl rfl) | exact Or.inr (Or.inr rfl)) (hd : autoParam ((x == ("__debug__" : Str)) = false) Internal.aut1._auto_1)
    (hcd : autoParam ((x == ("__classdict__" : Str)) = false) Internal.aut1._auto_1) : PE X (.Name x pos) (tVar i) := pe_var hN hv hd hcd
end

noncomputable def Same (H H' : Hp) : Prop := ∀ b o, H b = some o → H' b = some o
theorem Same.refl (H : Hp) : Same H H := fun _ _ h => h
theorem Same.trans {H H1 H2 : Hp} (a : Same H H1) (b : Same H1 H2) : Same H H2 := fun c o h => b c o (a c o h)
theorem Same.seq {K : PySem.W.Frag} {H H' : Hp} {a : Addr} {xs : List V} (e : Same H H') (h : SqL K H a xs) : SqL K H' a xs := by
  rcases h with (h | ⟨o, h⟩) | h
  · exact .inl (.inl (e _ _ h))
  · exact .inl (.inr ⟨o, e _ _ h⟩)
  · exact .inr h

end Internal

set_option Elab.async false
set_option linter.all false
set_option maxRecDepth 100000
namespace Internal
open PySem PySem.Spec PyProof.Rows

namespace BT
theorem abs : bootBuiltins "abs" = some (.builtin "abs") := by decide +kernel
theorem len : bootBuiltins "len" = some (.builtin "len") := by decide +kernel
theorem max : bootBuiltins "max" = some (.builtin "max") := by decide +kernel
theorem min : bootBuiltins "min" = some (.builtin "min") := by decide +kernel
theorem sum : bootBuiltins "sum" = some (.builtin "sum") := by decide +kernel
theorem isinstance : bootBuiltins "isinstance" = some (.builtin "isinstance") := by decide +kernel
theorem bool : bootBuiltins "bool" = some (.type "bool") := by decide +kernel
theorem list : bootBuiltins "list" = some (.type "list") := by decide +kernel
end BT

noncomputable def sz (i : Int) : Nat := Builtin.Int.intBits i
theorem sz_le {i : Int} {n : Nat} : sz i ≤ n ↔ i.natAbs < 2 ^ n := by
  unfold sz Builtin.Int.intBits
  by_cases h : i = 0
  · subst h; simp; exact Nat.two_pow_pos n
  · have h' : (i == 0) = false := by simp [h]
    rw [h', if_neg (by decide)]
    have hn : i.natAbs ≠ 0 := by omega
    rw [← Nat.log2_lt hn]; omega
theorem sz_lt (i : Int) : i.natAbs < 2 ^ sz i := sz_le.mp (Nat.le_refl _)
theorem sz_mono {i j : Int} (h : i.natAbs ≤ j.natAbs) : sz i ≤ sz j := sz_le.mpr (Nat.lt_of_le_of_lt h (sz_lt j))
theorem sz_neg (i : Int) : sz (-i) ≤ sz i := sz_mono (by omega)
theorem sz_add {i j : Int} {n : Nat} (h1 : sz i ≤ n) (h2 : sz j ≤ n) : sz (i + j) ≤ n + 1 := by
  rw [sz_le] at *; rw [Nat.pow_succ]; omega
theorem sz_mul {i j : Int} {n m : Nat} (h1 : sz i ≤ n) (h2 : sz j ≤ m) : sz (i * j) ≤ n + m := by
  rw [sz_le] at *
  rw [Int.natAbs_mul, Nat.pow_add]
  exact Nat.mul_lt_mul'' h1 h2
theorem natAbs_ediv_le (i j : Int) : (i / j).natAbs ≤ i.natAbs := Int.natAbs_ediv_le_natAbs i j
theorem sz_div (i j : Int) : sz (i / j) ≤ sz i := sz_mono (natAbs_ediv_le i j)

theorem sz_of {i : Int} {n : Nat} (h : i.natAbs < 2 ^ n) : sz i ≤ n := sz_le.mpr h
theorem sz200 {i : Int} (h1 : -1606938044258990275541962092341162602522202993782792835301376 < i) (h2 : i < 1606938044258990275541962092341162602522202993782792835301376) : sz i ≤ 200 := sz_of (by
  have : (2 : Nat) ^ 200 = 1606938044258990275541962092341162602522202993782792835301376 := by decide
  omega)
section
variable {X : Cx}
noncomputable def CMulS (i j : Int) : Prop := sz i + sz j ≤ 134217728
theorem CMulS.ok {i j : Int} (h : CMulS i j) : IntMulOk i j := by
  unfold IntMulOk
  have e : Builtin.Int.intTooBig (((Builtin.Int.intBits i : Nat) : Int) + ((Builtin.Int.intBits j : Nat) : Int)) = false := by
    unfold Builtin.Int.intTooBig
    have hb : bitsLine = 134217728 := by decide
    rw [decide_eq_false]
    rw [hb]
    unfold CMulS sz at h
    omega
  rw [e]; simp
theorem CMulS.of {i j : Int} {n m : Nat} (h1 : sz i ≤ n) (h2 : sz j ≤ m) (h : n + m ≤ 134217728) : CMulS i j := by unfold CMulS; omega
theorem op_mulS : OpR X (binaryOp .Mult) (rI CMulS fun i j => .int (i * j)) := opI fun _ _ _ _ _ _ _ hc q => mul_int q hc.ok
noncomputable def rMulU : R2 := fun x y H Q => rI CMulS (fun i j => .int (i * j)) x y H Q ∨ rRep x y H Q
theorem op_mulU : OpR X (binaryOp .Mult) rMulU := op_mulS.or op_rep
noncomputable def rAddU (K : PySem.W.Frag) : R2 := fun x y H Q => rI0 (fun i j => .int (i + j)) x y H Q ∨ rCat x y H Q ∨ rCatT K x y H Q
theorem op_addU : OpR X (binaryOp .Add) (rAddU X.K) := op_add.or (op_cat.or op_catT)
noncomputable def CDivU (i j : Int) : Prop := j ≠ 0 ∧ (sz j ≤ 9000 ∨ sz i ≤ sz j + 4500)
noncomputable def rDivU : R2 := rI CDivU fun i j => .int (i.fdiv j)
theorem sz_log {j : Int} (h : j ≠ 0) : sz j = j.natAbs.log2 + 1 := by
  have h0 : j.natAbs ≠ 0 := by omega
  have h1 : sz j ≤ j.natAbs.log2 + 1 := sz_le.mpr (Nat.lt_log2_self)
  have h2 : ¬ sz j ≤ j.natAbs.log2 := fun z => by
    have := sz_le.mp z
    have := Nat.log2_self_le h0
    omega
  omega
theorem noPylong_near {i j : Int} (hj : j ≠ 0) (h : sz i ≤ sz j + 4500) : Builtin.divisionGoesByPylong i j = false := by
  have hy : (j == 0) = false := by simpa using hj
  have key : (if i == 0 then 0 else i.natAbs.log2 / 30 + 1) ≤ (if j == 0 then 0 else j.natAbs.log2 / 30 + 1) + 150 := by
    rw [hy]
    by_cases hi : i = 0
    · have : (i == 0) = true := by simpa using hi
      rw [this]
      exact Nat.zero_le _
    · have hx : (i == 0) = false := by simpa using hi
      rw [hx]
      rw [sz_log hi, sz_log hj] at h
      show i.natAbs.log2 / 30 + 1 ≤ j.natAbs.log2 / 30 + 1 + 150
      omega
  show (decide (_ > 300) && decide ((if i == 0 then 0 else i.natAbs.log2 / 30 + 1) > (if j == 0 then 0 else j.natAbs.log2 / 30 + 1) + 150)) = false
  rw [decide_eq_false (Nat.not_lt.mpr key), Bool.and_false]
theorem op_divU : OpR X (binaryOp .FloorDiv) rDivU := opI fun i j _ _ _ _ _ hc q => floordiv_int hc.1 q (.inl (hc.2.elim (fun h => PyProof.noPylong_of_log2 (by
  have h1 := sz_le.mp h
  by_cases h0 : j.natAbs = 0
  · rw [h0]; decide
  · exact (Nat.log2_lt h0).mpr h1)) (noPylong_near hc.1)))
noncomputable def rModU : R2 := rI (fun _ j => j ≠ 0) fun i j => .int (i.fmod j)
theorem op_modU : OpR X (binaryOp .Mod) rModU := op_modN

mutual
inductive RepD (K : PySem.W.Frag) (H : Hp) : V → PyData → Prop
  | non : RepD K H .non .none
  | bl (b : Bool) : RepD K H (.bl b) (.bool b)
  | int (i : Int) : RepD K H (.int i) (.int i)
  | str (x : Str) (ok : PyData.canLay0 (.str x) = true) : RepD K H (.str x) (.str x)
  | lst {a : Addr} {vs : List V} {ds : List PyData} : SqL K H a vs → RepAll K H vs ds → RepD K H (.ref a) (.list ds)
  | tup {a : Addr} {vs : List V} {ds : List PyData} : SqT K H a vs → RepAll K H vs ds → RepD K H (.ref a) (.tuple ds)
inductive RepAll (K : PySem.W.Frag) (H : Hp) : List V → List PyData → Prop
  | nil : RepAll K H [] []
  | cons {v : V} {d : PyData} {vs : List V} {ds : List PyData} : RepD K H v d → RepAll K H vs ds → RepAll K H (v :: vs) (d :: ds)
end
mutual
theorem RepD.reads {pins : List (Addr × Obj)} {σ : St} {H : Hp} {s : Shared} (I : Inv X pins σ H s) : ∀ {v : V} {d : PyData} {u : Value}, RepD X.K H v d → RelV v u → ∃ as, Reads s.heap u d as
  | _, _, _, .non, r => by cases (show _ = Value.none from r); exact ⟨_, .none⟩
  | _, _, _, .bl b, r => by cases (show _ = Value.bool b from r); exact ⟨_, .bool b⟩
  | _, _, _, .int i, r => by obtain ⟨t, rfl⟩ := (show ∃ t, _ = Value.int i t from r); exact ⟨_, .int i t⟩
  | _, _, _, .str x _, r => by obtain ⟨t, rfl⟩ := (show ∃ t, _ = Value.str x t from r); exact ⟨_, .str x t⟩
  | _, _, _, .lst h k, r => by
    cases (show _ = Value.ref _ from r)
    obtain ⟨its, rv, ⟨o, n, h1, h2, _, h3⟩, _⟩ := I.list h
    obtain ⟨as, q⟩ := RepAll.reads I k rv
    exact ⟨_, .list h1 h2 h3 (by simpa using q)⟩
  | _, _, _, .tup h k, r => by
    cases (show _ = Value.ref _ from r)
    obtain ⟨its, rv, ⟨o, h1, h2, n, h3⟩, _⟩ := I.tuple h
    obtain ⟨as, q⟩ := RepAll.reads I k rv
    exact ⟨_, .tuple h1 h2 h3 (by simpa using q)⟩
theorem RepAll.reads {pins : List (Addr × Obj)} {σ : St} {H : Hp} {s : Shared} (I : Inv X pins σ H s) : ∀ {vs : List V} {ds : List PyData} {us : List Value}, RepAll X.K H vs ds → Vals vs us → ∃ as, ReadsAll s.heap us ds as
  | _, _, _, .nil, .nil => ⟨_, .nil⟩
  | _, _, _, .cons h k, .cons r t => by
    obtain ⟨as, q⟩ := RepD.reads I h r
    obtain ⟨bs, p⟩ := RepAll.reads I k t
    exact ⟨_, .cons q p⟩
end
mutual
theorem RepD.lay {K : PySem.W.Frag} {H : Hp} : ∀ {v : V} {d : PyData}, RepD K H v d → d.canLay0 = true
  | _, _, .non => rfl
  | _, _, .bl _ => rfl
  | _, _, .int _ => rfl
  | _, _, .str _ ok => ok
  | _, _, .lst _ k => by rw [PyData.canLay0]; exact RepAll.lay k
  | _, _, .tup _ k => by rw [PyData.canLay0]; exact RepAll.lay k
theorem RepAll.lay {K : PySem.W.Frag} {H : Hp} : ∀ {vs : List V} {ds : List PyData}, RepAll K H vs ds → PyData.canLayAll0 ds = true
  | _, _, .nil => rfl
  | _, _, .cons h k => by rw [PyData.canLayAll0, RepD.lay h, RepAll.lay k]; rfl
end
theorem Same.seqT {K : PySem.W.Frag} {H H' : Hp} {a : Addr} {xs : List V} (e : Same H H') (h : SqT K H a xs) : SqT K H' a xs := by
  rcases h with (h | ⟨o, h⟩) | h
  · exact .inl (.inl (e _ _ h))
  · exact .inl (.inr ⟨o, e _ _ h⟩)
  · exact .inr h
mutual
theorem Same.rep {K : PySem.W.Frag} {H H' : Hp} (e : Same H H') : ∀ {v : V} {d : PyData}, RepD K H v d → RepD K H' v d
  | _, _, .non => .non
  | _, _, .bl b => .bl b
  | _, _, .int i => .int i
  | _, _, .str x ok => .str x ok
  | _, _, .lst h k => .lst (e.seq h) (e.repAll k)
  | _, _, .tup h k => .tup (e.seqT h) (e.repAll k)
theorem Same.repAll {K : PySem.W.Frag} {H H' : Hp} (e : Same H H') : ∀ {vs : List V} {ds : List PyData}, RepAll K H vs ds → RepAll K H' vs ds
  | _, _, .nil => .nil
  | _, _, .cons h k => .cons (e.rep h) (e.repAll k)
end
noncomputable def rEqU (K : PySem.W.Frag) : R2 := fun x y H Q => (∃ d e, RepD K H x d ∧ RepD K H y e ∧ min d.depth e.depth ≤ 60 ∧ Q (.bl (PyData.eqv d e)) H) ∨ rEq x y H Q
noncomputable def rNeU (K : PySem.W.Frag) : R2 := fun x y H Q => (∃ d e, RepD K H x d ∧ RepD K H y e ∧ min d.depth e.depth ≤ 60 ∧ Q (.bl (!PyData.eqv d e)) H) ∨ rNe x y H Q
theorem op_eqU (hu : X.A.units + 64 < cLine) : OpR X (compareOp .Eq) (rEqU X.K) := by
  refine OpR.or ?_ op_eq
  intro pins s σ H x y v u Q I rx ry h
  obtain ⟨d, e, h1, h2, hd, q⟩ := h
  obtain ⟨as, r1⟩ := h1.reads I rx
  obtain ⟨bs, r2⟩ := h2.reads I ry
  exact PySem.SeqAt.compareEq_reads r1 r2 h1.lay h2.lay (by omega) ⟨.bl _, H, I, rfl, q⟩
theorem op_neU (hu : X.A.units + 64 < cLine) : OpR X (compareOp .NotEq) (rNeU X.K) := by
  refine OpR.or ?_ op_ne
  intro pins s σ H x y v u Q I rx ry h
  obtain ⟨d, e, h1, h2, hd, q⟩ := h
  obtain ⟨as, r1⟩ := h1.reads I rx
  obtain ⟨bs, r2⟩ := h2.reads I ry
  exact PySem.SeqAt.compareNe_reads r1 r2 h1.lay h2.lay (by omega) ⟨.bl _, H, I, rfl, q⟩

noncomputable def rIsi (K : PySem.W.Frag) : List V → Hp → VK → Prop := fun xs H Q => ∃ x c t b cv, xs = [x, c] ∧ RelV c cv ∧ TyOf K H x t ∧ PySem.W.kitOne K t cv = some b ∧ Q (.bl b) H
theorem call_isinst : CallR X (.builtin "isinstance") (rIsi X.K) := by
  intro pins s σ H xs us Q I r h
  obtain ⟨x, c, t, b, cv, rfl, rc, ty, e, q⟩ := h
  obtain ⟨u, w', rfl, r1, r2⟩ := vals2 r
  have ec : w' = cv := by
    cases c with
    | ty n => exact (show w' = _ from r2).trans (show cv = _ from rc).symm
    | ref a => exact (show w' = _ from r2).trans (show cv = _ from rc).symm
    | non => exact (show w' = _ from r2).trans (show cv = _ from rc).symm
    | bl b => exact (show w' = _ from r2).trans (show cv = _ from rc).symm
    | _ => obtain ⟨_, rfl⟩ := rc; simp [PySem.W.kitOne, PySem.W.kitCls] at e; cases ty <;> simp at e
  subst ec
  exact isinst_ok I r1 ty e fun tk => ⟨.bl b, H, I.tok tk, rfl, q⟩
noncomputable def tNotU (K : PySem.W.Frag) (ta : TE) : TE := fun σ H Q => ta σ H fun x H1 => ∃ k, TruV K x H1 k ∧ Q (.bl (!k)) H1
theorem pe_notU {a : Expr} {ta : TE} {pos : Pos} (ha : PE X a ta) : PE X (.UnaryOp .Not a pos) (tNotU X.K ta) := by
  intro pins s σ H Q I h
  refine UnaryOp_ (thn (ha pins s σ H _ I h) fun v s1 zz => ?_)
  obtain ⟨x, H1, I1, r1, k, hk, q1⟩ := zz
  exact not_of (thn (tru_ok pins s1 σ H1 x v (fun c H2 => Q (.bl (!c)) H2) I1 r1 ⟨k, hk, q1⟩) fun c s2 ⟨H2, I2, q2⟩ => ⟨.bl (!c), H2, I2, rfl, q2⟩)
end

noncomputable def rAbs : List V → Hp → VK → Prop := fun xs H Q => ∃ i, xs = [.int i] ∧ Q (.int (if i < 0 then -i else i)) H
noncomputable def rLen (K : PySem.W.Frag) : List V → Hp → VK → Prop := fun xs H Q => ∃ p ys, xs = [.ref p] ∧ (SqL K H p ys ∨ SqT K H p ys) ∧ Q (.int ys.length) H
noncomputable def rMax2 : List V → Hp → VK → Prop := fun xs H Q => ∃ i j, xs = [.int i, .int j] ∧ Q (.int (if j > i then j else i)) H
noncomputable def rMin2 : List V → Hp → VK → Prop := fun xs H Q => ∃ i j, xs = [.int i, .int j] ∧ Q (.int (if j < i then j else i)) H
noncomputable def rListOf (K : PySem.W.Frag) : List V → Hp → VK → Prop := fun xs H Q => ∃ p ys, xs = [.ref p] ∧ (SqL K H p ys ∨ SqT K H p ys) ∧ ∀ l, H l = none → Q (.ref l) (upd H l (.lst ys))
section
variable {X : Cx}
theorem call_absU : CallR X (.builtin "abs") rAbs := call_abs
theorem call_lenU : CallR X (.builtin "len") (rLen X.K) := call_len_seq
theorem call_maxU (hc : X.calm = true) : CallR X (.builtin "max") rMax2 := call_max2 hc
theorem call_minU (hc : X.calm = true) : CallR X (.builtin "min") rMin2 := call_min2 hc
theorem call_listU : CallR X (.type "list") (rListOf X.K) := call_list_of
noncomputable abbrev tTru (K : PySem.W.Frag) (ta : TE) : TT := fun σ H Q => ta σ H fun x H' => ∃ k, TruV K x H' k ∧ Q k H'
theorem pt_truthU {a : Expr} {ta : TE} (ha : PE X a ta) (he : ∀ whole, isTrue a X.env whole = (do let v ← whole; standAt a.pos; holding [v] (truthy v))) : PT X a (tTru X.K ta) := pt_truth ha he
end
noncomputable def tMid (t u : TS) : TS := fun D σ H => ∃ M : St → Hp → Prop, t { D with nx := M } σ H ∧ ∀ σ' H', M σ' H' → u D σ' H'
theorem pss_mid {X : Cx} {st : Stmt} {rest : List Stmt} {t u : TS} (h1 : PS X st t) (h2 : PSs X rest u) : PSs X (st :: rest) (tMid t u) := by
  intro pins s σ H D I h
  obtain ⟨M, ht, hM⟩ := h
  refine wpAny_execs_cons (thn (h1 pins s σ H _ I ht) fun f s1 q => ?_)
  cases f with
  | next =>
    obtain ⟨σ', H', I', q'⟩ := q
    exact h2 pins s1 σ' H' D I' (hM σ' H' q')
  | brk => exact q
  | cont => exact q
  | ret u => exact q
noncomputable def NoX (CX : CXT) : Prop := ∀ (outer : List Env) (H : Hp) (s : Shared) (e : Value) (s' : Shared), CX outer H s E0 e s' → False
theorem passN {CX : CXT} {X : Cx} (h : NoX CX) : Passes CX X E0 := fun _ _ H s e s' _ q => (h _ H s e s' q).elim
theorem Fun.okN {P : Program} {w : World} {K : PySem.W.Frag} {mg : Str → Option Value} {base : Heap} {CX : CXT} {x qual : Str} {st : Stmt} {f : Addr} {fd : FuncData} {N ps : List Str} {k : Nat} {sp : Sp} (F : Fun K x qual st f fd) (S : FnScope N ps (defScope st)) (len : ∀ vs H Q E, sp vs H Q E → vs.length = ps.length)
    (hbody : ∀ (cdv : Value) (A : Around) (outer : List Env) (s : Shared) (H : Hp) (vs : List V) (Q : VK) (E : XK), Room k (A.deeper (envOfC qual (defScope st) s.heap.objs.size f cdv)) → sp vs H Q E →
      ∃ t, PSs (cxOf CX P w K mg base N qual (defScope st) f cdv A outer s H E).nox (defBody st) t ∧ t { nx := fun _ H' => Q .non H', rt := Q } (start N vs) H) : FnOk P w K mg base CX (k + 1) f fd ps sp := by
  obtain ⟨oc, od, kV, doc, pm, an, cdv, ct, osl, rfl, lk, hcd⟩ := F.ex
  refine fn_of lk hcd S len fun A outer s H vs Q E hr hsp => ?_
  obtain ⟨t, h, q⟩ := hbody cdv A outer s H vs Q E hr hsp
  exact ⟨t, h.nox, q⟩
section
variable {σ : St} {H : Hp} {Q : VK} {D : Ends} {ta tb tc te : TE} {t u : TS} {K : PySem.W.Frag}
theorem x_var {i : Nat} {v : V} (e : σ[i]? = some (some v)) (q : Q v H) : tVar i σ H Q := ⟨v, e, q⟩
theorem x_c {v : V} (q : Q v H) : tC v σ H Q := q
theorem x_i0 {g : Int → Int → V} {i j : Int} (q : Q (g i j) H) : rI0 g (.int i) (.int j) H Q := ⟨i, j, rfl, rfl, q⟩
theorem x_add {i j : Int} (q : Q (.int (i + j)) H) : rAddU K (.int i) (.int j) H Q := .inl ⟨i, j, rfl, rfl, q⟩
theorem x_mul {i j : Int} (c : CMulS i j) (q : Q (.int (i * j)) H) : rMulU (.int i) (.int j) H Q := .inl ⟨i, j, rfl, rfl, c, q⟩
theorem x_div {i j : Int} (h0 : 0 < j) (hs : sz j ≤ 9000) (q : Q (.int (i / j)) H) : rDivU (.int i) (.int j) H Q :=
  ⟨i, j, rfl, rfl, ⟨by omega, .inl hs⟩, by show Q (.int (i.fdiv j)) H; rw [Int.fdiv_eq_ediv_of_nonneg _ (Int.le_of_lt h0)]; exact q⟩
theorem x_divW {i j : Int} (h0 : 0 < j) (hs : sz i ≤ sz j + 4500) (q : Q (.int (i / j)) H) : rDivU (.int i) (.int j) H Q :=
  ⟨i, j, rfl, rfl, ⟨by omega, .inr hs⟩, by show Q (.int (i.fdiv j)) H; rw [Int.fdiv_eq_ediv_of_nonneg _ (Int.le_of_lt h0)]; exact q⟩
theorem x_mod {i j : Int} (h0 : 0 < j) (q : Q (.int (i % j)) H) : rModU (.int i) (.int j) H Q :=
  ⟨i, j, rfl, rfl, by omega, by show Q (.int (i.fmod j)) H; rw [Int.fmod_eq_emod_of_nonneg _ (Int.le_of_lt h0)]; exact q⟩
theorem x_pow {i j k : Int} (c : CPow i j) (e : i ^ j.toNat = k) (q : Q (.int k) H) : rI CPow (fun i j => .int (i ^ j.toNat)) (.int i) (.int j) H Q := ⟨i, j, rfl, rfl, c, by show Q (.int (i ^ j.toNat)) H; rw [e]; exact q⟩
theorem x_neg {i : Int} (q : Q (.int (-i)) H) : rU (fun i => .int (-i)) (.int i) H Q := ⟨i, rfl, q⟩
theorem dI {i j : Int} : decide (V.int i = V.int j) = decide (i = j) := by simp
theorem dB {i j : Bool} : decide (V.bl i = V.bl j) = decide (i = j) := by simp
theorem x_eqI {i j : Int} (q : Q (.bl (decide (i = j))) H) : rEqU K (.int i) (.int j) H Q := .inr ⟨rfl, by rw [dI]; exact q⟩
theorem x_neI {i j : Int} (q : Q (.bl (!decide (i = j))) H) : rNeU K (.int i) (.int j) H Q := .inr ⟨rfl, by rw [dI]; exact q⟩
theorem x_eqB {i j : Bool} (q : Q (.bl (decide (i = j))) H) : rEqU K (.bl i) (.bl j) H Q := .inr ⟨rfl, by rw [dB]; exact q⟩
theorem x_eqD {x y : V} {d e : PyData} (h1 : RepD K H x d) (h2 : RepD K H y e) (hd : min d.depth e.depth ≤ 60) (q : Q (.bl (PyData.eqv d e)) H) : rEqU K x y H Q := .inl ⟨d, e, h1, h2, hd, q⟩
theorem x_neD {x y : V} {d e : PyData} (h1 : RepD K H x d) (h2 : RepD K H y e) (hd : min d.depth e.depth ≤ 60) (q : Q (.bl (!PyData.eqv d e)) H) : rNeU K x y H Q := .inl ⟨d, e, h1, h2, hd, q⟩
theorem x_ixL {a : Addr} {xs : List V} {i : Int} {v : V} (h : SqL K H a xs) (e : atI xs i = some v) (q : Q v H) : rIx K (.ref a) (.int i) H Q := .inl ⟨a, xs, i, v, rfl, rfl, h, e, q⟩
theorem x_ixT {a : Addr} {xs : List V} {i : Int} {v : V} (h : SqT K H a xs) (e : atI xs i = some v) (q : Q v H) : rIx K (.ref a) (.int i) H Q := .inr (.inl ⟨a, xs, i, v, rfl, rfl, h, e, q⟩)
theorem x_bl {T : Bool → Prop} {b : Bool} (q : T b) : ∃ k, V.bl b = .bl k ∧ T k := ⟨b, rfl, q⟩
theorem x_truB {T : Bool → Prop} {b : Bool} (q : T b) : ∃ k, TruV K (.bl b) H k ∧ T k := ⟨b, rfl, q⟩
theorem x_andV (q : ta σ H fun x H1 => ∃ c, x = .bl c ∧ if c = true then tb σ H1 Q else Q (.bl false) H1) : tAndV ta tb σ H Q := q
theorem x_notU (q : ta σ H fun x H1 => ∃ k, TruV K x H1 k ∧ Q (.bl (!k)) H1) : tNotU K ta σ H Q := q
theorem x_ite {p : Prop} [Decidable p] {A B : Prop} (h1 : p → A) (h2 : ¬ p → B) : if decide p = true then A else B := by
  by_cases h : p
  · rw [if_pos (decide_eq_true h)]; exact h1 h
  · rw [if_neg (by rw [decide_eq_false h]; exact Bool.false_ne_true)]; exact h2 h
theorem x_iteN {p : Prop} [Decidable p] {A B : Prop} (h1 : ¬ p → A) (h2 : p → B) : if (!decide p) = true then A else B := by
  by_cases h : p
  · rw [if_neg (by rw [decide_eq_true h]; exact Bool.false_ne_true)]; exact h2 h
  · rw [if_pos (by rw [decide_eq_false h]; rfl)]; exact h1 h
theorem x_iteT {A B : Prop} (h : A) : if true = true then A else B := by rw [if_pos rfl]; exact h
theorem x_iteF {A B : Prop} (h : B) : if false = true then A else B := by rw [if_neg Bool.false_ne_true]; exact h
theorem x_iteNT {A B : Prop} (h : B) : if (!true) = true then A else B := x_iteF h
theorem x_iteNF {A B : Prop} (h : A) : if (!false) = true then A else B := x_iteT h
theorem x_mid (M : St → Hp → Prop) (q : t { D with nx := M } σ H) (r : ∀ σ' H', M σ' H' → u D σ' H') : tMid t u D σ H := ⟨M, q, r⟩
theorem x_nil {R : List V → Hp → Prop} (q : R [] H) : tNil σ H R := q
theorem x_call {sp : Sp} {E : XK} {tr : TA} (q : tr σ H fun vs H1 => sp vs H1 Q E) : tCall sp [] E tr σ H Q := by unfold tCall; simp only [List.append_nil]; exact q
noncomputable def rTup (Q : VK) (xs : List V) (H : Hp) : Prop := xs.length ≤ sizeLine ∧ ∀ p, H p = none → Q (.ref p) (upd H p (.tup xs))
noncomputable def rLst (Q : VK) (xs : List V) (H : Hp) : Prop := xs.length ≤ sizeLine ∧ ∀ p, H p = none → Q (.ref p) (upd H p (.lst xs))
theorem x_tup {tr : TA} (q : tr σ H (rTup Q)) : tTup tr σ H Q := q
theorem x_lst {tr : TA} (q : tr σ H (rLst Q)) : tLst tr σ H Q := q
theorem x_abs {i : Int} (q : Q (.int (if i < 0 then -i else i)) H) : rAbs [.int i] H Q := ⟨i, rfl, q⟩
theorem x_lenL {a : Addr} {xs : List V} (h : SqL K H a xs) (q : Q (.int xs.length) H) : rLen K [.ref a] H Q := ⟨a, xs, rfl, .inl h, q⟩
theorem x_max {i j : Int} (q : Q (.int (if j > i then j else i)) H) : rMax2 [.int i, .int j] H Q := ⟨i, j, rfl, q⟩
theorem x_min {i j : Int} (q : Q (.int (if j < i then j else i)) H) : rMin2 [.int i, .int j] H Q := ⟨i, j, rfl, q⟩
theorem x_start {N : List Str} {vs : List V} {σ0 : St} (e : start N vs = σ0) (q : t D σ0 H) : t D (start N vs) H := by rw [e]; exact q
theorem x_isi {x c : V} {t' cv : Value} {b : Bool} (rc : RelV c cv) (ty : TyOf K H x t') (e : PySem.W.kitOne K t' cv = some b) (q : Q (.bl b) H) : rIsi K [x, c] H Q := ⟨x, c, t', b, cv, rfl, rc, ty, e, q⟩
end
theorem Same.new {H : Hp} {p : Addr} (h : H p = none) (o : HO) : Same H (upd H p o) := fun b u q => by rw [upd_ne (ne_of_none q h)]; exact q
end Internal

set_option Elab.async false
set_option linter.all false
set_option maxRecDepth 100000
namespace Internal
open PySem PySem.Spec PyProof.Rows

theorem closureFor_all {env : Env} {scope : Scope} (h : ∀ y ∈ scope.names, y.2 = .free → ∃ c, env.cells.lookup y.1 = some c) :
    ∃ cl, closureFor scope env = pure cl ∧ (∀ x c, cl.lookup x = some c → env.cells.lookup x = some c) ∧ ∀ y ∈ scope.names, y.2 = .free → cl.lookup y.1 = env.cells.lookup y.1 := by
  unfold closureFor
  have key : ∀ (names : List (Str × NameKind)) (acc : List (Str × Addr)), (∀ y ∈ names, y.2 = .free → ∃ c, env.cells.lookup y.1 = some c) → (∀ x c, acc.lookup x = some c → env.cells.lookup x = some c) →
      ∃ cl, (forIn (m := Sem) names acc fun (x : Str × NameKind) r => if (x.2 == .free) = true then (do let a ← cellOf env x.1; pure (ForInStep.yield ((x.1, a) :: r))) else pure (ForInStep.yield r)) = pure cl ∧
        (∀ x c, cl.lookup x = some c → env.cells.lookup x = some c) ∧ (∀ y ∈ names, y.2 = .free → cl.lookup y.1 = env.cells.lookup y.1) ∧ (∀ x, (∃ c, acc.lookup x = some c) → cl.lookup x = env.cells.lookup x) := by
    intro names
    induction names with
    | nil => intro acc _ ha; exact ⟨acc, rfl, ha, fun _ hy => (nomatch hy), fun x ⟨c, e⟩ => by rw [e, ha x c e]⟩
    | cons y r ih =>
      intro acc hn ha
      obtain ⟨n, k⟩ := y
      have hr : ∀ y ∈ r, y.2 = .free → ∃ c, env.cells.lookup y.1 = some c := fun y hy => hn y (List.mem_cons_of_mem _ hy)
      by_cases hk : k = .free
      · subst hk
        obtain ⟨c, hc⟩ := hn (n, .free) List.mem_cons_self rfl
        have ha' : ∀ x c', List.lookup x ((n, c) :: acc) = some c' → env.cells.lookup x = some c' := fun x c' e => by
          rw [List.lookup_cons] at e
          cases hb : x == n with
          | true => rw [hb] at e; cases e; rw [beq_iff_eq.mp hb]; exact hc
          | false => rw [hb] at e; exact ha x c' e
        obtain ⟨cl, e, h1, h2, h3⟩ := ih ((n, c) :: acc) hr ha'
        refine ⟨cl, ?_, h1, fun y hy hf => ?_, fun x hx => ?_⟩
        · rw [List.forIn_cons]
          simp only [cellOf, hc, beq_self_eq_true, if_true]
          exact e
        · rcases List.mem_cons.mp hy with rfl | hy
          · exact h3 n ⟨c, by rw [List.lookup_cons]; simp⟩
          · exact h2 y hy hf
        · refine h3 x ?_
          obtain ⟨c', e'⟩ := hx
          rw [List.lookup_cons]
          cases hb : x == n with
          | true => exact ⟨c, rfl⟩
          | false => exact ⟨c', e'⟩
      · obtain ⟨cl, e, h1, h2, h3⟩ := ih acc hr ha
        refine ⟨cl, ?_, h1, fun y hy hf => ?_, h3⟩
        · rw [List.forIn_cons]
          have hb : (k == NameKind.free) = false := by simpa using hk
          simp only [hb, Bool.false_eq_true, if_false]
          exact e
        · rcases List.mem_cons.mp hy with rfl | hy
          · exact absurd hf hk
          · exact h2 y hy hf
  obtain ⟨cl, e, h1, h2, _⟩ := key scope.names [] h (fun _ _ z => by simp at z)
  refine ⟨cl, ?_, h1, h2⟩
  show (forIn scope.names [] _ >>= fun r => pure r) = pure cl
  have e' : (forIn (m := Sem) scope.names [] fun (x : Str × NameKind) (r : List (Str × Addr)) => match x with | (name, kind) => if (kind == .free) = true then (do let a ← cellOf env name; pure (ForInStep.yield ((name, a) :: r))) else pure (ForInStep.yield r)) = pure cl := e
  first
    | (rw [e']; rfl)
    | (simp only [e']; rfl)
theorem cellsFrom_app : ∀ (names : List (Str × NameKind)) (n : Nat) (acc : List (Str × Addr)), cellsFrom n names acc = cellsFrom n names [] ++ acc
  | [], _, _ => rfl
  | (name, kind) :: r, n, acc => by
    unfold cellsFrom
    split
    · rw [cellsFrom_app r (n + 1) ((name, n) :: acc), cellsFrom_app r (n + 1) [(name, n)], List.append_assoc]; rfl
    · exact cellsFrom_app r n acc
theorem lookup_app {α : Type} {x : Str} : ∀ {l r : List (Str × α)}, (l ++ r).lookup x = match l.lookup x with | some c => some c | none => r.lookup x
  | [], _ => rfl
  | (k, v) :: l, r => by
    rw [List.cons_append, List.lookup_cons, List.lookup_cons]
    cases x == k with
    | true => rfl
    | false => exact lookup_app (l := l)
noncomputable def compEnv (scope : Scope) (cs : List (Str × Addr)) (C : Addr) (env : Env) : Env :=
  { scope := relabel scope env, locals := C, globals := env.globals, cells := cs, qual := env.qual, func := none, code := env.code, frame := env.frame, builtins := env.builtins }
theorem wpAny_compEnv {M : Model} {A : Around} {E : Value → Shared → Prop} {s : Shared} {scope : Scope} {globals : Addr} {cl : List (Str × Addr)} {qual : Str} {env : Env} {Q : Env → Shared → Prop}
    (hQ : ∀ (own : List (Str × Addr)) (s' : Shared), own = cellsFrom (s.heap.objs.size + 1) scope.names [] → s' = { s with heap := s'.heap } → (∀ b o, s.heap.get? b = some o → s'.heap.get? b = some o) →
      s'.heap.Ns s.heap.objs.size (fun _ => none) → (∀ n c, (n, c) ∈ own → s'.heap.IsCell c none ∧ s.heap.objs.size + 1 ≤ c) → (own.Pairwise fun x y => x.2 ≠ y.2) →
      Q { scope := scope, locals := s.heap.objs.size, globals := globals, cells := own ++ cl, qual := qual, func := none, code := env.code, frame := env.frame, builtins := env.builtins } s') :
    wpAny M A (newFunctionEnv scope globals cl [] qual none .none (some env)) Q E s := by
  simp only [newFunctionEnv, Option.isSome_some, if_true]
  refine wpAny_bind (wpAny_alloc ?_)
  refine wpAny_bind (wpAny_layCells _ (fun name kind cells => by cases hkc : kind == NameKind.cell <;> simp [hkc]) _ _ _ _ ?_)
  have ok := cellsFrom_ok scope.names (s.heap.push { cls := .type "dict", data := .dict #[] }) (s.heap.objs.size + 1) [] ⟨fun _ _ hm => (nomatch hm), List.Pairwise.nil⟩ (by rw [Heap.size_push]; exact Nat.le_refl _)
  rw [Heap.size_push] at ok
  rw [show ({ s with heap := s.heap.push { cls := .type "dict", data := .dict #[] } } : Shared).heap.objs.size = s.heap.objs.size + 1 from Heap.size_push ..]
  rw [cellsFrom_app]
  have fin := hQ _ { s with heap := pushCells (s.heap.push { cls := .type "dict", data := .dict #[] }) scope.names } rfl rfl (fun b o e => pushCells_keeps _ _ b o (Heap.get?_push_of_some _ e))
    ((Heap.Ns.new s.heap (.type "dict")).keeps (pushCells_keeps _ _)) ok.empty ok.apart
  exact wpAny_bind (wpAny_pure (wpAny_pure fin))

theorem lookup_relabel_free {env : Env} : ∀ {names : List (Str × NameKind)} {x : Str}, names.lookup x = some .free →
    (names.map fun (n, k) => if (k == NameKind.free && env.scope.kind == .function && env.kindOf n == some .cell) then (n, NameKind.cell) else (n, k)).lookup x = some .cell ∨
    (names.map fun (n, k) => if (k == NameKind.free && env.scope.kind == .function && env.kindOf n == some .cell) then (n, NameKind.cell) else (n, k)).lookup x = some .free
  | [], _, h => by simp at h
  | (n, k) :: r, x, h => by
    have ih := @lookup_relabel_free env r x
    show List.lookup x ((if (k == NameKind.free && env.scope.kind == .function && env.kindOf n == some .cell) = true then (n, NameKind.cell) else (n, k)) :: _) = _ ∨ List.lookup x ((if (k == NameKind.free && env.scope.kind == .function && env.kindOf n == some .cell) = true then (n, NameKind.cell) else (n, k)) :: _) = _
    by_cases hc : (k == NameKind.free && env.scope.kind == .function && env.kindOf n == some .cell) = true
    · rw [if_pos hc]
      cases hx : x == n with
      | true => left; simp [List.lookup_cons, hx]
      | false => simp only [List.lookup_cons, hx] at h ⊢; exact ih h
    · rw [if_neg hc]
      cases hx : x == n with
      | true => simp only [List.lookup_cons, hx] at h ⊢; exact .inr h
      | false => simp only [List.lookup_cons, hx] at h ⊢; exact ih h
theorem lookup_relabel_cell {env : Env} : ∀ {names : List (Str × NameKind)} {x : Str}, (names.map fun (n, k) => if (k == NameKind.free && env.scope.kind == .function && env.kindOf n == some .cell) then (n, NameKind.cell) else (n, k)).lookup x = some .cell ∨
    (names.map fun (n, k) => if (k == NameKind.free && env.scope.kind == .function && env.kindOf n == some .cell) then (n, NameKind.cell) else (n, k)).lookup x = some .free → names.lookup x = some .cell ∨ names.lookup x = some .free
  | [], _, h => by simp at h
  | (n, k) :: r, x, h => by
    have ih := @lookup_relabel_cell env r x
    have h' : List.lookup x ((if (k == NameKind.free && env.scope.kind == .function && env.kindOf n == some .cell) = true then (n, NameKind.cell) else (n, k)) :: (r.map fun (n, k) => if (k == NameKind.free && env.scope.kind == .function && env.kindOf n == some .cell) then (n, NameKind.cell) else (n, k))) = some .cell ∨
      List.lookup x ((if (k == NameKind.free && env.scope.kind == .function && env.kindOf n == some .cell) = true then (n, NameKind.cell) else (n, k)) :: (r.map fun (n, k) => if (k == NameKind.free && env.scope.kind == .function && env.kindOf n == some .cell) then (n, NameKind.cell) else (n, k))) = some .free := h
    clear h
    by_cases hc : (k == NameKind.free && env.scope.kind == .function && env.kindOf n == some .cell) = true
    · have hk : k = .free := by
        rw [Bool.and_eq_true, Bool.and_eq_true] at hc
        exact beq_iff_eq.mp hc.1.1
      subst hk
      rw [if_pos hc] at h'
      cases hx : x == n with
      | true => right; simp [List.lookup_cons, hx]
      | false => simp only [List.lookup_cons, hx] at h' ⊢; exact ih h'
    · rw [if_neg hc] at h'
      cases hx : x == n with
      | true => simp only [List.lookup_cons, hx] at h' ⊢; exact h'
      | false => simp only [List.lookup_cons, hx] at h' ⊢; exact ih h'
theorem lookup_relabel_own {env : Env} : ∀ {names : List (Str × NameKind)} {x : Str}, names.lookup x = some .cell →
    (names.map fun (n, k) => if (k == NameKind.free && env.scope.kind == .function && env.kindOf n == some .cell) then (n, NameKind.cell) else (n, k)).lookup x = some .cell
  | [], _, h => by simp at h
  | (n, k) :: r, x, h => by
    have ih := @lookup_relabel_own env r x
    show List.lookup x ((if (k == NameKind.free && env.scope.kind == .function && env.kindOf n == some .cell) = true then (n, NameKind.cell) else (n, k)) :: _) = _
    by_cases hc : (k == NameKind.free && env.scope.kind == .function && env.kindOf n == some .cell) = true
    · rw [if_pos hc]
      cases hx : x == n with
      | true => simp [List.lookup_cons, hx]
      | false => simp only [List.lookup_cons, hx] at h ⊢; exact ih h
    · rw [if_neg hc]
      cases hx : x == n with
      | true => simp only [List.lookup_cons, hx] at h ⊢; exact h
      | false => simp only [List.lookup_cons, hx] at h ⊢; exact ih h
theorem own_mem {names : List (Str × NameKind)} : ∀ {n : Nat} {acc : List (Str × Addr)} {x : Str} {c : Addr}, (x, c) ∈ cellsFrom n names acc → (x, .cell) ∈ names ∨ (x, c) ∈ acc := by
  induction names with
  | nil => intro n acc x c h; exact .inr h
  | cons y r ih =>
    intro n acc x c h
    obtain ⟨nm, k⟩ := y
    unfold cellsFrom at h
    split at h
    · rename_i hk
      rcases ih h with h | h
      · exact .inl (List.mem_cons_of_mem _ h)
      · rcases List.mem_cons.mp h with e | h
        · cases e
          rw [beq_iff_eq.mp hk]; exact .inl List.mem_cons_self
        · exact .inr h
    · rcases ih h with h | h
      · exact .inl (List.mem_cons_of_mem _ h)
      · exact .inr h
theorem nodup_lookup {names : List (Str × NameKind)} (nd : (names.map (·.1)).Nodup) {x : Str} {k : NameKind} (h : (x, k) ∈ names) : names.lookup x = some k := by
  induction names with
  | nil => cases h
  | cons y r ih =>
    obtain ⟨n, k'⟩ := y
    rw [List.map_cons, List.nodup_cons] at nd
    rw [List.lookup_cons]
    rcases List.mem_cons.mp h with e | hm
    · cases e; simp
    · have hne : x ≠ n := fun e => nd.1 (List.mem_map.mpr ⟨(x, k), hm, e⟩)
      have hb : (x == n) = false := by simpa using hne
      rw [hb]; exact ih nd.2 hm

noncomputable def compCx (X : Cx) (scope : Scope) (Ni : List Str) (cs : List (Str × Addr)) (s₃ : Shared) (H₃ : Hp) (fp : List Addr) (pins : List (Addr × Obj)) : Cx :=
  { X with N := Ni, s₀ := s₃, H₀ := H₃, env := compEnv scope cs s₃.heap.objs.size X.env, outer := X.stack, stack := X.stack, ex := fp, fn := fun y => decide (scope.names.lookup y = some .cell), pn := X.pn ++ pins, xe := fun _ _ => False }
set_option genInjectivity false in
set_option genSizeOf false in
structure CompScope (X : Cx) (scope : Scope) (Ni : List Str) (caps : List (Option Nat)) : Prop where
  kind : scope.kind = .function
  ndn : (scope.names.map (·.1)).Nodup
  free : ∀ y ∈ scope.names, y.2 = .free → X.env.kindOf y.1 = some .cell ∨ X.env.kindOf y.1 = some .free
  nd : Ni.Nodup
  len : caps.length = Ni.length
  cap : ∀ (i : Nat) (y : Str) (j : Nat), Ni[i]? = some y → caps[i]? = some (some j) → X.N[j]? = some y ∧ scope.names.lookup y = some .free
noncomputable def compChk (so : Scope) (No : List Str) (scope : Scope) (Ni : List Str) (caps : List (Option Nat)) : Bool :=
  (scope.kind == .function) && decide ((scope.names.map (·.1)).Nodup) && (scope.names.all fun y => y.2 != .free || so.names.lookup y.1 == some .cell || so.names.lookup y.1 == some .free) &&
  decide Ni.Nodup && (caps.length == Ni.length) && ((Ni.zip caps).all fun p => match p.2 with | none => true | some j => No[j]? == some p.1 && scope.names.lookup p.1 == some .free)
theorem compScope_of {X : Cx} {scope : Scope} {Ni : List Str} {caps : List (Option Nat)} (h : compChk X.env.scope X.N scope Ni caps = true) : CompScope X scope Ni caps := by
  unfold compChk at h
  simp only [Bool.and_eq_true] at h
  obtain ⟨⟨⟨⟨⟨h1, h2⟩, h3⟩, h4⟩, h5⟩, h6⟩ := h
  refine ⟨beq_iff_eq.mp h1, of_decide_eq_true h2, fun y hy hf => ?_, of_decide_eq_true h4, beq_iff_eq.mp h5, fun i y j e1 e2 => ?_⟩
  · have q := List.all_eq_true.mp h3 y hy
    rw [Bool.or_eq_true, Bool.or_eq_true] at q
    rcases q with (q | q) | q
    · rw [hf] at q; simp at q
    · exact .inl (beq_iff_eq.mp q)
    · exact .inr (beq_iff_eq.mp q)
  · have hm : (y, some j) ∈ Ni.zip caps := by
      refine List.mem_of_getElem? (i := i) ?_
      rw [List.getElem?_zip_eq_some]; exact ⟨e1, e2⟩
    have q := List.all_eq_true.mp h6 _ hm
    simp only [Bool.and_eq_true] at q
    exact ⟨beq_iff_eq.mp q.1, beq_iff_eq.mp q.2⟩
noncomputable def capSt (caps : List (Option Nat)) (σ : St) : St := caps.map fun o => match o with | some j => (σ[j]?).getD none | none => none
section
variable {X : Cx}
set_option genInjectivity false in
set_option genSizeOf false in
structure CompAt (X : Cx) (scope : Scope) (own cl : List (Str × Addr)) (s₃ : Shared) : Prop where
  oeq : own = cellsFrom (s₃.heap.objs.size + 1) scope.names []
  apart : own.Pairwise fun x y => x.2 ≠ y.2
  above : ∀ n c, (n, c) ∈ own → s₃.heap.objs.size + 1 ≤ c
  sub : ∀ x c, cl.lookup x = some c → X.env.cells.lookup x = some c
  all : ∀ y ∈ scope.names, y.2 = .free → cl.lookup y.1 = X.env.cells.lookup y.1
theorem CompAt.look {scope : Scope} {own cl : List (Str × Addr)} {s₃ : Shared} (T : CompAt X scope own cl s₃) {x : Str} {c : Addr} (h : (own ++ cl).lookup x = some c) : (x, c) ∈ own ∨ X.env.cells.lookup x = some c := by
  rw [lookup_app] at h
  cases e : own.lookup x with
  | some c' => rw [e] at h; cases h; exact .inl (mem_of_lookup e)
  | none => rw [e] at h; exact .inr (T.sub x c h)
theorem cells_lt {pins : List (Addr × Obj)} {σ : St} {H : Hp} {s : Shared} (I : Inv X pins σ H s) {x : Str} {c : Addr} (h : X.env.cells.lookup x = some c) : c < s.heap.objs.size := by
  obtain ⟨v, o, ho, _⟩ := I.cell x c h
  exact Heap.lt_size ho
theorem comp_ok {scope : Scope} {Ni : List Str} {caps : List (Option Nat)} {own cl : List (Str × Addr)} {pins : List (Addr × Obj)} {σ : St} {H₃ : Hp} {s₃ : Shared} {fp : List Addr}
    (S : CompScope X scope Ni caps) (T : CompAt X scope own cl s₃) (I : Inv X pins σ H₃ s₃) (f : ∀ b ∈ fp, FpOk X pins H₃ b) (hf : ∀ b ∈ fp, b < s₃.heap.objs.size) : (compCx X scope Ni (own ++ cl) s₃ H₃ fp pins).Ok where
  mod := I.ok.mod
  kind := S.kind
  glob := I.ok.glob
  blt := I.ok.blt
  above := Nat.le_refl _
  inj := fun x y c h1 h2 => by
    rcases T.look h1 with a | a
    · rcases T.look h2 with b | b
      · exact name_of_addr T.apart a b
      · exact absurd (Nat.lt_of_lt_of_le (cells_lt I b) (Nat.le_of_succ_le (T.above x c a))) (Nat.lt_irrefl _)
    · rcases T.look h2 with b | b
      · exact absurd (Nat.lt_of_lt_of_le (cells_lt I a) (Nat.le_of_succ_le (T.above y c b))) (Nat.lt_irrefl _)
      · exact I.ok.inj x y c a b
  has := fun x h => by
    have h' := lookup_relabel_cell (env := X.env) (names := scope.names) (x := x) h
    show ∃ c, (own ++ cl).lookup x = some c
    rw [lookup_app]
    cases e : own.lookup x with
    | some c => exact ⟨c, rfl⟩
    | none =>
      rcases h' with h' | h'
      · obtain ⟨c, ec⟩ := cell_has (n := s₃.heap.objs.size + 1) h'
        rw [← T.oeq, e] at ec; cases ec
      · have hm := mem_of_lookup h'
        obtain ⟨c, ec⟩ := I.ok.has x (S.free _ hm rfl)
        exact ⟨c, (T.all _ hm rfl).trans ec⟩
  cab := fun x c h1 h2 => by
    have hk : scope.names.lookup x = some .cell := of_decide_eq_true h1
    obtain ⟨c', ec⟩ := cell_has (n := s₃.heap.objs.size + 1) hk
    rw [← T.oeq] at ec
    have h2' : (own ++ cl).lookup x = some c := h2
    rw [lookup_app, ec] at h2'
    cases h2'
    have := T.above x _ (mem_of_lookup ec)
    show s₃.heap.objs.size ≤ _
    omega
  hd := I.ok.hd
  frames := I.ok.frames
  stk := .inl rfl
  exf := fun b hb => ⟨Nat.ne_of_lt (hf b hb), fun x c h => by
    rcases T.look h with a | a
    · exact fun e => absurd (Nat.lt_of_lt_of_le (hf b hb) (Nat.le_of_succ_le (e ▸ T.above x c a))) (Nat.lt_irrefl _)
    · exact (f b hb).2.2.2.2.1 x c a⟩
  bs := I.bs
  bsz := Nat.le_trans I.ok.bsz I.sz
  noex := fun b o e hb => by
    rcases (f b hb).2.2.2.1 with z | z
    · exact I.ok.noex b o e z
    · have h1 : b < X.base.objs.size := Heap.lt_size e
      have h2 := I.ok.bsz
      exact absurd (Nat.lt_of_lt_of_le h1 (Nat.le_trans h2 z)) (Nat.lt_irrefl _)
  exfs := fun b hb hm => by
    rcases List.mem_cons.mp (I.stkSub b hm) with z | z
    · exact (f b hb).2.1 z
    · exact (f b hb).2.2.1 z
  funs := I.stack
  frf := I.stkFree
theorem comp_start {scope : Scope} {Ni : List Str} {caps : List (Option Nat)} {own cl : List (Str × Addr)} {pins : List (Addr × Obj)} {σ : St} {H₃ : Hp} {s₃ s₄ : Shared} {fp : List Addr}
    (S : CompScope X scope Ni caps) (T : CompAt X scope own cl s₃) (I : Inv X pins σ H₃ s₃) (f : ∀ b ∈ fp, FpOk X pins H₃ b) (hf : ∀ b ∈ fp, b < s₃.heap.objs.size)
    (e4 : s₄ = { s₃ with heap := s₄.heap }) (k : ∀ b o, s₃.heap.get? b = some o → s₄.heap.get? b = some o) (ns : s₄.heap.Ns s₃.heap.objs.size fun _ => none) (oc : ∀ n c, (n, c) ∈ own → s₄.heap.IsCell c none) :
    Inv (compCx X scope Ni (own ++ cl) s₃ H₃ fp pins) [] (capSt caps σ) H₃ s₄ where
  ok := comp_ok S T I f hf
  os := by rw [e4]; rfl
  bare := by rw [e4]; exact I.bare
  base := Un.kept k
  loc := by
    refine ⟨_, ns, fun i x v h1 h2 h3 => ?_⟩
    have h2' : (capSt caps σ)[i]? = some (some v) := h2
    unfold capSt at h2'
    rw [List.getElem?_map] at h2'
    cases ec : caps[i]? with
    | none => rw [ec] at h2'; cases h2'
    | some o =>
      cases o with
      | none => rw [ec] at h2'; cases h2'
      | some j =>
        rw [ec] at h2'
        have h2'' : (σ[j]?).getD none = some v := Option.some.inj h2'
        have hj : σ[j]? = some (some v) := by
          cases e : σ[j]? with
          | none => rw [e] at h2''; cases h2''
          | some z => rw [e] at h2''; exact congrArg some h2''
        obtain ⟨hN, hfr⟩ := S.cap i x j h1 ec
        have hm := mem_of_lookup hfr
        have hk := S.free _ hm rfl
        obtain ⟨m, _, hl⟩ := I.loc
        obtain ⟨u, r, l⟩ := hl j x v hN hj (by rcases hk with z | z; exact .inr (.inl z); exact .inr (.inr z))
        refine ⟨u, r, .inr ⟨lookup_relabel_free hfr, ?_⟩⟩
        rcases l with ⟨z, _⟩ | ⟨_, c, hc, q⟩
        · have z' : X.env.kindOf x = some .local := z
          rcases hk with y | y <;> (have y' : X.env.kindOf x = _ := y; rw [z'] at y'; cases y')
        · refine ⟨c, ?_, q.keeps k⟩
          show (own ++ cl).lookup x = some c
          rw [lookup_app]
          cases eo : own.lookup x with
          | some c' =>
            rw [T.oeq] at eo
            rcases own_mem (mem_of_lookup eo) with y | y
            · have := nodup_lookup S.ndn y
              rw [hfr] at this; cases this
            · cases y
          | none => exact (T.all _ hm rfl).trans hc
  cell := fun x c h => by
    rcases T.look h with a | a
    · exact ⟨_, oc x c a⟩
    · obtain ⟨v, q⟩ := I.cell x c a
      exact ⟨v, q.keeps k⟩
  free := I.hok.fresh (Nat.le_refl _)
  freeC := fun x c h => by
    rcases T.look h with a | a
    · exact I.hok.fresh (by have := T.above x c a; omega)
    · exact I.freeC x c a
  pin := fun p hp => by
    have hp' : p ∈ X.pn ++ pins := by
      have : p ∈ (X.pn ++ pins) ++ [] := hp
      simpa using this
    obtain ⟨h1, h2, h3, h4, h5⟩ := I.pin p hp'
    refine ⟨k _ _ h1, h2, Nat.ne_of_lt (Heap.lt_size h1), fun z => ?_, h5⟩
    rcases List.mem_cons.mp (I.stkSub _ z) with y | y
    · exact h3 y
    · exact h4 y
  hok := I.hok.kept k
  len := by
    show (capSt caps σ).length = Ni.length
    unfold capSt; rw [List.length_map]; exact S.len
theorem comp_end {scope : Scope} {Ni : List Str} {cs : List (Str × Addr)} {pins : List (Addr × Obj)} {σ σ' : St} {H₃ H' : Hp} {s₃ s' : Shared} {fp : List Addr} (I : Inv X pins σ H₃ s₃) (f : ∀ b ∈ fp, FpOk X pins H₃ b)
    (J : Inv (compCx X scope Ni cs s₃ H₃ fp pins) [] σ' H' s') : Inv X pins σ H' s' := by
  have u : Un (frs X.stack) fp H₃ H' s₃.heap s'.heap := J.base
  have q := I.call (g' := s'.gens) (t' := s'.toks) (d' := s'.drawn) (ch := fp) u J.hok J.bare fun b hb => ⟨(f b hb).2.2.2.1, (f b hb).2.1, (f b hb).2.2.2.2.1, (f b hb).2.2.2.2.2⟩
  have e : ({ s₃ with heap := s'.heap, gens := s'.gens, drawn := s'.drawn, toks := s'.toks } : Shared) = s' := by
    have h1 : s'.os = s₃.os := J.os
    cases s'; cases s₃
    simp only at h1
    subst h1; rfl
  rw [e] at q
  exact q
noncomputable def PF (Y : Cx) (ifs : List Expr) (t : TT) : Prop := ∀ (pins : List (Addr × Obj)) (s : Shared) (σ : St) (H : Hp) (Q : Bool → Hp → Prop), Inv Y pins σ H s → t σ H Q →
  wpAny (model Y.prog Y.w) Y.A (forIn ifs true fun c r => if r = true then do let ok ← isTrue c Y.env (eval c Y.env); pure (ForInStep.yield ok) else pure (ForInStep.yield r)) (TP Y pins σ Q) Y.xe s
noncomputable abbrev tYes : TT := fun _ H T => T true H
theorem pf_nil {Y : Cx} : PF Y [] tYes := fun pins s σ H Q I h => wpAny_tests_nil ⟨H, I, h⟩
noncomputable def tComp (wi : TI) (caps : List (Option Nat)) (g : TG) (tf : TT) (te : TE) : TE := fun σ H Q => wi σ H fun J H1 => ∀ D, H1 D = none →
  ∃ W : Nat → Nat → St → Hp → Prop, (∃ m, W 0 m (capSt caps σ) (upd H1 D (.lst []))) ∧ ∀ i m σ' H', W i m σ' H' →
    (J.stop i H' ∧ Q (.ref D) H') ∨ (J.go i H' ∧ ∃ N : St → Hp → Prop, (∀ σ2 H2, N σ2 H2 → ∃ m', m' < m ∧ W (i + 1) m' σ2 H2) ∧
      ∀ x H2, J.yld i H' x H2 → g x σ' H2 fun σ1 H3 => tf σ1 H3 fun b H4 => if b = true then te σ1 H4 fun v H5 => rAppend (.ref D) [v] H5 fun _ H6 => N σ1 H6 else N σ1 H4)

theorem compLoop_own {P : Program} {w : World} {A : Around} {R : Result → Shared → Prop} {s0 : Shared} {elt tg iter : Expr} {tests : List Expr} {sc : Scope} {ps : Pos} {itv acc : Value} {en : Env} (J : Nat → Shared → Prop)
    (turn : ∀ n s, J n s → wpAny (model P w) A (pyNext itv) (fun r s1 => match r with | none => R (.ok .next) s1 | some v => wpAny (model P w) A (letOwnedTupleGo tg itv v) (fun _ s1' => wpAny (model P w) A (assign tg en v) (fun _ s2 =>
      wpAny (model P w) A (forIn tests true fun c r => if r = true then do let ok ← isTrue c en (eval c en); pure (ForInStep.yield ok) else pure (ForInStep.yield r)) (fun ok s3 => if ok = true then wpAny (model P w) A (eval elt en) (fun x s4 =>
        wpAny (model P w) A (call (.builtin "list.append") [acc, x]) (fun _ s5 => ∃ m, m < n ∧ J m s5) (notedBy (model P w) A en fun e s' => R (.error e) s') s4) (notedBy (model P w) A en fun e s' => R (.error e) s') s3
          else ∃ m, m < n ∧ J m s3) (notedBy (model P w) A en fun e s' => R (.error e) s') s2) (notedBy (model P w) A en fun e s' => R (.error e) s') s1') (notedBy (model P w) A en fun e s' => R (.error e) s') s1) (notedBy (model P w) A en fun e s' => R (.error e) s') s)
    (n0 : Nat) (j0 : J n0 s0) : codeAny (model P w) A (.compLoop (.ListComp elt [⟨tg, iter, tests, 0⟩] sc ps) 0 itv acc en) R s0 := by
  refine codeAny_loop rfl J (fun n s hJ => ?_) n0 j0
  show wpAny _ A ((compTurn (.ListComp elt [⟨tg, iter, tests, 0⟩] sc ps) 0 itv acc en).onRaise (fun x => do noteFrame x en; theTreesLotGoes x)) _ _ s
  refine wpAny_noted ?_
  rw [compTurn_list]
  refine wpAny_bind (wpAny_standAt (wpAny_bind (wpAny_mono (turn n s hJ) (fun r s1 h1 => ?_) fun _ _ z => z)))
  cases r with
  | none => exact wpAny_pure h1
  | some v =>
    refine wpAny_bind (wpAny_mono h1 (fun _ s1' h1' => wpAny_bind (wpAny_mono h1' (fun _ s2 h2 => wpAny_bind (wpAny_mono h2 (fun ok s3 h3 => ?_) fun _ _ z => z)) fun _ _ z => z)) fun _ _ z => z)
    cases ok with
    | false => exact wpAny_pure ⟨rfl, h3⟩
    | true =>
      exact wpAny_bind (wpAny_bind (wpAny_mono h3 (fun x s4 h4 => wpAny_bind (wpAny_mono h4 (fun _ s5 h5 => wpAny_pure (wpAny_pure ⟨rfl, h5⟩)) fun _ _ z => z)) fun _ _ z => z))
theorem comp_loop {Y : Cx} {elt iter : Expr} {tg : Expr} {ifs : List Expr} {scope : Scope} {pos : Pos} {it D : Addr} {fp : List Addr} {tn : Nat → Heap → Prop} {J : It} {g : TG} {tf : TT} {te : TE} {Q : VK} {R : Result → Shared → Prop}
    (T : Turn Y.prog Y.w Y.K tg J fp it tn) (hc : Y.calm = true) (gY : PG Y tg g) (hF : PF Y ifs tf) (hE : PE Y elt te) (fpY : ∀ {H' : Hp}, (∀ b ∈ fp, H' b = none) → ∀ b ∈ fp, FpOk Y [] H' b) (hx : ∀ e s, ¬ Y.xe e s)
    {W : Nat → Nat → St → Hp → Prop} (turn : ∀ i m σ' H', W i m σ' H' →
      (J.stop i H' ∧ Q (.ref D) H') ∨ (J.go i H' ∧ ∃ N : St → Hp → Prop, (∀ σ2 H2, N σ2 H2 → ∃ m', m' < m ∧ W (i + 1) m' σ2 H2) ∧
        ∀ x H2, J.yld i H' x H2 → g x σ' H2 fun σ1 H3 => tf σ1 H3 fun b H4 => if b = true then te σ1 H4 fun v H5 => rAppend (.ref D) [v] H5 fun _ H6 => N σ1 H6 else N σ1 H4))
    (fin : ∀ σ' H' s', Inv Y [] σ' H' s' → Q (.ref D) H' → R (.ok .next) s') {m0 : Nat} {σ0 : St} {H0 : Hp} {s0 : Shared} (I0 : Inv Y [] σ0 H0 s0) (st0 : tn 0 s0.heap) (fr0 : ∀ b ∈ fp, H0 b = none) (w0 : W 0 m0 σ0 H0) :
    codeAny (model Y.prog Y.w) Y.A (.compLoop (.ListComp elt [⟨tg, iter, ifs, 0⟩] scope pos) 0 (.ref it) (.ref D) Y.env) R s0 := by
  refine compLoop_own (fun n s' => ∃ i σ' H', Inv Y [] σ' H' s' ∧ tn i s'.heap ∧ (∀ b ∈ fp, H' b = none) ∧ W i n σ' H') ?_ m0 ⟨0, _, _, I0, st0, fr0, w0⟩
  rintro n s5 ⟨i, σ5, H5, I5, st5, fr5, w5⟩
  have noE : ∀ {α : Type} {t : Sem α} {Q1 : α → Shared → Prop} {E2 : Value → Shared → Prop} {s1 : Shared}, wpAny (model Y.prog Y.w) Y.A t Q1 Y.xe s1 → wpAny (model Y.prog Y.w) Y.A t Q1 E2 s1 :=
    fun h => wpAny_mono h (fun _ _ q => q) fun e s z => (hx e s z).elim
  rcases turn i n σ5 H5 w5 with ⟨stop, qn⟩ | ⟨go, N, hN, step⟩
  · refine thn (T.done Y rfl rfl rfl hc i [] s5 σ5 H5 _ I5 (fpY fr5) st5 stop) fun r s6 ⟨hr, I6⟩ => ?_
    subst hr
    exact fin σ5 H5 s6 I6 qn
  · refine thn (T.item Y rfl rfl rfl hc i [] s5 σ5 H5 _ I5 (fpY fr5) st5 go) fun r s6 ⟨u, hr, h6⟩ => ?_
    subst hr
    refine thn h6 fun _ s7 zz => ?_
    obtain ⟨x7, H7, I7, r7, y7, st7, fr7⟩ := zz
    have I7' := I7.pinned (fpY fr7) (T.obj _ _ st7)
    have again : ∀ {σ9 : St} {H9 : Hp} {s9 : Shared}, Inv Y ([] ++ pinsAt fp s7.heap) σ9 H9 s9 → N σ9 H9 → ∃ m, m < n ∧ ∃ i σ' H', Inv Y [] σ' H' s9 ∧ tn i s9.heap ∧ (∀ b ∈ fp, H' b = none) ∧ W i m σ' H' := fun {σ9 H9 s9} I9 n9 => by
      obtain ⟨m', hm, w9⟩ := hN σ9 H9 n9
      refine ⟨m', hm, i + 1, σ9, H9, I9.unpinned, T.keep _ _ _ st7 fun b hb o e => (I9.pin (b, o) (List.mem_append_right _ (List.mem_append_right _ (mem_pinsAt hb e)))).1, fun b hb => ?_, w9⟩
      obtain ⟨o, e, d⟩ := T.obj _ _ st7 b hb
      exact (I9.pin (b, o) (List.mem_append_right _ (List.mem_append_right _ (mem_pinsAt hb e)))).2.1
    refine noE (thn (gY _ s7 σ5 H7 x7 u _ I7' r7 (step x7 _ y7)) fun _ s8 zz => ?_)
    obtain ⟨σ8, H8, I8, q8⟩ := zz
    refine noE (thn (hF _ s8 _ _ _ I8 q8) fun b s9 ⟨H9, I9, q9⟩ => ?_)
    cases b with
    | false => exact again I9 q9
    | true =>
      refine noE (thn (hE _ s9 _ _ _ I9 q9) fun y s10 zz => ?_)
      obtain ⟨v10, H10, I10, r10, q10⟩ := zz
      refine noE (thn (mt_append (X := Y) _ s10 _ _ (.ref D) [v10] (.ref D) [y] _ I10 rfl (.cons r10 .nil) q10) fun _ s11 zz => ?_)
      obtain ⟨v11, H11, I11, _, q11⟩ := zz
      exact again I11 q11
theorem pg_nameC {scope : Scope} {Ni : List Str} {caps : List (Option Nat)} {x : Str} {px : Pos} {gi : Nat} {cs : List (Str × Addr)} {s₃ : Shared} {H₃ : Hp} {fp : List Addr} {pins : List (Addr × Obj)}
    (S : CompScope X scope Ni caps) (hx : scope.names.lookup x = some .local ∨ scope.names.lookup x = some .cell) (hgi : Ni[gi]? = some x) : PG (compCx X scope Ni cs s₃ H₃ fp pins) (.Name x px) (gName gi) := by
  rcases hx with hx | hx
  · exact pg_name S.nd hgi (.inl (lookup_relabel_local hx)) (.inr (lookup_relabel_local hx))
  · refine pg_name S.nd hgi ?_ (.inl (decide_eq_true hx))
    have : (relabel scope X.env).names.lookup x = some .cell := lookup_relabel_own hx
    exact .inr this
theorem comp_core {elt iter : Expr} {tg : Expr} {ifs : List Expr} {scope : Scope} {pos pos' : Pos} {wi : TI} {Ni : List Str} {caps : List (Option Nat)} {g : TG} {tf : TT} {te : TE}
    (hc : X.calm = true) (hi : PI X tg iter wi) (S : CompScope X scope Ni caps) (hG : CompScope X scope Ni caps → ∀ cs s₃ H₃ fp pins, PG (compCx X scope Ni cs s₃ H₃ fp pins) tg g)
    (hF : ∀ cs s₃ H₃ fp pins, PF (compCx X scope Ni cs s₃ H₃ fp pins) ifs tf) (hE : ∀ cs s₃ H₃ fp pins, PE (compCx X scope Ni cs s₃ H₃ fp pins) elt te)
    (hs : ∀ x, foldedSetIterable iter X.env x = pure x)
    {pins : List (Addr × Obj)} {s : Shared} {σ : St} {H : Hp} {Q : VK} (I : Inv X pins σ H s) (h : tComp wi caps g tf te σ H Q) {use : Option (Value → Sem Unit)} {R : Value → Shared → Prop}
    (fin : ∀ (D C : Addr) (H' : Hp) (s' : Shared) (m : Str → Option Value), Inv X pins σ H' s' → Q (.ref D) H' → s'.heap.Ns C m → H' C = none → X.s₀.heap.objs.size ≤ C → C ≠ X.env.locals → (∀ y c, X.env.cells.lookup y = some c → c ≠ C) → (∀ p ∈ X.pn ++ pins, p.1 ≠ C) →
      compPost (model X.prog X.w) X.A X.xe use R (.ref D) C (.ok .next) s') :
    wpAny (model X.prog X.w) X.A (comprehension (.ListComp elt [⟨tg, iter, ifs, 0⟩] scope pos) scope X.env pos' (newList []) false (eval iter X.env) use) R X.xe s := by
  obtain ⟨cl, hcl, hsub, hall⟩ := closureFor_all (env := X.env) (scope := scope) fun y hy hf => I.ok.has y.1 (S.free y hy hf)
  refine wpAny_comprehension_free rfl hs hcl S.kind (fun y hy hl => by obtain ⟨n, k⟩ := y; cases hl; exact nodup_lookup S.ndn hy) (thn (hi pins s σ H _ I h) fun v s1 h1 => thn h1 fun itv s2 h2 => ?_)
  obtain ⟨it, fp, tn, J, H2, e, I2, T, st2, f2, hW⟩ := h2
  subst e
  have I3 : Inv X pins σ (upd H2 s2.heap.objs.size (.lst [])) { s2 with heap := s2.heap.push { cls := .type "list", dict := none, data := .seq ([] : List Value).toArray }, toks := s2.toks } :=
    I2.laid (fun b u e => Heap.get?_push_of_some _ e) (Nat.le_refl _) ⟨Nat.zero_le _, [], _, .nil, Heap.get?_push_size _ rfl⟩
  have hD : H2 s2.heap.objs.size = none := I2.hok.fresh (Nat.le_refl _)
  obtain ⟨W, ⟨m0, w0⟩, turn⟩ := hW s2.heap.objs.size hD
  have st3 : tn 0 (s2.heap.push { cls := .type "list", dict := none, data := .seq ([] : List Value).toArray }) := T.keep _ _ _ st2 fun b _ o e => Heap.get?_push_of_some _ e
  have f3 : ∀ b ∈ fp, FpOk X pins (upd H2 s2.heap.objs.size (.lst [])) b := fun b hb => by
    obtain ⟨o, e, _⟩ := T.obj _ _ st2 b hb
    exact ⟨by rw [upd_ne (Nat.ne_of_lt (Heap.lt_size e))]; exact (f2 b hb).1, (f2 b hb).2⟩
  refine wpAny_newObj_type ?_
  generalize hs3 : ({ s2 with heap := s2.heap.push { cls := .type "list", dict := none, data := .seq ([] : List Value).toArray }, toks := s2.toks } : Shared) = s3 at I3
  have eh : s2.heap.push { cls := .type "list", dict := none, data := .seq ([] : List Value).toArray } = s3.heap := by rw [← hs3]
  rw [eh] at st3
  have hf3 : ∀ b ∈ fp, b < s3.heap.objs.size := fun b hb => by
    obtain ⟨o, e, _⟩ := T.obj _ _ st3 b hb
    exact Heap.lt_size e
  refine wpAny_compEnv fun own s4 eo e4 k4 ns4 oc4 ap4 => ?_
  have T4 : CompAt X scope own cl s3 := ⟨eo, ap4, fun n c hm => (oc4 n c hm).2, hsub, hall⟩
  have I4 := comp_start (Ni := Ni) (caps := caps) S T4 I3 f3 hf3 e4 k4 ns4 fun n c hm => (oc4 n c hm).1
  have st4 : tn 0 s4.heap := T.keep _ _ _ st3 fun b _ o e => k4 b o e
  have fpY : ∀ {H' : Hp}, (∀ b ∈ fp, H' b = none) → ∀ b ∈ fp, FpOk (compCx X scope Ni (own ++ cl) s3 (upd H2 s2.heap.objs.size (.lst [])) fp pins) [] H' b := fun hn b hb =>
    ⟨hn b hb, Nat.ne_of_lt (hf3 b hb), I4.ok.exfs b hb, .inl hb, (I4.ok.exf b hb).2, fun p hp => by
      have hp' : p ∈ X.pn ++ pins := by
        have : p ∈ (X.pn ++ pins) ++ [] := hp
        simpa using this
      exact (f3 b hb).2.2.2.2.2 p hp'⟩
  have loop := comp_loop (Q := Q) (elt := elt) (iter := iter) (scope := scope) (pos := pos) (R := compPost (model X.prog X.w) X.A X.xe use R (.ref s2.heap.objs.size) s3.heap.objs.size) (Y := compCx X scope Ni (own ++ cl) s3 (upd H2 s2.heap.objs.size (.lst [])) fp pins)
    T hc (hG S _ _ _ _ _) (hF _ _ _ _ _) (hE _ _ _ _ _) fpY (fun _ _ z => z) turn (fun σ' H' s' I6 qn => by
      have I6' := comp_end I3 f3 I6
      obtain ⟨m6, ns6, _⟩ := I6.loc
      exact fin _ _ H' s' m6 I6' qn ns6 I6.free I3.sz (Nat.ne_of_gt I3.lt) (fun y c hc' => Nat.ne_of_lt (cells_lt I3 hc')) fun p hp => Nat.ne_of_lt (Heap.lt_size (I3.pin p hp).1)) I4 st4 (fun b hb => (f3 b hb).1) w0
  exact codeAny_compStart_list loop (T.self _ _ _ _ _ st4 loop)
theorem pe_comp {elt iter : Expr} {tg : Expr} {ifs : List Expr} {scope : Scope} {pos : Pos} {wi : TI} {Ni : List Str} {caps : List (Option Nat)} {g : TG} {tf : TT} {te : TE}
    (hc : X.calm = true) (hi : PI X tg iter wi) (S : CompScope X scope Ni caps) (hG : CompScope X scope Ni caps → ∀ cs s₃ H₃ fp pins, PG (compCx X scope Ni cs s₃ H₃ fp pins) tg g)
    (hF : ∀ cs s₃ H₃ fp pins, PF (compCx X scope Ni cs s₃ H₃ fp pins) ifs tf) (hE : ∀ cs s₃ H₃ fp pins, PE (compCx X scope Ni cs s₃ H₃ fp pins) elt te)
    (hs : autoParam (∀ x, foldedSetIterable iter X.env x = pure x) Internal.aut3._auto_1) : PE X (.ListComp elt [⟨tg, iter, ifs, 0⟩] scope pos) (tComp wi caps g tf te) := by
  intro pins s σ H Q I h
  rw [eval_ListComp]
  refine comp_core hc hi S hG hF hE hs I h fun D C H' s' m I' q ns hn hC h1 h2 h3 => ?_
  refine ⟨m, ns, fun h' sb => ?_⟩
  exact ⟨.ref D, H', I'.turned (t' := s'.toks) (it := C) (fun b o hb e => (sb.2 b hb).trans e) hn h1 (.inr hC) h2 h3, rfl, q⟩
theorem ps_setC {i : Nat} {y : Str} {py : Pos} {elt iter : Expr} {tg : Expr} {ifs : List Expr} {scope : Scope} {pos spos : Pos} {wi : TI} {Ni : List Str} {caps : List (Option Nat)} {g : TG} {tf : TT} {te : TE}
    (hN : X.N.Nodup) (hyi : X.N[i]? = some y) (hy : X.env.scope.names.lookup y = some .local) (hc : X.calm = true) (hi : PI X tg iter wi) (S : CompScope X scope Ni caps) (hG : CompScope X scope Ni caps → ∀ cs s₃ H₃ fp pins, PG (compCx X scope Ni cs s₃ H₃ fp pins) tg g)
    (hF : ∀ cs s₃ H₃ fp pins, PF (compCx X scope Ni cs s₃ H₃ fp pins) ifs tf) (hE : ∀ cs s₃ H₃ fp pins, PE (compCx X scope Ni cs s₃ H₃ fp pins) elt te)
    (hsw : autoParam (swapsWith (.ListComp elt [⟨tg, iter, ifs, 0⟩] scope pos) (some (.Name y py)) spos.line X.env = pure true) Internal.aut2._auto_1)
    (hs : autoParam (∀ x, foldedSetIterable iter X.env x = pure x) Internal.aut3._auto_1) : PS X (.Assign [.Name y py] (.ListComp elt [⟨tg, iter, ifs, 0⟩] scope pos) spos) (tAsg (tComp wi caps g tf te) (gName i)) := by
  intro pins s σ H D I h
  rw [exec_Assign_Name_used _ _ _ _ hsw]
  refine wpAny_bind (wpAny_standAt (wpAny_bind ?_))
  show wpAny _ X.A (do let _ ← comprehension (.ListComp elt [⟨tg, iter, ifs, 0⟩] scope pos) scope X.env _ (newList []) false (eval iter X.env) (some (assign (.Name y py) X.env))) _ _ s
  refine wpAny_bind (wpAny_mono (comp_core (R := fun _ s' => SP X pins D .next s') hc hi S hG hF hE hs I h fun L C H' s' m I' q ns hn hC h1 h2 h3 => ?_) (fun _ s' hq => wpAny_pure (wpAny_pure hq)) fun _ _ e => e)
  show wpAny _ X.A (assign (.Name y py) X.env (.ref L)) _ _ _
  refine wpAny_assign_Name (store_ok2 (v := .ref L) I' hN hyi (.inl hy) rfl (fun s2 I2 sb2 => ?_) (.inr hy))
  obtain ⟨a, sb, ha⟩ := sb2
  have hCa : C ≠ a := by
    rcases ha with z | z
    · rw [z]; exact h1
    · exact fun w' => h2 y a z w'.symm
  refine ⟨m, ns.sameBut sb hCa, fun h' sb' => ?_⟩
  exact ⟨_, H', I2.turned (t' := s2.toks) (it := C) (fun b o hb e => (sb'.2 b hb).trans e) hn h1 (.inr hC) h2 h3, q⟩
end
end Internal

namespace My
noncomputable def gc (a b : Int) : Int := (Int.gcd a b : Int)
theorem gc_nonneg (a b : Int) : 0 ≤ gc a b := Int.natCast_nonneg _
theorem gc_comm (a b : Int) : gc a b = gc b a := by unfold gc; rw [Int.gcd_comm]
theorem gc_dvd_left (a b : Int) : gc a b ∣ a := Int.gcd_dvd_left a b
theorem gc_dvd_right (a b : Int) : gc a b ∣ b := Int.gcd_dvd_right a b
theorem dvd_gc {k a b : Int} (h1 : k ∣ a) (h2 : k ∣ b) : k ∣ gc a b := Int.dvd_coe_gcd h1 h2
theorem gc_pos_right {a b : Int} (h : b ≠ 0) : 0 < gc a b := by
  have := Int.gcd_pos_of_ne_zero_right a h
  unfold gc; omega
theorem gc_pos_left {a b : Int} (h : a ≠ 0) : 0 < gc a b := by rw [gc_comm]; exact gc_pos_right h
theorem gc_zero_right {a : Int} (h : 0 ≤ a) : gc a 0 = a := by unfold gc; rw [Int.gcd_zero_right]; omega
theorem gc_abs (a b : Int) : gc (if a < 0 then -a else a) (if b < 0 then -b else b) = gc a b := by
  unfold gc; split <;> split <;> simp [Int.gcd]
theorem gc_step {a b : Int} : gc b (a % b) = gc a b := by
  rw [gc_comm a b]
  refine Int.dvd_antisymm (gc_nonneg _ _) (gc_nonneg _ _) ?_ ?_
  · refine dvd_gc (gc_dvd_left b (a % b)) ?_
    have e : a = b * (a / b) + a % b := (Int.mul_ediv_add_emod a b).symm
    have := Int.dvd_add (Int.dvd_mul_of_dvd_left (c := a / b) (gc_dvd_left b (a % b))) (gc_dvd_right b (a % b))
    rwa [← e] at this
  · refine dvd_gc (gc_dvd_left b a) ?_
    rw [Int.emod_def]
    exact Int.dvd_sub (gc_dvd_right b a) (Int.dvd_mul_of_dvd_left (gc_dvd_left b a))
theorem gc_one {a b : Int} (h : ∀ c, c ∣ a → c ∣ b → c ∣ 1) : gc a b = 1 := by
  unfold gc; rw [Int.gcd_eq_one_iff.mpr h]; rfl
theorem gc_one' {a b : Int} (h : gc a b = 1) {c : Int} (h1 : c ∣ a) (h2 : c ∣ b) : c ∣ 1 := h ▸ dvd_gc h1 h2
theorem gc_one_nat {a b : Int} (h : gc a b = 1) : a.gcd b = 1 := by unfold gc at h; omega
theorem gc_of_nat {a b : Int} (h : a.gcd b = 1) : gc a b = 1 := by unfold gc; omega
theorem low_unique {x y : Int} {q : Rat} (hy : 0 < y) (hg : gc x y = 1) (e : Rat.divInt x y = q) : x = q.num ∧ y = (q.den : Int) := by
  obtain ⟨d, rfl⟩ := Int.eq_ofNat_of_zero_le (Int.le_of_lt hy)
  have hc : x.natAbs.Coprime d := by
    have := gc_one_nat hg
    rw [Int.gcd_eq_natAbs_gcd_natAbs] at this
    exact this
  have hd : d ≠ 0 := by omega
  have : Rat.mk' x d hd hc = q := by rw [Rat.mk_eq_divInt]; exact e
  subst this
  exact ⟨rfl, rfl⟩
theorem rat_low (q : Rat) : gc q.num (q.den : Int) = 1 := by
  refine gc_of_nat ?_
  rw [Int.gcd_eq_natAbs_gcd_natAbs]
  exact q.reduced
theorem rat_den_pos (q : Rat) : 0 < (q.den : Int) := by have := q.den_nz; omega
theorem rat_self (q : Rat) : Rat.divInt q.num (q.den : Int) = q := Rat.num_divInt_den q
theorem gc_div {a b : Int} (h : b ≠ 0) : gc (a / gc a b) (b / gc a b) = 1 := by
  have hp := gc_pos_right (a := a) h
  unfold gc
  have := Int.gcd_ediv (a := a) (b := b) (c := (a.gcd b : Int)) (gc_dvd_left a b) (gc_dvd_right a b)
  rw [this]
  have hp' : 0 < a.gcd b := by unfold gc at hp; omega
  rw [Int.natAbs_natCast, Nat.div_self hp']; rfl
theorem divInt_reduce {a b c : Int} (hb : b ≠ 0) (ha : c ∣ a) (hc : c ∣ b) : Rat.divInt (a / c) (b / c) = Rat.divInt a b := by
  obtain ⟨x, rfl⟩ := ha
  obtain ⟨y, rfl⟩ := hc
  have hc0 : c ≠ 0 := by rintro rfl; simp at hb
  rw [Int.mul_ediv_cancel_left _ hc0, Int.mul_ediv_cancel_left _ hc0, Rat.divInt_mul_left hc0]
theorem part_pos {t b : Int} (hb : 0 < b) : t / gc t b = (Rat.divInt t b).num ∧ b / gc t b = ((Rat.divInt t b).den : Int) := by
  have hp := gc_pos_right (a := t) (b := b) (by omega)
  refine low_unique ?_ (gc_div (by omega)) (divInt_reduce (by omega) (gc_dvd_left _ _) (gc_dvd_right _ _))
  exact Int.ediv_pos_of_pos_of_dvd hb (by omega) (gc_dvd_right _ _)
theorem gc_mul_left {a b m : Int} (h1 : gc a m = 1) (h2 : gc b m = 1) : gc (a * b) m = 1 := by
  refine gc_of_nat ?_
  rw [Int.gcd_mul_right_left_of_gcd_eq_one (gc_one_nat h1)]
  exact gc_one_nat h2
theorem gc_mul_right {a b m : Int} (h1 : gc m a = 1) (h2 : gc m b = 1) : gc m (a * b) = 1 := by
  rw [gc_comm] at *; exact gc_mul_left h1 h2
theorem gc_dvd_one {a b m : Int} (h : gc b m = 1) (d : a ∣ b) : gc a m = 1 :=
  gc_one fun _ h1 h2 => gc_one' h (Int.dvd_trans h1 d) h2
theorem gc_dvd_one_right {a b m : Int} (h : gc m b = 1) (d : a ∣ b) : gc m a = 1 := by
  rw [gc_comm] at *; exact gc_dvd_one h d
theorem gc_add_mul (m n k : Int) : gc (n + k * m) m = gc n m := by
  rw [gc_comm, gc_comm n m]; unfold gc; rw [Int.gcd_add_mul_right_right]
theorem plus_low {a1 b1 a2 b2 : Int} (h1 : 0 < b1) (h2 : 0 < b2) (g1 : gc a1 b1 = 1) (g2 : gc a2 b2 = 1) :
    let s := gc b1 b2
    let t := a1 * (b2 / s) + a2 * (b1 / s)
    let c := gc t s
    0 < (b1 / s) * (b2 / c) ∧ gc (t / c) ((b1 / s) * (b2 / c)) = 1 ∧ Rat.divInt (t / c) ((b1 / s) * (b2 / c)) = Rat.divInt a1 b1 + Rat.divInt a2 b2 := by
  intro s t c
  have hs : 0 < s := gc_pos_left (by omega)
  obtain ⟨u, hu⟩ := gc_dvd_left b1 b2
  obtain ⟨v, hv⟩ := gc_dvd_right b1 b2
  have eu : b1 / s = u := by rw [show b1 = s * u from hu]; exact Int.mul_ediv_cancel_left _ (by omega)
  have ev : b2 / s = v := by rw [show b2 = s * v from hv]; exact Int.mul_ediv_cancel_left _ (by omega)
  have hu' : b1 = s * u := hu
  have hv' : b2 = s * v := hv
  have guv : gc u v = 1 := by
    have := gc_div (a := b1) (b := b2) (by omega)
    change gc (b1 / s) (b2 / s) = 1 at this
    rwa [eu, ev] at this
  have upos : 0 < u := by
    rcases Int.lt_or_le 0 u with h | h
    · exact h
    · have := Int.mul_nonpos_of_nonneg_of_nonpos (Int.le_of_lt hs) h; omega
  have vpos : 0 < v := by
    rcases Int.lt_or_le 0 v with h | h
    · exact h
    · have := Int.mul_nonpos_of_nonneg_of_nonpos (Int.le_of_lt hs) h; omega
  have et : t = a1 * v + a2 * u := by show a1 * (b2 / s) + a2 * (b1 / s) = _; rw [eu, ev]
  have hc : 0 < c := gc_pos_right (by omega)
  obtain ⟨x, hx⟩ := gc_dvd_left t s
  obtain ⟨w, hw⟩ := gc_dvd_right t s
  have hx' : t = c * x := hx
  have hw' : s = c * w := hw
  have ex : t / c = x := by rw [hx']; exact Int.mul_ediv_cancel_left _ (by omega)
  have wpos : 0 < w := by
    rcases Int.lt_or_le 0 w with h | h
    · exact h
    · have := Int.mul_nonpos_of_nonneg_of_nonpos (Int.le_of_lt hc) h; omega
  have eb : b2 / c = w * v := by rw [hv', hw', Int.mul_assoc]; exact Int.mul_ediv_cancel_left _ (by omega)
  have gxw : gc x w = 1 := by
    have := gc_div (a := t) (b := s) (by omega)
    change gc (t / c) (s / c) = 1 at this
    rw [ex, show s / c = w by rw [hw']; exact Int.mul_ediv_cancel_left _ (by omega)] at this
    exact this
  have xt : x ∣ t := ⟨c, by rw [hx', Int.mul_comm]⟩
  have gtu : gc t u = 1 := by
    rw [et, gc_add_mul]
    exact gc_mul_left (gc_dvd_one_right g1 ⟨s, by rw [hu', Int.mul_comm]⟩) (by rw [gc_comm]; exact guv)
  have gtv : gc t v = 1 := by
    rw [et, Int.add_comm, gc_add_mul]
    exact gc_mul_left (gc_dvd_one_right g2 ⟨s, by rw [hv', Int.mul_comm]⟩) guv
  rw [ex, eu, eb]
  refine ⟨Int.mul_pos upos (Int.mul_pos wpos vpos), ?_, ?_⟩
  · exact gc_mul_right (gc_dvd_one gtu xt) (gc_mul_right gxw (gc_dvd_one gtv xt))
  · rw [Rat.divInt_add_divInt _ _ (by omega) (by omega)]
    have sc : s * c ≠ 0 := Int.ne_of_gt (Int.mul_pos hs hc)
    rw [← Rat.divInt_mul_left (n := x) (d := u * (w * v)) sc]
    have e1 : s * c * x = a1 * b2 + a2 * b1 := by
      have : s * c * x = s * (c * x) := by rw [Int.mul_assoc]
      rw [this, ← hx', et, hu', hv', Int.mul_add]
      rw [Int.mul_left_comm s a1 v, Int.mul_left_comm s a2 u]
    have e2 : s * c * (u * (w * v)) = b1 * b2 := by
      have : b1 * b2 = s * u * (c * w * v) := by rw [hu', hv', ← hw']
      rw [this]; simp only [Int.mul_assoc, Int.mul_left_comm, Int.mul_comm]
    rw [e1, e2]
theorem times_low {a1 b1 a2 b2 : Int} (h1 : 0 < b1) (h2 : 0 < b2) (g1 : gc a1 b1 = 1) (g2 : gc a2 b2 = 1) :
    let d := gc a1 b2
    let x := gc a2 b1
    0 < (b1 / x) * (b2 / d) ∧ gc ((a1 / d) * (a2 / x)) ((b1 / x) * (b2 / d)) = 1 ∧ Rat.divInt ((a1 / d) * (a2 / x)) ((b1 / x) * (b2 / d)) = Rat.divInt a1 b1 * Rat.divInt a2 b2 := by
  intro d x
  have hd : 0 < d := gc_pos_right (by omega)
  have hx : 0 < x := gc_pos_right (by omega)
  have k1 : gc (a1 / d) (b2 / d) = 1 := gc_div (by omega)
  have k2 : gc (a2 / x) (b1 / x) = 1 := gc_div (by omega)
  have da1 : d ∣ a1 := gc_dvd_left _ _
  have db2 : d ∣ b2 := gc_dvd_right _ _
  have xa2 : x ∣ a2 := gc_dvd_left _ _
  have xb1 : x ∣ b1 := gc_dvd_right _ _
  have q1 : a1 / d ∣ a1 := ⟨d, (Int.ediv_mul_cancel da1).symm⟩
  have q2 : b1 / x ∣ b1 := ⟨x, (Int.ediv_mul_cancel xb1).symm⟩
  have q3 : a2 / x ∣ a2 := ⟨x, (Int.ediv_mul_cancel xa2).symm⟩
  have q4 : b2 / d ∣ b2 := ⟨d, (Int.ediv_mul_cancel db2).symm⟩
  have p1 : 0 < b1 / x := Int.ediv_pos_of_pos_of_dvd h1 (by omega) xb1
  have p2 : 0 < b2 / d := Int.ediv_pos_of_pos_of_dvd h2 (by omega) db2
  refine ⟨Int.mul_pos p1 p2, ?_, ?_⟩
  · refine gc_mul_left (gc_mul_right ?_ k1) (gc_mul_right k2 ?_)
    · exact gc_dvd_one_right (gc_dvd_one g1 q1) q2
    · exact gc_dvd_one_right (gc_dvd_one g2 q3) q4
  · rw [Rat.divInt_mul_divInt]
    have sc : d * x ≠ 0 := Int.ne_of_gt (Int.mul_pos hd hx)
    rw [← Rat.divInt_mul_left (n := (a1 / d) * (a2 / x)) (d := (b1 / x) * (b2 / d)) sc]
    have e1 : d * x * ((a1 / d) * (a2 / x)) = a1 * a2 := by
      have y1 := Int.ediv_mul_cancel da1
      have y2 := Int.ediv_mul_cancel xa2
      generalize a1 / d = z1 at *
      generalize a2 / x = z2 at *
      rw [← y1, ← y2]; simp only [Int.mul_assoc, Int.mul_left_comm, Int.mul_comm]
    have e2 : d * x * ((b1 / x) * (b2 / d)) = b1 * b2 := by
      have y1 := Int.ediv_mul_cancel xb1
      have y2 := Int.ediv_mul_cancel db2
      generalize b1 / x = z1 at *
      generalize b2 / d = z2 at *
      rw [← y1, ← y2]; simp only [Int.mul_assoc, Int.mul_left_comm, Int.mul_comm]
    rw [e1, e2]
end My

set_option Elab.async false
set_option linter.all false
set_option maxRecDepth 100000
namespace Internal
open PySem PySem.Spec PyProof.Rows
theorem x_iteB {b : Bool} {A B : Prop} (h1 : b = true → A) (h2 : b = false → B) : if b = true then A else B := by
  cases b with
  | true => rw [if_pos rfl]; exact h1 rfl
  | false => rw [if_neg Bool.false_ne_true]; exact h2 rfl
theorem x_iteP {p : Prop} [Decidable p] {A B : Prop} (h1 : p → A) (h2 : ¬ p → B) : if p then A else B := by
  by_cases h : p
  · rw [if_pos h]; exact h1 h
  · rw [if_neg h]; exact h2 h
section
variable {K : PySem.W.Frag} {H : Hp} {Q : VK}
theorem x_isBB {i : Bool} (q : Q (.bl true) H) : rIsi K [.bl i, .ty "bool"] H Q := x_isi (t' := .type "bool") (cv := .type "bool") (b := true) rfl (.bl i) (by with_unfolding_all rfl) q
end
noncomputable def spDiv : Sp := fun vs H Q _ => ∃ a b : Int, vs = [.int a, .int b] ∧ Q (.int (My.gc a b)) H
theorem spDiv_i {a b : Int} {H : Hp} {Q : VK} {E : XK} (q : Q (.int (My.gc a b)) H) : spDiv [.int a, .int b] H Q E := ⟨a, b, rfl, q⟩
theorem abs_nn (a : Int) : 0 ≤ if a < 0 then -a else a := by split <;> omega
theorem sz_gc_right {a b : Int} {n : Nat} (h : b ≠ 0) (hs : sz b ≤ n) : sz (My.gc a b) ≤ n := by
  refine Nat.le_trans (sz_mono ?_) hs
  have h1 := My.gc_pos_right (a := a) h
  obtain ⟨c, hc⟩ := My.gc_dvd_right a b
  have hc0 : c ≠ 0 := by rintro rfl; rw [Int.mul_zero] at hc; exact h hc
  have e : b.natAbs = (My.gc a b).natAbs * c.natAbs := by rw [← Int.natAbs_mul, ← hc]
  rw [e]
  exact Nat.le_mul_of_pos_right _ (by omega)
noncomputable def cell (ns : List Int) (k : Int) : Int := ns.getD k.toNat 0
noncomputable def spCell (K : PySem.W.Frag) : Sp := fun vs H Q _ => ∃ (a : Addr) (ns : List Int) (k : Int), vs = [.ref a, .int k] ∧ SqL K H a (ns.map V.int) ∧ 0 ≤ k ∧ Q (.int (cell ns k)) H
theorem cell_in {ns : List Int} {k : Int} (h0 : 0 ≤ k) (h : k < ((ns.map V.int).length : Int)) : atI (ns.map V.int) k = some (.int (cell ns k)) := by
  rw [List.length_map] at h
  have hk : k.toNat < ns.length := by omega
  have ek : k = ((k.toNat : Nat) : Int) := by omega
  have q : atI (ns.map V.int) ((k.toNat : Nat) : Int) = some (.int ns[k.toNat]) := atI_nat (by rw [List.getElem?_map, List.getElem?_eq_getElem hk]; rfl)
  rw [← ek] at q
  rw [q]; unfold cell; rw [List.getD_eq_getElem?_getD, List.getElem?_eq_getElem hk]; rfl
theorem cell_out {ns : List Int} {k : Int} (h : ¬ k < ((ns.map V.int).length : Int)) : cell ns k = 0 := by
  rw [List.length_map] at h
  unfold cell; rw [List.getD_eq_getElem?_getD, List.getElem?_eq_none (by omega)]; rfl
theorem spCell_i {K : PySem.W.Frag} {a : Addr} {ns : List Int} {k : Int} {H : Hp} {Q : VK} {E : XK} (hS : SqL K H a (ns.map V.int)) (h0 : 0 ≤ k) (q : Q (.int (cell ns k)) H) : spCell K [.ref a, .int k] H Q E := ⟨a, ns, k, rfl, hS, h0, q⟩
noncomputable def IsQ (H : Hp) (a : Addr) (q : Rat) : Prop := H a = some (.tup [.int q.num, .int (q.den : Int)])
theorem IsQ.sq {K : PySem.W.Frag} {H : Hp} {a : Addr} {q : Rat} (h : IsQ H a q) : SqT K H a [.int q.num, .int (q.den : Int)] := SqT.of h
noncomputable def dQ (q : Rat) : PyData := .tuple [.int q.num, .int (q.den : Int)]
theorem IsQ.rep {K : PySem.W.Frag} {H : Hp} {a : Addr} {q : Rat} (h : IsQ H a q) : RepD K H (.ref a) (dQ q) := .tup h.sq (.cons (.int _) (.cons (.int _) .nil))
theorem IsQ.same {H H' : Hp} {a : Addr} {q : Rat} (h : IsQ H a q) (e : Same H H') : IsQ H' a q := e _ _ h
theorem depthQ (q : Rat) : (dQ q).depth = 1 := by simp [dQ, PyData.depth, PyData.depthAll]
theorem den_pos (q : Rat) : 0 < (q.den : Int) := My.rat_den_pos q
theorem rat_ext {q r : Rat} (h1 : q.num = r.num) (h2 : (q.den : Int) = (r.den : Int)) : q = r := by
  rw [← My.rat_self q, ← My.rat_self r, h1, h2]
theorem eqvQ (q r : Rat) : PyData.eqv (dQ q) (dQ r) = decide (q = r) := by
  have e : PyData.eqv (dQ q) (dQ r) = ((q.num == r.num) && ((q.den : Int) == (r.den : Int))) := by simp [dQ, PyData.eqv, PyData.eqvAll]
  rw [e]
  by_cases h : q = r
  · subst h; simp
  · rw [decide_eq_false h]
    cases h1 : (q.num == r.num) with
    | false => rfl
    | true =>
      cases h2 : ((q.den : Int) == (r.den : Int)) with
      | false => rfl
      | true => exact absurd (rat_ext (eq_of_beq h1) (eq_of_beq h2)) h
noncomputable def NewQ (H : Hp) (Q : VK) (q : Rat) : Prop := ∀ p H', Same H H' → IsQ H' p q → Q (.ref p) H'
theorem NewQ.mk {H : Hp} {Q : VK} {q : Rat} {x y : Int} (k : NewQ H Q q) (e : x = q.num ∧ y = (q.den : Int)) : rTup Q [.int x, .int y] H := by
  refine ⟨by show 2 ≤ sizeLine; decide, fun p hp => k p _ (Same.new hp _) ?_⟩
  rw [e.1, e.2]; exact upd_same
noncomputable def SzQ (q : Rat) (n m : Nat) : Prop := sz q.num ≤ n ∧ sz (q.den : Int) ≤ m
theorem SzQ.mono {q : Rat} {n m n' m' : Nat} (h : SzQ q n m) (h1 : n ≤ n') (h2 : m ≤ m') : SzQ q n' m' := ⟨Nat.le_trans h.1 h1, Nat.le_trans h.2 h2⟩
theorem szQ_div {t b : Int} {n m : Nat} (hb : 0 < b) (h1 : sz t ≤ n) (h2 : sz b ≤ m) : SzQ (Rat.divInt t b) n m := by
  have e := My.part_pos (t := t) hb
  unfold SzQ
  rw [← e.1, ← e.2]
  exact ⟨Nat.le_trans (sz_div _ _) h1, Nat.le_trans (sz_div _ _) h2⟩
theorem szQ_div' {t b : Int} {n m : Nat} (hb : b ≠ 0) (h1 : sz t ≤ n) (h2 : sz b ≤ m) : SzQ (Rat.divInt t b) n m := by
  rcases Int.lt_or_le 0 b with h | h
  · exact szQ_div h h1 h2
  · rw [← Rat.neg_divInt_neg]
    exact szQ_div (by omega) (Nat.le_trans (sz_neg _) h1) (Nat.le_trans (sz_neg _) h2)
noncomputable def spUnder (n : Nat) : Sp := fun vs H Q _ => ∃ (a b : Addr) (q r : Rat), vs = [.ref a, .ref b] ∧ IsQ H a q ∧ IsQ H b r ∧ SzQ q n n ∧ SzQ r n n ∧ Q (.bl (decide (q < r))) H
theorem spUnder_i {n : Nat} {a b : Addr} {q r : Rat} {H : Hp} {Q : VK} {E : XK} (h1 : IsQ H a q) (h2 : IsQ H b r) (s1 : SzQ q n n) (s2 : SzQ r n n) (k : Q (.bl (decide (q < r))) H) : spUnder n [.ref a, .ref b] H Q E := ⟨a, b, q, r, rfl, h1, h2, s1, s2, k⟩
noncomputable def spLeast (n : Nat) : Sp := fun vs H Q _ => ∃ (a b : Addr) (q r : Rat), vs = [.ref a, .ref b] ∧ IsQ H a q ∧ IsQ H b r ∧ SzQ q n n ∧ SzQ r n n ∧ (if r < q then Q (.ref b) H else Q (.ref a) H)
theorem spLeast_i {n : Nat} {a b : Addr} {q r : Rat} {H : Hp} {Q : VK} {E : XK} (h1 : IsQ H a q) (h2 : IsQ H b r) (s1 : SzQ q n n) (s2 : SzQ r n n) (k : if r < q then Q (.ref b) H else Q (.ref a) H) : spLeast n [.ref a, .ref b] H Q E := ⟨a, b, q, r, rfl, h1, h2, s1, s2, k⟩
noncomputable def OkQ (q : Rat) : Prop := SzQ q 1000000 8999
theorem SzQ.ok {q : Rat} {n m : Nat} (h : SzQ q n m) (h1 : n ≤ 1000000) (h2 : m ≤ 8999) : OkQ q := h.mono h1 h2
theorem plus_parts (q r : Rat) : (q.num * ((r.den : Int) / My.gc q.den r.den) + r.num * ((q.den : Int) / My.gc q.den r.den)) / My.gc (q.num * ((r.den : Int) / My.gc q.den r.den) + r.num * ((q.den : Int) / My.gc q.den r.den)) (My.gc q.den r.den) = (q + r).num ∧
    ((q.den : Int) / My.gc q.den r.den) * ((r.den : Int) / My.gc (q.num * ((r.den : Int) / My.gc q.den r.den) + r.num * ((q.den : Int) / My.gc q.den r.den)) (My.gc q.den r.den)) = ((q + r).den : Int) := by
  have h := My.plus_low (a1 := q.num) (b1 := q.den) (a2 := r.num) (b2 := r.den) (den_pos q) (den_pos r) (My.rat_low q) (My.rat_low r)
  refine My.low_unique h.1 h.2.1 ?_
  have e := h.2.2
  rw [My.rat_self, My.rat_self] at e
  exact e
theorem times_parts (q r : Rat) : (q.num / My.gc q.num r.den) * (r.num / My.gc r.num q.den) = (q * r).num ∧ ((q.den : Int) / My.gc r.num q.den) * ((r.den : Int) / My.gc q.num r.den) = ((q * r).den : Int) := by
  have h := My.times_low (a1 := q.num) (b1 := q.den) (a2 := r.num) (b2 := r.den) (den_pos q) (den_pos r) (My.rat_low q) (My.rat_low r)
  refine My.low_unique h.1 h.2.1 ?_
  have e := h.2.2
  rw [My.rat_self, My.rat_self] at e
  exact e
theorem SzQ.neg {q : Rat} {n m : Nat} (h : SzQ q n m) : SzQ (-q) n m := ⟨by rw [Rat.neg_num]; exact Nat.le_trans (sz_neg _) h.1, by rw [Rat.neg_den]; exact h.2⟩
noncomputable def spPlus : Sp := fun vs H Q _ => ∃ (a b : Addr) (q r : Rat), vs = [.ref a, .ref b] ∧ IsQ H a q ∧ IsQ H b r ∧ OkQ q ∧ OkQ r ∧ NewQ H Q (q + r)
theorem spPlus_i {a b : Addr} {q r : Rat} {H : Hp} {Q : VK} {E : XK} (h1 : IsQ H a q) (h2 : IsQ H b r) (s1 : OkQ q) (s2 : OkQ r) (k : NewQ H Q (q + r)) : spPlus [.ref a, .ref b] H Q E := ⟨a, b, q, r, rfl, h1, h2, s1, s2, k⟩
noncomputable def spMinus : Sp := fun vs H Q _ => ∃ (a b : Addr) (q r : Rat), vs = [.ref a, .ref b] ∧ IsQ H a q ∧ IsQ H b r ∧ OkQ q ∧ OkQ r ∧ NewQ H Q (q - r)
theorem spMinus_i {a b : Addr} {q r : Rat} {H : Hp} {Q : VK} {E : XK} (h1 : IsQ H a q) (h2 : IsQ H b r) (s1 : OkQ q) (s2 : OkQ r) (k : NewQ H Q (q - r)) : spMinus [.ref a, .ref b] H Q E := ⟨a, b, q, r, rfl, h1, h2, s1, s2, k⟩
noncomputable def spTimes : Sp := fun vs H Q _ => ∃ (a b : Addr) (q r : Rat), vs = [.ref a, .ref b] ∧ IsQ H a q ∧ IsQ H b r ∧ OkQ q ∧ OkQ r ∧ NewQ H Q (q * r)
theorem spTimes_i {a b : Addr} {q r : Rat} {H : Hp} {Q : VK} {E : XK} (h1 : IsQ H a q) (h2 : IsQ H b r) (s1 : OkQ q) (s2 : OkQ r) (k : NewQ H Q (q * r)) : spTimes [.ref a, .ref b] H Q E := ⟨a, b, q, r, rfl, h1, h2, s1, s2, k⟩
theorem rat_neg_low (r : Rat) : -r.num = (-r).num ∧ (r.den : Int) = ((-r).den : Int) := ⟨by rw [Rat.neg_num], by rw [Rat.neg_den]⟩
theorem inv_pos {r : Rat} (h : 0 < r.num) : (r.den : Int) = (r⁻¹).num ∧ r.num = ((r⁻¹).den : Int) :=
  My.low_unique h (by rw [My.gc_comm]; exact My.rat_low r) (Rat.inv_def r).symm
theorem inv_neg {r : Rat} (h : r.num < 0) : -(r.den : Int) = (r⁻¹).num ∧ -r.num = ((r⁻¹).den : Int) :=
  My.low_unique (by omega) (by
    have g := My.rat_low r
    have e : My.gc (-(r.den : Int)) (-r.num) = My.gc r.num r.den := by
      rw [My.gc_comm]; unfold My.gc; simp [Int.gcd]
    rw [e]; exact g) (by rw [Rat.neg_divInt_neg]; exact (Rat.inv_def r).symm)
theorem SzQ.inv {r : Rat} {n m : Nat} (h0 : r.num ≠ 0) (h : SzQ r n m) : SzQ r⁻¹ m n := by
  rw [Rat.inv_def]
  exact szQ_div' h0 h.2 h.1
noncomputable def IsQs (H : Hp) : List V → List Rat → Prop
  | [], [] => True
  | v :: vs, q :: qs => (∃ a, v = .ref a ∧ IsQ H a q) ∧ IsQs H vs qs
  | _, _ => False
theorem IsQs.same {H H' : Hp} (e : Same H H') : ∀ {vs : List V} {qs : List Rat}, IsQs H vs qs → IsQs H' vs qs
  | [], [], _ => trivial
  | _ :: _, _ :: _, ⟨⟨a, e1, h⟩, r⟩ => ⟨⟨a, e1, h.same e⟩, r.same e⟩
theorem IsQs.length {H : Hp} : ∀ {vs : List V} {qs : List Rat}, IsQs H vs qs → vs.length = qs.length
  | [], [], _ => rfl
  | _ :: _, _ :: _, ⟨_, r⟩ => by rw [List.length_cons, List.length_cons, r.length]
theorem IsQs.app {H : Hp} {a : Addr} {q : Rat} (h : IsQ H a q) : ∀ {vs : List V} {qs : List Rat}, IsQs H vs qs → IsQs H (vs ++ [.ref a]) (qs ++ [q])
  | [], [], _ => ⟨⟨a, rfl, h⟩, trivial⟩
  | _ :: _, _ :: _, ⟨x, r⟩ => ⟨x, IsQs.app h r⟩
theorem IsQs.get {H : Hp} : ∀ {vs : List V} {qs : List Rat} {i : Nat} {v : V}, IsQs H vs qs → vs[i]? = some v → ∃ a q, v = .ref a ∧ qs[i]? = some q ∧ IsQ H a q
  | _ :: _, _ :: _, 0, _, ⟨⟨a, e, h⟩, _⟩, rfl => ⟨a, _, e, rfl, h⟩
  | _ :: _, _ :: _, i + 1, _, ⟨_, r⟩, e => r.get (i := i) (by simpa using e)
  | [], [], _, _, _, e => by simp at e
theorem IsQs.rep {K : PySem.W.Frag} {H : Hp} : ∀ {vs : List V} {qs : List Rat}, IsQs H vs qs → RepAll K H vs (qs.map dQ)
  | [], [], _ => .nil
  | _ :: _, _ :: _, ⟨⟨a, e, h⟩, r⟩ => by subst e; exact .cons h.rep r.rep
noncomputable def sumQ (qs : List Rat) : Rat := qs.foldl (· + ·) 0
theorem sumQ_snoc (qs : List Rat) (q : Rat) : sumQ (qs ++ [q]) = sumQ qs + q := by unfold sumQ; rw [List.foldl_append]; rfl
theorem depthAllQ : ∀ qs : List Rat, PyData.depthAll (qs.map dQ) ≤ 1
  | [] => by simp [PyData.depthAll]
  | q :: qs => by
    have h := depthAllQ qs
    have h1 := depthQ q
    simp only [List.map_cons, PyData.depthAll]
    omega
theorem depthQs (qs : List Rat) : (PyData.list (qs.map dQ)).depth ≤ 2 := by
  have h := depthAllQ qs
  simp only [PyData.depth]; omega
theorem szL {i : Int} {n : Nat} (hn : 200 ≤ n) (h1 : -1606938044258990275541962092341162602522202993782792835301376 < i) (h2 : i < 1606938044258990275541962092341162602522202993782792835301376) : sz i ≤ n := Nat.le_trans (sz200 h1 h2) hn
noncomputable def spTotal (K : PySem.W.Frag) : Sp := fun vs H Q _ => ∃ (a : Addr) (xs : List V) (qs : List Rat), vs = [.ref a] ∧ SqL K H a xs ∧ IsQs H xs qs ∧ (∀ q ∈ qs, OkQ q) ∧ (∀ i, OkQ (sumQ (qs.take i))) ∧ NewQ H Q (sumQ qs)
theorem spTotal_i {K : PySem.W.Frag} {a : Addr} {xs : List V} {qs : List Rat} {H : Hp} {Q : VK} {E : XK} (h : SqL K H a xs) (hq : IsQs H xs qs) (h1 : ∀ q ∈ qs, OkQ q) (h2 : ∀ i, OkQ (sumQ (qs.take i))) (k : NewQ H Q (sumQ qs)) : spTotal K [.ref a] H Q E := ⟨a, xs, qs, rfl, h, hq, h1, h2, k⟩
end Internal

set_option Elab.async false
set_option linter.all false
set_option maxRecDepth 100000
namespace Internal
open PySem PySem.Spec PyProof.Rows
section
variable {σ : St} {H : Hp} {Q : VK} {D : Ends} {ta tb tc te to : TE} {t u : TS} {K : PySem.W.Frag}
noncomputable def ForK (J : It) (g : TG) (tb : TS) : TS := fun D σ H => ∃ W : Nat → Nat → St → Hp → Prop, (∃ m, W 0 m σ H) ∧ ∀ i m σ H, W i m σ H →
  (J.stop i H ∧ D.nx σ H) ∨ (J.go i H ∧ ∃ N : St → Hp → Prop, (∀ σ' H', N σ' H' → ∃ m', m' < m ∧ W (i + 1) m' σ' H') ∧ ∀ x H', J.yld i H x H' → g x σ H' fun σ2 H2 => tb { D with nx := N, ct := N, bk := D.nx } σ2 H2)
theorem x_for {wi : TI} {g : TG} {tb : TS} (q : wi σ H fun J H1 => ForK J g tb D σ H1) : tFor wi g tb D σ H := q
noncomputable def rRng1 (R : It → Hp → Prop) (vs : List V) (H : Hp) : Prop := ∃ j : Int, vs = [.int j] ∧ -(2 ^ 62) ≤ j ∧ j < 2 ^ 62 ∧ R (Itr 0 j.toNat) H
noncomputable def rItL (K : PySem.W.Frag) (R : It → Hp → Prop) (x : V) (H : Hp) : Prop := ∃ a, x = .ref a ∧ (∃ xs, SqL K H a xs) ∧ R (Itl K a) H
theorem x_rng1 {tr : TA} {R : It → Hp → Prop} (q : tr σ H (rRng1 R)) : iRng1 tr σ H R := q
theorem x_itL {R : It → Hp → Prop} (q : te σ H (rItL K R)) : iList K te σ H R := q
theorem x_rngk1 {R : It → Hp → Prop} {j : Int} (h1 : -4611686018427387904 ≤ j) (h2 : j < 4611686018427387904) (q : R (Itr 0 j.toNat) H) : rRng1 R [.int j] H := ⟨j, rfl, h1, h2, q⟩
theorem x_itk {R : It → Hp → Prop} {a : Addr} {xs : List V} (h : SqL K H a xs) (q : R (Itl K a) H) : rItL K R (.ref a) H := ⟨a, rfl, ⟨xs, h⟩, q⟩
theorem x_gName {i : Nat} {v : V} {R : St → Hp → Prop} (q : R (σ.set i (some v)) H) : gName i v σ H R := q
theorem x_forR {lo : Int} {n : Nat} {g : TG} {tb : TS} (Pv : Nat → St → Hp → Prop) (h0 : Pv 0 σ H)
    (hs : ∀ i σ H, i < n → Pv i σ H → g (.int (lo + i)) σ H fun σ2 H2 => tb { D with nx := Pv (i + 1), ct := Pv (i + 1), bk := D.nx } σ2 H2) (hd : ∀ σ H, Pv n σ H → D.nx σ H) : ForK (Itr lo n) g tb D σ H := for_range Pv h0 hs hd
theorem x_forL {a : Addr} {xs : List V} {g : TG} {tb : TS} (Pv : Nat → St → Hp → Prop) (h0 : Pv 0 σ H) (hl : ∀ i σ H, i ≤ xs.length → Pv i σ H → SqL K H a xs)
    (hs : ∀ i x σ H, xs[i]? = some x → Pv i σ H → g x σ H fun σ2 H2 => tb { D with nx := Pv (i + 1), ct := Pv (i + 1), bk := D.nx } σ2 H2) (hd : ∀ σ H, Pv xs.length σ H → D.nx σ H) : ForK (Itl K a) g tb D σ H := for_list Pv h0 hl hs hd
theorem x_bm {T : String} {r : V → List V → Hp → VK → Prop} {tr : TA} (q : to σ H fun x H1 => tyV K T x H1 ∧ tr σ H1 fun xs H2 => r x xs H2 Q) : tBM K T r to tr σ H Q := q
theorem x_tyL {l : Addr} {xs : List V} {A : Prop} (h : H l = some (.lst xs)) (q : A) : tyV K "list" (.ref l) H ∧ A := ⟨.inl ⟨rfl, xs, SqL.of h⟩, q⟩
theorem x_append {l : Addr} {xs : List V} {y : V} (h : H l = some (.lst xs)) (hl : xs.length < sizeLine) (q : Q .non (upd H l (.lst (xs ++ [y])))) : rAppend (.ref l) [y] H Q := ⟨l, xs, y, rfl, rfl, h, hl, q⟩
theorem x_setL {l : Addr} {xs : List V} {k : Int} {j : Nat} {v : V} {R : Hp → Prop} (h : H l = some (.lst xs)) (e : ixN xs.length k = some j) (q : R (upd H l (.lst (xs.set j v)))) : rSetL (.ref l) (.int k) v H R := ⟨l, xs, k, j, rfl, rfl, h, e, q⟩
theorem x_listOf {a : Addr} {xs : List V} (h : SqL K H a xs) (q : ∀ l, H l = none → Q (.ref l) (upd H l (.lst xs))) : rListOf K [.ref a] H Q := ⟨a, xs, rfl, .inl h, q⟩
theorem x_ixLs {a : Addr} {xs : List V} {i : Int} {v : V} (h : H a = some (.lst xs)) (e : atI xs i = some v) (q : Q v H) : rIx K (.ref a) (.int i) H Q := x_ixL (.of h) e q
noncomputable def rPart (R : Option Int → Hp → Prop) (x : V) (H : Hp) : Prop := ∃ i, x = .int i ∧ R (some i) H
theorem x_part {R : Option Int → Hp → Prop} (q : te σ H (rPart R)) : tPart te σ H R := q
theorem x_partI {R : Option Int → Hp → Prop} {i : Int} (q : R (some i) H) : rPart R (.int i) H := ⟨i, rfl, q⟩
theorem x_cut {a : Addr} {xs : List V} {lo hi : Option Int} (h : SqL K H a xs) (q : ∀ p, H p = none → Q (.ref p) (upd H p (.lst (cutV xs lo hi)))) : rSlL K (.ref a) lo hi H Q := ⟨a, xs, rfl, h, q⟩
end
theorem Same.fresh {H H' : Hp} {l : Addr} (g : Same H H') (h : H' l = none) : H l = none := by
  cases e : H l with
  | none => rfl
  | some o => rw [g l o e] at h; cases h
theorem small_of {n : Nat} (h : n ≤ 100000) : n < sizeLine := Nat.lt_of_le_of_lt h (by decide)
theorem small_le {n : Nat} (h : n ≤ 100000) : n ≤ sizeLine := Nat.le_of_lt (small_of h)
noncomputable def But (l : Addr) (H H' : Hp) : Prop := ∀ b, b ≠ l → H' b = H b
theorem But.upd {H : Hp} {l : Addr} {o : HO} : But l H (Internal.upd H l o) := fun _ h => upd_ne h
theorem But.at {l : Addr} {H H' : Hp} (g : But l H H') {a : Addr} {o : HO} (h : H a = some o) (n : a ≠ l) : H' a = some o := by rw [g a n]; exact h
theorem But.same {l : Addr} {H0 H H' : Hp} (g : But l H H') (e : Same H0 H) (h : H0 l = none) : Same H0 H' := fun b o q => by rw [g b (ne_of_none q h)]; exact e b o q
noncomputable def LBut (l : Addr) (H H' : Hp) : Prop := But l H H' ∧ ∃ xs, H l = some (.lst xs)
theorem LBut.tup {l : Addr} {H H' : Hp} (g : LBut l H H') {a : Addr} {xs : List V} (h : H a = some (.tup xs)) : H' a = some (.tup xs) := by
  obtain ⟨ys, e⟩ := g.2
  exact g.1.at h (ne_of h e (by intro z; cases z))
theorem LBut.isQ {l : Addr} {H H' : Hp} (g : LBut l H H') {a : Addr} {q : Rat} (h : IsQ H a q) : IsQ H' a q := g.tup h
theorem LBut.isQs {l : Addr} {H H' : Hp} (g : LBut l H H') : ∀ {vs : List V} {qs : List Rat}, IsQs H vs qs → IsQs H' vs qs
  | [], [], _ => trivial
  | _ :: _, _ :: _, ⟨⟨a, e, h⟩, r⟩ => ⟨⟨a, e, g.isQ h⟩, g.isQs r⟩
theorem LBut.lst {l : Addr} {H H' : Hp} (g : LBut l H H') {a : Addr} {o : HO} (h : H a = some o) (n : a ≠ l) : H' a = some o := g.1.at h n
theorem LBut.same {l : Addr} {H0 H H' : Hp} (g : LBut l H H') (e : Same H0 H) (h : H0 l = none) : Same H0 H' := g.1.same e h
theorem Same.at {H H' : Hp} (e : Same H H') {a : Addr} {o : HO} (h : H a = some o) : H' a = some o := e a o h
theorem Same.isQ {H H' : Hp} (e : Same H H') {a : Addr} {q : Rat} (h : IsQ H a q) : IsQ H' a q := h.same e
theorem SqL.keep {K : PySem.W.Frag} {H H' : Hp} {a : Addr} {xs : List V} (h : SqL K H a xs) (e : Same H H') : SqL K H' a xs := e.seq h
theorem Same.after {H H1 H2 : Hp} (b : Same H1 H2) (a : Same H H1) : Same H H2 := a.trans b
theorem Same.none {H H' : Hp} {l : Addr} (h : H' l = none) (g : Same H H') : H l = none := g.fresh h
theorem ne_new' {H : Hp} {a b : Addr} {o : HO} (h' : H b = none) (h : H a = some o) : b ≠ a := (ne_of_none h h').symm
section
variable {σ : St} {H : Hp} {Q : VK} {D : Ends} {t u : TS} {K : PySem.W.Frag}
theorem x_tupN {xs : List V} (hl : xs.length ≤ 100000) (q : ∀ p H', H p = none → Same H H' → H' p = some (.tup xs) → Q (.ref p) H') : rTup Q xs H := ⟨small_le hl, fun p hp => q p _ hp (Same.new hp _) upd_same⟩
theorem x_lstN {xs : List V} (hl : xs.length ≤ 100000) (q : ∀ p H', H p = none → Same H H' → H' p = some (.lst xs) → Q (.ref p) H') : rLst Q xs H := ⟨small_le hl, fun p hp => q p _ hp (Same.new hp _) upd_same⟩
theorem x_tupQ {q : Rat} {x y : Int} (e : x = q.num ∧ y = (q.den : Int)) (k : NewQ H Q q) : rTup Q [.int x, .int y] H := NewQ.mk k e
theorem x_appN {l : Addr} {xs : List V} {y : V} (h : H l = some (.lst xs)) (hl : xs.length ≤ 100000) (q : ∀ H', LBut l H H' → H' l = some (.lst (xs ++ [y])) → Q .non H') : rAppend (.ref l) [y] H Q :=
  x_append h (small_of hl) (q _ ⟨But.upd, xs, h⟩ upd_same)
theorem x_setN {l : Addr} {xs : List V} {k : Int} {j : Nat} {v : V} {R : Hp → Prop} (h : H l = some (.lst xs)) (e : ixN xs.length k = some j) (q : ∀ H', LBut l H H' → H' l = some (.lst (xs.set j v)) → R H') : rSetL (.ref l) (.int k) v H R :=
  x_setL h e (q _ ⟨But.upd, xs, h⟩ upd_same)
theorem x_listOfN {a : Addr} {xs : List V} (h : SqL K H a xs) (q : ∀ p H', H p = none → Same H H' → H' p = some (.lst xs) → Q (.ref p) H') : rListOf K [.ref a] H Q := x_listOf h fun p hp => q p _ hp (Same.new hp _) upd_same
theorem x_cutN {a : Addr} {xs : List V} {lo hi : Option Int} (h : SqL K H a xs) (q : ∀ p H', H p = none → Same H H' → H' p = some (.lst (cutV xs lo hi)) → Q (.ref p) H') : rSlL K (.ref a) lo hi H Q := x_cut h fun p hp => q p _ hp (Same.new hp _) upd_same
theorem x_midS (i : Nat) (P : V → Hp → Prop) (q : t { D with nx := fun σ' H' => ∃ v, σ' = σ.set i (some v) ∧ P v H' } σ H) (r : ∀ v H', P v H' → u D (σ.set i (some v)) H') : tMid t u D σ H :=
  ⟨_, q, fun σ' H' ⟨v, e, p⟩ => by subst e; exact r v H' p⟩
theorem x_midS2 (i j : Nat) (P : V → V → Hp → Prop) (q : t { D with nx := fun σ' H' => ∃ v w, σ' = (σ.set i (some v)).set j (some w) ∧ P v w H' } σ H) (r : ∀ v w H', P v w H' → u D ((σ.set i (some v)).set j (some w)) H') : tMid t u D σ H :=
  ⟨_, q, fun σ' H' ⟨v, w, e, p⟩ => by subst e; exact r v w H' p⟩
end
theorem ixN_lt {n : Nat} {k : Int} (h0 : 0 ≤ k) (h : k < n) : ixN n k = some k.toNat := by unfold ixN; rw [if_pos h0, if_pos h]
theorem atI_lt {α : Type} {xs : List α} {k : Int} {v : α} (h0 : 0 ≤ k) (h : xs[k.toNat]? = some v) : atI xs k = some v := by
  have e : k = (k.toNat : Int) := by omega
  rw [e]; exact atI_nat h
end Internal

set_option Elab.async false
set_option linter.all false
set_option maxRecDepth 100000
namespace Internal
open PySem PySem.Spec PyProof.Rows
section
variable {X : Cx} {pins : List (Addr × Obj)} {σ : St} {H : Hp} {s : Shared} {h' : Heap}
theorem Inv.turnedL {t' : Nat} {fp : List Addr} (I : Inv X pins σ H s) (k : ∀ b o, b ∉ fp → s.heap.get? b = some o → h'.get? b = some o) (f : ∀ b ∈ fp, FpOk X pins H b) : Inv X pins σ H { s with heap := h', toks := t' } := by
  have nit : ∀ b u, H b = some u → b ∉ fp := fun b u e z => by rw [(f b z).1] at e; cases e
  refine I.step (g' := s.gens) (d' := s.drawn) (ch := fp) (fun b hb => ⟨(f b hb).2.2.2.1, (f b hb).2.1, (f b hb).2.2.2.2.1, (f b hb).2.2.2.2.2⟩) (fun b o _ _ hc e _ => k b o hc e) (fun b o _ _ hc e _ => ⟨o.slots, k b o hc e⟩) (fun _ _ _ _ n => n)
    (fun b o hc e => ⟨o, k b o hc e⟩) (fun _ _ e => e) (fun _ _ _ e => e) (fun b ps e => ⟨#[], by rw [e]; simp⟩) (fun m hm => ?_) (fun b u e => ?_) I.bare
  · obtain ⟨o, es, ep, ho, r⟩ := hm
    exact ⟨o, es, ep, k _ o (fun z => (f _ z).2.1 rfl) ho, r⟩
  · refine (I.hok b u e).stay (fun c v hc q => k c v ?_ q) (fun _ q => q) fun _ _ q => q
    rcases hc with z | z
    · rw [z]; exact nit b u e
    · exact nit c _ z
theorem Inv.turnedNew {t' : Nat} {fp : List Addr} {p : Addr} {o : HO} (I : Inv X pins σ H s) (k : ∀ b o, b ∉ fp → s.heap.get? b = some o → h'.get? b = some o) (f : ∀ b ∈ fp, FpOk X pins H b) (hp : s.heap.objs.size ≤ p) (new : ObjOk X.prog X.w (upd H p o) h' p o) :
    Inv X pins σ (upd H p o) { s with heap := h', toks := t' } := by
  have nit : ∀ b u, H b = some u → b ∉ fp := fun b u e z => by rw [(f b z).1] at e; cases e
  have hn : H p = none := I.hok.fresh hp
  refine I.step (g' := s.gens) (d' := s.drawn) (ch := fp) (fun b hb => ⟨(f b hb).2.2.2.1, (f b hb).2.1, (f b hb).2.2.2.2.1, (f b hb).2.2.2.2.2⟩) (fun b o _ _ hc e _ => k b o hc e) (fun b o _ _ hc e _ => ⟨o.slots, k b o hc e⟩) (fun b u _ e n => ?_)
    (fun b o hc e => ⟨o, k b o hc e⟩) (fun b xs e => by rw [upd_ne (ne_of_none e hn)]; exact e) (fun b u v e => by rw [upd_ne (ne_of_none e hn)]; exact e) (fun b ps e => ⟨#[], by rw [upd_ne (ne_of_none e hn), e]; simp⟩) (fun m hm => ?_) (fun b u e => ?_) I.bare
  · rw [upd_ne (Nat.ne_of_lt (Nat.lt_of_lt_of_le (Heap.lt_size e) hp))]; exact n
  · obtain ⟨o, es, ep, ho, r⟩ := hm
    exact ⟨o, es, ep, k _ o (fun z => (f _ z).2.1 rfl) ho, r⟩
  · by_cases hb : b = p
    · subst hb; rw [upd_same] at e; cases e; exact new
    · rw [upd_ne hb] at e
      refine (I.hok b u e).stay (fun c v hc q => k c v ?_ q) (fun c q => by rw [upd_ne (ne_of_none q hn)]; exact q) fun c xs q => by rw [upd_ne (ne_of_none q hn)]; exact q
      rcases hc with z | z
      · rw [z]; exact nit b u e
      · exact nit c _ z
end
theorem tup2 {P : Program} {w : World} {H : Hp} {h : Heap} {p : Addr} {x y : V} {u v : Value} (e : h.get? p = some { cls := .type "tuple", data := .seq #[u, v] }) (r1 : RelV x u) (r2 : RelV y v) : ObjOk P w H h p (.tup [x, y]) :=
  ⟨small_le (by simp), [u, v], .cons r1 (.cons r2 .nil), _, e, rfl, _, rfl⟩
noncomputable def Itn (K : PySem.W.Frag) (a : Addr) : It :=
  ⟨fun i H => ∃ xs x, SqL K H a xs ∧ xs[i]? = some x, fun i H v H' => ∃ p x, H p = none ∧ v = .ref p ∧ (∀ xs, SqL K H a xs → xs[i]? = some x) ∧ H' = upd H p (.tup [.int i, x]), fun i H => ∃ xs, SqL K H a xs ∧ xs.length ≤ i⟩
theorem turn_enum {P : Program} {w : World} {K : PySem.W.Frag} {es : List Expr} {kx : Nat} {tp : Pos} (a e it : Addr) (hne : e ≠ it) : Turn P w K (.Tuple es kx tp) (Itn K a) [e, it] e (fun i h => (∃ old, IsEnum h e it i old) ∧ h.IsListIter it a i) where
  mem := by simp
  obj := fun i h st b hb => by
    obtain ⟨⟨old, h1⟩, o, h2, c, d⟩ := st
    rcases List.mem_cons.mp hb with z | z
    · subst z; exact ⟨_, h1, fun v z => by cases z⟩
    · have e : b = it := by simpa using z
      subst e
      exact ⟨o, h2, fun v z => by rw [d] at z; cases z⟩
  keep := fun i h h' st k => by
    obtain ⟨⟨old, h1⟩, h2⟩ := st
    exact ⟨⟨old, k e (by simp) _ h1⟩, h2.at fun o q => k it (by simp) o q⟩
  item := by
    intro X hP hw hK hc i pins s σ H E I hf st hg
    subst hP hw hK
    obtain ⟨⟨old, he⟩, hit⟩ := st
    obtain ⟨xs, x, hq, hx⟩ := hg
    obtain ⟨its, rv, p, hz⟩ := I.list hq
    obtain ⟨u, hu, ru⟩ := rv.get hx
    refine wpAny_pyNext_enum_item he hit p.isList (x := u) (by simpa using hu) hne fun h1 eo it1 tp1 sz1 k1 => ?_
    refine ⟨_, rfl, wpAny_letOwnedTupleGo_enum eo fun h2 e2 sb2 => ?_⟩
    have hes : e ≠ s.heap.objs.size := Nat.ne_of_lt (Heap.lt_size he)
    have sb2' : Heap.SameBut e h1 h2 := sb2
    have t2 : h2.get? s.heap.objs.size = some { cls := .type "tuple", data := .seq #[.int i s.toks, u] } := (sb2'.2 _ (Ne.symm hes)).trans tp1
    have k2 : ∀ b o, b ∉ [e, it] → s.heap.get? b = some o → h2.get? b = some o := fun b o hb q => by
      have n1 : b ≠ e := fun z => hb (by simp [z])
      have n2 : b ≠ it := fun z => hb (by simp [z])
      exact (sb2'.2 b n1).trans (k1 b o n1 n2 q)
    have I2 : Inv X pins σ (upd H s.heap.objs.size (.tup [.int i, x])) { s with heap := h2, toks := s.toks + 1 } := I.turnedNew k2 hf (Nat.le_refl _) (tup2 t2 ⟨_, rfl⟩ ru)
    have hn : H s.heap.objs.size = none := I.hok.fresh (Nat.le_refl _)
    refine ⟨.ref s.heap.objs.size, _, I2, rfl, ⟨_, x, hn, rfl, fun ys hy => by rw [I.list_inj hy hq]; exact hx, rfl⟩, ⟨⟨_, e2⟩, it1.at fun o q => (sb2'.2 it (Ne.symm hne)).trans q⟩, fun b hb => ?_⟩
    have hbs : b ≠ s.heap.objs.size := by
      rcases List.mem_cons.mp hb with z | z
      · rw [z]; exact hes
      · have e : b = it := by simpa using z
        subst e
        obtain ⟨o, q, _⟩ := hit
        exact Nat.ne_of_lt (Heap.lt_size q)
    rw [upd_ne hbs]
    exact (hf b hb).1
  done := by
    intro X hP hw hK hc i pins s σ H E I hf st hg
    subst hP hw hK
    obtain ⟨⟨old, he⟩, hit⟩ := st
    obtain ⟨xs, hq, hx⟩ := hg
    obtain ⟨its, rv, p, hz⟩ := I.list hq
    have hl := rv.length
    refine wpAny_pyNext_enum_end (I.ok.hd hc) he hit p.isList (by simp; omega) fun h1 eb => ⟨rfl, I.turnedL (t' := s.toks) (fp := [e, it]) (fun b o hb q => eb b o (fun z => hb (by simp [z])) q) hf⟩
  self := fun _ _ _ _ _ st h => by
    obtain ⟨⟨old, he⟩, _⟩ := st
    exact wpAny_pyIter_enum he h
noncomputable def Itz (K : PySem.W.Frag) (a b : Addr) : It :=
  ⟨fun i H => ∃ xs ys x y, SqL K H a xs ∧ SqL K H b ys ∧ xs[i]? = some x ∧ ys[i]? = some y, fun i H v H' => ∃ p x y, H p = none ∧ v = .ref p ∧ (∀ xs, SqL K H a xs → xs[i]? = some x) ∧ (∀ ys, SqL K H b ys → ys[i]? = some y) ∧ H' = upd H p (.tup [x, y]),
    fun i H => ∃ xs ys, SqL K H a xs ∧ SqL K H b ys ∧ (xs.length ≤ i ∨ ys.length ≤ i)⟩
section
variable {X : Cx} {es : List Expr} {kx : Nat} {tp : Pos}
noncomputable def rEnum (K : PySem.W.Frag) (R : It → Hp → Prop) (vs : List V) (H : Hp) : Prop := ∃ a, vs = [.ref a] ∧ (∃ xs, SqL K H a xs) ∧ R (Itn K a) H
noncomputable def rZip (K : PySem.W.Frag) (R : It → Hp → Prop) (vs : List V) (H : Hp) : Prop := ∃ a b, vs = [.ref a, .ref b] ∧ (∃ xs, SqL K H a xs) ∧ (∃ ys, SqL K H b ys) ∧ R (Itz K a b) H
noncomputable abbrev iEnum (K : PySem.W.Frag) (ta : TA) : TI := fun σ H R => ta σ H (rEnum K R)
noncomputable abbrev iZip (K : PySem.W.Frag) (ta : TA) : TI := fun σ H R => ta σ H (rZip K R)
theorem pi_enum {a : Expr} {ta : TA} {p pos : Pos} (hg : Gl X "enumerate") (hm : X.mg "enumerate" = none) (ha : PA X [a] ta) (hs : autoParam (starEach [a] X.env = [(false, eval a X.env)]) Internal.aut2._auto_1) : PI X (.Tuple es kx tp) (.Call (.Name "enumerate" p) [a] [] pos) (iEnum X.K ta) := by
  intro pins s σ H R I h
  refine Call_ (ld_blt I hg hm boot_enumerate (PyProof.Rows.callWith_type1 (thn (ha pos pins s σ H _ I h) fun us s1 ⟨vs, H1, I1, r1, q1⟩ => ?_) hs rfl))
  obtain ⟨l, e, ⟨xs, hq⟩, q⟩ := q1
  subst e
  obtain ⟨u, rfl, r⟩ := vals1 r1
  cases r
  obtain ⟨its, rv, pl, hz⟩ := I1.list hq
  refine call_enumerate_list pl.isList fun h1 e1 i1 sz1 k1 => ?_
  refine wpAny_pyIter_enum e1 ?_
  have I2 : Inv X pins σ H1 { s1 with heap := h1, toks := s1.toks } := I1.kept k1
  refine ⟨s1.heap.objs.size + 1, [s1.heap.objs.size + 1, s1.heap.objs.size], _, _, H1, rfl, I2, turn_enum l _ _ (Nat.succ_ne_self _), ⟨⟨_, e1⟩, i1⟩, fun b hb => ?_, q⟩
  have hb' : s1.heap.objs.size ≤ b := by
    simp only [List.mem_cons, List.not_mem_nil, or_false] at hb
    rcases hb with rfl | rfl <;> omega
  exact I1.fpOk hb' (I1.hok.fresh hb')
end
section
variable {X : Cx}
theorem Inv.walk {pins : List (Addr × Obj)} {σ : St} {H : Hp} {s : Shared} {a : Addr} {xs : List V} (I : Inv X pins σ H s) (hq : SqL X.K H a xs) : ∃ its : List Value, Vals xs its ∧ s.heap.IsList a its.toArray ∧ its.length = xs.length ∧ a < s.heap.objs.size := by
  obtain ⟨its, rv, pl, hz⟩ := I.list hq
  obtain ⟨o, e, _⟩ := id pl.isList
  exact ⟨its, rv, pl.isList, rv.length.symm, Heap.lt_size e⟩
noncomputable def sumI (ns : List Int) : Int := ns.foldl (· + ·) 0
theorem sumI_snoc (ns : List Int) (n : Int) : sumI (ns ++ [n]) = sumI ns + n := by unfold sumI; rw [List.foldl_append]; rfl
theorem preSum_sumI (ns : List Int) : ∀ j, j ≤ ns.length → preSum (fun i => ns.getD i 0) j = sumI (ns.take j)
  | 0, _ => rfl
  | j + 1, h => by
    have hj : j < ns.length := by omega
    rw [preSum, preSum_sumI ns j (by omega), List.take_succ_eq_append_getElem hj, sumI_snoc]
    simp [List.getD, hj]
noncomputable def rSum (K : PySem.W.Frag) : List V → Hp → VK → Prop := fun xs H Q => ∃ a ns, xs = [.ref a] ∧ SqL K H a (List.map V.int ns) ∧ Q (.int (sumI ns)) H
theorem int_at {ns : List Int} {its : List Value} {i : Nat} {v : Value} (rv : Vals (ns.map V.int) its) (h : its.toArray[i]? = some v) : ∃ t, v = .int (ns.getD i 0) t := by
  have hl := rv.length
  rw [List.length_map] at hl
  have hi : i < ns.length := by
    have := (Array.getElem?_eq_some_iff.mp h).1
    simp at this; omega
  obtain ⟨u, hu, r⟩ := rv.get (show (ns.map V.int)[i]? = some (.int (ns.getD i 0)) by simp [List.getD, hi])
  have : v = u := by
    have h' : its[i]? = some v := by simpa using h
    rw [hu] at h'; exact (Option.some.inj h').symm
  obtain ⟨t, rfl⟩ := r
  exact ⟨t, this⟩
theorem call_sumU (hc : X.calm = true) : CallR X (.builtin "sum") (rSum X.K) := by
  intro pins s σ H xs us Q I r h
  obtain ⟨a, ns, rfl, hq, q⟩ := h
  obtain ⟨u, rfl, r1⟩ := vals1 r
  cases r1
  obtain ⟨its, rv, pl, hl, hlt⟩ := I.walk hq
  refine call_sum_walkAnyS (wpAny_pyIter_list pl ?_)
  have hne : a ≠ s.heap.objs.size := Nat.ne_of_lt hlt
  refine ⟨_, _, _, _, _, _, _, fun i => ns.getD i 0, rfl, (Walks.list (prog := X.prog) (w := X.w) (A := X.A.in1) (I.ok.hd hc) s.heap.objs.size a hne its.toArray).toS, ⟨⟨_, Heap.get?_push_size _ rfl, rfl, rfl⟩, pl.at fun o e => Heap.get?_push_of_some _ e⟩, fun b hb => ?_, fun i v hv => int_at rv hv, fun s' t' hm => ?_⟩
  · rw [Heap.size_push]
    simp only [List.mem_cons, List.not_mem_nil, or_false] at hb
    rcases hb with rfl | rfl
    · exact Nat.lt_succ_self _
    · exact Nat.lt_succ_of_lt hlt
  · have hn : (its.toArray).size = ns.length := by rw [List.length_map] at hl; simpa using hl
    rw [hn, preSum_sumI ns _ (Nat.le_refl _), List.take_length]
    have hg : s'.gens = s.gens := by have := hm.gens; first | exact this | exact this.symm
    have hd := hm.drawn
    have ho := hm.os
    have I1 : Inv X pins σ H { s with heap := s'.heap, toks := s'.toks } := I.kept fun b o e => hm.heap b o (fun z => by
      simp only [List.mem_cons, List.not_mem_nil, or_false] at z
      subst z
      exact absurd (Heap.lt_size e) (Nat.lt_irrefl _)) (Heap.get?_push_of_some _ e)
    have e : ({ s with heap := s'.heap, toks := s'.toks } : Shared) = s' := by
      cases s'; cases s
      simp only at hg hd ho
      subst hg hd ho; rfl
    rw [e] at I1
    exact ⟨.int (sumI ns), H, I1, ⟨t', rfl⟩, q⟩
end
end Internal

set_option Elab.async false
set_option linter.all false
set_option maxRecDepth 100000
namespace Internal
open PySem PySem.Spec PyProof.Rows

noncomputable def Bare (er : Addr) (s : Shared) : Prop := ∃ o, s.heap.objs[er]? = some o ∧ o.dict = none
set_option genInjectivity false in
set_option genSizeOf false in
structure Fly (P : Program) (w : World) (outer : List Env) (H : Hp) (s : Shared) (H' : Hp) (er C t : Addr) (B : Heap) (s' : Shared) : Prop where
  os : s'.os = s.os
  bare : AllBare s'.gens
  un : Un (frs outer) [] H H' s.heap s'.heap
  hok : HOk P w H' s'.heap
  fly : Heap.FlyingW B outer er (.ref C) (.ref t) s'.heap
  old : ∀ b o, s.heap.get? b = some o → H b = none → b ∉ frs outer → B.get? b = some o
  has : ∀ b o, s.heap.get? b = some o → b ∉ frs outer → ∃ u, B.get? b = some u
  trk : ∀ b o u, H' b = some o → s'.heap.get? b = some u → B.get? b = some u
  nod : Bare er s'
noncomputable def CXF (P : Program) (w : World) : CXT := fun outer H s E e s' => ∃ er C t B H', e = .ref er ∧ Fly P w outer H s H' er C t B s' ∧ E (.ref C) none H'
theorem nox_F {P : Program} {w : World} : NoX (CXF P w) := fun _ _ _ _ _ ⟨_, _, _, _, _, _, _, h⟩ => h

section
variable {P : Program} {w : World} {outer : List Env} {H H' : Hp} {s s' : Shared} {er C t : Addr} {B h : Heap}
noncomputable def IsExc (er C : Addr) (h : Heap) : Prop := ∃ oe : Obj, PySem.W.InstAt h er oe C none
noncomputable def ExcAt (er C : Addr) : HO := .ext (IsExc er C)
end

noncomputable def bmV : List Value := [.type "ValueError", .type "Exception", .type "BaseException", .type "object"]
theorem exc_class {prog : Program} {w : World} {A : Around} {E : Value → Shared → Prop} {s : Shared} {K : PySem.W.Frag} {er C : Addr} {oe : Obj} {Q : Option Value → Shared → Prop}
    (ga : PySem.W.findIn K (.ref C) "__getattribute__" = some (some (.builtin "BaseException.__getattribute__"))) (gn : PySem.W.findIn K (.ref C) "__getattr__" = some none)
    (hf : PySem.W.findObj K C none "__class__" = some (.bind (.builtin "getset_descriptor.__get__") (.builtin "object.__class__"))) (mo : PySem.W.mroIn K C (.type "object") = some true) (be : PySem.W.mroIn K C (.type "BaseException") = some true)
    (X : K.In s.heap) (i : PySem.W.InstAt s.heap er oe C none) (q : Q (some (.ref C)) { s with toks := s.toks + 1 }) : wpAny (model prog w) A (getAttr? (.ref er) "__class__") Q E s := by
  obtain ⟨hh, g, d, t, os⟩ := s
  have L0 := i.type (M := model prog w)
  have L1 := PySem.W.looks_findIn (M := model prog w) X ga
  have Internal' := PySem.W.looks_findIn (M := model prog w) X gn
  have L3 := PySem.W.looks_find (M := model prog w) X i hf
  have L4 := PySem.W.looks_mroIn (M := model prog w) X be
  have f3 := PySem.F.attr_ValueError.ga.bind (.ref er)
  unfold getAttr? getAttrBy? getAttrBy
  refine wpAny_bind (wpAny_mkText (wpAny_bind (wpAny_attempt (wpAny_holding (wpAny_bind (L0.at (wpAny_bind (L1.at ?_))))))))
  show wpAny _ _ (getAttrByItsOwn _ _ _ _ _ _) _ _ _
  unfold getAttrByItsOwn hookBefore
  refine wpAny_bind (Internal'.at ?_)
  refine wpAny_bind (wpAny_attempt (wpAny_holding ?_))
  show wpAny _ _ (boundAndCalled _ _ _) _ _ _
  unfold boundAndCalled
  rw [f3]
  refine wpAny_bind (wpAny_pure ?_)
  refine wpAny_call (codeAny_call_builtin PySem.F.attr_ValueError.ga.plain PySem.F.entry_bexc_ga ?_)
  have hk : builtinKind "BaseException.__getattribute__" = some .slot := by decide +kernel
  have hsp : splitId "BaseException.__getattribute__" = some ("BaseException", "__getattribute__") := by decide +kernel
  simp only [checkBuiltinCall, hk, hsp]
  unfold isInstance
  refine wpAny_bind (wpAny_bind (L0.at (L4.at ?_)))
  simp only [Bool.not_true, Bool.false_eq_true, if_false]
  have ha := PySem.F.args_bexc_ga (.ref er) (.str "__class__" t)
  unfold argsOk at ha
  refine wpAny_of_eq (a := ()) ha ?_
  show wpAny _ _ (Builtin.«object.__getattribute__» _) _ _ _
  unfold Builtin.«object.__getattribute__»
  refine wpAny_bind (wpAny_pure ?_)
  refine wpAny_bind (wpAny_pure ?_)
  refine wpAny_bind (L0.at ?_)
  refine wpAny_bind (L3.at ?_)
  show wpAny _ _ (Builtin.ObjectAttr.bindTo _ _ _ _) _ _ _
  unfold Builtin.ObjectAttr.bindTo
  refine wpAny_bind (wpAny_holding (wpAny_call (PySem.W.class_get X i mo ?_)))
  exact wpAny_pure (PySem.W.handed_on rfl (wpAny_pure q))
noncomputable def errOk (K : PySem.W.Frag) (C : Addr) : Bool := PySem.W.excIn K C bmV "ValueError.__new__" && (PySem.W.findIn K (.ref C) "__getattribute__" == some (some (.builtin "BaseException.__getattribute__"))) && (PySem.W.findIn K (.ref C) "__getattr__" == some none) && (PySem.W.mroIn K C (.type "BaseException") == some true) && (PySem.W.clsIn K C).isSome && (PySem.W.findIn K (.ref C) "__class__" == some (some (.builtin "object.__class__"))) &&
  (PySem.W.specialIn K (.builtin "object.__class__") "__get__" == some (some (.builtin "getset_descriptor.__get__"))) && (PySem.W.takesIn K (.builtin "object.__class__") == some true) && (PySem.W.mroIn K C (.type "object") == some true)
theorem kitx_err {K : PySem.W.Frag} {er C : Addr} (h : errOk K C = true) : PySem.W.KitX K (.ref er) (.ref C) (IsExc er C) := by
  unfold errOk at h
  simp only [Bool.and_eq_true, beq_iff_eq] at h
  obtain ⟨⟨⟨⟨⟨⟨⟨⟨_, ga⟩, gn⟩, be⟩, cl⟩, fa⟩, sn⟩, tk⟩, mo⟩ := h
  obtain ⟨cd, hc⟩ := Option.isSome_iff_exists.mp cl
  have there : ∃ o : Obj, K.lookup C = some o ∧ o.data = .cls cd := by
    unfold PySem.W.clsIn at hc
    split at hc
    · rename_i lk; cases hc; exact ⟨_, lk, rfl⟩
    · cases hc
  obtain ⟨o, lk, dt⟩ := there
  refine ⟨fun M h _ ⟨oe, i⟩ => i.type, fun M h X _ A Q E s k q => ?_, fun h tp dd its n sl X e => ?_, fun {prog w A E Q s} X ⟨oe, i⟩ q => ?_⟩
  · have g := k _ _ (X _ _ lk)
    obtain ⟨oc, od, oda, osl⟩ := o
    simp only at dt
    subst dt
    unfold isType loadHead
    exact wpAny_bind (wpAny_loadPart g (wpAny_pure q))
  · rw [Bool.eq_false_iff]
    intro z
    have ec : C = tp := Value.ref.inj (beq_iff_eq.mp z)
    subst ec
    have g := X _ _ lk
    rw [e] at g; cases g; cases dt
  · have hf : PySem.W.findObj K C none "__class__" = some (.bind (.builtin "getset_descriptor.__get__") (.builtin "object.__class__")) := by
      unfold PySem.W.findObj
      rw [hc, Option.bind_some, fa, Option.bind_some]
      simp [sn, tk]
    exact exc_class ga gn hf mo be X i q
noncomputable abbrev Cx.inH (X : Cx) (er : Addr) : Cx := { X with A := X.A.mark (some (.ref er)), calm := false, xe := fun _ _ => False }
section
variable {X : Cx} {pins : List (Addr × Obj)} {σ : St} {H H' : Hp} {s s' : Shared}
noncomputable def Ends.gone (D : Ends) (i : Nat) : Ends := ⟨fun σ H => D.nx (σ.set i none) H, D.rt, fun σ H => D.bk (σ.set i none) H, fun σ H => D.ct (σ.set i none) H⟩
end

noncomputable def rIsiU (K : PySem.W.Frag) : List V → Hp → VK → Prop := fun xs H Q => (∃ er C c cv b, xs = [.ref er, c] ∧ RelV c cv ∧ H er = some (ExcAt er C) ∧ errOk K C = true ∧ PySem.W.kitOne K (.ref C) cv = some b ∧ Q (.bl b) H) ∨ rIsi K xs H Q
theorem call_isiU {X : Cx} : CallR X (.builtin "isinstance") (rIsiU X.K) := by
  refine CallR.or ?_ call_isinst
  intro pins s σ H xs us Q I r h
  obtain ⟨er, C, c, cv, b, rfl, rc, he, ok, hk, q⟩ := h
  obtain ⟨u, w', rfl, r1, r2⟩ := vals2 r
  obtain rfl : u = Value.ref er := r1
  have ie : IsExc er C s.heap := (I.hok er _ he).1
  have ec : w' = cv := by
    cases c with
    | ty n => exact (show w' = _ from r2).trans (show cv = _ from rc).symm
    | ref a => exact (show w' = _ from r2).trans (show cv = _ from rc).symm
    | non => exact (show w' = _ from r2).trans (show cv = _ from rc).symm
    | bl b => exact (show w' = _ from r2).trans (show cv = _ from rc).symm
    | _ => obtain ⟨_, rfl⟩ := rc; simp [PySem.W.kitOne, PySem.W.kitCls] at hk
  subst ec
  exact PySem.W.kia_one (kitx_err ok) I.kIn ie hk (by intro z; cases z) fun tk => ⟨.bl b, H, I.tok tk, rfl, q⟩
theorem x_isU {K : PySem.W.Frag} {xs : List V} {H : Hp} {Q : VK} (q : rIsi K xs H Q) : rIsiU K xs H Q := .inr q
theorem cls_some {K : PySem.W.Frag} {D : Addr} (h : PySem.W.hasDictIn K D = true) : (PySem.W.clsIn K D).isSome = true := by
  obtain ⟨cd, e, _⟩ := PySem.W.any_some h
  rw [e]; rfl
theorem errOk_mk {K : PySem.W.Frag} {C : Addr} (x : PySem.W.excIn K C [.type "ValueError", .type "Exception", .type "BaseException", .type "object"] "ValueError.__new__" = true) (ga : PySem.W.findIn K (.ref C) "__getattribute__" = some (some (.builtin "BaseException.__getattribute__"))) (gn : PySem.W.findIn K (.ref C) "__getattr__" = some none) (be : PySem.W.mroIn K C (.type "BaseException") = some true) (hd : PySem.W.hasDictIn K C = true)
    (fa : PySem.W.findIn K (.ref C) "__class__" = some (some (.builtin "object.__class__"))) (sn : PySem.W.specialIn K (.builtin "object.__class__") "__get__" = some (some (.builtin "getset_descriptor.__get__"))) (tk : PySem.W.takesIn K (.builtin "object.__class__") = some true)
    (mo : PySem.W.mroIn K C (.type "object") = some true) : errOk K C = true := by
  unfold errOk bmV
  rw [x, ga, gn, be, cls_some hd, fa, sn, tk, mo]; simp
theorem kit_self {K : PySem.W.Frag} {C : Addr} : PySem.W.kitOne K (.ref C) (.ref C) = some true := by
  unfold PySem.W.kitOne
  rw [if_pos (by simp)]
end Internal

set_option Elab.async false
set_option linter.all false
set_option maxRecDepth 100000
namespace Internal
open PySem PySem.Spec PyProof.Rows
section
variable {X : Cx}
theorem get_listL : PGet X (rIxL X.K) := by
  intro pins s σ H x y v u Q I rx ry h
  obtain ⟨p, xs, i, z, rfl, rfl, hq, he, q⟩ := h
  cases rx
  obtain ⟨t, rfl⟩ := ry
  obtain ⟨its, r, pl, hz⟩ := I.list hq
  obtain ⟨j, h1, h2, h3, h4, h5⟩ := atI_get he
  obtain ⟨w, ew, rw'⟩ := r.get h2
  have hl := r.length
  have hn := line63
  have fin : EP X pins σ Q w s := ⟨z, H, I, rw', q⟩
  by_cases h0 : 0 ≤ i
  · have hj : i.toNat = j := by
      rw [seqIndex_of h0 h5] at h1
      exact Option.some.inj h1
    exact wpAny_getItem_list pl.isList h0 (by omega) (by rw [hj]; simpa using ew) fin
  · have hj : (i + (its.toArray.size : Int)).toNat = j := by
      rw [seqIndex_neg (by omega) h4] at h1
      rw [List.size_toArray, ← hl]
      exact Option.some.inj h1
    exact wpAny_getItem_list_neg pl.isList (by omega) (by rw [List.size_toArray] <;> omega) (by omega) (by rw [hj]; simpa using ew) fin
end
noncomputable def Src (J : It) (P : Hp → Prop) (n : Nat) (Y : Nat → V → Hp → Prop) : Prop :=
  (∀ i H, P H → i < n → J.go i H) ∧ (∀ H, P H → J.stop n H) ∧ ∀ i H x H', P H → i < n → J.yld i H x H' → Same H H' ∧ Y i x H'
theorem lt_some {α : Type} {xs : List α} {i : Nat} (h : i < xs.length) : ∃ x, xs[i]? = some x := ⟨xs[i], by simp [h]⟩
theorem src_list {K : PySem.W.Frag} {a : Addr} {xs : List V} : Src (Itl K a) (fun H => SqL K H a xs) xs.length (fun i x _ => xs[i]? = some x) :=
  ⟨fun i H h hi => by obtain ⟨x, hx⟩ := lt_some hi; exact ⟨xs, x, h, hx⟩, fun H h => ⟨xs, h, Nat.le_refl _⟩, fun i H x H' h hi ⟨q, r⟩ => by subst q; exact ⟨Same.refl _, r xs h⟩⟩
theorem src_range {lo : Int} {n : Nat} : Src (Itr lo n) (fun _ => True) n (fun i x _ => x = .int (lo + i)) :=
  ⟨fun i H e hi => hi, fun H e => Nat.le_refl _, fun i H x H' e hi ⟨q, r⟩ => by subst q; exact ⟨Same.refl _, r⟩⟩
theorem src_enum {K : PySem.W.Frag} {a : Addr} {xs : List V} : Src (Itn K a) (fun H => SqL K H a xs) xs.length (fun i x H => ∃ p v, x = .ref p ∧ xs[i]? = some v ∧ H p = some (.tup [.int i, v])) :=
  ⟨fun i H h hi => by obtain ⟨x, hx⟩ := lt_some hi; exact ⟨xs, x, h, hx⟩, fun H h => ⟨xs, h, Nat.le_refl _⟩, fun i H x H' h hi ⟨p, v, hp, q, r, z⟩ => by subst z; exact ⟨Same.new hp _, p, v, q, r xs h, upd_same⟩⟩
section
variable {σ : St} {H : Hp} {Q : VK} {D : Ends} {ta tb tc te to ti : TE} {t u : TS} {K : PySem.W.Frag}
theorem x_forS {J : It} {P : Hp → Prop} {n : Nat} {Y : Nat → V → Hp → Prop} {g : TG} {tb : TS} (S : Src J P n Y) (Pv : Nat → St → Hp → Prop) (h0 : Pv 0 σ H) (hk : ∀ i σ H, Pv i σ H → P H)
    (hs : ∀ i x σ H H', i < n → Pv i σ H → Same H H' → Y i x H' → g x σ H' fun σ2 H2 => tb { D with nx := Pv (i + 1), ct := Pv (i + 1), bk := D.nx } σ2 H2) (hd : ∀ σ H, Pv n σ H → D.nx σ H) : ForK J g tb D σ H := by
  refine ⟨fun i m σ H => m = n - i ∧ i ≤ n ∧ Pv i σ H, ⟨n, by simp, Nat.zero_le _, h0⟩, ?_⟩
  rintro i m σ H ⟨rfl, hi, p⟩
  by_cases hlt : i < n
  · refine .inr ⟨S.1 i H (hk i σ H p) hlt, Pv (i + 1), fun σ' H' q => ⟨n - (i + 1), by omega, rfl, hlt, q⟩, fun x H' y => ?_⟩
    obtain ⟨e, y'⟩ := S.2.2 i H x H' (hk i σ H p) hlt y
    exact hs i x σ H H' hlt p e y'
  · have : i = n := by omega
    subst this
    exact .inl ⟨S.2.1 H (hk i σ H p), hd σ H p⟩
noncomputable def CompK (J : It) (caps : List (Option Nat)) (g : TG) (tf : TT) (te : TE) (σ : St) (Q : VK) (H1 : Hp) : Prop := ∀ D, H1 D = none →
  ∃ W : Nat → Nat → St → Hp → Prop, (∃ m, W 0 m (capSt caps σ) (upd H1 D (.lst []))) ∧ ∀ i m σ' H', W i m σ' H' →
    (J.stop i H' ∧ Q (.ref D) H') ∨ (J.go i H' ∧ ∃ N : St → Hp → Prop, (∀ σ2 H2, N σ2 H2 → ∃ m', m' < m ∧ W (i + 1) m' σ2 H2) ∧
      ∀ x H2, J.yld i H' x H2 → g x σ' H2 fun σ1 H3 => tf σ1 H3 fun b H4 => if b = true then te σ1 H4 fun v H5 => rAppend (.ref D) [v] H5 fun _ H6 => N σ1 H6 else N σ1 H4)
theorem x_comp {wi : TI} {caps : List (Option Nat)} {g : TG} {tf : TT} {te : TE} (q : wi σ H fun J H1 => CompK J caps g tf te σ Q H1) : tComp wi caps g tf te σ H Q := q
theorem x_yes {T : Bool → Hp → Prop} (q : T true H) : tYes σ H T := q
noncomputable def CompN (H : Hp) (Sv : St → Prop) (Pv : Nat → List V → Hp → Prop) (D : Addr) (i : Nat) (σ' : St) (H' : Hp) : Prop := Sv σ' ∧ Same H H' ∧ ∃ vs, H' D = some (.lst vs) ∧ vs.length ≤ i ∧ Pv i vs H'
theorem x_compS {J : It} {P : Hp → Prop} {n : Nat} {Y : Nat → V → Hp → Prop} {caps : List (Option Nat)} {g : TG} {tf : TT} {te : TE} (S : Src J P n Y) (e0 : ∀ H', Same H H' → P H') (Sv : St → Prop) (Pv : Nat → List V → Hp → Prop) (hc : Sv (capSt caps σ)) (h0 : ∀ H', Same H H' → Pv 0 [] H')
    (hs : ∀ i x D vs σ' H' H2, i < n → H D = none → Sv σ' → Same H H' → H' D = some (.lst vs) → vs.length ≤ i → Pv i vs H' → Same H' H2 → Y i x H2 → g x σ' H2 fun σ1 H3 => tf σ1 H3 fun b H4 => if b = true then te σ1 H4 fun v H5 => rAppend (.ref D) [v] H5 fun _ H6 => CompN H Sv Pv D (i + 1) σ1 H6 else CompN H Sv Pv D (i + 1) σ1 H4)
    (hq : ∀ D H' vs, H D = none → Same H H' → H' D = some (.lst vs) → vs.length ≤ n → Pv n vs H' → Q (.ref D) H') : CompK J caps g tf te σ Q H := by
  intro D hD
  refine ⟨fun i m σ' H' => m = n - i ∧ i ≤ n ∧ CompN H Sv Pv D i σ' H', ⟨n, by simp, Nat.zero_le _, hc, Same.new hD _, [], upd_same, Nat.le_refl _, h0 _ (Same.new hD _)⟩, ?_⟩
  rintro i m σ' H' ⟨rfl, hi, sv, e, vs, hv, hl, p⟩
  by_cases hlt : i < n
  · refine .inr ⟨S.1 i H' (e0 _ e) hlt, CompN H Sv Pv D (i + 1), fun σ2 H2 q => ⟨n - (i + 1), by omega, rfl, hlt, q⟩, fun x H2 y => ?_⟩
    obtain ⟨e', y'⟩ := S.2.2 i H' x H2 (e0 _ e) hlt y
    exact hs i x D vs σ' H' H2 hlt hD sv e hv hl p e' y'
  · have : i = n := by omega
    subst this
    exact .inl ⟨S.2.1 H' (e0 _ e), hq D H' vs hD e hv hl p⟩
theorem x_compS1 {J : It} {P : Hp → Prop} {n : Nat} {Y : Nat → V → Hp → Prop} {caps : List (Option Nat)} {g : TG} {tf : TT} {te : TE} {rest : St} (S : Src J P n Y) (e0 : ∀ H', Same H H' → P H') (hc : capSt caps σ = none :: rest) (Pv : Nat → List V → Hp → Prop) (h0 : ∀ H', Same H H' → Pv 0 [] H')
    (hs : ∀ i x D vs o H' H2, i < n → H D = none → Same H H' → H' D = some (.lst vs) → vs.length ≤ i → Pv i vs H' → Same H' H2 → Y i x H2 → g x (o :: rest) H2 fun σ1 H3 => tf σ1 H3 fun b H4 => if b = true then te σ1 H4 fun v H5 => rAppend (.ref D) [v] H5 fun _ H6 => CompN H (fun σ' => ∃ o, σ' = o :: rest) Pv D (i + 1) σ1 H6 else CompN H (fun σ' => ∃ o, σ' = o :: rest) Pv D (i + 1) σ1 H4)
    (hq : ∀ D H' vs, H D = none → Same H H' → H' D = some (.lst vs) → vs.length ≤ n → Pv n vs H' → Q (.ref D) H') : CompK J caps g tf te σ Q H :=
  x_compS S e0 (fun σ' => ∃ o, σ' = o :: rest) Pv ⟨_, hc⟩ h0 (fun i x D vs σ' H' H2 a1 a2 ⟨o, a3⟩ a4 a5 a6 a7 a8 a9 => by subst a3; exact hs i x D vs o H' H2 a1 a2 a4 a5 a6 a7 a8 a9) hq
theorem x_compS2 {J : It} {P : Hp → Prop} {n : Nat} {Y : Nat → V → Hp → Prop} {caps : List (Option Nat)} {g : TG} {tf : TT} {te : TE} {rest : St} (S : Src J P n Y) (e0 : ∀ H', Same H H' → P H') (hc : capSt caps σ = none :: none :: rest) (Pv : Nat → List V → Hp → Prop) (h0 : ∀ H', Same H H' → Pv 0 [] H')
    (hs : ∀ i x D vs o o' H' H2, i < n → H D = none → Same H H' → H' D = some (.lst vs) → vs.length ≤ i → Pv i vs H' → Same H' H2 → Y i x H2 → g x (o :: o' :: rest) H2 fun σ1 H3 => tf σ1 H3 fun b H4 => if b = true then te σ1 H4 fun v H5 => rAppend (.ref D) [v] H5 fun _ H6 => CompN H (fun σ' => ∃ o o', σ' = o :: o' :: rest) Pv D (i + 1) σ1 H6 else CompN H (fun σ' => ∃ o o', σ' = o :: o' :: rest) Pv D (i + 1) σ1 H4)
    (hq : ∀ D H' vs, H D = none → Same H H' → H' D = some (.lst vs) → vs.length ≤ n → Pv n vs H' → Q (.ref D) H') : CompK J caps g tf te σ Q H :=
  x_compS S e0 (fun σ' => ∃ o o', σ' = o :: o' :: rest) Pv ⟨_, _, hc⟩ h0 (fun i x D vs σ' H' H2 a1 a2 ⟨o, o', a3⟩ a4 a5 a6 a7 a8 a9 => by subst a3; exact hs i x D vs o o' H' H2 a1 a2 a4 a5 a6 a7 a8 a9) hq
theorem x_enumk {R : It → Hp → Prop} {a : Addr} {xs : List V} (h : SqL K H a xs) (q : R (Itn K a) H) : rEnum K R [.ref a] H := ⟨a, rfl, ⟨xs, h⟩, q⟩
theorem x_gTup {a : Addr} {xs : List V} {n : Nat} {t : TGs} {R : St → Hp → Prop} (h : H a = some (.tup xs)) (hn : xs.length = n) (q : t xs σ H R) : gTup K n t (.ref a) σ H R := ⟨a, xs, rfl, SqT.of h, hn, q⟩
theorem x_gCons {v : V} {r : List V} {t : TG} {u : TGs} {R : St → Hp → Prop} (q : t v σ H fun σ' H' => u r σ' H' R) : gCons t u (v :: r) σ H R := ⟨v, r, rfl, q⟩
theorem x_gNil {R : St → Hp → Prop} (q : R σ H) : gNil [] σ H R := ⟨rfl, q⟩
theorem x_ip {f : Int → Int → Int} {i j : Int} (q : Q (.int (f i j)) H) : ipI f (.int i) (.int j) H Q := ⟨i, j, rfl, rfl, q⟩
theorem x_augS {tget : V → V → Hp → VK → Prop} {tip : TIp} {tset : TSet} (q : to σ H fun o H1 => ti σ H1 fun i H2 => tget o i H2 fun x H3 => te σ H3 fun y H4 => tip x y H4 fun z H5 => tset o i z H5 fun H6 => D.nx σ H6) : tAugS to ti te tget tip tset D σ H := q
theorem x_getL {a : Addr} {xs : List V} {i : Int} {v : V} (h : SqL K H a xs) (e : atI xs i = some v) (q : Q v H) : rIxL K (.ref a) (.int i) H Q := ⟨a, xs, i, v, rfl, rfl, h, e, q⟩
theorem x_rep0 {l : Addr} {x : V} {k : Int} (h : H l = some (.lst [x])) (h0 : 0 ≤ k) (h1 : k ≤ 100000) (q : ∀ p H', H p = none → Same H H' → H' p = some (.lst (List.replicate k.toNat x)) → Q (.ref p) H') : rMulU (.ref l) (.int k) H Q :=
  .inr ⟨l, k, [x], rfl, rfl, h, by omega, by omega, by have := small_le (n := k.toNat) (by omega); simpa using this, fun p hp => by
    have e : (List.replicate k.toNat [x]).flatten = List.replicate k.toNat x := by
      generalize k.toNat = n
      induction n with
      | zero => rfl
      | succ n ih => rw [List.replicate_succ, List.flatten_cons, ih, List.replicate_succ]; rfl
    rw [e]
    exact q p _ hp (Same.new hp _) upd_same⟩
theorem x_sum {a : Addr} {ns : List Int} (h : SqL K H a (ns.map V.int)) (q : Q (.int (sumI ns)) H) : rSum K [.ref a] H Q := ⟨a, ns, rfl, h, q⟩
end
theorem x_iteY {p : Prop} [Decidable p] {A B : Prop} (h : p) (a : A) : if decide p = true then A else B := by rw [decide_eq_true h]; exact x_iteT a
theorem x_iteZ {p : Prop} [Decidable p] {A B : Prop} (h : ¬ p) (b : B) : if decide p = true then A else B := by rw [decide_eq_false h]; exact x_iteF b
section
variable {α : Type} {f : α → List V}
noncomputable def IsTs (f : α → List V) (H : Hp) : List V → List α → Prop
  | [], [] => True
  | v :: vs, x :: xs => (∃ a, v = .ref a ∧ H a = some (.tup (f x))) ∧ IsTs f H vs xs
  | _, _ => False
noncomputable def Tups (H H' : Hp) : Prop := ∀ a xs, H a = some (.tup xs) → H' a = some (.tup xs)
theorem Same.tups {H H' : Hp} (e : Same H H') : Tups H H' := fun a xs h => e a _ h
theorem LBut.tups {l : Addr} {H H' : Hp} (e : LBut l H H') : Tups H H' := fun a xs h => e.tup h
theorem IsTs.keep {H H' : Hp} (e : Tups H H') : ∀ {vs : List V} {xs : List α}, IsTs f H vs xs → IsTs f H' vs xs
  | [], [], _ => trivial
  | _ :: _, _ :: _, ⟨⟨a, q, h⟩, r⟩ => ⟨⟨a, q, e a _ h⟩, r.keep e⟩
theorem IsTs.same {H H' : Hp} {vs : List V} {xs : List α} (h : IsTs f H vs xs) (e : Same H H') : IsTs f H' vs xs := h.keep e.tups
theorem Same.isTs {H H' : Hp} {vs : List V} {xs : List α} (e : Same H H') (h : IsTs f H vs xs) : IsTs f H' vs xs := h.keep e.tups
theorem LBut.isTs {l : Addr} {H H' : Hp} {vs : List V} {xs : List α} (e : LBut l H H') (h : IsTs f H vs xs) : IsTs f H' vs xs := h.keep e.tups
theorem IsTs.length {H : Hp} : ∀ {vs : List V} {xs : List α}, IsTs f H vs xs → vs.length = xs.length
  | [], [], _ => rfl
  | _ :: _, _ :: _, ⟨_, r⟩ => by rw [List.length_cons, List.length_cons, r.length]
theorem IsTs.app {H : Hp} {a : Addr} {x : α} (h : H a = some (.tup (f x))) : ∀ {vs : List V} {xs : List α}, IsTs f H vs xs → IsTs f H (vs ++ [.ref a]) (xs ++ [x])
  | [], [], _ => ⟨⟨a, rfl, h⟩, trivial⟩
  | _ :: _, _ :: _, ⟨q, r⟩ => ⟨q, r.app h⟩
theorem IsTs.get {H : Hp} : ∀ {vs : List V} {xs : List α} {i : Nat} {v : V}, IsTs f H vs xs → vs[i]? = some v → ∃ a x, v = .ref a ∧ xs[i]? = some x ∧ H a = some (.tup (f x))
  | _ :: _, x :: _, 0, _, ⟨⟨a, q, h⟩, _⟩, e => by cases e; exact ⟨a, x, q, rfl, h⟩
  | _ :: _, _ :: _, i + 1, _, ⟨_, r⟩, e => by obtain ⟨a, x, q, e', h⟩ := r.get (i := i) e; exact ⟨a, x, q, e', h⟩
theorem IsTs.getI {H : Hp} {vs : List V} {xs : List α} {i : Nat} {x : α} (h : IsTs f H vs xs) (e : xs[i]? = some x) : ∃ a, vs[i]? = some (.ref a) ∧ H a = some (.tup (f x)) := by
  have hi : i < vs.length := by rw [h.length]; exact (List.getElem?_eq_some_iff.mp e).1
  obtain ⟨v, hv⟩ := lt_some hi
  obtain ⟨a, y, q, e', h'⟩ := h.get hv
  rw [e] at e'; cases e'
  exact ⟨a, by rw [hv, q], h'⟩
theorem IsTs.rep {K : PySem.W.Frag} {H : Hp} {d : α → List PyData} (hd : ∀ x, RepAll K H (f x) (d x)) : ∀ {vs : List V} {xs : List α}, IsTs f H vs xs → RepAll K H vs (xs.map fun x => .tuple (d x))
  | [], [], _ => .nil
  | _ :: _, _ :: _, ⟨⟨a, q, h⟩, r⟩ => by subst q; exact .cons (.tup (.of h) (hd _)) (r.rep hd)
end
noncomputable def vec (n : Nat) (f : Nat → Int) : List Int := (List.range n).map f
theorem vec_len {n : Nat} {f : Nat → Int} : (vec n f).length = n := by simp [vec]
theorem vec_get {n i : Nat} {f : Nat → Int} (h : i < n) : (vec n f)[i]? = some (f i) := by simp [vec, h]
theorem vec_congr {n : Nat} {f g : Nat → Int} (h : ∀ i, i < n → f i = g i) : vec n f = vec n g := by
  unfold vec; exact List.map_congr_left fun i hi => h i (List.mem_range.mp hi)
theorem vec_set {n j : Nat} {f : Nat → Int} {v : Int} : (vec n f).set j v = vec n (fun i => if i = j then v else f i) := by
  refine List.ext_getElem? fun i => ?_
  rw [List.getElem?_set]
  by_cases hi : i < n
  · rw [vec_get hi, vec_get hi, vec_len]
    by_cases e : j = i
    · subst e; simp [hi]
    · rw [if_neg e, if_neg (Ne.symm e)]
  · have h1 : (vec n f)[i]? = none := by rw [List.getElem?_eq_none_iff, vec_len]; omega
    have h2 : ∀ g, (vec n g)[i]? = none := fun g => by rw [List.getElem?_eq_none_iff, vec_len]; omega
    rw [h1, h2, vec_len]
    by_cases e : j = i
    · subst e; simp [hi]
    · rw [if_neg e]
theorem vec_succ {n : Nat} {f : Nat → Int} : vec (n + 1) f = vec n f ++ [f n] := by unfold vec; rw [List.range_succ, List.map_append]; rfl
theorem vec_rep {n : Nat} {c : Int} : List.replicate n (V.int c) = (vec n fun _ => c).map V.int := by
  refine List.ext_getElem? fun i => ?_
  rw [List.getElem?_replicate, List.getElem?_map]
  by_cases hi : i < n
  · rw [vec_get hi, if_pos hi]; rfl
  · have h2 : (vec n fun _ => c)[i]? = none := by rw [List.getElem?_eq_none_iff, vec_len]; omega
    rw [h2, if_neg hi]; rfl
theorem ints_at {ns : List Int} {k : Int} {v : Int} (h0 : 0 ≤ k) (h : ns[k.toNat]? = some v) : atI (ns.map V.int) k = some (.int v) := atI_lt h0 (by rw [List.getElem?_map, h]; rfl)
theorem vec_at {n : Nat} {f : Nat → Int} {k : Int} (h0 : 0 ≤ k) (h : k < n) : atI ((vec n f).map V.int) k = some (.int (f k.toNat)) := ints_at h0 (vec_get (by omega))
theorem ints_set {ns : List Int} {j : Nat} {v : Int} : (ns.map V.int).set j (.int v) = (ns.set j v).map V.int := by rw [List.map_set]
theorem vec_put {n j : Nat} {f : Nat → Int} {v : Int} : ((vec n f).map V.int).set j (.int v) = (vec n (fun i => if i = j then v else f i)).map V.int := by rw [ints_set, vec_set]
theorem ixN_vec {n : Nat} {f : Nat → Int} {k : Int} (h0 : 0 ≤ k) (h : k < n) : ixN ((vec n f).map V.int).length k = some k.toNat := by
  rw [List.length_map, vec_len]; exact ixN_lt h0 h
theorem rep_ints {K : PySem.W.Frag} {H : Hp} : ∀ ns : List Int, RepAll K H (ns.map V.int) (ns.map PyData.int)
  | [] => .nil
  | n :: ns => .cons (.int n) (rep_ints ns)
theorem depth_ints : ∀ ns : List Int, PyData.depthAll (ns.map PyData.int) = 0
  | [] => by simp [PyData.depthAll]
  | n :: ns => by rw [List.map_cons, PyData.depthAll, depth_ints ns]; simp [PyData.depth]
theorem lay_ints : ∀ ns : List Int, PyData.canLayAll0 (ns.map PyData.int) = true
  | [] => by simp [PyData.canLayAll0]
  | n :: ns => by rw [List.map_cons, PyData.canLayAll0, lay_ints ns]; simp [PyData.canLay0]
theorem depth_list {ds : List PyData} : (PyData.list ds).depth = PyData.depthAll ds + 1 := by simp [PyData.depth]; try omega
section
variable {H : Hp} {Q : VK} {K : PySem.W.Frag}
theorem eqv_intsT {ns ms : List Int} (h : ns = ms) : PyData.eqv (.list (ns.map PyData.int)) (.list (ms.map PyData.int)) = true := by
  subst h; exact PySem.SeqAt.eqv_refl _ (by rw [PyData.canLay0]; exact lay_ints ns)
theorem x_neInts {a b : Addr} {ns ms : List Int} (h1 : SqL K H a (ns.map V.int)) (h2 : SqL K H b (ms.map V.int)) (e : ns = ms) (q : Q (.bl false) H) : rNeU K (.ref a) (.ref b) H Q :=
  x_neD (.lst h1 (rep_ints ns)) (.lst h2 (rep_ints ms)) (by rw [depth_list, depth_ints]; omega) (by rw [eqv_intsT e]; exact q)
end
end Internal

set_option Elab.async false
set_option linter.all false
set_option maxRecDepth 100000
namespace Internal
open PySem PySem.Spec PyProof.Rows
section
variable {σ : St} {H : Hp} {Q : VK} {D : Ends} {K : PySem.W.Frag}
theorem x_getVec {l : Addr} {n : Nat} {f : Nat → Int} {k : Int} (h : H l = some (.lst ((vec n f).map V.int))) (h0 : 0 ≤ k) (h1 : k < n) (q : Q (.int (f k.toNat)) H) : rIxL K (.ref l) (.int k) H Q := x_getL (.of h) (vec_at h0 h1) q
theorem x_ixVec {l : Addr} {n : Nat} {f : Nat → Int} {k : Int} (h : H l = some (.lst ((vec n f).map V.int))) (h0 : 0 ≤ k) (h1 : k < n) (q : Q (.int (f k.toNat)) H) : rIx K (.ref l) (.int k) H Q := x_ixLs h (vec_at h0 h1) q
theorem x_setVec {l : Addr} {n : Nat} {f : Nat → Int} {k v : Int} {R : Hp → Prop} (h : H l = some (.lst ((vec n f).map V.int))) (h0 : 0 ≤ k) (h1 : k < n)
    (q : ∀ H', LBut l H H' → H' l = some (.lst ((vec n fun i => if i = k.toNat then v else f i).map V.int)) → R H') : rSetL (.ref l) (.int k) (.int v) H R := by
  refine x_setN h (ixN_vec h0 h1) fun H' b e => q H' b ?_
  rw [e, vec_put]
theorem x_ixTs {a : Addr} {xs : List V} {i : Int} {v : V} (h : H a = some (.tup xs)) (e : atI xs i = some v) (q : Q v H) : rIx K (.ref a) (.int i) H Q := x_ixT (.of h) e q
theorem x_repVec {l : Addr} {c k : Int} (h : H l = some (.lst [.int c])) (h0 : 0 ≤ k) (h1 : k ≤ 100000) (q : ∀ p H', H p = none → Same H H' → H' p = some (.lst ((vec k.toNat fun _ => c).map V.int)) → Q (.ref p) H') : rMulU (.ref l) (.int k) H Q :=
  x_rep0 h h0 h1 fun p H' a b c => q p H' a b (by rw [c, vec_rep])
theorem CompN.int {Sv : St → Prop} {D : Addr} {i : Nat} {σ' : St} {H6 : Hp} {f : Nat → Int} {v : Int} (sv : Sv σ') (e : Same H H6) (h : H6 D = some (.lst ((vec i f).map V.int ++ [.int v]))) (hv : v = f i) : CompN H Sv (fun i vs _ => vs = (vec i f).map V.int) D (i + 1) σ' H6 :=
  ⟨sv, e, _, h, by simp [vec_len], by show _ ++ [V.int v] = List.map V.int (vec (i + 1) f); rw [hv, vec_succ, List.map_append]; rfl⟩
end
theorem x_comp0 {H : Hp} {Q : VK} {σ : St} {lo : Int} {n : Nat} {caps : List (Option Nat)} {c : Int} {rest : St} (hc : capSt caps σ = none :: rest) (hn : n ≤ 100000) (q : ∀ p H', H p = none → Same H H' → H' p = some (.lst ((vec n fun _ => c).map V.int)) → Q (.ref p) H') : CompK (Itr lo n) caps (gName 0) tYes (tC (.int c)) σ Q H := by
  refine x_compS1 src_range (fun _ _ => trivial) hc (fun i vs _ => vs = (vec i fun _ => c).map V.int) (fun _ _ => rfl) ?_ ?_
  · rintro i x D vs o H' H2 hi hD e hv hvl rfl e2 rfl
    refine x_gName (x_yes (x_iteT (x_c (x_appN (e2.at hv) (by omega) fun H6 b h6 => ?_))))
    exact CompN.int ⟨_, rfl⟩ (b.same (e.trans e2) hD) h6 rfl
  · rintro D H' vs hD e hv hvl rfl
    exact q D H' hD e hv
noncomputable def NewL (H : Hp) (Q : VK) (ns : List Int) : Prop := ∀ p H', H p = none → Same H H' → H' p = some (.lst (ns.map V.int)) → Q (.ref p) H'
set_option genInjectivity false in
set_option genSizeOf false in
structure Due where
  p : Int
  q : Int
  r : Int
  a : Int
noncomputable def dueV (d : Due) : List V := [.int d.p, .int d.q, .int d.r, .int d.a]
noncomputable def dueD (d : Due) : List PyData := [.int d.p, .int d.q, .int d.r, .int d.a]
noncomputable def DueOk (n : Int) (d : Due) : Prop := 0 ≤ d.p ∧ d.p < n ∧ 0 ≤ d.q ∧ d.q < n ∧ d.p ≠ d.q ∧ 0 ≤ d.r ∧ d.r < 3 ∧ 0 ≤ d.a ∧ d.a ≤ 100000000000000
noncomputable def IsSh (K : PySem.W.Frag) (H : Hp) (a : Addr) (ds : List Due) : Prop := ∃ vs, SqL K H a vs ∧ IsTs dueV H vs ds
theorem IsSh.same {K : PySem.W.Frag} {H H' : Hp} {a : Addr} {ds : List Due} (h : IsSh K H a ds) (e : Same H H') : IsSh K H' a ds := by
  obtain ⟨vs, h1, h2⟩ := h; exact ⟨vs, e.seq h1, h2.same e⟩
theorem Same.isSh {K : PySem.W.Frag} {H H' : Hp} {a : Addr} {ds : List Due} (e : Same H H') (h : IsSh K H a ds) : IsSh K H' a ds := h.same e
theorem dues_rep {K : PySem.W.Frag} {H : Hp} {vs : List V} {ds : List Due} (h : IsTs dueV H vs ds) : RepAll K H vs (ds.map fun d => .tuple (dueD d)) :=
  h.rep fun d => .cons (.int _) (.cons (.int _) (.cons (.int _) (.cons (.int _) .nil)))
theorem depth_due (d : Due) : (PyData.tuple (dueD d)).depth = 1 := by simp [dueD, PyData.depth, PyData.depthAll]
theorem depth_dues : ∀ ds : List Due, PyData.depthAll (ds.map fun d => .tuple (dueD d)) ≤ 1
  | [] => by simp [PyData.depthAll]
  | d :: ds => by
    have := depth_dues ds
    rw [List.map_cons, PyData.depthAll, depth_due]
    omega
theorem lay_dues : ∀ ds : List Due, PyData.canLayAll0 (ds.map fun d => .tuple (dueD d)) = true
  | [] => by simp [PyData.canLayAll0]
  | d :: ds => by rw [List.map_cons, PyData.canLayAll0, lay_dues ds]; simp [dueD, PyData.canLay0, PyData.canLayAll0]
theorem x_neSh {K : PySem.W.Frag} {H : Hp} {Q : VK} {a b : Addr} {ds es : List Due} (h1 : IsSh K H a ds) (h2 : IsSh K H b es) (e : ds = es) (q : Q (.bl false) H) : rNeU K (.ref a) (.ref b) H Q := by
  subst e
  obtain ⟨vs, s1, t1⟩ := h1
  obtain ⟨ws, s2, t2⟩ := h2
  refine x_neD (.lst s1 (dues_rep t1)) (.lst s2 (dues_rep t2)) (by have := depth_dues ds; rw [depth_list]; omega) ?_
  rw [PySem.SeqAt.eqv_refl _ (by rw [PyData.canLay0]; exact lay_dues ds)]
  exact q
noncomputable def owesF (ds : List Due) (m : Nat) : Int := ds.foldl (fun (s : Int) (d : Due) => if d.p = (m : Int) then s + d.a else s) 0
noncomputable def claimsF (ds : List Due) (m : Nat) : Int := ds.foldl (fun (s : Int) (d : Due) => if d.q = (m : Int) then s + d.a else s) 0
noncomputable def netsF (ds : List Due) (m : Nat) : Int := claimsF ds m - owesF ds m
theorem owesF_snoc (ds : List Due) (d : Due) (m : Nat) : owesF (ds ++ [d]) m = if d.p = (m : Int) then owesF ds m + d.a else owesF ds m := by unfold owesF; rw [List.foldl_append]; rfl
theorem take_snoc {α : Type} {xs : List α} {i : Nat} {x : α} (h : xs[i]? = some x) : xs.take (i + 1) = xs.take i ++ [x] := by
  obtain ⟨hi, rfl⟩ := List.getElem?_eq_some_iff.mp h
  exact List.take_succ_eq_append_getElem hi
noncomputable def spOwes (K : PySem.W.Frag) : Sp := fun vs H Q _ => ∃ n a ds, vs = [.int n, .ref a] ∧ IsSh K H a ds ∧ 0 ≤ n ∧ n ≤ 1000 ∧ (∀ d ∈ ds, DueOk n d) ∧ NewL H Q (vec n.toNat (owesF ds))
section
variable {K : PySem.W.Frag} {H : Hp} {Q : VK} {E : XK} {n : Int} {a : Addr} {ds : List Due}
theorem spOwes_i (h : IsSh K H a ds) (h0 : 0 ≤ n) (h1 : n ≤ 1000) (hd : ∀ d ∈ ds, DueOk n d) (q : ∀ p H', H p = none → Same H H' → H' p = some (.lst ((vec n.toNat (owesF ds)).map V.int)) → Q (.ref p) H') : spOwes K [.int n, .ref a] H Q E := ⟨n, a, ds, rfl, h, h0, h1, hd, q⟩
end
end Internal

set_option Elab.async false
set_option linter.all false
set_option maxRecDepth 100000
namespace Internal
open PySem PySem.Spec PyProof.Rows
noncomputable def Rows (H : Hp) (as : List Addr) (k : Nat) (F : Nat → Nat → Int) : Prop := as.Nodup ∧ ∀ i a, as[i]? = some a → H a = some (.lst ((vec k (F i)).map V.int))
section
variable {H H' : Hp} {as bs : List Addr} {k : Nat} {F G : Nat → Nat → Int} {K : PySem.W.Frag} {Q : VK}
theorem Rows.same (h : Rows H as k F) (e : Same H H') : Rows H' as k F := ⟨h.1, fun i a q => e _ _ (h.2 i a q)⟩
theorem Rows.mem (h : Rows H as k F) {a : Addr} (m : a ∈ as) : ∃ i, i < as.length ∧ as[i]? = some a ∧ H a = some (.lst ((vec k (F i)).map V.int)) := by
  obtain ⟨i, hi, e⟩ := List.getElem_of_mem m
  have : as[i]? = some a := by rw [List.getElem?_eq_some_iff]; exact ⟨hi, e⟩
  exact ⟨i, hi, this, h.2 i a this⟩
theorem Rows.but {l : Addr} (h : Rows H as k F) (g : LBut l H H') (n : l ∉ as) : Rows H' as k F :=
  ⟨h.1, fun i a q => g.lst (h.2 i a q) fun z => n (z ▸ List.mem_of_getElem? q)⟩
theorem nodup_get {i j : Nat} {a : Addr} (n : as.Nodup) (h : as[i]? = some a) (h' : as[j]? = some a) : i = j := by
  obtain ⟨hi, e⟩ := List.getElem?_eq_some_iff.mp h
  obtain ⟨hj, e'⟩ := List.getElem?_eq_some_iff.mp h'
  exact (List.getElem_inj n).mp (e.trans e'.symm)
theorem Rows.set {j : Nat} {a : Addr} {f : Nat → Int} (h : Rows H as k F) (g : LBut a H H') (ha : as[j]? = some a) (q : H' a = some (.lst ((vec k f).map V.int))) : Rows H' as k (fun i => if i = j then f else F i) := by
  refine ⟨h.1, fun i b hb => ?_⟩
  by_cases e : i = j
  · subst e
    rw [ha] at hb; cases hb
    show H' a = some (.lst ((vec k (if i = i then f else F i)).map V.int))
    rw [if_pos rfl]; exact q
  · show H' b = some (.lst ((vec k (if i = j then f else F i)).map V.int))
    rw [if_neg e]
    refine g.lst (h.2 i b hb) fun z => e ?_
    subst z
    exact nodup_get h.1 hb ha
theorem Rows.congr (h : Rows H as k F) (e : ∀ i, i < as.length → ∀ j, j < k → F i j = G i j) : Rows H as k G := by
  refine ⟨h.1, fun i a q => ?_⟩
  have hi : i < as.length := (List.getElem?_eq_some_iff.mp q).1
  rw [h.2 i a q, vec_congr fun j hj => e i hi j hj]
theorem Rows.app {p : Addr} (h : Rows H as k F) (n : p ∉ as) (hp : H p = some (.lst ((vec k (F as.length)).map V.int))) : Rows H (as ++ [p]) k F := by
  refine ⟨List.nodup_append.mpr ⟨h.1, by simp, fun a ha b hb e => n (by rw [List.mem_singleton] at hb; subst hb; subst e; exact ha)⟩, fun i a q => ?_⟩
  rw [List.getElem?_append] at q
  split at q
  · exact h.2 i a q
  · rename_i hi
    have hi' : i - as.length = 0 := by
      cases e : i - as.length with
      | zero => rfl
      | succ m => rw [e] at q; cases q
    rw [hi'] at q; cases q
    have : i = as.length := by omega
    subst this; exact hp
theorem Rows.ne {D : Addr} (h : Rows H as k F) (hk : 0 < k) (hD : H D = some (.lst (as.map V.ref))) : D ∉ as := fun m => by
  obtain ⟨i, hi, q, e⟩ := h.mem m
  rw [hD] at e
  have e' : as.map V.ref = (vec k (F i)).map V.int := by simpa using e
  cases as with
  | nil => cases m
  | cons x xs =>
    cases k with
    | zero => omega
    | succ k =>
      have := congrArg (·[0]?) e'
      simp [vec] at this
theorem Rows.fresh {p : Addr} (h : Rows H as k F) (hp : H p = none) : p ∉ as := fun m => by
  obtain ⟨i, _, _, e⟩ := h.mem m
  rw [hp] at e; cases e
theorem x_ixRow {l a : Addr} {p : Int} (h : H l = some (.lst (as.map V.ref))) (h0 : 0 ≤ p) (e : as[p.toNat]? = some a) (q : Q (.ref a) H) : rIx K (.ref l) (.int p) H Q := x_ixLs h (atI_lt h0 (by rw [List.getElem?_map, e]; rfl)) q
end
noncomputable def rankF (ds : List Due) (m r : Nat) : Int := ds.foldl (fun (s : Int) (d : Due) => if d.p = (m : Int) ∧ d.r = (r : Int) then s + d.a else s) 0
theorem rankF_snoc (ds : List Due) (d : Due) (m r : Nat) : rankF (ds ++ [d]) m r = if d.p = (m : Int) ∧ d.r = (r : Int) then rankF ds m r + d.a else rankF ds m r := by unfold rankF; rw [List.foldl_append]; rfl
theorem rank_step {ds : List Due} {d : Due} (p0 : 0 ≤ d.p) (r0 : 0 ≤ d.r) (m r : Nat) : (if m = d.p.toNat then fun i => if i = d.r.toNat then rankF ds d.p.toNat d.r.toNat + d.a else rankF ds d.p.toNat i else rankF ds m) r = rankF (ds ++ [d]) m r := by
  rw [rankF_snoc]
  by_cases e : m = d.p.toNat
  · rw [if_pos e]
    by_cases e' : r = d.r.toNat
    · rw [if_pos (show d.p = (m : Int) ∧ d.r = (r : Int) by omega)]
      show (if r = d.r.toNat then _ else _) = _
      rw [if_pos e', e, e']
    · rw [if_neg (show ¬ (d.p = (m : Int) ∧ d.r = (r : Int)) by omega)]
      show (if r = d.r.toNat then _ else _) = _
      rw [if_neg e', e]
  · rw [if_neg e, if_neg (show ¬ (d.p = (m : Int) ∧ d.r = (r : Int)) by omega)]
noncomputable def spRanked (K : PySem.W.Frag) : Sp := fun vs H Q _ => ∃ n a ds, vs = [.int n, .ref a] ∧ IsSh K H a ds ∧ 0 ≤ n ∧ n ≤ 1000 ∧ (∀ d ∈ ds, DueOk n d) ∧
  ∀ l H' as, H l = none → Same H H' → H' l = some (.lst (List.map V.ref as)) → as.length = n.toNat → Rows H' as 3 (rankF ds) → (∀ b ∈ as, H b = none) → Q (.ref l) H'
theorem spRanked_i {K : PySem.W.Frag} {n : Int} {a : Addr} {ds : List Due} {H : Hp} {Q : VK} {E : XK} (h : IsSh K H a ds) (h0 : 0 ≤ n) (h1 : n ≤ 1000) (hd : ∀ d ∈ ds, DueOk n d)
    (q : ∀ l H' as, H l = none → Same H H' → H' l = some (.lst (List.map V.ref as)) → as.length = n.toNat → Rows H' as 3 (rankF ds) → (∀ b ∈ as, H b = none) → Q (.ref l) H') : spRanked K [.int n, .ref a] H Q E := ⟨n, a, ds, rfl, h, h0, h1, hd, q⟩
noncomputable def withF (ds : List Due) (m : Nat → Int) : List Due := ds.mapIdx fun i d => ⟨d.p, d.q, d.r, m i⟩
end Internal

set_option linter.all false
namespace My
section
variable (ch : Nat → Bool) (x : Nat → Int) (L : Int)
noncomputable def rest : Nat → Int
  | 0 => L
  | i + 1 => if ch i = true ∧ rest i > 0 then rest i - 1 else rest i
noncomputable def more (i : Nat) : Int := if ch i = true ∧ rest ch L i > 0 then x i + 1 else x i
variable {ch x L}
end
end My

set_option Elab.async false
set_option linter.all false
set_option maxRecDepth 100000
namespace Internal
open PySem PySem.Spec PyProof.Rows
theorem sq_le {k m : Int} (h0 : 0 ≤ k) (h : k ≤ m) : k * k ≤ m * m := Int.mul_le_mul h h h0 (by omega)
noncomputable def big : Int := 1000000000000000000000000000000000000000000000000000000000000
end Internal

set_option Elab.async false
set_option linter.all false
set_option maxRecDepth 100000
namespace Internal
open PySem PySem.Spec PyProof.Rows
noncomputable abbrev TEr := St → Hp → VK → (Addr → Hp → Prop) → Prop
noncomputable abbrev TTr := Ends → (Addr → St → Hp → Prop) → St → Hp → Prop
section
variable {X : Cx} {pos : Pos}
noncomputable abbrev tExprR (te : TEr) : TTr := fun D Eh σ H => te σ H (fun _ H2 => D.nx σ H2) fun C H2 => Eh C σ H2
noncomputable abbrev tIfR (c : TT) (t u : TTr) : TTr := fun D Eh σ H => c σ H fun b H1 => if b = true then t D Eh σ H1 else u D Eh σ H1
noncomputable abbrev tNilR : TTr := fun D _ σ H => D.nx σ H
end
section
variable {σ : St} {H : Hp} {Q : VK} {D : Ends} {K : PySem.W.Frag} {Eh : Addr → Hp → Prop} {Eg : Addr → St → Hp → Prop}
end
end Internal

set_option Elab.async false
set_option linter.all false
set_option maxRecDepth 100000
namespace Internal
open PySem PySem.Spec PyProof.Rows
end Internal

set_option Elab.async false
set_option linter.all false
set_option maxRecDepth 100000
namespace Internal
open PySem PySem.W PySem.Calls PyProof.Rows
theorem weights_le {n : Nat} : ∀ (ns : List Int), WData.weightAll (ns.map WData.int) ≤ n → ∀ i ∈ ns, sz i ≤ n
  | [], _, _, h => nomatch h
  | j :: r, h, i, hi => by
    rw [List.map_cons, WData.weightAll] at h
    rcases List.mem_cons.mp hi with rfl | hi
    · have : WData.weight (.int i) = sz i := by rw [WData.weight]; rfl
      omega
    · exact weights_le r (by omega) i hi
noncomputable def Light (ns : List Int) : Prop := ∀ i ∈ ns, sz i ≤ 1048576
theorem light_of {ns : List Int} (h : WData.layableAll [WData.list (ns.map WData.int)] = true) : Light ns := by
  unfold WData.layableAll at h
  rw [List.all_cons, List.all_nil, Bool.and_true] at h
  unfold WData.layable at h
  rw [Bool.and_eq_true, decide_eq_true_eq] at h
  have h2 := h.2
  rw [WData.weight] at h2
  exact weights_le ns (Nat.le_trans h2 (by decide))
theorem attach_callZ {l : OpenLaw} {n : Nat} {q : Program} {loose : List Str} {XP : (Str → Option Value) → Heap → Prop} {YP : World → Heap → Prop} {d : DefRec}
    (hn : l.most = some n) (hdf : d.params.defaults = [])
    (call : ∀ (w : World) (s₀ s₁ : Shared) (mg mb : Str → Option Value) (fa : Addr) (a : Addr) (vs : List Value) (ns : List Int),
      Ground q loose [] XP w s₀ mg mb s₁.heap → YP w s₁.heap → mg d.name = some (.ref fa) →
      s₁.heap.get? a = some { cls := .type "list", data := .seq vs.toArray } → IntsAre vs ns → ns.length ≤ n → Light ns → s₁.gens = #[] →
      codeAny (model l.prog w) callerA (.call (.ref fa) ⟨[.ref a], []⟩) (fun r s' => r = .ok (.ret (.bool true)) ∧ OldK s₁.heap s'.heap ∧ s'.os = s₁.os ∧ AllBare s'.gens) s₁) :
    WalkO q loose XP YP l.row.toRowW d [] (fun f vs => PySem.call f vs) := by
  intro w s₀ s₁ mg mb G Y fa o pm cd doc dV kV ho hd hcd hD hmg hg args vals as hpre hlay hrd hwl hlo
  obtain ⟨a, vs, ns, rfl, rfl, hobj, hints, hlen⟩ := Att.script_of hn hpre hwl
  refine enter_call (codeAny_mono (call w s₀ s₁ mg mb fa a vs ns G Y hmg hobj hints hlen (light_of hlay) hg) fun r s' hq => ?_)
  obtain ⟨rfl, h2, h3, h4⟩ := hq
  exact ⟨.inl ⟨.bool true, .bool true, [], rfl, fun _ => rfl, .bool true, Att.post_true l _, fun _ => ⟨List.Pairwise.nil, fun _ hm => (nomatch hm)⟩⟩, h2, h3, h4⟩
end Internal
namespace Internal
open PySem PySem.Spec PyProof.Rows
theorem walk_ofZ {l : PySem.W.OpenLaw} {n k : Nat} {q : Program} {loose : List Str} {XP : (Str → Option Value) → Heap → Prop} {YP : World → Heap → Prop} {d : DefRec} {K : Params → PySem.W.Frag} {CX : World → CXT} {sp : World → Sp} {x : Str}
    (hn : l.most = some n) (hn2 : n ≤ sizeLine) (hdf : d.params.defaults = []) (hr : Room k callerA)
    (hY : ∀ (w : World) (h : Heap), YP w h → (K w.params).In h)
    (F : ∀ (w : World) (mg : Str → Option Value) (fa : Addr) (h : Heap), (K w.params).In h → h.Ns mainGlobals mg → mg d.name = some (.ref fa) →
      ∃ fd : FuncData, (∀ (s : Shared) (u : Value), BindsTo s fd ⟨[u], []⟩ [(x, u)]) ∧
        ∀ base : Heap, (K w.params).In base → base.Ns mainGlobals mg → FnOk l.prog w (K w.params) mg base (CX w) k fa fd [x] (sp w))
    (hsp : ∀ (w : World) (H : Hp) (a : Addr) (ns : List Int), ns.length ≤ n → Light ns → Only H → SqL (K w.params) H a (ns.map V.int) → sp w [.ref a] H (fun v _ => v = .bl true) fun _ _ _ => False)
    (hCX : ∀ (w : World) (H : Hp) (s : Shared) (e : Value) (s' : Shared), CX w [] H s (fun _ _ _ => False) e s' → False) :
    PySem.W.WalkO q loose XP YP l.row.toRowW d [] (fun f vs => PySem.call f vs) := by
  refine attach_callZ hn hdf fun w s₀ s₁ mg mb fa a vs ns G Y hmg hobj hints hlen hz hg => ?_
  have KX := hY w _ Y
  obtain ⟨fd, hb, hF⟩ := F w mg fa _ KX G.T.g hmg
  exact law_call KX G.T.g G.T.b G.T.builtins G.T.nolimit hg hobj hints (Nat.le_trans hlen hn2) hr hF hb (fun H hO hS => hsp w H a ns hlen hz hO hS) fun H e s' => hCX w H s₁ e s'
theorem Light.cell {ns : List Int} (h : Light ns) (k : Int) : sz (cell ns k) ≤ 1048576 := by
  unfold Internal.cell
  rw [List.getD_eq_getElem?_getD]
  cases e : ns[k.toNat]? with
  | none => show sz 0 ≤ _; exact Nat.zero_le _
  | some i => exact h i (List.mem_of_getElem? e)
theorem mix_sz {c k : Int} (h : sz c ≤ 1048576) (h0 : 0 ≤ k) (h1 : k ≤ 1000) : sz (c * 48271 + 7919 * k * k + 11) ≤ 1048594 := by
  have hk := sq_le h0 h1
  have hk' := Int.mul_nonneg h0 h0
  have a1 : sz (c * 48271) ≤ 1048592 := sz_mul (n := 1048576) (m := 16) h (sz_of (by decide))
  have a2 : sz (7919 * k * k) ≤ 1048592 := Nat.le_trans (sz200 (by rw [Int.mul_assoc]; omega) (by rw [Int.mul_assoc]; omega)) (by decide)
  exact sz_add (sz_add a1 a2) (Nat.le_trans (sz200 (i := 11) (by decide) (by decide)) (by decide))
noncomputable def mixF (c k : Int) : Int := c * 48271 + 7919 * k * k + 11
noncomputable def drawP (ns : List Int) (k p m : Int) : Int := mixF (cell ns k) k % p % m
noncomputable def spDrawP (K : PySem.W.Frag) : Sp := fun vs H Q _ => ∃ (a : Addr) (ns : List Int) (k p m : Int), vs = [.ref a, .int k, .int p, .int m] ∧ SqL K H a (ns.map V.int) ∧ Light ns ∧ 0 ≤ k ∧ k ≤ 1000 ∧ 1 ≤ p ∧ 1 ≤ m ∧ ∀ x, x = drawP ns k p m → 0 ≤ x → x < m → Q (.int x) H
theorem spDrawP_i {K : PySem.W.Frag} {a : Addr} {ns : List Int} {k p m : Int} {H : Hp} {Q : VK} {E : XK} (hS : SqL K H a (ns.map V.int)) (hz : Light ns) (h0 : 0 ≤ k) (h1 : k ≤ 1000) (p0 : 1 ≤ p) (m0 : 1 ≤ m) (q : ∀ x, x = drawP ns k p m → 0 ≤ x → x < m → Q (.int x) H) : spDrawP K [.ref a, .int k, .int p, .int m] H Q E := ⟨a, ns, k, p, m, rfl, hS, hz, h0, h1, p0, m0, q⟩
noncomputable def Within (m : Int) (k : Nat) (f : Nat → Int) : Prop := ∀ j, j < k → -m ≤ f j ∧ f j ≤ m
end Internal

set_option Elab.async false
set_option linter.all false
set_option maxRecDepth 100000
namespace Internal
open PySem PySem.Spec PyProof.Rows
section
variable {X : Cx}
end
section
variable {H : Hp} {Q : VK} {K : PySem.W.Frag}
theorem in_ints {i : Int} : ∀ ns : List Int, inV (.int i) (ns.map V.int) = decide (i ∈ ns)
  | [] => by simp [inV]
  | n :: ns => by
    have ih := in_ints (i := i) ns
    unfold inV at ih ⊢
    rw [List.map_cons, List.any_cons, ih]
    show ((n == i) || _) = _
    by_cases h : n = i
    · subst h; simp
    · have : ¬ i = n := fun z => h z.symm
      simp [h, this]
end
noncomputable def optV : Option Nat → V
  | none => .non
  | some i => .int i
noncomputable def optL (n : Nat) (w : Nat → Option Nat) : List V := (List.range n).map fun m => optV (w m)
noncomputable def useful (g : Nat → Bool) (m : Nat) (d : Due) : Prop := d.p = (m : Int) ∧ 0 < d.a ∧ g d.p.toNat = true ∧ g d.q.toNat = true
noncomputable instance {g : Nat → Bool} {m : Nat} {d : Due} : Decidable (useful g m d) := by unfold useful; infer_instance
noncomputable def onwF (ds : List Due) (g : Nat → Bool) : Nat → Nat → Option Nat
  | 0, _ => none
  | i + 1, m => match ds[i]? with
    | some d => if useful g m d then some i else onwF ds g i m
    | none => onwF ds g i m
noncomputable def goF (ds : List Due) : Nat → Nat → Bool
  | 0, _ => true
  | t + 1, m => (onwF ds (goF ds t) ds.length m).isSome
noncomputable def wayF (ds : List Due) : Nat → Nat → Option Nat
  | 0, _ => none
  | t + 1, m => onwF ds (goF ds t) ds.length m
set_option genInjectivity false in
set_option genSizeOf false in
structure Lined (n : Nat) (ds : List Due) (ls : List Int) : Prop where
  nd : ls.Nodup
  lt : ∀ x ∈ ls, 0 ≤ x ∧ x < n
  up : ∀ d ∈ ds, 0 < d.a → ∀ j : Nat, ls[j]? = some d.q → ∃ i : Nat, i < j ∧ ls[i]? = some d.p
end Internal

set_option Elab.async false
set_option linter.all false
set_option maxRecDepth 100000
namespace Internal
open PySem PySem.Spec PyProof.Rows
section
variable {X : Cx} {tg : Expr}
end
theorem x_inT2 {K : PySem.W.Frag} {H : Hp} {Q : VK} {a : Addr} {i j k : Int} (h : H a = some (.tup [.int j, .int k])) (q : Q (.bl (decide (i ∈ [j, k]))) H) : rIn K false (.int i) (.ref a) H Q :=
  ⟨a, [.int j, .int k], rfl, .inr (.of h), rfl, rfl, by rw [if_neg Bool.false_ne_true, show inV (.int i) [.int j, .int k] = inV (.int i) ([j, k].map V.int) from rfl, in_ints]; exact q⟩
end Internal

set_option Elab.async false
set_option linter.all false
set_option maxRecDepth 100000
namespace Internal
open PySem PySem.Spec PyProof.Rows
noncomputable def spGreatP (K : PySem.W.Frag) : Sp := fun vs H Q _ => ∃ (a : Addr) (ns : List Int) (k m : Int), vs = [.ref a, .int k, .int m] ∧ SqL K H a (ns.map V.int) ∧ Light ns ∧ 0 ≤ k ∧ k ≤ 1000 ∧ 0 ≤ m ∧ ∀ x, 0 ≤ x → x ≤ m → Q (.int x) H
theorem spGreatP_i {K : PySem.W.Frag} {a : Addr} {ns : List Int} {k m : Int} {H : Hp} {Q : VK} {E : XK} (hS : SqL K H a (ns.map V.int)) (hz : Light ns) (h0 : 0 ≤ k) (h1 : k ≤ 1000) (m0 : 0 ≤ m) (q : ∀ x, 0 ≤ x → x ≤ m → Q (.int x) H) : spGreatP K [.ref a, .int k, .int m] H Q E := ⟨a, ns, k, m, rfl, hS, hz, h0, h1, m0, q⟩
noncomputable def spManyP (K : PySem.W.Frag) : Sp := fun vs H Q _ => ∃ (a : Addr) (ns : List Int), vs = [.ref a] ∧ SqL K H a (ns.map V.int) ∧ Light ns ∧ ∀ x, 1 ≤ x → x ≤ 9 → Q (.int x) H
theorem spManyP_i {K : PySem.W.Frag} {a : Addr} {ns : List Int} {H : Hp} {Q : VK} {E : XK} (hS : SqL K H a (ns.map V.int)) (hz : Light ns) (q : ∀ x, 1 ≤ x → x ≤ 9 → Q (.int x) H) : spManyP K [.ref a] H Q E := ⟨a, ns, rfl, hS, hz, q⟩
noncomputable def spCountP (K : PySem.W.Frag) : Sp := fun vs H Q _ => ∃ (a : Addr) (ns : List Int) (n : Int), vs = [.ref a, .int n] ∧ SqL K H a (ns.map V.int) ∧ Light ns ∧ 1 ≤ n ∧ n ≤ 9 ∧ ∀ x, 0 ≤ x → x ≤ 57 → (n = 1 → x = 0) → Q (.int x) H
theorem spCountP_i {K : PySem.W.Frag} {a : Addr} {ns : List Int} {n : Int} {H : Hp} {Q : VK} {E : XK} (hS : SqL K H a (ns.map V.int)) (hz : Light ns) (n0 : 1 ≤ n) (n1 : n ≤ 9) (q : ∀ x, 0 ≤ x → x ≤ 57 → (n = 1 → x = 0) → Q (.int x) H) : spCountP K [.ref a, .int n] H Q E := ⟨a, ns, n, rfl, hS, hz, n0, n1, q⟩
noncomputable def spSumsP (K : PySem.W.Frag) : Sp := fun vs H Q _ => ∃ n a ds, vs = [.ref a, .int n] ∧ IsSh K H a ds ∧ 0 ≤ n ∧ n ≤ 1000 ∧ (∀ d ∈ ds, DueOk n d) ∧
  ∀ l H' as, H l = none → Same H H' → H' l = some (.lst (List.map V.ref as)) → as.length = n.toNat → Rows H' as 3 (rankF ds) → (∀ b ∈ as, H b = none) → Q (.ref l) H'
theorem spSumsP_i {K : PySem.W.Frag} {n : Int} {a : Addr} {ds : List Due} {H : Hp} {Q : VK} {E : XK} (h : IsSh K H a ds) (h0 : 0 ≤ n) (h1 : n ≤ 1000) (hd : ∀ d ∈ ds, DueOk n d)
    (q : ∀ l H' as, H l = none → Same H H' → H' l = some (.lst (List.map V.ref as)) → as.length = n.toNat → Rows H' as 3 (rankF ds) → (∀ b ∈ as, H b = none) → Q (.ref l) H') : spSumsP K [.ref a, .int n] H Q E := ⟨n, a, ds, rfl, h, h0, h1, hd, q⟩
noncomputable def spDivP : Sp := fun vs H Q _ => ∃ a b : Int, vs = [.int a, .int b] ∧ 0 ≤ a ∧ 0 ≤ b ∧ Q (.int (My.gc a b)) H
theorem spDivP_i {a b : Int} {H : Hp} {Q : VK} {E : XK} (h0 : 0 ≤ a) (h1 : 0 ≤ b) (q : Q (.int (My.gc a b)) H) : spDivP [.int a, .int b] H Q E := ⟨a, b, rfl, h0, h1, q⟩
theorem rank_bnd {m r : Nat} : ∀ (ds : List Due), (∀ d ∈ ds, 0 ≤ d.a ∧ d.a ≤ 1000000000000) → 0 ≤ rankF ds m r ∧ rankF ds m r ≤ 1000000000000 * (ds.length : Int) := by
  intro ds
  suffices h : ∀ t, t ≤ ds.length → (∀ d ∈ ds, 0 ≤ d.a ∧ d.a ≤ 1000000000000) → 0 ≤ rankF (ds.take t) m r ∧ rankF (ds.take t) m r ≤ 1000000000000 * (t : Int) by
    intro hd
    have := h ds.length (Nat.le_refl _) hd
    rwa [List.take_length] at this
  intro t
  induction t with
  | zero => intro _ _; exact ⟨Int.le_refl 0, Int.le_refl 0⟩
  | succ t ih =>
    intro ht hd
    obtain ⟨d, hdt⟩ := lt_some (show t < ds.length by omega)
    have h1 := ih (by omega) hd
    have h2 := hd d (List.mem_of_getElem? hdt)
    rw [take_snoc hdt, rankF_snoc]
    split <;> omega
noncomputable def cumF (f : Nat → Int) : Nat → Int
  | 0 => 0
  | r + 1 => cumF f r + f r
noncomputable def UnderC (f : Nat → Int) (q : Rat) (r : Nat) : Prop := q.num < cumF f (r + 1) * (q.den : Int)
noncomputable instance (f : Nat → Int) (q : Rat) (r : Nat) : Decidable (UnderC f q r) := inferInstanceAs (Decidable (_ < _))
noncomputable def stopF (f : Nat → Int) (q : Rat) : Nat → Option Nat
  | 0 => none
  | k + 1 => match stopF f q k with
    | some r => some r
    | none => if UnderC f q k then some k else none
theorem cum_bnd {f : Nat → Int} (hf : ∀ j, j < 3 → 0 ≤ f j ∧ f j ≤ 100000000000000) : ∀ i, i ≤ 3 → 0 ≤ cumF f i ∧ cumF f i ≤ 100000000000000 * (i : Int)
  | 0, _ => ⟨Int.le_refl 0, Int.le_refl 0⟩
  | i + 1, h => by
    have h1 := cum_bnd hf i (by omega)
    have h2 := hf i (by omega)
    show 0 ≤ cumF f i + f i ∧ cumF f i + f i ≤ _
    omega
theorem sum_cum (f : Nat → Int) : ∀ n, sumI (vec n f) = cumF f n
  | 0 => rfl
  | n + 1 => by rw [vec_succ, sumI_snoc, sum_cum f n]; rfl
theorem payee_ne {p t n : Int} (p0 : 0 ≤ p) (p1 : p < n) (t0 : 0 ≤ t) (t1 : t < n - 1) : 0 ≤ (p + 1 + t) % n ∧ (p + 1 + t) % n < n ∧ p ≠ (p + 1 + t) % n := by
  refine ⟨Int.emod_nonneg _ (by omega), Int.emod_lt_of_pos _ (by omega), ?_⟩
  by_cases h : p + 1 + t < n
  · rw [Int.emod_eq_of_lt (by omega) h]; omega
  · rw [← Int.sub_emod_right, Int.emod_eq_of_lt (by omega) (by omega)]; omega
noncomputable abbrev stopsL (ds : List Due) (qs : List Rat) : List V := optL qs.length fun m => stopF (rankF ds m) (qs.getD m 0) 3
end Internal

set_option Elab.async false
set_option linter.all false
set_option maxRecDepth 100000
namespace Internal
open PySem PySem.Spec PyProof.Rows
noncomputable def restQ (f : Nat → Int) (q : Rat) : Nat → Rat
  | 0 => q
  | r + 1 => restQ f q r - (if ((f r : Int) : Rat) < restQ f q r then ((f r : Int) : Rat) else restQ f q r)
noncomputable def laidQ (f : Nat → Int) (q : Rat) (r : Nat) : Rat := if ((f r : Int) : Rat) < restQ f q r then ((f r : Int) : Rat) else restQ f q r
noncomputable def shareQ (f : Nat → Int) (q : Rat) (r : Nat) : Rat := if 0 < f r then laidQ f q r / ((f r : Int) : Rat) else 0
theorem restQ_succ (f : Nat → Int) (q : Rat) (r : Nat) : restQ f q (r + 1) = restQ f q r - laidQ f q r := rfl
section
variable {f : Nat → Int} {q : Rat}
theorem castR_nn {i : Int} (h : 0 ≤ i) : (0 : Rat) ≤ (i : Rat) := by exact_mod_cast h
theorem castR_pos {i : Int} (h : 0 < i) : (0 : Rat) < (i : Rat) := by exact_mod_cast h
theorem rest_nn (hq : 0 ≤ q) : ∀ r, 0 ≤ restQ f q r
  | 0 => hq
  | r + 1 => by
    have := rest_nn hq r
    rw [restQ_succ]; unfold laidQ
    split <;> grind
theorem laid_bnd (hq : 0 ≤ q) {r : Nat} (hf : 0 ≤ f r) : 0 ≤ laidQ f q r ∧ laidQ f q r ≤ ((f r : Int) : Rat) := by
  have h1 := rest_nn (f := f) hq r
  have h2 := castR_nn hf
  unfold laidQ
  split <;> grind
theorem rest_le (hq : 0 ≤ q) (hf : ∀ r, r < 3 → 0 ≤ f r) : ∀ (k r : Nat), r + k ≤ 3 → restQ f q (r + k) ≤ restQ f q r
  | 0, r, _ => by show restQ f q r ≤ restQ f q r; grind
  | k + 1, r, h => by
    have h1 := rest_le hq hf k r (by omega)
    have h2 := (laid_bnd hq (hf (r + k) (by omega))).1
    show restQ f q (r + k + 1) ≤ _
    rw [restQ_succ]; grind
theorem share_mul (hq : 0 ≤ q) {r : Nat} (hf : 0 ≤ f r) : ((f r : Int) : Rat) * shareQ f q r = laidQ f q r := by
  have h := laid_bnd hq hf
  unfold shareQ
  split
  · rename_i h0
    have := castR_pos h0
    grind
  · rename_i h0
    have e : f r = 0 := by omega
    rw [e] at h ⊢
    have : ((0 : Int) : Rat) = 0 := rfl
    grind
theorem share_bnd (hq : 0 ≤ q) {r : Nat} (hf : 0 ≤ f r) : 0 ≤ shareQ f q r ∧ shareQ f q r ≤ 1 := by
  have h := laid_bnd hq hf
  have hm := share_mul hq hf
  by_cases h0 : 0 < f r
  · have hp := castR_pos h0
    constructor
    · refine Rat.le_of_mul_le_mul_left (c := ((f r : Int) : Rat)) ?_ hp
      grind
    · refine Rat.le_of_mul_le_mul_left (c := ((f r : Int) : Rat)) ?_ hp
      grind
  · unfold shareQ
    rw [if_neg h0]
    exact ⟨by decide, by decide⟩
theorem laid_full (hq : 0 ≤ q) (hf : ∀ r, r < 3 → 0 ≤ f r) (hs : q ≤ ((f 0 : Int) : Rat) + ((f 1 : Int) : Rat) + ((f 2 : Int) : Rat)) : laidQ f q 0 + laidQ f q 1 + laidQ f q 2 = q := by
  have h0 := castR_nn (hf 0 (by omega))
  have h1 := castR_nn (hf 1 (by omega))
  have h2 := castR_nn (hf 2 (by omega))
  have e1 : restQ f q 1 = q - laidQ f q 0 := rfl
  have e2 : restQ f q 2 = q - laidQ f q 0 - laidQ f q 1 := rfl
  have l0 : laidQ f q 0 = if ((f 0 : Int) : Rat) < q then ((f 0 : Int) : Rat) else q := rfl
  have l1 : laidQ f q 1 = if ((f 1 : Int) : Rat) < restQ f q 1 then ((f 1 : Int) : Rat) else restQ f q 1 := rfl
  have l2 : laidQ f q 2 = if ((f 2 : Int) : Rat) < restQ f q 2 then ((f 2 : Int) : Rat) else restQ f q 2 := rfl
  rw [e1] at l1
  rw [e2] at l2
  grind
end
theorem num_eq (p : Rat) : ((p.num : Int) : Rat) = p * ((p.den : Int) : Rat) := by
  have h : p = ((p.num : Int) : Rat) / ((p.den : Int) : Rat) := by
    rw [← Rat.divInt_eq_div, Rat.num_divInt_den]
  have : ((p.den : Int) : Rat) ≠ 0 := by
    intro z
    have : (p.den : Int) = 0 := by exact_mod_cast z
    have := p.den_nz
    omega
  grind
theorem den_posR (p : Rat) : (0 : Rat) < ((p.den : Int) : Rat) := castR_pos (den_pos p)
theorem castR_inj {i j : Int} (h : (i : Rat) = (j : Rat)) : i = j := by exact_mod_cast h
noncomputable def sumP (ds : List Due) (m : Nat) (S : Nat → Rat) : Rat := ds.foldl (fun (s : Rat) (d : Due) => if d.p = (m : Int) then s + ((d.a : Int) : Rat) * S d.r.toNat else s) 0
theorem sumP_snoc (ds : List Due) (d : Due) (m : Nat) (S : Nat → Rat) : sumP (ds ++ [d]) m S = if d.p = (m : Int) then sumP ds m S + ((d.a : Int) : Rat) * S d.r.toNat else sumP ds m S := by unfold sumP; rw [List.foldl_append]; rfl
theorem sumP_ranks {ds : List Due} {m : Nat} {S : Nat → Rat} (hd : ∀ d ∈ ds, 0 ≤ d.r ∧ d.r < 3) : ∀ t, t ≤ ds.length → sumP (ds.take t) m S = ((rankF (ds.take t) m 0 : Int) : Rat) * S 0 + ((rankF (ds.take t) m 1 : Int) : Rat) * S 1 + ((rankF (ds.take t) m 2 : Int) : Rat) * S 2
  | 0, _ => by
    show (0 : Rat) = ((0 : Int) : Rat) * S 0 + ((0 : Int) : Rat) * S 1 + ((0 : Int) : Rat) * S 2
    have : ((0 : Int) : Rat) = 0 := rfl
    grind
  | t + 1, ht => by
    obtain ⟨d, hdt⟩ := lt_some (show t < ds.length by omega)
    have ih := sumP_ranks (m := m) (S := S) hd t (by omega)
    obtain ⟨r0, r1⟩ := hd d (List.mem_of_getElem? hdt)
    rw [take_snoc hdt, sumP_snoc, rankF_snoc, rankF_snoc, rankF_snoc]
    by_cases e : d.p = (m : Int)
    · rw [if_pos e]
      obtain h | h | h : d.r = 0 ∨ d.r = 1 ∨ d.r = 2 := by omega
      · rw [if_pos ⟨e, by omega⟩, if_neg (fun z => by have := z.2; omega), if_neg (fun z => by have := z.2; omega), h, ih, Rat.intCast_add]
        show _ + _ * S 0 = _
        grind
      · rw [if_neg (fun z => by have := z.2; omega), if_pos ⟨e, by omega⟩, if_neg (fun z => by have := z.2; omega), h, ih, Rat.intCast_add]
        show _ + _ * S 1 = _
        grind
      · rw [if_neg (fun z => by have := z.2; omega), if_neg (fun z => by have := z.2; omega), if_pos ⟨e, by omega⟩, h, ih, Rat.intCast_add]
        show _ + _ * S 2 = _
        grind
    · rw [if_neg e, if_neg (fun z => e z.1), if_neg (fun z => e z.1), if_neg (fun z => e z.1), ih]
noncomputable def payQ (ds : List Due) (qs : List Rat) (d : Due) : Rat := ((d.a : Int) : Rat) * shareQ (rankF ds d.p.toNat) (qs.getD d.p.toNat 0) d.r.toNat
theorem sz_whole {i : Int} (h0 : 0 ≤ i) (h1 : i ≤ 100000000000000) : SzQ ((i : Int) : Rat) 60 60 := by
  refine ⟨sz_of ?_, sz_of ?_⟩
  · show i.natAbs < 2 ^ 60
    omega
  · show (1 : Int).natAbs < 2 ^ 60
    decide
theorem spLeast_j {n : Nat} {a b : Addr} {q r : Rat} {H : Hp} {Q : VK} {E : XK} (h1 : IsQ H a q) (h2 : IsQ H b r) (s1 : SzQ q n n) (s2 : SzQ r n n) (k : ∀ c, IsQ H c (if r < q then r else q) → Q (.ref c) H) : spLeast n [.ref a, .ref b] H Q E := by
  refine spLeast_i h1 h2 s1 s2 ?_
  by_cases h : r < q
  · rw [if_pos h]; exact k b (by rw [if_pos h]; exact h2)
  · rw [if_neg h]; exact k a (by rw [if_neg h]; exact h1)
noncomputable def spOver0 : Sp := fun vs H Q _ => ∃ (a b : Addr) (q r : Rat), vs = [.ref a, .ref b] ∧ IsQ H a q ∧ IsQ H b r ∧ OkQ q ∧ SzQ r 8999 8999 ∧ r.num ≠ 0 ∧ NewQ H Q (q / r)
theorem spOver0_i {a b : Addr} {q r : Rat} {H : Hp} {Q : VK} {E : XK} (h1 : IsQ H a q) (h2 : IsQ H b r) (s1 : OkQ q) (s2 : SzQ r 8999 8999) (h0 : r.num ≠ 0) (k : NewQ H Q (q / r)) : spOver0 [.ref a, .ref b] H Q E := ⟨a, b, q, r, rfl, h1, h2, s1, s2, h0, k⟩
end Internal

set_option Elab.async false
set_option linter.all false
set_option maxRecDepth 100000
namespace Internal
open PySem PySem.Spec PyProof.Rows
set_option genInjectivity false in
set_option genSizeOf false in
structure PayOk (ds : List Due) (g : Due → Rat) : Prop where
  nn : ∀ d ∈ ds, 0 ≤ g d
  le : ∀ d ∈ ds, g d ≤ ((d.a : Int) : Rat)
  sz : ∀ d ∈ ds, SzQ (g d) 1000 1000
  am : ∀ d ∈ ds, 0 ≤ d.a ∧ d.a ≤ 100000000000000
noncomputable def sumG (ds : List Due) (m : Int) (g : Due → Rat) : Rat := ds.foldl (fun (s : Rat) (d : Due) => if d.p = m then s + g d else s) 0
theorem sumG_snoc (ds : List Due) (d : Due) (m : Int) (g : Due → Rat) : sumG (ds ++ [d]) m g = if d.p = m then sumG ds m g + g d else sumG ds m g := by unfold sumG; rw [List.foldl_append]; rfl
section
variable {ds : List Due} {qs : List Rat}
theorem rank_ge {m r : Nat} {d : Due} (hd : ∀ d ∈ ds, 0 ≤ d.a) (h : d ∈ ds) (hp : d.p = (m : Int)) (hr : d.r = (r : Int)) : d.a ≤ rankF ds m r := by
  obtain ⟨i, hi, ei⟩ := List.getElem_of_mem h
  have hi' : ds[i]? = some d := by rw [List.getElem?_eq_getElem hi, ei]
  have go : ∀ t, t ≤ ds.length → 0 ≤ rankF (ds.take t) m r ∧ (i < t → d.a ≤ rankF (ds.take t) m r) := by
    intro t
    induction t with
    | zero => intro _; exact ⟨Int.le_refl 0, fun z => absurd z (by omega)⟩
    | succ t ih =>
      intro ht
      obtain ⟨c, hc⟩ := lt_some (show t < ds.length by omega)
      have h1 := ih (by omega)
      have h2 := hd c (List.mem_of_getElem? hc)
      rw [take_snoc hc, rankF_snoc]
      by_cases e : t = i
      · subst e
        rw [hi'] at hc; cases hc
        rw [if_pos ⟨hp, hr⟩]
        exact ⟨by omega, fun _ => by omega⟩
      · split
        · exact ⟨by omega, fun _ => by have := h1.2 (by omega); omega⟩
        · exact ⟨h1.1, fun _ => h1.2 (by omega)⟩
  have := (go ds.length (Nat.le_refl _)).2 hi
  rwa [List.take_length] at this
end
theorem x_neQs {K : PySem.W.Frag} {H : Hp} {Q : VK} {a b : Addr} {vs ws : List V} {qs : List Rat} (h1 : SqL K H a vs) (h2 : SqL K H b ws) (i1 : IsQs H vs qs) (i2 : IsQs H ws qs) (q : Q (.bl false) H) : rNeU K (.ref a) (.ref b) H Q := by
  have hdep : ∀ (l : List Rat), PyData.depthAll (l.map dQ) ≤ 1 := by
    intro l
    induction l with
    | nil => exact Nat.zero_le _
    | cons x xs ih =>
      rw [List.map_cons, PyData.depthAll]
      have : (dQ x).depth ≤ 1 := by simp [dQ, PyData.depth, PyData.depthAll]
      omega
  have hlay : ∀ (l : List Rat), PyData.canLayAll0 (l.map dQ) = true := by
    intro l
    induction l with
    | nil => rfl
    | cons x xs ih => rw [List.map_cons, PyData.canLayAll0, ih]; simp [dQ, PyData.canLay0, PyData.canLayAll0]
  refine x_neD (.lst h1 i1.rep) (.lst h2 i2.rep) (by have := hdep qs; rw [depth_list]; omega) ?_
  rw [PySem.SeqAt.eqv_refl _ (by rw [PyData.canLay0]; exact hlay qs)]
  exact q
end Internal

set_option Elab.async false
set_option linter.all false
set_option maxRecDepth 100000
namespace Internal
open PySem PySem.Spec PyProof.Rows
theorem sz_nat {i : Int} {n : Nat} (h0 : 0 ≤ i) (h1 : i < 2 ^ n) : sz i ≤ n := sz_of (by
  have : (i.natAbs : Int) < ((2 ^ n : Nat) : Int) := by
    rw [Int.natAbs_of_nonneg h0]
    push_cast
    exact h1
  exact_mod_cast this)
noncomputable def LaySz (q : Rat) : Prop := 0 ≤ q ∧ SzQ q 100 31
section
variable {f : Nat → Int} {q : Rat}
theorem rest_max (hq : 0 ≤ q) (hf : ∀ j, j < 3 → 0 ≤ f j) : ∀ r, r ≤ 3 → restQ f q r = if ((cumF f r : Int) : Rat) < q then q - ((cumF f r : Int) : Rat) else 0
  | 0, _ => by
    show q = if ((0 : Int) : Rat) < q then q - ((0 : Int) : Rat) else 0
    have e : ((0 : Int) : Rat) = 0 := rfl
    rw [e]
    split <;> grind
  | r + 1, hr => by
    have ih := rest_max hq hf r (by omega)
    have h0 := castR_nn (hf r (by omega))
    have e : ((cumF f (r + 1) : Int) : Rat) = ((cumF f r : Int) : Rat) + ((f r : Int) : Rat) := Rat.intCast_add _ _
    rw [restQ_succ, e]
    unfold laidQ
    rw [ih]
    split <;> split <;> (try split) <;> grind
end
noncomputable def gainF (ds : List Due) (g : Due → Rat) (m : Nat) : List Rat := (ds.filter fun d => decide (d.q = (m : Int))).map g
theorem gainF_snoc (ds : List Due) (d : Due) (g : Due → Rat) (m : Nat) : gainF (ds ++ [d]) g m = gainF ds g m ++ if d.q = (m : Int) then [g d] else [] := by
  unfold gainF
  rw [List.filter_append, List.map_append]
  congr 1
  by_cases e : d.q = (m : Int)
  · rw [if_pos e, List.filter_cons_of_pos (p := fun d : Due => decide (d.q = (m : Int))) (by simpa using e)]; rfl
  · rw [if_neg e, List.filter_cons_of_neg (p := fun d : Due => decide (d.q = (m : Int))) (by simpa using e)]; rfl
theorem gainF_len {ds : List Due} {g : Due → Rat} {m : Nat} : (gainF ds g m).length ≤ ds.length := by
  unfold gainF
  rw [List.length_map]
  exact List.length_filter_le _ _
theorem gainF_mem {ds : List Due} {g : Due → Rat} {m : Nat} {x : Rat} (h : x ∈ gainF ds g m) : ∃ d ∈ ds, x = g d := by
  obtain ⟨d, hd, e⟩ := List.mem_map.mp h
  exact ⟨d, (List.mem_filter.mp hd).1, e.symm⟩
noncomputable def gotF (ds : List Due) (g : Due → Rat) (m : Nat) : Rat := sumQ (gainF ds g m)
theorem gotF_snoc (ds : List Due) (d : Due) (g : Due → Rat) (m : Nat) : gotF (ds ++ [d]) g m = gotF ds g m + if d.q = (m : Int) then g d else 0 := by
  unfold gotF
  rw [gainF_snoc]
  split
  · rw [sumQ_snoc]
  · rw [List.append_nil]; grind
noncomputable def PRows (H : Hp) (as : List Addr) (F : Nat → List Rat) : Prop := as.Nodup ∧ ∀ (m : Nat) (a : Addr), as[m]? = some a → ∃ vs, H a = some (.lst vs) ∧ IsQs H vs (F m)
section
variable {H H' : Hp} {as : List Addr} {F : Nat → List Rat}
theorem PRows.same (h : PRows H as F) (e : Same H H') : PRows H' as F := ⟨h.1, fun m a q => by obtain ⟨vs, h1, h2⟩ := h.2 m a q; exact ⟨vs, e.at h1, h2.same e⟩⟩
theorem PRows.but {l : Addr} (h : PRows H as F) (g : LBut l H H') (n : l ∉ as) : PRows H' as F :=
  ⟨h.1, fun m a q => by
    obtain ⟨vs, h1, h2⟩ := h.2 m a q
    exact ⟨vs, g.lst h1 fun z => n (z ▸ List.mem_of_getElem? q), LBut.isQs g h2⟩⟩
theorem PRows.fresh {p : Addr} (h : PRows H as F) (hp : H p = none) : p ∉ as := fun m => by
  obtain ⟨i, hi, e⟩ := List.getElem_of_mem m
  obtain ⟨vs, h1, _⟩ := h.2 i p (by rw [List.getElem?_eq_getElem hi, e])
  rw [hp] at h1; cases h1
theorem PRows.app {p : Addr} (h : PRows H as F) (n : p ∉ as) (hp : H p = some (.lst [])) (hF : F as.length = []) : PRows H (as ++ [p]) F := by
  refine ⟨List.nodup_append.mpr ⟨h.1, by simp, fun a ha b hb e => n (by rw [List.mem_singleton] at hb; subst hb; subst e; exact ha)⟩, fun i a q => ?_⟩
  rw [List.getElem?_append] at q
  split at q
  · exact h.2 i a q
  · rename_i hi
    have hi' : i - as.length = 0 := by
      cases e : i - as.length with
      | zero => rfl
      | succ m => rw [e] at q; cases q
    rw [hi'] at q; cases q
    have : i = as.length := by omega
    subst this
    exact ⟨[], hp, by rw [hF]; trivial⟩
theorem PRows.set {j : Nat} {a p : Addr} {vs : List V} {q : Rat} (h : PRows H as F) (g : LBut a H H') (ha : as[j]? = some a) (hv : H a = some (.lst vs)) (hp : IsQ H p q) (h' : H' a = some (.lst (vs ++ [.ref p]))) : PRows H' as (fun m => if m = j then F m ++ [q] else F m) := by
  refine ⟨h.1, fun m b hb => ?_⟩
  by_cases e : m = j
  · subst e
    rw [ha] at hb; cases hb
    obtain ⟨us, u1, u2⟩ := h.2 m a ha
    rw [hv] at u1; cases u1
    show ∃ vs, H' a = some (.lst vs) ∧ IsQs H' vs (if m = m then F m ++ [q] else F m)
    rw [if_pos rfl]
    exact ⟨_, h', IsQs.app (LBut.isQ g hp) (LBut.isQs g u2)⟩
  · obtain ⟨us, u1, u2⟩ := h.2 m b hb
    show ∃ vs, H' b = some (.lst vs) ∧ IsQs H' vs (if m = j then F m ++ [q] else F m)
    rw [if_neg e]
    exact ⟨us, g.lst u1 fun z => e (nodup_get h.1 hb (z ▸ ha)), LBut.isQs g u2⟩
end
end Internal

set_option Elab.async false
set_option linter.all false
set_option maxRecDepth 100000
namespace Internal
open PySem PySem.Spec PyProof.Rows
noncomputable def IsFr (z : Nat) (H : Hp) (vs : List V) (rs : List Rat) : Prop := vs.length = rs.length ∧ ∀ (i : Nat) (r : Rat), rs[i]? = some r → ∃ (a : Addr) (t b : Int), vs[i]? = some (V.ref a) ∧ H a = some (HO.tup [.int t, .int b]) ∧ 0 < b ∧ ((t : Int) : Rat) = r * ((b : Int) : Rat) ∧ sz t ≤ z ∧ sz b ≤ z
theorem IsFr.same {z : Nat} {H H' : Hp} {vs : List V} {rs : List Rat} (h : IsFr z H vs rs) (e : Same H H') : IsFr z H' vs rs :=
  ⟨h.1, fun i r hr => by obtain ⟨a, t, b, h1, h2, h3⟩ := h.2 i r hr; exact ⟨a, t, b, h1, e.at h2, h3⟩⟩
theorem IsFr.mono {z z' : Nat} {H : Hp} {vs : List V} {rs : List Rat} (h : IsFr z H vs rs) (e : z ≤ z') : IsFr z' H vs rs :=
  ⟨h.1, fun i r hr => by obtain ⟨a, t, b, h1, h2, h3, h4, h5, h6⟩ := h.2 i r hr; exact ⟨a, t, b, h1, h2, h3, h4, Nat.le_trans h5 e, Nat.le_trans h6 e⟩⟩
theorem IsQs.fr {H : Hp} {vs : List V} {rs : List Rat} {z : Nat} (h : IsQs H vs rs) (hz : ∀ r ∈ rs, SzQ r z z) : IsFr z H vs rs := by
  refine ⟨h.length, fun i r hr => ?_⟩
  have hi : i < vs.length := by rw [h.length]; exact (List.getElem?_eq_some_iff.mp hr).1
  obtain ⟨v, hv⟩ := lt_some hi
  obtain ⟨a, q, rfl, hq, ha⟩ := h.get hv
  rw [hr] at hq; cases hq
  have := hz r (List.mem_of_getElem? hr)
  exact ⟨a, _, _, hv, ha, den_pos r, num_eq r, this.1, this.2⟩
theorem fr_eq {r : Rat} {t b t' b' : Int} (h : ((t : Int) : Rat) = r * ((b : Int) : Rat)) (h' : ((t' : Int) : Rat) = r * ((b' : Int) : Rat)) : t * b' = t' * b := by
  apply castR_inj
  rw [Rat.intCast_mul, Rat.intCast_mul, h, h']
  grind
end Internal

set_option Elab.async false
set_option linter.all false
set_option maxRecDepth 100000
namespace Internal
open PySem PySem.Spec PyProof.Rows
theorem IsFr.but {z : Nat} {H H' : Hp} {l : Addr} {vs : List V} {rs : List Rat} (h : IsFr z H vs rs) (e : LBut l H H') : IsFr z H' vs rs :=
  ⟨h.1, fun i r hr => by obtain ⟨a, t, b, h1, h2, h3⟩ := h.2 i r hr; exact ⟨a, t, b, h1, e.tup h2, h3⟩⟩
theorem IsFr.nil {z : Nat} {H : Hp} : IsFr z H [] [] := ⟨rfl, fun i r h => nomatch h⟩
theorem IsFr.app {z : Nat} {H : Hp} {vs : List V} {rs : List Rat} {p : Addr} {t b : Int} {r : Rat} (h : IsFr z H vs rs) (hp : H p = some (.tup [.int t, .int b])) (hb : 0 < b) (he : ((t : Int) : Rat) = r * ((b : Int) : Rat)) (z1 : sz t ≤ z) (z2 : sz b ≤ z) : IsFr z H (vs ++ [.ref p]) (rs ++ [r]) := by
  refine ⟨by rw [List.length_append, List.length_append, h.1]; rfl, fun i s hs => ?_⟩
  rw [List.getElem?_append] at hs
  split at hs
  · rename_i hi
    obtain ⟨a, t', b', h1, h2⟩ := h.2 i s hs
    exact ⟨a, t', b', by rw [List.getElem?_append_left (by rw [h.1]; exact hi)]; exact h1, h2⟩
  · rename_i hi
    have e0 : i - rs.length = 0 := by
      cases e : i - rs.length with
      | zero => rfl
      | succ m => rw [e] at hs; cases hs
    rw [e0] at hs; cases hs
    have : i = vs.length := by have := h.1; omega
    subst this
    exact ⟨p, t, b, by rw [List.getElem?_append_right (Nat.le_refl _), Nat.sub_self]; rfl, hp, hb, he, z1, z2⟩
theorem IsFr.set {z z' n j : Nat} {H : Hp} {vs : List V} {F G : Nat → Rat} {p : Addr} {t b : Int} (h : IsFr z H vs ((List.range n).map F)) (hz : z ≤ z') (hp : H p = some (.tup [.int t, .int b])) (hb : 0 < b) (he : ((t : Int) : Rat) = G j * ((b : Int) : Rat)) (z1 : sz t ≤ z') (z2 : sz b ≤ z') (hG : ∀ m, m ≠ j → G m = F m) : IsFr z' H (vs.set j (.ref p)) ((List.range n).map G) := by
  refine ⟨by rw [List.length_set, h.1, List.length_map, List.length_map], fun i s hs => ?_⟩
  have hi : i < n := by have := (List.getElem?_eq_some_iff.mp hs).1; rwa [List.length_map, List.length_range] at this
  rw [List.getElem?_map, List.getElem?_range hi] at hs
  have es : s = G i := (Option.some.inj hs).symm
  subst es
  have hv : vs.length = n := by rw [h.1, List.length_map, List.length_range]
  by_cases e : i = j
  · subst e
    exact ⟨p, t, b, by rw [List.getElem?_set_self (by omega)], hp, hb, he, z1, z2⟩
  · obtain ⟨a, t', b', h1, h2, h3, h4, h5, h6⟩ := h.2 i (F i) (by rw [List.getElem?_map, List.getElem?_range hi]; rfl)
    exact ⟨a, t', b', by rw [List.getElem?_set_ne (fun z => e z.symm)]; exact h1, h2, h3, by rw [hG i e]; exact h4, Nat.le_trans h5 hz, Nat.le_trans h6 hz⟩
theorem cut3 {f : Nat → Int} {r : Int} (h0 : 0 ≤ r) (h1 : r < 3) : cutV ((vec 3 f).map V.int) none (some r) = (vec r.toNat f).map V.int := by
  obtain rfl | rfl | rfl : r = 0 ∨ r = 1 ∨ r = 2 := by omega
  all_goals rfl
theorem rat_lt_of {a b c : Rat} (hc : 0 < c) (h : a * c < b * c) : a < b := by
  rcases Classical.em (a < b) with z | z'
  · exact z
  · have := Rat.mul_le_mul_of_nonneg_right (Rat.not_lt.mp z') (Rat.le_of_lt hc)
    grind
noncomputable def clampI (f : Nat → Int) (q : Rat) (r : Nat) : Int :=
  if f r * (q.den : Int) < (if 0 > q.num - cumF f r * (q.den : Int) then 0 else q.num - cumF f r * (q.den : Int)) then f r * (q.den : Int) else (if 0 > q.num - cumF f r * (q.den : Int) then 0 else q.num - cumF f r * (q.den : Int))
theorem clamp_ok {f : Nat → Int} {q : Rat} {r : Nat} (hq : 0 ≤ q) (hf : ∀ j, j < 3 → 0 ≤ f j) (hr : r < 3) : 0 ≤ clampI f q r ∧ clampI f q r ≤ f r * (q.den : Int) ∧ ((clampI f q r : Int) : Rat) = laidQ f q r * ((q.den : Int) : Rat) := by
  have hd := den_posR q
  have hd' := den_pos q
  have hn := num_eq q
  have h0 := Int.mul_nonneg (hf r hr) (Int.le_of_lt hd')
  have hm := rest_max hq hf r (by omega)
  obtain ⟨x, hx⟩ : ∃ x, x = (if 0 > q.num - cumF f r * (q.den : Int) then 0 else q.num - cumF f r * (q.den : Int)) := ⟨_, rfl⟩
  have x0 : 0 ≤ x := by rw [hx]; split <;> omega
  have xe : ((x : Int) : Rat) = restQ f q r * ((q.den : Int) : Rat) := by
    have hsub : ((q.num - cumF f r * (q.den : Int) : Int) : Rat) = (q - ((cumF f r : Int) : Rat)) * ((q.den : Int) : Rat) := by
      rw [Rat.intCast_sub, Rat.intCast_mul, hn]; grind
    rw [hm, hx]
    split
    · rename_i hneg
      have hneg' : ((q.num - cumF f r * (q.den : Int) : Int) : Rat) < ((0 : Int) : Rat) := by exact_mod_cast hneg
      rw [hsub] at hneg'
      have : q - ((cumF f r : Int) : Rat) < 0 := rat_lt_of hd (by have e : ((0 : Int) : Rat) = 0 := rfl; rw [e] at hneg'; grind)
      rw [if_neg (by grind)]
      have e : ((0 : Int) : Rat) = 0 := rfl
      rw [e]; grind
    · rename_i hneg
      rw [hsub]
      split
      · rfl
      · rename_i hle
        have hge : ((0 : Int) : Rat) ≤ ((q.num - cumF f r * (q.den : Int) : Int) : Rat) := by exact_mod_cast Int.not_lt.mp hneg
        rw [hsub] at hge
        have e : ((0 : Int) : Rat) = 0 := rfl
        rw [e] at hge
        have h1 : q - ((cumF f r : Int) : Rat) ≤ 0 := by grind
        have h2 := Rat.mul_le_mul_of_nonneg_right h1 (Rat.le_of_lt hd)
        grind
  unfold clampI
  rw [← hx]
  have e1 : ((f r * (q.den : Int) : Int) : Rat) = ((f r : Int) : Rat) * ((q.den : Int) : Rat) := Rat.intCast_mul _ _
  split
  · rename_i h
    refine ⟨h0, Int.le_refl _, ?_⟩
    have h' : ((f r * (q.den : Int) : Int) : Rat) < ((x : Int) : Rat) := by exact_mod_cast h
    rw [e1, xe] at h'
    have := rat_lt_of hd h'
    unfold laidQ
    rw [if_pos this, e1]
  · rename_i h
    refine ⟨x0, Int.not_lt.mp h, ?_⟩
    have h' : ((x : Int) : Rat) ≤ ((f r * (q.den : Int) : Int) : Rat) := by exact_mod_cast Int.not_lt.mp h
    rw [e1, xe] at h'
    unfold laidQ
    rw [if_neg, xe]
    intro hlt
    have := Rat.mul_lt_mul_of_pos_right hlt hd
    grind
noncomputable def owedQ (ds : List Due) (m : Nat) : Rat := ((sumI (vec 3 (rankF ds m)) : Int) : Rat)
theorem sum3_bnd {ds : List Due} {n : Int} (hd : ∀ d ∈ ds, DueOk n d ∧ d.a ≤ 1000000000000) (hl : ds.length ≤ 64) (m : Nat) : 0 ≤ sumI (vec 3 (rankF ds m)) ∧ sumI (vec 3 (rankF ds m)) ≤ 300000000000000 := by
  have hb : ∀ j, j < 3 → 0 ≤ rankF ds m j ∧ rankF ds m j ≤ 100000000000000 := fun j _ => by
    have := rank_bnd (m := m) (r := j) ds fun d h => ⟨(hd d h).1.2.2.2.2.2.2.2.1, (hd d h).2⟩
    omega
  rw [sum_cum]
  have := cum_bnd hb 3 (by omega)
  omega
theorem owed_lay {ds : List Due} {n : Int} (hd : ∀ d ∈ ds, DueOk n d ∧ d.a ≤ 1000000000000) (hl : ds.length ≤ 64) (m : Nat) : LaySz (owedQ ds m) := by
  have h := sum3_bnd hd hl m
  exact ⟨castR_nn h.1, sz_nat h.1 (Int.lt_of_le_of_lt h.2 (by decide)), sz_of (by show (1 : Int).natAbs < 2 ^ 31; decide)⟩
end Internal

set_option Elab.async false
set_option linter.all false
set_option maxRecDepth 100000
namespace Internal
open PySem PySem.Spec PyProof.Rows
theorem castR_le {i j : Int} (h : i ≤ j) : ((i : Int) : Rat) ≤ ((j : Int) : Rat) := by exact_mod_cast h
noncomputable def Dv (D : Nat) (x : Rat) : Prop := ∃ t : Int, x * ((D : Int) : Rat) = (t : Rat)
section
variable {D E : Nat} {x y : Rat}
theorem Dv.add (h : Dv D x) (h' : Dv D y) : Dv D (x + y) := by
  obtain ⟨t, e⟩ := h
  obtain ⟨u, e'⟩ := h'
  exact ⟨t + u, by rw [Rat.intCast_add, ← e, ← e']; grind⟩
theorem Dv.sub (h : Dv D x) (h' : Dv D y) : Dv D (x - y) := by
  obtain ⟨t, e⟩ := h
  obtain ⟨u, e'⟩ := h'
  exact ⟨t - u, by rw [Rat.intCast_sub, ← e, ← e']; grind⟩
theorem Dv.int (i : Int) : Dv D ((i : Int) : Rat) := ⟨i * (D : Int), by rw [Rat.intCast_mul]⟩
theorem Dv.mulI (i : Int) (h : Dv D x) : Dv D (((i : Int) : Rat) * x) := by
  obtain ⟨t, e⟩ := h
  exact ⟨i * t, by rw [Rat.intCast_mul, ← e]; grind⟩
theorem Dv.dvd (h : Dv D x) (hd : D ∣ E) : Dv E x := by
  obtain ⟨k, rfl⟩ := hd
  obtain ⟨t, e⟩ := h
  refine ⟨t * (k : Int), ?_⟩
  have : (((D * k : Nat) : Int) : Rat) = ((D : Int) : Rat) * ((k : Int) : Rat) := by
    rw [← Rat.intCast_mul]; congr 1
  rw [this, Rat.intCast_mul, ← e]; grind
theorem Dv.div {f : Nat} (hf : 0 < f) (h : Dv D x) : Dv (D * f) (x / ((f : Int) : Rat)) := by
  obtain ⟨t, e⟩ := h
  refine ⟨t, ?_⟩
  have : (((D * f : Nat) : Int) : Rat) = ((D : Int) : Rat) * ((f : Int) : Rat) := by
    rw [← Rat.intCast_mul]; congr 1
  have hp : (0 : Rat) < ((f : Int) : Rat) := castR_pos (by omega)
  rw [this, ← e]
  grind
theorem Dv.den (hD : 0 < D) (h : Dv D x) : x.den ∣ D := by
  obtain ⟨t, e⟩ := h
  have e1 : x.num * (D : Int) = t * (x.den : Int) := by
    apply castR_inj
    rw [Rat.intCast_mul, Rat.intCast_mul, num_eq x, ← e]
    grind
  have e2 : x.den ∣ x.num.natAbs * D := by
    have : (x.den : Int) ∣ x.num * (D : Int) := ⟨t, by rw [e1, Int.mul_comm]⟩
    have := Int.natAbs_dvd_natAbs.mpr this
    rwa [Int.natAbs_natCast, Int.natAbs_mul, Int.natAbs_natCast] at this
  exact Nat.Coprime.dvd_of_dvd_mul_left (Nat.Coprime.symm x.reduced) e2
end
noncomputable def DvB (D : Nat) (x : Rat) : Prop := 0 ≤ x ∧ x ≤ ((100000000000000000 : Int) : Rat) ∧ Dv D x
theorem DvB.sz {D z : Nat} {x : Rat} (h : DvB D x) (hD : 0 < D) (hz : sz (D : Int) ≤ z) : SzQ x (z + 57) z := by
  have h1 := Nat.le_of_dvd hD (h.2.2.den hD)
  have hz' := sz_le.mp hz
  rw [Int.natAbs_natCast] at hz'
  have hn0 : 0 ≤ x.num := Rat.num_nonneg.mpr h.1
  have hn : x.num ≤ 100000000000000000 * (x.den : Int) := by
    have := (Rat.le_iff _ _).mp h.2.1
    have e : ((100000000000000000 : Int) : Rat).den = 1 := rfl
    have e2 : ((100000000000000000 : Int) : Rat).num = 100000000000000000 := rfl
    rw [e, e2] at this
    simpa using this
  refine ⟨sz_of ?_, sz_of ?_⟩
  · have h3 : x.num.natAbs ≤ 100000000000000000 * x.den := by omega
    have h4 : 100000000000000000 * x.den ≤ 100000000000000000 * D := Nat.mul_le_mul_left _ h1
    rw [Nat.pow_add]
    have h5 : 100000000000000000 * D < 2 ^ z * 2 ^ 57 := by
      have : (2 : Nat) ^ 57 = 144115188075855872 := by decide
      rw [this]; omega
    omega
  · rw [Int.natAbs_natCast]; omega
section
variable {f : Nat → Int} {q q' : Rat} {D : Nat}
theorem rest_dv (h : Dv D q) : ∀ r, Dv D (restQ f q r)
  | 0 => h
  | r + 1 => by
    have ih := rest_dv h r
    rw [restQ_succ]; unfold laidQ
    split
    · exact ih.sub (Dv.int _)
    · exact ih.sub ih
theorem laid_dv (h : Dv D q) (r : Nat) : Dv D (laidQ f q r) := by
  unfold laidQ
  split
  · exact Dv.int _
  · exact rest_dv h r
noncomputable def rkN (t : Int) : Nat := if 0 < t then t.toNat else 1
theorem rkN_pos (t : Int) : 0 < rkN t := by unfold rkN; split <;> omega
theorem share_dv (h : Dv D q) (r : Nat) : Dv (D * rkN (f r)) (shareQ f q r) := by
  unfold shareQ rkN
  split
  · rename_i h0
    have e : ((f r : Int) : Rat) = (((f r).toNat : Int) : Rat) := by congr 1; omega
    rw [e]
    exact (laid_dv h r).div (by omega)
  · exact Dv.int 0
theorem rest_le_q (hq : 0 ≤ q) (hf : ∀ r, r < 3 → 0 ≤ f r) {r : Nat} (h : r ≤ 3) : restQ f q r ≤ q := by
  have := rest_le hq hf r 0 (by omega)
  rw [Nat.zero_add] at this
  exact this
theorem rest_dvb (h : DvB D q) (hf : ∀ r, r < 3 → 0 ≤ f r) {r : Nat} (hr : r ≤ 3) : DvB D (restQ f q r) := ⟨rest_nn h.1 r, by have := rest_le_q h.1 hf hr; have := h.2.1; grind, rest_dv h.2.2 r⟩
theorem laid_dvb (h : DvB D q) (hf : ∀ r, r < 3 → 0 ≤ f r) {r : Nat} (hr : r < 3) : DvB D (laidQ f q r) := by
  have h0 := laid_bnd h.1 (hf r hr)
  have h1 := rest_dvb h hf (Nat.le_of_lt hr)
  refine ⟨h0.1, ?_, laid_dv h.2.2 r⟩
  have := h1.2.1
  unfold laidQ
  split <;> grind
theorem share_dvb (h : DvB D q) (hf : ∀ r, r < 3 → 0 ≤ f r) {r : Nat} (hr : r < 3) : DvB (D * rkN (f r)) (shareQ f q r) := by
  have h0 := share_bnd h.1 (hf r hr)
  refine ⟨h0.1, ?_, share_dv h.2.2 r⟩
  have : (1 : Rat) ≤ ((100000000000000000 : Int) : Rat) := by decide
  have := h0.2
  grind
theorem laid_mono (h0 : 0 ≤ q) (h : q ≤ q') (hf : ∀ r, r < 3 → 0 ≤ f r) {r : Nat} (hr : r < 3) : laidQ f q r ≤ laidQ f q' r := by
  have e1 := rest_max h0 hf r (by omega)
  have e2 := rest_max (q := q') (by grind) hf r (by omega)
  have hc := castR_nn (hf r hr)
  unfold laidQ
  rw [e1, e2]
  grind
theorem share_mono (h0 : 0 ≤ q) (h : q ≤ q') (hf : ∀ r, r < 3 → 0 ≤ f r) {r : Nat} (hr : r < 3) : shareQ f q r ≤ shareQ f q' r := by
  have e1 := share_mul h0 (hf r hr)
  have e2 := share_mul (q := q') (by grind) (hf r hr)
  have hl := laid_mono h0 h hf hr
  by_cases hp : 0 < f r
  · refine Rat.le_of_mul_le_mul_left (c := ((f r : Int) : Rat)) ?_ (castR_pos hp)
    rw [e1, e2]; exact hl
  · unfold shareQ
    rw [if_neg hp, if_neg hp]
    exact Rat.le_refl
end
noncomputable def prodT (F : Due → Int) : List Due → Nat
  | [] => 1
  | d :: ds => rkN (F d) * prodT F ds
theorem prodT_pos (F : Due → Int) : ∀ ds, 0 < prodT F ds
  | [] => Nat.one_pos
  | d :: ds => Nat.mul_pos (rkN_pos _) (prodT_pos F ds)
theorem prodT_dvd {F : Due → Int} : ∀ {ds : List Due} {d : Due}, d ∈ ds → rkN (F d) ∣ prodT F ds
  | e :: ds, d, h => by
    rcases List.mem_cons.mp h with rfl | h
    · exact Nat.dvd_mul_right _ _
    · exact Nat.dvd_trans (prodT_dvd h) (Nat.dvd_mul_left _ _)
theorem prodT_sz {F : Due → Int} {z : Nat} (hz : 1 ≤ z) : ∀ {ds : List Due}, (∀ d ∈ ds, sz (F d) ≤ z) → prodT F ds ≤ (2 ^ z) ^ ds.length
  | [], _ => Nat.le_refl _
  | d :: ds, h => by
    have ih := prodT_sz hz (ds := ds) fun e he => h e (List.mem_cons_of_mem _ he)
    have h1 := sz_le.mp (h d List.mem_cons_self)
    have h2 : rkN (F d) ≤ 2 ^ z := by
      unfold rkN
      split
      · omega
      · exact Nat.one_le_two_pow
    rw [List.length_cons, Nat.pow_succ, Nat.mul_comm]
    exact Nat.mul_le_mul h2 ih
noncomputable def rkD (ds : List Due) (d : Due) : Int := rankF ds d.p.toNat d.r.toNat
noncomputable def allT (ds : List Due) : Nat := prodT (rkD ds) ds
theorem allT_pos (ds : List Due) : 0 < allT ds := prodT_pos _ _
theorem payQ_dv {ds : List Due} {qs : List Rat} {D : Nat} (hq : ∀ q ∈ qs, DvB D q) {d : Due} (hd : d ∈ ds) (hp : d.p.toNat < qs.length) : Dv (D * allT ds) (payQ ds qs d) := by
  obtain ⟨q, hqi⟩ := lt_some hp
  have hqd : qs.getD d.p.toNat 0 = q := by rw [List.getD_eq_getElem?_getD, hqi]; rfl
  unfold payQ
  rw [hqd]
  exact Dv.mulI _ ((share_dv (hq q (List.mem_of_getElem? hqi)).2.2 _).dvd (Nat.mul_dvd_mul_left _ (prodT_dvd (F := rkD ds) hd)))
theorem payQ_bnd {ds : List Due} {qs : List Rat} {D : Nat} (hq : ∀ q ∈ qs, DvB D q) {d : Due} (hr : ∀ r, r < 3 → 0 ≤ rankF ds d.p.toNat r) (hp : d.p.toNat < qs.length) (h3 : d.r.toNat < 3) (ha : 0 ≤ d.a) : 0 ≤ payQ ds qs d ∧ payQ ds qs d ≤ ((d.a : Int) : Rat) := by
  obtain ⟨q, hqi⟩ := lt_some hp
  have hqd : qs.getD d.p.toNat 0 = q := by rw [List.getD_eq_getElem?_getD, hqi]; rfl
  unfold payQ
  rw [hqd]
  have hs := share_bnd (hq q (List.mem_of_getElem? hqi)).1 (hr _ h3)
  have h0 := castR_nn ha
  constructor
  · exact Rat.mul_nonneg h0 hs.1
  · have := Rat.mul_le_mul_of_nonneg_left hs.2 h0
    grind
theorem sumQ_dv {E : Nat} : ∀ (i : Nat) {qs : List Rat}, (∀ q ∈ qs, Dv E q ∧ 0 ≤ q ∧ q ≤ ((1000000000000 : Int) : Rat)) → i ≤ qs.length → Dv E (sumQ (qs.take i)) ∧ 0 ≤ sumQ (qs.take i) ∧ sumQ (qs.take i) ≤ ((1000000000000 * i : Int) : Rat)
  | 0, qs, _, _ => by
    rw [List.take_zero]
    exact ⟨Dv.int 0, Rat.le_refl, Rat.le_refl⟩
  | i + 1, qs, h, hi => by
    obtain ⟨q, hq⟩ := lt_some (show i < qs.length by omega)
    obtain ⟨h1, h2, h3⟩ := sumQ_dv i h (by omega)
    obtain ⟨a1, a2, a3⟩ := h q (List.mem_of_getElem? hq)
    rw [take_snoc hq, sumQ_snoc]
    refine ⟨h1.add a1, by grind, ?_⟩
    have e : ((1000000000000 * ((i + 1 : Nat) : Int) : Int) : Rat) = ((1000000000000 * (i : Int) : Int) : Rat) + ((1000000000000 : Int) : Rat) := by
      rw [← Rat.intCast_add]; congr 1
    rw [e]; grind
theorem sumQ_dvb {E : Nat} {qs : List Rat} (h : ∀ q ∈ qs, Dv E q ∧ 0 ≤ q ∧ q ≤ ((1000000000000 : Int) : Rat)) (hl : qs.length ≤ 64) (i : Nat) : DvB E (sumQ (qs.take i)) := by
  have key : ∀ j, j ≤ qs.length → DvB E (sumQ (qs.take j)) := fun j hj => by
    obtain ⟨h1, h2, h3⟩ := sumQ_dv j h hj
    refine ⟨h2, ?_, h1⟩
    have : ((1000000000000 * (j : Int) : Int) : Rat) ≤ ((100000000000000000 : Int) : Rat) := castR_le (by omega)
    grind
  by_cases hi : i ≤ qs.length
  · exact key i hi
  · rw [List.take_of_length_le (by omega), ← List.take_length (l := qs)]
    exact key _ (Nat.le_refl _)
set_option genInjectivity false in
set_option genSizeOf false in
structure Deep (ds : List Due) (qs : List Rat) (D : Nat) : Prop where
  pos : 0 < D
  lay : ∀ q ∈ qs, DvB D q
  zs : sz ((D * allT ds : Nat) : Int) ≤ 3000
noncomputable def nextF (ds : List Due) (ps : List Int) (qs : List Rat) (m : Nat) : Rat :=
  if ((ps.getD m 0 : Int) : Rat) + gotF ds (payQ ds qs) m < owedQ ds m then ((ps.getD m 0 : Int) : Rat) + gotF ds (payQ ds qs) m else owedQ ds m
theorem gainF_mono {ds : List Due} {g g' : Due → Rat} (h : ∀ d ∈ ds, g d ≤ g' d) (m : Nat) : gotF ds g m ≤ gotF ds g' m := by
  have key : ∀ t, t ≤ ds.length → gotF (ds.take t) g m ≤ gotF (ds.take t) g' m := by
    intro t
    induction t with
    | zero => intro _; exact Rat.le_refl
    | succ t ih =>
      intro ht
      obtain ⟨d, hd⟩ := lt_some (show t < ds.length by omega)
      have h1 := ih (by omega)
      have h2 := h d (List.mem_of_getElem? hd)
      rw [take_snoc hd, gotF_snoc, gotF_snoc]
      split <;> grind
  have := key ds.length (Nat.le_refl _)
  rwa [List.take_length] at this
theorem next_le {ds : List Due} {ps : List Int} {qs : List Rat} (m : Nat) : nextF ds ps qs m ≤ owedQ ds m := by
  unfold nextF
  split <;> grind
theorem map_getD {F : Nat → Rat} {n m : Nat} : ((List.range n).map F).getD m 0 = if m < n then F m else 0 := by
  rw [List.getD_eq_getElem?_getD, List.getElem?_map]
  by_cases h : m < n
  · rw [List.getElem?_range h, if_pos h]; rfl
  · rw [List.getElem?_eq_none (by rw [List.length_range]; omega), if_neg h]; rfl
theorem rank_bndA {m r : Nat} {A : Int} : ∀ (ds : List Due), (∀ d ∈ ds, 0 ≤ d.a ∧ d.a ≤ A) → 0 ≤ A → 0 ≤ rankF ds m r ∧ rankF ds m r ≤ A * (ds.length : Int) := by
  intro ds h hA
  have key : ∀ t, t ≤ ds.length → 0 ≤ rankF (ds.take t) m r ∧ rankF (ds.take t) m r ≤ A * (t : Int) := by
    intro t
    induction t with
    | zero => intro _; rw [List.take_zero]; exact ⟨Int.le_refl _, by show (0 : Int) ≤ A * 0; omega⟩
    | succ t ih =>
      intro ht
      obtain ⟨d, hd⟩ := lt_some (show t < ds.length by omega)
      have h1 := ih (by omega)
      have h2 := h d (List.mem_of_getElem? hd)
      have e : A * ((t + 1 : Nat) : Int) = A * (t : Int) + A := by push_cast; rw [Int.mul_add, Int.mul_one]
      rw [take_snoc hd, rankF_snoc, e]
      split <;> omega
  have := key ds.length (Nat.le_refl _)
  rwa [List.take_length] at this
theorem pow_szT {ds : List Due} {z c n : Nat} (hz : 1 ≤ z) (hT : ∀ d ∈ ds, sz (rkD ds d) ≤ z) (hc : ds.length ≤ c) (h : z * c * (n + 1) < 3000) : sz ((allT ds ^ (n + 1) : Nat) : Int) ≤ 3000 := by
  refine sz_of ?_
  rw [Int.natAbs_natCast]
  have h1 : allT ds ≤ 2 ^ (z * c) := by
    have := prodT_sz hz hT
    rw [← Nat.pow_mul] at this
    exact Nat.le_trans this (Nat.pow_le_pow_right (by decide) (Nat.mul_le_mul_left _ hc))
  have h2 := Nat.pow_le_pow_left h1 (n + 1)
  rw [← Nat.pow_mul] at h2
  exact Nat.lt_of_le_of_lt h2 (Nat.pow_lt_pow_right (by decide) h)
noncomputable def Drawn (ds : List Due) (c m : Int) : Prop := (m = 0 → ∀ d ∈ ds, d.a ≤ 12) ∧ (m ≠ 0 → c < 17) ∧ ds.length = c.toNat
theorem drawn_sz {ds : List Due} {c m n : Int} (h : Drawn ds c m) (hd : ∀ d ∈ ds, 0 ≤ d.a ∧ d.a ≤ 1000000000000) (c0 : 0 ≤ c) (c1 : c ≤ 57) (m0 : 0 ≤ m) (n0 : 0 ≤ n) (n1 : n ≤ 8) (hn : (0 < m ∧ 6 < c ∨ 16 < c) → n ≤ 3) : sz ((allT ds ^ (n.toNat + 1) : Nat) : Int) ≤ 3000 := by
  obtain ⟨h1, h2, hl⟩ := h
  by_cases hm : m = 0
  · have ha : ∀ d ∈ ds, 0 ≤ d.a ∧ d.a ≤ 12 := fun d h => ⟨(hd d h).1, h1 hm d h⟩
    by_cases hc : 16 < c
    · refine pow_szT (z := 10) (c := 57) (by decide) (fun d _ => ?_) (by omega) ?_
      · have := rank_bndA (m := d.p.toNat) (r := d.r.toNat) ds ha (by decide)
        exact sz_of (by unfold rkD; have := (by decide : (2 : Nat) ^ 10 = 1024); omega)
      · have := hn (.inr hc)
        have : n.toNat ≤ 3 := by omega
        calc 10 * 57 * (n.toNat + 1) ≤ 10 * 57 * 4 := Nat.mul_le_mul_left _ (by omega)
          _ < 3000 := by decide
    · refine pow_szT (z := 8) (c := 16) (by decide) (fun d _ => ?_) (by omega) ?_
      · have := rank_bndA (m := d.p.toNat) (r := d.r.toNat) ds ha (by decide)
        exact sz_of (by unfold rkD; have := (by decide : (2 : Nat) ^ 8 = 256); omega)
      · calc 8 * 16 * (n.toNat + 1) ≤ 8 * 16 * 9 := Nat.mul_le_mul_left _ (by omega)
          _ < 3000 := by decide
  · have hc16 := h2 hm
    by_cases hc : 6 < c
    · refine pow_szT (z := 44) (c := 16) (by decide) (fun d _ => ?_) (by omega) ?_
      · have := rank_bndA (m := d.p.toNat) (r := d.r.toNat) ds hd (by decide)
        exact sz_of (by unfold rkD; have := (by decide : (2 : Nat) ^ 44 = 17592186044416); omega)
      · have := hn (.inl ⟨by omega, hc⟩)
        have : n.toNat ≤ 3 := by omega
        calc 44 * 16 * (n.toNat + 1) ≤ 44 * 16 * 4 := Nat.mul_le_mul_left _ (by omega)
          _ < 3000 := by decide
    · refine pow_szT (z := 43) (c := 6) (by decide) (fun d _ => ?_) (by omega) ?_
      · have := rank_bndA (m := d.p.toNat) (r := d.r.toNat) ds hd (by decide)
        exact sz_of (by unfold rkD; have := (by decide : (2 : Nat) ^ 43 = 8796093022208); omega)
      · calc 43 * 6 * (n.toNat + 1) ≤ 43 * 6 * 9 := Nat.mul_le_mul_left _ (by omega)
          _ < 3000 := by decide
theorem owes_ranks {ds : List Due} {m : Nat} (hd : ∀ d ∈ ds, 0 ≤ d.r ∧ d.r < 3) : owesF ds m = sumI (vec 3 (rankF ds m)) := by
  have key : ∀ t, t ≤ ds.length → owesF (ds.take t) m = rankF (ds.take t) m 0 + rankF (ds.take t) m 1 + rankF (ds.take t) m 2 := by
    intro t
    induction t with
    | zero => intro _; rfl
    | succ t ih =>
      intro ht
      obtain ⟨d, hdt⟩ := lt_some (show t < ds.length by omega)
      have h1 := ih (by omega)
      obtain ⟨r0, r1⟩ := hd d (List.mem_of_getElem? hdt)
      rw [take_snoc hdt, owesF_snoc, rankF_snoc, rankF_snoc, rankF_snoc]
      by_cases e : d.p = (m : Int)
      · rw [if_pos e]
        obtain h | h | h : d.r = 0 ∨ d.r = 1 ∨ d.r = 2 := by omega
        · rw [if_pos ⟨e, by omega⟩, if_neg (fun z => by have := z.2; omega), if_neg (fun z => by have := z.2; omega)]; omega
        · rw [if_neg (fun z => by have := z.2; omega), if_pos ⟨e, by omega⟩, if_neg (fun z => by have := z.2; omega)]; omega
        · rw [if_neg (fun z => by have := z.2; omega), if_neg (fun z => by have := z.2; omega), if_pos ⟨e, by omega⟩]; omega
      · rw [if_neg e, if_neg (fun z => e z.1), if_neg (fun z => e z.1), if_neg (fun z => e z.1)]; exact h1
  have := key ds.length (Nat.le_refl _)
  rw [List.take_length] at this
  rw [this]
  show _ = 0 + rankF ds m 0 + rankF ds m 1 + rankF ds m 2
  omega
end Internal

set_option Elab.async false
set_option linter.all false
set_option maxRecDepth 100000
namespace Internal
open PySem PySem.Spec PyProof.Rows
noncomputable def PurseOk (ps : List Int) : Prop := ∀ p ∈ ps, 0 ≤ p ∧ p ≤ 100000000000000
theorem next_num {ds : List Due} {ps : List Int} {qs : List Rat} {m : Nat} {t b p : Int} (hb : 0 < b) (he : ((t : Int) : Rat) = gotF ds (payQ ds qs) m * ((b : Int) : Rat)) (hp : ps.getD m 0 = p) : (sumI (vec 3 (rankF ds m)) * b < t + p * b → nextF ds ps qs m = owedQ ds m) ∧ (¬ sumI (vec 3 (rankF ds m)) * b < t + p * b → ((t + p * b : Int) : Rat) = nextF ds ps qs m * ((b : Int) : Rat)) := by
  have hb' := castR_pos hb
  have e1 : ((t + p * b : Int) : Rat) = (((p : Int) : Rat) + gotF ds (payQ ds qs) m) * ((b : Int) : Rat) := by
    rw [Rat.intCast_add, Rat.intCast_mul, he]; grind
  have e2 : ((sumI (vec 3 (rankF ds m)) * b : Int) : Rat) = owedQ ds m * ((b : Int) : Rat) := Rat.intCast_mul _ _
  unfold nextF
  rw [hp]
  constructor
  · intro h
    have h1 : ((sumI (vec 3 (rankF ds m)) * b : Int) : Rat) < ((t + p * b : Int) : Rat) := by exact_mod_cast h
    rw [e1, e2] at h1
    have := rat_lt_of hb' h1
    rw [if_neg (by grind)]
  · intro h
    have h1 : ((t + p * b : Int) : Rat) ≤ ((sumI (vec 3 (rankF ds m)) * b : Int) : Rat) := castR_le (Int.not_lt.mp h)
    rw [e1, e2] at h1
    rw [e1]
    split
    · rfl
    · rename_i hn
      have h2 : ¬ owedQ ds m < ((p : Int) : Rat) + gotF ds (payQ ds qs) m := fun z => by
        have := Rat.mul_lt_mul_of_pos_right z hb'
        grind
      have h3 : ((p : Int) : Rat) + gotF ds (payQ ds qs) m = owedQ ds m := by grind
      rw [h3]
noncomputable def spPurseP (K : PySem.W.Frag) : Sp := fun vs H Q _ => ∃ (a : Addr) (ns : List Int) (k y m : Int), vs = [.ref a, .int k, .int y, .int m] ∧ SqL K H a (ns.map V.int) ∧ Light ns ∧ 0 ≤ k ∧ k ≤ 900 ∧ 0 ≤ m ∧ m ≤ 1000000000000 ∧ ∀ x, 0 ≤ x → x ≤ 100000000000000 → Q (.int x) H
theorem spPurseP_i {K : PySem.W.Frag} {a : Addr} {ns : List Int} {k y m : Int} {H : Hp} {Q : VK} {E : XK} (hS : SqL K H a (ns.map V.int)) (hz : Light ns) (h0 : 0 ≤ k) (h1 : k ≤ 900) (m0 : 0 ≤ m) (m1 : m ≤ 1000000000000) (q : ∀ x, 0 ≤ x → x ≤ 100000000000000 → Q (.int x) H) : spPurseP K [.ref a, .int k, .int y, .int m] H Q E := ⟨a, ns, k, y, m, rfl, hS, hz, h0, h1, m0, m1, q⟩
noncomputable def spPursesP (K : PySem.W.Frag) : Sp := fun vs H Q _ => ∃ (a : Addr) (ns : List Int) (n m : Int), vs = [.ref a, .int n, .int m] ∧ SqL K H a (ns.map V.int) ∧ Light ns ∧ 0 ≤ n ∧ n ≤ 9 ∧ 0 ≤ m ∧ m ≤ 1000000000000 ∧ ∀ l H' ps, H l = none → Same H H' → H' l = some (.lst (ps.map V.int)) → ps.length = n.toNat → PurseOk ps → Q (.ref l) H'
theorem spPursesP_i {K : PySem.W.Frag} {a : Addr} {ns : List Int} {n m : Int} {H : Hp} {Q : VK} {E : XK} (hS : SqL K H a (ns.map V.int)) (hz : Light ns) (n0 : 0 ≤ n) (n1 : n ≤ 9) (m0 : 0 ≤ m) (m1 : m ≤ 1000000000000) (q : ∀ l H' ps, H l = none → Same H H' → H' l = some (.lst (ps.map V.int)) → ps.length = n.toNat → PurseOk ps → Q (.ref l) H') : spPursesP K [.ref a, .int n, .int m] H Q E := ⟨a, ns, n, m, rfl, hS, hz, n0, n1, m0, m1, q⟩
noncomputable def spAmountG (K : PySem.W.Frag) : Sp := fun vs H Q _ => ∃ (a : Addr) (ns : List Int) (k m : Int), vs = [.ref a, .int k, .int m] ∧ SqL K H a (ns.map V.int) ∧ Light ns ∧ 0 ≤ k ∧ k ≤ 1000 ∧ 0 ≤ m ∧ m ≤ 1000000000000 ∧ ∀ x, 0 ≤ x → x ≤ 1000000000000 → (m = 0 → x ≤ 12) → Q (.int x) H
theorem spAmountG_i {K : PySem.W.Frag} {a : Addr} {ns : List Int} {k m : Int} {H : Hp} {Q : VK} {E : XK} (hS : SqL K H a (ns.map V.int)) (hz : Light ns) (h0 : 0 ≤ k) (h1 : k ≤ 1000) (m0 : 0 ≤ m) (m1 : m ≤ 1000000000000) (q : ∀ x, 0 ≤ x → x ≤ 1000000000000 → (m = 0 → x ≤ 12) → Q (.int x) H) : spAmountG K [.ref a, .int k, .int m] H Q E := ⟨a, ns, k, m, rfl, hS, hz, h0, h1, m0, m1, q⟩
noncomputable def spDueG (K : PySem.W.Frag) : Sp := fun vs H Q _ => ∃ (a : Addr) (ns : List Int) (k n m : Int), vs = [.ref a, .int k, .int n, .int m] ∧ SqL K H a (ns.map V.int) ∧ Light ns ∧ 0 ≤ k ∧ k ≤ 900 ∧ 2 ≤ n ∧ n ≤ 9 ∧ 0 ≤ m ∧ m ≤ 1000000000000 ∧ ∀ p H' d, H p = none → Same H H' → H' p = some (.tup (dueV d)) → DueOk n d → d.a ≤ 1000000000000 → (m = 0 → d.a ≤ 12) → Q (.ref p) H'
theorem spDueG_i {K : PySem.W.Frag} {a : Addr} {ns : List Int} {k n m : Int} {H : Hp} {Q : VK} {E : XK} (hS : SqL K H a (ns.map V.int)) (hz : Light ns) (h0 : 0 ≤ k) (h1 : k ≤ 900) (n0 : 2 ≤ n) (n1 : n ≤ 9) (m0 : 0 ≤ m) (m1 : m ≤ 1000000000000) (q : ∀ p H' d, H p = none → Same H H' → H' p = some (.tup (dueV d)) → DueOk n d → d.a ≤ 1000000000000 → (m = 0 → d.a ≤ 12) → Q (.ref p) H') : spDueG K [.ref a, .int k, .int n, .int m] H Q E := ⟨a, ns, k, n, m, rfl, hS, hz, h0, h1, n0, n1, m0, m1, q⟩
noncomputable def spSheetG (K : PySem.W.Frag) : Sp := fun vs H Q _ => ∃ (a : Addr) (ns : List Int) (n c m : Int), vs = [.ref a, .int n, .int c, .int m] ∧ SqL K H a (ns.map V.int) ∧ Light ns ∧ 1 ≤ n ∧ n ≤ 9 ∧ 0 ≤ c ∧ c ≤ 64 ∧ (n = 1 → c = 0) ∧ 0 ≤ m ∧ m ≤ 1000000000000 ∧ ∀ l H' vs ds, H l = none → Same H H' → H' l = some (.lst vs) → IsTs dueV H' vs ds → (∀ d ∈ ds, DueOk n d ∧ d.a ≤ 1000000000000) → ds.length = c.toNat → (m = 0 → ∀ d ∈ ds, d.a ≤ 12) → Q (.ref l) H'
theorem spSheetG_i {K : PySem.W.Frag} {a : Addr} {ns : List Int} {n c m : Int} {H : Hp} {Q : VK} {E : XK} (hS : SqL K H a (ns.map V.int)) (hz : Light ns) (n0 : 1 ≤ n) (n1 : n ≤ 9) (c0 : 0 ≤ c) (c1 : c ≤ 64) (nc : n = 1 → c = 0) (m0 : 0 ≤ m) (m1 : m ≤ 1000000000000) (q : ∀ l H' vs ds, H l = none → Same H H' → H' l = some (.lst vs) → IsTs dueV H' vs ds → (∀ d ∈ ds, DueOk n d ∧ d.a ≤ 1000000000000) → ds.length = c.toNat → (m = 0 → ∀ d ∈ ds, d.a ≤ 12) → Q (.ref l) H') : spSheetG K [.ref a, .int n, .int c, .int m] H Q E := ⟨a, ns, n, c, m, rfl, hS, hz, n0, n1, c0, c1, nc, m0, m1, q⟩
end Internal

set_option Elab.async false
set_option linter.all false
set_option maxRecDepth 100000
namespace Dt
noncomputable def sm (n : Nat) (f : Nat → Rat) : Rat := match n with
  | 0 => 0
  | n + 1 => sm n f + f n
noncomputable def skip (i : Nat) (f : Nat → Rat) : Nat → Rat := fun r => if r < i then f r else f (r + 1)
noncomputable def up (i k : Nat) : Nat := if k < i then k else k + 1
noncomputable def sgn : Nat → Rat
  | 0 => 1
  | n + 1 => -sgn n
noncomputable def det : Nat → (Nat → Nat → Rat) → Rat
  | 0, _ => 1
  | n + 1, c => sm (n + 1) fun i => sgn (n + i) * c n i * det n (fun j => skip i (c j))
end Dt

set_option Elab.async false
set_option linter.all false
set_option maxRecDepth 100000
namespace Dt
noncomputable def cl (A : Nat → Nat → Rat) : Nat → Nat → Rat := fun j r => A r j
set_option genInjectivity false in
set_option genSizeOf false in
structure Bar (n k : Nat) (A T : Nat → Nat → Rat) (d : Rat) : Prop where
  d0 : d ≠ 0
  dd : d = det k (cl A)
  id1 : ∀ i m, i < k → m < k → T i m = if i = m then d else 0
  id2 : ∀ i m, k ≤ i → i < n → m < k → T i m = 0
  rel : ∀ l j, l < n → j ≤ n → d * A l j = sm k (fun m => A l m * T m j) + (if k ≤ l then T l j else 0)
section
variable {n k : Nat} {A T : Nat → Nat → Rat} {d : Rat}
end
end Dt

set_option Elab.async false
set_option linter.all false
set_option maxRecDepth 100000
namespace Dt
noncomputable def Bd (b x : Rat) : Prop := -b ≤ x ∧ x ≤ b
set_option genInjectivity false in
set_option genSizeOf false in
structure Eqv (n : Nat) (A B : Nat → Nat → Rat) : Prop where
  dt : det n (cl A) = 0 ↔ det n (cl B) = 0
  an : ∀ x : Nat → Rat, (∀ l, l < n → sm n (fun m => A l m * x m) = A l n) ↔ ∀ l, l < n → sm n (fun m => B l m * x m) = B l n
end Dt

set_option Elab.async false
set_option linter.all false
namespace Dt
set_option genInjectivity false in
set_option genSizeOf false in
structure Leak (n : Nat) (f : Nat → Nat → Rat) (r : Nat → Rat) : Prop where
  nn : ∀ j i, j < n → i < n → 0 ≤ f j i
  own : ∀ i, i < n → f i i = 0
  le : ∀ j, j < n → sm n (f j) ≤ r j
  leak : ∀ S : Nat → Bool, (∃ j, j < n ∧ S j = true) → ∃ j, j < n ∧ S j = true ∧ sm n (fun i => if S i then f j i else 0) < r j
noncomputable def bal (f : Nat → Nat → Rat) (r : Nat → Rat) : Nat → Nat → Rat := fun i j => if i = j then r i else -f j i
end Dt

set_option Elab.async false
set_option linter.all false
namespace Dt
noncomputable def prodN (B : Nat → Rat) : Nat → Rat
  | 0 => 1
  | n + 1 => prodN B n * B n
end Dt

set_option Elab.async false
set_option linter.all false
set_option maxRecDepth 100000
namespace Internal
open PySem PySem.Spec PyProof.Rows
section
variable {f : Nat → Int} {q q' : Rat}
noncomputable def cumR (f : Nat → Int) (r : Nat) : Rat := ((cumF f r : Int) : Rat)
theorem cumR_succ (f : Nat → Int) (r : Nat) : cumR f (r + 1) = cumR f r + ((f r : Int) : Rat) := by
  unfold cumR
  show ((cumF f r + f r : Int) : Rat) = _
  rw [Rat.intCast_add]
theorem cumR_mono (hf : ∀ r, r < 3 → 0 ≤ f r) : ∀ (k r : Nat), r + k ≤ 3 → cumR f r ≤ cumR f (r + k)
  | 0, r, _ => by show cumR f r ≤ cumR f r; grind
  | k + 1, r, h => by
    have h1 := cumR_mono hf k r (by omega)
    have h2 := castR_nn (hf (r + k) (by omega))
    show cumR f r ≤ cumR f (r + k + 1)
    rw [cumR_succ]; grind
theorem cumR_le (hf : ∀ r, r < 3 → 0 ≤ f r) {a b : Nat} (h : a ≤ b) (hb : b ≤ 3) : cumR f a ≤ cumR f b := by
  have := cumR_mono hf (b - a) a (by omega)
  rwa [show a + (b - a) = b by omega] at this
theorem rest_cl (hq : 0 ≤ q) (hf : ∀ r, r < 3 → 0 ≤ f r) : ∀ r, r ≤ 3 → restQ f q r = if q ≤ cumR f r then 0 else q - cumR f r
  | 0, _ => by
    have e : cumR f 0 = 0 := rfl
    show q = _
    rw [e]
    split <;> grind
  | r + 1, h => by
    have ih := rest_cl hq hf r (by omega)
    have h1 := castR_nn (hf r (by omega))
    have h2 := cumR_succ f r
    rw [restQ_succ]
    unfold laidQ
    rw [ih]
    split <;> split <;> split <;> grind
theorem laid_cl (hq : 0 ≤ q) (hf : ∀ r, r < 3 → 0 ≤ f r) {r : Nat} (hr : r < 3) : laidQ f q r = if q ≤ cumR f r then 0 else if cumR f (r + 1) ≤ q then ((f r : Int) : Rat) else q - cumR f r := by
  have ih := rest_cl hq hf r (by omega)
  have h1 := castR_nn (hf r hr)
  have h2 := cumR_succ f r
  unfold laidQ
  rw [ih]
  split <;> split <;> (try split) <;> grind
end
end Internal

set_option Elab.async false
set_option linter.all false
set_option maxRecDepth 100000
namespace Internal
open PySem PySem.Spec PyProof.Rows
noncomputable def flowF (ρ : Nat → Option Nat) (ds : List Due) (i j : Nat) : Int := ds.foldl (fun (s : Int) (d : Due) => if d.p = (i : Int) ∧ d.q = (j : Int) ∧ ρ i = some d.r.toNat then s + d.a else s) 0
theorem byTake {P : List Due → Prop} (h0 : P []) (hs : ∀ (es : List Due) (d : Due), P es → P (es ++ [d])) (ds : List Due) : P ds := by
  have : ∀ i, i ≤ ds.length → P (ds.take i) := by
    intro i
    induction i with
    | zero => intro _; rw [List.take_zero]; exact h0
    | succ i ih =>
      intro hi
      rw [List.take_succ, List.getElem?_eq_getElem (by omega)]
      exact hs _ _ (ih (by omega))
  have h := this ds.length (Nat.le_refl _)
  rwa [List.take_length] at h
end Internal

set_option Elab.async false
set_option linter.all false
set_option maxRecDepth 100000
namespace Rc
section
variable {n : Nat} {g : Nat → Nat → Bool} {i : Nat}
noncomputable def nextL (n : Nat) (g : Nat → Nat → Bool) (j : Nat) (l : List Nat) : List Nat := (List.range n).filter fun k => g j k && !decide (k ∈ l)
noncomputable def seqL (n : Nat) (g : Nat → Nat → Bool) (i : Nat) : Nat → List Nat
  | 0 => [i]
  | k + 1 => if k < (seqL n g i k).length then seqL n g i k ++ nextL n g ((seqL n g i k).getD k 0) (seqL n g i k) else seqL n g i k
noncomputable def reach (n : Nat) (g : Nat → Nat → Bool) (i : Nat) : List Nat := seqL n g i n
noncomputable def minL : List (List Nat) → List Nat
  | [] => []
  | l :: ls => ls.foldl (fun b c => if c.length < b.length then c else b) l
noncomputable def circles (n : Nat) (g : Nat → Nat → Bool) (sh : Nat → Bool) : List (List Nat) := ((List.range n).map (reach n g)).filter fun l => l.all sh
noncomputable def circle (n : Nat) (g : Nat → Nat → Bool) (sh : Nat → Bool) : List Nat := minL (circles n g sh)
variable {sh : Nat → Bool}
set_option genInjectivity false in
set_option genSizeOf false in
structure Cir (n : Nat) (g : Nat → Nat → Bool) (sh : Nat → Bool) (c : List Nat) : Prop where
  nd : c.Nodup
  lt : ∀ x ∈ c, x < n
  sh : ∀ x ∈ c, sh x = true
  cl : ∀ x y, x ∈ c → y < n → g x y = true → y ∈ c
  ne : c ≠ []
  small : ∀ S : Nat → Prop, (∀ x, S x → x ∈ c) → (∀ j k, S j → k < n → g j k = true → S k) → (∃ j, S j) → ∀ x ∈ c, S x
end
end Rc
namespace Dt
end Dt

set_option Elab.async false
set_option linter.all false
set_option maxRecDepth 100000
namespace Internal
open PySem PySem.Spec PyProof.Rows
noncomputable def payL (ds : List Due) (l : Nat → Rat) (d : Due) : Rat := ((d.a : Int) : Rat) * shareQ (rankF ds d.p.toNat) (l d.p.toNat) d.r.toNat
noncomputable def stp (ds : List Due) (l : Nat → Rat) (i : Nat) : Option Nat := stopF (rankF ds i) (l i) 3
noncomputable def flR (ds : List Due) (l : Nat → Rat) (i j : Nat) : Rat := ((flowF (stp ds l) ds i j : Int) : Rat)
noncomputable def rowR (n : Nat) (ds : List Due) (l : Nat → Rat) (i : Nat) : Rat := Dt.sm n (flR ds l i)
theorem gotF_cg {g g' : Due → Rat} {m : Nat} (ds : List Due) : (∀ d ∈ ds, g d = g' d) → gotF ds g m = gotF ds g' m :=
  byTake (P := fun ds => (∀ d ∈ ds, g d = g' d) → gotF ds g m = gotF ds g' m) (fun _ => rfl) (fun es d ih h => by
    rw [gotF_snoc, gotF_snoc, ih fun e he => h e (List.mem_append_left _ he), h d (List.mem_append_right _ (.head _))]) ds
theorem rank_nn {m r : Nat} (ds : List Due) : (∀ d ∈ ds, 0 ≤ d.a) → 0 ≤ rankF ds m r :=
  byTake (P := fun ds => (∀ d ∈ ds, 0 ≤ d.a) → 0 ≤ rankF ds m r) (fun _ => Int.le_refl 0) (fun es d ih h => by
    have h1 := ih fun e he => h e (List.mem_append_left _ he)
    have h2 := h d (List.mem_append_right _ (.head _))
    rw [rankF_snoc]
    split <;> omega) ds
set_option genInjectivity false in
set_option genSizeOf false in
structure CInv (n : Nat) (ds : List Due) (p : Nat → Rat) (l : Nat → Rat) (t : Rat) : Prop where
  lo : ∀ i, i < n → 0 ≤ l i
  hi : ∀ i, i < n → l i ≤ cumR (rankF ds i) 3
  sh : ∀ i, i < n → stp ds l i ≠ none → l i = t * p i + gotF ds (payL ds l) i
  fu : ∀ i, i < n → stp ds l i = none → cumR (rankF ds i) 3 ≤ t * p i + gotF ds (payL ds l) i
section
variable {n : Nat} {ds : List Due} {p l s : Nat → Rat} {t x e : Rat}
end
end Internal

set_option Elab.async false
set_option linter.all false
set_option maxRecDepth 100000
namespace Internal
open PySem PySem.Spec PyProof.Rows
open Dt (sm Leak bal)
noncomputable def sF (m : Nat) (s : Nat → Nat) (x : Nat → Rat) (i : Nat) : Rat := sm m (fun a => if s a = i then x a else 0)
section
variable {n m : Nat} {s : Nat → Nat} {x : Nat → Rat}
end
section
variable {n : Nat} {ds : List Due} {p l : Nat → Rat}
noncomputable def gB (ds : List Due) (l : Nat → Rat) (i j : Nat) : Bool := decide (0 < flowF (stp ds l) ds i j)
noncomputable def shB (ds : List Due) (l : Nat → Rat) (i : Nat) : Bool := (stp ds l i).isSome
end
end Internal

set_option Elab.async false
set_option linter.all false
namespace Dt
end Dt

set_option Elab.async false
set_option linter.all false
set_option maxRecDepth 100000
namespace Internal
open PySem PySem.Spec PyProof.Rows
open Dt (sm Leak bal)
noncomputable def cirA (f : Nat → Nat → Rat) (r : Nat → Rat) (a b : Nat) : Rat := if a = 0 then (if b = 0 then 1 else 0) else bal f r a b
section
variable {n : Nat} {ds : List Due} {l : Nat → Rat} {c : List Nat} {m : Nat}
noncomputable abbrev cF (ds : List Due) (l : Nat → Rat) (c : List Nat) : Nat → Nat → Rat := fun a b => flR ds l (c.getD a 0) (c.getD b 0)
noncomputable abbrev cR (n : Nat) (ds : List Due) (l : Nat → Rat) (c : List Nat) : Nat → Rat := fun a => rowR n ds l (c.getD a 0)
end
end Internal

set_option Elab.async false
set_option linter.all false
set_option maxRecDepth 100000
namespace Internal
open PySem PySem.Spec PyProof.Rows
open Dt (sm)
noncomputable def rkL (ds : List Due) (l : Nat → Rat) (i : Nat) : Nat := (stp ds l i).getD 3
section
variable {ds : List Due} {l l' : Nat → Rat} {i : Nat}
end
noncomputable def nsum (f : Nat → Nat) : Nat → Nat
  | 0 => 0
  | n + 1 => nsum f n + f n
noncomputable def filI (ds : List Due) (l : Nat → Rat) (i : Nat) : Nat := nsum (fun r => if 0 < rankF ds i r ∧ cumR (rankF ds i) (r + 1) ≤ l i then 1 else 0) 3
noncomputable def farN (n : Nat) (ds : List Due) (l : Nat → Rat) : Nat := nsum (filI ds l) n
noncomputable def dueN (ds : List Due) (i : Nat) : Nat := nsum (fun r => if 0 < rankF ds i r then 1 else 0) 3
noncomputable def topN (n : Nat) (ds : List Due) : Nat := nsum (dueN ds) n
noncomputable def endR (ds : List Due) (l : Nat → Rat) (i : Nat) : Rat := cumR (rankF ds i) (rkL ds l i + 1)
noncomputable def roomI (ds : List Due) (l r : Nat → Rat) (i : Nat) : Rat := (endR ds l i - l i) / r i
noncomputable def roomQ (ds : List Due) (l r : Nat → Rat) : Nat → Option Rat
  | 0 => none
  | k + 1 => if 0 < r k then (match roomQ ds l r k with | none => some (roomI ds l r k) | some q => some (if roomI ds l r k < q then roomI ds l r k else q)) else roomQ ds l r k
section
variable {ds : List Due} {l r : Nat → Rat}
end
section
variable {n : Nat} {ds : List Due} {l s : Nat → Rat} {x : Rat}
noncomputable abbrev rtR (n : Nat) (ds : List Due) (l s : Nat → Rat) (i : Nat) : Rat := s i * rowR n ds l i
end
end Internal

set_option Elab.async false
set_option linter.all false
set_option maxRecDepth 100000
namespace Dt
end Dt
namespace Internal
open PySem PySem.Spec PyProof.Rows
open Dt (sm Leak bal)
noncomputable def slL (n : Nat) (ds : List Due) (l : Nat → Rat) : List Nat := (List.range n).filter (shB ds l)
noncomputable abbrev crL (n : Nat) (ds : List Due) (l : Nat → Rat) : List Nat := Rc.circle n (gB ds l) (shB ds l)
noncomputable def CirEq (n : Nat) (ds : List Due) (l : Nat → Rat) (c : List Nat) (x : Nat → Rat) : Prop := ∀ a, a < c.length → sm c.length (fun b => cirA (cF ds l c) (cR n ds l c) a b * x b) = if a = 0 then 1 else 0
noncomputable def OpnEq (n : Nat) (ds : List Due) (p l : Nat → Rat) (c : List Nat) (x : Nat → Rat) : Prop := ∀ a, a < c.length → sm c.length (fun b => bal (cF ds l c) (cR n ds l c) a b * x b) = p (c.getD a 0)
noncomputable def cirX (n : Nat) (ds : List Due) (l : Nat → Rat) (c : List Nat) : Nat → Rat := Classical.epsilon (CirEq n ds l c)
noncomputable def opnX (n : Nat) (ds : List Due) (p l : Nat → Rat) (c : List Nat) : Nat → Rat := Classical.epsilon (OpnEq n ds p l c)
section
variable {n : Nat} {ds : List Due} {p l : Nat → Rat} {t : Rat}
end
noncomputable def shF (n : Nat) (ds : List Due) (p l : Nat → Rat) : Nat → Rat :=
  if crL n ds l = [] then sF (slL n ds l).length (fun a => (slL n ds l).getD a 0) (opnX n ds p l (slL n ds l)) else sF (crL n ds l).length (fun a => (crL n ds l).getD a 0) (cirX n ds l (crL n ds l))
noncomputable def rtF (n : Nat) (ds : List Due) (p l : Nat → Rat) : Nat → Rat := rtR n ds l (shF n ds p l)
noncomputable def stF (n : Nat) (ds : List Due) (p l : Nat → Rat) (t : Rat) : Rat :=
  if crL n ds l = [] then (match roomQ ds l (rtF n ds p l) n with | none => 1 - t | some q => if 1 - t < q then 1 - t else q) else (roomQ ds l (rtF n ds p l) n).getD 0
noncomputable def nxL (n : Nat) (ds : List Due) (p l : Nat → Rat) (t : Rat) : Nat → Rat := fun i => l i + stF n ds p l t * rtF n ds p l i
noncomputable def nxT (n : Nat) (ds : List Due) (p l : Nat → Rat) (t : Rat) : Rat := if crL n ds l = [] then t + stF n ds p l t else t
section
variable {n : Nat} {ds : List Due} {p l : Nat → Rat} {t : Rat}
end
end Internal

set_option Elab.async false
set_option linter.all false
set_option maxRecDepth 100000
namespace Dt
noncomputable def Wh (q : Rat) : Prop := ∃ k : Int, q = (k : Rat)
end Dt
namespace Internal
open PySem PySem.Spec PyProof.Rows
open Dt (sm Leak bal Wh Bd prodN)
section
variable {n : Nat} {ds : List Due} {p l : Nat → Rat} {t W P : Rat}
set_option genInjectivity false in
set_option genSizeOf false in
structure ShW (n : Nat) (ds : List Due) (p l : Nat → Rat) (M : Rat) (Δ : Rat) : Prop where
  w : Wh Δ
  ne : Δ ≠ 0
  bd : Bd M Δ
  ws : ∀ i, i < n → Wh (shF n ds p l i * Δ)
  bs : ∀ i, i < n → Bd M (shF n ds p l i * Δ)
end
end Internal

set_option Elab.async false
set_option linter.all false
set_option maxRecDepth 100000
namespace Internal
open PySem PySem.Spec PyProof.Rows
open Dt (sm Leak bal Wh Bd prodN)
section
variable {n : Nat} {ds : List Due} {p l : Nat → Rat} {t W M Δ : Rat} {D : Nat}
end
end Internal

set_option Elab.async false
set_option linter.all false
set_option maxRecDepth 100000
namespace Internal
open PySem PySem.Spec PyProof.Rows
open Dt (sm Leak bal Wh Bd prodN)
noncomputable def cst (n : Nat) (ds : List Due) (p : Nat → Rat) : Nat → (Nat → Rat) × Rat
  | 0 => (fun _ => 0, 0)
  | k + 1 => (nxL n ds p (cst n ds p k).1 (cst n ds p k).2, nxT n ds p (cst n ds p k).1 (cst n ds p k).2)
section
variable {n : Nat} {ds : List Due} {p l : Nat → Rat} {t W P : Rat}
set_option genInjectivity false in
set_option genSizeOf false in
structure COk (n : Nat) (ds : List Due) (p : Nat → Rat) (B : Rat) (k : Nat) (l : Nat → Rat) (t : Rat) : Prop where
  inv : CInv n ds p l t
  t0 : 0 ≤ t
  t1 : t ≤ 1
  kk : k ≤ farN n ds l + (if t = 1 then 1 else 0)
  dv : ∃ D : Nat, 0 < D ∧ ((D : Int) : Rat) ≤ prodN (fun _ => B) k ∧ (∀ i, i < n → Dv D (l i)) ∧ Dv D t
end
end Internal

set_option Elab.async false
set_option linter.all false
set_option maxRecDepth 100000
set_option maxHeartbeats 4000000
namespace Internal.BT
open PySem
theorem all : bootBuiltins "all" = some (.builtin "all") := by decide +kernel
end Internal.BT
namespace Internal
open PySem PySem.Spec PyProof.Rows
section
variable {X : Cx}
noncomputable def rAllL (K : PySem.W.Frag) : List V → Hp → VK → Prop := fun vs H Q => ∃ (a : Addr) (bs : List Bool), vs = [.ref a] ∧ SqL K H a (bs.map V.bl) ∧ Q (.bl (bs.all id)) H
theorem bools_of : ∀ {bs : List Bool} {its : List Value}, Vals (bs.map V.bl) its → its = bs.map Value.bool
  | [], _, r => by cases r; rfl
  | b :: bs, _, r => by
    cases r with
    | cons h t => rw [bools_of t, show _ = Value.bool b from h]; rfl
theorem call_allL (hc : X.calm = true) : CallR X (.builtin "all") (rAllL X.K) := by
  intro pins s σ H xs us Q I r h
  obtain ⟨a, bs, rfl, hq, q⟩ := h
  obtain ⟨u, rfl, r1⟩ := vals1 r
  cases r1
  obtain ⟨its, rv, pl, hl, hlt⟩ := I.walk hq
  have eb := bools_of rv
  subst eb
  refine call_all_walk (wpAny_pyIter_list pl ?_)
  refine ⟨s.heap.objs.size, [s.heap.objs.size, a], [s.heap.objs.size], (bs.map Value.bool).toArray.size, _, _, fun i => (bs[i]?).getD true, rfl, Walks.list (A := X.A.in1) (I.ok.hd hc) _ a (Nat.ne_of_lt hlt) (bs.map Value.bool).toArray,
    ⟨⟨_, Heap.get?_push_size _ rfl, rfl, rfl⟩, pl.push _⟩, fun i v s' Q' E' hP hQ => ?_, fun h' tk hk => ?_⟩
  · have hv : (bs.map Value.bool)[i]? = some v := by simpa using hP
    rw [List.getElem?_map] at hv
    cases e : bs[i]? with
    | none => rw [e] at hv; cases hv
    | some b =>
      dsimp only at hQ
      rw [e] at hv hQ
      cases hv
      exact wpAny_truthy_bool hQ
  · have e : ((List.range (bs.map Value.bool).toArray.size).all fun i => (bs[i]?).getD true) = bs.all id := by
      rw [List.size_toArray, List.length_map]; exact LSm.range_all bs
    rw [e]
    have I1 : Inv X pins σ H { s with heap := h', toks := tk } := I.kept fun b o z => hk b o (fun hm => by rw [List.mem_singleton.mp hm] at z; exact Nat.lt_irrefl _ (Heap.lt_size z)) (Heap.get?_push_of_some _ z)
    exact ⟨.bl _, H, I1, rfl, q⟩
end
theorem x_allL {K : PySem.W.Frag} {H : Hp} {Q : VK} {a : Addr} {bs : List Bool} (h : H a = some (.lst (bs.map V.bl))) (q : Q (.bl (bs.all id)) H) : rAllL K [.ref a] H Q := ⟨a, bs, rfl, .of h, q⟩
end Internal

set_option Elab.async false
set_option linter.all false
set_option maxRecDepth 100000
set_option maxHeartbeats 4000000
namespace Internal
open PySem PySem.W PySem.Spec PySem.Calls PyProof.Rows
section
variable {prog : Program} {w : World} {A : Around} {E : Value → Shared → Prop} {s : Shared} {l I S : Addr} {kid : String} {vs : List Value} {kw : List (Str × Value)} {R : Result → Shared → Prop} {Q : Value → Shared → Prop}
end
end Internal

set_option Elab.async false
set_option linter.all false
set_option maxRecDepth 100000
namespace Internal
open PySem PySem.Spec PyProof.Rows
section
variable {K : PySem.W.Frag} {σ : St} {H : Hp} {Q : VK} {D : Ends} {a C dx : Addr} {fs : List (Str × V)} {f m : Str}
end
noncomputable def rMethR (C : Addr) (m : Str) (sp : Sp) (t : TA) (σ : St) (Q : VK) (Eh : Addr → Hp → Prop) (x : V) (H : Hp) : Prop := ∃ a dx fs, x = .ref a ∧ H a = some (.ins C dx fs) ∧ fs.lookup m = none ∧ t σ H fun vs H2 => sp (x :: vs) H2 Q fun cls _ H3 => ∃ C', cls = .ref C' ∧ Eh C' H3
noncomputable abbrev tMethR (C : Addr) (m : Str) (sp : Sp) (ta : TE) (t : TA) : TEr := fun σ H Q Eh => ta σ H (rMethR C m sp t σ Q Eh)
end Internal

set_option Elab.async false
set_option linter.all false
set_option maxRecDepth 100000
set_option maxHeartbeats 4000000
namespace Internal
open PySem PySem.W PySem.Spec PySem.Calls PyProof.Rows
end Internal

set_option Elab.async false
set_option linter.all false
set_option maxRecDepth 100000
namespace Internal
open PySem PySem.Spec PyProof.Rows
noncomputable def bfl (m w y : Int) (d : Addr) : List (Str × V) := putF "deals" (.ref d) (putF "day" (.int y) (putF "wares" (.int w) (putF "many" (.int m) [])))
section
variable {m w y : Int} {d : Addr}
end
set_option genInjectivity false in
set_option genSizeOf false in
structure T7 where
  p : Int
  q : Int
  w : Int
  u : Int
  a : Int
  y : Int
  r : Int
noncomputable def termV (t : T7) : List V := [.int t.p, .int t.q, .int t.w, .int t.u, .int t.a, .int t.y, .int t.r]
noncomputable def dealV (x : T7 × Str) : List V := termV x.1 ++ [.str x.2]
set_option genInjectivity false in
set_option genSizeOf false in
structure TermOk (m w y : Int) (t : T7) : Prop where
  p0 : 0 ≤ t.p
  p1 : t.p < m
  q0 : 0 ≤ t.q
  q1 : t.q < m
  pq : t.p ≠ t.q
  w0 : 0 ≤ t.w
  w1 : t.w < w
  u0 : 1 ≤ t.u
  u1 : t.u ≤ 1000000
  a0 : 1 ≤ t.a
  a1 : t.a ≤ 1000000000
  y0 : 0 ≤ t.y
  y1 : t.y ≤ 1000000
  r0 : 0 ≤ t.r
  r1 : t.r ≤ 2
  yd : y ≤ t.y
set_option genInjectivity false in
set_option genSizeOf false in
structure Bk (C : Addr) (H : Hp) (b d : Addr) (m w y : Int) (ts : List (T7 × Str)) : Prop where
  ob : ∃ dx, H b = some (.ins C dx (bfl m w y d))
  ds : ∃ xs, H d = some (.lst xs) ∧ IsTs dealV H xs ts
section
variable {C : Addr} {H H' : Hp} {b d : Addr} {m w y : Int} {ts : List (T7 × Str)}
end
noncomputable def stand (t : T7) : T7 × Str := (t, ("standing" : Str))
end Internal

set_option Elab.async false
set_option linter.all false
set_option maxRecDepth 100000
namespace Internal
open PySem PySem.Spec PyProof.Rows
noncomputable abbrev TAr := St → Hp → (List V → Hp → Prop) → (Addr → Hp → Prop) → Prop
section
variable {X : Cx} {pos : Pos}
noncomputable abbrev tLastR (te : TEr) : TAr := fun σ H Q Eh => te σ H (fun y H2 => Q [y] H2) Eh
noncomputable abbrev tConsR (tc : TE) (t : TAr) : TAr := fun σ H Q Eh => tc σ H fun x H1 => t σ H1 (fun xs H2 => Q (x :: xs) H2) Eh
noncomputable abbrev tTupR (t : TAr) : TEr := fun σ H Q Eh => t σ H (fun xs H1 => rTup Q xs H1) Eh
noncomputable abbrev tSetR (i : Nat) (te : TEr) : TTr := fun D Eh σ H => te σ H (fun y H2 => D.nx (σ.set i (some y)) H2) fun C H2 => Eh C σ H2
end
section
variable {σ : St} {H : Hp} {D : Ends} {Eh : Addr → Hp → Prop} {Eg : Addr → St → Hp → Prop}
end
end Internal

set_option Elab.async false
set_option linter.all false
set_option maxRecDepth 100000
namespace Internal
open PySem PySem.Spec PyProof.Rows
set_option genInjectivity false in
set_option genSizeOf false in
structure Sys (H : Hp) (a b : Addr) (n : Nat) (R : Nat → Nat → Rat) : Prop where
  rows : ∃ as : List Addr, H a = some (.lst (as.map V.ref)) ∧ as.length = n ∧ ∀ (l : Nat) (c : Addr), as[l]? = some c → ∃ ws, H c = some (.lst ws) ∧ IsQs H ws ((List.range n).map (R l))
  side : ∃ ws, H b = some (.lst ws) ∧ IsQs H ws ((List.range n).map fun l => R l n)
end Internal

set_option Elab.async false
set_option linter.all false
set_option maxRecDepth 100000
namespace Internal
open PySem PySem.Spec PyProof.Rows
section
variable {X : Cx} {pins : List (Addr × Obj)} {s s' : Shared} {σ : St} {H H' : Hp} {pos : Pos}
end
end Internal

set_option Elab.async false
set_option linter.all false
set_option maxRecDepth 100000
namespace Internal
open PySem PySem.Spec PyProof.Rows
end Internal

set_option Elab.async false
set_option linter.all false
set_option maxRecDepth 100000
set_option maxHeartbeats 4000000
namespace Internal
open PySem PySem.Spec PyProof.Rows
noncomputable abbrev intsN (l : List Nat) : List Int := l.map fun (x : Nat) => (x : Int)
noncomputable abbrev natsV (l : List Nat) : List V := (intsN l).map V.int
end Internal

set_option Elab.async false
set_option linter.all false
set_option maxRecDepth 100000
set_option maxHeartbeats 4000000
namespace Internal
open PySem PySem.Spec PyProof.Rows
theorem sz_one : sz (1 : Int) ≤ 1 := sz_of (by decide)
theorem szQ_w {x : Int} {z : Nat} (h : sz x ≤ z) : SzQ ((x : Int) : Rat) z 1 := ⟨h, sz_one⟩
end Internal

set_option Elab.async false
set_option linter.all false
set_option maxRecDepth 100000
set_option maxHeartbeats 4000000
namespace Internal
open PySem PySem.Spec PyProof.Rows Dt
section
variable {n : Nat} {ds : List Due} {l p : Nat → Rat} {c : List Nat} {x : Nat → Rat} {t : Rat}
noncomputable abbrev flI (ds : List Due) (l : Nat → Rat) : Nat → Nat → Int := flowF (stp ds l) ds
end
noncomputable abbrev pQ (ps : List Int) (i : Nat) : Rat := ((ps.getD i 0 : Int) : Rat)
set_option genInjectivity false in
set_option genSizeOf false in
structure Clr (n : Nat) (ds : List Due) (ps : List Int) (W P : Rat) : Prop where
  n9 : n ≤ 9
  hd : ∀ d ∈ ds, DueOk n d
  ha : ∀ d ∈ ds, d.a ≤ 1000000000000
  hl : ds.length ≤ 64
  pl : ps.length = n
  pz : ∀ p ∈ ps, 0 ≤ p ∧ p ≤ 100000000000000
  hW : ∀ l i, i < n → 2 * rowR n ds l i ≤ W
  W1 : 1 ≤ W
  hP : sm n (pQ ps) ≤ P
  P1 : 1 ≤ P
  big : prodN (fun _ => prodN (fun _ => W) n * P * W) (topN n ds + 1) ≤ (((2 ^ 7000 : Nat) : Int) : Rat)
section
variable {n : Nat} {ds : List Due} {ps : List Int} {W P : Rat} {l : Nat → Rat} {t : Rat} {k : Nat}
end
section
variable {n : Nat} {ds : List Due} {ps : List Int} {W P : Rat} {l : Nat → Rat} {t : Rat} {k : Nat}
end
end Internal

set_option Elab.async false
set_option linter.all false
set_option maxRecDepth 100000
set_option maxHeartbeats 4000000
namespace Internal
open PySem PySem.Spec PyProof.Rows Dt
noncomputable abbrev twoR (w : Nat) : Rat := (((2 ^ w : Nat) : Int) : Rat)
noncomputable def spMostH (K : PySem.W.Frag) : Sp := fun vs H Q _ => ∃ (a : Addr) (ns : List Int) (n c : Int), vs = [.ref a, .int n, .int c] ∧ SqL K H a (ns.map V.int) ∧ Light ns ∧ ∀ x, 0 ≤ x → x ≤ 1000000000000 → (x ≠ 0 → c < 13 ∨ (n < 7 ∧ c < 17)) → Q (.int x) H
theorem spMostH_i {K : PySem.W.Frag} {a : Addr} {ns : List Int} {n c : Int} {H : Hp} {Q : VK} {E : XK} (hS : SqL K H a (ns.map V.int)) (hz : Light ns) (q : ∀ x, 0 ≤ x → x ≤ 1000000000000 → (x ≠ 0 → c < 13 ∨ (n < 7 ∧ c < 17)) → Q (.int x) H) : spMostH K [.ref a, .int n, .int c] H Q E := ⟨a, ns, n, c, rfl, hS, hz, q⟩
section
variable {n : Nat} {ds : List Due} {ps : List Int} {W P : Rat} {k : Nat}
noncomputable abbrev endL (n : Nat) (ds : List Due) (ps : List Int) (k : Nat) : List Rat := (List.range n).map (cst n ds (pQ ps) k).1
end
end Internal

set_option Elab.async false
set_option linter.all false
set_option maxRecDepth 100000
set_option maxHeartbeats 4000000
namespace Internal
open PySem PySem.Spec PyProof.Rows Dt
section
variable {n : Nat} {ds : List Due} {l x y p : Nat → Rat}
theorem rank_nn' (hd : ∀ d ∈ ds, DueOk n d) (i r : Nat) : 0 ≤ rankF ds i r := rank_nn ds fun d hm => (hd d hm).2.2.2.2.2.2.2.1
theorem sumG_payL {m : Nat} {es : List Due} : (∀ d ∈ es, 0 ≤ d.p) → sumG es (m : Int) (payL ds y) = sumP es m (shareQ (rankF ds m) (y m)) :=
  byTake (P := fun es => (∀ d ∈ es, 0 ≤ d.p) → sumG es (m : Int) (payL ds y) = sumP es m (shareQ (rankF ds m) (y m))) (fun _ => rfl) (fun es d ih h => by
    rw [sumG_snoc, sumP_snoc, ih fun e he => h e (List.mem_append_left _ he)]
    have p0 := h d (List.mem_append_right _ (.head _))
    by_cases e : d.p = (m : Int)
    · rw [if_pos e, if_pos e]
      have e' : d.p.toNat = m := by omega
      unfold payL
      rw [e']
    · rw [if_neg e, if_neg e]) es
theorem payL_sum (hd : ∀ d ∈ ds, DueOk n d) {m : Nat} (h0 : 0 ≤ y m) (h1 : y m ≤ cumR (rankF ds m) 3) : sumG ds (m : Int) (payL ds y) = y m := by
  have hb : ∀ j, j < 3 → 0 ≤ rankF ds m j := fun j _ => rank_nn' hd m j
  have h2 := sumP_ranks (ds := ds) (m := m) (S := shareQ (rankF ds m) (y m)) (fun d h => ⟨(hd d h).2.2.2.2.2.1, (hd d h).2.2.2.2.2.2.1⟩) ds.length (Nat.le_refl _)
  rw [List.take_length] at h2
  rw [sumG_payL fun d h => (hd d h).1, h2, share_mul h0 (hb 0 (by omega)), share_mul h0 (hb 1 (by omega)), share_mul h0 (hb 2 (by omega))]
  refine laid_full h0 hb ?_
  have e : cumR (rankF ds m) 3 = ((rankF ds m 0 : Int) : Rat) + ((rankF ds m 1 : Int) : Rat) + ((rankF ds m 2 : Int) : Rat) := by
    rw [cumR_succ, cumR_succ, cumR_succ]
    show (0 : Rat) + _ + _ + _ = _
    grind
  rw [← e]; exact h1
theorem payL_mono (hd : ∀ d ∈ ds, DueOk n d) (h0 : ∀ i, i < n → 0 ≤ l i) (h : ∀ i, i < n → l i ≤ y i) : ∀ d ∈ ds, payL ds l d ≤ payL ds y d := fun d hm => by
  have hk := hd d hm
  have hp0 := hk.1
  have hp1 := hk.2.1
  have hi : d.p.toNat < n := by omega
  unfold payL
  refine Rat.mul_le_mul_of_nonneg_left (share_mono (h0 _ hi) (h _ hi) (fun r _ => rank_nn' hd _ r) ?_) (castR_nn hk.2.2.2.2.2.2.2.1)
  have := hk.2.2.2.2.2.1
  have := hk.2.2.2.2.2.2.1
  omega
end
end Internal

set_option Elab.async false
set_option linter.all false
set_option maxRecDepth 100000
set_option maxHeartbeats 4000000
namespace Internal
open PySem PySem.Spec PyProof.Rows Dt
noncomputable def LeL (rs rs' : List Rat) : Prop := ∀ m, m < rs.length → rs.getD m 0 ≤ rs'.getD m 0
theorem getD_map {n m : Nat} {F : Nat → Rat} (h : m < n) : ((List.range n).map F).getD m 0 = F m := by rw [map_getD, if_pos h]
section
variable {n : Nat} {ds : List Due} {ps : List Int} {W P : Rat} {k : Nat}
end
noncomputable def spPartN : Sp := fun vs H Q _ => ∃ (t b : Int) (r : Rat), vs = [.int t, .int b] ∧ 0 < b ∧ ((t : Int) : Rat) = r * ((b : Int) : Rat) ∧ SzQ r 4000 4000 ∧ NewQ H Q r
theorem spPartN_i {t b : Int} {r : Rat} {H : Hp} {Q : VK} {E : XK} (hb : 0 < b) (he : ((t : Int) : Rat) = r * ((b : Int) : Rat)) (hz : SzQ r 4000 4000) (q : NewQ H Q r) : spPartN [.int t, .int b] H Q E := ⟨t, b, r, rfl, hb, he, hz, q⟩
noncomputable abbrev conL (n : Nat) (c : Int) : List Rat := (List.range n).map fun _ => ((c : Int) : Rat)
theorem next_nn {ds : List Due} {ps : List Int} {qs : List Rat} (hd : ∀ d ∈ ds, DueOk qs.length d) (h0 : ∀ q ∈ qs, 0 ≤ q) (hp : ∀ p ∈ ps, 0 ≤ p) (m : Nat) : 0 ≤ nextF ds ps qs m := by
  have hpn : (0 : Rat) ≤ ((ps.getD m 0 : Int) : Rat) := castR_nn (by
    rw [List.getD_eq_getElem?_getD]
    cases e : ps[m]? with
    | none => exact Int.le_refl _
    | some p => exact hp p (List.mem_of_getElem? e))
  have hx : ∀ i, i < qs.length → 0 ≤ qs.getD i 0 := fun i hi => by
    obtain ⟨q, hq⟩ := lt_some hi
    rw [List.getD_eq_getElem?_getD, hq]
    exact h0 q (List.mem_of_getElem? hq)
  have h1 := payL_mono (n := qs.length) (l := fun _ => 0) (y := fun i => qs.getD i 0) hd (fun _ _ => Rat.le_refl) hx
  have h2 := gainF_mono h1 m
  have h3 : gotF ds (payL ds (fun _ => 0)) m = 0 := by
    have e : ∀ d ∈ ds, payL ds (fun _ => 0) d = 0 := fun d hm => by
      have := payL_sum (y := fun _ => 0) hd (m := d.p.toNat) Rat.le_refl (cumR_le (a := 0) (b := 3) (fun r _ => rank_nn' hd _ r) (by decide) (Nat.le_refl _))
      have hk := hd d hm
      unfold payL
      have hs : shareQ (rankF ds d.p.toNat) 0 d.r.toNat = 0 := by
        have r0 := hk.2.2.2.2.2.1
        have r1 := hk.2.2.2.2.2.2.1
        have hl := laid_cl (f := rankF ds d.p.toNat) (q := 0) Rat.le_refl (fun r _ => rank_nn' hd _ r) (show d.r.toNat < 3 by omega)
        have hc0 : (0 : Rat) ≤ cumR (rankF ds d.p.toNat) d.r.toNat := cumR_le (f := rankF ds d.p.toNat) (a := 0) (b := d.r.toNat) (fun r _ => rank_nn' hd _ r) (Nat.zero_le _) (by omega)
        rw [if_pos hc0] at hl
        unfold shareQ
        rw [hl]
        split
        · rw [Rat.div_def]; grind
        · rfl
      rw [hs]; grind
    rw [gotF_cg (g' := fun _ => 0) ds e]
    exact byTake (P := fun ds => gotF ds (fun _ => 0) m = 0) rfl (fun es d ih => by rw [gotF_snoc, ih]; split <;> grind) ds
  rw [h3] at h2
  have h4 : 0 ≤ gotF ds (payQ ds qs) m := h2
  have h5 : 0 ≤ owedQ ds m := by
    have : owedQ ds m = cumR (rankF ds m) 3 := by unfold owedQ cumR; rw [sum_cum]
    rw [this]
    exact cumR_le (a := 0) (b := 3) (fun r _ => rank_nn' hd _ r) (by decide) (Nat.le_refl _)
  unfold nextF
  split <;> grind
theorem szQ_small {x : Int} (h0 : 0 ≤ x) (h1 : x ≤ 300000000000000) : SzQ ((x : Int) : Rat) 60 60 := by
  have := szQ_w (x := x) (z := 60) (sz_of (Nat.lt_of_le_of_lt (show x.natAbs ≤ 300000000000000 by omega) (by decide)))
  exact this.mono (Nat.le_refl _) (by decide)
end Internal

set_option Elab.async false
set_option linter.all false
set_option maxRecDepth 100000
set_option maxHeartbeats 4000000
namespace Internal
open PySem PySem.Spec PyProof.Rows Dt
noncomputable def Leads (ds : List Due) (ρ : Nat → Option Nat) (m i : Nat) (d : Due) : Prop := ds[i]? = some d ∧ d.p = (m : Int) ∧ 0 < d.a ∧ ρ m = some d.r.toNat
set_option genInjectivity false in
set_option genSizeOf false in
structure Arr (n : Nat) (ds : List Due) (ρ : Nat → Option Nat) (on : Nat → Option Nat) (arr : Nat → Bool) (τ : Nat → Nat) : Prop where
  none : ∀ m, m < n → ρ m = Option.none → arr m = true ∧ on m = Option.none
  some : ∀ m i, m < n → on m = Option.some i → ∃ d, Leads ds ρ m i d ∧ arr m = true ∧ arr d.q.toNat = true ∧ τ d.q.toNat < τ m
  away : ∀ m, m < n → arr m = false → on m = Option.none
  here : ∀ m, m < n → arr m = true → ρ m = Option.none ∨ ∃ i, on m = Option.some i
section
variable {n : Nat} {ds : List Due} {ρ on : Nat → Option Nat} {arr : Nat → Bool} {τ : Nat → Nat}
noncomputable def above (τ : Nat → Nat) : Nat → Nat
  | 0 => 0
  | n + 1 => max (above τ n) (τ n + 1)
set_option genInjectivity false in
set_option genSizeOf false in
structure Pass (ds : List Due) (ρ : Nat → Option Nat) (arr arr' : Nat → Bool) (i : Nat) : Prop where
  up : ∀ m, arr m = true → arr' m = true
  all : ∀ j d m, j < i → Leads ds ρ m j d → arr d.q.toNat = true → arr' m = true
noncomputable def cntA (arr : Nat → Bool) (n : Nat) : Nat := nsum (fun m => if arr m = true then 1 else 0) n
end
section
variable {n : Nat} {ds : List Due} {l : Nat → Rat} {arr arr' : Nat → Bool}
end
inductive Road (ds : List Due) (on : Nat → Option Nat) : Nat → List Nat → Prop
  | nil {m : Nat} : on m = none → Road ds on m []
  | cons {m i : Nat} {d : Due} {is : List Nat} : on m = some i → ds[i]? = some d → Road ds on d.q.toNat is → Road ds on m (i :: is)
end Internal

set_option Elab.async false
set_option linter.all false
set_option maxRecDepth 100000
set_option maxHeartbeats 4000000
namespace Internal
open PySem PySem.Spec PyProof.Rows Dt
noncomputable def blL (n : Nat) (w : Nat → Bool) : List V := (List.range n).map fun m => V.bl (w m)
theorem blL_succ {n : Nat} {w : Nat → Bool} : blL (n + 1) w = blL n w ++ [V.bl (w n)] := by unfold blL; rw [List.range_succ, List.map_append]; rfl
set_option genInjectivity false in
set_option genSizeOf false in
structure ArrB (n : Nat) (ds : List Due) (ρ on : Nat → Option Nat) (arr : Nat → Bool) (τ : Nat → Nat) : Prop where
  A : Arr n ds ρ on arr τ
  B : ∀ m, m < n → τ m ≤ cntA arr n
section
variable {n i : Nat} {ds : List Due} {ρ on : Nat → Option Nat} {arr arr' : Nat → Bool} {τ : Nat → Nat}
end
set_option genInjectivity false in
set_option genSizeOf false in
structure Roads (n : Nat) (ds : List Due) (on : Nat → Option Nat) (rds : List (List Nat)) : Prop where
  len : rds.length = n
  road : ∀ m rd, rds[m]? = some rd → Road ds on m rd ∧ rd.length ≤ 9
end Internal

set_option Elab.async false
set_option linter.all false
set_option maxRecDepth 100000
set_option maxHeartbeats 4000000
namespace Internal
open PySem PySem.Spec PyProof.Rows Dt
set_option genInjectivity false in
set_option genSizeOf false in
structure DeepV (ds : List Due) (qs : List Rat) (D : Nat) : Prop where
  pos : 0 < D
  lay : ∀ q ∈ qs, DvB D q
  zs : sz ((D * allT ds : Nat) : Int) ≤ 7800
theorem DeepV.szD {ds : List Due} {qs : List Rat} {D : Nat} (h : DeepV ds qs D) : sz ((D : Nat) : Int) ≤ 7800 := by
  have := sz_le.mp h.zs
  refine sz_of ?_
  rw [Int.natAbs_natCast] at this ⊢
  have h2 := Nat.le_mul_of_pos_right D (allT_pos ds)
  omega
theorem DeepV.up {ds : List Due} {qs : List Rat} {D : Nat} (h : DeepV ds qs D) {x : Rat} (hx : DvB (D * allT ds) x) : SzQ x 7857 7800 := hx.sz (Nat.mul_pos h.pos (allT_pos ds)) h.zs
theorem DeepV.pay {ds : List Due} {qs : List Rat} {D : Nat} (h : DeepV ds qs D) (hd : ∀ d ∈ ds, DueOk qs.length d ∧ d.a ≤ 1000000000000) : ∀ d ∈ ds, Dv (D * allT ds) (payQ ds qs d) ∧ 0 ≤ payQ ds qs d ∧ payQ ds qs d ≤ ((1000000000000 : Int) : Rat) := fun d hm => by
  obtain ⟨⟨p0, p1, q0, q1, pq, r0, r1, a0, a1⟩, a2⟩ := hd d hm
  have hr : ∀ r, r < 3 → 0 ≤ rankF ds d.p.toNat r := fun r _ => (rank_bnd (m := d.p.toNat) (r := r) ds fun d h => ⟨(hd d h).1.2.2.2.2.2.2.2.1, (hd d h).2⟩).1
  have hb := payQ_bnd h.lay hr (show d.p.toNat < qs.length by omega) (show d.r.toNat < 3 by omega) a0
  refine ⟨payQ_dv h.lay hm (by omega), hb.1, ?_⟩
  have : ((d.a : Int) : Rat) ≤ ((1000000000000 : Int) : Rat) := castR_le a2
  have := hb.2
  grind
theorem DeepV.gain {ds : List Due} {qs : List Rat} {D : Nat} (h : DeepV ds qs D) (hd : ∀ d ∈ ds, DueOk qs.length d ∧ d.a ≤ 1000000000000) (m : Nat) : ∀ q ∈ gainF ds (payQ ds qs) m, Dv (D * allT ds) q ∧ 0 ≤ q ∧ q ≤ ((1000000000000 : Int) : Rat) := fun q hq => by
  obtain ⟨d, hdm, e⟩ := gainF_mem hq
  rw [e]; exact h.pay hd d hdm
theorem DeepV.got {ds : List Due} {qs : List Rat} {D : Nat} (h : DeepV ds qs D) (hd : ∀ d ∈ ds, DueOk qs.length d ∧ d.a ≤ 1000000000000) (hl : ds.length ≤ 64) (m : Nat) : Dv (D * allT ds) (gotF ds (payQ ds qs) m) ∧ 0 ≤ gotF ds (payQ ds qs) m ∧ gotF ds (payQ ds qs) m ≤ ((64000000000000 : Int) : Rat) := by
  have hgl : (gainF ds (payQ ds qs) m).length ≤ 64 := Nat.le_trans gainF_len hl
  have h1 := sumQ_dv (gainF ds (payQ ds qs) m).length (h.gain hd m) (Nat.le_refl _)
  rw [List.take_length] at h1
  refine ⟨h1.1, h1.2.1, ?_⟩
  have h2 := h1.2.2
  have : ((1000000000000 * ((gainF ds (payQ ds qs) m).length : Int) : Int) : Rat) ≤ ((64000000000000 : Int) : Rat) := castR_le (by omega)
  show sumQ _ ≤ _
  grind
noncomputable def LayV (q : Rat) : Prop := ∃ D : Nat, 0 < D ∧ sz ((D : Nat) : Int) ≤ 7800 ∧ DvB D q
noncomputable def DeepG (ds : List Due) (qs : List Rat) : Prop := ∃ D, DeepV ds qs D
theorem LayV.rest {f : Nat → Int} {q : Rat} (h : LayV q) (hf : ∀ j, j < 3 → 0 ≤ f j ∧ f j ≤ 100000000000000) {r : Nat} (hr : r ≤ 3) : SzQ (restQ f q r) 7857 7800 := by
  obtain ⟨D, h0, hz, h⟩ := h
  exact (rest_dvb h (fun j hj => (hf j hj).1) hr).sz h0 hz
theorem LayV.laid {f : Nat → Int} {q : Rat} (h : LayV q) (hf : ∀ j, j < 3 → 0 ≤ f j ∧ f j ≤ 100000000000000) {r : Nat} (hr : r < 3) : SzQ (laidQ f q r) 7857 7800 := by
  obtain ⟨D, h0, hz, h⟩ := h
  exact (laid_dvb h (fun j hj => (hf j hj).1) hr).sz h0 hz
theorem DeepG.lay {ds : List Due} {qs : List Rat} (h : DeepG ds qs) {q : Rat} (hq : q ∈ qs) : LayV q := by
  obtain ⟨D, h⟩ := h
  exact ⟨D, h.pos, h.szD, h.lay q hq⟩
theorem DeepG.share {ds : List Due} {qs : List Rat} (h : DeepG ds qs) (hd : ∀ d ∈ ds, DueOk qs.length d ∧ d.a ≤ 1000000000000) {d : Due} (hm : d ∈ ds) {q : Rat} (hq : qs[d.p.toNat]? = some q) : SzQ (shareQ (rankF ds d.p.toNat) q d.r.toNat) 7857 7800 := by
  obtain ⟨D, h⟩ := h
  obtain ⟨⟨p0, p1, q0, q1, pq, r0, r1, a0, a1⟩, a2⟩ := hd d hm
  have hr : ∀ r, r < 3 → 0 ≤ rankF ds d.p.toNat r := fun r _ => (rank_bnd (m := d.p.toNat) (r := r) ds fun d h => ⟨(hd d h).1.2.2.2.2.2.2.2.1, (hd d h).2⟩).1
  have h1 := share_dvb (h.lay q (List.mem_of_getElem? hq)) hr (show d.r.toNat < 3 by omega)
  exact h.up ⟨h1.1, h1.2.1, h1.2.2.dvd (Nat.mul_dvd_mul_left _ (prodT_dvd (F := rkD ds) hm))⟩
theorem DeepG.gain {ds : List Due} {qs : List Rat} (h : DeepG ds qs) (hd : ∀ d ∈ ds, DueOk qs.length d ∧ d.a ≤ 1000000000000) (m : Nat) : ∀ q ∈ gainF ds (payQ ds qs) m, OkQ q := fun q hq => by
  obtain ⟨D, h⟩ := h
  obtain ⟨h1, h2, h3⟩ := h.gain hd m q hq
  exact (h.up ⟨h2, by have : ((1000000000000 : Int) : Rat) ≤ ((100000000000000000 : Int) : Rat) := castR_le (by decide); grind, h1⟩).ok (by decide) (by decide)
theorem DeepG.sums {ds : List Due} {qs : List Rat} (h : DeepG ds qs) (hd : ∀ d ∈ ds, DueOk qs.length d ∧ d.a ≤ 1000000000000) (hl : ds.length ≤ 64) (m : Nat) : ∀ i, OkQ (sumQ ((gainF ds (payQ ds qs) m).take i)) := fun i => by
  obtain ⟨D, h⟩ := h
  exact (h.up (sumQ_dvb (h.gain hd m) (Nat.le_trans gainF_len hl) i)).ok (by decide) (by decide)
theorem DeepG.got {ds : List Due} {qs : List Rat} (h : DeepG ds qs) (hd : ∀ d ∈ ds, DueOk qs.length d ∧ d.a ≤ 1000000000000) (hl : ds.length ≤ 64) (m : Nat) : SzQ (gotF ds (payQ ds qs) m) 7857 7800 := by
  obtain ⟨D, h⟩ := h
  have h1 := h.got hd hl m
  exact h.up ⟨h1.2.1, by have : ((64000000000000 : Int) : Rat) ≤ ((100000000000000000 : Int) : Rat) := castR_le (by decide); grind, h1.1⟩
theorem DeepG.next {ds : List Due} {qs : List Rat} {ps : List Int} (h : DeepG ds qs) (hd : ∀ d ∈ ds, DueOk qs.length d ∧ d.a ≤ 1000000000000) (hl : ds.length ≤ 64) {p : Int} (p0 : 0 ≤ p) (p1 : p ≤ 100000000000000) (m : Nat) : SzQ (((p : Int) : Rat) + gotF ds (payQ ds qs) m) 7857 7800 := by
  obtain ⟨D, h⟩ := h
  have h1 := h.got hd hl m
  have h2 := castR_nn p0
  have h3 := castR_le p1
  refine h.up ⟨by grind, ?_, (Dv.int _).add h1.1⟩
  have : ((100000000000000 : Int) : Rat) + ((64000000000000 : Int) : Rat) ≤ ((100000000000000000 : Int) : Rat) := by rw [← Rat.intCast_add]; exact castR_le (by decide)
  grind
noncomputable def spSharesV (K : PySem.W.Frag) : Sp := fun vs H Q _ => ∃ (l y : Addr) (f : Nat → Int) (q : Rat), vs = [.ref l, .ref y] ∧ H l = some (.lst ((vec 3 f).map V.int)) ∧ (∀ j, j < 3 → 0 ≤ f j ∧ f j ≤ 100000000000000) ∧ IsQ H y q ∧ LayV q ∧ ∀ p H' vs, H p = none → Same H H' → H' p = some (.lst vs) → IsQs H' vs ((List.range 3).map (shareQ f q)) → Q (.ref p) H'
theorem spSharesV_i {K : PySem.W.Frag} {l y : Addr} {f : Nat → Int} {q : Rat} {H : Hp} {Q : VK} {E : XK} (hl : H l = some (.lst ((vec 3 f).map V.int))) (hf : ∀ j, j < 3 → 0 ≤ f j ∧ f j ≤ 100000000000000) (hy : IsQ H y q) (hs : LayV q) (k : ∀ p H' vs, H p = none → Same H H' → H' p = some (.lst vs) → IsQs H' vs ((List.range 3).map (shareQ f q)) → Q (.ref p) H') : spSharesV K [.ref l, .ref y] H Q E := ⟨l, y, f, q, rfl, hl, hf, hy, hs, k⟩
noncomputable def spPaidV (K : PySem.W.Frag) : Sp := fun vs H Q _ => ∃ (a y : Addr) (ds : List Due) (ws : List V) (qs : List Rat), vs = [.ref a, .ref y] ∧ IsSh K H a ds ∧ H y = some (.lst ws) ∧ IsQs H ws qs ∧ (∀ d ∈ ds, DueOk qs.length d ∧ d.a ≤ 1000000000000) ∧ ds.length ≤ 64 ∧ qs.length ≤ 9 ∧ DeepG ds qs ∧ ∀ p H' vs, H p = none → Same H H' → H' p = some (.lst vs) → IsQs H' vs (ds.map (payQ ds qs)) → Q (.ref p) H'
theorem spPaidV_i {K : PySem.W.Frag} {a y : Addr} {ds : List Due} {ws : List V} {qs : List Rat} {H : Hp} {Q : VK} {E : XK} (h : IsSh K H a ds) (hy : H y = some (.lst ws)) (hq : IsQs H ws qs) (hd : ∀ d ∈ ds, DueOk qs.length d ∧ d.a ≤ 1000000000000) (hl : ds.length ≤ 64) (h9 : qs.length ≤ 9) (hs : DeepG ds qs) (k : ∀ p H' vs, H p = none → Same H H' → H' p = some (.lst vs) → IsQs H' vs (ds.map (payQ ds qs)) → Q (.ref p) H') : spPaidV K [.ref a, .ref y] H Q E := ⟨a, y, ds, ws, qs, rfl, h, hy, hq, hd, hl, h9, hs, k⟩
noncomputable def spGotV (K : PySem.W.Frag) : Sp := fun vs H Q _ => ∃ (a y : Addr) (ds : List Due) (ws : List V) (qs : List Rat), vs = [.ref a, .ref y] ∧ IsSh K H a ds ∧ H y = some (.lst ws) ∧ IsQs H ws qs ∧ (∀ d ∈ ds, DueOk qs.length d ∧ d.a ≤ 1000000000000) ∧ ds.length ≤ 64 ∧ qs.length ≤ 9 ∧ DeepG ds qs ∧ ∀ p H' vs, H p = none → Same H H' → H' p = some (.lst vs) → IsQs H' vs ((List.range qs.length).map (gotF ds (payQ ds qs))) → Q (.ref p) H'
theorem spGotV_i {K : PySem.W.Frag} {a y : Addr} {ds : List Due} {ws : List V} {qs : List Rat} {H : Hp} {Q : VK} {E : XK} (h : IsSh K H a ds) (hy : H y = some (.lst ws)) (hq : IsQs H ws qs) (hd : ∀ d ∈ ds, DueOk qs.length d ∧ d.a ≤ 1000000000000) (hl : ds.length ≤ 64) (h9 : qs.length ≤ 9) (hs : DeepG ds qs) (k : ∀ p H' vs, H p = none → Same H H' → H' p = some (.lst vs) → IsQs H' vs ((List.range qs.length).map (gotF ds (payQ ds qs))) → Q (.ref p) H') : spGotV K [.ref a, .ref y] H Q E := ⟨a, y, ds, ws, qs, rfl, h, hy, hq, hd, hl, h9, hs, k⟩
theorem allT_sz {ds : List Due} (h : sz ((allT ds ^ (3 + 1) : Nat) : Int) ≤ 3000) : sz ((allT ds : Nat) : Int) ≤ 750 := by
  have h1 := sz_le.mp h
  rw [Int.natAbs_natCast] at h1
  refine sz_of ?_
  rw [Int.natAbs_natCast]
  refine Classical.byContradiction fun z => ?_
  have h2 := Nat.pow_le_pow_left (Nat.le_of_not_lt z) (3 + 1)
  rw [← Nat.pow_mul] at h2
  exact absurd (Nat.lt_of_le_of_lt h2 h1) (Nat.lt_irrefl _)
section
variable {n : Nat} {ds : List Due} {ps : List Int} {W P : Rat} {k : Nat}
end
noncomputable def endF (ds : List Due) (ps : List Int) (qs : List Rat) (m : Nat) : Rat := ((ps.getD m 0 : Int) : Rat) + gotF ds (payQ ds qs) m - qs.getD m 0
noncomputable abbrev endsQ (ds : List Due) (ps : List Int) (qs : List Rat) : List Rat := (List.range ps.length).map (endF ds ps qs)
section
variable {n : Nat} {ds : List Due} {ps ps' : List Int} {W P W' P' : Rat} {k k' : Nat}
end
section
variable {n : Nat} {ds : List Due} {ps : List Int} {W P : Rat} {k : Nat}
end
section
variable {n : Nat} {ds : List Due} {ps : List Int} {W P : Rat} {k : Nat}
end
end Internal

set_option Elab.async false
set_option linter.all false
set_option maxRecDepth 100000
namespace Internal
open PySem
noncomputable def nextM (ds : List Due) (n m : Nat) : Nat := match wayF ds n m with
  | some j => match ds[j]? with
    | some d => d.q.toNat
    | none => 0
  | none => 0
noncomputable def dueOn (ds : List Due) (n m : Nat) : Int := match wayF ds n m with
  | some j => j
  | none => 0
set_option genInjectivity false in
set_option genSizeOf false in
structure Walked (ds : List Due) (n : Nat) (ms : List Nat) (x : Nat) : Prop where
  nd : ms.Nodup
  ok : ∀ m ∈ ms, m < n ∧ wayF ds n m ≠ none
  at' : x < n ∧ wayF ds n x ≠ none
  nx : ∀ (i m : Nat), ms[i]? = some m → nextM ds n m = (ms ++ [x])[i + 1]?.getD 0
end Internal

set_option Elab.async false
set_option linter.all false
set_option maxRecDepth 100000
namespace Internal
open PySem
set_option genInjectivity false in
set_option genSizeOf false in
structure Round (ds : List Due) (n : Nat) (ms : List Nat) : Prop where
  ne : ms ≠ []
  nd : ms.Nodup
  ok : ∀ m ∈ ms, m < n ∧ wayF ds n m ≠ none
  nx : ∀ (i m : Nat), ms[i]? = some m → nextM ds n m = ms[(i + 1) % ms.length]?.getD 0
end Internal

set_option Elab.async false
set_option linter.all false
set_option maxRecDepth 100000
namespace Internal
open PySem PySem.Spec PyProof.Rows
section
variable {X : Cx}
end
noncomputable def amF (es : List Due) (i : Nat) : Int := (es.map Due.a).getD i 0
noncomputable def numN (ds : List Due) (n m : Nat) : Nat := (dueOn ds n m).toNat
noncomputable def subF (g : Nat → Int) (js : List Nat) (f : Int) (i : Nat) : Int := if i ∈ js then g i - f else g i
set_option genInjectivity false in
set_option genSizeOf false in
structure CutAt (es : List Due) (n : Nat) (g : Nat → Int) (ms : List Nat) (f : Int) (g' : Nat → Int) : Prop where
  rd : Round (withF es g) n ms
  le : ∀ m ∈ ms, f ≤ g (numN (withF es g) n m)
  at' : ∃ m ∈ ms, f = g (numN (withF es g) n m)
  eq : ∀ i, g' i = subF g (ms.map (numN (withF es g) n)) f i
section
variable {es : List Due} {n : Nat} {g g' : Nat → Int} {ms : List Nat} {f : Int}
end
section
variable {es : List Due} {n : Nat} {L : Nat → Nat → Int} {cs : List (List Nat × Int)}
end
section
variable {es : List Due} {n : Nat} {L L' : Nat → Nat → Int} {cs : List (List Nat × Int)} {bad : List Addr} {H H' : Hp} {vs : List V}
end
end Internal

set_option Elab.async false
set_option linter.all false
set_option maxRecDepth 100000
set_option maxHeartbeats 4000000
namespace Internal
open PySem PySem.Spec PyProof.Rows Dt
set_option genInjectivity false in
set_option genSizeOf false in
structure Gr (n : Nat) (ds : List Due) (ps : List Int) (qs : List Rat) : Prop where
  len : qs.length = n
  nn : ∀ q ∈ qs, 0 ≤ q
  fix : ∀ m, m < n → qs.getD m 0 = nextF ds ps qs m
  top : ∀ s : List Rat, s.length = n → (∀ q ∈ s, 0 ≤ q) → (∀ m, m < n → s.getD m 0 ≤ nextF ds ps s m) → LeL s qs
section
variable {n : Nat} {ds : List Due} {g : Nat → Int} {ps : List Int} {qs qs' : List Rat} {full : Nat → Bool}
theorem owed_cum (ds : List Due) (m : Nat) : owedQ ds m = cumR (rankF ds m) 3 := by unfold owedQ cumR; rw [sum_cum]
set_option genInjectivity false in
set_option genSizeOf false in
structure SafeC (n : Nat) (ds : List Due) (full : Nat → Bool) (g : Nat → Int) : Prop where
  bd : ∀ i, i < ds.length → 0 ≤ g i ∧ g i ≤ amF ds i
  off : ∀ i d, ds[i]? = some d → (full d.p.toNat = false ∨ full d.q.toNat = false) → g i = d.a
  net : ∀ m, m < n → netsF (withF ds g) m = netsF ds m
noncomputable abbrev cutQ (n : Nat) (ds' : List Due) (full : Nat → Bool) (qs : List Rat) : List Rat := (List.range n).map fun m => if full m = true then owedQ ds' m else qs.getD m 0
theorem owed_nn (hd : ∀ d ∈ ds, DueOk n d) (m : Nat) : 0 ≤ owedQ ds m := by
  rw [owed_cum]
  exact cumR_le (a := 0) (b := 3) (fun r _ => rank_nn' hd _ r) (by decide) (Nat.le_refl _)
theorem getD_nn (h : ∀ q ∈ qs, 0 ≤ q) (m : Nat) : 0 ≤ qs.getD m 0 := by
  rw [List.getD_eq_getElem?_getD]
  cases e : qs[m]? with
  | none => exact Rat.le_refl
  | some q => exact h q (List.mem_of_getElem? e)
end
section
variable {n : Nat} {ds : List Due} {ps : List Int} {W P : Rat} {k : Nat}
end
end Internal

set_option Elab.async false
set_option linter.all false
set_option maxRecDepth 100000
set_option maxHeartbeats 4000000
namespace Internal
open PySem PySem.Spec PyProof.Rows Dt
section
variable {X : Cx}
end
theorem blL_map {n : Nat} {w : Nat → Bool} : blL n w = ((List.range n).map w).map V.bl := by unfold blL; rw [List.map_map]; rfl
theorem eqvAllQ : ∀ qs rs : List Rat, PyData.eqvAll (qs.map dQ) (rs.map dQ) = decide (qs = rs)
  | [], [] => by simp [PyData.eqvAll]
  | [], _ :: _ => by simp [PyData.eqvAll]
  | _ :: _, [] => by simp [PyData.eqvAll]
  | q :: qs, r :: rs => by
    have ih := eqvAllQ qs rs
    rw [List.map_cons, List.map_cons, PyData.eqvAll, eqvQ, ih]
    by_cases e : q = r <;> by_cases g : qs = rs <;> simp [e, g]
theorem x_eqQsD {K : PySem.W.Frag} {H : Hp} {Q : VK} {a b : Addr} {vs ws : List V} {qs rs : List Rat} (h1 : H a = some (.lst vs)) (h2 : H b = some (.lst ws)) (i1 : IsQs H vs qs) (i2 : IsQs H ws rs) (q : Q (.bl (decide (qs = rs))) H) : rEqU K (.ref a) (.ref b) H Q := by
  refine x_eqD (.lst (SqL.of h1) i1.rep) (.lst (SqL.of h2) i2.rep) (by have := depthQs qs; omega) ?_
  rw [show PyData.eqv (.list (qs.map dQ)) (.list (rs.map dQ)) = PyData.eqvAll (qs.map dQ) (rs.map dQ) by simp [PyData.eqv], eqvAllQ]
  exact q
noncomputable def spNextV (K : PySem.W.Frag) : Sp := fun vs H Q _ => ∃ (a u y : Addr) (ds : List Due) (ps : List Int) (ws : List V) (qs : List Rat), vs = [.ref a, .ref u, .ref y] ∧ IsSh K H a ds ∧ H u = some (.lst (ps.map V.int)) ∧ H y = some (.lst ws) ∧ IsQs H ws qs ∧ (∀ d ∈ ds, DueOk qs.length d ∧ d.a ≤ 1000000000000) ∧ ds.length ≤ 64 ∧ qs.length ≤ 9 ∧ ps.length = qs.length ∧ PurseOk ps ∧ DeepG ds qs ∧ ∀ p H' vs, H p = none → Same H H' → H' p = some (.lst vs) → IsQs H' vs ((List.range ps.length).map (nextF ds ps qs)) → Q (.ref p) H'
theorem spNextV_i {K : PySem.W.Frag} {a u y : Addr} {ds : List Due} {ps : List Int} {ws : List V} {qs : List Rat} {H : Hp} {Q : VK} {E : XK} (h : IsSh K H a ds) (hu : H u = some (.lst (ps.map V.int))) (hy : H y = some (.lst ws)) (hq : IsQs H ws qs) (hd : ∀ d ∈ ds, DueOk qs.length d ∧ d.a ≤ 1000000000000) (hl : ds.length ≤ 64) (h9 : qs.length ≤ 9) (hpl : ps.length = qs.length) (hp : PurseOk ps) (hs : DeepG ds qs) (k : ∀ p H' vs, H p = none → Same H H' → H' p = some (.lst vs) → IsQs H' vs ((List.range ps.length).map (nextF ds ps qs)) → Q (.ref p) H') : spNextV K [.ref a, .ref u, .ref y] H Q E := ⟨a, u, y, ds, ps, ws, qs, rfl, h, hu, hy, hq, hd, hl, h9, hpl, hp, hs, k⟩
noncomputable def InLays (ds : List Due) (qs : List Rat) : Prop := ∀ m, m < qs.length → 0 ≤ qs.getD m 0 ∧ qs.getD m 0 ≤ owedQ ds m
noncomputable def layB (ds : List Due) (qs : List Rat) (m : Nat) : Bool := !decide (qs.getD m 0 < 0) && !decide (owedQ ds m < qs.getD m 0)
theorem layB_iff {ds : List Due} {qs : List Rat} : ((List.range qs.length).map (layB ds qs)).all id = true ↔ InLays ds qs := by
  rw [List.all_eq_true]
  constructor
  · intro h m hm
    have := h (layB ds qs m) (List.mem_map.mpr ⟨m, List.mem_range.mpr hm, rfl⟩)
    unfold layB at this
    simp only [id, Bool.and_eq_true, Bool.not_eq_true', decide_eq_false_iff_not] at this
    exact ⟨Rat.not_lt.mp this.1, Rat.not_lt.mp this.2⟩
  · intro h b hb
    obtain ⟨m, hm, rfl⟩ := List.mem_map.mp hb
    have := h m (List.mem_range.mp hm)
    unfold layB
    simp only [id, Bool.and_eq_true, Bool.not_eq_true', decide_eq_false_iff_not]
    exact ⟨Rat.not_lt.mpr this.1, Rat.not_lt.mpr this.2⟩
noncomputable def spAreLays (K : PySem.W.Frag) : Sp := fun vs H Q _ => ∃ (a y : Addr) (ds : List Due) (ws : List V) (qs : List Rat), vs = [.ref a, .ref y] ∧ IsSh K H a ds ∧ H y = some (.lst ws) ∧ IsQs H ws qs ∧ (∀ d ∈ ds, DueOk qs.length d ∧ d.a ≤ 1000000000000) ∧ ds.length ≤ 64 ∧ qs.length ≤ 9 ∧ (∀ q ∈ qs, SzQ q 60000 60000) ∧ (∀ H', Same H H' → InLays ds qs → Q (.bl true) H') ∧ (∀ H', Same H H' → ¬ InLays ds qs → Q (.bl false) H')
theorem spAreLays_i {K : PySem.W.Frag} {a y : Addr} {ds : List Due} {ws : List V} {qs : List Rat} {H : Hp} {Q : VK} {E : XK} (h : IsSh K H a ds) (hy : H y = some (.lst ws)) (hq : IsQs H ws qs) (hd : ∀ d ∈ ds, DueOk qs.length d ∧ d.a ≤ 1000000000000) (hl : ds.length ≤ 64) (h9 : qs.length ≤ 9) (hs : ∀ q ∈ qs, SzQ q 60000 60000) (k : ∀ H', Same H H' → InLays ds qs → Q (.bl true) H') (k' : ∀ H', Same H H' → ¬ InLays ds qs → Q (.bl false) H') : spAreLays K [.ref a, .ref y] H Q E := ⟨a, y, ds, ws, qs, rfl, h, hy, hq, hd, hl, h9, hs, k, k'⟩
noncomputable def IsClr (ds : List Due) (ps : List Int) (qs : List Rat) : Prop := InLays ds qs ∧ (List.range ps.length).map (nextF ds ps qs) = qs
noncomputable def spIsClr (K : PySem.W.Frag) : Sp := fun vs H Q _ => ∃ (a u y : Addr) (ds : List Due) (ps : List Int) (ws : List V) (qs : List Rat), vs = [.ref a, .ref u, .ref y] ∧ IsSh K H a ds ∧ H u = some (.lst (ps.map V.int)) ∧ H y = some (.lst ws) ∧ IsQs H ws qs ∧ (∀ d ∈ ds, DueOk qs.length d ∧ d.a ≤ 1000000000000) ∧ ds.length ≤ 64 ∧ qs.length ≤ 9 ∧ ps.length = qs.length ∧ PurseOk ps ∧ (∀ q ∈ qs, SzQ q 60000 60000) ∧ (InLays ds qs → DeepG ds qs) ∧ (∀ H', Same H H' → IsClr ds ps qs → Q (.bl true) H') ∧ (∀ H', Same H H' → ¬ IsClr ds ps qs → Q (.bl false) H')
theorem spIsClr_i {K : PySem.W.Frag} {a u y : Addr} {ds : List Due} {ps : List Int} {ws : List V} {qs : List Rat} {H : Hp} {Q : VK} {E : XK} (h : IsSh K H a ds) (hu : H u = some (.lst (ps.map V.int))) (hy : H y = some (.lst ws)) (hq : IsQs H ws qs) (hd : ∀ d ∈ ds, DueOk qs.length d ∧ d.a ≤ 1000000000000) (hl : ds.length ≤ 64) (h9 : qs.length ≤ 9) (hpl : ps.length = qs.length) (hp : PurseOk ps) (hs : ∀ q ∈ qs, SzQ q 60000 60000) (hg : InLays ds qs → DeepG ds qs) (k : ∀ H', Same H H' → IsClr ds ps qs → Q (.bl true) H') (k' : ∀ H', Same H H' → ¬ IsClr ds ps qs → Q (.bl false) H') : spIsClr K [.ref a, .ref u, .ref y] H Q E := ⟨a, u, y, ds, ps, ws, qs, rfl, h, hu, hy, hq, hd, hl, h9, hpl, hp, hs, hg, k, k'⟩
section
variable {n : Nat} {ds : List Due} {ps : List Int} {W P : Rat} {k : Nat}
end
end Internal

set_option Elab.async false
set_option linter.all false
set_option maxRecDepth 100000
set_option maxHeartbeats 4000000
namespace Internal
open PySem PySem.Spec PyProof.Rows Dt
noncomputable def posQ (q : Rat) : Rat := if q < 0 then 0 else q
noncomputable def posL (qs : List Rat) : List Rat := qs.map posQ
theorem pos_nn (q : Rat) : 0 ≤ posQ q := by unfold posQ; split <;> grind
theorem posL_len (qs : List Rat) : (posL qs).length = qs.length := List.length_map ..
theorem posL_nn (qs : List Rat) : ∀ q ∈ posL qs, 0 ≤ q := fun q hq => by
  obtain ⟨r, _, rfl⟩ := List.mem_map.mp hq
  exact pos_nn r
theorem posL_get {qs : List Rat} {m : Nat} : (posL qs).getD m 0 = posQ (qs.getD m 0) := by
  unfold posL
  rw [List.getD_eq_getElem?_getD, List.getElem?_map, List.getD_eq_getElem?_getD]
  cases qs[m]? with
  | none => show (0 : Rat) = posQ 0; unfold posQ; rw [if_neg (by decide)]
  | some q => rfl
theorem posL_self {qs : List Rat} (h : ∀ q ∈ qs, 0 ≤ q) : posL qs = qs := by
  unfold posL
  rw [List.map_congr_left (g := id) fun q hq => by unfold posQ; rw [if_neg (Rat.not_lt.mpr (h q hq))]; rfl, List.map_id]
theorem clamp_all {f : Nat → Int} {q : Rat} {r : Nat} (hf : ∀ j, j < 3 → 0 ≤ f j) (hr : r < 3) : 0 ≤ clampI f q r ∧ clampI f q r ≤ f r * (q.den : Int) ∧ ((clampI f q r : Int) : Rat) = laidQ f (posQ q) r * ((q.den : Int) : Rat) := by
  by_cases z : q < 0
  · have hn : q.num < 0 := by
      have h1 := num_eq q
      have h2 := Rat.mul_lt_mul_of_pos_right z (den_posR q)
      rw [← h1, show (0 : Rat) * ((q.den : Int) : Rat) = 0 by grind] at h2
      exact_mod_cast h2
    have hd' := den_pos q
    have hc := (show 0 ≤ cumF f r by
      have : ∀ i, i ≤ 3 → 0 ≤ cumF f i := by
        intro i
        induction i with
        | zero => intro _; exact Int.le_refl 0
        | succ i ih => intro hi; have := ih (by omega); have := hf i (by omega); show 0 ≤ cumF f i + f i; omega
      exact this r (by omega))
    have hm := Int.mul_nonneg hc (Int.le_of_lt hd')
    have h0 := Int.mul_nonneg (hf r hr) (Int.le_of_lt hd')
    have e : clampI f q r = 0 := by
      have e1 : (if 0 > q.num - cumF f r * (q.den : Int) then 0 else q.num - cumF f r * (q.den : Int)) = 0 := if_pos (by omega)
      unfold clampI
      rw [e1, if_neg (by omega)]
    have el : laidQ f (posQ q) r = 0 := by
      unfold posQ
      rw [if_pos z]
      have hl := laid_cl (f := f) (q := 0) Rat.le_refl hf hr
      have hc0 : (0 : Rat) ≤ cumR f r := castR_nn hc
      rw [hl, if_pos hc0]
    rw [e, el]
    exact ⟨Int.le_refl 0, h0, by rw [show ((0 : Int) : Rat) = 0 from rfl]; grind⟩
  · have hp : posQ q = q := if_neg z
    rw [hp]
    exact clamp_ok (Rat.not_lt.mp z) hf hr
theorem same_clr {ds : List Due} {ps : List Int} {qs : List Rat} (hd : ∀ d ∈ ds, DueOk qs.length d) (hp : ∀ p ∈ ps, 0 ≤ p) (hl : ps.length = qs.length) : qs = (List.range ps.length).map (nextF ds ps (posL qs)) ↔ IsClr ds ps qs := by
  have hdp : ∀ d ∈ ds, DueOk (posL qs).length d := by rw [posL_len]; exact hd
  constructor
  · intro e
    have hg : ∀ m, m < qs.length → qs.getD m 0 = nextF ds ps (posL qs) m := fun m hm => by
      rw [show qs.getD m 0 = ((List.range ps.length).map (nextF ds ps (posL qs))).getD m 0 by rw [← e], getD_map (by omega)]
    have hnn : ∀ q ∈ qs, 0 ≤ q := fun q hq => by
      rw [e] at hq
      obtain ⟨m, _, rfl⟩ := List.mem_map.mp hq
      exact next_nn hdp (posL_nn qs) hp m
    rw [posL_self hnn] at e
    refine ⟨fun m hm => ?_, e.symm⟩
    rw [posL_self hnn] at hg
    exact ⟨getD_nn hnn m, by rw [hg m hm]; exact next_le m⟩
  · rintro ⟨hin, e⟩
    have hnn : ∀ q ∈ qs, 0 ≤ q := fun q hq => by
      obtain ⟨i, hi, ei⟩ := List.getElem_of_mem hq
      have := (hin i hi).1
      rwa [List.getD_eq_getElem?_getD, List.getElem?_eq_getElem hi, ei] at this
    rw [posL_self hnn, e]
set_option genInjectivity false in
set_option genSizeOf false in
structure LayE (qs : List Rat) (D : Nat) : Prop where
  pos : 0 < D
  lay : ∀ q ∈ qs, Dv D q ∧ -((1000000000000000 : Int) : Rat) ≤ q ∧ q ≤ ((1000000000000000 : Int) : Rat)
theorem Dv.neg' {D : Nat} {x : Rat} (h : Dv D x) : Dv D (-x) := by
  have := (Dv.int (D := D) 0).sub h
  rw [show ((0 : Int) : Rat) = 0 from rfl] at this
  rwa [show (0 : Rat) - x = -x by grind] at this
theorem szQ_neg {q : Rat} {a b : Nat} (h : SzQ (-q) a b) : SzQ q a b := by
  have := h.neg
  rwa [Rat.neg_neg] at this
theorem LayE.sz {qs : List Rat} {D z : Nat} (h : LayE qs D) (hz : Internal.sz ((D : Nat) : Int) ≤ z) {q : Rat} (hq : q ∈ qs) : SzQ q (z + 57) z := by
  obtain ⟨h1, h2, h3⟩ := h.lay q hq
  have hb : ((1000000000000000 : Int) : Rat) ≤ ((100000000000000000 : Int) : Rat) := castR_le (by decide)
  by_cases s : 0 ≤ q
  · exact DvB.sz ⟨s, by grind, h1⟩ h.pos hz
  · exact szQ_neg (DvB.sz (D := D) ⟨by grind, by grind, h1.neg'⟩ h.pos hz)
theorem LayE.deep {ds : List Due} {qs : List Rat} {D : Nat} (h : LayE qs D) (hz : Internal.sz ((D : Nat) : Int) ≤ 5000) (hT : Internal.sz ((allT ds : Nat) : Int) ≤ 750) (hin : InLays ds qs) : DeepG ds qs := by
  refine ⟨D, h.pos, fun q hq => ?_, ?_⟩
  · obtain ⟨h1, h2, h3⟩ := h.lay q hq
    obtain ⟨i, hi, ei⟩ := List.getElem_of_mem hq
    have := (hin i hi).1
    rw [List.getD_eq_getElem?_getD, List.getElem?_eq_getElem hi, ei] at this
    have hb : ((1000000000000000 : Int) : Rat) ≤ ((100000000000000000 : Int) : Rat) := castR_le (by decide)
    exact ⟨this, by grind, h1⟩
  · rw [Int.natCast_mul]
    exact Nat.le_trans (sz_mul hz hT) (by decide)
section
variable {n : Nat} {ds : List Due} {ps : List Int} {qs qs' : List Rat}
theorem got_cong {g g' : Due → Rat} {m : Nat} (ds : List Due) : (∀ d ∈ ds, d.q = (m : Int) → g d = g' d) → gotF ds g m = gotF ds g' m :=
  byTake (P := fun ds => (∀ d ∈ ds, d.q = (m : Int) → g d = g' d) → gotF ds g m = gotF ds g' m) (fun _ => rfl) (fun es d ih h => by
    rw [gotF_snoc, gotF_snoc, ih fun e he => h e (List.mem_append_left _ he)]
    by_cases e : d.q = (m : Int)
    · rw [if_pos e, if_pos e, h d (List.mem_append_right _ (.head _)) e]
    · rw [if_neg e, if_neg e]) ds
theorem got_dv {g : Due → Rat} {m E : Nat} (ds : List Due) : (∀ d ∈ ds, d.q = (m : Int) → Dv E (g d)) → Dv E (gotF ds g m) :=
  byTake (P := fun ds => (∀ d ∈ ds, d.q = (m : Int) → Dv E (g d)) → Dv E (gotF ds g m)) (fun _ => by show Dv E ((0 : Int) : Rat); exact Dv.int 0) (fun es d ih h => by
    have h1 := ih fun e he => h e (List.mem_append_left _ he)
    rw [gotF_snoc]
    by_cases e : d.q = (m : Int)
    · rw [if_pos e]; exact h1.add (h d (List.mem_append_right _ (.head _)) e)
    · rw [if_neg e]
      have := h1.add (Dv.int (D := E) 0)
      rwa [show ((0 : Int) : Rat) = 0 from rfl] at this) ds
theorem next_low (hd : ∀ d ∈ ds, 0 ≤ d.p) (hf : ∀ d ∈ ds, d.p < d.q) {m : Nat} (h : ∀ j, j < m → qs.getD j 0 = qs'.getD j 0) : nextF ds ps qs m = nextF ds ps qs' m := by
  have : gotF ds (payQ ds qs) m = gotF ds (payQ ds qs') m := got_cong ds fun d hm e => by
    have h1 := hf d hm
    have h0 := hd d hm
    unfold payQ
    rw [h d.p.toNat (by omega)]
  unfold nextF
  rw [this]
noncomputable def recQ (ds : List Due) (ps : List Int) (n : Nat) : Nat → List Rat
  | 0 => (List.range n).map fun _ => 0
  | k + 1 => (recQ ds ps n k).set k (nextF ds ps (recQ ds ps n k) k)
theorem rec_len : ∀ k, (recQ ds ps n k).length = n
  | 0 => by show ((List.range n).map _).length = n; rw [List.length_map, List.length_range]
  | k + 1 => by show (List.set _ _ _).length = n; rw [List.length_set]; exact rec_len k
theorem set_getD {l : List Rat} {i j : Nat} {x : Rat} : (l.set i x).getD j 0 = if j = i ∧ i < l.length then x else l.getD j 0 := by
  rw [List.getD_eq_getElem?_getD, List.getD_eq_getElem?_getD]
  by_cases e : j = i
  · subst e
    by_cases h : j < l.length
    · rw [List.getElem?_set_self h, if_pos ⟨rfl, h⟩]; rfl
    · rw [if_neg fun z => h z.2, List.getElem?_eq_none (by rw [List.length_set]; omega), List.getElem?_eq_none (by omega)]
  · rw [List.getElem?_set_ne (fun z => e z.symm), if_neg fun z => e z.1]
theorem rec_keep {j k : Nat} (hj : j < k) : ∀ t, (recQ ds ps n (k + t)).getD j 0 = (recQ ds ps n k).getD j 0
  | 0 => rfl
  | t + 1 => by
    rw [show k + (t + 1) = (k + t) + 1 by omega]
    show ((recQ ds ps n (k + t)).set (k + t) _).getD j 0 = _
    rw [set_getD, if_neg (by omega), rec_keep hj t]
theorem rec_at {k : Nat} (hk : k < n) : (recQ ds ps n (k + 1)).getD k 0 = nextF ds ps (recQ ds ps n k) k := by
  show ((recQ ds ps n k).set k _).getD k 0 = _
  rw [set_getD, if_pos ⟨rfl, by rw [rec_len]; exact hk⟩]
theorem rec_fix (hd : ∀ d ∈ ds, 0 ≤ d.p) (hf : ∀ d ∈ ds, d.p < d.q) : ∀ m, m < n → (recQ ds ps n n).getD m 0 = nextF ds ps (recQ ds ps n n) m := fun m hm => by
  have h1 := rec_keep (ds := ds) (ps := ps) (n := n) (Nat.lt_succ_self m) (n - (m + 1))
  rw [show m.succ + (n - (m + 1)) = n by omega] at h1
  rw [h1, rec_at hm]
  refine next_low hd hf fun j hj => ?_
  have h2 := rec_keep (ds := ds) (ps := ps) (n := n) hj (n - m)
  rw [show m + (n - m) = n by omega] at h2
  exact h2.symm
theorem rec_zero {j : Nat} : ∀ k, k ≤ j → (recQ ds ps n k).getD j 0 = 0
  | 0, _ => by
    show ((List.range n).map fun _ => (0 : Rat)).getD j 0 = 0
    rw [map_getD]; split <;> rfl
  | k + 1, h => by
    show ((recQ ds ps n k).set k _).getD j 0 = 0
    rw [set_getD, if_neg (by omega)]
    exact rec_zero k (by omega)
theorem rec_nn (hd : ∀ d ∈ ds, DueOk n d) (hp : ∀ p ∈ ps, 0 ≤ p) : ∀ k, ∀ q ∈ recQ ds ps n k, 0 ≤ q
  | 0, q, hq => by
    obtain ⟨_, _, rfl⟩ := List.mem_map.mp hq
    exact Rat.le_refl
  | k + 1, q, hq => by
    have ih := rec_nn hd hp k
    rcases List.mem_or_eq_of_mem_set hq with h | h
    · exact ih q h
    · rw [h]; exact next_nn (by rw [rec_len]; exact hd) ih hp k
theorem rec_le (hd : ∀ d ∈ ds, DueOk n d ∧ d.a ≤ 1000000000000) (hl : ds.length ≤ 64) : ∀ k, ∀ q ∈ recQ ds ps n k, q ≤ ((300000000000000 : Int) : Rat)
  | 0, q, hq => by
    obtain ⟨_, _, rfl⟩ := List.mem_map.mp hq
    exact castR_nn (i := 300000000000000) (by decide)
  | k + 1, q, hq => by
    rcases List.mem_or_eq_of_mem_set hq with h | h
    · exact rec_le hd hl k q h
    · rw [h]
      refine Rat.le_trans (next_le k) (castR_le ?_)
      exact (sum3_bnd hd hl k).2
noncomputable def lowT (ds : List Due) (k : Nat) : Nat := prodT (rkD ds) (ds.filter fun d => decide (d.p < (k : Int)))
theorem prodT_filter {F : Due → Int} (p : Due → Bool) : ∀ es : List Due, prodT F (es.filter p) ∣ prodT F es
  | [] => Nat.dvd_refl _
  | e :: es => by
    have ih := prodT_filter (F := F) p es
    by_cases h : p e = true
    · rw [List.filter_cons_of_pos h]
      exact Nat.mul_dvd_mul_left _ ih
    · rw [List.filter_cons_of_neg h]
      exact Nat.dvd_trans ih (Nat.dvd_mul_left _ _)
theorem prodT_more {F : Due → Int} {i k : Nat} (hik : i < k) : ∀ es : List Due, prodT F (es.filter fun d => decide (d.p < (i : Int))) ∣ prodT F (es.filter fun d => decide (d.p < (k : Int)))
  | [] => Nat.dvd_refl _
  | e :: es => by
    have ih := prodT_more (F := F) hik es
    by_cases h : e.p < (i : Int)
    · have h' : e.p < (k : Int) := by omega
      rw [List.filter_cons_of_pos (by simpa using h), List.filter_cons_of_pos (by simpa using h')]
      exact Nat.mul_dvd_mul_left _ ih
    · rw [List.filter_cons_of_neg (by simpa using h)]
      by_cases g : e.p < (k : Int)
      · rw [List.filter_cons_of_pos (by simpa using g)]
        exact Nat.dvd_trans ih (Nat.dvd_mul_left _ _)
      · rw [List.filter_cons_of_neg (by simpa using g)]; exact ih
theorem prodT_step {F : Due → Int} {i k : Nat} (hik : i < k) : ∀ (es : List Due) (d : Due), d ∈ es → d.p = (i : Int) → prodT F (es.filter fun d => decide (d.p < (i : Int))) * rkN (F d) ∣ prodT F (es.filter fun d => decide (d.p < (k : Int)))
  | [], d, h, _ => nomatch h
  | e :: es, d, h, hp => by
    rcases List.mem_cons.mp h with rfl | h
    · rw [List.filter_cons_of_neg (by simp; omega), List.filter_cons_of_pos (by simp; omega), Nat.mul_comm]
      exact Nat.mul_dvd_mul_left _ (prodT_more hik es)
    · have ih := prodT_step (F := F) hik es d h hp
      by_cases g : e.p < (i : Int)
      · have g2 : e.p < (k : Int) := by omega
        rw [List.filter_cons_of_pos (by simpa using g), List.filter_cons_of_pos (by simpa using g2)]
        show rkN (F e) * prodT F _ * rkN (F d) ∣ _
        rw [Nat.mul_assoc]
        exact Nat.mul_dvd_mul_left _ ih
      · rw [List.filter_cons_of_neg (by simpa using g)]
        by_cases g' : e.p < (k : Int)
        · rw [List.filter_cons_of_pos (by simpa using g')]
          exact Nat.dvd_trans ih (Nat.dvd_mul_left _ _)
        · rw [List.filter_cons_of_neg (by simpa using g')]; exact ih
theorem rec_dv (hd : ∀ d ∈ ds, DueOk n d) (hf : ∀ d ∈ ds, d.p < d.q) : ∀ k j, j < k → k ≤ n → Dv (lowT ds j) ((recQ ds ps n k).getD j 0)
  | 0, j, hj, _ => absurd hj (Nat.not_lt_zero _)
  | k + 1, j, hj, hk => by
    show Dv _ (((recQ ds ps n k).set k _).getD j 0)
    rw [set_getD]
    by_cases e : j = k
    · rw [if_pos ⟨e, by rw [rec_len]; omega⟩]
      subst e
      have hg : Dv (lowT ds j) (gotF ds (payQ ds (recQ ds ps n j)) j) := got_dv ds fun d hm hq => by
        obtain ⟨p0, p1, q0, q1, pq, r0, r1, a0, a1⟩ := hd d hm
        have h1 := hf d hm
        have ih := rec_dv hd hf j d.p.toNat (by omega) (by omega)
        have h2 := (share_dv (f := rankF ds d.p.toNat) ih d.r.toNat).mulI d.a
        refine h2.dvd ?_
        exact prodT_step (F := rkD ds) (i := d.p.toNat) (k := j) (by omega) ds d hm (by omega)
      unfold nextF
      split
      · exact (Dv.int _).add hg
      · exact Dv.int _
    · rw [if_neg fun z => e z.1]
      exact rec_dv hd hf k j (by omega) (by omega)
theorem rec_lay (hd : ∀ d ∈ ds, DueOk n d ∧ d.a ≤ 1000000000000) (hl : ds.length ≤ 64) (hp : ∀ p ∈ ps, 0 ≤ p) (hf : ∀ d ∈ ds, d.p < d.q) : LayE (recQ ds ps n n) (allT ds) := by
  refine ⟨allT_pos ds, fun q hq => ?_⟩
  have hd1 : ∀ d ∈ ds, DueOk n d := fun d h => (hd d h).1
  obtain ⟨i, hi, ei⟩ := List.getElem_of_mem hq
  have hg : (recQ ds ps n n).getD i 0 = q := by rw [List.getD_eq_getElem?_getD, List.getElem?_eq_getElem hi, ei]; rfl
  have h1 := rec_dv (ps := ps) hd1 hf n i (by rw [rec_len] at hi; exact hi) (Nat.le_refl _)
  rw [hg] at h1
  have h2 := rec_nn hd1 hp n q hq
  have h3 := rec_le hd hl n q hq
  have hb : ((300000000000000 : Int) : Rat) ≤ ((1000000000000000 : Int) : Rat) := castR_le (by decide)
  exact ⟨h1.dvd (prodT_filter _ ds), by have := castR_nn (i := 1000000000000000) (by decide); grind, by grind⟩
theorem rec_layk (hd : ∀ d ∈ ds, DueOk n d ∧ d.a ≤ 1000000000000) (hl : ds.length ≤ 64) (hp : ∀ p ∈ ps, 0 ≤ p) (hf : ∀ d ∈ ds, d.p < d.q) (k : Nat) (hk : k ≤ n) : LayE (recQ ds ps n k) (allT ds) := by
  refine ⟨allT_pos ds, fun q hq => ?_⟩
  have hd1 : ∀ d ∈ ds, DueOk n d := fun d h => (hd d h).1
  obtain ⟨i, hi, ei⟩ := List.getElem_of_mem hq
  have hg : (recQ ds ps n k).getD i 0 = q := by rw [List.getD_eq_getElem?_getD, List.getElem?_eq_getElem hi, ei]; rfl
  have h2 := rec_nn hd1 hp k q hq
  have h3 := rec_le hd hl k q hq
  have hb : ((300000000000000 : Int) : Rat) ≤ ((1000000000000000 : Int) : Rat) := castR_le (by decide)
  refine ⟨?_, by have := castR_nn (i := 1000000000000000) (by decide); grind, by grind⟩
  rw [← hg]
  by_cases h : i < k
  · exact (rec_dv (ps := ps) hd1 hf k i h hk).dvd (prodT_filter _ ds)
  · rw [rec_zero k (by omega)]
    exact Dv.int 0
theorem rec_szi (hd : ∀ d ∈ ds, DueOk n d ∧ d.a ≤ 1000000000000) (hl : ds.length ≤ 64) (hp : ∀ p ∈ ps, 0 ≤ p) (hf : ∀ d ∈ ds, d.p < d.q) (hT : Internal.sz ((allT ds : Nat) : Int) ≤ 750) (k : Nat) (hk : k ≤ n) : ∀ q ∈ recQ ds ps n k, SzQ q 7051 7001 := fun q hq =>
  ((rec_layk hd hl hp hf k hk).sz hT hq).mono (by decide) (by decide)
theorem rec_next_sz (hd : ∀ d ∈ ds, DueOk n d ∧ d.a ≤ 1000000000000) (hl : ds.length ≤ 64) (hp : ∀ p ∈ ps, 0 ≤ p) (hf : ∀ d ∈ ds, d.p < d.q) (hT : Internal.sz ((allT ds : Nat) : Int) ≤ 750) {i : Nat} (hi : i < n) : SzQ (nextF ds ps (recQ ds ps n i) i) 4000 4000 := by
  have hm : nextF ds ps (recQ ds ps n i) i ∈ recQ ds ps n (i + 1) := by
    show _ ∈ (recQ ds ps n i).set i _
    exact List.mem_set (by rw [rec_len]; exact hi) _
  exact ((rec_layk hd hl hp hf (i + 1) hi).sz hT hm).mono (by decide) (by decide)
theorem list_of_getD {l l' : List Rat} (h : l.length = l'.length) (e : ∀ m, m < l.length → l.getD m 0 = l'.getD m 0) : l = l' := by
  apply List.ext_getElem?
  intro i
  by_cases hi : i < l.length
  · have := e i hi
    rw [List.getD_eq_getElem?_getD, List.getD_eq_getElem?_getD, List.getElem?_eq_getElem hi, List.getElem?_eq_getElem (by omega)] at this
    rw [List.getElem?_eq_getElem hi, List.getElem?_eq_getElem (by omega)]
    exact congrArg some this
  · rw [List.getElem?_eq_none (by omega), List.getElem?_eq_none (by omega)]
theorem clr_of_fix (hl : ps.length = n) (hq : qs.length = n) (hnn : ∀ q ∈ qs, 0 ≤ q) (h : ∀ m, m < n → qs.getD m 0 = nextF ds ps qs m) : IsClr ds ps qs := by
  refine ⟨fun m hm => ⟨getD_nn hnn m, by rw [h m (by omega)]; exact next_le m⟩, ?_⟩
  refine list_of_getD (by rw [List.length_map, List.length_range]; omega) fun m hm => ?_
  rw [List.length_map, List.length_range] at hm
  rw [getD_map hm, h m (by omega)]
theorem rec_clr (hd : ∀ d ∈ ds, DueOk n d) (hp : ∀ p ∈ ps, 0 ≤ p) (hf : ∀ d ∈ ds, d.p < d.q) (hl : ps.length = n) : IsClr ds ps (recQ ds ps n n) :=
  clr_of_fix hl (rec_len n) (rec_nn hd hp n) (rec_fix (fun d h => (hd d h).1) hf)
theorem rec_spoilt (hd : ∀ d ∈ ds, DueOk n d) (hf : ∀ d ∈ ds, d.p < d.q) (hl : ps.length = n) {i : Nat} {v : Rat} (hi : i < n) (hv : v ≠ (recQ ds ps n n).getD i 0) : ¬ IsClr ds ps ((recQ ds ps n n).set i v) := by
  rintro ⟨_, e⟩
  have h1 : ((recQ ds ps n n).set i v).getD i 0 = nextF ds ps ((recQ ds ps n n).set i v) i := by
    rw [show ((recQ ds ps n n).set i v).getD i 0 = ((List.range ps.length).map (nextF ds ps ((recQ ds ps n n).set i v))).getD i 0 by rw [e], getD_map (by omega)]
  rw [set_getD, if_pos ⟨rfl, by rw [rec_len]; exact hi⟩, next_low (qs' := recQ ds ps n n) (fun d h => (hd d h).1) hf fun j hj => by rw [set_getD, if_neg (by omega)], ← rec_fix (fun d h => (hd d h).1) hf i hi] at h1
  exact hv h1
theorem full_clr (hd : ∀ d ∈ ds, DueOk n d) (hp : ps = (List.range n).map fun m => sumI (vec 3 (rankF ds m))) : IsClr ds ps ((List.range n).map (owedQ ds)) := by
  have hl : ps.length = n := by rw [hp, List.length_map, List.length_range]
  have hnn : ∀ q ∈ (List.range n).map (owedQ ds), 0 ≤ q := fun q hq => by
    obtain ⟨m, _, rfl⟩ := List.mem_map.mp hq
    exact owed_nn hd m
  refine clr_of_fix hl (by rw [List.length_map, List.length_range]) hnn fun m hm => ?_
  rw [getD_map hm]
  unfold nextF
  have hpm : ps.getD m 0 = sumI (vec 3 (rankF ds m)) := by
    rw [hp, List.getD_eq_getElem?_getD, List.getElem?_map, List.getElem?_range hm]; rfl
  have hg : 0 ≤ gotF ds (payQ ds ((List.range n).map (owedQ ds))) m := by
    have hz : gotF ds (fun _ => 0) m = 0 := byTake (P := fun ds => gotF ds (fun _ => 0) m = 0) rfl (fun es d ih => by rw [gotF_snoc, ih]; split <;> grind) ds
    rw [← hz]
    refine gainF_mono (fun d hmd => ?_) m
    obtain ⟨p0, p1, q0, q1, pq, r0, r1, a0, a1⟩ := hd d hmd
    unfold payQ
    exact Rat.mul_nonneg (castR_nn a0) (share_bnd (getD_nn hnn _) (rank_nn' hd _ _)).1
  rw [hpm, if_neg]
  show ¬ owedQ ds m + _ < owedQ ds m
  grind
end
noncomputable def ringD (n : Nat) (r A : Int) : List Due := (List.range n).map fun k : Nat => ⟨(k : Int), ((k : Int) + 1) % (n : Int), r, A⟩
section
variable {n : Nat} {r A : Int}
theorem ringD_mem {d : Due} (h : d ∈ ringD n r A) : ∃ k : Nat, k < n ∧ d = ⟨(k : Int), ((k : Int) + 1) % (n : Int), r, A⟩ := by
  obtain ⟨k, hk, rfl⟩ := List.mem_map.mp h
  exact ⟨k, List.mem_range.mp hk, rfl⟩
theorem ringD_ok (n1 : 1 < n) (r0 : 0 ≤ r) (r3 : r < 3) (A0 : 0 ≤ A) (A1 : A ≤ 1000000000000) : ∀ d ∈ ringD n r A, DueOk n d ∧ d.a ≤ 1000000000000 := fun d h => by
  obtain ⟨k, hk, rfl⟩ := ringD_mem h
  have h1 := Int.emod_nonneg ((k : Int) + 1) (show (n : Int) ≠ 0 by omega)
  have h2 := Int.emod_lt_of_pos ((k : Int) + 1) (show (0 : Int) < n by omega)
  refine ⟨⟨by show (0 : Int) ≤ k; omega, by show (k : Int) < n; omega, h1, h2, ?_, r0, r3, A0, by show A ≤ _; omega⟩, A1⟩
  show (k : Int) ≠ ((k : Int) + 1) % (n : Int)
  by_cases e : k + 1 = n
  · rw [show (k : Int) + 1 = (n : Int) by omega, Int.emod_self]; omega
  · rw [Int.emod_eq_of_lt (by omega) (by omega)]; omega
theorem ring_rank (r0 : 0 ≤ r) {m : Nat} (hm : m < n) (ρ : Nat) : rankF (ringD n r A) m ρ = if r = (ρ : Int) then A else 0 := by
  have key : ∀ t, t ≤ n → rankF ((List.range t).map fun k : Nat => (⟨(k : Int), ((k : Int) + 1) % (n : Int), r, A⟩ : Due)) m ρ = if m < t ∧ r = (ρ : Int) then A else 0 := by
    intro t
    induction t with
    | zero => intro _; rw [if_neg fun z => Nat.not_lt_zero _ z.1]; rfl
    | succ t ih =>
      intro ht
      rw [List.range_succ, List.map_append, List.map_singleton, rankF_snoc, ih (by omega)]
      dsimp only
      by_cases e : t = m
      · subst e
        rw [if_neg (show ¬ (t < t ∧ r = (ρ : Int)) from fun z => Nat.lt_irrefl _ z.1)]
        by_cases g : r = (ρ : Int)
        · rw [if_pos ⟨rfl, g⟩, if_pos ⟨Nat.lt_succ_self _, g⟩]; omega
        · rw [if_neg fun z => g z.2, if_neg fun z => g z.2]
      · rw [if_neg (show ¬ ((t : Int) = (m : Int) ∧ r = (ρ : Int)) by omega)]
        by_cases g : m < t ∧ r = (ρ : Int)
        · rw [if_pos g, if_pos ⟨by omega, g.2⟩]
        · rw [if_neg g, if_neg fun z => g ⟨by omega, z.2⟩]
  rw [show ringD n r A = (List.range n).map fun k : Nat => (⟨(k : Int), ((k : Int) + 1) % (n : Int), r, A⟩ : Due) from rfl, key n (Nat.le_refl _)]
  by_cases g : r = (ρ : Int)
  · rw [if_pos ⟨hm, g⟩, if_pos g]
  · rw [if_neg fun z => g z.2, if_neg g]
theorem ring_owed (r0 : 0 ≤ r) (r3 : r < 3) {m : Nat} (hm : m < n) : sumI (vec 3 (rankF (ringD n r A) m)) = A := by
  rw [sum_cum]
  show (0 + rankF _ m 0) + rankF _ m 1 + rankF _ m 2 = A
  rw [ring_rank r0 hm, ring_rank r0 hm, ring_rank r0 hm]
  obtain rfl | rfl | rfl : r = 0 ∨ r = 1 ∨ r = 2 := by omega
  · simp
  · simp
  · simp
theorem ring_got {g : Due → Rat} {x : Rat} (hg : ∀ d ∈ ringD n r A, g d = x) {m : Nat} (hm : m < n) : gotF (ringD n r A) g m = x := by
  have key : ∀ t, t ≤ n → gotF ((List.range t).map fun k : Nat => (⟨(k : Int), ((k : Int) + 1) % (n : Int), r, A⟩ : Due)) g m = if (m = 0 ∧ t = n) ∨ (0 < m ∧ m ≤ t) then x else 0 := by
    intro t
    induction t with
    | zero =>
      intro _
      rw [if_neg (by omega)]; rfl
    | succ t ih =>
      intro ht
      rw [List.range_succ, List.map_append, List.map_singleton, gotF_snoc, ih (by omega)]
      dsimp only
      have hx := hg ⟨(t : Int), ((t : Int) + 1) % (n : Int), r, A⟩ (List.mem_map.mpr ⟨t, List.mem_range.mpr (by omega), rfl⟩)
      rw [hx]
      by_cases e : t + 1 = n
      · rw [show (t : Int) + 1 = (n : Int) by omega, Int.emod_self]
        by_cases z : m = 0
        · rw [if_neg (by omega), if_pos (by omega), if_pos (.inl ⟨z, e⟩)]; grind
        · rw [if_pos (.inr ⟨by omega, by omega⟩), if_neg (by omega), if_pos (.inr ⟨by omega, by omega⟩)]; grind
      · rw [Int.emod_eq_of_lt (by omega) (by omega)]
        by_cases z : m = t + 1
        · rw [if_neg (by omega), if_pos (by omega), if_pos (.inr ⟨by omega, by omega⟩)]; grind
        · rw [if_neg (show ¬ (t : Int) + 1 = (m : Int) by omega)]
          by_cases y : (m = 0 ∧ t = n) ∨ (0 < m ∧ m ≤ t)
          · rw [if_pos y, if_pos (by omega)]; grind
          · rw [if_neg y, if_neg (by omega)]; grind
  have := key n (Nat.le_refl _)
  rw [if_pos (by omega)] at this
  exact this
theorem ring_clr (n1 : 1 < n) (r0 : 0 ≤ r) (r3 : r < 3) (A0 : 0 ≤ A) (A1 : A ≤ 1000000000000) {x : Rat} (x0 : 0 ≤ x) (x1 : x ≤ ((A : Int) : Rat)) {ps : List Int} (hp : ps = (List.range n).map fun _ => 0) : IsClr (ringD n r A) ps ((List.range n).map fun _ => x) := by
  have hok := ringD_ok n1 r0 r3 A0 A1
  have hd : ∀ d ∈ ringD n r A, DueOk n d := fun d h => (hok d h).1
  have hl : ps.length = n := by rw [hp, List.length_map, List.length_range]
  have hnn : ∀ q ∈ (List.range n).map (fun _ => x), 0 ≤ q := fun q hq => by
    obtain ⟨m, _, rfl⟩ := List.mem_map.mp hq
    exact x0
  refine clr_of_fix hl (by rw [List.length_map, List.length_range]) hnn fun m hm => ?_
  rw [getD_map hm]
  have ho : owedQ (ringD n r A) m = ((A : Int) : Rat) := by unfold owedQ; rw [ring_owed r0 r3 hm]
  have hpm : ps.getD m 0 = 0 := by
    rw [hp, List.getD_eq_getElem?_getD, List.getElem?_map, List.getElem?_range hm]; rfl
  have hpay : ∀ d ∈ ringD n r A, payQ (ringD n r A) ((List.range n).map fun _ => x) d = x := fun d hdm => by
    obtain ⟨k, hk, rfl⟩ := ringD_mem hdm
    have hs := payL_sum (y := fun _ => x) hd (m := k) x0 (by rw [← owed_cum]; show x ≤ owedQ (ringD n r A) k; unfold owedQ; rw [ring_owed r0 r3 hk]; exact x1)
    unfold payQ
    show ((A : Int) : Rat) * shareQ (rankF (ringD n r A) ((k : Int)).toNat) (((List.range n).map fun _ => x).getD ((k : Int)).toNat 0) r.toNat = x
    rw [Int.toNat_natCast, getD_map hk]
    have hf : ∀ j, j < 3 → 0 ≤ rankF (ringD n r A) k j := fun j _ => rank_nn' hd k j
    have hsm := share_mul (f := rankF (ringD n r A) k) (q := x) (r := r.toNat) x0 (hf _ (by omega))
    have hrk : rankF (ringD n r A) k r.toNat = A := by rw [ring_rank r0 hk, if_pos (by omega)]
    rw [hrk] at hsm
    rw [hsm, laid_cl x0 hf (show r.toNat < 3 by omega)]
    have hcum : ∀ j, j ≤ r.toNat → cumF (rankF (ringD n r A) k) j = 0 := by
      intro j
      induction j with
      | zero => intro _; rfl
      | succ j ih =>
        intro hj
        show cumF _ j + rankF _ k j = 0
        rw [ih (by omega), ring_rank r0 hk, if_neg (by omega)]; rfl
    have c0 : cumR (rankF (ringD n r A) k) r.toNat = 0 := by unfold cumR; rw [hcum _ (Nat.le_refl _)]; rfl
    have c1 : cumR (rankF (ringD n r A) k) (r.toNat + 1) = ((A : Int) : Rat) := by rw [cumR_succ, c0, hrk]; grind
    rw [c0, c1, hrk]
    split
    · grind
    · split <;> grind
  unfold nextF
  rw [ho, hpm, ring_got hpay hm, show ((0 : Int) : Rat) = 0 from rfl]
  split <;> grind
end
end Internal

set_option Elab.async false
set_option linter.all false
set_option maxRecDepth 100000
set_option maxHeartbeats 4000000
namespace Internal
open PySem PySem.Spec PyProof.Rows Dt
noncomputable def spLawGotC (K : PySem.W.Frag) : Sp := fun vs H Q _ => ∃ (a y : Addr) (ds : List Due) (ws : List V) (qs : List Rat), vs = [.ref a, .ref y] ∧ IsSh K H a ds ∧ H y = some (.lst ws) ∧ IsQs H ws qs ∧ (∀ d ∈ ds, DueOk qs.length d ∧ d.a ≤ 1000000000000) ∧ ds.length ≤ 64 ∧ qs.length ≤ 9 ∧ (∀ q ∈ qs, SzQ q 7051 7001) ∧ ∀ p H' vs, H p = none → Same H H' → H' p = some (.lst vs) → IsFr 470000 H' vs ((List.range qs.length).map (gotF ds (payQ ds (posL qs)))) → Q (.ref p) H'
theorem spLawGotC_i {K : PySem.W.Frag} {a y : Addr} {ds : List Due} {ws : List V} {qs : List Rat} {H : Hp} {Q : VK} {E : XK} (h : IsSh K H a ds) (hy : H y = some (.lst ws)) (hq : IsQs H ws qs) (hd : ∀ d ∈ ds, DueOk qs.length d ∧ d.a ≤ 1000000000000) (hl : ds.length ≤ 64) (h9 : qs.length ≤ 9) (hs : ∀ q ∈ qs, SzQ q 7051 7001) (k : ∀ p H' vs, H p = none → Same H H' → H' p = some (.lst vs) → IsFr 470000 H' vs ((List.range qs.length).map (gotF ds (payQ ds (posL qs)))) → Q (.ref p) H') : spLawGotC K [.ref a, .ref y] H Q E := ⟨a, y, ds, ws, qs, rfl, h, hy, hq, hd, hl, h9, hs, k⟩
noncomputable def spLawNextC (K : PySem.W.Frag) : Sp := fun vs H Q _ => ∃ (a u y : Addr) (ds : List Due) (ps : List Int) (ws : List V) (qs : List Rat), vs = [.ref a, .ref u, .ref y] ∧ IsSh K H a ds ∧ H u = some (.lst (ps.map V.int)) ∧ H y = some (.lst ws) ∧ IsQs H ws qs ∧ (∀ d ∈ ds, DueOk qs.length d ∧ d.a ≤ 1000000000000) ∧ ds.length ≤ 64 ∧ qs.length ≤ 9 ∧ ps.length = qs.length ∧ PurseOk ps ∧ (∀ q ∈ qs, SzQ q 7051 7001) ∧ ∀ p H' vs, H p = none → Same H H' → H' p = some (.lst vs) → IsFr 10000000 H' vs ((List.range ps.length).map (nextF ds ps (posL qs))) → Q (.ref p) H'
theorem spLawNextC_i {K : PySem.W.Frag} {a u y : Addr} {ds : List Due} {ps : List Int} {ws : List V} {qs : List Rat} {H : Hp} {Q : VK} {E : XK} (h : IsSh K H a ds) (hu : H u = some (.lst (ps.map V.int))) (hy : H y = some (.lst ws)) (hq : IsQs H ws qs) (hd : ∀ d ∈ ds, DueOk qs.length d ∧ d.a ≤ 1000000000000) (hl : ds.length ≤ 64) (h9 : qs.length ≤ 9) (hpl : ps.length = qs.length) (hp : PurseOk ps) (hs : ∀ q ∈ qs, SzQ q 7051 7001) (k : ∀ p H' vs, H p = none → Same H H' → H' p = some (.lst vs) → IsFr 10000000 H' vs ((List.range ps.length).map (nextF ds ps (posL qs))) → Q (.ref p) H') : spLawNextC K [.ref a, .ref u, .ref y] H Q E := ⟨a, u, y, ds, ps, ws, qs, rfl, h, hu, hy, hq, hd, hl, h9, hpl, hp, hs, k⟩
noncomputable def spSame2 (K : PySem.W.Frag) : Sp := fun vs H Q _ => ∃ (a b : Addr) (us ws : List V) (rs rs' : List Rat), vs = [.ref a, .ref b] ∧ H a = some (.lst us) ∧ H b = some (.lst ws) ∧ IsFr 10000000 H us rs ∧ IsFr 10000000 H ws rs' ∧ rs.length = rs'.length ∧ rs.length ≤ 1000 ∧ ∀ o : Bool, (o = true ↔ rs = rs') → Q (.bl o) H
theorem spSame2_i {K : PySem.W.Frag} {a b : Addr} {us ws : List V} {rs rs' : List Rat} {H : Hp} {Q : VK} {E : XK} (h1 : H a = some (.lst us)) (h2 : H b = some (.lst ws)) (h3 : IsFr 10000000 H us rs) (h4 : IsFr 10000000 H ws rs') (hl : rs.length = rs'.length) (h5 : rs.length ≤ 1000) (q : ∀ o : Bool, (o = true ↔ rs = rs') → Q (.bl o) H) : spSame2 K [.ref a, .ref b] H Q E := ⟨a, b, us, ws, rs, rs', rfl, h1, h2, h3, h4, hl, h5, q⟩
theorem fr_ne {r r' : Rat} {t b t' b' : Int} (hb : 0 < b) (hb' : 0 < b') (h : ((t : Int) : Rat) = r * ((b : Int) : Rat)) (h' : ((t' : Int) : Rat) = r' * ((b' : Int) : Rat)) (e : t * b' = t' * b) : r = r' := by
  have p1 := castR_pos hb
  have p2 := castR_pos hb'
  have p3 := Rat.mul_pos p1 p2
  have e1 : ((t * b' : Int) : Rat) = ((t' * b : Int) : Rat) := by rw [e]
  rw [Rat.intCast_mul, Rat.intCast_mul, h, h'] at e1
  have e2 : (r - r') * (((b : Int) : Rat) * ((b' : Int) : Rat)) = 0 := by grind
  rcases Rat.mul_eq_zero.mp e2 with z | z
  · grind
  · rw [z] at p3; exact absurd p3 (by decide)
noncomputable def fwdD (d : Due) : Due := ⟨if d.q < d.p then d.q else d.p, if d.q < d.p then d.p else d.q, d.r, d.a⟩
theorem fwd_ok {n : Int} {d : Due} (h : DueOk n d) : DueOk n (fwdD d) ∧ (fwdD d).p < (fwdD d).q := by
  obtain ⟨p0, p1, q0, q1, pq, r0, r1, a0, a1⟩ := h
  unfold fwdD
  by_cases e : d.q < d.p
  · simp only [if_pos e]
    exact ⟨⟨q0, q1, p0, p1, fun z => pq z.symm, r0, r1, a0, a1⟩, e⟩
  · simp only [if_neg e]
    exact ⟨⟨p0, p1, q0, q1, pq, r0, r1, a0, a1⟩, by show d.p < d.q; omega⟩
noncomputable def spFwd (K : PySem.W.Frag) : Sp := fun vs H Q _ => ∃ (a : Addr) (ds : List Due), vs = [.ref a] ∧ IsSh K H a ds ∧ ds.length ≤ 64 ∧ ∀ p H' us, H p = none → Same H H' → H' p = some (.lst us) → IsTs dueV H' us (ds.map fwdD) → Q (.ref p) H'
theorem spFwd_i {K : PySem.W.Frag} {a : Addr} {ds : List Due} {H : Hp} {Q : VK} {E : XK} (h : IsSh K H a ds) (hl : ds.length ≤ 64) (k : ∀ p H' us, H p = none → Same H H' → H' p = some (.lst us) → IsTs dueV H' us (ds.map fwdD) → Q (.ref p) H') : spFwd K [.ref a] H Q E := ⟨a, ds, rfl, h, hl, k⟩
noncomputable def spReck (K : PySem.W.Frag) : Sp := fun vs H Q _ => ∃ (a u : Addr) (n : Nat) (ds : List Due) (ps : List Int), vs = [.ref a, .ref u] ∧ IsSh K H a ds ∧ H u = some (.lst (ps.map V.int)) ∧ ps.length = n ∧ n ≤ 9 ∧ (∀ d ∈ ds, DueOk n d ∧ d.a ≤ 1000000000000) ∧ ds.length ≤ 64 ∧ PurseOk ps ∧ (∀ d ∈ ds, d.p < d.q) ∧ sz ((allT ds : Nat) : Int) ≤ 750 ∧ ∀ p H' ws, H p = none → Same H H' → H' p = some (.lst ws) → IsQs H' ws (recQ ds ps n n) → Q (.ref p) H'
theorem spReck_i {K : PySem.W.Frag} {a u : Addr} {n : Nat} {ds : List Due} {ps : List Int} {H : Hp} {Q : VK} {E : XK} (h : IsSh K H a ds) (hu : H u = some (.lst (ps.map V.int))) (hpl : ps.length = n) (n9 : n ≤ 9) (hd : ∀ d ∈ ds, DueOk n d ∧ d.a ≤ 1000000000000) (hl : ds.length ≤ 64) (hp : PurseOk ps) (hf : ∀ d ∈ ds, d.p < d.q) (hT : sz ((allT ds : Nat) : Int) ≤ 750) (k : ∀ p H' ws, H p = none → Same H H' → H' p = some (.lst ws) → IsQs H' ws (recQ ds ps n n) → Q (.ref p) H') : spReck K [.ref a, .ref u] H Q E := ⟨a, u, n, ds, ps, rfl, h, hu, hpl, n9, hd, hl, hp, hf, hT, k⟩
noncomputable def InB (x : Int) (qs : List Rat) : Prop := ∀ q ∈ qs, -((x : Int) : Rat) ≤ q ∧ q ≤ ((x : Int) : Rat)
theorem owes_bnd {m : Nat} (ds : List Due) : (∀ d ∈ ds, 0 ≤ d.a ∧ d.a ≤ 1000000000000) → owesF ds m ≤ 1000000000000 * (ds.length : Int) :=
  byTake (P := fun ds => (∀ d ∈ ds, 0 ≤ d.a ∧ d.a ≤ 1000000000000) → owesF ds m ≤ 1000000000000 * (ds.length : Int)) (fun _ => Int.le_refl _) (fun es d ih h => by
    have h1 := ih fun e he => h e (List.mem_append_left _ he)
    have h2 := h d (List.mem_append_right _ (.head _))
    rw [owesF_snoc, List.length_append, List.length_singleton]
    split <;> omega) ds
theorem owed_purse {n : Nat} {ds : List Due} (hd : ∀ d ∈ ds, DueOk (n : Int) d ∧ d.a ≤ 1000000000000) (hl : ds.length ≤ 64) : PurseOk (vec n fun m => sumI (vec 3 (rankF ds m))) := fun p hp => by
  obtain ⟨m, _, rfl⟩ := List.mem_map.mp hp
  have h1 := owes_bnd (m := m) ds fun d h => ⟨(hd d h).1.2.2.2.2.2.2.2.1, (hd d h).2⟩
  rw [owes_ranks fun d h => ⟨(hd d h).1.2.2.2.2.2.1, (hd d h).1.2.2.2.2.2.2.1⟩] at h1
  have h2 := (sum3_bnd hd hl m).1
  exact ⟨h2, by omega⟩
noncomputable def LayP (H : Hp) (la : Addr) (N : Nat) (x : Int) (z : Nat) (qs : List Rat) : Prop := ∃ (ws : List V) (D : Nat), H la = some (.lst ws) ∧ IsQs H ws qs ∧ qs.length = N ∧ LayE qs D ∧ sz ((D : Nat) : Int) ≤ z ∧ InB x qs
theorem LayP.same {H H' : Hp} {la : Addr} {N z : Nat} {x : Int} {qs : List Rat} (h : LayP H la N x z qs) (e : Same H H') : LayP H' la N x z qs := by
  obtain ⟨ws, D, h1, h2, h3⟩ := h
  exact ⟨ws, D, e.at h1, h2.same e, h3⟩
noncomputable def ShP (H : Hp) (sh : Addr) (N : Nat) (ds : List Due) : Prop := ∃ xs : List V, H sh = some (.lst xs) ∧ IsTs dueV H xs ds ∧ (∀ d ∈ ds, DueOk (N : Int) d ∧ d.a ≤ 1000000000000) ∧ ds.length ≤ 64 ∧ sz ((allT ds : Nat) : Int) ≤ 750
theorem ShP.same {H H' : Hp} {sh : Addr} {N : Nat} {ds : List Due} (h : ShP H sh N ds) (e : Same H H') : ShP H' sh N ds := by
  obtain ⟨xs, h1, h2, h3⟩ := h
  exact ⟨xs, e.at h1, h2.same e, h3⟩
theorem ShP.sh {K : PySem.W.Frag} {H : Hp} {sh : Addr} {N : Nat} {ds : List Due} (h : ShP H sh N ds) : IsSh K H sh ds := by
  obtain ⟨xs, h1, h2, _⟩ := h
  exact ⟨xs, SqL.of h1, h2⟩
theorem ring_sz {n : Nat} {r A : Int} (n9 : n ≤ 9) (r0 : 0 ≤ r) (A0 : 0 ≤ A) (A1 : A ≤ 1000000000000) : sz ((allT (ringD n r A) : Nat) : Int) ≤ 750 := by
  refine allT_sz (pow_szT (z := 41) (c := 9) (n := 3) (by decide) (fun d hm => ?_) (by unfold ringD; rw [List.length_map, List.length_range]; exact n9) (by decide))
  obtain ⟨k, hk, rfl⟩ := ringD_mem hm
  unfold rkD
  show sz (rankF (ringD n r A) ((k : Int)).toNat r.toNat) ≤ 41
  rw [Int.toNat_natCast, ring_rank r0 hk, if_pos (by omega)]
  exact sz_nat A0 (Int.lt_of_le_of_lt A1 (by decide))
noncomputable def LayT (ds : List Due) (qs : List Rat) : Prop := ∀ m, m < qs.length → 0 ≤ qs.getD m 0 ∧ qs.getD m 0 ≤ owedQ ds m ∧ Dv 12 (qs.getD m 0)
theorem LayT.snoc {ds : List Due} {qs : List Rat} {q : Rat} (h : LayT ds qs) (h0 : 0 ≤ q) (h1 : q ≤ owedQ ds qs.length) (hv : Dv 12 q) : LayT ds (qs ++ [q]) := fun m hm => by
  rw [List.length_append] at hm
  have hm' : m < qs.length + 1 := hm
  rcases Nat.lt_or_eq_of_le (Nat.le_of_lt_succ hm') with g | g
  · rw [show (qs ++ [q]).getD m 0 = qs.getD m 0 by rw [List.getD_eq_getElem?_getD, List.getD_eq_getElem?_getD, List.getElem?_append_left g]]
    exact h m g
  · rw [g, show (qs ++ [q]).getD qs.length 0 = q by rw [List.getD_eq_getElem?_getD, List.getElem?_append_right (Nat.le_refl _), Nat.sub_self]; rfl]
    exact ⟨h0, h1, hv⟩
theorem LayT.lay {n : Int} {ds : List Due} {qs : List Rat} (h : LayT ds qs) (hd : ∀ d ∈ ds, DueOk n d ∧ d.a ≤ 1000000000000) (hl : ds.length ≤ 64) : LayE qs 12 ∧ InB 300000000000000 qs := by
  have key : ∀ q ∈ qs, 0 ≤ q ∧ q ≤ ((300000000000000 : Int) : Rat) ∧ Dv 12 q := fun q hq => by
    obtain ⟨i, hi, ei⟩ := List.getElem_of_mem hq
    have := h i hi
    rw [List.getD_eq_getElem?_getD, List.getElem?_eq_getElem hi, ei] at this
    refine ⟨this.1, Rat.le_trans this.2.1 (castR_le (sum3_bnd hd hl i).2), this.2.2⟩
  have c0 := castR_nn (i := 1000000000000000) (by decide)
  have c1 : ((300000000000000 : Int) : Rat) ≤ ((1000000000000000 : Int) : Rat) := castR_le (by decide)
  have c2 := castR_nn (i := 300000000000000) (by decide)
  exact ⟨⟨by decide, fun q hq => ⟨(key q hq).2.2, by have := (key q hq).1; grind, by have := (key q hq).2.1; grind⟩⟩, fun q hq => ⟨by have := (key q hq).1; grind, (key q hq).2.1⟩⟩
theorem whole_lay {n : Nat} {ds : List Due} (hd : ∀ d ∈ ds, DueOk (n : Int) d ∧ d.a ≤ 1000000000000) (hl : ds.length ≤ 64) : LayT ds ((List.range n).map (owedQ ds)) := fun m hm => by
  rw [List.length_map, List.length_range] at hm
  rw [getD_map hm]
  exact ⟨owed_nn (fun d h => (hd d h).1) m, Rat.le_refl, Dv.int _⟩
theorem rec_inb {n : Nat} {ds : List Due} {ps : List Int} (hd : ∀ d ∈ ds, DueOk n d ∧ d.a ≤ 1000000000000) (hl : ds.length ≤ 64) (hp : ∀ p ∈ ps, 0 ≤ p) : InB 300000000000000 (recQ ds ps n n) := fun q hq => by
  have h2 := rec_nn (fun d h => (hd d h).1) hp n q hq
  have h3 := rec_le hd hl n q hq
  have c2 := castR_nn (i := 300000000000000) (by decide)
  exact ⟨by grind, h3⟩
theorem InB.mono {x y : Int} {qs : List Rat} (h : InB x qs) (hxy : x ≤ y) : InB y qs := fun q hq => by
  have := h q hq
  have := castR_le hxy
  exact ⟨by grind, by grind⟩
theorem vec_getD {n i : Nat} {f : Nat → Int} (h : i < n) : (vec n f).getD i 0 = f i := by rw [List.getD_eq_getElem?_getD, vec_get h]; rfl
noncomputable abbrev spoilOk (q o v : Rat) : Prop := v ≠ q ∨ ¬ (0 ≤ q ∧ q ≤ o)
noncomputable def spSpoil (K : PySem.W.Frag) : Sp := fun vs H Q _ => ∃ (a y o : Addr) (ns : List Int) (ws : List V) (qs : List Rat) (os : List Int) (D : Nat) (x : Int), vs = [.ref a, .ref y, .ref o] ∧ SqL K H a (ns.map V.int) ∧ Light ns ∧ H y = some (.lst ws) ∧ IsQs H ws qs ∧ H o = some (.lst (os.map V.int)) ∧ os.length = qs.length ∧ 1 ≤ qs.length ∧ qs.length ≤ 9 ∧ (∀ x ∈ os, 0 ≤ x ∧ x ≤ 300000000000000) ∧ LayE qs D ∧ sz ((D : Nat) : Int) ≤ 900 ∧ InB x qs ∧ 0 ≤ x ∧ x ≤ 690000000000000 ∧ ∀ p H' us i v, H p = none → Same H H' → H' p = some (.lst us) → i < qs.length → IsQs H' us (qs.set i v) → spoilOk (qs.getD i 0) ((os.getD i 0 : Int) : Rat) v → LayE (qs.set i v) (D * 14000000098) → InB (x + 300000000000001) (qs.set i v) → Q (.ref p) H'
theorem spSpoil_i {K : PySem.W.Frag} {a y o : Addr} {ns : List Int} {ws : List V} {qs : List Rat} {os : List Int} {D : Nat} {x : Int} {H : Hp} {Q : VK} {E : XK} (hS : SqL K H a (ns.map V.int)) (hz : Light ns) (hy : H y = some (.lst ws)) (hq : IsQs H ws qs) (ho : H o = some (.lst (os.map V.int))) (hol : os.length = qs.length) (q1 : 1 ≤ qs.length) (q9 : qs.length ≤ 9) (hob : ∀ x ∈ os, 0 ≤ x ∧ x ≤ 300000000000000) (hL : LayE qs D) (hD : sz ((D : Nat) : Int) ≤ 900) (hB : InB x qs) (x0 : 0 ≤ x) (x1 : x ≤ 690000000000000) (k : ∀ p H' us i v, H p = none → Same H H' → H' p = some (.lst us) → i < qs.length → IsQs H' us (qs.set i v) → spoilOk (qs.getD i 0) ((os.getD i 0 : Int) : Rat) v → LayE (qs.set i v) (D * 14000000098) → InB (x + 300000000000001) (qs.set i v) → Q (.ref p) H') : spSpoil K [.ref a, .ref y, .ref o] H Q E := ⟨a, y, o, ns, ws, qs, os, D, x, rfl, hS, hz, hy, hq, ho, hol, q1, q9, hob, hL, hD, hB, x0, x1, k⟩
noncomputable def spDLay (K : PySem.W.Frag) : Sp := fun vs H Q _ => ∃ (a : Addr) (ns : List Int) (k o : Int), vs = [.ref a, .int k, .int o] ∧ SqL K H a (ns.map V.int) ∧ Light ns ∧ 0 ≤ k ∧ k ≤ 60 ∧ 0 ≤ o ∧ o ≤ 300000000000000 ∧ ∀ p H' q, Same H H' → IsQ H' p q → 0 ≤ q → q ≤ ((o : Int) : Rat) → Dv 12 q → Q (.ref p) H'
theorem spDLay_i {K : PySem.W.Frag} {a : Addr} {ns : List Int} {k o : Int} {H : Hp} {Q : VK} {E : XK} (hS : SqL K H a (ns.map V.int)) (hz : Light ns) (k0 : 0 ≤ k) (k1 : k ≤ 60) (o0 : 0 ≤ o) (o1 : o ≤ 300000000000000) (q : ∀ p H' q, Same H H' → IsQ H' p q → 0 ≤ q → q ≤ ((o : Int) : Rat) → Dv 12 q → Q (.ref p) H') : spDLay K [.ref a, .int k, .int o] H Q E := ⟨a, ns, k, o, rfl, hS, hz, k0, k1, o0, o1, q⟩
theorem twelfth {o t : Int} (o0 : 0 ≤ o) (t0 : 0 ≤ t) (t1 : t ≤ 12) : ∃ q : Rat, ((o * t : Int) : Rat) = q * ((12 : Int) : Rat) ∧ 0 ≤ q ∧ q ≤ ((o : Int) : Rat) ∧ Dv 12 q := by
  refine ⟨((o * t : Int) : Rat) / ((12 : Int) : Rat), ?_, ?_, ?_, o * t, ?_⟩
  · rw [Rat.div_def, Rat.mul_assoc, Rat.inv_mul_cancel _ (by decide)]; grind
  · rw [Rat.div_def]
    exact Rat.mul_nonneg (castR_nn (Int.mul_nonneg o0 t0)) (Rat.le_of_lt (Rat.inv_pos.mpr (by decide)))
  · have h1 : ((o * t : Int) : Rat) ≤ ((o * 12 : Int) : Rat) := castR_le (Int.mul_le_mul_of_nonneg_left t1 o0)
    have h2 := Rat.mul_le_mul_of_nonneg_right h1 (show (0 : Rat) ≤ (((12 : Int) : Rat))⁻¹ from Rat.le_of_lt (Rat.inv_pos.mpr (by decide)))
    rw [Rat.div_def]
    refine Rat.le_trans h2 ?_
    rw [Rat.intCast_mul, Rat.mul_assoc, Rat.mul_inv_cancel _ (by decide)]
    have : ((o : Int) : Rat) * 1 = ((o : Int) : Rat) := by grind
    rw [this]; exact Rat.le_refl
  · show _ * (((12 : Nat) : Int) : Rat) = _
    rw [show (((12 : Nat) : Int) : Rat) = ((12 : Int) : Rat) from rfl, Rat.div_def, Rat.mul_assoc, Rat.inv_mul_cancel _ (by decide)]; grind
noncomputable def twQ (o t : Int) : Rat := ((o * t : Int) : Rat) / ((12 : Int) : Rat)
theorem tw_ok {o t : Int} (o0 : 0 ≤ o) (t0 : 0 ≤ t) (t1 : t ≤ 12) : ((o * t : Int) : Rat) = twQ o t * ((12 : Int) : Rat) ∧ 0 ≤ twQ o t ∧ twQ o t ≤ ((o : Int) : Rat) ∧ Dv 12 (twQ o t) := by
  obtain ⟨q, h1, h2, h3, h4⟩ := twelfth o0 t0 t1
  have e : twQ o t = q := by
    unfold twQ
    rw [h1, Rat.div_def, Rat.mul_assoc, Rat.mul_inv_cancel _ (by decide)]; grind
  rw [e]; exact ⟨h1, h2, h3, h4⟩
noncomputable def spTold34 (K : PySem.W.Frag) : Sp := fun vs H Q _ => ∃ (a u y : Addr) (b : Bool) (ds : List Due) (ps : List Int) (ws : List V) (qs : List Rat), vs = [.ref a, .ref u, .ref y, .bl b] ∧ IsSh K H a ds ∧ H u = some (.lst (ps.map V.int)) ∧ H y = some (.lst ws) ∧ IsQs H ws qs ∧ (∀ d ∈ ds, DueOk qs.length d ∧ d.a ≤ 1000000000000) ∧ ds.length ≤ 64 ∧ qs.length ≤ 9 ∧ ps.length = qs.length ∧ PurseOk ps ∧ (∀ q ∈ qs, SzQ q 60000 60000) ∧ (InLays ds qs → DeepG ds qs) ∧ (b = true ↔ IsClr ds ps qs) ∧ ∀ H', Same H H' → Q (.bl true) H'
theorem spTold34_i {K : PySem.W.Frag} {a u y : Addr} {b : Bool} {ds : List Due} {ps : List Int} {ws : List V} {qs : List Rat} {H : Hp} {Q : VK} {E : XK} (h : IsSh K H a ds) (hu : H u = some (.lst (ps.map V.int))) (hy : H y = some (.lst ws)) (hq : IsQs H ws qs) (hd : ∀ d ∈ ds, DueOk qs.length d ∧ d.a ≤ 1000000000000) (hl : ds.length ≤ 64) (h9 : qs.length ≤ 9) (hpl : ps.length = qs.length) (hp : PurseOk ps) (hs : ∀ q ∈ qs, SzQ q 60000 60000) (hg : InLays ds qs → DeepG ds qs) (hb : b = true ↔ IsClr ds ps qs) (k : ∀ H', Same H H' → Q (.bl true) H') : spTold34 K [.ref a, .ref u, .ref y, .bl b] H Q E := ⟨a, u, y, b, ds, ps, ws, qs, rfl, h, hu, hy, hq, hd, hl, h9, hpl, hp, hs, hg, hb, k⟩
theorem LayE.set {qs : List Rat} {D c i : Nat} {v : Rat} (h : LayE qs D) (hc : 0 < c) (hv : Dv (D * c) v) (h1 : -((1000000000000000 : Int) : Rat) ≤ v) (h2 : v ≤ ((1000000000000000 : Int) : Rat)) : LayE (qs.set i v) (D * c) := by
  refine ⟨Nat.mul_pos h.pos hc, fun q hq => ?_⟩
  rcases List.mem_or_eq_of_mem_set hq with z | z
  · obtain ⟨a1, a2, a3⟩ := h.lay q z
    exact ⟨a1.dvd (Nat.dvd_mul_right _ _), a2, a3⟩
  · rw [z]; exact ⟨hv, h1, h2⟩
theorem LayE.turn {qs : List Rat} {D : Nat} (h : LayE qs D) : LayE (qs.map fun q => -q) D := ⟨h.pos, fun q hq => by
  obtain ⟨r, hr, rfl⟩ := List.mem_map.mp hq
  obtain ⟨a1, a2, a3⟩ := h.lay r hr
  exact ⟨a1.neg', by grind, by grind⟩⟩
theorem IsQs.putQ {H : Hp} {p : Addr} {q : Rat} (hp : IsQ H p q) : ∀ {vs : List V} {qs : List Rat} (j : Nat), IsQs H vs qs → IsQs H (vs.set j (.ref p)) (qs.set j q)
  | [], [], j, h => by cases j <;> exact h
  | _ :: _, [], _, h => by simp [IsQs] at h
  | [], _ :: _, _, h => by simp [IsQs] at h
  | _ :: _, _ :: _, 0, h => ⟨⟨p, rfl, hp⟩, h.2⟩
  | _ :: _, _ :: _, j + 1, h => ⟨h.1, IsQs.putQ hp j h.2⟩
theorem moved {q : Rat} {far s : Int} (hf : 0 < far) : ((q.num * far + s * (q.den : Int) : Int) : Rat) = (q + ((s : Int) : Rat) / ((far : Int) : Rat)) * (((q.den : Int) * far : Int) : Rat) := by
  have h := num_eq q
  have hp := castR_pos hf
  rw [Rat.intCast_add, Rat.intCast_mul, Rat.intCast_mul, Rat.intCast_mul, h, Rat.div_def]
  have : (((far : Int) : Rat))⁻¹ * ((far : Int) : Rat) = 1 := Rat.inv_mul_cancel _ (by grind)
  grind
theorem half_rat (o : Int) : ∃ v : Rat, v.num = o * 2 + 1 ∧ v.den = 2 := by
  have h : Nat.Coprime (o * 2 + 1).natAbs 2 := by
    show Nat.gcd _ 2 = 1
    rw [Nat.gcd_comm, Nat.gcd_rec, show (o * 2 + 1).natAbs % 2 = 1 by omega]
    decide
  exact ⟨⟨o * 2 + 1, 2, by decide, h⟩, rfl, rfl⟩
set_option genInjectivity false in
set_option genSizeOf false in
structure SpoilV (q o : Rat) (v : Rat) : Prop where
  ne : spoilOk q o v
  dv : ∀ D, Dv D q → Dv (D * 14000000098) v
  lo : q - 1 ≤ v ∨ (v = -1) ∨ o ≤ v
  hi : v ≤ q + 1 ∨ (v = -1) ∨ v ≤ o + 1
theorem dv_part {far : Int} {D : Nat} (h : far = 7 ∨ far = 1000000007) (s : Int) : Dv (D * 14000000098) (((s : Int) : Rat) / ((far : Int) : Rat)) := by
  have h1 : Dv 14000000098 (((s : Int) : Rat) / ((far : Int) : Rat)) := by
    rcases h with rfl | rfl
    · refine ⟨s * 2000000014, ?_⟩
      rw [show (((14000000098 : Nat) : Int) : Rat) = ((7 : Int) : Rat) * ((2000000014 : Int) : Rat) by rw [← Rat.intCast_mul]; rfl, Rat.div_def, Rat.intCast_mul]
      have : (((7 : Int) : Rat))⁻¹ * ((7 : Int) : Rat) = 1 := Rat.inv_mul_cancel _ (by decide)
      grind
    · refine ⟨s * 14, ?_⟩
      rw [show (((14000000098 : Nat) : Int) : Rat) = ((1000000007 : Int) : Rat) * ((14 : Int) : Rat) by rw [← Rat.intCast_mul]; rfl, Rat.div_def, Rat.intCast_mul]
      have : (((1000000007 : Int) : Rat))⁻¹ * ((1000000007 : Int) : Rat) = 1 := Rat.inv_mul_cancel _ (by decide)
      grind
  exact h1.dvd (Nat.dvd_mul_left _ _)
theorem spoil_by {q o : Rat} {far s : Int} (h : far = 7 ∨ far = 1000000007) (hs : s = 1 ∨ s = -1) : SpoilV q o (q + ((s : Int) : Rat) / ((far : Int) : Rat)) := by
  have hp : (0 : Rat) < ((far : Int) : Rat) := castR_pos (by omega)
  have hi := Rat.inv_pos.mpr hp
  have h1 : (((far : Int) : Rat))⁻¹ ≤ 1 := by
    have hm : (((far : Int) : Rat))⁻¹ * ((far : Int) : Rat) = 1 := Rat.inv_mul_cancel _ (by grind)
    have h7 : (1 : Rat) ≤ ((far : Int) : Rat) := castR_le (i := 1) (by omega)
    have := Rat.mul_le_mul_of_nonneg_left h7 (Rat.le_of_lt hi)
    grind
  have e : ((s : Int) : Rat) / ((far : Int) : Rat) = (((far : Int) : Rat))⁻¹ ∨ ((s : Int) : Rat) / ((far : Int) : Rat) = -(((far : Int) : Rat))⁻¹ := by
    rcases hs with rfl | rfl
    · left; rw [Rat.div_def, show ((1 : Int) : Rat) = 1 from rfl]; grind
    · right; rw [Rat.div_def, show ((-1 : Int) : Rat) = -1 from rfl]; grind
  refine ⟨.inl ?_, fun D hD => (hD.dvd (Nat.dvd_mul_right _ _)).add (dv_part h s), .inl ?_, .inl ?_⟩
  · rcases e with e | e <;> rw [e] <;> grind
  · rcases e with e | e <;> rw [e] <;> grind
  · rcases e with e | e <;> rw [e] <;> grind
theorem spoil_neg {q o : Rat} : SpoilV q o (-1) := by
  refine ⟨?_, fun D _ => ?_, .inr (.inl rfl), .inr (.inl rfl)⟩
  · by_cases h : 0 ≤ q
    · left; grind
    · right; grind
  · exact Dv.int (-1)
theorem spoil_half {q : Rat} {o : Int} {v : Rat} (h : v * ((2 : Int) : Rat) = ((o * 2 + 1 : Int) : Rat)) : SpoilV q ((o : Int) : Rat) v := by
  rw [Rat.intCast_add, Rat.intCast_mul, show ((1 : Int) : Rat) = 1 from rfl, show ((2 : Int) : Rat) = 2 from rfl] at h
  refine ⟨?_, fun D _ => ?_, .inr (.inr (by grind)), .inr (.inr (by grind))⟩
  · by_cases g : q ≤ ((o : Int) : Rat)
    · left; grind
    · right; grind
  · have : Dv 14000000098 v := ⟨(o * 2 + 1) * 7000000049, by
      rw [show (((14000000098 : Nat) : Int) : Rat) = 2 * ((7000000049 : Int) : Rat) by rw [show (2 : Rat) = ((2 : Int) : Rat) from rfl, ← Rat.intCast_mul]; rfl, Rat.intCast_mul, Rat.intCast_add, Rat.intCast_mul, show ((1 : Int) : Rat) = 1 from rfl, show ((2 : Int) : Rat) = 2 from rfl]
      grind⟩
    exact this.dvd (Nat.dvd_mul_left _ _)
theorem SpoilV.lay {qs : List Rat} {D i : Nat} {v : Rat} {o x : Int} (hv : SpoilV (qs.getD i 0) ((o : Int) : Rat) v) (hi : i < qs.length) (hL : LayE qs D) (hB : InB x qs) (x0 : 0 ≤ x) (x1 : x ≤ 690000000000000) (o0 : 0 ≤ o) (o1 : o ≤ 300000000000000) : LayE (qs.set i v) (D * 14000000098) ∧ InB (x + 300000000000001) (qs.set i v) := by
  have hm : qs.getD i 0 ∈ qs := by
    obtain ⟨q, hq⟩ := lt_some hi
    rw [List.getD_eq_getElem?_getD, hq]; exact List.mem_of_getElem? hq
  have b := hB _ hm
  have X0 := castR_nn x0
  have X1 := castR_le x1
  have O0 := castR_nn o0
  have O1 := castR_le o1
  have ex : ((x + 300000000000001 : Int) : Rat) = ((x : Int) : Rat) + ((300000000000001 : Int) : Rat) := Rat.intCast_add _ _
  have c1 : ((300000000000001 : Int) : Rat) = ((300000000000000 : Int) : Rat) + 1 := by rw [show (1 : Rat) = ((1 : Int) : Rat) from rfl, ← Rat.intCast_add]; rfl
  have c2 : ((1000000000000000 : Int) : Rat) = ((690000000000000 : Int) : Rat) + ((300000000000001 : Int) : Rat) + ((9999999999999 : Int) : Rat) := by rw [← Rat.intCast_add, ← Rat.intCast_add]; rfl
  have c3 := castR_nn (i := 9999999999999) (by decide)
  have lo : -((x + 300000000000001 : Int) : Rat) ≤ v := by
    rw [ex]
    rcases hv.lo with h | h | h <;> grind
  have up : v ≤ ((x + 300000000000001 : Int) : Rat) := by
    rw [ex]
    rcases hv.hi with h | h | h <;> grind
  refine ⟨hL.set (by decide) (hv.dv D (hL.lay _ hm).1) (by rw [ex] at lo; grind) (by rw [ex] at up; grind), fun q hq => ?_⟩
  rcases List.mem_or_eq_of_mem_set hq with z | z
  · have := hB q z
    rw [ex]
    have c4 := castR_nn (i := 300000000000001) (by decide)
    exact ⟨by grind, by grind⟩
  · rw [z]; exact ⟨lo, up⟩
end Internal

set_option Elab.async false
set_option linter.all false
set_option maxRecDepth 100000
set_option maxHeartbeats 4000000
namespace Internal.K
open PySem Internal
local macro_rules | `(tactic| walk_at "z") => `(tactic| first
  | assumption
  | exact sz200 (by omega) (by omega)
  | ((with_reducible apply sz_mul); (focus walk_at "z"); walk_at "z")
  | exact szL (by decide) (by omega) (by omega)
  | ((with_reducible apply Nat.le_trans (m := _)); (focus assumption); omega))
local macro_rules | `(tactic| walk_at "h") => `(tactic| first
  | assumption
  | (with_reducible exact Same.refl _)
  | ((with_reducible apply Same.isQ); (focus assumption); walk_at "h")
  | ((with_reducible apply LBut.isQ); (focus assumption); walk_at "h")
  | ((with_reducible apply IsQs.same); (focus assumption); walk_at "h")
  | ((with_reducible apply LBut.isQs); (focus assumption); walk_at "h")
  | ((with_reducible apply Same.at); (focus assumption); walk_at "h")
  | ((with_reducible apply LBut.tup); (focus assumption); walk_at "h")
  | ((with_reducible apply LBut.lst); (focus assumption); (focus walk_at "h"); walk_at "h")
  | ((with_reducible apply SqL.keep); (focus (show SqL _ _ _ _; assumption)); walk_at "h")
  | ((with_reducible apply SqL.of); walk_at "h")
  | ((with_reducible apply Same.after); (focus assumption); walk_at "h")
  | ((with_reducible apply LBut.same); (focus assumption); (focus walk_at "h"); walk_at "h")
  | ((with_reducible apply Same.none); (focus assumption); walk_at "h")
  | ((with_reducible apply Same.isTs); (focus assumption); walk_at "h")
  | ((with_reducible apply LBut.isTs); (focus assumption); walk_at "h")
  | ((with_reducible apply Same.isSh); (focus assumption); walk_at "h")
  | ((with_reducible apply ne_new'); (focus assumption); walk_at "h"))
local macro_rules | `(tactic| walk_at "x1") => `(tactic| first
  | ((with_reducible apply x_var); (focus (exact rfl)))
  | (with_reducible (first
      | apply x_bl
      | apply x_truB
      | apply x_eqI
      | apply x_neI
      | apply x_eqB
      | apply x_add
      | apply x_i0
      | apply x_neg
      | apply x_call
      | apply x_abs
      | apply x_max
      | apply x_min
      | apply x_andV
      | apply x_notU
      | apply x_iteT
      | apply x_iteF
      | apply x_iteNT
      | apply x_iteNF))
  | (with_reducible refine x_iteY (by assumption) ?_)
  | (with_reducible refine x_iteZ (by assumption) ?_)
  | (with_reducible refine x_ite (fun _ => ?_) (fun _ => ?_))
  | (with_reducible refine x_iteN (fun _ => ?_) (fun _ => ?_))
  | (with_reducible refine x_iteB (fun _ => ?_) (fun _ => ?_))
  | (with_reducible refine x_iteP (fun _ => ?_) (fun _ => ?_))
  | (with_reducible (first
      | apply x_tup
      | apply x_lst))
  | ((with_reducible show rIx _ (V.ref _) (V.int _) _ _); first
      | refine x_ixTs (by assumption) (by rfl) ?_
      | refine x_ixVec (by assumption) (by omega) (by omega) ?_
      | refine x_ixRow (by assumption) (by omega) (by assumption) ?_
      | refine x_ixTs (by walk_at "h") (by rfl) ?_
      | refine x_ixVec (by walk_at "h") (by omega) (by omega) ?_
      | refine x_ixLs (by walk_at "h") (by assumption) ?_
      | refine x_ixL (by walk_at "h") (by assumption) ?_
      | refine x_ixLs (by walk_at "h") (by rfl) ?_)
  | ((with_reducible show rIsiU _ [V.int _, _] _ _); refine x_isU ?_)
  | ((with_reducible show rIsiU _ [V.bl _, _] _ _); refine x_isU ?_)
  | (with_reducible refine x_isBB ?_)
  | ((with_reducible show rIsiU _ [V.ref _, V.ty "tuple"] _ _); refine x_isU ?_; first | refine IsQ.isT (by walk_at "h") ?_ | refine x_isTT (by walk_at "h") ?_ | refine x_isLT (by walk_at "h") ?_)
  | ((with_reducible show rIsiU _ [V.ref _, V.ty "list"] _ _); refine x_isU ?_; first | refine x_isLL (by walk_at "h") ?_ | refine x_isTL (by walk_at "h") ?_)
  | ((with_reducible show rTup _ [] _); refine x_tupN (by first | decide | simp) (fun _ _ _ _ _ => ?_))
  | ((with_reducible show rTup _ [_] _); refine x_tupN (by first | decide | simp) (fun _ _ _ _ _ => ?_))
  | ((with_reducible show rTup _ (_ :: _ :: _ :: _) _); refine x_tupN (by first | decide | simp) (fun _ _ _ _ _ => ?_))
  | ((with_reducible show rLen _ [V.ref _] _ _); first | refine IsQ.len (by walk_at "h") ?_ | refine x_lenL (by walk_at "h") ?_ | refine x_lenT' (by walk_at "h") ?_)
  | (with_reducible refine spDiv_i ?_)
  | ((with_reducible show spCell _ _ _ _ _); refine spCell_i (by walk_at "h") (by first | decide | omega) ?_)
  | ((with_reducible show spPlus _ _ _ _); refine spPlus_i (by walk_at "h") (by walk_at "h") (by walk_at "h") (by walk_at "h") ?_)
  | ((with_reducible show spMinus _ _ _ _); refine spMinus_i (by walk_at "h") (by walk_at "h") (by walk_at "h") (by walk_at "h") ?_)
  | ((with_reducible show spTimes _ _ _ _); refine spTimes_i (by walk_at "h") (by walk_at "h") (by walk_at "h") (by walk_at "h") ?_)
  | (with_reducible (first
      | apply x_for
      | apply x_comp
      | apply x_augS
      | apply x_ip
      | apply x_gNil
      | apply x_gCons))
  | ((with_reducible show gTup _ _ _ (V.ref _) _ _ _); refine x_gTup (by assumption) rfl ?_)
  | ((with_reducible show rIxL _ (V.ref _) (V.int _) _ _); first
      | refine x_getVec (by walk_at "h") (by omega) (by omega) ?_
      | refine x_getL (by walk_at "h") (by assumption) ?_)
  | ((with_reducible show rSetL (V.ref _) (V.int _) (V.int _) _ _); refine x_setVec (by walk_at "h") (by omega) (by omega) (fun _ _ _ => ?_))
  | ((with_reducible show rMulU (V.ref _) (V.int _) _ _); first | refine x_repVec (by walk_at "h") (by omega) (by omega) (fun _ _ _ _ _ => ?_) | refine x_repOpt (by walk_at "h") (by omega) (by omega) (fun _ _ _ _ _ => ?_) | refine x_repBl (by walk_at "h") (by omega) (by omega) (fun _ _ _ _ _ => ?_))
  | ((with_reducible show spDrawP _ _ _ _ _); refine spDrawP_i (by walk_at "h") (by assumption) (by omega) (by omega) (by omega) (by omega) (fun _ _ _ _ => ?_))
  | ((with_reducible show spGreatP _ _ _ _ _); refine spGreatP_i (by walk_at "h") (by assumption) (by omega) (by omega) (by omega) (fun _ _ _ => ?_))
  | ((with_reducible show spManyP _ _ _ _ _); refine spManyP_i (by walk_at "h") (by assumption) (fun _ _ _ => ?_))
  | ((with_reducible show spCountP _ _ _ _ _); refine spCountP_i (by walk_at "h") (by assumption) (by omega) (by omega) (fun _ _ _ _ => ?_))
  | ((with_reducible show spSumsP _ _ _ _ _); refine spSumsP_i (by walk_at "h") (by omega) (by omega) (by assumption) (fun _ _ _ _ _ _ _ _ _ => ?_))
  | ((with_reducible show spDivP _ _ _ _); refine spDivP_i (by omega) (by omega) ?_)
  | ((with_reducible show rAllL _ _ _ _); refine x_allL (by walk_at "h") ?_)
  | ((with_reducible show spOver0 _ _ _ _); refine spOver0_i (by walk_at "h") (by walk_at "h") (by assumption) (by assumption) (by assumption) ?_)
  | ((with_reducible show spSharesV _ _ _ _ _); refine spSharesV_i (by walk_at "h") (by assumption) (by walk_at "h") (by assumption) (fun _ _ _ _ _ _ _ => ?_))
  | ((with_reducible show spPaidV _ _ _ _ _); refine spPaidV_i (by walk_at "h") (by walk_at "h") (by walk_at "h") (by assumption) (by omega) (by omega) (by assumption) (fun _ _ _ _ _ _ _ => ?_))
  | ((with_reducible show spGotV _ _ _ _ _); refine spGotV_i (by walk_at "h") (by walk_at "h") (by walk_at "h") (by assumption) (by omega) (by omega) (by assumption) (fun _ _ _ _ _ _ _ => ?_))
  | ((with_reducible show spNextV _ _ _ _ _); refine spNextV_i (by walk_at "h") (by walk_at "h") (by walk_at "h") (by walk_at "h") (by assumption) (by omega) (by omega) (by omega) (by assumption) (by assumption) (fun _ _ _ _ _ _ _ => ?_))
  | ((with_reducible show spPurseP _ _ _ _ _); refine spPurseP_i (by walk_at "h") (by assumption) (by omega) (by omega) (by omega) (by omega) (fun _ _ _ => ?_))
  | ((with_reducible show spPursesP _ _ _ _ _); refine spPursesP_i (by walk_at "h") (by assumption) (by omega) (by omega) (by omega) (by omega) (fun _ _ _ _ _ _ _ _ => ?_))
  | ((with_reducible show spMostH _ _ _ _ _); refine spMostH_i (by walk_at "h") (by assumption) (fun _ _ _ _ => ?_))
  | ((with_reducible show spAmountG _ _ _ _ _); refine spAmountG_i (by walk_at "h") (by assumption) (by omega) (by omega) (by omega) (by omega) (fun _ _ _ _ => ?_))
  | ((with_reducible show spDueG _ _ _ _ _); refine spDueG_i (by walk_at "h") (by assumption) (by omega) (by omega) (by omega) (by omega) (by omega) (by omega) (fun _ _ _ _ _ _ _ _ _ => ?_))
  | ((with_reducible show spSheetG _ _ _ _ _); refine spSheetG_i (by walk_at "h") (by assumption) (by omega) (by omega) (by omega) (by omega) (by assumption) (by omega) (by omega) (fun _ _ _ _ _ _ _ _ _ _ _ => ?_))
  | ((with_reducible show spTotal _ _ _ _ _); refine spTotal_i (by walk_at "h") (by walk_at "h") (by assumption) (by assumption) ?_)
  | ((with_reducible show rSum _ [V.ref _] _ _); refine x_sum (by walk_at "h") ?_)
  | ((with_reducible show rRng1 _ [V.int _] _); refine x_rngk1 (by omega) (by omega) ?_)
  | ((with_reducible show rItL _ _ (V.ref _) _); refine x_itk (by walk_at "h") ?_)
  | ((with_reducible show rEnum _ _ [V.ref _] _); refine x_enumk (by walk_at "h") ?_)
  | ((with_reducible show spOwes _ _ _ _ _); refine spOwes_i (by walk_at "h") (by omega) (by omega) (by assumption) (fun _ _ _ _ _ => ?_))
  | ((with_reducible show spRanked _ _ _ _ _); refine spRanked_i (by walk_at "h") (by omega) (by omega) (by assumption) (fun _ _ _ _ _ _ _ _ _ => ?_))
  | ((with_reducible show CompK (Itr _ _) _ _ tYes (tC (V.int _)) _ _ _); refine x_comp0 rfl (by omega) (fun _ _ _ _ _ => ?_))
  | ((with_reducible show rNeU _ (V.ref _) (V.ref _) _ _); first | refine x_neInts (by walk_at "h") (by walk_at "h") rfl ?_ | refine x_neRows (by walk_at "h") (by walk_at "h") (by walk_at "h") (by walk_at "h") (by omega) (fun _ _ _ _ => rfl) ?_ | refine x_neSh (by walk_at "h") (by walk_at "h") rfl ?_ | refine x_neQs (by walk_at "h") (by walk_at "h") (by walk_at "h") (by walk_at "h") ?_)
  | (with_reducible (first
      | apply x_rng1
      | apply x_itL
      | apply x_bm
      | apply x_part
      | apply x_partI))
  | ((with_reducible show tyV _ "list" (V.ref _) _ ∧ _); refine x_tyL (by walk_at "h") ?_)
  | ((with_reducible show rAppend (V.ref _) [_] _ _); refine x_appN (by walk_at "h") (by omega) (fun _ _ _ => ?_))
  | ((with_reducible show NewQ _ _ _); intro _ _ _ _)
  | ((with_reducible show rLst _ _ _); refine x_lstN (by first | decide | simp) (fun _ _ _ _ _ => ?_))
  | ((with_reducible show rListOf _ _ _ _); refine x_listOfN (by walk_at "h") (fun _ _ _ _ _ => ?_))
  | ((with_reducible show rSlL _ _ _ _ _ _); refine x_cutN (by walk_at "h") (fun _ _ _ _ _ => ?_))
  | ((with_reducible show spUnder _ _ _ _ _); refine spUnder_i (by walk_at "h") (by walk_at "h") (by walk_at "h") (by walk_at "h") ?_)
  | ((with_reducible show spLeast _ _ _ _ _); refine spLeast_i (by walk_at "h") (by walk_at "h") (by walk_at "h") (by walk_at "h") ?_)
  | ((with_reducible show rModU _ _ _ _); refine x_mod (by first | decide | omega) ?_)
  | ((with_reducible show rMulU _ _ _ _); refine x_mul (by first | assumption | (apply CMulS.of; (focus walk_at "z"); (focus walk_at "z"); first | decide | omega)) ?_)
  | ((with_reducible show rDivU _ _ _ _); refine x_div (by first | walk_at "h" | decide) (by first | walk_at "h" | exact szL (by decide) (by decide) (by decide)) ?_)
  | ((with_reducible show rI CPow _ _ _ _ _); refine x_pow ⟨by decide, by decide, by decide⟩ rfl ?_; (try simp only [Int.reduceToNat, Int.reducePow]))
  | ((with_reducible show Ends.nx _ _ _); dsimp only [List.set, Ends.gone]))
local macro_rules | `(tactic| walk_at "x") => `(tactic| repeat' (walk_at "x1"))

noncomputable def top (i : Nat) : Stmt := PySem.Challenge.pw_quits_k34_is_a_clearing.main.body.getD i (.Pass ⟨0, 0, 0, 0⟩)
noncomputable abbrev s_divisor : Stmt := top 4
noncomputable abbrev s_plus : Stmt := top 6
noncomputable abbrev s_minus : Stmt := top 7
noncomputable abbrev s_times : Stmt := top 8
noncomputable abbrev s_over : Stmt := top 9
noncomputable abbrev s_under : Stmt := top 10
noncomputable abbrev s_least : Stmt := top 11
noncomputable abbrev s_total : Stmt := top 12
noncomputable abbrev s_owes : Stmt := top 14
noncomputable abbrev s_ranked : Stmt := top 15
noncomputable abbrev s_paid : Stmt := top 17
noncomputable abbrev s_shares_paid : Stmt := top 18
noncomputable abbrev s_got : Stmt := top 19
noncomputable abbrev s_is_clearing : Stmt := top 20
noncomputable abbrev s_are_lays : Stmt := top 21
noncomputable abbrev s_next_lays : Stmt := top 22
noncomputable abbrev s__law_cell : Stmt := top 24
noncomputable abbrev s__law_draw : Stmt := top 25
noncomputable abbrev s__law_great : Stmt := top 26
noncomputable abbrev s__law_many : Stmt := top 27
noncomputable abbrev s__law_count : Stmt := top 28
noncomputable abbrev s__law_most : Stmt := top 29
noncomputable abbrev s__law_amount : Stmt := top 30
noncomputable abbrev s__law_due : Stmt := top 31
noncomputable abbrev s__law_sheet : Stmt := top 32
noncomputable abbrev s__law_purse : Stmt := top 33
noncomputable abbrev s__law_purses : Stmt := top 34
noncomputable abbrev s__law_divisor : Stmt := top 35
noncomputable abbrev s__law_part : Stmt := top 36
noncomputable abbrev s__law_sums : Stmt := top 37
noncomputable abbrev s__law_got : Stmt := top 38
noncomputable abbrev s__law_next : Stmt := top 39
noncomputable abbrev s__law_same : Stmt := top 40
noncomputable abbrev s__law_forward : Stmt := top 41
noncomputable abbrev s__law_reckoned : Stmt := top 42
noncomputable abbrev s__law_spoilt : Stmt := top 43
noncomputable abbrev s__law_drawn_lay : Stmt := top 44
noncomputable abbrev s__law_told : Stmt := top 45
noncomputable abbrev s_law : Stmt := top 46
theorem sc_divisor : FnScope ["one", "other", "kept", "rest", "further"] ["one", "other"] (defScope s_divisor) := ⟨rfl, rfl, rfl, by decide +kernel, rfl, by decide +kernel, by decide +kernel⟩
theorem sc_plus : FnScope ["one", "other", "shared", "top", "common"] ["one", "other"] (defScope s_plus) := ⟨rfl, rfl, rfl, by decide +kernel, rfl, by decide +kernel, by decide +kernel⟩
theorem sc_minus : FnScope ["one", "other"] ["one", "other"] (defScope s_minus) := ⟨rfl, rfl, rfl, by decide +kernel, rfl, by decide +kernel, by decide +kernel⟩
theorem sc_times : FnScope ["one", "other", "down", "across", "top", "bottom"] ["one", "other"] (defScope s_times) := ⟨rfl, rfl, rfl, by decide +kernel, rfl, by decide +kernel, by decide +kernel⟩
theorem sc_over : FnScope ["one", "other"] ["one", "other"] (defScope s_over) := ⟨rfl, rfl, rfl, by decide +kernel, rfl, by decide +kernel, by decide +kernel⟩
theorem sc_under : FnScope ["one", "other"] ["one", "other"] (defScope s_under) := ⟨rfl, rfl, rfl, by decide +kernel, rfl, by decide +kernel, by decide +kernel⟩
theorem sc_least : FnScope ["one", "other"] ["one", "other"] (defScope s_least) := ⟨rfl, rfl, rfl, by decide +kernel, rfl, by decide +kernel, by decide +kernel⟩
theorem sc_total : FnScope ["some", "added", "each"] ["some"] (defScope s_total) := ⟨rfl, rfl, rfl, by decide +kernel, rfl, by decide +kernel, by decide +kernel⟩
theorem sc_owes : FnScope ["many", "sheet", "sums", "payer", "payee", "rank", "amount"] ["many", "sheet"] (defScope s_owes) := ⟨rfl, rfl, rfl, by decide +kernel, rfl, by decide +kernel, by decide +kernel⟩
theorem sc_ranked : FnScope ["many", "sheet", "sums", "payer", "payee", "rank", "amount"] ["many", "sheet"] (defScope s_ranked) := ⟨rfl, rfl, rfl, by decide +kernel, rfl, by decide +kernel, by decide +kernel⟩
theorem sc_paid : FnScope ["sheet", "lays", "owed", "shares"] ["sheet", "lays"] (defScope s_paid) := ⟨rfl, rfl, rfl, by decide +kernel, rfl, by decide +kernel, by decide +kernel⟩
theorem sc_shares_paid : FnScope ["owed", "lay", "shares", "rest", "here", "laid"] ["owed", "lay"] (defScope s_shares_paid) := ⟨rfl, rfl, rfl, by decide +kernel, rfl, by decide +kernel, by decide +kernel⟩
theorem sc_got : FnScope ["sheet", "lays", "gains", "number", "gain"] ["sheet", "lays"] (defScope s_got) := ⟨rfl, rfl, rfl, by decide +kernel, rfl, by decide +kernel, by decide +kernel⟩
theorem sc_is_clearing : FnScope ["sheet", "purses", "lays"] ["sheet", "purses", "lays"] (defScope s_is_clearing) := ⟨rfl, rfl, rfl, by decide +kernel, rfl, by decide +kernel, by decide +kernel⟩
theorem sc_are_lays : FnScope ["sheet", "lays", "owed"] ["sheet", "lays"] (defScope s_are_lays) := ⟨rfl, rfl, rfl, by decide +kernel, rfl, by decide +kernel, by decide +kernel⟩
theorem sc_next_lays : FnScope ["sheet", "purses", "lays", "owed", "gains"] ["sheet", "purses", "lays"] (defScope s_next_lays) := ⟨rfl, rfl, rfl, by decide +kernel, rfl, by decide +kernel, by decide +kernel⟩
theorem sc__law_cell : FnScope ["_law_script", "_law_k"] ["_law_script", "_law_k"] (defScope s__law_cell) := ⟨rfl, rfl, rfl, by decide +kernel, rfl, by decide +kernel, by decide +kernel⟩
theorem sc__law_draw : FnScope ["_law_script", "_law_k", "_law_prime", "_law_many_here"] ["_law_script", "_law_k", "_law_prime", "_law_many_here"] (defScope s__law_draw) := ⟨rfl, rfl, rfl, by decide +kernel, rfl, by decide +kernel, by decide +kernel⟩
theorem sc__law_great : FnScope ["_law_script", "_law_k", "_law_most_here", "_law_mixed"] ["_law_script", "_law_k", "_law_most_here"] (defScope s__law_great) := ⟨rfl, rfl, rfl, by decide +kernel, rfl, by decide +kernel, by decide +kernel⟩
theorem sc__law_many : FnScope ["_law_script", "_law_way"] ["_law_script"] (defScope s__law_many) := ⟨rfl, rfl, rfl, by decide +kernel, rfl, by decide +kernel, by decide +kernel⟩
theorem sc__law_count : FnScope ["_law_script", "_law_many_here", "_law_way"] ["_law_script", "_law_many_here"] (defScope s__law_count) := ⟨rfl, rfl, rfl, by decide +kernel, rfl, by decide +kernel, by decide +kernel⟩
theorem sc__law_most : FnScope ["_law_script", "_law_many_here", "_law_count_here"] ["_law_script", "_law_many_here", "_law_count_here"] (defScope s__law_most) := ⟨rfl, rfl, rfl, by decide +kernel, rfl, by decide +kernel, by decide +kernel⟩
theorem sc__law_amount : FnScope ["_law_script", "_law_k", "_law_most_here", "_law_way"] ["_law_script", "_law_k", "_law_most_here"] (defScope s__law_amount) := ⟨rfl, rfl, rfl, by decide +kernel, rfl, by decide +kernel, by decide +kernel⟩
theorem sc__law_due : FnScope ["_law_script", "_law_k", "_law_many_here", "_law_most_here", "_law_shape", "_law_payer", "_law_payee", "_law_rank"] ["_law_script", "_law_k", "_law_many_here", "_law_most_here"] (defScope s__law_due) := ⟨rfl, rfl, rfl, by decide +kernel, rfl, by decide +kernel, by decide +kernel⟩
theorem sc__law_sheet : FnScope ["_law_script", "_law_many_here", "_law_count_here", "_law_most_here"] ["_law_script", "_law_many_here", "_law_count_here", "_law_most_here"] (defScope s__law_sheet) := ⟨rfl, rfl, rfl, by decide +kernel, rfl, by decide +kernel, by decide +kernel⟩
theorem sc__law_purse : FnScope ["_law_script", "_law_k", "_law_way", "_law_most_here", "_law_here"] ["_law_script", "_law_k", "_law_way", "_law_most_here"] (defScope s__law_purse) := ⟨rfl, rfl, rfl, by decide +kernel, rfl, by decide +kernel, by decide +kernel⟩
theorem sc__law_purses : FnScope ["_law_script", "_law_many_here", "_law_most_here", "_law_way"] ["_law_script", "_law_many_here", "_law_most_here"] (defScope s__law_purses) := ⟨rfl, rfl, rfl, by decide +kernel, rfl, by decide +kernel, by decide +kernel⟩
theorem sc__law_divisor : FnScope ["_law_one", "_law_other", "_law_rest"] ["_law_one", "_law_other"] (defScope s__law_divisor) := ⟨rfl, rfl, rfl, by decide +kernel, rfl, by decide +kernel, by decide +kernel⟩
theorem sc__law_part : FnScope ["_law_top", "_law_bottom", "_law_shared"] ["_law_top", "_law_bottom"] (defScope s__law_part) := ⟨rfl, rfl, rfl, by decide +kernel, rfl, by decide +kernel, by decide +kernel⟩
theorem sc__law_sums : FnScope ["_law_sheet_here", "_law_many_here", "_law_made", "_law_due_here"] ["_law_sheet_here", "_law_many_here"] (defScope s__law_sums) := ⟨rfl, rfl, rfl, by decide +kernel, rfl, by decide +kernel, by decide +kernel⟩
theorem sc__law_got : FnScope ["_law_sheet_here", "_law_lays", "_law_sums_here", "_law_made", "_law_due_here", "_law_lay", "_law_most_here", "_law_ahead", "_law_top", "_law_bottom", "_law_last"] ["_law_sheet_here", "_law_lays"] (defScope s__law_got) := ⟨rfl, rfl, rfl, by decide +kernel, rfl, by decide +kernel, by decide +kernel⟩
theorem sc__law_next : FnScope ["_law_sheet_here", "_law_purses_here", "_law_lays", "_law_sums_here", "_law_come", "_law_made", "_law_k", "_law_top"] ["_law_sheet_here", "_law_purses_here", "_law_lays"] (defScope s__law_next) := ⟨rfl, rfl, rfl, by decide +kernel, rfl, by decide +kernel, by decide +kernel⟩
theorem sc__law_same : FnScope ["_law_ones", "_law_others", "_law_k"] ["_law_ones", "_law_others"] (defScope s__law_same) := ⟨rfl, rfl, rfl, by decide +kernel, rfl, by decide +kernel, by decide +kernel⟩
theorem sc__law_forward : FnScope ["_law_sheet_here"] ["_law_sheet_here"] (defScope s__law_forward) := ⟨rfl, rfl, rfl, by decide +kernel, rfl, by decide +kernel, by decide +kernel⟩
theorem sc__law_reckoned : FnScope ["_law_sheet_here", "_law_purses_here", "_law_lays", "_law_k", "_law_here"] ["_law_sheet_here", "_law_purses_here"] (defScope s__law_reckoned) := ⟨rfl, rfl, rfl, by decide +kernel, rfl, by decide +kernel, by decide +kernel⟩
theorem sc__law_spoilt : FnScope ["_law_script", "_law_lays", "_law_owed", "_law_made", "_law_at", "_law_way", "_law_far"] ["_law_script", "_law_lays", "_law_owed"] (defScope s__law_spoilt) := ⟨rfl, rfl, rfl, by decide +kernel, rfl, by decide +kernel, by decide +kernel⟩
theorem sc__law_drawn_lay : FnScope ["_law_script", "_law_k", "_law_owed"] ["_law_script", "_law_k", "_law_owed"] (defScope s__law_drawn_lay) := ⟨rfl, rfl, rfl, by decide +kernel, rfl, by decide +kernel, by decide +kernel⟩
theorem sc__law_told : FnScope ["_law_sheet_here", "_law_purses_here", "_law_lays", "_law_due_here", "_law_handed", "_law_told_here"] ["_law_sheet_here", "_law_purses_here", "_law_lays", "_law_due_here"] (defScope s__law_told) := ⟨rfl, rfl, rfl, by decide +kernel, rfl, by decide +kernel, by decide +kernel⟩
theorem sc_law : FnScope ["_law_script", "_law_many_here", "_law_count_here", "_law_most_here", "_law_sheet_here", "_law_purses_here", "_law_way", "_law_amount_here", "_law_rank", "_law_owed", "_law_lays", "_law_due_here", "_law_spoilt_here", "_law_again", "_law_turned", "_law_below"] ["_law_script"] (defScope s_law) := ⟨rfl, rfl, rfl, by decide +kernel, rfl, by decide +kernel, by decide +kernel⟩
theorem lenZ {α : Type} {us : List α} (h : us.length = 0) : us = [] := List.eq_nil_of_length_eq_zero h
theorem lenS {α : Type} {us : List α} {n : Nat} (h : us.length = n + 1) : ∃ a vs, us = a :: vs ∧ vs.length = n := by
  cases us with
  | nil => cases h
  | cons a vs => exact ⟨a, vs, rfl, Nat.succ.inj h⟩
theorem len1 {α : Type} {us : List α} (h : us.length = 1) : ∃ a0, us = [a0] := by
  obtain ⟨a0, us0, rfl, h0⟩ := lenS h
  obtain rfl := lenZ h0
  exact ⟨a0, rfl⟩
theorem len2 {α : Type} {us : List α} (h : us.length = 2) : ∃ a0 a1, us = [a0, a1] := by
  obtain ⟨a0, us0, rfl, h0⟩ := lenS h
  obtain ⟨a1, us1, rfl, h1⟩ := lenS h0
  obtain rfl := lenZ h1
  exact ⟨a0, a1, rfl⟩
theorem len3 {α : Type} {us : List α} (h : us.length = 3) : ∃ a0 a1 a2, us = [a0, a1, a2] := by
  obtain ⟨a0, us0, rfl, h0⟩ := lenS h
  obtain ⟨a1, us1, rfl, h1⟩ := lenS h0
  obtain ⟨a2, us2, rfl, h2⟩ := lenS h1
  obtain rfl := lenZ h2
  exact ⟨a0, a1, a2, rfl⟩
theorem len4 {α : Type} {us : List α} (h : us.length = 4) : ∃ a0 a1 a2 a3, us = [a0, a1, a2, a3] := by
  obtain ⟨a0, us0, rfl, h0⟩ := lenS h
  obtain ⟨a1, us1, rfl, h1⟩ := lenS h0
  obtain ⟨a2, us2, rfl, h2⟩ := lenS h1
  obtain ⟨a3, us3, rfl, h3⟩ := lenS h2
  obtain rfl := lenZ h3
  exact ⟨a0, a1, a2, a3, rfl⟩
set_option genInjectivity false in
set_option genSizeOf false in
set_option genInjectivity false in
set_option genSizeOf false in
structure Dfn (K : PySem.W.Frag) (mg : Str → Option Value) (x qual : Str) (st : Stmt) (ps : List Str) where
  a : Addr
  fd : FuncData
  F : Fun K x qual st a fd
  b : Binds K fd ps []
  m : mg x = some (.ref a)
set_option genInjectivity false in
set_option genSizeOf false in
set_option genInjectivity false in
set_option genSizeOf false in
structure Txt (K : PySem.W.Frag) (mg : Str → Option Value) where
  c_NoPart : Addr
  m_NoPart : mg "NoPart" = some (.ref c_NoPart)
  e_NoPart : errOk K c_NoPart = true
  i_NoPart_NoPart : PySem.W.kitOne K (.ref c_NoPart) (.ref c_NoPart) = some true
  d_divisor : Dfn K mg "divisor" "divisor" s_divisor ["one", "other"]
  d_plus : Dfn K mg "plus" "plus" s_plus ["one", "other"]
  d_minus : Dfn K mg "minus" "minus" s_minus ["one", "other"]
  d_times : Dfn K mg "times" "times" s_times ["one", "other"]
  d_over : Dfn K mg "over" "over" s_over ["one", "other"]
  d_under : Dfn K mg "under" "under" s_under ["one", "other"]
  d_least : Dfn K mg "least" "least" s_least ["one", "other"]
  d_total : Dfn K mg "total" "total" s_total ["some"]
  d_owes : Dfn K mg "owes" "owes" s_owes ["many", "sheet"]
  d_ranked : Dfn K mg "ranked" "ranked" s_ranked ["many", "sheet"]
  d_paid : Dfn K mg "paid" "paid" s_paid ["sheet", "lays"]
  d_shares_paid : Dfn K mg "shares_paid" "shares_paid" s_shares_paid ["owed", "lay"]
  d_got : Dfn K mg "got" "got" s_got ["sheet", "lays"]
  d_is_clearing : Dfn K mg "is_clearing" "is_clearing" s_is_clearing ["sheet", "purses", "lays"]
  d_are_lays : Dfn K mg "are_lays" "are_lays" s_are_lays ["sheet", "lays"]
  d_next_lays : Dfn K mg "next_lays" "next_lays" s_next_lays ["sheet", "purses", "lays"]
  d__law_cell : Dfn K mg "_law_cell" "_law_cell" s__law_cell ["_law_script", "_law_k"]
  d__law_draw : Dfn K mg "_law_draw" "_law_draw" s__law_draw ["_law_script", "_law_k", "_law_prime", "_law_many_here"]
  d__law_great : Dfn K mg "_law_great" "_law_great" s__law_great ["_law_script", "_law_k", "_law_most_here"]
  d__law_many : Dfn K mg "_law_many" "_law_many" s__law_many ["_law_script"]
  d__law_count : Dfn K mg "_law_count" "_law_count" s__law_count ["_law_script", "_law_many_here"]
  d__law_most : Dfn K mg "_law_most" "_law_most" s__law_most ["_law_script", "_law_many_here", "_law_count_here"]
  d__law_amount : Dfn K mg "_law_amount" "_law_amount" s__law_amount ["_law_script", "_law_k", "_law_most_here"]
  d__law_due : Dfn K mg "_law_due" "_law_due" s__law_due ["_law_script", "_law_k", "_law_many_here", "_law_most_here"]
  d__law_sheet : Dfn K mg "_law_sheet" "_law_sheet" s__law_sheet ["_law_script", "_law_many_here", "_law_count_here", "_law_most_here"]
  d__law_purse : Dfn K mg "_law_purse" "_law_purse" s__law_purse ["_law_script", "_law_k", "_law_way", "_law_most_here"]
  d__law_purses : Dfn K mg "_law_purses" "_law_purses" s__law_purses ["_law_script", "_law_many_here", "_law_most_here"]
  d__law_divisor : Dfn K mg "_law_divisor" "_law_divisor" s__law_divisor ["_law_one", "_law_other"]
  d__law_part : Dfn K mg "_law_part" "_law_part" s__law_part ["_law_top", "_law_bottom"]
  d__law_sums : Dfn K mg "_law_sums" "_law_sums" s__law_sums ["_law_sheet_here", "_law_many_here"]
  d__law_got : Dfn K mg "_law_got" "_law_got" s__law_got ["_law_sheet_here", "_law_lays"]
  d__law_next : Dfn K mg "_law_next" "_law_next" s__law_next ["_law_sheet_here", "_law_purses_here", "_law_lays"]
  d__law_same : Dfn K mg "_law_same" "_law_same" s__law_same ["_law_ones", "_law_others"]
  d__law_forward : Dfn K mg "_law_forward" "_law_forward" s__law_forward ["_law_sheet_here"]
  d__law_reckoned : Dfn K mg "_law_reckoned" "_law_reckoned" s__law_reckoned ["_law_sheet_here", "_law_purses_here"]
  d__law_spoilt : Dfn K mg "_law_spoilt" "_law_spoilt" s__law_spoilt ["_law_script", "_law_lays", "_law_owed"]
  d__law_drawn_lay : Dfn K mg "_law_drawn_lay" "_law_drawn_lay" s__law_drawn_lay ["_law_script", "_law_k", "_law_owed"]
  d__law_told : Dfn K mg "_law_told" "_law_told" s__law_told ["_law_sheet_here", "_law_purses_here", "_law_lays", "_law_due_here"]
  d_law : Dfn K mg "law" "law" s_law ["_law_script"]
  bl_law : ∀ (s : Shared) (v : Value), BindsTo s d_law.fd ⟨[v], []⟩ [("_law_script", v)]
  z_abs : mg "abs" = none
  z_all : mg "all" = none
  z_bool : mg "bool" = none
  z_enumerate : mg "enumerate" = none
  z_isinstance : mg "isinstance" = none
  z_len : mg "len" = none
  z_list : mg "list" = none
  z_max : mg "max" = none
  z_min : mg "min" = none
  z_range : mg "range" = none
  z_sum : mg "sum" = none
noncomputable def txt_mk {K : PySem.W.Frag} {h : Heap} {mg : Str → Option Value} (X : K.In h) (G : h.Ns mainGlobals mg)
    {c_NoPart : Addr}
    {f_divisor : Addr} {oc_divisor kV_divisor dc_divisor pm_divisor cd_divisor ct_divisor : Value} {od_divisor an_divisor : Option Addr} {sl_divisor : Array (Option Value)}
    {f_plus : Addr} {oc_plus kV_plus dc_plus pm_plus cd_plus ct_plus : Value} {od_plus an_plus : Option Addr} {sl_plus : Array (Option Value)}
    {f_minus : Addr} {oc_minus kV_minus dc_minus pm_minus cd_minus ct_minus : Value} {od_minus an_minus : Option Addr} {sl_minus : Array (Option Value)}
    {f_times : Addr} {oc_times kV_times dc_times pm_times cd_times ct_times : Value} {od_times an_times : Option Addr} {sl_times : Array (Option Value)}
    {f_over : Addr} {oc_over kV_over dc_over pm_over cd_over ct_over : Value} {od_over an_over : Option Addr} {sl_over : Array (Option Value)}
    {f_under : Addr} {oc_under kV_under dc_under pm_under cd_under ct_under : Value} {od_under an_under : Option Addr} {sl_under : Array (Option Value)}
    {f_least : Addr} {oc_least kV_least dc_least pm_least cd_least ct_least : Value} {od_least an_least : Option Addr} {sl_least : Array (Option Value)}
    {f_total : Addr} {oc_total kV_total dc_total pm_total cd_total ct_total : Value} {od_total an_total : Option Addr} {sl_total : Array (Option Value)}
    {f_owes : Addr} {oc_owes kV_owes dc_owes pm_owes cd_owes ct_owes : Value} {od_owes an_owes : Option Addr} {sl_owes : Array (Option Value)}
    {f_ranked : Addr} {oc_ranked kV_ranked dc_ranked pm_ranked cd_ranked ct_ranked : Value} {od_ranked an_ranked : Option Addr} {sl_ranked : Array (Option Value)}
    {f_paid : Addr} {oc_paid kV_paid dc_paid pm_paid cd_paid ct_paid : Value} {od_paid an_paid : Option Addr} {sl_paid : Array (Option Value)}
    {f_shares_paid : Addr} {oc_shares_paid kV_shares_paid dc_shares_paid pm_shares_paid cd_shares_paid ct_shares_paid : Value} {od_shares_paid an_shares_paid : Option Addr} {sl_shares_paid : Array (Option Value)}
    {f_got : Addr} {oc_got kV_got dc_got pm_got cd_got ct_got : Value} {od_got an_got : Option Addr} {sl_got : Array (Option Value)}
    {f_is_clearing : Addr} {oc_is_clearing kV_is_clearing dc_is_clearing pm_is_clearing cd_is_clearing ct_is_clearing : Value} {od_is_clearing an_is_clearing : Option Addr} {sl_is_clearing : Array (Option Value)}
    {f_are_lays : Addr} {oc_are_lays kV_are_lays dc_are_lays pm_are_lays cd_are_lays ct_are_lays : Value} {od_are_lays an_are_lays : Option Addr} {sl_are_lays : Array (Option Value)}
    {f_next_lays : Addr} {oc_next_lays kV_next_lays dc_next_lays pm_next_lays cd_next_lays ct_next_lays : Value} {od_next_lays an_next_lays : Option Addr} {sl_next_lays : Array (Option Value)}
    {f__law_cell : Addr} {oc__law_cell kV__law_cell dc__law_cell pm__law_cell cd__law_cell ct__law_cell : Value} {od__law_cell an__law_cell : Option Addr} {sl__law_cell : Array (Option Value)}
    {f__law_draw : Addr} {oc__law_draw kV__law_draw dc__law_draw pm__law_draw cd__law_draw ct__law_draw : Value} {od__law_draw an__law_draw : Option Addr} {sl__law_draw : Array (Option Value)}
    {f__law_great : Addr} {oc__law_great kV__law_great dc__law_great pm__law_great cd__law_great ct__law_great : Value} {od__law_great an__law_great : Option Addr} {sl__law_great : Array (Option Value)}
    {f__law_many : Addr} {oc__law_many kV__law_many dc__law_many pm__law_many cd__law_many ct__law_many : Value} {od__law_many an__law_many : Option Addr} {sl__law_many : Array (Option Value)}
    {f__law_count : Addr} {oc__law_count kV__law_count dc__law_count pm__law_count cd__law_count ct__law_count : Value} {od__law_count an__law_count : Option Addr} {sl__law_count : Array (Option Value)}
    {f__law_most : Addr} {oc__law_most kV__law_most dc__law_most pm__law_most cd__law_most ct__law_most : Value} {od__law_most an__law_most : Option Addr} {sl__law_most : Array (Option Value)}
    {f__law_amount : Addr} {oc__law_amount kV__law_amount dc__law_amount pm__law_amount cd__law_amount ct__law_amount : Value} {od__law_amount an__law_amount : Option Addr} {sl__law_amount : Array (Option Value)}
    {f__law_due : Addr} {oc__law_due kV__law_due dc__law_due pm__law_due cd__law_due ct__law_due : Value} {od__law_due an__law_due : Option Addr} {sl__law_due : Array (Option Value)}
    {f__law_sheet : Addr} {oc__law_sheet kV__law_sheet dc__law_sheet pm__law_sheet cd__law_sheet ct__law_sheet : Value} {od__law_sheet an__law_sheet : Option Addr} {sl__law_sheet : Array (Option Value)}
    {f__law_purse : Addr} {oc__law_purse kV__law_purse dc__law_purse pm__law_purse cd__law_purse ct__law_purse : Value} {od__law_purse an__law_purse : Option Addr} {sl__law_purse : Array (Option Value)}
    {f__law_purses : Addr} {oc__law_purses kV__law_purses dc__law_purses pm__law_purses cd__law_purses ct__law_purses : Value} {od__law_purses an__law_purses : Option Addr} {sl__law_purses : Array (Option Value)}
    {f__law_divisor : Addr} {oc__law_divisor kV__law_divisor dc__law_divisor pm__law_divisor cd__law_divisor ct__law_divisor : Value} {od__law_divisor an__law_divisor : Option Addr} {sl__law_divisor : Array (Option Value)}
    {f__law_part : Addr} {oc__law_part kV__law_part dc__law_part pm__law_part cd__law_part ct__law_part : Value} {od__law_part an__law_part : Option Addr} {sl__law_part : Array (Option Value)}
    {f__law_sums : Addr} {oc__law_sums kV__law_sums dc__law_sums pm__law_sums cd__law_sums ct__law_sums : Value} {od__law_sums an__law_sums : Option Addr} {sl__law_sums : Array (Option Value)}
    {f__law_got : Addr} {oc__law_got kV__law_got dc__law_got pm__law_got cd__law_got ct__law_got : Value} {od__law_got an__law_got : Option Addr} {sl__law_got : Array (Option Value)}
    {f__law_next : Addr} {oc__law_next kV__law_next dc__law_next pm__law_next cd__law_next ct__law_next : Value} {od__law_next an__law_next : Option Addr} {sl__law_next : Array (Option Value)}
    {f__law_same : Addr} {oc__law_same kV__law_same dc__law_same pm__law_same cd__law_same ct__law_same : Value} {od__law_same an__law_same : Option Addr} {sl__law_same : Array (Option Value)}
    {f__law_forward : Addr} {oc__law_forward kV__law_forward dc__law_forward pm__law_forward cd__law_forward ct__law_forward : Value} {od__law_forward an__law_forward : Option Addr} {sl__law_forward : Array (Option Value)}
    {f__law_reckoned : Addr} {oc__law_reckoned kV__law_reckoned dc__law_reckoned pm__law_reckoned cd__law_reckoned ct__law_reckoned : Value} {od__law_reckoned an__law_reckoned : Option Addr} {sl__law_reckoned : Array (Option Value)}
    {f__law_spoilt : Addr} {oc__law_spoilt kV__law_spoilt dc__law_spoilt pm__law_spoilt cd__law_spoilt ct__law_spoilt : Value} {od__law_spoilt an__law_spoilt : Option Addr} {sl__law_spoilt : Array (Option Value)}
    {f__law_drawn_lay : Addr} {oc__law_drawn_lay kV__law_drawn_lay dc__law_drawn_lay pm__law_drawn_lay cd__law_drawn_lay ct__law_drawn_lay : Value} {od__law_drawn_lay an__law_drawn_lay : Option Addr} {sl__law_drawn_lay : Array (Option Value)}
    {f__law_told : Addr} {oc__law_told kV__law_told dc__law_told pm__law_told cd__law_told ct__law_told : Value} {od__law_told an__law_told : Option Addr} {sl__law_told : Array (Option Value)}
    {f_law : Addr} {oc_law kV_law dc_law pm_law cd_law ct_law : Value} {od_law an_law : Option Addr} {sl_law : Array (Option Value)}
    (m_NoPart : PySem.W.nsIn K mainGlobals "NoPart" = some (some (.ref c_NoPart)))
    (hd_NoPart : PySem.W.hasDictIn K c_NoPart = true) (ty_NoPart : PySem.W.typeIn K (.ref c_NoPart) = some (.type "type"))
    (sn_ : PySem.W.specialIn K (.builtin "object.__class__") "__get__" = some (some (.builtin "getset_descriptor.__get__"))) (tk_ : PySem.W.takesIn K (.builtin "object.__class__") = some true)
    (x_NoPart : PySem.W.excIn K c_NoPart [.type "ValueError", .type "Exception", .type "BaseException", .type "object"] "ValueError.__new__" = true) (ga_NoPart : PySem.W.findIn K (.ref c_NoPart) "__getattribute__" = some (some (.builtin "BaseException.__getattribute__"))) (gn_NoPart : PySem.W.findIn K (.ref c_NoPart) "__getattr__" = some none) (be_NoPart : PySem.W.mroIn K c_NoPart (.type "BaseException") = some true) (fa_NoPart : PySem.W.findIn K (.ref c_NoPart) "__class__" = some (some (.builtin "object.__class__"))) (mo_NoPart : PySem.W.mroIn K c_NoPart (.type "object") = some true)
    (s_NoPart_NoPart : PySem.W.subIn K (.ref c_NoPart) (.ref c_NoPart) = some true)
    (a_divisor : PySem.W.nsIn K mainGlobals "divisor" = some (some (.ref f_divisor))) (l_divisor : K.lookup f_divisor = some ⟨oc_divisor, od_divisor, .func (PySem.W.fnOf "divisor" "divisor" (defArgs s_divisor) (defBody s_divisor) (defScope s_divisor) .none kV_divisor dc_divisor pm_divisor an_divisor cd_divisor ct_divisor), sl_divisor⟩) (c_divisor : PySem.W.codeIn K cd_divisor "divisor" = true) (k_divisor : PySem.W.keepIn K (.ref f_divisor) = true)
    (a_plus : PySem.W.nsIn K mainGlobals "plus" = some (some (.ref f_plus))) (l_plus : K.lookup f_plus = some ⟨oc_plus, od_plus, .func (PySem.W.fnOf "plus" "plus" (defArgs s_plus) (defBody s_plus) (defScope s_plus) .none kV_plus dc_plus pm_plus an_plus cd_plus ct_plus), sl_plus⟩) (c_plus : PySem.W.codeIn K cd_plus "plus" = true) (k_plus : PySem.W.keepIn K (.ref f_plus) = true)
    (a_minus : PySem.W.nsIn K mainGlobals "minus" = some (some (.ref f_minus))) (l_minus : K.lookup f_minus = some ⟨oc_minus, od_minus, .func (PySem.W.fnOf "minus" "minus" (defArgs s_minus) (defBody s_minus) (defScope s_minus) .none kV_minus dc_minus pm_minus an_minus cd_minus ct_minus), sl_minus⟩) (c_minus : PySem.W.codeIn K cd_minus "minus" = true) (k_minus : PySem.W.keepIn K (.ref f_minus) = true)
    (a_times : PySem.W.nsIn K mainGlobals "times" = some (some (.ref f_times))) (l_times : K.lookup f_times = some ⟨oc_times, od_times, .func (PySem.W.fnOf "times" "times" (defArgs s_times) (defBody s_times) (defScope s_times) .none kV_times dc_times pm_times an_times cd_times ct_times), sl_times⟩) (c_times : PySem.W.codeIn K cd_times "times" = true) (k_times : PySem.W.keepIn K (.ref f_times) = true)
    (a_over : PySem.W.nsIn K mainGlobals "over" = some (some (.ref f_over))) (l_over : K.lookup f_over = some ⟨oc_over, od_over, .func (PySem.W.fnOf "over" "over" (defArgs s_over) (defBody s_over) (defScope s_over) .none kV_over dc_over pm_over an_over cd_over ct_over), sl_over⟩) (c_over : PySem.W.codeIn K cd_over "over" = true) (k_over : PySem.W.keepIn K (.ref f_over) = true)
    (a_under : PySem.W.nsIn K mainGlobals "under" = some (some (.ref f_under))) (l_under : K.lookup f_under = some ⟨oc_under, od_under, .func (PySem.W.fnOf "under" "under" (defArgs s_under) (defBody s_under) (defScope s_under) .none kV_under dc_under pm_under an_under cd_under ct_under), sl_under⟩) (c_under : PySem.W.codeIn K cd_under "under" = true) (k_under : PySem.W.keepIn K (.ref f_under) = true)
    (a_least : PySem.W.nsIn K mainGlobals "least" = some (some (.ref f_least))) (l_least : K.lookup f_least = some ⟨oc_least, od_least, .func (PySem.W.fnOf "least" "least" (defArgs s_least) (defBody s_least) (defScope s_least) .none kV_least dc_least pm_least an_least cd_least ct_least), sl_least⟩) (c_least : PySem.W.codeIn K cd_least "least" = true) (k_least : PySem.W.keepIn K (.ref f_least) = true)
    (a_total : PySem.W.nsIn K mainGlobals "total" = some (some (.ref f_total))) (l_total : K.lookup f_total = some ⟨oc_total, od_total, .func (PySem.W.fnOf "total" "total" (defArgs s_total) (defBody s_total) (defScope s_total) .none kV_total dc_total pm_total an_total cd_total ct_total), sl_total⟩) (c_total : PySem.W.codeIn K cd_total "total" = true) (k_total : PySem.W.keepIn K (.ref f_total) = true)
    (a_owes : PySem.W.nsIn K mainGlobals "owes" = some (some (.ref f_owes))) (l_owes : K.lookup f_owes = some ⟨oc_owes, od_owes, .func (PySem.W.fnOf "owes" "owes" (defArgs s_owes) (defBody s_owes) (defScope s_owes) .none kV_owes dc_owes pm_owes an_owes cd_owes ct_owes), sl_owes⟩) (c_owes : PySem.W.codeIn K cd_owes "owes" = true) (k_owes : PySem.W.keepIn K (.ref f_owes) = true)
    (a_ranked : PySem.W.nsIn K mainGlobals "ranked" = some (some (.ref f_ranked))) (l_ranked : K.lookup f_ranked = some ⟨oc_ranked, od_ranked, .func (PySem.W.fnOf "ranked" "ranked" (defArgs s_ranked) (defBody s_ranked) (defScope s_ranked) .none kV_ranked dc_ranked pm_ranked an_ranked cd_ranked ct_ranked), sl_ranked⟩) (c_ranked : PySem.W.codeIn K cd_ranked "ranked" = true) (k_ranked : PySem.W.keepIn K (.ref f_ranked) = true)
    (a_paid : PySem.W.nsIn K mainGlobals "paid" = some (some (.ref f_paid))) (l_paid : K.lookup f_paid = some ⟨oc_paid, od_paid, .func (PySem.W.fnOf "paid" "paid" (defArgs s_paid) (defBody s_paid) (defScope s_paid) .none kV_paid dc_paid pm_paid an_paid cd_paid ct_paid), sl_paid⟩) (c_paid : PySem.W.codeIn K cd_paid "paid" = true) (k_paid : PySem.W.keepIn K (.ref f_paid) = true)
    (a_shares_paid : PySem.W.nsIn K mainGlobals "shares_paid" = some (some (.ref f_shares_paid))) (l_shares_paid : K.lookup f_shares_paid = some ⟨oc_shares_paid, od_shares_paid, .func (PySem.W.fnOf "shares_paid" "shares_paid" (defArgs s_shares_paid) (defBody s_shares_paid) (defScope s_shares_paid) .none kV_shares_paid dc_shares_paid pm_shares_paid an_shares_paid cd_shares_paid ct_shares_paid), sl_shares_paid⟩) (c_shares_paid : PySem.W.codeIn K cd_shares_paid "shares_paid" = true) (k_shares_paid : PySem.W.keepIn K (.ref f_shares_paid) = true)
    (a_got : PySem.W.nsIn K mainGlobals "got" = some (some (.ref f_got))) (l_got : K.lookup f_got = some ⟨oc_got, od_got, .func (PySem.W.fnOf "got" "got" (defArgs s_got) (defBody s_got) (defScope s_got) .none kV_got dc_got pm_got an_got cd_got ct_got), sl_got⟩) (c_got : PySem.W.codeIn K cd_got "got" = true) (k_got : PySem.W.keepIn K (.ref f_got) = true)
    (a_is_clearing : PySem.W.nsIn K mainGlobals "is_clearing" = some (some (.ref f_is_clearing))) (l_is_clearing : K.lookup f_is_clearing = some ⟨oc_is_clearing, od_is_clearing, .func (PySem.W.fnOf "is_clearing" "is_clearing" (defArgs s_is_clearing) (defBody s_is_clearing) (defScope s_is_clearing) .none kV_is_clearing dc_is_clearing pm_is_clearing an_is_clearing cd_is_clearing ct_is_clearing), sl_is_clearing⟩) (c_is_clearing : PySem.W.codeIn K cd_is_clearing "is_clearing" = true) (k_is_clearing : PySem.W.keepIn K (.ref f_is_clearing) = true)
    (a_are_lays : PySem.W.nsIn K mainGlobals "are_lays" = some (some (.ref f_are_lays))) (l_are_lays : K.lookup f_are_lays = some ⟨oc_are_lays, od_are_lays, .func (PySem.W.fnOf "are_lays" "are_lays" (defArgs s_are_lays) (defBody s_are_lays) (defScope s_are_lays) .none kV_are_lays dc_are_lays pm_are_lays an_are_lays cd_are_lays ct_are_lays), sl_are_lays⟩) (c_are_lays : PySem.W.codeIn K cd_are_lays "are_lays" = true) (k_are_lays : PySem.W.keepIn K (.ref f_are_lays) = true)
    (a_next_lays : PySem.W.nsIn K mainGlobals "next_lays" = some (some (.ref f_next_lays))) (l_next_lays : K.lookup f_next_lays = some ⟨oc_next_lays, od_next_lays, .func (PySem.W.fnOf "next_lays" "next_lays" (defArgs s_next_lays) (defBody s_next_lays) (defScope s_next_lays) .none kV_next_lays dc_next_lays pm_next_lays an_next_lays cd_next_lays ct_next_lays), sl_next_lays⟩) (c_next_lays : PySem.W.codeIn K cd_next_lays "next_lays" = true) (k_next_lays : PySem.W.keepIn K (.ref f_next_lays) = true)
    (a__law_cell : PySem.W.nsIn K mainGlobals "_law_cell" = some (some (.ref f__law_cell))) (l__law_cell : K.lookup f__law_cell = some ⟨oc__law_cell, od__law_cell, .func (PySem.W.fnOf "_law_cell" "_law_cell" (defArgs s__law_cell) (defBody s__law_cell) (defScope s__law_cell) .none kV__law_cell dc__law_cell pm__law_cell an__law_cell cd__law_cell ct__law_cell), sl__law_cell⟩) (c__law_cell : PySem.W.codeIn K cd__law_cell "_law_cell" = true) (k__law_cell : PySem.W.keepIn K (.ref f__law_cell) = true)
    (a__law_draw : PySem.W.nsIn K mainGlobals "_law_draw" = some (some (.ref f__law_draw))) (l__law_draw : K.lookup f__law_draw = some ⟨oc__law_draw, od__law_draw, .func (PySem.W.fnOf "_law_draw" "_law_draw" (defArgs s__law_draw) (defBody s__law_draw) (defScope s__law_draw) .none kV__law_draw dc__law_draw pm__law_draw an__law_draw cd__law_draw ct__law_draw), sl__law_draw⟩) (c__law_draw : PySem.W.codeIn K cd__law_draw "_law_draw" = true) (k__law_draw : PySem.W.keepIn K (.ref f__law_draw) = true)
    (a__law_great : PySem.W.nsIn K mainGlobals "_law_great" = some (some (.ref f__law_great))) (l__law_great : K.lookup f__law_great = some ⟨oc__law_great, od__law_great, .func (PySem.W.fnOf "_law_great" "_law_great" (defArgs s__law_great) (defBody s__law_great) (defScope s__law_great) .none kV__law_great dc__law_great pm__law_great an__law_great cd__law_great ct__law_great), sl__law_great⟩) (c__law_great : PySem.W.codeIn K cd__law_great "_law_great" = true) (k__law_great : PySem.W.keepIn K (.ref f__law_great) = true)
    (a__law_many : PySem.W.nsIn K mainGlobals "_law_many" = some (some (.ref f__law_many))) (l__law_many : K.lookup f__law_many = some ⟨oc__law_many, od__law_many, .func (PySem.W.fnOf "_law_many" "_law_many" (defArgs s__law_many) (defBody s__law_many) (defScope s__law_many) .none kV__law_many dc__law_many pm__law_many an__law_many cd__law_many ct__law_many), sl__law_many⟩) (c__law_many : PySem.W.codeIn K cd__law_many "_law_many" = true) (k__law_many : PySem.W.keepIn K (.ref f__law_many) = true)
    (a__law_count : PySem.W.nsIn K mainGlobals "_law_count" = some (some (.ref f__law_count))) (l__law_count : K.lookup f__law_count = some ⟨oc__law_count, od__law_count, .func (PySem.W.fnOf "_law_count" "_law_count" (defArgs s__law_count) (defBody s__law_count) (defScope s__law_count) .none kV__law_count dc__law_count pm__law_count an__law_count cd__law_count ct__law_count), sl__law_count⟩) (c__law_count : PySem.W.codeIn K cd__law_count "_law_count" = true) (k__law_count : PySem.W.keepIn K (.ref f__law_count) = true)
    (a__law_most : PySem.W.nsIn K mainGlobals "_law_most" = some (some (.ref f__law_most))) (l__law_most : K.lookup f__law_most = some ⟨oc__law_most, od__law_most, .func (PySem.W.fnOf "_law_most" "_law_most" (defArgs s__law_most) (defBody s__law_most) (defScope s__law_most) .none kV__law_most dc__law_most pm__law_most an__law_most cd__law_most ct__law_most), sl__law_most⟩) (c__law_most : PySem.W.codeIn K cd__law_most "_law_most" = true) (k__law_most : PySem.W.keepIn K (.ref f__law_most) = true)
    (a__law_amount : PySem.W.nsIn K mainGlobals "_law_amount" = some (some (.ref f__law_amount))) (l__law_amount : K.lookup f__law_amount = some ⟨oc__law_amount, od__law_amount, .func (PySem.W.fnOf "_law_amount" "_law_amount" (defArgs s__law_amount) (defBody s__law_amount) (defScope s__law_amount) .none kV__law_amount dc__law_amount pm__law_amount an__law_amount cd__law_amount ct__law_amount), sl__law_amount⟩) (c__law_amount : PySem.W.codeIn K cd__law_amount "_law_amount" = true) (k__law_amount : PySem.W.keepIn K (.ref f__law_amount) = true)
    (a__law_due : PySem.W.nsIn K mainGlobals "_law_due" = some (some (.ref f__law_due))) (l__law_due : K.lookup f__law_due = some ⟨oc__law_due, od__law_due, .func (PySem.W.fnOf "_law_due" "_law_due" (defArgs s__law_due) (defBody s__law_due) (defScope s__law_due) .none kV__law_due dc__law_due pm__law_due an__law_due cd__law_due ct__law_due), sl__law_due⟩) (c__law_due : PySem.W.codeIn K cd__law_due "_law_due" = true) (k__law_due : PySem.W.keepIn K (.ref f__law_due) = true)
    (a__law_sheet : PySem.W.nsIn K mainGlobals "_law_sheet" = some (some (.ref f__law_sheet))) (l__law_sheet : K.lookup f__law_sheet = some ⟨oc__law_sheet, od__law_sheet, .func (PySem.W.fnOf "_law_sheet" "_law_sheet" (defArgs s__law_sheet) (defBody s__law_sheet) (defScope s__law_sheet) .none kV__law_sheet dc__law_sheet pm__law_sheet an__law_sheet cd__law_sheet ct__law_sheet), sl__law_sheet⟩) (c__law_sheet : PySem.W.codeIn K cd__law_sheet "_law_sheet" = true) (k__law_sheet : PySem.W.keepIn K (.ref f__law_sheet) = true)
    (a__law_purse : PySem.W.nsIn K mainGlobals "_law_purse" = some (some (.ref f__law_purse))) (l__law_purse : K.lookup f__law_purse = some ⟨oc__law_purse, od__law_purse, .func (PySem.W.fnOf "_law_purse" "_law_purse" (defArgs s__law_purse) (defBody s__law_purse) (defScope s__law_purse) .none kV__law_purse dc__law_purse pm__law_purse an__law_purse cd__law_purse ct__law_purse), sl__law_purse⟩) (c__law_purse : PySem.W.codeIn K cd__law_purse "_law_purse" = true) (k__law_purse : PySem.W.keepIn K (.ref f__law_purse) = true)
    (a__law_purses : PySem.W.nsIn K mainGlobals "_law_purses" = some (some (.ref f__law_purses))) (l__law_purses : K.lookup f__law_purses = some ⟨oc__law_purses, od__law_purses, .func (PySem.W.fnOf "_law_purses" "_law_purses" (defArgs s__law_purses) (defBody s__law_purses) (defScope s__law_purses) .none kV__law_purses dc__law_purses pm__law_purses an__law_purses cd__law_purses ct__law_purses), sl__law_purses⟩) (c__law_purses : PySem.W.codeIn K cd__law_purses "_law_purses" = true) (k__law_purses : PySem.W.keepIn K (.ref f__law_purses) = true)
    (a__law_divisor : PySem.W.nsIn K mainGlobals "_law_divisor" = some (some (.ref f__law_divisor))) (l__law_divisor : K.lookup f__law_divisor = some ⟨oc__law_divisor, od__law_divisor, .func (PySem.W.fnOf "_law_divisor" "_law_divisor" (defArgs s__law_divisor) (defBody s__law_divisor) (defScope s__law_divisor) .none kV__law_divisor dc__law_divisor pm__law_divisor an__law_divisor cd__law_divisor ct__law_divisor), sl__law_divisor⟩) (c__law_divisor : PySem.W.codeIn K cd__law_divisor "_law_divisor" = true) (k__law_divisor : PySem.W.keepIn K (.ref f__law_divisor) = true)
    (a__law_part : PySem.W.nsIn K mainGlobals "_law_part" = some (some (.ref f__law_part))) (l__law_part : K.lookup f__law_part = some ⟨oc__law_part, od__law_part, .func (PySem.W.fnOf "_law_part" "_law_part" (defArgs s__law_part) (defBody s__law_part) (defScope s__law_part) .none kV__law_part dc__law_part pm__law_part an__law_part cd__law_part ct__law_part), sl__law_part⟩) (c__law_part : PySem.W.codeIn K cd__law_part "_law_part" = true) (k__law_part : PySem.W.keepIn K (.ref f__law_part) = true)
    (a__law_sums : PySem.W.nsIn K mainGlobals "_law_sums" = some (some (.ref f__law_sums))) (l__law_sums : K.lookup f__law_sums = some ⟨oc__law_sums, od__law_sums, .func (PySem.W.fnOf "_law_sums" "_law_sums" (defArgs s__law_sums) (defBody s__law_sums) (defScope s__law_sums) .none kV__law_sums dc__law_sums pm__law_sums an__law_sums cd__law_sums ct__law_sums), sl__law_sums⟩) (c__law_sums : PySem.W.codeIn K cd__law_sums "_law_sums" = true) (k__law_sums : PySem.W.keepIn K (.ref f__law_sums) = true)
    (a__law_got : PySem.W.nsIn K mainGlobals "_law_got" = some (some (.ref f__law_got))) (l__law_got : K.lookup f__law_got = some ⟨oc__law_got, od__law_got, .func (PySem.W.fnOf "_law_got" "_law_got" (defArgs s__law_got) (defBody s__law_got) (defScope s__law_got) .none kV__law_got dc__law_got pm__law_got an__law_got cd__law_got ct__law_got), sl__law_got⟩) (c__law_got : PySem.W.codeIn K cd__law_got "_law_got" = true) (k__law_got : PySem.W.keepIn K (.ref f__law_got) = true)
    (a__law_next : PySem.W.nsIn K mainGlobals "_law_next" = some (some (.ref f__law_next))) (l__law_next : K.lookup f__law_next = some ⟨oc__law_next, od__law_next, .func (PySem.W.fnOf "_law_next" "_law_next" (defArgs s__law_next) (defBody s__law_next) (defScope s__law_next) .none kV__law_next dc__law_next pm__law_next an__law_next cd__law_next ct__law_next), sl__law_next⟩) (c__law_next : PySem.W.codeIn K cd__law_next "_law_next" = true) (k__law_next : PySem.W.keepIn K (.ref f__law_next) = true)
    (a__law_same : PySem.W.nsIn K mainGlobals "_law_same" = some (some (.ref f__law_same))) (l__law_same : K.lookup f__law_same = some ⟨oc__law_same, od__law_same, .func (PySem.W.fnOf "_law_same" "_law_same" (defArgs s__law_same) (defBody s__law_same) (defScope s__law_same) .none kV__law_same dc__law_same pm__law_same an__law_same cd__law_same ct__law_same), sl__law_same⟩) (c__law_same : PySem.W.codeIn K cd__law_same "_law_same" = true) (k__law_same : PySem.W.keepIn K (.ref f__law_same) = true)
    (a__law_forward : PySem.W.nsIn K mainGlobals "_law_forward" = some (some (.ref f__law_forward))) (l__law_forward : K.lookup f__law_forward = some ⟨oc__law_forward, od__law_forward, .func (PySem.W.fnOf "_law_forward" "_law_forward" (defArgs s__law_forward) (defBody s__law_forward) (defScope s__law_forward) .none kV__law_forward dc__law_forward pm__law_forward an__law_forward cd__law_forward ct__law_forward), sl__law_forward⟩) (c__law_forward : PySem.W.codeIn K cd__law_forward "_law_forward" = true) (k__law_forward : PySem.W.keepIn K (.ref f__law_forward) = true)
    (a__law_reckoned : PySem.W.nsIn K mainGlobals "_law_reckoned" = some (some (.ref f__law_reckoned))) (l__law_reckoned : K.lookup f__law_reckoned = some ⟨oc__law_reckoned, od__law_reckoned, .func (PySem.W.fnOf "_law_reckoned" "_law_reckoned" (defArgs s__law_reckoned) (defBody s__law_reckoned) (defScope s__law_reckoned) .none kV__law_reckoned dc__law_reckoned pm__law_reckoned an__law_reckoned cd__law_reckoned ct__law_reckoned), sl__law_reckoned⟩) (c__law_reckoned : PySem.W.codeIn K cd__law_reckoned "_law_reckoned" = true) (k__law_reckoned : PySem.W.keepIn K (.ref f__law_reckoned) = true)
    (a__law_spoilt : PySem.W.nsIn K mainGlobals "_law_spoilt" = some (some (.ref f__law_spoilt))) (l__law_spoilt : K.lookup f__law_spoilt = some ⟨oc__law_spoilt, od__law_spoilt, .func (PySem.W.fnOf "_law_spoilt" "_law_spoilt" (defArgs s__law_spoilt) (defBody s__law_spoilt) (defScope s__law_spoilt) .none kV__law_spoilt dc__law_spoilt pm__law_spoilt an__law_spoilt cd__law_spoilt ct__law_spoilt), sl__law_spoilt⟩) (c__law_spoilt : PySem.W.codeIn K cd__law_spoilt "_law_spoilt" = true) (k__law_spoilt : PySem.W.keepIn K (.ref f__law_spoilt) = true)
    (a__law_drawn_lay : PySem.W.nsIn K mainGlobals "_law_drawn_lay" = some (some (.ref f__law_drawn_lay))) (l__law_drawn_lay : K.lookup f__law_drawn_lay = some ⟨oc__law_drawn_lay, od__law_drawn_lay, .func (PySem.W.fnOf "_law_drawn_lay" "_law_drawn_lay" (defArgs s__law_drawn_lay) (defBody s__law_drawn_lay) (defScope s__law_drawn_lay) .none kV__law_drawn_lay dc__law_drawn_lay pm__law_drawn_lay an__law_drawn_lay cd__law_drawn_lay ct__law_drawn_lay), sl__law_drawn_lay⟩) (c__law_drawn_lay : PySem.W.codeIn K cd__law_drawn_lay "_law_drawn_lay" = true) (k__law_drawn_lay : PySem.W.keepIn K (.ref f__law_drawn_lay) = true)
    (a__law_told : PySem.W.nsIn K mainGlobals "_law_told" = some (some (.ref f__law_told))) (l__law_told : K.lookup f__law_told = some ⟨oc__law_told, od__law_told, .func (PySem.W.fnOf "_law_told" "_law_told" (defArgs s__law_told) (defBody s__law_told) (defScope s__law_told) .none kV__law_told dc__law_told pm__law_told an__law_told cd__law_told ct__law_told), sl__law_told⟩) (c__law_told : PySem.W.codeIn K cd__law_told "_law_told" = true) (k__law_told : PySem.W.keepIn K (.ref f__law_told) = true)
    (a_law : PySem.W.nsIn K mainGlobals "law" = some (some (.ref f_law))) (l_law : K.lookup f_law = some ⟨oc_law, od_law, .func (PySem.W.fnOf "law" "law" (defArgs s_law) (defBody s_law) (defScope s_law) .none kV_law dc_law pm_law an_law cd_law ct_law), sl_law⟩) (c_law : PySem.W.codeIn K cd_law "law" = true) (k_law : PySem.W.keepIn K (.ref f_law) = true)
    (w_abs : PySem.W.nsIn K mainGlobals "abs" = some none)
    (w_all : PySem.W.nsIn K mainGlobals "all" = some none)
    (w_bool : PySem.W.nsIn K mainGlobals "bool" = some none)
    (w_enumerate : PySem.W.nsIn K mainGlobals "enumerate" = some none)
    (w_isinstance : PySem.W.nsIn K mainGlobals "isinstance" = some none)
    (w_len : PySem.W.nsIn K mainGlobals "len" = some none)
    (w_list : PySem.W.nsIn K mainGlobals "list" = some none)
    (w_max : PySem.W.nsIn K mainGlobals "max" = some none)
    (w_min : PySem.W.nsIn K mainGlobals "min" = some none)
    (w_range : PySem.W.nsIn K mainGlobals "range" = some none)
    (w_sum : PySem.W.nsIn K mainGlobals "sum" = some none) : Txt K mg := {
    c_NoPart := c_NoPart, m_NoPart := PySem.W.mg_of X G m_NoPart,
    e_NoPart := errOk_mk x_NoPart ga_NoPart gn_NoPart be_NoPart hd_NoPart fa_NoPart sn_ tk_ mo_NoPart,
    i_NoPart_NoPart := kit_self,
    d_divisor := { a := f_divisor, fd := _, F := fun_mk (st := s_divisor) l_divisor c_divisor k_divisor, b := (fun_mk (st := s_divisor) l_divisor c_divisor k_divisor).binds (ps := ["one", "other"]) fun _ _ _ _ _ _ us hl => (by obtain ⟨_, _, rfl⟩ := len2 hl; rfl), m := PySem.W.mg_of X G a_divisor },
    d_plus := { a := f_plus, fd := _, F := fun_mk (st := s_plus) l_plus c_plus k_plus, b := (fun_mk (st := s_plus) l_plus c_plus k_plus).binds (ps := ["one", "other"]) fun _ _ _ _ _ _ us hl => (by obtain ⟨_, _, rfl⟩ := len2 hl; rfl), m := PySem.W.mg_of X G a_plus },
    d_minus := { a := f_minus, fd := _, F := fun_mk (st := s_minus) l_minus c_minus k_minus, b := (fun_mk (st := s_minus) l_minus c_minus k_minus).binds (ps := ["one", "other"]) fun _ _ _ _ _ _ us hl => (by obtain ⟨_, _, rfl⟩ := len2 hl; rfl), m := PySem.W.mg_of X G a_minus },
    d_times := { a := f_times, fd := _, F := fun_mk (st := s_times) l_times c_times k_times, b := (fun_mk (st := s_times) l_times c_times k_times).binds (ps := ["one", "other"]) fun _ _ _ _ _ _ us hl => (by obtain ⟨_, _, rfl⟩ := len2 hl; rfl), m := PySem.W.mg_of X G a_times },
    d_over := { a := f_over, fd := _, F := fun_mk (st := s_over) l_over c_over k_over, b := (fun_mk (st := s_over) l_over c_over k_over).binds (ps := ["one", "other"]) fun _ _ _ _ _ _ us hl => (by obtain ⟨_, _, rfl⟩ := len2 hl; rfl), m := PySem.W.mg_of X G a_over },
    d_under := { a := f_under, fd := _, F := fun_mk (st := s_under) l_under c_under k_under, b := (fun_mk (st := s_under) l_under c_under k_under).binds (ps := ["one", "other"]) fun _ _ _ _ _ _ us hl => (by obtain ⟨_, _, rfl⟩ := len2 hl; rfl), m := PySem.W.mg_of X G a_under },
    d_least := { a := f_least, fd := _, F := fun_mk (st := s_least) l_least c_least k_least, b := (fun_mk (st := s_least) l_least c_least k_least).binds (ps := ["one", "other"]) fun _ _ _ _ _ _ us hl => (by obtain ⟨_, _, rfl⟩ := len2 hl; rfl), m := PySem.W.mg_of X G a_least },
    d_total := { a := f_total, fd := _, F := fun_mk (st := s_total) l_total c_total k_total, b := (fun_mk (st := s_total) l_total c_total k_total).binds (ps := ["some"]) fun _ _ _ _ _ _ us hl => (by obtain ⟨_, rfl⟩ := len1 hl; rfl), m := PySem.W.mg_of X G a_total },
    d_owes := { a := f_owes, fd := _, F := fun_mk (st := s_owes) l_owes c_owes k_owes, b := (fun_mk (st := s_owes) l_owes c_owes k_owes).binds (ps := ["many", "sheet"]) fun _ _ _ _ _ _ us hl => (by obtain ⟨_, _, rfl⟩ := len2 hl; rfl), m := PySem.W.mg_of X G a_owes },
    d_ranked := { a := f_ranked, fd := _, F := fun_mk (st := s_ranked) l_ranked c_ranked k_ranked, b := (fun_mk (st := s_ranked) l_ranked c_ranked k_ranked).binds (ps := ["many", "sheet"]) fun _ _ _ _ _ _ us hl => (by obtain ⟨_, _, rfl⟩ := len2 hl; rfl), m := PySem.W.mg_of X G a_ranked },
    d_paid := { a := f_paid, fd := _, F := fun_mk (st := s_paid) l_paid c_paid k_paid, b := (fun_mk (st := s_paid) l_paid c_paid k_paid).binds (ps := ["sheet", "lays"]) fun _ _ _ _ _ _ us hl => (by obtain ⟨_, _, rfl⟩ := len2 hl; rfl), m := PySem.W.mg_of X G a_paid },
    d_shares_paid := { a := f_shares_paid, fd := _, F := fun_mk (st := s_shares_paid) l_shares_paid c_shares_paid k_shares_paid, b := (fun_mk (st := s_shares_paid) l_shares_paid c_shares_paid k_shares_paid).binds (ps := ["owed", "lay"]) fun _ _ _ _ _ _ us hl => (by obtain ⟨_, _, rfl⟩ := len2 hl; rfl), m := PySem.W.mg_of X G a_shares_paid },
    d_got := { a := f_got, fd := _, F := fun_mk (st := s_got) l_got c_got k_got, b := (fun_mk (st := s_got) l_got c_got k_got).binds (ps := ["sheet", "lays"]) fun _ _ _ _ _ _ us hl => (by obtain ⟨_, _, rfl⟩ := len2 hl; rfl), m := PySem.W.mg_of X G a_got },
    d_is_clearing := { a := f_is_clearing, fd := _, F := fun_mk (st := s_is_clearing) l_is_clearing c_is_clearing k_is_clearing, b := (fun_mk (st := s_is_clearing) l_is_clearing c_is_clearing k_is_clearing).binds (ps := ["sheet", "purses", "lays"]) fun _ _ _ _ _ _ us hl => (by obtain ⟨_, _, _, rfl⟩ := len3 hl; rfl), m := PySem.W.mg_of X G a_is_clearing },
    d_are_lays := { a := f_are_lays, fd := _, F := fun_mk (st := s_are_lays) l_are_lays c_are_lays k_are_lays, b := (fun_mk (st := s_are_lays) l_are_lays c_are_lays k_are_lays).binds (ps := ["sheet", "lays"]) fun _ _ _ _ _ _ us hl => (by obtain ⟨_, _, rfl⟩ := len2 hl; rfl), m := PySem.W.mg_of X G a_are_lays },
    d_next_lays := { a := f_next_lays, fd := _, F := fun_mk (st := s_next_lays) l_next_lays c_next_lays k_next_lays, b := (fun_mk (st := s_next_lays) l_next_lays c_next_lays k_next_lays).binds (ps := ["sheet", "purses", "lays"]) fun _ _ _ _ _ _ us hl => (by obtain ⟨_, _, _, rfl⟩ := len3 hl; rfl), m := PySem.W.mg_of X G a_next_lays },
    d__law_cell := { a := f__law_cell, fd := _, F := fun_mk (st := s__law_cell) l__law_cell c__law_cell k__law_cell, b := (fun_mk (st := s__law_cell) l__law_cell c__law_cell k__law_cell).binds (ps := ["_law_script", "_law_k"]) fun _ _ _ _ _ _ us hl => (by obtain ⟨_, _, rfl⟩ := len2 hl; rfl), m := PySem.W.mg_of X G a__law_cell },
    d__law_draw := { a := f__law_draw, fd := _, F := fun_mk (st := s__law_draw) l__law_draw c__law_draw k__law_draw, b := (fun_mk (st := s__law_draw) l__law_draw c__law_draw k__law_draw).binds (ps := ["_law_script", "_law_k", "_law_prime", "_law_many_here"]) fun _ _ _ _ _ _ us hl => (by obtain ⟨_, _, _, _, rfl⟩ := len4 hl; rfl), m := PySem.W.mg_of X G a__law_draw },
    d__law_great := { a := f__law_great, fd := _, F := fun_mk (st := s__law_great) l__law_great c__law_great k__law_great, b := (fun_mk (st := s__law_great) l__law_great c__law_great k__law_great).binds (ps := ["_law_script", "_law_k", "_law_most_here"]) fun _ _ _ _ _ _ us hl => (by obtain ⟨_, _, _, rfl⟩ := len3 hl; rfl), m := PySem.W.mg_of X G a__law_great },
    d__law_many := { a := f__law_many, fd := _, F := fun_mk (st := s__law_many) l__law_many c__law_many k__law_many, b := (fun_mk (st := s__law_many) l__law_many c__law_many k__law_many).binds (ps := ["_law_script"]) fun _ _ _ _ _ _ us hl => (by obtain ⟨_, rfl⟩ := len1 hl; rfl), m := PySem.W.mg_of X G a__law_many },
    d__law_count := { a := f__law_count, fd := _, F := fun_mk (st := s__law_count) l__law_count c__law_count k__law_count, b := (fun_mk (st := s__law_count) l__law_count c__law_count k__law_count).binds (ps := ["_law_script", "_law_many_here"]) fun _ _ _ _ _ _ us hl => (by obtain ⟨_, _, rfl⟩ := len2 hl; rfl), m := PySem.W.mg_of X G a__law_count },
    d__law_most := { a := f__law_most, fd := _, F := fun_mk (st := s__law_most) l__law_most c__law_most k__law_most, b := (fun_mk (st := s__law_most) l__law_most c__law_most k__law_most).binds (ps := ["_law_script", "_law_many_here", "_law_count_here"]) fun _ _ _ _ _ _ us hl => (by obtain ⟨_, _, _, rfl⟩ := len3 hl; rfl), m := PySem.W.mg_of X G a__law_most },
    d__law_amount := { a := f__law_amount, fd := _, F := fun_mk (st := s__law_amount) l__law_amount c__law_amount k__law_amount, b := (fun_mk (st := s__law_amount) l__law_amount c__law_amount k__law_amount).binds (ps := ["_law_script", "_law_k", "_law_most_here"]) fun _ _ _ _ _ _ us hl => (by obtain ⟨_, _, _, rfl⟩ := len3 hl; rfl), m := PySem.W.mg_of X G a__law_amount },
    d__law_due := { a := f__law_due, fd := _, F := fun_mk (st := s__law_due) l__law_due c__law_due k__law_due, b := (fun_mk (st := s__law_due) l__law_due c__law_due k__law_due).binds (ps := ["_law_script", "_law_k", "_law_many_here", "_law_most_here"]) fun _ _ _ _ _ _ us hl => (by obtain ⟨_, _, _, _, rfl⟩ := len4 hl; rfl), m := PySem.W.mg_of X G a__law_due },
    d__law_sheet := { a := f__law_sheet, fd := _, F := fun_mk (st := s__law_sheet) l__law_sheet c__law_sheet k__law_sheet, b := (fun_mk (st := s__law_sheet) l__law_sheet c__law_sheet k__law_sheet).binds (ps := ["_law_script", "_law_many_here", "_law_count_here", "_law_most_here"]) fun _ _ _ _ _ _ us hl => (by obtain ⟨_, _, _, _, rfl⟩ := len4 hl; rfl), m := PySem.W.mg_of X G a__law_sheet },
    d__law_purse := { a := f__law_purse, fd := _, F := fun_mk (st := s__law_purse) l__law_purse c__law_purse k__law_purse, b := (fun_mk (st := s__law_purse) l__law_purse c__law_purse k__law_purse).binds (ps := ["_law_script", "_law_k", "_law_way", "_law_most_here"]) fun _ _ _ _ _ _ us hl => (by obtain ⟨_, _, _, _, rfl⟩ := len4 hl; rfl), m := PySem.W.mg_of X G a__law_purse },
    d__law_purses := { a := f__law_purses, fd := _, F := fun_mk (st := s__law_purses) l__law_purses c__law_purses k__law_purses, b := (fun_mk (st := s__law_purses) l__law_purses c__law_purses k__law_purses).binds (ps := ["_law_script", "_law_many_here", "_law_most_here"]) fun _ _ _ _ _ _ us hl => (by obtain ⟨_, _, _, rfl⟩ := len3 hl; rfl), m := PySem.W.mg_of X G a__law_purses },
    d__law_divisor := { a := f__law_divisor, fd := _, F := fun_mk (st := s__law_divisor) l__law_divisor c__law_divisor k__law_divisor, b := (fun_mk (st := s__law_divisor) l__law_divisor c__law_divisor k__law_divisor).binds (ps := ["_law_one", "_law_other"]) fun _ _ _ _ _ _ us hl => (by obtain ⟨_, _, rfl⟩ := len2 hl; rfl), m := PySem.W.mg_of X G a__law_divisor },
    d__law_part := { a := f__law_part, fd := _, F := fun_mk (st := s__law_part) l__law_part c__law_part k__law_part, b := (fun_mk (st := s__law_part) l__law_part c__law_part k__law_part).binds (ps := ["_law_top", "_law_bottom"]) fun _ _ _ _ _ _ us hl => (by obtain ⟨_, _, rfl⟩ := len2 hl; rfl), m := PySem.W.mg_of X G a__law_part },
    d__law_sums := { a := f__law_sums, fd := _, F := fun_mk (st := s__law_sums) l__law_sums c__law_sums k__law_sums, b := (fun_mk (st := s__law_sums) l__law_sums c__law_sums k__law_sums).binds (ps := ["_law_sheet_here", "_law_many_here"]) fun _ _ _ _ _ _ us hl => (by obtain ⟨_, _, rfl⟩ := len2 hl; rfl), m := PySem.W.mg_of X G a__law_sums },
    d__law_got := { a := f__law_got, fd := _, F := fun_mk (st := s__law_got) l__law_got c__law_got k__law_got, b := (fun_mk (st := s__law_got) l__law_got c__law_got k__law_got).binds (ps := ["_law_sheet_here", "_law_lays"]) fun _ _ _ _ _ _ us hl => (by obtain ⟨_, _, rfl⟩ := len2 hl; rfl), m := PySem.W.mg_of X G a__law_got },
    d__law_next := { a := f__law_next, fd := _, F := fun_mk (st := s__law_next) l__law_next c__law_next k__law_next, b := (fun_mk (st := s__law_next) l__law_next c__law_next k__law_next).binds (ps := ["_law_sheet_here", "_law_purses_here", "_law_lays"]) fun _ _ _ _ _ _ us hl => (by obtain ⟨_, _, _, rfl⟩ := len3 hl; rfl), m := PySem.W.mg_of X G a__law_next },
    d__law_same := { a := f__law_same, fd := _, F := fun_mk (st := s__law_same) l__law_same c__law_same k__law_same, b := (fun_mk (st := s__law_same) l__law_same c__law_same k__law_same).binds (ps := ["_law_ones", "_law_others"]) fun _ _ _ _ _ _ us hl => (by obtain ⟨_, _, rfl⟩ := len2 hl; rfl), m := PySem.W.mg_of X G a__law_same },
    d__law_forward := { a := f__law_forward, fd := _, F := fun_mk (st := s__law_forward) l__law_forward c__law_forward k__law_forward, b := (fun_mk (st := s__law_forward) l__law_forward c__law_forward k__law_forward).binds (ps := ["_law_sheet_here"]) fun _ _ _ _ _ _ us hl => (by obtain ⟨_, rfl⟩ := len1 hl; rfl), m := PySem.W.mg_of X G a__law_forward },
    d__law_reckoned := { a := f__law_reckoned, fd := _, F := fun_mk (st := s__law_reckoned) l__law_reckoned c__law_reckoned k__law_reckoned, b := (fun_mk (st := s__law_reckoned) l__law_reckoned c__law_reckoned k__law_reckoned).binds (ps := ["_law_sheet_here", "_law_purses_here"]) fun _ _ _ _ _ _ us hl => (by obtain ⟨_, _, rfl⟩ := len2 hl; rfl), m := PySem.W.mg_of X G a__law_reckoned },
    d__law_spoilt := { a := f__law_spoilt, fd := _, F := fun_mk (st := s__law_spoilt) l__law_spoilt c__law_spoilt k__law_spoilt, b := (fun_mk (st := s__law_spoilt) l__law_spoilt c__law_spoilt k__law_spoilt).binds (ps := ["_law_script", "_law_lays", "_law_owed"]) fun _ _ _ _ _ _ us hl => (by obtain ⟨_, _, _, rfl⟩ := len3 hl; rfl), m := PySem.W.mg_of X G a__law_spoilt },
    d__law_drawn_lay := { a := f__law_drawn_lay, fd := _, F := fun_mk (st := s__law_drawn_lay) l__law_drawn_lay c__law_drawn_lay k__law_drawn_lay, b := (fun_mk (st := s__law_drawn_lay) l__law_drawn_lay c__law_drawn_lay k__law_drawn_lay).binds (ps := ["_law_script", "_law_k", "_law_owed"]) fun _ _ _ _ _ _ us hl => (by obtain ⟨_, _, _, rfl⟩ := len3 hl; rfl), m := PySem.W.mg_of X G a__law_drawn_lay },
    d__law_told := { a := f__law_told, fd := _, F := fun_mk (st := s__law_told) l__law_told c__law_told k__law_told, b := (fun_mk (st := s__law_told) l__law_told c__law_told k__law_told).binds (ps := ["_law_sheet_here", "_law_purses_here", "_law_lays", "_law_due_here"]) fun _ _ _ _ _ _ us hl => (by obtain ⟨_, _, _, _, rfl⟩ := len4 hl; rfl), m := PySem.W.mg_of X G a__law_told },
    d_law := { a := f_law, fd := _, F := fun_mk (st := s_law) l_law c_law k_law, b := (fun_mk (st := s_law) l_law c_law k_law).binds (ps := ["_law_script"]) fun _ _ _ _ _ _ us hl => (by obtain ⟨_, rfl⟩ := len1 hl; rfl), m := PySem.W.mg_of X G a_law },
    bl_law := fun s v => .of_eq rfl,
    z_abs := PySem.W.mg_none_of X G w_abs,
    z_all := PySem.W.mg_none_of X G w_all,
    z_bool := PySem.W.mg_none_of X G w_bool,
    z_enumerate := PySem.W.mg_none_of X G w_enumerate,
    z_isinstance := PySem.W.mg_none_of X G w_isinstance,
    z_len := PySem.W.mg_none_of X G w_len,
    z_list := PySem.W.mg_none_of X G w_list,
    z_max := PySem.W.mg_none_of X G w_max,
    z_min := PySem.W.mg_none_of X G w_min,
    z_range := PySem.W.mg_none_of X G w_range,
    z_sum := PySem.W.mg_none_of X G w_sum }
section
variable {P : Program} {w : World} {K : PySem.W.Frag} {mg : Str → Option Value} {base : Heap}

theorem ok_divisor (T : Txt K mg) : FnOk P w K mg base (CXF P w) 1 T.d_divisor.a T.d_divisor.fd ["one", "other"] spDiv := by
  refine T.d_divisor.F.okN sc_divisor (fun vs H Q E h => ?_) (fun cdv A outer s H vs Q E hr h => ?_)
  · obtain ⟨a, b, rfl, _⟩ := h; rfl
  obtain ⟨a, b, rfl, q⟩ := h
  refine ⟨_, (pss_cons (ps_set (i := 2) sc_divisor.nd rfl (Or.inl rfl) (pe_callB call_absU rfl T.z_abs BT.abs (pa_cons (pv 0) pa_nil)))
 (pss_cons (ps_set (i := 3) sc_divisor.nd rfl (Or.inl rfl) (pe_callB call_absU rfl T.z_abs BT.abs (pa_cons (pv 1) pa_nil)))
 (pss_cons (ps_while PassesOwn.never (pt_cmpR (show OpR _ (compareOp .NotEq) (rNeU K) from op_neU hr.units) (pv 3) pe_int (nomark _))
  (pss_cons (ps_set (i := 4) sc_divisor.nd rfl (Or.inl rfl) (pe_op op_modU (pv 2) (pv 3)))
 (pss_cons (ps_set (i := 2) sc_divisor.nd rfl (Or.inl rfl) (pv 3))
 (pss_one (ps_set (i := 3) sc_divisor.nd rfl (Or.inl rfl) (pv 4))))))
 (pss_one (ps_ret (pv 2)))))), ?_⟩
  refine x_start (σ0 := [some (.int a), some (.int b), none, none, none]) rfl ?_
  walk_at "x"
  refine ⟨fun m σ H' => ∃ k r f, σ = [some (.int a), some (.int b), some (.int k), some (.int r), f] ∧ H' = H ∧ 0 ≤ k ∧ 0 ≤ r ∧ My.gc k r = My.gc a b ∧ m = r.toNat, ⟨_, _, _, _, rfl, rfl, abs_nn a, abs_nn b, My.gc_abs a b, rfl⟩, ?_⟩
  rintro m σ H' ⟨k, r, f, rfl, rfl, hk, hr0, hg, rfl⟩
  walk_at "x"
  · rename_i hne
    refine ⟨fun σ' H'' => σ' = [some (.int a), some (.int b), some (.int r), some (.int (k % r)), some (.int (k % r))] ∧ H'' = H', ?_, ?_⟩
    · rintro σ' H'' ⟨rfl, rfl⟩
      have h1 := Int.emod_nonneg k (b := r) (by omega)
      have h2 := Int.emod_lt_of_pos k (b := r) (by omega)
      exact ⟨_, by omega, _, _, _, rfl, rfl, hr0, h1, by rw [My.gc_step]; exact hg, rfl⟩
    · walk_at "x"
      exact ⟨rfl, rfl⟩
  · rename_i he
    rw [he, My.gc_zero_right hk] at hg
    rw [hg]; exact q
theorem ok_plus (T : Txt K mg) : FnOk P w K mg base (CXF P w) 2 T.d_plus.a T.d_plus.fd ["one", "other"] spPlus := by
  refine T.d_plus.F.okN sc_plus (fun vs H Q E h => ?_) (fun cdv A outer s H vs Q E hr h => ?_)
  · obtain ⟨a, b, q, r, rfl, _⟩ := h; rfl
  obtain ⟨a, b, q, r, rfl, h1, h2, s1, s2, k⟩ := h
  refine ⟨_, (pss_cons (ps_set (i := 2) sc_plus.nd rfl (Or.inl rfl) (pe_call (ok_divisor T) (hr.mono (by decide)) rfl T.d_divisor.m T.d_divisor.F.kp T.d_divisor.b .nil (passN nox_F) (pa_cons (pe_ix (show IxR _ (rIx K) from ix_seq) (pv 0) pe_int (fun _ _ => rfl)) (pa_cons (pe_ix (show IxR _ (rIx K) from ix_seq) (pv 1) pe_int (fun _ _ => rfl)) pa_nil))))
 (pss_cons (ps_set (i := 3) sc_plus.nd rfl (Or.inl rfl) (pe_op (show OpR _ (binaryOp .Add) (rAddU K) from op_addU) (pe_op op_mulU (pe_ix (show IxR _ (rIx K) from ix_seq) (pv 0) pe_int (fun _ _ => rfl)) (pe_op op_divU (pe_ix (show IxR _ (rIx K) from ix_seq) (pv 1) pe_int (fun _ _ => rfl)) (pv 2))) (pe_op op_mulU (pe_ix (show IxR _ (rIx K) from ix_seq) (pv 1) pe_int (fun _ _ => rfl)) (pe_op op_divU (pe_ix (show IxR _ (rIx K) from ix_seq) (pv 0) pe_int (fun _ _ => rfl)) (pv 2)))))
 (pss_cons (ps_set (i := 4) sc_plus.nd rfl (Or.inl rfl) (pe_call (ok_divisor T) (hr.mono (by decide)) rfl T.d_divisor.m T.d_divisor.F.kp T.d_divisor.b .nil (passN nox_F) (pa_cons (pv 3) (pa_cons (pv 2) pa_nil))))
 (pss_one (ps_ret (pe_tup (pa_cons (pe_op op_divU (pv 3) (pv 4)) (pa_cons (pe_op op_mulU (pe_op op_divU (pe_ix (show IxR _ (rIx K) from ix_seq) (pv 0) pe_int (fun _ _ => rfl)) (pv 2)) (pe_op op_divU (pe_ix (show IxR _ (rIx K) from ix_seq) (pv 1) pe_int (fun _ _ => rfl)) (pv 4))) pa_nil)))))))), ?_⟩
  refine x_start (σ0 := [some (.ref a), some (.ref b), none, none, none]) rfl ?_
  have hg : 0 < My.gc (q.den : Int) (r.den : Int) := My.gc_pos_right (Int.ne_of_gt (den_pos r))
  have zg : sz (My.gc (q.den : Int) (r.den : Int)) ≤ 9000 := Nat.le_trans (sz_gc_right (Int.ne_of_gt (den_pos r)) s2.2) (by decide)
  have m1 : CMulS q.num ((r.den : Int) / My.gc (q.den : Int) (r.den : Int)) := CMulS.of s1.1 (Nat.le_trans (sz_div _ _) s2.2) (by decide)
  have m2 : CMulS r.num ((q.den : Int) / My.gc (q.den : Int) (r.den : Int)) := CMulS.of s2.1 (Nat.le_trans (sz_div _ _) s1.2) (by decide)
  have hc : 0 < My.gc (q.num * ((r.den : Int) / My.gc (q.den : Int) (r.den : Int)) + r.num * ((q.den : Int) / My.gc (q.den : Int) (r.den : Int))) (My.gc (q.den : Int) (r.den : Int)) := My.gc_pos_right (Int.ne_of_gt hg)
  have zc : sz (My.gc (q.num * ((r.den : Int) / My.gc (q.den : Int) (r.den : Int)) + r.num * ((q.den : Int) / My.gc (q.den : Int) (r.den : Int))) (My.gc (q.den : Int) (r.den : Int))) ≤ 9000 := sz_gc_right (Int.ne_of_gt hg) zg
  have m3 : CMulS ((q.den : Int) / My.gc (q.den : Int) (r.den : Int)) ((r.den : Int) / My.gc (q.num * ((r.den : Int) / My.gc (q.den : Int) (r.den : Int)) + r.num * ((q.den : Int) / My.gc (q.den : Int) (r.den : Int))) (My.gc (q.den : Int) (r.den : Int))) := CMulS.of (Nat.le_trans (sz_div _ _) s1.2) (Nat.le_trans (sz_div _ _) s2.2) (by decide)
  walk_at "x"
  exact NewQ.mk k (plus_parts q r)
theorem ok_minus (T : Txt K mg) : FnOk P w K mg base (CXF P w) 3 T.d_minus.a T.d_minus.fd ["one", "other"] spMinus := by
  refine T.d_minus.F.okN sc_minus (fun vs H Q E h => ?_) (fun cdv A outer s H vs Q E hr h => ?_)
  · obtain ⟨a, b, q, r, rfl, _⟩ := h; rfl
  obtain ⟨a, b, q, r, rfl, h1, h2, s1, s2, k⟩ := h
  refine ⟨_, (pss_one (ps_ret (pe_call (ok_plus T) (hr.mono (by decide)) rfl T.d_plus.m T.d_plus.F.kp T.d_plus.b .nil (passN nox_F) (pa_cons (pv 0) (pa_cons (pe_tup (pa_cons (pe_un un_neg (pe_ix (show IxR _ (rIx K) from ix_seq) (pv 1) pe_int (fun _ _ => rfl))) (pa_cons (pe_ix (show IxR _ (rIx K) from ix_seq) (pv 1) pe_int (fun _ _ => rfl)) pa_nil))) pa_nil))))), ?_⟩
  refine x_start (σ0 := [some (.ref a), some (.ref b)]) rfl ?_
  have s3 : OkQ (-r) := SzQ.neg s2
  walk_at "x"
  refine x_tupQ (q := -r) (rat_neg_low r) ?_
  walk_at "x"
  rename_i p1 H1 e1 i1
  rw [← Rat.sub_eq_add_neg] at i1
  exact k _ _ (by walk_at "h") i1
theorem ok_times (T : Txt K mg) : FnOk P w K mg base (CXF P w) 2 T.d_times.a T.d_times.fd ["one", "other"] spTimes := by
  refine T.d_times.F.okN sc_times (fun vs H Q E h => ?_) (fun cdv A outer s H vs Q E hr h => ?_)
  · obtain ⟨a, b, q, r, rfl, _⟩ := h; rfl
  obtain ⟨a, b, q, r, rfl, h1, h2, s1, s2, k⟩ := h
  refine ⟨_, (pss_cons (ps_set (i := 2) sc_times.nd rfl (Or.inl rfl) (pe_call (ok_divisor T) (hr.mono (by decide)) rfl T.d_divisor.m T.d_divisor.F.kp T.d_divisor.b .nil (passN nox_F) (pa_cons (pe_ix (show IxR _ (rIx K) from ix_seq) (pv 0) pe_int (fun _ _ => rfl)) (pa_cons (pe_ix (show IxR _ (rIx K) from ix_seq) (pv 1) pe_int (fun _ _ => rfl)) pa_nil))))
 (pss_cons (ps_set (i := 3) sc_times.nd rfl (Or.inl rfl) (pe_call (ok_divisor T) (hr.mono (by decide)) rfl T.d_divisor.m T.d_divisor.F.kp T.d_divisor.b .nil (passN nox_F) (pa_cons (pe_ix (show IxR _ (rIx K) from ix_seq) (pv 1) pe_int (fun _ _ => rfl)) (pa_cons (pe_ix (show IxR _ (rIx K) from ix_seq) (pv 0) pe_int (fun _ _ => rfl)) pa_nil))))
 (pss_cons (ps_set (i := 4) sc_times.nd rfl (Or.inl rfl) (pe_op op_mulU (pe_op op_divU (pe_ix (show IxR _ (rIx K) from ix_seq) (pv 0) pe_int (fun _ _ => rfl)) (pv 2)) (pe_op op_divU (pe_ix (show IxR _ (rIx K) from ix_seq) (pv 1) pe_int (fun _ _ => rfl)) (pv 3))))
 (pss_cons (ps_set (i := 5) sc_times.nd rfl (Or.inl rfl) (pe_op op_mulU (pe_op op_divU (pe_ix (show IxR _ (rIx K) from ix_seq) (pv 0) pe_int (fun _ _ => rfl)) (pv 3)) (pe_op op_divU (pe_ix (show IxR _ (rIx K) from ix_seq) (pv 1) pe_int (fun _ _ => rfl)) (pv 2))))
 (pss_one (ps_ret (pe_tup (pa_cons (pv 4) (pa_cons (pv 5) pa_nil))))))))), ?_⟩
  refine x_start (σ0 := [some (.ref a), some (.ref b), none, none, none, none]) rfl ?_
  have hg : 0 < My.gc q.num (r.den : Int) := My.gc_pos_right (Int.ne_of_gt (den_pos r))
  have zg : sz (My.gc q.num (r.den : Int)) ≤ 9000 := Nat.le_trans (sz_gc_right (Int.ne_of_gt (den_pos r)) s2.2) (by decide)
  have hc : 0 < My.gc r.num (q.den : Int) := My.gc_pos_right (Int.ne_of_gt (den_pos q))
  have zc : sz (My.gc r.num (q.den : Int)) ≤ 9000 := Nat.le_trans (sz_gc_right (Int.ne_of_gt (den_pos q)) s1.2) (by decide)
  have m1 : CMulS (q.num / My.gc q.num (r.den : Int)) (r.num / My.gc r.num (q.den : Int)) := CMulS.of (Nat.le_trans (sz_div _ _) s1.1) (Nat.le_trans (sz_div _ _) s2.1) (by decide)
  have m2 : CMulS ((q.den : Int) / My.gc r.num (q.den : Int)) ((r.den : Int) / My.gc q.num (r.den : Int)) := CMulS.of (Nat.le_trans (sz_div _ _) s1.2) (Nat.le_trans (sz_div _ _) s2.2) (by decide)
  walk_at "x"
  exact NewQ.mk k (times_parts q r)
theorem ok_over (T : Txt K mg) : FnOk P w K mg base (CXF P w) 3 T.d_over.a T.d_over.fd ["one", "other"] spOver0 := by
  refine T.d_over.F.okN sc_over (fun vs H Q E h => ?_) (fun cdv A outer s H vs Q E hr h => ?_)
  · obtain ⟨a, b, q, r, rfl, _⟩ := h; rfl
  obtain ⟨a, b, q, r, rfl, h1, h2, s1, s2, h3, k⟩ := h
  refine ⟨_, (pss_cons (ps_if (pt_cmpR (show OpR _ (compareOp .Eq) (rEqU K) from op_eqU hr.units) (pe_ix (show IxR _ (rIx K) from ix_seq) (pv 1) pe_int (fun _ _ => rfl)) pe_int (nomark _))
  (pss_one ps_never)
  pss_nil)
 (pss_cons (ps_if (pt_cmpR op_lt (pe_ix (show IxR _ (rIx K) from ix_seq) (pv 1) pe_int (fun _ _ => rfl)) pe_int (nomark _))
  (pss_one (ps_ret (pe_call (ok_times T) (hr.mono (by decide)) rfl T.d_times.m T.d_times.F.kp T.d_times.b .nil (passN nox_F) (pa_cons (pv 0) (pa_cons (pe_tup (pa_cons (pe_un un_neg (pe_ix (show IxR _ (rIx K) from ix_seq) (pv 1) pe_int (fun _ _ => rfl))) (pa_cons (pe_un un_neg (pe_ix (show IxR _ (rIx K) from ix_seq) (pv 1) pe_int (fun _ _ => rfl))) pa_nil))) pa_nil)))))
  pss_nil)
 (pss_one (ps_ret (pe_call (ok_times T) (hr.mono (by decide)) rfl T.d_times.m T.d_times.F.kp T.d_times.b .nil (passN nox_F) (pa_cons (pv 0) (pa_cons (pe_tup (pa_cons (pe_ix (show IxR _ (rIx K) from ix_seq) (pv 1) pe_int (fun _ _ => rfl)) (pa_cons (pe_ix (show IxR _ (rIx K) from ix_seq) (pv 1) pe_int (fun _ _ => rfl)) pa_nil))) pa_nil))))))), ?_⟩
  refine x_start (σ0 := [some (.ref a), some (.ref b)]) rfl ?_
  rw [Rat.div_def] at k
  have s3 : OkQ r⁻¹ := (s2.inv h3).mono (by decide) (by decide)
  walk_at "x"
  all_goals first | (exfalso; contradiction) | skip
  · rename_i hn
    refine x_tupQ (q := r⁻¹) (inv_neg hn) ?_
    walk_at "x"
    exact k _ _ (by walk_at "h") (by walk_at "h")
  · rename_i hn
    refine x_tupQ (q := r⁻¹) (inv_pos (by omega)) ?_
    walk_at "x"
    exact k _ _ (by walk_at "h") (by walk_at "h")
theorem ok_under (T : Txt K mg) : FnOk P w K mg base (CXF P w) 1 T.d_under.a T.d_under.fd ["one", "other"] (spUnder 60000) := by
  refine T.d_under.F.okN sc_under (fun vs H Q E h => ?_) (fun cdv A outer s H vs Q E hr h => ?_)
  · obtain ⟨a, b, q, r, rfl, _⟩ := h; rfl
  obtain ⟨a, b, q, r, rfl, h1, h2, s1, s2, k⟩ := h
  refine ⟨_, (pss_one (ps_ret (pe_cmpR op_lt (pe_op op_mulU (pe_ix (show IxR _ (rIx K) from ix_seq) (pv 0) pe_int (fun _ _ => rfl)) (pe_ix (show IxR _ (rIx K) from ix_seq) (pv 1) pe_int (fun _ _ => rfl))) (pe_op op_mulU (pe_ix (show IxR _ (rIx K) from ix_seq) (pv 1) pe_int (fun _ _ => rfl)) (pe_ix (show IxR _ (rIx K) from ix_seq) (pv 0) pe_int (fun _ _ => rfl))) (nomark _)))), ?_⟩
  refine x_start (σ0 := [some (.ref a), some (.ref b)]) rfl ?_
  have e : decide (q < r) = decide (q.num * (r.den : Int) < r.num * (q.den : Int)) := decide_eq_decide.mpr (Rat.lt_iff q r)
  rw [e] at k
  walk_at "x"
  refine x_mul (CMulS.of s1.1 s2.2 (by decide)) ?_
  walk_at "x"
  refine x_mul (CMulS.of s2.1 s1.2 (by decide)) ?_
  walk_at "x"
  exact k
theorem ok_least (T : Txt K mg) : FnOk P w K mg base (CXF P w) 2 T.d_least.a T.d_least.fd ["one", "other"] (spLeast 60000) := by
  refine T.d_least.F.okN sc_least (fun vs H Q E h => ?_) (fun cdv A outer s H vs Q E hr h => ?_)
  · obtain ⟨a, b, q, r, rfl, _⟩ := h; rfl
  obtain ⟨a, b, q, r, rfl, h1, h2, s1, s2, k⟩ := h
  refine ⟨_, (pss_cons (ps_if (show PT _ _ (tTru K _) from pt_truthU (pe_call (ok_under T) (hr.mono (by decide)) rfl T.d_under.m T.d_under.F.kp T.d_under.b .nil (passN nox_F) (pa_cons (pv 1) (pa_cons (pv 0) pa_nil))) (fun _ => rfl))
  (pss_one (ps_ret (pv 1)))
  pss_nil)
 (pss_one (ps_ret (pv 0)))), ?_⟩
  refine x_start (σ0 := [some (.ref a), some (.ref b)]) rfl ?_
  walk_at "x"
  · rename_i h; rw [if_pos h] at k; exact k
  · rename_i h; rw [if_neg h] at k; exact k
theorem ok_total (T : Txt K mg) : FnOk P w K mg base (CXF P w) 3 T.d_total.a T.d_total.fd ["some"] (spTotal K) := by
  refine T.d_total.F.okN sc_total (fun vs H Q E h => ?_) (fun cdv A outer s H vs Q E hr h => ?_)
  · obtain ⟨a, xs, qs, rfl, _⟩ := h; rfl
  obtain ⟨a, xs, qs, rfl, hS, hQ, hok, hsum, k⟩ := h
  refine ⟨_, (pss_cons (ps_set (i := 1) sc_total.nd rfl (Or.inl rfl) (pe_tup (pa_cons pe_int (pa_cons pe_int pa_nil))))
 (pss_cons (ps_for PassesOwn.never rfl (show PI _ _ _ (iList K _) from pi_list (pv 0)) (pg_name (i := 2) sc_total.nd rfl (Or.inl rfl))
  (pss_one (ps_set (i := 1) sc_total.nd rfl (Or.inl rfl) (pe_call (ok_plus T) (hr.mono (by decide)) rfl T.d_plus.m T.d_plus.F.kp T.d_plus.b .nil (passN nox_F) (pa_cons (pv 1) (pa_cons (pv 2) pa_nil))))))
 (pss_one (ps_ret (pv 1))))), ?_⟩
  refine x_start (σ0 := [some (.ref a), none, none]) rfl ?_
  walk_at "x"
  refine x_tupQ (q := 0) ⟨rfl, rfl⟩ ?_
  intro p H1 e1 i1
  walk_at "x"
  try refine x_itk (e1.seq hS) ?_
  refine x_forL (xs := xs) (fun i σ' H' => ∃ p f, σ' = [some (.ref a), some (.ref p), f] ∧ IsQ H' p (sumQ (qs.take i)) ∧ Same H H') ⟨p, _, rfl, i1, e1⟩ ?_ ?_ ?_
  · rintro i σ' H' _ ⟨p, f, rfl, _, e⟩
    exact e.seq hS
  · rintro i x σ' H' hx ⟨p, f, rfl, hp, e⟩
    obtain ⟨b, q, rfl, hq, ib⟩ := (hQ.same e).get hx
    have ho : OkQ q := hok q (List.mem_of_getElem? hq)
    have hs := hsum i
    walk_at "x"
    rename_i p2 H2 e2 i2
    refine ⟨p2, _, rfl, ?_, e.trans e2⟩
    have : qs.take (i + 1) = qs.take i ++ [q] := by
      obtain ⟨hi, rfl⟩ := List.getElem?_eq_some_iff.mp hq
      exact List.take_succ_eq_append_getElem hi
    rw [this, sumQ_snoc]; exact i2
  · rintro σ' H' ⟨p, f, rfl, hp, e⟩
    rw [hQ.length, List.take_length] at hp
    walk_at "x"
    exact k _ _ e hp
theorem ok_ranked (T : Txt K mg) : FnOk P w K mg base (CXF P w) 1 T.d_ranked.a T.d_ranked.fd ["many", "sheet"] (spRanked K) := by
  refine T.d_ranked.F.okN sc_ranked (fun vs H Q E h => ?_) (fun cdv A outer s H vs Q E hr h => ?_)
  · obtain ⟨n, a, ds, rfl, _⟩ := h; rfl
  obtain ⟨n, a, ds, rfl, ⟨xs, hS, hT⟩, n0, n1, hd, k⟩ := h
  refine ⟨_, (pss_cons (ps_setC (i := 2) sc_ranked.nd rfl rfl rfl (pi_range1 rfl T.z_range (pa_cons (pv 0) pa_nil)) (compScope_of (Ni := ["member"]) (caps := [none]) (by rfl)) (fun S _ _ _ _ _ => (pg_nameC (gi := 0) S (Or.inl rfl) rfl)) (fun _ _ _ _ _ => pf_nil) (fun _ _ _ _ _ => (pe_lst (pa_cons pe_int (pa_cons pe_int (pa_cons pe_int pa_nil))))))
 (pss_cons (ps_for PassesOwn.never rfl (show PI _ _ _ (iList K _) from pi_list (pv 1)) (show PG _ _ (gTup K 4 _) from pg_tup (n := 4) rfl (pgs_cons (pg_name (i := 3) sc_ranked.nd rfl (Or.inl rfl)) (pgs_cons (pg_name (i := 4) sc_ranked.nd rfl (Or.inl rfl)) (pgs_cons (pg_name (i := 5) sc_ranked.nd rfl (Or.inl rfl)) (pgs_cons (pg_name (i := 6) sc_ranked.nd rfl (Or.inl rfl)) pgs_nil)))))
  (pss_one (ps_augS (pe_ix (show IxR _ (rIx K) from ix_seq) (pv 2) (pv 3) (fun _ _ => rfl)) (pv 5) (show PGet _ (rIxL K) from get_listL) (pv 6) ip_add set_list)))
 (pss_one (ps_ret (pv 2))))), ?_⟩
  refine x_start (σ0 := [some (.int n), some (.ref a), none, none, none, none, none]) rfl ?_
  walk_at "x"
  refine x_compS1 src_range (fun _ _ => trivial) rfl (fun i vs H' => ∃ as, vs = as.map V.ref ∧ as.length = i ∧ Rows H' as 3 (fun _ _ => 0) ∧ ∀ b ∈ as, H b = none) (fun H' _ => ⟨[], rfl, rfl, ⟨List.nodup_nil, fun i a h => nomatch h⟩, fun _ h => nomatch h⟩) ?_ ?_
  · rintro i x D vs o H2 H3 hi hD e2 hv hvl ⟨as, rfl, hal, hR, hF⟩ e3 rfl
    walk_at "x"
    rename_i p H4 fp e4 hp H5 b5 h5
    have hD' : D ∉ as := hR.ne (by decide) hv
    have hpD : p ≠ D := ne_new' fp (e3.at hv)
    have hp' : H5 p = some (.lst ((vec 3 fun _ => 0).map V.int)) := b5.lst hp hpD
    refine ⟨⟨_, rfl⟩, by walk_at "h", _, h5, by rw [List.length_append]; exact Nat.succ_le_succ hvl, as ++ [p], by rw [List.map_append]; rfl, by rw [List.length_append, hal]; rfl, Rows.app ((hR.same (e3.trans e4)).but b5 hD') ((hR.same e3).fresh fp) hp', fun b hb => ?_⟩
    rcases List.mem_append.mp hb with h | h
    · exact hF b h
    · rw [List.mem_singleton.mp h]; exact Same.none fp (e2.trans e3)
  · rintro l H2 vs fl e2 hl hvl ⟨as, rfl, hal, hR, hF⟩
    walk_at "x"
    have hla : l ∉ as := hR.ne (by decide) hl
    refine x_forL (xs := xs) (fun i σ' H' => ∃ f3 f4 f5 f6, σ' = [some (.int n), some (.ref a), some (.ref l), f3, f4, f5, f6] ∧ H' l = some (.lst (as.map V.ref)) ∧ Rows H' as 3 (rankF (ds.take i)) ∧ Same H H') ?_ ?_ ?_ ?_
    · exact ⟨_, _, _, _, rfl, hl, hR, e2⟩
    · rintro i σ' H' _ ⟨_, _, _, _, _, _, _, e⟩; exact e.seq hS
    · rintro i x σ' H3 hx ⟨f3, f4, f5, f6, rfl, hl3, hR3, e3⟩
      obtain ⟨b, d, rfl, hdi, hb⟩ := (hT.same e3).get hx
      have hb' : H3 b = some (.tup [.int d.p, .int d.q, .int d.r, .int d.a]) := hb
      obtain ⟨p0, p1, q0, q1, pq, r0, r1, a0, a1⟩ := hd d (List.mem_of_getElem? hdi)
      obtain ⟨c, hc⟩ := lt_some (show d.p.toNat < as.length by omega)
      have hrow := hR3.2 _ _ hc
      have hcm := List.mem_of_getElem? hc
      have hlc : l ≠ c := fun z => hla (z ▸ hcm)
      have fc := hF c hcm
      walk_at "x"
      rename_i H4 b4 h4
      refine ⟨_, _, _, _, rfl, b4.lst hl3 hlc, (hR3.set b4 hc h4).congr fun m hm r hr => ?_, by walk_at "h"⟩
      rw [take_snoc hdi]
      exact rank_step p0 r0 m r
    · rintro σ' H3 ⟨f3, f4, f5, f6, rfl, hl3, hR3, e3⟩
      rw [hT.length, List.take_length] at hR3
      walk_at "x"
      exact k _ _ _ fl e3 hl3 (by omega) hR3 hF
theorem ok_owes (T : Txt K mg) : FnOk P w K mg base (CXF P w) 1 T.d_owes.a T.d_owes.fd ["many", "sheet"] (spOwes K) := by
  refine T.d_owes.F.okN sc_owes (fun vs H Q E h => ?_) (fun cdv A outer s H vs Q E hr h => ?_)
  · obtain ⟨n, a, ds, rfl, _⟩ := h; rfl
  obtain ⟨n, a, ds, rfl, ⟨xs, hS, hT⟩, n0, n1, hd, k⟩ := h
  refine ⟨_, (pss_cons (ps_set (i := 2) sc_owes.nd rfl (Or.inl rfl) (pe_op op_mulU (pe_lst (pa_cons pe_int pa_nil)) (pv 0)))
 (pss_cons (ps_for PassesOwn.never rfl (show PI _ _ _ (iList K _) from pi_list (pv 1)) (show PG _ _ (gTup K 4 _) from pg_tup (n := 4) rfl (pgs_cons (pg_name (i := 3) sc_owes.nd rfl (Or.inl rfl)) (pgs_cons (pg_name (i := 4) sc_owes.nd rfl (Or.inl rfl)) (pgs_cons (pg_name (i := 5) sc_owes.nd rfl (Or.inl rfl)) (pgs_cons (pg_name (i := 6) sc_owes.nd rfl (Or.inl rfl)) pgs_nil)))))
  (pss_one (ps_augS (pv 2) (pv 3) (show PGet _ (rIxL K) from get_listL) (pv 6) ip_add set_list)))
 (pss_one (ps_ret (pv 2))))), ?_⟩
  refine x_start (σ0 := [some (.int n), some (.ref a), none, none, none, none, none]) rfl ?_
  walk_at "x"
  rename_i l H2 fl e2 hl
  refine x_forL (xs := xs) (fun i σ' H' => ∃ f3 f4 f5 f6, σ' = [some (.int n), some (.ref a), some (.ref l), f3, f4, f5, f6] ∧ H' l = some (.lst ((vec n.toNat (owesF (ds.take i))).map V.int)) ∧ Same H H') ?_ ?_ ?_ ?_
  · exact ⟨_, _, _, _, rfl, hl, by walk_at "h"⟩
  · rintro i σ' H' _ ⟨_, _, _, _, _, _, e⟩; exact e.seq hS
  · rintro i x σ' H4 hx ⟨f3, f4, f5, f6, rfl, hl3, e3⟩
    obtain ⟨b, d, rfl, hdi, hb⟩ := (hT.same e3).get hx
    have hb' : H4 b = some (.tup [.int d.p, .int d.q, .int d.r, .int d.a]) := hb
    obtain ⟨p0, p1, q0, q1, pq, r0, r1, a0, a1⟩ := hd d (List.mem_of_getElem? hdi)
    walk_at "x"
    rename_i H5 b5 h5
    refine ⟨_, _, _, _, rfl, ?_, by walk_at "h"⟩
    rw [h5, take_snoc hdi]
    congr 3
    refine vec_congr fun m hm => ?_
    rw [owesF_snoc]
    by_cases e : d.p = m
    · rw [if_pos e, if_pos (by omega)]; congr 2; omega
    · rw [if_neg e, if_neg (by omega)]
  · rintro σ' H3 ⟨f3, f4, f5, f6, rfl, hl3, e3⟩
    rw [hT.length, List.take_length] at hl3
    walk_at "x"
    exact k _ _ (by walk_at "h") e3 hl3

theorem ok_shares_paid (T : Txt K mg) : FnOk P w K mg base (CXF P w) 4 T.d_shares_paid.a T.d_shares_paid.fd ["owed", "lay"] (spSharesV K) := by
  refine T.d_shares_paid.F.okN sc_shares_paid (fun vs H Q E h => ?_) (fun cdv A outer s H vs Q E hr h => ?_)
  · obtain ⟨l, y, f, q, rfl, _⟩ := h; rfl
  obtain ⟨l, y, f, q, rfl, hl, hf, hy, hs, k⟩ := h
  refine ⟨_, (pss_cons (ps_set (i := 2) sc_shares_paid.nd rfl (Or.inl rfl) (pe_lst pa_nil))
 (pss_cons (ps_set (i := 3) sc_shares_paid.nd rfl (Or.inl rfl) (pv 1))
 (pss_cons (ps_for PassesOwn.never rfl (show PI _ _ _ (iList K _) from pi_list (pv 0)) (pg_name (i := 4) sc_shares_paid.nd rfl (Or.inl rfl))
  (pss_cons (ps_set (i := 5) sc_shares_paid.nd rfl (Or.inl rfl) (pe_call (ok_least T) (hr.mono (by decide)) rfl T.d_least.m T.d_least.F.kp T.d_least.b .nil (passN nox_F) (pa_cons (pv 3) (pa_cons (pe_tup (pa_cons (pv 4) (pa_cons pe_int pa_nil))) pa_nil))))
 (pss_cons (ps_set (i := 3) sc_shares_paid.nd rfl (Or.inl rfl) (pe_call (ok_minus T) (hr.mono (by decide)) rfl T.d_minus.m T.d_minus.F.kp T.d_minus.b .nil (passN nox_F) (pa_cons (pv 3) (pa_cons (pv 5) pa_nil))))
 (pss_one (ps_expr (show PE _ _ (tBM K _ _ _ _) from pe_bm PySem.F.plainAttrs_list PySem.F.slot_list_append PySem.F.type_list_append mt_append (pv 2) (pa_cons (pe_ifExp (pt_cmpR op_gt (pv 4) pe_int (nomark _)) (pe_call (ok_over T) (hr.mono (by decide)) rfl T.d_over.m T.d_over.F.kp T.d_over.b .nil (passN nox_F) (pa_cons (pv 5) (pa_cons (pe_tup (pa_cons (pv 4) (pa_cons pe_int pa_nil))) pa_nil))) (pe_tup (pa_cons pe_int (pa_cons pe_int pa_nil)))) pa_nil)))))))
 (pss_one (ps_ret (pv 2)))))), ?_⟩
  refine x_start (σ0 := [some (.ref l), some (.ref y), none, none, none, none]) rfl ?_
  walk_at "x"
  rename_i sh H0 fsh e0 hsh
  refine x_forL (xs := (vec 3 f).map V.int) (fun i σ' H' => ∃ (p : Addr) (vs : List V) (f4 f5 : Option V), σ' = [some (.ref l), some (.ref y), some (.ref sh), some (.ref p), f4, f5] ∧ IsQ H' p (restQ f q i) ∧ H' sh = some (.lst vs) ∧ IsQs H' vs ((List.range i).map (shareQ f q)) ∧ Same H H') ⟨y, [], _, _, rfl, e0.at hy, hsh, trivial, e0⟩ ?_ ?_ ?_
  · rintro i σ' H' _ ⟨_, _, _, _, _, _, _, _, e⟩; exact SqL.of (e.at hl)
  · rintro i x σ' H1 hx ⟨p, vs, f4, f5, rfl, hp, hs1, hvs, e1⟩
    have hi : i < 3 := by
      have := (List.getElem?_eq_some_iff.mp hx).1
      rwa [List.length_map, vec_len] at this
    have ex : x = .int (f i) := by rw [List.getElem?_map, vec_get hi] at hx; exact (Option.some.inj hx).symm
    subst ex
    obtain ⟨f0, f1⟩ := hf i hi
    have zr := hs.rest hf (Nat.le_of_lt hi)
    have zl := hs.laid hf hi
    have zf := sz_whole f0 f1
    have o1 : OkQ (restQ f q i) := zr.ok (by decide) (by decide)
    have o2 : OkQ (laidQ f q i) := zl.ok (by decide) (by decide)
    have z8 : SzQ ((f i : Int) : Rat) 8999 8999 := zf.mono (by decide) (by decide)
    have hvl : vs.length ≤ 3 := by have := hvs.length; rw [List.length_map, List.length_range] at this; omega
    walk_at "x"
    refine x_tupQ (q := ((f i : Int) : Rat)) ⟨rfl, rfl⟩ ?_
    intro t H2 e2 ht
    refine x_nil ?_
    refine spLeast_j (e2.at hp) ht (zr.mono (by decide) (by decide)) (zf.mono (by decide) (by decide)) fun c hc => ?_
    have hc' : IsQ H2 c (laidQ f q i) := hc
    have hp2 : IsQ H2 p (restQ f q i) := e2.at hp
    walk_at "x"
    · rename_i r2 H3 e3 hr3 h0
      refine x_tupQ (q := ((f i : Int) : Rat)) ⟨rfl, rfl⟩ ?_
      intro t2 H4 e4 ht2
      have hnz : ((f i : Int) : Rat).num ≠ 0 := by show f i ≠ 0; omega
      have hc4 : IsQ H4 c (laidQ f q i) := e4.at (e3.at hc')
      have hs4 : H4 sh = some (.lst vs) := e4.at (e3.at (e2.at hs1))
      refine x_nil ?_
      refine spOver0_i hc4 ht2 o2 z8 hnz ?_
      intro r3 H5 e5 hr5
      walk_at "x"
      rename_i H6 b6 h6
      refine ⟨r2, vs ++ [.ref r3], _, _, rfl, ?_, h6, ?_, by walk_at "h"⟩
      · show IsQ H6 r2 (restQ f q i - laidQ f q i)
        walk_at "h"
      · rw [List.range_succ, List.map_append, List.map_singleton, show shareQ f q i = laidQ f q i / ((f i : Int) : Rat) from if_pos h0]
        exact IsQs.app (by walk_at "h") (by walk_at "h")
    · rename_i r2 H3 e3 hr3 h0
      refine x_tupQ (q := (0 : Rat)) ⟨rfl, rfl⟩ ?_
      intro r3 H5 e5 hr5
      have hs4 : H5 sh = some (.lst vs) := e5.at (e3.at (e2.at hs1))
      walk_at "x"
      rename_i H6 b6 h6
      refine ⟨r2, vs ++ [.ref r3], _, _, rfl, ?_, h6, ?_, by walk_at "h"⟩
      · show IsQ H6 r2 (restQ f q i - laidQ f q i)
        walk_at "h"
      · rw [List.range_succ, List.map_append, List.map_singleton, show shareQ f q i = 0 from if_neg h0]
        exact IsQs.app (by walk_at "h") (by walk_at "h")
  · rintro σ' H1 ⟨p, vs, f4, f5, rfl, hp, hs1, hvs, e1⟩
    rw [List.length_map, vec_len] at hvs
    walk_at "x"
    exact k _ _ _ fsh e1 hs1 hvs
theorem ok_paid (T : Txt K mg) : FnOk P w K mg base (CXF P w) 5 T.d_paid.a T.d_paid.fd ["sheet", "lays"] (spPaidV K) := by
  refine T.d_paid.F.okN sc_paid (fun vs H Q E h => ?_) (fun cdv A outer s H vs Q E hr h => ?_)
  · obtain ⟨a, y, ds, ws, qs, rfl, _⟩ := h; rfl
  obtain ⟨a, y, ds, ws, qs, rfl, ⟨xs, hS, hT⟩, hy, hq, hd, hl, h9, hs, k⟩ := h
  have hwl := hq.length
  have hdo : ∀ d ∈ ds, DueOk (ws.length : Int) d := by rw [hwl]; exact fun d h => (hd d h).1
  have hSh : IsSh K H a ds := ⟨xs, hS, hT⟩
  refine ⟨_, (pss_cons (ps_set (i := 2) sc_paid.nd rfl (Or.inr rfl) (pe_call (ok_ranked T) (hr.mono (by decide)) rfl T.d_ranked.m T.d_ranked.F.kp T.d_ranked.b .nil (passN nox_F) (pa_cons (pe_callB (show CallR _ _ (rLen K) from call_lenU) rfl T.z_len BT.len (pa_cons (pv 1) pa_nil)) (pa_cons (pv 0) pa_nil))))
 (pss_cons (ps_set (i := 3) sc_paid.nd rfl (Or.inr rfl) (pe_comp rfl (show PI _ _ _ (iEnum K _) from pi_enum rfl T.z_enumerate (pa_cons (pv 1) pa_nil)) (compScope_of (Ni := ["member", "lay", "owed"]) (caps := [none, none, some 2]) (by rfl)) (fun S _ _ _ _ _ => (show PG _ _ (gTup K 2 _) from pg_tup (n := 2) rfl (pgs_cons (pg_nameC (gi := 0) S (Or.inl rfl) rfl) (pgs_cons (pg_nameC (gi := 1) S (Or.inl rfl) rfl) pgs_nil)))) (fun _ _ _ _ _ => pf_nil) (fun _ _ _ _ _ => (pe_call (ok_shares_paid T) (hr.mono (by decide)) rfl T.d_shares_paid.m T.d_shares_paid.F.kp T.d_shares_paid.b .nil (passN nox_F) (pa_cons (pe_ix (show IxR _ (rIx K) from ix_seq) (pv 2) (pv 0) (fun _ _ => rfl)) (pa_cons (pv 1) pa_nil))))))
 (pss_one (ps_ret (pe_comp rfl (show PI _ _ _ (iList K _) from pi_list (pv 0)) (compScope_of (Ni := ["due", "shares"]) (caps := [none, some 3]) (by rfl)) (fun S _ _ _ _ _ => (pg_nameC (gi := 0) S (Or.inl rfl) rfl)) (fun _ _ _ _ _ => pf_nil) (fun _ _ _ _ _ => (pe_call (ok_times T) (hr.mono (by decide)) rfl T.d_times.m T.d_times.F.kp T.d_times.b .nil (passN nox_F) (pa_cons (pe_tup (pa_cons (pe_ix (show IxR _ (rIx K) from ix_seq) (pv 0) pe_int (fun _ _ => rfl)) (pa_cons pe_int pa_nil))) (pa_cons (pe_ix (show IxR _ (rIx K) from ix_seq) (pe_ix (show IxR _ (rIx K) from ix_seq) (pv 1) (pe_ix (show IxR _ (rIx K) from ix_seq) (pv 0) pe_int (fun _ _ => rfl)) (fun _ _ => rfl)) (pe_ix (show IxR _ (rIx K) from ix_seq) (pv 0) pe_int (fun _ _ => rfl)) (fun _ _ => rfl)) pa_nil))))))))), ?_⟩
  refine x_start (σ0 := [some (.ref a), some (.ref y), none, none]) rfl ?_
  walk_at "x"
  rename_i su H1 as fsu e1 hsu hal hR hF
  rw [Int.toNat_natCast] at hal
  have hq1 := hq.same e1
  have hy1 := e1.at hy
  have hbnd : ∀ i j, j < 3 → 0 ≤ rankF ds i j ∧ rankF ds i j ≤ 100000000000000 := fun i j _ => by
    have := rank_bnd (m := i) (r := j) ds fun d h => ⟨(hd d h).1.2.2.2.2.2.2.2.1, (hd d h).2⟩
    omega
  refine x_compS2 (src_enum (K := K) (a := y) (xs := ws)) (fun H' e => SqL.of (e.at hy1)) rfl (fun i vs H' => ∃ as : List Addr, vs = as.map V.ref ∧ as.length = i ∧ ∀ (m : Nat) (b : Addr), as[m]? = some b → ∃ us, H' b = some (.lst us) ∧ H1 b = none ∧ IsQs H' us ((List.range 3).map (shareQ (rankF ds m) (qs.getD m 0)))) (fun H' _ => ⟨[], rfl, rfl, fun m b h => nomatch h⟩) ?_ ?_
  · rintro i x D vs o o' H2 H3 hi hD e2 hv hvl ⟨bs, rfl, hbl, hbs⟩ e3 ⟨t, v, rfl, hx, ht⟩
    obtain ⟨b, q, rfl, hqi, hb⟩ := (hq1.same (e2.trans e3)).get hx
    have ht' : H3 t = some (.tup [.int (i : Int), .ref b]) := ht
    obtain ⟨c, hc⟩ := lt_some (show ((i : Int)).toNat < as.length by omega)
    have hrow := (hR.same (e2.trans e3)).2 _ _ hc
    rw [Int.toNat_natCast] at hrow
    have hf := hbnd i
    have hsq := hs.lay (List.mem_of_getElem? hqi)
    have hsu3 : H3 su = some (.lst (as.map V.ref)) := (e2.trans e3).at hsu
    have hqd : qs.getD i 0 = q := by rw [List.getD_eq_getElem?_getD, hqi]; rfl
    walk_at "x"
    rename_i sp H4 us fsp e4 hsp hus H5 b5 h5
    have hspD : sp ≠ D := ne_new' fsp (e3.at hv)
    refine ⟨⟨_, _, rfl⟩, by walk_at "h", _, h5, by rw [List.length_append]; exact Nat.succ_le_succ hvl, bs ++ [sp], by rw [List.map_append]; rfl, by rw [List.length_append, hbl]; rfl, fun m b' hb' => ?_⟩
    rw [List.getElem?_append] at hb'
    split at hb'
    · obtain ⟨us', u1, u2, u3⟩ := hbs m b' hb'
      have hne : b' ≠ D := fun z => by
        subst z
        rw [hv] at u1
        cases u1
        cases bs with
        | nil => cases hb'
        | cons z0 zs =>
          obtain ⟨us0, w1, _, _⟩ := hbs 0 z0 rfl
          have u3' : IsQs H2 (V.ref z0 :: zs.map V.ref) (shareQ (rankF ds m) (qs.getD m 0) 0 :: [shareQ (rankF ds m) (qs.getD m 0) 1, shareQ (rankF ds m) (qs.getD m 0) 2]) := u3
          obtain ⟨⟨a0, w2, w3⟩, _⟩ := u3'
          cases w2
          have w3' : H2 z0 = some (.tup _) := w3
          rw [w1] at w3'; cases w3'
      exact ⟨us', b5.lst (e4.at (e3.at u1)) hne, u2, LBut.isQs b5 (u3.same (e3.trans e4))⟩
    · rename_i hm
      have e0 : m - bs.length = 0 := by
        cases e : m - bs.length with
        | zero => rfl
        | succ k => rw [e] at hb'; cases hb'
      rw [e0] at hb'; cases hb'
      obtain rfl : m = i := by omega
      rw [hqd]
      exact ⟨us, b5.lst hsp hspD, Same.none (Same.none fsp e3) e2, LBut.isQs b5 hus⟩
  rintro shs H2 vs fshs e2 hshs hvl ⟨bs, rfl, hbl, hbs⟩
  walk_at "x"
  have hT2 := hT.same (e1.trans e2)
  have hS2 : SqL K H2 a xs := (e1.trans e2).seq hS
  have hxl := hT.length
  refine x_compS1 (src_list (K := K) (a := a) (xs := xs)) (fun H' e => e.seq hS2) rfl (fun i vs H' => IsQs H' vs ((ds.take i).map (payQ ds qs))) (fun H' _ => trivial) ?_ ?_
  · rintro i x D vs o H3 H4 hi hD e3 hv hvl hvs e4 hx
    obtain ⟨b, d, rfl, hdi, hb⟩ := (hT2.same (e3.trans e4)).get hx
    have hb' : H4 b = some (.tup [.int d.p, .int d.q, .int d.r, .int d.a]) := hb
    obtain ⟨⟨p0, p1, q0, q1, pq, r0, r1, a0, a1⟩, a2⟩ := hd d (List.mem_of_getElem? hdi)
    obtain ⟨c, hc⟩ := lt_some (show d.p.toNat < bs.length by omega)
    obtain ⟨us, u1, u2, u3⟩ := hbs _ _ hc
    have ul := u3.length
    rw [List.length_map, List.length_range] at ul
    obtain ⟨v, hv3⟩ := lt_some (show d.r.toNat < us.length by omega)
    obtain ⟨e, s, rfl, hs1, hs2⟩ := (u3.same (e3.trans e4)).get hv3
    have hr3 : d.r.toNat < 3 := by omega
    have es : s = shareQ (rankF ds d.p.toNat) (qs.getD d.p.toNat 0) d.r.toNat := by
      rw [List.getElem?_map, List.getElem?_range hr3] at hs1
      exact (Option.some.inj hs1).symm
    have hat : atI us d.r = some (.ref e) := atI_lt r0 hv3
    have u14 : H4 c = some (.lst us) := (e3.trans e4).at u1
    have hsh4 : H4 shs = some (.lst (bs.map V.ref)) := (e3.trans e4).at hshs
    obtain ⟨lq, hlq⟩ := lt_some (show d.p.toNat < qs.length by omega)
    have hqd : qs.getD d.p.toNat 0 = lq := by rw [List.getD_eq_getElem?_getD, hlq]; rfl
    have zs := hs.share hd (List.mem_of_getElem? hdi) hlq
    rw [← hqd, ← es] at zs
    have o1 : OkQ ((d.a : Int) : Rat) := (sz_whole a0 a1).ok (by decide) (by decide)
    have o2 : OkQ s := zs.ok (by decide) (by decide)
    walk_at "x"
    refine x_tupQ (q := ((d.a : Int) : Rat)) ⟨rfl, rfl⟩ ?_
    intro t H5 e5 ht
    have hs5 : IsQ H5 e s := e5.at hs2
    have u15 := e5.at u14
    have hsh5 := e5.at hsh4
    have hb5 := e5.at hb'
    walk_at "x"
    rename_i p H6 e6 hp6 H7 b7 h7
    refine ⟨⟨_, rfl⟩, by walk_at "h", _, h7, by rw [List.length_append]; exact Nat.succ_le_succ hvl, ?_⟩
    show IsQs H7 _ ((ds.take (i + 1)).map (payQ ds qs))
    rw [take_snoc hdi, List.map_append, List.map_singleton, show payQ ds qs d = ((d.a : Int) : Rat) * s by rw [es]; rfl]
    exact IsQs.app (by walk_at "h") (by walk_at "h")
  · rintro D H3 vs hD e3 hv hvl hvs
    rw [hxl, List.take_length] at hvs
    exact k _ _ _ (Same.none (Same.none hD e2) e1) (e1.trans (e2.trans e3)) hv hvs
theorem ok_got (T : Txt K mg) : FnOk P w K mg base (CXF P w) 6 T.d_got.a T.d_got.fd ["sheet", "lays"] (spGotV K) := by
  refine T.d_got.F.okN sc_got (fun vs H Q E h => ?_) (fun cdv A outer s H vs Q E hr h => ?_)
  · obtain ⟨a, y, ds, ws, qs, rfl, _⟩ := h; rfl
  obtain ⟨a, y, ds, ws, qs, rfl, ⟨xs, hS, hT⟩, hy, hq, hd, hl, h9, hs, k⟩ := h
  have hwl := hq.length
  have hxl := hT.length
  have hSh : IsSh K H a ds := ⟨xs, hS, hT⟩
  refine ⟨_, (pss_cons (ps_setC (i := 2) sc_got.nd rfl rfl rfl (show PI _ _ _ (iList K _) from pi_list (pv 1)) (compScope_of (Ni := ["lay"]) (caps := [none]) (by rfl)) (fun S _ _ _ _ _ => (pg_nameC (gi := 0) S (Or.inl rfl) rfl)) (fun _ _ _ _ _ => pf_nil) (fun _ _ _ _ _ => (pe_lst pa_nil)))
 (pss_cons (ps_for PassesOwn.never rfl (show PI _ _ _ (iEnum K _) from pi_enum rfl T.z_enumerate (pa_cons (pe_call (ok_paid T) (hr.mono (by decide)) rfl T.d_paid.m T.d_paid.F.kp T.d_paid.b .nil (passN nox_F) (pa_cons (pv 0) (pa_cons (pv 1) pa_nil))) pa_nil)) (show PG _ _ (gTup K 2 _) from pg_tup (n := 2) rfl (pgs_cons (pg_name (i := 3) sc_got.nd rfl (Or.inl rfl)) (pgs_cons (pg_name (i := 4) sc_got.nd rfl (Or.inl rfl)) pgs_nil)))
  (pss_one (ps_expr (show PE _ _ (tBM K _ _ _ _) from pe_bm PySem.F.plainAttrs_list PySem.F.slot_list_append PySem.F.type_list_append mt_append (pe_ix (show IxR _ (rIx K) from ix_seq) (pv 2) (pe_ix (show IxR _ (rIx K) from ix_seq) (pe_ix (show IxR _ (rIx K) from ix_seq) (pv 0) (pv 3) (fun _ _ => rfl)) pe_int (fun _ _ => rfl)) (fun _ _ => rfl)) (pa_cons (pv 4) pa_nil)))))
 (pss_one (ps_ret (pe_comp rfl (show PI _ _ _ (iList K _) from pi_list (pv 2)) (compScope_of (Ni := ["some"]) (caps := [none]) (by rfl)) (fun S _ _ _ _ _ => (pg_nameC (gi := 0) S (Or.inl rfl) rfl)) (fun _ _ _ _ _ => pf_nil) (fun _ _ _ _ _ => (pe_call (ok_total T) (hr.mono (by decide)) rfl T.d_total.m T.d_total.F.kp T.d_total.b .nil (passN nox_F) (pa_cons (pv 0) pa_nil)))))))), ?_⟩
  refine x_start (σ0 := [some (.ref a), some (.ref y), none, none, none]) rfl ?_
  walk_at "x"
  refine x_compS1 (src_list (K := K) (a := y) (xs := ws)) (fun H' e => SqL.of (e.at hy)) rfl (fun i vs H' => ∃ as : List Addr, vs = as.map V.ref ∧ as.length = i ∧ PRows H' as (fun _ => []) ∧ (∀ b ∈ as, H b = none) ∧ ∀ b ∈ as, H' b = some (.lst [])) (fun H' _ => ⟨[], rfl, rfl, ⟨List.nodup_nil, fun i a h => nomatch h⟩, (fun _ h => nomatch h), fun _ h => nomatch h⟩) ?_ ?_
  · rintro i x D vs o H2 H3 hi hD e2 hv hvl ⟨as, rfl, hal, hR, hF, hE⟩ e3 hx
    walk_at "x"
    rename_i p H4 fp e4 hp H5 b5 h5
    have hD' : D ∉ as := fun z => by
      have := hE D z
      rw [hv] at this
      cases as with
      | nil => cases z
      | cons z0 zs => cases this
    have hpD : p ≠ D := ne_new' fp (e3.at hv)
    refine ⟨⟨_, rfl⟩, by walk_at "h", _, h5, by rw [List.length_append]; exact Nat.succ_le_succ hvl, as ++ [p], by rw [List.map_append]; rfl, by rw [List.length_append, hal]; rfl, PRows.app ((hR.same (e3.trans e4)).but b5 hD') ((hR.same e3).fresh fp) (b5.lst hp hpD) rfl, fun b hb => ?_, fun b hb => ?_⟩
    · rcases List.mem_append.mp hb with h | h
      · exact hF b h
      · rw [List.mem_singleton.mp h]; exact Same.none fp (e2.trans e3)
    · rcases List.mem_append.mp hb with h | h
      · exact b5.lst ((e3.trans e4).at (hE b h)) fun z => hD' (z ▸ h)
      · rw [List.mem_singleton.mp h]; exact b5.lst hp hpD
  rintro ga H1 vs fga e1 hga hvl ⟨as, rfl, hal, hR, hF, hE⟩
  walk_at "x"
  rename_i pl H2 us fpl e2 hpl hus
  have hul := hus.length
  rw [List.length_map] at hul
  have npl : pl ∉ as := hR.fresh fpl
  have nga : ga ∉ as := fun z => by
    have := hE ga z
    rw [hga] at this
    cases as with
    | nil => cases z
    | cons z0 zs => cases this
  refine x_forS (src_enum (K := K) (a := pl) (xs := us)) (fun i σ' H' => ∃ f3 f4 : Option V, σ' = [some (.ref a), some (.ref y), some (.ref ga), f3, f4] ∧ H' pl = some (.lst us) ∧ IsQs H' us (ds.map (payQ ds qs)) ∧ H' ga = some (.lst (as.map V.ref)) ∧ PRows H' as (gainF (ds.take i) (payQ ds qs)) ∧ Same H H') ⟨_, _, rfl, hpl, hus, e2.at hga, hR.same e2, e1.trans e2⟩ ?_ ?_ ?_
  · rintro i σ' H' ⟨_, _, _, h, _⟩; exact SqL.of h
  · rintro i x σ' H3 H4 hi ⟨f3, f4, rfl, hpl3, hus3, hga3, hR3, e3⟩ e4 ⟨t, v, rfl, hx, htt⟩
    obtain ⟨d, hdi⟩ := lt_some (show i < ds.length by omega)
    obtain ⟨⟨p0, p1, q0, q1, pq, r0, r1, a0, a1⟩, a2⟩ := hd d (List.mem_of_getElem? hdi)
    obtain ⟨b, r, rfl, hri, hb⟩ := (hus3.same e4).get hx
    have er : r = payQ ds qs d := by rw [List.getElem?_map, hdi] at hri; exact (Option.some.inj hri).symm
    subst er
    have ht' : H4 t = some (.tup [.int (i : Int), .ref b]) := htt
    obtain ⟨c, hc1, hc2⟩ := (hT.same (e3.trans e4)).getI hdi
    have hc' : H4 c = some (.tup [.int d.p, .int d.q, .int d.r, .int d.a]) := hc2
    have hat : atI xs (i : Int) = some (.ref c) := atI_nat hc1
    obtain ⟨l, hl1⟩ := lt_some (show d.q.toNat < as.length by omega)
    obtain ⟨zs, z1, z2⟩ := (hR3.same e4).2 _ _ hl1
    have hzl := z2.length
    have hzl2 := gainF_len (ds := ds.take i) (g := payQ ds qs) (m := d.q.toNat)
    rw [List.length_take] at hzl2
    have hlm := List.mem_of_getElem? hl1
    have fl := hF l hlm
    have hga4 := e4.at hga3
    have hS4 : SqL K H4 a xs := (e3.trans e4).seq hS
    walk_at "x"
    rename_i H5 b5 h5
    have nl1 : pl ≠ l := fun z => npl (z ▸ hlm)
    have nl2 : ga ≠ l := fun z => nga (z ▸ hlm)
    have R5 := (hR3.same e4).set b5 hl1 z1 hb h5
    refine ⟨_, _, rfl, b5.lst (e4.at hpl3) nl1, LBut.isQs b5 (hus3.same e4), b5.lst hga4 nl2, ?_, by walk_at "h"⟩
    refine ⟨R5.1, fun m bb hbb => ?_⟩
    obtain ⟨vs', w1, w2⟩ := R5.2 m bb hbb
    refine ⟨vs', w1, ?_⟩
    rw [take_snoc hdi, gainF_snoc]
    by_cases e : d.q = (m : Int)
    · rw [if_pos e]
      have w2' : IsQs H5 vs' (if m = d.q.toNat then gainF (ds.take i) (payQ ds qs) m ++ [payQ ds qs d] else gainF (ds.take i) (payQ ds qs) m) := w2
      rw [if_pos (by omega)] at w2'
      exact w2'
    · rw [if_neg e, List.append_nil]
      have w2' : IsQs H5 vs' (if m = d.q.toNat then gainF (ds.take i) (payQ ds qs) m ++ [payQ ds qs d] else gainF (ds.take i) (payQ ds qs) m) := w2
      rw [if_neg (by omega)] at w2'
      exact w2'
  · rintro σ' H3 ⟨f3, f4, rfl, hpl3, hus3, hga3, hR3, e3⟩
    rw [hul, List.take_length] at hR3
    walk_at "x"
    refine x_compS1 (src_list (K := K) (a := ga) (xs := as.map V.ref)) (fun H' e => SqL.of (e.at hga3)) rfl (fun i vs H' => IsQs H' vs ((List.range i).map (gotF ds (payQ ds qs)))) (fun H' _ => trivial) ?_ ?_
    · rintro i x D vs o H4 H5 hi hD e4 hv hvl hvs e5 hx
      rw [List.length_map] at hi
      obtain ⟨l, hl1⟩ := lt_some hi
      have ex : x = .ref l := by rw [List.getElem?_map, hl1] at hx; exact (Option.some.inj hx).symm
      subst ex
      obtain ⟨zs, z1, z2⟩ := (hR3.same (e4.trans e5)).2 _ _ hl1
      have o1 := hs.gain hd i
      have o2 := hs.sums hd hl i
      walk_at "x"
      rename_i p H6 e6 hp6 H7 b7 h7
      refine ⟨⟨_, rfl⟩, by walk_at "h", _, h7, by rw [List.length_append]; exact Nat.succ_le_succ hvl, ?_⟩
      show IsQs H7 _ ((List.range (i + 1)).map (gotF ds (payQ ds qs)))
      rw [List.range_succ, List.map_append, List.map_singleton]
      exact IsQs.app (LBut.isQ b7 hp6) (by walk_at "h")
    · rintro D H4 vs hD e4 hv hvl hvs
      rw [List.length_map, hal, hwl] at hvs
      exact k D H4 vs (Same.none hD e3) (e3.trans e4) hv hvs

theorem ok_next_lays (T : Txt K mg) : FnOk P w K mg base (CXF P w) 7 T.d_next_lays.a T.d_next_lays.fd ["sheet", "purses", "lays"] (spNextV K) := by
  refine T.d_next_lays.F.okN sc_next_lays (fun vs H Q E h => ?_) (fun cdv A outer s H vs Q E hr h => ?_)
  · obtain ⟨a, u, y, ds, ps, ws, qs, rfl, _⟩ := h; rfl
  obtain ⟨a, u, y, ds, ps, ws, qs, rfl, hSh, hu, hy, hq, hd, hl, h9, hpl, hp, hs, k⟩ := h
  have hwl := hq.length
  have hdo : ∀ d ∈ ds, DueOk (ws.length : Int) d := by rw [hwl]; exact fun d h => (hd d h).1
  refine ⟨_, (pss_cons (ps_set (i := 3) sc_next_lays.nd rfl (Or.inr rfl) (pe_call (ok_owes T) (hr.mono (by decide)) rfl T.d_owes.m T.d_owes.F.kp T.d_owes.b .nil (passN nox_F) (pa_cons (pe_callB (show CallR _ _ (rLen K) from call_lenU) rfl T.z_len BT.len (pa_cons (pv 2) pa_nil)) (pa_cons (pv 0) pa_nil))))
 (pss_cons (ps_set (i := 4) sc_next_lays.nd rfl (Or.inr rfl) (pe_call (ok_got T) (hr.mono (by decide)) rfl T.d_got.m T.d_got.F.kp T.d_got.b .nil (passN nox_F) (pa_cons (pv 0) (pa_cons (pv 2) pa_nil))))
 (pss_one (ps_ret (pe_comp rfl (show PI _ _ _ (iEnum K _) from pi_enum rfl T.z_enumerate (pa_cons (pv 1) pa_nil)) (compScope_of (Ni := ["member", "purse", "owed", "gains"]) (caps := [none, none, some 3, some 4]) (by rfl)) (fun S _ _ _ _ _ => (show PG _ _ (gTup K 2 _) from pg_tup (n := 2) rfl (pgs_cons (pg_nameC (gi := 0) S (Or.inl rfl) rfl) (pgs_cons (pg_nameC (gi := 1) S (Or.inl rfl) rfl) pgs_nil)))) (fun _ _ _ _ _ => pf_nil) (fun _ _ _ _ _ => (pe_call (ok_least T) (hr.mono (by decide)) rfl T.d_least.m T.d_least.F.kp T.d_least.b .nil (passN nox_F) (pa_cons (pe_tup (pa_cons (pe_ix (show IxR _ (rIx K) from ix_seq) (pv 2) (pv 0) (fun _ _ => rfl)) (pa_cons pe_int pa_nil))) (pa_cons (pe_call (ok_plus T) (hr.mono (by decide)) rfl T.d_plus.m T.d_plus.F.kp T.d_plus.b .nil (passN nox_F) (pa_cons (pe_tup (pa_cons (pv 1) (pa_cons pe_int pa_nil))) (pa_cons (pe_ix (show IxR _ (rIx K) from ix_seq) (pv 3) (pv 0) (fun _ _ => rfl)) pa_nil))) pa_nil))))))))), ?_⟩
  refine x_start (σ0 := [some (.ref a), some (.ref u), some (.ref y), none, none]) rfl ?_
  walk_at "x"
  rename_i ow H1 fow e1 how ga H2 us fga e2 hga hus
  have hul := hus.length
  rw [List.length_map, List.length_range] at hul
  have hu2 := e2.at (e1.at hu)
  refine x_compS2 (src_enum (K := K) (a := u) (xs := ps.map V.int)) (fun H' e => SqL.of (e.at hu2)) rfl (fun i vs H' => IsQs H' vs ((List.range i).map (nextF ds ps qs))) (fun H' _ => trivial) ?_ ?_
  · rintro i x D vs o o' H3 H4 hi hD e3 hv hvl hvs e4 ⟨t, v, rfl, hx, ht⟩
    rw [List.length_map] at hi
    obtain ⟨p, hpi⟩ := lt_some hi
    have ex : v = .int p := by rw [List.getElem?_map, hpi] at hx; exact (Option.some.inj hx).symm
    subst ex
    have ht' : H4 t = some (.tup [.int (i : Int), .int p]) := ht
    obtain ⟨p0, p1⟩ := hp p (List.mem_of_getElem? hpi)
    have hpd : ps.getD i 0 = p := by rw [List.getD_eq_getElem?_getD, hpi]; rfl
    have ho : owesF ds i = sumI (vec 3 (rankF ds i)) := owes_ranks fun d h => ⟨(hd d h).1.2.2.2.2.2.1, (hd d h).1.2.2.2.2.2.2.1⟩
    have how4 : H4 ow = some (.lst ((vec (ws.length : Int).toNat (owesF ds)).map V.int)) := e4.at (e3.at (e2.at how))
    have hat : atI ((vec (ws.length : Int).toNat (owesF ds)).map V.int) (i : Int) = some (.int (sumI (vec 3 (rankF ds i)))) := by rw [← ho]; exact atI_nat (by rw [List.getElem?_map, vec_get (by omega)]; rfl)
    obtain ⟨v, hvu⟩ := lt_some (show i < us.length by omega)
    obtain ⟨g, r, rfl, hri, hg⟩ := (hus.same (e3.trans e4)).get hvu
    have hatg : atI us (i : Int) = some (.ref g) := atI_nat hvu
    have er : r = gotF ds (payQ ds qs) i := by rw [List.getElem?_map, List.getElem?_range (by omega)] at hri; exact (Option.some.inj hri).symm
    subst er
    have hga4 : H4 ga = some (.lst us) := e4.at (e3.at hga)
    have hb := sum3_bnd hd hl i
    have o1 : OkQ ((p : Int) : Rat) := (sz_whole p0 p1).ok (by decide) (by decide)
    have o2 : OkQ (gotF ds (payQ ds qs) i) := (hs.got hd hl i).ok (by decide) (by decide)
    have z1 : SzQ (owedQ ds i) 60000 60000 := (owed_lay hd hl i).2.mono (by decide) (by decide)
    have z2 : SzQ (((p : Int) : Rat) + gotF ds (payQ ds qs) i) 60000 60000 := (hs.next (ps := ps) hd hl p0 p1 i).mono (by decide) (by decide)
    walk_at "x"
    refine x_tupQ (q := owedQ ds i) ⟨by rw [Int.toNat_natCast]; exact ho, rfl⟩ ?_
    intro t1 H5 e5 ht1
    have hga5 := e5.at hga4
    have ht5 := e5.at ht'
    walk_at "x"
    refine x_tupQ (q := ((p : Int) : Rat)) ⟨rfl, rfl⟩ ?_
    intro t2 H6 e6 ht2
    have hga6 := e6.at hga5
    have ht6 := e6.at ht5
    have hg6 : IsQ H6 g (gotF ds (payQ ds qs) i) := e6.at (e5.at hg)
    walk_at "x"
    · rename_i t3 H7 e7 ht3 hc H8 b8 h8
      refine ⟨⟨_, _, rfl⟩, by walk_at "h", _, h8, by rw [List.length_append]; exact Nat.succ_le_succ hvl, ?_⟩
      show IsQs H8 _ ((List.range (i + 1)).map (nextF ds ps qs))
      rw [List.range_succ, List.map_append, List.map_singleton]
      refine IsQs.app (LBut.isQ b8 ?_) (by walk_at "h")
      unfold nextF
      rw [hpd, if_pos hc]
      exact ht3
    · rename_i t3 H7 e7 ht3 hc H8 b8 h8
      refine ⟨⟨_, _, rfl⟩, by walk_at "h", _, h8, by rw [List.length_append]; exact Nat.succ_le_succ hvl, ?_⟩
      show IsQs H8 _ ((List.range (i + 1)).map (nextF ds ps qs))
      rw [List.range_succ, List.map_append, List.map_singleton]
      refine IsQs.app (LBut.isQ b8 ?_) (by walk_at "h")
      unfold nextF
      rw [hpd, if_neg hc]
      exact e7.at (e6.at ht1)
  · rintro D H3 vs hD e3 hv hvl hvs
    rw [List.length_map] at hvs
    exact k D H3 vs (Same.none (Same.none hD e2) e1) (e1.trans (e2.trans e3)) hv hvs
theorem ok_are_lays (T : Txt K mg) : FnOk P w K mg base (CXF P w) 2 T.d_are_lays.a T.d_are_lays.fd ["sheet", "lays"] (spAreLays K) := by
  refine T.d_are_lays.F.okN sc_are_lays (fun vs H Q E h => ?_) (fun cdv A outer s H vs Q E hr h => ?_)
  · obtain ⟨a, y, ds, ws, qs, rfl, _⟩ := h; rfl
  obtain ⟨a, y, ds, ws, qs, rfl, hSh, hy, hq, hd, hl, h9, hs, k, k'⟩ := h
  have hwl := hq.length
  have hdo : ∀ d ∈ ds, DueOk (ws.length : Int) d := by rw [hwl]; exact fun d h => (hd d h).1
  refine ⟨_, (pss_cons (ps_set (i := 2) sc_are_lays.nd rfl (Or.inr rfl) (pe_call (ok_owes T) (hr.mono (by decide)) rfl T.d_owes.m T.d_owes.F.kp T.d_owes.b .nil (passN nox_F) (pa_cons (pe_callB (show CallR _ _ (rLen K) from call_lenU) rfl T.z_len BT.len (pa_cons (pv 1) pa_nil)) (pa_cons (pv 0) pa_nil))))
 (pss_one (ps_ret (pe_callB (show CallR _ _ (rAllL K) from call_allL rfl) rfl T.z_all BT.all (pa_cons (pe_comp rfl (show PI _ _ _ (iEnum K _) from pi_enum rfl T.z_enumerate (pa_cons (pv 1) pa_nil)) (compScope_of (Ni := ["member", "lay", "owed"]) (caps := [none, none, some 2]) (by rfl)) (fun S _ _ _ _ _ => (show PG _ _ (gTup K 2 _) from pg_tup (n := 2) rfl (pgs_cons (pg_nameC (gi := 0) S (Or.inl rfl) rfl) (pgs_cons (pg_nameC (gi := 1) S (Or.inl rfl) rfl) pgs_nil)))) (fun _ _ _ _ _ => pf_nil) (fun _ _ _ _ _ => (pe_and (show PE _ _ (tNotU K _) from pe_notU (pe_call (ok_under T) (hr.mono (by decide)) rfl T.d_under.m T.d_under.F.kp T.d_under.b .nil (passN nox_F) (pa_cons (pv 1) (pa_cons (pe_tup (pa_cons pe_int (pa_cons pe_int pa_nil))) pa_nil)))) (pe_one (show PE _ _ (tNotU K _) from pe_notU (pe_call (ok_under T) (hr.mono (by decide)) rfl T.d_under.m T.d_under.F.kp T.d_under.b .nil (passN nox_F) (pa_cons (pe_tup (pa_cons (pe_ix (show IxR _ (rIx K) from ix_seq) (pv 2) (pv 0) (fun _ _ => rfl)) (pa_cons pe_int pa_nil))) (pa_cons (pv 1) pa_nil)))))))) pa_nil))))), ?_⟩
  refine x_start (σ0 := [some (.ref a), some (.ref y), none]) rfl ?_
  walk_at "x"
  rename_i ow H1 fow e1 how
  have hy1 := e1.at hy
  have hq1 := hq.same e1
  refine x_compS2 (src_enum (K := K) (a := y) (xs := ws)) (fun H' e => SqL.of (e.at hy1)) rfl (fun i vs _ => vs = blL i (layB ds qs)) (fun H' _ => rfl) ?_ ?_
  · rintro i x D vs o o' H3 H4 hi hD e3 hv hvl rfl e4 ⟨t, v, rfl, hx, ht⟩
    obtain ⟨b, q, rfl, hqi, hb⟩ := (hq1.same (e3.trans e4)).get hx
    have ht' : H4 t = some (.tup [.int (i : Int), .ref b]) := ht
    have hsq := hs q (List.mem_of_getElem? hqi)
    have hqd : qs.getD i 0 = q := by rw [List.getD_eq_getElem?_getD, hqi]; rfl
    have ho : owesF ds i = sumI (vec 3 (rankF ds i)) := owes_ranks fun d h => ⟨(hd d h).1.2.2.2.2.2.1, (hd d h).1.2.2.2.2.2.2.1⟩
    have how4 : H4 ow = some (.lst ((vec (ws.length : Int).toNat (owesF ds)).map V.int)) := e4.at (e3.at how)
    have hat : atI ((vec (ws.length : Int).toNat (owesF ds)).map V.int) (i : Int) = some (.int (sumI (vec 3 (rankF ds i)))) := by rw [← ho]; exact atI_nat (by rw [List.getElem?_map, vec_get (by omega)]; rfl)
    have z1 : SzQ (owedQ ds i) 60000 60000 := (owed_lay hd hl i).2.mono (by decide) (by decide)
    have z0 : SzQ (0 : Rat) 60000 60000 := (szQ_small (x := 0) (by decide) (by decide)).mono (by decide) (by decide)
    walk_at "x"
    refine x_tupQ (q := 0) ⟨rfl, rfl⟩ ?_
    intro t1 H5 e5 ht1
    have hb5 : IsQ H5 b q := e5.at hb
    have ht5 := e5.at ht'
    have how5 := e5.at how4
    walk_at "x"
    · rename_i hq0
      refine x_tupQ (q := owedQ ds i) ⟨by rw [Int.toNat_natCast]; exact ho, rfl⟩ ?_
      intro t2 H6 e6 ht2
      have hb6 : IsQ H6 b q := e6.at hb5
      have ht6 := e6.at ht5
      have el : layB ds qs i = !decide (owedQ ds i < q) := by unfold layB; rw [hqd, decide_eq_false hq0]; rfl
      walk_at "x"
      rename_i H7 b7 h7
      refine ⟨⟨_, _, rfl⟩, by walk_at "h", _, h7, by rw [List.length_append]; exact Nat.succ_le_succ hvl, ?_⟩
      dsimp only
      rw [blL_succ, el]
    · rename_i hq0 H7 b7 h7
      have el : layB ds qs i = false := by unfold layB; rw [hqd, decide_eq_true hq0]; rfl
      refine ⟨⟨_, _, rfl⟩, by walk_at "h", _, h7, by rw [List.length_append]; exact Nat.succ_le_succ hvl, ?_⟩
      dsimp only
      rw [blL_succ, el]
  rintro D H3 vs hD e3 hv hvl rfl
  rw [blL_map, hwl] at hv
  walk_at "x"
  show Q _ H3
  cases e : ((List.range qs.length).map (layB ds qs)).all id with
  | true => exact k _ (e1.trans e3) (layB_iff.mp e)
  | false => exact k' _ (e1.trans e3) fun z => by rw [layB_iff.mpr z] at e; cases e
theorem ok_is_clearing (T : Txt K mg) : FnOk P w K mg base (CXF P w) 8 T.d_is_clearing.a T.d_is_clearing.fd ["sheet", "purses", "lays"] (spIsClr K) := by
  refine T.d_is_clearing.F.okN sc_is_clearing (fun vs H Q E h => ?_) (fun cdv A outer s H vs Q E hr h => ?_)
  · obtain ⟨a, u, y, ds, ps, ws, qs, rfl, _⟩ := h; rfl
  obtain ⟨a, u, y, ds, ps, ws, qs, rfl, hSh, hu, hy, hq, hd, hl, h9, hpl, hp, hs, hg, k, k'⟩ := h
  refine ⟨_, (pss_cons (ps_if (pt_not (show PT _ _ (tTru K _) from pt_truthU (pe_call (ok_are_lays T) (hr.mono (by decide)) rfl T.d_are_lays.m T.d_are_lays.F.kp T.d_are_lays.b .nil (passN nox_F) (pa_cons (pv 0) (pa_cons (pv 2) pa_nil))) (fun _ => rfl)))
  (pss_one (ps_ret pe_bl))
  pss_nil)
 (pss_one (ps_ret (pe_cmpR (show OpR _ (compareOp .Eq) (rEqU K) from op_eqU hr.units) (pe_call (ok_next_lays T) (hr.mono (by decide)) rfl T.d_next_lays.m T.d_next_lays.F.kp T.d_next_lays.b .nil (passN nox_F) (pa_cons (pv 0) (pa_cons (pv 1) (pa_cons (pv 2) pa_nil)))) (pe_callTy (show CallR _ _ (rListOf K) from call_listU) rfl T.z_list BT.list (pa_cons (pv 2) pa_nil)) (nomark _))))), ?_⟩
  refine x_start (σ0 := [some (.ref a), some (.ref u), some (.ref y)]) rfl ?_
  walk_at "x"
  refine spAreLays_i hSh hy hq hd hl h9 hs ?_ ?_
  · intro H1 e1 hin
    have dp := hg hin
    have hu1 := e1.at hu
    have hy1 := e1.at hy
    have hq1 := hq.same e1
    have hSh1 := hSh.same e1
    walk_at "x"
    rename_i nx H2 us fnx e2 hnx hus li H3 fli e3 hli
    refine x_eqQsD (e3.at hnx) hli (hus.same e3) (hq1.same (e2.trans e3)) ?_
    by_cases z : (List.range ps.length).map (nextF ds ps qs) = qs
    · rw [decide_eq_true z]
      exact k _ (e1.trans (e2.trans e3)) ⟨hin, z⟩
    · rw [decide_eq_false z]
      exact k' _ (e1.trans (e2.trans e3)) fun h => z h.2
  · intro H1 e1 hin
    walk_at "x"
    exact k' _ e1 fun h => hin h.1

theorem ok__law_cell (T : Txt K mg) : FnOk P w K mg base (CXF P w) 1 T.d__law_cell.a T.d__law_cell.fd ["_law_script", "_law_k"] (spCell K) := by
  refine T.d__law_cell.F.okN sc__law_cell (fun vs H Q E h => ?_) (fun cdv A outer s H vs Q E hr h => ?_)
  · obtain ⟨a, ns, k, rfl, _⟩ := h; rfl
  obtain ⟨a, ns, k, rfl, hS, h0, q⟩ := h
  refine ⟨_, (pss_cons (ps_if (pt_cmpR op_lt (pv 1) (pe_callB (show CallR _ _ (rLen K) from call_lenU) rfl T.z_len BT.len (pa_cons (pv 0) pa_nil)) (nomark _))
  (pss_one (ps_ret (pe_ix (show IxR _ (rIx K) from ix_seq) (pv 0) (pv 1) (fun _ _ => rfl))))
  pss_nil)
 (pss_one (ps_ret pe_int))), ?_⟩
  refine x_start (σ0 := [some (.ref a), some (.int k)]) rfl ?_
  walk_at "x"
  · rename_i h
    exact x_ixL hS (cell_in h0 h) q
  · rename_i h
    rw [cell_out h] at q
    exact q
theorem ok__law_draw (T : Txt K mg) : FnOk P w K mg base (CXF P w) 2 T.d__law_draw.a T.d__law_draw.fd ["_law_script", "_law_k", "_law_prime", "_law_many_here"] (spDrawP K) := by
  refine T.d__law_draw.F.okN sc__law_draw (fun vs H Q E h => ?_) (fun cdv A outer s H vs Q E hr h => ?_)
  · obtain ⟨a, ns, k, p, m, rfl, _⟩ := h; rfl
  obtain ⟨a, ns, k, p, m, rfl, hS, hz, h0, h1, hp, hm, q⟩ := h
  have hk := sq_le h0 h1
  have hk' := Int.mul_nonneg h0 h0
  have hc := hz.cell k
  refine ⟨_, (pss_one (ps_ret (pe_op op_modU (pe_op op_modU (pe_op (show OpR _ (binaryOp .Add) (rAddU K) from op_addU) (pe_op (show OpR _ (binaryOp .Add) (rAddU K) from op_addU) (pe_op op_mulU (pe_call (ok__law_cell T) (hr.mono (by decide)) rfl T.d__law_cell.m T.d__law_cell.F.kp T.d__law_cell.b .nil (passN nox_F) (pa_cons (pv 0) (pa_cons (pv 1) pa_nil))) pe_int) (pe_op op_mulU (pe_op op_mulU pe_int (pv 1)) (pv 1))) pe_int) (pv 2)) (pv 3)))), ?_⟩
  refine x_start (σ0 := [some (.ref a), some (.int k), some (.int p), some (.int m)]) rfl ?_
  walk_at "x"
  exact q _ rfl (Int.emod_nonneg _ (by omega)) (Int.emod_lt_of_pos _ (by omega))
theorem ok__law_great (T : Txt K mg) : FnOk P w K mg base (CXF P w) 2 T.d__law_great.a T.d__law_great.fd ["_law_script", "_law_k", "_law_most_here"] (spGreatP K) := by
  refine T.d__law_great.F.okN sc__law_great (fun vs H Q E h => ?_) (fun cdv A outer s H vs Q E hr h => ?_)
  · obtain ⟨a, ns, k, m, rfl, _⟩ := h; rfl
  obtain ⟨a, ns, k, m, rfl, hS, hz, h0, h1, hm, q⟩ := h
  have hk := sq_le h0 h1
  have hk' := Int.mul_nonneg h0 h0
  have hc := hz.cell k
  have hx := mix_sz hc h0 h1
  have hB : sz 28269553036454149224292902704178252817674109380037990394614044720680140801 ≤ 244 := sz_of (by decide)
  refine ⟨_, (pss_cons (ps_set (i := 3) sc__law_great.nd rfl (Or.inl rfl) (pe_op (show OpR _ (binaryOp .Add) (rAddU K) from op_addU) (pe_op (show OpR _ (binaryOp .Add) (rAddU K) from op_addU) (pe_op op_mulU (pe_call (ok__law_cell T) (hr.mono (by decide)) rfl T.d__law_cell.m T.d__law_cell.F.kp T.d__law_cell.b .nil (passN nox_F) (pa_cons (pv 0) (pa_cons (pv 1) pa_nil))) pe_int) (pe_op op_mulU (pe_op op_mulU pe_int (pv 1)) (pv 1))) pe_int))
 (pss_one (ps_ret (pe_op op_modU (pe_op op_mulU (pv 3) (pe_op op_pow pe_int pe_int)) (pe_op (show OpR _ (binaryOp .Add) (rAddU K) from op_addU) (pv 2) pe_int))))), ?_⟩
  refine x_start (σ0 := [some (.ref a), some (.int k), some (.int m), none]) rfl ?_
  walk_at "x"
  have h2 := Int.emod_nonneg ((cell ns k * 48271 + 7919 * k * k + 11) * 28269553036454149224292902704178252817674109380037990394614044720680140801) (show m + 1 ≠ 0 by omega)
  have h3 := Int.emod_lt_of_pos ((cell ns k * 48271 + 7919 * k * k + 11) * 28269553036454149224292902704178252817674109380037990394614044720680140801) (show 0 < m + 1 by omega)
  exact q _ h2 (by omega)
theorem ok__law_many (T : Txt K mg) : FnOk P w K mg base (CXF P w) 3 T.d__law_many.a T.d__law_many.fd ["_law_script"] (spManyP K) := by
  refine T.d__law_many.F.okN sc__law_many (fun vs H Q E h => ?_) (fun cdv A outer s H vs Q E hr h => ?_)
  · obtain ⟨a, ns, rfl, _⟩ := h; rfl
  obtain ⟨a, ns, rfl, hS, hz, q⟩ := h
  refine ⟨_, (pss_cons (ps_set (i := 1) sc__law_many.nd rfl (Or.inl rfl) (pe_call (ok__law_draw T) (hr.mono (by decide)) rfl T.d__law_draw.m T.d__law_draw.F.kp T.d__law_draw.b .nil (passN nox_F) (pa_cons (pv 0) (pa_cons pe_int (pa_cons pe_int (pa_cons pe_int pa_nil))))))
 (pss_cons (ps_if (pt_cmpR (show OpR _ (compareOp .Eq) (rEqU K) from op_eqU hr.units) (pv 1) pe_int (nomark _))
  (pss_one (ps_ret pe_int))
  pss_nil)
 (pss_cons (ps_if (pt_cmpR (show OpR _ (compareOp .Eq) (rEqU K) from op_eqU hr.units) (pv 1) pe_int (nomark _))
  (pss_one (ps_ret pe_int))
  pss_nil)
 (pss_one (ps_ret (pe_op (show OpR _ (binaryOp .Add) (rAddU K) from op_addU) pe_int (pe_op op_modU (pe_op (show OpR _ (binaryOp .Add) (rAddU K) from op_addU) (pv 1) (pe_call (ok__law_draw T) (hr.mono (by decide)) rfl T.d__law_draw.m T.d__law_draw.F.kp T.d__law_draw.b .nil (passN nox_F) (pa_cons (pv 0) (pa_cons pe_int (pa_cons pe_int (pa_cons pe_int pa_nil)))))) pe_int))))))), ?_⟩
  refine x_start (σ0 := [some (.ref a), none]) rfl ?_
  walk_at "x"
  all_goals exact q _ (by omega) (by omega)
theorem ok__law_count (T : Txt K mg) : FnOk P w K mg base (CXF P w) 3 T.d__law_count.a T.d__law_count.fd ["_law_script", "_law_many_here"] (spCountP K) := by
  refine T.d__law_count.F.okN sc__law_count (fun vs H Q E h => ?_) (fun cdv A outer s H vs Q E hr h => ?_)
  · obtain ⟨a, ns, n, rfl, _⟩ := h; rfl
  obtain ⟨a, ns, n, rfl, hS, hz, n0, n1, q⟩ := h
  have hn9 : 0 ≤ n / 9 ∧ n / 9 ≤ 1 := by omega
  have hp9 : 0 < 1 + n / 9 := by omega
  have hs9 : sz (1 + n / 9) ≤ 9000 := Nat.le_trans (sz200 (by omega) (by omega)) (by decide)
  refine ⟨_, (pss_cons (ps_set (i := 2) sc__law_count.nd rfl (Or.inl rfl) (pe_call (ok__law_draw T) (hr.mono (by decide)) rfl T.d__law_draw.m T.d__law_draw.F.kp T.d__law_draw.b .nil (passN nox_F) (pa_cons (pv 0) (pa_cons pe_int (pa_cons pe_int (pa_cons pe_int pa_nil))))))
 (pss_cons (ps_if (pt_cmpR (show OpR _ (compareOp .Eq) (rEqU K) from op_eqU hr.units) (pv 1) pe_int (nomark _))
  (pss_one (ps_ret pe_int))
  pss_nil)
 (pss_cons (ps_if (pt_cmpR (show OpR _ (compareOp .Eq) (rEqU K) from op_eqU hr.units) (pv 2) pe_int (nomark _))
  (pss_one (ps_ret (pe_op op_divU (pe_call (ok__law_draw T) (hr.mono (by decide)) rfl T.d__law_draw.m T.d__law_draw.F.kp T.d__law_draw.b .nil (passN nox_F) (pa_cons (pv 0) (pa_cons pe_int (pa_cons pe_int (pa_cons pe_int pa_nil))))) (pe_op (show OpR _ (binaryOp .Add) (rAddU K) from op_addU) pe_int (pe_op op_divU (pv 1) pe_int)))))
  pss_nil)
 (pss_cons (ps_if (pt_cmpR op_lt (pv 2) pe_int (nomark _))
  (pss_one (ps_ret (pe_call (ok__law_draw T) (hr.mono (by decide)) rfl T.d__law_draw.m T.d__law_draw.F.kp T.d__law_draw.b .nil (passN nox_F) (pa_cons (pv 0) (pa_cons pe_int (pa_cons pe_int (pa_cons pe_int pa_nil)))))))
  pss_nil)
 (pss_one (ps_ret (pe_call (ok__law_draw T) (hr.mono (by decide)) rfl T.d__law_draw.m T.d__law_draw.F.kp T.d__law_draw.b .nil (passN nox_F) (pa_cons (pv 0) (pa_cons pe_int (pa_cons pe_int (pa_cons pe_int pa_nil))))))))))), ?_⟩
  refine x_start (σ0 := [some (.ref a), some (.int n), none]) rfl ?_
  walk_at "x"
  all_goals first | exact q _ (by omega) (by omega) (fun _ => by omega) | skip
  all_goals
    rename_i y0 y1 y2
    have h4 := Int.ediv_nonneg y1 (Int.le_of_lt hp9)
    have h5 : _ / (1 + n / 9) ≤ _ := Int.ediv_le_self (1 + n / 9) y1
    exact q _ h4 (by omega) (fun _ => by omega)
theorem ok__law_most (T : Txt K mg) : FnOk P w K mg base (CXF P w) 3 T.d__law_most.a T.d__law_most.fd ["_law_script", "_law_many_here", "_law_count_here"] (spMostH K) := by
  refine T.d__law_most.F.okN sc__law_most (fun vs H Q E h => ?_) (fun cdv A outer s H vs Q E hr h => ?_)
  · obtain ⟨a, ns, n, c, rfl, _⟩ := h; rfl
  obtain ⟨a, ns, n, c, rfl, hS, hz, q⟩ := h
  refine ⟨_, (pss_cons (ps_if (PW.pt (pw_and (PW.pt (pw_or (pt_cmpR op_lt (pv 2) pe_int (nomark _)) (pw_or1 (PW.pt (pw_and (pt_cmpR op_lt (pv 1) pe_int (nomark _)) (pw_and1 (pt_cmpR op_lt (pv 2) pe_int (nomark _)))))))) (pw_and1 (pt_cmpR (show OpR _ (compareOp .Eq) (rEqU K) from op_eqU hr.units) (pe_call (ok__law_draw T) (hr.mono (by decide)) rfl T.d__law_draw.m T.d__law_draw.F.kp T.d__law_draw.b .nil (passN nox_F) (pa_cons (pv 0) (pa_cons pe_int (pa_cons pe_int (pa_cons pe_int pa_nil))))) pe_int (nomark _)))))
  (pss_one (ps_ret (pe_op op_pow pe_int pe_int)))
  pss_nil)
 (pss_one (ps_ret pe_int))), ?_⟩
  refine x_start (σ0 := [some (.ref a), some (.int n), some (.int c)]) rfl ?_
  walk_at "x"
  all_goals exact q _ (by omega) (by omega) (by omega)
theorem ok__law_amount (T : Txt K mg) : FnOk P w K mg base (CXF P w) 3 T.d__law_amount.a T.d__law_amount.fd ["_law_script", "_law_k", "_law_most_here"] (spAmountG K) := by
  refine T.d__law_amount.F.okN sc__law_amount (fun vs H Q E h => ?_) (fun cdv A outer s H vs Q E hr h => ?_)
  · obtain ⟨a, ns, k, m, rfl, _⟩ := h; rfl
  obtain ⟨a, ns, k, m, rfl, hS, hz, h0, h1, m0, m1, q⟩ := h
  refine ⟨_, (pss_cons (ps_set (i := 3) sc__law_amount.nd rfl (Or.inl rfl) (pe_call (ok__law_draw T) (hr.mono (by decide)) rfl T.d__law_draw.m T.d__law_draw.F.kp T.d__law_draw.b .nil (passN nox_F) (pa_cons (pv 0) (pa_cons (pv 1) (pa_cons pe_int (pa_cons pe_int pa_nil))))))
 (pss_cons (ps_if (PW.pt (pw_and (pt_cmpR op_gt (pv 2) pe_int (nomark _)) (pw_and1 (pt_cmpR op_gt (pv 3) pe_int (nomark _)))))
  (pss_one (ps_ret (pe_call (ok__law_great T) (hr.mono (by decide)) rfl T.d__law_great.m T.d__law_great.F.kp T.d__law_great.b .nil (passN nox_F) (pa_cons (pv 0) (pa_cons (pv 1) (pa_cons (pv 2) pa_nil))))))
  pss_nil)
 (pss_cons (ps_if (pt_cmpR (show OpR _ (compareOp .Eq) (rEqU K) from op_eqU hr.units) (pv 3) pe_int (nomark _))
  (pss_one (ps_ret pe_int))
  pss_nil)
 (pss_cons (ps_if (pt_cmpR op_lt (pv 3) pe_int (nomark _))
  (pss_one (ps_ret pe_int))
  pss_nil)
 (pss_one (ps_ret (pe_op (show OpR _ (binaryOp .Add) (rAddU K) from op_addU) pe_int (pe_call (ok__law_draw T) (hr.mono (by decide)) rfl T.d__law_draw.m T.d__law_draw.F.kp T.d__law_draw.b .nil (passN nox_F) (pa_cons (pv 0) (pa_cons (pv 1) (pa_cons pe_int (pa_cons pe_int pa_nil)))))))))))), ?_⟩
  refine x_start (σ0 := [some (.ref a), some (.int k), some (.int m), none]) rfl ?_
  walk_at "x"
  all_goals exact q _ (by omega) (by omega) (by omega)
theorem ok__law_due (T : Txt K mg) : FnOk P w K mg base (CXF P w) 4 T.d__law_due.a T.d__law_due.fd ["_law_script", "_law_k", "_law_many_here", "_law_most_here"] (spDueG K) := by
  refine T.d__law_due.F.okN sc__law_due (fun vs H Q E h => ?_) (fun cdv A outer s H vs Q E hr h => ?_)
  · obtain ⟨a, ns, k, n, m, rfl, _⟩ := h; rfl
  obtain ⟨a, ns, k, n, m, rfl, hS, hz, h0, h1, n0, n1, m0, m1, q⟩ := h
  refine ⟨_, (pss_cons (ps_set (i := 4) sc__law_due.nd rfl (Or.inl rfl) (pe_call (ok__law_draw T) (hr.mono (by decide)) rfl T.d__law_draw.m T.d__law_draw.F.kp T.d__law_draw.b .nil (passN nox_F) (pa_cons (pv 0) (pa_cons pe_int (pa_cons pe_int (pa_cons pe_int pa_nil))))))
 (pss_cons (ps_set (i := 5) sc__law_due.nd rfl (Or.inl rfl) (pe_call (ok__law_draw T) (hr.mono (by decide)) rfl T.d__law_draw.m T.d__law_draw.F.kp T.d__law_draw.b .nil (passN nox_F) (pa_cons (pv 0) (pa_cons (pe_op (show OpR _ (binaryOp .Add) (rAddU K) from op_addU) pe_int (pv 1)) (pa_cons pe_int (pa_cons (pv 2) pa_nil))))))
 (pss_cons (ps_set (i := 6) sc__law_due.nd rfl (Or.inl rfl) (pe_op op_modU (pe_op (show OpR _ (binaryOp .Add) (rAddU K) from op_addU) (pe_op (show OpR _ (binaryOp .Add) (rAddU K) from op_addU) (pv 5) pe_int) (pe_call (ok__law_draw T) (hr.mono (by decide)) rfl T.d__law_draw.m T.d__law_draw.F.kp T.d__law_draw.b .nil (passN nox_F) (pa_cons (pv 0) (pa_cons (pe_op (show OpR _ (binaryOp .Add) (rAddU K) from op_addU) pe_int (pv 1)) (pa_cons pe_int (pa_cons (pe_op op_sub (pv 2) pe_int) pa_nil)))))) (pv 2)))
 (pss_cons (ps_set (i := 7) sc__law_due.nd rfl (Or.inl rfl) (pe_call (ok__law_draw T) (hr.mono (by decide)) rfl T.d__law_draw.m T.d__law_draw.F.kp T.d__law_draw.b .nil (passN nox_F) (pa_cons (pv 0) (pa_cons (pe_op (show OpR _ (binaryOp .Add) (rAddU K) from op_addU) pe_int (pv 1)) (pa_cons pe_int (pa_cons pe_int pa_nil))))))
 (pss_mid (ps_if (pt_cmpR (show OpR _ (compareOp .Eq) (rEqU K) from op_eqU hr.units) (pv 4) pe_int (nomark _))
  (pss_one (ps_set (i := 7) sc__law_due.nd rfl (Or.inl rfl) pe_int))
  pss_nil)
 (pss_mid (ps_if (pt_cmpR (show OpR _ (compareOp .Eq) (rEqU K) from op_eqU hr.units) (pv 4) pe_int (nomark _))
  (pss_one (ps_set (i := 7) sc__law_due.nd rfl (Or.inl rfl) (pe_op (show OpR _ (binaryOp .Add) (rAddU K) from op_addU) pe_int (pe_op op_modU (pv 7) pe_int))))
  pss_nil)
 (pss_mid (ps_if (PW.pt (pw_and (pt_cmpR (show OpR _ (compareOp .In) (rIn K false) from op_in_seq) (pv 4) (pe_tup (pa_cons pe_int (pa_cons pe_int pa_nil))) (by with_unfolding_all rfl)) (pw_and1 (pt_cmpR op_lt (pv 1) (pv 2) (nomark _)))))
  (pss_cons (ps_set (i := 5) sc__law_due.nd rfl (Or.inl rfl) (pv 1))
 (pss_cons (ps_set (i := 6) sc__law_due.nd rfl (Or.inl rfl) (pe_op op_modU (pe_op (show OpR _ (binaryOp .Add) (rAddU K) from op_addU) (pv 1) pe_int) (pv 2)))
 (pss_one (ps_set (i := 7) sc__law_due.nd rfl (Or.inl rfl) pe_int))))
  pss_nil)
 (pss_one (ps_ret (pe_tup (pa_cons (pv 5) (pa_cons (pv 6) (pa_cons (pv 7) (pa_cons (pe_call (ok__law_amount T) (hr.mono (by decide)) rfl T.d__law_amount.m T.d__law_amount.F.kp T.d__law_amount.b .nil (passN nox_F) (pa_cons (pv 0) (pa_cons (pe_op (show OpR _ (binaryOp .Add) (rAddU K) from op_addU) pe_int (pv 1)) (pa_cons (pv 3) pa_nil)))) pa_nil)))))))))))))), ?_⟩
  refine x_start (σ0 := [some (.ref a), some (.int k), some (.int n), some (.int m), none, none, none, none]) rfl ?_
  walk_at "x"
  rename_i sh _ s0 s1 pa _ p0 p1 pe _ e0 e1 rk _ r0 r1
  have hpe := payee_ne p0 p1 e0 e1
  refine x_midS 7 (fun v H' => ∃ r : Int, v = .int r ∧ 0 ≤ r ∧ r < 3 ∧ H = H') ?_ ?_
  · walk_at "x"
    all_goals exact ⟨_, rfl, _, rfl, by omega, by omega, rfl⟩
  rintro v _ ⟨r2, rfl, r20, r21, rfl⟩
  refine x_midS 7 (fun v H' => ∃ r : Int, v = .int r ∧ 0 ≤ r ∧ r < 3 ∧ H = H') ?_ ?_
  · walk_at "x"
    all_goals exact ⟨_, rfl, _, rfl, by omega, by omega, rfl⟩
  rintro v _ ⟨r3, rfl, r30, r31, rfl⟩
  refine x_mid (fun σ' H' => ∃ (p' q' r' : Int), σ' = [some (.ref a), some (.int k), some (.int n), some (.int m), some (.int sh), some (.int p'), some (.int q'), some (.int r')] ∧ (0 ≤ p' ∧ p' < n ∧ 0 ≤ q' ∧ q' < n ∧ p' ≠ q' ∧ 0 ≤ r' ∧ r' < 3) ∧ Same H H') ?_ ?_
  · walk_at "x"
    refine x_tupN (by first | decide | simp) fun tp H1 ftp e1 htp => ?_
    refine x_inT2 htp ?_
    walk_at "x"
    · rename_i hin hlt
      have hk := payee_ne (p := k) (t := 0) (n := n) h0 hlt (by omega) (by omega)
      rw [Int.add_zero] at hk
      exact ⟨_, _, _, rfl, ⟨h0, hlt, hk.1, hk.2.1, hk.2.2, by omega, by omega⟩, e1⟩
    all_goals exact ⟨_, _, _, rfl, ⟨p0, p1, hpe.1, hpe.2.1, hpe.2.2, r30, r31⟩, e1⟩
  rintro σ' H1 ⟨p', q', r', rfl, ⟨u1, u2, u3, u4, u5, u6, u7⟩, e1⟩
  walk_at "x"
  rename_i x x0 x1 x2 t H2 ft e2 h2
  exact q t H2 ⟨p', q', r', x⟩ (Same.none ft e1) (e1.trans e2) h2 ⟨u1, u2, u3, u4, u5, u6, u7, x0, by show x ≤ _; omega⟩ x1 x2
theorem ok__law_sheet (T : Txt K mg) : FnOk P w K mg base (CXF P w) 5 T.d__law_sheet.a T.d__law_sheet.fd ["_law_script", "_law_many_here", "_law_count_here", "_law_most_here"] (spSheetG K) := by
  refine T.d__law_sheet.F.okN sc__law_sheet (fun vs H Q E h => ?_) (fun cdv A outer s H vs Q E hr h => ?_)
  · obtain ⟨a, ns, n, c, m, rfl, _⟩ := h; rfl
  obtain ⟨a, ns, n, c, m, rfl, hS, hz, n0, n1, c0, c1, nc, m0, m1, q⟩ := h
  refine ⟨_, (pss_one (ps_ret (pe_comp rfl (pi_range1 rfl T.z_range (pa_cons (pv 2) pa_nil)) (compScope_of (Ni := ["_law_k", "_law_script", "_law_many_here", "_law_most_here"]) (caps := [none, some 0, some 1, some 3]) (by rfl)) (fun S _ _ _ _ _ => (pg_nameC (gi := 0) S (Or.inl rfl) rfl)) (fun _ _ _ _ _ => pf_nil) (fun _ _ _ _ _ => (pe_call (ok__law_due T) (hr.mono (by decide)) rfl T.d__law_due.m T.d__law_due.F.kp T.d__law_due.b .nil (passN nox_F) (pa_cons (pv 1) (pa_cons (pv 0) (pa_cons (pv 2) (pa_cons (pv 3) pa_nil))))))))), ?_⟩
  refine x_start (σ0 := [some (.ref a), some (.int n), some (.int c), some (.int m)]) rfl ?_
  walk_at "x"
  refine x_compS1 src_range (fun _ _ => trivial) rfl (fun i vs H' => ∃ ds, IsTs dueV H' vs ds ∧ ds.length = i ∧ ∀ d ∈ ds, (DueOk n d ∧ d.a ≤ 1000000000000) ∧ (m = 0 → d.a ≤ 12)) (fun H' _ => ⟨[], trivial, rfl, fun _ h => nomatch h⟩) ?_ ?_
  · rintro i x D vs o H3 H4 hi hD e3 hv hvl ⟨ds, hds, hdl, hdd⟩ e4 rfl
    have hn2 : 2 ≤ n := by
      rcases Int.lt_or_le n 2 with h | h
      · have := nc (by omega); omega
      · exact h
    walk_at "x"
    rename_i t H5 d ft e5 h5 hd ha hg H6 b6 h6
    refine ⟨⟨_, rfl⟩, by walk_at "h", _, h6, by rw [List.length_append]; exact Nat.succ_le_succ hvl, ds ++ [d], IsTs.app (f := dueV) (b6.tup h5) (by walk_at "h"), by rw [List.length_append, hdl]; rfl, fun y hy => ?_⟩
    rcases List.mem_append.mp hy with h | h
    · exact hdd y h
    · rw [List.mem_singleton.mp h]; exact ⟨⟨hd, ha⟩, hg⟩
  · rintro D H3 vs hD e3 hv hvl ⟨ds, hds, hdl, hdd⟩
    exact q _ _ _ _ hD e3 hv hds (fun d h => (hdd d h).1) hdl fun hm d h => (hdd d h).2 hm
theorem ok__law_purse (T : Txt K mg) : FnOk P w K mg base (CXF P w) 3 T.d__law_purse.a T.d__law_purse.fd ["_law_script", "_law_k", "_law_way", "_law_most_here"] (spPurseP K) := by
  refine T.d__law_purse.F.okN sc__law_purse (fun vs H Q E h => ?_) (fun cdv A outer s H vs Q E hr h => ?_)
  · obtain ⟨a, ns, k, y, m, rfl, _⟩ := h; rfl
  obtain ⟨a, ns, k, y, m, rfl, hS, hz, h0, h1, m0, m1, q⟩ := h
  refine ⟨_, (pss_cons (ps_set (i := 4) sc__law_purse.nd rfl (Or.inl rfl) (pe_call (ok__law_draw T) (hr.mono (by decide)) rfl T.d__law_draw.m T.d__law_draw.F.kp T.d__law_draw.b .nil (passN nox_F) (pa_cons (pv 0) (pa_cons (pe_op (show OpR _ (binaryOp .Add) (rAddU K) from op_addU) pe_int (pv 1)) (pa_cons pe_int (pa_cons pe_int pa_nil))))))
 (pss_cons (ps_if (PW.pt (pw_or (pt_cmpR (show OpR _ (compareOp .Eq) (rEqU K) from op_eqU hr.units) (pv 2) pe_int (nomark _)) (pw_or (PW.pt (pw_and (pt_cmpR (show OpR _ (compareOp .Eq) (rEqU K) from op_eqU hr.units) (pv 2) pe_int (nomark _)) (pw_and1 (pt_cmpR op_gt (pv 4) pe_int (nomark _))))) (pw_or1 (pt_cmpR (show OpR _ (compareOp .Eq) (rEqU K) from op_eqU hr.units) (pv 4) pe_int (nomark _))))))
  (pss_one (ps_ret pe_int))
  pss_nil)
 (pss_cons (ps_if (PW.pt (pw_and (pt_cmpR op_gt (pv 3) pe_int (nomark _)) (pw_and1 (pt_cmpR (show OpR _ (compareOp .Eq) (rEqU K) from op_eqU hr.units) (pv 4) pe_int (nomark _)))))
  (pss_one (ps_ret (pe_call (ok__law_great T) (hr.mono (by decide)) rfl T.d__law_great.m T.d__law_great.F.kp T.d__law_great.b .nil (passN nox_F) (pa_cons (pv 0) (pa_cons (pe_op (show OpR _ (binaryOp .Add) (rAddU K) from op_addU) pe_int (pv 1)) (pa_cons (pv 3) pa_nil))))))
  pss_nil)
 (pss_cons (ps_if (PW.pt (pw_and (pt_cmpR op_gt (pv 3) pe_int (nomark _)) (pw_and1 (pt_cmpR (show OpR _ (compareOp .Eq) (rEqU K) from op_eqU hr.units) (pv 4) pe_int (nomark _)))))
  (pss_one (ps_ret (pe_call (ok__law_great T) (hr.mono (by decide)) rfl T.d__law_great.m T.d__law_great.F.kp T.d__law_great.b .nil (passN nox_F) (pa_cons (pv 0) (pa_cons (pe_op (show OpR _ (binaryOp .Add) (rAddU K) from op_addU) pe_int (pv 1)) (pa_cons (pe_op op_mulU pe_int (pv 3)) pa_nil))))))
  pss_nil)
 (pss_one (ps_ret (pe_call (ok__law_draw T) (hr.mono (by decide)) rfl T.d__law_draw.m T.d__law_draw.F.kp T.d__law_draw.b .nil (passN nox_F) (pa_cons (pv 0) (pa_cons (pe_op (show OpR _ (binaryOp .Add) (rAddU K) from op_addU) pe_int (pv 1)) (pa_cons pe_int (pa_cons pe_int pa_nil))))))))))), ?_⟩
  refine x_start (σ0 := [some (.ref a), some (.int k), some (.int y), some (.int m), none]) rfl ?_
  walk_at "x"
  all_goals exact q _ (by omega) (by omega)
theorem ok__law_purses (T : Txt K mg) : FnOk P w K mg base (CXF P w) 4 T.d__law_purses.a T.d__law_purses.fd ["_law_script", "_law_many_here", "_law_most_here"] (spPursesP K) := by
  refine T.d__law_purses.F.okN sc__law_purses (fun vs H Q E h => ?_) (fun cdv A outer s H vs Q E hr h => ?_)
  · obtain ⟨a, ns, n, m, rfl, _⟩ := h; rfl
  obtain ⟨a, ns, n, m, rfl, hS, hz, n0, n1, m0, m1, q⟩ := h
  refine ⟨_, (pss_cons (ps_set (i := 3) sc__law_purses.nd rfl (Or.inr rfl) (pe_call (ok__law_draw T) (hr.mono (by decide)) rfl T.d__law_draw.m T.d__law_draw.F.kp T.d__law_draw.b .nil (passN nox_F) (pa_cons (pv 0) (pa_cons pe_int (pa_cons pe_int (pa_cons pe_int pa_nil))))))
 (pss_one (ps_ret (pe_comp rfl (pi_range1 rfl T.z_range (pa_cons (pv 1) pa_nil)) (compScope_of (Ni := ["_law_k", "_law_script", "_law_way", "_law_most_here"]) (caps := [none, some 0, some 3, some 2]) (by rfl)) (fun S _ _ _ _ _ => (pg_nameC (gi := 0) S (Or.inl rfl) rfl)) (fun _ _ _ _ _ => pf_nil) (fun _ _ _ _ _ => (pe_call (ok__law_purse T) (hr.mono (by decide)) rfl T.d__law_purse.m T.d__law_purse.F.kp T.d__law_purse.b .nil (passN nox_F) (pa_cons (pv 1) (pa_cons (pv 0) (pa_cons (pv 2) (pa_cons (pv 3) pa_nil)))))))))), ?_⟩
  refine x_start (σ0 := [some (.ref a), some (.int n), some (.int m), none]) rfl ?_
  walk_at "x"
  refine x_compS1 src_range (fun _ _ => trivial) rfl (fun i vs H' => ∃ ps : List Int, vs = ps.map V.int ∧ ps.length = i ∧ PurseOk ps) (fun H' _ => ⟨[], rfl, rfl, fun _ h => nomatch h⟩) ?_ ?_
  · rintro i x D vs o H3 H4 hi hD e3 hv hvl ⟨ps, rfl, hpl, hp⟩ e4 rfl
    walk_at "x"
    rename_i p p0 p1 H5 b5 h5
    refine ⟨⟨_, rfl⟩, by walk_at "h", _, h5, by rw [List.length_append]; exact Nat.succ_le_succ hvl, ps ++ [p], by rw [List.map_append]; rfl, by rw [List.length_append, hpl]; rfl, fun z hz => ?_⟩
    rcases List.mem_append.mp hz with h | h
    · exact hp z h
    · rw [List.mem_singleton.mp h]; exact ⟨p0, p1⟩
  · rintro D H3 vs hD e3 hv hvl ⟨ps, rfl, hpl, hp⟩
    exact q _ _ _ hD e3 hv hpl hp

theorem ok__law_divisor (T : Txt K mg) : FnOk P w K mg base (CXF P w) 1 T.d__law_divisor.a T.d__law_divisor.fd ["_law_one", "_law_other"] spDivP := by
  refine T.d__law_divisor.F.okN sc__law_divisor (fun vs H Q E h => ?_) (fun cdv A outer s H vs Q E hr h => ?_)
  · obtain ⟨a, b, rfl, _⟩ := h; rfl
  obtain ⟨a, b, rfl, a0, b0, q⟩ := h
  refine ⟨_, (pss_cons (ps_while PassesOwn.never (pt_cmpR (show OpR _ (compareOp .NotEq) (rNeU K) from op_neU hr.units) (pv 1) pe_int (nomark _))
  (pss_cons (ps_set (i := 2) sc__law_divisor.nd rfl (Or.inl rfl) (pe_op op_modU (pv 0) (pv 1)))
 (pss_cons (ps_set (i := 0) sc__law_divisor.nd rfl (Or.inl rfl) (pv 1))
 (pss_one (ps_set (i := 1) sc__law_divisor.nd rfl (Or.inl rfl) (pv 2))))))
 (pss_one (ps_ret (pv 0)))), ?_⟩
  refine x_start (σ0 := [some (.int a), some (.int b), none]) rfl ?_
  walk_at "x"
  refine ⟨fun m σ H' => ∃ k r f, σ = [some (.int k), some (.int r), f] ∧ H' = H ∧ 0 ≤ k ∧ 0 ≤ r ∧ My.gc k r = My.gc a b ∧ m = r.toNat, ⟨_, _, _, _, rfl, rfl, a0, b0, rfl, rfl⟩, ?_⟩
  rintro m σ H' ⟨k, r, f, rfl, rfl, hk, hr0, hg, rfl⟩
  walk_at "x"
  · rename_i hne
    refine ⟨fun σ' H'' => σ' = [some (.int r), some (.int (k % r)), some (.int (k % r))] ∧ H'' = H', ?_, ?_⟩
    · rintro σ' H'' ⟨rfl, rfl⟩
      have h1 := Int.emod_nonneg k (b := r) (by omega)
      have h2 := Int.emod_lt_of_pos k (b := r) (by omega)
      exact ⟨_, by omega, _, _, _, rfl, rfl, hr0, h1, by rw [My.gc_step]; exact hg, rfl⟩
    · walk_at "x"
      exact ⟨rfl, rfl⟩
  · rename_i he
    rw [he, My.gc_zero_right hk] at hg
    rw [hg]; exact q
theorem ok__law_part (T : Txt K mg) : FnOk P w K mg base (CXF P w) 2 T.d__law_part.a T.d__law_part.fd ["_law_top", "_law_bottom"] spPartN := by
  refine T.d__law_part.F.okN sc__law_part (fun vs H Q E h => ?_) (fun cdv A outer s H vs Q E hr h => ?_)
  · obtain ⟨t, b, r, rfl, _⟩ := h; rfl
  obtain ⟨t, b, r, rfl, hb, he, hz, q⟩ := h
  have ha := abs_nn t
  have eg : My.gc (if t < 0 then -t else t) b = My.gc t b := by
    have := My.gc_abs t b
    rwa [if_neg (show ¬ b < 0 by omega)] at this
  have hg : 0 < My.gc (if t < 0 then -t else t) b := by rw [eg]; exact My.gc_pos_right (by omega)
  have er : r = Rat.divInt t b := by
    rw [Rat.divInt_eq_div, he]
    have := castR_pos hb
    rw [Rat.div_def, Rat.mul_assoc, Rat.mul_inv_cancel _ (by grind)]; grind
  have hp := My.part_pos (t := t) hb
  rw [← er] at hp
  refine ⟨_, (pss_cons (ps_set (i := 2) sc__law_part.nd rfl (Or.inl rfl) (pe_call (ok__law_divisor T) (hr.mono (by decide)) rfl T.d__law_divisor.m T.d__law_divisor.F.kp T.d__law_divisor.b .nil (passN nox_F) (pa_cons (pe_callB call_absU rfl T.z_abs BT.abs (pa_cons (pv 0) pa_nil)) (pa_cons (pv 1) pa_nil))))
 (pss_one (ps_ret (pe_tup (pa_cons (pe_op op_divU (pv 0) (pv 2)) (pa_cons (pe_op op_divU (pv 1) (pv 2)) pa_nil)))))), ?_⟩
  refine x_start (σ0 := [some (.int t), some (.int b), none]) rfl ?_
  have hdt : ∀ x : Int, My.gc t b ∣ x → sz (x / My.gc t b) ≤ 4000 → sz x ≤ sz (My.gc (if t < 0 then -t else t) b) + 4500 := fun x hx h => by
    have e : x / My.gc t b * My.gc t b = x := Int.ediv_mul_cancel hx
    rw [eg, ← e]
    exact Nat.le_trans (sz_mul h (Nat.le_refl _)) (by omega)
  walk_at "x"
  refine x_divW hg (hdt t (My.gc_dvd_left t b) (by rw [hp.1]; exact hz.1)) ?_
  walk_at "x"
  refine x_divW hg (hdt b (My.gc_dvd_right t b) (by rw [hp.2]; exact hz.2)) ?_
  walk_at "x"
  refine NewQ.mk (q := r) q ?_
  rw [eg]
  exact hp
theorem ok__law_sums (T : Txt K mg) : FnOk P w K mg base (CXF P w) 1 T.d__law_sums.a T.d__law_sums.fd ["_law_sheet_here", "_law_many_here"] (spSumsP K) := by
  refine T.d__law_sums.F.okN sc__law_sums (fun vs H Q E h => ?_) (fun cdv A outer s H vs Q E hr h => ?_)
  · obtain ⟨n, a, ds, rfl, _⟩ := h; rfl
  obtain ⟨n, a, ds, rfl, ⟨xs, hS, hT⟩, n0, n1, hd, k⟩ := h
  refine ⟨_, (pss_cons (ps_setC (i := 2) sc__law_sums.nd rfl rfl rfl (pi_range1 rfl T.z_range (pa_cons (pv 1) pa_nil)) (compScope_of (Ni := ["_law_k"]) (caps := [none]) (by rfl)) (fun S _ _ _ _ _ => (pg_nameC (gi := 0) S (Or.inl rfl) rfl)) (fun _ _ _ _ _ => pf_nil) (fun _ _ _ _ _ => (pe_lst (pa_cons pe_int (pa_cons pe_int (pa_cons pe_int pa_nil))))))
 (pss_cons (ps_for PassesOwn.never rfl (show PI _ _ _ (iList K _) from pi_list (pv 0)) (pg_name (i := 3) sc__law_sums.nd rfl (Or.inl rfl))
  (pss_one (ps_asg (pe_op (show OpR _ (binaryOp .Add) (rAddU K) from op_addU) (pe_ix (show IxR _ (rIx K) from ix_seq) (pe_ix (show IxR _ (rIx K) from ix_seq) (pv 2) (pe_ix (show IxR _ (rIx K) from ix_seq) (pv 3) pe_int (fun _ _ => rfl)) (fun _ _ => rfl)) (pe_ix (show IxR _ (rIx K) from ix_seq) (pv 3) pe_int (fun _ _ => rfl)) (fun _ _ => rfl)) (pe_ix (show IxR _ (rIx K) from ix_seq) (pv 3) pe_int (fun _ _ => rfl))) (pg_sub (pe_ix (show IxR _ (rIx K) from ix_seq) (pv 2) (pe_ix (show IxR _ (rIx K) from ix_seq) (pv 3) pe_int (fun _ _ => rfl)) (fun _ _ => rfl)) (pe_ix (show IxR _ (rIx K) from ix_seq) (pv 3) pe_int (fun _ _ => rfl)) set_list))))
 (pss_one (ps_ret (pv 2))))), ?_⟩
  refine x_start (σ0 := [some (.ref a), some (.int n), none, none]) rfl ?_
  walk_at "x"
  refine x_compS1 src_range (fun _ _ => trivial) rfl (fun i vs H' => ∃ as, vs = as.map V.ref ∧ as.length = i ∧ Rows H' as 3 (fun _ _ => 0) ∧ ∀ b ∈ as, H b = none) (fun H' _ => ⟨[], rfl, rfl, ⟨List.nodup_nil, fun i a h => nomatch h⟩, fun _ h => nomatch h⟩) ?_ ?_
  · rintro i x D vs o H2 H3 hi hD e2 hv hvl ⟨as, rfl, hal, hR, hF⟩ e3 rfl
    walk_at "x"
    rename_i p H4 fp e4 hp H5 b5 h5
    have hD' : D ∉ as := hR.ne (by decide) hv
    have hpD : p ≠ D := ne_new' fp (e3.at hv)
    have hp' : H5 p = some (.lst ((vec 3 fun _ => 0).map V.int)) := b5.lst hp hpD
    refine ⟨⟨_, rfl⟩, by walk_at "h", _, h5, by rw [List.length_append]; exact Nat.succ_le_succ hvl, as ++ [p], by rw [List.map_append]; rfl, by rw [List.length_append, hal]; rfl, Rows.app ((hR.same (e3.trans e4)).but b5 hD') ((hR.same e3).fresh fp) hp', fun b hb => ?_⟩
    rcases List.mem_append.mp hb with h | h
    · exact hF b h
    · rw [List.mem_singleton.mp h]; exact Same.none fp (e2.trans e3)
  · rintro l H2 vs fl e2 hl hvl ⟨as, rfl, hal, hR, hF⟩
    walk_at "x"
    have hla : l ∉ as := hR.ne (by decide) hl
    refine x_forL (xs := xs) (fun i σ' H' => ∃ f3 : Option V, σ' = [some (.ref a), some (.int n), some (.ref l), f3] ∧ H' l = some (.lst (as.map V.ref)) ∧ Rows H' as 3 (rankF (ds.take i)) ∧ Same H H') ?_ ?_ ?_ ?_
    · exact ⟨_, rfl, hl, hR, e2⟩
    · rintro i σ' H' _ ⟨_, _, _, _, e⟩; exact e.seq hS
    · rintro i x σ' H3 hx ⟨f3, rfl, hl3, hR3, e3⟩
      obtain ⟨b, d, rfl, hdi, hb⟩ := (hT.same e3).get hx
      have hb' : H3 b = some (.tup [.int d.p, .int d.q, .int d.r, .int d.a]) := hb
      obtain ⟨p0, p1, q0, q1, pq, r0, r1, a0, a1⟩ := hd d (List.mem_of_getElem? hdi)
      obtain ⟨c, hc⟩ := lt_some (show d.p.toNat < as.length by omega)
      have hrow := hR3.2 _ _ hc
      have hcm := List.mem_of_getElem? hc
      have hlc : l ≠ c := fun z => hla (z ▸ hcm)
      have fc := hF c hcm
      walk_at "x"
      rename_i H4 b4 h4
      refine ⟨_, rfl, b4.lst hl3 hlc, (hR3.set b4 hc h4).congr fun m hm r hr => ?_, by walk_at "h"⟩
      rw [take_snoc hdi]
      exact rank_step p0 r0 m r
    · rintro σ' H3 ⟨f3, rfl, hl3, hR3, e3⟩
      rw [hT.length, List.take_length] at hR3
      walk_at "x"
      exact k _ _ _ fl e3 hl3 (by omega) hR3 hF

theorem ok__law_got (T : Txt K mg) : FnOk P w K mg base (CXF P w) 2 T.d__law_got.a T.d__law_got.fd ["_law_sheet_here", "_law_lays"] (spLawGotC K) := by
  refine T.d__law_got.F.okN sc__law_got (fun vs H Q E h => ?_) (fun cdv A outer s H vs Q E hr h => ?_)
  · obtain ⟨a, y, ds, ws, qs, rfl, _⟩ := h; rfl
  obtain ⟨a, y, ds, ws, qs, rfl, ⟨xs, hS, hT⟩, hy, hq, hd, hl, h9, hs, k⟩ := h
  have hwl := hq.length
  have hxl := hT.length
  have hdo : ∀ d ∈ ds, DueOk (ws.length : Int) d := by rw [hwl]; exact fun d h => (hd d h).1
  have hSh : IsSh K H a ds := ⟨xs, hS, hT⟩
  have hbnd : ∀ i j, j < 3 → 0 ≤ rankF ds i j ∧ rankF ds i j ≤ 100000000000000 := fun i j _ => by
    have := rank_bnd (m := i) (r := j) ds fun d h => ⟨(hd d h).1.2.2.2.2.2.2.2.1, (hd d h).2⟩
    omega
  refine ⟨_, (pss_cons (ps_set (i := 2) sc__law_got.nd rfl (Or.inl rfl) (pe_call (ok__law_sums T) (hr.mono (by decide)) rfl T.d__law_sums.m T.d__law_sums.F.kp T.d__law_sums.b .nil (passN nox_F) (pa_cons (pv 0) (pa_cons (pe_callB (show CallR _ _ (rLen K) from call_lenU) rfl T.z_len BT.len (pa_cons (pv 1) pa_nil)) pa_nil))))
 (pss_cons (ps_setC (i := 3) sc__law_got.nd rfl rfl rfl (show PI _ _ _ (iList K _) from pi_list (pv 1)) (compScope_of (Ni := ["_law_lay"]) (caps := [none]) (by rfl)) (fun S _ _ _ _ _ => (pg_nameC (gi := 0) S (Or.inl rfl) rfl)) (fun _ _ _ _ _ => pf_nil) (fun _ _ _ _ _ => (pe_tup (pa_cons pe_int (pa_cons pe_int pa_nil)))))
 (pss_cons (ps_for PassesOwn.never rfl (show PI _ _ _ (iList K _) from pi_list (pv 0)) (pg_name (i := 4) sc__law_got.nd rfl (Or.inl rfl))
  (pss_one (ps_if (pt_cmpR op_gt (pe_ix (show IxR _ (rIx K) from ix_seq) (pv 4) pe_int (fun _ _ => rfl)) pe_int (nomark _))
  (pss_cons (ps_set (i := 5) sc__law_got.nd rfl (Or.inl rfl) (pe_ix (show IxR _ (rIx K) from ix_seq) (pv 1) (pe_ix (show IxR _ (rIx K) from ix_seq) (pv 4) pe_int (fun _ _ => rfl)) (fun _ _ => rfl)))
 (pss_cons (ps_set (i := 6) sc__law_got.nd rfl (Or.inl rfl) (pe_ix (show IxR _ (rIx K) from ix_seq) (pe_ix (show IxR _ (rIx K) from ix_seq) (pv 2) (pe_ix (show IxR _ (rIx K) from ix_seq) (pv 4) pe_int (fun _ _ => rfl)) (fun _ _ => rfl)) (pe_ix (show IxR _ (rIx K) from ix_seq) (pv 4) pe_int (fun _ _ => rfl)) (fun _ _ => rfl)))
 (pss_cons (ps_set (i := 7) sc__law_got.nd rfl (Or.inl rfl) (pe_callB (show CallR _ _ (rSum K) from call_sumU rfl) rfl T.z_sum BT.sum (pa_cons (pe_slice (show SlR _ (rSlL K) from sl_list) (pe_ix (show IxR _ (rIx K) from ix_seq) (pv 2) (pe_ix (show IxR _ (rIx K) from ix_seq) (pv 4) pe_int (fun _ _ => rfl)) (fun _ _ => rfl)) po_none (po_some (pe_ix (show IxR _ (rIx K) from ix_seq) (pv 4) pe_int (fun _ _ => rfl)))) pa_nil)))
 (pss_cons (ps_set (i := 8) sc__law_got.nd rfl (Or.inl rfl) (pe_op op_mulU (pe_ix (show IxR _ (rIx K) from ix_seq) (pv 4) pe_int (fun _ _ => rfl)) (pe_callB (call_minU rfl) rfl T.z_min BT.min (pa_cons (pe_callB (call_maxU rfl) rfl T.z_max BT.max (pa_cons (pe_op op_sub (pe_ix (show IxR _ (rIx K) from ix_seq) (pv 5) pe_int (fun _ _ => rfl)) (pe_op op_mulU (pv 7) (pe_ix (show IxR _ (rIx K) from ix_seq) (pv 5) pe_int (fun _ _ => rfl)))) (pa_cons pe_int pa_nil))) (pa_cons (pe_op op_mulU (pv 6) (pe_ix (show IxR _ (rIx K) from ix_seq) (pv 5) pe_int (fun _ _ => rfl))) pa_nil)))))
 (pss_cons (ps_set (i := 9) sc__law_got.nd rfl (Or.inl rfl) (pe_op op_mulU (pv 6) (pe_ix (show IxR _ (rIx K) from ix_seq) (pv 5) pe_int (fun _ _ => rfl))))
 (pss_cons (ps_set (i := 10) sc__law_got.nd rfl (Or.inl rfl) (pe_ix (show IxR _ (rIx K) from ix_seq) (pv 3) (pe_ix (show IxR _ (rIx K) from ix_seq) (pv 4) pe_int (fun _ _ => rfl)) (fun _ _ => rfl)))
 (pss_one (ps_asg (pe_tup (pa_cons (pe_op (show OpR _ (binaryOp .Add) (rAddU K) from op_addU) (pe_op op_mulU (pe_ix (show IxR _ (rIx K) from ix_seq) (pv 10) pe_int (fun _ _ => rfl)) (pv 9)) (pe_op op_mulU (pv 8) (pe_ix (show IxR _ (rIx K) from ix_seq) (pv 10) pe_int (fun _ _ => rfl)))) (pa_cons (pe_op op_mulU (pe_ix (show IxR _ (rIx K) from ix_seq) (pv 10) pe_int (fun _ _ => rfl)) (pv 9)) pa_nil))) (pg_sub (pv 3) (pe_ix (show IxR _ (rIx K) from ix_seq) (pv 4) pe_int (fun _ _ => rfl)) set_list)))))))))
  pss_nil)))
 (pss_one (ps_ret (pv 3)))))), ?_⟩
  refine x_start (σ0 := [some (.ref a), some (.ref y), none, none, none, none, none, none, none, none, none]) rfl ?_
  walk_at "x"
  rename_i su H1 as fsu e1 hsu hal hR hF
  rw [Int.toNat_natCast] at hal
  refine x_compS1 (src_list (K := K) (a := y) (xs := ws)) (fun H' e => SqL.of (e.at (e1.at hy))) rfl (fun i vs H' => IsFr 10 H' vs ((List.range i).map (gotF [] (payQ ds (posL qs))))) (fun H' _ => IsFr.nil) ?_ ?_
  · rintro i x D vs o H2 H3 hi hD e2 hv hvl hvs e3 hx
    walk_at "x"
    refine x_tupN (by first | decide | simp) fun p H4 fp e4 hp => ?_
    walk_at "x"
    rename_i H5 b5 h5
    refine ⟨⟨_, rfl⟩, by walk_at "h", _, h5, by rw [List.length_append]; exact Nat.succ_le_succ hvl, ?_⟩
    show IsFr 10 H5 _ ((List.range (i + 1)).map (gotF [] (payQ ds (posL qs))))
    rw [List.range_succ, List.map_append, List.map_singleton]
    exact IsFr.app ((hvs.same (e3.trans e4)).but b5) (b5.tup hp) (by decide) (by show ((0 : Int) : Rat) = (0 : Rat) * ((1 : Int) : Rat); rw [Rat.zero_mul]; rfl) (sz_of (by decide)) (sz_of (by decide))
  rintro ma H2 vs0 fma e2 hma hvl hvs
  have nma : ma ∉ as := (hR.fresh fma)
  rw [hwl] at hvs
  walk_at "x"
  refine x_forL (xs := xs) (fun i σ' H' => ∃ (us : List V) (f4 f5 f6 f7 f8 f9 f10 : Option V), σ' = [some (.ref a), some (.ref y), some (.ref su), some (.ref ma), f4, f5, f6, f7, f8, f9, f10] ∧ H' ma = some (.lst us) ∧ IsFr (7200 * i + 10) H' us ((List.range qs.length).map (gotF (ds.take i) (payQ ds (posL qs)))) ∧ Rows H' as 3 (rankF ds) ∧ H' su = some (.lst (as.map V.ref)) ∧ Same H H') ⟨_, _, _, _, _, _, _, _, rfl, hma, hvs, hR.same e2, e2.at hsu, e1.trans e2⟩ ?_ ?_ ?_
  · rintro i σ' H' _ ⟨_, _, _, _, _, _, _, _, _, _, _, _, _, h⟩; exact h.seq hS
  · rintro i x σ' H3 hx ⟨us, f4, f5, f6, f7, f8, f9, f10, rfl, hma3, hus, hR3, hsu3, e3⟩
    obtain ⟨b, d, rfl, hdi, hb⟩ := (hT.same e3).get hx
    have hb' : H3 b = some (.tup [.int d.p, .int d.q, .int d.r, .int d.a]) := hb
    have hdm := List.mem_of_getElem? hdi
    obtain ⟨⟨p0, p1, q0, q1, pq, r0, r1, a0, a1⟩, a2⟩ := hd d hdm
    have hi : i < ds.length := (List.getElem?_eq_some_iff.mp hdi).1
    have hul : us.length = qs.length := by rw [hus.1, List.length_map, List.length_range]
    obtain ⟨v, hv⟩ := lt_some (show d.p.toNat < ws.length by omega)
    obtain ⟨g, q, rfl, hqi, hg⟩ := (hq.same e3).get hv
    have hat : atI ws d.p = some (.ref g) := atI_lt p0 hv
    obtain ⟨c, hc⟩ := lt_some (show d.p.toNat < as.length by omega)
    have hrow := hR3.2 _ _ hc
    have hqd : (posL qs).getD d.p.toNat 0 = posQ q := by rw [posL_get, List.getD_eq_getElem?_getD, hqi]; rfl
    have hr3 : d.r.toNat < 3 := by omega
    have hge := rank_ge (m := d.p.toNat) (r := d.r.toNat) (fun d h => (hd d h).1.2.2.2.2.2.2.2.1) hdm (by omega) (by omega)
    have hf := hbnd d.p.toNat
    obtain ⟨f, ef⟩ : ∃ f, rankF ds d.p.toNat = f := ⟨_, rfl⟩
    rw [ef] at hrow hge hf
    have hlq := hs q (List.mem_of_getElem? hqi)
    have hlq0 := pos_nn q
    have hpay : payQ ds (posL qs) d = ((d.a : Int) : Rat) * shareQ f (posQ q) d.r.toNat := by unfold payQ; rw [hqd, ef]
    have hcl := clamp_all (f := f) (q := q) (r := d.r.toNat) (fun j hj => (hf j hj).1) hr3
    have hsm := share_mul (f := f) (q := posQ q) (r := d.r.toNat) hlq0 (hf _ hr3).1
    have hcum := cum_bnd hf d.r.toNat (by omega)
    obtain ⟨l, t, m, l1, l2, l3, l4, l5, l6⟩ := hus.2 d.q.toNat (gotF (ds.take i) (payQ ds (posL qs)) d.q.toNat) (by rw [List.getElem?_map, List.getElem?_range (by omega)]; rfl)
    have hatl : atI us d.q = some (.ref l) := atI_lt q0 l1
    have hy3 := e3.at hy
    have zd : sz (q.den : Int) ≤ 7001 := hlq.2
    have zf : sz (f d.r.toNat) ≤ 47 := sz_nat (hf _ hr3).1 (Int.lt_of_le_of_lt (hf _ hr3).2 (by decide))
    have zc : sz (cumF f d.r.toNat) ≤ 200 := sz200 (by omega) (by omega)
    have zb : sz (f d.r.toNat * (q.den : Int)) ≤ 7048 := sz_mul zf zd
    have zk : sz (clampI f q d.r.toNat) ≤ 7048 := by
      have h1 := sz_le.mp zb
      exact sz_of (by omega)
    have za : sz d.a ≤ 47 := sz_nat a0 (Int.lt_of_le_of_lt a1 (by decide))
    have zt : sz (d.a * clampI f q d.r.toNat) ≤ 7095 := sz_mul za zk
    have m1 : CMulS (cumF f d.r.toNat) (q.den : Int) := CMulS.of zc zd (by decide)
    have m2 : CMulS (f d.r.toNat) (q.den : Int) := CMulS.of zf zd (by decide)
    have m3 : CMulS d.a (clampI f q d.r.toNat) := CMulS.of za zk (by decide)
    have m4 : CMulS t (f d.r.toNat * (q.den : Int)) := CMulS.of l5 zb (by omega)
    have m5 : CMulS (d.a * clampI f q d.r.toNat) m := CMulS.of zt l6 (by omega)
    have m6 : CMulS m (f d.r.toNat * (q.den : Int)) := CMulS.of l6 zb (by omega)
    walk_at "x"
    · rename_i h0 sl H4 fsl e4 hsl
      rw [cut3 r0 (by omega)] at hsl
      refine x_sum (SqL.of hsl) ?_
      rw [sum_cum]
      have l2' := e4.at l2
      walk_at "x"
      refine x_tupN (by first | decide | simp) fun p H5 fp e5 hp => ?_
      walk_at "x"
      refine x_setN (e5.at (e4.at hma3)) (ixN_lt q0 (by omega)) fun H6 b6 h6 => ?_
      have hsm' : ((f d.r.toNat : Int) : Rat) * shareQ f (posQ q) d.r.toNat = laidQ f (posQ q) d.r.toNat := hsm
      have hfp : 0 < f d.r.toNat := by omega
      refine ⟨_, _, _, _, _, _, _, _, rfl, h6, IsFr.set (F := gotF (ds.take i) (payQ ds (posL qs))) (((hus.same e4).same e5).but b6) (by omega) (b6.tup hp) (Int.mul_pos l3 (Int.mul_pos hfp (den_pos q))) ?_ ?_ ?_ ?_, (hR3.same (e4.trans e5)).but b6 nma, b6.lst (e5.at (e4.at hsu3)) ?_, b6.same (e3.trans (e4.trans e5)) (Same.none fma e1)⟩
      · show ((t * (f d.r.toNat * (q.den : Int)) + (d.a * clampI f q d.r.toNat) * m : Int) : Rat) = _
        rw [take_snoc hdi, gotF_snoc, if_pos (show d.q = ((d.q.toNat : Nat) : Int) by omega), hpay, Rat.intCast_add, Rat.intCast_mul, Rat.intCast_mul, Rat.intCast_mul, Rat.intCast_mul, Rat.intCast_mul, Rat.intCast_mul, l4, hcl.2.2, ← hsm']
        grind
      · exact Nat.le_trans (sz_add (Nat.le_trans (sz_mul l5 zb) (show _ ≤ 7200 * i + 7150 by omega)) (Nat.le_trans (sz_mul zt l6) (by omega))) (by omega)
      · exact Nat.le_trans (sz_mul l6 zb) (by omega)
      · intro m' hm'
        rw [take_snoc hdi, gotF_snoc, if_neg (by omega)]
        grind
      · intro z
        rw [← z] at hma3
        rw [hsu3] at hma3
        exact (ne_new' fma hsu) z.symm
    · rename_i h0
      have ha0 : d.a = 0 := by omega
      have e : gotF (ds.take (i + 1)) (payQ ds (posL qs)) = gotF (ds.take i) (payQ ds (posL qs)) := by
        funext m'
        rw [take_snoc hdi, gotF_snoc, hpay, ha0]
        have : ((0 : Int) : Rat) = 0 := rfl
        rw [this]
        split <;> grind
      exact ⟨us, _, _, _, _, _, _, _, rfl, hma3, by rw [e]; exact hus.mono (by omega), hR3, hsu3, e3⟩
  · rintro σ' H3 ⟨us, f4, f5, f6, f7, f8, f9, f10, rfl, hma3, hus, hR3, hsu3, e3⟩
    rw [hxl, List.take_length] at hus
    walk_at "x"
    exact k _ _ _ (Same.none fma e1) e3 hma3 (hus.mono (by omega))

theorem ok__law_next (T : Txt K mg) : FnOk P w K mg base (CXF P w) 3 T.d__law_next.a T.d__law_next.fd ["_law_sheet_here", "_law_purses_here", "_law_lays"] (spLawNextC K) := by
  refine T.d__law_next.F.okN sc__law_next (fun vs H Q E h => ?_) (fun cdv A outer s H vs Q E hr h => ?_)
  · obtain ⟨a, u, y, ds, ps, ws, qs, rfl, _⟩ := h; rfl
  obtain ⟨a, u, y, ds, ps, ws, qs, rfl, hSh, hu, hy, hq, hd, hl, h9, hpl, hp, hs, k⟩ := h
  have hwl := hq.length
  have hdo : ∀ d ∈ ds, DueOk (ws.length : Int) d := by rw [hwl]; exact fun d h => (hd d h).1
  refine ⟨_, (pss_cons (ps_set (i := 3) sc__law_next.nd rfl (Or.inl rfl) (pe_call (ok__law_sums T) (hr.mono (by decide)) rfl T.d__law_sums.m T.d__law_sums.F.kp T.d__law_sums.b .nil (passN nox_F) (pa_cons (pv 0) (pa_cons (pe_callB (show CallR _ _ (rLen K) from call_lenU) rfl T.z_len BT.len (pa_cons (pv 2) pa_nil)) pa_nil))))
 (pss_cons (ps_set (i := 4) sc__law_next.nd rfl (Or.inl rfl) (pe_call (ok__law_got T) (hr.mono (by decide)) rfl T.d__law_got.m T.d__law_got.F.kp T.d__law_got.b .nil (passN nox_F) (pa_cons (pv 0) (pa_cons (pv 2) pa_nil))))
 (pss_cons (ps_set (i := 5) sc__law_next.nd rfl (Or.inl rfl) (pe_lst pa_nil))
 (pss_cons (ps_for PassesOwn.never rfl (pi_range1 rfl T.z_range (pa_cons (pe_callB (show CallR _ _ (rLen K) from call_lenU) rfl T.z_len BT.len (pa_cons (pv 2) pa_nil)) pa_nil)) (pg_name (i := 6) sc__law_next.nd rfl (Or.inl rfl))
  (pss_cons (ps_set (i := 7) sc__law_next.nd rfl (Or.inl rfl) (pe_op (show OpR _ (binaryOp .Add) (rAddU K) from op_addU) (pe_ix (show IxR _ (rIx K) from ix_seq) (pe_ix (show IxR _ (rIx K) from ix_seq) (pv 4) (pv 6) (fun _ _ => rfl)) pe_int (fun _ _ => rfl)) (pe_op op_mulU (pe_ix (show IxR _ (rIx K) from ix_seq) (pv 1) (pv 6) (fun _ _ => rfl)) (pe_ix (show IxR _ (rIx K) from ix_seq) (pe_ix (show IxR _ (rIx K) from ix_seq) (pv 4) (pv 6) (fun _ _ => rfl)) pe_int (fun _ _ => rfl)))))
 (pss_one (ps_if (pt_cmpR op_gt (pv 7) (pe_op op_mulU (pe_callB (show CallR _ _ (rSum K) from call_sumU rfl) rfl T.z_sum BT.sum (pa_cons (pe_ix (show IxR _ (rIx K) from ix_seq) (pv 3) (pv 6) (fun _ _ => rfl)) pa_nil)) (pe_ix (show IxR _ (rIx K) from ix_seq) (pe_ix (show IxR _ (rIx K) from ix_seq) (pv 4) (pv 6) (fun _ _ => rfl)) pe_int (fun _ _ => rfl))) (nomark _))
  (pss_one (ps_expr (show PE _ _ (tBM K _ _ _ _) from pe_bm PySem.F.plainAttrs_list PySem.F.slot_list_append PySem.F.type_list_append mt_append (pv 5) (pa_cons (pe_tup (pa_cons (pe_callB (show CallR _ _ (rSum K) from call_sumU rfl) rfl T.z_sum BT.sum (pa_cons (pe_ix (show IxR _ (rIx K) from ix_seq) (pv 3) (pv 6) (fun _ _ => rfl)) pa_nil)) (pa_cons pe_int pa_nil))) pa_nil))))
  (pss_one (ps_expr (show PE _ _ (tBM K _ _ _ _) from pe_bm PySem.F.plainAttrs_list PySem.F.slot_list_append PySem.F.type_list_append mt_append (pv 5) (pa_cons (pe_tup (pa_cons (pv 7) (pa_cons (pe_ix (show IxR _ (rIx K) from ix_seq) (pe_ix (show IxR _ (rIx K) from ix_seq) (pv 4) (pv 6) (fun _ _ => rfl)) pe_int (fun _ _ => rfl)) pa_nil))) pa_nil))))))))
 (pss_one (ps_ret (pv 5))))))), ?_⟩
  refine x_start (σ0 := [some (.ref a), some (.ref u), some (.ref y), none, none, none, none, none]) rfl ?_
  walk_at "x"
  rename_i su H1 as fsu e1 hsu hal hR hF
  try refine x_nil ?_
  refine spLawGotC_i (hSh.same e1) (e1.at hy) (hq.same e1) hd hl h9 hs ?_
  intro co H2 vs fco e2 hco hfr
  walk_at "x"
  rename_i ma H3 fma e3 hma
  rw [Int.toNat_natCast] at hal
  have hvl : vs.length = qs.length := by have := hfr.1; rwa [List.length_map, List.length_range] at this
  refine x_forR (n := ws.length) (fun i σ' H' => ∃ (us : List V) (f6 f7 : Option V), σ' = [some (.ref a), some (.ref u), some (.ref y), some (.ref su), some (.ref co), some (.ref ma), f6, f7] ∧ H' ma = some (.lst us) ∧ IsFr 10000000 H' us ((List.range i).map (nextF ds ps (posL qs))) ∧ Same H2 H') ⟨[], _, _, rfl, hma, IsFr.nil, e3⟩ ?_ ?_
  · rintro i σ' H4 hi ⟨us, f6, f7, rfl, hma4, hus, e4⟩
    have ei : ((0 : Int) + (i : Int)).toNat = i := by omega
    obtain ⟨p, hpi⟩ := lt_some (show i < ps.length by omega)
    obtain ⟨p0, p1⟩ := hp p (List.mem_of_getElem? hpi)
    have hpd : ps.getD i 0 = p := by rw [List.getD_eq_getElem?_getD, hpi]; rfl
    have hatp : atI (ps.map V.int) ((0 : Int) + (i : Int)) = some (.int p) := atI_lt (by omega) (by rw [ei, List.getElem?_map, hpi]; rfl)
    obtain ⟨g, t, b, g1, g2, g3, g4, g5, g6⟩ := hfr.2 i (gotF ds (payQ ds (posL qs)) i) (by rw [List.getElem?_map, List.getElem?_range (by omega)]; rfl)
    have hatg : atI vs ((0 : Int) + (i : Int)) = some (.ref g) := atI_lt (by omega) (by rw [ei]; exact g1)
    obtain ⟨c, hc⟩ := lt_some (show ((0 : Int) + (i : Int)).toNat < as.length by omega)
    have hrow := ((hR.same e2).same e4).2 _ _ hc
    rw [ei] at hrow
    have hatc : atI (as.map V.ref) ((0 : Int) + (i : Int)) = some (.ref c) := atI_lt (by omega) (by rw [List.getElem?_map, hc]; rfl)
    have hu4 : H4 u = some (.lst (ps.map V.int)) := e4.at (e2.at (e1.at hu))
    have hco4 : H4 co = some (.lst vs) := e4.at hco
    have hsu4 : H4 su = some (.lst (as.map V.ref)) := e4.at (e2.at hsu)
    have g24 := e4.at g2
    have hb := sum3_bnd hd hl i
    have hnn := next_num (ps := ps) g3 g4 hpd
    have zp : sz p ≤ 47 := sz_nat p0 (Int.lt_of_le_of_lt p1 (by decide))
    have zo : sz (sumI (vec 3 (rankF ds i))) ≤ 49 := sz_nat hb.1 (Int.lt_of_le_of_lt hb.2 (by decide))
    have m1 : CMulS p b := CMulS.of zp g6 (by decide)
    have m2 : CMulS (sumI (vec 3 (rankF ds i))) b := CMulS.of zo g6 (by decide)
    have hul : us.length = i := by rw [hus.1, List.length_map, List.length_range]
    walk_at "x"
    · rename_i h0
      refine x_tupN (by first | decide | simp) fun tp H5 ftp e5 htp => ?_
      walk_at "x"
      rename_i H6 b6 h6
      refine ⟨_, _, _, rfl, h6, ?_, by walk_at "h"⟩
      rw [List.range_succ, List.map_append, List.map_singleton, hnn.1 (by omega)]
      refine IsFr.app ((hus.same e5).but b6) (b6.tup htp) (by decide) ?_ (Nat.le_trans zo (by omega)) (Nat.le_trans (sz200 (i := 1) (by decide) (by decide)) (by omega))
      show ((sumI (vec 3 (rankF ds i)) : Int) : Rat) = owedQ ds i * ((1 : Int) : Rat)
      have : ((1 : Int) : Rat) = 1 := rfl
      rw [this]; unfold owedQ; grind
    · rename_i h0
      refine x_tupN (by first | decide | simp) fun tp H5 ftp e5 htp => ?_
      walk_at "x"
      rename_i H6 b6 h6
      refine ⟨_, _, _, rfl, h6, ?_, by walk_at "h"⟩
      rw [List.range_succ, List.map_append, List.map_singleton]
      refine IsFr.app ((hus.same e5).but b6) (b6.tup htp) g3 (hnn.2 (by omega)) ?_ (Nat.le_trans g6 (by omega))
      exact Nat.le_trans (sz_add (n := 480000) (Nat.le_trans g5 (by omega)) (Nat.le_trans (sz_mul zp g6) (by omega))) (by omega)
  · rintro σ' H4 ⟨us, f6, f7, rfl, hma4, hus, e4⟩
    walk_at "x"
    exact k _ _ us (Same.none (Same.none fma e2) e1) (e1.trans (e2.trans e4)) hma4 (by rw [hpl, ← hwl]; exact hus)
theorem ok__law_same (T : Txt K mg) : FnOk P w K mg base (CXF P w) 1 T.d__law_same.a T.d__law_same.fd ["_law_ones", "_law_others"] (spSame2 K) := by
  refine T.d__law_same.F.okN sc__law_same (fun vs H Q E h => ?_) (fun cdv A outer s H vs Q E hr h => ?_)
  · obtain ⟨a, b, us, ws, rs, rs', rfl, _⟩ := h; rfl
  obtain ⟨a, b, us, ws, rs, rs', rfl, ha, hb, hu, hw, hl, h1000, k⟩ := h
  have l1 := hu.1
  have l2 := hw.1
  refine ⟨_, (pss_cons (ps_if (pt_cmpR (show OpR _ (compareOp .NotEq) (rNeU K) from op_neU hr.units) (pe_callB (show CallR _ _ (rLen K) from call_lenU) rfl T.z_len BT.len (pa_cons (pv 0) pa_nil)) (pe_callB (show CallR _ _ (rLen K) from call_lenU) rfl T.z_len BT.len (pa_cons (pv 1) pa_nil)) (nomark _))
  (pss_one (ps_ret pe_bl))
  pss_nil)
 (pss_cons (ps_for PassesOwn.never rfl (pi_range1 rfl T.z_range (pa_cons (pe_callB (show CallR _ _ (rLen K) from call_lenU) rfl T.z_len BT.len (pa_cons (pv 0) pa_nil)) pa_nil)) (pg_name (i := 2) sc__law_same.nd rfl (Or.inl rfl))
  (pss_one (ps_if (pt_cmpR (show OpR _ (compareOp .NotEq) (rNeU K) from op_neU hr.units) (pe_op op_mulU (pe_ix (show IxR _ (rIx K) from ix_seq) (pe_ix (show IxR _ (rIx K) from ix_seq) (pv 0) (pv 2) (fun _ _ => rfl)) pe_int (fun _ _ => rfl)) (pe_ix (show IxR _ (rIx K) from ix_seq) (pe_ix (show IxR _ (rIx K) from ix_seq) (pv 1) (pv 2) (fun _ _ => rfl)) pe_int (fun _ _ => rfl))) (pe_op op_mulU (pe_ix (show IxR _ (rIx K) from ix_seq) (pe_ix (show IxR _ (rIx K) from ix_seq) (pv 1) (pv 2) (fun _ _ => rfl)) pe_int (fun _ _ => rfl)) (pe_ix (show IxR _ (rIx K) from ix_seq) (pe_ix (show IxR _ (rIx K) from ix_seq) (pv 0) (pv 2) (fun _ _ => rfl)) pe_int (fun _ _ => rfl))) (nomark _))
  (pss_one (ps_ret pe_bl))
  pss_nil)))
 (pss_one (ps_ret pe_bl)))), ?_⟩
  refine x_start (σ0 := [some (.ref a), some (.ref b), none]) rfl ?_
  walk_at "x"
  · exfalso; omega
  refine x_forR (fun i σ' H' => ∃ f2 : Option V, σ' = [some (.ref a), some (.ref b), f2] ∧ H' = H ∧ ∀ j, j < i → rs.getD j 0 = rs'.getD j 0) ⟨_, rfl, rfl, fun j h => absurd h (Nat.not_lt_zero _)⟩ ?_ ?_
  · rintro i σ' H' hi ⟨f2, rfl, rfl, hj⟩
    obtain ⟨r, hr1⟩ := lt_some (show i < rs.length by omega)
    obtain ⟨r', hr2⟩ := lt_some (show i < rs'.length by omega)
    obtain ⟨x, t1, b1, x1, x2, x3, x4, x5, x6⟩ := hu.2 i r hr1
    obtain ⟨y, t2, b2, y1, y2, y3, y4, y5, y6⟩ := hw.2 i r' hr2
    have g1 : rs.getD i 0 = r := by rw [List.getD_eq_getElem?_getD, hr1]; rfl
    have g2 : rs'.getD i 0 = r' := by rw [List.getD_eq_getElem?_getD, hr2]; rfl
    have ei : ((0 : Int) + (i : Int)).toNat = i := by omega
    have hat1 : atI us ((0 : Int) + (i : Int)) = some (.ref x) := atI_lt (by omega) (by rw [ei]; exact x1)
    have hat2 : atI ws ((0 : Int) + (i : Int)) = some (.ref y) := atI_lt (by omega) (by rw [ei]; exact y1)
    have m1 : CMulS t1 b2 := CMulS.of x5 y6 (by decide)
    have m2 : CMulS t2 b1 := CMulS.of y5 x6 (by decide)
    walk_at "x"
    · rename_i hne
      refine k false ⟨(fun z => nomatch z), fun e => absurd ?_ hne⟩
      have : r = r' := by rw [e] at hr1; rw [hr1] at hr2; exact Option.some.inj hr2
      subst this
      exact fr_eq x4 y4
    · rename_i he
      refine ⟨_, rfl, rfl, fun j hji => ?_⟩
      rcases Nat.lt_or_eq_of_le (Nat.le_of_lt_succ hji) with z | z
      · exact hj j z
      · subst z
        rw [g1, g2]
        exact fr_ne x3 y3 x4 y4 he
  · rintro σ' H' ⟨f2, rfl, rfl, hj⟩
    rw [Int.toNat_natCast, l1] at hj
    walk_at "x"
    exact k true ⟨fun _ => list_of_getD hl hj, fun _ => rfl⟩
theorem ok__law_forward (T : Txt K mg) : FnOk P w K mg base (CXF P w) 1 T.d__law_forward.a T.d__law_forward.fd ["_law_sheet_here"] (spFwd K) := by
  refine T.d__law_forward.F.okN sc__law_forward (fun vs H Q E h => ?_) (fun cdv A outer s H vs Q E hr h => ?_)
  · obtain ⟨a, ds, rfl, _⟩ := h; rfl
  obtain ⟨a, ds, rfl, ⟨xs, hS, hT⟩, hl, k⟩ := h
  have hxl := hT.length
  refine ⟨_, (pss_one (ps_ret (pe_comp rfl (show PI _ _ _ (iList K _) from pi_list (pv 0)) (compScope_of (Ni := ["_law_due_here"]) (caps := [none]) (by rfl)) (fun S _ _ _ _ _ => (pg_nameC (gi := 0) S (Or.inl rfl) rfl)) (fun _ _ _ _ _ => pf_nil) (fun _ _ _ _ _ => (pe_tup (pa_cons (pe_callB (call_minU rfl) rfl T.z_min BT.min (pa_cons (pe_ix (show IxR _ (rIx K) from ix_seq) (pv 0) pe_int (fun _ _ => rfl)) (pa_cons (pe_ix (show IxR _ (rIx K) from ix_seq) (pv 0) pe_int (fun _ _ => rfl)) pa_nil))) (pa_cons (pe_callB (call_maxU rfl) rfl T.z_max BT.max (pa_cons (pe_ix (show IxR _ (rIx K) from ix_seq) (pv 0) pe_int (fun _ _ => rfl)) (pa_cons (pe_ix (show IxR _ (rIx K) from ix_seq) (pv 0) pe_int (fun _ _ => rfl)) pa_nil))) (pa_cons (pe_ix (show IxR _ (rIx K) from ix_seq) (pv 0) pe_int (fun _ _ => rfl)) (pa_cons (pe_ix (show IxR _ (rIx K) from ix_seq) (pv 0) pe_int (fun _ _ => rfl)) pa_nil))))))))), ?_⟩
  refine x_start (σ0 := [some (.ref a)]) rfl ?_
  walk_at "x"
  refine x_compS1 (src_list (K := K) (a := a) (xs := xs)) (fun H' e => hS.keep e) rfl (fun i vs H' => IsTs dueV H' vs ((ds.take i).map fwdD)) (fun H' _ => trivial) ?_ ?_
  · rintro i x D vs o H9 H10 hi hD e9 hv hvl hTv e10 hx
    obtain ⟨b, d, rfl, hdi, hb⟩ := (hT.same (e9.trans e10)).get hx
    have hb' : H10 b = some (.tup [.int d.p, .int d.q, .int d.r, .int d.a]) := hb
    walk_at "x"
    rename_i tt H11 ftt e11 htt H12 b12 h12
    refine ⟨⟨_, rfl⟩, by walk_at "h", _, h12, by rw [List.length_append]; exact Nat.succ_le_succ hvl, ?_⟩
    dsimp only
    rw [take_snoc hdi, List.map_append, List.map_singleton]
    refine IsTs.app (f := dueV) (b12.tup (show H11 tt = some (.tup (dueV (fwdD d))) from ?_)) (by walk_at "h")
    have e2 : (if d.q > d.p then d.q else d.p) = (if d.q < d.p then d.p else d.q) := by split <;> split <;> omega
    rw [e2] at htt
    exact htt
  · rintro D H3 vs hD e3 hv hvl hTv
    rw [hxl, List.take_length] at hTv
    exact k D H3 vs hD e3 hv hTv

theorem ok__law_reckoned (T : Txt K mg) : FnOk P w K mg base (CXF P w) 4 T.d__law_reckoned.a T.d__law_reckoned.fd ["_law_sheet_here", "_law_purses_here"] (spReck K) := by
  refine T.d__law_reckoned.F.okN sc__law_reckoned (fun vs H Q E h => ?_) (fun cdv A outer s H vs Q E hr h => ?_)
  · obtain ⟨a, u, n, ds, ps, rfl, _⟩ := h; rfl
  obtain ⟨a, u, n, ds, ps, rfl, hSh, hu, hpl, n9, hd, hl, hp, hf, hT, k⟩ := h
  have hpv : (ps.map V.int).length = n := by rw [List.length_map]; exact hpl
  have hp0 : ∀ p ∈ ps, 0 ≤ p := fun p h => (hp p h).1
  refine ⟨_, (pss_cons (ps_setC (i := 2) sc__law_reckoned.nd rfl rfl rfl (show PI _ _ _ (iList K _) from pi_list (pv 1)) (compScope_of (Ni := ["_law_purse_here"]) (caps := [none]) (by rfl)) (fun S _ _ _ _ _ => (pg_nameC (gi := 0) S (Or.inl rfl) rfl)) (fun _ _ _ _ _ => pf_nil) (fun _ _ _ _ _ => (pe_tup (pa_cons pe_int (pa_cons pe_int pa_nil)))))
 (pss_cons (ps_for PassesOwn.never rfl (pi_range1 rfl T.z_range (pa_cons (pe_callB (show CallR _ _ (rLen K) from call_lenU) rfl T.z_len BT.len (pa_cons (pv 1) pa_nil)) pa_nil)) (pg_name (i := 3) sc__law_reckoned.nd rfl (Or.inl rfl))
  (pss_cons (ps_set (i := 4) sc__law_reckoned.nd rfl (Or.inl rfl) (pe_ix (show IxR _ (rIx K) from ix_seq) (pe_call (ok__law_next T) (hr.mono (by decide)) rfl T.d__law_next.m T.d__law_next.F.kp T.d__law_next.b .nil (passN nox_F) (pa_cons (pv 0) (pa_cons (pv 1) (pa_cons (pv 2) pa_nil)))) (pv 3) (fun _ _ => rfl)))
 (pss_one (ps_asg (pe_call (ok__law_part T) (hr.mono (by decide)) rfl T.d__law_part.m T.d__law_part.F.kp T.d__law_part.b .nil (passN nox_F) (pa_cons (pe_ix (show IxR _ (rIx K) from ix_seq) (pv 4) pe_int (fun _ _ => rfl)) (pa_cons (pe_ix (show IxR _ (rIx K) from ix_seq) (pv 4) pe_int (fun _ _ => rfl)) pa_nil))) (pg_sub (pv 2) (pv 3) set_list)))))
 (pss_one (ps_ret (pv 2))))), ?_⟩
  refine x_start (σ0 := [some (.ref a), some (.ref u), none, none, none]) rfl ?_
  walk_at "x"
  refine x_compS1 (src_list (K := K) (a := u) (xs := ps.map V.int)) (fun H' e => SqL.of (e.at hu)) rfl (fun i vs H' => IsQs H' vs ((List.range i).map fun _ => 0)) (fun H' _ => trivial) ?_ ?_
  · rintro i x D vs o H2 H3 hi hD e2 hv hvl hvs e3 hx
    walk_at "x"
    refine x_tupQ (q := 0) ⟨rfl, rfl⟩ ?_
    intro t1 H5 e5 ht1
    walk_at "x"
    rename_i H6 b6 h6
    refine ⟨⟨_, rfl⟩, by walk_at "h", _, h6, by rw [List.length_append]; exact Nat.succ_le_succ hvl, ?_⟩
    show IsQs H6 _ ((List.range (i + 1)).map fun _ => 0)
    rw [List.range_succ, List.map_append, List.map_singleton]
    exact IsQs.app (LBut.isQ b6 ht1) (by walk_at "h")
  rintro la H1 vs0 fla e1 hla hvl hvs
  rw [hpv] at hvs
  have hu1 := e1.at hu
  have hSh1 := hSh.same e1
  walk_at "x"
  rw [show ((ps.map V.int).length : Int).toNat = n by rw [hpv]; exact Int.toNat_natCast n]
  refine x_forR (n := n) (fun i σ' H' => ∃ (ws : List V) (f3 f4 : Option V), σ' = [some (.ref a), some (.ref u), some (.ref la), f3, f4] ∧ H' la = some (.lst ws) ∧ IsQs H' ws (recQ ds ps n i) ∧ Same H H') ⟨_, _, _, rfl, hla, hvs, e1⟩ ?_ ?_
  · rintro i σ' H3 hi ⟨ws, f3, f4, rfl, hla3, hws, e3⟩
    have ei : (0 : Int) + (i : Int) = i := by omega
    rw [ei]
    have hlen : (recQ ds ps n i).length = n := rec_len i
    have hwl := hws.length
    have hnn := rec_nn (ps := ps) (fun d h => (hd d h).1) hp0 i
    have hps := posL_self hnn
    have hSh3 := hSh.same e3
    have hu3 := e3.at hu
    have hszq : ∀ q ∈ recQ ds ps n i, SzQ q 7051 7001 := rec_szi hd hl hp0 hf hT i (Nat.le_of_lt hi)
    have hdq : ∀ d ∈ ds, DueOk ((recQ ds ps n i).length : Int) d ∧ d.a ≤ 1000000000000 := by rw [hlen]; exact hd
    walk_at "x"
    refine spLawNextC_i hSh3 hu3 hla3 hws hdq hl (by omega) (by omega) hp hszq ?_
    intro nx H4 vs4 fnx e4 hnx hfr
    rw [hps] at hfr
    obtain ⟨g, t, b, g1, g2, g3, g4, g5, g6⟩ := hfr.2 i (nextF ds ps (recQ ds ps n i) i) (by rw [List.getElem?_map, List.getElem?_range (by omega)]; rfl)
    have hatg : atI vs4 (i : Int) = some (.ref g) := atI_nat g1
    have hz4 : SzQ (nextF ds ps (recQ ds ps n i) i) 4000 4000 := rec_next_sz hd hl hp0 hf hT hi
    walk_at "x"
    refine spPartN_i g3 g4 hz4 ?_
    intro pp H5 e5 hpp
    have hla5 := (e4.trans e5).at hla3
    have hws5 := hws.same (e4.trans e5)
    walk_at "x"
    refine x_setN (j := i) hla5 (ixN_lt (by omega) (by omega)) ?_
    intro H6 b6 h6
    walk_at "x"
    refine ⟨_, _, _, rfl, h6, ?_, b6.same (e3.trans (e4.trans e5)) fla⟩
    exact IsQs.putQ (b6.tup hpp) i (LBut.isQs b6 hws5)
  rintro σ' H3 ⟨ws, f3, f4, rfl, hla3, hws, e3⟩
  walk_at "x"
  exact k la H3 ws fla e3 hla3 hws
theorem ok__law_drawn_lay (T : Txt K mg) : FnOk P w K mg base (CXF P w) 3 T.d__law_drawn_lay.a T.d__law_drawn_lay.fd ["_law_script", "_law_k", "_law_owed"] (spDLay K) := by
  refine T.d__law_drawn_lay.F.okN sc__law_drawn_lay (fun vs H Q E h => ?_) (fun cdv A outer s H vs Q E hr h => ?_)
  · obtain ⟨a, ns, k, o, rfl, _⟩ := h; rfl
  obtain ⟨a, ns, kk, o, rfl, hS, hz, k0, k1, o0, o1, k⟩ := h
  refine ⟨_, (pss_cons (ps_if (pt_cmpR (show OpR _ (compareOp .Eq) (rEqU K) from op_eqU hr.units) (pe_call (ok__law_draw T) (hr.mono (by decide)) rfl T.d__law_draw.m T.d__law_draw.F.kp T.d__law_draw.b .nil (passN nox_F) (pa_cons (pv 0) (pa_cons (pe_op (show OpR _ (binaryOp .Add) (rAddU K) from op_addU) pe_int (pv 1)) (pa_cons pe_int (pa_cons pe_int pa_nil))))) pe_int (nomark _))
  (pss_one (ps_ret (pe_tup (pa_cons (pv 2) (pa_cons pe_int pa_nil)))))
  pss_nil)
 (pss_one (ps_ret (pe_call (ok__law_part T) (hr.mono (by decide)) rfl T.d__law_part.m T.d__law_part.F.kp T.d__law_part.b .nil (passN nox_F) (pa_cons (pe_op op_mulU (pv 2) (pe_call (ok__law_draw T) (hr.mono (by decide)) rfl T.d__law_draw.m T.d__law_draw.F.kp T.d__law_draw.b .nil (passN nox_F) (pa_cons (pv 0) (pa_cons (pe_op (show OpR _ (binaryOp .Add) (rAddU K) from op_addU) pe_int (pv 1)) (pa_cons pe_int (pa_cons pe_int pa_nil)))))) (pa_cons pe_int pa_nil)))))), ?_⟩
  refine x_start (σ0 := [some (.ref a), some (.int kk), some (.int o)]) rfl ?_
  walk_at "x"
  · refine x_tupQ (q := ((o : Int) : Rat)) ⟨rfl, rfl⟩ ?_
    intro t1 H5 e5 ht1
    walk_at "x"
    exact k t1 H5 _ e5 ht1 (castR_nn o0) Rat.le_refl (Dv.int _)
  · rename_i x ex x0 x1 hx y ey y0 y1
    obtain ⟨q, e, h0, h1, hv⟩ := twelfth o0 y0 (show y ≤ 12 by omega)
    have zo : sz o ≤ 49 := sz_nat o0 (Int.lt_of_le_of_lt o1 (by decide))
    have mo : CMulS o y := CMulS.of zo (sz200 (by omega) (by omega)) (by decide)
    walk_at "x"
    refine spPartN_i (by decide) e ?_ ?_
    · have : ((300000000000000 : Int) : Rat) ≤ ((100000000000000000 : Int) : Rat) := castR_le (by decide)
      have := castR_le o1
      exact (DvB.sz (D := 12) (z := 4) ⟨h0, by grind, hv⟩ (by decide) (sz_of (by decide))).mono (by decide) (by decide)
    intro pp H5 e5 hpp
    walk_at "x"
    exact k pp H5 q e5 hpp h0 h1 hv

theorem ok__law_told (T : Txt K mg) : FnOk P w K mg base (CXF P w) 9 T.d__law_told.a T.d__law_told.fd ["_law_sheet_here", "_law_purses_here", "_law_lays", "_law_due_here"] (spTold34 K) := by
  refine T.d__law_told.F.okN sc__law_told (fun vs H Q E h => ?_) (fun cdv A outer s H vs Q E hr h => ?_)
  · obtain ⟨a, u, y, b, ds, ps, ws, qs, rfl, _⟩ := h; rfl
  obtain ⟨a, u, y, b, ds, ps, ws, qs, rfl, ⟨xs, hS, hT⟩, hu, hy, hq, hd, hl, h9, hpl, hp, hs, hg, hb, k⟩ := h
  refine ⟨_, (pss_cons (ps_set (i := 4) sc__law_told.nd rfl (Or.inl rfl) (pe_lst (pa_cons (pe_callTy (show CallR _ _ (rListOf K) from call_listU) rfl T.z_list BT.list (pa_cons (pv 0) pa_nil)) (pa_cons (pe_callTy (show CallR _ _ (rListOf K) from call_listU) rfl T.z_list BT.list (pa_cons (pv 1) pa_nil)) (pa_cons (pe_callTy (show CallR _ _ (rListOf K) from call_listU) rfl T.z_list BT.list (pa_cons (pv 2) pa_nil)) pa_nil)))))
 (pss_cons (ps_set (i := 5) sc__law_told.nd rfl (Or.inl rfl) (pe_call (ok_is_clearing T) (hr.mono (by decide)) rfl T.d_is_clearing.m T.d_is_clearing.F.kp T.d_is_clearing.b .nil (passN nox_F) (pa_cons (pe_ix (show IxR _ (rIx K) from ix_seq) (pv 4) pe_int (fun _ _ => rfl)) (pa_cons (pe_ix (show IxR _ (rIx K) from ix_seq) (pv 4) pe_int (fun _ _ => rfl)) (pa_cons (pe_ix (show IxR _ (rIx K) from ix_seq) (pv 4) pe_int (fun _ _ => rfl)) pa_nil)))))
 (pss_cons (ps_if (PW.pt (pw_or (pt_cmpR (show OpR _ (compareOp .NotEq) (rNeU K) from op_neU hr.units) (pe_ix (show IxR _ (rIx K) from ix_seq) (pv 4) pe_int (fun _ _ => rfl)) (pv 0) (nomark _)) (pw_or (pt_cmpR (show OpR _ (compareOp .NotEq) (rNeU K) from op_neU hr.units) (pe_ix (show IxR _ (rIx K) from ix_seq) (pv 4) pe_int (fun _ _ => rfl)) (pv 1) (nomark _)) (pw_or1 (pt_cmpR (show OpR _ (compareOp .NotEq) (rNeU K) from op_neU hr.units) (pe_ix (show IxR _ (rIx K) from ix_seq) (pv 4) pe_int (fun _ _ => rfl)) (pv 2) (nomark _))))))
  (pss_one (ps_ret pe_bl))
  pss_nil)
 (pss_one (ps_ret (pe_and (pe_callB (show CallR _ _ (rIsiU K) from call_isiU) rfl T.z_isinstance BT.isinstance (pa_cons (pv 5) (pa_cons (pe_bltn (v := .ty "bool") rfl T.z_bool BT.bool rfl) pa_nil))) (pe_one (pe_cmpR (show OpR _ (compareOp .Eq) (rEqU K) from op_eqU hr.units) (pv 5) (pv 3) (nomark _))))))))), ?_⟩
  refine x_start (σ0 := [some (.ref a), some (.ref u), some (.ref y), some (.bl b), none, none]) rfl ?_
  walk_at "x"
  rename_i s1 H1 fs1 e1 hs1 u1 H2 fu1 e2 hu1 y1 H3 fy1 e3 hy1 hd4 H4 fhd e4 hhd
  have hs4 : H4 s1 = some (.lst xs) := ((e2.trans e3).trans e4).at hs1
  have e04 : Same H H4 := (e1.trans e2).trans (e3.trans e4)
  have hSh4 : IsSh K H4 s1 ds := ⟨xs, SqL.of hs4, hT.same e04⟩
  have hu4 := (e3.trans e4).at hu1
  have hy4 := e4.at hy1
  have hq4 := hq.same e04
  have hS4 : IsSh K H4 a ds := ⟨xs, hS.keep e04, hT.same e04⟩
  have hu04 := e04.at hu
  have hy04 := e04.at hy
  clear e04
  refine x_nil ?_
  refine spIsClr_i hSh4 hu4 hy4 hq4 hd hl h9 hpl hp hs hg ?_ ?_
  · intro H5 e5 hc
    have hbt := hb.mpr hc
    subst hbt
    have hs5 := e5.at hs4
    have hSh5 := hSh4.same e5
    have hS5 := hS4.same e5
    have hu5 := e5.at hu4
    have hu05 := e5.at hu04
    have hy5 := e5.at hy4
    have hy05 := e5.at hy04
    have hq5 := hq4.same e5
    have hhd5 := e5.at hhd
    have e05 : Same H H5 := (e1.trans e2).trans (e3.trans (e4.trans e5))
    walk_at "x"
    all_goals exact k _ e05
  · intro H5 e5 hc
    have hbf : b = false := by cases b with | false => rfl | true => exact absurd (hb.mp rfl) hc
    subst hbf
    have hs5 := e5.at hs4
    have hSh5 := hSh4.same e5
    have hS5 := hS4.same e5
    have hu5 := e5.at hu4
    have hu05 := e5.at hu04
    have hy5 := e5.at hy4
    have hy05 := e5.at hy04
    have hq5 := hq4.same e5
    have hhd5 := e5.at hhd
    have e05 : Same H H5 := (e1.trans e2).trans (e3.trans (e4.trans e5))
    walk_at "x"
    all_goals exact k _ e05
theorem ok__law_spoilt (T : Txt K mg) : FnOk P w K mg base (CXF P w) 3 T.d__law_spoilt.a T.d__law_spoilt.fd ["_law_script", "_law_lays", "_law_owed"] (spSpoil K) := by
  refine T.d__law_spoilt.F.okN sc__law_spoilt (fun vs H Q E h => ?_) (fun cdv A outer s H vs Q E hr h => ?_)
  · obtain ⟨a, y, o, ns, ws, qs, os, D, x, rfl, _⟩ := h; rfl
  obtain ⟨a, y, o, ns, ws, qs, os, D, x, rfl, hS, hz, hy, hq, ho, hol, q1, q9, hob, hL, hD, hB, x0, x1, k⟩ := h
  have hwl := hq.length
  refine ⟨_, (pss_cons (ps_set (i := 3) sc__law_spoilt.nd rfl (Or.inl rfl) (pe_callTy (show CallR _ _ (rListOf K) from call_listU) rfl T.z_list BT.list (pa_cons (pv 1) pa_nil)))
 (pss_cons (ps_set (i := 4) sc__law_spoilt.nd rfl (Or.inl rfl) (pe_call (ok__law_draw T) (hr.mono (by decide)) rfl T.d__law_draw.m T.d__law_draw.F.kp T.d__law_draw.b .nil (passN nox_F) (pa_cons (pv 0) (pa_cons pe_int (pa_cons pe_int (pa_cons (pe_callB (show CallR _ _ (rLen K) from call_lenU) rfl T.z_len BT.len (pa_cons (pv 1) pa_nil)) pa_nil))))))
 (pss_cons (ps_set (i := 5) sc__law_spoilt.nd rfl (Or.inl rfl) (pe_call (ok__law_draw T) (hr.mono (by decide)) rfl T.d__law_draw.m T.d__law_draw.F.kp T.d__law_draw.b .nil (passN nox_F) (pa_cons (pv 0) (pa_cons pe_int (pa_cons pe_int (pa_cons pe_int pa_nil))))))
 (pss_cons (ps_set (i := 6) sc__law_spoilt.nd rfl (Or.inl rfl) (pe_ix (show IxR _ (rIx K) from ix_seq) (pe_lst (pa_cons pe_int (pa_cons (pe_op (show OpR _ (binaryOp .Add) (rAddU K) from op_addU) (pe_op op_pow pe_int pe_int) pe_int) pa_nil))) (pe_call (ok__law_draw T) (hr.mono (by decide)) rfl T.d__law_draw.m T.d__law_draw.F.kp T.d__law_draw.b .nil (passN nox_F) (pa_cons (pv 0) (pa_cons pe_int (pa_cons pe_int (pa_cons pe_int pa_nil))))) (fun _ _ => rfl)))
 (pss_mid (ps_if (pt_cmpR op_lt (pv 5) pe_int (nomark _))
  (pss_one (ps_asg (pe_call (ok__law_part T) (hr.mono (by decide)) rfl T.d__law_part.m T.d__law_part.F.kp T.d__law_part.b .nil (passN nox_F) (pa_cons (pe_op (show OpR _ (binaryOp .Add) (rAddU K) from op_addU) (pe_op op_mulU (pe_ix (show IxR _ (rIx K) from ix_seq) (pe_ix (show IxR _ (rIx K) from ix_seq) (pv 3) (pv 4) (fun _ _ => rfl)) pe_int (fun _ _ => rfl)) (pv 6)) (pe_op op_mulU (pe_op op_sub (pe_op op_mulU pe_int (pv 5)) pe_int) (pe_ix (show IxR _ (rIx K) from ix_seq) (pe_ix (show IxR _ (rIx K) from ix_seq) (pv 3) (pv 4) (fun _ _ => rfl)) pe_int (fun _ _ => rfl)))) (pa_cons (pe_op op_mulU (pe_ix (show IxR _ (rIx K) from ix_seq) (pe_ix (show IxR _ (rIx K) from ix_seq) (pv 3) (pv 4) (fun _ _ => rfl)) pe_int (fun _ _ => rfl)) (pv 6)) pa_nil))) (pg_sub (pv 3) (pv 4) set_list)))
  pss_nil)
 (pss_mid (ps_if (pt_cmpR (show OpR _ (compareOp .Eq) (rEqU K) from op_eqU hr.units) (pv 5) pe_int (nomark _))
  (pss_one (ps_asg (pe_tup (pa_cons (pe_un un_neg pe_int) (pa_cons pe_int pa_nil))) (pg_sub (pv 3) (pv 4) set_list)))
  pss_nil)
 (pss_mid (ps_if (pt_cmpR (show OpR _ (compareOp .Eq) (rEqU K) from op_eqU hr.units) (pv 5) pe_int (nomark _))
  (pss_one (ps_asg (pe_tup (pa_cons (pe_op (show OpR _ (binaryOp .Add) (rAddU K) from op_addU) (pe_op op_mulU (pe_ix (show IxR _ (rIx K) from ix_seq) (pv 2) (pv 4) (fun _ _ => rfl)) pe_int) pe_int) (pa_cons pe_int pa_nil))) (pg_sub (pv 3) (pv 4) set_list)))
  pss_nil)
 (pss_one (ps_ret (pv 3)))))))))), ?_⟩
  refine x_start (σ0 := [some (.ref a), some (.ref y), some (.ref o), none, none, none, none]) rfl ?_
  walk_at "x"
  rename_i ma H1 fma e1 hma ii eii i0 i1 w ew w0 w1 li H2 fli e2 hli xx exx xx0 xx1
  clear eii ew exx
  obtain ⟨F, hF, hFv⟩ : ∃ F : Int, atI [V.int 7, V.int (1000000000 + 7)] xx = some (.int F) ∧ (F = 7 ∨ F = 1000000007) := by
    rcases (show xx = 0 ∨ xx = 1 by omega) with e | e
    · rw [e]; exact ⟨7, rfl, .inl rfl⟩
    · rw [e]; exact ⟨1000000007, rfl, .inr rfl⟩
  obtain ⟨i, ei⟩ : ∃ i : Nat, ii = (i : Int) := ⟨ii.toNat, by omega⟩
  subst ei
  have hi : i < qs.length := by omega
  obtain ⟨v0, hv0⟩ := lt_some (show i < ws.length by omega)
  obtain ⟨b, q, rfl, hqi, hb⟩ := hq.get hv0
  have hqd : qs.getD i 0 = q := by rw [List.getD_eq_getElem?_getD, hqi]; rfl
  obtain ⟨ov, hov⟩ := lt_some (show i < os.length by omega)
  have hod : os.getD i 0 = ov := by rw [List.getD_eq_getElem?_getD, hov]; rfl
  obtain ⟨o0, o1⟩ := hob ov (List.mem_of_getElem? hov)
  have hat : atI ws (i : Int) = some (.ref b) := atI_nat hv0
  have hato : atI (os.map V.int) (i : Int) = some (.int ov) := atI_nat (by rw [List.getElem?_map, hov]; rfl)
  have hma2 := e2.at hma
  have e02 := e1.trans e2
  have hb2 : IsQ H2 b q := e02.at hb
  have ho2 := e02.at ho
  have hq2 := hq.same e02
  have zq := hL.sz hD (List.mem_of_getElem? hqi)
  have zF : sz F ≤ 40 := sz_of (by rcases hFv with e | e <;> rw [e] <;> decide)
  have zw : sz (2 * w - 1) ≤ 10 := sz_of (show (2 * w - 1).natAbs < 2 ^ 10 by omega)
  have hFp : 0 < F := by omega
  have m1 : CMulS q.num F := CMulS.of zq.1 zF (by decide)
  have m2 : CMulS (2 * w - 1) (q.den : Int) := CMulS.of zw zq.2 (by decide)
  have m3 : CMulS (q.den : Int) F := CMulS.of zq.2 zF (by decide)
  have hmv := moved (q := q) (far := F) (s := 2 * w - 1) hFp
  walk_at "x"
  refine x_mid (fun σ' H' => σ' = [some (.ref a), some (.ref y), some (.ref o), some (.ref ma), some (.int (i : Int)), some (.int w), some (.int F)] ∧ Same H H' ∧ ((w < 2 ∧ ∃ us v, H' ma = some (.lst us) ∧ IsQs H' us (qs.set i v) ∧ SpoilV q ((ov : Int) : Rat) v) ∨ (2 ≤ w ∧ H' ma = some (.lst ws)))) ?_ ?_
  · walk_at "x"
    · rename_i hw
      have hs : 2 * w - 1 = 1 ∨ 2 * w - 1 = -1 := by omega
      have hsv := spoil_by (q := q) (o := ((ov : Int) : Rat)) hFv hs
      refine spPartN_i (Int.mul_pos (den_pos q) hFp) hmv ?_ ?_
      · have hsv' := hsv
        rw [← hqd] at hsv'
        have hl1 := (hsv'.lay hi hL hB x0 x1 o0 o1).1
        have hm : qs.getD i 0 + ((2 * w - 1 : Int) : Rat) / ((F : Int) : Rat) ∈ qs.set i (qs.getD i 0 + ((2 * w - 1 : Int) : Rat) / ((F : Int) : Rat)) := List.mem_set hi _
        rw [hqd] at hm hl1
        exact (hl1.sz (z := 940) (by rw [Int.natCast_mul]; exact Nat.le_trans (sz_mul hD (sz_of (by decide) : sz ((14000000098 : Nat) : Int) ≤ 34)) (by decide)) hm).mono (by decide) (by decide)
      intro pp H5 e5 hpp
      have hma5 := e5.at hma2
      walk_at "x"
      refine x_setN (j := i) hma5 (ixN_lt (by omega) (by omega)) ?_
      intro H6 b6 h6
      walk_at "x"
      exact ⟨rfl, b6.same (e02.trans e5) fma, .inl ⟨hw, _, _, h6, IsQs.putQ (b6.tup hpp) i (LBut.isQs b6 (hq2.same e5)), hsv⟩⟩
    · rename_i hw
      exact ⟨rfl, e02, .inr ⟨by omega, hma2⟩⟩
  rintro σ' H3 ⟨rfl, e3, hc3⟩
  have ho3 := e3.at ho
  have hq3 := hq.same e3
  walk_at "x"
  refine x_mid (fun σ' H' => σ' = [some (.ref a), some (.ref y), some (.ref o), some (.ref ma), some (.int (i : Int)), some (.int w), some (.int F)] ∧ Same H H' ∧ ((w < 3 ∧ ∃ us v, H' ma = some (.lst us) ∧ IsQs H' us (qs.set i v) ∧ SpoilV q ((ov : Int) : Rat) v) ∨ (w = 3 ∧ H' ma = some (.lst ws)))) ?_ ?_
  · walk_at "x"
    · rename_i hw
      have hma3 : H3 ma = some (.lst ws) := by
        rcases hc3 with h | h
        · omega
        · exact h.2
      refine x_tupQ (q := ((-1 : Int) : Rat)) ⟨rfl, rfl⟩ ?_
      intro t1 H5 e5 ht1
      have hma5 := e5.at hma3
      walk_at "x"
      refine x_setN (j := i) hma5 (ixN_lt (by omega) (by omega)) ?_
      intro H6 b6 h6
      walk_at "x"
      exact ⟨rfl, b6.same (e3.trans e5) fma, .inl ⟨by omega, _, _, h6, IsQs.putQ (b6.tup ht1) i (LBut.isQs b6 (hq3.same e5)), spoil_neg⟩⟩
    · rename_i hw
      refine ⟨rfl, e3, ?_⟩
      rcases hc3 with ⟨h1, us, v, h2⟩ | h
      · exact .inl ⟨by omega, us, v, h2⟩
      · exact .inr ⟨by omega, h.2⟩
  rintro σ' H4 ⟨rfl, e4, hc4⟩
  have ho4 := e4.at ho
  have hq4 := hq.same e4
  have fin : ∀ (H' : Hp) us v, Same H H' → H' ma = some (.lst us) → IsQs H' us (qs.set i v) → SpoilV q ((ov : Int) : Rat) v → Q (.ref ma) H' := fun H' us v e hu hs hv => by
    rw [← hqd, ← hod] at hv
    have hl := hv.lay hi hL hB x0 x1 (by rw [hod]; exact o0) (by rw [hod]; exact o1)
    exact k ma H' us i v fma e hu hi hs hv.ne hl.1 hl.2
  obtain ⟨vh, hvn, hvd⟩ := half_rat ov
  have zo2 : CMulS ov 2 := CMulS.of (sz_nat o0 (Int.lt_of_le_of_lt o1 (by decide)) : sz ov ≤ 49) (sz_of (by decide) : sz 2 ≤ 3) (by decide)
  walk_at "x"
  refine x_mid (fun σ' H' => σ' = [some (.ref a), some (.ref y), some (.ref o), some (.ref ma), some (.int (i : Int)), some (.int w), some (.int F)] ∧ Same H H' ∧ ∃ us v, H' ma = some (.lst us) ∧ IsQs H' us (qs.set i v) ∧ SpoilV q ((ov : Int) : Rat) v) ?_ ?_
  · walk_at "x"
    · rename_i hw
      have hma4 : H4 ma = some (.lst ws) := by
        rcases hc4 with h | h
        · omega
        · exact h.2
      refine x_tupQ (q := vh) ⟨hvn.symm, by rw [hvd]; rfl⟩ ?_
      intro t1 H5 e5 ht1
      have hma5 := e5.at hma4
      walk_at "x"
      refine x_setN (j := i) hma5 (ixN_lt (by omega) (by omega)) ?_
      intro H6 b6 h6
      walk_at "x"
      refine ⟨rfl, b6.same (e4.trans e5) fma, _, _, h6, IsQs.putQ (b6.tup ht1) i (LBut.isQs b6 (hq4.same e5)), spoil_half ?_⟩
      have := num_eq vh
      rw [hvn, hvd] at this
      exact this.symm
    · rename_i hw
      rcases hc4 with ⟨h1, us, v, h2⟩ | h
      · exact ⟨rfl, e4, us, v, h2⟩
      · exfalso; omega
  rintro σ' H5 ⟨rfl, e5, us, v, h1, h2, h3⟩
  walk_at "x"
  exact fin H5 us v e5 h1 h2 h3

noncomputable def spLaw (K : PySem.W.Frag) : Sp := fun vs H Q _ => ∃ (a : Addr) (ns : List Int), vs = [.ref a] ∧ SqL K H a (ns.map V.int) ∧ ns.length ≤ 63 ∧ Light ns ∧ ∀ H', Q (.bl true) H'
theorem ok_law (T : Txt K mg) : FnOk P w K mg base (CXF P w) 10 T.d_law.a T.d_law.fd ["_law_script"] (spLaw K) := by
  refine T.d_law.F.okN sc_law (fun vs H Q E h => ?_) (fun cdv A outer s H vs Q E hr h => ?_)
  · obtain ⟨a, ns, rfl, _⟩ := h; rfl
  obtain ⟨a, ns, rfl, hS, h63, hz, k⟩ := h
  refine ⟨_, (pss_cons (ps_set (i := 1) sc_law.nd rfl (Or.inr rfl) (pe_call (ok__law_many T) (hr.mono (by decide)) rfl T.d__law_many.m T.d__law_many.F.kp T.d__law_many.b .nil (passN nox_F) (pa_cons (pv 0) pa_nil)))
 (pss_cons (ps_set (i := 2) sc_law.nd rfl (Or.inl rfl) (pe_call (ok__law_count T) (hr.mono (by decide)) rfl T.d__law_count.m T.d__law_count.F.kp T.d__law_count.b .nil (passN nox_F) (pa_cons (pv 0) (pa_cons (pv 1) pa_nil))))
 (pss_cons (ps_set (i := 3) sc_law.nd rfl (Or.inl rfl) (pe_call (ok__law_most T) (hr.mono (by decide)) rfl T.d__law_most.m T.d__law_most.F.kp T.d__law_most.b .nil (passN nox_F) (pa_cons (pv 0) (pa_cons (pv 1) (pa_cons (pv 2) pa_nil)))))
 (pss_cons (ps_set (i := 4) sc_law.nd rfl (Or.inl rfl) (pe_call (ok__law_sheet T) (hr.mono (by decide)) rfl T.d__law_sheet.m T.d__law_sheet.F.kp T.d__law_sheet.b .nil (passN nox_F) (pa_cons (pv 0) (pa_cons (pv 1) (pa_cons (pv 2) (pa_cons (pv 3) pa_nil))))))
 (pss_cons (ps_set (i := 5) sc_law.nd rfl (Or.inl rfl) (pe_call (ok__law_purses T) (hr.mono (by decide)) rfl T.d__law_purses.m T.d__law_purses.F.kp T.d__law_purses.b .nil (passN nox_F) (pa_cons (pv 0) (pa_cons (pv 1) (pa_cons (pv 3) pa_nil)))))
 (pss_cons (ps_set (i := 6) sc_law.nd rfl (Or.inl rfl) (pe_call (ok__law_draw T) (hr.mono (by decide)) rfl T.d__law_draw.m T.d__law_draw.F.kp T.d__law_draw.b .nil (passN nox_F) (pa_cons (pv 0) (pa_cons pe_int (pa_cons pe_int (pa_cons pe_int pa_nil))))))
 (pss_mid (ps_if (PW.pt (pw_or (pt_cmpR (show OpR _ (compareOp .Eq) (rEqU K) from op_eqU hr.units) (pv 6) pe_int (nomark _)) (pw_or1 (pt_cmpR (show OpR _ (compareOp .Eq) (rEqU K) from op_eqU hr.units) (pv 6) pe_int (nomark _)))))
  (pss_one (ps_set (i := 4) sc_law.nd rfl (Or.inl rfl) (pe_call (ok__law_forward T) (hr.mono (by decide)) rfl T.d__law_forward.m T.d__law_forward.F.kp T.d__law_forward.b .nil (passN nox_F) (pa_cons (pv 4) pa_nil))))
  pss_nil)
 (pss_mid (ps_if (PW.pt (pw_and (pt_cmpR (show OpR _ (compareOp .Eq) (rEqU K) from op_eqU hr.units) (pv 6) pe_int (nomark _)) (pw_and1 (pt_cmpR op_gt (pv 1) pe_int (nomark _)))))
  (pss_cons (ps_set (i := 7) sc_law.nd rfl (Or.inr rfl) (pe_call (ok__law_amount T) (hr.mono (by decide)) rfl T.d__law_amount.m T.d__law_amount.F.kp T.d__law_amount.b .nil (passN nox_F) (pa_cons (pv 0) (pa_cons pe_int (pa_cons (pv 3) pa_nil)))))
 (pss_cons (ps_set (i := 8) sc_law.nd rfl (Or.inr rfl) (pe_call (ok__law_draw T) (hr.mono (by decide)) rfl T.d__law_draw.m T.d__law_draw.F.kp T.d__law_draw.b .nil (passN nox_F) (pa_cons (pv 0) (pa_cons pe_int (pa_cons pe_int (pa_cons pe_int pa_nil))))))
 (pss_cons (ps_setC (i := 4) sc_law.nd rfl rfl rfl (pi_range1 rfl T.z_range (pa_cons (pv 1) pa_nil)) (compScope_of (Ni := ["_law_k", "_law_many_here", "_law_rank", "_law_amount_here"]) (caps := [none, some 1, some 8, some 7]) (by rfl)) (fun S _ _ _ _ _ => (pg_nameC (gi := 0) S (Or.inl rfl) rfl)) (fun _ _ _ _ _ => pf_nil) (fun _ _ _ _ _ => (pe_tup (pa_cons (pv 0) (pa_cons (pe_op op_modU (pe_op (show OpR _ (binaryOp .Add) (rAddU K) from op_addU) (pv 0) pe_int) (pv 1)) (pa_cons (pv 2) (pa_cons (pv 3) pa_nil)))))))
 (pss_one (ps_setC (i := 5) sc_law.nd rfl rfl rfl (pi_range1 rfl T.z_range (pa_cons (pv 1) pa_nil)) (compScope_of (Ni := ["_law_k"]) (caps := [none]) (by rfl)) (fun S _ _ _ _ _ => (pg_nameC (gi := 0) S (Or.inl rfl) rfl)) (fun _ _ _ _ _ => pf_nil) (fun _ _ _ _ _ => pe_int))))))
  pss_nil)
 (pss_cons (ps_set (i := 9) sc_law.nd rfl (Or.inr rfl) (pe_comp rfl (show PI _ _ _ (iList K _) from pi_list (pe_call (ok__law_sums T) (hr.mono (by decide)) rfl T.d__law_sums.m T.d__law_sums.F.kp T.d__law_sums.b .nil (passN nox_F) (pa_cons (pv 4) (pa_cons (pv 1) pa_nil)))) (compScope_of (Ni := ["_law_one"]) (caps := [none]) (by rfl)) (fun S _ _ _ _ _ => (pg_nameC (gi := 0) S (Or.inl rfl) rfl)) (fun _ _ _ _ _ => pf_nil) (fun _ _ _ _ _ => (pe_callB (show CallR _ _ (rSum K) from call_sumU rfl) rfl T.z_sum BT.sum (pa_cons (pv 0) pa_nil)))))
 (pss_cons (ps_setC (i := 10) sc_law.nd rfl rfl rfl (pi_range1 rfl T.z_range (pa_cons (pv 1) pa_nil)) (compScope_of (Ni := ["_law_k", "_law_script", "_law_owed"]) (caps := [none, some 0, some 9]) (by rfl)) (fun S _ _ _ _ _ => (pg_nameC (gi := 0) S (Or.inl rfl) rfl)) (fun _ _ _ _ _ => pf_nil) (fun _ _ _ _ _ => (pe_call (ok__law_drawn_lay T) (hr.mono (by decide)) rfl T.d__law_drawn_lay.m T.d__law_drawn_lay.F.kp T.d__law_drawn_lay.b .nil (passN nox_F) (pa_cons (pv 1) (pa_cons (pv 0) (pa_cons (pe_ix (show IxR _ (rIx K) from ix_seq) (pv 2) (pv 0) (fun _ _ => rfl)) pa_nil))))))
 (pss_mid (ps_if (pt_cmpR (show OpR _ (compareOp .Eq) (rEqU K) from op_eqU hr.units) (pv 6) pe_int (nomark _))
  (pss_cons (ps_set (i := 5) sc_law.nd rfl (Or.inl rfl) (pe_callTy (show CallR _ _ (rListOf K) from call_listU) rfl T.z_list BT.list (pa_cons (pv 9) pa_nil)))
 (pss_one (ps_setC (i := 10) sc_law.nd rfl rfl rfl (show PI _ _ _ (iList K _) from pi_list (pv 9)) (compScope_of (Ni := ["_law_one"]) (caps := [none]) (by rfl)) (fun S _ _ _ _ _ => (pg_nameC (gi := 0) S (Or.inl rfl) rfl)) (fun _ _ _ _ _ => pf_nil) (fun _ _ _ _ _ => (pe_tup (pa_cons (pv 0) (pa_cons pe_int pa_nil)))))))
  pss_nil)
 (pss_mid (ps_if (PW.pt (pw_or (pt_cmpR (show OpR _ (compareOp .Eq) (rEqU K) from op_eqU hr.units) (pv 6) pe_int (nomark _)) (pw_or1 (pt_cmpR (show OpR _ (compareOp .Eq) (rEqU K) from op_eqU hr.units) (pv 6) pe_int (nomark _)))))
  (pss_one (ps_set (i := 10) sc_law.nd rfl (Or.inl rfl) (pe_call (ok__law_reckoned T) (hr.mono (by decide)) rfl T.d__law_reckoned.m T.d__law_reckoned.F.kp T.d__law_reckoned.b .nil (passN nox_F) (pa_cons (pv 4) (pa_cons (pv 5) pa_nil)))))
  pss_nil)
 (pss_mid (ps_if (pt_cmpR (show OpR _ (compareOp .Eq) (rEqU K) from op_eqU hr.units) (pv 6) pe_int (nomark _))
  (pss_one (ps_setC (i := 10) sc_law.nd rfl rfl rfl (show PI _ _ _ (iList K _) from pi_list (pv 9)) (compScope_of (Ni := ["_law_one", "_law_script"]) (caps := [none, some 0]) (by rfl)) (fun S _ _ _ _ _ => (pg_nameC (gi := 0) S (Or.inl rfl) rfl)) (fun _ _ _ _ _ => pf_nil) (fun _ _ _ _ _ => (pe_call (ok__law_part T) (hr.mono (by decide)) rfl T.d__law_part.m T.d__law_part.F.kp T.d__law_part.b .nil (passN nox_F) (pa_cons (pe_op op_mulU (pv 0) (pe_call (ok__law_draw T) (hr.mono (by decide)) rfl T.d__law_draw.m T.d__law_draw.F.kp T.d__law_draw.b .nil (passN nox_F) (pa_cons (pv 1) (pa_cons pe_int (pa_cons pe_int (pa_cons pe_int pa_nil)))))) (pa_cons pe_int pa_nil))))))
  pss_nil)
 (pss_cons (ps_set (i := 11) sc_law.nd rfl (Or.inl rfl) (pe_call (ok__law_same T) (hr.mono (by decide)) rfl T.d__law_same.m T.d__law_same.F.kp T.d__law_same.b .nil (passN nox_F) (pa_cons (pv 10) (pa_cons (pe_call (ok__law_next T) (hr.mono (by decide)) rfl T.d__law_next.m T.d__law_next.F.kp T.d__law_next.b .nil (passN nox_F) (pa_cons (pv 4) (pa_cons (pv 5) (pa_cons (pv 10) pa_nil)))) pa_nil))))
 (pss_cons (ps_if (PW.pt (pw_and (pt_not (show PT _ _ (tTru K _) from pt_truthU (pv 11) (fun _ => rfl))) (pw_and1 (PW.pt (pw_or (pt_cmpR op_lt (pv 6) pe_int (nomark _)) (pw_or1 (PW.pt (pw_and (pt_cmpR (show OpR _ (compareOp .Eq) (rEqU K) from op_eqU hr.units) (pv 6) pe_int (nomark _)) (pw_and1 (pt_cmpR op_gt (pv 1) pe_int (nomark _)))))))))))
  (pss_one (ps_ret pe_bl))
  pss_nil)
 (pss_mid (ps_if (pt_cmpR (show OpR _ (compareOp .Eq) (rEqU K) from op_eqU hr.units) (pv 6) pe_int (nomark _))
  (pss_cons (ps_set (i := 10) sc_law.nd rfl (Or.inl rfl) (pe_call (ok__law_spoilt T) (hr.mono (by decide)) rfl T.d__law_spoilt.m T.d__law_spoilt.F.kp T.d__law_spoilt.b .nil (passN nox_F) (pa_cons (pv 0) (pa_cons (pv 10) (pa_cons (pv 9) pa_nil)))))
 (pss_one (ps_set (i := 11) sc_law.nd rfl (Or.inl rfl) pe_bl)))
  pss_nil)
 (pss_cons (ps_set (i := 12) sc_law.nd rfl (Or.inl rfl) (pe_call (ok__law_spoilt T) (hr.mono (by decide)) rfl T.d__law_spoilt.m T.d__law_spoilt.F.kp T.d__law_spoilt.b .nil (passN nox_F) (pa_cons (pv 0) (pa_cons (pv 10) (pa_cons (pv 9) pa_nil)))))
 (pss_cons (ps_set (i := 13) sc_law.nd rfl (Or.inl rfl) (pe_call (ok__law_same T) (hr.mono (by decide)) rfl T.d__law_same.m T.d__law_same.F.kp T.d__law_same.b .nil (passN nox_F) (pa_cons (pv 12) (pa_cons (pe_call (ok__law_next T) (hr.mono (by decide)) rfl T.d__law_next.m T.d__law_next.F.kp T.d__law_next.b .nil (passN nox_F) (pa_cons (pv 4) (pa_cons (pv 5) (pa_cons (pv 12) pa_nil)))) pa_nil))))
 (pss_cons (ps_setC (i := 14) sc_law.nd rfl rfl rfl (show PI _ _ _ (iList K _) from pi_list (pv 10)) (compScope_of (Ni := ["_law_lay"]) (caps := [none]) (by rfl)) (fun S _ _ _ _ _ => (pg_nameC (gi := 0) S (Or.inl rfl) rfl)) (fun _ _ _ _ _ => pf_nil) (fun _ _ _ _ _ => (pe_tup (pa_cons (pe_op op_sub pe_int (pe_ix (show IxR _ (rIx K) from ix_seq) (pv 0) pe_int (fun _ _ => rfl))) (pa_cons (pe_ix (show IxR _ (rIx K) from ix_seq) (pv 0) pe_int (fun _ _ => rfl)) pa_nil)))))
 (pss_cons (ps_set (i := 15) sc_law.nd rfl (Or.inl rfl) (pe_call (ok__law_same T) (hr.mono (by decide)) rfl T.d__law_same.m T.d__law_same.F.kp T.d__law_same.b .nil (passN nox_F) (pa_cons (pv 14) (pa_cons (pe_call (ok__law_next T) (hr.mono (by decide)) rfl T.d__law_next.m T.d__law_next.F.kp T.d__law_next.b .nil (passN nox_F) (pa_cons (pv 4) (pa_cons (pv 5) (pa_cons (pv 14) pa_nil)))) pa_nil))))
 (pss_cons (ps_if (PW.pt (pw_or (pt_not (show PT _ _ (tTru K _) from pt_truthU (pe_call (ok__law_told T) (hr.mono (by decide)) rfl T.d__law_told.m T.d__law_told.F.kp T.d__law_told.b .nil (passN nox_F) (pa_cons (pv 4) (pa_cons (pv 5) (pa_cons (pv 10) (pa_cons (pv 11) pa_nil))))) (fun _ => rfl))) (pw_or1 (pt_not (show PT _ _ (tTru K _) from pt_truthU (pe_call (ok__law_told T) (hr.mono (by decide)) rfl T.d__law_told.m T.d__law_told.F.kp T.d__law_told.b .nil (passN nox_F) (pa_cons (pv 4) (pa_cons (pv 5) (pa_cons (pv 14) (pa_cons (pv 15) pa_nil))))) (fun _ => rfl))))))
  (pss_one (ps_ret pe_bl))
  pss_nil)
 (pss_one (ps_ret (pe_call (ok__law_told T) (hr.mono (by decide)) rfl T.d__law_told.m T.d__law_told.F.kp T.d__law_told.b .nil (passN nox_F) (pa_cons (pv 4) (pa_cons (pv 5) (pa_cons (pv 12) (pa_cons (pv 13) pa_nil)))))))))))))))))))))))))))), ?_⟩
  refine x_start (σ0 := [some (.ref a), none, none, none, none, none, none, none, none, none, none, none, none, none, none, none]) rfl ?_
  walk_at "x"
  rename_i n n0 n1 c c0 c1 nc m m0 m1 mc sh H1 xs ds fsh e1 hsh ht hds hdl hda pu H2 ps fpu e2 hpu hpl hps wy ewy wy0 wy1
  clear ewy
  obtain ⟨N, eN⟩ : ∃ N : Nat, n = (N : Int) := ⟨n.toNat, by omega⟩
  subst eN
  rw [Int.toNat_natCast] at hpl
  have hdl64 : ds.length ≤ 64 := by omega
  have tsz : ∀ es : List Internal.Due, es.length = ds.length → (∀ d ∈ es, DueOk (N : Int) d ∧ d.a ≤ 1000000000000) → ((∀ d ∈ ds, d.a ≤ 12) → ∀ d ∈ es, d.a ≤ 12) → sz ((allT es : Nat) : Int) ≤ 750 := fun es h1 h2 h3 => allT_sz (drawn_sz (n := 3) ⟨fun z => h3 (hda z), fun z => by rcases mc z with h | h <;> omega, h1.trans hdl⟩ (fun d h => ⟨(h2 d h).1.2.2.2.2.2.2.2.1, (h2 d h).2⟩) c0 c1 m0 (by decide) (by decide) (fun _ => by decide))
  have hT0 := tsz ds rfl hds id
  refine x_midS 4 (fun v H' => ∃ (sh' : Addr) (ds' : List Internal.Due), v = .ref sh' ∧ ShP H' sh' N ds' ∧ ((wy = 1 ∨ wy = 2) → ∀ d ∈ ds', d.p < d.q) ∧ Same H2 H') ?_ ?_
  · have hSh2 : IsSh K H2 sh ds := ⟨xs, SqL.of (e2.at hsh), ht.same e2⟩
    have hfwd : ∀ d ∈ ds.map fwdD, (DueOk (N : Int) d ∧ d.a ≤ 1000000000000) ∧ d.p < d.q := fun d hm => by
      obtain ⟨e, he, rfl⟩ := List.mem_map.mp hm
      have := fwd_ok (hds e he).1
      exact ⟨⟨this.1, (hds e he).2⟩, this.2⟩
    have hfT := tsz (ds.map fwdD) (List.length_map ..) (fun d h => (hfwd d h).1) (fun h d hm => by
      obtain ⟨e, he, rfl⟩ := List.mem_map.mp hm
      exact h e he)
    have fwd2 : ∀ (p : Addr) (H' : Hp) (us : List V), Same H2 H' → H' p = some (.lst us) → IsTs dueV H' us (ds.map fwdD) → ∃ (sh' : Addr) (ds' : List Internal.Due), V.ref p = .ref sh' ∧ ShP H' sh' N ds' ∧ ((wy = 1 ∨ wy = 2) → ∀ d ∈ ds', d.p < d.q) ∧ Same H2 H' := fun p H' us e h1 h2 => ⟨p, _, rfl, ⟨us, h1, h2, fun d h => (hfwd d h).1, by rw [List.length_map]; exact hdl64, hfT⟩, fun _ d h => (hfwd d h).2, e⟩
    walk_at "x"
    · refine x_nil ?_
      refine spFwd_i hSh2 hdl64 ?_
      intro p H' us _ e h1 h2
      walk_at "x"
      exact ⟨_, rfl, fwd2 p H' us e h1 h2⟩
    · refine x_nil ?_
      refine spFwd_i hSh2 hdl64 ?_
      intro p H' us _ e h1 h2
      walk_at "x"
      exact ⟨_, rfl, fwd2 p H' us e h1 h2⟩
    · rename_i w1 w2
      exact ⟨_, rfl, sh, ds, rfl, ⟨xs, e2.at hsh, ht.same e2, hds, hdl64, hT0⟩, fun z => by rcases z with z | z <;> contradiction, Same.refl _⟩
  rintro v H3 ⟨sh3, es3, rfl, hP3, hfw3, e23⟩
  have hpu3 := e23.at hpu
  have hS3 : SqL K H3 a (ns.map V.int) := hS.keep ((e1.trans e2).trans e23)
  walk_at "x"
  refine x_mid (fun σ' H' => ∃ (sh' pu' : Addr) (f7 f8 : Option V) (ds' : List Internal.Due) (ps' : List Int), σ' = [some (.ref a), some (.int (N : Int)), some (.int c), some (.int m), some (.ref sh'), some (.ref pu'), some (.int wy), f7, f8, none, none, none, none, none, none, none] ∧ ShP H' sh' N ds' ∧ H' pu' = some (.lst (ps'.map V.int)) ∧ ps'.length = N ∧ PurseOk ps' ∧ ((wy = 1 ∨ wy = 2) → ∀ d ∈ ds', d.p < d.q) ∧ ((wy = 3 ∧ 1 < N) → ∃ r A : Int, ds' = ringD N r A ∧ 0 ≤ r ∧ r < 3 ∧ 0 ≤ A ∧ A ≤ 1000000000000 ∧ ps' = (List.range N).map fun _ => 0) ∧ Same H3 H') ?_ ?_
  · walk_at "x"
    · rename_i w3 w4 A A0 A1 Am r er r0 r1
      clear er Am
      refine x_compS1 src_range (fun _ _ => trivial) rfl (fun i vs H' => IsTs dueV H' vs ((List.range i).map fun k : Nat => (⟨(k : Int), ((k : Int) + 1) % (N : Int), r, A⟩ : Internal.Due))) (fun _ _ => trivial) ?_ ?_
      · rintro i x D vs o H4 H5 hi hD e4 hv hvl hts e5 rfl
        have ei : (0 : Int) + (i : Int) = i := by omega
        rw [ei]
        have hN0 : (N : Int) ≠ 0 := by omega
        walk_at "x"
        rename_i tt H6 ftt e6 htt H7 b7 h7
        refine ⟨⟨_, rfl⟩, by walk_at "h", _, h7, by rw [List.length_append]; exact Nat.succ_le_succ hvl, ?_⟩
        dsimp only
        rw [List.range_succ, List.map_append, List.map_singleton]
        exact IsTs.app (f := dueV) (b7.tup (show H6 tt = some (.tup (dueV ⟨(i : Int), ((i : Int) + 1) % (N : Int), r, A⟩)) from htt)) (by walk_at "h")
      rintro rg H4 vr frg e4 hrg hvl htr
      have hNn : ((N : Int)).toNat = N := Int.toNat_natCast N
      rw [hNn] at htr
      walk_at "x"
      rename_i pz H5 fpz e5 hpz
      rw [hNn] at hpz
      have hN1 : 1 < N := by omega
      refine ⟨rg, pz, _, _, ringD N r A, (List.range N).map fun _ => 0, rfl, ⟨vr, e5.at hrg, htr.same e5, ringD_ok hN1 r0 r1 A0 A1, by unfold ringD; rw [List.length_map, List.length_range]; omega, ring_sz (by omega) r0 A0 A1⟩, hpz, by rw [List.length_map, List.length_range], fun p hp => ?_, fun z => by omega, fun _ => ⟨r, A, rfl, r0, r1, A0, A1, rfl⟩, e4.trans e5⟩
      obtain ⟨_, _, rfl⟩ := List.mem_map.mp hp
      exact ⟨by decide, by decide⟩
    · rename_i w3 w4
      exact ⟨sh3, pu, _, _, es3, ps, rfl, hP3, hpu3, hpl, hps, hfw3, fun z => absurd z.2 (by omega), Same.refl _⟩
    · rename_i w3
      exact ⟨sh3, pu, _, _, es3, ps, rfl, hP3, hpu3, hpl, hps, hfw3, fun z => absurd z.1 w3, Same.refl _⟩
  rintro σ' H4 ⟨sh4, pu4, f7, f8, es, qp, rfl, hP4, hpu4, hql, hqp, hfw, hring, e34⟩
  have hS4 : SqL K H4 a (ns.map V.int) := hS3.keep e34
  obtain ⟨hes, hel, hT⟩ : (∀ d ∈ es, DueOk (N : Int) d ∧ d.a ≤ 1000000000000) ∧ es.length ≤ 64 ∧ sz ((allT es : Nat) : Int) ≤ 750 := by obtain ⟨_, _, _, h3, h4, h5⟩ := hP4; exact ⟨h3, h4, h5⟩
  have hSh4 : IsSh K H4 sh4 es := hP4.sh
  have hdn : ∀ d ∈ es, DueOk (N : Int) d := fun d h => (hes d h).1
  have hp0 : ∀ p ∈ qp, 0 ≤ p := fun p h => (hqp p h).1
  walk_at "x"
  rename_i su H5 as fsu e5 hsu hal hR hF
  rw [Int.toNat_natCast] at hal
  refine x_compS1 (src_list (K := K) (a := su) (xs := as.map V.ref)) (fun H' e => SqL.of (e.at hsu)) rfl (fun i vs _ => vs = (vec i fun m => sumI (vec 3 (rankF es m))).map V.int) (fun _ _ => rfl) ?_ ?_
  · rintro i x D vs o H6 H7 hi hD e6 hv hvl rfl e7 hx
    rw [List.length_map] at hi
    obtain ⟨cc, hc⟩ := lt_some hi
    have ex : x = .ref cc := by rw [List.getElem?_map, hc] at hx; exact (Option.some.inj hx).symm
    subst ex
    have hrow := (hR.same (e6.trans e7)).2 _ _ hc
    walk_at "x"
    rename_i H8 b8 h8
    refine ⟨⟨_, rfl⟩, by walk_at "h", _, h8, by rw [List.length_append]; exact Nat.succ_le_succ hvl, ?_⟩
    dsimp only
    rw [vec_succ (n := i) (f := fun m => sumI (vec 3 (rankF es m))), List.map_append]; rfl
  rintro ow H6 vs fow e6 how hvl rfl
  rw [List.length_map, hal] at how
  have hob : ∀ x ∈ vec N (fun m => sumI (vec 3 (rankF es m))), 0 ≤ x ∧ x ≤ 300000000000000 := fun x hx => by
    obtain ⟨m, _, rfl⟩ := List.mem_map.mp hx
    exact sum3_bnd hes hel m
  have hvN : (vec N fun m => sumI (vec 3 (rankF es m))).length = N := vec_len
  have e46 := e5.trans e6
  have hP6 := hP4.same e46
  have hpu6 := e46.at hpu4
  have hS6 : SqL K H6 a (ns.map V.int) := hS4.keep e46
  clear e46
  walk_at "x"
  refine x_compS1 src_range (fun _ _ => trivial) rfl (fun i vs H' => ∃ qs, IsQs H' vs qs ∧ qs.length = i ∧ LayT es qs) (fun _ _ => ⟨[], trivial, rfl, fun m hm => absurd hm (Nat.not_lt_zero _)⟩) ?_ ?_
  · rintro i x D vs o H7 H8 hi hD e7 hv hvl ⟨qs, hqs, hqi, hT7⟩ e8 rfl
    have ei : (0 : Int) + (i : Int) = i := by omega
    rw [ei]
    have hiN : i < N := by omega
    have how8 := (e7.trans e8).at how
    have hat : atI ((vec N fun m => sumI (vec 3 (rankF es m))).map V.int) (i : Int) = some (.int (sumI (vec 3 (rankF es i)))) := atI_nat (by rw [List.getElem?_map, vec_get hiN]; rfl)
    have hbb := sum3_bnd hes hel i
    have hS8 : SqL K H8 a (ns.map V.int) := hS6.keep (e7.trans e8)
    walk_at "x"
    try rw [Int.toNat_natCast]
    refine spDLay_i hS8 hz (by omega) (by omega) hbb.1 hbb.2 ?_
    intro pp H9 q e9 hpp h0 h1 hv12
    walk_at "x"
    rename_i H10 b10 h10
    refine ⟨⟨_, rfl⟩, by walk_at "h", _, h10, by rw [List.length_append]; exact Nat.succ_le_succ hvl, qs ++ [q], IsQs.app (LBut.isQ b10 hpp) (by walk_at "h"), by rw [List.length_append, hqi]; rfl, hT7.snoc h0 (by rw [hqi]; exact h1) hv12⟩
  rintro la H7 wl fla e7 hla hvl ⟨q0, hwl, hq0l, hq0T⟩
  rw [Int.toNat_natCast] at hq0l
  have hP7 := hP6.same e7
  have hpu7 := e7.at hpu6
  have how7 := e7.at how
  have hS7 : SqL K H7 a (ns.map V.int) := hS6.keep e7
  have d12 : sz ((12 : Nat) : Int) ≤ 760 := Nat.le_trans (sz_of (by decide) : sz ((12 : Nat) : Int) ≤ 4) (by decide)
  have hwho := (whole_lay hes hel).lay hes hel
  have hdra := hq0T.lay hes hel
  walk_at "x"
  refine x_midS2 5 10 (fun v w H' => ∃ (pu' la' : Addr) (ps' : List Int) (qs' : List Rat), v = .ref pu' ∧ w = .ref la' ∧ H' pu' = some (.lst (ps'.map V.int)) ∧ ps'.length = N ∧ PurseOk ps' ∧ LayP H' la' N 300000000000000 760 qs' ∧ (wy = 0 → IsClr es ps' qs') ∧ (wy ≠ 0 → ps' = qp) ∧ Same H7 H') ?_ ?_
  · walk_at "x"
    · rename_i w0 pn H8 fpn e8 hpn
      have how8 := e8.at how7
      refine x_compS1 (src_list (K := K) (a := ow) (xs := (vec N fun m => sumI (vec 3 (rankF es m))).map V.int)) (fun H' e => SqL.of (e.at how8)) rfl (fun i vs H' => IsQs H' vs ((List.range i).map (owedQ es))) (fun _ _ => trivial) ?_ ?_
      · rintro i x D vs o H9 H10 hi hD e9 hv hvl hqs e10 hx
        rw [List.length_map, hvN] at hi
        rw [List.getElem?_map, vec_get hi] at hx
        cases hx
        walk_at "x"
        refine x_tupQ (q := owedQ es i) ⟨rfl, rfl⟩ ?_
        intro t1 H11 e11 ht1
        walk_at "x"
        rename_i H12 b12 h12
        refine ⟨⟨_, rfl⟩, by walk_at "h", _, h12, by rw [List.length_append]; exact Nat.succ_le_succ hvl, ?_⟩
        dsimp only
        rw [List.range_succ, List.map_append, List.map_singleton]
        exact IsQs.app (LBut.isQ b12 ht1) (by walk_at "h")
      rintro lw H9 ww flw e9 hlw hvl hww
      rw [List.length_map, hvN] at hww
      walk_at "x"
      exact ⟨_, _, rfl, pn, lw, _, _, rfl, rfl, e9.at hpn, hvN, owed_purse hes hel, ⟨ww, 12, hlw, hww, by rw [List.length_map, List.length_range], hwho.1, d12, hwho.2⟩, fun _ => full_clr hdn rfl, fun z => absurd w0 z, e8.trans e9⟩
    · rename_i w0
      exact ⟨_, _, rfl, pu4, la, qp, q0, rfl, rfl, hpu7, hql, hqp, ⟨wl, 12, hla, hwl, hq0l, hdra.1, d12, hdra.2⟩, fun z => absurd z w0, fun _ => rfl, Same.refl _⟩
  rintro v w H8 ⟨pu8, la8, qp8, qs8, rfl, rfl, hpu8, hql8, hqp8, hL8, hc0, hne0, e78⟩
  have hP8 := hP7.same e78
  have how8 := e78.at how7
  have hS8 : SqL K H8 a (ns.map V.int) := hS7.keep e78
  have hp08 : ∀ p ∈ qp8, 0 ≤ p := fun p h => (hqp8 p h).1
  walk_at "x"
  refine x_midS 10 (fun v H' => ∃ (la' : Addr) (qs' : List Rat), v = .ref la' ∧ LayP H' la' N 300000000000000 760 qs' ∧ (wy = 0 → IsClr es qp8 qs') ∧ ((wy = 1 ∨ wy = 2) → qs' = recQ es qp8 N N) ∧ Same H8 H') ?_ ?_
  · have reck : (wy = 1 ∨ wy = 2) → ∀ (lr : Addr) (H' : Hp) (wr : List V), Same H8 H' → H' lr = some (.lst wr) → IsQs H' wr (recQ es qp8 N N) → ∃ (la' : Addr) (qs' : List Rat), V.ref lr = .ref la' ∧ LayP H' la' N 300000000000000 760 qs' ∧ (wy = 0 → IsClr es qp8 qs') ∧ ((wy = 1 ∨ wy = 2) → qs' = recQ es qp8 N N) ∧ Same H8 H' := fun hw lr H' wr e h1 h2 => ⟨lr, _, rfl, ⟨wr, _, h1, h2, rec_len N, rec_lay hes hel hp08 (hfw hw), Nat.le_trans hT (by decide), rec_inb hes hel hp08⟩, fun z => by omega, fun _ => rfl, e⟩
    walk_at "x"
    · rename_i w1
      try refine x_nil ?_
      refine spReck_i hP8.sh hpu8 hql8 (by omega) hes hel hqp8 (hfw (.inl w1)) hT ?_
      intro lr H9 wr flr e9 hlr hwr
      walk_at "x"
      exact ⟨_, rfl, reck (.inl w1) lr H9 wr e9 hlr hwr⟩
    · rename_i w1 w2
      try refine x_nil ?_
      refine spReck_i hP8.sh hpu8 hql8 (by omega) hes hel hqp8 (hfw (.inr w2)) hT ?_
      intro lr H9 wr flr e9 hlr hwr
      walk_at "x"
      exact ⟨_, rfl, reck (.inr w2) lr H9 wr e9 hlr hwr⟩
    · rename_i w1 w2
      exact ⟨_, rfl, la8, qs8, rfl, hL8, hc0, fun z => by rcases z with z | z <;> contradiction, Same.refl _⟩
  rintro v H9 ⟨la9, qs9, rfl, hL9, hc9, hr9, e89⟩
  have how9 := e89.at how8
  have hpu9 := e89.at hpu8
  have hP9 := hP8.same e89
  have hS9 : SqL K H9 a (ns.map V.int) := hS8.keep e89
  walk_at "x"
  refine x_midS 10 (fun v H' => ∃ (la' : Addr) (qs' : List Rat), v = .ref la' ∧ LayP H' la' N 300000000000000 760 qs' ∧ ((wy < 2 ∨ (wy = 3 ∧ 1 < N)) → IsClr es qp8 qs') ∧ (wy = 2 → qs' = recQ es qp8 N N) ∧ Same H9 H') ?_ ?_
  · walk_at "x"
    · rename_i w3
      obtain ⟨tt, htt⟩ : ∃ tt, tt = drawP ns 4 55001 13 := ⟨_, rfl⟩
      refine x_compS1 (src_list (K := K) (a := ow) (xs := (vec N fun m => sumI (vec 3 (rankF es m))).map V.int)) (fun H' e => SqL.of (e.at how9)) rfl (fun i vs H' => IsQs H' vs ((List.range i).map fun m => twQ (sumI (vec 3 (rankF es m))) tt) ∧ (0 < i → 0 ≤ tt ∧ tt ≤ 12)) (fun _ _ => ⟨trivial, fun z => absurd z (Nat.lt_irrefl _)⟩) ?_ ?_
      · rintro i x D vs o H10 H11 hi hD e10 hv hvl ⟨hqs, _⟩ e11 hx
        rw [List.length_map, hvN] at hi
        rw [List.getElem?_map, vec_get hi] at hx
        cases hx
        have hS11 : SqL K H11 a (ns.map V.int) := hS9.keep (e10.trans e11)
        obtain ⟨b0, b1⟩ := sum3_bnd hes hel i
        have zo : sz (sumI (vec 3 (rankF es i))) ≤ 49 := sz_nat b0 (Int.lt_of_le_of_lt b1 (by decide))
        walk_at "x"
        rename_i y ey y0 y1
        rw [← htt] at ey
        subst ey
        obtain ⟨t1, t2, t3, t4⟩ := tw_ok b0 y0 (show y ≤ 12 by omega)
        have mo : CMulS (sumI (vec 3 (rankF es i))) y := CMulS.of zo (sz200 (by omega) (by omega)) (by decide)
        walk_at "x"
        refine spPartN_i (by decide) t1 ?_ ?_
        · have c1 : ((300000000000000 : Int) : Rat) ≤ ((100000000000000000 : Int) : Rat) := castR_le (by decide)
          have c2 := castR_le b1
          exact (DvB.sz (D := 12) (z := 4) ⟨t2, by grind, t4⟩ (by decide) (sz_of (by decide))).mono (by decide) (by decide)
        intro pp H12 e12 hpp
        walk_at "x"
        rename_i H13 b13 h13
        refine ⟨⟨_, rfl⟩, by walk_at "h", _, h13, by rw [List.length_append]; exact Nat.succ_le_succ hvl, ?_, fun _ => ⟨y0, by omega⟩⟩
        rw [List.range_succ, List.map_append, List.map_singleton]
        exact IsQs.app (LBut.isQ b13 hpp) (by walk_at "h")
      rintro lw H10 ww flw e10 hlw hvl ⟨hww, htb⟩
      rw [List.length_map, hvN] at hww htb
      obtain ⟨tb0, tb1⟩ := htb (by omega)
      have hTw : LayT es ((List.range N).map fun m => twQ (sumI (vec 3 (rankF es m))) tt) := fun m hm => by
        rw [List.length_map, List.length_range] at hm
        rw [getD_map hm]
        obtain ⟨_, t2, t3, t4⟩ := tw_ok (sum3_bnd hes hel m).1 tb0 tb1
        exact ⟨t2, t3, t4⟩
      have hTl := hTw.lay hes hel
      walk_at "x"
      refine ⟨_, rfl, lw, _, rfl, ⟨ww, 12, hlw, hww, by rw [List.length_map, List.length_range], hTl.1, d12, hTl.2⟩, fun z => ?_, fun z => by omega, e10⟩
      have z2 : wy = 3 ∧ 1 < N := by omega
      obtain ⟨r, A, hds', r0, r1, A0, A1, hz'⟩ := hring z2
      have hq8 : qp8 = qp := hne0 (by omega)
      obtain ⟨_, t2, t3, _⟩ := tw_ok A0 tb0 tb1
      have := ring_clr (x := twQ A tt) z2.2 r0 r1 A0 A1 t2 t3 hz'
      rw [hq8]
      subst hds'
      rw [List.map_congr_left (g := fun _ => twQ A tt) fun m hm => by rw [ring_owed r0 r1 (List.mem_range.mp hm)]]
      exact this
    · rename_i w3
      refine ⟨_, rfl, la9, qs9, rfl, hL9, fun z => ?_, fun z => hr9 (.inr z), Same.refl _⟩
      rcases z with z | z
      · rcases (show wy = 0 ∨ wy = 1 by omega) with y | y
        · exact hc9 y
        · rw [hr9 (.inl y)]
          exact rec_clr hdn hp08 (hfw (.inl y)) hql8
      · exact absurd z.1 w3
  rintro v H10 ⟨la10, qs, rfl, hL10, hclr, hrec, e910⟩
  have how10 := e910.at how9
  have hpu10 := e910.at hpu9
  have hP10 := hP9.same e910
  have hS10 : SqL K H10 a (ns.map V.int) := hS9.keep e910
  obtain ⟨wl10, D10, hla10, hwl10, hqsl, hLE, hD10, hIB⟩ := id hL10
  have hdq : ∀ d ∈ es, DueOk (qs.length : Int) d ∧ d.a ≤ 1000000000000 := by rw [hqsl]; exact hes
  have hsq : ∀ q ∈ qs, SzQ q 7051 7001 := fun q hq => (hLE.sz hD10 hq).mono (by decide) (by decide)
  walk_at "x"
  try refine x_nil ?_
  refine spLawNextC_i hP10.sh hpu10 hla10 hwl10 hdq hel (by omega) (by omega) hqp8 hsq ?_
  intro nx H11 v11 fnx e11 hnx hfr11
  have hfq : IsFr 10000000 H11 wl10 qs := ((hwl10.same e11).fr (z := 7051) fun q hq => (hsq q hq).mono (by decide) (by decide)).mono (by decide)
  try refine x_nil ?_
  refine spSame2_i (e11.at hla10) hnx hfq hfr11 (by rw [List.length_map, List.length_range]; omega) (by omega) ?_
  intro b hb
  rw [same_clr (fun d h => (hdq d h).1) hp08 (by omega)] at hb
  have hb1 : (wy < 2 ∨ (wy = 3 ∧ 1 < N)) → b = true := fun z => hb.mpr (hclr z)
  have how11 := e11.at how10
  have hpu11 := e11.at hpu10
  have hP11 := hP10.same e11
  have hL11 := hL10.same e11
  have hS11 : SqL K H11 a (ns.map V.int) := hS10.keep e11
  walk_at "x"
  all_goals first | (exfalso; rename_i h1 h2; have := hb1 (.inl h2); rw [this] at h1; cases h1) | (exfalso; rename_i h1 h2 h3 h4; have := hb1 (.inr ⟨h3, by omega⟩); rw [this] at h1; cases h1) | skip
  all_goals
    refine x_midS2 10 11 (fun v w H' => ∃ (la' : Addr) (b' : Bool) (qs' : List Rat), v = .ref la' ∧ w = .bl b' ∧ LayP H' la' N 600000000000001 800 qs' ∧ (b' = true ↔ IsClr es qp8 qs') ∧ Same H11 H') ?_ ?_
    · walk_at "x"
      · rename_i w2
        have hrq := hrec w2
        have hrc := rec_clr hdn hp08 (hfw (.inr w2)) hql8
        refine spSpoil_i hS11 hz (e11.at hla10) (hwl10.same e11) how11 (by rw [hvN, hqsl]) (by omega) (by omega) hob hLE (Nat.le_trans hD10 (by decide)) hIB (by decide) (by decide) ?_
        intro sp H12 us i v fsp e12 hsp hi hus hok hLE2 hIB2
        walk_at "x"
        refine ⟨_, _, rfl, sp, false, _, rfl, rfl, ⟨us, _, hsp, hus, by rw [List.length_set]; exact hqsl, hLE2, ?_, hIB2⟩, ⟨(fun z => nomatch z), fun z => absurd z ?_⟩, e12⟩
        · rw [Int.natCast_mul]
          exact Nat.le_trans (sz_mul hD10 (sz_of (by decide) : sz ((14000000098 : Nat) : Int) ≤ 34)) (by decide)
        · have hiN : i < N := by omega
          rw [vec_getD hiN, hrq] at hok
          rw [hrq]
          refine rec_spoilt hdn (hfw (.inr w2)) hql8 hiN ?_
          rcases hok with h | h
          · exact h
          · exact absurd (hrc.1 i (by rw [rec_len]; exact hiN)) h
      · exact ⟨_, _, rfl, la10, b, qs, rfl, rfl, ⟨wl10, D10, e11.at hla10, hwl10.same e11, hqsl, hLE, Nat.le_trans hD10 (by decide), hIB.mono (by decide)⟩, hb, Same.refl _⟩
    rintro v w H12 ⟨la12, b12, q12, rfl, rfl, ⟨w12, D12, hla12, hw12, hql12, hLE12, hD12, hIB12⟩, hb12, e12⟩
    have how12 := e12.at how11
    have hpu12 := e12.at hpu11
    have hP12 := hP11.same e12
    have hS12 : SqL K H12 a (ns.map V.int) := hS11.keep e12
    have hwl12 := hw12.length
    walk_at "x"
    refine spSpoil_i hS12 hz hla12 hw12 how12 (by rw [hvN, hql12]) (by omega) (by omega) hob hLE12 (Nat.le_trans hD12 (by decide)) hIB12 (by decide) (by decide) ?_
    intro sp H13 us i v fsp e13 hsp hi hus _ hLE13 _
    obtain ⟨q13, eq13⟩ : ∃ q13, q13 = q12.set i v := ⟨_, rfl⟩
    have hq13l : q13.length = N := by rw [eq13, List.length_set]; exact hql12
    rw [← eq13] at hus hLE13
    have hD13 : sz ((D12 * 14000000098 : Nat) : Int) ≤ 900 := by
      rw [Int.natCast_mul]
      exact Nat.le_trans (sz_mul hD12 (sz_of (by decide) : sz ((14000000098 : Nat) : Int) ≤ 34)) (by decide)
    have hdq13 : ∀ d ∈ es, DueOk (q13.length : Int) d ∧ d.a ≤ 1000000000000 := by rw [hq13l]; exact hes
    have hsq13 : ∀ q ∈ q13, SzQ q 7051 7001 := fun q hq => (hLE13.sz hD13 hq).mono (by decide) (by decide)
    have hpu13 := e13.at hpu12
    have hP13 := hP12.same e13
    walk_at "x"
    try refine x_nil ?_
    refine spLawNextC_i hP13.sh hpu13 hsp hus hdq13 hel (by omega) (by omega) hqp8 hsq13 ?_
    intro nx2 H14 v14 fnx2 e14 hnx2 hfr14
    have hfq13 : IsFr 10000000 H14 us q13 := ((hus.same e14).fr (z := 7051) fun q hq => (hsq13 q hq).mono (by decide) (by decide)).mono (by decide)
    try refine x_nil ?_
    refine spSame2_i (e14.at hsp) hnx2 hfq13 hfr14 (by rw [List.length_map, List.length_range]; omega) (by omega) ?_
    intro b2 hb2
    rw [same_clr (fun d h => (hdq13 d h).1) hp08 (by omega)] at hb2
    have e1214 := e13.trans e14
    have hla14 := e1214.at hla12
    have hw14 := hw12.same e1214
    walk_at "x"
    refine x_compS1 (src_list (K := K) (a := la12) (xs := w12)) (fun H' e => SqL.of (e.at hla14)) rfl (fun i vs H' => IsQs H' vs ((q12.take i).map fun q => -q)) (fun _ _ => trivial) ?_ ?_
    · rintro j x D vs o H15 H16 hj hD e15 hv hvl hvs e16 hx
      obtain ⟨bb, q, rfl, hqj, hbb⟩ := (hw14.same (e15.trans e16)).get hx
      walk_at "x"
      refine x_tupQ (q := -q) ⟨by show 0 - q.num = -q.num; omega, rfl⟩ ?_
      intro t1 H17 e17 ht1
      walk_at "x"
      rename_i H18 b18 h18
      refine ⟨⟨_, rfl⟩, by walk_at "h", _, h18, by rw [List.length_append]; exact Nat.succ_le_succ hvl, ?_⟩
      dsimp only
      rw [take_snoc hqj, List.map_append, List.map_singleton]
      exact IsQs.app (LBut.isQ b18 ht1) (by walk_at "h")
    rintro tu H15 vt ftu e15 htu hvl hvt
    rw [hwl12, List.take_length] at hvt
    have hLEt := hLE12.turn
    obtain ⟨qt, eqt⟩ : ∃ qt, qt = q12.map fun q => -q := ⟨_, rfl⟩
    have hqtl : qt.length = N := by rw [eqt, List.length_map]; exact hql12
    rw [← eqt] at hvt hLEt
    have hdqt : ∀ d ∈ es, DueOk (qt.length : Int) d ∧ d.a ≤ 1000000000000 := by rw [hqtl]; exact hes
    have hsqt : ∀ q ∈ qt, SzQ q 7051 7001 := fun q hq => (hLEt.sz hD12 hq).mono (by decide) (by decide)
    have e1215 := e1214.trans e15
    have hpu15 := e1215.at hpu12
    have hP15 := hP12.same e1215
    walk_at "x"
    try refine x_nil ?_
    refine spLawNextC_i hP15.sh hpu15 htu hvt hdqt hel (by omega) (by omega) hqp8 hsqt ?_
    intro nx3 H16 v16 fnx3 e16 hnx3 hfr16
    have hfqt : IsFr 10000000 H16 vt qt := ((hvt.same e16).fr (z := 7051) fun q hq => (hsqt q hq).mono (by decide) (by decide)).mono (by decide)
    try refine x_nil ?_
    refine spSame2_i (e16.at htu) hnx3 hfqt hfr16 (by rw [List.length_map, List.length_range]; omega) (by omega) ?_
    intro b3 hb3
    rw [same_clr (fun d h => (hdqt d h).1) hp08 (by omega)] at hb3
    have e1216 := e1215.trans e16
    have e1316 := (e14.trans e15).trans e16
    have hP16 := hP12.same e1216
    have hpu16 := e1216.at hpu12
    have hla16 := e1216.at hla12
    have hw16 := hw12.same e1216
    have hsp16 := e1316.at hsp
    have hus16 := hus.same e1316
    have htu16 := e16.at htu
    have hvt16 := hvt.same e16
    have hdq12 : ∀ d ∈ es, DueOk (q12.length : Int) d ∧ d.a ≤ 1000000000000 := by rw [hql12]; exact hes
    have hsq12 : ∀ q ∈ q12, SzQ q 60000 60000 := fun q hq => (hLE12.sz hD12 hq).mono (by decide) (by decide)
    clear e1214 e1215 e1216 e1316
    walk_at "x"
    refine spTold34_i hP16.sh hpu16 hla16 hw16 hdq12 hel (by omega) (by omega) hqp8 hsq12 (hLE12.deep (Nat.le_trans hD12 (by decide)) hT) hb12 ?_
    intro H17 e17
    walk_at "x"
    refine spTold34_i (hP16.same e17).sh (e17.at hpu16) (e17.at htu16) (hvt16.same e17) hdqt hel (by omega) (by omega) hqp8 (fun q hq => (hsqt q hq).mono (by decide) (by decide)) (hLEt.deep (Nat.le_trans hD12 (by decide)) hT) hb3 ?_
    intro H18 e18
    have e1618 := e17.trans e18
    walk_at "x"
    refine spTold34_i (hP16.same e1618).sh (e1618.at hpu16) (e1618.at hsp16) (hus16.same e1618) hdq13 hel (by omega) (by omega) hqp8 (fun q hq => (hsq13 q hq).mono (by decide) (by decide)) (hLE13.deep (Nat.le_trans hD13 (by decide)) hT) hb2 ?_
    intro H19 e19
    exact k _

end
theorem fin {P : Program} {w : World} {K : PySem.W.Frag} {mg : Str → Option Value} {fa : Addr} (T : Txt K mg) (hfa : mg "law" = some (.ref fa)) :
    ∃ fd : FuncData, (∀ (s : Shared) (v : Value), BindsTo s fd ⟨[v], []⟩ [("_law_script", v)]) ∧ ∀ base : Heap, K.In base → base.Ns mainGlobals mg → FnOk P w K mg base (CXF P w) 10 fa fd ["_law_script"] (spLaw K) := by
  have e := hfa.symm.trans T.d_law.m
  cases e
  exact ⟨_, T.bl_law, fun base _ _ => ok_law T⟩
theorem walk {l : PySem.W.OpenLaw} {q : Program} {loose : List Str} {XP : (Str → Option Value) → Heap → Prop} {YP : World → Heap → Prop} {d : DefRec} {K : Params → PySem.W.Frag} (hn : l.most = some 63) (hdf : d.params.defaults = [])
    (hY : ∀ (w : World) (h : Heap), YP w h → (K w.params).In h)
    (F : ∀ (w : World) (mg : Str → Option Value) (fa : Addr) (h : Heap), (K w.params).In h → h.Ns mainGlobals mg → mg d.name = some (.ref fa) →
      ∃ fd : FuncData, (∀ (s : Shared) (u : Value), BindsTo s fd ⟨[u], []⟩ [("_law_script", u)]) ∧ ∀ base : Heap, (K w.params).In base → base.Ns mainGlobals mg → FnOk l.prog w (K w.params) mg base (CXF l.prog w) 10 fa fd ["_law_script"] (spLaw (K w.params))) :
    PySem.W.WalkO q loose XP YP l.row.toRowW d [] (fun f vs => PySem.call f vs) :=
  Internal.walk_ofZ (n := 63) (k := 10) (x := "_law_script") (CX := fun w => CXF l.prog w) (sp := fun w => spLaw (K w.params)) hn (by decide) hdf ⟨rfl, by decide, by decide⟩ hY F (fun _ _ a ns hl hz _ hS => ⟨a, ns, rfl, hS, hl, hz, fun _ => rfl⟩) fun _ H s e s' z => nox_F _ H s e s' z
end Internal.K
theorem PySem.W.Fast.tw2394671912178997011 : True := trivial
theorem PySem.W.Fast.tw9984187100877528135 : True := trivial
theorem PySem.W.Fast.tw11922167626235864926 : True := trivial
theorem PySem.W.Fast.tw7646372007641245807 : True := trivial
theorem PySem.W.Fast.tw17922181155006863482 : True := trivial
theorem PySem.W.Fast.tw15019626861567930713 : True := trivial
theorem PySem.W.Fast.tw5453784355249285527 : True := trivial
theorem PySem.W.Fast.tw6604668304434933935 : True := trivial
theorem PySem.W.Fast.tw5242003566916264880 : True := trivial
theorem PySem.W.Fast.tw9393805584434935423 : True := trivial
theorem PySem.W.Fast.tw4149778462850701071 : True := trivial
theorem PySem.W.Fast.tw7624273611138806869 : True := trivial
theorem PySem.W.Fast.tw15684306401985059947 : True := trivial
theorem PySem.W.Fast.tw5345532545054787840 : True := trivial
theorem PySem.W.Fast.tw11833796520140618031 : True := trivial
theorem PySem.W.Fast.tw3135462653755836360 : True := trivial
theorem PySem.W.Fast.tw10994416010052975268 : True := trivial
theorem PySem.W.Fast.tw12220838608954667429 : True := trivial
theorem PySem.W.Fast.tw1855634394028855323 : True := trivial
open PySem PySem.W PyProof.Rows
set_option maxRecDepth 100000 in
set_option maxHeartbeats 0 in
theorem PySem.Challenge.cw_quits_k34_is_a_clearing_holds : PySem.Challenge.rw_quits_k34_is_a_clearing.Holds := by
  w_on; o_law; k_head; (case hw => w_witness2)
  k_fill
  refine Internal.K.walk (l := PySem.Challenge.rw_quits_k34_is_a_clearing) rfl rfl (fun w h Y => PySem.W.kIn_of Y) ?F
  case F =>
    intro w mg fa h KX G hmg
    refine Internal.K.fin ?T hmg
    case T =>
      refine' Internal.K.txt_mk KX G ?m_NoPart ?hd_NoPart ?ty_NoPart ?sn_ ?tk_ ?x_NoPart ?ga_NoPart ?gn_NoPart ?be_NoPart ?fa_NoPart ?mo_NoPart ?s_NoPart_NoPart ?a_divisor ?l_divisor ?c_divisor ?k_divisor ?a_plus ?l_plus ?c_plus ?k_plus ?a_minus ?l_minus ?c_minus ?k_minus ?a_times ?l_times ?c_times ?k_times ?a_over ?l_over ?c_over ?k_over ?a_under ?l_under ?c_under ?k_under ?a_least ?l_least ?c_least ?k_least ?a_total ?l_total ?c_total ?k_total ?a_owes ?l_owes ?c_owes ?k_owes ?a_ranked ?l_ranked ?c_ranked ?k_ranked ?a_paid ?l_paid ?c_paid ?k_paid ?a_shares_paid ?l_shares_paid ?c_shares_paid ?k_shares_paid ?a_got ?l_got ?c_got ?k_got ?a_is_clearing ?l_is_clearing ?c_is_clearing ?k_is_clearing ?a_are_lays ?l_are_lays ?c_are_lays ?k_are_lays ?a_next_lays ?l_next_lays ?c_next_lays ?k_next_lays ?a__law_cell ?l__law_cell ?c__law_cell ?k__law_cell ?a__law_draw ?l__law_draw ?c__law_draw ?k__law_draw ?a__law_great ?l__law_great ?c__law_great ?k__law_great ?a__law_many ?l__law_many ?c__law_many ?k__law_many ?a__law_count ?l__law_count ?c__law_count ?k__law_count ?a__law_most ?l__law_most ?c__law_most ?k__law_most ?a__law_amount ?l__law_amount ?c__law_amount ?k__law_amount ?a__law_due ?l__law_due ?c__law_due ?k__law_due ?a__law_sheet ?l__law_sheet ?c__law_sheet ?k__law_sheet ?a__law_purse ?l__law_purse ?c__law_purse ?k__law_purse ?a__law_purses ?l__law_purses ?c__law_purses ?k__law_purses ?a__law_divisor ?l__law_divisor ?c__law_divisor ?k__law_divisor ?a__law_part ?l__law_part ?c__law_part ?k__law_part ?a__law_sums ?l__law_sums ?c__law_sums ?k__law_sums ?a__law_got ?l__law_got ?c__law_got ?k__law_got ?a__law_next ?l__law_next ?c__law_next ?k__law_next ?a__law_same ?l__law_same ?c__law_same ?k__law_same ?a__law_forward ?l__law_forward ?c__law_forward ?k__law_forward ?a__law_reckoned ?l__law_reckoned ?c__law_reckoned ?k__law_reckoned ?a__law_spoilt ?l__law_spoilt ?c__law_spoilt ?k__law_spoilt ?a__law_drawn_lay ?l__law_drawn_lay ?c__law_drawn_lay ?k__law_drawn_lay ?a__law_told ?l__law_told ?c__law_told ?k__law_told ?a_law ?l_law ?c_law ?k_law ?w_abs ?w_all ?w_bool ?w_enumerate ?w_isinstance ?w_len ?w_list ?w_max ?w_min ?w_range ?w_sum
      (case m_NoPart => k_is)
      (case hd_NoPart => k_is)
      (case ty_NoPart => k_is)
      (case sn_ => k_is)
      (case tk_ => k_is)
      (case x_NoPart => k_exc)
      (case ga_NoPart => k_is)
      (case gn_NoPart => k_is)
      (case be_NoPart => k_is)
      (case fa_NoPart => k_is)
      (case mo_NoPart => k_is)
      (case s_NoPart_NoPart => k_is)
      (case a_divisor => k_is)
      (case l_divisor => k_is)
      (case c_divisor => k_is)
      (case k_divisor => k_is)
      (case a_plus => k_is)
      (case l_plus => k_is)
      (case c_plus => k_is)
      (case k_plus => k_is)
      (case a_minus => k_is)
      (case l_minus => k_is)
      (case c_minus => k_is)
      (case k_minus => k_is)
      (case a_times => k_is)
      (case l_times => k_is)
      (case c_times => k_is)
      (case k_times => k_is)
      (case a_over => k_is)
      (case l_over => k_is)
      (case c_over => k_is)
      (case k_over => k_is)
      (case a_under => k_is)
      (case l_under => k_is)
      (case c_under => k_is)
      (case k_under => k_is)
      (case a_least => k_is)
      (case l_least => k_is)
      (case c_least => k_is)
      (case k_least => k_is)
      (case a_total => k_is)
      (case l_total => k_is)
      (case c_total => k_is)
      (case k_total => k_is)
      (case a_owes => k_is)
      (case l_owes => k_is)
      (case c_owes => k_is)
      (case k_owes => k_is)
      (case a_ranked => k_is)
      (case l_ranked => k_is)
      (case c_ranked => k_is)
      (case k_ranked => k_is)
      (case a_paid => k_is)
      (case l_paid => k_is)
      (case c_paid => k_is)
      (case k_paid => k_is)
      (case a_shares_paid => k_is)
      (case l_shares_paid => k_is)
      (case c_shares_paid => k_is)
      (case k_shares_paid => k_is)
      (case a_got => k_is)
      (case l_got => k_is)
      (case c_got => k_is)
      (case k_got => k_is)
      (case a_is_clearing => k_is)
      (case l_is_clearing => k_is)
      (case c_is_clearing => k_is)
      (case k_is_clearing => k_is)
      (case a_are_lays => k_is)
      (case l_are_lays => k_is)
      (case c_are_lays => k_is)
      (case k_are_lays => k_is)
      (case a_next_lays => k_is)
      (case l_next_lays => k_is)
      (case c_next_lays => k_is)
      (case k_next_lays => k_is)
      (case a__law_cell => k_is)
      (case l__law_cell => k_is)
      (case c__law_cell => k_is)
      (case k__law_cell => k_is)
      (case a__law_draw => k_is)
      (case l__law_draw => k_is)
      (case c__law_draw => k_is)
      (case k__law_draw => k_is)
      (case a__law_great => k_is)
      (case l__law_great => k_is)
      (case c__law_great => k_is)
      (case k__law_great => k_is)
      (case a__law_many => k_is)
      (case l__law_many => k_is)
      (case c__law_many => k_is)
      (case k__law_many => k_is)
      (case a__law_count => k_is)
      (case l__law_count => k_is)
      (case c__law_count => k_is)
      (case k__law_count => k_is)
      (case a__law_most => k_is)
      (case l__law_most => k_is)
      (case c__law_most => k_is)
      (case k__law_most => k_is)
      (case a__law_amount => k_is)
      (case l__law_amount => k_is)
      (case c__law_amount => k_is)
      (case k__law_amount => k_is)
      (case a__law_due => k_is)
      (case l__law_due => k_is)
      (case c__law_due => k_is)
      (case k__law_due => k_is)
      (case a__law_sheet => k_is)
      (case l__law_sheet => k_is)
      (case c__law_sheet => k_is)
      (case k__law_sheet => k_is)
      (case a__law_purse => k_is)
      (case l__law_purse => k_is)
      (case c__law_purse => k_is)
      (case k__law_purse => k_is)
      (case a__law_purses => k_is)
      (case l__law_purses => k_is)
      (case c__law_purses => k_is)
      (case k__law_purses => k_is)
      (case a__law_divisor => k_is)
      (case l__law_divisor => k_is)
      (case c__law_divisor => k_is)
      (case k__law_divisor => k_is)
      (case a__law_part => k_is)
      (case l__law_part => k_is)
      (case c__law_part => k_is)
      (case k__law_part => k_is)
      (case a__law_sums => k_is)
      (case l__law_sums => k_is)
      (case c__law_sums => k_is)
      (case k__law_sums => k_is)
      (case a__law_got => k_is)
      (case l__law_got => k_is)
      (case c__law_got => k_is)
      (case k__law_got => k_is)
      (case a__law_next => k_is)
      (case l__law_next => k_is)
      (case c__law_next => k_is)
      (case k__law_next => k_is)
      (case a__law_same => k_is)
      (case l__law_same => k_is)
      (case c__law_same => k_is)
      (case k__law_same => k_is)
      (case a__law_forward => k_is)
      (case l__law_forward => k_is)
      (case c__law_forward => k_is)
      (case k__law_forward => k_is)
      (case a__law_reckoned => k_is)
      (case l__law_reckoned => k_is)
      (case c__law_reckoned => k_is)
      (case k__law_reckoned => k_is)
      (case a__law_spoilt => k_is)
      (case l__law_spoilt => k_is)
      (case c__law_spoilt => k_is)
      (case k__law_spoilt => k_is)
      (case a__law_drawn_lay => k_is)
      (case l__law_drawn_lay => k_is)
      (case c__law_drawn_lay => k_is)
      (case k__law_drawn_lay => k_is)
      (case a__law_told => k_is)
      (case l__law_told => k_is)
      (case c__law_told => k_is)
      (case k__law_told => k_is)
      (case a_law => k_is)
      (case l_law => k_is)
      (case c_law => k_is)
      (case k_law => k_is)
      (case w_abs => k_is)
      (case w_all => k_is)
      (case w_bool => k_is)
      (case w_enumerate => k_is)
      (case w_isinstance => k_is)
      (case w_len => k_is)
      (case w_list => k_is)
      (case w_max => k_is)
      (case w_min => k_is)
      (case w_range => k_is)
      (case w_sum => k_is)
