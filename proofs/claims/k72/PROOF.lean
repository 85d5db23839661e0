import PyProof.Rows.All
import Wide.All
import OpenK.AllK
import Wide.FinOn
import Lean
import PyProof.EqAt
import PyProof.EqKinds
import PyProof.TupleCall
import PyProof.CompFree
import PyProof.Cells
import KE.KTryMore
import PyProof.ExcBaseAll.ValueError
import PyProof.ExcAttrAll.ValueError
import PyProof.EnumFor
import PyProof.EnumStmt
import PyProof.EnumMake
import PyProof.ZipIter
import PyProof.SumAny
import PyProof.MinMaxWalk
import PyProof.ConsumeWalk
import PyProof.Rows.EnumRows
import PyProof.Rows.FactsT2
import PyProof.Rows.SeqGen
import PyProof.ListRange
import PyProof.Rows.SortShell
import PyProof.Rows.SortWalk
import PyProof.Rows.CallKwBuiltin
import PyProof.Rows.SortRev
import KE.KSortTup
import KE.KLam
import PySem.Challenge.RW_quits_k72_days_and_members
set_option compiler.extract_closed false
set_option bootstrap.genMatcherCode false
set_option Elab.async false
set_option linter.all false
set_option maxRecDepth 100000
namespace Internal
theorem aut0 (h : True := by first | exact .inl rfl | exact .inr rfl | assumption) : True := h
theorem aut1 (h : True := by decide) : True := h
theorem aut2 (h : True := by rfl) : True := h
theorem aut3 (h : True := by intro _; rfl) : True := h
theorem aut4 (h : True := by intros; rfl) : True := h
open PySem PySem.Spec PyProof.Rows

noncomputable abbrev Key := Sum Int Str
noncomputable def keyIs : Key → Value → Bool
  | .inl k, v => Value.isInt k v
  | .inr x, v => Value.isStrOf x v
noncomputable def keyH (w : World) : Key → Int
  | .inl k => hashInt k
  | .inr x => hashStr w x
theorem keyIs_shape : ∀ {k : Key} {v : Value}, keyIs k v = true → (∃ i t, k = Sum.inl i ∧ v = Value.int i t) ∨ (∃ x t, k = Sum.inr x ∧ v = Value.str x t)
  | .inl i, v, h => by
    obtain ⟨t, e⟩ := Value.isInt_shape (k := i) (v := v) h
    exact .inl ⟨i, t, rfl, e⟩
  | .inr x, v, h => by
    obtain ⟨t, e⟩ := Value.isStrOf_shape (x := x) (v := v) h
    exact .inr ⟨x, t, rfl, e⟩
theorem key_ll (a b : Int) : decide ((Sum.inl a : Key) = Sum.inl b) = (a == b) := by
  by_cases e : a = b
  · subst e; simp
  · have h : ¬ (Sum.inl a : Key) = Sum.inl b := fun q => e (Sum.inl.inj q)
    rw [decide_eq_false h]
    exact (beq_eq_false_iff_ne.mpr e).symm
theorem key_rr (a b : Str) : decide ((Sum.inr a : Key) = Sum.inr b) = decide (a = b) := by
  by_cases e : a = b
  · subst e; simp
  · have h : ¬ (Sum.inr a : Key) = Sum.inr b := fun q => e (Sum.inr.inj q)
    rw [decide_eq_false h, decide_eq_false e]
theorem key_lr (a : Int) (b : Str) : decide ((Sum.inl a : Key) = Sum.inr b) = false := decide_eq_false (fun q => nomatch q)
theorem key_rl (a : Str) (b : Int) : decide ((Sum.inr a : Key) = Sum.inl b) = false := decide_eq_false (fun q => nomatch q)

noncomputable def mixKind (prog : Program) (w : World) : PySem.KeyKind prog w Key where
  is := keyIs
  hash := keyH w
  inj := fun v a b ha hb => by
    rcases keyIs_shape ha with ⟨i, t, rfl, rfl⟩ | ⟨x, t, rfl, rfl⟩
    · rcases keyIs_shape hb with ⟨j, u, rfl, e⟩ | ⟨y, u, rfl, e⟩
      · injection e with e1 _; rw [e1]
      · exact nomatch e
    · rcases keyIs_shape hb with ⟨j, u, rfl, e⟩ | ⟨y, u, rfl, e⟩
      · exact nomatch e
      · injection e with e1 _; rw [e1]
  byValue := fun k v h => by
    rcases keyIs_shape h with ⟨i, t, rfl, rfl⟩ | ⟨x, t, rfl, rfl⟩ <;> rfl
  pyHash := fun hv h => by
    rcases keyIs_shape hv with ⟨i, t, rfl, rfl⟩ | ⟨x, t, rfl, rfl⟩
    · exact wpAny_pyHash_int h
    · exact wpAny_pyHash_str h
  eqBool := fun hu hv h => by
    rcases keyIs_shape hu with ⟨i, t, rfl, rfl⟩ | ⟨x, t, rfl, rfl⟩
    · rcases keyIs_shape hv with ⟨j, u, rfl, rfl⟩ | ⟨y, u, rfl, rfl⟩
      · rw [key_ll] at h; exact wpAny_eqBool_int h
      · rw [key_lr] at h; exact SeqAt.EqAt.int_str i t y u _ _ _ _ h
    · rcases keyIs_shape hv with ⟨j, u, rfl, rfl⟩ | ⟨y, u, rfl, rfl⟩
      · rw [key_rl] at h; exact SeqAt.EqAt.str_int x t j u _ _ _ _ h
      · rw [key_rr] at h; exact wpAny_eqBool_str h
  «strs» := fun k x t v h => by
    rcases keyIs_shape h with ⟨i, u, rfl, e⟩ | ⟨y, u, rfl, e⟩
    · exact nomatch e
    · injection e with e1 _
      subst e1
      cases v <;> rfl

end Internal

namespace Internal
open PySem PySem.Spec PyProof.Rows

inductive V where
  | non | bl (b : Bool) | int (i : Int) | str (x : Str) | byt (b : Array UInt8) | flt (b : UInt64) | ref (a : Addr) | ty (n : String)
  deriving DecidableEq

noncomputable def RelV : V → Value → Prop
  | .non, u => u = Value.none
  | .bl b, u => u = Value.bool b
  | .int i, u => ∃ t, u = Value.int i t
  | .str x, u => ∃ t, u = Value.str x t
  | .byt b, u => ∃ t, u = Value.bytes b t
  | .flt b, u => ∃ t, u = Value.float b t
  | .ref a, u => u = Value.ref a
  | .ty n, u => u = Value.type n

noncomputable abbrev Vals : List V → List Value → Prop := Paired RelV
theorem Vals.length {xs : List V} {us : List Value} (r : Vals xs us) : xs.length = us.length := Paired.length r
theorem Vals.get : ∀ {xs : List V} {us : List Value} {i : Nat} {x : V}, Vals xs us → xs[i]? = some x → ∃ u, us[i]? = some u ∧ RelV x u
  | _, _, _, _, .nil, e => by simp at e
  | _, _, 0, _, .cons r _, e => by simp at e; subst e; exact ⟨_, rfl, r⟩
  | _, _, i + 1, x, .cons _ t, e => by
    obtain ⟨u, h1, h2⟩ := Vals.get (i := i) (x := x) t (by simpa using e)
    exact ⟨u, by simpa using h1, h2⟩
theorem Vals.set {x : V} {u : Value} (r : RelV x u) : ∀ {xs : List V} {us : List Value} (i : Nat), Vals xs us → Vals (xs.set i x) (us.set i u)
  | _, _, _, .nil => .nil
  | _, _, 0, .cons _ t => .cons r t
  | _, _, i + 1, .cons q t => .cons q (Vals.set r i t)
theorem Vals.append : ∀ {xs ys : List V} {us ws : List Value}, Vals xs us → Vals ys ws → Vals (xs ++ ys) (us ++ ws)
  | _, _, _, _, .nil, s => s
  | _, _, _, _, .cons r t, s => .cons r (Vals.append t s)
theorem Vals.take : ∀ {xs : List V} {us : List Value} (n : Nat), Vals xs us → Vals (xs.take n) (us.take n)
  | _, _, 0, _ => .nil
  | _, _, _ + 1, .nil => .nil
  | _, _, n + 1, .cons r t => .cons r (Vals.take n t)
theorem Vals.drop : ∀ {xs : List V} {us : List Value} (n : Nat), Vals xs us → Vals (xs.drop n) (us.drop n)
  | _, _, 0, r => r
  | _, _, _ + 1, .nil => .nil
  | _, _, n + 1, .cons _ t => Vals.drop n t
noncomputable def RelO : Option V → Option Value → Prop
  | some v, some u => RelV v u
  | none, none => True
  | _, _ => False
noncomputable def KV {κ : Type} : List (κ × V) → List (κ × Value) → Prop := Paired fun (p : κ × V) (q : κ × Value) => p.1 = q.1 ∧ RelV p.2 q.2

noncomputable def kV : Key → V
  | .inl i => .int i
  | .inr x => .str x

inductive HO where
  /-- a list -/
  | lst (xs : List V)
  /-- a tuple (never changes) -/
  | tup (xs : List V)
  /-- a dict whose keys are ints and texts; one whose keys are tuples of ints and texts (the empty one is both) -/
  | dK (kvs : List (Key × V)) | dT (kvs : List (List Key × V))
  /-- a set of ints: its members, its size -/
  | set (S : Int → Bool) (n : Nat)
  /-- an instance of the class at C, its dict at dx, its attributes -/
  | ins (C dx : Addr) (fs : List (Str × V))
  /-- the dict of the instance at x -/
  | own (x : Addr)
  /-- the dict of an exception -/
  | xd (fs : List (Str × V))
  /-- a bound method, f of x -/
  | met (f x : Addr)
  /-- a range object lo, lo + 1, .. below hi -/
  | rng (lo hi : Int)
  /-- a thing that is known to the object (the script; a dict while a loop walks it): read, never written while it is so -/
  | frz (o : Obj) (u : HO)
  /-- a code object's table -/
  | tbl (ps : Array Value)
  /-- any other thing, by what is true of its one object (a def of one's own: SetO a S n := HO.ext fun h => ..) -/
  | ext (φ : Heap → Prop)

noncomputable abbrev Hp := Addr → Option HO
noncomputable def upd (H : Hp) (a : Addr) (o : HO) : Hp := fun b => if b = a then some o else H b
theorem upd_same {H : Hp} {a : Addr} {o : HO} : upd H a o a = some o := by unfold upd; rw [if_pos rfl]
theorem upd_ne {H : Hp} {a b : Addr} {o : HO} (h : b ≠ a) : upd H a o b = H b := by unfold upd; rw [if_neg h]
theorem ne_of {H : Hp} {a b : Addr} {o u : HO} (h : H a = some o) (h' : H b = some u) (d : o ≠ u) : a ≠ b := by
  intro e; subst e; rw [h] at h'; exact d (Option.some.inj h')
theorem ne_of_none {H : Hp} {a b : Addr} {o : HO} (h : H a = some o) (h' : H b = none) : a ≠ b := by
  intro e; subst e; rw [h] at h'; cases h'

section
variable (P : Program) (w : World)
noncomputable def ObjOk (H : Hp) (h : Heap) (a : Addr) : HO → Prop
  | .lst xs => xs.length ≤ sizeLine ∧ ∃ (its : List Value) (n : Nat), Vals xs its ∧ h.get? a = some { cls := .type "list", data := .seq its.toArray n }
  | .tup xs => xs.length ≤ sizeLine ∧ ∃ its : List Value, Vals xs its ∧ IsTup h a its.toArray
  | .dK kvs => kvs.length ≤ sizeLine ∧ (a == sysModules) = false ∧ ∃ vs, KV kvs vs ∧ h.DictOf (mixKind P w) a vs
  | .dT kvs => kvs.length ≤ sizeLine ∧ (a == sysModules) = false ∧ ∃ xs : List (List Key × Addr × Value),
      Paired (fun (p : List Key × V) (q : List Key × Addr × Value) => p.1 = q.1 ∧ H q.2.1 = some (.tup (p.1.map kV)) ∧ RelV p.2 q.2.2) kvs xs ∧
      ∃ o es ep, h.get? a = some o ∧ o.ExactDict ∧ o.data = .dict es ep ∧ es.toList = xs.map (entryOfKey (tupleKind (mixKind P w))) ∧ (xs.map (·.1)).Nodup
  | .set S n => h.SetOf (intKind P w) a S n
  | .ins C dx fs => H dx = some (.own a) ∧ fs.length ≤ 1000 ∧ dx ≠ a ∧ h.get? a = some (PySem.W.instObj C dx) ∧
      ∃ mA, h.Ns1 dx mA ∧ (∀ f, RelO (fs.lookup f) (mA f)) ∧ PySem.Within mA (fs.map (·.1))
  | .own _ => ∃ o, h.get? a = some o
  | .xd fs => ∃ mA, h.Ns1 a mA ∧ ∀ f, RelO (fs.lookup f) (mA f)
  | .rng lo hi => ∃ t u v, h.get? a = some { cls := .type "range", data := .fields #[.int lo t, .int hi u, .int 1 v] }
  | .frz o u => h.get? a = some o ∧ ObjOk H h a u
  | .tbl ps => h.get? a = some { cls := .none, data := .fields ps }
  | .met f x => h.get? a = some (PySem.W.methodObj (.ref f) (.ref x))
  | .ext φ => φ h ∧ (∃ o, h.get? a = some o) ∧ ∀ h1 h2 : Heap, φ h1 → (∀ o, h1.get? a = some o → h2.get? a = some o) → φ h2
noncomputable def HOk (H : Hp) (h : Heap) : Prop := ∀ a o, H a = some o → ObjOk P w H h a o
end

section
variable {P : Program} {w : World} {H H' : Hp} {h h' : Heap} {a : Addr} {o : HO}
theorem ObjOk.lt (x : ObjOk P w H h a o) : a < h.objs.size := by
  cases o with
  | lst xs => obtain ⟨_, _, _, _, e⟩ := x; exact Heap.lt_size e
  | tup xs => obtain ⟨_, _, _, p⟩ := x; exact p.lt
  | dK kvs => obtain ⟨_, _, _, _, o, _, _, e, _⟩ := x; exact Heap.lt_size e
  | dT kvs => obtain ⟨_, _, _, _, o, _, _, e, _⟩ := x; exact Heap.lt_size e
  | set S n => obtain ⟨o, _, _, _, e, _⟩ := x; exact Heap.lt_size e
  | ins C dx fs => obtain ⟨_, _, _, e, _⟩ := x; exact Heap.lt_size e
  | own y => obtain ⟨_, e⟩ := x; exact Heap.lt_size e
  | xd fs => obtain ⟨_, ⟨_, _, _, e, _⟩, _⟩ := x; exact Heap.lt_size e
  | rng lo hi => obtain ⟨_, _, _, e⟩ := x; exact Heap.lt_size e
  | frz ob u => obtain ⟨e, _⟩ := x; exact Heap.lt_size e
  | tbl ps => exact Heap.lt_size (show h.get? a = some _ from x)
  | met f y => exact Heap.lt_size (show h.get? a = some _ from x)
  | ext φ => obtain ⟨_, ⟨_, e⟩, _⟩ := x; exact Heap.lt_size e
theorem Paired.mapP {α β : Type} {F G : α → β → Prop} : ∀ {l₁ : List α} {l₂ : List β}, Paired F l₁ l₂ → (∀ a b, F a b → G a b) → Paired G l₁ l₂
  | _, _, .nil, _ => .nil
  | _, _, .cons r t, f => .cons (f _ _ r) (Paired.mapP t f)
theorem ObjOk.stay (x : ObjOk P w H h a o) (k : ∀ b u, (b = a ∨ H b = some (.own a)) → h.get? b = some u → h'.get? b = some u)
    (ho : ∀ b, H b = some (.own a) → H' b = some (.own a)) (ht : ∀ b xs, H b = some (.tup xs) → H' b = some (.tup xs)) : ObjOk P w H' h' a o := by
  induction o with
  | lst xs => obtain ⟨z, its, n, r, e⟩ := x; exact ⟨z, its, n, r, k _ _ (.inl rfl) e⟩
  | tup xs => obtain ⟨z, its, r, ob, e, c⟩ := x; exact ⟨z, its, r, ob, k _ _ (.inl rfl) e, c⟩
  | dK kvs => obtain ⟨z, y, vs, r, ob, es, ep, e, c⟩ := x; exact ⟨z, y, vs, r, ob, es, ep, k _ _ (.inl rfl) e, c⟩
  | dT kvs =>
    obtain ⟨z, y, xs, r, ob, es, ep, e, c⟩ := x
    exact ⟨z, y, xs, Paired.mapP r fun p q z => ⟨z.1, ht _ _ z.2.1, z.2.2⟩, ob, es, ep, k _ _ (.inl rfl) e, c⟩
  | set S n => obtain ⟨ob, es, ep, t, e, c⟩ := x; exact ⟨ob, es, ep, t, k _ _ (.inl rfl) e, c⟩
  | ins C dx fs =>
    obtain ⟨d, z, ne, e, mA, ⟨od, es, ep, e2, c⟩, r⟩ := x
    exact ⟨ho _ d, z, ne, k _ _ (.inl rfl) e, mA, ⟨od, es, ep, k _ _ (.inr d) e2, c⟩, r⟩
  | own y => obtain ⟨ob, e⟩ := x; exact ⟨ob, k _ _ (.inl rfl) e⟩
  | xd fs => obtain ⟨mA, ⟨od, es, ep, e, c⟩, r⟩ := x; exact ⟨mA, ⟨od, es, ep, k _ _ (.inl rfl) e, c⟩, r⟩
  | rng lo hi => obtain ⟨t, u, v, e⟩ := x; exact ⟨t, u, v, k _ _ (.inl rfl) e⟩
  | frz ob u ih => obtain ⟨e, q⟩ := x; exact ⟨k _ _ (.inl rfl) e, ih q⟩
  | tbl ps =>
    have e : h.get? a = some { cls := .none, data := .fields ps } := x
    show h'.get? a = some { cls := .none, data := .fields ps }
    exact k a _ (.inl rfl) e
  | met f y =>
    have e : h.get? a = some (PySem.W.methodObj (.ref f) (.ref y)) := x
    show h'.get? a = some (PySem.W.methodObj (.ref f) (.ref y))
    exact k a _ (.inl rfl) e
  | ext φ => obtain ⟨p, ⟨o, e⟩, st⟩ := x; exact ⟨st _ _ p fun o q => k _ _ (.inl rfl) q, ⟨o, k _ _ (.inl rfl) e⟩, st⟩
theorem HOk.lt (x : HOk P w H h) (e : H a = some o) : a < h.objs.size := (x a o e).lt
theorem HOk.fresh (x : HOk P w H h) (e : h.objs.size ≤ a) : H a = none := by
  cases q : H a with
  | none => rfl
  | some u => exact absurd (Nat.lt_of_lt_of_le (x.lt q) e) (Nat.lt_irrefl _)
theorem HOk.kept (x : HOk P w H h) (k : ∀ b u, h.get? b = some u → h'.get? b = some u) : HOk P w H h' := fun a o e =>
  (x a o e).stay (fun b u _ q => k b u q) (fun _ q => q) fun _ _ q => q
theorem HOk.laid (x : HOk P w H h) (k : ∀ b u, h.get? b = some u → h'.get? b = some u) (hp : h.objs.size ≤ a) (new : ObjOk P w (upd H a o) h' a o) : HOk P w (upd H a o) h' := fun b u e => by
  have hn := x.fresh hp
  by_cases hb : b = a
  · subst hb; rw [upd_same] at e; cases e; exact new
  · rw [upd_ne hb] at e
    exact (x b u e).stay (fun c v _ q => k c v q) (fun c q => by rw [upd_ne (ne_of_none q hn)]; exact q) fun c xs q => by rw [upd_ne (ne_of_none q hn)]; exact q
end

noncomputable def Rd (H : Hp) (a : Addr) (u : HO) : Prop := H a = some u ∨ ∃ o, H a = some (.frz o u)
theorem Rd.ok {P : Program} {w : World} {H : Hp} {h : Heap} {a : Addr} {u : HO} (r : Rd H a u) (x : HOk P w H h) : ObjOk P w H h a u := by
  rcases r with r | ⟨o, r⟩
  · exact x a u r
  · obtain ⟨_, q⟩ := x a _ r
    exact q
noncomputable def Mut : Option HO → Prop
  | some (.lst _) => True
  | some (.dK _) => True
  | some (.dT _) => True
  | some (.set _ _) => True
  | some (.ins _ _ _) => True
  | some (.ext _) => True
  | _ => False
section
variable {P : Program} {w : World} {H : Hp} {h h' : Heap} {x e : Addr} {o' : HO}
theorem HOk.write (ok : HOk P w H h) (mu : Mut (H x)) (he : e = x ∨ H e = some (.own x)) (k : ∀ b u, b ≠ e → h.get? b = some u → h'.get? b = some u) (heo : ∃ u, h'.get? e = some u)
    (new : ObjOk P w (upd H x o') h' x o') : HOk P w (upd H x o') h' := fun b u q => by
  have nown : ∀ c y, H c = some (.own y) → c ≠ x := fun c y r z => by subst z; rw [r] at mu; exact mu
  have ntup : ∀ c xs, H c = some (.tup xs) → c ≠ x := fun c xs r z => by subst z; rw [r] at mu; exact mu
  by_cases hb : b = x
  · subst hb; rw [upd_same] at q; cases q; exact new
  · rw [upd_ne hb] at q
    by_cases hbe : b = e
    · have q' : H b = some (.own x) := by
        rcases he with z | z
        · exact absurd (hbe.trans z) hb
        · rw [hbe]; exact z
      rw [q] at q'; cases q'
      obtain ⟨v, hv⟩ := heo
      exact ⟨v, by rw [hbe]; exact hv⟩
    · refine (ok b u q).stay (fun c v hc r => k c v ?_ r) (fun c r => by rw [upd_ne (nown c b r)]; exact r) fun c xs r => by rw [upd_ne (ntup c xs r)]; exact r
      rcases hc with rfl | hc
      · exact hbe
      · rintro rfl
        rcases he with z | z
        · exact nown c b hc z
        · rw [hc] at z; cases z; exact hb rfl
end

set_option genInjectivity false in
set_option genSizeOf false in
structure Un (fs ex : List Addr) (H H' : Hp) (h h' : Heap) : Prop where
  keep : ∀ b o, h.get? b = some o → H b = none → b ∉ fs → b ∉ ex → h'.get? b = some o
  slot : ∀ b o, h.get? b = some o → H b = none → b ∈ fs → b ∉ ex → ∃ sl, h'.get? b = some { o with slots := sl }
  free : ∀ b o, h.get? b = some o → H b = none → b ∉ ex → H' b = none
  there : ∀ b o, h.get? b = some o → b ∉ ex → ∃ o', h'.get? b = some o'
  tups : ∀ b xs, H b = some (.tup xs) → H' b = some (.tup xs)
  frzs : ∀ b o u, H b = some (.frz o u) → H' b = some (.frz o u)
  tbls : ∀ b ps, H b = some (.tbl ps) → ∃ more, H' b = some (.tbl (ps ++ more))
section
variable {fs fs' ex ex' : List Addr} {H H1 H2 : Hp} {h h1 h2 h' : Heap} {a x e : Addr} {o : HO}
theorem Un.any (u : Un fs ex H H1 h h1) {b : Addr} {ob : Obj} (q : h.get? b = some ob) (n : H b = none) (hx : b ∉ ex) : ∃ sl, h1.get? b = some { ob with slots := sl } := by
  by_cases hb : b ∈ fs
  · exact u.slot b ob q n hb hx
  · exact ⟨ob.slots, u.keep b ob q n hb hx⟩
theorem Un.kept (k : ∀ b u, h.get? b = some u → h'.get? b = some u) : Un fs ex H H h h' :=
  ⟨fun b ob q _ _ _ => k b ob q, fun b ob q _ _ _ => ⟨ob.slots, k b ob q⟩, fun _ _ _ n _ => n, fun b ob q _ => ⟨ob, k b ob q⟩, fun _ _ q => q, fun _ _ _ q => q, fun _ ps q => ⟨#[], by rw [q]; simp⟩⟩
theorem Un.refl : Un fs ex H H h h := Un.kept fun _ _ q => q
theorem Un.laid (k : ∀ b u, h.get? b = some u → h'.get? b = some u) (hp : h.objs.size ≤ a) (hn : H a = none) : Un fs ex H (upd H a o) h h' where
  keep := fun b u q _ _ _ => k b u q
  slot := fun b u q _ _ _ => ⟨u.slots, k b u q⟩
  free := fun b u q n _ => by rw [upd_ne (Nat.ne_of_lt (Nat.lt_of_lt_of_le (Heap.lt_size q) hp))]; exact n
  there := fun b u q _ => ⟨u, k b u q⟩
  tups := fun b xs q => by rw [upd_ne (ne_of_none q hn)]; exact q
  frzs := fun b u xs q => by rw [upd_ne (ne_of_none q hn)]; exact q
  tbls := fun b ps q => ⟨#[], by rw [upd_ne (ne_of_none q hn), q]; simp⟩
theorem Un.write (mu : Mut (H x)) (he : e = x ∨ H e = some (.own x)) (k : ∀ b u, b ≠ e → h.get? b = some u → h'.get? b = some u) (heo : ∃ u, h'.get? e = some u) : Un fs ex H (upd H x o) h h' := by
  have hx : ∀ b, H b = none → b ≠ x := fun b n z => by subst z; rw [n] at mu; exact mu
  have hb : ∀ b, H b = none → b ≠ e := fun b n z => by
    subst z
    rcases he with r | r
    · exact hx b n r
    · rw [n] at r; cases r
  have hm : ∀ b u, H b = some u → ¬ Mut (some u) → b ≠ x := fun b u q nm z => by subst z; rw [q] at mu; exact nm mu
  refine ⟨fun b u q n _ _ => k b u (hb b n) q, fun b u q n _ _ => ⟨u.slots, k b u (hb b n) q⟩, fun b u q n _ => by rw [upd_ne (hx b n)]; exact n, fun b u q _ => ?_,
    fun b xs q => by rw [upd_ne (hm b _ q fun z => z)]; exact q, fun b u xs q => by rw [upd_ne (hm b _ q fun z => z)]; exact q, fun b ps q => ⟨#[], by rw [upd_ne (hm b _ q fun z => z), q]; simp⟩⟩
  by_cases hbe : b = e
  · subst hbe; exact heo
  · exact ⟨u, k b u hbe q⟩
end

noncomputable def trk (h : Heap) (H : Hp) : List Addr := (List.range h.objs.size).filter fun a => (H a).isSome
noncomputable def hidT (h : Heap) (H : Hp) : Heap := PySem.W.hideAll h (trk h H)
theorem hidT_size (h : Heap) (H : Hp) : (hidT h H).objs.size = h.objs.size := PySem.W.hideAll_size _ _
theorem hidT_get {h : Heap} {H : Hp} {b : Addr} {o : Obj} (e : h.get? b = some o) (n : H b = none) : (hidT h H).get? b = some o :=
  PySem.W.hideAll_get _ e fun hm => by
    have q : (H b).isSome = true := (List.mem_filter.mp hm).2
    rw [n] at q; simp at q
theorem of_hidT {h : Heap} {H : Hp} {b : Addr} {o : Obj} (e : (hidT h H).get? b = some o) : h.get? b = some o ∧ H b = none := by
  have e' : h.get? b = some o := PySem.W.of_hideAll (trk h H) e
  refine ⟨e', ?_⟩
  cases q : H b with
  | none => rfl
  | some x =>
    have hm : b ∈ trk h H := List.mem_filter.mpr ⟨List.mem_range.mpr (Heap.lt_size e'), by simp [q]⟩
    have z : (hidT h H).get? b = none := PySem.W.hideAll_none (trk h H) hm
    rw [z] at e; cases e

noncomputable def allNews (g h : Heap) (L : Addr) : List (Addr × Obj) := (List.range h.objs.size).filterMap fun a => if a = L ∨ (g.get? a).isSome = true then none else (h.get? a).map fun o => (a, o)
noncomputable def rest (g h : Heap) (L d : Addr) : List (Addr × Obj) := (allNews g h L).filter fun p => decide (p.1 ≠ d)
end Internal

namespace Internal
open PySem PySem.Spec PyProof.Rows

set_option genInjectivity false in
set_option genSizeOf false in
structure Mod (K : PySem.W.Frag) (mg : Str → Option Value) (base : Heap) : Prop where
  kin : K.In base
  glob : base.Ns mainGlobals mg
  blt : ∃ mb, base.Ns builtinsNs mb ∧ ∀ x : Str, x ≠ "__name__" → mb x = bootBuiltins x
  nolimit : base.NoLimit

set_option genSizeOf false in
structure Cx where
  prog : Program
  w : World
  K : PySem.W.Frag
  mg : Str → Option Value
  base : Heap
  A : Around
  N : List Str
  s₀ : Shared
  H₀ : Hp
  env : Env
  outer : List Env
  stack : List Env
  ex : List Addr
  fn : Str → Bool
  calm : Bool
  pn : List (Addr × Obj)
  xe : Value → Shared → Prop
noncomputable def frs (l : List Env) : List Addr := l.filterMap (·.frame)
noncomputable abbrev Cx.fs (X : Cx) : List Addr := frs X.outer

noncomputable def Vis (sc : Scope) (x : Str) : Prop := sc.names.lookup x = some .local ∨ sc.names.lookup x = some .cell ∨ sc.names.lookup x = some .free
noncomputable def Loc (sc : Scope) (x : Str) : Prop := sc.names.lookup x = some .local ∨ sc.names.lookup x = some .cell
noncomputable def Look (env : Env) (h : Heap) (m : Str → Option Value) (x : Str) (u : Value) : Prop :=
  (env.kindOf x = some .local ∧ m x = some u) ∨ ((env.kindOf x = some .cell ∨ env.kindOf x = some .free) ∧ ∃ c, env.cells.lookup x = some c ∧ h.IsCell c (some u))

set_option genSizeOf false in
structure Cx.Ok (X : Cx) : Prop where
  mod : Mod X.K X.mg X.base
  kind : X.env.scope.kind = .function
  glob : X.env.globals = mainGlobals
  blt : X.env.builtins = builtinsNs
  above : X.s₀.heap.objs.size ≤ X.env.locals
  inj : ∀ x y c, X.env.cells.lookup x = some c → X.env.cells.lookup y = some c → x = y
  has : ∀ x, (X.env.kindOf x = some .cell ∨ X.env.kindOf x = some .free) → ∃ c, X.env.cells.lookup x = some c
  cab : ∀ x c, X.fn x = true → X.env.cells.lookup x = some c → X.s₀.heap.objs.size ≤ c
  hd : X.calm = true → X.A.handled = none
  frames : X.A.frames = some X.stack
  stk : X.stack = X.outer ∨ (X.stack = X.env :: X.outer ∧ X.env.frame = some X.env.locals)
  exf : ∀ b ∈ X.ex, b ≠ X.env.locals ∧ ∀ x c, X.env.cells.lookup x = some c → c ≠ b
  bs : ∀ b o, X.base.get? b = some o → X.s₀.heap.get? b = some o ∧ X.H₀ b = none
  bsz : X.base.objs.size ≤ X.s₀.heap.objs.size
  noex : ∀ b o, X.base.get? b = some o → b ∉ X.ex
  exfs : ∀ b ∈ X.ex, b ∉ X.fs
  funs : X.s₀.heap.FunFrames X.base X.outer
  frf : ∀ b ∈ X.fs, X.H₀ b = none

set_option genInjectivity false in
set_option genSizeOf false in
structure Inv (X : Cx) (pins : List (Addr × Obj)) (σ : List (Option V)) (H : Hp) (s : Shared) : Prop where
  ok : X.Ok
  os : s.os = X.s₀.os
  bare : AllBare s.gens
  base : Un X.fs X.ex X.H₀ H X.s₀.heap s.heap
  loc : ∃ m, s.heap.Ns X.env.locals m ∧ ∀ (i : Nat) (x : Str) (v : V), X.N[i]? = some x → σ[i]? = some (some v) → Vis X.env.scope x → ∃ u, RelV v u ∧ Look X.env s.heap m x u
  cell : ∀ x c, X.env.cells.lookup x = some c → ∃ v, s.heap.IsCell c v
  free : H X.env.locals = none
  freeC : ∀ x c, X.env.cells.lookup x = some c → H c = none
  pin : ∀ p ∈ X.pn ++ pins, s.heap.get? p.1 = some p.2 ∧ H p.1 = none ∧ p.1 ≠ X.env.locals ∧ p.1 ∉ X.fs ∧ ∀ v, p.2.data ≠ .cell v
  hok : HOk X.prog X.w H s.heap
  len : σ.length = X.N.length

section
variable {X : Cx} {pins : List (Addr × Obj)} {σ : List (Option V)} {H H' : Hp} {s : Shared} {h' : Heap}

theorem Cx.Ok.nofr (ok : X.Ok) {b : Addr} {o : Obj} (e : X.base.get? b = some o) : b ∉ X.fs := fun hb => by
  have := (ok.funs.mem hb).1
  rw [e] at this; cases this
theorem Inv.bs (I : Inv X pins σ H s) : ∀ b o, X.base.get? b = some o → s.heap.get? b = some o ∧ H b = none := fun b o e =>
  ⟨I.base.keep b o (I.ok.bs b o e).1 (I.ok.bs b o e).2 (I.ok.nofr e) (I.ok.noex b o e), I.base.free b o (I.ok.bs b o e).1 (I.ok.bs b o e).2 (I.ok.noex b o e)⟩
theorem Inv.bk (I : Inv X pins σ H s) : ∀ b o, X.base.get? b = some o → s.heap.get? b = some o := fun b o e => (I.bs b o e).1
theorem Inv.mod (I : Inv X pins σ H s) : Mod X.K X.mg X.base := I.ok.mod
theorem Inv.kIn (I : Inv X pins σ H s) : X.K.In s.heap := I.ok.mod.kin.keeps I.bk
theorem Inv.lt (I : Inv X pins σ H s) : X.env.locals < s.heap.objs.size := let ⟨_, hn, _⟩ := I.loc; hn.lt
theorem Inv.sz (I : Inv X pins σ H s) : X.s₀.heap.objs.size ≤ s.heap.objs.size := Nat.le_trans I.ok.above (Nat.le_of_lt I.lt)
theorem Inv.nofs (I : Inv X pins σ H s) {a : Addr} (h : s.heap.objs.size ≤ a) : a ∉ X.fs := fun hb => by
  obtain ⟨_, o, ho, _⟩ := I.ok.funs.mem hb
  exact absurd (Nat.lt_of_lt_of_le (Heap.lt_size ho) (Nat.le_trans I.sz h)) (Nat.lt_irrefl _)
theorem Inv.cne (I : Inv X pins σ H s) : ∀ x c, X.env.cells.lookup x = some c → c ≠ X.env.locals := fun x c e z => by
  obtain ⟨v, o, ho, hd⟩ := I.cell x c e
  obtain ⟨m, ⟨o', es, ep, ho', hd', _⟩, _⟩ := I.loc
  rw [z, ho'] at ho; cases ho; rw [hd'] at hd; cases hd
theorem Inv.funs (I : Inv X pins σ H s) : s.heap.FunFrames X.base X.outer := by
  have all : ∀ (l : List Env), (∀ b ∈ frs l, b ∈ X.fs) → X.s₀.heap.FunFrames X.base l → s.heap.FunFrames X.base l := by
    intro l
    induction l with
    | nil => intro _ _; trivial
    | cons env r ih =>
      intro hs hl
      obtain ⟨hk, ⟨L, o, hf, hn, ho, hd⟩, hr⟩ := hl
      have hL : L ∈ X.fs := hs L (by unfold frs; rw [List.filterMap_cons, hf]; exact List.mem_cons_self)
      obtain ⟨sl, e⟩ := I.base.slot L o ho (I.ok.frf L hL) hL fun z => I.ok.exfs L z hL
      exact ⟨hk, ⟨L, _, hf, hn, e, hd⟩, ih (fun b hb => hs b (by unfold frs; rw [List.filterMap_cons, hf]; exact List.mem_cons_of_mem _ hb)) hr⟩
  exact all X.outer (fun _ hb => hb) I.ok.funs

theorem Inv.stack (I : Inv X pins σ H s) : s.heap.FunFrames X.base X.stack := by
  rcases I.ok.stk with e | ⟨e, hf⟩
  · rw [e]; exact I.funs
  · rw [e]
    obtain ⟨m, hn, _⟩ := I.loc
    refine .cons (by rw [I.ok.kind]; decide) hf hn ?_ I.funs
    exact Heap.get?_none_of_le (Nat.le_trans I.ok.bsz I.ok.above)
theorem Inv.stkSub (I : Inv X pins σ H s) : ∀ b ∈ frs X.stack, b ∈ X.env.locals :: X.fs := fun b hb => by
  rcases I.ok.stk with e | ⟨e, hf⟩
  · rw [e] at hb; exact List.mem_cons_of_mem _ hb
  · rw [e] at hb
    unfold frs at hb
    rw [List.filterMap_cons, hf] at hb
    exact hb
theorem Inv.stkFree (I : Inv X pins σ H s) : ∀ b ∈ frs X.stack, H b = none := fun b hb => by
  rcases List.mem_cons.mp (I.stkSub b hb) with e | hb
  · rw [e]; exact I.free
  · obtain ⟨_, o, ho, _⟩ := I.ok.funs.mem hb
    exact I.base.free b o ho (I.ok.frf b hb) fun z => I.ok.exfs b z hb

theorem Inv.step {g' : Array GenState} {t' : Nat} {d' : Drawn} {ch : List Addr} (I : Inv X pins σ H s)
    (hch : ∀ b ∈ ch, (b ∈ X.ex ∨ X.s₀.heap.objs.size ≤ b) ∧ b ≠ X.env.locals ∧ (∀ x c, X.env.cells.lookup x = some c → c ≠ b) ∧ ∀ p ∈ X.pn ++ pins, p.1 ≠ b)
    (keep : ∀ b o, b ≠ X.env.locals → b ∉ X.fs → b ∉ ch → s.heap.get? b = some o → H b = none → h'.get? b = some o)
    (slot : ∀ b o, b ≠ X.env.locals → b ∈ X.fs → b ∉ ch → s.heap.get? b = some o → H b = none → ∃ sl, h'.get? b = some { o with slots := sl }) (free : ∀ b o, b ∉ ch → s.heap.get? b = some o → H b = none → H' b = none)
    (there : ∀ b o, b ∉ ch → s.heap.get? b = some o → ∃ o', h'.get? b = some o')
    (tups : ∀ b xs, H b = some (.tup xs) → H' b = some (.tup xs)) (frzs : ∀ b o u, H b = some (.frz o u) → H' b = some (.frz o u)) (tbls : ∀ b ps, H b = some (.tbl ps) → ∃ more, H' b = some (.tbl (ps ++ more)))
    (ns : ∀ m, s.heap.Ns X.env.locals m → h'.Ns X.env.locals m) (hok : HOk X.prog X.w H' h') (hg : AllBare g') :
    Inv X pins σ H' { s with heap := h', gens := g', drawn := d', toks := t' } := by
  have neL : ∀ b o, X.s₀.heap.get? b = some o → b ≠ X.env.locals := fun b o e => Nat.ne_of_lt (Nat.lt_of_lt_of_le (Heap.lt_size e) I.ok.above)
  have neC : ∀ b o, X.s₀.heap.get? b = some o → b ∉ X.ex → b ∉ ch := fun b o e hx hb => by
    rcases (hch b hb).1 with z | z
    · exact hx z
    · exact absurd (Nat.lt_of_lt_of_le (Heap.lt_size e) z) (Nat.lt_irrefl _)
  have cellK : ∀ x c, X.env.cells.lookup x = some c → ∀ v, s.heap.IsCell c v → h'.IsCell c v := fun x c e v ⟨o, ho, hd⟩ => by
    have nch : c ∉ ch := fun z => (hch c z).2.2.1 x c e rfl
    by_cases hc : c ∈ X.fs
    · obtain ⟨sl, q⟩ := slot c o (I.cne x c e) hc nch ho (I.freeC x c e)
      exact ⟨_, q, hd⟩
    · exact ⟨o, keep c o (I.cne x c e) hc nch ho (I.freeC x c e), hd⟩
  refine ⟨I.ok, I.os, hg, ⟨fun b o e n hb hx => ?_, fun b o e n hb hx => ?_, fun b o e n hx => ?_, fun b o e hx => ?_, fun b xs e => tups b xs (I.base.tups b xs e), fun b o xs e => frzs b o xs (I.base.frzs b o xs e), fun b ps e => ?_⟩, ?_, fun x c e => ?_, ?_, fun x c e => ?_, fun p hp => ?_, hok, I.len⟩
  · exact keep b o (neL b o e) hb (neC b o e hx) (I.base.keep b o e n hb hx) (I.base.free b o e n hx)
  · obtain ⟨sl, e1⟩ := I.base.slot b o e n hb hx
    obtain ⟨sl', e2⟩ := slot b _ (neL b o e) hb (neC b o e hx) e1 (I.base.free b o e n hx)
    exact ⟨sl', e2⟩
  · obtain ⟨o', e1⟩ := I.base.there b o e hx
    exact free b o' (neC b o e hx) e1 (I.base.free b o e n hx)
  · obtain ⟨o', e1⟩ := I.base.there b o e hx
    exact there b o' (neC b o e hx) e1
  · obtain ⟨m1, e1⟩ := I.base.tbls b ps e
    obtain ⟨m2, e2⟩ := tbls b _ e1
    exact ⟨m1 ++ m2, by rw [e2, Array.append_assoc]⟩
  · obtain ⟨m, hn, hl⟩ := I.loc
    refine ⟨m, ns m hn, fun i x v e1 e2 e3 => ?_⟩
    obtain ⟨u, r, l⟩ := hl i x v e1 e2 e3
    refine ⟨u, r, ?_⟩
    rcases l with l | ⟨k, c, e, z⟩
    · exact .inl l
    · exact .inr ⟨k, c, e, cellK x c e _ z⟩
  · obtain ⟨v, z⟩ := I.cell x c e
    exact ⟨v, cellK x c e v z⟩
  · obtain ⟨m, ⟨o, _, _, ho, _⟩, _⟩ := I.loc
    exact free _ o (fun z => (hch _ z).2.1 rfl) ho I.free
  · obtain ⟨v, o, ho, hd⟩ := I.cell x c e
    exact free c o (fun z => (hch c z).2.2.1 x c e rfl) ho (I.freeC x c e)
  · obtain ⟨e, n, ne, nf, d⟩ := I.pin p hp
    have nch : p.1 ∉ ch := fun z => (hch p.1 z).2.2.2 p hp rfl
    exact ⟨keep p.1 p.2 ne nf nch e n, free p.1 p.2 nch e n, ne, nf, d⟩
theorem Inv.un {t' : Nat} (I : Inv X pins σ H s) (u : Un X.fs [] H H' s.heap h') (hok : HOk X.prog X.w H' h') : Inv X pins σ H' { s with heap := h', toks := t' } := by
  obtain ⟨m, ⟨o, es, ep, ho, r⟩, _⟩ := id I.loc
  obtain ⟨sl, hL⟩ := u.any ho I.free (by simp)
  exact I.step (g' := s.gens) (d' := s.drawn) (ch := []) (fun _ z => nomatch z) (fun b o _ hb _ e n => u.keep b o e n hb (by simp)) (fun b o _ hb _ e n => u.slot b o e n hb (by simp)) (fun b o _ e n => u.free b o e n (by simp)) (fun b o _ e => u.there b o e (by simp)) u.tups u.frzs u.tbls (fun m' hm => by
    obtain ⟨o', es', ep', ho', r'⟩ := hm
    rw [ho] at ho'; cases ho'
    exact ⟨_, es', ep', hL, r'⟩) hok I.bare
theorem Inv.call {g' : Array GenState} {t' : Nat} {d' : Drawn} {ch : List Addr} (I : Inv X pins σ H s) (u : Un (frs X.stack) ch H H' s.heap h') (hok : HOk X.prog X.w H' h') (hg : AllBare g')
    (hch : ∀ b ∈ ch, (b ∈ X.ex ∨ X.s₀.heap.objs.size ≤ b) ∧ b ≠ X.env.locals ∧ (∀ x c, X.env.cells.lookup x = some c → c ≠ b) ∧ ∀ p ∈ X.pn ++ pins, p.1 ≠ b) :
    Inv X pins σ H' { s with heap := h', gens := g', drawn := d', toks := t' } := by
  obtain ⟨m, ⟨o, es, ep, ho, r⟩, _⟩ := id I.loc
  obtain ⟨sl, hL⟩ := u.any ho I.free fun z => (hch _ z).2.1 rfl
  exact I.step (ch := ch) hch (fun b o hL hb hc e n => u.keep b o e n (fun z => (List.mem_cons.mp (I.stkSub b z)).elim hL hb) hc) (fun b o _ _ hc e n => u.any e n hc) (fun b o hc e n => u.free b o e n hc) (fun b o hc e => u.there b o e hc) u.tups u.frzs u.tbls (fun m' hm => by
    obtain ⟨o', es', ep', ho', r'⟩ := hm
    rw [ho] at ho'; cases ho'
    exact ⟨_, es', ep', hL, r'⟩) hok hg
theorem Inv.turned {t' : Nat} {it : Addr} (I : Inv X pins σ H s) (k : ∀ b o, b ≠ it → s.heap.get? b = some o → h'.get? b = some o) (hn : H it = none) (hL : it ≠ X.env.locals)
    (h1 : it ∈ X.ex ∨ X.s₀.heap.objs.size ≤ it) (h2 : ∀ x c, X.env.cells.lookup x = some c → c ≠ it) (h3 : ∀ p ∈ X.pn ++ pins, p.1 ≠ it) : Inv X pins σ H { s with heap := h', toks := t' } := by
  have nit : ∀ b u, H b = some u → b ≠ it := fun b u e z => by rw [z, hn] at e; cases e
  refine I.step (g' := s.gens) (d' := s.drawn) (ch := [it]) (fun b hb => ?_) (fun b o _ _ hc e _ => k b o (fun z => hc (by simp [z])) e) (fun b o _ _ hc e _ => ⟨o.slots, k b o (fun z => hc (by simp [z])) e⟩) (fun _ _ _ _ n => n)
    (fun b o hc e => ⟨o, k b o (fun z => hc (by simp [z])) e⟩) (fun _ _ e => e) (fun _ _ _ e => e) (fun b ps e => ⟨#[], by rw [e]; simp⟩) (fun m hm => ?_) (fun b u e => ?_) I.bare
  · have e : b = it := by simpa using hb
    subst e
    exact ⟨h1, hL, h2, h3⟩
  · obtain ⟨o, es, ep, ho, r⟩ := hm
    exact ⟨o, es, ep, k _ o (Ne.symm hL) ho, r⟩
  · refine (I.hok b u e).stay (fun c v hc q => k c v ?_ q) (fun _ q => q) fun _ _ q => q
    rcases hc with z | z
    · rw [z]; exact nit b u e
    · exact nit c _ z
theorem Inv.tok (I : Inv X pins σ H s) (t : Nat) : Inv X pins σ H { s with toks := t } := I.un (h' := s.heap) (t' := t) Un.refl I.hok
theorem Inv.kept {t' : Nat} (I : Inv X pins σ H s) (k : ∀ b u, s.heap.get? b = some u → h'.get? b = some u) : Inv X pins σ H { s with heap := h', toks := t' } := I.un (Un.kept k) (I.hok.kept k)
theorem Inv.laid {a : Addr} {o : HO} {t' : Nat} (I : Inv X pins σ H s) (k : ∀ b u, s.heap.get? b = some u → h'.get? b = some u) (hp : s.heap.objs.size ≤ a) (new : ObjOk X.prog X.w (upd H a o) h' a o) :
    Inv X pins σ (upd H a o) { s with heap := h', toks := t' } := I.un (Un.laid k hp (I.hok.fresh hp)) (I.hok.laid k hp new)
theorem Inv.write {x e : Addr} {o : HO} {t' : Nat} (I : Inv X pins σ H s) (mu : Mut (H x)) (he : e = x ∨ H e = some (.own x)) (k : ∀ b u, b ≠ e → s.heap.get? b = some u → h'.get? b = some u) (heo : ∃ u, h'.get? e = some u)
    (new : ObjOk X.prog X.w (upd H x o) h' x o) : Inv X pins σ (upd H x o) { s with heap := h', toks := t' } := I.un (Un.write mu he k heo) (I.hok.write mu he k heo new)
theorem Inv.pins_of {pins' : List (Addr × Obj)} (I : Inv X pins σ H s) (h : ∀ p ∈ pins', s.heap.get? p.1 = some p.2 ∧ H p.1 = none ∧ p.1 ≠ X.env.locals ∧ p.1 ∉ X.fs ∧ ∀ v, p.2.data ≠ .cell v) : Inv X pins' σ H s :=
  ⟨I.ok, I.os, I.bare, I.base, I.loc, I.cell, I.free, I.freeC, fun p hp => (List.mem_append.mp hp).elim (fun z => I.pin p (List.mem_append_left _ z)) (h p), I.hok, I.len⟩

theorem nodup_ix {N : List Str} (hN : N.Nodup) {i j : Nat} {x : Str} (a : N[i]? = some x) (b : N[j]? = some x) : i = j := by
  obtain ⟨h1, e1⟩ := List.getElem?_eq_some_iff.mp a
  obtain ⟨h2, e2⟩ := List.getElem?_eq_some_iff.mp b
  exact (List.getElem_inj hN).mp (e1.trans e2.symm)

theorem store_ok2 {M : Model} {A : Around} {E : Value → Shared → Prop} {i : Nat} {x : Str} {v : V} {u : Value} {Q : Unit → Shared → Prop} (I : Inv X pins σ H s) (hN : X.N.Nodup) (hi : X.N[i]? = some x) (hx : Loc X.env.scope x) (r : RelV v u)
    (h : ∀ s', Inv X pins (σ.set i (some v)) H s' → (∃ a, Heap.SameBut a s.heap s'.heap ∧ (a = X.env.locals ∨ X.env.cells.lookup x = some a)) → Q () s') (hf : autoParam (X.fn x = true ∨ X.env.scope.names.lookup x = some .local) Internal.aut0._auto_1) : wpAny M A (storeName X.env x u) Q E s := by
  obtain ⟨m, hn, hl⟩ := id I.loc
  have hcls : (X.env.scope.kind == .class || (X.env.scope.kind == .module && X.env.locals != X.env.globals)) = false := by rw [I.ok.kind]; rfl
  have hiσ : i < σ.length := by rw [I.len]; exact (List.getElem?_eq_some_iff.mp hi).1
  have cne := I.cne
  have tracked : ∀ {a : Addr} {h' : Heap}, (∃ o, s.heap.get? a = some o ∧ H a = none) → Heap.SameBut a s.heap h' → HOk X.prog X.w H h' := fun {a h'} ha hs b ob e => by
    obtain ⟨_, _, hfree⟩ := ha
    refine (I.hok b ob e).stay (fun c w' hc q => (hs.2 c ?_).trans q) (fun _ q => q) fun _ _ q => q
    rintro rfl
    rcases hc with rfl | hc
    · rw [hfree] at e; cases e
    · rw [hfree] at hc; cases hc
  rcases hx with hk | hk
  · refine wpAny_storeName_local hk hn (fun h' hn' hs => ?_) hcls
    obtain ⟨oL, _, _, hoL, _⟩ := id hn
    refine h _ ⟨I.ok, I.os, I.bare, ⟨fun b o e n hb hx => ?_, fun b o e n hb hx => ?_, I.base.free, fun b o e hx => ?_, I.base.tups, I.base.frzs, I.base.tbls⟩, ⟨_, hn', fun j y v' e1 e2 e3 => ?_⟩, fun y c e => ?_, I.free, I.freeC, fun p hp => ?_, tracked ⟨oL, hoL, I.free⟩ hs, by simpa using I.len⟩ ⟨_, hs, .inl rfl⟩
    · exact (hs.2 b (Nat.ne_of_lt (Nat.lt_of_lt_of_le (Heap.lt_size e) I.ok.above))).trans (I.base.keep b o e n hb hx)
    · obtain ⟨sl, e1⟩ := I.base.slot b o e n hb hx
      exact ⟨sl, (hs.2 b (Nat.ne_of_lt (Nat.lt_of_lt_of_le (Heap.lt_size e) I.ok.above))).trans e1⟩
    · obtain ⟨o', e1⟩ := I.base.there b o e hx
      exact ⟨o', (hs.2 b (Nat.ne_of_lt (Nat.lt_of_lt_of_le (Heap.lt_size e) I.ok.above))).trans e1⟩
    · by_cases hj : j = i
      · subst hj
        rw [hi] at e1; cases e1
        rw [List.getElem?_set_self hiσ] at e2
        cases e2
        exact ⟨u, r, .inl ⟨hk, by simp⟩⟩
      · rw [List.getElem?_set_ne (Ne.symm hj)] at e2
        obtain ⟨u', r', q⟩ := hl j y v' e1 e2 e3
        refine ⟨u', r', ?_⟩
        rcases q with ⟨k, e⟩ | ⟨k, c, e, z⟩
        · refine .inl ⟨k, ?_⟩
          have : y ≠ x := fun e => hj (nodup_ix hN e1 (e ▸ hi))
          simp [this, e]
        · exact .inr ⟨k, c, e, z.sameBut hs (cne y c e)⟩
    · obtain ⟨w', z⟩ := I.cell y c e
      exact ⟨w', z.sameBut hs (cne y c e)⟩
    · obtain ⟨e, n, ne, nf, d⟩ := I.pin p hp
      exact ⟨(hs.2 p.1 ne).trans e, n, ne, nf, d⟩
  · have hfn : X.fn x = true := by
      rcases hf with z | z
      · exact z
      · rw [z] at hk; cases hk
    obtain ⟨c, hc⟩ := I.ok.has x (.inl hk)
    obtain ⟨w', z⟩ := I.cell x c hc
    refine wpAny_storeName_cell I.ok.kind hk hc z (fun h' hc' hs => ?_)
    obtain ⟨oc, hoc, hocd⟩ := id z
    refine h { s with heap := h' } ⟨I.ok, I.os, I.bare, ⟨fun b o e n hb hx => ?_, fun b o e n hb hx => ?_, I.base.free, fun b o e hx => ?_, I.base.tups, I.base.frzs, I.base.tbls⟩, ⟨m, hn.sameBut hs (Ne.symm (cne x c hc)), fun j y v' e1 e2 e3 => ?_⟩, fun y c' e => ?_, I.free, I.freeC, fun p hp => ?_, tracked ⟨oc, hoc, I.freeC x c hc⟩ hs, by simpa using I.len⟩ ⟨c, hs, .inr hc⟩
    · exact (hs.2 b (Nat.ne_of_lt (Nat.lt_of_lt_of_le (Heap.lt_size e) (I.ok.cab x c hfn hc)))).trans (I.base.keep b o e n hb hx)
    · obtain ⟨sl, e1⟩ := I.base.slot b o e n hb hx
      exact ⟨sl, (hs.2 b (Nat.ne_of_lt (Nat.lt_of_lt_of_le (Heap.lt_size e) (I.ok.cab x c hfn hc)))).trans e1⟩
    · obtain ⟨o', e1⟩ := I.base.there b o e hx
      exact ⟨o', (hs.2 b (Nat.ne_of_lt (Nat.lt_of_lt_of_le (Heap.lt_size e) (I.ok.cab x c hfn hc)))).trans e1⟩
    · by_cases hj : j = i
      · subst hj
        rw [hi] at e1; cases e1
        rw [List.getElem?_set_self hiσ] at e2
        cases e2
        exact ⟨u, r, .inr ⟨.inl hk, c, hc, hc'⟩⟩
      · rw [List.getElem?_set_ne (Ne.symm hj)] at e2
        obtain ⟨u', r', q⟩ := hl j y v' e1 e2 e3
        refine ⟨u', r', ?_⟩
        rcases q with q | ⟨k, c', e, z'⟩
        · exact .inl q
        · refine .inr ⟨k, c', e, z'.sameBut hs ?_⟩
          rintro rfl
          exact hj (nodup_ix hN e1 (I.ok.inj _ _ _ e hc ▸ hi))
    · by_cases hcc : c' = c
      · subst hcc; exact ⟨_, hc'⟩
      · obtain ⟨w2, z2⟩ := I.cell y c' e
        exact ⟨w2, z2.sameBut hs hcc⟩
    · obtain ⟨e, n, ne, nf, d⟩ := I.pin p hp
      refine ⟨(hs.2 p.1 ?_).trans e, n, ne, nf, d⟩
      intro q
      rw [q, hoc] at e
      have q' : oc = p.2 := Option.some.inj e
      exact d w' (by rw [← q']; exact hocd)
theorem store_ok {M : Model} {A : Around} {E : Value → Shared → Prop} {i : Nat} {x : Str} {v : V} {u : Value} {Q : Unit → Shared → Prop} (I : Inv X pins σ H s) (hN : X.N.Nodup) (hi : X.N[i]? = some x) (hx : Loc X.env.scope x) (r : RelV v u)
    (h : ∀ s', Inv X pins (σ.set i (some v)) H s' → Q () s') (hf : autoParam (X.fn x = true ∨ X.env.scope.names.lookup x = some .local) Internal.aut0._auto_1) : wpAny M A (storeName X.env x u) Q E s :=
  store_ok2 I hN hi hx r (fun s' I' _ => h s' I') hf
end

noncomputable abbrev XK := Value → Option Addr → Hp → Prop
noncomputable abbrev St := List (Option V)
noncomputable abbrev VK := V → Hp → Prop
noncomputable abbrev TE := St → Hp → VK → Prop
noncomputable abbrev TT := St → Hp → (Bool → Hp → Prop) → Prop
noncomputable abbrev TA := St → Hp → (List V → Hp → Prop) → Prop
set_option genInjectivity false in
set_option genSizeOf false in
structure Ends where
  nx : St → Hp → Prop
  rt : VK
  bk : St → Hp → Prop := fun _ _ => False
  ct : St → Hp → Prop := fun _ _ => False
noncomputable abbrev TS := Ends → St → Hp → Prop

noncomputable def EP (X : Cx) (pins : List (Addr × Obj)) (σ : St) (Q : VK) (u : Value) (s' : Shared) : Prop := ∃ v H', Inv X pins σ H' s' ∧ RelV v u ∧ Q v H'
noncomputable def TP (X : Cx) (pins : List (Addr × Obj)) (σ : St) (Q : Bool → Hp → Prop) (b : Bool) (s' : Shared) : Prop := ∃ H', Inv X pins σ H' s' ∧ Q b H'
noncomputable def AP (X : Cx) (pins : List (Addr × Obj)) (σ : St) (Q : List V → Hp → Prop) (us : List Value) (s' : Shared) : Prop := ∃ vs H', Inv X pins σ H' s' ∧ Vals vs us ∧ Q vs H'
noncomputable def SP (X : Cx) (pins : List (Addr × Obj)) (D : Ends) (f : Flow) (s' : Shared) : Prop :=
  match f with
  | .next => ∃ σ' H', Inv X pins σ' H' s' ∧ D.nx σ' H'
  | .brk => ∃ σ' H', Inv X pins σ' H' s' ∧ D.bk σ' H'
  | .cont => ∃ σ' H', Inv X pins σ' H' s' ∧ D.ct σ' H'
  | .ret u => ∃ v σ' H', Inv X pins σ' H' s' ∧ RelV v u ∧ D.rt v H'

noncomputable def PE (X : Cx) (e : Expr) (t : TE) : Prop :=
  ∀ (pins : List (Addr × Obj)) (s : Shared) (σ : St) (H : Hp) (Q : VK), Inv X pins σ H s → t σ H Q → wpAny (model X.prog X.w) X.A (eval e X.env) (EP X pins σ Q) X.xe s
noncomputable def PT (X : Cx) (e : Expr) (t : TT) : Prop :=
  ∀ (pins : List (Addr × Obj)) (s : Shared) (σ : St) (H : Hp) (Q : Bool → Hp → Prop), Inv X pins σ H s → t σ H Q → wpAny (model X.prog X.w) X.A (isTrue e X.env (eval e X.env)) (TP X pins σ Q) X.xe s
noncomputable def PW (X : Cx) (e : Expr) (t : TT) : Prop :=
  ∀ (whole : Sem Value) (pins : List (Addr × Obj)) (s : Shared) (σ : St) (H : Hp) (Q : Bool → Hp → Prop), Inv X pins σ H s → t σ H Q → wpAny (model X.prog X.w) X.A (isTrue e X.env whole) (TP X pins σ Q) X.xe s
theorem PW.pt {X : Cx} {e : Expr} {t : TT} (h : PW X e t) : PT X e t := h _
noncomputable def PA (X : Cx) (es : List Expr) (t : TA) : Prop :=
  ∀ (pos : Pos) (pins : List (Addr × Obj)) (s : Shared) (σ : St) (H : Hp) (Q : List V → Hp → Prop), Inv X pins σ H s → t σ H Q → wpAny (model X.prog X.w) X.A (spliced (backTo pos (starEach es X.env))) (AP X pins σ Q) X.xe s
noncomputable def PS (X : Cx) (st : Stmt) (t : TS) : Prop :=
  ∀ (pins : List (Addr × Obj)) (s : Shared) (σ : St) (H : Hp) (D : Ends), Inv X pins σ H s → t D σ H → wpAny (model X.prog X.w) X.A (exec st X.env) (SP X pins D) X.xe s
noncomputable def PSs (X : Cx) (st : List Stmt) (t : TS) : Prop :=
  ∀ (pins : List (Addr × Obj)) (s : Shared) (σ : St) (H : Hp) (D : Ends), Inv X pins σ H s → t D σ H → wpAny (model X.prog X.w) X.A (execs st X.env) (SP X pins D) X.xe s
theorem thn {α : Type} {t : Sem α} {Q Q' : α → Shared → Prop} {M : Model} {A : Around} {E : Value → Shared → Prop} {s : Shared} (h : wpAny M A t Q E s) (hQ : ∀ a s, Q a s → Q' a s) : wpAny M A t Q' E s := wpAny_mono h hQ fun _ _ x => x
end Internal

namespace Internal
open PySem PySem.Spec PyProof.Rows
section
variable {X : Cx}

noncomputable def tVar (i : Nat) : TE := fun σ H Q => ∃ v, σ[i]? = some (some v) ∧ Q v H
noncomputable abbrev tC (v : V) : TE := fun _ H Q => Q v H
theorem pe_var {i : Nat} {x : Str} {pos : Pos} (hN : X.N[i]? = some x) (hv : Vis X.env.scope x) (hd : autoParam ((x == ("__debug__" : Str)) = false) Internal.aut1._auto_1) (hcd : autoParam ((x == ("__classdict__" : Str)) = false) Internal.aut1._auto_1) : PE X (.Name x pos) (tVar i) := by
  intro pins s σ H Q I h
  obtain ⟨v, e, h⟩ := h
  obtain ⟨m, hn, hl⟩ := I.loc
  obtain ⟨u, r, l⟩ := hl i x v hN e hv
  have fin : EP X pins σ Q u s := ⟨v, H, I, r, h⟩
  rcases l with ⟨hk, hm⟩ | ⟨hk, c, hc, hcell⟩
  · exact wpAny_Name (wpAny_loadName_local I.ok.kind hk hn hm fin) hd
  · rcases hk with hk | hk
    · exact wpAny_Name (wpAny_loadName_cell I.ok.kind hk hc hcell fin) hd
    · exact wpAny_Name (wpAny_loadName_free I.ok.kind hk hc hcell fin hcd) hd
theorem pe_int {i j pos} : PE X (.Constant (.int i) j pos) (tC (.int i)) := fun _ _ _ H _ I h => wpAny_Constant_int ⟨.int i, H, I.tok _, ⟨_, rfl⟩, h⟩
theorem pe_bl {b j pos} : PE X (.Constant (.bool b) j pos) (tC (.bl b)) := fun _ _ _ H _ I h => Constant_bool ⟨.bl b, H, I, rfl, h⟩
theorem pe_str {x j pos} : PE X (.Constant (.str x) j pos) (tC (.str x)) := fun _ _ _ H _ I h => Calls.Constant_str ⟨.str x, H, I.tok _, ⟨_, rfl⟩, h⟩

noncomputable def Gl (X : Cx) (x : Str) : Prop := X.env.kindOf x = some .globalImplicit
theorem ld_glob {E : Value → Shared → Prop} {pins : List (Addr × Obj)} {s : Shared} {σ : St} {H : Hp} {x : Str} {u : Value} {pos : Pos} {Q : Value → Shared → Prop} (I : Inv X pins σ H s) (hg : Gl X x) (hm : X.mg x = some u) (h : Q u s)
    (hd : autoParam ((x == ("__debug__" : Str)) = false) Internal.aut1._auto_1) : wpAny (model X.prog X.w) X.A (eval (.Name x pos) X.env) Q E s :=
  Calls.Name_function_global I.ok.kind hg (Calls.loadGlobal_global (by rw [I.ok.glob]; exact I.mod.glob.keeps I.bk) hm h) hd
theorem ld_blt {E : Value → Shared → Prop} {pins : List (Addr × Obj)} {s : Shared} {σ : St} {H : Hp} {x : Str} {u : Value} {pos : Pos} {Q : Value → Shared → Prop} (I : Inv X pins σ H s) (hg : Gl X x) (hm : X.mg x = none) (hv : bootBuiltins x = some u) (h : Q u s)
    (hn : autoParam (x ≠ "__name__") Internal.aut1._auto_1) (hd : autoParam ((x == ("__debug__" : Str)) = false) Internal.aut1._auto_1) : wpAny (model X.prog X.w) X.A (eval (.Name x pos) X.env) Q E s := by
  obtain ⟨mb, h1, h2⟩ := I.mod.blt
  exact Calls.Name_function_global I.ok.kind hg (Calls.loadGlobal_builtin (by rw [I.ok.glob]; exact I.mod.glob.keeps I.bk) hm (by rw [I.ok.blt]; exact h1.keeps I.bk) ((h2 x hn).trans hv) h) hd
theorem pe_glob {x : Str} {v : V} {u : Value} {pos : Pos} (hg : Gl X x) (hm : X.mg x = some u) (r : RelV v u) (hd : autoParam ((x == ("__debug__" : Str)) = false) Internal.aut1._auto_1) : PE X (.Name x pos) (tC v) :=
  fun _ _ _ H _ I h => ld_glob I hg hm ⟨v, H, I, r, h⟩ hd
theorem pe_bltn {x : Str} {v : V} {u : Value} {pos : Pos} (hg : Gl X x) (hm : X.mg x = none) (hv : bootBuiltins x = some u) (r : RelV v u) (hn : autoParam (x ≠ "__name__") Internal.aut1._auto_1) (hd : autoParam ((x == ("__debug__" : Str)) = false) Internal.aut1._auto_1) : PE X (.Name x pos) (tC v) :=
  fun _ _ _ H _ I h => ld_blt I hg hm hv ⟨v, H, I, r, h⟩ hn hd

noncomputable def t2I (ta tb : TE) (k : Int → Int → Hp → Prop) : St → Hp → Prop := fun σ H => ta σ H fun x H1 => tb σ H1 fun y H2 => ∃ i j, x = .int i ∧ y = .int j ∧ k i j H2
variable {a b : Expr} {ta tb : TE} {pos : Pos}
noncomputable def tCmp (p : Int → Int → Bool) (ta tb : TE) : TE := fun σ H Q => t2I ta tb (fun i j H2 => Q (.bl (p i j)) H2) σ H
noncomputable abbrev tLt : TE → TE → TE := tCmp fun i j => decide (i < j)
noncomputable abbrev tLe : TE → TE → TE := tCmp fun i j => decide (i ≤ j)
noncomputable abbrev tGt : TE → TE → TE := tCmp fun i j => decide (j < i)
noncomputable abbrev tGe : TE → TE → TE := tCmp fun i j => decide (j ≤ i)
noncomputable abbrev tEqI : TE → TE → TE := tCmp fun i j => decide (i = j)
noncomputable abbrev tNeI : TE → TE → TE := tCmp fun i j => !decide (i = j)
variable {tA tB' : TT} {rest : List Expr}
noncomputable abbrev tAnd (t u : TT) : TT := fun σ H Q => t σ H fun c H1 => if c = true then u σ H1 Q else Q false H1
noncomputable abbrev tOr (t u : TT) : TT := fun σ H Q => t σ H fun c H1 => if c = true then Q true H1 else u σ H1 Q
noncomputable abbrev tNot (t : TT) : TT := fun σ H Q => t σ H fun c H1 => Q (!c) H1
theorem pw_and1 (ha : PT X a tA) : PW X (.BoolOp .And [a] pos) tA := by
  intro wh pins s σ H Q I h
  refine isTrue_and (thn (ha pins s σ H Q I h) fun c s1 e => ?_)
  cases c with
  | true => exact isTrue_and_nil e
  | false => exact e
theorem pw_or1 (ha : PT X a tA) : PW X (.BoolOp .Or [a] pos) tA := by
  intro wh pins s σ H Q I h
  refine isTrue_or (thn (ha pins s σ H Q I h) fun c s1 e => ?_)
  cases c with
  | false => exact isTrue_or_nil e
  | true => exact e
theorem pw_and (ha : PT X a tA) (hb : PW X (.BoolOp .And (b :: rest) pos) tB') : PW X (.BoolOp .And (a :: b :: rest) pos) (tAnd tA tB') := by
  intro wh pins s σ H Q I h
  refine isTrue_and (thn (ha pins s σ H _ I h) fun c s1 ⟨H1, I1, q1⟩ => ?_)
  cases c with
  | true => exact hb wh pins s1 σ H1 Q I1 q1
  | false => exact ⟨H1, I1, q1⟩
theorem pw_or (ha : PT X a tA) (hb : PW X (.BoolOp .Or (b :: rest) pos) tB') : PW X (.BoolOp .Or (a :: b :: rest) pos) (tOr tA tB') := by
  intro wh pins s σ H Q I h
  refine isTrue_or (thn (ha pins s σ H _ I h) fun c s1 ⟨H1, I1, q1⟩ => ?_)
  cases c with
  | true => exact ⟨H1, I1, q1⟩
  | false => exact hb wh pins s1 σ H1 Q I1 q1
theorem pt_not (ha : PT X a tA) : PT X (.UnaryOp .Not a pos) (tNot tA) := by
  intro pins s σ H Q I h
  exact isTrue_not (ha pins s σ H (fun c H1 => Q (!c) H1) I h)
noncomputable abbrev tIf (t : TT) (ta tb : TE) : TE := fun σ H Q => t σ H fun c H1 => if c = true then ta σ H1 Q else tb σ H1 Q
end
end Internal

namespace Internal
open PySem PySem.Spec PyProof.Rows

noncomputable def SqL (K : PySem.W.Frag) (H : Hp) (a : Addr) (xs : List V) : Prop :=
  Rd H a (.lst xs) ∨
    ∃ (o : Obj) (its : Array Value) (n : Nat), K.lookup a = some o ∧ o.cls = .type "list" ∧ o.dict = none ∧ o.data = .seq its n ∧ its.size ≤ sizeLine ∧ Vals xs its.toList
noncomputable def SqT (K : PySem.W.Frag) (H : Hp) (a : Addr) (xs : List V) : Prop :=
  Rd H a (.tup xs) ∨
    ∃ (o : Obj) (its : Array Value) (n : Nat), K.lookup a = some o ∧ o.cls = .type "tuple" ∧ o.data = .seq its n ∧ its.size ≤ sizeLine ∧ Vals xs its.toList
noncomputable def absV : Value → Option V
  | .none => some .non
  | .bool b => some (.bl b)
  | .int i _ => some (.int i)
  | .str x _ => some (.str x)
  | .bytes b _ => some (.byt b)
  | .float b _ => some (.flt b)
  | .ref a => some (.ref a)
  | .type n => some (.ty n)
  | _ => none
theorem RelV.abs {x : V} {u : Value} (r : RelV x u) : absV u = some x := by
  cases x with
  | non => cases r; rfl
  | bl _ => cases r; rfl
  | int _ => obtain ⟨t, rfl⟩ := r; rfl
  | str _ => obtain ⟨t, rfl⟩ := r; rfl
  | byt _ => obtain ⟨t, rfl⟩ := r; rfl
  | flt _ => obtain ⟨t, rfl⟩ := r; rfl
  | ref _ => cases r; rfl
  | ty _ => cases r; rfl
theorem RelV.inj {x y : V} {u : Value} (r : RelV x u) (q : RelV y u) : x = y := Option.some.inj (r.abs.symm.trans q.abs)
theorem Vals.inj : ∀ {xs ys : List V} {us : List Value}, Vals xs us → Vals ys us → xs = ys
  | _, _, _, .nil, .nil => rfl
  | _, _, _, .cons r t, .cons r' t' => by rw [r.inj r', Vals.inj t t']
section
variable {X : Cx} {pins : List (Addr × Obj)} {σ : St} {H : Hp} {s : Shared} {a : Addr} {xs ys : List V}
theorem SqL.of {K : PySem.W.Frag} (h : H a = some (.lst xs)) : SqL K H a xs := .inl (.inl h)
theorem SqT.of {K : PySem.W.Frag} (h : H a = some (.tup xs)) : SqT K H a xs := .inl (.inl h)
theorem Inv.list (I : Inv X pins σ H s) (h : SqL X.K H a xs) : ∃ its : List Value, Vals xs its ∧ PlainL s.heap a its.toArray ∧ xs.length ≤ sizeLine := by
  rcases h with h | ⟨o, its, n, hk, hc, hd, hs, hz, r⟩
  · obtain ⟨z, its, n, r, e⟩ := h.ok I.hok
    exact ⟨its, r, ⟨_, n, e, rfl, rfl, rfl⟩, z⟩
  · refine ⟨its.toList, r, ⟨o, n, I.kIn a o hk, hc, hd, by simpa using hs⟩, ?_⟩
    have e := r.length
    simp only [Array.length_toList] at e
    omega
theorem Inv.tuple (I : Inv X pins σ H s) (h : SqT X.K H a xs) : ∃ its : List Value, Vals xs its ∧ IsTup s.heap a its.toArray ∧ xs.length ≤ sizeLine := by
  rcases h with h | ⟨o, its, n, hk, hc, hs, hz, r⟩
  · obtain ⟨z, its, r, p⟩ := h.ok I.hok
    exact ⟨its, r, p, z⟩
  · refine ⟨its.toList, r, ⟨o, I.kIn a o hk, hc, n, by simpa using hs⟩, ?_⟩
    have e := r.length
    simp only [Array.length_toList] at e
    omega
theorem Inv.list_inj (I : Inv X pins σ H s) (h : SqL X.K H a xs) (h' : SqL X.K H a ys) : xs = ys := by
  obtain ⟨its, r, ⟨o, n, e, _, _, d⟩, _⟩ := I.list h
  obtain ⟨its', r', ⟨o', n', e', _, _, d'⟩, _⟩ := I.list h'
  rw [e] at e'; cases e'
  rw [d] at d'
  injection d' with d1 _
  have : its = its' := by simpa using congrArg Array.toList d1
  subst this
  exact r.inj r'
theorem Inv.tuple_inj (I : Inv X pins σ H s) (h : SqT X.K H a xs) (h' : SqT X.K H a ys) : xs = ys := by
  obtain ⟨its, r, ⟨o, e, _, n, d⟩, _⟩ := I.tuple h
  obtain ⟨its', r', ⟨o', e', _, n', d'⟩, _⟩ := I.tuple h'
  rw [e] at e'; cases e'
  rw [d] at d'
  injection d' with d1 _
  have : its = its' := by simpa using congrArg Array.toList d1
  subst this
  exact r.inj r'
end

noncomputable abbrev Cx.wish (X : Cx) (E : Value → Shared → Prop) : Cx := { X with xe := E }
noncomputable abbrev Cx.nox (X : Cx) : Cx := X.wish fun _ _ => False
theorem Cx.Ok.wish {X : Cx} (ok : X.Ok) (E : Value → Shared → Prop) : (X.wish E).Ok :=
  ⟨ok.mod, ok.kind, ok.glob, ok.blt, ok.above, ok.inj, ok.has, ok.cab, ok.hd, ok.frames, ok.stk, ok.exf, ok.bs, ok.bsz, ok.noex, ok.exfs, ok.funs, ok.frf⟩
theorem Cx.Ok.unwish {X : Cx} {E : Value → Shared → Prop} (ok : (X.wish E).Ok) : X.Ok :=
  ⟨ok.mod, ok.kind, ok.glob, ok.blt, ok.above, ok.inj, ok.has, ok.cab, ok.hd, ok.frames, ok.stk, ok.exf, ok.bs, ok.bsz, ok.noex, ok.exfs, ok.funs, ok.frf⟩
section
variable {X : Cx} {pins : List (Addr × Obj)} {σ : St} {H : Hp} {s : Shared} {E : Value → Shared → Prop}
theorem Inv.wish (I : Inv X pins σ H s) (E : Value → Shared → Prop) : Inv (X.wish E) pins σ H s := ⟨I.ok.wish E, I.os, I.bare, I.base, I.loc, I.cell, I.free, I.freeC, I.pin, I.hok, I.len⟩
theorem Inv.unwish (I : Inv (X.wish E) pins σ H s) : Inv X pins σ H s := ⟨I.ok.unwish, I.os, I.bare, I.base, I.loc, I.cell, I.free, I.freeC, I.pin, I.hok, I.len⟩
theorem SP.unwish {D : Ends} {f : Flow} {s' : Shared} (h : SP (X.wish E) pins D f s') : SP X pins D f s' := by
  cases f with
  | next => obtain ⟨σ', H', I, q⟩ := h; exact ⟨σ', H', I.unwish, q⟩
  | brk => obtain ⟨σ', H', I, q⟩ := h; exact ⟨σ', H', I.unwish, q⟩
  | cont => obtain ⟨σ', H', I, q⟩ := h; exact ⟨σ', H', I.unwish, q⟩
  | ret u => obtain ⟨v, σ', H', I, r, q⟩ := h; exact ⟨v, σ', H', I.unwish, r, q⟩
theorem PSs.nox {st : List Stmt} {t : TS} (h : PSs X.nox st t) : PSs X st t := fun pins s σ H D I hw =>
  wpAny_mono (h pins s σ H D (I.wish _) hw) (fun _ _ q => q.unwish) fun _ _ z => False.elim z
end

section
variable {X : Cx} {st : Stmt} {rest : List Stmt} {t u : TS} {e : Expr} {te : TE} {pos : Pos}
noncomputable abbrev tNext : TS := fun D σ H => D.nx σ H
noncomputable abbrev tSeq (t u : TS) : TS := fun D σ H => t { D with nx := u D } σ H
theorem pss_nil : PSs X [] tNext := fun _ _ σ H _ I h => wpAny_execs_nil ⟨σ, H, I, h⟩
theorem pss_cons (h1 : PS X st t) (h2 : PSs X rest u) : PSs X (st :: rest) (tSeq t u) := by
  intro pins s σ H D I h
  refine wpAny_execs_cons (thn (h1 pins s σ H { D with nx := u D } I h) fun f s1 q => ?_)
  cases f with
  | next =>
    obtain ⟨σ', H', I', q⟩ := q
    exact h2 pins s1 σ' H' D I' q
  | ret v => exact q
  | brk => exact q
  | cont => exact q
theorem pss_one (h1 : PS X st t) : PSs X [st] t := by
  intro pins s σ H D I h
  refine wpAny_execs_cons (thn (h1 pins s σ H D I h) fun f s1 q => ?_)
  cases f with
  | next => exact wpAny_execs_nil q
  | ret v => exact q
  | brk => exact q
  | cont => exact q
noncomputable abbrev tBreak : TS := fun D σ H => D.bk σ H
noncomputable abbrev tCont : TS := fun D σ H => D.ct σ H
theorem Inv.quiet {pins : List (Addr × Obj)} {σ : St} {H : Hp} {s : Shared} (I : Inv X pins σ H s) : interactive X.env = false := by simp [interactive, I.ok.kind]
noncomputable abbrev tDrop (te : TE) : TS := fun D σ H => te σ H fun _ H1 => D.nx σ H1
theorem ps_expr (he : PE X e te) (hs : autoParam (swapsWith e none pos.line X.env = pure false) Internal.aut2._auto_1) : PS X (.Expr e pos) (tDrop te) := by
  intro pins s σ H D I h
  exact wpAny_Expr_any (thn (he pins s σ H _ I h) fun v s1 ⟨x, H1, I1, r1, q1⟩ => ⟨σ, H1, I1, q1⟩) I.quiet hs
noncomputable abbrev tRet (te : TE) : TS := fun D σ H => te σ H D.rt
theorem ps_ret (he : PE X e te) : PS X (.Return (some e) pos) (tRet te) := by
  intro pins s σ H D I h
  exact wpAny_Return_some (thn (he pins s σ H _ I h) fun v s1 ⟨x, H1, I1, r1, q1⟩ => ⟨x, σ, H1, I1, r1, q1⟩)
noncomputable abbrev tRetN : TS := fun D _ H => D.rt .non H
theorem ps_retN : PS X (.Return none pos) tRetN := fun _ _ σ H _ I h => wpAny_Return_none ⟨.non, σ, H, I, rfl, h⟩
noncomputable abbrev tIfS (c : TT) (t u : TS) : TS := fun D σ H => c σ H fun b H1 => if b = true then t D σ H1 else u D σ H1
theorem ps_if {c : Expr} {a b : List Stmt} {tc : TT} (hc : PT X c tc) (ha : PSs X a t) (hb : PSs X b u) : PS X (.If c a b pos) (tIfS tc t u) := by
  intro pins s σ H D I h
  refine wpAny_If (thn (hc pins s σ H _ I h) fun d s1 ⟨H1, I1, q1⟩ => ?_)
  cases d with
  | true => exact ha pins s1 σ H1 D I1 q1
  | false => exact hb pins s1 σ H1 D I1 q1
end

noncomputable abbrev TG := V → St → Hp → (St → Hp → Prop) → Prop
noncomputable abbrev TGs := List V → St → Hp → (St → Hp → Prop) → Prop
noncomputable def PG (X : Cx) (target : Expr) (t : TG) : Prop :=
  ∀ (pins : List (Addr × Obj)) (s : Shared) (σ : St) (H : Hp) (v : V) (u : Value) (Q : St → Hp → Prop), Inv X pins σ H s → RelV v u → t v σ H Q →
    wpAny (model X.prog X.w) X.A (assign target X.env u) (fun _ s' => ∃ σ' H', Inv X pins σ' H' s' ∧ Q σ' H') X.xe s
noncomputable def PGs (X : Cx) (ts : List Expr) (t : TGs) : Prop :=
  ∀ (pins : List (Addr × Obj)) (s : Shared) (σ : St) (H : Hp) (vs : List V) (us : List Value) (Q : St → Hp → Prop), Inv X pins σ H s → Vals vs us → t vs σ H Q →
    wpAny (model X.prog X.w) X.A (assignInOrder ((assignEach ts X.env).map (·.2)) us) (fun _ s' => ∃ σ' H', Inv X pins σ' H' s' ∧ Q σ' H') X.xe s
noncomputable abbrev TSet := V → V → V → Hp → (Hp → Prop) → Prop
noncomputable def PSet (X : Cx) (t : TSet) : Prop :=
  ∀ (pins : List (Addr × Obj)) (s : Shared) (σ : St) (H : Hp) (o i v : V) (ov iv u : Value) (Q : Hp → Prop), Inv X pins σ H s → RelV o ov → RelV i iv → RelV v u → t o i v H Q →
    wpAny (model X.prog X.w) X.A (setItem ov iv u) (fun _ s' => ∃ H', Inv X pins σ H' s' ∧ Q H') X.xe s
noncomputable abbrev TIp := V → V → Hp → VK → Prop
noncomputable def PIp (X : Cx) (op : Operator) (t : TIp) : Prop :=
  ∀ (pins : List (Addr × Obj)) (s : Shared) (σ : St) (H : Hp) (x y : V) (v u : Value) (Q : VK), Inv X pins σ H s → RelV x v → RelV y u → t x y H Q →
    wpAny (model X.prog X.w) X.A (inplaceOp op v u) (EP X pins σ Q) X.xe s
section
variable {X : Cx} {pos : Pos}
noncomputable abbrev gName (i : Nat) : TG := fun v σ H Q => Q (σ.set i (some v)) H
theorem pg_name {i : Nat} {x : Str} (hN : X.N.Nodup) (hi : X.N[i]? = some x) (hx : Loc X.env.scope x) (hf : autoParam (X.fn x = true ∨ X.env.scope.names.lookup x = some .local) Internal.aut0._auto_1) : PG X (.Name x pos) (gName i) := by
  intro pins s σ H v u Q I r h
  exact wpAny_assign_Name (store_ok I hN hi hx r (fun s' I' => ⟨_, H, I', h⟩) hf)
noncomputable def gNil : TGs := fun vs σ H Q => vs = [] ∧ Q σ H
noncomputable def gCons (t : TG) (u : TGs) : TGs := fun vs σ H Q => ∃ v r, vs = v :: r ∧ t v σ H fun σ' H' => u r σ' H' Q
theorem pgs_nil : PGs X [] gNil := by
  intro pins s σ H vs us Q I r h
  obtain ⟨e, h⟩ := h
  subst e
  cases r
  exact assignInOrder_nil ⟨σ, H, I, h⟩
theorem pgs_cons {e : Expr} {es : List Expr} {t : TG} {u : TGs} (h1 : PG X e t) (h2 : PGs X es u)
    (hs : autoParam ((assignEach (e :: es) X.env).map (·.2) = assign e X.env :: (assignEach es X.env).map (·.2)) Internal.aut2._auto_1) : PGs X (e :: es) (gCons t u) := by
  intro pins s σ H vs us Q I r h
  obtain ⟨v, vr, e1, h⟩ := h
  subst e1
  cases r with
  | cons r rr =>
    rw [hs]
    refine assignInOrder_cons (thn (h1 pins s σ H _ _ _ I r h) fun _ s1 zz => ?_)
    obtain ⟨σ1, H1, I1, q1⟩ := zz
    exact h2 pins s1 σ1 H1 _ _ Q I1 rr q1
noncomputable def gTup (K : PySem.W.Frag) (n : Nat) (t : TGs) : TG := fun v σ H Q => ∃ a xs, v = .ref a ∧ SqT K H a xs ∧ xs.length = n ∧ t xs σ H Q
theorem pg_tup {es : List Expr} {k : Nat} {t : TGs} {n : Nat} (hc : X.calm = true) (h : PGs X es t)
    (hn : autoParam ((assignEach es X.env).length = n) Internal.aut2._auto_1) (hst : autoParam ((assignEach es X.env).findIdx? (·.1) = none) Internal.aut2._auto_1) : PG X (.Tuple es k pos) (gTup X.K n t) := by
  intro pins s σ H v u Q I r hw
  obtain ⟨a, xs, e1, hq, hl, hw⟩ := hw
  subst e1
  cases r
  obtain ⟨its, rv, ht, hz⟩ := I.tuple hq
  refine assign_Tuple_tuple (I.ok.hd hc) ht (by simp [hn, ← hl, rv.length]) hst fun h' hx => ?_
  have I1 : Inv X pins σ H { s with heap := h' } := I.kept (t' := s.toks) fun b o e => hx b o (Nat.ne_of_lt (Heap.lt_size e)) e
  exact h pins _ σ H xs _ Q I1 (by simpa using rv) hw
noncomputable abbrev gSub (to ti : TE) (t : TSet) : TG := fun v σ H Q => to σ H fun o H1 => ti σ H1 fun i H2 => t o i v H2 fun H3 => Q σ H3
theorem pg_sub {o i : Expr} {to ti : TE} {t : TSet} (ho : PE X o to) (hi : PE X i ti) (hs : PSet X t)
    (ha : autoParam (∀ v, assign (.Subscript o i pos) X.env v = (do
      let ov ← holding [v] (eval o X.env)
      let iv ← holding [v, ov] (eval i X.env)
      standAt pos
      holding [v, ov, iv] (setItem ov iv v)
      release [v, ov, iv] [])) Internal.aut3._auto_1) : PG X (.Subscript o i pos) (gSub to ti t) := by
  intro pins s σ H v u Q I r h
  rw [ha]
  refine wpAny_bind (wpAny_holding (thn (ho pins s σ H _ I h) fun ov s1 zz => ?_))
  obtain ⟨x, H1, I1, r1, q1⟩ := zz
  refine wpAny_bind (wpAny_holding (thn (hi pins s1 σ H1 _ I1 q1) fun iv s2 zz => ?_))
  obtain ⟨y, H2, I2, r2, q2⟩ := zz
  refine wpAny_bind (wpAny_standAt (wpAny_bind (wpAny_holding (thn (hs pins s2 σ H2 x y v ov iv u _ I2 r1 r2 r q2) fun _ s3 ⟨H3, I3, q3⟩ => ?_))))
  exact wpAny_release ⟨σ, H3, I3, q3⟩
noncomputable abbrev tAsg (te : TE) (g : TG) : TS := fun D σ H => te σ H fun x H1 => g x σ H1 D.nx
theorem ps_asg {tg e : Expr} {te : TE} {g : TG} (he : PE X e te) (hg : PG X tg g) (hs : autoParam (swapsWithSole [tg] e pos.line X.env = pure false) Internal.aut2._auto_1) (hw : autoParam (swappedStores [tg] e X.env = pure none) Internal.aut2._auto_1)
    (h1 : autoParam ((assignEach [tg] X.env).map (·.2) = [assign tg X.env]) Internal.aut2._auto_1) : PS X (.Assign [tg] e pos) (tAsg te g) := by
  intro pins s σ H D I h
  refine wpAny_Assign_stores (thn (he pins s σ H _ I h) fun v s1 zz => ?_) hs hw
  obtain ⟨x, H1, I1, r1, q1⟩ := zz
  rw [h1]
  exact thn (hg pins s1 σ H1 x v _ I1 r1 q1) fun _ s2 q => q
theorem ps_set {i : Nat} {x : Str} {e : Expr} {te : TE} {pos' : Pos} (hN : X.N.Nodup) (hi : X.N[i]? = some x) (hx : Loc X.env.scope x) (he : PE X e te) (hs : autoParam (swapsWith e (some (.Name x pos')) pos.line X.env = pure false) Internal.aut2._auto_1) (hf : autoParam (X.fn x = true ∨ X.env.scope.names.lookup x = some .local) Internal.aut0._auto_1) :
    PS X (.Assign [.Name x pos'] e pos) (tAsg te (gName i)) := by
  intro pins s σ H D I h
  refine wpAny_Assign_Name (thn (he pins s σ H _ I h) fun v s1 zz => ?_) hs
  obtain ⟨y, H1, I1, r1, q1⟩ := zz
  exact store_ok I1 hN hi hx r1 (fun s2 I2 => ⟨_, H1, I2, q1⟩) hf
noncomputable def tAugS (to ti te : TE) (tget : V → V → Hp → VK → Prop) (tip : TIp) (tset : TSet) : TS := fun D σ H => to σ H fun o H1 => ti σ H1 fun i H2 => tget o i H2 fun x H3 => te σ H3 fun y H4 => tip x y H4 fun z H5 => tset o i z H5 fun H6 => D.nx σ H6
noncomputable def PGet (X : Cx) (t : V → V → Hp → VK → Prop) : Prop :=
  ∀ (pins : List (Addr × Obj)) (s : Shared) (σ : St) (H : Hp) (o i : V) (ov iv : Value) (Q : VK), Inv X pins σ H s → RelV o ov → RelV i iv → t o i H Q →
    wpAny (model X.prog X.w) X.A (getItem ov iv) (EP X pins σ Q) X.xe s
theorem ps_augS {o i e : Expr} {to ti te : TE} {tget : V → V → Hp → VK → Prop} {tip : TIp} {tset : TSet} {op : Operator} {tpos : Pos} (ho : PE X o to) (hi : PE X i ti) (hg : PGet X tget) (he : PE X e te) (hp : PIp X op tip) (hs : PSet X tset)
    (ha : autoParam (∀ ov iv new, augStore i ov iv new = (do holding [new, ov, iv] (setItem ov iv new); release [new, ov, iv] []; pure .next)) Internal.aut4._auto_1) : PS X (.AugAssign (.Subscript o i tpos) op e pos) (tAugS to ti te tget tip tset) := by
  intro pins s σ H D I h
  refine wpAny_AugAssign_SubscriptAny (thn (ho pins s σ H _ I h) fun ov s1 zz => ?_) ha
  obtain ⟨x1, H1, I1, r1, q1⟩ := zz
  refine thn (hi pins s1 σ H1 _ I1 q1) fun iv s2 zz => ?_
  obtain ⟨x2, H2, I2, r2, q2⟩ := zz
  refine thn (hg pins s2 σ H2 x1 x2 ov iv _ I2 r1 r2 q2) fun old s3 zz => ?_
  obtain ⟨x3, H3, I3, r3, q3⟩ := zz
  refine thn (he pins s3 σ H3 _ I3 q3) fun v s4 zz => ?_
  obtain ⟨x4, H4, I4, r4, q4⟩ := zz
  refine thn (hp pins s4 σ H4 x3 x4 old v _ I4 r3 r4 q4) fun new s5 zz => ?_
  obtain ⟨x5, H5, I5, r5, q5⟩ := zz
  exact thn (hs pins s5 σ H5 x1 x2 x5 ov iv new _ I5 r1 r2 r5 q5) fun _ s6 ⟨H6, I6, q6⟩ => ⟨σ, H6, I6, q6⟩
noncomputable def ipI (f : Int → Int → Int) : TIp := fun x y H Q => ∃ i j, x = .int i ∧ y = .int j ∧ Q (.int (f i j)) H
theorem ip_add : PIp X .Add (ipI fun i j => i + j) := by
  intro pins s σ H x y v u Q I r1 r2 h
  obtain ⟨i, j, e1, e2, q⟩ := h
  subst e1; subst e2
  obtain ⟨t, rfl⟩ := r1
  obtain ⟨t', rfl⟩ := r2
  exact iadd_int ⟨.int _, H, I.tok _, ⟨_, rfl⟩, q⟩
theorem ip_sub : PIp X .Sub (ipI fun i j => i - j) := by
  intro pins s σ H x y v u Q I r1 r2 h
  obtain ⟨i, j, e1, e2, q⟩ := h
  subst e1; subst e2
  obtain ⟨t, rfl⟩ := r1
  obtain ⟨t', rfl⟩ := r2
  exact isub_int ⟨.int _, H, I.tok _, ⟨_, rfl⟩, q⟩
end

section
variable {X : Cx} {pos : Pos}
end

set_option genInjectivity false in
set_option genSizeOf false in
structure It where
  go : Nat → Hp → Prop
  yld : Nat → Hp → V → Hp → Prop
  stop : Nat → Hp → Prop
noncomputable def FpOk (X : Cx) (pins : List (Addr × Obj)) (H : Hp) (b : Addr) : Prop :=
  H b = none ∧ b ≠ X.env.locals ∧ b ∉ X.fs ∧ (b ∈ X.ex ∨ X.s₀.heap.objs.size ≤ b) ∧ (∀ x c, X.env.cells.lookup x = some c → c ≠ b) ∧ ∀ p ∈ X.pn ++ pins, p.1 ≠ b
theorem Inv.fpOk {X : Cx} {pins : List (Addr × Obj)} {σ : St} {H H' : Hp} {s : Shared} {b : Addr} (I : Inv X pins σ H s) (hb : s.heap.objs.size ≤ b) (hn : H' b = none) : FpOk X pins H' b := by
  refine ⟨hn, Nat.ne_of_gt (Nat.lt_of_lt_of_le I.lt hb), I.nofs hb, .inr (Nat.le_trans I.sz hb), fun x c e z => ?_, fun p hp z => ?_⟩
  · obtain ⟨v, q⟩ := I.cell x c e
    exact absurd (Nat.lt_of_lt_of_le q.lt (by rw [z]; exact hb)) (Nat.lt_irrefl _)
  · exact absurd (Nat.lt_of_lt_of_le (Heap.lt_size (I.pin p hp).1) (by rw [z]; exact hb)) (Nat.lt_irrefl _)
set_option genInjectivity false in
set_option genSizeOf false in
structure Turn (P : Program) (w : World) (K : PySem.W.Frag) (tg : Expr) (J : It) (fp : List Addr) (it : Addr) (tn : Nat → Heap → Prop) : Prop where
  mem : it ∈ fp
  obj : ∀ i h, tn i h → ∀ b ∈ fp, ∃ o, h.get? b = some o ∧ ∀ v, o.data ≠ .cell v
  keep : ∀ i h h', tn i h → (∀ b ∈ fp, ∀ o, h.get? b = some o → h'.get? b = some o) → tn i h'
  item : ∀ (X : Cx), X.prog = P → X.w = w → X.K = K → X.calm = true → ∀ (i : Nat) (pins : List (Addr × Obj)) (s : Shared) (σ : St) (H : Hp) (E : Value → Shared → Prop), Inv X pins σ H s → (∀ b ∈ fp, FpOk X pins H b) → tn i s.heap → J.go i H →
    wpAny (model P w) X.A (pyNext (.ref it)) (fun r s1 => ∃ u, r = some u ∧
      wpAny (model P w) X.A (letOwnedTupleGo tg (.ref it) u) (fun _ s2 => ∃ x H', Inv X pins σ H' s2 ∧ RelV x u ∧ J.yld i H x H' ∧ tn (i + 1) s2.heap ∧ ∀ b ∈ fp, H' b = none) E s1) E s
  done : ∀ (X : Cx), X.prog = P → X.w = w → X.K = K → X.calm = true → ∀ (i : Nat) (pins : List (Addr × Obj)) (s : Shared) (σ : St) (H : Hp) (E : Value → Shared → Prop), Inv X pins σ H s → (∀ b ∈ fp, FpOk X pins H b) → tn i s.heap → J.stop i H →
    wpAny (model P w) X.A (pyNext (.ref it)) (fun r s1 => r = none ∧ Inv X pins σ H s1) E s
  self : ∀ (A : Around) (i : Nat) (s : Shared) (Q : Value → Shared → Prop) (E : Value → Shared → Prop), tn i s.heap → Q (.ref it) s → wpAny (model P w) A (pyIter (.ref it)) Q E s
noncomputable abbrev TI := St → Hp → (It → Hp → Prop) → Prop
noncomputable def PIE (X : Cx) (pins : List (Addr × Obj)) (σ : St) (tg : Expr) (R : It → Hp → Prop) (itv : Value) (s2 : Shared) : Prop :=
  ∃ (it : Addr) (fp : List Addr) (tn : Nat → Heap → Prop) (J : It) (H' : Hp), itv = .ref it ∧ Inv X pins σ H' s2 ∧ Turn X.prog X.w X.K tg J fp it tn ∧ tn 0 s2.heap ∧ (∀ b ∈ fp, FpOk X pins H' b) ∧ R J H'
noncomputable def PI (X : Cx) (tg iter : Expr) (wi : TI) : Prop :=
  ∀ (pins : List (Addr × Obj)) (s : Shared) (σ : St) (H : Hp) (R : It → Hp → Prop), Inv X pins σ H s → wi σ H R →
    wpAny (model X.prog X.w) X.A (eval iter X.env) (fun v s1 => wpAny (model X.prog X.w) X.A (pyIter v) (PIE X pins σ tg R) X.xe s1) X.xe s

theorem go_of {M : Model} {A : Around} {E : Value → Shared → Prop} {s : Shared} {tg : Expr} {it : Addr} {u : Value} {o : Obj} {n : String} {vs : Array Value} {Q : Unit → Shared → Prop} (ho : s.heap.get? it = some o) (hc : o.cls = .type n) (hd : o.data = .fields vs)
    (hn : ["enumerate", "zip", "dict_itemiterator", "dict_reverseitemiterator", "odict_iterator", "itertools.zip_longest", "itertools.pairwise"].contains n = false) (hQ : Q () s) : wpAny M A (letOwnedTupleGo tg (.ref it) u) Q E s := by
  unfold letOwnedTupleGo
  cases tg <;> first
    | exact wpAny_pure hQ
    | (cases u <;> first
        | exact wpAny_pure hQ
        | (refine wpAny_bind (wpAny_load ho ?_)
           rw [hc, hd]
           show wpAny M A (if (["enumerate", "zip", "dict_itemiterator", "dict_reverseitemiterator", "odict_iterator", "itertools.zip_longest", "itertools.pairwise"].contains n && vs[0]? == some (rawInt _)) = true then _ else _) Q E s
           rw [if_neg (by intro h; rw [hn, Bool.false_and] at h; cases h)]
           exact wpAny_pure hQ))

noncomputable def Itl (K : PySem.W.Frag) (a : Addr) : It :=
  ⟨fun i H => ∃ xs x, SqL K H a xs ∧ xs[i]? = some x, fun i H x H' => H' = H ∧ ∀ xs, SqL K H a xs → xs[i]? = some x, fun i H => ∃ xs, SqL K H a xs ∧ xs.length ≤ i⟩
noncomputable def Itt (K : PySem.W.Frag) (a : Addr) : It :=
  ⟨fun i H => ∃ xs x, SqT K H a xs ∧ xs[i]? = some x, fun i H x H' => H' = H ∧ ∀ xs, SqT K H a xs → xs[i]? = some x, fun i H => ∃ xs, SqT K H a xs ∧ xs.length ≤ i⟩
noncomputable def Itr (lo : Int) (n : Nat) : It := ⟨fun i _ => i < n, fun i H x H' => H' = H ∧ x = .int (lo + i), fun i _ => n ≤ i⟩
theorem turn_list {P : Program} {w : World} {K : PySem.W.Frag} {tg : Expr} (a it : Addr) : Turn P w K tg (Itl K a) [it] it (fun i h => h.IsListIter it a i) where
  mem := by simp
  obj := fun i h st b hb => by
    have e : b = it := by simpa using hb
    subst e
    obtain ⟨o, e, c, d⟩ := st
    exact ⟨o, e, fun v z => by rw [d] at z; cases z⟩
  keep := fun i h h' st k => st.at fun o e => k it (by simp) o e
  item := by
    intro X hP hw hK hc i pins s σ H E I hf st hg
    subst hP hw hK
    obtain ⟨xs, x, hq, hx⟩ := hg
    obtain ⟨its, rv, p, hz⟩ := I.list hq
    obtain ⟨u, hu, ru⟩ := rv.get hx
    obtain ⟨f0, f1, f2, f3, f4, f5⟩ := hf it (by simp)
    refine wpAny_pyNext_list_item st p.isList (x := u) (by simpa using hu) fun h' st' sb => ?_
    have I1 : Inv X pins σ H { s with heap := h' } := I.turned (t' := s.toks) (fun b o hb e => (sb.2 b hb).trans e) f0 f1 f3 f4 f5
    obtain ⟨o, e, c, d⟩ := id st'
    exact ⟨u, rfl, go_of (s := { s with heap := h' }) e c d (by decide) ⟨x, H, I1, ru, ⟨rfl, fun ys hy => by rw [I.list_inj hy hq]; exact hx⟩, st', fun b hb => (hf b hb).1⟩⟩
  done := by
    intro X hP hw hK hc i pins s σ H E I hf st hg
    subst hP hw hK
    obtain ⟨xs, hq, hx⟩ := hg
    obtain ⟨its, rv, p, hz⟩ := I.list hq
    obtain ⟨f0, f1, f2, f3, f4, f5⟩ := hf it (by simp)
    have hl := rv.length
    exact wpAny_pyNext_list_end (I.ok.hd hc) st p.isList (by simp; omega) fun h' eb => ⟨rfl, I.turned (t' := s.toks) (fun b o hb e => eb b o hb e) f0 f1 f3 f4 f5⟩
  self := fun _ _ _ _ _ st h => wpAny_pyIter_listiter st h
theorem turn_tuple {P : Program} {w : World} {K : PySem.W.Frag} {tg : Expr} (a it : Addr) : Turn P w K tg (Itt K a) [it] it (fun i h => h.IsTupleIter it a i) where
  mem := by simp
  obj := fun i h st b hb => by
    have e : b = it := by simpa using hb
    subst e
    obtain ⟨o, e, c, d⟩ := st
    exact ⟨o, e, fun v z => by rw [d] at z; cases z⟩
  keep := fun i h h' st k => st.at fun o e => k it (by simp) o e
  item := by
    intro X hP hw hK hc i pins s σ H E I hf st hg
    subst hP hw hK
    obtain ⟨xs, x, hq, hx⟩ := hg
    obtain ⟨its, rv, p, hz⟩ := I.tuple hq
    obtain ⟨u, hu, ru⟩ := rv.get hx
    obtain ⟨f0, f1, f2, f3, f4, f5⟩ := hf it (by simp)
    refine wpAny_pyNext_tuple_item st (show s.heap.IsTuple a its.toArray from p) (x := u) (by simpa using hu) fun h' st' sb => ?_
    have I1 : Inv X pins σ H { s with heap := h' } := I.turned (t' := s.toks) (fun b o hb e => (sb.2 b hb).trans e) f0 f1 f3 f4 f5
    obtain ⟨o, e, c, d⟩ := id st'
    exact ⟨u, rfl, go_of (s := { s with heap := h' }) e c d (by decide) ⟨x, H, I1, ru, ⟨rfl, fun ys hy => by rw [I.tuple_inj hy hq]; exact hx⟩, st', fun b hb => (hf b hb).1⟩⟩
  done := by
    intro X hP hw hK hc i pins s σ H E I hf st hg
    subst hP hw hK
    obtain ⟨xs, hq, hx⟩ := hg
    obtain ⟨its, rv, p, hz⟩ := I.tuple hq
    obtain ⟨f0, f1, f2, f3, f4, f5⟩ := hf it (by simp)
    have hl := rv.length
    exact wpAny_pyNext_tuple_end (I.ok.hd hc) st (show s.heap.IsTuple a its.toArray from p) (by simp; omega) fun h' eb => ⟨rfl, I.turned (t' := s.toks) (fun b o hb e => eb b o hb e) f0 f1 f3 f4 f5⟩
  self := fun _ _ _ _ _ st h => wpAny_pyIter_tupleiter st h
theorem turn_range {P : Program} {w : World} {K : PySem.W.Frag} {tg : Expr} (it : Addr) (lo : Int) (n : Nat) : Turn P w K tg (Itr lo n) [it] it (fun i h => IsRangeIter h it (lo + (i : Nat) * 1) ((n : Int) - (i : Nat)) 1) where
  mem := by simp
  obj := fun i h st b hb => by
    have e : b = it := by simpa using hb
    subst e
    exact ⟨_, st, fun v z => by
      have z' : Data.fields _ = Data.cell v := z
      cases z'⟩
  keep := fun i h h' st k => k it (by simp) _ st
  item := by
    intro X hP hw hK hc i pins s σ H E I hf st hg
    subst hP hw hK
    obtain ⟨f0, f1, f2, f3, f4, f5⟩ := hf it (by simp)
    have W := Walks.range (prog := X.prog) (w := X.w) (I.ok.hd hc) it lo 1 n
    refine W.item i s _ _ hg st fun v h' tk hv st' kk => ?_
    obtain ⟨t, rfl⟩ := hv
    have I1 : Inv X pins σ H { s with heap := h', toks := tk } := I.turned (fun b o hb e => kk b o (by simpa using hb) e) f0 f1 f3 f4 f5
    refine ⟨_, rfl, go_of (s := { s with heap := h', toks := tk }) (n := "range_iterator") st' rfl rfl (by decide) ⟨.int (lo + i), H, I1, ⟨t, ?_⟩, ⟨rfl, rfl⟩, st', fun b hb => (hf b hb).1⟩⟩
    rw [Int.mul_one]
  done := by
    intro X hP hw hK hc i pins s σ H E I hf st hg
    subst hP hw hK
    obtain ⟨f0, f1, f2, f3, f4, f5⟩ := hf it (by simp)
    exact wpAny_pyNext_range_end (I.ok.hd hc) st (by have : n ≤ i := hg; omega) fun h' eb => ⟨rfl, I.turned (t' := s.toks) (fun b o hb e => eb b o hb e) f0 f1 f3 f4 f5⟩
  self := fun _ _ _ _ _ st h => wpAny_pyIter_rangeiter st h
end Internal

namespace Internal
open PySem PySem.Spec PyProof.Rows
section
variable {X : Cx} {tg : Expr}
noncomputable def iList (K : PySem.W.Frag) (tl : TE) : TI := fun σ H R => tl σ H fun x H1 => ∃ a, x = .ref a ∧ (∃ xs, SqL K H1 a xs) ∧ R (Itl K a) H1
noncomputable def iTup (K : PySem.W.Frag) (tl : TE) : TI := fun σ H R => tl σ H fun x H1 => ∃ a, x = .ref a ∧ (∃ xs, SqT K H1 a xs) ∧ R (Itt K a) H1
theorem pi_list {l : Expr} {tl : TE} (hl : PE X l tl) : PI X tg l (iList X.K tl) := by
  intro pins s σ H R I h
  refine thn (hl pins s σ H _ I h) fun v s1 zz => ?_
  obtain ⟨x, H1, I1, r1, q1⟩ := zz
  obtain ⟨a, e, ⟨xs, hq⟩, q⟩ := q1
  subst e
  cases r1
  obtain ⟨its, rv, p, hz⟩ := I1.list hq
  refine wpAny_pyIter_list p.isList ?_
  refine ⟨s1.heap.objs.size, [s1.heap.objs.size], _, _, H1, rfl, I1.kept (t' := s1.toks) fun b o e => Heap.get?_push_of_some _ e, turn_list a _, ⟨_, Heap.get?_push_size _ rfl, rfl, rfl⟩, fun b hb => ?_, q⟩
  have e : b = s1.heap.objs.size := by simpa using hb
  subst e
  exact I1.fpOk (Nat.le_refl _) (I1.hok.fresh (Nat.le_refl _))
theorem pi_tup {l : Expr} {tl : TE} (hl : PE X l tl) : PI X tg l (iTup X.K tl) := by
  intro pins s σ H R I h
  refine thn (hl pins s σ H _ I h) fun v s1 zz => ?_
  obtain ⟨x, H1, I1, r1, q1⟩ := zz
  obtain ⟨a, e, ⟨xs, hq⟩, q⟩ := q1
  subst e
  cases r1
  obtain ⟨its, rv, p, hz⟩ := I1.tuple hq
  refine wpAny_pyIter_tuple (show s1.heap.IsTuple a its.toArray from p) ?_
  refine ⟨s1.heap.objs.size, [s1.heap.objs.size], _, _, H1, rfl, I1.kept (t' := s1.toks) fun b o e => Heap.get?_push_of_some _ e, turn_tuple a _, ⟨_, Heap.get?_push_size _ rfl, rfl, rfl⟩, fun b hb => ?_, q⟩
  have e : b = s1.heap.objs.size := by simpa using hb
  subst e
  exact I1.fpOk (Nat.le_refl _) (I1.hok.fresh (Nat.le_refl _))
theorem range_it {pins : List (Addr × Obj)} {σ : St} {H : Hp} {s : Shared} {R : It → Hp → Prop} {E : Value → Shared → Prop} {lo hi : Int} {t u v : Tok} {tk : Nat} (I : Inv X pins σ H s) (h1 : -(2 ^ 62) ≤ lo) (h2 : lo < 2 ^ 62) (h3 : -(2 ^ 62) ≤ hi) (h4 : hi < 2 ^ 62)
    (q : R (Itr lo (hi - lo).toNat) H) : wpAny (model X.prog X.w) X.A (pyIter (.ref s.heap.objs.size)) (PIE X pins σ tg R) E { s with heap := s.heap.push { cls := .type "range", data := .fields #[.int lo t, .int hi u, .int 1 v] }, toks := tk } := by
  refine wpAny_pyIter_range (IsRange.new ..) (small_one h1 h2 h3 h4) ?_
  have I1 : Inv X pins σ H { s with heap := s.heap.push { cls := .type "range", data := .fields #[.int lo t, .int hi u, .int 1 v] }, toks := tk } := I.kept fun b o e => Heap.get?_push_of_some _ e
  refine ⟨(s.heap.push { cls := .type "range", data := .fields #[.int lo t, .int hi u, .int 1 v] }).objs.size, [(s.heap.push { cls := .type "range", data := .fields #[.int lo t, .int hi u, .int 1 v] }).objs.size], _, _, H, rfl,
    I1.kept (t' := tk) fun b o e => Heap.get?_push_of_some _ e, turn_range _ lo (hi - lo).toNat, ?_, fun b hb => ?_, q⟩
  · have e1 : lo + ((0 : Nat) : Int) * 1 = lo := by simp
    have e2 : (((hi - lo).toNat : Nat) : Int) - ((0 : Nat) : Int) = Builtin.Range.rangeSize lo hi 1 := by rw [rangeSize_one]; split <;> omega
    show IsRangeIter _ _ (lo + ((0 : Nat) : Int) * 1) ((((hi - lo).toNat : Nat) : Int) - ((0 : Nat) : Int)) 1
    rw [e1, e2]
    exact Heap.get?_push_size _ rfl
  · have e : b = (s.heap.push { cls := .type "range", data := .fields #[.int lo t, .int hi u, .int 1 v] }).objs.size := by simpa using hb
    subst e
    exact I1.fpOk (Nat.le_refl _) (I1.hok.fresh (Nat.le_refl _))
noncomputable def iRng1 (ta : TA) : TI := fun σ H R => ta σ H fun vs H1 => ∃ j : Int, vs = [.int j] ∧ -(2 ^ 62) ≤ j ∧ j < 2 ^ 62 ∧ R (Itr 0 j.toNat) H1
theorem pi_range1 {a : Expr} {ta : TA} {p pos : Pos} (hg : Gl X "range") (hm : X.mg "range" = none) (ha : PA X [a] ta) (hs : autoParam (starEach [a] X.env = [(false, eval a X.env)]) Internal.aut2._auto_1) : PI X tg (.Call (.Name "range" p) [a] [] pos) (iRng1 ta) := by
  intro pins s σ H R I h
  refine Call_ (ld_blt I hg hm boot_range (PyProof.Rows.callWith_type1 (thn (ha pos pins s σ H _ I h) fun us s1 ⟨vs, H1, I1, r1, q1⟩ => ?_) hs rfl))
  obtain ⟨j, e, q1, q2, q⟩ := q1
  subst e
  cases r1 with
  | cons r rr =>
    cases rr
    obtain ⟨t, rfl⟩ := r
    exact call_range_1 (range_it I1 (by omega) (by omega) q1 q2 (by simpa using q))
noncomputable def tFor (wi : TI) (g : TG) (tb : TS) : TS := fun D σ H => wi σ H fun J H1 => ∃ W : Nat → Nat → St → Hp → Prop, (∃ m, W 0 m σ H1) ∧ ∀ i m σ H, W i m σ H →
  (J.stop i H ∧ D.nx σ H) ∨ (J.go i H ∧ ∃ N : St → Hp → Prop, (∀ σ' H', N σ' H' → ∃ m', m' < m ∧ W (i + 1) m' σ' H') ∧ ∀ x H', J.yld i H x H' → g x σ H' fun σ2 H2 => tb { D with nx := N, ct := N, bk := D.nx } σ2 H2)
noncomputable def pinsAt (fp : List Addr) (h : Heap) : List (Addr × Obj) := fp.filterMap fun b => (h.get? b).map fun o => (b, o)
theorem mem_pinsAt {fp : List Addr} {h : Heap} {b : Addr} {o : Obj} (hb : b ∈ fp) (e : h.get? b = some o) : (b, o) ∈ pinsAt fp h := List.mem_filterMap.mpr ⟨b, hb, by rw [e]; rfl⟩
theorem of_pinsAt {fp : List Addr} {h : Heap} {p : Addr × Obj} (hp : p ∈ pinsAt fp h) : p.1 ∈ fp ∧ h.get? p.1 = some p.2 := by
  obtain ⟨b, hb, e⟩ := List.mem_filterMap.mp hp
  cases q : h.get? b with
  | none => rw [q] at e; cases e
  | some o =>
    rw [q] at e
    have e' : (b, o) = p := Option.some.inj e
    subst e'
    exact ⟨hb, q⟩
theorem Inv.pinned {pins : List (Addr × Obj)} {σ : St} {H : Hp} {s : Shared} {fp : List Addr} (I : Inv X pins σ H s) (hf : ∀ b ∈ fp, FpOk X pins H b) (ho : ∀ b ∈ fp, ∃ o, s.heap.get? b = some o ∧ ∀ v, o.data ≠ .cell v) : Inv X (pins ++ pinsAt fp s.heap) σ H s :=
  I.pins_of fun p hp => (List.mem_append.mp hp).elim (fun z => I.pin p (List.mem_append_right _ z)) fun z => by
    obtain ⟨hb, e⟩ := of_pinsAt z
    obtain ⟨f0, f1, f2, _⟩ := hf p.1 hb
    obtain ⟨o, e', d⟩ := ho p.1 hb
    rw [e] at e'; cases e'
    exact ⟨e, f0, f1, f2, d⟩
theorem Inv.unpinned {pins pl : List (Addr × Obj)} {σ : St} {H : Hp} {s : Shared} (I : Inv X (pins ++ pl) σ H s) : Inv X pins σ H s := I.pins_of fun p hp => I.pin p (List.mem_append_right _ (List.mem_append_left _ hp))
theorem ps_for {iter : Expr} {body : List Stmt} {wi : TI} {g : TG} {tb : TS} {pos : Pos} (hp : PassesOwn (model X.prog X.w) X.A X.env X.xe) (hc : X.calm = true) (hi : PI X tg iter wi) (hg : PG X tg g) (hb : PSs X body tb)
    (hs : autoParam (∀ x, foldedSetIterable iter X.env x = pure x) Internal.aut3._auto_1) : PS X (.For tg iter body [] pos) (tFor wi g tb) := by
  intro pins s σ H D I h
  refine wpAny_For (thn (hi pins s σ H _ I h) fun v s1 h1 => thn h1 fun itv s2 h2 => ?_) hs
  obtain ⟨it, fp, tn, J, H2, e, I2, T, st2, f2, W, ⟨m0, w0⟩, turn⟩ := h2
  subst e
  -- what stays true of the iterator's objects through the loop
  have stat : ∀ {H' : Hp}, (∀ b ∈ fp, H' b = none) → ∀ b ∈ fp, FpOk X pins H' b := fun hn b hb => ⟨hn b hb, (f2 b hb).2⟩
  refine codeAny_forLoop_any (fun n s' => ∃ i σ' H', Inv X pins σ' H' s' ∧ tn i s'.heap ∧ (∀ b ∈ fp, H' b = none) ∧ W i n σ' H') ?_ m0 ⟨0, σ, H2, I2, st2, fun b hb => (f2 b hb).1, w0⟩
  rintro n s3 ⟨i, σ3, H3, I3, st3, fr3, w3⟩
  rcases turn i n σ3 H3 w3 with ⟨stop, qn⟩ | ⟨go, N, hN, step⟩
  · refine wpAny_passesOwn hp (thn (T.done X rfl rfl rfl hc i pins s3 σ3 H3 X.xe I3 (stat fr3) st3 stop) fun r s4 ⟨hr, I4⟩ => ?_)
    subst hr
    exact wpAny_execs_nil ⟨σ3, H3, I4, qn⟩
  · refine wpAny_passesOwn hp (thn (T.item X rfl rfl rfl hc i pins s3 σ3 H3 X.xe I3 (stat fr3) st3 go) fun r s4 ⟨u, hr, h4⟩ => ?_)
    subst hr
    refine wpAny_passesOwn hp (thn h4 fun _ s5 zz => ?_)
    obtain ⟨x, H5, I5, r5, y5, st5, fr5⟩ := zz
    have I5' := I5.pinned (stat fr5) (T.obj _ _ st5)
    refine wpAny_passesOwn hp (thn (hg _ s5 σ3 H5 x u _ I5' r5 (step x H5 y5)) fun _ s6 zz => ?_)
    obtain ⟨σ6, H6, I6, q6⟩ := zz
    refine wpAny_passesOwn hp (thn (hb _ s6 σ6 H6 _ I6 q6) fun f s7 q7 => ?_)
    have again : ∀ {σ7 : St} {H7 : Hp}, Inv X (pins ++ pinsAt fp s5.heap) σ7 H7 s7 → N σ7 H7 → ∃ m, m < n ∧ ∃ i σ' H', Inv X pins σ' H' s7 ∧ tn i s7.heap ∧ (∀ b ∈ fp, H' b = none) ∧ W i m σ' H' := fun {σ7 H7} I7 n7 => by
      obtain ⟨m', hm, w7⟩ := hN σ7 H7 n7
      refine ⟨m', hm, i + 1, σ7, H7, I7.unpinned, T.keep _ _ _ st5 fun b hb o e => (I7.pin (b, o) (List.mem_append_right _ (List.mem_append_right _ (mem_pinsAt hb e)))).1, fun b hb => ?_, w7⟩
      obtain ⟨o, e, d⟩ := T.obj _ _ st5 b hb
      exact (I7.pin (b, o) (List.mem_append_right _ (List.mem_append_right _ (mem_pinsAt hb e)))).2.1
    cases f with
    | next => obtain ⟨σ7, H7, I7, n7⟩ := q7; exact again I7 n7
    | cont => obtain ⟨σ7, H7, I7, n7⟩ := q7; exact again I7 n7
    | brk => obtain ⟨σ7, H7, I7, q7⟩ := q7; exact ⟨σ7, H7, I7.unpinned, q7⟩
    | ret v => obtain ⟨x7, σ7, H7, I7, r7, q7⟩ := q7; exact ⟨x7, σ7, H7, I7.unpinned, r7, q7⟩
end

theorem for_list {K : PySem.W.Frag} {a : Addr} {xs : List V} {g : TG} {tb : TS} {D : Ends} {σ : St} {H : Hp} (Pv : Nat → St → Hp → Prop) (h0 : Pv 0 σ H) (hl : ∀ i σ H, i ≤ xs.length → Pv i σ H → SqL K H a xs)
    (hs : ∀ i x σ H, xs[i]? = some x → Pv i σ H → g x σ H fun σ2 H2 => tb { D with nx := Pv (i + 1), ct := Pv (i + 1), bk := D.nx } σ2 H2) (hd : ∀ σ H, Pv xs.length σ H → D.nx σ H) :
    ∃ W : Nat → Nat → St → Hp → Prop, (∃ m, W 0 m σ H) ∧ ∀ i m σ H, W i m σ H →
      ((Itl K a).stop i H ∧ D.nx σ H) ∨ ((Itl K a).go i H ∧ ∃ N : St → Hp → Prop, (∀ σ' H', N σ' H' → ∃ m', m' < m ∧ W (i + 1) m' σ' H') ∧ ∀ x H', (Itl K a).yld i H x H' → g x σ H' fun σ2 H2 => tb { D with nx := N, ct := N, bk := D.nx } σ2 H2) := by
  refine ⟨fun i m σ H => m = xs.length - i ∧ i ≤ xs.length ∧ Pv i σ H, ⟨xs.length, by simp, Nat.zero_le _, h0⟩, ?_⟩
  rintro i m σ H ⟨rfl, hi, p⟩
  have q := hl i σ H hi p
  by_cases hlt : i < xs.length
  · refine .inr ⟨⟨xs, xs[i], q, by simp [hlt]⟩, Pv (i + 1), fun σ' H' p' => ⟨xs.length - (i + 1), by omega, rfl, hlt, p'⟩, fun x H' y => ?_⟩
    obtain ⟨e, y⟩ := y
    subst e
    exact hs i x σ _ (y xs q) p
  · have e : i = xs.length := by omega
    subst e
    exact .inl ⟨⟨xs, q, Nat.le_refl _⟩, hd σ H p⟩
theorem for_range {lo : Int} {n : Nat} {g : TG} {tb : TS} {D : Ends} {σ : St} {H : Hp} (Pv : Nat → St → Hp → Prop) (h0 : Pv 0 σ H)
    (hs : ∀ i σ H, i < n → Pv i σ H → g (.int (lo + i)) σ H fun σ2 H2 => tb { D with nx := Pv (i + 1), ct := Pv (i + 1), bk := D.nx } σ2 H2) (hd : ∀ σ H, Pv n σ H → D.nx σ H) :
    ∃ W : Nat → Nat → St → Hp → Prop, (∃ m, W 0 m σ H) ∧ ∀ i m σ H, W i m σ H →
      ((Itr lo n).stop i H ∧ D.nx σ H) ∨ ((Itr lo n).go i H ∧ ∃ N : St → Hp → Prop, (∀ σ' H', N σ' H' → ∃ m', m' < m ∧ W (i + 1) m' σ' H') ∧ ∀ x H', (Itr lo n).yld i H x H' → g x σ H' fun σ2 H2 => tb { D with nx := N, ct := N, bk := D.nx } σ2 H2) := by
  refine ⟨fun i m σ H => m = n - i ∧ i ≤ n ∧ Pv i σ H, ⟨n, by simp, Nat.zero_le _, h0⟩, ?_⟩
  rintro i m σ H ⟨rfl, hi, p⟩
  by_cases hlt : i < n
  · refine .inr ⟨hlt, Pv (i + 1), fun σ' H' p' => ⟨n - (i + 1), by omega, rfl, hlt, p'⟩, fun x H' y => ?_⟩
    obtain ⟨e, y⟩ := y
    subst e y
    exact hs i σ _ hlt p
  · have e : i = n := by omega
    subst e
    exact .inl ⟨Nat.le_refl _, hd σ H p⟩
end Internal

namespace Internal
open PySem PySem.Spec PyProof.Rows

noncomputable abbrev R2 := V → V → Hp → VK → Prop
noncomputable def OpR (X : Cx) (f : Value → Value → Sem Value) (r : R2) : Prop :=
  ∀ (pins : List (Addr × Obj)) (s : Shared) (σ : St) (H : Hp) (x y : V) (v u : Value) (Q : VK), Inv X pins σ H s → RelV x v → RelV y u → r x y H Q →
    wpAny (model X.prog X.w) X.A (f v u) (EP X pins σ Q) X.xe s
noncomputable def UnR (X : Cx) (f : Value → Sem Value) (r : V → Hp → VK → Prop) : Prop :=
  ∀ (pins : List (Addr × Obj)) (s : Shared) (σ : St) (H : Hp) (x : V) (v : Value) (Q : VK), Inv X pins σ H s → RelV x v → r x H Q →
    wpAny (model X.prog X.w) X.A (f v) (EP X pins σ Q) X.xe s
noncomputable def CallR (X : Cx) (f : Value) (r : List V → Hp → VK → Prop) : Prop :=
  ∀ (pins : List (Addr × Obj)) (s : Shared) (σ : St) (H : Hp) (xs : List V) (us : List Value) (Q : VK), Inv X pins σ H s → Vals xs us → r xs H Q →
    wpAny (model X.prog X.w) X.A (call f us) (EP X pins σ Q) X.xe s
noncomputable def TruR (X : Cx) (r : V → Hp → (Bool → Hp → Prop) → Prop) : Prop :=
  ∀ (pins : List (Addr × Obj)) (s : Shared) (σ : St) (H : Hp) (x : V) (v : Value) (Q : Bool → Hp → Prop), Inv X pins σ H s → RelV x v → r x H Q →
    wpAny (model X.prog X.w) X.A (truthy v) (TP X pins σ Q) X.xe s

noncomputable abbrev tOp (r : R2) (ta tb : TE) : TE := fun σ H Q => ta σ H fun x H1 => tb σ H1 fun y H2 => r x y H2 Q
noncomputable abbrev tUn (r : V → Hp → VK → Prop) (ta : TE) : TE := fun σ H Q => ta σ H fun x H1 => r x H1 Q
noncomputable def rI (C : Int → Int → Prop) (g : Int → Int → V) : R2 := fun x y H Q => ∃ i j, x = .int i ∧ y = .int j ∧ C i j ∧ Q (g i j) H
noncomputable def rI0 (g : Int → Int → V) : R2 := fun x y H Q => ∃ i j, x = .int i ∧ y = .int j ∧ Q (g i j) H
noncomputable def rU (g : Int → V) : V → Hp → VK → Prop := fun x H Q => ∃ i, x = .int i ∧ Q (g i) H

section
variable {X : Cx} {a b c : Expr} {ta tb tc : TE} {pos : Pos}

theorem binT (ha : PE X a ta) (hb : PE X b tb) {pins : List (Addr × Obj)} {s : Shared} {σ : St} {H : Hp} {R : V → V → Hp → Prop} (I : Inv X pins σ H s)
    (h : ta σ H fun x H1 => tb σ H1 fun y H2 => R x y H2) {Q : Value → Shared → Prop} {f : Value → Value → Sem Value}
    (hf : ∀ v u s2 x y H2, Inv X pins σ H2 s2 → RelV x v → RelV y u → R x y H2 → wpAny (model X.prog X.w) X.A (f v u) Q X.xe s2) :
    wpAny (model X.prog X.w) X.A (eval a X.env) (fun v s₁ => wpAny (model X.prog X.w) X.A (eval b X.env) (fun u s₂ => wpAny (model X.prog X.w) X.A (f v u) Q X.xe s₂) X.xe s₁) X.xe s := by
  refine thn (ha pins s σ H _ I h) fun v s1 zz => ?_
  obtain ⟨x, H1, I1, r1, q1⟩ := zz
  refine thn (hb pins s1 σ H1 _ I1 q1) fun u s2 zz => ?_
  obtain ⟨y, H2, I2, r2, q2⟩ := zz
  exact hf v u s2 x y H2 I2 r1 r2 q2

theorem pe_op {op : Operator} {r : R2} (ho : OpR X (binaryOp op) r) (ha : PE X a ta) (hb : PE X b tb) : PE X (.BinOp a op b pos) (tOp r ta tb) := by
  intro pins s σ H Q I h
  exact wpAny_BinOp (binT ha hb I h fun v u s2 x y H2 I2 rx ry q => ho pins s2 σ H2 x y v u Q I2 rx ry q)
theorem pe_un {op : UnaryOp} {r : V → Hp → VK → Prop} (ho : UnR X (unaryOp op) r) (ha : PE X a ta) : PE X (.UnaryOp op a pos) (tUn r ta) := by
  intro pins s σ H Q I h
  exact UnaryOp_ (thn (ha pins s σ H _ I h) fun v s1 ⟨x, H1, I1, r1, q1⟩ => ho pins s1 σ H1 x v Q I1 r1 q1)
theorem opI {f : Value → Value → Sem Value} {C : Int → Int → Prop} {g : Int → Int → Int}
    (rule : ∀ (i j : Int) (t u : Tok) (s : Shared) (Q : Value → Shared → Prop) (E : Value → Shared → Prop), C i j → Q (.int (g i j) s.toks) { s with toks := s.toks + 1 } → wpAny (model X.prog X.w) X.A (f (.int i t) (.int j u)) Q E s) :
    OpR X f (rI C fun i j => .int (g i j)) := by
  intro pins s σ H x y v u Q I rx ry h
  obtain ⟨i, j, rfl, rfl, hc, q⟩ := h
  obtain ⟨t, rfl⟩ := rx
  obtain ⟨t', rfl⟩ := ry
  exact rule i j t t' s _ _ hc ⟨.int (g i j), H, I.tok _, ⟨_, rfl⟩, q⟩
theorem opI0 {f : Value → Value → Sem Value} {g : Int → Int → Int}
    (rule : ∀ (i j : Int) (t u : Tok) (s : Shared) (Q : Value → Shared → Prop) (E : Value → Shared → Prop), Q (.int (g i j) s.toks) { s with toks := s.toks + 1 } → wpAny (model X.prog X.w) X.A (f (.int i t) (.int j u)) Q E s) :
    OpR X f (rI0 fun i j => .int (g i j)) := by
  intro pins s σ H x y v u Q I rx ry h
  obtain ⟨i, j, rfl, rfl, q⟩ := h
  obtain ⟨t, rfl⟩ := rx
  obtain ⟨t', rfl⟩ := ry
  exact rule i j t t' s _ _ ⟨.int (g i j), H, I.tok _, ⟨_, rfl⟩, q⟩
theorem opB0 {f : Value → Value → Sem Value} {g : Int → Int → Bool}
    (rule : ∀ (i j : Int) (t u : Tok) (s : Shared) (Q : Value → Shared → Prop) (E : Value → Shared → Prop), Q (.bool (g i j)) s → wpAny (model X.prog X.w) X.A (f (.int i t) (.int j u)) Q E s) :
    OpR X f (rI0 fun i j => .bl (g i j)) := by
  intro pins s σ H x y v u Q I rx ry h
  obtain ⟨i, j, rfl, rfl, q⟩ := h
  obtain ⟨t, rfl⟩ := rx
  obtain ⟨t', rfl⟩ := ry
  exact rule i j t t' s _ _ ⟨.bl (g i j), H, I, rfl, q⟩

noncomputable def CPow (i j : Int) : Prop := 0 ≤ j ∧ j ≤ 1000000 ∧ i.natAbs < 2 ^ 64
theorem op_add : OpR X (binaryOp .Add) (rI0 fun i j => .int (i + j)) := opI0 fun _ _ _ _ _ _ _ q => add_int q
theorem op_sub : OpR X (binaryOp .Sub) (rI0 fun i j => .int (i - j)) := opI0 fun _ _ _ _ _ _ _ q => sub_int q
theorem op_modN : OpR X (binaryOp .Mod) (rI (fun _ j => j ≠ 0) fun i j => .int (i.fmod j)) := opI fun _ _ _ _ _ _ _ hc q => mod_int' hc q
theorem op_pow : OpR X (binaryOp .Pow) (rI CPow fun i j => .int (i ^ j.toNat)) := opI fun _ _ _ _ _ _ _ hc q => pow_int_small hc.1 hc.2.1 hc.2.2 q
theorem unI {f : Value → Sem Value} {g : Int → Int}
    (rule : ∀ (i : Int) (t : Tok) (s : Shared) (Q : Value → Shared → Prop) (E : Value → Shared → Prop), Q (.int (g i) s.toks) { s with toks := s.toks + 1 } → wpAny (model X.prog X.w) X.A (f (.int i t)) Q E s) :
    UnR X f (rU fun i => .int (g i)) := by
  intro pins s σ H x v Q I rx h
  obtain ⟨i, rfl, q⟩ := h
  obtain ⟨t, rfl⟩ := rx
  exact rule i t s _ _ ⟨.int (g i), H, I.tok _, ⟨_, rfl⟩, q⟩
theorem un_neg : UnR X (unaryOp .USub) (rU fun i => .int (-i)) := unI fun _ _ _ _ _ q => neg_int q
end

noncomputable def scal : V → V → Bool
  | .non, .non => true | .non, .int _ => true | .int _, .non => true | .non, .bl _ => true | .bl _, .non => true | .non, .str _ => true | .str _, .non => true
  | .int _, .int _ => true | .bl _, .bl _ => true | .str _, .str _ => true | .byt _, .byt _ => true
  | .int _, .str _ => true | .str _, .int _ => true | .bl _, .str _ => true | .str _, .bl _ => true
  | _, _ => false
noncomputable def rEq : R2 := fun x y H Q => scal x y = true ∧ Q (.bl (decide (x = y))) H
noncomputable def rNe : R2 := fun x y H Q => scal x y = true ∧ Q (.bl (!decide (x = y))) H

theorem dec_int {i j : Int} : decide (V.int i = V.int j) = (i == j) := by
  rw [Bool.eq_iff_iff]
  simp
theorem dec_bl {i j : Bool} : decide (V.bl i = V.bl j) = (i == j) := by
  rw [Bool.eq_iff_iff]
  simp
theorem dec_str {i j : Str} : decide (V.str i = V.str j) = (i == j) := by
  rw [Bool.eq_iff_iff]
  simp
theorem dec_byt {i j : Array UInt8} : decide (V.byt i = V.byt j) = (i.toList == j.toList) := by
  rw [Bool.eq_iff_iff]
  cases i
  cases j
  simp

section
variable {X : Cx} {a b c : Expr} {ta tb tc : TE} {pos : Pos}
theorem fin_bl {pins : List (Addr × Obj)} {σ : St} {H : Hp} {s : Shared} {Q : VK} {k k' : Bool} (I : Inv X pins σ H s) (q : Q (.bl k) H) (e : k = k') : EP X pins σ Q (.bool k') s := by
  subst e
  exact ⟨.bl k, H, I, rfl, q⟩
theorem op_eq : OpR X (compareOp .Eq) rEq := by
  intro pins s σ H x y v u Q I rx ry h
  obtain ⟨hs, q⟩ := h
  cases x with
  | non =>
    cases rx
    cases y with
    | non => cases ry; exact PySem.EqNone.eq_none_none (fin_bl I q (by simp))
    | bl j => cases ry; exact PySem.EqNone.eq_none_bool (fin_bl I q (by simp))
    | int j => obtain ⟨t', rfl⟩ := ry; exact PySem.EqNone.eq_none_int (fin_bl I q (by simp))
    | str j => obtain ⟨t', rfl⟩ := ry; exact PySem.EqNone.eq_none_str (fin_bl I q (by simp))
    | _ => exact absurd (show false = true from hs) Bool.false_ne_true
  | bl i =>
    cases rx
    cases y with
    | non => cases ry; exact PySem.EqNone.eq_bool_none (fin_bl I q (by simp))
    | bl j => cases ry; exact eq_bool (fin_bl I q dec_bl)
    | str j => obtain ⟨t', rfl⟩ := ry; exact PySem.EqMixed.eq_bool_str (fin_bl I q (by simp))
    | _ => exact absurd (show false = true from hs) Bool.false_ne_true
  | int i =>
    obtain ⟨t, rfl⟩ := rx
    cases y with
    | non => cases ry; exact PySem.EqNone.eq_int_none (fin_bl I q (by simp))
    | int j => obtain ⟨t', rfl⟩ := ry; exact eq_int (fin_bl I q dec_int)
    | str j => obtain ⟨t', rfl⟩ := ry; exact PySem.EqMixed.eq_int_str (fin_bl I q (by simp))
    | _ => exact absurd (show false = true from hs) Bool.false_ne_true
  | str i =>
    obtain ⟨t, rfl⟩ := rx
    cases y with
    | non => cases ry; exact PySem.EqNone.eq_str_none (fin_bl I q (by simp))
    | bl j => cases ry; exact PySem.EqMixed.eq_str_bool (fin_bl I q (by simp))
    | int j => obtain ⟨t', rfl⟩ := ry; exact PySem.EqMixed.eq_str_int (fin_bl I q (by simp))
    | str j => obtain ⟨t', rfl⟩ := ry; exact eq_str (fin_bl I q dec_str)
    | _ => exact absurd (show false = true from hs) Bool.false_ne_true
  | byt i =>
    obtain ⟨t, rfl⟩ := rx
    cases y with
    | byt j => obtain ⟨t', rfl⟩ := ry; exact PySem.W.eq_bytes (fin_bl I q dec_byt)
    | _ => exact absurd (show false = true from hs) Bool.false_ne_true
  | _ => cases y <;> exact absurd (show false = true from hs) Bool.false_ne_true
theorem op_ne : OpR X (compareOp .NotEq) rNe := by
  intro pins s σ H x y v u Q I rx ry h
  obtain ⟨hs, q⟩ := h
  cases x with
  | non =>
    cases rx
    cases y with
    | non => cases ry; exact PySem.EqNone.ne_none_none (fin_bl I q (by simp))
    | bl j => cases ry; exact PySem.EqNone.ne_none_bool (fin_bl I q (by simp))
    | int j => obtain ⟨t', rfl⟩ := ry; exact PySem.EqNone.ne_none_int (fin_bl I q (by simp))
    | str j => obtain ⟨t', rfl⟩ := ry; exact PySem.EqNone.ne_none_str (fin_bl I q (by simp))
    | _ => exact absurd (show false = true from hs) Bool.false_ne_true
  | bl i =>
    cases rx
    cases y with
    | non => cases ry; exact PySem.EqNone.ne_bool_none (fin_bl I q (by simp))
    | bl j => cases ry; exact ne_bool (fin_bl I q (congrArg not dec_bl))
    | str j => obtain ⟨t', rfl⟩ := ry; exact PySem.EqMixed.ne_bool_str (fin_bl I q (by simp))
    | _ => exact absurd (show false = true from hs) Bool.false_ne_true
  | int i =>
    obtain ⟨t, rfl⟩ := rx
    cases y with
    | non => cases ry; exact PySem.EqNone.ne_int_none (fin_bl I q (by simp))
    | int j => obtain ⟨t', rfl⟩ := ry; exact ne_int (fin_bl I q (congrArg not dec_int))
    | str j => obtain ⟨t', rfl⟩ := ry; exact PySem.EqMixed.ne_int_str (fin_bl I q (by simp))
    | _ => exact absurd (show false = true from hs) Bool.false_ne_true
  | str i =>
    obtain ⟨t, rfl⟩ := rx
    cases y with
    | non => cases ry; exact PySem.EqNone.ne_str_none (fin_bl I q (by simp))
    | bl j => cases ry; exact PySem.EqMixed.ne_str_bool (fin_bl I q (by simp))
    | int j => obtain ⟨t', rfl⟩ := ry; exact PySem.EqMixed.ne_str_int (fin_bl I q (by simp))
    | str j => obtain ⟨t', rfl⟩ := ry; exact ne_str (fin_bl I q (congrArg not dec_str))
    | _ => exact absurd (show false = true from hs) Bool.false_ne_true
  | byt i =>
    obtain ⟨t, rfl⟩ := rx
    cases y with
    | byt j => obtain ⟨t', rfl⟩ := ry; exact PySem.W.ne_bytes (fin_bl I q (congrArg not dec_byt))
    | _ => exact absurd (show false = true from hs) Bool.false_ne_true
  | _ => cases y <;> exact absurd (show false = true from hs) Bool.false_ne_true

theorem op_lt : OpR X (compareOp .Lt) (rI0 fun i j => .bl (decide (i < j))) := opB0 fun _ _ _ _ _ _ _ q => lt_int q
theorem op_gt : OpR X (compareOp .Gt) (rI0 fun i j => .bl (decide (j < i))) := opB0 fun _ _ _ _ _ _ _ q => gt_int q
theorem op_ge : OpR X (compareOp .GtE) (rI0 fun i j => .bl (decide (j ≤ i))) := opB0 fun _ _ _ _ _ _ _ q => ge_int q
theorem OpR.or {f : Value → Value → Sem Value} {r r' : R2} (h : OpR X f r) (h' : OpR X f r') : OpR X f (fun x y H Q => r x y H Q ∨ r' x y H Q) := by
  intro pins s σ H x y v u Q I rx ry q
  rcases q with q | q
  · exact h pins s σ H x y v u Q I rx ry q
  · exact h' pins s σ H x y v u Q I rx ry q

theorem nomark (b : Expr) {op : CmpOp} (h : autoParam (op ≠ .In) Internal.aut1._auto_1) (h2 : autoParam (op ≠ .NotIn) Internal.aut1._auto_1) : behindInMarks op b = false := by
  have e1 : (op == CmpOp.In) = false := by cases op <;> first | rfl | exact absurd rfl h
  have e2 : (op == CmpOp.NotIn) = false := by cases op <;> first | rfl | exact absurd rfl h2
  cases b <;> simp [behindInMarks, e1, e2]
theorem pe_cmpR {op : CmpOp} {r : R2} (ho : OpR X (compareOp op) r) (ha : PE X a ta) (hb : PE X b tb) (hm : behindInMarks op b = false) : PE X (.Compare a [op] [b] pos) (tOp r ta tb) := by
  intro pins s σ H Q I h
  exact wpAny_Compare1 (binT ha hb I h fun v u s2 x y H2 I2 rx ry q => ho pins s2 σ H2 x y v u Q I2 rx ry q) hm
noncomputable abbrev tTest (t : TE) : TT := fun σ H Q => t σ H fun x H' => ∃ k, x = .bl k ∧ Q k H'
theorem pt_cmpR {op : CmpOp} {r : R2} (ho : OpR X (compareOp op) r) (ha : PE X a ta) (hb : PE X b tb) (hm : behindInMarks op b = false) : PT X (.Compare a [op] [b] pos) (tTest (tOp r ta tb)) := by
  intro pins s σ H Q I h
  refine wpAny_isTrue_Compare1 (thn (ha pins s σ H _ I h) fun v s1 ⟨x, H1, I1, r1, q1⟩ => thn (hb pins s1 σ H1 _ I1 q1) fun u s2 ⟨y, H2, I2, r2, q2⟩ =>
    thn (ho pins s2 σ H2 x y v u _ I2 r1 r2 q2) fun c s3 ⟨z, H3, I3, r3, k, e, q3⟩ => ?_) hm
  subst e
  cases r3
  exact wpAny_truthy_bool ⟨H3, I3, q3⟩
noncomputable def TruV (K : PySem.W.Frag) (x : V) (H : Hp) (k : Bool) : Prop :=
  match x with
  | .non => k = false
  | .bl b => k = b
  | .int i => k = (i != 0)
  | .str y => y.length ≤ sizeLine ∧ k = ((y.length : Int) != 0)
  | .byt y => y.size ≤ sizeLine ∧ k = ((y.size : Int) != 0)
  | .ref p => (∃ xs, SqL K H p xs ∧ k = !xs.isEmpty) ∨ (∃ xs, SqT K H p xs ∧ k = !xs.isEmpty) ∨ ∃ kvs, H p = some (.dK kvs) ∧ k = !kvs.isEmpty
  | _ => False
theorem isEmpty_kv {κ : Type} {kvs : List (κ × V)} {vs : List (κ × Value)} (r : KV kvs vs) : (!vs.isEmpty) = !kvs.isEmpty := by
  cases r <;> rfl
theorem isEmpty_of {xs : List V} {its : List Value} (r : Vals xs its) : (!its.toArray.isEmpty) = !xs.isEmpty := by
  cases r <;> simp
theorem line63 : (sizeLine : Nat) < 2 ^ 63 := by rw [sizeLine_eq]; decide
theorem tru_ok : TruR X (fun x H Q => ∃ k, TruV X.K x H k ∧ Q k H) := by
  intro pins s σ H x v Q I rx h
  obtain ⟨k, e, q⟩ := h
  have hl := line63
  have hs : sizeLine = 16777216 := sizeLine_eq
  cases x with
  | non =>
    cases rx
    have e' : k = false := e
    subst e'
    exact truthy_none ⟨H, I, q⟩
  | bl b =>
    cases rx
    have e' : k = b := e
    subst e'
    exact wpAny_truthy_bool ⟨H, I, q⟩
  | int i =>
    obtain ⟨t, rfl⟩ := rx
    have e' : k = (i != 0) := e
    subst e'
    exact PySem.P.truthy_int ⟨H, I, q⟩
  | str y =>
    obtain ⟨t, rfl⟩ := rx
    obtain ⟨hy, e'⟩ : y.length ≤ sizeLine ∧ k = ((y.length : Int) != 0) := e
    subst e'
    exact PySem.P.truthy_str (by omega) ⟨H, I.tok _, q⟩
  | byt y =>
    obtain ⟨t, rfl⟩ := rx
    obtain ⟨hy, e'⟩ : y.size ≤ sizeLine ∧ k = ((y.size : Int) != 0) := e
    subst e'
    exact PySem.W.truthy_bytes (by omega) ⟨H, I.tok _, q⟩
  | ref p =>
    cases rx
    have e' : (∃ xs, SqL X.K H p xs ∧ k = !xs.isEmpty) ∨ (∃ xs, SqT X.K H p xs ∧ k = !xs.isEmpty) ∨ ∃ kvs, H p = some (.dK kvs) ∧ k = !kvs.isEmpty := e
    rcases e' with ⟨xs, hx, e'⟩ | ⟨xs, hx, e'⟩ | ⟨kvs, hx, e'⟩
    · subst e'
      obtain ⟨its, r, pl, hz⟩ := I.list hx
      have hlen := r.length
      exact wpAny_truthy_list pl.isList (by simp only [List.size_toArray]; omega) ⟨H, I.tok _, by rw [isEmpty_of r]; exact q⟩
    · subst e'
      obtain ⟨its, r, pl, hz⟩ := I.tuple hx
      have hlen := r.length
      exact truthy_tuple pl (by simp only [List.size_toArray]; omega) ⟨H, I.tok _, by rw [isEmpty_of r]; exact q⟩
    · subst e'
      obtain ⟨hz, hS, vs, r, m⟩ : kvs.length ≤ sizeLine ∧ (p == sysModules) = false ∧ ∃ vs, KV kvs vs ∧ s.heap.DictOf (mixKind X.prog X.w) p vs := I.hok p _ hx
      have hlen : kvs.length = vs.length := Paired.length r
      exact wpAny_truthy_dict hS m (by omega) ⟨H, I.tok _, by rw [isEmpty_kv r]; exact q⟩
  | _ => exact (show False from e).elim
theorem pt_truth (ha : PE X a ta) (he : ∀ whole, isTrue a X.env whole = (do let v ← whole; standAt a.pos; holding [v] (truthy v))) :
    PT X a (fun σ H Q => ta σ H fun x H' => ∃ k, TruV X.K x H' k ∧ Q k H') := by
  intro pins s σ H Q I h
  exact isTrue_plain (thn (ha pins s σ H _ I h) fun v s1 ⟨x, H1, I1, r1, q1⟩ => tru_ok pins s1 σ H1 x v Q I1 r1 q1) (he _)

theorem vals1 {x : V} {us : List Value} (r : Vals [x] us) : ∃ u, us = [u] ∧ RelV x u := by
  cases r with
  | cons r1 r2 => cases r2; exact ⟨_, rfl, r1⟩
theorem vals2 {x y : V} {us : List Value} (r : Vals [x, y] us) : ∃ u w', us = [u, w'] ∧ RelV x u ∧ RelV y w' := by
  cases r with
  | cons r1 r2 =>
    cases r2 with
    | cons r3 r4 => cases r4; exact ⟨_, _, rfl, r1, r3⟩
end
end Internal

namespace Internal
open PySem PySem.Spec PyProof.Rows

set_option genInjectivity false in
set_option genSizeOf false in
structure ObjM (h : Heap) (x dx C : Addr) (mA : Str → Option Value) : Prop where
  obj : h.get? x = some (PySem.W.instObj C dx)
  ns : h.Ns1 dx mA
  ne : dx ≠ x

theorem lookIn_ns {h : Heap} {dx : Addr} {mA : Str → Option Value} (n : h.Ns1 dx mA) : ∃ od, h.get? dx = some od ∧ ∀ name, PySem.W.lookIn name od = some (mA name) := by
  obtain ⟨o, es, ep, ho, hd, hk, _, hm⟩ := n
  refine ⟨o, ho, fun name => ?_⟩
  have e := hm name
  unfold nsFind findBy at e
  rw [← Array.find?_toList] at e
  unfold PySem.W.lookIn
  rw [hd]
  dsimp only
  split
  · rename_i y q
    rw [q] at e
    exact congrArg some e
  · rename_i q
    rw [q] at e
    have a : es.toList.any (·.refKey) = false := by
      rw [List.any_eq_false]
      intro y hy
      obtain ⟨z, t, hkey⟩ := hk y (Array.mem_toList_iff.mp hy)
      simp [DictEntry.refKey, hkey]
    have a' : ¬ es.toList.any (·.refKey) = true := by rw [a]; exact Bool.false_ne_true
    rw [if_neg a']
    exact congrArg some e

theorem ObjM.look {h : Heap} {x dx C : Addr} {mA : Str → Option Value} (I : ObjM h x dx C mA) : ∃ od, PySem.W.InstAt h x (PySem.W.instObj C dx) C (some od) ∧ ∀ name, PySem.W.lookIn name od = some (mA name) :=
  let ⟨od, ho, hl⟩ := lookIn_ns I.ns
  ⟨od, ⟨I.obj, rfl, rfl, ho⟩, hl⟩

section
variable {prog : Program} {w : World} {A : Around} {E : Value → Shared → Prop} {s : Shared} {K : PySem.W.Frag} {x dx C f : Addr} {mA : Str → Option Value} {name : Str} {v : Value}

theorem get_map {expr : Bool} {Q : Value → Shared → Prop} (X : K.In s.heap) (I : ObjM s.heap x dx C mA) (hg : PySem.W.plainGet K C name = true) (hh : PySem.W.hasDictIn K C = true)
    (ha : PySem.W.findIn K (.ref C) name = some none) (hv : mA name = some v) (hv' : PySem.W.handedIn v = true) (h : Q v { s with toks := s.toks + 1 }) :
    wpAny (model prog w) A (getAttr (.ref x) name expr) Q E s := by
  obtain ⟨od, J, hl⟩ := I.look
  exact PySem.W.get_value X J (PySem.W.plainGet_of hg).1 (PySem.W.findObj_own hh ha rfl (by rw [hl, hv])) hv' h

theorem get_meth {pl : Sem Bool} {Q : Value × List Value → Shared → Prop} (X : K.In s.heap) (I : ObjM s.heap x dx C mA) (hg : PySem.W.plainGet K C name = true)
    (hf : PySem.W.findIn K (.ref C) name = some (some (.ref f))) (ht : PySem.W.isFn K (.ref f) = true) (hv : mA name = none) (h : Q (.ref f, [.ref x]) s) :
    wpAny (model prog w) A (getMethod (.ref x) name pl) Q E s := by
  obtain ⟨od, J, hl⟩ := I.look
  exact PySem.W.method_fn X J (PySem.W.plainGet_of hg).1 (PySem.W.plainGet_of hg).2 hf (beq_iff_eq.mp ht) (by show (PySem.W.lookIn name od).map (·.isSome) = some false; rw [hl, hv]; rfl) h

theorem set_map {ns : List Str} {Q : Unit → Shared → Prop} (X : K.In s.heap) (I : ObjM s.heap x dx C mA)
    (hs : PySem.W.findIn K (.ref C) "__setattr__" = some (some (.builtin "object.__setattr__"))) (hp : PySem.W.plainOver K C = true) (ht : PySem.W.takerIn K C name = some none) (hh : PySem.W.hasDictIn K C = true)
    (hw : PySem.Within mA ns) (hsz : ns.length ≤ sizeLine)
    (h : ∀ h', ObjM h' x dx C (fun y => if y = name then some v else mA y) → Heap.SameBut dx s.heap h' → Q () { s with heap := h', toks := s.toks + 2 }) :
    wpAny (model prog w) A (setAttr (.ref x) name v) Q E s := by
  obtain ⟨od, J, hl⟩ := I.look
  refine PySem.W.set_plain X J hs (PySem.W.osa_open (s := { s with toks := s.toks + 1 }) (r := none) X J hp ht fun b => ?_)
  obtain ⟨cd, hc, hd'⟩ := PySem.W.any_some hh
  have hx : s.heap.get? x = some ⟨.ref C, some dx, .plain, #[]⟩ := I.obj
  refine wpAny_bind (wpAny_pure (wpAny_bind (wpAny_bind (wpAny_loadPart hx (wpAny_bind (PySem.W.Looks.here (s := { s with toks := s.toks + 1 }) (PySem.W.looks_clsIn X hc) ?_))))))
  rw [hd']
  refine wpAny_pure (a := some dx) (wpAny_bind (wpAny_pure (wpAny_bind ?_)))
  refine wpAny_nsSet1 (s := { s with toks := s.toks + 1 }) I.ns fun h' hn2 hs2 => ?_
  obtain ⟨oD, esD, epD, hoD, hdD, hcD⟩ := hn2.count (PySem.Within.cons name v hw)
  refine wpAny_bind (wpAny_lookBehind hoD (by rw [hdD]; exact pastItsLine_dict (Nat.le_trans hcD (by rw [List.length_cons]; omega))) ?_)
  exact wpAny_pure (h _ ⟨(hs2.2 _ (Ne.symm I.ne)).trans I.obj, hn2, I.ne⟩ hs2)

theorem make_map {R : Result → Shared → Prop} {vs : List Value} {kw : List (Str × Value)} (X : K.In s.heap) (hm : PySem.W.makesIn K C = true)
    (hi : PySem.W.findIn K (.ref C) "__init__" = some (some (.ref f))) (hf : PySem.W.typeIn K (.ref f) = some (.type "function"))
    (h : codeAny (model prog w) (A.under (.builtin "type.__call__" ⟨.ref C :: vs, kw⟩)) (.call (.ref f) ⟨.ref (s.heap.objs.size + 1) :: vs, kw⟩) (PySem.W.InitBack (s.heap.objs.size + 1) R)
      { s with heap := (s.heap.push PySem.W.emptyDict).push (PySem.W.instObj C s.heap.objs.size) }) :
    codeAny (model prog w) A (.call (.ref C) ⟨vs, kw⟩) R s := by
  obtain ⟨hh, g, d, t, os⟩ := s
  exact PySem.W.make_core (PySem.W.makes_of X hm) (PySem.W.looks_findIn X hi) (fun self => PySem.W.bind_fn X self hf) (.inl rfl) h
end

noncomputable def putF (f : Str) (v : V) : List (Str × V) → List (Str × V)
  | [] => [(f, v)]
  | (g, x) :: r => if g = f then (g, v) :: r else (g, x) :: putF f v r
theorem lookup_putF (f g : Str) (v : V) : ∀ fs : List (Str × V), (putF f v fs).lookup g = if g = f then some v else fs.lookup g
  | [] => by
    show List.lookup g [(f, v)] = _
    by_cases h : g = f
    · have hb : (g == f) = true := beq_iff_eq.mpr h
      simp only [List.lookup, hb, if_pos h]
    · have hb : (g == f) = false := beq_eq_false_iff_ne.mpr h
      simp only [List.lookup, hb, if_neg h]
  | (k, x) :: r => by
    have ih := lookup_putF f g v r
    rw [show putF f v ((k, x) :: r) = (if k = f then (k, v) :: r else (k, x) :: putF f v r) from rfl]
    by_cases hk : k = f
    · rw [if_pos hk]
      by_cases h : g = k
      · have hb : (g == k) = true := beq_iff_eq.mpr h
        simp only [List.lookup, hb, if_pos (h.trans hk)]
      · have hb : (g == k) = false := beq_eq_false_iff_ne.mpr h
        simp only [List.lookup, hb, if_neg (fun e : g = f => h (e.trans hk.symm))]
    · rw [if_neg hk]
      by_cases h : g = k
      · have hb : (g == k) = true := beq_iff_eq.mpr h
        simp only [List.lookup, hb, if_neg (fun e : g = f => hk (h.symm.trans e))]
      · have hb : (g == k) = false := beq_eq_false_iff_ne.mpr h
        simp only [List.lookup, hb]
        exact ih
theorem keys_putF (f : Str) (v : V) : ∀ fs : List (Str × V), f ∈ (putF f v fs).map (·.1) ∧ ∀ g, g ∈ fs.map (·.1) → g ∈ (putF f v fs).map (·.1)
  | [] => ⟨by simp [putF], fun g h => by simp at h⟩
  | (k, x) :: r => by
    obtain ⟨i1, i2⟩ := keys_putF f v r
    rw [show putF f v ((k, x) :: r) = (if k = f then (k, v) :: r else (k, x) :: putF f v r) from rfl]
    by_cases hk : k = f
    · rw [if_pos hk]
      subst hk
      exact ⟨by simp, fun g h => by simpa using h⟩
    · rw [if_neg hk]
      refine ⟨?_, fun g h => ?_⟩
      · rw [List.map_cons]
        exact List.mem_cons_of_mem _ i1
      · rw [List.map_cons] at h ⊢
        rcases List.mem_cons.mp h with e | e
        · exact List.mem_cons.mpr (.inl e)
        · exact List.mem_cons_of_mem _ (i2 g e)
theorem length_putF (f : Str) (v : V) : ∀ fs : List (Str × V), (putF f v fs).length ≤ fs.length + 1
  | [] => by simp [putF]
  | (k, x) :: r => by
    have ih := length_putF f v r
    rw [show putF f v ((k, x) :: r) = (if k = f then (k, v) :: r else (k, x) :: putF f v r) from rfl]
    by_cases hk : k = f
    · rw [if_pos hk, List.length_cons, List.length_cons]; omega
    · rw [if_neg hk, List.length_cons, List.length_cons]; omega

theorem RelO.some_of {v : V} {o : Option Value} (r : RelO (some v) o) : ∃ u, o = some u ∧ RelV v u := by
  cases o with
  | none => exact (show False from r).elim
  | some u => exact ⟨u, rfl, r⟩
theorem RelO.none_of {o : Option Value} (r : RelO none o) : o = none := by
  cases o with
  | none => rfl
  | some u => exact (show False from r).elim
theorem handed_of {v : V} {u : Value} (r : RelV v u) : PySem.W.handedIn u = true := by
  cases v with
  | non => cases (show u = Value.none from r); rfl
  | bl b => cases (show u = Value.bool b from r); rfl
  | int i => obtain ⟨t, e⟩ := (show ∃ t, u = Value.int i t from r); cases e; rfl
  | str x => obtain ⟨t, e⟩ := (show ∃ t, u = Value.str x t from r); cases e; rfl
  | byt b => obtain ⟨t, e⟩ := (show ∃ t, u = Value.bytes b t from r); cases e; rfl
  | flt b => obtain ⟨t, e⟩ := (show ∃ t, u = Value.float b t from r); cases e; rfl
  | ref a => cases (show u = Value.ref a from r); rfl
  | ty n => cases (show u = Value.type n from r); rfl

section
variable {P : Program} {w : World} {H H' : Hp} {h h' : Heap} {a C dx : Addr} {fs fs' : List (Str × V)}
theorem ins_get (hok : HOk P w H h) (e : H a = some (.ins C dx fs)) : ∃ mA, ObjM h a dx C mA ∧ (∀ f, RelO (fs.lookup f) (mA f)) ∧ PySem.Within mA (fs.map (·.1)) ∧ fs.length ≤ 1000 ∧ H dx = some (.own a) := by
  obtain ⟨d, z, ne, ob, mA, n, r, q⟩ := (show ObjOk P w H h a (.ins C dx fs) from hok a _ e)
  exact ⟨mA, ⟨ob, n, ne⟩, r, q, z, d⟩
end

set_option genInjectivity false in
set_option genSizeOf false in
structure Cls (K : PySem.W.Frag) (C : Addr) : Prop where
  pg : PySem.W.plainGet K C Str.empty = true
  hd : PySem.W.hasDictIn K C = true
  po : PySem.W.plainOver K C = true
  sa : PySem.W.findIn K (.ref C) "__setattr__" = some (some (.builtin "object.__setattr__"))
theorem Cls.get {K : PySem.W.Frag} {C : Addr} (c : Cls K C) (f : Str) : PySem.W.plainGet K C f = true := c.pg
noncomputable def NoAttr (K : PySem.W.Frag) (C : Addr) (f : Str) : Prop := PySem.W.findIn K (.ref C) f = some none
theorem NoAttr.taker {K : PySem.W.Frag} {C : Addr} {f : Str} (n : NoAttr K C f) : PySem.W.takerIn K C f = some none := by
  unfold PySem.W.takerIn
  rw [show PySem.W.findIn K (.ref C) f = some none from n]
  rfl
set_option genInjectivity false in
set_option genSizeOf false in
structure Con (K : PySem.W.Frag) (C : Addr) (f : Str) (v : V) (u : Value) : Prop where
  at_ : PySem.W.findIn K (.ref C) f = some (some u)
  rel : RelV v u
  get : PySem.W.specialIn K u "__get__" = some none
  cp : PySem.W.copiedNames.contains f = false
set_option genInjectivity false in
set_option genSizeOf false in
structure Meth (K : PySem.W.Frag) (C : Addr) (m : Str) (f : Addr) : Prop where
  at_ : PySem.W.findIn K (.ref C) m = some (some (.ref f))
  fn : PySem.W.isFn K (.ref f) = true
  kp : PySem.W.keepIn K (.ref f) = true

section
variable {X : Cx} {pins : List (Addr × Obj)} {σ : St} {H : Hp} {s : Shared} {a C dx : Addr} {fs : List (Str × V)} {f : Str} {v : V} {A : Around} {E : Value → Shared → Prop}

theorem getattr_ok {b : Bool} {Q : Value → Shared → Prop} (I : Inv X pins σ H s) (e : H a = some (.ins C dx fs)) (c : Cls X.K C) (n : NoAttr X.K C f) (l : fs.lookup f = some v)
    (h : ∀ u s', Inv X pins σ H s' → RelV v u → Q u s') : wpAny (model X.prog X.w) A (getAttr (.ref a) f b) Q E s := by
  obtain ⟨mA, O, r, _, _, _⟩ := ins_get I.hok e
  obtain ⟨u, hu, ru⟩ := RelO.some_of (v := v) (o := mA f) (by rw [← l]; exact r f)
  exact get_map I.kIn O (c.get f) c.hd n hu (handed_of ru) (h u _ (I.tok _) ru)

theorem getmeth_ok {m : Str} {g : Addr} {pl : Sem Bool} {Q : Value × List Value → Shared → Prop} (I : Inv X pins σ H s) (e : H a = some (.ins C dx fs)) (c : Cls X.K C) (k : Meth X.K C m g) (l : fs.lookup m = none)
    (h : Q (.ref g, [.ref a]) s) : wpAny (model X.prog X.w) A (getMethod (.ref a) m pl) Q E s := by
  obtain ⟨mA, O, r, _, _, _⟩ := ins_get I.hok e
  have hn : mA m = none := RelO.none_of (by rw [← l]; exact r m)
  exact get_meth I.kIn O (c.get m) k.at_ k.fn hn h

theorem setattr_ok {y : V} {u : Value} {Q : Unit → Shared → Prop} (I : Inv X pins σ H s) (e : H a = some (.ins C dx fs)) (c : Cls X.K C) (n : NoAttr X.K C f) (hl : fs.length < 1000) (ry : RelV y u)
    (h : ∀ s', Inv X pins σ (upd H a (.ins C dx (putF f y fs))) s' → Q () s') : wpAny (model X.prog X.w) A (setAttr (.ref a) f u) Q E s := by
  obtain ⟨mA, O, r, wi, _, ho⟩ := ins_get I.hok e
  have hz : (fs.map (·.1)).length ≤ sizeLine := by rw [List.length_map, sizeLine_eq]; omega
  refine set_map I.kIn O c.sa c.po n.taker c.hd wi hz fun h' O' sb => h _ ?_
  have hd : ∃ o, h'.get? dx = some o := let ⟨o, _, _, e', _⟩ := O'.ns; ⟨o, e'⟩
  refine I.write (x := a) (e := dx) (by rw [e]; exact True.intro) (.inr ho) (fun b q hb z => (sb.2 b hb).trans z) hd ?_
  refine ⟨by rw [upd_ne O.ne]; exact ho, ?_, O.ne, O'.obj, _, O'.ns, fun g => ?_, fun g hg => ?_⟩
  · have := length_putF f y fs; omega
  · show RelO ((putF f y fs).lookup g) (if g = f then some u else mA g)
    rw [lookup_putF]
    by_cases q : g = f
    · rw [if_pos q, if_pos q]; exact ry
    · rw [if_neg q, if_neg q]; exact r g
  · by_cases q : g = f
    · rw [q]; exact (keys_putF f y fs).1
    · refine (keys_putF f y fs).2 g (wi g fun z => hg ?_)
      show (if g = f then some u else mA g) = none
      rw [if_neg q]; exact z

theorem Inv.made (I : Inv X pins σ H s) : Inv X pins σ (upd (upd H s.heap.objs.size (.own (s.heap.objs.size + 1))) (s.heap.objs.size + 1) (.ins C s.heap.objs.size []))
    { s with heap := (s.heap.push PySem.W.emptyDict).push (PySem.W.instObj C s.heap.objs.size) } := by
  have e1 : (s.heap.push PySem.W.emptyDict).get? s.heap.objs.size = some PySem.W.emptyDict := Heap.get?_push_size s.heap rfl
  have e2 : ((s.heap.push PySem.W.emptyDict).push (PySem.W.instObj C s.heap.objs.size)).get? (s.heap.objs.size + 1) = some (PySem.W.instObj C s.heap.objs.size) := by
    have := Heap.get?_push_size (s.heap.push PySem.W.emptyDict) (o := PySem.W.instObj C s.heap.objs.size) rfl
    rwa [Heap.size_push] at this
  have e3 : (s.heap.push PySem.W.emptyDict).Ns s.heap.objs.size (fun _ => none) := ⟨PySem.W.emptyDict, #[], _, e1, rfl, (fun e he => absurd he (by simp)), fun _ => rfl⟩
  have I1 := I.laid (a := s.heap.objs.size) (o := .own (s.heap.objs.size + 1)) (h' := s.heap.push PySem.W.emptyDict) (t' := s.toks) (fun b u q => Heap.get?_push_of_some _ q) (Nat.le_refl _) ⟨_, e1⟩
  refine I1.laid (a := s.heap.objs.size + 1) (o := .ins C s.heap.objs.size []) (t' := s.toks) (fun b u q => Heap.get?_push_of_some _ q) (Nat.le_of_eq (Heap.size_push _ _)) ?_
  have ne : s.heap.objs.size ≠ s.heap.objs.size + 1 := Nat.ne_of_lt (Nat.lt_succ_self _)
  refine ⟨by rw [upd_ne ne, upd_same], Nat.zero_le _, ne, e2, fun _ => none, (Heap.Ns1.of_empty e3).at fun o q => Heap.get?_push_of_some _ q, fun _ => True.intro, fun y hy => absurd rfl hy⟩

theorem attr_of {prog : Program} {w : World} {env : Env} {e : Expr} {f : Str} {pos : Pos} {s : Shared} {Q : Value → Shared → Prop} (hb : attributeBase e f env (eval e env) = eval e env)
    (h : wpAny (model prog w) A (eval e env) (fun o s₁ => wpAny (model prog w) A (getAttr o f true) Q E s₁) E s) : wpAny (model prog w) A (eval (.Attribute e f pos) env) Q E s :=
  Attribute_any_ h (by rw [arm_eval_Attribute, hb])
end

noncomputable def tFld (K : PySem.W.Frag) (ta : TE) (f : Str) : TE := fun σ H Q => ta σ H fun x H1 => ∃ a C dx fs v, x = .ref a ∧ H1 a = some (.ins C dx fs) ∧ Cls K C ∧ NoAttr K C f ∧ fs.lookup f = some v ∧ Q v H1
noncomputable def sFld (K : PySem.W.Frag) (ta tv : TE) (f : Str) : TS := fun D σ H => tv σ H fun y H1 => ta σ H1 fun x H2 => ∃ a C dx fs, x = .ref a ∧ H2 a = some (.ins C dx fs) ∧ Cls K C ∧ NoAttr K C f ∧ fs.length < 1000 ∧
  D.nx σ (upd H2 a (.ins C dx (putF f y fs)))
noncomputable def InOp (X : Cx) (op : Operator) (rd : V → V → Hp → VK → Prop) : Prop :=
  ∀ (pins : List (Addr × Obj)) (s : Shared) (σ : St) (H : Hp) (x y : V) (u v : Value) (Q : VK), Inv X pins σ H s → RelV x u → RelV y v → rd x y H Q → wpAny (model X.prog X.w) X.A (inplaceOp op u v) (EP X pins σ Q) X.xe s
noncomputable def sFldAug (K : PySem.W.Frag) (ta tv : TE) (rd : V → V → Hp → VK → Prop) (f : Str) : TS := fun D σ H => ta σ H fun x H1 => ∃ a C dx fs v, x = .ref a ∧ H1 a = some (.ins C dx fs) ∧ Cls K C ∧ NoAttr K C f ∧ fs.lookup f = some v ∧
  tv σ H1 fun y H2 => rd v y H2 fun z H3 => ∃ dx' fs', H3 a = some (.ins C dx' fs') ∧ fs'.length < 1000 ∧ D.nx σ (upd H3 a (.ins C dx' (putF f z fs')))

section
variable {X : Cx} {o e value : Expr} {f : Str} {pos pos' tpos : Pos} {ta tv : TE}
theorem pe_fld (he : PE X e ta) (hb : attributeBase e f X.env (eval e X.env) = eval e X.env) : PE X (.Attribute e f pos) (tFld X.K ta f) := by
  intro pins s σ H Q I h
  refine attr_of hb (thn (he pins s σ H _ I h) fun u s1 zz => ?_)
  obtain ⟨x, H1, I1, rx, a, C, dx, fs, v, ex, ea, c, n, l, q⟩ := zz
  subst ex
  obtain rfl : u = Value.ref a := rx
  exact getattr_ok I1 ea c n l fun u' s2 I2 ru => ⟨v, H1, I2, ru, q⟩
theorem ps_fld (ha : PE X o ta) (hv : PE X value tv) (hs : swapsWith value (some (.Attribute o f pos')) pos.line X.env = pure false) : PS X (.Assign [.Attribute o f pos'] value pos) (sFld X.K ta tv f) := by
  intro pins s σ H D I h
  refine plainObj_wpAny_Assign_Attribute (thn (hv pins s σ H _ I h) fun u s1 ⟨y, H1, I1, ry, q⟩ => thn (ha pins s1 σ H1 _ I1 q) fun ov s2 zz => ?_) hs
  obtain ⟨x, H2, I2, rx, a, C, dx, fs, ex, ea, c, n, l, q2⟩ := zz
  subst ex
  obtain rfl : ov = Value.ref a := rx
  exact setattr_ok I2 ea c n l ry fun s3 I3 => ⟨σ, _, I3, q2⟩
theorem ps_fldaug {op : Operator} {rd : V → V → Hp → VK → Prop} (ha : PE X o ta) (hv : PE X value tv) (hop : InOp X op rd) : PS X (.AugAssign (.Attribute o f tpos) op value pos) (sFldAug X.K ta tv rd f) := by
  intro pins s σ H D I h
  refine wpAny_AugAssign_AttributeAny (thn (ha pins s σ H _ I h) fun ov s1 zz => ?_)
  obtain ⟨x, H1, I1, rx, a, C, dx, fs, v, ex, ea, c, n, l, q⟩ := zz
  subst ex
  obtain rfl : ov = Value.ref a := rx
  refine getattr_ok I1 ea c n l fun u s2 I2 ru => thn (hv pins s2 σ H1 _ I2 q) fun w3 s3 ⟨y, H2, I3, ry, q3⟩ => thn (hop pins s3 σ H2 v y u w3 _ I3 ru ry q3) fun w4 s4 zz => ?_
  obtain ⟨z, H3, I4, rz, dx', fs', ea', l', q4⟩ := zz
  exact setattr_ok I4 ea' c n l' rz fun s5 I5 => ⟨σ, _, I5, q4⟩
noncomputable def rAdd : V → V → Hp → VK → Prop := fun x y H Q => ∃ i j, x = .int i ∧ y = .int j ∧ Q (.int (i + j)) H
theorem in_add : InOp X .Add rAdd := by
  rintro pins s σ H x y u v Q I rx ry ⟨i, j, rfl, rfl, q⟩
  obtain ⟨t, rfl⟩ := (show ∃ t, u = Value.int i t from rx)
  obtain ⟨t', rfl⟩ := (show ∃ t', v = Value.int j t' from ry)
  exact PyProof.Rows.iadd_int ⟨.int (i + j), H, I.tok _, ⟨_, rfl⟩, q⟩
end

section
variable {X : Cx} {pins : List (Addr × Obj)} {σ : St} {H : Hp} {s : Shared} {A : Around} {E : Value → Shared → Prop} {Q : Value → Shared → Prop} {c : Value} {b : Bool}
inductive TyOf (K : PySem.W.Frag) (H : Hp) : V → Value → Prop where
  | non : TyOf K H .non (.type "NoneType")
  | bl (x : Bool) : TyOf K H (.bl x) (.type "bool")
  | int (i : Int) : TyOf K H (.int i) (.type "int")
  | str (x : Str) : TyOf K H (.str x) (.type "str")
  | flt (x : UInt64) : TyOf K H (.flt x) (.type "float")
  | lst {a : Addr} {xs : List V} (e : H a = some (.lst xs)) : TyOf K H (.ref a) (.type "list")
  | frz {a : Addr} {o : Obj} {xs : List V} (e : H a = some (.frz o (.lst xs))) : TyOf K H (.ref a) (.type "list")
  | tup {a : Addr} {xs : List V} (e : H a = some (.tup xs)) : TyOf K H (.ref a) (.type "tuple")
  | dK {a : Addr} {kvs : List (Key × V)} (e : H a = some (.dK kvs)) : TyOf K H (.ref a) (.type "dict")
  | dT {a : Addr} {kvs : List (List Key × V)} (e : H a = some (.dT kvs)) : TyOf K H (.ref a) (.type "dict")
  | ins {a C dx : Addr} {fs : List (Str × V)} (e : H a = some (.ins C dx fs)) (cl : Cls K C) (ha : PySem.W.findIn K (.ref C) "__class__" = some (some (.builtin "object.__class__")))
      (hn : PySem.W.specialIn K (.builtin "object.__class__") "__get__" = some (some (.builtin "getset_descriptor.__get__"))) (htk : PySem.W.takesIn K (.builtin "object.__class__") = some true)
      (hm : PySem.W.mroIn K C (.type "object") = some true) : TyOf K H (.ref a) (.ref C)
theorem isinst_ok {x : V} {u t : Value} (I : Inv X pins σ H s) (rx : RelV x u) (ty : TyOf X.K H x t) (e : PySem.W.kitOne X.K t c = some b) (h : ∀ tk, Q (.bool b) { s with toks := tk }) :
    wpAny (model X.prog X.w) A (call (.builtin "isinstance") [u, c]) Q E s := by
  cases ty with
  | non => cases (show u = Value.none from rx); exact PySem.W.kia_one PySem.W.kitx_none I.kIn True.intro e (fun z => nomatch z) h
  | bl y => cases (show u = Value.bool y from rx); exact PySem.W.kia_one PySem.W.kitx_bool I.kIn True.intro e (fun z => nomatch z) h
  | int i => obtain ⟨t, q⟩ := (show ∃ t, u = Value.int i t from rx); cases q; exact PySem.W.kia_one PySem.W.kitx_int I.kIn True.intro e (fun z => nomatch z) h
  | str y => obtain ⟨t, q⟩ := (show ∃ t, u = Value.str y t from rx); cases q; exact PySem.W.kia_one PySem.W.kitx_str I.kIn True.intro e (fun z => nomatch z) h
  | flt y => obtain ⟨t, q⟩ := (show ∃ t, u = Value.float y t from rx); cases q; exact PySem.W.kia_one PySem.W.kitx_float I.kIn True.intro e (fun z => nomatch z) h
  | @lst a xs ea =>
    cases (show u = Value.ref a from rx)
    obtain ⟨_, _, n, _, h1⟩ := (show ObjOk X.prog X.w H s.heap a (.lst xs) from I.hok a _ ea)
    exact PySem.W.kia_one PySem.W.kitx_list I.kIn ⟨_, h1, rfl⟩ e (fun z => nomatch z) h
  | @frz a ob xs ea =>
    cases (show u = Value.ref a from rx)
    obtain ⟨_, _, _, n, _, h1⟩ := (show ObjOk X.prog X.w H s.heap a (.frz ob (.lst xs)) from I.hok a _ ea)
    exact PySem.W.kia_one PySem.W.kitx_list I.kIn ⟨_, h1, rfl⟩ e (fun z => nomatch z) h
  | @tup a xs ea =>
    cases (show u = Value.ref a from rx)
    obtain ⟨_, _, _, p⟩ := (show ObjOk X.prog X.w H s.heap a (.tup xs) from I.hok a _ ea)
    obtain ⟨o, h1, h2, _⟩ := p
    exact PySem.W.kia_one PySem.W.kitx_tuple I.kIn ⟨o, h1, h2⟩ e (fun z => nomatch z) h
  | @dK a kvs ea =>
    cases (show u = Value.ref a from rx)
    obtain ⟨_, _, vs, _, p⟩ := (show ObjOk X.prog X.w H s.heap a (.dK kvs) from I.hok a _ ea)
    obtain ⟨o, es, ep, h1, h2, _⟩ := p
    exact PySem.W.kia_one PySem.W.kitx_dict I.kIn ⟨o, h1, h2.1⟩ e (fun z => nomatch z) h
  | @dT a kvs ea =>
    cases (show u = Value.ref a from rx)
    obtain ⟨_, _, xs, _, o, es, ep, h1, h2, _⟩ := (show ObjOk X.prog X.w H s.heap a (.dT kvs) from I.hok a _ ea)
    exact PySem.W.kia_one PySem.W.kitx_dict I.kIn ⟨o, h1, h2.1⟩ e (fun z => nomatch z) h
  | @ins a C dx fs ea cl ha hn htk hm =>
    cases (show u = Value.ref a from rx)
    obtain ⟨mA, O, _⟩ := ins_get I.hok ea
    obtain ⟨od, J, _⟩ := O.look
    exact PySem.W.kia_one (PySem.W.kitx_own (cl.get _) cl.hd ha hn htk hm) I.kIn J e (fun z => nomatch z) h
end
end Internal

namespace Internal
open PySem PySem.Spec PyProof.Rows

set_option genInjectivity false in
set_option genSizeOf false in
structure Room (k : Nat) (A : Around) : Prop where
  hd : A.handled = none
  dp : A.depth + 3 * k + 5 < recursionLimit
  un : A.units + 16 * k + 200 < cLine
theorem Room.mono {j k : Nat} {A : Around} (r : Room k A) (h : j ≤ k) : Room j A := ⟨r.hd, by have := r.dp; omega, by have := r.un; omega⟩
theorem Room.deeper {k : Nat} {A : Around} (r : Room (k + 1) A) (env : Env) : Room k (A.deeper env) :=
  ⟨r.hd, by have := r.dp; show A.depth + 1 + 3 * k + 5 < _; omega, by have := r.un; show A.units + 3 + 16 * k + 200 < _; omega⟩
theorem make_depth {A : Around} {C : Addr} {us : List Value} {kw : List (Str × Value)} : (A.under (.builtin "type.__call__" ⟨.ref C :: us, kw⟩)).depth = A.depth + 1 := by
  first | rfl | simp [Around.under, Code.weight, Code.isCreation, Code.isGuard, Code.isCaller, Code.frames, Code.isFrame, guardIds]
theorem make_units {A : Around} {C : Addr} {us : List Value} {kw : List (Str × Value)} : (A.under (.builtin "type.__call__" ⟨.ref C :: us, kw⟩)).units = A.units + 1 := by
  first | rfl | simp [Around.under, Code.cUnits, Code.frames, Code.isFrame]
theorem Room.make {k : Nat} {A : Around} (r : Room (k + 1) A) (C : Addr) (us : List Value) (kw : List (Str × Value)) : Room k (A.under (.builtin "type.__call__" ⟨.ref C :: us, kw⟩)) :=
  ⟨r.hd, by have := r.dp; rw [make_depth]; omega, by have := r.un; rw [make_units]; omega⟩
theorem Room.depth {k : Nat} {A : Around} (r : Room k A) : A.depth < recursionLimit := by have := r.dp; omega
theorem Room.units {k : Nat} {A : Around} (r : Room k A) : A.units + 64 < cLine := by have := r.un; omega
noncomputable abbrev tNil : TA := fun _ H Q => Q [] H
noncomputable abbrev tCons (ta : TE) (tr : TA) : TA := fun σ H Q => ta σ H fun x H1 => tr σ H1 fun xs H2 => Q (x :: xs) H2
section
variable {X : Cx} {e : Expr} {es : List Expr} {te : TE} {t : TA} {pos : Pos}
theorem pa_nil : PA X [] tNil := fun _ _ _ _ H Q I h => Calls.spliced_nil ⟨[], H, I, .nil, h⟩
theorem pa_cons (ha : PE X e te) (hr : PA X es t) (hs : autoParam (starEach (e :: es) X.env = (false, eval e X.env) :: starEach es X.env) Internal.aut2._auto_1) : PA X (e :: es) (tCons te t) := by
  intro pos pins s σ H Q I h
  rw [hs]
  show wpAny _ _ (spliced ((false, eval e X.env) :: backTo pos (starEach es X.env))) _ _ s
  refine Calls.spliced_cons (thn (ha pins s σ H _ I h) fun u s1 zz => ?_)
  obtain ⟨x, H1, I1, r1, q1⟩ := zz
  exact thn (hr pos pins s1 σ H1 _ I1 q1) fun us s2 ⟨xs, H2, I2, r2, q2⟩ => ⟨x :: xs, H2, I2, .cons r1 r2, q2⟩

noncomputable def tTup (t : TA) : TE := fun σ H Q => t σ H fun xs H1 => xs.length ≤ sizeLine ∧ ∀ p, H1 p = none → Q (.ref p) (upd H1 p (.tup xs))
noncomputable def tLst (t : TA) : TE := fun σ H Q => t σ H fun xs H1 => xs.length ≤ sizeLine ∧ ∀ p, H1 p = none → Q (.ref p) (upd H1 p (.lst xs))
theorem pe_tup {x1} (h : PA X es t) : PE X (.Tuple es x1 pos) (tTup t) := by
  intro pins s σ H Q I hq
  refine wpAny_Tuple_spliced (thn (h pos pins s σ H _ I hq) fun us s1 ⟨xs, H1, I1, r, z, q⟩ => ⟨by rw [← r.length]; exact z, ?_⟩)
  have hf : H1 s1.heap.objs.size = none := I1.hok.fresh (Nat.le_refl _)
  refine ⟨.ref s1.heap.objs.size, upd H1 s1.heap.objs.size (.tup xs), I1.laid (t' := s1.toks) (fun b u e => Heap.get?_push_of_some _ e) (Nat.le_refl _) ?_, rfl, q _ hf⟩
  exact ⟨z, us, r, ⟨_, Heap.get?_push_size _ rfl, rfl, _, rfl⟩⟩
theorem pe_lst (h : PA X es t) : PE X (.List es pos) (tLst t) := by
  intro pins s σ H Q I hq
  refine wpAny_List_spliced (thn (h pos pins s σ H _ I hq) fun us s1 ⟨xs, H1, I1, r, z, q⟩ => ⟨by rw [← r.length]; exact z, ?_⟩)
  have hf : H1 s1.heap.objs.size = none := I1.hok.fresh (Nat.le_refl _)
  refine ⟨.ref s1.heap.objs.size, upd H1 s1.heap.objs.size (.lst xs), I1.laid (t' := s1.toks) (fun b u e => Heap.get?_push_of_some _ e) (Nat.le_refl _) ?_, rfl, q _ hf⟩
  exact ⟨z, us, 0, r, Heap.get?_push_size _ rfl⟩
end

noncomputable abbrev Sp := List V → Hp → VK → XK → Prop
noncomputable abbrev CXT := List Env → Hp → Shared → XK → Value → Shared → Prop

set_option genInjectivity false in
set_option genSizeOf false in
structure Env0 (P : Program) (w : World) (K : PySem.W.Frag) (mg : Str → Option Value) (base : Heap) (A : Around) (outer : List Env) (s : Shared) (H : Hp) : Prop where
  frames : A.frames = some outer
  mod : Mod K mg base
  bs : ∀ b o, base.get? b = some o → s.heap.get? b = some o ∧ H b = none
  bsz : base.objs.size ≤ s.heap.objs.size
  funs : s.heap.FunFrames base outer
  frf : ∀ b ∈ frs outer, H b = none
  hok : HOk P w H s.heap
  bare : AllBare s.gens
noncomputable def CE (outer : List Env) (P : Program) (w : World) (H : Hp) (s : Shared) (Q : VK) (u : Value) (s' : Shared) : Prop :=
  ∃ v H', s'.os = s.os ∧ AllBare s'.gens ∧ Un (frs outer) [] H H' s.heap s'.heap ∧ HOk P w H' s'.heap ∧ RelV v u ∧ Q v H'
noncomputable def CR (CX : CXT) (outer : List Env) (P : Program) (w : World) (H : Hp) (s : Shared) (Q : VK) (E : XK) (r : Result) (s' : Shared) : Prop :=
  match r with
  | .ok (.ret u) => CE outer P w H s Q u s'
  | .ok _ => False
  | .error e => CX outer H s E e s'
set_option genInjectivity false in
set_option genSizeOf false in
structure FnOk (P : Program) (w : World) (K : PySem.W.Frag) (mg : Str → Option Value) (base : Heap) (CX : CXT) (k : Nat) (f : Addr) (fd : FuncData) (ps : List Str) (sp : Sp) : Prop where
  len : ∀ vs H Q E, sp vs H Q E → vs.length = ps.length
  run : ∀ (A : Around) (outer : List Env) (s : Shared) (H : Hp) (args : Args) (us : List Value) (vs : List V) (Q : VK) (E : XK), Room k A → Env0 P w K mg base A outer s H → BindsTo s fd args (ps.zip us) → Vals vs us → sp vs H Q E →
    codeAny (model P w) A (.call (.ref f) args) (CR CX outer P w H s Q E) s
theorem Env0.make {P : Program} {w : World} {K : PySem.W.Frag} {mg : Str → Option Value} {base : Heap} {A : Around} {outer : List Env} {s : Shared} {H : Hp} (e : Env0 P w K mg base A outer s H) (C : Addr) (us : List Value) (kw : List (Str × Value)) :
    Env0 P w K mg base (A.under (.builtin "type.__call__" ⟨.ref C :: us, kw⟩)) outer s H := ⟨by first | exact e.frames | (simpa [Around.under, Code.envs, Code.isFrame, pushEnvs] using e.frames), e.mod, e.bs, e.bsz, e.funs, e.frf, e.hok, e.bare⟩
section
variable {X : Cx} {pins : List (Addr × Obj)} {σ : St} {H : Hp} {s s' : Shared}
theorem Inv.env0 (I : Inv X pins σ H s) : Env0 X.prog X.w X.K X.mg X.base X.A X.stack s H :=
  ⟨I.ok.frames, I.ok.mod, I.bs, Nat.le_trans I.ok.bsz I.sz, I.stack, I.stkFree, I.hok, I.bare⟩
theorem Inv.after {Q : VK} {u : Value} (I : Inv X pins σ H s) (h : CE X.stack X.prog X.w H s Q u s') : EP X pins σ Q u s' := by
  obtain ⟨v, H', os, bare, un, hok, r, q⟩ := h
  obtain ⟨hh, g, d, t, os'⟩ := s'
  obtain rfl : os' = s.os := os
  exact ⟨v, H', I.call (h' := hh) (g' := g) (d' := d) (t' := t) (ch := []) un hok bare (fun b z => absurd z (by simp)), r, q⟩
end

noncomputable def tCall (sp : Sp) (dvs : List V) (E : XK) (t : TA) : TE := fun σ H Q => t σ H fun vs H1 => sp (vs ++ dvs) H1 Q E
noncomputable def tMeth (C : Addr) (m : Str) (sp : Sp) (dvs : List V) (E : XK) (ta : TE) (t : TA) : TE := fun σ H Q => ta σ H fun x H1 => ∃ a dx fs, x = .ref a ∧ H1 a = some (.ins C dx fs) ∧ fs.lookup m = none ∧
  t σ H1 fun vs H2 => sp (x :: (vs ++ dvs)) H2 Q E
noncomputable def tMake (C : Addr) (sp : Sp) (dvs : List V) (E : XK) (t : TA) : TE := fun σ H Q => t σ H fun vs H1 => ∀ x dx, H1 x = none → H1 dx = none → dx ≠ x →
  sp (.ref x :: (vs ++ dvs)) (upd (upd H1 dx (.own x)) x (.ins C dx [])) (fun v H2 => v = .non ∧ Q (.ref x) H2) E

noncomputable def Binds (K : PySem.W.Frag) (fd : FuncData) (ps : List Str) (ds : List Value) : Prop :=
  ∀ (s : Shared) (us : List Value), K.In s.heap → (us ++ ds).length = ps.length → BindsTo s fd ⟨us, []⟩ (ps.zip (us ++ ds))
theorem Binds.all {K : PySem.W.Frag} {fd : FuncData} {ps : List Str} (h : ∀ us : List Value, us.length = ps.length → bindArgs fd ⟨us, []⟩ = pure (ps.zip us)) : Binds K fd ps [] := fun s us _ hl => by
  rw [List.append_nil] at hl ⊢
  exact .of_eq (h us hl)

noncomputable def Passes (CX : CXT) (X : Cx) (E : XK) : Prop := ∀ (pins : List (Addr × Obj)) (σ : St) (H : Hp) (s : Shared) (e : Value) (s' : Shared), Inv X pins σ H s → CX X.stack H s E e s' → X.xe e s'

section
variable {X : Cx} {CX : CXT} {k : Nat} {f C : Addr} {fd : FuncData} {ps : List Str} {sp : Sp} {dvs : List V} {ds : List Value} {E : XK} {x m : Str} {p pos apos : Pos} {e o : Expr} {es : List Expr} {ta : TE} {t : TA}

theorem run_fn {pins : List (Addr × Obj)} {σ : St} {H : Hp} {s : Shared} {Q : VK} {us : List Value} {vs : List V} (F : FnOk X.prog X.w X.K X.mg X.base CX k f fd ps sp) (hr : Room k X.A) (hb : Binds X.K fd ps ds) (hd : Vals dvs ds) (hx : Passes CX X E)
    (I : Inv X pins σ H s) (r : Vals vs us) (h : sp (vs ++ dvs) H Q E) : wpAny (model X.prog X.w) X.A (call (.ref f) us) (EP X pins σ Q) X.xe s := by
  have r2 : Vals (vs ++ dvs) (us ++ ds) := r.append hd
  have hl : (us ++ ds).length = ps.length := by rw [← r2.length]; exact F.len _ _ _ _ h
  refine wpAny_call (codeAny_mono (F.run X.A X.stack s H ⟨us, []⟩ (us ++ ds) (vs ++ dvs) Q E hr I.env0 (hb s us I.kIn hl) r2 h) fun r s' hq => ?_)
  cases r with
  | error e => exact hx pins σ H s e s' I hq
  | ok fl =>
    cases fl with
    | ret u => exact I.after hq
    | next => exact False.elim hq
    | brk => exact False.elim hq
    | cont => exact False.elim hq

theorem pe_call (F : FnOk X.prog X.w X.K X.mg X.base CX k f fd ps sp) (hr : Room k X.A) (hg : Gl X x) (hm : X.mg x = some (.ref f)) (hk : PySem.W.keepIn X.K (.ref f) = true) (hb : Binds X.K fd ps ds) (hd : Vals dvs ds) (hx : Passes CX X E)
    (ha : PA X (e :: es) t) (hdb : autoParam ((x == ("__debug__" : Str)) = false) Internal.aut1._auto_1) (he : autoParam (starEach (e :: es) X.env = (false, eval e X.env) :: starEach es X.env) Internal.aut2._auto_1) (hpl : autoParam ((backTo pos (starEach es X.env)).any (·.1) = false) Internal.aut2._auto_1) :
    PE X (.Call (.Name x p) (e :: es) [] pos) (tCall sp dvs E t) := by
  intro pins s σ H Q I h
  refine wpAny_Call_Name_kw (ld_glob I hg hm ?_ hdb)
  refine PySem.W.callWith_K (h₀ := X.base) I.ok.mod.kin hk (thn (ha pos pins s σ H _ I h) fun us s1 ⟨vs, H1, I1, r, q⟩ => ⟨I1.kIn, ?_⟩) he hpl
  exact run_fn F hr hb hd hx I1 r q
theorem pe_meth {pl : Sem Bool} (he : PE X o ta) (c : Cls X.K C) (hm : Meth X.K C m f) (F : FnOk X.prog X.w X.K X.mg X.base CX k f fd ps sp) (hr : Room k X.A) (hb : Binds X.K fd ps ds) (hd : Vals dvs ds) (hx : Passes CX X E) (ha : PA X (e :: es) t)
    (hst : autoParam (starEach (e :: es) X.env = (false, eval e X.env) :: starEach es X.env) Internal.aut2._auto_1) (hpl : autoParam ((backTo pos (starEach es X.env)).any (·.1) = false) Internal.aut2._auto_1)
    (ht : autoParam (eval (.Call (.Attribute o m apos) (e :: es) [] pos) X.env = (do
      let ov ← eval o X.env
      standAt apos.atName
      let (f, first) ← holding [ov] (getMethod ov m pl)
      callWith pos f first (backTo pos (starEach (e :: es) X.env)) (backToKw pos (keywordEach [] X.env)))) Internal.aut2._auto_1) :
    PE X (.Call (.Attribute o m apos) (e :: es) [] pos) (tMeth C m sp dvs E ta t) := by
  intro pins s σ H Q I h
  refine PySem.W.methodCall_KW (pl := pl) (thn (he pins s σ H _ I h) fun u s1 zz => ?_) ht
  obtain ⟨x, H1, I1, rx, a, dx, fs, ex, ea, l, q⟩ := zz
  subst ex
  obtain rfl : u = Value.ref a := rx
  refine getmeth_ok I1 ea c hm l ?_
  refine PySem.W.callWith_K (first := [.ref a]) (h₀ := X.base) I.ok.mod.kin hm.kp (thn (ha pos pins s1 σ H1 _ I1 q) fun us s2 ⟨vs, H2, I2, r, q2⟩ => ⟨I2.kIn, ?_⟩) hst hpl
  exact run_fn (us := .ref a :: us) (vs := .ref a :: vs) F hr hb hd hx I2 (.cons rfl r) q2
theorem pe_meth0 {pl : Sem Bool} (he : PE X o ta) (c : Cls X.K C) (hm : Meth X.K C m f) (F : FnOk X.prog X.w X.K X.mg X.base CX k f fd ps sp) (hr : Room k X.A) (hb : Binds X.K fd ps ds) (hd : Vals dvs ds) (hx : Passes CX X E)
    (ht : autoParam (eval (.Call (.Attribute o m apos) [] [] pos) X.env = (do
      let ov ← eval o X.env
      standAt apos.atName
      let (f, first) ← holding [ov] (getMethod ov m pl)
      callWith pos f first (backTo pos (starEach [] X.env)) (backToKw pos (keywordEach [] X.env)))) Internal.aut2._auto_1) :
    PE X (.Call (.Attribute o m apos) [] [] pos) (tMeth C m sp dvs E ta tNil) := by
  intro pins s σ H Q I h
  refine PySem.W.methodCall_KW (pl := pl) (thn (he pins s σ H _ I h) fun u s1 zz => ?_) ht
  obtain ⟨x, H1, I1, rx, a, dx, fs, ex, ea, l, q⟩ := zz
  subst ex
  obtain rfl : u = Value.ref a := rx
  refine getmeth_ok I1 ea c hm l ?_
  exact PySem.W.callWith_K0 (first := [.ref a]) I1.kIn hm.kp (run_fn (us := [.ref a]) (vs := [.ref a]) F hr hb hd hx I1 (.cons rfl .nil) q)

set_option genInjectivity false in
set_option genSizeOf false in
structure Mk (K : PySem.W.Frag) (C f : Addr) : Prop where
  makes : PySem.W.makesIn K C = true
  init : PySem.W.findIn K (.ref C) "__init__" = some (some (.ref f))
  fn : PySem.W.isFn K (.ref f) = true
  kp : PySem.W.keepIn K (.ref C) = true

theorem run_make {pins : List (Addr × Obj)} {σ : St} {H : Hp} {s : Shared} {Q : VK} {us : List Value} {vs : List V} (M : Mk X.K C f) (F : FnOk X.prog X.w X.K X.mg X.base CX k f fd ps sp) (hr : Room (k + 1) X.A) (hb : Binds X.K fd ps ds) (hd : Vals dvs ds)
    (hx : Passes CX X E) (I : Inv X pins σ H s) (r : Vals vs us)
    (h : ∀ x dx, H x = none → H dx = none → dx ≠ x → sp (.ref x :: (vs ++ dvs)) (upd (upd H dx (.own x)) x (.ins C dx [])) (fun v H2 => v = .non ∧ Q (.ref x) H2) E) :
    wpAny (model X.prog X.w) X.A (call (.ref C) us) (EP X pins σ Q) X.xe s := by
  have hq := h (s.heap.objs.size + 1) s.heap.objs.size (I.hok.fresh (Nat.le_succ _)) (I.hok.fresh (Nat.le_refl _)) (Nat.ne_of_lt (Nat.lt_succ_self _))
  have I2 := Inv.made (C := C) I
  have r2 : Vals (V.ref (s.heap.objs.size + 1) :: (vs ++ dvs)) (Value.ref (s.heap.objs.size + 1) :: (us ++ ds)) := .cons rfl (r.append hd)
  have hl : (Value.ref (s.heap.objs.size + 1) :: us ++ ds).length = ps.length := by
    have e := r2.length
    rw [F.len _ _ _ _ hq] at e
    exact e.symm
  refine wpAny_call (make_map (f := f) I.kIn M.makes M.init (beq_iff_eq.mp M.fn) (codeAny_mono (F.run _ X.stack _ _ ⟨Value.ref (s.heap.objs.size + 1) :: us, []⟩ (Value.ref (s.heap.objs.size + 1) :: (us ++ ds)) _ _ E (hr.make C us [])
    (I2.env0.make C us []) (hb _ (Value.ref (s.heap.objs.size + 1) :: us) I2.kIn hl) r2 hq) fun r s' hq' => ?_))
  cases r with
  | error e => exact hx pins σ _ _ e s' I2 hq'
  | ok fl =>
    cases fl with
    | ret u =>
      obtain ⟨v, H', I3, rv, ev, q3⟩ := I2.after hq'
      subst ev
      exact ⟨rv, ⟨V.ref (s.heap.objs.size + 1), H', I3, rfl, q3⟩⟩
    | next => exact False.elim hq'
    | brk => exact False.elim hq'
    | cont => exact False.elim hq'
theorem pe_make (M : Mk X.K C f) (F : FnOk X.prog X.w X.K X.mg X.base CX k f fd ps sp) (hr : Room (k + 1) X.A) (hg : Gl X x) (hm : X.mg x = some (.ref C)) (hb : Binds X.K fd ps ds) (hd : Vals dvs ds) (hx : Passes CX X E)
    (ha : PA X (e :: es) t) (hdb : autoParam ((x == ("__debug__" : Str)) = false) Internal.aut1._auto_1) (he : autoParam (starEach (e :: es) X.env = (false, eval e X.env) :: starEach es X.env) Internal.aut2._auto_1) (hpl : autoParam ((backTo pos (starEach es X.env)).any (·.1) = false) Internal.aut2._auto_1) :
    PE X (.Call (.Name x p) (e :: es) [] pos) (tMake C sp dvs E t) := by
  intro pins s σ H Q I h
  refine wpAny_Call_Name_kw (ld_glob I hg hm ?_ hdb)
  refine PySem.W.callWith_K (h₀ := X.base) I.ok.mod.kin M.kp (thn (ha pos pins s σ H _ I h) fun us s1 ⟨vs, H1, I1, r, q⟩ => ⟨I1.kIn, ?_⟩) he hpl
  exact run_make M F hr hb hd hx I1 r q
end

noncomputable def PK (X : Cx) (kws : List Keyword) (t : TA) : Prop :=
  ∀ (pos : Pos) (pins : List (Addr × Obj)) (s : Shared) (σ : St) (H : Hp) (Q : List V → Hp → Prop), Inv X pins σ H s → t σ H Q → wpAny (model X.prog X.w) X.A (evalAll ((backToKw pos (keywordEach kws X.env)).map (·.2))) (AP X pins σ Q) X.xe s
section
variable {X : Cx} {CX : CXT} {k : Nat} {f C : Addr} {fd : FuncData} {ps ks : List Str} {sp : Sp} {E : XK} {x m : Str} {p pos apos kpos : Pos} {e o : Expr} {es : List Expr} {kws : List Keyword} {te ta : TE} {t tk : TA} {nm : Option Str}
theorem pk_nil : PK X [] tNil := fun _ _ _ _ H Q I h => wpAny_evalAll_nil ⟨[], H, I, .nil, h⟩
theorem pk_cons (ha : PE X e te) (hr : PK X kws t) : PK X (⟨nm, e, kpos⟩ :: kws) (tCons te t) := by
  intro pos pins s σ H Q I h
  show wpAny _ _ (evalAll ((do let v ← eval e X.env; standAt pos; pure v) :: (backToKw pos (keywordEach kws X.env)).map (·.2))) _ _ s
  refine wpAny_evalAll_cons (wpAny_bind (thn (ha pins s σ H _ I h) fun u s1 ⟨x, H1, I1, r1, q1⟩ => wpAny_bind (wpAny_standAt (wpAny_pure ?_))))
  exact thn (hr pos pins s1 σ H1 _ I1 q1) fun us s2 ⟨xs, H2, I2, r2, q2⟩ => ⟨x :: xs, H2, I2, .cons r1 r2, q2⟩

set_option genInjectivity false in
set_option genSizeOf false in
structure KBinds (K : PySem.W.Frag) (fd : FuncData) (ps ks : List Str) (g : List Value → List Value → List Value) (gV : List V → List V → List V) : Prop where
  to : ∀ (s : Shared) (us ws : List Value), K.In s.heap → (g us ws).length = ps.length → BindsTo s fd ⟨us, ks.zip ws⟩ (ps.zip (g us ws))
  rel : ∀ {vs : List V} {us : List Value} {zs : List V} {ws : List Value}, Vals vs us → Vals zs ws → Vals (gV vs zs) (g us ws)
variable {g : List Value → List Value → List Value} {gV : List V → List V → List V}
end

set_option genInjectivity false in
set_option genSizeOf false in
structure FnScope (N P : List Str) (sc : Scope) : Prop where
  kind : sc.kind = .function
  co : sc.isCoroutine = false
  gen : sc.isGenerator = false
  nd : N.Nodup
  pre : N.take P.length = P
  par : ∀ x ∈ P, sc.names.lookup x = some .local ∨ sc.names.lookup x = some .cell
  nofree : ∀ y ∈ sc.names, y.2 ≠ .free

theorem bindL_out {kindOf : Str → Option NameKind} {x : Str} : ∀ {binds : List (Str × Value)} {m : Str → Option Value}, (∀ v, (x, v) ∉ binds) → bindL kindOf binds m x = m x
  | [], _, _ => rfl
  | (n, v) :: r, m, h => by
    unfold bindL
    rw [bindL_out fun w hw => h w (List.mem_cons_of_mem _ hw)]
    split
    · have : x ≠ n := by rintro rfl; exact h v List.mem_cons_self
      simp [this]
    · rfl
theorem bindC_out {kindOf : Str → Option NameKind} {x : Str} : ∀ {binds : List (Str × Value)} {m : Str → Option Value}, (∀ v, (x, v) ∉ binds) → bindC kindOf binds m x = m x
  | [], _, _ => rfl
  | (n, v) :: r, m, h => by
    unfold bindC
    rw [bindC_out fun w hw => h w (List.mem_cons_of_mem _ hw)]
    split
    · rfl
    · have : x ≠ n := by rintro rfl; exact h v List.mem_cons_self
      simp [this]
theorem bindL_get {kindOf : Str → Option NameKind} {x : Str} {v : Value} : ∀ {P : List Str} {vs : List Value} {i : Nat} {m : Str → Option Value}, P.Nodup → P[i]? = some x → vs[i]? = some v → kindOf x = some .local →
    bindL kindOf (P.zip vs) m x = some v
  | [], _, _, _, _, h, _, _ => by simp at h
  | _ :: _, [], _, _, _, _, h, _ => by simp at h
  | p :: P, w :: vs, 0, m, nd, h1, h2, hk => by
    simp at h1 h2; subst h1; subst h2
    show bindL kindOf ((p, w) :: P.zip vs) m p = _
    unfold bindL
    rw [bindL_out fun v hv => (List.nodup_cons.mp nd).1 (List.of_mem_zip hv).1, if_pos hk]
    simp
  | p :: P, w :: vs, i + 1, m, nd, h1, h2, hk => by
    show bindL kindOf ((p, w) :: P.zip vs) m x = _
    unfold bindL
    exact bindL_get (i := i) (List.nodup_cons.mp nd).2 (by simpa using h1) (by simpa using h2) hk
theorem bindC_get {kindOf : Str → Option NameKind} {x : Str} {v : Value} : ∀ {P : List Str} {vs : List Value} {i : Nat} {m : Str → Option Value}, P.Nodup → P[i]? = some x → vs[i]? = some v → kindOf x ≠ some .local →
    bindC kindOf (P.zip vs) m x = some v
  | [], _, _, _, _, h, _, _ => by simp at h
  | _ :: _, [], _, _, _, _, h, _ => by simp at h
  | p :: P, w :: vs, 0, m, nd, h1, h2, hk => by
    simp at h1 h2; subst h1; subst h2
    show bindC kindOf ((p, w) :: P.zip vs) m p = _
    unfold bindC
    rw [bindC_out fun v hv => (List.nodup_cons.mp nd).1 (List.of_mem_zip hv).1, if_neg hk]
    simp
  | p :: P, w :: vs, i + 1, m, nd, h1, h2, hk => by
    show bindC kindOf ((p, w) :: P.zip vs) m x = _
    unfold bindC
    exact bindC_get (i := i) (List.nodup_cons.mp nd).2 (by simpa using h1) (by simpa using h2) hk

noncomputable def start (N : List Str) (vs : List V) : St := vs.map some ++ List.replicate (N.length - vs.length) none

noncomputable def cxOf (CX : CXT) (P : Program) (w : World) (K : PySem.W.Frag) (mg : Str → Option Value) (base : Heap) (N : List Str) (qual : Str) (scope : Scope) (f : Addr) (cd : Value) (A : Around) (outer : List Env) (s : Shared) (H : Hp) (E : XK) : Cx where
  prog := P
  w := w
  K := K
  mg := mg
  base := base
  A := A.deeper (envOfC qual scope s.heap.objs.size f cd)
  N := N
  s₀ := s
  H₀ := H
  env := envOfC qual scope s.heap.objs.size f cd
  outer := outer
  stack := envOfC qual scope s.heap.objs.size f cd :: outer
  ex := []
  calm := true
  fn := fun _ => true
  pn := []
  xe := fun e s' => wpAny (model P w) (A.deeper (envOfC qual scope s.heap.objs.size f cd)) (leaving (envOfC qual scope s.heap.objs.size f cd) e) (fun _ s'' => CX outer H s E e s'') (fun e' s'' => CX outer H s E e' s'') s'

theorem cell_has {sc : Scope} {n : Nat} {x : Str} (h : sc.names.lookup x = some .cell) : ∃ c, (cellsFrom n sc.names []).lookup x = some c := by
  have q := PySem.W.cellsFrom_some sc.names n [] (.inl h)
  exact Option.isSome_iff_exists.mp q

theorem inv_start {CX : CXT} {P : Program} {w : World} {K : PySem.W.Frag} {mg : Str → Option Value} {base : Heap} {N ps : List Str} {qual : Str} {scope : Scope} {f : Addr} {cd : Value} {A : Around} {outer : List Env} {s s1 : Shared} {H : Hp} {E : XK} {us : List Value} {vs : List V}
    (S : FnScope N ps scope) (hd : A.handled = none) (e0 : Env0 P w K mg base A outer s H) (hl : vs.length = ps.length) (r : Vals vs us)
    (x : InCallC s s.heap.objs.size (bindL (envOfC qual scope s.heap.objs.size f cd).kindOf (ps.zip us) fun _ => none) (cellsFrom (s.heap.objs.size + 1) scope.names []) (bindC (envOfC qual scope s.heap.objs.size f cd).kindOf (ps.zip us) fun _ => none) s1) :
    Inv (cxOf CX P w K mg base N qual scope f cd A outer s H E) [] (start N vs) H s1 := by
  have hpl : ps.length ≤ N.length := by have := congrArg List.length S.pre; rw [List.length_take] at this; omega
  obtain ⟨h1, tk, rfl, hk⟩ := x.done
  have noA : ∀ b : Addr, b ∉ (cxOf CX P w K mg base N qual scope f cd A outer s H E).ex := fun b z => absurd (show b ∈ ([] : List Addr) from z) (by simp)
  refine ⟨⟨e0.mod, S.kind, rfl, rfl, Nat.le_refl _, fun y z c h1 h2 => ?_, fun y hy => ?_, fun y c _ h => ?_, fun _ => hd, Around.frames_deeper e0.frames, .inr ⟨rfl, rfl⟩, fun b z => absurd z (noA b), e0.bs, e0.bsz, fun b _ _ => noA b, fun b z => absurd z (noA b), e0.funs, e0.frf⟩,
    rfl, e0.bare, Un.kept hk, ⟨_, x.toInCall.ns, fun i y v h1 h2 h3 => ?_⟩, fun y c h => ⟨_, x.cell y c h⟩, e0.hok.fresh (Nat.le_refl _), fun y c h => ?_, fun p hp => absurd (show p ∈ ([] : List (Addr × Obj)) from hp) (by simp), e0.hok.kept hk, ?_⟩
  · exact name_of_addr x.apart (PySem.mem_of_lookup h1) (PySem.mem_of_lookup h2)
  · have hy : scope.names.lookup y = some .cell ∨ scope.names.lookup y = some .free := hy
    rcases hy with hy | hy
    · exact cell_has hy
    · exact absurd rfl (S.nofree _ (PySem.mem_of_lookup hy))
  · exact Nat.le_of_lt (x.above y c (PySem.mem_of_lookup h))
  · have hi : i < vs.length := by
      unfold start at h2
      by_cases hi : i < vs.length
      · exact hi
      · rw [List.getElem?_append_right (by simpa using hi)] at h2
        rw [List.getElem?_replicate] at h2
        split at h2 <;> cases h2
    have ha : vs[i]? = some v := by
      unfold start at h2
      rw [List.getElem?_append_left (by simpa using hi), List.getElem?_map] at h2
      cases e : vs[i]? with
      | none => rw [e] at h2; cases h2
      | some a => rw [e] at h2; cases h2; rfl
    obtain ⟨u, hu, rv⟩ := r.get ha
    have hp : ps[i]? = some y := by
      rw [← S.pre, List.getElem?_take_of_lt (by omega)]; exact h1
    have ndP : ps.Nodup := by rw [← S.pre]; exact S.nd.sublist (List.take_sublist _ _)
    refine ⟨u, rv, ?_⟩
    rcases S.par y (List.mem_of_getElem? hp) with k | k
    · exact .inl ⟨k, bindL_get ndP hp hu k⟩
    · obtain ⟨c, e⟩ := cell_has (n := s.heap.objs.size + 1) k
      refine .inr ⟨.inl k, c, e, ?_⟩
      have q := x.cell y c e
      rw [bindC_get ndP hp hu (by show scope.names.lookup y ≠ _; rw [k]; decide)] at q
      exact q
  · exact e0.hok.fresh (Nat.le_of_lt (x.above y c (PySem.mem_of_lookup h)))
  · unfold start
    show _ = N.length
    rw [List.length_append, List.length_map, List.length_replicate]
    omega

theorem fn_of {CX : CXT} {P : Program} {w : World} {K : PySem.W.Frag} {mg : Str → Option Value} {base : Heap} {k : Nat} {f : Addr} {name qual : Str} {params : Arguments} {body : List Stmt} {scope : Scope} {dV kV doc pm cdv ct oc : Value} {an od : Option Addr}
    {osl : Array (Option Value)} {N ps : List Str} {sp : Sp} (lk : K.lookup f = some ⟨oc, od, .func (PySem.W.fnOf name qual params body scope dV kV doc pm an cdv ct), osl⟩) (hcd : PySem.W.codeIn K cdv qual = true) (S : FnScope N ps scope)
    (len : ∀ vs H Q E, sp vs H Q E → vs.length = ps.length)
    (hbody : ∀ (A : Around) (outer : List Env) (s : Shared) (H : Hp) (vs : List V) (Q : VK) (E : XK), Room k (A.deeper (envOfC qual scope s.heap.objs.size f cdv)) → sp vs H Q E →
      ∃ t, PSs (cxOf CX P w K mg base N qual scope f cdv A outer s H E) body t ∧ t { nx := fun _ H' => Q .non H', rt := Q } (start N vs) H) :
    FnOk P w K mg base CX (k + 1) f (PySem.W.fnOf name qual params body scope dV kV doc pm an cdv ct) ps sp := by
  refine ⟨len, fun A outer s H args us vs Q E hr e0 hb r hsp => ?_⟩
  have hl := len _ _ _ _ hsp
  have KX : K.In s.heap := e0.mod.kin.keeps fun b o e => (e0.bs b o e).1
  have lim : s.heap.NoLimit := e0.mod.nolimit.keeps fun b o e => (e0.bs b o e).1
  have hkind : ∀ y ∈ ps.zip us, scope.names.lookup y.1 = some .local ∨ (scope.names.lookup y.1 = some .cell ∧ ((cellsFrom (s.heap.objs.size + 1) scope.names []).lookup y.1).isSome = true) := fun ⟨n, v⟩ hy => by
    rcases S.par n (List.of_mem_zip hy).1 with q | q
    · exact .inl q
    · exact .inr ⟨q, PySem.W.cellsFrom_some _ _ _ (.inl q)⟩
  refine codeAny_call_function hr.depth (KX _ _ lk) rfl S.co S.gen rfl (PySem.W.codeRec_of KX hcd) (hb _ _ _ _ ?_)
  refine wpAny_newFunctionEnv_cells S.kind hkind fun env he s1 x => ?_
  subst he
  refine ⟨lim.keeps x.toInCall.keep, codeAny_func ?_⟩
  obtain ⟨t, ht, hq⟩ := hbody A outer s H vs Q E (hr.deeper _) hsp
  have I : Inv (cxOf CX P w K mg base N qual scope f cdv A outer s H E) [] (start N vs) H s1 := inv_start S hr.hd e0 hl r x
  refine wpAny_mono (ht [] s1 (start N vs) H _ I hq) (fun fl s' hs => ?_) fun e s' hs => hs
  have fin : ∀ {σ' : St} {H' : Hp} {v : V} {u : Value}, Inv (cxOf CX P w K mg base N qual scope f cdv A outer s H E) [] σ' H' s' → RelV v u → Q v H' → CE outer P w H s Q u s' :=
    fun {σ' H' v u} J rv q => ⟨v, H', J.os, J.bare, J.base, J.hok, rv, q⟩
  cases fl with
  | ret u =>
    obtain ⟨v, σ', H', J, rv, q⟩ := hs
    exact fin J rv q
  | next =>
    obtain ⟨σ', H', J, q⟩ := hs
    exact fin (v := V.non) (u := Value.none) J rfl q
  | brk =>
    obtain ⟨_, _, _, q⟩ := hs
    exact False.elim q
  | cont =>
    obtain ⟨_, _, _, q⟩ := hs
    exact False.elim q
end Internal

namespace Internal
open PySem PySem.Spec PyProof.Rows
section
variable {X : Cx} {x : Str} {p pos : Pos} {e : Expr} {es : List Expr} {t : TA} {id T : String} {r : List V → Hp → VK → Prop}

noncomputable abbrev tCB (r : List V → Hp → VK → Prop) (t : TA) : TE := fun σ H Q => t σ H fun vs H1 => r vs H1 Q
theorem pe_callB (hc : CallR X (.builtin id) r) (hg : Gl X x) (hm : X.mg x = none) (hv : bootBuiltins x = some (.builtin id)) (ha : PA X (e :: es) t) (hn : autoParam (x ≠ "__name__") Internal.aut1._auto_1) (hdb : autoParam ((x == ("__debug__" : Str)) = false) Internal.aut1._auto_1)
    (he : autoParam (starEach (e :: es) X.env = (false, eval e X.env) :: starEach es X.env) Internal.aut2._auto_1) (hpl : autoParam ((backTo pos (starEach es X.env)).any (·.1) = false) Internal.aut2._auto_1) : PE X (.Call (.Name x p) (e :: es) [] pos) (tCB r t) := by
  intro pins s σ H Q I h
  refine wpAny_Call_Name_kw (ld_blt I hg hm hv ?_ hn hdb)
  exact PyProof.Rows.callWith_builtin1 (thn (ha pos pins s σ H _ I h) fun us s1 ⟨vs, H1, I1, r1, q1⟩ => hc pins s1 σ H1 vs us Q I1 r1 q1) he hpl
theorem pe_callTy (hc : CallR X (.type T) r) (hg : Gl X x) (hm : X.mg x = none) (hv : bootBuiltins x = some (.type T)) (ha : PA X (e :: es) t) (hn : autoParam (x ≠ "__name__") Internal.aut1._auto_1) (hdb : autoParam ((x == ("__debug__" : Str)) = false) Internal.aut1._auto_1)
    (he : autoParam (starEach (e :: es) X.env = (false, eval e X.env) :: starEach es X.env) Internal.aut2._auto_1) (hpl : autoParam ((backTo pos (starEach es X.env)).any (·.1) = false) Internal.aut2._auto_1) : PE X (.Call (.Name x p) (e :: es) [] pos) (tCB r t) := by
  intro pins s σ H Q I h
  refine wpAny_Call_Name_kw (ld_blt I hg hm hv ?_ hn hdb)
  exact PyProof.Rows.callWith_type1 (thn (ha pos pins s σ H _ I h) fun us s1 ⟨vs, H1, I1, r1, q1⟩ => hc pins s1 σ H1 vs us Q I1 r1 q1) he hpl
end
end Internal

namespace HT
open PySem PyProof.Rows

section
open PySem.SeqAt
open PySem.AutoSeq1 (wpAny_loadPart')
open PySem.MeetsSeq PySem.MeetsSeq2 PySem.MeetsSeq3

end

section
variable {prog : Program} {w : World} {A : Around} {E : Value → Shared → Prop} {s : Shared}

theorem cat_tup {t b : Addr} {vs ws : List Value} {Q : Value → Shared → Prop} (ht : IsTup s.heap t vs.toArray) (hb : IsTup s.heap b ws.toArray) (hv : vs ≠ [])
    (h1 : ws = [] → Q (.ref t) s) (h2 : ws ≠ [] → Q (.ref s.heap.objs.size) { s with heap := s.heap.push { cls := .type "tuple", data := .seq (vs ++ ws).toArray } })
    (hsz : vs.length + ws.length ≤ sizeLine) : wpAny (model prog w) A (binaryOp .Add (.ref t) (.ref b)) Q E s := by
  obtain ⟨⟨cls, dd, data, sl⟩, ho, hc, n, hd⟩ := id ht
  obtain ⟨⟨cls2, dd2, data2, sl2⟩, ho2, hc2, n2, hd2⟩ := id hb
  simp only at hc hd hc2 hd2
  subst hc hd hc2 hd2
  have e : vs.toArray ++ ws.toArray = (vs ++ ws).toArray := by simp
  by_cases hw : ws = []
  · exact concat_meets ⟨_, ho, rfl⟩ ⟨_, ho2, rfl⟩ noFill_tuple_add seq_tuple_add PySem.F.slot_tuple_add PySem.F.entry_tuple_add (PySem.F.args_tuple_add_2 _ _)
      (tuple_addW1 t b vs.toArray ws.toArray n n2 dd dd2 sl sl2 (by simpa using hv) (by simp [hw])) ⟨ho, ho2, h1 hw⟩
  · refine concat_meets ⟨_, ho, rfl⟩ ⟨_, ho2, rfl⟩ noFill_tuple_add seq_tuple_add PySem.F.slot_tuple_add PySem.F.entry_tuple_add (PySem.F.args_tuple_add_2 _ _)
      (tuple_addW2 t b vs.toArray ws.toArray n n2 dd dd2 sl sl2 (by simpa using hv) (by simpa using hw) (by rw [List.size_toArray, List.size_toArray]; exact hsz)) ⟨ho, ho2, ?_⟩
    rw [e]
    exact h2 hw

noncomputable def sIx (n d : Nat) : Option Int → Nat
  | none => d
  | some v => if v < 0 then (v + (n : Int)).toNat else min v.toNat n
theorem sIx_none (n d : Nat) : sIx n d none = d := rfl
theorem sIx_nat (n d k : Nat) : sIx n d (some (k : Int)) = min k n := by
  show (if (k : Int) < 0 then ((k : Int) + (n : Int)).toNat else min (k : Int).toNat n) = min k n
  rw [if_neg (by omega), Int.toNat_natCast]
theorem sIx_le (n d : Nat) (hd : d ≤ n) (o : Option Int) : sIx n d o ≤ n := by
  cases o with
  | none => exact hd
  | some v =>
    show (if v < 0 then (v + (n : Int)).toNat else min v.toNat n) ≤ n
    by_cases hv : v < 0
    · rw [if_pos hv]; omega
    · rw [if_neg hv]; exact Nat.min_le_right _ _
theorem clip_eq (v : Int) (n d : Nat) : (if v < 0 then max (v + (n : Int)) 0 else min v (n : Int)) = ((sIx n d (some v) : Nat) : Int) := by
  show (if v < 0 then max (v + (n : Int)) 0 else min v (n : Int)) = (((if v < 0 then (v + (n : Int)).toNat else min v.toNat n) : Nat) : Int)
  by_cases hv : v < 0
  · simp only [if_pos hv]; omega
  · simp only [if_neg hv]; omega
theorem adjust_gen (lo hi : Option Int) (n : Nat) : Builtin.Slice.sliceAdjust lo hi 1 (n : Int) = (((sIx n 0 lo : Nat) : Int), ((sIx n n hi : Nat) : Int)) := by
  have h1 : ¬ ((1 : Int) < 0) := by omega
  unfold Builtin.Slice.sliceAdjust
  simp only [h1, if_false]
  refine Prod.ext ?_ ?_
  · cases lo with
    | none => rfl
    | some v => exact clip_eq v n 0
  · cases hi with
    | none => rfl
    | some v => exact clip_eq v n n
theorem places_gen (i j : Nat) : Builtin.Slice.slicePlaces (i : Int) (j : Int) 1 = j - i := by
  unfold Builtin.Slice.slicePlaces
  have h1 : (1 : Int) > 0 := by omega
  simp only [h1, if_true, Int.ediv_one]
  split <;> omega
theorem slicePart_ {v : Value} {o : Option Int} {Q : Option Int → Shared → Prop} (p : IsPart v o) (h : Q o s) : wpAny (model prog w) A (Builtin.Slice.slicePartIndex v) Q E s := by
  cases p with
  | none => exact slicePart_none h
  | int i t => exact slicePart_int h
theorem sliceApplied_gen {sl : Addr} {vl vu : Value} {lo hi : Option Int} {n : Nat} {Q : Int × Int × Nat → Shared → Prop} (hs : s.heap.IsSliceOf sl vl vu .none) (pl : IsPart vl lo) (pu : IsPart vu hi)
    (h : Q (((sIx n 0 lo : Nat) : Int), 1, sIx n n hi - sIx n 0 lo) s) : wpAny (model prog w) A (Builtin.Slice.sliceApplied (.ref sl) (pure (n : Int))) Q E s := by
  obtain ⟨os, hos, hcs, hds⟩ := id hs
  unfold Builtin.Slice.sliceApplied Builtin.Slice.sliceFields
  refine wpAny_bind (wpAny_bind (wpAny_field hos hds (x := vl) rfl (wpAny_bind (wpAny_field hos hds (x := vu) rfl (wpAny_bind (wpAny_field hos hds (x := .none) rfl (wpAny_pure ?_)))))))
  refine wpAny_bind (slicePart_none ?_)
  show wpAny _ _ (if ((1 : Int) == 0) = true then _ else _) _ _ s
  rw [if_neg (by decide)]
  refine wpAny_bind (slicePart_ pl (wpAny_bind (slicePart_ pu (wpAny_bind (wpAny_pure ?_)))))
  show wpAny _ _ (match Builtin.Slice.sliceAdjust lo hi 1 (n : Int) with | (lo, hi) => pure (lo, (1 : Int), Builtin.Slice.slicePlaces lo hi 1)) _ _ s
  rw [adjust_gen lo hi n]
  show wpAny _ _ (pure (((sIx n 0 lo : Nat) : Int), (1 : Int), Builtin.Slice.slicePlaces ((sIx n 0 lo : Nat) : Int) ((sIx n n hi : Nat) : Int) 1)) _ _ s
  rw [places_gen]
  exact wpAny_pure h
theorem pick_gen (xs : Array Value) (i k : Nat) : ((List.range k).filterMap fun (m : Nat) => xs[((i : Int) + (m : Int) * 1).toNat]?).toArray = ((xs.toList.drop i).take k).toArray := by
  have e : (fun (m : Nat) => xs[((i : Int) + (m : Int) * 1).toNat]?) = fun m => xs[i + m]? := by
    funext m
    have : ((i : Int) + (m : Int) * 1).toNat = i + m := by omega
    rw [this]
  rw [e]
  have := pick_run xs i k
  rw [List.filterMap_map] at this
  have e2 : ((fun x => xs[x]?) ∘ fun x => i + x) = fun m => xs[i + m]? := rfl
  rw [e2] at this
  rw [this]

theorem getItem_tuple_cut {t sl : Addr} {items : Array Value} {vl vu : Value} {lo hi : Option Int} {Q : Value → Shared → Prop} (ht : IsTup s.heap t items) (hs : s.heap.IsSliceOf sl vl vu .none) (pl : IsPart vl lo) (pu : IsPart vu hi)
    (hw : ¬ (sIx items.size 0 lo = 0 ∧ sIx items.size items.size hi = items.size))
    (h : Q (.ref s.heap.objs.size) { s with heap := s.heap.push { cls := .type "tuple", data := .seq ((items.toList.drop (sIx items.size 0 lo)).take (sIx items.size items.size hi - sIx items.size 0 lo)).toArray } })
    (hsz : items.size ≤ sizeLine) : wpAny (model prog w) A (getItem (.ref t) (.ref sl)) Q E s := by
  have htake : sizeOk (.seq ((items.toList.drop (sIx items.size 0 lo)).take (sIx items.size items.size hi - sIx items.size 0 lo)).toArray) := by
    show ((items.toList.drop (sIx items.size 0 lo)).take (sIx items.size items.size hi - sIx items.size 0 lo)).toArray.size ≤ sizeLine
    rw [List.size_toArray, List.length_take, List.length_drop, Array.length_toList]
    omega
  have hj : sIx items.size items.size hi ≤ items.size := sIx_le _ _ (Nat.le_refl _) hi
  obtain ⟨os, hos, hcs, hds⟩ := id hs
  have hTs : s.TypeIs (.ref sl) "slice" := ⟨os, hos, hcs⟩
  unfold getItem
  try with_reducible refine wpAny_holding ?_
  first | refine wpAny_bind (wpAny_pure ?_) | skip
  refine wpAny_bind (wpAny_sequenceKey ht.typeIs (by decide) ?_)
  refine wpAny_bind (wpAny_callSpecial?_slot (name := Str.ofString "__getitem__") ht.typeIs PyProof.Rows.slot_tuple_getitem
    (wpAny_call_entry PyProof.Rows.slot_tuple_getitem ht.typeIs entry_tuple_getitem ?_ (args_tuple_getitem _ _)))
  show wpAny _ _ (Builtin.Tuple.tupleItemsOf (.ref t) >>= _) _ _ s
  refine wpAny_bind (tupleItemsOf_ ht ?_)
  refine wpAny_bind (wpAny_typeOf hTs ?_)
  rw [if_pos (by decide)]
  refine wpAny_bind (sliceApplied_gen hs pl pu ?_)
  have hno : ¬ ((((sIx items.size 0 lo : Nat) : Int) == 0 && (1 : Int) == 1 && (sIx items.size items.size hi - sIx items.size 0 lo) == items.size) = true) := by
    intro q
    rw [Bool.and_eq_true, Bool.and_eq_true] at q
    have q1 : ((sIx items.size 0 lo : Nat) : Int) = 0 := eq_of_beq q.1.1
    have q2 : sIx items.size items.size hi - sIx items.size 0 lo = items.size := eq_of_beq q.2
    exact hw ⟨by omega, by omega⟩
  show wpAny _ _ (if (((sIx items.size 0 lo : Nat) : Int) == 0 && (1 : Int) == 1 && (sIx items.size items.size hi - sIx items.size 0 lo) == items.size) = true then _ else _) _ _ s
  rw [if_neg hno, pick_gen]
  first
    | exact wpAny_bind (m := Builtin.Tuple.tupleExact _) (wpAny_newObj_type (wpAny_pure ⟨_, rfl, wpAny_pure h⟩) htake)
    | exact wpAny_bind (m := Builtin.Tuple.tupleExact _) (wpAny_newObj_type (wpAny_bind (wpAny_pure (wpAny_pure ⟨_, rfl, wpAny_pure h⟩))) htake)
    | exact wpAny_bind (wpAny_bind (m := Builtin.Tuple.tupleExact _) (wpAny_newObj_type (wpAny_pure (wpAny_pure ⟨_, rfl, wpAny_pure h⟩)) htake))
    | exact wpAny_bind (wpAny_bind (m := Builtin.Tuple.tupleExact _) (wpAny_newObj_type (wpAny_pure ⟨_, rfl, wpAny_pure h⟩) htake))
end
end HT

namespace Internal
open PySem PySem.Spec PyProof.Rows

noncomputable abbrev TO := St → Hp → (Option Int → Hp → Prop) → Prop
noncomputable def PO (X : Cx) (e : Option Expr) (t : TO) : Prop :=
  ∀ (pins : List (Addr × Obj)) (s : Shared) (σ : St) (H : Hp) (Q : Option Int → Hp → Prop), Inv X pins σ H s → t σ H Q →
    wpAny (model X.prog X.w) X.A (evalPart e X.env) (fun u s' => ∃ o H', Inv X pins σ H' s' ∧ IsPart u o ∧ Q o H') X.xe s
noncomputable abbrev tNoPart : TO := fun _ H Q => Q none H
noncomputable def tPart (t : TE) : TO := fun σ H Q => t σ H fun x H1 => ∃ i, x = .int i ∧ Q (some i) H1

theorem intsAre_of {ns : List Int} : ∀ {us : List Value}, Vals (ns.map V.int) us → IntsAre us ns := by
  induction ns with
  | nil => intro us r; rw [List.map_nil] at r; cases r; exact .nil
  | cons n ns ih =>
    intro us r
    rw [List.map_cons] at r
    cases r with
    | cons r1 r2 =>
      obtain ⟨t, e⟩ := r1
      subst e
      exact .cons n t (ih r2)

section
variable {X : Cx} {e : Expr} {te : TE} {lo hi : Option Expr} {tl th : TO} {pos p2 : Pos}

theorem po_none : PO X none tNoPart := by
  intro pins s σ H Q I h
  rw [evalPart_none]
  exact wpAny_pure ⟨none, H, I, .none, h⟩
theorem po_some (h : PE X e te) : PO X (some e) (tPart te) := by
  intro pins s σ H Q I hw
  rw [evalPart_some]
  refine thn (h pins s σ H _ I hw) fun u s1 zz => ?_
  obtain ⟨x, H1, I1, r1, q1⟩ := zz
  obtain ⟨i, rfl, q⟩ := q1
  obtain ⟨t, rfl⟩ := r1
  exact ⟨some i, H1, I1, .int i t, q⟩

noncomputable def SlR (X : Cx) (r : V → Option Int → Option Int → Hp → VK → Prop) : Prop :=
  ∀ (pins : List (Addr × Obj)) (s : Shared) (σ : St) (H : Hp) (x : V) (v vl vu : Value) (lo hi : Option Int) (sl : Addr) (Q : VK), Inv X pins σ H s → RelV x v → s.heap.IsSliceOf sl vl vu .none → IsPart vl lo → IsPart vu hi → r x lo hi H Q →
    ∃ T id, typeLookup (.type T) "__getitem__" = pure (some (.builtin id)) ∧ s.TypeIs v T ∧ wpAny (model X.prog X.w) X.A (getItem v (.ref sl)) (EP X pins σ Q) X.xe s
noncomputable abbrev tSl (r : V → Option Int → Option Int → Hp → VK → Prop) (te : TE) (tl th : TO) : TE := fun σ H Q => te σ H fun x H1 => tl σ H1 fun l H2 => th σ H2 fun u H3 => r x l u H3 Q
theorem pe_slice {r : V → Option Int → Option Int → Hp → VK → Prop} (hr : SlR X r) (he : PE X e te) (hl : PO X lo tl) (hu : PO X hi th) : PE X (.Subscript e (.Slice lo hi none p2) pos) (tSl r te tl th) := by
  intro pins s σ H Q I h
  refine Subscript_ (thn (he pins s σ H _ I h) fun v s1 zz => ?_)
  obtain ⟨x, H1, I1, r1, q1⟩ := zz
  refine wpAny_Slice (thn (hl pins s1 σ H1 _ I1 q1) fun vl s2 ⟨l, H2, I2, pl, q2⟩ => thn (hu pins s2 σ H2 _ I2 q2) fun vu s3 zz => ?_)
  obtain ⟨u, H3, I3, pu, q3⟩ := zz
  rw [evalPart_none]
  refine wpAny_pure ?_
  have I4 : Inv X pins σ H3 { s3 with heap := s3.heap.push { cls := .type "slice", data := .fields #[vl, vu, .none] } } := I3.kept (t' := s3.toks) fun b ob q => Heap.get?_push_of_some _ q
  obtain ⟨T, id, hT, ht, hg⟩ := hr pins { s3 with heap := s3.heap.push { cls := .type "slice", data := .fields #[vl, vu, .none] } } σ H3 x v vl vu l u s3.heap.objs.size Q I4 r1 (Heap.IsSliceOf.new ..) pl pu q3
  show wpAny (model X.prog X.w) X.A (subscriptTail e (.Slice lo hi none p2) v (.ref s3.heap.objs.size)) (EP X pins σ Q) X.xe { s3 with heap := s3.heap.push { cls := .type "slice", data := .fields #[vl, vu, .none] } }
  exact tail_any (ops := [.ref s3.heap.objs.size, v]) ht hT hg (by with_unfolding_all rfl)

noncomputable def cutV (xs : List V) (lo hi : Option Int) : List V := (xs.drop (HT.sIx xs.length 0 lo)).take (HT.sIx xs.length xs.length hi - HT.sIx xs.length 0 lo)
theorem cutV_length (xs : List V) (lo hi : Option Int) : (cutV xs lo hi).length ≤ xs.length := by
  unfold cutV
  rw [List.length_take, List.length_drop]
  omega
noncomputable def rSlT (K : PySem.W.Frag) : V → Option Int → Option Int → Hp → VK → Prop := fun x lo hi H Q => ∃ a xs, x = .ref a ∧ SqT K H a xs ∧
  ¬ (HT.sIx xs.length 0 lo = 0 ∧ HT.sIx xs.length xs.length hi = xs.length) ∧ ∀ p, H p = none → Q (.ref p) (upd H p (.tup (cutV xs lo hi)))
theorem sl_tup : SlR X (rSlT X.K) := by
  intro pins s σ H x v vl vu lo hi sl Q I rx hs pl pu h
  obtain ⟨a, xs, rfl, hx, hw, q⟩ := h
  cases rx
  obtain ⟨its, r, ht, hz⟩ := I.tuple hx
  have hlen : its.toArray.size = xs.length := by rw [List.size_toArray]; exact r.length.symm
  refine ⟨"tuple", _, PyProof.Rows.slot_tuple_getitem.lookup, ht.typeIs, ?_⟩
  refine HT.getItem_tuple_cut ht hs pl pu (by rw [hlen]; exact hw) ?_ (by rw [hlen]; exact hz)
  rw [hlen]
  refine ⟨.ref s.heap.objs.size, _, I.laid (t' := s.toks) (o := .tup (cutV xs lo hi)) (fun b ob q => Heap.get?_push_of_some _ q) (Nat.le_refl _) ?_, rfl, q _ (I.hok.fresh (Nat.le_refl _))⟩
  exact ⟨Nat.le_trans (cutV_length xs lo hi) hz, _, (r.drop (HT.sIx xs.length 0 lo)).take (HT.sIx xs.length xs.length hi - HT.sIx xs.length 0 lo), IsTup.new _ _⟩

noncomputable def rCatT (K : PySem.W.Frag) : R2 := fun x y H Q => ∃ a b xs ys, x = .ref a ∧ y = .ref b ∧ SqT K H a xs ∧ SqT K H b ys ∧ xs ≠ [] ∧ xs.length + ys.length ≤ sizeLine ∧
  (ys = [] → Q (.ref a) H) ∧ (ys ≠ [] → ∀ p, H p = none → Q (.ref p) (upd H p (.tup (xs ++ ys))))
theorem Vals.nil_iff {xs : List V} {us : List Value} (r : Vals xs us) : us = [] ↔ xs = [] := by
  cases r with
  | nil => simp
  | cons _ _ => simp
theorem op_catT : OpR X (binaryOp .Add) (rCatT X.K) := by
  intro pins s σ H x y v u Q I rx ry h
  obtain ⟨a, b, xs, ys, rfl, rfl, ha, hb, hx, hz, q1, q2⟩ := h
  cases rx
  cases ry
  obtain ⟨its, r1, p1, _⟩ := I.tuple ha
  obtain ⟨its2, r2, p2, _⟩ := I.tuple hb
  refine HT.cat_tup p1 p2 (fun z => hx (r1.nil_iff.mp z)) (fun z => ⟨.ref a, H, I, rfl, q1 (r2.nil_iff.mp z)⟩) (fun z => ?_) (by rw [← r1.length, ← r2.length]; exact hz)
  refine ⟨.ref s.heap.objs.size, _, I.laid (t' := s.toks) (o := .tup (xs ++ ys)) (fun b ob q => Heap.get?_push_of_some _ q) (Nat.le_refl _) ?_, rfl, q2 (fun w => z (r2.nil_iff.mpr w)) _ (I.hok.fresh (Nat.le_refl _))⟩
  exact ⟨by rw [List.length_append]; exact hz, _, r1.append r2, IsTup.new _ _⟩
end
end Internal

namespace Internal
open PySem PySem.Spec PyProof.Rows

noncomputable def ixN (n : Nat) (i : Int) : Option Nat := if 0 ≤ i then (if i < n then some i.toNat else none) else if -(n : Int) ≤ i then some (i + n).toNat else none
noncomputable def atI {α : Type} (xs : List α) (i : Int) : Option α := (ixN xs.length i).bind fun j => xs[j]?
theorem ixN_seq {n : Nat} {i : Int} {j : Nat} (h : ixN n i = some j) : seqIndex? i n = some j ∧ j < n ∧ -(n : Int) ≤ i ∧ i < n := by
  unfold ixN at h
  by_cases h0 : 0 ≤ i
  · rw [if_pos h0] at h
    by_cases h1 : i < n
    · rw [if_pos h1] at h
      have e : i.toNat = j := Option.some.inj h
      exact ⟨by rw [seqIndex_of h0 h1, e], by omega, by omega, h1⟩
    · rw [if_neg h1] at h; cases h
  · rw [if_neg h0] at h
    by_cases h1 : -(n : Int) ≤ i
    · rw [if_pos h1] at h
      have e : (i + n).toNat = j := Option.some.inj h
      exact ⟨by rw [seqIndex_neg (by omega) h1, e], by omega, h1, by omega⟩
    · rw [if_neg h1] at h; cases h
theorem atI_get {α : Type} {xs : List α} {i : Int} {v : α} (h : atI xs i = some v) : ∃ j, seqIndex? i xs.length = some j ∧ xs[j]? = some v ∧ j < xs.length ∧ -(xs.length : Int) ≤ i ∧ i < xs.length := by
  unfold atI at h
  cases e : ixN xs.length i with
  | none => rw [e] at h; cases h
  | some j =>
    rw [e] at h
    obtain ⟨h1, h2, h3, h4⟩ := ixN_seq e
    exact ⟨j, h1, h, h2, h3, h4⟩
theorem atI_nat {α : Type} {xs : List α} {j : Nat} {v : α} (h : xs[j]? = some v) : atI xs (j : Int) = some v := by
  have hj : j < xs.length := (List.getElem?_eq_some_iff.mp h).1
  have e : ixN xs.length (j : Int) = some j := by
    unfold ixN
    rw [if_pos (by omega), if_pos (by omega)]; simp
  unfold atI; rw [e]; exact h
noncomputable def PlainIx (b : Expr) : Prop := ∀ o i, subscripted b false o i = operate [o, i] (getItem o i)
noncomputable def IxR (X : Cx) (r : R2) : Prop :=
  ∀ (value slice : Expr) (pins : List (Addr × Obj)) (s : Shared) (σ : St) (H : Hp) (x y : V) (v u : Value) (Q : VK), Inv X pins σ H s → RelV x v → RelV y u → r x y H Q →
    subscripted slice false v u = operate [v, u] (getItem v u) → wpAny (model X.prog X.w) X.A (subscriptTail value slice v u) (EP X pins σ Q) X.xe s
noncomputable def MtR (X : Cx) (id : String) (r : V → List V → Hp → VK → Prop) : Prop :=
  ∀ (pins : List (Addr × Obj)) (s : Shared) (σ : St) (H : Hp) (x : V) (xs : List V) (v : Value) (us : List Value) (Q : VK), Inv X pins σ H s → RelV x v → Vals xs us → r x xs H Q →
    wpAny (model X.prog X.w) X.A (call (.builtin id) (v :: us)) (EP X pins σ Q) X.xe s
section
variable {X : Cx} {a b : Expr} {ta tb : TE} {pos : Pos}
theorem IxR.or {r r' : R2} (h : IxR X r) (h' : IxR X r') : IxR X (fun x y H Q => r x y H Q ∨ r' x y H Q) := by
  intro value slice pins s σ H x y v u Q I rx ry q hs
  rcases q with q | q
  · exact h value slice pins s σ H x y v u Q I rx ry q hs
  · exact h' value slice pins s σ H x y v u Q I rx ry q hs
theorem pe_ix {r : R2} (hr : IxR X r) (ha : PE X a ta) (hb : PE X b tb) (hs : PlainIx b) : PE X (.Subscript a b pos) (tOp r ta tb) := by
  intro pins s σ H Q I h
  exact Subscript_ (binT ha hb I h fun v u s2 x y H2 I2 rx ry q => hr a b pins s2 σ H2 x y v u Q I2 rx ry q (hs _ _))

noncomputable def rIxL (K : PySem.W.Frag) : R2 := fun x y H Q => ∃ p xs i v, x = .ref p ∧ y = .int i ∧ SqL K H p xs ∧ atI xs i = some v ∧ Q v H
noncomputable def rIxT (K : PySem.W.Frag) : R2 := fun x y H Q => ∃ p xs i v, x = .ref p ∧ y = .int i ∧ SqT K H p xs ∧ atI xs i = some v ∧ Q v H
noncomputable def rIxS : R2 := fun x y H Q => ∃ z i c, x = .str z ∧ y = .int i ∧ z.length ≤ sizeLine ∧ atI z.cps.toList i = some c ∧ Q (.str ⟨#[c]⟩) H
theorem ix_list : IxR X (rIxL X.K) := by
  intro value slice pins s σ H x y v u Q I rx ry h hs
  obtain ⟨p, xs, i, z, rfl, rfl, hq, he, q⟩ := h
  cases rx
  obtain ⟨t, rfl⟩ := ry
  obtain ⟨its, r, pl, hz⟩ := I.list hq
  obtain ⟨j, h1, h2, h3, h4, h5⟩ := atI_get he
  obtain ⟨w, ew, rw'⟩ := r.get h2
  have hl := r.length
  have hn := line63
  have fin : EP X pins σ Q w s := ⟨z, H, I, rw', q⟩
  by_cases h0 : 0 ≤ i
  · have hj : i.toNat = j := by
      rw [seqIndex_of h0 h5] at h1
      exact Option.some.inj h1
    exact item_listR pl.isList h0 (by omega) (by rw [hj]; simpa using ew) fin hs
  · have hj : (i + (its.toArray.size : Int)).toNat = j := by
      rw [seqIndex_neg (by omega) h4] at h1
      rw [List.size_toArray, ← hl]
      exact Option.some.inj h1
    exact subscriptTail_builtinR (x := w) pl.isList.typeIs slot_list_getitem.lookup
      (wpAny_getItem_list_neg (Q := fun r s' => r = w ∧ EP X pins σ Q r s') pl.isList (by omega) (by rw [List.size_toArray] <;> omega) (by omega) (by rw [hj]; simpa using ew) ⟨rfl, fin⟩) hs
theorem ix_tup : IxR X (rIxT X.K) := by
  intro value slice pins s σ H x y v u Q I rx ry h hs
  obtain ⟨p, xs, i, z, rfl, rfl, hq, he, q⟩ := h
  cases rx
  obtain ⟨t, rfl⟩ := ry
  obtain ⟨its, r, pl, hz⟩ := I.tuple hq
  obtain ⟨j, h1, h2, h3, h4, h5⟩ := atI_get he
  obtain ⟨w, ew, rw'⟩ := r.get h2
  have hl := r.length
  have hn := line63
  have fin : EP X pins σ Q w s := ⟨z, H, I, rw', q⟩
  exact subscriptTail_builtinR (x := w) pl.typeIs slot_tuple_getitem.lookup
    (getItem_tuple (j := j) (Q := fun r s' => r = w ∧ EP X pins σ Q r s') pl (by omega) (by omega) (by rw [List.size_toArray, ← hl]; exact h1) (by simpa using ew) ⟨rfl, fin⟩) hs
theorem ix_str : IxR X rIxS := by
  intro value slice pins s σ H x y v u Q I rx ry h hs
  obtain ⟨z, i, c, rfl, rfl, hz, he, q⟩ := h
  obtain ⟨t, rfl⟩ := rx
  obtain ⟨t', rfl⟩ := ry
  obtain ⟨j, h1, h2, h3, h4, h5⟩ := atI_get he
  have hl : z.cps.toList.length = z.length := by simp [Str.length]
  rw [hl] at h1 h4 h5
  have hn := line63
  exact tail_any (typeIs_str s z t) slot_str_getitem.lookup (getItem_str (c := c) (by
    have e1 : decide (i < -(2 ^ 63 : Int)) = false := decide_eq_false (by omega)
    have e2 : decide (i ≥ 2 ^ 63) = false := decide_eq_false (by omega)
    rw [e1, e2, Bool.or_false]) (by rw [h1]; simpa using h2) ⟨.str ⟨#[c]⟩, H, I.tok _, ⟨_, rfl⟩, q⟩) hs
noncomputable def rIx (K : PySem.W.Frag) : R2 := fun x y H Q => rIxL K x y H Q ∨ rIxT K x y H Q ∨ rIxS x y H Q
theorem ix_seq : IxR X (rIx X.K) := ix_list.or (ix_tup.or ix_str)

theorem mapSeq_set (its : List Value) (n j : Nat) (u : Value) : Obj.mapSeq (·.setIfInBounds j u) { cls := .type "list", data := .seq its.toArray n } = { cls := .type "list", data := .seq (its.set j u).toArray n } := by
  simp [Obj.mapSeq]
theorem Inv.lst {pins : List (Addr × Obj)} {σ : St} {H : Hp} {s : Shared} {p : Addr} {xs : List V} (I : Inv X pins σ H s) (h : H p = some (.lst xs)) :
    ∃ (its : List Value) (n : Nat), Vals xs its ∧ s.heap.get? p = some { cls := .type "list", data := .seq its.toArray n } ∧ xs.length ≤ sizeLine := by
  obtain ⟨z, its, n, r, e⟩ := I.hok p _ h
  exact ⟨its, n, r, e, z⟩
theorem Inv.lstUpd {pins : List (Addr × Obj)} {σ : St} {H : Hp} {s : Shared} {p : Addr} {xs ys : List V} {its its' : List Value} {n n' : Nat} {f : Obj → Obj} (I : Inv X pins σ H s) (h : H p = some (.lst xs))
    (ho : s.heap.get? p = some { cls := .type "list", data := .seq its.toArray n }) (hf : f { cls := .type "list", data := .seq its.toArray n } = { cls := .type "list", data := .seq its'.toArray n' }) (r : Vals ys its') (hz : ys.length ≤ sizeLine) (t : Nat) :
    Inv X pins σ (upd H p (.lst ys)) { s with heap := s.heap.update p f, toks := t } := by
  have e : (s.heap.update p f).get? p = some { cls := .type "list", data := .seq its'.toArray n' } := by
    rw [Heap.get?_update_self f ho (by rw [hf] <;> rfl), hf]
  refine I.write (x := p) (e := p) (by rw [h]; trivial) (.inl rfl) (fun b u hb q => (Heap.get?_update_other _ _ (Ne.symm hb)).trans q) ⟨_, e⟩ ?_
  exact ⟨hz, its', n', r, e⟩
noncomputable def rSetL : V → V → V → Hp → (Hp → Prop) → Prop := fun o i v H Q => ∃ p xs k j, o = .ref p ∧ i = .int k ∧ H p = some (.lst xs) ∧ ixN xs.length k = some j ∧ Q (upd H p (.lst (xs.set j v)))
theorem set_list : PSet X rSetL := by
  intro pins s σ H o i v ov iv u Q I ro ri rv h
  obtain ⟨p, xs, k, j, rfl, rfl, hp, hj, q⟩ := h
  cases ro
  obtain ⟨t, rfl⟩ := ri
  obtain ⟨its, n, r, ho, hz⟩ := I.lst hp
  obtain ⟨h1, h2, h3, h4⟩ := ixN_seq hj
  have hl := r.length
  have hn := line63
  have I' : Inv X pins σ (upd H p (.lst (xs.set j v))) { s with heap := s.heap.update p (Obj.mapSeq (·.setIfInBounds j u)) } :=
    I.lstUpd hp ho (mapSeq_set its n j u) (r.set rv j) (by rw [List.length_set]; exact hz) s.toks
  by_cases h0 : 0 ≤ k
  · have hk : k.toNat = j := by
      rw [seqIndex_of h0 h4] at h1
      exact Option.some.inj h1
    exact PySem.W.ki_setAt ho h0 (by omega) (by rw [List.size_toArray, ← hl]; exact h4) (by rw [hk]; exact ⟨_, I', q⟩)
  · have hk : (k + (its.toArray.size : Int)).toNat = j := by
      rw [seqIndex_neg (by omega) h3] at h1
      rw [List.size_toArray, ← hl]
      exact Option.some.inj h1
    exact PySem.W.ki_setBack ho (by omega) (by rw [List.size_toArray, ← hl]; exact h3) (by omega) (by rw [hk]; exact ⟨_, I', q⟩)

theorem slice_bounds (lo hi : Option Int) (n : Nat) : (sliceBounds lo hi none n).1 = ((HT.sIx n 0 lo : Nat) : Int) ∧ (sliceBounds lo hi none n).2.1 = ((HT.sIx n n hi : Nat) : Int) ∧ (sliceBounds lo hi none n).2.2 = 1 := by
  refine ⟨?_, ?_, rfl⟩
  · cases lo with
    | none => simp [sliceBounds, HT.sIx]
    | some i =>
      simp only [sliceBounds, HT.sIx, Option.getD_none, show (1 : Int) > 0 by decide, if_true]
      by_cases h : i < 0
      · simp only [h, if_true] <;> omega
      · simp only [h, if_false] <;> omega
  · cases hi with
    | none => simp [sliceBounds, HT.sIx]
    | some i =>
      simp only [sliceBounds, HT.sIx, Option.getD_none, show (1 : Int) > 0 by decide, if_true]
      by_cases h : i < 0
      · simp only [h, if_true] <;> omega
      · simp only [h, if_false] <;> omega
theorem slicePick_cut (its : List Value) (lo hi : Option Int) : slicePick its.toArray lo hi none = ((its.drop (HT.sIx its.length 0 lo)).take (HT.sIx its.length its.length hi - HT.sIx its.length 0 lo)).toArray := by
  obtain ⟨h1, h2, h3⟩ := slice_bounds lo hi its.toArray.size
  unfold slicePick
  rw [h1, h2, h3]
  simp only [sliceRange_one, pick_run, List.size_toArray] <;> rfl
noncomputable def rSlL (K : PySem.W.Frag) : V → Option Int → Option Int → Hp → VK → Prop := fun x lo hi H Q => ∃ a xs, x = .ref a ∧ SqL K H a xs ∧ ∀ p, H p = none → Q (.ref p) (upd H p (.lst (cutV xs lo hi)))
theorem sl_list : SlR X (rSlL X.K) := by
  intro pins s σ H x v vl vu lo hi sl Q I rx hs pl pu h
  obtain ⟨a, xs, rfl, hx, q⟩ := h
  cases rx
  obtain ⟨its, r, ht, hz⟩ := I.list hx
  have hlen := r.length
  refine ⟨"list", _, slot_list_getitem.lookup, ht.isList.typeIs, ?_⟩
  refine wpAny_getItem_list_slice ht.isList hs pl pu .none (by simp) ?_ (by rw [List.size_toArray] <;> omega)
  rw [slicePick_cut, ← hlen]
  refine ⟨.ref s.heap.objs.size, _, I.laid (t' := s.toks) (o := .lst (cutV xs lo hi)) (fun b ob q => Heap.get?_push_of_some _ q) (Nat.le_refl _) ?_, rfl, q _ (I.hok.fresh (Nat.le_refl _))⟩
  exact ⟨Nat.le_trans (cutV_length xs lo hi) hz, _, 0, (r.drop (HT.sIx xs.length 0 lo)).take (HT.sIx xs.length xs.length hi - HT.sIx xs.length 0 lo), Heap.get?_push_size _ rfl⟩

theorem call_len_seq : CallR X (.builtin "len") (fun xs H Q => ∃ p ys, xs = [.ref p] ∧ (SqL X.K H p ys ∨ SqT X.K H p ys) ∧ Q (.int ys.length) H) := by
  intro pins s σ H xs us Q I r h
  obtain ⟨p, ys, rfl, hq, q⟩ := h
  obtain ⟨u, rfl, rx⟩ := vals1 r
  cases rx
  have hn := line63
  rcases hq with hq | hq
  · obtain ⟨its, r', pl, hz⟩ := I.list hq
    have hlen := r'.length
    exact Calls.call_len_list pl.isList (by simp only [List.size_toArray] <;> omega) ⟨.int ys.length, H, I.tok _, ⟨s.toks + 1, by rw [List.size_toArray, hlen]⟩, q⟩
  · obtain ⟨its, r', pl, hz⟩ := I.tuple hq
    have hlen := r'.length
    exact len_tuple pl (by simp only [List.size_toArray] <;> omega) ⟨.int ys.length, H, I.tok _, ⟨s.toks + 1, by rw [List.size_toArray, hlen]⟩, q⟩
theorem CallR.or {f : Value} {r r' : List V → Hp → VK → Prop} (h : CallR X f r) (h' : CallR X f r') : CallR X f (fun xs H Q => r xs H Q ∨ r' xs H Q) := by
  intro pins s σ H xs us Q I rs q
  rcases q with q | q
  · exact h pins s σ H xs us Q I rs q
  · exact h' pins s σ H xs us Q I rs q
noncomputable def tyV (K : PySem.W.Frag) (T : String) (x : V) (H : Hp) : Prop := match x with
  | .str _ => T = "str"
  | .int _ => T = "int"
  | .ref p => (T = "list" ∧ ∃ xs, SqL K H p xs) ∨ (T = "tuple" ∧ ∃ o, K.lookup p = some o ∧ o.cls = .type "tuple" ∧ o.dict = none) ∨
      (T = "dict" ∧ ((∃ kvs, H p = some (.dK kvs)) ∨ ∃ kvs, H p = some (.dT kvs))) ∨ (T = "set" ∧ ∃ S n, H p = some (.set S n))
  | _ => False
theorem tyV_is {pins : List (Addr × Obj)} {σ : St} {H : Hp} {s : Shared} {T : String} {x : V} {v : Value} (I : Inv X pins σ H s) (r : RelV x v) (ty : tyV X.K T x H) :
    s.TypeIs v T ∧ ∀ a, v = .ref a → ∃ ob, s.heap.get? a = some ob ∧ ob.dict = none := by
  cases x with
  | str z =>
    obtain ⟨t, rfl⟩ := r
    cases (show T = "str" from ty)
    exact ⟨typeIs_str s z t, fun _ e => nomatch e⟩
  | int i =>
    obtain ⟨t, rfl⟩ := r
    cases (show T = "int" from ty)
    exact ⟨typeIs_int s i t, fun _ e => nomatch e⟩
  | ref p =>
    cases r
    rcases ty with ⟨rfl, xs, hq⟩ | ⟨rfl, o, hk, hc, hd⟩ | ⟨rfl, hk⟩ | ⟨rfl, S, n, hk⟩
    · obtain ⟨its, _, pl, _⟩ := I.list hq
      refine ⟨pl.isList.typeIs, fun a e => ?_⟩
      cases e
      obtain ⟨o, n, e, c, hd, _⟩ := pl
      exact ⟨o, e, hd⟩
    · refine ⟨⟨o, I.kIn p o hk, hc⟩, fun a e => ?_⟩
      cases e
      exact ⟨o, I.kIn _ o hk, hd⟩
    · have z : ∃ o, s.heap.get? p = some o ∧ o.ExactDict := by
        rcases hk with ⟨kvs, hk⟩ | ⟨kvs, hk⟩
        · obtain ⟨_, _, _, _, o, _, _, e, ex, _⟩ := I.hok p _ hk
          exact ⟨o, e, ex⟩
        · obtain ⟨_, _, _, _, o, _, _, e, ex, _⟩ := I.hok p _ hk
          exact ⟨o, e, ex⟩
      obtain ⟨o, e, ex⟩ := z
      refine ⟨⟨o, e, ex.1⟩, fun a e2 => ?_⟩
      cases e2
      exact ⟨o, e, ex.2.1⟩
    · obtain ⟨o, _, _, _, e, ex, _⟩ := I.hok p _ hk
      refine ⟨⟨o, e, ex.1⟩, fun a e2 => ?_⟩
      cases e2
      exact ⟨o, e, ex.2.1⟩
  | _ => exact False.elim ty
noncomputable def tBM (K : PySem.W.Frag) (T : String) (r : V → List V → Hp → VK → Prop) (to : TE) (t : TA) : TE := fun σ H Q => to σ H fun x H1 => tyV K T x H1 ∧ t σ H1 fun xs H2 => r x xs H2 Q
variable {o e : Expr} {es : List Expr} {to : TE} {t : TA} {name : Str} {apos cpos : Pos} {T id : String} {r : V → List V → Hp → VK → Prop}
theorem pe_bm (pa : PlainAttrs T) (slot : Slot T name id) (hty : typeOf (.builtin id) = pure (.type "method_descriptor")) (hm : MtR X id r) (ho : PE X o to) (ha : PA X (e :: es) t)
    (hbase : autoParam (attributeBase o name X.env (eval o X.env) = eval o X.env) Internal.aut2._auto_1)
    (hfew : autoParam (((backTo cpos (starEach (e :: es) X.env)).all (fun x => !x.1) && (backToKw cpos (keywordEach [] X.env)).all (fun x => x.1.isSome)
      && decide ((e :: es).length + ([] : List Keyword).length + (if ([] : List Keyword).isEmpty then 0 else 1) < 30)) = true) Internal.aut2._auto_1)
    (hline : autoParam ((apos.endLine == cpos.line) = true) Internal.aut2._auto_1) (hs : autoParam (starEach (e :: es) X.env = (false, eval e X.env) :: starEach es X.env) Internal.aut2._auto_1) (hplain : autoParam ((backTo cpos (starEach es X.env)).any (·.1) = false) Internal.aut2._auto_1) :
    PE X (.Call (.Attribute o name apos) (e :: es) [] cpos) (tBM X.K T r to t) := by
  intro pins s σ H Q I h
  refine wpAny_Call_method_late hbase hfew hline rfl (thn (ho pins s σ H _ I h) fun v s1 zz => ?_)
  obtain ⟨x, H1, I1, r1, ty, q1⟩ := zz
  obtain ⟨h1, h2⟩ := tyV_is I1 r1 ty
  refine ⟨T, id, pa, slot, hty, h1, h2, ?_⟩
  have hA := ha cpos pins s1 σ H1 _ I1 q1
  rw [hs] at hA ⊢
  refine Calls.callWith_builtin (by show (false || (backTo cpos (starEach es X.env)).any (·.1)) = false; rw [hplain] <;> rfl) (Calls.evalArgs_plain ?_)
  exact thn hA fun us s2 ⟨vs, H2, I2, r2, q2⟩ => hm pins s2 σ H2 x vs v us Q I2 r1 r2 q2
/- xs.append(e), list.index on a module's tuple .. are MtR facts of 06m -/
end
end Internal

namespace Internal
open PySem PySem.Spec PyProof.Rows

noncomputable def MtM (X : Cx) (id : String) (r : V → List V → Hp → VK → Prop) : Prop :=
  ∀ (pins : List (Addr × Obj)) (s : Shared) (σ : St) (H : Hp) (x : V) (xs : List V) (v : Value) (us : List Value) (Q : VK), Inv X pins σ H s → RelV x v → Vals xs us → r x xs H Q →
    wpAny (model X.prog X.w) X.A (call (.builtin id) (v :: us)) (EP X pins σ Q) X.xe s

theorem Vals.one : ∀ {x : V} {us : List Value}, Vals [x] us → ∃ u, us = [u] ∧ RelV x u
  | _, _, h => by
    cases h with
    | cons r t => cases t; exact ⟨_, rfl, r⟩
theorem Vals.rep {xs : List V} {us : List Value} (h : Vals xs us) : ∀ k : Nat, Vals (List.replicate k xs).flatten (List.replicate k us).flatten
  | 0 => .nil
  | k + 1 => by
    rw [List.replicate_succ, List.replicate_succ, List.flatten_cons, List.flatten_cons]
    exact Vals.append h (Vals.rep h k)
theorem foldl_rep (its : List Value) : ∀ (k : Nat) (acc : List Value),
    List.foldl (fun x1 x2 => x1 ++ x2) acc.toArray (List.replicate k its.toArray) = (acc ++ (List.replicate k its).flatten).toArray
  | 0, acc => by simp
  | k + 1, acc => by
    have e : acc.toArray ++ its.toArray = (acc ++ its).toArray := by simp
    have e2 : (acc ++ its) ++ (List.replicate k its).flatten = acc ++ (List.replicate (k + 1) its).flatten := by
      rw [List.replicate_succ, List.flatten_cons, List.append_assoc]
    rw [← e2, ← foldl_rep its k (acc ++ its), ← e, List.replicate_succ, List.foldl_cons]

section
variable {X : Cx} {pins : List (Addr × Obj)} {σ : St} {H : Hp} {s : Shared} {l b : Addr} {xs ys zs : List V}

theorem Inv.lset {its its' : List Value} {n : Nat} {f : Array Value → Array Value} {t' : Nat} (I : Inv X pins σ H s) (hH : H l = some (.lst xs))
    (e : s.heap.get? l = some { cls := .type "list", data := .seq its.toArray n }) (hf : f its.toArray = its'.toArray) (hv : Vals ys its') (hz : ys.length ≤ sizeLine) :
    Inv X pins σ (upd H l (.lst ys)) { s with heap := s.heap.update l (Obj.mapSeq f), toks := t' } := by
  have q := PySem.IsL.update e f
  rw [hf] at q
  refine I.write (x := l) (e := l) (by rw [hH]; exact trivial) (.inl rfl) (fun b' u hb hu => (Heap.get?_update_other s.heap (Obj.mapSeq f) (Ne.symm hb)).trans hu) ⟨_, q⟩ ?_
  exact ⟨hz, its', _, hv, q⟩
theorem Inv.lnew {its : List Value} {t' : Nat} (I : Inv X pins σ H s) (hv : Vals ys its) (hz : ys.length ≤ sizeLine) :
    Inv X pins σ (upd H s.heap.objs.size (.lst ys)) { s with heap := s.heap.push { cls := .type "list", data := .seq its.toArray }, toks := t' } :=
  I.laid (fun _ _ q => Heap.get?_push_of_some _ q) (Nat.le_refl _) ⟨hz, its, 0, hv, Heap.get?_push_size _ rfl⟩
theorem Inv.fresh (I : Inv X pins σ H s) : H s.heap.objs.size = none := I.hok.fresh (Nat.le_refl _)
theorem Inv.lstM (I : Inv X pins σ H s) (hH : H l = some (.lst xs)) : xs.length ≤ sizeLine ∧ ∃ (its : List Value) (n : Nat), Vals xs its ∧ xs.length = its.length ∧ s.heap.get? l = some { cls := .type "list", data := .seq its.toArray n } := by
  obtain ⟨z, its, n, r, e⟩ := I.hok l _ hH
  exact ⟨z, its, n, r, r.length, e⟩

theorem notLongL {n : Nat} (h : n ≤ sizeLine) : Builtin.List.listTooLong n = false := by
  unfold Builtin.List.listTooLong
  exact decide_eq_false (by omega)
end

section
variable {X : Cx}

noncomputable def rAppend : V → List V → Hp → VK → Prop := fun x vs H Q => ∃ l xs y, x = .ref l ∧ vs = [y] ∧ H l = some (.lst xs) ∧ xs.length < sizeLine ∧ Q .non (upd H l (.lst (xs ++ [y])))
theorem mt_append : MtM X "list.append" rAppend := by
  intro pins s σ H x vs v us Q I rx rv h
  obtain ⟨l, xs, y, rfl, rfl, hH, hz, q⟩ := h
  cases rx
  obtain ⟨u, rfl, ru⟩ := rv.one
  obtain ⟨z, its, n, r, hl, e⟩ := I.lstM hH
  refine call_meets F.slot_list_append ⟨_, e, rfl⟩ F.entry_list_append (F.args_list_append_2 _ _) (PySem.list_append l its.toArray n u (by rw [List.size_toArray]; omega)) ⟨e, ?_⟩
  refine ⟨.non, _, I.lset (its' := its ++ [u]) hH e (by simp) (r.append (.cons ru .nil)) ?_, rfl, q⟩
  rw [List.length_append, List.length_singleton]
  omega

noncomputable def rCat : R2 := fun x y H Q => ∃ l b xs zs, x = .ref l ∧ y = .ref b ∧ H l = some (.lst xs) ∧ H b = some (.lst zs) ∧ xs.length + zs.length ≤ sizeLine ∧ ∀ p, H p = none → Q (.ref p) (upd H p (.lst (xs ++ zs)))
theorem op_cat : OpR X (binaryOp .Add) rCat := by
  intro pins s σ H x y v u Q I rx ry h
  obtain ⟨l, b, xs, zs, rfl, rfl, hH, hB, hz, q⟩ := h
  cases rx
  cases ry
  obtain ⟨z, its, n, r, hl, e⟩ := I.lstM hH
  obtain ⟨z2, its2, n2, r2, hl2, e2⟩ := I.lstM hB
  refine PySem.P.add_list e e2 ?_ (by rw [List.size_toArray, List.size_toArray]; omega)
  have ea : its.toArray ++ its2.toArray = (its ++ its2).toArray := by simp
  rw [ea]
  exact ⟨.ref _, _, I.lnew (t' := s.toks) (r.append r2) (by rw [List.length_append]; omega), rfl, q _ I.fresh⟩
noncomputable def rRep : R2 := fun x y H Q => ∃ l k xs, x = .ref l ∧ y = .int k ∧ H l = some (.lst xs) ∧ -(2 ^ 63) ≤ k ∧ k < 2 ^ 63 ∧ xs.length * k.toNat ≤ sizeLine ∧
  ∀ p, H p = none → Q (.ref p) (upd H p (.lst (List.replicate k.toNat xs).flatten))
theorem len_rep {α : Type} (xs : List α) (k : Nat) : (List.replicate k xs).flatten.length = k * xs.length := by
  induction k with
  | zero => simp
  | succ k ih => rw [List.replicate_succ, List.flatten_cons, List.length_append, ih, Nat.succ_mul, Nat.add_comm]
theorem op_rep : OpR X (binaryOp .Mult) rRep := by
  intro pins s σ H x y v u Q I rx ry h
  obtain ⟨l, k, xs, rfl, rfl, hH, h1, h2, hz, q⟩ := h
  cases rx
  obtain ⟨t, rfl⟩ := ry
  obtain ⟨z, its, n, r, hl, e⟩ := I.lstM hH
  have hlen : its.toArray.size * k.toNat ≤ sizeLine := by rw [List.size_toArray, ← hl]; exact hz
  have hcap : ¬ its.toArray.size * k.toNat > (2 ^ 63 - 1) / 8 := by
    have : (sizeLine : Nat) ≤ (2 ^ 63 - 1) / 8 := by decide
    omega
  have hfit : ¬ (!Builtin.List.listFitsIndex k) = true := by
    rw [fitsIndex_both h1 h2]
    exact Bool.false_ne_true
  have hlong : ¬ Builtin.List.listTooLong (its.toArray.size * k.toNat) = true := by
    rw [notLongL hlen]
    exact Bool.false_ne_true
  have hnew : List.foldl (fun x1 x2 => x1 ++ x2) #[] (List.replicate (if its.toArray.isEmpty = true then 0 else k.toNat) its.toArray) = (List.replicate k.toNat its).flatten.toArray := by
    have f0 : ∀ m : Nat, List.foldl (fun x1 x2 => x1 ++ x2) #[] (List.replicate m its.toArray) = (List.replicate m its).flatten.toArray := fun m => by
      have := foldl_rep its m []
      rw [List.nil_append] at this
      exact this
    rw [f0]
    cases its with
    | nil => simp
    | cons a r' => rw [if_neg (by simp)]
  refine wpAny_binaryOp_repeat_ref (T := "list") (U := "int") (by decide) ⟨_, e, rfl⟩ (fun s' => typeIs_int s' k t) noFill_list_mul F.fills_int_mul F.slot_int_rmul repeat_list F.slot_int_index.lookup
    (call_meets F.slot_int_rmul (typeIs_int s k t) F.entry_int_rmul (F.args_int_rmul_2 _ _) (int___rmul___int_list k t l its.toArray n)
      ⟨e, rfl, ⟨_, e, rfl⟩, call_meets F.slot_list_mul ⟨_, e, rfl⟩ F.entry_list_mul (F.args_list_mul_2 _ _) (AutoListH.list___mul___list_int_3 l its.toArray n k t hfit hcap hlong) ⟨e, ?_⟩⟩)
  rw [hnew]
  exact ⟨.ref _, _, I.lnew (t' := s.toks) (r.rep k.toNat) (by rw [len_rep, Nat.mul_comm]; exact hz), rfl, q _ I.fresh⟩

end

section
variable {prog : Program} {w : World} {A : Around} {E : Value → Shared → Prop} {s : Shared}
end

section
variable {X : Cx}
end
end Internal

namespace Att
open PySem PySem.W PySem.Calls PyProof.Rows

theorem ints_of_wellAll {P : Params} {h : Heap} : ∀ (ns : List Int) (vs : List Value), WellAll P h vs (ns.map WData.int) → IntsAre vs ns := by
  intro ns
  induction ns with
  | nil =>
    intro vs w
    rw [List.map_nil] at w
    cases w
    exact .nil
  | cons n ns ih =>
    intro vs w
    rw [List.map_cons] at w
    cases w with
    | cons a b =>
      cases a
      exact .cons _ _ (ih _ b)

theorem script_of {l : OpenLaw} {n : Nat} (hn : l.most = some n) {P : Params} {h : Heap} {args : List WData} {vals : List Value}
    (hpre : l.row.toRowW.claim.pre args = true) (hwl : WellAll P h vals args) :
    ∃ a vs ns, vals = [Value.ref a] ∧ args = [WData.list (ns.map WData.int)] ∧ h.get? a = some { cls := .type "list", data := .seq vs.toArray } ∧ IntsAre vs ns ∧ ns.length ≤ n := by
  have hsh : WShape.hasAll [] args [.list .int] = true := (pre_splitW hpre).1
  have hc : l.pre.holds [] { args := args } = true := (pre_splitW hpre).2
  obtain ⟨d, r, rfl, h1, h2⟩ := hasAllW_cons hsh
  obtain rfl := hasAllW_nil h2
  obtain ⟨xs, rfl, h3⟩ := hasW_list h1
  obtain ⟨ns, rfl⟩ := items_int h3
  have hlen : ns.length ≤ n := by
    unfold OpenLaw.pre at hc
    have h4 : (WTm.not (.lt (.lit (.int (n : Int))) (.len (.arg 0)))).holds [] { args := [.list (ns.map .int)] } = true := by
      have h4 := (holds_andW hc).1
      rw [hn] at h4
      exact h4
    have h5 := condW_of h4 (w_not (w_lt w_lit (w_len_list (w_arg rfl))))
    rw [List.length_map] at h5
    refine Nat.le_of_not_lt fun q => ?_
    have q' : (n : Int) < ((ns.length : Nat) : Int) := by omega
    first
      | (rw [decide_eq_true q'] at h5; exact absurd h5 (by decide))
      | (simp at h5; omega)
  cases hwl with
  | cons w1 w2 =>
    cases w2
    cases w1 with
    | list ho hall => exact ⟨_, _, ns, rfl, rfl, ho, ints_of_wellAll ns _ hall, hlen⟩

theorem post_true (l : OpenLaw) (args : List WData) : l.row.toRowW.claim.post args (.bool true) args = true :=
  postW_of (r := l.row.toRowW) (X := (true == true))
    (show WShape.has [] (.bool true) .bool = true by first | rfl | decide | simp [WShape.has, WShape.arms, WShape.armsAll])
    (show (WTm.eq .res (.lit (.bool true))).value [] { args := args, res := some (.bool true), after := args } = some (.bool (true == true)) from w_eq_bool (w_res rfl) w_lit) rfl

theorem attach_call {l : OpenLaw} {n : Nat} {q : Program} {loose : List Str} {XP : (Str → Option Value) → Heap → Prop} {YP : World → Heap → Prop} {d : DefRec}
    (hn : l.most = some n) (hdf : d.params.defaults = [])
    (call : ∀ (w : World) (s₀ s₁ : Shared) (mg mb : Str → Option Value) (fa : Addr) (o : Obj) (pm cd doc : Value) (a : Addr) (vs : List Value) (ns : List Int),
      Ground q loose [] XP w s₀ mg mb s₁.heap → YP w s₁.heap →
      s₁.heap.get? fa = some o → o.data = .func (docDef d.name d.params d.body d.scope pm cd doc) → s₁.heap.CodeRec cd d.name → mg d.name = some (.ref fa) →
      s₁.heap.get? a = some { cls := .type "list", data := .seq vs.toArray } → IntsAre vs ns → ns.length ≤ n → s₁.gens = #[] →
      codeAny (model l.prog w) callerA (.call (.ref fa) ⟨[.ref a], []⟩) (fun r s' => r = .ok (.ret (.bool true)) ∧ OldK s₁.heap s'.heap ∧ s'.os = s₁.os ∧ AllBare s'.gens) s₁) :
    WalkO q loose XP YP l.row.toRowW d [] (fun f vs => PySem.call f vs) := by
  intro w s₀ s₁ mg mb G Y fa o pm cd doc dV kV ho hd hcd hD hmg hg args vals as hpre hlay hrd hwl hlo
  obtain rfl : dV = .none := Dflts.none hD hdf
  obtain rfl : kV = .none := Dflts.noKw hD
  obtain ⟨a, vs, ns, rfl, rfl, hobj, hints, hlen⟩ := script_of hn hpre hwl
  refine enter_call (codeAny_mono (call w s₀ s₁ mg mb fa o pm cd doc a vs ns G Y ho (fd_plain hd) hcd hmg hobj hints hlen hg) fun r s' hq => ?_)
  obtain ⟨rfl, h2, h3, h4⟩ := hq
  exact ⟨.inl ⟨.bool true, .bool true, [], rfl, fun _ => rfl, .bool true, post_true l _, fun _ => ⟨List.Pairwise.nil, fun _ hm => (nomatch hm)⟩⟩, h2, h3, h4⟩

section
variable {prog : Program} {w : World} {A : Around} {E : Value → Shared → Prop} {s : Shared} {K : Frag}

noncomputable def ledger (h : Heap) (L d : Addr) : List (Addr × Obj) := (List.range h.objs.size).filterMap fun a => if a = L ∨ a = d then none else (h.get? a).map fun o => (a, o)
end
end Att

namespace Internal
open PySem PySem.Spec PyProof.Rows

theorem vals_ints : ∀ {vs : List Value} {ns : List Int}, IntsAre vs ns → Vals (ns.map V.int) vs
  | _, _, .nil => .nil
  | _, _, .cons n t h => .cons ⟨t, rfl⟩ (vals_ints h)

noncomputable def Only (H : Hp) : Prop := ∀ b, H b = none ∨ ∃ o xs, H b = some (.frz o (.lst xs))

theorem law_call {P : Program} {w : World} {K : PySem.W.Frag} {mg mb : Str → Option Value} {CX : CXT} {k : Nat} {fa a : Addr} {fd : FuncData} {x : Str} {sp : Sp} {s₁ : Shared} {vs : List Value} {ns : List Int}
    (KX : K.In s₁.heap) (hns : s₁.heap.Ns mainGlobals mg) (hb : s₁.heap.Ns builtinsNs mb) (hbb : ∀ x : Str, x ≠ "__name__" → mb x = bootBuiltins x) (hlim : s₁.heap.NoLimit) (hg : s₁.gens = #[])
    (ha : s₁.heap.get? a = some { cls := .type "list", data := .seq vs.toArray }) (hi : IntsAre vs ns) (hl : ns.length ≤ sizeLine) (hr : Room k callerA)
    (F : ∀ base : Heap, K.In base → base.Ns mainGlobals mg → FnOk P w K mg base CX k fa fd [x] sp) (hbind : ∀ (s : Shared) (u : Value), BindsTo s fd ⟨[u], []⟩ [(x, u)])
    (hsp : ∀ H : Hp, Only H → SqL K H a (ns.map V.int) → sp [.ref a] H (fun v _ => v = .bl true) fun _ _ _ => False)
    (hCX : ∀ H e s', CX [] H s₁ (fun _ _ _ => False) e s' → False) :
    codeAny (model P w) callerA (.call (.ref fa) ⟨[.ref a], []⟩) (fun r s' => r = .ok (.ret (.bool true)) ∧ OldK s₁.heap s'.heap ∧ s'.os = s₁.os ∧ AllBare s'.gens) s₁ := by
  have rv := vals_ints hi
  have lenV := hi.length
  -- from an abstract heap in which nothing but the script may be tracked
  have core : ∀ H : Hp, Only H → SqL K H a (ns.map V.int) → HOk P w H s₁.heap → (∀ b, H b ≠ none → b = a) → (H a ≠ none → K.lookup a = none) →
      codeAny (model P w) callerA (.call (.ref fa) ⟨[.ref a], []⟩) (fun r s' => r = .ok (.ret (.bool true)) ∧ OldK s₁.heap s'.heap ∧ s'.os = s₁.os ∧ AllBare s'.gens) s₁ := by
    intro H hO hS hok hA hK
    have base_of : ∀ {b : Addr} {o : Obj}, s₁.heap.get? b = some o → H b = none → (hidT s₁.heap H).get? b = some o := fun e n => hidT_get e n
    have noA : ∀ {b : Addr} {o : Obj} {es : Array DictEntry} {ep : Nat}, s₁.heap.get? b = some o → o.data = .dict es ep → H b = none := fun {b o es ep} e d => by
      cases q : H b with
      | none => rfl
      | some u =>
        have e' : b = a := hA b (by rw [q]; simp)
        subst e'
        rw [ha] at e; cases e
        have d' : Data.seq vs.toArray _ = Data.dict es ep := d
        cases d'
    have nsK : ∀ {b : Addr} {m : Str → Option Value}, s₁.heap.Ns b m → (hidT s₁.heap H).Ns b m := fun {b m} ⟨o, es, ep, e, d, r⟩ => ⟨o, es, ep, base_of e (noA e d), d, r⟩
    have hKb : K.In (hidT s₁.heap H) := fun b o e => base_of (KX b o e) (by
      cases q : H b with
      | none => rfl
      | some u =>
        have e' : b = a := hA b (by rw [q]; simp)
        subst e'
        rw [hK (by rw [q]; simp)] at e; cases e)
    have hM : Mod K mg (hidT s₁.heap H) := ⟨hKb, nsK hns, ⟨mb, nsK hb, hbb⟩, let ⟨mc, h1, h2⟩ := hlim; ⟨mc, nsK h1, h2⟩⟩
    have e0 : Env0 P w K mg (hidT s₁.heap H) callerA [] s₁ H := ⟨rfl, hM, fun b o e => of_hidT e, Nat.le_of_eq (hidT_size _ _), trivial, fun b hb => absurd (show b ∈ ([] : List Addr) from hb) (by simp), hok, .of_eq hg⟩
    refine codeAny_mono ((F _ hKb (nsK hns)).run callerA [] s₁ H ⟨[.ref a], []⟩ [.ref a] [.ref a] _ _ hr e0 (hbind s₁ (.ref a)) (.cons rfl .nil) (hsp H hO hS)) fun r s' h => ?_
    cases r with
    | error e => exact (hCX H e s' h).elim
    | ok fl =>
      cases fl with
      | next => exact False.elim h
      | brk => exact False.elim h
      | cont => exact False.elim h
      | ret u =>
        obtain ⟨v, H', os, bare, un, hok', r', q⟩ := h
        have q' : v = .bl true := q
        subst q'
        obtain rfl : u = Value.bool true := r'
        refine ⟨rfl, OldK.of_keep fun b o e => ?_, os, bare⟩
        cases q : H b with
        | none => exact un.keep b o e q (by intro z; exact absurd (show b ∈ ([] : List Addr) from z) (by simp)) (by simp)
        | some u =>
          rcases hO b with z | ⟨ob, xs, z⟩
          · rw [q] at z; cases z
          · have z2 := un.frzs b ob _ z
            obtain ⟨e1, _⟩ := hok b _ z
            obtain ⟨e2, _⟩ := hok' b _ z2
            rw [e] at e1; cases e1
            exact e2
  cases hk : K.lookup a with
  | some o =>
    -- the script is one of the module's own objects
    have e := KX a o hk
    rw [ha] at e
    cases e
    refine core (fun _ => none) (fun _ => .inl rfl) (.inr ⟨_, vs.toArray, _, hk, rfl, rfl, rfl, by rw [List.size_toArray, lenV]; exact hl, by simpa using rv⟩) (fun b u z => by have z' : (none : Option HO) = some u := z; cases z') (fun b z => absurd rfl z) fun z => absurd rfl z
  | none =>
    refine core (fun b => if b = a then some (.frz { cls := .type "list", data := .seq vs.toArray } (.lst (ns.map V.int))) else none) (fun b => ?_) (.inl (.inr ⟨{ cls := .type "list", data := .seq vs.toArray }, if_pos rfl⟩)) (fun b u z => ?_) (fun b z => ?_) fun _ => hk
    · by_cases hb : b = a
      · exact .inr ⟨_, _, if_pos hb⟩
      · exact .inl (if_neg hb)
    · by_cases hb : b = a
      · have z' := (if_pos hb).symm.trans z
        cases z'
        subst hb
        exact ⟨ha, by rw [List.length_map]; exact hl, vs, _, rv, ha⟩
      · have z' := (if_neg hb).symm.trans z
        cases z'
    · by_cases hb : b = a
      · exact hb
      · exact absurd (if_neg hb) z
end Internal

namespace Internal
open PySem PySem.Spec PyProof.Rows

noncomputable abbrev KOf {K : PySem.W.Frag} {h : Heap} (_ : K.In h) : PySem.W.Frag := K

theorem walk_of {l : PySem.W.OpenLaw} {n k : Nat} {q : Program} {loose : List Str} {XP : (Str → Option Value) → Heap → Prop} {YP : World → Heap → Prop} {d : DefRec} {K : Params → PySem.W.Frag} {CX : World → CXT} {sp : World → Sp} {x : Str}
    (hn : l.most = some n) (hn2 : n ≤ sizeLine) (hdf : d.params.defaults = []) (hr : Room k callerA)
    (hY : ∀ (w : World) (h : Heap), YP w h → (K w.params).In h)
    (F : ∀ (w : World) (mg : Str → Option Value) (fa : Addr) (h : Heap), (K w.params).In h → h.Ns mainGlobals mg → mg d.name = some (.ref fa) →
      ∃ fd : FuncData, (∀ (s : Shared) (u : Value), BindsTo s fd ⟨[u], []⟩ [(x, u)]) ∧
        ∀ base : Heap, (K w.params).In base → base.Ns mainGlobals mg → FnOk l.prog w (K w.params) mg base (CX w) k fa fd [x] (sp w))
    (hsp : ∀ (w : World) (H : Hp) (a : Addr) (ns : List Int), ns.length ≤ n → Only H → SqL (K w.params) H a (ns.map V.int) → sp w [.ref a] H (fun v _ => v = .bl true) fun _ _ _ => False)
    (hCX : ∀ (w : World) (H : Hp) (s : Shared) (e : Value) (s' : Shared), CX w [] H s (fun _ _ _ => False) e s' → False) :
    PySem.W.WalkO q loose XP YP l.row.toRowW d [] (fun f vs => PySem.call f vs) := by
  refine Att.attach_call hn hdf fun w s₀ s₁ mg mb fa o pm cd doc a vs ns G Y ho hd hcd hmg hobj hints hlen hg => ?_
  have KX := hY w _ Y
  obtain ⟨fd, hb, hF⟩ := F w mg fa _ KX G.T.g hmg
  exact law_call KX G.T.g G.T.b G.T.builtins G.T.nolimit hg hobj hints (Nat.le_trans hlen hn2) hr hF hb (fun H hO hS => hsp w H a ns hlen hO hS) fun H e s' => hCX w H s₁ e s'
end Internal



namespace Internal
open PySem PySem.Spec PyProof.Rows

noncomputable def inClass (s : Stmt) (j : Nat) : Stmt := match s with
  | .ClassDef _ _ _ body _ _ _ _ _ _ _ => body.getD j (.Pass ⟨0, 0, 0, 0⟩)
  | _ => .Pass ⟨0, 0, 0, 0⟩
noncomputable def defArgs (s : Stmt) : Arguments := match s with
  | .FunctionDef _ a _ _ _ _ _ _ _ _ => a
  | _ => { posonlyargs := [], args := [], vararg := none, kwonlyargs := [], kw_defaults := [], kwarg := none, defaults := [] }
noncomputable def defBody (s : Stmt) : List Stmt := match s with
  | .FunctionDef _ _ b _ _ _ _ _ _ _ => b
  | _ => []
noncomputable def defScope (s : Stmt) : Scope := match s with
  | .FunctionDef _ _ _ _ _ _ sc _ _ _ => sc
  | _ => { kind := .function, names := [], isGenerator := false, isCoroutine := false }

noncomputable abbrev CX0 : CXT := fun _ _ _ _ _ _ => False
noncomputable abbrev E0 : XK := fun _ _ _ => False
set_option genInjectivity false in
set_option genSizeOf false in
structure Fun (K : PySem.W.Frag) (x qual : Str) (st : Stmt) (f : Addr) (fd : FuncData) : Prop where
  ex : ∃ (oc : Value) (od : Option Addr) (kV doc pm : Value) (an : Option Addr) (cdv ct : Value) (osl : Array (Option Value)),
    fd = PySem.W.fnOf x qual (defArgs st) (defBody st) (defScope st) .none kV doc pm an cdv ct ∧ K.lookup f = some ⟨oc, od, .func fd, osl⟩ ∧ PySem.W.codeIn K cdv qual = true
  kp : PySem.W.keepIn K (.ref f) = true
section
variable {P : Program} {w : World} {K : PySem.W.Frag} {mg : Str → Option Value} {base : Heap}
theorem Fun.binds {x qual : Str} {st : Stmt} {f : Addr} {fd : FuncData} {ps : List Str} (F : Fun K x qual st f fd)
    (h : ∀ (kV doc pm : Value) (an : Option Addr) (cdv ct : Value) (us : List Value), us.length = ps.length → bindArgs (PySem.W.fnOf x qual (defArgs st) (defBody st) (defScope st) .none kV doc pm an cdv ct) ⟨us, []⟩ = pure (ps.zip us)) : Binds K fd ps [] := by
  obtain ⟨oc, od, kV, doc, pm, an, cdv, ct, osl, rfl, lk, hcd⟩ := F.ex
  exact .all (h kV doc pm an cdv ct)
theorem fun_mk {x qual : Str} {st : Stmt} {f : Addr} {oc : Value} {od an : Option Addr} {osl : Array (Option Value)} {kV doc pm cdv ct : Value} (l : K.lookup f = some ⟨oc, od, .func (PySem.W.fnOf x qual (defArgs st) (defBody st) (defScope st) .none kV doc pm an cdv ct), osl⟩)
    (c : PySem.W.codeIn K cdv qual = true) (k : PySem.W.keepIn K (.ref f) = true) : Fun K x qual st f (PySem.W.fnOf x qual (defArgs st) (defBody st) (defScope st) .none kV doc pm an cdv ct) := ⟨⟨oc, od, kV, doc, pm, an, cdv, ct, osl, rfl, l, c⟩, k⟩
end
section
variable {X : Cx}
theorem pv (i : Nat) {x : Str} {pos : Pos} (hN : autoParam (X.N[i]? = some x) Internal.aut2._auto_1) (hv : Vis X.env.scope x := by first | exact Or.inl rfl | exact Or.inr (Or.inl rfl) | exact Or.inr (Or.inr rfl)) (hd : autoParam ((x == ("__debug__" : Str)) = false) Internal.aut1._auto_1)
    (hcd : autoParam ((x == ("__classdict__" : Str)) = false) Internal.aut1._auto_1) : PE X (.Name x pos) (tVar i) := pe_var hN hv hd hcd
end

noncomputable def Same (H H' : Hp) : Prop := ∀ b o, H b = some o → H' b = some o
theorem Same.refl (H : Hp) : Same H H := fun _ _ h => h
theorem Same.trans {H H1 H2 : Hp} (a : Same H H1) (b : Same H1 H2) : Same H H2 := fun c o h => b c o (a c o h)
theorem Same.seq {K : PySem.W.Frag} {H H' : Hp} {a : Addr} {xs : List V} (e : Same H H') (h : SqL K H a xs) : SqL K H' a xs := by
  rcases h with (h | ⟨o, h⟩) | h
  · exact .inl (.inl (e _ _ h))
  · exact .inl (.inr ⟨o, e _ _ h⟩)
  · exact .inr h

end Internal

set_option Elab.async false
set_option linter.all false
set_option maxRecDepth 100000
namespace Internal
open PySem PySem.Spec PyProof.Rows

namespace BT
theorem len : bootBuiltins "len" = some (.builtin "len") := by decide +kernel
theorem sum : bootBuiltins "sum" = some (.builtin "sum") := by decide +kernel
theorem sorted : bootBuiltins "sorted" = some (.builtin "sorted") := by decide +kernel
theorem isinstance : bootBuiltins "isinstance" = some (.builtin "isinstance") := by decide +kernel
theorem int : bootBuiltins "int" = some (.type "int") := by decide +kernel
theorem bool : bootBuiltins "bool" = some (.type "bool") := by decide +kernel
theorem list : bootBuiltins "list" = some (.type "list") := by decide +kernel
theorem tuple : bootBuiltins "tuple" = some (.type "tuple") := by decide +kernel
end BT

noncomputable def sz (i : Int) : Nat := Builtin.Int.intBits i
theorem sz_le {i : Int} {n : Nat} : sz i ≤ n ↔ i.natAbs < 2 ^ n := by
  unfold sz Builtin.Int.intBits
  by_cases h : i = 0
  · subst h; simp; exact Nat.two_pow_pos n
  · have h' : (i == 0) = false := by simp [h]
    rw [h', if_neg (by decide)]
    have hn : i.natAbs ≠ 0 := by omega
    rw [← Nat.log2_lt hn]; omega
theorem sz_of {i : Int} {n : Nat} (h : i.natAbs < 2 ^ n) : sz i ≤ n := sz_le.mpr h
theorem sz200 {i : Int} (h1 : -1606938044258990275541962092341162602522202993782792835301376 < i) (h2 : i < 1606938044258990275541962092341162602522202993782792835301376) : sz i ≤ 200 := sz_of (by
  have : (2 : Nat) ^ 200 = 1606938044258990275541962092341162602522202993782792835301376 := by decide
  omega)
section
variable {X : Cx}
noncomputable def CMulS (i j : Int) : Prop := sz i + sz j ≤ 134217728
theorem CMulS.ok {i j : Int} (h : CMulS i j) : IntMulOk i j := by
  unfold IntMulOk
  have e : Builtin.Int.intTooBig (((Builtin.Int.intBits i : Nat) : Int) + ((Builtin.Int.intBits j : Nat) : Int)) = false := by
    unfold Builtin.Int.intTooBig
    have hb : bitsLine = 134217728 := by decide
    rw [decide_eq_false]
    rw [hb]
    unfold CMulS sz at h
    omega
  rw [e]; simp
theorem CMulS.of {i j : Int} {n m : Nat} (h1 : sz i ≤ n) (h2 : sz j ≤ m) (h : n + m ≤ 134217728) : CMulS i j := by unfold CMulS; omega
theorem op_mulS : OpR X (binaryOp .Mult) (rI CMulS fun i j => .int (i * j)) := opI fun _ _ _ _ _ _ _ hc q => mul_int q hc.ok
noncomputable def rMulU : R2 := fun x y H Q => rI CMulS (fun i j => .int (i * j)) x y H Q ∨ rRep x y H Q
theorem op_mulU : OpR X (binaryOp .Mult) rMulU := op_mulS.or op_rep
noncomputable def rAddU (K : PySem.W.Frag) : R2 := fun x y H Q => rI0 (fun i j => .int (i + j)) x y H Q ∨ rCat x y H Q ∨ rCatT K x y H Q
theorem op_addU : OpR X (binaryOp .Add) (rAddU X.K) := op_add.or (op_cat.or op_catT)
noncomputable def CDivU (i j : Int) : Prop := j ≠ 0 ∧ (sz j ≤ 9000 ∨ sz i ≤ sz j + 4500)
noncomputable def rDivU : R2 := rI CDivU fun i j => .int (i.fdiv j)
theorem sz_log {j : Int} (h : j ≠ 0) : sz j = j.natAbs.log2 + 1 := by
  have h0 : j.natAbs ≠ 0 := by omega
  have h1 : sz j ≤ j.natAbs.log2 + 1 := sz_le.mpr (Nat.lt_log2_self)
  have h2 : ¬ sz j ≤ j.natAbs.log2 := fun z => by
    have := sz_le.mp z
    have := Nat.log2_self_le h0
    omega
  omega
theorem noPylong_near {i j : Int} (hj : j ≠ 0) (h : sz i ≤ sz j + 4500) : Builtin.divisionGoesByPylong i j = false := by
  have hy : (j == 0) = false := by simpa using hj
  have key : (if i == 0 then 0 else i.natAbs.log2 / 30 + 1) ≤ (if j == 0 then 0 else j.natAbs.log2 / 30 + 1) + 150 := by
    rw [hy]
    by_cases hi : i = 0
    · have : (i == 0) = true := by simpa using hi
      rw [this]
      exact Nat.zero_le _
    · have hx : (i == 0) = false := by simpa using hi
      rw [hx]
      rw [sz_log hi, sz_log hj] at h
      show i.natAbs.log2 / 30 + 1 ≤ j.natAbs.log2 / 30 + 1 + 150
      omega
  show (decide (_ > 300) && decide ((if i == 0 then 0 else i.natAbs.log2 / 30 + 1) > (if j == 0 then 0 else j.natAbs.log2 / 30 + 1) + 150)) = false
  rw [decide_eq_false (Nat.not_lt.mpr key), Bool.and_false]
theorem op_divU : OpR X (binaryOp .FloorDiv) rDivU := opI fun i j _ _ _ _ _ hc q => floordiv_int hc.1 q (.inl (hc.2.elim (fun h => PyProof.noPylong_of_log2 (by
  have h1 := sz_le.mp h
  by_cases h0 : j.natAbs = 0
  · rw [h0]; decide
  · exact (Nat.log2_lt h0).mpr h1)) (noPylong_near hc.1)))
noncomputable def rModU : R2 := rI (fun _ j => j ≠ 0) fun i j => .int (i.fmod j)
theorem op_modU : OpR X (binaryOp .Mod) rModU := op_modN

mutual
inductive RepD (K : PySem.W.Frag) (H : Hp) : V → PyData → Prop
  | non : RepD K H .non .none
  | bl (b : Bool) : RepD K H (.bl b) (.bool b)
  | int (i : Int) : RepD K H (.int i) (.int i)
  | str (x : Str) (ok : PyData.canLay0 (.str x) = true) : RepD K H (.str x) (.str x)
  | lst {a : Addr} {vs : List V} {ds : List PyData} : SqL K H a vs → RepAll K H vs ds → RepD K H (.ref a) (.list ds)
  | tup {a : Addr} {vs : List V} {ds : List PyData} : SqT K H a vs → RepAll K H vs ds → RepD K H (.ref a) (.tuple ds)
inductive RepAll (K : PySem.W.Frag) (H : Hp) : List V → List PyData → Prop
  | nil : RepAll K H [] []
  | cons {v : V} {d : PyData} {vs : List V} {ds : List PyData} : RepD K H v d → RepAll K H vs ds → RepAll K H (v :: vs) (d :: ds)
end
mutual
theorem RepD.reads {pins : List (Addr × Obj)} {σ : St} {H : Hp} {s : Shared} (I : Inv X pins σ H s) : ∀ {v : V} {d : PyData} {u : Value}, RepD X.K H v d → RelV v u → ∃ as, Reads s.heap u d as
  | _, _, _, .non, r => by cases (show _ = Value.none from r); exact ⟨_, .none⟩
  | _, _, _, .bl b, r => by cases (show _ = Value.bool b from r); exact ⟨_, .bool b⟩
  | _, _, _, .int i, r => by obtain ⟨t, rfl⟩ := (show ∃ t, _ = Value.int i t from r); exact ⟨_, .int i t⟩
  | _, _, _, .str x _, r => by obtain ⟨t, rfl⟩ := (show ∃ t, _ = Value.str x t from r); exact ⟨_, .str x t⟩
  | _, _, _, .lst h k, r => by
    cases (show _ = Value.ref _ from r)
    obtain ⟨its, rv, ⟨o, n, h1, h2, _, h3⟩, _⟩ := I.list h
    obtain ⟨as, q⟩ := RepAll.reads I k rv
    exact ⟨_, .list h1 h2 h3 (by simpa using q)⟩
  | _, _, _, .tup h k, r => by
    cases (show _ = Value.ref _ from r)
    obtain ⟨its, rv, ⟨o, h1, h2, n, h3⟩, _⟩ := I.tuple h
    obtain ⟨as, q⟩ := RepAll.reads I k rv
    exact ⟨_, .tuple h1 h2 h3 (by simpa using q)⟩
theorem RepAll.reads {pins : List (Addr × Obj)} {σ : St} {H : Hp} {s : Shared} (I : Inv X pins σ H s) : ∀ {vs : List V} {ds : List PyData} {us : List Value}, RepAll X.K H vs ds → Vals vs us → ∃ as, ReadsAll s.heap us ds as
  | _, _, _, .nil, .nil => ⟨_, .nil⟩
  | _, _, _, .cons h k, .cons r t => by
    obtain ⟨as, q⟩ := RepD.reads I h r
    obtain ⟨bs, p⟩ := RepAll.reads I k t
    exact ⟨_, .cons q p⟩
end
mutual
theorem RepD.lay {K : PySem.W.Frag} {H : Hp} : ∀ {v : V} {d : PyData}, RepD K H v d → d.canLay0 = true
  | _, _, .non => rfl
  | _, _, .bl _ => rfl
  | _, _, .int _ => rfl
  | _, _, .str _ ok => ok
  | _, _, .lst _ k => by rw [PyData.canLay0]; exact RepAll.lay k
  | _, _, .tup _ k => by rw [PyData.canLay0]; exact RepAll.lay k
theorem RepAll.lay {K : PySem.W.Frag} {H : Hp} : ∀ {vs : List V} {ds : List PyData}, RepAll K H vs ds → PyData.canLayAll0 ds = true
  | _, _, .nil => rfl
  | _, _, .cons h k => by rw [PyData.canLayAll0, RepD.lay h, RepAll.lay k]; rfl
end
theorem Same.seqT {K : PySem.W.Frag} {H H' : Hp} {a : Addr} {xs : List V} (e : Same H H') (h : SqT K H a xs) : SqT K H' a xs := by
  rcases h with (h | ⟨o, h⟩) | h
  · exact .inl (.inl (e _ _ h))
  · exact .inl (.inr ⟨o, e _ _ h⟩)
  · exact .inr h
mutual
theorem Same.rep {K : PySem.W.Frag} {H H' : Hp} (e : Same H H') : ∀ {v : V} {d : PyData}, RepD K H v d → RepD K H' v d
  | _, _, .non => .non
  | _, _, .bl b => .bl b
  | _, _, .int i => .int i
  | _, _, .str x ok => .str x ok
  | _, _, .lst h k => .lst (e.seq h) (e.repAll k)
  | _, _, .tup h k => .tup (e.seqT h) (e.repAll k)
theorem Same.repAll {K : PySem.W.Frag} {H H' : Hp} (e : Same H H') : ∀ {vs : List V} {ds : List PyData}, RepAll K H vs ds → RepAll K H' vs ds
  | _, _, .nil => .nil
  | _, _, .cons h k => .cons (e.rep h) (e.repAll k)
end
noncomputable def rEqU (K : PySem.W.Frag) : R2 := fun x y H Q => (∃ d e, RepD K H x d ∧ RepD K H y e ∧ min d.depth e.depth ≤ 60 ∧ Q (.bl (PyData.eqv d e)) H) ∨ rEq x y H Q
noncomputable def rNeU (K : PySem.W.Frag) : R2 := fun x y H Q => (∃ d e, RepD K H x d ∧ RepD K H y e ∧ min d.depth e.depth ≤ 60 ∧ Q (.bl (!PyData.eqv d e)) H) ∨ rNe x y H Q
theorem op_eqU (hu : X.A.units + 64 < cLine) : OpR X (compareOp .Eq) (rEqU X.K) := by
  refine OpR.or ?_ op_eq
  intro pins s σ H x y v u Q I rx ry h
  obtain ⟨d, e, h1, h2, hd, q⟩ := h
  obtain ⟨as, r1⟩ := h1.reads I rx
  obtain ⟨bs, r2⟩ := h2.reads I ry
  exact PySem.SeqAt.compareEq_reads r1 r2 h1.lay h2.lay (by omega) ⟨.bl _, H, I, rfl, q⟩
theorem op_neU (hu : X.A.units + 64 < cLine) : OpR X (compareOp .NotEq) (rNeU X.K) := by
  refine OpR.or ?_ op_ne
  intro pins s σ H x y v u Q I rx ry h
  obtain ⟨d, e, h1, h2, hd, q⟩ := h
  obtain ⟨as, r1⟩ := h1.reads I rx
  obtain ⟨bs, r2⟩ := h2.reads I ry
  exact PySem.SeqAt.compareNe_reads r1 r2 h1.lay h2.lay (by omega) ⟨.bl _, H, I, rfl, q⟩

noncomputable def rIsi (K : PySem.W.Frag) : List V → Hp → VK → Prop := fun xs H Q => ∃ x c t b cv, xs = [x, c] ∧ RelV c cv ∧ TyOf K H x t ∧ PySem.W.kitOne K t cv = some b ∧ Q (.bl b) H
theorem call_isinst : CallR X (.builtin "isinstance") (rIsi X.K) := by
  intro pins s σ H xs us Q I r h
  obtain ⟨x, c, t, b, cv, rfl, rc, ty, e, q⟩ := h
  obtain ⟨u, w', rfl, r1, r2⟩ := vals2 r
  have ec : w' = cv := by
    cases c with
    | ty n => exact (show w' = _ from r2).trans (show cv = _ from rc).symm
    | ref a => exact (show w' = _ from r2).trans (show cv = _ from rc).symm
    | non => exact (show w' = _ from r2).trans (show cv = _ from rc).symm
    | bl b => exact (show w' = _ from r2).trans (show cv = _ from rc).symm
    | _ => obtain ⟨_, rfl⟩ := rc; simp [PySem.W.kitOne, PySem.W.kitCls] at e; cases ty <;> simp at e
  subst ec
  exact isinst_ok I r1 ty e fun tk => ⟨.bl b, H, I.tok tk, rfl, q⟩
end

noncomputable def rLen (K : PySem.W.Frag) : List V → Hp → VK → Prop := fun xs H Q => ∃ p ys, xs = [.ref p] ∧ (SqL K H p ys ∨ SqT K H p ys) ∧ Q (.int ys.length) H
section
variable {X : Cx}
theorem call_lenU : CallR X (.builtin "len") (rLen X.K) := call_len_seq
noncomputable abbrev tTru (K : PySem.W.Frag) (ta : TE) : TT := fun σ H Q => ta σ H fun x H' => ∃ k, TruV K x H' k ∧ Q k H'
theorem pt_truthU {a : Expr} {ta : TE} (ha : PE X a ta) (he : ∀ whole, isTrue a X.env whole = (do let v ← whole; standAt a.pos; holding [v] (truthy v))) : PT X a (tTru X.K ta) := pt_truth ha he
end
noncomputable def tMid (t u : TS) : TS := fun D σ H => ∃ M : St → Hp → Prop, t { D with nx := M } σ H ∧ ∀ σ' H', M σ' H' → u D σ' H'
theorem pss_mid {X : Cx} {st : Stmt} {rest : List Stmt} {t u : TS} (h1 : PS X st t) (h2 : PSs X rest u) : PSs X (st :: rest) (tMid t u) := by
  intro pins s σ H D I h
  obtain ⟨M, ht, hM⟩ := h
  refine wpAny_execs_cons (thn (h1 pins s σ H _ I ht) fun f s1 q => ?_)
  cases f with
  | next =>
    obtain ⟨σ', H', I', q'⟩ := q
    exact h2 pins s1 σ' H' D I' (hM σ' H' q')
  | brk => exact q
  | cont => exact q
  | ret u => exact q
noncomputable def NoX (CX : CXT) : Prop := ∀ (outer : List Env) (H : Hp) (s : Shared) (e : Value) (s' : Shared), CX outer H s E0 e s' → False
theorem passN {CX : CXT} {X : Cx} (h : NoX CX) : Passes CX X E0 := fun _ _ H s e s' _ q => (h _ H s e s' q).elim
theorem Fun.okN {P : Program} {w : World} {K : PySem.W.Frag} {mg : Str → Option Value} {base : Heap} {CX : CXT} {x qual : Str} {st : Stmt} {f : Addr} {fd : FuncData} {N ps : List Str} {k : Nat} {sp : Sp} (F : Fun K x qual st f fd) (S : FnScope N ps (defScope st)) (len : ∀ vs H Q E, sp vs H Q E → vs.length = ps.length)
    (hbody : ∀ (cdv : Value) (A : Around) (outer : List Env) (s : Shared) (H : Hp) (vs : List V) (Q : VK) (E : XK), Room k (A.deeper (envOfC qual (defScope st) s.heap.objs.size f cdv)) → sp vs H Q E →
      ∃ t, PSs (cxOf CX P w K mg base N qual (defScope st) f cdv A outer s H E).nox (defBody st) t ∧ t { nx := fun _ H' => Q .non H', rt := Q } (start N vs) H) : FnOk P w K mg base CX (k + 1) f fd ps sp := by
  obtain ⟨oc, od, kV, doc, pm, an, cdv, ct, osl, rfl, lk, hcd⟩ := F.ex
  refine fn_of lk hcd S len fun A outer s H vs Q E hr hsp => ?_
  obtain ⟨t, h, q⟩ := hbody cdv A outer s H vs Q E hr hsp
  exact ⟨t, h.nox, q⟩
section
variable {σ : St} {H : Hp} {Q : VK} {D : Ends} {ta tb tc te : TE} {t u : TS} {K : PySem.W.Frag}
theorem x_var {i : Nat} {v : V} (e : σ[i]? = some (some v)) (q : Q v H) : tVar i σ H Q := ⟨v, e, q⟩
theorem x_c {v : V} (q : Q v H) : tC v σ H Q := q
theorem x_i0 {g : Int → Int → V} {i j : Int} (q : Q (g i j) H) : rI0 g (.int i) (.int j) H Q := ⟨i, j, rfl, rfl, q⟩
theorem x_add {i j : Int} (q : Q (.int (i + j)) H) : rAddU K (.int i) (.int j) H Q := .inl ⟨i, j, rfl, rfl, q⟩
theorem x_mul {i j : Int} (c : CMulS i j) (q : Q (.int (i * j)) H) : rMulU (.int i) (.int j) H Q := .inl ⟨i, j, rfl, rfl, c, q⟩
theorem x_div {i j : Int} (h0 : 0 < j) (hs : sz j ≤ 9000) (q : Q (.int (i / j)) H) : rDivU (.int i) (.int j) H Q :=
  ⟨i, j, rfl, rfl, ⟨by omega, .inl hs⟩, by show Q (.int (i.fdiv j)) H; rw [Int.fdiv_eq_ediv_of_nonneg _ (Int.le_of_lt h0)]; exact q⟩
theorem x_mod {i j : Int} (h0 : 0 < j) (q : Q (.int (i % j)) H) : rModU (.int i) (.int j) H Q :=
  ⟨i, j, rfl, rfl, by omega, by show Q (.int (i.fmod j)) H; rw [Int.fmod_eq_emod_of_nonneg _ (Int.le_of_lt h0)]; exact q⟩
theorem x_pow {i j k : Int} (c : CPow i j) (e : i ^ j.toNat = k) (q : Q (.int k) H) : rI CPow (fun i j => .int (i ^ j.toNat)) (.int i) (.int j) H Q := ⟨i, j, rfl, rfl, c, by show Q (.int (i ^ j.toNat)) H; rw [e]; exact q⟩
theorem x_neg {i : Int} (q : Q (.int (-i)) H) : rU (fun i => .int (-i)) (.int i) H Q := ⟨i, rfl, q⟩
theorem dI {i j : Int} : decide (V.int i = V.int j) = decide (i = j) := by simp
theorem x_eqI {i j : Int} (q : Q (.bl (decide (i = j))) H) : rEqU K (.int i) (.int j) H Q := .inr ⟨rfl, by rw [dI]; exact q⟩
theorem x_eqD {x y : V} {d e : PyData} (h1 : RepD K H x d) (h2 : RepD K H y e) (hd : min d.depth e.depth ≤ 60) (q : Q (.bl (PyData.eqv d e)) H) : rEqU K x y H Q := .inl ⟨d, e, h1, h2, hd, q⟩
theorem x_neD {x y : V} {d e : PyData} (h1 : RepD K H x d) (h2 : RepD K H y e) (hd : min d.depth e.depth ≤ 60) (q : Q (.bl (!PyData.eqv d e)) H) : rNeU K x y H Q := .inl ⟨d, e, h1, h2, hd, q⟩
theorem x_ixL {a : Addr} {xs : List V} {i : Int} {v : V} (h : SqL K H a xs) (e : atI xs i = some v) (q : Q v H) : rIx K (.ref a) (.int i) H Q := .inl ⟨a, xs, i, v, rfl, rfl, h, e, q⟩
theorem x_ixT {a : Addr} {xs : List V} {i : Int} {v : V} (h : SqT K H a xs) (e : atI xs i = some v) (q : Q v H) : rIx K (.ref a) (.int i) H Q := .inr (.inl ⟨a, xs, i, v, rfl, rfl, h, e, q⟩)
theorem x_bl {T : Bool → Prop} {b : Bool} (q : T b) : ∃ k, V.bl b = .bl k ∧ T k := ⟨b, rfl, q⟩
theorem x_truB {T : Bool → Prop} {b : Bool} (q : T b) : ∃ k, TruV K (.bl b) H k ∧ T k := ⟨b, rfl, q⟩
theorem x_ite {p : Prop} [Decidable p] {A B : Prop} (h1 : p → A) (h2 : ¬ p → B) : if decide p = true then A else B := by
  by_cases h : p
  · rw [if_pos (decide_eq_true h)]; exact h1 h
  · rw [if_neg (by rw [decide_eq_false h]; exact Bool.false_ne_true)]; exact h2 h
theorem x_iteN {p : Prop} [Decidable p] {A B : Prop} (h1 : ¬ p → A) (h2 : p → B) : if (!decide p) = true then A else B := by
  by_cases h : p
  · rw [if_neg (by rw [decide_eq_true h]; exact Bool.false_ne_true)]; exact h2 h
  · rw [if_pos (by rw [decide_eq_false h]; rfl)]; exact h1 h
theorem x_iteT {A B : Prop} (h : A) : if true = true then A else B := by rw [if_pos rfl]; exact h
theorem x_iteF {A B : Prop} (h : B) : if false = true then A else B := by rw [if_neg Bool.false_ne_true]; exact h
theorem x_iteNT {A B : Prop} (h : B) : if (!true) = true then A else B := x_iteF h
theorem x_mid (M : St → Hp → Prop) (q : t { D with nx := M } σ H) (r : ∀ σ' H', M σ' H' → u D σ' H') : tMid t u D σ H := ⟨M, q, r⟩
theorem x_call {sp : Sp} {E : XK} {tr : TA} (q : tr σ H fun vs H1 => sp vs H1 Q E) : tCall sp [] E tr σ H Q := by unfold tCall; simp only [List.append_nil]; exact q
noncomputable def rTup (Q : VK) (xs : List V) (H : Hp) : Prop := xs.length ≤ sizeLine ∧ ∀ p, H p = none → Q (.ref p) (upd H p (.tup xs))
noncomputable def rLst (Q : VK) (xs : List V) (H : Hp) : Prop := xs.length ≤ sizeLine ∧ ∀ p, H p = none → Q (.ref p) (upd H p (.lst xs))
theorem x_tup {tr : TA} (q : tr σ H (rTup Q)) : tTup tr σ H Q := q
theorem x_lst {tr : TA} (q : tr σ H (rLst Q)) : tLst tr σ H Q := q
theorem x_lenL {a : Addr} {xs : List V} (h : SqL K H a xs) (q : Q (.int xs.length) H) : rLen K [.ref a] H Q := ⟨a, xs, rfl, .inl h, q⟩
theorem x_lenT {a : Addr} {xs : List V} (h : SqT K H a xs) (q : Q (.int xs.length) H) : rLen K [.ref a] H Q := ⟨a, xs, rfl, .inr h, q⟩
theorem x_start {N : List Str} {vs : List V} {σ0 : St} (e : start N vs = σ0) (q : t D σ0 H) : t D (start N vs) H := by rw [e]; exact q
theorem x_isi {x c : V} {t' cv : Value} {b : Bool} (rc : RelV c cv) (ty : TyOf K H x t') (e : PySem.W.kitOne K t' cv = some b) (q : Q (.bl b) H) : rIsi K [x, c] H Q := ⟨x, c, t', b, cv, rfl, rc, ty, e, q⟩
end
theorem Same.new {H : Hp} {p : Addr} (h : H p = none) (o : HO) : Same H (upd H p o) := fun b u q => by rw [upd_ne (ne_of_none q h)]; exact q
end Internal

set_option Elab.async false
set_option linter.all false
set_option maxRecDepth 100000
namespace Internal
open PySem PySem.Spec PyProof.Rows

theorem closureFor_all {env : Env} {scope : Scope} (h : ∀ y ∈ scope.names, y.2 = .free → ∃ c, env.cells.lookup y.1 = some c) :
    ∃ cl, closureFor scope env = pure cl ∧ (∀ x c, cl.lookup x = some c → env.cells.lookup x = some c) ∧ ∀ y ∈ scope.names, y.2 = .free → cl.lookup y.1 = env.cells.lookup y.1 := by
  unfold closureFor
  have key : ∀ (names : List (Str × NameKind)) (acc : List (Str × Addr)), (∀ y ∈ names, y.2 = .free → ∃ c, env.cells.lookup y.1 = some c) → (∀ x c, acc.lookup x = some c → env.cells.lookup x = some c) →
      ∃ cl, (forIn (m := Sem) names acc fun (x : Str × NameKind) r => if (x.2 == .free) = true then (do let a ← cellOf env x.1; pure (ForInStep.yield ((x.1, a) :: r))) else pure (ForInStep.yield r)) = pure cl ∧
        (∀ x c, cl.lookup x = some c → env.cells.lookup x = some c) ∧ (∀ y ∈ names, y.2 = .free → cl.lookup y.1 = env.cells.lookup y.1) ∧ (∀ x, (∃ c, acc.lookup x = some c) → cl.lookup x = env.cells.lookup x) := by
    intro names
    induction names with
    | nil => intro acc _ ha; exact ⟨acc, rfl, ha, fun _ hy => (nomatch hy), fun x ⟨c, e⟩ => by rw [e, ha x c e]⟩
    | cons y r ih =>
      intro acc hn ha
      obtain ⟨n, k⟩ := y
      have hr : ∀ y ∈ r, y.2 = .free → ∃ c, env.cells.lookup y.1 = some c := fun y hy => hn y (List.mem_cons_of_mem _ hy)
      by_cases hk : k = .free
      · subst hk
        obtain ⟨c, hc⟩ := hn (n, .free) List.mem_cons_self rfl
        have ha' : ∀ x c', List.lookup x ((n, c) :: acc) = some c' → env.cells.lookup x = some c' := fun x c' e => by
          rw [List.lookup_cons] at e
          cases hb : x == n with
          | true => rw [hb] at e; cases e; rw [beq_iff_eq.mp hb]; exact hc
          | false => rw [hb] at e; exact ha x c' e
        obtain ⟨cl, e, h1, h2, h3⟩ := ih ((n, c) :: acc) hr ha'
        refine ⟨cl, ?_, h1, fun y hy hf => ?_, fun x hx => ?_⟩
        · rw [List.forIn_cons]
          simp only [cellOf, hc, beq_self_eq_true, if_true]
          exact e
        · rcases List.mem_cons.mp hy with rfl | hy
          · exact h3 n ⟨c, by rw [List.lookup_cons]; simp⟩
          · exact h2 y hy hf
        · refine h3 x ?_
          obtain ⟨c', e'⟩ := hx
          rw [List.lookup_cons]
          cases hb : x == n with
          | true => exact ⟨c, rfl⟩
          | false => exact ⟨c', e'⟩
      · obtain ⟨cl, e, h1, h2, h3⟩ := ih acc hr ha
        refine ⟨cl, ?_, h1, fun y hy hf => ?_, h3⟩
        · rw [List.forIn_cons]
          have hb : (k == NameKind.free) = false := by simpa using hk
          simp only [hb, Bool.false_eq_true, if_false]
          exact e
        · rcases List.mem_cons.mp hy with rfl | hy
          · exact absurd hf hk
          · exact h2 y hy hf
  obtain ⟨cl, e, h1, h2, _⟩ := key scope.names [] h (fun _ _ z => by simp at z)
  refine ⟨cl, ?_, h1, h2⟩
  show (forIn scope.names [] _ >>= fun r => pure r) = pure cl
  have e' : (forIn (m := Sem) scope.names [] fun (x : Str × NameKind) (r : List (Str × Addr)) => match x with | (name, kind) => if (kind == .free) = true then (do let a ← cellOf env name; pure (ForInStep.yield ((name, a) :: r))) else pure (ForInStep.yield r)) = pure cl := e
  first
    | (rw [e']; rfl)
    | (simp only [e']; rfl)
theorem cellsFrom_app : ∀ (names : List (Str × NameKind)) (n : Nat) (acc : List (Str × Addr)), cellsFrom n names acc = cellsFrom n names [] ++ acc
  | [], _, _ => rfl
  | (name, kind) :: r, n, acc => by
    unfold cellsFrom
    split
    · rw [cellsFrom_app r (n + 1) ((name, n) :: acc), cellsFrom_app r (n + 1) [(name, n)], List.append_assoc]; rfl
    · exact cellsFrom_app r n acc
theorem lookup_app {α : Type} {x : Str} : ∀ {l r : List (Str × α)}, (l ++ r).lookup x = match l.lookup x with | some c => some c | none => r.lookup x
  | [], _ => rfl
  | (k, v) :: l, r => by
    rw [List.cons_append, List.lookup_cons, List.lookup_cons]
    cases x == k with
    | true => rfl
    | false => exact lookup_app (l := l)
noncomputable def compEnv (scope : Scope) (cs : List (Str × Addr)) (C : Addr) (env : Env) : Env :=
  { scope := relabel scope env, locals := C, globals := env.globals, cells := cs, qual := env.qual, func := none, code := env.code, frame := env.frame, builtins := env.builtins }
theorem wpAny_compEnv {M : Model} {A : Around} {E : Value → Shared → Prop} {s : Shared} {scope : Scope} {globals : Addr} {cl : List (Str × Addr)} {qual : Str} {env : Env} {Q : Env → Shared → Prop}
    (hQ : ∀ (own : List (Str × Addr)) (s' : Shared), own = cellsFrom (s.heap.objs.size + 1) scope.names [] → s' = { s with heap := s'.heap } → (∀ b o, s.heap.get? b = some o → s'.heap.get? b = some o) →
      s'.heap.Ns s.heap.objs.size (fun _ => none) → (∀ n c, (n, c) ∈ own → s'.heap.IsCell c none ∧ s.heap.objs.size + 1 ≤ c) → (own.Pairwise fun x y => x.2 ≠ y.2) →
      Q { scope := scope, locals := s.heap.objs.size, globals := globals, cells := own ++ cl, qual := qual, func := none, code := env.code, frame := env.frame, builtins := env.builtins } s') :
    wpAny M A (newFunctionEnv scope globals cl [] qual none .none (some env)) Q E s := by
  simp only [newFunctionEnv, Option.isSome_some, if_true]
  refine wpAny_bind (wpAny_alloc ?_)
  refine wpAny_bind (wpAny_layCells _ (fun name kind cells => by cases hkc : kind == NameKind.cell <;> simp [hkc]) _ _ _ _ ?_)
  have ok := cellsFrom_ok scope.names (s.heap.push { cls := .type "dict", data := .dict #[] }) (s.heap.objs.size + 1) [] ⟨fun _ _ hm => (nomatch hm), List.Pairwise.nil⟩ (by rw [Heap.size_push]; exact Nat.le_refl _)
  rw [Heap.size_push] at ok
  rw [show ({ s with heap := s.heap.push { cls := .type "dict", data := .dict #[] } } : Shared).heap.objs.size = s.heap.objs.size + 1 from Heap.size_push ..]
  rw [cellsFrom_app]
  have fin := hQ _ { s with heap := pushCells (s.heap.push { cls := .type "dict", data := .dict #[] }) scope.names } rfl rfl (fun b o e => pushCells_keeps _ _ b o (Heap.get?_push_of_some _ e))
    ((Heap.Ns.new s.heap (.type "dict")).keeps (pushCells_keeps _ _)) ok.empty ok.apart
  exact wpAny_bind (wpAny_pure (wpAny_pure fin))

theorem lookup_relabel_free {env : Env} : ∀ {names : List (Str × NameKind)} {x : Str}, names.lookup x = some .free →
    (names.map fun (n, k) => if (k == NameKind.free && env.scope.kind == .function && env.kindOf n == some .cell) then (n, NameKind.cell) else (n, k)).lookup x = some .cell ∨
    (names.map fun (n, k) => if (k == NameKind.free && env.scope.kind == .function && env.kindOf n == some .cell) then (n, NameKind.cell) else (n, k)).lookup x = some .free
  | [], _, h => by simp at h
  | (n, k) :: r, x, h => by
    have ih := @lookup_relabel_free env r x
    show List.lookup x ((if (k == NameKind.free && env.scope.kind == .function && env.kindOf n == some .cell) = true then (n, NameKind.cell) else (n, k)) :: _) = _ ∨ List.lookup x ((if (k == NameKind.free && env.scope.kind == .function && env.kindOf n == some .cell) = true then (n, NameKind.cell) else (n, k)) :: _) = _
    by_cases hc : (k == NameKind.free && env.scope.kind == .function && env.kindOf n == some .cell) = true
    · rw [if_pos hc]
      cases hx : x == n with
      | true => left; simp [List.lookup_cons, hx]
      | false => simp only [List.lookup_cons, hx] at h ⊢; exact ih h
    · rw [if_neg hc]
      cases hx : x == n with
      | true => simp only [List.lookup_cons, hx] at h ⊢; exact .inr h
      | false => simp only [List.lookup_cons, hx] at h ⊢; exact ih h
theorem lookup_relabel_cell {env : Env} : ∀ {names : List (Str × NameKind)} {x : Str}, (names.map fun (n, k) => if (k == NameKind.free && env.scope.kind == .function && env.kindOf n == some .cell) then (n, NameKind.cell) else (n, k)).lookup x = some .cell ∨
    (names.map fun (n, k) => if (k == NameKind.free && env.scope.kind == .function && env.kindOf n == some .cell) then (n, NameKind.cell) else (n, k)).lookup x = some .free → names.lookup x = some .cell ∨ names.lookup x = some .free
  | [], _, h => by simp at h
  | (n, k) :: r, x, h => by
    have ih := @lookup_relabel_cell env r x
    have h' : List.lookup x ((if (k == NameKind.free && env.scope.kind == .function && env.kindOf n == some .cell) = true then (n, NameKind.cell) else (n, k)) :: (r.map fun (n, k) => if (k == NameKind.free && env.scope.kind == .function && env.kindOf n == some .cell) then (n, NameKind.cell) else (n, k))) = some .cell ∨
      List.lookup x ((if (k == NameKind.free && env.scope.kind == .function && env.kindOf n == some .cell) = true then (n, NameKind.cell) else (n, k)) :: (r.map fun (n, k) => if (k == NameKind.free && env.scope.kind == .function && env.kindOf n == some .cell) then (n, NameKind.cell) else (n, k))) = some .free := h
    clear h
    by_cases hc : (k == NameKind.free && env.scope.kind == .function && env.kindOf n == some .cell) = true
    · have hk : k = .free := by
        rw [Bool.and_eq_true, Bool.and_eq_true] at hc
        exact beq_iff_eq.mp hc.1.1
      subst hk
      rw [if_pos hc] at h'
      cases hx : x == n with
      | true => right; simp [List.lookup_cons, hx]
      | false => simp only [List.lookup_cons, hx] at h' ⊢; exact ih h'
    · rw [if_neg hc] at h'
      cases hx : x == n with
      | true => simp only [List.lookup_cons, hx] at h' ⊢; exact h'
      | false => simp only [List.lookup_cons, hx] at h' ⊢; exact ih h'
theorem lookup_relabel_own {env : Env} : ∀ {names : List (Str × NameKind)} {x : Str}, names.lookup x = some .cell →
    (names.map fun (n, k) => if (k == NameKind.free && env.scope.kind == .function && env.kindOf n == some .cell) then (n, NameKind.cell) else (n, k)).lookup x = some .cell
  | [], _, h => by simp at h
  | (n, k) :: r, x, h => by
    have ih := @lookup_relabel_own env r x
    show List.lookup x ((if (k == NameKind.free && env.scope.kind == .function && env.kindOf n == some .cell) = true then (n, NameKind.cell) else (n, k)) :: _) = _
    by_cases hc : (k == NameKind.free && env.scope.kind == .function && env.kindOf n == some .cell) = true
    · rw [if_pos hc]
      cases hx : x == n with
      | true => simp [List.lookup_cons, hx]
      | false => simp only [List.lookup_cons, hx] at h ⊢; exact ih h
    · rw [if_neg hc]
      cases hx : x == n with
      | true => simp only [List.lookup_cons, hx] at h ⊢; exact h
      | false => simp only [List.lookup_cons, hx] at h ⊢; exact ih h
theorem own_mem {names : List (Str × NameKind)} : ∀ {n : Nat} {acc : List (Str × Addr)} {x : Str} {c : Addr}, (x, c) ∈ cellsFrom n names acc → (x, .cell) ∈ names ∨ (x, c) ∈ acc := by
  induction names with
  | nil => intro n acc x c h; exact .inr h
  | cons y r ih =>
    intro n acc x c h
    obtain ⟨nm, k⟩ := y
    unfold cellsFrom at h
    split at h
    · rename_i hk
      rcases ih h with h | h
      · exact .inl (List.mem_cons_of_mem _ h)
      · rcases List.mem_cons.mp h with e | h
        · cases e
          rw [beq_iff_eq.mp hk]; exact .inl List.mem_cons_self
        · exact .inr h
    · rcases ih h with h | h
      · exact .inl (List.mem_cons_of_mem _ h)
      · exact .inr h
theorem nodup_lookup {names : List (Str × NameKind)} (nd : (names.map (·.1)).Nodup) {x : Str} {k : NameKind} (h : (x, k) ∈ names) : names.lookup x = some k := by
  induction names with
  | nil => cases h
  | cons y r ih =>
    obtain ⟨n, k'⟩ := y
    rw [List.map_cons, List.nodup_cons] at nd
    rw [List.lookup_cons]
    rcases List.mem_cons.mp h with e | hm
    · cases e; simp
    · have hne : x ≠ n := fun e => nd.1 (List.mem_map.mpr ⟨(x, k), hm, e⟩)
      have hb : (x == n) = false := by simpa using hne
      rw [hb]; exact ih nd.2 hm

noncomputable def compCx (X : Cx) (scope : Scope) (Ni : List Str) (cs : List (Str × Addr)) (s₃ : Shared) (H₃ : Hp) (fp : List Addr) (pins : List (Addr × Obj)) : Cx :=
  { X with N := Ni, s₀ := s₃, H₀ := H₃, env := compEnv scope cs s₃.heap.objs.size X.env, outer := X.stack, stack := X.stack, ex := fp, fn := fun y => decide (scope.names.lookup y = some .cell), pn := X.pn ++ pins, xe := fun _ _ => False }
set_option genInjectivity false in
set_option genSizeOf false in
structure CompScope (X : Cx) (scope : Scope) (Ni : List Str) (caps : List (Option Nat)) : Prop where
  kind : scope.kind = .function
  ndn : (scope.names.map (·.1)).Nodup
  free : ∀ y ∈ scope.names, y.2 = .free → X.env.kindOf y.1 = some .cell ∨ X.env.kindOf y.1 = some .free
  nd : Ni.Nodup
  len : caps.length = Ni.length
  cap : ∀ (i : Nat) (y : Str) (j : Nat), Ni[i]? = some y → caps[i]? = some (some j) → X.N[j]? = some y ∧ scope.names.lookup y = some .free
noncomputable def compChk (so : Scope) (No : List Str) (scope : Scope) (Ni : List Str) (caps : List (Option Nat)) : Bool :=
  (scope.kind == .function) && decide ((scope.names.map (·.1)).Nodup) && (scope.names.all fun y => y.2 != .free || so.names.lookup y.1 == some .cell || so.names.lookup y.1 == some .free) &&
  decide Ni.Nodup && (caps.length == Ni.length) && ((Ni.zip caps).all fun p => match p.2 with | none => true | some j => No[j]? == some p.1 && scope.names.lookup p.1 == some .free)
theorem compScope_of {X : Cx} {scope : Scope} {Ni : List Str} {caps : List (Option Nat)} (h : compChk X.env.scope X.N scope Ni caps = true) : CompScope X scope Ni caps := by
  unfold compChk at h
  simp only [Bool.and_eq_true] at h
  obtain ⟨⟨⟨⟨⟨h1, h2⟩, h3⟩, h4⟩, h5⟩, h6⟩ := h
  refine ⟨beq_iff_eq.mp h1, of_decide_eq_true h2, fun y hy hf => ?_, of_decide_eq_true h4, beq_iff_eq.mp h5, fun i y j e1 e2 => ?_⟩
  · have q := List.all_eq_true.mp h3 y hy
    rw [Bool.or_eq_true, Bool.or_eq_true] at q
    rcases q with (q | q) | q
    · rw [hf] at q; simp at q
    · exact .inl (beq_iff_eq.mp q)
    · exact .inr (beq_iff_eq.mp q)
  · have hm : (y, some j) ∈ Ni.zip caps := by
      refine List.mem_of_getElem? (i := i) ?_
      rw [List.getElem?_zip_eq_some]; exact ⟨e1, e2⟩
    have q := List.all_eq_true.mp h6 _ hm
    simp only [Bool.and_eq_true] at q
    exact ⟨beq_iff_eq.mp q.1, beq_iff_eq.mp q.2⟩
noncomputable def capSt (caps : List (Option Nat)) (σ : St) : St := caps.map fun o => match o with | some j => (σ[j]?).getD none | none => none
section
variable {X : Cx}
set_option genInjectivity false in
set_option genSizeOf false in
structure CompAt (X : Cx) (scope : Scope) (own cl : List (Str × Addr)) (s₃ : Shared) : Prop where
  oeq : own = cellsFrom (s₃.heap.objs.size + 1) scope.names []
  apart : own.Pairwise fun x y => x.2 ≠ y.2
  above : ∀ n c, (n, c) ∈ own → s₃.heap.objs.size + 1 ≤ c
  sub : ∀ x c, cl.lookup x = some c → X.env.cells.lookup x = some c
  all : ∀ y ∈ scope.names, y.2 = .free → cl.lookup y.1 = X.env.cells.lookup y.1
theorem CompAt.look {scope : Scope} {own cl : List (Str × Addr)} {s₃ : Shared} (T : CompAt X scope own cl s₃) {x : Str} {c : Addr} (h : (own ++ cl).lookup x = some c) : (x, c) ∈ own ∨ X.env.cells.lookup x = some c := by
  rw [lookup_app] at h
  cases e : own.lookup x with
  | some c' => rw [e] at h; cases h; exact .inl (mem_of_lookup e)
  | none => rw [e] at h; exact .inr (T.sub x c h)
theorem cells_lt {pins : List (Addr × Obj)} {σ : St} {H : Hp} {s : Shared} (I : Inv X pins σ H s) {x : Str} {c : Addr} (h : X.env.cells.lookup x = some c) : c < s.heap.objs.size := by
  obtain ⟨v, o, ho, _⟩ := I.cell x c h
  exact Heap.lt_size ho
theorem comp_ok {scope : Scope} {Ni : List Str} {caps : List (Option Nat)} {own cl : List (Str × Addr)} {pins : List (Addr × Obj)} {σ : St} {H₃ : Hp} {s₃ : Shared} {fp : List Addr}
    (S : CompScope X scope Ni caps) (T : CompAt X scope own cl s₃) (I : Inv X pins σ H₃ s₃) (f : ∀ b ∈ fp, FpOk X pins H₃ b) (hf : ∀ b ∈ fp, b < s₃.heap.objs.size) : (compCx X scope Ni (own ++ cl) s₃ H₃ fp pins).Ok where
  mod := I.ok.mod
  kind := S.kind
  glob := I.ok.glob
  blt := I.ok.blt
  above := Nat.le_refl _
  inj := fun x y c h1 h2 => by
    rcases T.look h1 with a | a
    · rcases T.look h2 with b | b
      · exact name_of_addr T.apart a b
      · exact absurd (Nat.lt_of_lt_of_le (cells_lt I b) (Nat.le_of_succ_le (T.above x c a))) (Nat.lt_irrefl _)
    · rcases T.look h2 with b | b
      · exact absurd (Nat.lt_of_lt_of_le (cells_lt I a) (Nat.le_of_succ_le (T.above y c b))) (Nat.lt_irrefl _)
      · exact I.ok.inj x y c a b
  has := fun x h => by
    have h' := lookup_relabel_cell (env := X.env) (names := scope.names) (x := x) h
    show ∃ c, (own ++ cl).lookup x = some c
    rw [lookup_app]
    cases e : own.lookup x with
    | some c => exact ⟨c, rfl⟩
    | none =>
      rcases h' with h' | h'
      · obtain ⟨c, ec⟩ := cell_has (n := s₃.heap.objs.size + 1) h'
        rw [← T.oeq, e] at ec; cases ec
      · have hm := mem_of_lookup h'
        obtain ⟨c, ec⟩ := I.ok.has x (S.free _ hm rfl)
        exact ⟨c, (T.all _ hm rfl).trans ec⟩
  cab := fun x c h1 h2 => by
    have hk : scope.names.lookup x = some .cell := of_decide_eq_true h1
    obtain ⟨c', ec⟩ := cell_has (n := s₃.heap.objs.size + 1) hk
    rw [← T.oeq] at ec
    have h2' : (own ++ cl).lookup x = some c := h2
    rw [lookup_app, ec] at h2'
    cases h2'
    have := T.above x _ (mem_of_lookup ec)
    show s₃.heap.objs.size ≤ _
    omega
  hd := I.ok.hd
  frames := I.ok.frames
  stk := .inl rfl
  exf := fun b hb => ⟨Nat.ne_of_lt (hf b hb), fun x c h => by
    rcases T.look h with a | a
    · exact fun e => absurd (Nat.lt_of_lt_of_le (hf b hb) (Nat.le_of_succ_le (e ▸ T.above x c a))) (Nat.lt_irrefl _)
    · exact (f b hb).2.2.2.2.1 x c a⟩
  bs := I.bs
  bsz := Nat.le_trans I.ok.bsz I.sz
  noex := fun b o e hb => by
    rcases (f b hb).2.2.2.1 with z | z
    · exact I.ok.noex b o e z
    · have h1 : b < X.base.objs.size := Heap.lt_size e
      have h2 := I.ok.bsz
      exact absurd (Nat.lt_of_lt_of_le h1 (Nat.le_trans h2 z)) (Nat.lt_irrefl _)
  exfs := fun b hb hm => by
    rcases List.mem_cons.mp (I.stkSub b hm) with z | z
    · exact (f b hb).2.1 z
    · exact (f b hb).2.2.1 z
  funs := I.stack
  frf := I.stkFree
theorem comp_start {scope : Scope} {Ni : List Str} {caps : List (Option Nat)} {own cl : List (Str × Addr)} {pins : List (Addr × Obj)} {σ : St} {H₃ : Hp} {s₃ s₄ : Shared} {fp : List Addr}
    (S : CompScope X scope Ni caps) (T : CompAt X scope own cl s₃) (I : Inv X pins σ H₃ s₃) (f : ∀ b ∈ fp, FpOk X pins H₃ b) (hf : ∀ b ∈ fp, b < s₃.heap.objs.size)
    (e4 : s₄ = { s₃ with heap := s₄.heap }) (k : ∀ b o, s₃.heap.get? b = some o → s₄.heap.get? b = some o) (ns : s₄.heap.Ns s₃.heap.objs.size fun _ => none) (oc : ∀ n c, (n, c) ∈ own → s₄.heap.IsCell c none) :
    Inv (compCx X scope Ni (own ++ cl) s₃ H₃ fp pins) [] (capSt caps σ) H₃ s₄ where
  ok := comp_ok S T I f hf
  os := by rw [e4]; rfl
  bare := by rw [e4]; exact I.bare
  base := Un.kept k
  loc := by
    refine ⟨_, ns, fun i x v h1 h2 h3 => ?_⟩
    have h2' : (capSt caps σ)[i]? = some (some v) := h2
    unfold capSt at h2'
    rw [List.getElem?_map] at h2'
    cases ec : caps[i]? with
    | none => rw [ec] at h2'; cases h2'
    | some o =>
      cases o with
      | none => rw [ec] at h2'; cases h2'
      | some j =>
        rw [ec] at h2'
        have h2'' : (σ[j]?).getD none = some v := Option.some.inj h2'
        have hj : σ[j]? = some (some v) := by
          cases e : σ[j]? with
          | none => rw [e] at h2''; cases h2''
          | some z => rw [e] at h2''; exact congrArg some h2''
        obtain ⟨hN, hfr⟩ := S.cap i x j h1 ec
        have hm := mem_of_lookup hfr
        have hk := S.free _ hm rfl
        obtain ⟨m, _, hl⟩ := I.loc
        obtain ⟨u, r, l⟩ := hl j x v hN hj (by rcases hk with z | z; exact .inr (.inl z); exact .inr (.inr z))
        refine ⟨u, r, .inr ⟨lookup_relabel_free hfr, ?_⟩⟩
        rcases l with ⟨z, _⟩ | ⟨_, c, hc, q⟩
        · have z' : X.env.kindOf x = some .local := z
          rcases hk with y | y <;> (have y' : X.env.kindOf x = _ := y; rw [z'] at y'; cases y')
        · refine ⟨c, ?_, q.keeps k⟩
          show (own ++ cl).lookup x = some c
          rw [lookup_app]
          cases eo : own.lookup x with
          | some c' =>
            rw [T.oeq] at eo
            rcases own_mem (mem_of_lookup eo) with y | y
            · have := nodup_lookup S.ndn y
              rw [hfr] at this; cases this
            · cases y
          | none => exact (T.all _ hm rfl).trans hc
  cell := fun x c h => by
    rcases T.look h with a | a
    · exact ⟨_, oc x c a⟩
    · obtain ⟨v, q⟩ := I.cell x c a
      exact ⟨v, q.keeps k⟩
  free := I.hok.fresh (Nat.le_refl _)
  freeC := fun x c h => by
    rcases T.look h with a | a
    · exact I.hok.fresh (by have := T.above x c a; omega)
    · exact I.freeC x c a
  pin := fun p hp => by
    have hp' : p ∈ X.pn ++ pins := by
      have : p ∈ (X.pn ++ pins) ++ [] := hp
      simpa using this
    obtain ⟨h1, h2, h3, h4, h5⟩ := I.pin p hp'
    refine ⟨k _ _ h1, h2, Nat.ne_of_lt (Heap.lt_size h1), fun z => ?_, h5⟩
    rcases List.mem_cons.mp (I.stkSub _ z) with y | y
    · exact h3 y
    · exact h4 y
  hok := I.hok.kept k
  len := by
    show (capSt caps σ).length = Ni.length
    unfold capSt; rw [List.length_map]; exact S.len
theorem comp_end {scope : Scope} {Ni : List Str} {cs : List (Str × Addr)} {pins : List (Addr × Obj)} {σ σ' : St} {H₃ H' : Hp} {s₃ s' : Shared} {fp : List Addr} (I : Inv X pins σ H₃ s₃) (f : ∀ b ∈ fp, FpOk X pins H₃ b)
    (J : Inv (compCx X scope Ni cs s₃ H₃ fp pins) [] σ' H' s') : Inv X pins σ H' s' := by
  have u : Un (frs X.stack) fp H₃ H' s₃.heap s'.heap := J.base
  have q := I.call (g' := s'.gens) (t' := s'.toks) (d' := s'.drawn) (ch := fp) u J.hok J.bare fun b hb => ⟨(f b hb).2.2.2.1, (f b hb).2.1, (f b hb).2.2.2.2.1, (f b hb).2.2.2.2.2⟩
  have e : ({ s₃ with heap := s'.heap, gens := s'.gens, drawn := s'.drawn, toks := s'.toks } : Shared) = s' := by
    have h1 : s'.os = s₃.os := J.os
    cases s'; cases s₃
    simp only at h1
    subst h1; rfl
  rw [e] at q
  exact q
noncomputable def PF (Y : Cx) (ifs : List Expr) (t : TT) : Prop := ∀ (pins : List (Addr × Obj)) (s : Shared) (σ : St) (H : Hp) (Q : Bool → Hp → Prop), Inv Y pins σ H s → t σ H Q →
  wpAny (model Y.prog Y.w) Y.A (forIn ifs true fun c r => if r = true then do let ok ← isTrue c Y.env (eval c Y.env); pure (ForInStep.yield ok) else pure (ForInStep.yield r)) (TP Y pins σ Q) Y.xe s
noncomputable abbrev tYes : TT := fun _ H T => T true H
theorem pf_nil {Y : Cx} : PF Y [] tYes := fun pins s σ H Q I h => wpAny_tests_nil ⟨H, I, h⟩
theorem pf_one {Y : Cx} {c : Expr} {t : TT} (h : PT Y c t) : PF Y [c] t := fun pins s σ H Q I q => wpAny_tests_one (h pins s σ H Q I q)
noncomputable def tComp (wi : TI) (caps : List (Option Nat)) (g : TG) (tf : TT) (te : TE) : TE := fun σ H Q => wi σ H fun J H1 => ∀ D, H1 D = none →
  ∃ W : Nat → Nat → St → Hp → Prop, (∃ m, W 0 m (capSt caps σ) (upd H1 D (.lst []))) ∧ ∀ i m σ' H', W i m σ' H' →
    (J.stop i H' ∧ Q (.ref D) H') ∨ (J.go i H' ∧ ∃ N : St → Hp → Prop, (∀ σ2 H2, N σ2 H2 → ∃ m', m' < m ∧ W (i + 1) m' σ2 H2) ∧
      ∀ x H2, J.yld i H' x H2 → g x σ' H2 fun σ1 H3 => tf σ1 H3 fun b H4 => if b = true then te σ1 H4 fun v H5 => rAppend (.ref D) [v] H5 fun _ H6 => N σ1 H6 else N σ1 H4)

theorem compLoop_own {P : Program} {w : World} {A : Around} {R : Result → Shared → Prop} {s0 : Shared} {elt tg iter : Expr} {tests : List Expr} {sc : Scope} {ps : Pos} {itv acc : Value} {en : Env} (J : Nat → Shared → Prop)
    (turn : ∀ n s, J n s → wpAny (model P w) A (pyNext itv) (fun r s1 => match r with | none => R (.ok .next) s1 | some v => wpAny (model P w) A (letOwnedTupleGo tg itv v) (fun _ s1' => wpAny (model P w) A (assign tg en v) (fun _ s2 =>
      wpAny (model P w) A (forIn tests true fun c r => if r = true then do let ok ← isTrue c en (eval c en); pure (ForInStep.yield ok) else pure (ForInStep.yield r)) (fun ok s3 => if ok = true then wpAny (model P w) A (eval elt en) (fun x s4 =>
        wpAny (model P w) A (call (.builtin "list.append") [acc, x]) (fun _ s5 => ∃ m, m < n ∧ J m s5) (notedBy (model P w) A en fun e s' => R (.error e) s') s4) (notedBy (model P w) A en fun e s' => R (.error e) s') s3
          else ∃ m, m < n ∧ J m s3) (notedBy (model P w) A en fun e s' => R (.error e) s') s2) (notedBy (model P w) A en fun e s' => R (.error e) s') s1') (notedBy (model P w) A en fun e s' => R (.error e) s') s1) (notedBy (model P w) A en fun e s' => R (.error e) s') s)
    (n0 : Nat) (j0 : J n0 s0) : codeAny (model P w) A (.compLoop (.ListComp elt [⟨tg, iter, tests, 0⟩] sc ps) 0 itv acc en) R s0 := by
  refine codeAny_loop rfl J (fun n s hJ => ?_) n0 j0
  show wpAny _ A ((compTurn (.ListComp elt [⟨tg, iter, tests, 0⟩] sc ps) 0 itv acc en).onRaise (fun x => do noteFrame x en; theTreesLotGoes x)) _ _ s
  refine wpAny_noted ?_
  rw [compTurn_list]
  refine wpAny_bind (wpAny_standAt (wpAny_bind (wpAny_mono (turn n s hJ) (fun r s1 h1 => ?_) fun _ _ z => z)))
  cases r with
  | none => exact wpAny_pure h1
  | some v =>
    refine wpAny_bind (wpAny_mono h1 (fun _ s1' h1' => wpAny_bind (wpAny_mono h1' (fun _ s2 h2 => wpAny_bind (wpAny_mono h2 (fun ok s3 h3 => ?_) fun _ _ z => z)) fun _ _ z => z)) fun _ _ z => z)
    cases ok with
    | false => exact wpAny_pure ⟨rfl, h3⟩
    | true =>
      exact wpAny_bind (wpAny_bind (wpAny_mono h3 (fun x s4 h4 => wpAny_bind (wpAny_mono h4 (fun _ s5 h5 => wpAny_pure (wpAny_pure ⟨rfl, h5⟩)) fun _ _ z => z)) fun _ _ z => z))
theorem comp_loop {Y : Cx} {elt iter : Expr} {tg : Expr} {ifs : List Expr} {scope : Scope} {pos : Pos} {it D : Addr} {fp : List Addr} {tn : Nat → Heap → Prop} {J : It} {g : TG} {tf : TT} {te : TE} {Q : VK} {R : Result → Shared → Prop}
    (T : Turn Y.prog Y.w Y.K tg J fp it tn) (hc : Y.calm = true) (gY : PG Y tg g) (hF : PF Y ifs tf) (hE : PE Y elt te) (fpY : ∀ {H' : Hp}, (∀ b ∈ fp, H' b = none) → ∀ b ∈ fp, FpOk Y [] H' b) (hx : ∀ e s, ¬ Y.xe e s)
    {W : Nat → Nat → St → Hp → Prop} (turn : ∀ i m σ' H', W i m σ' H' →
      (J.stop i H' ∧ Q (.ref D) H') ∨ (J.go i H' ∧ ∃ N : St → Hp → Prop, (∀ σ2 H2, N σ2 H2 → ∃ m', m' < m ∧ W (i + 1) m' σ2 H2) ∧
        ∀ x H2, J.yld i H' x H2 → g x σ' H2 fun σ1 H3 => tf σ1 H3 fun b H4 => if b = true then te σ1 H4 fun v H5 => rAppend (.ref D) [v] H5 fun _ H6 => N σ1 H6 else N σ1 H4))
    (fin : ∀ σ' H' s', Inv Y [] σ' H' s' → Q (.ref D) H' → R (.ok .next) s') {m0 : Nat} {σ0 : St} {H0 : Hp} {s0 : Shared} (I0 : Inv Y [] σ0 H0 s0) (st0 : tn 0 s0.heap) (fr0 : ∀ b ∈ fp, H0 b = none) (w0 : W 0 m0 σ0 H0) :
    codeAny (model Y.prog Y.w) Y.A (.compLoop (.ListComp elt [⟨tg, iter, ifs, 0⟩] scope pos) 0 (.ref it) (.ref D) Y.env) R s0 := by
  refine compLoop_own (fun n s' => ∃ i σ' H', Inv Y [] σ' H' s' ∧ tn i s'.heap ∧ (∀ b ∈ fp, H' b = none) ∧ W i n σ' H') ?_ m0 ⟨0, _, _, I0, st0, fr0, w0⟩
  rintro n s5 ⟨i, σ5, H5, I5, st5, fr5, w5⟩
  have noE : ∀ {α : Type} {t : Sem α} {Q1 : α → Shared → Prop} {E2 : Value → Shared → Prop} {s1 : Shared}, wpAny (model Y.prog Y.w) Y.A t Q1 Y.xe s1 → wpAny (model Y.prog Y.w) Y.A t Q1 E2 s1 :=
    fun h => wpAny_mono h (fun _ _ q => q) fun e s z => (hx e s z).elim
  rcases turn i n σ5 H5 w5 with ⟨stop, qn⟩ | ⟨go, N, hN, step⟩
  · refine thn (T.done Y rfl rfl rfl hc i [] s5 σ5 H5 _ I5 (fpY fr5) st5 stop) fun r s6 ⟨hr, I6⟩ => ?_
    subst hr
    exact fin σ5 H5 s6 I6 qn
  · refine thn (T.item Y rfl rfl rfl hc i [] s5 σ5 H5 _ I5 (fpY fr5) st5 go) fun r s6 ⟨u, hr, h6⟩ => ?_
    subst hr
    refine thn h6 fun _ s7 zz => ?_
    obtain ⟨x7, H7, I7, r7, y7, st7, fr7⟩ := zz
    have I7' := I7.pinned (fpY fr7) (T.obj _ _ st7)
    have again : ∀ {σ9 : St} {H9 : Hp} {s9 : Shared}, Inv Y ([] ++ pinsAt fp s7.heap) σ9 H9 s9 → N σ9 H9 → ∃ m, m < n ∧ ∃ i σ' H', Inv Y [] σ' H' s9 ∧ tn i s9.heap ∧ (∀ b ∈ fp, H' b = none) ∧ W i m σ' H' := fun {σ9 H9 s9} I9 n9 => by
      obtain ⟨m', hm, w9⟩ := hN σ9 H9 n9
      refine ⟨m', hm, i + 1, σ9, H9, I9.unpinned, T.keep _ _ _ st7 fun b hb o e => (I9.pin (b, o) (List.mem_append_right _ (List.mem_append_right _ (mem_pinsAt hb e)))).1, fun b hb => ?_, w9⟩
      obtain ⟨o, e, d⟩ := T.obj _ _ st7 b hb
      exact (I9.pin (b, o) (List.mem_append_right _ (List.mem_append_right _ (mem_pinsAt hb e)))).2.1
    refine noE (thn (gY _ s7 σ5 H7 x7 u _ I7' r7 (step x7 _ y7)) fun _ s8 zz => ?_)
    obtain ⟨σ8, H8, I8, q8⟩ := zz
    refine noE (thn (hF _ s8 _ _ _ I8 q8) fun b s9 ⟨H9, I9, q9⟩ => ?_)
    cases b with
    | false => exact again I9 q9
    | true =>
      refine noE (thn (hE _ s9 _ _ _ I9 q9) fun y s10 zz => ?_)
      obtain ⟨v10, H10, I10, r10, q10⟩ := zz
      refine noE (thn (mt_append (X := Y) _ s10 _ _ (.ref D) [v10] (.ref D) [y] _ I10 rfl (.cons r10 .nil) q10) fun _ s11 zz => ?_)
      obtain ⟨v11, H11, I11, _, q11⟩ := zz
      exact again I11 q11
theorem pg_nameC {scope : Scope} {Ni : List Str} {caps : List (Option Nat)} {x : Str} {px : Pos} {gi : Nat} {cs : List (Str × Addr)} {s₃ : Shared} {H₃ : Hp} {fp : List Addr} {pins : List (Addr × Obj)}
    (S : CompScope X scope Ni caps) (hx : scope.names.lookup x = some .local ∨ scope.names.lookup x = some .cell) (hgi : Ni[gi]? = some x) : PG (compCx X scope Ni cs s₃ H₃ fp pins) (.Name x px) (gName gi) := by
  rcases hx with hx | hx
  · exact pg_name S.nd hgi (.inl (lookup_relabel_local hx)) (.inr (lookup_relabel_local hx))
  · refine pg_name S.nd hgi ?_ (.inl (decide_eq_true hx))
    have : (relabel scope X.env).names.lookup x = some .cell := lookup_relabel_own hx
    exact .inr this
theorem comp_core {elt iter : Expr} {tg : Expr} {ifs : List Expr} {scope : Scope} {pos pos' : Pos} {wi : TI} {Ni : List Str} {caps : List (Option Nat)} {g : TG} {tf : TT} {te : TE}
    (hc : X.calm = true) (hi : PI X tg iter wi) (S : CompScope X scope Ni caps) (hG : CompScope X scope Ni caps → ∀ cs s₃ H₃ fp pins, PG (compCx X scope Ni cs s₃ H₃ fp pins) tg g)
    (hF : ∀ cs s₃ H₃ fp pins, PF (compCx X scope Ni cs s₃ H₃ fp pins) ifs tf) (hE : ∀ cs s₃ H₃ fp pins, PE (compCx X scope Ni cs s₃ H₃ fp pins) elt te)
    (hs : ∀ x, foldedSetIterable iter X.env x = pure x)
    {pins : List (Addr × Obj)} {s : Shared} {σ : St} {H : Hp} {Q : VK} (I : Inv X pins σ H s) (h : tComp wi caps g tf te σ H Q) {use : Option (Value → Sem Unit)} {R : Value → Shared → Prop}
    (fin : ∀ (D C : Addr) (H' : Hp) (s' : Shared) (m : Str → Option Value), Inv X pins σ H' s' → Q (.ref D) H' → s'.heap.Ns C m → H' C = none → X.s₀.heap.objs.size ≤ C → C ≠ X.env.locals → (∀ y c, X.env.cells.lookup y = some c → c ≠ C) → (∀ p ∈ X.pn ++ pins, p.1 ≠ C) →
      compPost (model X.prog X.w) X.A X.xe use R (.ref D) C (.ok .next) s') :
    wpAny (model X.prog X.w) X.A (comprehension (.ListComp elt [⟨tg, iter, ifs, 0⟩] scope pos) scope X.env pos' (newList []) false (eval iter X.env) use) R X.xe s := by
  obtain ⟨cl, hcl, hsub, hall⟩ := closureFor_all (env := X.env) (scope := scope) fun y hy hf => I.ok.has y.1 (S.free y hy hf)
  refine wpAny_comprehension_free rfl hs hcl S.kind (fun y hy hl => by obtain ⟨n, k⟩ := y; cases hl; exact nodup_lookup S.ndn hy) (thn (hi pins s σ H _ I h) fun v s1 h1 => thn h1 fun itv s2 h2 => ?_)
  obtain ⟨it, fp, tn, J, H2, e, I2, T, st2, f2, hW⟩ := h2
  subst e
  have I3 : Inv X pins σ (upd H2 s2.heap.objs.size (.lst [])) { s2 with heap := s2.heap.push { cls := .type "list", dict := none, data := .seq ([] : List Value).toArray }, toks := s2.toks } :=
    I2.laid (fun b u e => Heap.get?_push_of_some _ e) (Nat.le_refl _) ⟨Nat.zero_le _, [], _, .nil, Heap.get?_push_size _ rfl⟩
  have hD : H2 s2.heap.objs.size = none := I2.hok.fresh (Nat.le_refl _)
  obtain ⟨W, ⟨m0, w0⟩, turn⟩ := hW s2.heap.objs.size hD
  have st3 : tn 0 (s2.heap.push { cls := .type "list", dict := none, data := .seq ([] : List Value).toArray }) := T.keep _ _ _ st2 fun b _ o e => Heap.get?_push_of_some _ e
  have f3 : ∀ b ∈ fp, FpOk X pins (upd H2 s2.heap.objs.size (.lst [])) b := fun b hb => by
    obtain ⟨o, e, _⟩ := T.obj _ _ st2 b hb
    exact ⟨by rw [upd_ne (Nat.ne_of_lt (Heap.lt_size e))]; exact (f2 b hb).1, (f2 b hb).2⟩
  refine wpAny_newObj_type ?_
  generalize hs3 : ({ s2 with heap := s2.heap.push { cls := .type "list", dict := none, data := .seq ([] : List Value).toArray }, toks := s2.toks } : Shared) = s3 at I3
  have eh : s2.heap.push { cls := .type "list", dict := none, data := .seq ([] : List Value).toArray } = s3.heap := by rw [← hs3]
  rw [eh] at st3
  have hf3 : ∀ b ∈ fp, b < s3.heap.objs.size := fun b hb => by
    obtain ⟨o, e, _⟩ := T.obj _ _ st3 b hb
    exact Heap.lt_size e
  refine wpAny_compEnv fun own s4 eo e4 k4 ns4 oc4 ap4 => ?_
  have T4 : CompAt X scope own cl s3 := ⟨eo, ap4, fun n c hm => (oc4 n c hm).2, hsub, hall⟩
  have I4 := comp_start (Ni := Ni) (caps := caps) S T4 I3 f3 hf3 e4 k4 ns4 fun n c hm => (oc4 n c hm).1
  have st4 : tn 0 s4.heap := T.keep _ _ _ st3 fun b _ o e => k4 b o e
  have fpY : ∀ {H' : Hp}, (∀ b ∈ fp, H' b = none) → ∀ b ∈ fp, FpOk (compCx X scope Ni (own ++ cl) s3 (upd H2 s2.heap.objs.size (.lst [])) fp pins) [] H' b := fun hn b hb =>
    ⟨hn b hb, Nat.ne_of_lt (hf3 b hb), I4.ok.exfs b hb, .inl hb, (I4.ok.exf b hb).2, fun p hp => by
      have hp' : p ∈ X.pn ++ pins := by
        have : p ∈ (X.pn ++ pins) ++ [] := hp
        simpa using this
      exact (f3 b hb).2.2.2.2.2 p hp'⟩
  have loop := comp_loop (Q := Q) (elt := elt) (iter := iter) (scope := scope) (pos := pos) (R := compPost (model X.prog X.w) X.A X.xe use R (.ref s2.heap.objs.size) s3.heap.objs.size) (Y := compCx X scope Ni (own ++ cl) s3 (upd H2 s2.heap.objs.size (.lst [])) fp pins)
    T hc (hG S _ _ _ _ _) (hF _ _ _ _ _) (hE _ _ _ _ _) fpY (fun _ _ z => z) turn (fun σ' H' s' I6 qn => by
      have I6' := comp_end I3 f3 I6
      obtain ⟨m6, ns6, _⟩ := I6.loc
      exact fin _ _ H' s' m6 I6' qn ns6 I6.free I3.sz (Nat.ne_of_gt I3.lt) (fun y c hc' => Nat.ne_of_lt (cells_lt I3 hc')) fun p hp => Nat.ne_of_lt (Heap.lt_size (I3.pin p hp).1)) I4 st4 (fun b hb => (f3 b hb).1) w0
  exact codeAny_compStart_list loop (T.self _ _ _ _ _ st4 loop)
theorem pe_comp {elt iter : Expr} {tg : Expr} {ifs : List Expr} {scope : Scope} {pos : Pos} {wi : TI} {Ni : List Str} {caps : List (Option Nat)} {g : TG} {tf : TT} {te : TE}
    (hc : X.calm = true) (hi : PI X tg iter wi) (S : CompScope X scope Ni caps) (hG : CompScope X scope Ni caps → ∀ cs s₃ H₃ fp pins, PG (compCx X scope Ni cs s₃ H₃ fp pins) tg g)
    (hF : ∀ cs s₃ H₃ fp pins, PF (compCx X scope Ni cs s₃ H₃ fp pins) ifs tf) (hE : ∀ cs s₃ H₃ fp pins, PE (compCx X scope Ni cs s₃ H₃ fp pins) elt te)
    (hs : autoParam (∀ x, foldedSetIterable iter X.env x = pure x) Internal.aut3._auto_1) : PE X (.ListComp elt [⟨tg, iter, ifs, 0⟩] scope pos) (tComp wi caps g tf te) := by
  intro pins s σ H Q I h
  rw [eval_ListComp]
  refine comp_core hc hi S hG hF hE hs I h fun D C H' s' m I' q ns hn hC h1 h2 h3 => ?_
  refine ⟨m, ns, fun h' sb => ?_⟩
  exact ⟨.ref D, H', I'.turned (t' := s'.toks) (it := C) (fun b o hb e => (sb.2 b hb).trans e) hn h1 (.inr hC) h2 h3, rfl, q⟩
theorem ps_setC {i : Nat} {y : Str} {py : Pos} {elt iter : Expr} {tg : Expr} {ifs : List Expr} {scope : Scope} {pos spos : Pos} {wi : TI} {Ni : List Str} {caps : List (Option Nat)} {g : TG} {tf : TT} {te : TE}
    (hN : X.N.Nodup) (hyi : X.N[i]? = some y) (hy : X.env.scope.names.lookup y = some .local) (hc : X.calm = true) (hi : PI X tg iter wi) (S : CompScope X scope Ni caps) (hG : CompScope X scope Ni caps → ∀ cs s₃ H₃ fp pins, PG (compCx X scope Ni cs s₃ H₃ fp pins) tg g)
    (hF : ∀ cs s₃ H₃ fp pins, PF (compCx X scope Ni cs s₃ H₃ fp pins) ifs tf) (hE : ∀ cs s₃ H₃ fp pins, PE (compCx X scope Ni cs s₃ H₃ fp pins) elt te)
    (hsw : autoParam (swapsWith (.ListComp elt [⟨tg, iter, ifs, 0⟩] scope pos) (some (.Name y py)) spos.line X.env = pure true) Internal.aut2._auto_1)
    (hs : autoParam (∀ x, foldedSetIterable iter X.env x = pure x) Internal.aut3._auto_1) : PS X (.Assign [.Name y py] (.ListComp elt [⟨tg, iter, ifs, 0⟩] scope pos) spos) (tAsg (tComp wi caps g tf te) (gName i)) := by
  intro pins s σ H D I h
  rw [exec_Assign_Name_used _ _ _ _ hsw]
  refine wpAny_bind (wpAny_standAt (wpAny_bind ?_))
  show wpAny _ X.A (do let _ ← comprehension (.ListComp elt [⟨tg, iter, ifs, 0⟩] scope pos) scope X.env _ (newList []) false (eval iter X.env) (some (assign (.Name y py) X.env))) _ _ s
  refine wpAny_bind (wpAny_mono (comp_core (R := fun _ s' => SP X pins D .next s') hc hi S hG hF hE hs I h fun L C H' s' m I' q ns hn hC h1 h2 h3 => ?_) (fun _ s' hq => wpAny_pure (wpAny_pure hq)) fun _ _ e => e)
  show wpAny _ X.A (assign (.Name y py) X.env (.ref L)) _ _ _
  refine wpAny_assign_Name (store_ok2 (v := .ref L) I' hN hyi (.inl hy) rfl (fun s2 I2 sb2 => ?_) (.inr hy))
  obtain ⟨a, sb, ha⟩ := sb2
  have hCa : C ≠ a := by
    rcases ha with z | z
    · rw [z]; exact h1
    · exact fun w' => h2 y a z w'.symm
  refine ⟨m, ns.sameBut sb hCa, fun h' sb' => ?_⟩
  exact ⟨_, H', I2.turned (t' := s2.toks) (it := C) (fun b o hb e => (sb'.2 b hb).trans e) hn h1 (.inr hC) h2 h3, q⟩
end
end Internal

namespace My
end My

set_option Elab.async false
set_option linter.all false
set_option maxRecDepth 100000
namespace Internal
open PySem PySem.Spec PyProof.Rows
section
variable {K : PySem.W.Frag} {H : Hp} {Q : VK}
theorem x_isII {i : Int} (q : Q (.bl true) H) : rIsi K [.int i, .ty "int"] H Q := x_isi (t' := .type "int") (cv := .type "int") (b := true) rfl (.int i) (by with_unfolding_all rfl) q
theorem x_isIB {i : Int} (q : Q (.bl false) H) : rIsi K [.int i, .ty "bool"] H Q := x_isi (t' := .type "int") (cv := .type "bool") (b := false) rfl (.int i) (by with_unfolding_all rfl) q
theorem x_isTT {a : Addr} {xs : List V} (h : H a = some (.tup xs)) (q : Q (.bl true) H) : rIsi K [.ref a, .ty "tuple"] H Q := x_isi (t' := .type "tuple") (cv := .type "tuple") (b := true) rfl (.tup h) (by with_unfolding_all rfl) q
theorem x_isLL {a : Addr} {xs : List V} (h : H a = some (.lst xs)) (q : Q (.bl true) H) : rIsi K [.ref a, .ty "list"] H Q := x_isi (t' := .type "list") (cv := .type "list") (b := true) rfl (.lst h) (by with_unfolding_all rfl) q
theorem x_lenT' {a : Addr} {xs : List V} (h : H a = some (.tup xs)) (q : Q (.int xs.length) H) : rLen K [.ref a] H Q := x_lenT (.of h) q
end
noncomputable def cell (ns : List Int) (k : Int) : Int := ns.getD k.toNat 0
noncomputable def IsQ (H : Hp) (a : Addr) (q : Rat) : Prop := H a = some (.tup [.int q.num, .int (q.den : Int)])
noncomputable def NewQ (H : Hp) (Q : VK) (q : Rat) : Prop := ∀ p H', Same H H' → IsQ H' p q → Q (.ref p) H'
theorem szL {i : Int} {n : Nat} (hn : 200 ≤ n) (h1 : -1606938044258990275541962092341162602522202993782792835301376 < i) (h2 : i < 1606938044258990275541962092341162602522202993782792835301376) : sz i ≤ n := Nat.le_trans (sz200 h1 h2) hn
end Internal

set_option Elab.async false
set_option linter.all false
set_option maxRecDepth 100000
namespace Internal
open PySem PySem.Spec PyProof.Rows
section
variable {σ : St} {H : Hp} {Q : VK} {D : Ends} {ta tb tc te to : TE} {t u : TS} {K : PySem.W.Frag}
noncomputable def ForK (J : It) (g : TG) (tb : TS) : TS := fun D σ H => ∃ W : Nat → Nat → St → Hp → Prop, (∃ m, W 0 m σ H) ∧ ∀ i m σ H, W i m σ H →
  (J.stop i H ∧ D.nx σ H) ∨ (J.go i H ∧ ∃ N : St → Hp → Prop, (∀ σ' H', N σ' H' → ∃ m', m' < m ∧ W (i + 1) m' σ' H') ∧ ∀ x H', J.yld i H x H' → g x σ H' fun σ2 H2 => tb { D with nx := N, ct := N, bk := D.nx } σ2 H2)
theorem x_for {wi : TI} {g : TG} {tb : TS} (q : wi σ H fun J H1 => ForK J g tb D σ H1) : tFor wi g tb D σ H := q
noncomputable def rRng1 (R : It → Hp → Prop) (vs : List V) (H : Hp) : Prop := ∃ j : Int, vs = [.int j] ∧ -(2 ^ 62) ≤ j ∧ j < 2 ^ 62 ∧ R (Itr 0 j.toNat) H
noncomputable def rItL (K : PySem.W.Frag) (R : It → Hp → Prop) (x : V) (H : Hp) : Prop := ∃ a, x = .ref a ∧ (∃ xs, SqL K H a xs) ∧ R (Itl K a) H
theorem x_rng1 {tr : TA} {R : It → Hp → Prop} (q : tr σ H (rRng1 R)) : iRng1 tr σ H R := q
theorem x_itL {R : It → Hp → Prop} (q : te σ H (rItL K R)) : iList K te σ H R := q
theorem x_rngk1 {R : It → Hp → Prop} {j : Int} (h1 : -4611686018427387904 ≤ j) (h2 : j < 4611686018427387904) (q : R (Itr 0 j.toNat) H) : rRng1 R [.int j] H := ⟨j, rfl, h1, h2, q⟩
theorem x_itk {R : It → Hp → Prop} {a : Addr} {xs : List V} (h : SqL K H a xs) (q : R (Itl K a) H) : rItL K R (.ref a) H := ⟨a, rfl, ⟨xs, h⟩, q⟩
theorem x_gName {i : Nat} {v : V} {R : St → Hp → Prop} (q : R (σ.set i (some v)) H) : gName i v σ H R := q
theorem x_forR {lo : Int} {n : Nat} {g : TG} {tb : TS} (Pv : Nat → St → Hp → Prop) (h0 : Pv 0 σ H)
    (hs : ∀ i σ H, i < n → Pv i σ H → g (.int (lo + i)) σ H fun σ2 H2 => tb { D with nx := Pv (i + 1), ct := Pv (i + 1), bk := D.nx } σ2 H2) (hd : ∀ σ H, Pv n σ H → D.nx σ H) : ForK (Itr lo n) g tb D σ H := for_range Pv h0 hs hd
theorem x_forL {a : Addr} {xs : List V} {g : TG} {tb : TS} (Pv : Nat → St → Hp → Prop) (h0 : Pv 0 σ H) (hl : ∀ i σ H, i ≤ xs.length → Pv i σ H → SqL K H a xs)
    (hs : ∀ i x σ H, xs[i]? = some x → Pv i σ H → g x σ H fun σ2 H2 => tb { D with nx := Pv (i + 1), ct := Pv (i + 1), bk := D.nx } σ2 H2) (hd : ∀ σ H, Pv xs.length σ H → D.nx σ H) : ForK (Itl K a) g tb D σ H := for_list Pv h0 hl hs hd
theorem x_bm {T : String} {r : V → List V → Hp → VK → Prop} {tr : TA} (q : to σ H fun x H1 => tyV K T x H1 ∧ tr σ H1 fun xs H2 => r x xs H2 Q) : tBM K T r to tr σ H Q := q
theorem x_tyL {l : Addr} {xs : List V} {A : Prop} (h : H l = some (.lst xs)) (q : A) : tyV K "list" (.ref l) H ∧ A := ⟨.inl ⟨rfl, xs, SqL.of h⟩, q⟩
theorem x_append {l : Addr} {xs : List V} {y : V} (h : H l = some (.lst xs)) (hl : xs.length < sizeLine) (q : Q .non (upd H l (.lst (xs ++ [y])))) : rAppend (.ref l) [y] H Q := ⟨l, xs, y, rfl, rfl, h, hl, q⟩
theorem x_setL {l : Addr} {xs : List V} {k : Int} {j : Nat} {v : V} {R : Hp → Prop} (h : H l = some (.lst xs)) (e : ixN xs.length k = some j) (q : R (upd H l (.lst (xs.set j v)))) : rSetL (.ref l) (.int k) v H R := ⟨l, xs, k, j, rfl, rfl, h, e, q⟩
theorem x_ixLs {a : Addr} {xs : List V} {i : Int} {v : V} (h : H a = some (.lst xs)) (e : atI xs i = some v) (q : Q v H) : rIx K (.ref a) (.int i) H Q := x_ixL (.of h) e q
noncomputable def rPart (R : Option Int → Hp → Prop) (x : V) (H : Hp) : Prop := ∃ i, x = .int i ∧ R (some i) H
theorem x_part {R : Option Int → Hp → Prop} (q : te σ H (rPart R)) : tPart te σ H R := q
theorem x_partI {R : Option Int → Hp → Prop} {i : Int} (q : R (some i) H) : rPart R (.int i) H := ⟨i, rfl, q⟩
theorem x_cut {a : Addr} {xs : List V} {lo hi : Option Int} (h : SqL K H a xs) (q : ∀ p, H p = none → Q (.ref p) (upd H p (.lst (cutV xs lo hi)))) : rSlL K (.ref a) lo hi H Q := ⟨a, xs, rfl, h, q⟩
end
theorem Same.fresh {H H' : Hp} {l : Addr} (g : Same H H') (h : H' l = none) : H l = none := by
  cases e : H l with
  | none => rfl
  | some o => rw [g l o e] at h; cases h
theorem small_of {n : Nat} (h : n ≤ 100000) : n < sizeLine := Nat.lt_of_le_of_lt h (by decide)
theorem small_le {n : Nat} (h : n ≤ 100000) : n ≤ sizeLine := Nat.le_of_lt (small_of h)
noncomputable def But (l : Addr) (H H' : Hp) : Prop := ∀ b, b ≠ l → H' b = H b
theorem But.upd {H : Hp} {l : Addr} {o : HO} : But l H (Internal.upd H l o) := fun _ h => upd_ne h
theorem But.at {l : Addr} {H H' : Hp} (g : But l H H') {a : Addr} {o : HO} (h : H a = some o) (n : a ≠ l) : H' a = some o := by rw [g a n]; exact h
theorem But.same {l : Addr} {H0 H H' : Hp} (g : But l H H') (e : Same H0 H) (h : H0 l = none) : Same H0 H' := fun b o q => by rw [g b (ne_of_none q h)]; exact e b o q
noncomputable def LBut (l : Addr) (H H' : Hp) : Prop := But l H H' ∧ ∃ xs, H l = some (.lst xs)
theorem LBut.tup {l : Addr} {H H' : Hp} (g : LBut l H H') {a : Addr} {xs : List V} (h : H a = some (.tup xs)) : H' a = some (.tup xs) := by
  obtain ⟨ys, e⟩ := g.2
  exact g.1.at h (ne_of h e (by intro z; cases z))
theorem LBut.lst {l : Addr} {H H' : Hp} (g : LBut l H H') {a : Addr} {o : HO} (h : H a = some o) (n : a ≠ l) : H' a = some o := g.1.at h n
theorem LBut.same {l : Addr} {H0 H H' : Hp} (g : LBut l H H') (e : Same H0 H) (h : H0 l = none) : Same H0 H' := g.1.same e h
theorem Same.at {H H' : Hp} (e : Same H H') {a : Addr} {o : HO} (h : H a = some o) : H' a = some o := e a o h
theorem SqL.keep {K : PySem.W.Frag} {H H' : Hp} {a : Addr} {xs : List V} (h : SqL K H a xs) (e : Same H H') : SqL K H' a xs := e.seq h
theorem Same.after {H H1 H2 : Hp} (b : Same H1 H2) (a : Same H H1) : Same H H2 := a.trans b
theorem Same.none {H H' : Hp} {l : Addr} (h : H' l = none) (g : Same H H') : H l = none := g.fresh h
theorem ne_new' {H : Hp} {a b : Addr} {o : HO} (h' : H b = none) (h : H a = some o) : b ≠ a := (ne_of_none h h').symm
section
variable {σ : St} {H : Hp} {Q : VK} {D : Ends} {t u : TS} {K : PySem.W.Frag}
theorem x_tupN {xs : List V} (hl : xs.length ≤ 100000) (q : ∀ p H', H p = none → Same H H' → H' p = some (.tup xs) → Q (.ref p) H') : rTup Q xs H := ⟨small_le hl, fun p hp => q p _ hp (Same.new hp _) upd_same⟩
theorem x_lstN {xs : List V} (hl : xs.length ≤ 100000) (q : ∀ p H', H p = none → Same H H' → H' p = some (.lst xs) → Q (.ref p) H') : rLst Q xs H := ⟨small_le hl, fun p hp => q p _ hp (Same.new hp _) upd_same⟩
theorem x_appN {l : Addr} {xs : List V} {y : V} (h : H l = some (.lst xs)) (hl : xs.length ≤ 100000) (q : ∀ H', LBut l H H' → H' l = some (.lst (xs ++ [y])) → Q .non H') : rAppend (.ref l) [y] H Q :=
  x_append h (small_of hl) (q _ ⟨But.upd, xs, h⟩ upd_same)
theorem x_setN {l : Addr} {xs : List V} {k : Int} {j : Nat} {v : V} {R : Hp → Prop} (h : H l = some (.lst xs)) (e : ixN xs.length k = some j) (q : ∀ H', LBut l H H' → H' l = some (.lst (xs.set j v)) → R H') : rSetL (.ref l) (.int k) v H R :=
  x_setL h e (q _ ⟨But.upd, xs, h⟩ upd_same)
theorem x_cutN {a : Addr} {xs : List V} {lo hi : Option Int} (h : SqL K H a xs) (q : ∀ p H', H p = none → Same H H' → H' p = some (.lst (cutV xs lo hi)) → Q (.ref p) H') : rSlL K (.ref a) lo hi H Q := x_cut h fun p hp => q p _ hp (Same.new hp _) upd_same
end
theorem ixN_lt {n : Nat} {k : Int} (h0 : 0 ≤ k) (h : k < n) : ixN n k = some k.toNat := by unfold ixN; rw [if_pos h0, if_pos h]
theorem atI_lt {α : Type} {xs : List α} {k : Int} {v : α} (h0 : 0 ≤ k) (h : xs[k.toNat]? = some v) : atI xs k = some v := by
  have e : k = (k.toNat : Int) := by omega
  rw [e]; exact atI_nat h
end Internal

set_option Elab.async false
set_option linter.all false
set_option maxRecDepth 100000
namespace Internal
open PySem PySem.Spec PyProof.Rows

theorem ObjOk.obj {P : Program} {w : World} {H : Hp} {h : Heap} {a : Addr} {o : HO} (x : ObjOk P w H h a o) : ∃ u, h.get? a = some u := by
  cases o with
  | lst xs => exact ⟨_, x.2.choose_spec.choose_spec.2⟩
  | tup xs => obtain ⟨_, _, _, ob, e, _⟩ := x; exact ⟨ob, e⟩
  | dK kvs => obtain ⟨_, _, _, _, ob, _, _, e, _⟩ := x; exact ⟨ob, e⟩
  | dT kvs => obtain ⟨_, _, _, _, ob, _, _, e, _⟩ := x; exact ⟨ob, e⟩
  | set S n => obtain ⟨ob, _, _, _, e, _⟩ := x; exact ⟨ob, e⟩
  | ins C dx fs => exact ⟨_, x.2.2.2.1⟩
  | own y => exact x
  | xd fs => obtain ⟨_, ⟨ob, _, _, e, _⟩, _⟩ := x; exact ⟨ob, e⟩
  | rng lo hi => obtain ⟨_, _, _, e⟩ := x; exact ⟨_, e⟩
  | frz ob u => exact ⟨ob, x.1⟩
  | tbl ps => exact ⟨_, show h.get? a = some _ from x⟩
  | met f y => exact ⟨_, show h.get? a = some _ from x⟩
  | ext φ => exact x.2.1

noncomputable def DK {α : Type} : Sem α → Prop
  | .pure _ => True
  | .raise _ => True
  | .unsupported _ => True
  | .finish _ => True
  | .rule _ k => DK (k ())
  | .at _ k => DK (k ())
  | .load _ _ k => ∀ o, DK (k o)
  | .update _ _ f k => (∀ o, (f o).dict = o.dict) ∧ DK (k ())
  | .alloc _ k => ∀ a, DK (k a)
  | .loadIfAlive _ k => ∀ o, DK (k o)
  | .point _ k => DK (k ())
  | .fresh k => ∀ t, DK (k t)
  | .ask k => ∀ t, DK (k t)
  | .handled _ k => ∀ t, DK (k t)
  | .stack k => ∀ t, DK (k t)
  | .thread k => ∀ t, DK (k t)
  | _ => False
theorem DK.bind {α β : Type} {m : Sem α} {f : α → Sem β} (hm : DK m) (hf : ∀ a, DK (f a)) : DK (m >>= f) := by
  show DK (Sem.bind m f)
  induction m with
  | pure a => exact hf a
  | raise e => trivial
  | unsupported w => trivial
  | finish e => trivial
  | rule t k ih => exact ih () hm
  | «at» p k ih => exact ih () hm
  | load a p k ih => exact fun o => ih o (hm o)
  | update a p g k ih => exact ⟨hm.1, ih () hm.2⟩
  | alloc o k ih => exact fun a => ih a (hm a)
  | loadIfAlive a k ih => exact fun a => ih a (hm a)
  | point l k ih => exact ih () hm
  | fresh k ih => exact fun a => ih a (hm a)
  | ask k ih => exact fun a => ih a (hm a)
  | handled o k ih => exact fun a => ih a (hm a)
  | stack k ih => exact fun a => ih a (hm a)
  | thread k ih => exact fun a => ih a (hm a)
  | _ => exact hm.elim
noncomputable def Bare (er : Addr) (s : Shared) : Prop := ∃ o, s.heap.objs[er]? = some o ∧ o.dict = none
theorem DK.wp {α : Type} {M : Model} {Γ : PySem.Ctx} {er : Addr} {t : Sem α} (h : DK t) : ∀ {Q : α → Pos → Shared → Prop} {E : Value → Pos → Shared → Prop} {p : Pos} {s : Shared}, Bare er s → Sem.wp M Γ t Q E p s →
    Sem.wp M Γ t (fun a p s' => Q a p s' ∧ Bare er s') (fun e p s' => E e p s' ∧ Bare er s') p s := by
  induction t with
  | pure a => intro Q E p s b w; rw [Sem.wp] at *; exact ⟨w, b⟩
  | raise e => intro Q E p s b w; rw [Sem.wp] at *; exact ⟨w, b⟩
  | unsupported _ => intro Q E p s b w; rw [Sem.wp] at *; exact w
  | finish _ => intro Q E p s b w; rw [Sem.wp] at *; exact w
  | rule t k ih => intro Q E p s b w; rw [Sem.wp] at *; exact ih () h b w
  | «at» q k ih => intro Q E p s b w; rw [Sem.wp] at *; exact ih () h b w
  | load a q k ih =>
    intro Q E p s b w; rw [Sem.wp] at *
    obtain ⟨o, e, w⟩ := w
    exact ⟨o, e, ih o (h o) b w⟩
  | update a q g k ih =>
    intro Q E p s b w; rw [Sem.wp] at *
    refine ⟨w.1, ih () h.2 ?_ w.2⟩
    obtain ⟨o, e, d⟩ := b
    by_cases c : a = er
    · subst c
      exact ⟨g o, by simp [Heap.update, Array.getElem?_modify, e], by rw [h.1]; exact d⟩
    · exact ⟨o, by simp [Heap.update, Array.getElem?_modify, c, e], d⟩
  | alloc o k ih =>
    intro Q E p s b w; rw [Sem.wp] at *
    refine ih _ (h _) ?_ w
    obtain ⟨o', e, d⟩ := b
    refine ⟨o', ?_, d⟩
    have hl : er < s.heap.objs.size := (Array.getElem?_eq_some_iff.mp e).1
    show (s.heap.objs.push o)[er]? = some o'
    rw [Array.getElem?_push]
    rw [if_neg (Nat.ne_of_lt hl)]; exact e
  | loadIfAlive a k ih => intro Q E p s b w; rw [Sem.wp] at *; exact ih _ (h _) b w
  | point l k ih => intro Q E p s b w; rw [Sem.wp] at *; exact ih () h b w
  | fresh k ih => intro Q E p s b w; rw [Sem.wp] at *; exact ih _ (h _) b w
  | ask k ih => intro Q E p s b w; rw [Sem.wp] at *; exact ih _ (h _) b w
  | handled o k ih => intro Q E p s b w; rw [Sem.wp] at *; exact ih _ (h _) b w
  | stack k ih => intro Q E p s b w; rw [Sem.wp] at *; exact ih _ (h _) b w
  | thread k ih => intro Q E p s b w; rw [Sem.wp] at *; exact ih _ (h _) b w
  | _ => exact h.elim
theorem DK.any {α : Type} {M : Model} {A : Around} {er : Addr} {t : Sem α} {Q : α → Shared → Prop} {E : Value → Shared → Prop} {s : Shared} (h : DK t) (b : Bare er s) (w : wpAny M A t Q E s) : wpAny M A t (fun a s' => Q a s' ∧ Bare er s') (fun e s' => E e s' ∧ Bare er s') s :=
  fun Γ p hΓ => h.wp b (w Γ p hΓ)
theorem mapFields_dict (f : Array Value → Array Value) (o : Obj) : (o.mapFields f).dict = o.dict := by
  obtain ⟨c, d, dt, sl⟩ := o; cases dt <;> rfl
theorem dk_load {a : Addr} : DK (load a) := fun _ => trivial
theorem dk_field (v : Value) (i : Nat) : DK (field v i) := by
  unfold field fieldsOf
  refine DK.bind ?_ fun x => ?_
  · cases v <;> try trivial
    refine DK.bind dk_load fun o => ?_
    split <;> trivial
  · split <;> trivial
theorem dk_setField (v : Value) (i : Nat) (x : Value) : DK (setField v i x) := by
  unfold setField updateField
  cases v <;> try trivial
  refine DK.bind dk_load fun o => ?_
  split
  · split
    · exact ⟨fun o => mapFields_dict _ o, trivial⟩
    · trivial
  · trivial
theorem dk_setFlight (e : Value) (f : Option Addr) : DK (setFlight e f) := by
  unfold setFlight
  refine DK.bind (dk_field _ _) fun tb => ?_
  split
  · exact dk_setField _ _ _
  · trivial
theorem dk_kept (env : Env) (i : Bool) (l : List Env) : DK (keptBack env i l) := by
  unfold keptBack
  cases l with
  | nil =>
    simp only
    split
    · trivial
    · refine DK.bind ?_ fun _ => trivial
      unfold underTheClaimsCaller
      exact fun _ => trivial
  | cons c r => trivial
theorem dk_behind (env : Env) (l : List Env) : DK (behindIsImport env l) := by
  unfold behindIsImport
  split
  · trivial
  · split
    · trivial
    · exact DK.bind (dk_field _ _) fun _ => trivial
theorem dk_ready : ∀ l : List Env, DK (readyFrames l)
  | [] => trivial
  | env :: outer => by
    unfold readyFrames
    split
    · refine DK.bind dk_load fun o => ?_
      split
      · trivial
      · refine DK.bind (dk_behind _ _) fun _ => DK.bind (dk_kept _ _ _) fun _ => DK.bind ⟨fun _ => rfl, trivial⟩ fun _ => dk_ready outer
    · trivial
theorem dk_frameObject (l : List Env) : DK (frameObject l) := by
  cases l with
  | nil => trivial
  | cons env outer => exact DK.bind (dk_ready _) fun _ => trivial
theorem dk_frameOf (env : Env) : DK (PySem.frameOf env) := by
  unfold PySem.frameOf frameEnvs
  refine DK.bind (DK.bind (fun _ => trivial) fun _ => trivial) fun _ => DK.bind (dk_frameObject _) fun o => ?_
  split <;> trivial
theorem dk_place (f : Addr) (b : Bool) : DK (entryPlaceOf f b) := by
  unfold entryPlaceOf
  refine DK.bind (fun _ => trivial) fun acts => ?_
  split <;> trivial
theorem dk_asIs (T : String) (d : Data) : DK (newObjAsIs (.type T) d) := by
  unfold newObjAsIs
  exact fun _ => trivial
theorem dk_rec (T : String) (vs : Array Value) : DK (newObj (.type T) (.fields vs)) := by
  unfold newObj
  simp only
  split
  · exact DK.bind (m := unsupported "record:memory") trivial fun _ => dk_asIs _ _
  · exact dk_asIs _ _
theorem dk_entry (a b c d e : Value) (pl : List Value) : DK (EntryCells.newEntry a b c d e pl) := dk_rec _ _
theorem dk_note (e : Value) (env : Env) : DK (noteFrame e env) := by
  unfold noteFrame
  have fin : ∀ (head : Value) (f : Addr), DK (do setField e 1 (← EntryCells.newEntry head (← frameOf env) .none (rawInt f) .none (← entryPlaceOf f (head != .none)))) := fun head f =>
    DK.bind (dk_frameOf _) fun _ => DK.bind (dk_place _ _) fun _ => DK.bind (dk_entry _ _ _ _ _ _) fun _ => dk_setField _ _ _
  split
  · refine DK.bind (dk_field _ _) fun head => ?_
    split
    · refine DK.bind (dk_field _ _) fun x => ?_
      split
      · trivial
      · exact DK.bind (dk_setField _ _ _) fun _ => fin _ _
    · exact fin _ _
  · trivial
theorem dk_leaving (env : Env) (e : Value) : DK (leaving env e) := DK.bind (dk_note _ _) fun _ => dk_setFlight _ _
set_option genInjectivity false in
set_option genSizeOf false in
structure Fly (P : Program) (w : World) (outer : List Env) (H : Hp) (s : Shared) (H' : Hp) (er C t : Addr) (B : Heap) (s' : Shared) : Prop where
  os : s'.os = s.os
  bare : AllBare s'.gens
  un : Un (frs outer) [] H H' s.heap s'.heap
  hok : HOk P w H' s'.heap
  fly : Heap.FlyingW B outer er (.ref C) (.ref t) s'.heap
  old : ∀ b o, s.heap.get? b = some o → H b = none → b ∉ frs outer → B.get? b = some o
  has : ∀ b o, s.heap.get? b = some o → b ∉ frs outer → ∃ u, B.get? b = some u
  trk : ∀ b o u, H' b = some o → s'.heap.get? b = some u → B.get? b = some u
  nod : Bare er s'
noncomputable def CXF (P : Program) (w : World) : CXT := fun outer H s E e s' => ∃ er C t B H', e = .ref er ∧ Fly P w outer H s H' er C t B s' ∧ E (.ref C) none H'
theorem nox_F {P : Program} {w : World} : NoX (CXF P w) := fun _ _ _ _ _ ⟨_, _, _, _, _, _, _, h⟩ => h

section
variable {P : Program} {w : World} {outer : List Env} {H H' : Hp} {s s' : Shared} {er C t : Addr} {B h : Heap}
theorem Fly.unAt (F : Fly P w outer H s H' er C t B s') (fr : s.heap.FunFrames base outer) (st : B.StaysIn h) (up : s'.heap.UpToSlots h) : Un (frs outer) [] H H' s.heap h where
  keep := fun b o q n hb _ => st b o (F.old b o q n hb)
  slot := fun b o q n hb _ => by
    obtain ⟨sl, e1⟩ := F.un.slot b o q n hb (by simp)
    obtain ⟨_, o', e', nf⟩ := fr.mem hb
    rw [q] at e'; cases e'
    obtain ⟨sl', e2⟩ := up b _ e1 nf
    exact ⟨sl', e2⟩
  free := F.un.free
  there := fun b o q _ => by
    by_cases hb : b ∈ frs outer
    · obtain ⟨_, o', e', nf⟩ := fr.mem hb
      rw [q] at e'; cases e'
      cases hn : H b with
      | none =>
        obtain ⟨sl, e1⟩ := F.un.slot b o q hn hb (by simp)
        obtain ⟨sl', e2⟩ := up b _ e1 nf
        exact ⟨_, e2⟩
      | some x =>
        obtain ⟨_, o1, e1, nf1⟩ := F.fly.2.2.1.mem hb
        obtain ⟨sl', e2⟩ := up b _ e1 nf1
        exact ⟨_, e2⟩
    · obtain ⟨u, e⟩ := F.has b o q hb
      exact ⟨u, st b u e⟩
  tups := F.un.tups
  frzs := F.un.frzs
  tbls := F.un.tbls
theorem Fly.hokAt (F : Fly P w outer H s H' er C t B s') (st : B.StaysIn h) : HOk P w H' h := fun a o e =>
  (F.hok a o e).stay (fun b u hb q => st b u (by
    rcases hb with rfl | hb
    · exact F.trk b o u e q
    · exact F.trk b _ u hb q)) (fun _ q => q) fun _ _ q => q
noncomputable def IsExc (er C : Addr) (h : Heap) : Prop := ∃ oe : Obj, PySem.W.InstAt h er oe C none
noncomputable def ExcAt (er C : Addr) : HO := .ext (IsExc er C)
end

noncomputable def bmV : List Value := [.type "ValueError", .type "Exception", .type "BaseException", .type "object"]
noncomputable def OwnErr (K : PySem.W.Frag) (C : Addr) : Prop := PySem.W.excIn K C bmV "ValueError.__new__" = true
theorem OwnErr.obj {K : PySem.W.Frag} {h : Heap} {C : Addr} (q : OwnErr K C) (X : K.In h) : ∃ bm N nm qn bs hd sn sub ab col dd k0 k1 k2 k3 k5 mN,
    h.get? C = some (excClassObj nm qn C N bs bm hd sn sub ab col dd k0 k1 k2 k3 k5 "ValueError.__new__") ∧ h.Ns N mN ∧ mN "__init__" = none ∧ OwnTail h bmV bm := by
  have q' : PySem.W.excIn K C bmV "ValueError.__new__" = true := q
  unfold PySem.W.excIn at q'
  split at q'
  · rename_i dd cd sl lk
    split at q'
    · rename_i C' bm k0 k1 k2 k3 nid k5 em es
      rw [Bool.and_eq_true, Bool.and_eq_true, Bool.and_eq_true, Bool.and_eq_true, Bool.and_eq_true] at q'
      obtain ⟨⟨⟨⟨⟨a1, a2⟩, a3⟩, a4⟩, a5⟩, a6⟩ := q'
      have b1 : C' = C := eq_of_beq a1
      have b2 : nid = "ValueError.__new__" := eq_of_beq a2
      have b3 : cd.hasDel = false := by simpa using a3
      have b6 := eq_of_beq a6
      have g := X C _ lk
      obtain ⟨nm, bs, mro, ns, qn, hd, sn, sub, ab, col, del⟩ := cd
      simp only at em b3 a5 b6
      subst em b3 b1 b2
      have hsl : sl = #[k0, k1, k2, k3, some (.builtin "ValueError.__new__"), k5] := by
        rw [← Array.toList_inj]; exact es
      subst hsl
      exact ⟨bm, ns, nm, qn, bs, hd, sn, sub, ab, col, dd, k0, k1, k2, k3, k5, _, g, Heap.Ns.of_isNs (PySem.W.isNs_of_in X a5), PySem.W.nsMap_none_of_in X a5 b6, PySem.W.tail_of_in X a4⟩
    · cases q'
  · cases q'
theorem exc_class {prog : Program} {w : World} {A : Around} {E : Value → Shared → Prop} {s : Shared} {K : PySem.W.Frag} {er C : Addr} {oe : Obj} {Q : Option Value → Shared → Prop}
    (ga : PySem.W.findIn K (.ref C) "__getattribute__" = some (some (.builtin "BaseException.__getattribute__"))) (gn : PySem.W.findIn K (.ref C) "__getattr__" = some none)
    (hf : PySem.W.findObj K C none "__class__" = some (.bind (.builtin "getset_descriptor.__get__") (.builtin "object.__class__"))) (mo : PySem.W.mroIn K C (.type "object") = some true) (be : PySem.W.mroIn K C (.type "BaseException") = some true)
    (X : K.In s.heap) (i : PySem.W.InstAt s.heap er oe C none) (q : Q (some (.ref C)) { s with toks := s.toks + 1 }) : wpAny (model prog w) A (getAttr? (.ref er) "__class__") Q E s := by
  obtain ⟨hh, g, d, t, os⟩ := s
  have L0 := i.type (M := model prog w)
  have L1 := PySem.W.looks_findIn (M := model prog w) X ga
  have Internal' := PySem.W.looks_findIn (M := model prog w) X gn
  have L3 := PySem.W.looks_find (M := model prog w) X i hf
  have L4 := PySem.W.looks_mroIn (M := model prog w) X be
  have f3 := PySem.F.attr_ValueError.ga.bind (.ref er)
  unfold getAttr? getAttrBy? getAttrBy
  refine wpAny_bind (wpAny_mkText (wpAny_bind (wpAny_attempt (wpAny_holding (wpAny_bind (L0.at (wpAny_bind (L1.at ?_))))))))
  show wpAny _ _ (getAttrByItsOwn _ _ _ _ _ _) _ _ _
  unfold getAttrByItsOwn hookBefore
  refine wpAny_bind (Internal'.at ?_)
  refine wpAny_bind (wpAny_attempt (wpAny_holding ?_))
  show wpAny _ _ (boundAndCalled _ _ _) _ _ _
  unfold boundAndCalled
  rw [f3]
  refine wpAny_bind (wpAny_pure ?_)
  refine wpAny_call (codeAny_call_builtin PySem.F.attr_ValueError.ga.plain PySem.F.entry_bexc_ga ?_)
  have hk : builtinKind "BaseException.__getattribute__" = some .slot := by decide +kernel
  have hsp : splitId "BaseException.__getattribute__" = some ("BaseException", "__getattribute__") := by decide +kernel
  simp only [checkBuiltinCall, hk, hsp]
  unfold isInstance
  refine wpAny_bind (wpAny_bind (L0.at (L4.at ?_)))
  simp only [Bool.not_true, Bool.false_eq_true, if_false]
  have ha := PySem.F.args_bexc_ga (.ref er) (.str "__class__" t)
  unfold argsOk at ha
  refine wpAny_of_eq (a := ()) ha ?_
  show wpAny _ _ (Builtin.«object.__getattribute__» _) _ _ _
  unfold Builtin.«object.__getattribute__»
  refine wpAny_bind (wpAny_pure ?_)
  refine wpAny_bind (wpAny_pure ?_)
  refine wpAny_bind (L0.at ?_)
  refine wpAny_bind (L3.at ?_)
  show wpAny _ _ (Builtin.ObjectAttr.bindTo _ _ _ _) _ _ _
  unfold Builtin.ObjectAttr.bindTo
  refine wpAny_bind (wpAny_holding (wpAny_call (PySem.W.class_get X i mo ?_)))
  exact wpAny_pure (PySem.W.handed_on rfl (wpAny_pure q))
noncomputable def errOk (K : PySem.W.Frag) (C : Addr) : Bool := PySem.W.excIn K C bmV "ValueError.__new__" && (PySem.W.findIn K (.ref C) "__getattribute__" == some (some (.builtin "BaseException.__getattribute__"))) && (PySem.W.findIn K (.ref C) "__getattr__" == some none) && (PySem.W.mroIn K C (.type "BaseException") == some true) && (PySem.W.clsIn K C).isSome && (PySem.W.findIn K (.ref C) "__class__" == some (some (.builtin "object.__class__"))) &&
  (PySem.W.specialIn K (.builtin "object.__class__") "__get__" == some (some (.builtin "getset_descriptor.__get__"))) && (PySem.W.takesIn K (.builtin "object.__class__") == some true) && (PySem.W.mroIn K C (.type "object") == some true)
theorem errOk.own {K : PySem.W.Frag} {C : Addr} (h : errOk K C = true) : OwnErr K C := by
  unfold errOk at h
  simp only [Bool.and_eq_true] at h
  exact h.1.1.1.1.1.1.1.1
theorem kitx_err {K : PySem.W.Frag} {er C : Addr} (h : errOk K C = true) : PySem.W.KitX K (.ref er) (.ref C) (IsExc er C) := by
  unfold errOk at h
  simp only [Bool.and_eq_true, beq_iff_eq] at h
  obtain ⟨⟨⟨⟨⟨⟨⟨⟨_, ga⟩, gn⟩, be⟩, cl⟩, fa⟩, sn⟩, tk⟩, mo⟩ := h
  obtain ⟨cd, hc⟩ := Option.isSome_iff_exists.mp cl
  have there : ∃ o : Obj, K.lookup C = some o ∧ o.data = .cls cd := by
    unfold PySem.W.clsIn at hc
    split at hc
    · rename_i lk; cases hc; exact ⟨_, lk, rfl⟩
    · cases hc
  obtain ⟨o, lk, dt⟩ := there
  refine ⟨fun M h _ ⟨oe, i⟩ => i.type, fun M h X _ A Q E s k q => ?_, fun h tp dd its n sl X e => ?_, fun {prog w A E Q s} X ⟨oe, i⟩ q => ?_⟩
  · have g := k _ _ (X _ _ lk)
    obtain ⟨oc, od, oda, osl⟩ := o
    simp only at dt
    subst dt
    unfold isType loadHead
    exact wpAny_bind (wpAny_loadPart g (wpAny_pure q))
  · rw [Bool.eq_false_iff]
    intro z
    have ec : C = tp := Value.ref.inj (beq_iff_eq.mp z)
    subst ec
    have g := X _ _ lk
    rw [e] at g; cases g; cases dt
  · have hf : PySem.W.findObj K C none "__class__" = some (.bind (.builtin "getset_descriptor.__get__") (.builtin "object.__class__")) := by
      unfold PySem.W.findObj
      rw [hc, Option.bind_some, fa, Option.bind_some]
      simp [sn, tk]
    exact exc_class ga gn hf mo be X i q
noncomputable def tRaise (C : Addr) (Ex : XK) (ta : TA) : TS := fun _ σ H => ta σ H fun vs H1 => vs.length ≤ sizeLine ∧ Ex (.ref C) none H1
noncomputable def Made (X : Cx) (C : Addr) (Ex : XK) : Prop := ∀ (pins : List (Addr × Obj)) (σ : St) (H : Hp) (s : Shared) (h' : Heap) (er : Addr) (args : List Value), Inv X pins σ H s → Heap.MadeExcOf s.heap h' er (.ref C) args → Ex (.ref C) none H → X.xe (.ref er) { s with heap := h' }
theorem ps_raise {X : Cx} {C : Addr} {x : Str} {np cpos pos : Pos} {e : Expr} {es : List Expr} {ta : TA} {Ex : XK} (hc : X.calm = true) (hg : Gl X x) (hm : X.mg x = some (.ref C)) (hX : OwnErr X.K C) (ha : PA X (e :: es) ta) (hl : Made X C Ex)
    (hdb : autoParam ((x == ("__debug__" : Str)) = false) Internal.aut1._auto_1) (he : autoParam (starEach (e :: es) X.env = (false, eval e X.env) :: starEach es X.env) Internal.aut2._auto_1) (hpl : autoParam ((backTo cpos (starEach es X.env)).any (·.1) = false) Internal.aut2._auto_1) :
    PS X (.Raise (some (.Call (.Name x np) (e :: es) [] cpos)) none pos) (tRaise C Ex ta) := by
  intro pins s σ H D I h
  obtain ⟨bm, N, nm, qn, bs, hd, sn, sub, ab, col, dd, k0, k1, k2, k3, k5, mN, g1, g2, g3, g4⟩ := hX.obj I.ok.mod.kin
  have pl : (backTo cpos (starEach (e :: es) X.env)).any (·.1) = false := by rw [he]; exact hpl
  refine wpAny_Raise_call_subT PySem.F.excBase_ValueError (C := C) (nm := nm) (q := qn) (N := N) (bs := bs) (hdct := hd) (sn := sn) (sub := sub) (ab := ab) (col := col) (dd := dd) (k0 := k0) (k1 := k1) (k2 := k2) (k3 := k3) (k5 := k5) (g4.hasType (by decide)) (I.ok.hd hc) pl g3 (ld_glob I hg hm ⟨rfl, ?_⟩ hdb)
  have run := ha cpos pins s σ H _ I h
  rw [he] at run ⊢
  refine Calls.evalArgs_plain (wpAny_mono run (fun us s1 q => ?_) fun _ _ z => z)
  obtain ⟨vs, H1, I1, r, z, ex⟩ := q
  exact ⟨rfl, by rw [← r.length]; exact z, I1.bk _ _ g1, g2.keeps I1.bk, g4.keeps I1.bk, fun h' er mk => hl pins σ H1 s1 h' er us I1 mk ex⟩
theorem made_F {P : Program} {w : World} {K : PySem.W.Frag} {mg : Str → Option Value} {base : Heap} {N : List Str} {qual : Str} {scope : Scope} {f : Addr} {cd : Value} {A : Around} {outer : List Env} {s : Shared} {H : Hp} {E : XK} {C : Addr} :
    Made (cxOf (CXF P w) P w K mg base N qual scope f cd A outer s H E) C E := by
  intro pins σ H1 s1 h' er args I mk ex
  have fr := I.stack
  have hin : ∀ env ∈ (envOfC qual scope s.heap.objs.size f cd :: outer), ∀ b, env.frame = some b → b ∈ frs (envOfC qual scope s.heap.objs.size f cd :: outer) := fun env he b hb => List.mem_filterMap.mpr ⟨env, he, hb⟩
  have sb : ∀ b o, (PySem.W.hideAll s1.heap (frs (envOfC qual scope s.heap.objs.size f cd :: outer))).get? b = some o → s1.heap.get? b = some o := fun b o q => PySem.W.of_hideAll _ q
  have inB : ∀ b o, s1.heap.get? b = some o → b ∉ frs (envOfC qual scope s.heap.objs.size f cd :: outer) → (PySem.W.hideAll s1.heap (frs (envOfC qual scope s.heap.objs.size f cd :: outer))).get? b = some o := fun b o q n => PySem.W.hideAll_get _ q n
  have nfr : ∀ b o, s.heap.get? b = some o → b ∉ frs outer → b ∉ frs (envOfC qual scope s.heap.objs.size f cd :: outer) := fun b o q n z => by
    rcases List.mem_cons.mp (show b ∈ s.heap.objs.size :: frs outer from z) with z | z
    · exact Nat.ne_of_lt (Heap.lt_size q) z
    · exact n z
  have trkB : ∀ b o u, H1 b = some o → s1.heap.get? b = some u → (PySem.W.hideAll s1.heap (frs (envOfC qual scope s.heap.objs.size f cd :: outer))).get? b = some u := fun b o u q e => inB b u e fun z => by
    have := I.stkFree b z
    rw [q] at this; cases this
  show wpAny (model P w) (A.deeper (envOfC qual scope s.heap.objs.size f cd)) (leaving (envOfC qual scope s.heap.objs.size f cd) (.ref er)) _ _ _
  have b0 : Bare er { s1 with heap := h' } := by
    obtain ⟨t, e, _⟩ := mk.there
    exact ⟨_, (Heap.get?_some_iff.mp e).1, rfl⟩
  refine wpAny_mono (DK.any (E := fun _ _ => False) (Q := fun _ s'' => Bare er s'' → CXF P w outer H s E (.ref er) s'') (dk_leaving _ _) b0 ?_) (fun _ s'' q => q.1 q.2) fun _ _ q => q.1.elim
  refine wpAny_leaves_madeW (L := s.heap.objs.size) (base := PySem.W.hideAll s1.heap (frs (envOfC qual scope s.heap.objs.size f cd :: outer))) (h := s1.heap) I.ok.frames rfl sb (PySem.W.funFrames_hide fr hin) mk fun h'' t fly _ _ up b1 => ?_
  refine ⟨er, C, t, _, H1, rfl, ⟨I.os, I.bare, ⟨fun b o q n hb _ => ?_, fun b o q n hb _ => ?_, fun b o q n _ => I.base.free b o q n (by simp [cxOf]), fun b o q _ => ?_, I.base.tups, I.base.frzs, I.base.tbls⟩, ?_, fly, fun b o q n hb => ?_, fun b o q hb => ?_, ?_, b1⟩, ex⟩
  · exact fly.1 b o (inB b o (I.base.keep b o q n hb (by simp [cxOf])) (nfr b o q hb))
  · obtain ⟨sl, e1⟩ := I.base.slot b o q n hb (by simp [cxOf])
    obtain ⟨_, o1, e2, nf⟩ := I.ok.funs.mem hb
    have e3 : s.heap.get? b = some o1 := e2
    rw [q] at e3; cases e3
    obtain ⟨sl', e4⟩ := up b _ (mk.keeps b _ e1) nf
    exact ⟨sl', e4⟩
  · by_cases hb : b ∈ frs outer
    · obtain ⟨_, o1, e1, _⟩ := fly.2.2.1.mem hb
      exact ⟨o1, e1⟩
    · obtain ⟨o1, e1⟩ := I.base.there b o q (by simp [cxOf])
      exact ⟨o1, fly.1 b o1 (inB b o1 e1 (nfr b o q hb))⟩
  · intro a o e
    exact (I.hok a o e).stay (fun b u hb q => fly.1 b u (by
      rcases hb with rfl | hb
      · exact trkB b o u e q
      · exact trkB b _ u hb q)) (fun _ q => q) fun _ _ q => q
  · exact inB b o (I.base.keep b o q n hb (by simp [cxOf])) (nfr b o q hb)
  · obtain ⟨o1, e1⟩ := I.base.there b o q (by simp [cxOf])
    exact ⟨o1, inB b o1 e1 (nfr b o q hb)⟩
  · intro b o u q e
    obtain ⟨u1, e1⟩ := (I.hok b o q).obj
    have z := fly.1 b u1 (trkB b o u1 q e1)
    have e' : h''.get? b = some u := e
    rw [z] at e'; cases e'
    exact trkB b o _ q e1

noncomputable abbrev Cx.inH (X : Cx) (er : Addr) : Cx := { X with A := X.A.mark (some (.ref er)), calm := false, xe := fun _ _ => False }
section
variable {X : Cx} {pins : List (Addr × Obj)} {σ : St} {H H' : Hp} {s s' : Shared}
noncomputable def Ends.gone (D : Ends) (i : Nat) : Ends := ⟨fun σ H => D.nx (σ.set i none) H, D.rt, fun σ H => D.bk (σ.set i none) H, fun σ H => D.ct (σ.set i none) H⟩
end

theorem Fun.okX {P : Program} {w : World} {K : PySem.W.Frag} {mg : Str → Option Value} {base : Heap} {CX : CXT} {x qual : Str} {st : Stmt} {f : Addr} {fd : FuncData} {N ps : List Str} {k : Nat} {sp : Sp} (F : Fun K x qual st f fd) (S : FnScope N ps (defScope st)) (len : ∀ vs H Q E, sp vs H Q E → vs.length = ps.length)
    (body : ∀ (cdv : Value) (A : Around) (outer : List Env) (s : Shared) (H : Hp) (vs : List V) (Q : VK) (E : XK), Room k (A.deeper (envOfC qual (defScope st) s.heap.objs.size f cdv)) → sp vs H Q E →
      ∃ t, PSs (cxOf CX P w K mg base N qual (defScope st) f cdv A outer s H E) (defBody st) t ∧ t { nx := fun _ H' => Q .non H', rt := Q } (start N vs) H) : FnOk P w K mg base CX (k + 1) f fd ps sp := by
  obtain ⟨oc, od, kV, doc, pm, an, cdv, ct, osl, rfl, lk, hcd⟩ := F.ex
  exact fn_of lk hcd S len fun A outer s H vs Q E hr hsp => body cdv A outer s H vs Q E hr hsp
noncomputable def rIsiU (K : PySem.W.Frag) : List V → Hp → VK → Prop := fun xs H Q => (∃ er C c cv b, xs = [.ref er, c] ∧ RelV c cv ∧ H er = some (ExcAt er C) ∧ errOk K C = true ∧ PySem.W.kitOne K (.ref C) cv = some b ∧ Q (.bl b) H) ∨ rIsi K xs H Q
theorem call_isiU {X : Cx} : CallR X (.builtin "isinstance") (rIsiU X.K) := by
  refine CallR.or ?_ call_isinst
  intro pins s σ H xs us Q I r h
  obtain ⟨er, C, c, cv, b, rfl, rc, he, ok, hk, q⟩ := h
  obtain ⟨u, w', rfl, r1, r2⟩ := vals2 r
  obtain rfl : u = Value.ref er := r1
  have ie : IsExc er C s.heap := (I.hok er _ he).1
  have ec : w' = cv := by
    cases c with
    | ty n => exact (show w' = _ from r2).trans (show cv = _ from rc).symm
    | ref a => exact (show w' = _ from r2).trans (show cv = _ from rc).symm
    | non => exact (show w' = _ from r2).trans (show cv = _ from rc).symm
    | bl b => exact (show w' = _ from r2).trans (show cv = _ from rc).symm
    | _ => obtain ⟨_, rfl⟩ := rc; simp [PySem.W.kitOne, PySem.W.kitCls] at hk
  subst ec
  exact PySem.W.kia_one (kitx_err ok) I.kIn ie hk (by intro z; cases z) fun tk => ⟨.bl b, H, I.tok tk, rfl, q⟩
theorem x_isU {K : PySem.W.Frag} {xs : List V} {H : Hp} {Q : VK} (q : rIsi K xs H Q) : rIsiU K xs H Q := .inr q
theorem x_raise {C : Addr} {Ex : XK} {ta : TA} {D : Ends} {σ : St} {H : Hp} (q : ta σ H fun vs H1 => vs.length ≤ sizeLine ∧ Ex (.ref C) none H1) : tRaise C Ex ta D σ H := q
theorem cls_some {K : PySem.W.Frag} {D : Addr} (h : PySem.W.hasDictIn K D = true) : (PySem.W.clsIn K D).isSome = true := by
  obtain ⟨cd, e, _⟩ := PySem.W.any_some h
  rw [e]; rfl
theorem errOk_mk {K : PySem.W.Frag} {C : Addr} (x : PySem.W.excIn K C [.type "ValueError", .type "Exception", .type "BaseException", .type "object"] "ValueError.__new__" = true) (ga : PySem.W.findIn K (.ref C) "__getattribute__" = some (some (.builtin "BaseException.__getattribute__"))) (gn : PySem.W.findIn K (.ref C) "__getattr__" = some none) (be : PySem.W.mroIn K C (.type "BaseException") = some true) (hd : PySem.W.hasDictIn K C = true)
    (fa : PySem.W.findIn K (.ref C) "__class__" = some (some (.builtin "object.__class__"))) (sn : PySem.W.specialIn K (.builtin "object.__class__") "__get__" = some (some (.builtin "getset_descriptor.__get__"))) (tk : PySem.W.takesIn K (.builtin "object.__class__") = some true)
    (mo : PySem.W.mroIn K C (.type "object") = some true) : errOk K C = true := by
  unfold errOk bmV
  rw [x, ga, gn, be, cls_some hd, fa, sn, tk, mo]; simp
theorem kit_cls_of {K : PySem.W.Frag} {t : Value} {D : Addr} {b : Bool} (hd : PySem.W.hasDictIn K D = true) (ht : PySem.W.typeIn K (.ref D) = some (.type "type")) (hs : PySem.W.subIn K t (.ref D) = some b) : PySem.W.kitCls K t (.ref D) = some b := by
  unfold PySem.W.kitCls
  simp only
  rw [cls_some hd, ht, if_pos (by simp)]; exact hs
theorem kit_ne {K : PySem.W.Frag} {C D : Addr} {b : Bool} (h : C ≠ D) (hd : PySem.W.hasDictIn K D = true) (ht : PySem.W.typeIn K (.ref D) = some (.type "type")) (hs : PySem.W.subIn K (.ref C) (.ref D) = some b) : PySem.W.kitOne K (.ref C) (.ref D) = some b := by
  unfold PySem.W.kitOne
  rw [if_neg (by intro z; exact h (Value.ref.inj (beq_iff_eq.mp z)))]
  exact kit_cls_of hd ht hs
theorem kit_self {K : PySem.W.Frag} {C : Addr} : PySem.W.kitOne K (.ref C) (.ref C) = some true := by
  unfold PySem.W.kitOne
  rw [if_pos (by simp)]
end Internal

set_option Elab.async false
set_option linter.all false
set_option maxRecDepth 100000
namespace Internal
open PySem PySem.Spec PyProof.Rows
theorem pass_F {P : Program} {w : World} {K : PySem.W.Frag} {mg : Str → Option Value} {base : Heap} {N : List Str} {qual : Str} {scope : Scope} {f : Addr} {cd : Value} {A : Around} {outer : List Env} {s : Shared} {H : Hp} {E : XK} :
    Passes (CXF P w) (cxOf (CXF P w) P w K mg base N qual scope f cd A outer s H E) E := by
  intro pins σ H1 s1 e s2 I hx
  obtain ⟨er, C, t, B, H', rfl, F, ex⟩ := hx
  have fr := I.stack
  have nfr : ∀ b o, s.heap.get? b = some o → b ∉ frs outer → b ∉ frs (envOfC qual scope s.heap.objs.size f cd :: outer) := fun b o q n z => by
    rcases List.mem_cons.mp (show b ∈ s.heap.objs.size :: frs outer from z) with z | z
    · exact Nat.ne_of_lt (Heap.lt_size q) z
    · exact n z
  have sub : ∀ b ∈ frs outer, b ∈ frs (envOfC qual scope s.heap.objs.size f cd :: outer) := fun b hb => List.mem_cons_of_mem _ hb
  show wpAny (model P w) (A.deeper (envOfC qual scope s.heap.objs.size f cd)) (leaving (envOfC qual scope s.heap.objs.size f cd) (.ref er)) _ _ _
  refine wpAny_mono (DK.any (E := fun _ _ => False) (Q := fun _ s'' => Bare er s'' → CXF P w outer H s E (.ref er) s'') (dk_leaving _ _) F.nod ?_) (fun _ s'' q => q.1 q.2) fun _ _ q => q.1.elim
  refine wpAny_leaves_onW (L := s.heap.objs.size) I.ok.frames rfl F.fly fun h'' fly up b1 => ?_
  have u2 := F.unAt fr fly.1 up
  refine ⟨er, C, t, B, H', rfl, ⟨F.os.trans I.os, F.bare, ⟨fun b o q n hb _ => ?_, fun b o q n hb _ => ?_, fun b o q n _ => ?_, fun b o q _ => ?_, fun b xs q => u2.tups b xs (I.base.tups b xs q), fun b o xs q => u2.frzs b o xs (I.base.frzs b o xs q), fun b ps q => ?_⟩, F.hokAt fly.1, fly, fun b o q n hb => ?_, fun b o q hb => ?_, fun b o u q e => ?_, b1⟩, ex⟩
  · exact u2.keep b o (I.base.keep b o q n hb (by simp [cxOf])) (I.base.free b o q n (by simp [cxOf])) (nfr b o q hb) (by simp)
  · obtain ⟨sl, e1⟩ := I.base.slot b o q n hb (by simp [cxOf])
    obtain ⟨sl', e2⟩ := u2.slot b _ e1 (I.base.free b o q n (by simp [cxOf])) (sub b hb) (by simp)
    exact ⟨sl', e2⟩
  · obtain ⟨o1, e1⟩ := I.base.there b o q (by simp [cxOf])
    exact u2.free b o1 e1 (I.base.free b o q n (by simp [cxOf])) (by simp)
  · obtain ⟨o1, e1⟩ := I.base.there b o q (by simp [cxOf])
    exact u2.there b o1 e1 (by simp)
  · obtain ⟨m1, e1⟩ := I.base.tbls b ps q
    obtain ⟨m2, e2⟩ := u2.tbls b _ e1
    exact ⟨m1 ++ m2, by rw [e2, Array.append_assoc]⟩
  · exact F.old b o (I.base.keep b o q n hb (by simp [cxOf])) (I.base.free b o q n (by simp [cxOf])) (nfr b o q hb)
  · obtain ⟨o1, e1⟩ := I.base.there b o q (by simp [cxOf])
    exact F.has b o1 e1 (nfr b o q hb)
  · obtain ⟨u1, e1⟩ := (F.hok b o q).obj
    have z := F.trk b o u1 q e1
    have z2 := fly.1 b u1 z
    have e' : h''.get? b = some u := e
    rw [z2] at e'; cases e'
    exact z
noncomputable abbrev TEr := St → Hp → VK → (Addr → Hp → Prop) → Prop
noncomputable abbrev TTr := Ends → (Addr → St → Hp → Prop) → St → Hp → Prop
section
variable {X : Cx} {pos : Pos}
noncomputable abbrev tExprR (te : TEr) : TTr := fun D Eh σ H => te σ H (fun _ H2 => D.nx σ H2) fun C H2 => Eh C σ H2
noncomputable abbrev tIfR (c : TT) (t u : TTr) : TTr := fun D Eh σ H => c σ H fun b H1 => if b = true then t D Eh σ H1 else u D Eh σ H1
noncomputable abbrev tNilR : TTr := fun D _ σ H => D.nx σ H
end
section
variable {σ : St} {H : Hp} {Q : VK} {D : Ends} {K : PySem.W.Frag} {Eh : Addr → Hp → Prop} {Eg : Addr → St → Hp → Prop}
end
end Internal

set_option Elab.async false
set_option linter.all false
set_option maxRecDepth 100000
namespace Internal
open PySem PySem.Spec PyProof.Rows
section
variable {X : Cx} {pins : List (Addr × Obj)} {σ : St} {H : Hp} {s : Shared} {h' : Heap}
theorem Inv.turnedL {t' : Nat} {fp : List Addr} (I : Inv X pins σ H s) (k : ∀ b o, b ∉ fp → s.heap.get? b = some o → h'.get? b = some o) (f : ∀ b ∈ fp, FpOk X pins H b) : Inv X pins σ H { s with heap := h', toks := t' } := by
  have nit : ∀ b u, H b = some u → b ∉ fp := fun b u e z => by rw [(f b z).1] at e; cases e
  refine I.step (g' := s.gens) (d' := s.drawn) (ch := fp) (fun b hb => ⟨(f b hb).2.2.2.1, (f b hb).2.1, (f b hb).2.2.2.2.1, (f b hb).2.2.2.2.2⟩) (fun b o _ _ hc e _ => k b o hc e) (fun b o _ _ hc e _ => ⟨o.slots, k b o hc e⟩) (fun _ _ _ _ n => n)
    (fun b o hc e => ⟨o, k b o hc e⟩) (fun _ _ e => e) (fun _ _ _ e => e) (fun b ps e => ⟨#[], by rw [e]; simp⟩) (fun m hm => ?_) (fun b u e => ?_) I.bare
  · obtain ⟨o, es, ep, ho, r⟩ := hm
    exact ⟨o, es, ep, k _ o (fun z => (f _ z).2.1 rfl) ho, r⟩
  · refine (I.hok b u e).stay (fun c v hc q => k c v ?_ q) (fun _ q => q) fun _ _ q => q
    rcases hc with z | z
    · rw [z]; exact nit b u e
    · exact nit c _ z
theorem Inv.turnedNew {t' : Nat} {fp : List Addr} {p : Addr} {o : HO} (I : Inv X pins σ H s) (k : ∀ b o, b ∉ fp → s.heap.get? b = some o → h'.get? b = some o) (f : ∀ b ∈ fp, FpOk X pins H b) (hp : s.heap.objs.size ≤ p) (new : ObjOk X.prog X.w (upd H p o) h' p o) :
    Inv X pins σ (upd H p o) { s with heap := h', toks := t' } := by
  have nit : ∀ b u, H b = some u → b ∉ fp := fun b u e z => by rw [(f b z).1] at e; cases e
  have hn : H p = none := I.hok.fresh hp
  refine I.step (g' := s.gens) (d' := s.drawn) (ch := fp) (fun b hb => ⟨(f b hb).2.2.2.1, (f b hb).2.1, (f b hb).2.2.2.2.1, (f b hb).2.2.2.2.2⟩) (fun b o _ _ hc e _ => k b o hc e) (fun b o _ _ hc e _ => ⟨o.slots, k b o hc e⟩) (fun b u _ e n => ?_)
    (fun b o hc e => ⟨o, k b o hc e⟩) (fun b xs e => by rw [upd_ne (ne_of_none e hn)]; exact e) (fun b u v e => by rw [upd_ne (ne_of_none e hn)]; exact e) (fun b ps e => ⟨#[], by rw [upd_ne (ne_of_none e hn), e]; simp⟩) (fun m hm => ?_) (fun b u e => ?_) I.bare
  · rw [upd_ne (Nat.ne_of_lt (Nat.lt_of_lt_of_le (Heap.lt_size e) hp))]; exact n
  · obtain ⟨o, es, ep, ho, r⟩ := hm
    exact ⟨o, es, ep, k _ o (fun z => (f _ z).2.1 rfl) ho, r⟩
  · by_cases hb : b = p
    · subst hb; rw [upd_same] at e; cases e; exact new
    · rw [upd_ne hb] at e
      refine (I.hok b u e).stay (fun c v hc q => k c v ?_ q) (fun c q => by rw [upd_ne (ne_of_none q hn)]; exact q) fun c xs q => by rw [upd_ne (ne_of_none q hn)]; exact q
      rcases hc with z | z
      · rw [z]; exact nit b u e
      · exact nit c _ z
end
theorem tup2 {P : Program} {w : World} {H : Hp} {h : Heap} {p : Addr} {x y : V} {u v : Value} (e : h.get? p = some { cls := .type "tuple", data := .seq #[u, v] }) (r1 : RelV x u) (r2 : RelV y v) : ObjOk P w H h p (.tup [x, y]) :=
  ⟨small_le (by simp), [u, v], .cons r1 (.cons r2 .nil), _, e, rfl, _, rfl⟩
noncomputable def Itn (K : PySem.W.Frag) (a : Addr) : It :=
  ⟨fun i H => ∃ xs x, SqL K H a xs ∧ xs[i]? = some x, fun i H v H' => ∃ p x, H p = none ∧ v = .ref p ∧ (∀ xs, SqL K H a xs → xs[i]? = some x) ∧ H' = upd H p (.tup [.int i, x]), fun i H => ∃ xs, SqL K H a xs ∧ xs.length ≤ i⟩
theorem turn_enum {P : Program} {w : World} {K : PySem.W.Frag} {es : List Expr} {kx : Nat} {tp : Pos} (a e it : Addr) (hne : e ≠ it) : Turn P w K (.Tuple es kx tp) (Itn K a) [e, it] e (fun i h => (∃ old, IsEnum h e it i old) ∧ h.IsListIter it a i) where
  mem := by simp
  obj := fun i h st b hb => by
    obtain ⟨⟨old, h1⟩, o, h2, c, d⟩ := st
    rcases List.mem_cons.mp hb with z | z
    · subst z; exact ⟨_, h1, fun v z => by cases z⟩
    · have e : b = it := by simpa using z
      subst e
      exact ⟨o, h2, fun v z => by rw [d] at z; cases z⟩
  keep := fun i h h' st k => by
    obtain ⟨⟨old, h1⟩, h2⟩ := st
    exact ⟨⟨old, k e (by simp) _ h1⟩, h2.at fun o q => k it (by simp) o q⟩
  item := by
    intro X hP hw hK hc i pins s σ H E I hf st hg
    subst hP hw hK
    obtain ⟨⟨old, he⟩, hit⟩ := st
    obtain ⟨xs, x, hq, hx⟩ := hg
    obtain ⟨its, rv, p, hz⟩ := I.list hq
    obtain ⟨u, hu, ru⟩ := rv.get hx
    refine wpAny_pyNext_enum_item he hit p.isList (x := u) (by simpa using hu) hne fun h1 eo it1 tp1 sz1 k1 => ?_
    refine ⟨_, rfl, wpAny_letOwnedTupleGo_enum eo fun h2 e2 sb2 => ?_⟩
    have hes : e ≠ s.heap.objs.size := Nat.ne_of_lt (Heap.lt_size he)
    have sb2' : Heap.SameBut e h1 h2 := sb2
    have t2 : h2.get? s.heap.objs.size = some { cls := .type "tuple", data := .seq #[.int i s.toks, u] } := (sb2'.2 _ (Ne.symm hes)).trans tp1
    have k2 : ∀ b o, b ∉ [e, it] → s.heap.get? b = some o → h2.get? b = some o := fun b o hb q => by
      have n1 : b ≠ e := fun z => hb (by simp [z])
      have n2 : b ≠ it := fun z => hb (by simp [z])
      exact (sb2'.2 b n1).trans (k1 b o n1 n2 q)
    have I2 : Inv X pins σ (upd H s.heap.objs.size (.tup [.int i, x])) { s with heap := h2, toks := s.toks + 1 } := I.turnedNew k2 hf (Nat.le_refl _) (tup2 t2 ⟨_, rfl⟩ ru)
    have hn : H s.heap.objs.size = none := I.hok.fresh (Nat.le_refl _)
    refine ⟨.ref s.heap.objs.size, _, I2, rfl, ⟨_, x, hn, rfl, fun ys hy => by rw [I.list_inj hy hq]; exact hx, rfl⟩, ⟨⟨_, e2⟩, it1.at fun o q => (sb2'.2 it (Ne.symm hne)).trans q⟩, fun b hb => ?_⟩
    have hbs : b ≠ s.heap.objs.size := by
      rcases List.mem_cons.mp hb with z | z
      · rw [z]; exact hes
      · have e : b = it := by simpa using z
        subst e
        obtain ⟨o, q, _⟩ := hit
        exact Nat.ne_of_lt (Heap.lt_size q)
    rw [upd_ne hbs]
    exact (hf b hb).1
  done := by
    intro X hP hw hK hc i pins s σ H E I hf st hg
    subst hP hw hK
    obtain ⟨⟨old, he⟩, hit⟩ := st
    obtain ⟨xs, hq, hx⟩ := hg
    obtain ⟨its, rv, p, hz⟩ := I.list hq
    have hl := rv.length
    refine wpAny_pyNext_enum_end (I.ok.hd hc) he hit p.isList (by simp; omega) fun h1 eb => ⟨rfl, I.turnedL (t' := s.toks) (fp := [e, it]) (fun b o hb q => eb b o (fun z => hb (by simp [z])) q) hf⟩
  self := fun _ _ _ _ _ st h => by
    obtain ⟨⟨old, he⟩, _⟩ := st
    exact wpAny_pyIter_enum he h
noncomputable def Itz (K : PySem.W.Frag) (a b : Addr) : It :=
  ⟨fun i H => ∃ xs ys x y, SqL K H a xs ∧ SqL K H b ys ∧ xs[i]? = some x ∧ ys[i]? = some y, fun i H v H' => ∃ p x y, H p = none ∧ v = .ref p ∧ (∀ xs, SqL K H a xs → xs[i]? = some x) ∧ (∀ ys, SqL K H b ys → ys[i]? = some y) ∧ H' = upd H p (.tup [x, y]),
    fun i H => ∃ xs ys, SqL K H a xs ∧ SqL K H b ys ∧ (xs.length ≤ i ∨ ys.length ≤ i)⟩
section
variable {X : Cx} {es : List Expr} {kx : Nat} {tp : Pos}
noncomputable def rEnum (K : PySem.W.Frag) (R : It → Hp → Prop) (vs : List V) (H : Hp) : Prop := ∃ a, vs = [.ref a] ∧ (∃ xs, SqL K H a xs) ∧ R (Itn K a) H
noncomputable def rZip (K : PySem.W.Frag) (R : It → Hp → Prop) (vs : List V) (H : Hp) : Prop := ∃ a b, vs = [.ref a, .ref b] ∧ (∃ xs, SqL K H a xs) ∧ (∃ ys, SqL K H b ys) ∧ R (Itz K a b) H
noncomputable abbrev iEnum (K : PySem.W.Frag) (ta : TA) : TI := fun σ H R => ta σ H (rEnum K R)
noncomputable abbrev iZip (K : PySem.W.Frag) (ta : TA) : TI := fun σ H R => ta σ H (rZip K R)
theorem pi_enum {a : Expr} {ta : TA} {p pos : Pos} (hg : Gl X "enumerate") (hm : X.mg "enumerate" = none) (ha : PA X [a] ta) (hs : autoParam (starEach [a] X.env = [(false, eval a X.env)]) Internal.aut2._auto_1) : PI X (.Tuple es kx tp) (.Call (.Name "enumerate" p) [a] [] pos) (iEnum X.K ta) := by
  intro pins s σ H R I h
  refine Call_ (ld_blt I hg hm boot_enumerate (PyProof.Rows.callWith_type1 (thn (ha pos pins s σ H _ I h) fun us s1 ⟨vs, H1, I1, r1, q1⟩ => ?_) hs rfl))
  obtain ⟨l, e, ⟨xs, hq⟩, q⟩ := q1
  subst e
  obtain ⟨u, rfl, r⟩ := vals1 r1
  cases r
  obtain ⟨its, rv, pl, hz⟩ := I1.list hq
  refine call_enumerate_list pl.isList fun h1 e1 i1 sz1 k1 => ?_
  refine wpAny_pyIter_enum e1 ?_
  have I2 : Inv X pins σ H1 { s1 with heap := h1, toks := s1.toks } := I1.kept k1
  refine ⟨s1.heap.objs.size + 1, [s1.heap.objs.size + 1, s1.heap.objs.size], _, _, H1, rfl, I2, turn_enum l _ _ (Nat.succ_ne_self _), ⟨⟨_, e1⟩, i1⟩, fun b hb => ?_, q⟩
  have hb' : s1.heap.objs.size ≤ b := by
    simp only [List.mem_cons, List.not_mem_nil, or_false] at hb
    rcases hb with rfl | rfl <;> omega
  exact I1.fpOk hb' (I1.hok.fresh hb')
end
section
variable {X : Cx}
theorem Inv.walk {pins : List (Addr × Obj)} {σ : St} {H : Hp} {s : Shared} {a : Addr} {xs : List V} (I : Inv X pins σ H s) (hq : SqL X.K H a xs) : ∃ its : List Value, Vals xs its ∧ s.heap.IsList a its.toArray ∧ its.length = xs.length ∧ a < s.heap.objs.size := by
  obtain ⟨its, rv, pl, hz⟩ := I.list hq
  obtain ⟨o, e, _⟩ := id pl.isList
  exact ⟨its, rv, pl.isList, rv.length.symm, Heap.lt_size e⟩
noncomputable def sumI (ns : List Int) : Int := ns.foldl (· + ·) 0
theorem sumI_snoc (ns : List Int) (n : Int) : sumI (ns ++ [n]) = sumI ns + n := by unfold sumI; rw [List.foldl_append]; rfl
theorem preSum_sumI (ns : List Int) : ∀ j, j ≤ ns.length → preSum (fun i => ns.getD i 0) j = sumI (ns.take j)
  | 0, _ => rfl
  | j + 1, h => by
    have hj : j < ns.length := by omega
    rw [preSum, preSum_sumI ns j (by omega), List.take_succ_eq_append_getElem hj, sumI_snoc]
    simp [List.getD, hj]
noncomputable def rSum (K : PySem.W.Frag) : List V → Hp → VK → Prop := fun xs H Q => ∃ a ns, xs = [.ref a] ∧ SqL K H a (List.map V.int ns) ∧ Q (.int (sumI ns)) H
theorem int_at {ns : List Int} {its : List Value} {i : Nat} {v : Value} (rv : Vals (ns.map V.int) its) (h : its.toArray[i]? = some v) : ∃ t, v = .int (ns.getD i 0) t := by
  have hl := rv.length
  rw [List.length_map] at hl
  have hi : i < ns.length := by
    have := (Array.getElem?_eq_some_iff.mp h).1
    simp at this; omega
  obtain ⟨u, hu, r⟩ := rv.get (show (ns.map V.int)[i]? = some (.int (ns.getD i 0)) by simp [List.getD, hi])
  have : v = u := by
    have h' : its[i]? = some v := by simpa using h
    rw [hu] at h'; exact (Option.some.inj h').symm
  obtain ⟨t, rfl⟩ := r
  exact ⟨t, this⟩
theorem call_sumU (hc : X.calm = true) : CallR X (.builtin "sum") (rSum X.K) := by
  intro pins s σ H xs us Q I r h
  obtain ⟨a, ns, rfl, hq, q⟩ := h
  obtain ⟨u, rfl, r1⟩ := vals1 r
  cases r1
  obtain ⟨its, rv, pl, hl, hlt⟩ := I.walk hq
  refine call_sum_walkAnyS (wpAny_pyIter_list pl ?_)
  have hne : a ≠ s.heap.objs.size := Nat.ne_of_lt hlt
  refine ⟨_, _, _, _, _, _, _, fun i => ns.getD i 0, rfl, (Walks.list (prog := X.prog) (w := X.w) (A := X.A.in1) (I.ok.hd hc) s.heap.objs.size a hne its.toArray).toS, ⟨⟨_, Heap.get?_push_size _ rfl, rfl, rfl⟩, pl.at fun o e => Heap.get?_push_of_some _ e⟩, fun b hb => ?_, fun i v hv => int_at rv hv, fun s' t' hm => ?_⟩
  · rw [Heap.size_push]
    simp only [List.mem_cons, List.not_mem_nil, or_false] at hb
    rcases hb with rfl | rfl
    · exact Nat.lt_succ_self _
    · exact Nat.lt_succ_of_lt hlt
  · have hn : (its.toArray).size = ns.length := by rw [List.length_map] at hl; simpa using hl
    rw [hn, preSum_sumI ns _ (Nat.le_refl _), List.take_length]
    have hg : s'.gens = s.gens := by have := hm.gens; first | exact this | exact this.symm
    have hd := hm.drawn
    have ho := hm.os
    have I1 : Inv X pins σ H { s with heap := s'.heap, toks := s'.toks } := I.kept fun b o e => hm.heap b o (fun z => by
      simp only [List.mem_cons, List.not_mem_nil, or_false] at z
      subst z
      exact absurd (Heap.lt_size e) (Nat.lt_irrefl _)) (Heap.get?_push_of_some _ e)
    have e : ({ s with heap := s'.heap, toks := s'.toks } : Shared) = s' := by
      cases s'; cases s
      simp only at hg hd ho
      subst hg hd ho; rfl
    rw [e] at I1
    exact ⟨.int (sumI ns), H, I1, ⟨t', rfl⟩, q⟩
end
end Internal

set_option Elab.async false
set_option linter.all false
set_option maxRecDepth 100000
namespace Internal
open PySem PySem.Spec PyProof.Rows
section
variable {X : Cx}
theorem get_listL : PGet X (rIxL X.K) := by
  intro pins s σ H x y v u Q I rx ry h
  obtain ⟨p, xs, i, z, rfl, rfl, hq, he, q⟩ := h
  cases rx
  obtain ⟨t, rfl⟩ := ry
  obtain ⟨its, r, pl, hz⟩ := I.list hq
  obtain ⟨j, h1, h2, h3, h4, h5⟩ := atI_get he
  obtain ⟨w, ew, rw'⟩ := r.get h2
  have hl := r.length
  have hn := line63
  have fin : EP X pins σ Q w s := ⟨z, H, I, rw', q⟩
  by_cases h0 : 0 ≤ i
  · have hj : i.toNat = j := by
      rw [seqIndex_of h0 h5] at h1
      exact Option.some.inj h1
    exact wpAny_getItem_list pl.isList h0 (by omega) (by rw [hj]; simpa using ew) fin
  · have hj : (i + (its.toArray.size : Int)).toNat = j := by
      rw [seqIndex_neg (by omega) h4] at h1
      rw [List.size_toArray, ← hl]
      exact Option.some.inj h1
    exact wpAny_getItem_list_neg pl.isList (by omega) (by rw [List.size_toArray] <;> omega) (by omega) (by rw [hj]; simpa using ew) fin
end
noncomputable def Src (J : It) (P : Hp → Prop) (n : Nat) (Y : Nat → V → Hp → Prop) : Prop :=
  (∀ i H, P H → i < n → J.go i H) ∧ (∀ H, P H → J.stop n H) ∧ ∀ i H x H', P H → i < n → J.yld i H x H' → Same H H' ∧ Y i x H'
theorem lt_some {α : Type} {xs : List α} {i : Nat} (h : i < xs.length) : ∃ x, xs[i]? = some x := ⟨xs[i], by simp [h]⟩
theorem src_list {K : PySem.W.Frag} {a : Addr} {xs : List V} : Src (Itl K a) (fun H => SqL K H a xs) xs.length (fun i x _ => xs[i]? = some x) :=
  ⟨fun i H h hi => by obtain ⟨x, hx⟩ := lt_some hi; exact ⟨xs, x, h, hx⟩, fun H h => ⟨xs, h, Nat.le_refl _⟩, fun i H x H' h hi ⟨q, r⟩ => by subst q; exact ⟨Same.refl _, r xs h⟩⟩
theorem src_range {lo : Int} {n : Nat} : Src (Itr lo n) (fun _ => True) n (fun i x _ => x = .int (lo + i)) :=
  ⟨fun i H e hi => hi, fun H e => Nat.le_refl _, fun i H x H' e hi ⟨q, r⟩ => by subst q; exact ⟨Same.refl _, r⟩⟩
theorem src_enum {K : PySem.W.Frag} {a : Addr} {xs : List V} : Src (Itn K a) (fun H => SqL K H a xs) xs.length (fun i x H => ∃ p v, x = .ref p ∧ xs[i]? = some v ∧ H p = some (.tup [.int i, v])) :=
  ⟨fun i H h hi => by obtain ⟨x, hx⟩ := lt_some hi; exact ⟨xs, x, h, hx⟩, fun H h => ⟨xs, h, Nat.le_refl _⟩, fun i H x H' h hi ⟨p, v, hp, q, r, z⟩ => by subst z; exact ⟨Same.new hp _, p, v, q, r xs h, upd_same⟩⟩
section
variable {σ : St} {H : Hp} {Q : VK} {D : Ends} {ta tb tc te to ti : TE} {t u : TS} {K : PySem.W.Frag}
theorem x_forS {J : It} {P : Hp → Prop} {n : Nat} {Y : Nat → V → Hp → Prop} {g : TG} {tb : TS} (S : Src J P n Y) (Pv : Nat → St → Hp → Prop) (h0 : Pv 0 σ H) (hk : ∀ i σ H, Pv i σ H → P H)
    (hs : ∀ i x σ H H', i < n → Pv i σ H → Same H H' → Y i x H' → g x σ H' fun σ2 H2 => tb { D with nx := Pv (i + 1), ct := Pv (i + 1), bk := D.nx } σ2 H2) (hd : ∀ σ H, Pv n σ H → D.nx σ H) : ForK J g tb D σ H := by
  refine ⟨fun i m σ H => m = n - i ∧ i ≤ n ∧ Pv i σ H, ⟨n, by simp, Nat.zero_le _, h0⟩, ?_⟩
  rintro i m σ H ⟨rfl, hi, p⟩
  by_cases hlt : i < n
  · refine .inr ⟨S.1 i H (hk i σ H p) hlt, Pv (i + 1), fun σ' H' q => ⟨n - (i + 1), by omega, rfl, hlt, q⟩, fun x H' y => ?_⟩
    obtain ⟨e, y'⟩ := S.2.2 i H x H' (hk i σ H p) hlt y
    exact hs i x σ H H' hlt p e y'
  · have : i = n := by omega
    subst this
    exact .inl ⟨S.2.1 H (hk i σ H p), hd σ H p⟩
noncomputable def CompK (J : It) (caps : List (Option Nat)) (g : TG) (tf : TT) (te : TE) (σ : St) (Q : VK) (H1 : Hp) : Prop := ∀ D, H1 D = none →
  ∃ W : Nat → Nat → St → Hp → Prop, (∃ m, W 0 m (capSt caps σ) (upd H1 D (.lst []))) ∧ ∀ i m σ' H', W i m σ' H' →
    (J.stop i H' ∧ Q (.ref D) H') ∨ (J.go i H' ∧ ∃ N : St → Hp → Prop, (∀ σ2 H2, N σ2 H2 → ∃ m', m' < m ∧ W (i + 1) m' σ2 H2) ∧
      ∀ x H2, J.yld i H' x H2 → g x σ' H2 fun σ1 H3 => tf σ1 H3 fun b H4 => if b = true then te σ1 H4 fun v H5 => rAppend (.ref D) [v] H5 fun _ H6 => N σ1 H6 else N σ1 H4)
theorem x_comp {wi : TI} {caps : List (Option Nat)} {g : TG} {tf : TT} {te : TE} (q : wi σ H fun J H1 => CompK J caps g tf te σ Q H1) : tComp wi caps g tf te σ H Q := q
theorem x_yes {T : Bool → Hp → Prop} (q : T true H) : tYes σ H T := q
noncomputable def CompN (H : Hp) (Sv : St → Prop) (Pv : Nat → List V → Hp → Prop) (D : Addr) (i : Nat) (σ' : St) (H' : Hp) : Prop := Sv σ' ∧ Same H H' ∧ ∃ vs, H' D = some (.lst vs) ∧ vs.length ≤ i ∧ Pv i vs H'
theorem x_compS {J : It} {P : Hp → Prop} {n : Nat} {Y : Nat → V → Hp → Prop} {caps : List (Option Nat)} {g : TG} {tf : TT} {te : TE} (S : Src J P n Y) (e0 : ∀ H', Same H H' → P H') (Sv : St → Prop) (Pv : Nat → List V → Hp → Prop) (hc : Sv (capSt caps σ)) (h0 : ∀ H', Same H H' → Pv 0 [] H')
    (hs : ∀ i x D vs σ' H' H2, i < n → H D = none → Sv σ' → Same H H' → H' D = some (.lst vs) → vs.length ≤ i → Pv i vs H' → Same H' H2 → Y i x H2 → g x σ' H2 fun σ1 H3 => tf σ1 H3 fun b H4 => if b = true then te σ1 H4 fun v H5 => rAppend (.ref D) [v] H5 fun _ H6 => CompN H Sv Pv D (i + 1) σ1 H6 else CompN H Sv Pv D (i + 1) σ1 H4)
    (hq : ∀ D H' vs, H D = none → Same H H' → H' D = some (.lst vs) → vs.length ≤ n → Pv n vs H' → Q (.ref D) H') : CompK J caps g tf te σ Q H := by
  intro D hD
  refine ⟨fun i m σ' H' => m = n - i ∧ i ≤ n ∧ CompN H Sv Pv D i σ' H', ⟨n, by simp, Nat.zero_le _, hc, Same.new hD _, [], upd_same, Nat.le_refl _, h0 _ (Same.new hD _)⟩, ?_⟩
  rintro i m σ' H' ⟨rfl, hi, sv, e, vs, hv, hl, p⟩
  by_cases hlt : i < n
  · refine .inr ⟨S.1 i H' (e0 _ e) hlt, CompN H Sv Pv D (i + 1), fun σ2 H2 q => ⟨n - (i + 1), by omega, rfl, hlt, q⟩, fun x H2 y => ?_⟩
    obtain ⟨e', y'⟩ := S.2.2 i H' x H2 (e0 _ e) hlt y
    exact hs i x D vs σ' H' H2 hlt hD sv e hv hl p e' y'
  · have : i = n := by omega
    subst this
    exact .inl ⟨S.2.1 H' (e0 _ e), hq D H' vs hD e hv hl p⟩
theorem x_compS1 {J : It} {P : Hp → Prop} {n : Nat} {Y : Nat → V → Hp → Prop} {caps : List (Option Nat)} {g : TG} {tf : TT} {te : TE} {rest : St} (S : Src J P n Y) (e0 : ∀ H', Same H H' → P H') (hc : capSt caps σ = none :: rest) (Pv : Nat → List V → Hp → Prop) (h0 : ∀ H', Same H H' → Pv 0 [] H')
    (hs : ∀ i x D vs o H' H2, i < n → H D = none → Same H H' → H' D = some (.lst vs) → vs.length ≤ i → Pv i vs H' → Same H' H2 → Y i x H2 → g x (o :: rest) H2 fun σ1 H3 => tf σ1 H3 fun b H4 => if b = true then te σ1 H4 fun v H5 => rAppend (.ref D) [v] H5 fun _ H6 => CompN H (fun σ' => ∃ o, σ' = o :: rest) Pv D (i + 1) σ1 H6 else CompN H (fun σ' => ∃ o, σ' = o :: rest) Pv D (i + 1) σ1 H4)
    (hq : ∀ D H' vs, H D = none → Same H H' → H' D = some (.lst vs) → vs.length ≤ n → Pv n vs H' → Q (.ref D) H') : CompK J caps g tf te σ Q H :=
  x_compS S e0 (fun σ' => ∃ o, σ' = o :: rest) Pv ⟨_, hc⟩ h0 (fun i x D vs σ' H' H2 a1 a2 ⟨o, a3⟩ a4 a5 a6 a7 a8 a9 => by subst a3; exact hs i x D vs o H' H2 a1 a2 a4 a5 a6 a7 a8 a9) hq
theorem x_compS2 {J : It} {P : Hp → Prop} {n : Nat} {Y : Nat → V → Hp → Prop} {caps : List (Option Nat)} {g : TG} {tf : TT} {te : TE} {rest : St} (S : Src J P n Y) (e0 : ∀ H', Same H H' → P H') (hc : capSt caps σ = none :: none :: rest) (Pv : Nat → List V → Hp → Prop) (h0 : ∀ H', Same H H' → Pv 0 [] H')
    (hs : ∀ i x D vs o o' H' H2, i < n → H D = none → Same H H' → H' D = some (.lst vs) → vs.length ≤ i → Pv i vs H' → Same H' H2 → Y i x H2 → g x (o :: o' :: rest) H2 fun σ1 H3 => tf σ1 H3 fun b H4 => if b = true then te σ1 H4 fun v H5 => rAppend (.ref D) [v] H5 fun _ H6 => CompN H (fun σ' => ∃ o o', σ' = o :: o' :: rest) Pv D (i + 1) σ1 H6 else CompN H (fun σ' => ∃ o o', σ' = o :: o' :: rest) Pv D (i + 1) σ1 H4)
    (hq : ∀ D H' vs, H D = none → Same H H' → H' D = some (.lst vs) → vs.length ≤ n → Pv n vs H' → Q (.ref D) H') : CompK J caps g tf te σ Q H :=
  x_compS S e0 (fun σ' => ∃ o o', σ' = o :: o' :: rest) Pv ⟨_, _, hc⟩ h0 (fun i x D vs σ' H' H2 a1 a2 ⟨o, o', a3⟩ a4 a5 a6 a7 a8 a9 => by subst a3; exact hs i x D vs o o' H' H2 a1 a2 a4 a5 a6 a7 a8 a9) hq
theorem x_enumk {R : It → Hp → Prop} {a : Addr} {xs : List V} (h : SqL K H a xs) (q : R (Itn K a) H) : rEnum K R [.ref a] H := ⟨a, rfl, ⟨xs, h⟩, q⟩
theorem x_gTup {a : Addr} {xs : List V} {n : Nat} {t : TGs} {R : St → Hp → Prop} (h : H a = some (.tup xs)) (hn : xs.length = n) (q : t xs σ H R) : gTup K n t (.ref a) σ H R := ⟨a, xs, rfl, SqT.of h, hn, q⟩
theorem x_gCons {v : V} {r : List V} {t : TG} {u : TGs} {R : St → Hp → Prop} (q : t v σ H fun σ' H' => u r σ' H' R) : gCons t u (v :: r) σ H R := ⟨v, r, rfl, q⟩
theorem x_gNil {R : St → Hp → Prop} (q : R σ H) : gNil [] σ H R := ⟨rfl, q⟩
theorem x_ip {f : Int → Int → Int} {i j : Int} (q : Q (.int (f i j)) H) : ipI f (.int i) (.int j) H Q := ⟨i, j, rfl, rfl, q⟩
theorem x_augS {tget : V → V → Hp → VK → Prop} {tip : TIp} {tset : TSet} (q : to σ H fun o H1 => ti σ H1 fun i H2 => tget o i H2 fun x H3 => te σ H3 fun y H4 => tip x y H4 fun z H5 => tset o i z H5 fun H6 => D.nx σ H6) : tAugS to ti te tget tip tset D σ H := q
theorem x_getL {a : Addr} {xs : List V} {i : Int} {v : V} (h : SqL K H a xs) (e : atI xs i = some v) (q : Q v H) : rIxL K (.ref a) (.int i) H Q := ⟨a, xs, i, v, rfl, rfl, h, e, q⟩
theorem x_rep0 {l : Addr} {x : V} {k : Int} (h : H l = some (.lst [x])) (h0 : 0 ≤ k) (h1 : k ≤ 100000) (q : ∀ p H', H p = none → Same H H' → H' p = some (.lst (List.replicate k.toNat x)) → Q (.ref p) H') : rMulU (.ref l) (.int k) H Q :=
  .inr ⟨l, k, [x], rfl, rfl, h, by omega, by omega, by have := small_le (n := k.toNat) (by omega); simpa using this, fun p hp => by
    have e : (List.replicate k.toNat [x]).flatten = List.replicate k.toNat x := by
      generalize k.toNat = n
      induction n with
      | zero => rfl
      | succ n ih => rw [List.replicate_succ, List.flatten_cons, ih, List.replicate_succ]; rfl
    rw [e]
    exact q p _ hp (Same.new hp _) upd_same⟩
theorem x_catN {l b : Addr} {xs zs : List V} (h : H l = some (.lst xs)) (h' : H b = some (.lst zs)) (hz : xs.length + zs.length ≤ 100000) (q : ∀ p H', H p = none → Same H H' → H' p = some (.lst (xs ++ zs)) → Q (.ref p) H') : rAddU K (.ref l) (.ref b) H Q :=
  .inr (.inl ⟨l, b, xs, zs, rfl, rfl, h, h', small_le hz, fun p hp => q p _ hp (Same.new hp _) upd_same⟩)
theorem x_sum {a : Addr} {ns : List Int} (h : SqL K H a (ns.map V.int)) (q : Q (.int (sumI ns)) H) : rSum K [.ref a] H Q := ⟨a, ns, rfl, h, q⟩
end
theorem x_iteY {p : Prop} [Decidable p] {A B : Prop} (h : p) (a : A) : if decide p = true then A else B := by rw [decide_eq_true h]; exact x_iteT a
theorem x_iteZ {p : Prop} [Decidable p] {A B : Prop} (h : ¬ p) (b : B) : if decide p = true then A else B := by rw [decide_eq_false h]; exact x_iteF b
theorem x_iteNY {p : Prop} [Decidable p] {A B : Prop} (h : p) (b : B) : if (!decide p) = true then A else B := by rw [decide_eq_true h]; exact x_iteF b
theorem x_iteNZ {p : Prop} [Decidable p] {A B : Prop} (h : ¬ p) (a : A) : if (!decide p) = true then A else B := by rw [decide_eq_false h]; exact x_iteT a
section
variable {α : Type} {f : α → List V}
noncomputable def IsTs (f : α → List V) (H : Hp) : List V → List α → Prop
  | [], [] => True
  | v :: vs, x :: xs => (∃ a, v = .ref a ∧ H a = some (.tup (f x))) ∧ IsTs f H vs xs
  | _, _ => False
noncomputable def Tups (H H' : Hp) : Prop := ∀ a xs, H a = some (.tup xs) → H' a = some (.tup xs)
theorem Same.tups {H H' : Hp} (e : Same H H') : Tups H H' := fun a xs h => e a _ h
theorem LBut.tups {l : Addr} {H H' : Hp} (e : LBut l H H') : Tups H H' := fun a xs h => e.tup h
theorem IsTs.keep {H H' : Hp} (e : Tups H H') : ∀ {vs : List V} {xs : List α}, IsTs f H vs xs → IsTs f H' vs xs
  | [], [], _ => trivial
  | _ :: _, _ :: _, ⟨⟨a, q, h⟩, r⟩ => ⟨⟨a, q, e a _ h⟩, r.keep e⟩
theorem IsTs.same {H H' : Hp} {vs : List V} {xs : List α} (h : IsTs f H vs xs) (e : Same H H') : IsTs f H' vs xs := h.keep e.tups
theorem LBut.isTs {l : Addr} {H H' : Hp} {vs : List V} {xs : List α} (e : LBut l H H') (h : IsTs f H vs xs) : IsTs f H' vs xs := h.keep e.tups
theorem IsTs.length {H : Hp} : ∀ {vs : List V} {xs : List α}, IsTs f H vs xs → vs.length = xs.length
  | [], [], _ => rfl
  | _ :: _, _ :: _, ⟨_, r⟩ => by rw [List.length_cons, List.length_cons, r.length]
theorem IsTs.app {H : Hp} {a : Addr} {x : α} (h : H a = some (.tup (f x))) : ∀ {vs : List V} {xs : List α}, IsTs f H vs xs → IsTs f H (vs ++ [.ref a]) (xs ++ [x])
  | [], [], _ => ⟨⟨a, rfl, h⟩, trivial⟩
  | _ :: _, _ :: _, ⟨q, r⟩ => ⟨q, r.app h⟩
theorem IsTs.get {H : Hp} : ∀ {vs : List V} {xs : List α} {i : Nat} {v : V}, IsTs f H vs xs → vs[i]? = some v → ∃ a x, v = .ref a ∧ xs[i]? = some x ∧ H a = some (.tup (f x))
  | _ :: _, x :: _, 0, _, ⟨⟨a, q, h⟩, _⟩, e => by cases e; exact ⟨a, x, q, rfl, h⟩
  | _ :: _, _ :: _, i + 1, _, ⟨_, r⟩, e => by obtain ⟨a, x, q, e', h⟩ := r.get (i := i) e; exact ⟨a, x, q, e', h⟩
theorem IsTs.getI {H : Hp} {vs : List V} {xs : List α} {i : Nat} {x : α} (h : IsTs f H vs xs) (e : xs[i]? = some x) : ∃ a, vs[i]? = some (.ref a) ∧ H a = some (.tup (f x)) := by
  have hi : i < vs.length := by rw [h.length]; exact (List.getElem?_eq_some_iff.mp e).1
  obtain ⟨v, hv⟩ := lt_some hi
  obtain ⟨a, y, q, e', h'⟩ := h.get hv
  rw [e] at e'; cases e'
  exact ⟨a, by rw [hv, q], h'⟩
theorem IsTs.rep {K : PySem.W.Frag} {H : Hp} {d : α → List PyData} (hd : ∀ x, RepAll K H (f x) (d x)) : ∀ {vs : List V} {xs : List α}, IsTs f H vs xs → RepAll K H vs (xs.map fun x => .tuple (d x))
  | [], [], _ => .nil
  | _ :: _, _ :: _, ⟨⟨a, q, h⟩, r⟩ => by subst q; exact .cons (.tup (.of h) (hd _)) (r.rep hd)
end
noncomputable def vec (n : Nat) (f : Nat → Int) : List Int := (List.range n).map f
theorem vec_len {n : Nat} {f : Nat → Int} : (vec n f).length = n := by simp [vec]
theorem vec_get {n i : Nat} {f : Nat → Int} (h : i < n) : (vec n f)[i]? = some (f i) := by simp [vec, h]
theorem vec_congr {n : Nat} {f g : Nat → Int} (h : ∀ i, i < n → f i = g i) : vec n f = vec n g := by
  unfold vec; exact List.map_congr_left fun i hi => h i (List.mem_range.mp hi)
theorem vec_set {n j : Nat} {f : Nat → Int} {v : Int} : (vec n f).set j v = vec n (fun i => if i = j then v else f i) := by
  refine List.ext_getElem? fun i => ?_
  rw [List.getElem?_set]
  by_cases hi : i < n
  · rw [vec_get hi, vec_get hi, vec_len]
    by_cases e : j = i
    · subst e; simp [hi]
    · rw [if_neg e, if_neg (Ne.symm e)]
  · have h1 : (vec n f)[i]? = none := by rw [List.getElem?_eq_none_iff, vec_len]; omega
    have h2 : ∀ g, (vec n g)[i]? = none := fun g => by rw [List.getElem?_eq_none_iff, vec_len]; omega
    rw [h1, h2, vec_len]
    by_cases e : j = i
    · subst e; simp [hi]
    · rw [if_neg e]
theorem vec_succ {n : Nat} {f : Nat → Int} : vec (n + 1) f = vec n f ++ [f n] := by unfold vec; rw [List.range_succ, List.map_append]; rfl
theorem vec_rep {n : Nat} {c : Int} : List.replicate n (V.int c) = (vec n fun _ => c).map V.int := by
  refine List.ext_getElem? fun i => ?_
  rw [List.getElem?_replicate, List.getElem?_map]
  by_cases hi : i < n
  · rw [vec_get hi, if_pos hi]; rfl
  · have h2 : (vec n fun _ => c)[i]? = none := by rw [List.getElem?_eq_none_iff, vec_len]; omega
    rw [h2, if_neg hi]; rfl
theorem ints_at {ns : List Int} {k : Int} {v : Int} (h0 : 0 ≤ k) (h : ns[k.toNat]? = some v) : atI (ns.map V.int) k = some (.int v) := atI_lt h0 (by rw [List.getElem?_map, h]; rfl)
theorem vec_at {n : Nat} {f : Nat → Int} {k : Int} (h0 : 0 ≤ k) (h : k < n) : atI ((vec n f).map V.int) k = some (.int (f k.toNat)) := ints_at h0 (vec_get (by omega))
theorem ints_set {ns : List Int} {j : Nat} {v : Int} : (ns.map V.int).set j (.int v) = (ns.set j v).map V.int := by rw [List.map_set]
theorem vec_put {n j : Nat} {f : Nat → Int} {v : Int} : ((vec n f).map V.int).set j (.int v) = (vec n (fun i => if i = j then v else f i)).map V.int := by rw [ints_set, vec_set]
theorem ixN_vec {n : Nat} {f : Nat → Int} {k : Int} (h0 : 0 ≤ k) (h : k < n) : ixN ((vec n f).map V.int).length k = some k.toNat := by
  rw [List.length_map, vec_len]; exact ixN_lt h0 h
theorem rep_ints {K : PySem.W.Frag} {H : Hp} : ∀ ns : List Int, RepAll K H (ns.map V.int) (ns.map PyData.int)
  | [] => .nil
  | n :: ns => .cons (.int n) (rep_ints ns)
theorem depth_ints : ∀ ns : List Int, PyData.depthAll (ns.map PyData.int) = 0
  | [] => by simp [PyData.depthAll]
  | n :: ns => by rw [List.map_cons, PyData.depthAll, depth_ints ns]; simp [PyData.depth]
theorem lay_ints : ∀ ns : List Int, PyData.canLayAll0 (ns.map PyData.int) = true
  | [] => by simp [PyData.canLayAll0]
  | n :: ns => by rw [List.map_cons, PyData.canLayAll0, lay_ints ns]; simp [PyData.canLay0]
theorem depth_list {ds : List PyData} : (PyData.list ds).depth = PyData.depthAll ds + 1 := by simp [PyData.depth]; try omega
section
variable {H : Hp} {Q : VK} {K : PySem.W.Frag}
theorem eqv_intsT {ns ms : List Int} (h : ns = ms) : PyData.eqv (.list (ns.map PyData.int)) (.list (ms.map PyData.int)) = true := by
  subst h; exact PySem.SeqAt.eqv_refl _ (by rw [PyData.canLay0]; exact lay_ints ns)
theorem x_eqInts {a b : Addr} {ns ms : List Int} (h1 : SqL K H a (ns.map V.int)) (h2 : SqL K H b (ms.map V.int)) (e : ns = ms) (q : Q (.bl true) H) : rEqU K (.ref a) (.ref b) H Q :=
  x_eqD (.lst h1 (rep_ints ns)) (.lst h2 (rep_ints ms)) (by rw [depth_list, depth_ints]; omega) (by rw [eqv_intsT e]; exact q)
theorem x_neInts {a b : Addr} {ns ms : List Int} (h1 : SqL K H a (ns.map V.int)) (h2 : SqL K H b (ms.map V.int)) (e : ns = ms) (q : Q (.bl false) H) : rNeU K (.ref a) (.ref b) H Q :=
  x_neD (.lst h1 (rep_ints ns)) (.lst h2 (rep_ints ms)) (by rw [depth_list, depth_ints]; omega) (by rw [eqv_intsT e]; exact q)
end
end Internal

set_option Elab.async false
set_option linter.all false
set_option maxRecDepth 100000
namespace Internal
open PySem PySem.Spec PyProof.Rows
section
variable {σ : St} {H : Hp} {Q : VK} {D : Ends} {K : PySem.W.Frag}
theorem x_getVec {l : Addr} {n : Nat} {f : Nat → Int} {k : Int} (h : H l = some (.lst ((vec n f).map V.int))) (h0 : 0 ≤ k) (h1 : k < n) (q : Q (.int (f k.toNat)) H) : rIxL K (.ref l) (.int k) H Q := x_getL (.of h) (vec_at h0 h1) q
theorem x_ixVec {l : Addr} {n : Nat} {f : Nat → Int} {k : Int} (h : H l = some (.lst ((vec n f).map V.int))) (h0 : 0 ≤ k) (h1 : k < n) (q : Q (.int (f k.toNat)) H) : rIx K (.ref l) (.int k) H Q := x_ixLs h (vec_at h0 h1) q
theorem x_setVec {l : Addr} {n : Nat} {f : Nat → Int} {k v : Int} {R : Hp → Prop} (h : H l = some (.lst ((vec n f).map V.int))) (h0 : 0 ≤ k) (h1 : k < n)
    (q : ∀ H', LBut l H H' → H' l = some (.lst ((vec n fun i => if i = k.toNat then v else f i).map V.int)) → R H') : rSetL (.ref l) (.int k) (.int v) H R := by
  refine x_setN h (ixN_vec h0 h1) fun H' b e => q H' b ?_
  rw [e, vec_put]
theorem x_ixTs {a : Addr} {xs : List V} {i : Int} {v : V} (h : H a = some (.tup xs)) (e : atI xs i = some v) (q : Q v H) : rIx K (.ref a) (.int i) H Q := x_ixT (.of h) e q
theorem x_repVec {l : Addr} {c k : Int} (h : H l = some (.lst [.int c])) (h0 : 0 ≤ k) (h1 : k ≤ 100000) (q : ∀ p H', H p = none → Same H H' → H' p = some (.lst ((vec k.toNat fun _ => c).map V.int)) → Q (.ref p) H') : rMulU (.ref l) (.int k) H Q :=
  x_rep0 h h0 h1 fun p H' a b c => q p H' a b (by rw [c, vec_rep])
theorem CompN.int {Sv : St → Prop} {D : Addr} {i : Nat} {σ' : St} {H6 : Hp} {f : Nat → Int} {v : Int} (sv : Sv σ') (e : Same H H6) (h : H6 D = some (.lst ((vec i f).map V.int ++ [.int v]))) (hv : v = f i) : CompN H Sv (fun i vs _ => vs = (vec i f).map V.int) D (i + 1) σ' H6 :=
  ⟨sv, e, _, h, by simp [vec_len], by show _ ++ [V.int v] = List.map V.int (vec (i + 1) f); rw [hv, vec_succ, List.map_append]; rfl⟩
end
theorem x_comp0 {H : Hp} {Q : VK} {σ : St} {lo : Int} {n : Nat} {caps : List (Option Nat)} {c : Int} {rest : St} (hc : capSt caps σ = none :: rest) (hn : n ≤ 100000) (q : ∀ p H', H p = none → Same H H' → H' p = some (.lst ((vec n fun _ => c).map V.int)) → Q (.ref p) H') : CompK (Itr lo n) caps (gName 0) tYes (tC (.int c)) σ Q H := by
  refine x_compS1 src_range (fun _ _ => trivial) hc (fun i vs _ => vs = (vec i fun _ => c).map V.int) (fun _ _ => rfl) ?_ ?_
  · rintro i x D vs o H' H2 hi hD e hv hvl rfl e2 rfl
    refine x_gName (x_yes (x_iteT (x_c (x_appN (e2.at hv) (by omega) fun H6 b h6 => ?_))))
    exact CompN.int ⟨_, rfl⟩ (b.same (e.trans e2) hD) h6 rfl
  · rintro D H' vs hD e hv hvl rfl
    exact q D H' hD e hv
set_option genInjectivity false in
set_option genSizeOf false in
structure Due where
  p : Int
  q : Int
  r : Int
  a : Int
noncomputable def dueV (d : Due) : List V := [.int d.p, .int d.q, .int d.r, .int d.a]
noncomputable def dueD (d : Due) : List PyData := [.int d.p, .int d.q, .int d.r, .int d.a]
noncomputable def IsSh (K : PySem.W.Frag) (H : Hp) (a : Addr) (ds : List Due) : Prop := ∃ vs, SqL K H a vs ∧ IsTs dueV H vs ds
theorem IsSh.same {K : PySem.W.Frag} {H H' : Hp} {a : Addr} {ds : List Due} (h : IsSh K H a ds) (e : Same H H') : IsSh K H' a ds := by
  obtain ⟨vs, h1, h2⟩ := h; exact ⟨vs, e.seq h1, h2.same e⟩
theorem Same.isSh {K : PySem.W.Frag} {H H' : Hp} {a : Addr} {ds : List Due} (e : Same H H') (h : IsSh K H a ds) : IsSh K H' a ds := h.same e
theorem IsSh.of {K : PySem.W.Frag} {H : Hp} {a : Addr} {vs : List V} {ds : List Due} (h : H a = some (.lst vs)) (t : IsTs dueV H vs ds) : IsSh K H a ds := ⟨vs, .of h, t⟩
theorem dues_rep {K : PySem.W.Frag} {H : Hp} {vs : List V} {ds : List Due} (h : IsTs dueV H vs ds) : RepAll K H vs (ds.map fun d => .tuple (dueD d)) :=
  h.rep fun d => .cons (.int _) (.cons (.int _) (.cons (.int _) (.cons (.int _) .nil)))
theorem depth_due (d : Due) : (PyData.tuple (dueD d)).depth = 1 := by simp [dueD, PyData.depth, PyData.depthAll]
theorem depth_dues : ∀ ds : List Due, PyData.depthAll (ds.map fun d => .tuple (dueD d)) ≤ 1
  | [] => by simp [PyData.depthAll]
  | d :: ds => by
    have := depth_dues ds
    rw [List.map_cons, PyData.depthAll, depth_due]
    omega
theorem lay_dues : ∀ ds : List Due, PyData.canLayAll0 (ds.map fun d => .tuple (dueD d)) = true
  | [] => by simp [PyData.canLayAll0]
  | d :: ds => by rw [List.map_cons, PyData.canLayAll0, lay_dues ds]; simp [dueD, PyData.canLay0, PyData.canLayAll0]
theorem x_neSh {K : PySem.W.Frag} {H : Hp} {Q : VK} {a b : Addr} {ds es : List Due} (h1 : IsSh K H a ds) (h2 : IsSh K H b es) (e : ds = es) (q : Q (.bl false) H) : rNeU K (.ref a) (.ref b) H Q := by
  subst e
  obtain ⟨vs, s1, t1⟩ := h1
  obtain ⟨ws, s2, t2⟩ := h2
  refine x_neD (.lst s1 (dues_rep t1)) (.lst s2 (dues_rep t2)) (by have := depth_dues ds; rw [depth_list]; omega) ?_
  rw [PySem.SeqAt.eqv_refl _ (by rw [PyData.canLay0]; exact lay_dues ds)]
  exact q
theorem take_snoc {α : Type} {xs : List α} {i : Nat} {x : α} (h : xs[i]? = some x) : xs.take (i + 1) = xs.take i ++ [x] := by
  obtain ⟨hi, rfl⟩ := List.getElem?_eq_some_iff.mp h
  exact List.take_succ_eq_append_getElem hi
section
variable {K : PySem.W.Frag} {H : Hp} {Q : VK} {E : XK} {n : Int} {a : Addr} {ds : List Due}
end
end Internal

set_option Elab.async false
set_option linter.all false
set_option maxRecDepth 100000
namespace Internal
open PySem PySem.Spec PyProof.Rows
noncomputable def Rows (H : Hp) (as : List Addr) (k : Nat) (F : Nat → Nat → Int) : Prop := as.Nodup ∧ ∀ i a, as[i]? = some a → H a = some (.lst ((vec k (F i)).map V.int))
section
variable {H H' : Hp} {as bs : List Addr} {k : Nat} {F G : Nat → Nat → Int} {K : PySem.W.Frag} {Q : VK}
theorem nodup_get {i j : Nat} {a : Addr} (n : as.Nodup) (h : as[i]? = some a) (h' : as[j]? = some a) : i = j := by
  obtain ⟨hi, e⟩ := List.getElem?_eq_some_iff.mp h
  obtain ⟨hj, e'⟩ := List.getElem?_eq_some_iff.mp h'
  exact (List.getElem_inj n).mp (e.trans e'.symm)
theorem x_ixRow {l a : Addr} {p : Int} (h : H l = some (.lst (as.map V.ref))) (h0 : 0 ≤ p) (e : as[p.toNat]? = some a) (q : Q (.ref a) H) : rIx K (.ref l) (.int p) H Q := x_ixLs h (atI_lt h0 (by rw [List.getElem?_map, e]; rfl)) q
end
end Internal

set_option linter.all false
namespace My
section
variable (ch : Nat → Bool) (x : Nat → Int) (L : Int)
noncomputable def rest : Nat → Int
  | 0 => L
  | i + 1 => if ch i = true ∧ rest i > 0 then rest i - 1 else rest i
noncomputable def more (i : Nat) : Int := if ch i = true ∧ rest ch L i > 0 then x i + 1 else x i
variable {ch x L}
end
end My

set_option Elab.async false
set_option linter.all false
set_option maxRecDepth 100000
namespace Internal
open PySem PySem.Spec PyProof.Rows
end Internal

set_option Elab.async false
set_option linter.all false
set_option maxRecDepth 100000
namespace Internal
open PySem PySem.Spec PyProof.Rows
end Internal

set_option Elab.async false
set_option linter.all false
set_option maxRecDepth 100000
namespace Internal
open PySem PySem.Spec PyProof.Rows
theorem BT.range : bootBuiltins "range" = some (.type "range") := by decide +kernel
section
variable {X : Cx}
noncomputable def rRange : List V → Hp → VK → Prop := fun vs H Q => ∃ j : Int, vs = [.int j] ∧ ∀ p, H p = none → Q (.ref p) (upd H p (.rng 0 j))
theorem call_rangeV : CallR X (.type "range") rRange := by
  intro pins s σ H xs us Q I r h
  obtain ⟨j, rfl, q⟩ := h
  obtain ⟨u, rfl, t, rfl⟩ := vals1 r
  refine call_range_1 ?_
  have J : Inv X pins σ (upd H s.heap.objs.size (.rng 0 j)) { s with heap := s.heap.push { cls := .type "range", data := .fields #[.int 0 s.toks, .int j t, .int 1 (s.toks + 1)] }, toks := s.toks + 1 + 1 } := I.laid (fun b o e => Heap.get?_push_of_some _ e) (Nat.le_refl _) ⟨_, _, _, Heap.get?_push_size _ rfl⟩
  exact ⟨.ref s.heap.objs.size, _, J, rfl, q _ (I.hok.fresh (Nat.le_refl _))⟩
theorem vec_cons {n : Nat} {f : Nat → Int} : vec (n + 1) f = f 0 :: vec n fun i => f (i + 1) := by unfold vec; rw [List.range_succ_eq_map, List.map_cons, List.map_map]; rfl
theorem vals_of : ∀ {us : List Value} {f : Nat → Int}, (∀ (i : Nat) (v : Value), us[i]? = some v → ∃ t, v = Value.int (f i) t) → Vals ((vec us.length f).map V.int) us
  | [], f, _ => .nil
  | u :: us, f, h => by
    rw [List.length_cons, vec_cons, List.map_cons]
    exact .cons (h 0 u rfl) (vals_of fun i v e => h (i + 1) v e)
noncomputable def rListRng : List V → Hp → VK → Prop := fun vs H Q => ∃ (p : Addr) (j : Int), vs = [.ref p] ∧ H p = some (.rng 0 j) ∧ 0 ≤ j ∧ j ≤ 100000 ∧ ∀ l, H l = none → Q (.ref l) (upd H l (.lst ((vec j.toNat fun i => (i : Int)).map V.int)))
theorem call_list_rng (hc : X.calm = true) : CallR X (.type "list") rListRng := by
  intro pins s σ H xs us Q I r h
  obtain ⟨p, j, rfl, hp, j0, j1, q⟩ := h
  obtain ⟨u, rfl, r1⟩ := vals1 r
  cases r1
  obtain ⟨t, u, v, e⟩ := I.hok p _ hp
  refine call_list_range (n := j.toNat) (I.ok.hd hc) (a := 0) (b := j) (c := 1) (t := t) (u := u) (v := v) e (small_one (by omega) (by omega) (by omega) (by omega)) (by rw [rangeSize_one]; split <;> omega) (by omega) fun h' tk acc c' k e' it => ?_
  have hv : Vals ((vec j.toNat fun i => (i : Int)).map V.int) acc.toList := by
    have := vals_of (us := acc.toList) (f := fun i => (i : Int)) fun i v hv => by
      obtain ⟨t', h'⟩ := it.2 i v (by simpa using hv)
      exact ⟨t', by rw [h']; congr 1; omega⟩
    rw [show acc.toList.length = j.toNat by simpa using it.1] at this
    exact this
  have J : Inv X pins σ (upd H s.heap.objs.size (.lst ((vec j.toNat fun i => (i : Int)).map V.int))) { s with heap := h', toks := tk } := I.laid k (Nat.le_refl _) ⟨by rw [List.length_map, vec_len]; exact small_le (by omega), acc.toList, c', hv, e'⟩
  exact ⟨.ref s.heap.objs.size, _, J, rfl, q _ (I.hok.fresh (Nat.le_refl _))⟩
end
section
variable {H : Hp} {Q : VK} {K : PySem.W.Frag}
theorem x_rangeN {j : Int} (q : ∀ p H', H p = none → Same H H' → H' p = some (.rng 0 j) → Q (.ref p) H') : rRange [.int j] H Q := ⟨j, rfl, fun p hp => q p _ hp (Same.new hp _) upd_same⟩
theorem x_listRng {p : Addr} {j : Int} (h : H p = some (.rng 0 j)) (j0 : 0 ≤ j) (j1 : j ≤ 100000) (q : ∀ l H', H l = none → Same H H' → H' l = some (.lst ((vec j.toNat fun i => (i : Int)).map V.int)) → Q (.ref l) H') : rListRng [.ref p] H Q := ⟨p, j, rfl, h, j0, j1, fun l hl => q l _ hl (Same.new hl _) upd_same⟩
end
noncomputable def useful (g : Nat → Bool) (m : Nat) (d : Due) : Prop := d.p = (m : Int) ∧ 0 < d.a ∧ g d.p.toNat = true ∧ g d.q.toNat = true
noncomputable instance {g : Nat → Bool} {m : Nat} {d : Due} : Decidable (useful g m d) := by unfold useful; infer_instance
set_option genInjectivity false in
set_option genSizeOf false in
structure Lined (n : Nat) (ds : List Due) (ls : List Int) : Prop where
  nd : ls.Nodup
  lt : ∀ x ∈ ls, 0 ≤ x ∧ x < n
  up : ∀ d ∈ ds, 0 < d.a → ∀ j : Nat, ls[j]? = some d.q → ∃ i : Nat, i < j ∧ ls[i]? = some d.p
end Internal

set_option Elab.async false
set_option linter.all false
set_option maxRecDepth 100000
namespace Internal
open PySem PySem.Spec PyProof.Rows
section
variable {K : PySem.W.Frag} {σ : St} {H : Hp} {Q : VK} {D : Ends} {a C dx : Addr} {fs : List (Str × V)} {f m : Str}
noncomputable def rFld (K : PySem.W.Frag) (f : Str) (Q : VK) (x : V) (H : Hp) : Prop := ∃ a C dx fs v, x = .ref a ∧ H a = some (.ins C dx fs) ∧ Cls K C ∧ NoAttr K C f ∧ fs.lookup f = some v ∧ Q v H
theorem x_fld {ta : TE} (q : ta σ H (rFld K f Q)) : tFld K ta f σ H Q := q
theorem x_fldk {v : V} (h : H a = some (.ins C dx fs)) (c : Cls K C) (n : NoAttr K C f) (l : fs.lookup f = some v) (q : Q v H) : rFld K f Q (.ref a) H := ⟨a, C, dx, fs, v, rfl, h, c, n, l, q⟩
noncomputable def rSFld (K : PySem.W.Frag) (f : Str) (R : Hp → Prop) (y x : V) (H : Hp) : Prop := ∃ a C dx fs, x = .ref a ∧ H a = some (.ins C dx fs) ∧ Cls K C ∧ NoAttr K C f ∧ fs.length < 1000 ∧ R (upd H a (.ins C dx (putF f y fs)))
theorem x_sfld {ta tv : TE} (q : tv σ H fun y H1 => ta σ H1 (rSFld K f (D.nx σ) y)) : sFld K ta tv f D σ H := q
theorem x_sfldk {R : Hp → Prop} {y : V} (h : H a = some (.ins C dx fs)) (c : Cls K C) (n : NoAttr K C f) (hl : fs.length < 1000) (q : ∀ H', But a H H' → H' a = some (.ins C dx (putF f y fs)) → R H') : rSFld K f R y (.ref a) H :=
  ⟨a, C, dx, fs, rfl, h, c, n, hl, q _ But.upd upd_same⟩
noncomputable def rMeth (C : Addr) (m : Str) (sp : Sp) (E : XK) (t : TA) (σ : St) (Q : VK) (x : V) (H : Hp) : Prop := ∃ a dx fs, x = .ref a ∧ H a = some (.ins C dx fs) ∧ fs.lookup m = none ∧ t σ H fun vs H2 => sp (x :: (vs ++ [])) H2 Q E
theorem x_meth {sp : Sp} {E : XK} {ta : TE} {t : TA} (q : ta σ H (rMeth C m sp E t σ Q)) : tMeth C m sp [] E ta t σ H Q := q
theorem x_methk {sp : Sp} {E : XK} {t : TA} (h : H a = some (.ins C dx fs)) (l : fs.lookup m = none) (q : t σ H fun vs H2 => sp (.ref a :: vs) H2 Q E) : rMeth C m sp E t σ Q (.ref a) H := by
  refine ⟨a, dx, fs, rfl, h, l, ?_⟩
  simp only [List.append_nil]
  exact q
noncomputable def rMake (C : Addr) (sp : Sp) (E : XK) (Q : VK) (vs : List V) (H1 : Hp) : Prop := ∀ x dx, H1 x = none → H1 dx = none → dx ≠ x → sp (.ref x :: (vs ++ [])) (upd (upd H1 dx (.own x)) x (.ins C dx [])) (fun v H2 => v = .non ∧ Q (.ref x) H2) E
theorem x_make {sp : Sp} {E : XK} {t : TA} (q : t σ H (rMake C sp E Q)) : tMake C sp [] E t σ H Q := q
theorem x_makek {sp : Sp} {E : XK} {vs : List V} (q : ∀ x dx H', H x = none → Same H H' → H' x = some (.ins C dx []) → sp (.ref x :: vs) H' (fun v H2 => v = .non ∧ Q (.ref x) H2) E) : rMake C sp E Q vs H := fun x dx hx hd ne => by
  rw [List.append_nil]
  exact q x dx _ hx ((Same.new hd _).trans (Same.new (by rw [upd_ne ne.symm]; exact hx) _)) upd_same
end
noncomputable def rMethR (C : Addr) (m : Str) (sp : Sp) (t : TA) (σ : St) (Q : VK) (Eh : Addr → Hp → Prop) (x : V) (H : Hp) : Prop := ∃ a dx fs, x = .ref a ∧ H a = some (.ins C dx fs) ∧ fs.lookup m = none ∧ t σ H fun vs H2 => sp (x :: vs) H2 Q fun cls _ H3 => ∃ C', cls = .ref C' ∧ Eh C' H3
noncomputable abbrev tMethR (C : Addr) (m : Str) (sp : Sp) (ta : TE) (t : TA) : TEr := fun σ H Q Eh => ta σ H (rMethR C m sp t σ Q Eh)
theorem src_tup {K : PySem.W.Frag} {a : Addr} {xs : List V} : Src (Itt K a) (fun H => SqT K H a xs) xs.length (fun i x _ => xs[i]? = some x) :=
  ⟨fun i H h hi => by obtain ⟨x, hx⟩ := lt_some hi; exact ⟨xs, x, h, hx⟩, fun H h => ⟨xs, h, Nat.le_refl _⟩, fun i H x H' h hi ⟨q, r⟩ => by subst q; exact ⟨Same.refl _, r xs h⟩⟩
noncomputable def rItT (K : PySem.W.Frag) (R : It → Hp → Prop) (x : V) (H : Hp) : Prop := ∃ a, x = .ref a ∧ (∃ xs, SqT K H a xs) ∧ R (Itt K a) H
theorem x_itT {K : PySem.W.Frag} {σ : St} {H : Hp} {R : It → Hp → Prop} {tl : TE} (q : tl σ H (rItT K R)) : iTup K tl σ H R := q
theorem x_itTk {K : PySem.W.Frag} {H : Hp} {R : It → Hp → Prop} {a : Addr} {xs : List V} (h : SqT K H a xs) (q : R (Itt K a) H) : rItT K R (.ref a) H := ⟨a, rfl, ⟨xs, h⟩, q⟩
theorem x_cutT {K : PySem.W.Frag} {H : Hp} {Q : VK} {a : Addr} {xs : List V} {lo hi : Option Int} (h : H a = some (.tup xs)) (hw : ¬ (HT.sIx xs.length 0 lo = 0 ∧ HT.sIx xs.length xs.length hi = xs.length)) (q : ∀ p H', H p = none → Same H H' → H' p = some (.tup (cutV xs lo hi)) → Q (.ref p) H') : rSlT K (.ref a) lo hi H Q :=
  ⟨a, xs, rfl, .of h, hw, fun p hp => q p _ hp (Same.new hp _) upd_same⟩
theorem x_catT {K : PySem.W.Frag} {H : Hp} {Q : VK} {a b : Addr} {xs ys : List V} (h : H a = some (.tup xs)) (h' : H b = some (.tup ys)) (hx : xs ≠ []) (hy : ys ≠ []) (hz : xs.length + ys.length ≤ 100000) (q : ∀ p H', H p = none → Same H H' → H' p = some (.tup (xs ++ ys)) → Q (.ref p) H') : rAddU K (.ref a) (.ref b) H Q :=
  .inr (.inr ⟨a, b, xs, ys, rfl, rfl, .of h, .of h', hx, small_le hz, fun z => absurd z hy, fun _ p hp => q p _ hp (Same.new hp _) upd_same⟩)
theorem x_eqS {K : PySem.W.Frag} {H : Hp} {Q : VK} {x y : Str} (q : Q (.bl (decide (x = y))) H) : rEqU K (.str x) (.str y) H Q := .inr ⟨rfl, by rw [show decide (V.str x = V.str y) = decide (x = y) by simp]; exact q⟩
theorem x_neS {K : PySem.W.Frag} {H : Hp} {Q : VK} {x y : Str} (q : Q (.bl (!decide (x = y))) H) : rNeU K (.str x) (.str y) H Q := .inr ⟨rfl, by rw [show decide (V.str x = V.str y) = decide (x = y) by simp]; exact q⟩
noncomputable def rSortedR (K : PySem.W.Frag) (vs : List V) (H : Hp) (Q : VK) : Prop := ∃ (a : Addr) (ns : List Int), vs = [.ref a] ∧ SqL K H a (ns.map V.int) ∧ ns.length < 64 ∧ ∀ l ms, H l = none → List.Perm ms ns → ms.Pairwise (· ≥ ·) → Q (.ref l) (upd H l (.lst (ms.map V.int)))
theorem pe_sortedR {X : Cx} {p pos kp cp : Pos} {e : Expr} {ta : TA} (hg : Gl X "sorted") (hm : X.mg "sorted" = none) (hv : bootBuiltins "sorted" = some (.builtin "sorted")) (ha : PA X [e] ta) (he : autoParam (backTo pos (starEach [e] X.env) = (false, eval e X.env) :: backTo pos (starEach [] X.env)) Internal.aut2._auto_1)
    (hplain : autoParam ((backTo pos (starEach [e] X.env)).any (·.1) = false) Internal.aut2._auto_1) {kn : Nat} : PE X (.Call (.Name "sorted" p) [e] [⟨some "reverse", .Constant (.bool true) kn cp, kp⟩] pos) (tCB (rSortedR X.K) ta) := by
  intro pins s σ H Q I h
  refine wpAny_Call_Name_kw (ld_blt I hg hm hv ?_ (by decide) (by decide))
  refine PyProof.Rows.callWith_kw ?_ he hplain
  refine thn (ha pos pins s σ H _ I h) fun us s1 zz => ?_
  obtain ⟨vs, H1, I1, r, q⟩ := zz
  obtain ⟨a, ns, rfl, hq, hl, q⟩ := q
  obtain ⟨u, rfl, r1⟩ := vals1 r
  cases r1
  refine thn (pk_cons (t := tNil) (nm := some "reverse") (kpos := kp) (pe_bl (X := X)) pk_nil pos pins s1 σ H1 (fun ws H2 => ws = [.bl true] ∧ H2 = H1) I1 ⟨rfl, rfl⟩) fun kvs s2 zz => ?_
  obtain ⟨ws, H2, I2, rw2, e1, e2⟩ := zz
  subst e1; subst e2
  obtain ⟨u2, rfl, r3⟩ := vals1 rw2
  cases (show u2 = Value.bool true from r3)
  obtain ⟨its, rv, pl, hil, hlt⟩ := I2.walk hq
  rw [List.length_map] at hil
  refine sorted_ints_rev (vs := its) (b := true) pl (intsAre_of rv) (by omega) fun out ms hI hp hs => ?_
  obtain ⟨e, he⟩ := sortedAll_at s2.heap its out
  have hv := vals_ints hI
  have hml : ms.length = ns.length := hp.length_eq
  have J : Inv X pins σ (upd H2 (s2.heap.objs.size + 1) (.lst (ms.map V.int))) { s2 with heap := sortedAll s2.heap its out, toks := s2.toks } := I2.laid (fun b o z => sortedAll_old z) (Nat.le_succ _) ⟨by rw [List.length_map]; exact small_le (by omega), out.toList, e, hv, he⟩
  exact ⟨.ref (s2.heap.objs.size + 1), _, J, rfl, q _ ms (I2.hok.fresh (Nat.le_succ _)) hp hs⟩
theorem x_sortR {K : PySem.W.Frag} {H : Hp} {Q : VK} {a : Addr} {ns : List Int} (h : SqL K H a (ns.map V.int)) (hl : ns.length < 64) (q : ∀ l ms H', H l = none → Same H H' → List.Perm ms ns → ms.Pairwise (· ≥ ·) → H' l = some (.lst (ms.map V.int)) → Q (.ref l) H') : rSortedR K [.ref a] H Q :=
  ⟨a, ns, rfl, h, hl, fun l ms hn p s => q l ms _ hn (Same.new hn _) p s upd_same⟩
end Internal

set_option Elab.async false
set_option linter.all false
set_option maxRecDepth 100000
namespace Internal
open PySem PySem.Spec PyProof.Rows
noncomputable def bfl (m w y : Int) (d : Addr) : List (Str × V) := putF "deals" (.ref d) (putF "day" (.int y) (putF "wares" (.int w) (putF "many" (.int m) [])))
section
variable {m w y : Int} {d : Addr}
theorem bfl_deals : (bfl m w y d).lookup ("deals" : Str) = some (.ref d) := by unfold bfl; rw [lookup_putF, if_pos rfl]
theorem bfl_day : (bfl m w y d).lookup ("day" : Str) = some (.int y) := by unfold bfl; rw [lookup_putF, if_neg (by decide +kernel), lookup_putF, if_pos rfl]
theorem bfl_wares : (bfl m w y d).lookup ("wares" : Str) = some (.int w) := by unfold bfl; rw [lookup_putF, if_neg (by decide +kernel), lookup_putF, if_neg (by decide +kernel), lookup_putF, if_pos rfl]
theorem bfl_many : (bfl m w y d).lookup ("many" : Str) = some (.int m) := by unfold bfl; rw [lookup_putF, if_neg (by decide +kernel), lookup_putF, if_neg (by decide +kernel), lookup_putF, if_neg (by decide +kernel), lookup_putF, if_pos rfl]
theorem bfl_no {n : Str} (h1 : ¬ n = "deals") (h2 : ¬ n = "day") (h3 : ¬ n = "wares") (h4 : ¬ n = "many") : (bfl m w y d).lookup n = none := by
  unfold bfl
  rw [lookup_putF, if_neg h1, lookup_putF, if_neg h2, lookup_putF, if_neg h3, lookup_putF, if_neg h4]
  rfl
end
set_option genInjectivity false in
set_option genSizeOf false in
structure T7 where
  p : Int
  q : Int
  w : Int
  u : Int
  a : Int
  y : Int
  r : Int
noncomputable def termV (t : T7) : List V := [.int t.p, .int t.q, .int t.w, .int t.u, .int t.a, .int t.y, .int t.r]
noncomputable def dealV (x : T7 × Str) : List V := termV x.1 ++ [.str x.2]
set_option genInjectivity false in
set_option genSizeOf false in
structure TermOk (m w y : Int) (t : T7) : Prop where
  p0 : 0 ≤ t.p
  p1 : t.p < m
  q0 : 0 ≤ t.q
  q1 : t.q < m
  pq : t.p ≠ t.q
  w0 : 0 ≤ t.w
  w1 : t.w < w
  u0 : 1 ≤ t.u
  u1 : t.u ≤ 1000000
  a0 : 1 ≤ t.a
  a1 : t.a ≤ 1000000000
  y0 : 0 ≤ t.y
  y1 : t.y ≤ 1000000
  r0 : 0 ≤ t.r
  r1 : t.r ≤ 2
  yd : y ≤ t.y
noncomputable def ButL (d : Addr) (H H' : Hp) : Prop := (∀ b o, b ≠ d → H b = some o → H' b = some o) ∧ ∃ xs, H d = some (.lst xs)
theorem ButL.at {d : Addr} {H H' : Hp} (g : ButL d H H') {a : Addr} {o : HO} (h : H a = some o) (n : a ≠ d) : H' a = some o := g.1 a o n h
theorem ButL.of {d : Addr} {H H1 H2 : Hp} {xs : List V} (h : H d = some (.lst xs)) (e : Same H H1) (g : LBut d H1 H2) : ButL d H H2 := ⟨fun b o n q => g.1.at (e b o q) n, xs, h⟩
set_option genInjectivity false in
set_option genSizeOf false in
structure Bk (C : Addr) (H : Hp) (b d : Addr) (m w y : Int) (ts : List (T7 × Str)) : Prop where
  ob : ∃ dx, H b = some (.ins C dx (bfl m w y d))
  ds : ∃ xs, H d = some (.lst xs) ∧ IsTs dealV H xs ts
section
variable {C : Addr} {H H' : Hp} {b d : Addr} {m w y : Int} {ts : List (T7 × Str)}
theorem Bk.same (h : Bk C H b d m w y ts) (e : Same H H') : Bk C H' b d m w y ts := by
  obtain ⟨⟨dx, h1⟩, xs, h2, h3⟩ := h
  exact ⟨⟨dx, e.at h1⟩, xs, e.at h2, h3.same e⟩
theorem LBut.ins {l : Addr} (g : LBut l H H') {a C dx : Addr} {fs : List (Str × V)} (h : H a = some (.ins C dx fs)) : H' a = some (.ins C dx fs) := by
  obtain ⟨ys, e⟩ := g.2
  exact g.1.at h (ne_of h e (by intro z; cases z))
theorem Bk.but {l : Addr} (h : Bk C H b d m w y ts) (g : LBut l H H') (n : d ≠ l) : Bk C H' b d m w y ts := by
  obtain ⟨⟨dx, h1⟩, xs, h2, h3⟩ := h
  exact ⟨⟨dx, g.ins h1⟩, xs, g.lst h2 n, LBut.isTs g h3⟩
theorem Bk.app {H1 H2 : Hp} {t : T7 × Str} {a : Addr} {xs : List V} (h : Bk C H b d m w y ts) (hx : H d = some (.lst xs)) (e : Same H H1) (ha : H1 a = some (.tup (dealV t))) (g : LBut d H1 H2) (h2 : H2 d = some (.lst (xs ++ [.ref a]))) : Bk C H2 b d m w y (ts ++ [t]) := by
  obtain ⟨⟨dx, h1⟩, ys, h3, h4⟩ := h
  rw [hx] at h3; cases h3
  exact ⟨⟨dx, g.ins (e.at h1)⟩, _, h2, IsTs.app (f := dealV) (g.tup ha) (LBut.isTs g (h4.same e))⟩
end
noncomputable def spBInit (C : Addr) : Sp := fun vs H Q _ => ∃ (p dx : Addr) (m w : Int), vs = [.ref p, .int m, .int w] ∧ H p = some (.ins C dx []) ∧ ∀ d H', H d = none → (∀ b o, b ≠ p → H b = some o → H' b = some o) → H' p = some (.ins C dx (bfl m w 0 d)) → H' d = some (.lst []) → Q .non H'
noncomputable def spDealX (C CE : Addr) : Sp := fun vs H Q E => ∃ (b dx d : Addr) (m w y n : Int) (xs : List V), vs = [.ref b, .int n] ∧ H b = some (.ins C dx (bfl m w y d)) ∧ H d = some (.lst xs) ∧ ((0 ≤ n ∧ ∃ v, xs[n.toNat]? = some v ∧ Q v H) ∨ (¬ (0 ≤ n ∧ n < xs.length) ∧ E (.ref CE) none H))
noncomputable def spCellB (K : PySem.W.Frag) : Sp := fun vs H Q _ => ∃ (a : Addr) (ns : List Int) (k : Int), vs = [.ref a, .int k] ∧ SqL K H a (ns.map V.int) ∧ 0 ≤ k ∧ ∀ x, Q (.int x) H
theorem spCellB_i {K : PySem.W.Frag} {a : Addr} {ns : List Int} {k : Int} {H : Hp} {Q : VK} {E : XK} (hS : SqL K H a (ns.map V.int)) (h0 : 0 ≤ k) (q : ∀ x, Q (.int x) H) : spCellB K [.ref a, .int k] H Q E := ⟨a, ns, k, rfl, hS, h0, q⟩
noncomputable def spDrawB (K : PySem.W.Frag) : Sp := fun vs H Q _ => ∃ (a : Addr) (ns : List Int) (k n : Int), vs = [.ref a, .int k, .int n] ∧ SqL K H a (ns.map V.int) ∧ 0 ≤ k ∧ k ≤ 5000 ∧ 1 ≤ n ∧ ∀ x, 0 ≤ x → x < n → Q (.int x) H
theorem spDrawB_i {K : PySem.W.Frag} {a : Addr} {ns : List Int} {k n : Int} {H : Hp} {Q : VK} {E : XK} (hS : SqL K H a (ns.map V.int)) (h0 : 0 ≤ k) (h1 : k ≤ 5000) (n0 : 1 ≤ n) (q : ∀ x, 0 ≤ x → x < n → Q (.int x) H) : spDrawB K [.ref a, .int k, .int n] H Q E := ⟨a, ns, k, n, rfl, hS, h0, h1, n0, q⟩
noncomputable def spGreatB (K : PySem.W.Frag) : Sp := fun vs H Q _ => ∃ (a : Addr) (ns : List Int) (k n : Int), vs = [.ref a, .int k, .int n] ∧ SqL K H a (ns.map V.int) ∧ 0 ≤ k ∧ k ≤ 5000 ∧ 1 ≤ n ∧ n ≤ 1000000000000000000000000000000000000000000000000000 ∧ ∀ x, 0 ≤ x → x < n → Q (.int x) H
theorem spGreatB_i {K : PySem.W.Frag} {a : Addr} {ns : List Int} {k n : Int} {H : Hp} {Q : VK} {E : XK} (hS : SqL K H a (ns.map V.int)) (h0 : 0 ≤ k) (h1 : k ≤ 5000) (n0 : 1 ≤ n) (n1 : n ≤ 1000000000000000000000000000000000000000000000000000) (q : ∀ x, 0 ≤ x → x < n → Q (.int x) H) : spGreatB K [.ref a, .int k, .int n] H Q E := ⟨a, ns, k, n, rfl, hS, h0, h1, n0, n1, q⟩
theorem payeeB {p t n : Int} (p0 : 0 ≤ p) (p1 : p < n) (t0 : 0 ≤ t) (t1 : t < n - 1) : 0 ≤ (p + 1 + t) % n ∧ (p + 1 + t) % n < n ∧ p ≠ (p + 1 + t) % n := by
  refine ⟨Int.emod_nonneg _ (by omega), Int.emod_lt_of_pos _ (by omega), ?_⟩
  by_cases h : p + 1 + t < n
  · rw [Int.emod_eq_of_lt (by omega) h]; omega
  · rw [← Int.sub_emod_right, Int.emod_eq_of_lt (by omega) (by omega)]; omega
noncomputable def stand (t : T7) : T7 × Str := (t, ("standing" : Str))
theorem cut_le {xs : List V} {k : Nat} : (cutV xs none (some (k : Int))).length ≤ k := by
  unfold cutV
  rw [HT.sIx_nat, HT.sIx_none, List.length_take]
  omega
end Internal

set_option Elab.async false
set_option linter.all false
set_option maxRecDepth 100000
namespace Internal
open PySem PySem.Spec PyProof.Rows
noncomputable abbrev TAr := St → Hp → (List V → Hp → Prop) → (Addr → Hp → Prop) → Prop
section
variable {X : Cx} {pos : Pos}
noncomputable abbrev tLastR (te : TEr) : TAr := fun σ H Q Eh => te σ H (fun y H2 => Q [y] H2) Eh
noncomputable abbrev tConsR (tc : TE) (t : TAr) : TAr := fun σ H Q Eh => tc σ H fun x H1 => t σ H1 (fun xs H2 => Q (x :: xs) H2) Eh
noncomputable abbrev tTupR (t : TAr) : TEr := fun σ H Q Eh => t σ H (fun xs H1 => rTup Q xs H1) Eh
noncomputable abbrev tSetR (i : Nat) (te : TEr) : TTr := fun D Eh σ H => te σ H (fun y H2 => D.nx (σ.set i (some y)) H2) fun C H2 => Eh C σ H2
end
section
variable {σ : St} {H : Hp} {D : Ends} {Eh : Addr → Hp → Prop} {Eg : Addr → St → Hp → Prop}
end
noncomputable def rAugF (K : PySem.W.Frag) (f : Str) (tv : TE) (rd : V → V → Hp → VK → Prop) (σ : St) (R : Hp → Prop) (x : V) (H1 : Hp) : Prop := ∃ a C dx fs v, x = .ref a ∧ H1 a = some (.ins C dx fs) ∧ Cls K C ∧ NoAttr K C f ∧ fs.lookup f = some v ∧
  tv σ H1 fun y H2 => rd v y H2 fun z H3 => ∃ dx' fs', H3 a = some (.ins C dx' fs') ∧ fs'.length < 1000 ∧ R (upd H3 a (.ins C dx' (putF f z fs')))
theorem x_augF {K : PySem.W.Frag} {f : Str} {ta tv : TE} {rd : V → V → Hp → VK → Prop} {D : Ends} {σ : St} {H : Hp} (q : ta σ H (rAugF K f tv rd σ (D.nx σ))) : sFldAug K ta tv rd f D σ H := q
end Internal

set_option Elab.async false
set_option linter.all false
set_option maxRecDepth 100000
namespace Internal
open PySem PySem.Spec PyProof.Rows
theorem ite_iff {p q : Prop} [Decidable p] [Decidable q] {α : Type} {a b : α} (h : p ↔ q) : (if p then a else b) = if q then a else b := by
  by_cases hp : p
  · rw [if_pos hp, if_pos (h.mp hp)]
  · rw [if_neg hp, if_neg fun z => hp (h.mpr z)]
noncomputable def MemOk (m p q : Int) : Prop := (0 ≤ p ∧ p < m) ∧ (0 ≤ q ∧ q < m) ∧ p ≠ q
noncomputable instance (m p q : Int) : Decidable (MemOk m p q) := inferInstanceAs (Decidable (_ ∧ _))
noncomputable def TrmOk (w : Int) (t : T7) : Prop := (0 ≤ t.w ∧ t.w < w) ∧ (1 ≤ t.u ∧ t.u ≤ 1000000) ∧ (1 ≤ t.a ∧ t.a ≤ 1000000000) ∧ (0 ≤ t.y ∧ t.y ≤ 1000000) ∧ (0 ≤ t.r ∧ t.r ≤ 2)
noncomputable instance (w : Int) (t : T7) : Decidable (TrmOk w t) := inferInstanceAs (Decidable (_ ∧ _))
noncomputable def dueK (m w y : Int) (t : T7) : Nat := if ¬ MemOk m t.p t.q then 1 else if ¬ TrmOk w t then 2 else if t.y < y then 3 else 0
theorem dueK_of {m w y : Int} {t : T7} (h : TermOk m w y t) : dueK m w y t = 0 := by
  unfold dueK
  rw [if_neg (Classical.not_not.mpr ⟨⟨h.p0, h.p1⟩, ⟨h.q0, h.q1⟩, h.pq⟩), if_neg (Classical.not_not.mpr ⟨⟨h.w0, h.w1⟩, ⟨h.u0, h.u1⟩, ⟨h.a0, h.a1⟩, ⟨h.y0, h.y1⟩, h.r0, h.r1⟩), if_neg (by have := h.yd; omega)]
theorem IsTs.set {α : Type} {f : α → List V} {H : Hp} {a : Addr} {x : α} (ha : H a = some (.tup (f x))) : ∀ {vs : List V} {xs : List α} (n : Nat), IsTs f H vs xs → IsTs f H (vs.set n (.ref a)) (xs.set n x)
  | [], [], _, _ => trivial
  | _ :: _, _ :: _, 0, ⟨_, h2⟩ => ⟨⟨a, rfl, ha⟩, h2⟩
  | _ :: _, _ :: _, n + 1, ⟨h1, h2⟩ => ⟨h1, IsTs.set ha n h2⟩
theorem bfl_eq (m w y : Int) (d : Addr) : bfl m w y d = [(("many" : Str), V.int m), (("wares" : Str), V.int w), (("day" : Str), V.int y), (("deals" : Str), V.ref d)] := by
  have h1 : ¬ (("many" : Str) = "wares") := by decide +kernel
  have h2 : ¬ (("many" : Str) = "day") := by decide +kernel
  have h3 : ¬ (("wares" : Str) = "day") := by decide +kernel
  have h4 : ¬ (("many" : Str) = "deals") := by decide +kernel
  have h5 : ¬ (("wares" : Str) = "deals") := by decide +kernel
  have h6 : ¬ (("day" : Str) = "deals") := by decide +kernel
  unfold bfl
  simp only [putF, if_neg h1, if_neg h2, if_neg h3, if_neg h4, if_neg h5, if_neg h6]
theorem bfl_put (m w y z : Int) (d : Addr) : putF "day" (.int z) (bfl m w y d) = bfl m w z d := by
  have h2 : ¬ (("many" : Str) = "day") := by decide +kernel
  have h3 : ¬ (("wares" : Str) = "day") := by decide +kernel
  rw [bfl_eq, bfl_eq]
  simp only [putF, if_neg h2, if_neg h3, if_pos]
theorem bfl_len (m w y : Int) (d : Addr) : (bfl m w y d).length < 1000 := by rw [bfl_eq]; show 4 < 1000; decide
noncomputable def spCheckMX (C CM : Addr) : Sp := fun vs H Q E => ∃ (b dx d : Addr) (m w y p q : Int), vs = [.ref b, .int p, .int q] ∧ H b = some (.ins C dx (bfl m w y d)) ∧ ((MemOk m p q ∧ ∀ H', Same H H' → Q .non H') ∨ (¬ MemOk m p q ∧ ∀ H', Same H H' → E (.ref CM) none H'))
noncomputable def spCheckTX (C CT CC : Addr) : Sp := fun vs H Q E => ∃ (b dx d : Addr) (m w y : Int) (t : T7), vs = [.ref b, .int t.w, .int t.u, .int t.a, .int t.y, .int t.r] ∧ H b = some (.ins C dx (bfl m w y d)) ∧ ((TrmOk w t ∧ y ≤ t.y ∧ Q .non H) ∨ (¬ TrmOk w t ∧ E (.ref CT) none H) ∨ (TrmOk w t ∧ t.y < y ∧ E (.ref CC) none H))
noncomputable def spStrikeX (C CM CT CC : Addr) : Sp := fun vs H Q E => ∃ (b dx d : Addr) (m w y : Int) (t : T7) (xs : List V), vs = .ref b :: termV t ∧ H b = some (.ins C dx (bfl m w y d)) ∧ H d = some (.lst xs) ∧ xs.length ≤ 1000 ∧
  ((dueK m w y t = 0 ∧ ∀ a H1 H2, Same H H1 → H1 a = some (.tup (dealV (t, ("standing" : Str)))) → LBut d H1 H2 → H2 d = some (.lst (xs ++ [.ref a])) → Q (.int xs.length) H2) ∨
   (dueK m w y t = 1 ∧ ∀ H', Same H H' → E (.ref CM) none H') ∨ (dueK m w y t = 2 ∧ ∀ H', Same H H' → E (.ref CT) none H') ∨ (dueK m w y t = 3 ∧ ∀ H', Same H H' → E (.ref CC) none H'))
noncomputable def markL (s : Str) (ts : List (T7 × Str)) (S : List Int) : List (T7 × Str) := (List.range ts.length).map fun i : Nat => if (i : Int) ∈ S then ((ts.getD i (⟨0, 0, 0, 0, 0, 0, 0⟩, "")).1, s) else ts.getD i (⟨0, 0, 0, 0, 0, 0, 0⟩, "")
theorem markL_len {s : Str} {ts : List (T7 × Str)} {S : List Int} : (markL s ts S).length = ts.length := by unfold markL; rw [List.length_map, List.length_range]
theorem markL_get {s : Str} {ts : List (T7 × Str)} {S : List Int} {i : Nat} {t : T7 × Str} (h : ts[i]? = some t) : (markL s ts S)[i]? = some (if (i : Int) ∈ S then (t.1, s) else t) := by
  have hi := (List.getElem?_eq_some_iff.mp h).1
  unfold markL
  rw [List.getElem?_map, List.getElem?_range hi]
  have hg : ts.getD i (⟨0, 0, 0, 0, 0, 0, 0⟩, "") = t := by rw [List.getD_eq_getElem?_getD, h]; rfl
  show some (if (i : Int) ∈ S then ((ts.getD i (⟨0, 0, 0, 0, 0, 0, 0⟩, "")).1, s) else ts.getD i (⟨0, 0, 0, 0, 0, 0, 0⟩, "")) = _
  rw [hg]
theorem ext_get {α : Type} {xs ys : List α} (hl : xs.length = ys.length) (h : ∀ (i : Nat) (x y : α), xs[i]? = some x → ys[i]? = some y → x = y) : xs = ys := by
  apply List.ext_getElem?
  intro i
  by_cases hi : i < xs.length
  · obtain ⟨x, hx⟩ := lt_some hi
    obtain ⟨y, hy⟩ := lt_some (show i < ys.length by omega)
    rw [hx, hy, h i x y hx hy]
  · rw [List.getElem?_eq_none (by omega), List.getElem?_eq_none (by omega)]
theorem markL_nil {s : Str} {ts : List (T7 × Str)} : markL s ts [] = ts := ext_get markL_len fun i x y hx hy => by
  rw [markL_get hy] at hx
  rw [if_neg (by simp)] at hx
  exact (Option.some.inj hx).symm
theorem markL_set {s : Str} {ts : List (T7 × Str)} {S : List Int} {n : Nat} {t : T7 × Str} (h : ts[n]? = some t) : (markL s ts S).set n (t.1, s) = markL s ts (S ++ [(n : Int)]) := by
  refine ext_get (by rw [List.length_set, markL_len, markL_len]) fun i x y hx hy => ?_
  have hi : i < ts.length := by have := (List.getElem?_eq_some_iff.mp hy).1; rwa [markL_len] at this
  obtain ⟨u, hu⟩ := lt_some hi
  rw [markL_get hu] at hy
  by_cases e : i = n
  · subst e
    rw [List.getElem?_set_self (by rw [markL_len]; exact hi)] at hx
    rw [h] at hu; cases hu
    rw [if_pos (by simp)] at hy
    exact (Option.some.inj hx).symm.trans (Option.some.inj hy)
  · rw [List.getElem?_set_ne (fun z => e z.symm), markL_get hu] at hx
    have hiff : ((i : Int) ∈ S ++ [(n : Int)]) ↔ (i : Int) ∈ S := by
      rw [List.mem_append, List.mem_singleton]
      exact ⟨fun h => h.elim id fun z => absurd z (by omega), .inl⟩
    rw [show (if (i : Int) ∈ S ++ [(n : Int)] then (u.1, s) else u) = if (i : Int) ∈ S then (u.1, s) else u from ite_iff hiff] at hy
    exact (Option.some.inj hx).symm.trans (Option.some.inj hy)
noncomputable def numF (P : T7 × Str → Bool) (ts : List (T7 × Str)) : Nat → List Int
  | 0 => []
  | n + 1 => numF P ts n ++ (match ts[n]? with | some t => if P t then [(n : Int)] else [] | none => [])
theorem numF_succ {P : T7 × Str → Bool} {ts : List (T7 × Str)} {n : Nat} {t : T7 × Str} (h : ts[n]? = some t) : numF P ts (n + 1) = numF P ts n ++ if P t then [(n : Int)] else [] := by
  show numF P ts n ++ _ = _
  rw [h]
theorem mem_numF {P : T7 × Str → Bool} {ts : List (T7 × Str)} {x : Int} : ∀ {n : Nat}, n ≤ ts.length → (x ∈ numF P ts n ↔ ∃ (i : Nat) (t : T7 × Str), i < n ∧ x = (i : Int) ∧ ts[i]? = some t ∧ P t = true)
  | 0, _ => by
    constructor
    · intro h; cases h
    · rintro ⟨i, t, h, _⟩; omega
  | n + 1, hn => by
    obtain ⟨t, ht⟩ := lt_some (show n < ts.length by omega)
    rw [numF_succ ht, List.mem_append, mem_numF (by omega)]
    constructor
    · rintro (⟨i, u, h1, h2, h3⟩ | h)
      · exact ⟨i, u, by omega, h2, h3⟩
      · by_cases hp : P t = true
        · rw [if_pos hp, List.mem_singleton] at h
          exact ⟨n, t, by omega, h, ht, hp⟩
        · rw [if_neg hp] at h; cases h
    · rintro ⟨i, u, h1, h2, h3, h4⟩
      by_cases e : i = n
      · subst e
        rw [ht] at h3; cases h3
        exact .inr (by rw [if_pos h4, List.mem_singleton]; exact h2)
      · exact .inl ⟨i, u, by omega, h2, h3, h4⟩
theorem numF_len {P : T7 × Str → Bool} {ts : List (T7 × Str)} : ∀ n, (numF P ts n).length ≤ n
  | 0 => Nat.le_refl _
  | n + 1 => by
    have := numF_len (P := P) (ts := ts) n
    show (numF P ts n ++ _).length ≤ _
    rw [List.length_append]
    have h2 : (match ts[n]? with | some t => if P t then [(n : Int)] else [] | none => []).length ≤ 1 := by
      split
      · split <;> simp
      · simp
    omega
noncomputable def standP (y : Int) (t : T7 × Str) : Bool := decide (t.2 = "standing") && decide (t.1.y = y)
noncomputable def clsF (y : Int) (t : T7 × Str) : T7 × Str := if standP y t then (t.1, "settled") else t
theorem mark_cls {y : Int} {ts : List (T7 × Str)} : markL "settled" ts (numF (standP y) ts ts.length) = ts.map (clsF y) := by
  refine ext_get (by rw [markL_len, List.length_map]) fun i a b ha hb => ?_
  have hi : i < ts.length := by have := (List.getElem?_eq_some_iff.mp ha).1; rwa [markL_len] at this
  obtain ⟨t, ht⟩ := lt_some hi
  rw [markL_get ht] at ha
  rw [List.getElem?_map, ht] at hb
  have hiff : ((i : Int) ∈ numF (standP y) ts ts.length) ↔ standP y t = true := by
    rw [mem_numF (Nat.le_refl _)]
    constructor
    · rintro ⟨j, u, h1, h2, h3, h4⟩
      obtain rfl : i = j := by omega
      rw [ht] at h3; cases h3; exact h4
    · exact fun h => ⟨i, t, hi, rfl, ht, h⟩
  rw [show (if (i : Int) ∈ numF (standP y) ts ts.length then (t.1, ("settled" : Str)) else t) = clsF y t from ite_iff hiff] at ha
  exact (Option.some.inj ha).symm.trans (Option.some.inj hb)
noncomputable def spPutState (C : Addr) : Sp := fun vs H Q _ => ∃ (b d : Addr) (m w y n : Int) (s : Str) (ts : List (T7 × Str)) (t : T7 × Str), vs = [.ref b, .int n, .str s] ∧ Bk C H b d m w y ts ∧ 0 ≤ n ∧ ts[n.toNat]? = some t ∧ ∀ H', Bk C H' b d m w y (ts.set n.toNat (t.1, s)) → ButL d H H' → Q .non H'
noncomputable def spClose (C : Addr) : Sp := fun vs H Q _ => ∃ (b d : Addr) (m w y : Int) (ts : List (T7 × Str)), vs = [.ref b] ∧ Bk C H b d m w y ts ∧ ts.length ≤ 1000 ∧ ∀ p H', Bk C H' b d m w (y + 1) (ts.map (clsF y)) → (∀ c o, c ≠ d → c ≠ b → H c = some o → H' c = some o) → H' p = some (.lst ((numF (standP y) ts ts.length).map V.int)) → Q (.ref p) H'
noncomputable def onP (y : Int) (t : T7 × Str) : Bool := decide (t.1.y = y) && decide (¬ t.2 = "broken")
noncomputable def spNumbersOn (C : Addr) : Sp := fun vs H Q _ => ∃ (b d : Addr) (m w y z : Int) (ts : List (T7 × Str)), vs = [.ref b, .int z] ∧ Bk C H b d m w y ts ∧ ts.length ≤ 1000 ∧ ∀ p H', H p = none → Same H H' → H' p = some (.lst ((numF (onP z) ts ts.length).map V.int)) → Q (.ref p) H'
end Internal

set_option Elab.async false
set_option linter.all false
set_option maxRecDepth 100000
namespace Internal
open PySem PySem.Spec PyProof.Rows
noncomputable def DRows (H : Hp) (as : List Addr) (ts : List (T7 × Str)) : Prop := as.Nodup ∧ as.length = ts.length ∧ ∀ (i : Nat) (a : Addr) (t : T7 × Str), as[i]? = some a → ts[i]? = some t → H a = some (.lst (dealV t))
section
variable {H H' : Hp} {as : List Addr} {ts : List (T7 × Str)}
theorem DRows.same (h : DRows H as ts) (e : Same H H') : DRows H' as ts := ⟨h.1, h.2.1, fun i a t h1 h2 => e.at (h.2.2 i a t h1 h2)⟩
theorem DRows.keep (h : DRows H as ts) (e : ∀ a o, a ∈ as → H a = some o → H' a = some o) : DRows H' as ts := ⟨h.1, h.2.1, fun i a t h1 h2 => e a _ (List.mem_of_getElem? h1) (h.2.2 i a t h1 h2)⟩
theorem DRows.mem (h : DRows H as ts) {a : Addr} (m : a ∈ as) : ∃ (i : Nat) (t : T7 × Str), as[i]? = some a ∧ ts[i]? = some t ∧ H a = some (.lst (dealV t)) := by
  obtain ⟨i, hi, e⟩ := List.getElem_of_mem m
  have h1 : as[i]? = some a := by rw [List.getElem?_eq_getElem hi, e]
  obtain ⟨t, ht⟩ := lt_some (show i < ts.length by have := h.2.1; omega)
  exact ⟨i, t, h1, ht, h.2.2 i a t h1 ht⟩
theorem DRows.fresh {p : Addr} (h : DRows H as ts) (hp : H p = none) : p ∉ as := fun m => by
  obtain ⟨_, _, _, _, e⟩ := h.mem m
  rw [hp] at e; cases e
theorem DRows.neRef {d : Addr} {xs : List V} (h : DRows H as ts) (hd : H d = some (.lst xs)) (hx : ∀ v ∈ xs, ∃ a, v = .ref a) : d ∉ as := fun m => by
  obtain ⟨_, t, _, _, e⟩ := h.mem m
  rw [hd] at e
  have e' : xs = dealV t := by simpa using e
  obtain ⟨a, ha⟩ := hx (.int t.1.p) (by rw [e']; unfold dealV termV; simp)
  cases ha
theorem DRows.app {p : Addr} {t : T7 × Str} (h : DRows H as ts) (n : p ∉ as) (hp : H p = some (.lst (dealV t))) : DRows H (as ++ [p]) (ts ++ [t]) := by
  refine ⟨List.nodup_append.mpr ⟨h.1, by simp, fun a ha b hb e => n (by rw [List.mem_singleton] at hb; subst hb; subst e; exact ha)⟩, by rw [List.length_append, List.length_append, h.2.1]; rfl, fun i a u h1 h2 => ?_⟩
  rw [List.getElem?_append] at h1 h2
  have hl := h.2.1
  split at h1
  · rename_i hi
    rw [if_pos (by omega)] at h2
    exact h.2.2 i a u h1 h2
  · rename_i hi
    rw [if_neg (by omega)] at h2
    have e0 : i - as.length = 0 := by
      cases e : i - as.length with
      | zero => rfl
      | succ k => rw [e] at h1; cases h1
    rw [e0] at h1
    rw [show i - ts.length = 0 by omega] at h2
    cases h1; cases h2
    exact hp
theorem DRows.set {j : Nat} {a : Addr} {t : T7 × Str} (h : DRows H as ts) (ha : as[j]? = some a) (g : LBut a H H') (h' : H' a = some (.lst (dealV t))) : DRows H' as (ts.set j t) := by
  refine ⟨h.1, by rw [List.length_set]; exact h.2.1, fun i b u h1 h2 => ?_⟩
  by_cases e : i = j
  · subst e
    rw [ha] at h1; cases h1
    rw [List.getElem?_set_self (by have := (List.getElem?_eq_some_iff.mp ha).1; have := h.2.1; omega)] at h2
    cases h2; exact h'
  · rw [List.getElem?_set_ne (fun z => e z.symm)] at h2
    exact g.lst (h.2.2 i b u h1 h2) fun z => e (nodup_get h.1 h1 (z ▸ ha))
end
end Internal

set_option Elab.async false
set_option linter.all false
set_option maxRecDepth 100000
namespace Internal
open PySem PySem.Spec PyProof.Rows
theorem IsTs.refs {α : Type} {f : α → List V} {H : Hp} {vs : List V} {xs : List α} (h : IsTs f H vs xs) : ∀ v ∈ vs, ∃ a, v = .ref a := fun v hv => by
  obtain ⟨i, hi, e⟩ := List.getElem_of_mem hv
  obtain ⟨a, x, e2, _⟩ := h.get (show vs[i]? = some v by rw [List.getElem?_eq_getElem hi, e])
  exact ⟨a, e2⟩
theorem map_refs (as : List Addr) : ∀ v ∈ as.map V.ref, ∃ a, v = .ref a := fun v hv => by
  obtain ⟨a, _, e⟩ := List.mem_map.mp hv
  exact ⟨a, e.symm⟩
set_option genInjectivity false in
set_option genSizeOf false in
structure RoomH (k : Nat) (A : Around) : Prop where
  dp : A.depth + 3 * k + 5 < recursionLimit
  un : A.units + 16 * k + 200 < cLine
noncomputable abbrev Cx.toH (X : Cx) (A : Around) : Cx := { X with A := A, calm := false, xe := fun _ _ => False }
set_option genInjectivity false in
set_option genSizeOf false in
structure FnOkH (P : Program) (w : World) (K : PySem.W.Frag) (mg : Str → Option Value) (base : Heap) (k : Nat) (f : Addr) (fd : FuncData) (ps : List Str) (sp : Sp) : Prop where
  len : ∀ vs H Q E, sp vs H Q E → vs.length = ps.length
  run : ∀ (A : Around) (outer : List Env) (s : Shared) (H : Hp) (args : Args) (us : List Value) (vs : List V) (Q : VK) (E : XK), RoomH k A → Env0 P w K mg base A outer s H → BindsTo s fd args (ps.zip us) → Vals vs us → sp vs H Q E →
    codeAny (model P w) A (.call (.ref f) args) (CR (fun _ _ _ _ _ _ => False) outer P w H s Q E) s
noncomputable abbrev cxH (P : Program) (w : World) (K : PySem.W.Frag) (mg : Str → Option Value) (base : Heap) (N : List Str) (qual : Str) (scope : Scope) (f : Addr) (cd : Value) (A : Around) (outer : List Env) (s : Shared) (H : Hp) (E : XK) : Cx :=
  (cxOf (CXF P w) P w K mg base N qual scope f cd A outer s H E).toH (A.deeper (envOfC qual scope s.heap.objs.size f cd))
end Internal

set_option Elab.async false
set_option linter.all false
set_option maxRecDepth 100000
namespace Internal
open PySem PySem.Spec PyProof.Rows
noncomputable def t0 : T7 × Str := (⟨0, 0, 0, 0, 0, 0, 0⟩, "")
noncomputable def St3 (ts : List (T7 × Str)) : Prop := ∀ t ∈ ts, t.2 = ("standing" : Str) ∨ t.2 = ("settled" : Str) ∨ t.2 = ("broken" : Str)
noncomputable def GoodT (w : Int) (ts : List (T7 × Str)) : Prop := ∀ t ∈ ts, (0 ≤ t.1.w ∧ t.1.w < w) ∧ (1 ≤ t.1.u ∧ t.1.u ≤ 1000000) ∧ (0 ≤ t.1.r ∧ t.1.r ≤ 2)
theorem mem_set_or {α : Type} {xs : List α} {n : Nat} {x y : α} (h : y ∈ xs.set n x) : y ∈ xs ∨ y = x := by
  rcases List.mem_or_eq_of_mem_set h with h | h
  · exact .inl h
  · exact .inr h
theorem st3_set {ts : List (T7 × Str)} {n : Nat} {t : T7 × Str} (h : St3 ts) (ht : t.2 = ("standing" : Str) ∨ t.2 = ("settled" : Str) ∨ t.2 = ("broken" : Str)) : St3 (ts.set n t) := fun u hu => by
  rcases mem_set_or hu with z | z
  · exact h u z
  · rw [z]; exact ht
theorem st3_app {ts : List (T7 × Str)} {t : T7} (h : St3 ts) : St3 (ts ++ [(t, ("standing" : Str))]) := fun u hu => by
  rcases List.mem_append.mp hu with z | z
  · exact h u z
  · rw [List.mem_singleton.mp z]; exact .inl rfl
theorem st3_cls {y : Int} {ts : List (T7 × Str)} (h : St3 ts) : St3 (ts.map (clsF y)) := fun t ht => by
  obtain ⟨u, hu, e⟩ := List.mem_map.mp ht
  rw [← e]
  unfold clsF
  split
  · exact .inr (.inl rfl)
  · exact h u hu
theorem good_set {w : Int} {ts : List (T7 × Str)} {n : Nat} {t : T7 × Str} (h : GoodT w ts) (ht : (0 ≤ t.1.w ∧ t.1.w < w) ∧ (1 ≤ t.1.u ∧ t.1.u ≤ 1000000) ∧ (0 ≤ t.1.r ∧ t.1.r ≤ 2)) : GoodT w (ts.set n t) := fun u hu => by
  rcases mem_set_or hu with z | z
  · exact h u z
  · rw [z]; exact ht
theorem good_app {w : Int} {ts : List (T7 × Str)} {t : T7 × Str} (h : GoodT w ts) (ht : (0 ≤ t.1.w ∧ t.1.w < w) ∧ (1 ≤ t.1.u ∧ t.1.u ≤ 1000000) ∧ (0 ≤ t.1.r ∧ t.1.r ≤ 2)) : GoodT w (ts ++ [t]) := fun u hu => by
  rcases List.mem_append.mp hu with z | z
  · exact h u z
  · rw [List.mem_singleton.mp z]; exact ht
theorem good_cls {w y : Int} {ts : List (T7 × Str)} (h : GoodT w ts) : GoodT w (ts.map (clsF y)) := fun t ht => by
  obtain ⟨u, hu, e⟩ := List.mem_map.mp ht
  rw [← e]
  unfold clsF
  split <;> exact h u hu
noncomputable def chK (y : Int) (ts : List (T7 × Str)) (n a z : Int) : Nat :=
  if ¬ (0 ≤ n ∧ n < ts.length) then 1 else if (ts.getD n.toNat t0).2 = ("broken" : Str) then 2 else if (ts.getD n.toNat t0).2 = ("settled" : Str) then 3
  else if ¬ ((1 ≤ a ∧ a ≤ 1000000000) ∧ (0 ≤ z ∧ z ≤ 1000000)) then 4 else if z < y then 5 else 0
theorem getD_of {ts : List (T7 × Str)} {i : Nat} {t : T7 × Str} (h : ts[i]? = some t) : ts.getD i t0 = t := by rw [List.getD_eq_getElem?_getD, h]; rfl
noncomputable def chg (t : T7 × Str) (a z : Int) : T7 × Str := ({ t.1 with a := a, y := z }, t.2)
noncomputable def spStanding (C CN CG CS : Addr) : Sp := fun vs H Q E => ∃ (b d : Addr) (m w y n : Int) (ts : List (T7 × Str)), vs = [.ref b, .int n] ∧ Bk C H b d m w y ts ∧
  ((∃ t, 0 ≤ n ∧ ts[n.toNat]? = some t ∧ ¬ t.2 = ("broken" : Str) ∧ ¬ t.2 = ("settled" : Str) ∧ ∀ x, H x = some (.tup (dealV t)) → Q (.ref x) H) ∨
   (¬ (0 ≤ n ∧ n < ts.length) ∧ E (.ref CN) none H) ∨ (∃ t, 0 ≤ n ∧ ts[n.toNat]? = some t ∧ t.2 = ("broken" : Str) ∧ E (.ref CG) none H) ∨ (∃ t, 0 ≤ n ∧ ts[n.toNat]? = some t ∧ t.2 = ("settled" : Str) ∧ E (.ref CS) none H))
noncomputable def spChange (C CN CG CS CT CC : Addr) : Sp := fun vs H Q E => ∃ (b d : Addr) (m w y n a z : Int) (ts : List (T7 × Str)), vs = [.ref b, .int n, .int a, .int z] ∧ Bk C H b d m w y ts ∧ GoodT w ts ∧
  ((∃ t, chK y ts n a z = 0 ∧ ts[n.toNat]? = some t ∧ 0 ≤ n ∧ ∀ H', Bk C H' b d m w y (ts.set n.toNat (chg t a z)) → ButL d H H' → Q .non H') ∨
   (chK y ts n a z = 1 ∧ ∀ H', Same H H' → E (.ref CN) none H') ∨ (chK y ts n a z = 2 ∧ ∀ H', Same H H' → E (.ref CG) none H') ∨ (chK y ts n a z = 3 ∧ ∀ H', Same H H' → E (.ref CS) none H') ∨
   (chK y ts n a z = 4 ∧ ∀ H', Same H H' → E (.ref CT) none H') ∨ (chK y ts n a z = 5 ∧ ∀ H', Same H H' → E (.ref CC) none H'))
noncomputable def spBreakOff (C : Addr) : Sp := fun vs H Q _ => ∃ (b d : Addr) (m w y n : Int) (ts : List (T7 × Str)) (t : T7 × Str), vs = [.ref b, .int n] ∧ Bk C H b d m w y ts ∧ 0 ≤ n ∧ ts[n.toNat]? = some t ∧ t.2 = ("standing" : Str) ∧ ∀ H', Bk C H' b d m w y (ts.set n.toNat (t.1, "broken")) → ButL d H H' → Q .non H'
noncomputable def dueOf (t : T7 × Str) : Due := ⟨t.1.p, t.1.q, t.1.r, t.1.a⟩
noncomputable def pickT (ts : List (T7 × Str)) (ns : List Int) : List (T7 × Str) := ns.map fun n => ts.getD n.toNat t0
noncomputable def sheetT (z : Int) (ts : List (T7 × Str)) : List Due := (pickT ts (numF (onP z) ts ts.length)).map dueOf
noncomputable def spSheetOn (C : Addr) : Sp := fun vs H Q _ => ∃ (b d : Addr) (m w y z : Int) (ts : List (T7 × Str)), vs = [.ref b, .int z] ∧ Bk C H b d m w y ts ∧ ts.length ≤ 1000 ∧ ∀ p H' vs, H p = none → Same H H' → H' p = some (.lst vs) → IsTs dueV H' vs (sheetT z ts) → Q (.ref p) H'
set_option genInjectivity false in
set_option genSizeOf false in
structure BR (C : Addr) (H : Hp) (b d ro : Addr) (m w y : Int) (ts : List (T7 × Str)) (as : List Addr) : Prop where
  B : Bk C H b d m w y ts
  ro : H ro = some (.lst (as.map V.ref))
  R : DRows H as ts
  s : St3 ts
  g : GoodT w ts
theorem BR.same {C : Addr} {H H' : Hp} {b d ro : Addr} {m w y : Int} {ts : List (T7 × Str)} {as : List Addr} (h : BR C H b d ro m w y ts as) (e : Same H H') : BR C H' b d ro m w y ts as := ⟨h.B.same e, e.at h.ro, h.R.same e, h.s, h.g⟩
noncomputable def spClosedC (C : Addr) : Sp := fun vs H Q _ => ∃ (b d ro : Addr) (m w y : Int) (ts : List (T7 × Str)) (as : List Addr), vs = [.ref b, .ref ro, .int y] ∧ BR C H b d ro m w y ts as ∧ d ≠ ro ∧ ts.length ≤ 1000 ∧ ∀ H', BR C H' b d ro m w (y + 1) (ts.map (clsF y)) as → (∀ c o, c ≠ d → c ≠ b → c ∉ as → H c = some o → H' c = some o) → Q .non H'
end Internal

set_option Elab.async false
set_option linter.all false
set_option maxRecDepth 100000
namespace Internal
open PySem PySem.W PyProof.Rows
section
variable {n : Nat} {kf : Nat → Int}
noncomputable def TOk (n : Nat) (kf : Nat → Int) {α : Type} : KasT α → (α → Prop) → Prop
  | .ret a, Q => Q a
  | .ask i j k, Q => i < n ∧ j < n ∧ TOk n kf (k (decide (kf i < kf j))) Q
theorem TOk.bind {α β : Type} {f : α → KasT β} {Q : β → Prop} : ∀ {t : KasT α}, TOk n kf t (fun a => TOk n kf (f a) Q) → TOk n kf (t.bind f) Q
  | .ret _, h => h
  | .ask i j k, h => ⟨h.1, h.2.1, TOk.bind (t := k (decide (kf i < kf j))) h.2.2⟩
theorem TOk.mono {α : Type} {Q Q' : α → Prop} (hq : ∀ a, Q a → Q' a) : ∀ {t : KasT α}, TOk n kf t Q → TOk n kf t Q'
  | .ret a, h => hq a h
  | .ask i j k, h => ⟨h.1, h.2.1, TOk.mono hq (t := k (decide (kf i < kf j))) h.2.2⟩
theorem TOk.wp {α : Type} {cmp : Nat → Nat → (Bool → Shared → Prop) → Shared → Prop} {Q : α → Shared → Prop} {s : Shared} (hc : ∀ i j (C : Bool → Shared → Prop), i < n → j < n → C (decide (kf i < kf j)) s → cmp i j C s) : ∀ {t : KasT α}, TOk n kf t (fun a => Q a s) → t.kasWp cmp Q s
  | .ret _, h => h
  | .ask i j k, h => hc i j _ h.1 h.2.1 (TOk.wp hc (t := k (decide (kf i < kf j))) h.2.2)
noncomputable def KP (kf : Nat → Int) (p : Array Nat) (i : Nat) : Int := kf (p.getD i 0)
noncomputable def PermR (n : Nat) (p : Array Nat) : Prop := p.toList.Perm (List.range n)
theorem PermR.size {p : Array Nat} (h : PermR n p) : p.size = n := by
  have := h.length_eq
  rwa [Array.length_toList, List.length_range] at this
theorem PermR.lt {p : Array Nat} (h : PermR n p) (hn : 0 < n) (i : Nat) : p.getD i 0 < n := by
  by_cases hi : i < p.size
  · have : p.getD i 0 = p[i] := by simp [Array.getD, hi]
    rw [this]
    have hm : p[i] ∈ p.toList := by simp
    exact List.mem_range.mp (h.mem_iff.mp hm)
  · have : p.getD i 0 = 0 := by simp [Array.getD, hi]
    rw [this]; exact hn
theorem PermR.of {p q : Array Nat} (h : PermR n p) (hq : q.Perm p) : PermR n q := (Array.perm_iff_toList_perm.mp hq).trans h
theorem getD_congr {p q : Array Nat} {i j : Nat} (h : p[i]? = q[j]?) : p.getD i 0 = q.getD j 0 := by
  rw [Array.getD_eq_getD_getElem?, Array.getD_eq_getD_getElem?, h]
theorem KP_rev {p : Array Nat} {i j : Nat} (hj : j ≤ p.size) (k : Nat) : KP kf (kas_rev p i j) k = if i ≤ k ∧ k < j then KP kf p (i + j - 1 - k) else KP kf p k := by
  have e := getElem?_mirror_all (i := i) hj k
  unfold kas_rev KP
  by_cases h : i ≤ k ∧ k < j
  · rw [if_pos h] at e ⊢; rw [getD_congr e]
  · rw [if_neg h] at e ⊢; rw [getD_congr e]
theorem rev_perm {p : Array Nat} {i j : Nat} (h : PermR n p) : PermR n (kas_rev p i j) := h.of (mirror_perm _ _ _ _)
theorem KP_bubble {p : Array Nat} {src d : Nat} (hs : src < p.size) (hd : d ≤ src) (k : Nat) : KP kf (bubble p src d) k = if k = src - d then KP kf p src else if src - d < k ∧ k ≤ src then KP kf p (k - 1) else KP kf p k := by
  have e := getElem?_bubble hs d hd k
  unfold KP
  by_cases h1 : k = src - d
  · rw [if_pos h1] at e ⊢; rw [getD_congr e]
  · rw [if_neg h1] at e ⊢
    by_cases h2 : src - d < k ∧ k ≤ src
    · rw [if_pos h2] at e ⊢; rw [getD_congr e]
    · rw [if_neg h2] at e ⊢; rw [getD_congr e]
noncomputable def Up (kf : Nat → Int) (p : Array Nat) (k : Nat) : Prop := ∀ i j, i ≤ j → j < k → KP kf p i ≤ KP kf p j
noncomputable def Down (kf : Nat → Int) (p : Array Nat) (k : Nat) : Prop := ∀ i j, i ≤ j → j < k → KP kf p j ≤ KP kf p i
theorem Up.steps {p : Array Nat} {a : Nat} : ∀ (b : Nat), Up kf p a → (∀ i, a ≤ i → i < b → 1 ≤ i → KP kf p (i - 1) ≤ KP kf p i) → Up kf p b
  | 0, _, _ => fun i j _ h => by omega
  | b + 1, hu, hs => by
    by_cases hb : b + 1 ≤ a
    · exact fun i j h1 h2 => hu i j h1 (by omega)
    · have ih := Up.steps b hu (fun i h1 h2 h3 => hs i h1 (by omega) h3)
      intro i j h1 h2
      by_cases hj : j = b
      · subst hj
        by_cases hi : i = j
        · subst hi; exact Int.le_refl _
        · exact Int.le_trans (ih i (j - 1) (by omega) (by omega)) (hs j (by omega) (by omega) (by omega))
      · exact ih i j h1 (by omega)
theorem asc_ok {p : Array Nat} (hp : PermR n p) (h0 : 0 < n) : ∀ (f m : Nat), 1 ≤ m → TOk n kf (kas_asc p f m) fun r => m ≤ r ∧ r ≤ m + f ∧ (∀ i, m ≤ i → i < r → KP kf p (i - 1) ≤ KP kf p i) ∧ (r < m + f → KP kf p r < KP kf p (r - 1))
  | 0, m, _ => ⟨Nat.le_refl _, by omega, fun i h1 h2 => by omega, fun h => by omega⟩
  | f + 1, m, hm => by
    refine ⟨hp.lt h0 _, hp.lt h0 _, ?_⟩
    by_cases h : KP kf p m < KP kf p (m - 1)
    · rw [show decide (kf (p.getD m 0) < kf (p.getD (m - 1) 0)) = true from decide_eq_true h]; dsimp only; rw [if_pos rfl]
      exact ⟨Nat.le_refl _, by omega, fun i h1 h2 => by omega, fun _ => h⟩
    · rw [show decide (kf (p.getD m 0) < kf (p.getD (m - 1) 0)) = false from decide_eq_false h]; dsimp only; rw [if_neg Bool.false_ne_true]
      refine TOk.mono (fun r hr => ?_) (asc_ok hp h0 f (m + 1) (by omega))
      obtain ⟨r1, r2, r3, r4⟩ := hr
      refine ⟨by omega, by omega, fun i h1 h2 => ?_, fun h => r4 (by omega)⟩
      by_cases e : i = m
      · subst e; exact Int.not_lt.mp h
      · exact r3 i (by omega) h2
noncomputable def Tail (kf : Nat → Int) (p : Array Nat) (k q : Nat) : Prop := q + 1 ≤ k ∧ ∀ i, k - (q + 1) ≤ i → i < k → KP kf p i = KP kf p (k - 1)
theorem rev_same {p : Array Nat} {k q : Nat} (hk : k ≤ p.size) (ht : Tail kf p k q) (i : Nat) : KP kf (kas_rev p (k - (q + 1)) k) i = KP kf p i := by
  rw [KP_rev hk]
  have := ht.1
  split
  · rw [ht.2 _ (by omega) (by omega), ht.2 i (by omega) (by omega)]
  · rfl
theorem Down.congr {p p' : Array Nat} {k : Nat} (h : Down kf p k) (e : ∀ i, KP kf p' i = KP kf p i) : Down kf p' k := fun i j h1 h2 => by rw [e, e]; exact h i j h1 h2
theorem Down.more {p : Array Nat} {k : Nat} (h : Down kf p k) (hk : 1 ≤ k) (hl : KP kf p k ≤ KP kf p (k - 1)) : Down kf p (k + 1) := fun i j h1 h2 => by
  by_cases hj : j = k
  · subst hj
    by_cases hi : i = j
    · subst hi; exact Int.le_refl _
    · exact Int.le_trans hl (h i (j - 1) (by omega) (by omega))
  · exact h i j h1 (by omega)
theorem desc_ok (h0 : 0 < n) : ∀ (f : Nat) (p : Array Nat) (m q : Nat), PermR n p → 1 ≤ m → m + f ≤ n → Down kf p m → Tail kf p m q → TOk n kf (kas_desc f p m q) fun r => PermR n r.1 ∧ m ≤ r.2.1 ∧ r.2.1 ≤ m + f ∧ Down kf r.1 r.2.1 ∧ Tail kf r.1 r.2.1 r.2.2
  | 0, p, m, q, hp, _, _, hd, ht => ⟨hp, Nat.le_refl _, by show m ≤ m + 0; omega, hd, ht⟩
  | f + 1, p, m, q, hp, hm, hf, hd, ht => by
    refine ⟨hp.lt h0 _, hp.lt h0 _, ?_⟩
    have hsz := hp.size
    by_cases h : KP kf p m < KP kf p (m - 1)
    · rw [show decide (kf (p.getD m 0) < kf (p.getD (m - 1) 0)) = true from decide_eq_true h]; dsimp only; rw [if_pos rfl]
      have hd1 := hd.more hm (Int.le_of_lt h)
      split
      · have e := rev_same (by omega) ht
        have hd2 := hd1.congr e
        refine TOk.mono (fun r hr => ⟨hr.1, by omega, by omega, hr.2.2.2.1, hr.2.2.2.2⟩) (desc_ok h0 f _ (m + 1) 0 (rev_perm hp) (by omega) (by omega) hd2 ⟨by omega, fun i h1 h2 => ?_⟩)
        have : i = m := by omega
        subst this; rfl
      · refine TOk.mono (fun r hr => ⟨hr.1, by omega, by omega, hr.2.2.2.1, hr.2.2.2.2⟩) (desc_ok h0 f p (m + 1) 0 hp (by omega) (by omega) hd1 ⟨by omega, fun i h1 h2 => ?_⟩)
        have : i = m := by omega
        subst this; rfl
    · rw [show decide (kf (p.getD m 0) < kf (p.getD (m - 1) 0)) = false from decide_eq_false h]; dsimp only; rw [if_neg Bool.false_ne_true]
      refine ⟨hp.lt h0 _, hp.lt h0 _, ?_⟩
      by_cases h' : KP kf p (m - 1) < KP kf p m
      · rw [show decide (kf (p.getD (m - 1) 0) < kf (p.getD m 0)) = true from decide_eq_true h']; dsimp only; rw [if_pos rfl]
        exact ⟨hp, Nat.le_refl _, by show m ≤ m + (f + 1); omega, hd, ht⟩
      · rw [show decide (kf (p.getD (m - 1) 0) < kf (p.getD m 0)) = false from decide_eq_false h']; dsimp only; rw [if_neg Bool.false_ne_true]
        have he : KP kf p m = KP kf p (m - 1) := by
          have := Int.not_lt.mp h
          have := Int.not_lt.mp h'
          omega
        refine TOk.mono (fun r hr => ⟨hr.1, by omega, by omega, hr.2.2.2.1, hr.2.2.2.2⟩) (desc_ok h0 f p (m + 1) (q + 1) hp (by omega) (by omega) (hd.more hm (by omega)) ⟨by have := ht.1; omega, fun i h1 h2 => ?_⟩)
        have := ht.1
        show KP kf p i = KP kf p (m + 1 - 1)
        rw [show m + 1 - 1 = m by omega]
        by_cases e : i = m
        · subst e; rfl
        · rw [he]; exact ht.2 i (by omega) (by omega)
theorem tail3_ok (h0 : 0 < n) {p : Array Nat} {m : Nat} (hp : PermR n p) (hm : 1 ≤ m) (hn : m ≤ n) (hd : Down kf p m) : TOk n kf (kas_tail3 m n p) fun r => PermR n r.2 ∧ 1 ≤ r.1 ∧ r.1 ≤ n ∧ Up kf r.2 r.1 := by
  have hsz := hp.size
  refine TOk.bind (TOk.mono (fun r hr => ?_) (asc_ok (rev_perm hp) h0 (n - m) m hm))
  obtain ⟨r1, r2, r3, _⟩ := hr
  refine ⟨rev_perm hp, by show 1 ≤ r; omega, by show r ≤ n; omega, Up.steps (a := m) r (fun i j h1 h2 => ?_) fun i h1 h2 _ => r3 i h1 h2⟩
  rw [KP_rev (by omega), KP_rev (by omega), if_pos ⟨by omega, by omega⟩, if_pos ⟨by omega, h2⟩]
  exact hd _ _ (by omega) (by omega)
theorem descPart_ok (h0 : 0 < n) {p : Array Nat} {m : Nat} (hp : PermR n p) (hm : 1 ≤ m) (hn : m + 1 ≤ n) (hd : Down kf p (m + 1)) : TOk n kf (kas_descPart m n p) fun r => PermR n r.2 ∧ 1 ≤ r.1 ∧ r.1 ≤ n ∧ Up kf r.2 r.1 := by
  refine TOk.bind (TOk.mono (fun r hr => ?_) (desc_ok h0 (n - (m + 1)) p (m + 1) 0 hp (by omega) (by omega) hd ⟨by omega, fun i h1 h2 => ?_⟩))
  · obtain ⟨r1, r2, r3, r4, r5⟩ := hr
    have hsz := r1.size
    split
    · exact tail3_ok h0 (rev_perm r1) (by omega) (by omega) (r4.congr (rev_same (by omega) r5))
    · exact tail3_ok h0 r1 (by omega) (by omega) r4
  · have : i = m := by omega
    subst this; rfl
theorem count_ok (h0 : 0 < n) {p : Array Nat} (hp : PermR n p) : TOk n kf (kas_count n p) fun r => PermR n r.2 ∧ 1 ≤ r.1 ∧ r.1 ≤ n ∧ Up kf r.2 r.1 := by
  have hsz := hp.size
  refine TOk.bind (TOk.mono (fun r hr => ?_) (asc_ok hp h0 (n - 1) 1 (Nat.le_refl _)))
  obtain ⟨r1, r2, r3, r4⟩ := hr
  have hu : Up kf p r := Up.steps (a := 1) r (fun i j h1 h2 => by
    have : i = j := by omega
    subst this; exact Int.le_refl _) fun i h1 h2 _ => r3 i h1 h2
  by_cases he : r = n
  · rw [if_pos (by rw [he]; exact beq_self_eq_true n)]
    exact ⟨hp, r1, by show r ≤ n; omega, hu⟩
  · rw [if_neg (fun z => he (beq_iff_eq.mp z))]
    have hlt := r4 (by omega)
    split
    · rename_i h1
      refine ⟨hp.lt h0 _, hp.lt h0 _, ?_⟩
      by_cases h : KP kf p 0 < KP kf p (r - 1)
      · rw [show decide (kf (p.getD 0 0) < kf (p.getD (r - 1) 0)) = true from decide_eq_true h]; dsimp only; rw [if_pos rfl]
        exact ⟨hp, r1, by show r ≤ n; omega, hu⟩
      · rw [show decide (kf (p.getD 0 0) < kf (p.getD (r - 1) 0)) = false from decide_eq_false h]; dsimp only; rw [if_neg Bool.false_ne_true]
        have hall : ∀ i, i < r → KP kf p i = KP kf p (r - 1) := fun i hi => by
          have a1 := hu 0 i (by omega) hi
          have a2 := hu i (r - 1) (by omega) (by omega)
          have a3 := Int.not_lt.mp h
          omega
        have e : ∀ i, KP kf (kas_rev p 0 r) i = KP kf p i := fun i => by
          rw [KP_rev (by omega)]
          split
          · rw [hall _ (by omega), hall i (by omega)]
          · rfl
        refine descPart_ok h0 (rev_perm hp) r1 (by omega) (Down.congr (p := p) (fun i j h1 h2 => ?_) e)
        by_cases hj : j = r
        · subst hj
          by_cases hi : i = j
          · subst hi; exact Int.le_refl _
          · rw [hall i (by omega)]; omega
        · rw [hall i (by omega), hall j (by omega)]; exact Int.le_refl _
    · have hr1 : r = 1 := by omega
      subst hr1
      refine descPart_ok h0 hp r1 (by omega) fun i j h1 h2 => ?_
      by_cases hi : i = j
      · subst hi; exact Int.le_refl _
      · have e1 : i = 0 := by omega
        have e2 : j = 1 := by omega
        subst e1; subst e2; exact Int.le_of_lt hlt
theorem place_ok (h0 : 0 < n) {p : Array Nat} {k : Nat} (hp : PermR n p) (hu : Up kf p k) : ∀ (f l r : Nat), l ≤ r → r ≤ k → r - l ≤ f → (∀ i, i < l → KP kf p i ≤ KP kf p k) → (∀ i, r ≤ i → i < k → KP kf p k < KP kf p i) → TOk n kf (kas_place p k f l r) fun m => m ≤ k ∧ (∀ i, i < m → KP kf p i ≤ KP kf p k) ∧ ∀ i, m ≤ i → i < k → KP kf p k < KP kf p i
  | 0, l, r, h1, h2, h3, h4, h5 => by
    have : l = r := by omega
    subst this
    exact ⟨h2, h4, h5⟩
  | f + 1, l, r, h1, h2, h3, h4, h5 => by
    unfold kas_place
    split
    · have : l = r := by omega
      subst this
      exact ⟨h2, h4, h5⟩
    · rename_i hge
      refine ⟨hp.lt h0 _, hp.lt h0 _, ?_⟩
      by_cases h : KP kf p k < KP kf p ((l + r) / 2)
      · rw [show decide (kf (p.getD k 0) < kf (p.getD ((l + r) / 2) 0)) = true from decide_eq_true h]; dsimp only; rw [if_pos rfl]
        exact place_ok h0 hp hu f l ((l + r) / 2) (by omega) (by omega) (by omega) h4 fun i a b => Int.lt_of_lt_of_le h (hu _ _ a b)
      · rw [show decide (kf (p.getD k 0) < kf (p.getD ((l + r) / 2) 0)) = false from decide_eq_false h]; dsimp only; rw [if_neg Bool.false_ne_true]
        exact place_ok h0 hp hu f ((l + r) / 2 + 1) r (by omega) (by omega) (by omega) (fun i a => Int.le_trans (hu i ((l + r) / 2) (by omega) (by omega)) (Int.not_lt.mp h)) h5
theorem bin_ok (h0 : 0 < n) : ∀ (f : Nat) (p : Array Nat) (k : Nat), PermR n p → k + f = n → Up kf p k → TOk n kf (kas_bin f p k) fun r => PermR n r ∧ Up kf r n
  | 0, p, k, hp, hk, hu => by
    have : k = n := by omega
    subst this
    exact ⟨hp, hu⟩
  | f + 1, p, k, hp, hk, hu => by
    refine TOk.bind (TOk.mono (fun l hl => ?_) (place_ok h0 hp hu k 0 k (by omega) (Nat.le_refl _) (by omega) (fun i h => by omega) fun i h1 h2 => by omega))
    obtain ⟨l1, l2, l3⟩ := hl
    have hks : k < p.size := by rw [hp.size]; omega
    refine bin_ok h0 f _ (k + 1) (hp.of (bubble_perm _ _ _)) (by omega) fun i j hij hj => ?_
    rw [KP_bubble hks (by omega), KP_bubble hks (by omega), show k - (k - l) = l by omega]
    repeat' split
    all_goals first
      | (exfalso; omega)
      | exact Int.le_refl _
      | exact l2 _ (by omega)
      | exact Int.le_of_lt (l3 _ (by omega) (by omega))
      | exact hu _ _ (by omega) (by omega)
theorem sort_ok (h0 : 0 < n) : TOk n kf (kas_sort n) fun r => PermR n r ∧ Up kf r n := by
  refine TOk.bind (TOk.mono (fun r hr => ?_) (count_ok h0 (p := List.toArray (List.range n)) (by unfold PermR; rw [List.toList_toArray])))
  obtain ⟨r1, r2, r3, r4⟩ := hr
  split
  · exact bin_ok h0 _ _ _ r1 (by omega) (by rw [show max r.1 1 = r.1 by omega]; exact r4)
  · have : r.1 = n := by omega
    rw [this] at r4
    exact ⟨r1, r4⟩
end
end Internal

set_option Elab.async false
set_option linter.all false
set_option maxRecDepth 100000
set_option maxHeartbeats 4000000
namespace Internal
open PySem PySem.W PySem.Calls PyProof.Rows
section
variable {prog : Program} {w : World} {A : Around} {E : Value → Shared → Prop}
end
end Internal

set_option Elab.async false
set_option linter.all false
set_option maxRecDepth 100000
set_option maxHeartbeats 4000000
namespace Internal
open PySem PySem.W PySem.Spec PySem.Calls PyProof.Rows
section
variable {prog : Program} {w : World} {A : Around} {E : Value → Shared → Prop}
theorem srt_plain {s : Shared} {a : Addr} {vs : List Value} {n0 : Nat} {kf : Nat → Int} {P : PySem.Fin → Shared → Prop} (ho : s.heap.get? a = some (seqObj "list" vs.toArray n0)) (h64 : vs.length < 64)
    (ht : ∀ h', (∀ b o, b ≠ a → s.heap.get? b = some o → h'.get? b = some o) → ∃ fs, KatTups h' vs fs ∧ (∀ v ∈ fs, ∃ i t, v = Value.int i t) ∧ fs.length = vs.length)
    (hask : ∀ h', (∀ b o, b ≠ a → s.heap.get? b = some o → h'.get? b = some o) → ∀ i j (C : Bool → Shared → Prop), i < vs.length → j < vs.length → C (decide (kf i < kf j)) { s with heap := h' } → wpAny (model prog w) A (keyLt' (tuples' true) (vs.getD i Value.none) (vs.getD j Value.none)) C (fun _ _ => False) { s with heap := h' })
    (h : ∀ (p : List Nat) h' c, p.Perm (List.range vs.length) → (∀ i j, i ≤ j → j < vs.length → kf (p.getD i 0) ≤ kf (p.getD j 0)) → (∀ b o, b ≠ a → s.heap.get? b = some o → h'.get? b = some o) →
      h'.get? a = some (seqObj "list" (List.toArray (p.map fun i => vs.getD i Value.none)) c) → P (.done (.ret .none)) { s with heap := h' }) :
    wpAny (model prog w) A (Builtin.«list.sort» ⟨[.ref a], []⟩) P E s := by
  have ha : a < s.heap.objs.size := Heap.lt_size ho
  have s1 := Heap.SameBut.update s.heap a (Obj.mapSeq fun _ => (#[] : Array Value))
  obtain ⟨e1, ho1⟩ : ∃ e1, (s.heap.update a (Obj.mapSeq fun _ => (#[] : Array Value))).get? a = some (seqObj "list" #[] e1) := ⟨_, get?_update_seq ho fun _ => #[]⟩
  have keep : ∀ b o, b ≠ a → s.heap.get? b = some o → (((s.heap.update a (Obj.mapSeq fun _ => (#[] : Array Value))).push (seqObj "tuple" vs.toArray 0)).push (seqObj "list" #[] 0)).get? b = some o := fun b o n q =>
    Heap.get?_push_of_some _ (Heap.get?_push_of_some _ ((s1.2 b n).trans q))
  have ho3 : (((s.heap.update a (Obj.mapSeq fun _ => (#[] : Array Value))).push (seqObj "tuple" vs.toArray 0)).push (seqObj "list" #[] 0)).get? a = some (seqObj "list" #[] e1) := Heap.get?_push_of_some _ (Heap.get?_push_of_some _ ho1)
  rw [list_sort_plain]
  refine wpAny_bind (listItems_at ho rfl ?_)
  refine wpAny_bind (listUpdate_at ho rfl ?_ (by rw [List.size_toArray, sizeLine_eq]; omega) (Nat.zero_le _))
  refine wpAny_bind (seqEpoch_at ho1 rfl ?_)
  refine wpAny_bind (wpAny_newTuple ?_ (by show vs.length ≤ _; rw [sizeLine_eq]; omega))
  refine wpAny_bind (wpAny_newList ?_ (Nat.zero_le _))
  refine wpAny_holding ?_
  show wpAny (model prog w) A _ P E { s with heap := ((s.heap.update a (Obj.mapSeq fun _ => (#[] : Array Value))).push (seqObj "tuple" vs.toArray 0)).push (seqObj "list" #[] 0) }
  dsimp only
  generalize ((s.heap.update a (Obj.mapSeq fun _ => (#[] : Array Value))).push (seqObj "tuple" vs.toArray 0)).push (seqObj "list" #[] 0) = h3 at *
  have fin : ∀ (out : List Value) (p : List Nat), out.length < 64 → p.Perm (List.range vs.length) → (∀ i j, i ≤ j → j < vs.length → kf (p.getD i 0) ≤ kf (p.getD j 0)) → out = (p.map fun i => vs.getD i Value.none) →
      P (.done (.ret .none)) { s with heap := h3.update a (Obj.mapSeq fun _ => List.toArray out) } := fun out p _ hp hs he => by
    have s2 := Heap.SameBut.update h3 a (Obj.mapSeq fun _ => List.toArray out)
    obtain ⟨c2, hc2⟩ : ∃ c2, (h3.update a (Obj.mapSeq fun _ => List.toArray out)).get? a = some (seqObj "list" (List.toArray out) c2) := ⟨_, get?_update_seq ho3 fun _ => List.toArray out⟩
    refine h p _ c2 hp hs (fun b o n q => (s2.2 b n).trans (keep b o n q)) ?_
    rw [← he]
    exact hc2
  by_cases h2 : 2 ≤ vs.length
  · have hn2 : ¬ vs.toArray.size < 2 := by rw [List.size_toArray]; omega
    rw [if_neg hn2, if_neg hn2]
    obtain ⟨fs, t1, t2, t3⟩ := ht h3 keep
    refine wpAny_bind (kat_kind (T := .type "int") (s := { s with heap := h3 }) t1 (by omega) (fun v hv => ?_) (by rfl) ?_)
    · obtain ⟨i, t, rfl⟩ := t2 v hv
      exact .now
    rw [show (Value.type "int" != Value.type "tuple") = true from by rfl]
    have tree : (kas_sort vs.length).kasWp (kas_ask prog w A (tuples' true) vs) (fun p s' => s' = { s with heap := h3 } ∧ PermR vs.length p ∧ Up kf p vs.length) { s with heap := h3 } :=
      TOk.wp (n := vs.length) (kf := kf) (fun i j C hi hj hc => hask h3 keep i j C hi hj hc) (TOk.mono (fun p hp => ⟨rfl, hp.1, hp.2⟩) (sort_ok (by omega)))
    refine wpAny_bind (wpAny_mono (kat_run (Q := fun st' s' => ∃ p : Array Nat, p.size = vs.length ∧ arrOf st' = p.map (kas_item (vs.toArray.zip vs.toArray)) ∧ failedOf st' = none ∧ s' = { s with heap := h3 } ∧ PermR vs.length p ∧ Up kf p vs.length)
      rfl h2 h64 (fun p' st' s' a1 a2 a3 a4 => ⟨p', a1, a2, a3, a4⟩) tree) ?_ fun _ _ x => x)
    rintro ⟨⟨⟩, st'⟩ s' ⟨p, hp, har, hf, rfl, hpr, hup⟩
    try dsimp only
    have hout := kat_snds rfl har
    have hsz : (List.toArray (p.toList.map fun i => vs.getD i Value.none)).size = vs.length := by rw [List.size_toArray, List.length_map, Array.length_toList, hp]
    rw [hout]
    refine wpAny_bind (seqEpoch_at ho3 rfl ?_)
    refine wpAny_bind (listUpdate_at ho3 rfl ?_ (Nat.zero_le _) (Nat.le_trans (Nat.le_of_eq hsz) (by rw [sizeLine_eq]; omega)))
    rw [hf]
    simp only [bne_self_eq_false, Bool.false_eq_true, if_false]
    refine wpAny_pure (fin _ p.toList (by rw [List.length_map, Array.length_toList, hp]; exact h64) hpr (fun i j hij hj => ?_) rfl)
    have := hup i j hij hj
    unfold KP at this
    simpa [Array.getD_eq_getD_getElem?, List.getD_eq_getElem?_getD] using this
  · have hn2 : vs.toArray.size < 2 := by rw [List.size_toArray]; omega
    rw [if_pos hn2, if_pos hn2]
    refine wpAny_bind (wpAny_pure ?_)
    refine wpAny_bind (wpAny_pure ?_)
    try dsimp only
    have hout : (Array.map (fun x : Value × Value => x.2) (vs.toArray.zip vs.toArray)) = List.toArray vs := by
      apply Array.toList_inj.mp
      rw [Array.toList_map, Array.toList_zip]
      exact List.map_snd_zip (Nat.le_refl _)
    have hsz : (List.toArray vs).size = vs.length := by rw [List.size_toArray]
    refine wpAny_bind (seqEpoch_at ho3 rfl ?_)
    rw [show (Array.map (fun x : Value × Value => x.2) (arrOf (SortSt.mk' general' (vs.toArray.zip vs.toArray) #[] 7 none))) = List.toArray vs from hout]
    refine wpAny_bind (listUpdate_at ho3 rfl ?_ (Nat.zero_le _) (Nat.le_trans (Nat.le_of_eq hsz) (by rw [sizeLine_eq]; omega)))
    simp only [bne_self_eq_false, Bool.false_eq_true, if_false]
    refine wpAny_pure (fin vs (List.range vs.length) h64 (List.Perm.refl _) (fun i j hij hj => ?_) ?_)
    · obtain rfl : i = j := by omega
      exact Int.le_refl _
    · refine List.ext_getElem (by rw [List.length_map, List.length_range]) fun i h1 h2 => ?_
      rw [List.getElem_map, List.getElem_range, List.getD_eq_getElem?_getD, List.getElem?_eq_getElem h1]; rfl
theorem srt_sorted {s : Shared} {l : Addr} {vs : List Value} {kf : Nat → Int} {Q : Value → Shared → Prop} (hl : s.heap.IsList l vs.toArray) (h64 : vs.length < 64)
    (ht : ∀ h', (∀ b o, s.heap.get? b = some o → h'.get? b = some o) → ∃ fs, KatTups h' vs fs ∧ (∀ v ∈ fs, ∃ i t, v = Value.int i t) ∧ fs.length = vs.length)
    (hask : ∀ h', (∀ b o, s.heap.get? b = some o → h'.get? b = some o) → ∀ i j (C : Bool → Shared → Prop), i < vs.length → j < vs.length → C (decide (kf i < kf j)) { s with heap := h' } → wpAny (model prog w) A.in1.in1 (keyLt' (tuples' true) (vs.getD i Value.none) (vs.getD j Value.none)) C (fun _ _ => False) { s with heap := h' })
    (h : ∀ (p : List Nat) h' D c, p.Perm (List.range vs.length) → (∀ i j, i ≤ j → j < vs.length → kf (p.getD i 0) ≤ kf (p.getD j 0)) → (∀ b o, s.heap.get? b = some o → h'.get? b = some o) → s.heap.objs.size < D →
      h'.get? D = some (seqObj "list" (List.toArray (p.map fun i => vs.getD i Value.none)) c) → Q (.ref D) { s with heap := h' }) :
    wpAny (model prog w) A (call (.builtin "sorted") [.ref l]) Q E s := by
  refine Calls.call_function_entry kind_sorted plain_sorted entry_sorted (args_sorted1 _) ?_
  unfold Builtin.«sorted»
  refine wpAny_bind (m := checkCount "sorted" 1 1 _) (wpAny_pure ?_)
  refine wpAny_bind (collect_list hl ?_ (by rw [sizeLine_eq]; omega))
  refine wpAny_bind (wpAny_newList ?_ (by rw [sizeLine_eq]; omega))
  have hsz : ((s.heap.push (seqObj "list" #[] 0)).update s.heap.objs.size (Obj.mapSeq (· ++ vs.toArray))).objs.size = s.heap.objs.size + 1 := by
    rw [Heap.size_update, size_push']
  have hoL : (((s.heap.push (seqObj "list" #[] 0)).update s.heap.objs.size (Obj.mapSeq (· ++ vs.toArray))).push (seqObj "list" vs.toArray 0)).get? (s.heap.objs.size + 1) = some (seqObj "list" vs.toArray 0) := by
    rw [← hsz]; exact Heap.get?_push_size _ rfl
  have keep : ∀ b o, s.heap.get? b = some o → (((s.heap.push (seqObj "list" #[] 0)).update s.heap.objs.size (Obj.mapSeq (· ++ vs.toArray))).push (seqObj "list" vs.toArray 0)).get? b = some o := fun b o q => by
    have hlt : b < s.heap.objs.size := Heap.lt_size q
    rw [Heap.get?_push_ne _ _ _ (by rw [hsz]; exact Nat.ne_of_lt (Nat.lt_succ_of_lt hlt)), Heap.get?_update_ne _ _ _ _ (Nat.ne_of_lt hlt), Heap.get?_push_ne _ _ _ (Nat.ne_of_lt hlt)]
    exact q
  have ne : ∀ b o, s.heap.get? b = some o → b ≠ s.heap.objs.size + 1 := fun b o q => Nat.ne_of_lt (Nat.lt_succ_of_lt (Heap.lt_size q))
  show wpAny _ _ _ _ _ { s with heap := ((s.heap.push (seqObj "list" #[] 0)).update s.heap.objs.size (Obj.mapSeq (· ++ vs.toArray))).push (seqObj "list" vs.toArray 0) }
  rw [hsz]
  refine wpAny_bind (wpAny_holding (wpAny_call_entry slot_list_sort ⟨_, hoL, rfl⟩ entry_list_sort ?body (args_list_sort _)))
  case body =>
    refine srt_plain (kf := kf) (s := { s with heap := ((s.heap.push (seqObj "list" #[] 0)).update s.heap.objs.size (Obj.mapSeq (· ++ vs.toArray))).push (seqObj "list" vs.toArray 0) }) hoL h64
      (fun h' k => ht h' fun b o q => k b o (ne b o q) (keep b o q)) (fun h' k => hask h' fun b o q => k b o (ne b o q) (keep b o q)) fun p h' c hp hs k1 k2 => ?_
    exact ⟨_, rfl, wpAny_pure ⟨_, rfl, h p h' _ c hp hs (fun b o q => k1 b o (ne b o q) (keep b o q)) (Nat.lt_succ_self _) k2⟩⟩
end
noncomputable def Tup3 (h : Heap) (v : Value) (x : Int × Int × Int) : Prop := ∃ (a : Addr) (ob : Obj) (t u r : Tok) (n : Nat), v = .ref a ∧ h.get? a = some ob ∧ ob.cls = .type "tuple" ∧ ob.data = .seq #[.int x.1 t, .int x.2.1 u, .int x.2.2 r] n
theorem Tup3.mono {h h' : Heap} {v : Value} {x : Int × Int × Int} (k : ∀ b o, h.get? b = some o → h'.get? b = some o) (q : Tup3 h v x) : Tup3 h' v x := by
  obtain ⟨a, ob, t, u, r, n, e, h1, h2, h3⟩ := q
  exact ⟨a, ob, t, u, r, n, e, k _ _ h1, h2, h3⟩
theorem tups_of3 {h : Heap} : ∀ (ks : List Value), (∀ (i : Nat) (v : Value), ks[i]? = some v → ∃ x, Tup3 h v x) → ∃ fs, KatTups h ks fs ∧ (∀ v ∈ fs, ∃ i t, v = Value.int i t) ∧ fs.length = ks.length
  | [], _ => ⟨[], .nil, (fun _ z => nomatch z), rfl⟩
  | v :: ks, hk => by
    obtain ⟨x, a, ob, t, u, r, n, rfl, h1, h2, h3⟩ := hk 0 v rfl
    obtain ⟨fs, f1, f2, f3⟩ := tups_of3 ks fun i v e => hk (i + 1) v e
    refine ⟨.int x.1 t :: fs, .cons h1 h2 h3 rfl f1, fun v hv => ?_, by rw [List.length_cons, List.length_cons, f3]⟩
    rcases List.mem_cons.mp hv with rfl | hv
    · exact ⟨_, _, rfl⟩
    · exact f2 v hv
noncomputable def key3 (x : Int × Int × Int) : Int := x.1 * 1000000 + x.2.1
theorem ask_of3 {prog : Program} {w : World} {A : Around} {s : Shared} {v v' : Value} {x x' : Int × Int × Int} {C : Bool → Shared → Prop} (h1 : Tup3 s.heap v x) (h2 : Tup3 s.heap v' x') (b1 : 0 ≤ x.2.1 ∧ x.2.1 < 1000000) (b2 : 0 ≤ x'.2.1 ∧ x'.2.1 < 1000000) (he : x.2.1 = x'.2.1 → x = x')
    (h : C (decide (key3 x < key3 x')) s) : wpAny (model prog w) A (keyLt' (tuples' true) v v') C (fun _ _ => False) s := by
  obtain ⟨a, ob, t, u, r, n, rfl, a1, a2, a3⟩ := h1
  obtain ⟨b, oc, t', u', r', n', rfl, c1, c2, c3⟩ := h2
  refine kat_lt a1 a3 c1 c3 ?_
  show KatLex prog w A true (decide (3 < 3)) C [(.int x.1 t, .int x'.1 t'), (.int x.2.1 u, .int x'.2.1 u'), (.int x.2.2 r, .int x'.2.2 r')] 0 s
  unfold key3 at h
  refine kat_cons (wpAny_eqBool_int ?_)
  by_cases e : x.1 = x'.1
  · rw [show (x.1 == x'.1) = true from beq_iff_eq.mpr e]
    refine kat_yes (kat_cons (wpAny_eqBool_int ?_))
    by_cases e2 : x.2.1 = x'.2.1
    · rw [show (x.2.1 == x'.2.1) = true from beq_iff_eq.mpr e2]
      refine kat_yes (kat_cons (wpAny_eqBool_int ?_))
      have e3 := he e2
      rw [show (x.2.2 == x'.2.2) = true from beq_iff_eq.mpr (by rw [e3])]
      refine kat_yes (kat_nil ?_)
      have : decide (x.1 * 1000000 + x.2.1 < x'.1 * 1000000 + x'.2.1) = decide (3 < 3) := decide_eq_decide.mpr (by omega)
      rw [this] at h
      exact h
    · rw [show (x.2.1 == x'.2.1) = false from beq_eq_false_iff_ne.mpr e2]
      refine kat_no ?_
      show wpAny _ _ (oneLt' false _ _) _ _ _
      have : decide (x.1 * 1000000 + x.2.1 < x'.1 * 1000000 + x'.2.1) = decide (x.2.1 < x'.2.1) := decide_eq_decide.mpr (by omega)
      rw [this] at h
      exact kat_one _ _ (PyProof.Rows.lt_int h)
  · rw [show (x.1 == x'.1) = false from beq_eq_false_iff_ne.mpr e]
    refine kat_no ?_
    show wpAny _ _ (oneLt' true _ _) _ _ _
    have : decide (x.1 * 1000000 + x.2.1 < x'.1 * 1000000 + x'.2.1) = decide (x.1 < x'.1) := decide_eq_decide.mpr (by omega)
    rw [this] at h
    exact oneLt_int h
noncomputable def e3V (x : Int × Int × Int) : List V := [.int x.1, .int x.2.1, .int x.2.2]
noncomputable def Apart3 (xs : List (Int × Int × Int)) : Prop := (∀ x ∈ xs, 0 ≤ x.2.1 ∧ x.2.1 < 1000000) ∧ ∀ x ∈ xs, ∀ y ∈ xs, x.2.1 = y.2.1 → x = y
noncomputable def rSorted3 (K : PySem.W.Frag) : List V → Hp → VK → Prop := fun vs H Q => ∃ (a : Addr) (us : List V) (xs : List (Int × Int × Int)), vs = [.ref a] ∧ SqL K H a us ∧ IsTs e3V H us xs ∧ xs.length < 64 ∧ Apart3 xs ∧
  ∀ l us' xs', H l = none → xs'.Perm xs → xs'.Pairwise (fun a b => key3 a ≤ key3 b) → IsTs e3V H us' xs' → Q (.ref l) (upd H l (.lst us'))
theorem isTs_pick {H : Hp} {us : List V} {xs : List (Int × Int × Int)} (h : IsTs e3V H us xs) : ∀ p : List Nat, (∀ i ∈ p, i < xs.length) → IsTs e3V H (p.map fun i => us.getD i .non) (p.map fun i => xs.getD i (0, 0, 0))
  | [], _ => trivial
  | i :: p, hp => by
    obtain ⟨x, hx⟩ := lt_some (hp i List.mem_cons_self)
    obtain ⟨a, ha, ht⟩ := h.getI hx
    rw [List.map_cons, List.map_cons]
    refine ⟨⟨a, ?_, ?_⟩, isTs_pick h p fun j hj => hp j (List.mem_cons_of_mem _ hj)⟩
    · rw [List.getD_eq_getElem?_getD, ha]; rfl
    · rw [List.getD_eq_getElem?_getD, hx]; exact ht
theorem vals_pick {us : List V} {its : List Value} (h : Vals us its) : ∀ p : List Nat, (∀ i ∈ p, i < us.length) → Vals (p.map fun i => us.getD i .non) (p.map fun i => its.getD i Value.none)
  | [], _ => .nil
  | i :: p, hp => by
    rw [List.map_cons, List.map_cons]
    refine .cons ?_ (vals_pick h p fun j hj => hp j (List.mem_cons_of_mem _ hj))
    obtain ⟨x, hx⟩ := lt_some (hp i List.mem_cons_self)
    obtain ⟨v, hv, r⟩ := h.get hx
    rw [List.getD_eq_getElem?_getD, List.getD_eq_getElem?_getD, hx, hv]
    exact r
theorem call_sorted3 {X : Cx} : CallR X (.builtin "sorted") (rSorted3 X.K) := by
  intro pins s σ H ys us0 Q I r h
  obtain ⟨a, us, xs, rfl, hq, hI, hl, ⟨hb, hap⟩, q⟩ := h
  obtain ⟨u, rfl, r1⟩ := vals1 r
  cases r1
  obtain ⟨its, rv, pl, hil, hlt⟩ := I.walk hq
  have hul := hI.length
  have tup : ∀ (i : Nat), i < xs.length → Tup3 s.heap (its.getD i Value.none) (xs.getD i (0, 0, 0)) := fun i hi => by
    obtain ⟨x, hx⟩ := lt_some hi
    obtain ⟨b, hb1, ht⟩ := hI.getI hx
    obtain ⟨v, hv, rb⟩ := rv.get hb1
    cases rb
    obtain ⟨tis, tr, ⟨o, e, hc, n, hd⟩, _⟩ := I.tuple (SqT.of ht)
    rw [List.getD_eq_getElem?_getD, List.getD_eq_getElem?_getD, hx, hv]
    match tis, tr with
    | [_, _, _], .cons ⟨t1, rfl⟩ (.cons ⟨t2, rfl⟩ (.cons ⟨t3, rfl⟩ .nil)) => exact ⟨b, o, t1, t2, t3, n, rfl, e, hc, hd⟩
  have mem : ∀ i, i < xs.length → xs.getD i (0, 0, 0) ∈ xs := fun i hi => by
    obtain ⟨x, hx⟩ := lt_some hi
    rw [List.getD_eq_getElem?_getD, hx]
    exact List.mem_of_getElem? hx
  have hlen : its.length = xs.length := by rw [hil]; exact hul
  refine srt_sorted (vs := its) (kf := fun i => key3 (xs.getD i (0, 0, 0))) pl (by omega) (fun h' k => tups_of3 its fun i v hv => ?_) (fun h' k i j C hi hj hC => ?_) fun p h' D c hp hs k hD hget => ?_
  · have hi := (List.getElem?_eq_some_iff.mp hv).1
    have := (tup i (by omega)).mono k
    rw [List.getD_eq_getElem?_getD, hv] at this
    exact ⟨_, this⟩
  · exact ask_of3 (s := { s with heap := h' }) ((tup i (by omega)).mono k) ((tup j (by omega)).mono k) (hb _ (mem i (by omega))) (hb _ (mem j (by omega))) (hap _ (mem i (by omega)) _ (mem j (by omega))) hC
  · rw [hlen] at hp hs
    have hpl : p.length = xs.length := by rw [hp.length_eq, List.length_range]
    have hpm : ∀ i ∈ p, i < xs.length := fun i hi => List.mem_range.mp (hp.mem_iff.mp hi)
    have J : Inv X pins σ (upd H D (.lst (p.map fun i => us.getD i .non))) { s with heap := h', toks := s.toks } := I.laid (fun b o z => k b o z) (Nat.le_of_lt hD) ⟨by rw [List.length_map]; exact small_le (by omega), _, c, vals_pick rv p (fun i hi => by rw [hul]; exact hpm i hi), hget⟩
    refine ⟨.ref D, _, J, rfl, q D _ (p.map fun i => xs.getD i (0, 0, 0)) (I.hok.fresh (Nat.le_of_lt hD)) ?_ ?_ (isTs_pick hI p hpm)⟩
    · have e : (List.range xs.length).map (fun i => xs.getD i (0, 0, 0)) = xs := by
        refine List.ext_getElem (by rw [List.length_map, List.length_range]) fun i h1 h2 => ?_
        rw [List.getElem_map, List.getElem_range, List.getD_eq_getElem?_getD, List.getElem?_eq_getElem h2]; rfl
      have := hp.map fun i => xs.getD i (0, 0, 0)
      rw [e] at this
      exact this
    · refine List.pairwise_iff_getElem.mpr fun i j h1 h2 hij => ?_
      rw [List.length_map] at h1 h2
      rw [List.getElem_map, List.getElem_map]
      have := hs i j (by omega) (by omega)
      have g : ∀ k (h : k < p.length), p.getD k 0 = p[k] := fun k h => by rw [List.getD_eq_getElem?_getD, List.getElem?_eq_getElem h]; rfl
      rw [g i h1, g j h2] at this
      exact this
theorem x_sort3 {K : PySem.W.Frag} {H : Hp} {Q : VK} {a : Addr} {us : List V} {xs : List (Int × Int × Int)} (h : H a = some (.lst us)) (hI : IsTs e3V H us xs) (hl : xs.length < 64) (ha : Apart3 xs) (q : ∀ l H' us' xs', H l = none → Same H H' → H' l = some (.lst us') → IsTs e3V H' us' xs' → xs'.Perm xs → xs'.Pairwise (fun a b => key3 a ≤ key3 b) → Q (.ref l) H') : rSorted3 K [.ref a] H Q :=
  ⟨a, us, xs, rfl, .of h, hI, hl, ha, fun l us' xs' fl hp hs hI' => q l _ us' xs' fl (Same.new fl _) upd_same (hI'.same (Same.new fl _)) hp hs⟩
theorem sort3_eq {xs ys zs : List (Int × Int × Int)} (ha : Apart3 xs) (h1 : ys.Perm xs) (h2 : zs.Perm xs) (s1 : ys.Pairwise (fun a b => key3 a ≤ key3 b)) (s2 : zs.Pairwise (fun a b => key3 a ≤ key3 b)) : ys = zs := by
  refine List.Perm.eq_of_pairwise (fun a b hy hz k1 k2 => ?_) s1 s2 (h1.trans h2.symm)
  have ma := h1.mem_iff.mp hy
  have mb := h2.mem_iff.mp hz
  have c1 := ha.1 a ma
  have c2 := ha.1 b mb
  refine ha.2 a ma b mb ?_
  unfold key3 at k1 k2
  omega
end Internal

set_option Elab.async false
set_option linter.all false
set_option maxRecDepth 100000
namespace Internal
open PySem PySem.Spec PyProof.Rows
noncomputable def posD (t : T7 × Str) (m : Int) (j : Nat) : Int := if t.2 = ("standing" : Str) ∧ t.1.w = (j : Int) then (if t.1.p = m then t.1.u else if t.1.q = m then -t.1.u else 0) else 0
noncomputable def posF : List (T7 × Str) → Int → Nat → Int
  | [], _, _ => 0
  | t :: ts, m, j => posD t m j + posF ts m j
theorem posF_app (ts us : List (T7 × Str)) (m : Int) (j : Nat) : posF (ts ++ us) m j = posF ts m j + posF us m j := by
  induction ts with
  | nil => show posF us m j = 0 + posF us m j; omega
  | cons t ts ih => show posD t m j + posF (ts ++ us) m j = posD t m j + posF ts m j + posF us m j; rw [ih]; omega
theorem posF_take {ts : List (T7 × Str)} {i : Nat} {t : T7 × Str} (h : ts[i]? = some t) (m : Int) (j : Nat) : posF (ts.take (i + 1)) m j = posF (ts.take i) m j + posD t m j := by
  rw [List.take_succ, h, posF_app]
  show _ + (posD t m j + 0) = _
  omega
noncomputable def spPosition (C : Addr) : Sp := fun vs H Q _ => ∃ (b d : Addr) (m y n : Int) (w : Nat) (ts : List (T7 × Str)), vs = [.ref b, .int n] ∧ Bk C H b d m (w : Int) y ts ∧ (∀ t ∈ ts, 0 ≤ t.1.w ∧ t.1.w < (w : Int)) ∧ w ≤ 1000 ∧ ∀ p H', H p = none → Same H H' → H' p = some (.lst ((vec w (posF ts n)).map V.int)) → Q (.ref p) H'
noncomputable def entD (n : Nat) (t : T7 × Str) (m : Int) : List (Int × Int × Int) := if t.2 = ("broken" : Str) then [] else if t.1.p = m then [(t.1.y, (n : Int), -t.1.a)] else if t.1.q = m then [(t.1.y, (n : Int), t.1.a)] else []
noncomputable def entF (ts : List (T7 × Str)) (m : Int) : Nat → List (Int × Int × Int)
  | 0 => []
  | i + 1 => entF ts m i ++ (match ts[i]? with | some t => entD i t m | none => [])
section
variable {ts : List (T7 × Str)} {m : Int} {i : Nat}
theorem entF_succ {t : T7 × Str} (h : ts[i]? = some t) : entF ts m (i + 1) = entF ts m i ++ entD i t m := by
  show entF ts m i ++ (match ts[i]? with | some t => entD i t m | none => []) = _
  rw [h]
theorem entD_len (n : Nat) (t : T7 × Str) : (entD n t m).length ≤ 1 := by
  unfold entD
  (repeat' split) <;> simp
theorem entF_len : ∀ i, (entF ts m i).length ≤ i
  | 0 => Nat.le_refl _
  | i + 1 => by
    show (entF ts m i ++ (match ts[i]? with | some t => entD i t m | none => [])).length ≤ i + 1
    rw [List.length_append]
    have ih := entF_len i
    split
    · rename_i t _
      have := entD_len (m := m) i t
      omega
    · simp only [List.length_nil]; omega
theorem entF_mem {x : Int × Int × Int} : ∀ {i}, x ∈ entF ts m i → ∃ j t, j < i ∧ ts[j]? = some t ∧ x ∈ entD j t m
  | 0, h => nomatch h
  | i + 1, h => by
    rcases List.mem_append.mp h with h | h
    · obtain ⟨j, t, h1, h2, h3⟩ := entF_mem h
      exact ⟨j, t, by omega, h2, h3⟩
    · split at h
      · rename_i t ht
        exact ⟨i, t, by omega, ht, h⟩
      · exact nomatch h
theorem entD_num {j : Nat} {t : T7 × Str} {x : Int × Int × Int} (h : x ∈ entD j t m) : x.2.1 = (j : Int) := by
  unfold entD at h
  split at h
  · exact nomatch h
  · split at h
    · rw [List.mem_singleton.mp h]
    · split at h
      · rw [List.mem_singleton.mp h]
      · exact nomatch h
theorem entD_day {j : Nat} {t : T7 × Str} {x : Int × Int × Int} (h : x ∈ entD j t m) : x.1 = t.1.y := by
  unfold entD at h
  split at h
  · exact nomatch h
  · split at h
    · rw [List.mem_singleton.mp h]
    · split at h
      · rw [List.mem_singleton.mp h]
      · exact nomatch h
theorem entD_one {j : Nat} {t : T7 × Str} {x y : Int × Int × Int} (hx : x ∈ entD j t m) (hy : y ∈ entD j t m) : x = y := by
  unfold entD at hx hy
  split at hx
  · exact nomatch hx
  · rename_i h0
    rw [if_neg h0] at hy
    split at hx
    · rename_i h1
      rw [if_pos h1] at hy
      rw [List.mem_singleton.mp hx, List.mem_singleton.mp hy]
    · rename_i h1
      rw [if_neg h1] at hy
      split at hx
      · rename_i h2
        rw [if_pos h2] at hy
        rw [List.mem_singleton.mp hx, List.mem_singleton.mp hy]
      · exact nomatch hx
theorem entF_apart (hi : i ≤ 1000000) : Apart3 (entF ts m i) := by
  refine ⟨fun x hx => ?_, fun x hx y hy e => ?_⟩
  · obtain ⟨j, t, h1, h2, h3⟩ := entF_mem hx
    rw [entD_num h3]; omega
  · obtain ⟨j, t, h1, h2, h3⟩ := entF_mem hx
    obtain ⟨j', t', h1', h2', h3'⟩ := entF_mem hy
    rw [entD_num h3, entD_num h3'] at e
    obtain rfl : j = j' := by omega
    rw [h2] at h2'; cases h2'
    exact entD_one h3 h3'
end
noncomputable def dsum : List (Int × Int × Int) → Int → Int
  | [], _ => 0
  | x :: xs, z => (if x.1 = z then x.2.2 else 0) + dsum xs z
theorem dsum_app (xs ys : List (Int × Int × Int)) (z : Int) : dsum (xs ++ ys) z = dsum xs z + dsum ys z := by
  induction xs with
  | nil => show dsum ys z = 0 + dsum ys z; omega
  | cons x xs ih => show (if x.1 = z then x.2.2 else 0) + dsum (xs ++ ys) z = (if x.1 = z then x.2.2 else 0) + dsum xs z + dsum ys z; rw [ih]; omega
theorem dsum_perm {xs ys : List (Int × Int × Int)} (h : xs.Perm ys) (z : Int) : dsum xs z = dsum ys z := by
  induction h with
  | nil => rfl
  | cons x _ ih => show _ + dsum _ z = _ + dsum _ z; rw [ih]
  | swap x y l => show (if y.1 = z then y.2.2 else 0) + ((if x.1 = z then x.2.2 else 0) + dsum l z) = (if x.1 = z then x.2.2 else 0) + ((if y.1 = z then y.2.2 else 0) + dsum l z); omega
  | trans _ _ h1 h2 => rw [h1, h2]
noncomputable def tsum (f : Int → Int) : List Int → Int
  | [] => 0
  | k :: ks => f k + tsum f ks
theorem tsum_add (f g : Int → Int) : ∀ ks, tsum (fun k => f k + g k) ks = tsum f ks + tsum g ks
  | [] => rfl
  | k :: ks => by show f k + g k + tsum (fun k => f k + g k) ks = f k + tsum f ks + (g k + tsum g ks); rw [tsum_add f g ks]; omega
theorem tsum_zero : ∀ ks, tsum (fun _ => 0) ks = 0
  | [] => rfl
  | k :: ks => by show 0 + tsum (fun _ => 0) ks = 0; rw [tsum_zero ks]; rfl
theorem tsum_app (f : Int → Int) (ks : List Int) (k : Int) : tsum f (ks ++ [k]) = tsum f ks + f k := by
  induction ks with
  | nil => show f k + 0 = 0 + f k; omega
  | cons j ks ih => show f j + tsum f (ks ++ [k]) = f j + tsum f ks + f k; rw [ih]; omega
theorem tsum_not {p c : Int} : ∀ {ks : List Int}, p ∉ ks → tsum (fun k => if p = k then c else 0) ks = 0
  | [], _ => rfl
  | k :: ks, h => by
    show (if p = k then c else 0) + tsum _ ks = 0
    rw [if_neg (fun z => h (by rw [z]; exact List.mem_cons_self)), tsum_not fun z => h (List.mem_cons_of_mem _ z)]; rfl
theorem tsum_one {p c : Int} : ∀ {ks : List Int}, ks.Nodup → p ∈ ks → tsum (fun k => if p = k then c else 0) ks = c
  | [], _, h => nomatch h
  | k :: ks, nd, h => by
    obtain ⟨n1, n2⟩ := List.nodup_cons.mp nd
    show (if p = k then c else 0) + tsum _ ks = c
    by_cases e : p = k
    · rw [if_pos e, tsum_not (by rw [e]; exact n1)]; omega
    · rw [if_neg e, tsum_one n2 ((List.mem_cons.mp h).resolve_left e)]; omega
theorem even {ts : List (T7 × Str)} {ks : List Int} (nd : ks.Nodup) (hk : ∀ t ∈ ts, t.1.p ∈ ks ∧ t.1.q ∈ ks ∧ t.1.p ≠ t.1.q) (z : Int) : ∀ i, tsum (fun k => dsum (entF ts k i) z) ks = 0
  | 0 => tsum_zero ks
  | i + 1 => by
    cases ht : ts[i]? with
    | none =>
      have e : (fun k => dsum (entF ts k (i + 1)) z) = fun k => dsum (entF ts k i) z := funext fun k => by
        show dsum (entF ts k i ++ (match ts[i]? with | some t => entD i t k | none => [])) z = _
        rw [ht, List.append_nil]
      rw [e]; exact even nd hk z i
    | some t =>
      have e : (fun k => dsum (entF ts k (i + 1)) z) = fun k => dsum (entF ts k i) z + dsum (entD i t k) z := funext fun k => by rw [entF_succ ht, dsum_app]
      rw [e, tsum_add, even nd hk z i]
      obtain ⟨m1, m2, m3⟩ := hk t (List.mem_of_getElem? ht)
      have e2 : (fun k => dsum (entD i t k) z) = fun k => (if t.1.p = k then (if t.2 = ("broken" : Str) then 0 else if t.1.y = z then -t.1.a else 0) else 0) + (if t.1.q = k then (if t.2 = ("broken" : Str) then 0 else if t.1.y = z then t.1.a else 0) else 0) := funext fun k => by
        unfold entD
        by_cases h0 : t.2 = ("broken" : Str)
        · rw [if_pos h0, if_pos h0, if_pos h0]
          show (0 : Int) = _
          (repeat' split) <;> rfl
        · rw [if_neg h0, if_neg h0, if_neg h0]
          by_cases h1 : t.1.p = k
          · rw [if_pos h1, if_pos h1, if_neg (show ¬ t.1.q = k from fun w => m3 (h1.trans w.symm))]
            show (if t.1.y = z then -t.1.a else 0) + 0 = _
            rfl
          · rw [if_neg h1, if_neg h1]
            by_cases h2 : t.1.q = k
            · rw [if_pos h2, if_pos h2]
              show (if t.1.y = z then t.1.a else 0) + 0 = 0 + _
              omega
            · rw [if_neg h2, if_neg h2]; rfl
      rw [e2, tsum_add, tsum_one nd m1, tsum_one nd m2]
      split
      · rfl
      · split <;> omega
noncomputable def spEntries (C : Addr) : Sp := fun vs H Q _ => ∃ (b d : Addr) (m w y n : Int) (ts : List (T7 × Str)), vs = [.ref b, .int n] ∧ Bk C H b d m w y ts ∧ ts.length < 64 ∧ ∀ p H' us xs, H p = none → Same H H' → H' p = some (.lst us) → IsTs e3V H' us xs → xs.Perm (entF ts n ts.length) → xs.Pairwise (fun a b => key3 a ≤ key3 b) → Q (.ref p) H'
noncomputable abbrev FE := Int ⊕ List Int
noncomputable def feV (H : Hp) (v : V) : FE → Prop
  | .inl n => v = .int n
  | .inr ns => ∃ a, v = .ref a ∧ H a = some (.tup (ns.map V.int))
noncomputable def Fls (H : Hp) : List V → List FE → Prop
  | [], [] => True
  | v :: vs, e :: es => feV H v e ∧ Fls H vs es
  | _, _ => False
noncomputable def feD : FE → PyData
  | .inl n => .int n
  | .inr ns => .tuple (ns.map PyData.int)
section
variable {H H' : Hp}
theorem Fls.keep (t : Tups H H') : ∀ {vs : List V} {es : List FE}, Fls H vs es → Fls H' vs es
  | [], [], _ => trivial
  | [], _ :: _, h => h.elim
  | _ :: _, [], h => h.elim
  | _ :: _, .inl n :: _, h => ⟨h.1, Fls.keep t h.2⟩
  | _ :: _, .inr ns :: _, ⟨⟨a, e, h⟩, r⟩ => ⟨⟨a, e, t a _ h⟩, Fls.keep t r⟩
theorem Fls.app {v : V} {e : FE} (h : feV H v e) : ∀ {vs : List V} {es : List FE}, Fls H vs es → Fls H (vs ++ [v]) (es ++ [e])
  | [], [], _ => ⟨h, trivial⟩
  | [], _ :: _, q => q.elim
  | _ :: _, [], q => q.elim
  | _ :: _, _ :: _, q => ⟨q.1, Fls.app h q.2⟩
theorem Fls.ints (H : Hp) : ∀ ns : List Int, Fls H (ns.map V.int) (ns.map .inl)
  | [] => trivial
  | n :: ns => ⟨rfl, Fls.ints H ns⟩
theorem Fls.ts {α : Type} {f : α → List V} {g : α → List Int} (e : ∀ x, f x = (g x).map V.int) : ∀ {vs : List V} {xs : List α}, IsTs f H vs xs → Fls H vs (xs.map fun x => .inr (g x))
  | [], [], _ => trivial
  | [], _ :: _, h => h.elim
  | _ :: _, [], h => h.elim
  | _ :: _, x :: _, ⟨⟨a, q, h⟩, r⟩ => ⟨⟨a, q, by rw [← e x]; exact h⟩, Fls.ts e r⟩
theorem Fls.getT : ∀ {vs : List V} {es : List (List Int)} {i : Nat} {v : V}, Fls H vs (es.map .inr) → vs[i]? = some v → ∃ c ns, v = .ref c ∧ H c = some (.tup (ns.map V.int)) ∧ ns ∈ es
  | [], _, _, _, _, h => nomatch h
  | _ :: _, [], _, _, h, _ => h.elim
  | _ :: _, ns :: _, 0, _, ⟨⟨a, e, h⟩, _⟩, hv => by cases hv; exact ⟨a, ns, e, h, List.mem_cons_self⟩
  | _ :: _, _ :: _, i + 1, _, ⟨_, r⟩, hv => by
    obtain ⟨c, ns, h1, h2, h3⟩ := Fls.getT r (i := i) hv
    exact ⟨c, ns, h1, h2, List.mem_cons_of_mem _ h3⟩
theorem rep_int {K : PySem.W.Frag} : ∀ ns : List Int, RepAll K H (ns.map V.int) (ns.map PyData.int)
  | [] => .nil
  | n :: ns => .cons (.int n) (rep_int ns)
theorem Fls.rep {K : PySem.W.Frag} : ∀ {vs : List V} {es : List FE}, Fls H vs es → RepAll K H vs (es.map feD)
  | [], [], _ => .nil
  | [], _ :: _, h => h.elim
  | _ :: _, [], h => h.elim
  | _ :: _, .inl n :: _, ⟨h, r⟩ => by rw [show _ = V.int n from h]; exact .cons (.int n) (Fls.rep r)
  | _ :: _, .inr ns :: _, ⟨⟨a, e, h⟩, r⟩ => by rw [e]; exact .cons (.tup (.of h) (rep_int ns)) (Fls.rep r)
end
theorem depth_fe : ∀ es : List FE, PyData.depthAll (es.map feD) ≤ 1
  | [] => by simp [PyData.depthAll]
  | .inl n :: es => by have := depth_fe es; simp [feD, PyData.depthAll, PyData.depth]; omega
  | .inr ns :: es => by have := depth_fe es; simp [feD, PyData.depthAll, PyData.depth, depth_ints]; omega
theorem x_neFls {K : PySem.W.Frag} {H : Hp} {Q : VK} {a b : Addr} {vs ws : List V} {es : List FE} (h1 : H a = some (.lst vs)) (h2 : H b = some (.lst ws)) (f1 : Fls H vs es) (f2 : Fls H ws es) (q : Q (.bl false) H) : rNeU K (.ref a) (.ref b) H Q := by
  refine x_neD (.lst (.of h1) f1.rep) (.lst (.of h2) f2.rep) (by have := depth_fe es; rw [depth_list]; omega) ?_
  rw [PySem.SeqAt.eqv_refl _ (by rw [PyData.canLay0]; exact (f1.rep (K := K)).lay)]
  exact q
set_option genInjectivity false in
set_option genSizeOf false in
structure ZE where
  t : Addr
  u : Addr
  e1 : List FE
  e2 : List FE
noncomputable def pairV (z : ZE) : List V := [.ref z.t, .ref z.u]
noncomputable def HZ (H : Hp) (z : ZE) : Prop := (∃ vs, H z.t = some (.lst vs) ∧ Fls H vs z.e1) ∧ ∃ ws, H z.u = some (.lst ws) ∧ Fls H ws z.e2
set_option genInjectivity false in
set_option genSizeOf false in
structure HeldAt (H : Hp) (hl : Addr) (zs : List ZE) : Prop where
  ls : ∃ vs, H hl = some (.lst vs) ∧ IsTs pairV H vs zs
  hz : ∀ z ∈ zs, HZ H z
  nd : (zs.map (·.t)).Nodup
  tu : ∀ z ∈ zs, ∀ z' ∈ zs, z.t ≠ z'.u
  n : ∀ z ∈ zs, z.t ≠ hl ∧ z.u ≠ hl
theorem HZ.keep {H H' : Hp} {z : ZE} (h : HZ H z) (e : ∀ xs, H z.t = some (.lst xs) → H' z.t = some (.lst xs)) (e2 : ∀ xs, H z.u = some (.lst xs) → H' z.u = some (.lst xs)) (t : Tups H H') : HZ H' z := by
  obtain ⟨⟨vs, h1, h3⟩, ws, g1, g3⟩ := h
  exact ⟨⟨vs, e vs h1, h3.keep t⟩, ws, e2 ws g1, g3.keep t⟩
theorem HeldAt.keep {H H' : Hp} {hl : Addr} {zs : List ZE} (h : HeldAt H hl zs) (e : ∀ c xs, (c = hl ∨ ∃ z ∈ zs, c = z.t ∨ c = z.u) → H c = some (.lst xs) → H' c = some (.lst xs)) (t : Tups H H') : HeldAt H' hl zs := by
  obtain ⟨vs, h1, h2⟩ := h.ls
  exact ⟨⟨vs, e hl vs (.inl rfl) h1, h2.keep t⟩, fun z hz => (h.hz z hz).keep (fun xs q => e _ xs (.inr ⟨z, hz, .inl rfl⟩) q) (fun xs q => e _ xs (.inr ⟨z, hz, .inr rfl⟩) q) t, h.nd, h.tu, h.n⟩
theorem HeldAt.same {H H' : Hp} {hl : Addr} {zs : List ZE} (h : HeldAt H hl zs) (e : Same H H') : HeldAt H' hl zs := h.keep (fun c xs _ q => e.at q) e.tups
theorem Fls.length {H : Hp} : ∀ {vs : List V} {es : List FE}, Fls H vs es → vs.length = es.length
  | [], [], _ => rfl
  | [], _ :: _, h => h.elim
  | _ :: _, [], h => h.elim
  | _ :: _, _ :: _, h => congrArg (· + 1) (Fls.length h.2)
noncomputable def e13 : FE := .inr [1, 1, 1]
noncomputable def bump (z : ZE) : ZE := { z with e1 := z.e1 ++ [e13] }
theorem HeldAt.bump {H H1 H2 : Hp} {hl q : Addr} {zs : List ZE} {z : ZE} {i : Nat} {vs : List V} (h : HeldAt H hl zs) (hz : zs[i]? = some z) (hv : H z.t = some (.lst vs)) (e : Same H H1) (hq : H1 q = some (.tup [.int 1, .int 1, .int 1])) (b : LBut z.t H1 H2) (h2 : H2 z.t = some (.lst (vs ++ [.ref q]))) : HeldAt H2 hl (zs.set i (Internal.bump z)) := by
  have h' := h.same e
  have hm := List.mem_of_getElem? hz
  obtain ⟨us, l1, l2⟩ := h'.ls
  have back : ∀ y ∈ zs.set i (Internal.bump z), ∃ y' ∈ zs, y.t = y'.t ∧ y.u = y'.u := fun y hy => by
    rcases List.mem_or_eq_of_mem_set hy with hy | hy
    · exact ⟨y, hy, rfl, rfl⟩
    · exact ⟨z, hm, by rw [hy]; rfl, by rw [hy]; rfl⟩
  have et : (zs.set i (Internal.bump z)).map (·.t) = zs.map (·.t) := by
    refine List.ext_getElem? fun j => ?_
    rw [List.getElem?_map, List.getElem?_map, List.getElem?_set]
    split
    · rename_i hij
      subst hij
      rw [hz]
      split
      · rfl
      · rename_i hlt
        exact absurd (List.getElem?_eq_some_iff.mp hz).1 hlt
    · rfl
  have uniq : ∀ j y, zs[j]? = some y → j ≠ i → y.t ≠ z.t := fun j y hy hj e => by
    have n1 : (zs.map (·.t))[j]? = some y.t := by rw [List.getElem?_map, hy]; rfl
    have n2 : (zs.map (·.t))[i]? = some y.t := by rw [List.getElem?_map, hz, e]; rfl
    exact hj (nodup_get h.nd n1 n2)
  refine ⟨⟨us, b.lst l1 (h.n z hm).1.symm, ?_⟩, fun y hy => ?_, by rw [et]; exact h.nd, fun y hy y' hy' => ?_, fun y hy => ?_⟩
  · have l3 := LBut.isTs b l2
    have go : ∀ {us : List V} {zs : List ZE} {i : Nat}, IsTs pairV H2 us zs → zs[i]? = some z → IsTs pairV H2 us (zs.set i (Internal.bump z)) := by
      intro us zs
      induction zs generalizing us with
      | nil => intro i _ hz; cases hz
      | cons y zs ih =>
        intro i hI hz
        cases us with
        | nil => exact hI.elim
        | cons u us =>
          cases i with
          | zero => cases hz; exact ⟨hI.1, hI.2⟩
          | succ i => exact ⟨hI.1, ih hI.2 hz⟩
    exact go l3 hz
  · obtain ⟨j, hj, ej⟩ := List.getElem_of_mem hy
    have hj' : (zs.set i (Internal.bump z))[j]? = some y := by rw [List.getElem?_eq_getElem hj, ej]
    rw [List.getElem?_set] at hj'
    split at hj'
    · rename_i hij
      split at hj'
      · cases hj'
        obtain ⟨⟨vs', k1, k2⟩, ws, k3, k4⟩ := h'.hz z hm
        rw [e.at hv] at k1; cases k1
        have hfe : feV H2 (.ref q) e13 := ⟨q, rfl, b.tup hq⟩
        refine ⟨⟨_, h2, Fls.app hfe (k2.keep b.tups)⟩, ws, b.lst k3 (h.tu z hm z hm).symm, k4.keep b.tups⟩
      · cases hj'
    · rename_i hij
      have hym := List.mem_of_getElem? hj'
      exact (h'.hz y hym).keep (fun xs k => b.lst k (uniq j y hj' (fun e => hij e.symm))) (fun xs k => b.lst k (h.tu z hm y hym).symm) b.tups
  · obtain ⟨x, hx, x1, x2⟩ := back y hy
    obtain ⟨x', hx', x1', x2'⟩ := back y' hy'
    rw [x1, x2']
    exact h.tu x hx x' hx'
  · obtain ⟨x, hx, x1, x2⟩ := back y hy
    rw [x1, x2]; exact h.n x hx
noncomputable def iAny (K : PySem.W.Frag) (tl : TE) : TI := fun σ H R => tl σ H fun x H1 => ∃ a, x = .ref a ∧ (((∃ xs, SqL K H1 a xs) ∧ R (Itl K a) H1) ∨ ((∃ xs, SqT K H1 a xs) ∧ R (Itt K a) H1))
theorem pi_any {X : Cx} {tg l : Expr} {tl : TE} (hl : PE X l tl) : PI X tg l (iAny X.K tl) := by
  intro pins s σ H R I h
  refine thn (hl pins s σ H _ I h) fun v s1 zz => ?_
  obtain ⟨x, H1, I1, r1, q1⟩ := zz
  obtain ⟨a, e, q1⟩ := q1
  subst e
  cases r1
  rcases q1 with ⟨⟨xs, hq⟩, q⟩ | ⟨⟨xs, hq⟩, q⟩
  · obtain ⟨its, rv, p, hz⟩ := I1.list hq
    refine wpAny_pyIter_list p.isList ?_
    refine ⟨s1.heap.objs.size, [s1.heap.objs.size], _, _, H1, rfl, I1.kept (t' := s1.toks) fun b o e => Heap.get?_push_of_some _ e, turn_list a _, ⟨_, Heap.get?_push_size _ rfl, rfl, rfl⟩, fun b hb => ?_, q⟩
    have e : b = s1.heap.objs.size := by simpa using hb
    subst e
    exact I1.fpOk (Nat.le_refl _) (I1.hok.fresh (Nat.le_refl _))
  · obtain ⟨its, rv, p, hz⟩ := I1.tuple hq
    refine wpAny_pyIter_tuple (show s1.heap.IsTuple a its.toArray from p) ?_
    refine ⟨s1.heap.objs.size, [s1.heap.objs.size], _, _, H1, rfl, I1.kept (t' := s1.toks) fun b o e => Heap.get?_push_of_some _ e, turn_tuple a _, ⟨_, Heap.get?_push_size _ rfl, rfl, rfl⟩, fun b hb => ?_, q⟩
    have e : b = s1.heap.objs.size := by simpa using hb
    subst e
    exact I1.fpOk (Nat.le_refl _) (I1.hok.fresh (Nat.le_refl _))
theorem x_itA {K : PySem.W.Frag} {σ : St} {H : Hp} {R : It → Hp → Prop} {tl : TE} (q : tl σ H fun x H1 => ∃ a, x = .ref a ∧ (((∃ xs, SqL K H1 a xs) ∧ R (Itl K a) H1) ∨ ((∃ xs, SqT K H1 a xs) ∧ R (Itt K a) H1))) : iAny K tl σ H R := q
end Internal

set_option Elab.async false
set_option linter.all false
set_option maxRecDepth 100000
namespace Internal
open PySem PySem.Spec PyProof.Rows
set_option genInjectivity false in
set_option genSizeOf false in
structure GT (m w y : Int) (t : T7) : Prop where
  p0 : 0 ≤ t.p
  p1 : t.p < m
  q0 : 0 ≤ t.q
  q1 : t.q < m
  pq : t.p ≠ t.q
  w0 : 0 ≤ t.w
  w1 : t.w < w
  u0 : 1 ≤ t.u
  u1 : t.u ≤ 1000000
  a0 : 1 ≤ t.a
  a1 : t.a ≤ 1000000000
  y0 : 0 ≤ t.y
  y1 : t.y ≤ y + 4
  r0 : 0 ≤ t.r
  r1 : t.r ≤ 2
noncomputable def GTs (m w y : Int) (ts : List (T7 × Str)) : Prop := ∀ t ∈ ts, GT m w y t.1
theorem GT.later {m w y : Int} {t : T7} (h : GT m w y t) : GT m w (y + 1) t := { h with y1 := by have := h.y1; omega }
noncomputable def Eqz (zs : List ZE) : Prop := ∀ z ∈ zs, z.e1 = z.e2
noncomputable def spWholesA : Sp := fun vs H Q _ => ∃ (a : Addr) (ns : List Int) (mn : Int), vs = [.ref a, .int mn] ∧ (H a = some (.lst (ns.map V.int)) ∨ H a = some (.tup (ns.map V.int))) ∧ (ns.length : Int) = mn ∧ ∀ H', Same H H' → Q (.bl true) H'
noncomputable def spTuplesA : Sp := fun vs H Q _ => ∃ (a : Addr) (us : List V) (es : List (List Int)) (mn : Int), vs = [.ref a, .int mn] ∧ H a = some (.lst us) ∧ Fls H us (es.map .inr) ∧ (∀ ns ∈ es, (ns.length : Int) = mn) ∧ ∀ H', Same H H' → Q (.bl true) H'
noncomputable def spDayDueA : Sp := fun vs H Q _ => ∃ (ro : Addr) (z : Int) (ts : List (T7 × Str)) (as : List Addr), vs = [.ref ro, .int z] ∧ H ro = some (.lst (as.map V.ref)) ∧ DRows H as ts ∧ ts.length ≤ 1000 ∧
  ∀ p nu sh us H', H nu = none → H sh = none → nu ≠ sh → Same H H' → H' p = some (.tup [.ref nu, .ref sh]) → H' nu = some (.lst ((numF (onP z) ts ts.length).map V.int)) → H' sh = some (.lst us) → IsTs dueV H' us (sheetT z ts) → Q (.ref p) H'
noncomputable def spEntDueA : Sp := fun vs H Q _ => ∃ (ro : Addr) (n : Int) (ts : List (T7 × Str)) (as : List Addr), vs = [.ref ro, .int n] ∧ H ro = some (.lst (as.map V.ref)) ∧ DRows H as ts ∧ ts.length < 64 ∧ (∀ t ∈ ts, t.1.p ≠ t.1.q) ∧
  ∀ p H' us xs, H p = none → Same H H' → H' p = some (.lst us) → IsTs e3V H' us xs → xs.Perm (entF ts n ts.length) → xs.Pairwise (fun a b => key3 a ≤ key3 b) → Q (.ref p) H'
noncomputable def spPosDueA : Sp := fun vs H Q _ => ∃ (ro : Addr) (n : Int) (w : Nat) (ts : List (T7 × Str)) (as : List Addr), vs = [.ref ro, .int n, .int (w : Int)] ∧ H ro = some (.lst (as.map V.ref)) ∧ DRows H as ts ∧ ts.length ≤ 1000 ∧ w ≤ 1000 ∧ (∀ t ∈ ts, t.1.p ≠ t.1.q) ∧
  ∀ p H', H p = none → Same H H' → H' p = some (.lst ((vec w (posF ts n)).map V.int)) → Q (.ref p) H'
noncomputable def NBL (l : Addr) (H H' : Hp) : Prop := ∀ b o, b ≠ l → H b = some o → H' b = some o
theorem BR.nbl {C : Addr} {H H' : Hp} {b d ro l : Addr} {m w y : Int} {ts : List (T7 × Str)} {as : List Addr} (h : BR C H b d ro m w y ts as) (e : NBL l H H') (nb : b ≠ l) (nd : d ≠ l) (nr : ro ≠ l) (na : l ∉ as) (hl : ∃ xs, H l = some (.lst xs)) : BR C H' b d ro m w y ts as := by
  obtain ⟨⟨⟨dx, h1⟩, xs, h2, h3⟩, h4, h5, h6, h7⟩ := h
  obtain ⟨ys, hy⟩ := hl
  exact ⟨⟨⟨dx, e _ _ nb h1⟩, xs, e _ _ nd h2, h3.keep fun a zs z => e a _ (ne_of z hy (by intro q; cases q)) z⟩, e _ _ nr h4, h5.keep fun a o ha z => e a o (fun q => na (q ▸ ha)) z, h6, h7⟩
set_option genInjectivity false in
set_option genSizeOf false in
structure HB (C : Addr) (H : Hp) (b d ro hl : Addr) (m w y : Int) (ts : List (T7 × Str)) (as : List Addr) (zs : List ZE) : Prop where
  br : BR C H b d ro m w y ts as
  ht : HeldAt H hl zs
  eq : Eqz zs
  gt : GTs m w y ts
  tl : ts.length < 64
  zl : zs.length ≤ 50000
  n1 : hl ≠ d
  n2 : hl ≠ ro
  n3 : hl ∉ as
  n4 : hl ≠ b
noncomputable def Added (H : Hp) (zs zs' : List ZE) (k : Nat) : Prop := ∃ new : List ZE, zs' = zs ++ new ∧ new.length ≤ k ∧ ∀ z ∈ new, H z.t = none ∧ H z.u = none ∧ z.e1.length ≤ 1000
noncomputable def spDaysRight (C : Addr) : Sp := fun vs H Q _ => ∃ (b d ro hl dl : Addr) (m w y : Int) (ts : List (T7 × Str)) (as : List Addr) (zs : List ZE) (days : List Int), vs = [.ref b, .ref ro, .ref dl, .ref hl] ∧ HB C H b d ro hl m w y ts as zs ∧ H dl = some (.lst (days.map V.int)) ∧ days.length ≤ 100 ∧ hl ≠ dl ∧ zs.length + 2 * days.length ≤ 50000 ∧
  ∀ H' zs', NBL hl H H' → Added H zs zs' (2 * days.length) → HB C H' b d ro hl m w y ts as zs' → Q (.bl true) H'
noncomputable def spMembersRight (C : Addr) : Sp := fun vs H Q _ => ∃ (b d ro hl ml : Addr) (m y nd : Int) (w : Nat) (ts : List (T7 × Str)) (as : List Addr) (zs : List ZE) (ks : List Int), vs = [.ref b, .ref ro, .ref ml, .int (w : Int), .int nd, .ref hl] ∧ HB C H b d ro hl m (w : Int) y ts as zs ∧ H ml = some (.lst (ks.map V.int)) ∧ ks.length ≤ 100 ∧ hl ≠ ml ∧ zs.length + 2 * ks.length ≤ 50000 ∧ ks.Nodup ∧ (∀ k, 0 ≤ k → k < m → k ∈ ks) ∧ w ≤ 1000 ∧ y + 5 ≤ nd ∧ 0 ≤ y ∧ nd ≤ 1000 ∧
  ∀ H' zs', NBL hl H H' → Added H zs zs' (2 * ks.length) → HB C H' b d ro hl m (w : Int) y ts as zs' → Q (.bl true) H'
noncomputable def spAskedA (K : PySem.W.Frag) (C : Addr) : Sp := fun vs H Q _ => ∃ (a b d ro hl : Addr) (ns : List Int) (k m y : Int) (w : Nat) (ts : List (T7 × Str)) (as : List Addr) (zs : List ZE), vs = [.ref a, .int k, .ref b, .ref ro, .int (w : Int), .int m, .int y, .ref hl] ∧ SqL K H a (ns.map V.int) ∧ 0 ≤ k ∧ k ≤ 4900 ∧ HB C H b d ro hl m (w : Int) y ts as zs ∧ 2 ≤ m ∧ m ≤ 8 ∧ w ≤ 1000 ∧ 0 ≤ y ∧ y ≤ 50 ∧ zs.length + 200 ≤ 50000 ∧
  ∀ H' zs', NBL hl H H' → Added H zs zs' 200 → HB C H' b d ro hl m (w : Int) y ts as zs' → Q (.bl true) H'
noncomputable def spStruckA (K : PySem.W.Frag) (C : Addr) : Sp := fun vs H Q _ => ∃ (a b d ro : Addr) (ns : List Int) (k m w y : Int) (ts : List (T7 × Str)) (as : List Addr), vs = [.ref a, .int k, .ref b, .ref ro, .int m, .int w, .int y] ∧ SqL K H a (ns.map V.int) ∧ 0 ≤ k ∧ k ≤ 4900 ∧ BR C H b d ro m w y ts as ∧ d ≠ ro ∧ ts.length ≤ 1000 ∧ 2 ≤ m ∧ m ≤ 8 ∧ 1 ≤ w ∧ w ≤ 4 ∧ 0 ≤ y ∧ y ≤ 50 ∧
  ∀ H' t p, H p = none → (∀ c o, c ≠ d → c ≠ ro → H c = some o → H' c = some o) → GT m w y t → BR C H' b d ro m w y (ts ++ [(t, ("standing" : Str))]) (as ++ [p]) → Q .non H'
noncomputable def spTurnedA (K : PySem.W.Frag) (C : Addr) : Sp := fun vs H Q _ => ∃ (H0 : Hp) (a b d ro : Addr) (ns : List Int) (k m w y : Int) (ts : List (T7 × Str)) (as : List Addr), vs = [.ref a, .int k, .ref b, .ref ro, .int y] ∧ SqL K H0 a (ns.map V.int) ∧ Same H0 H ∧ (∀ c ∈ as, H0 c = none) ∧ 0 ≤ k ∧ k ≤ 4900 ∧ BR C H b d ro m w y ts as ∧ GTs m w y ts ∧ d ≠ ro ∧ 1 ≤ ts.length ∧ ts.length ≤ 1000 ∧ 0 ≤ y ∧ y ≤ 50 ∧
  ∀ H' ts', ts'.length = ts.length → GTs m w y ts' → (∀ c o, c ≠ d → c ∉ as → H c = some o → H' c = some o) → BR C H' b d ro m w y ts' as → Q .non H'
section
variable {C : Addr} {H H' : Hp} {b d ro hl : Addr} {m w y : Int} {ts : List (T7 × Str)} {as : List Addr} {zs : List ZE}
theorem HB.same (h : HB C H b d ro hl m w y ts as zs) (e : Same H H') : HB C H' b d ro hl m w y ts as zs := ⟨h.br.same e, h.ht.same e, h.eq, h.gt, h.tl, h.zl, h.n1, h.n2, h.n3, h.n4⟩
theorem HB.butL {l : Addr} (h : HB C H b d ro hl m w y ts as zs) (g : LBut l H H') (n1 : l ≠ d) (n2 : l ≠ ro) (n3 : l ∉ as) (n4 : l ≠ hl) (n5 : ∀ z ∈ zs, l ≠ z.t ∧ l ≠ z.u) : HB C H' b d ro hl m w y ts as zs := by
  obtain ⟨ys, hy⟩ := g.2
  obtain ⟨dx, hb⟩ := h.br.B.ob
  refine ⟨h.br.nbl (l := l) (fun c o n q => g.1.at q n) (ne_of hb hy (by intro z; cases z)) n1.symm n2.symm n3 ⟨ys, hy⟩, h.ht.keep (fun c xs hc q => g.lst q ?_) g.tups, h.eq, h.gt, h.tl, h.zl, h.n1, h.n2, h.n3, h.n4⟩
  rcases hc with rfl | ⟨z, hz, rfl | rfl⟩
  · exact n4.symm
  · exact (n5 z hz).1.symm
  · exact (n5 z hz).2.symm
theorem HB.memU (h : HB C H b d ro hl m w y ts as zs) {z : ZE} (hz : z ∈ zs) : H z.t ≠ none ∧ H z.u ≠ none := by
  obtain ⟨⟨vs, h1, _⟩, ws, h2, _⟩ := h.ht.hz z hz
  exact ⟨(fun q => by rw [h1] at q; cases q), (fun q => by rw [h2] at q; cases q)⟩
theorem HB.add2 {Ha Hb Hc Hd He : Hp} {p1 p2 : Addr} {z1 z2 : ZE} {vs : List V} (h : HB C H b d ro hl m w y ts as zs) (hv : H hl = some (.lst vs)) (ea : Same H Ha) (c1 : HZ Ha z1) (c2 : HZ Ha z2) (f1 : H z1.t = none) (g1 : H z1.u = none) (f2 : H z2.t = none) (g2 : H z2.u = none)
    (n1 : z1.t ≠ z1.u) (n2 : z1.t ≠ z2.t) (n3 : z1.t ≠ z2.u) (n4 : z2.t ≠ z1.u) (n5 : z2.t ≠ z2.u) (q1 : z1.e1 = z1.e2) (q2 : z2.e1 = z2.e2) (eb : Same Ha Hb) (hp1 : Hb p1 = some (.tup (pairV z1))) (bc : LBut hl Hb Hc) (hc : Hc hl = some (.lst (vs ++ [.ref p1]))) (ed : Same Hc Hd) (hp2 : Hd p2 = some (.tup (pairV z2))) (be : LBut hl Hd He) (he : He hl = some (.lst (vs ++ [.ref p1] ++ [.ref p2]))) (zl : zs.length + 2 ≤ 50000) : HB C He b d ro hl m w y ts as (zs ++ [z1, z2]) ∧ NBL hl H He := by
  have nb : NBL hl H He := fun c o n q => be.1.at (ed.at (bc.1.at (eb.at (ea.at q)) n)) n
  have tp : Tups Hb He := fun a xs q => be.tup (ed.at (bc.tup q))
  have ls : ∀ c xs, c ≠ hl → Ha c = some (.lst xs) → He c = some (.lst xs) := fun c xs n q => be.lst (ed.at (bc.lst (eb.at q) n)) n
  have tpa : Tups Ha He := fun a xs q => tp a xs (eb.at q)
  obtain ⟨dx, hb⟩ := h.br.B.ob
  obtain ⟨vs', hh1, hh2⟩ := h.ht.ls
  rw [hv] at hh1; cases hh1
  have nh : ∀ {c : Addr}, H c = none → c ≠ hl := fun {c} q z => by rw [z, hv] at q; cases q
  have old : ∀ {c : Addr} {z : ZE}, H c = none → z ∈ zs → c ≠ z.t ∧ c ≠ z.u := fun {c z} q hz => ⟨fun e => (h.memU hz).1 (e ▸ q), fun e => (h.memU hz).2 (e ▸ q)⟩
  have keepZ : ∀ {z : ZE}, HZ Ha z → z.t ≠ hl → z.u ≠ hl → HZ He z := fun {z} hz k1 k2 => hz.keep (fun xs q => ls _ xs k1 q) (fun xs q => ls _ xs k2 q) tpa
  refine ⟨⟨h.br.nbl nb h.n4.symm h.n1.symm h.n2.symm h.n3 ⟨vs, hv⟩, ⟨⟨_, he, ?_⟩, fun z hz => ?_, ?_, fun z hz z' hz' => ?_, fun z hz => ?_⟩, fun z hz => ?_, h.gt, h.tl, by rw [List.length_append]; exact zl, h.n1, h.n2, h.n3, h.n4⟩, nb⟩
  · have a1 : IsTs pairV He (vs ++ [.ref p1]) (zs ++ [z1]) := IsTs.app (f := pairV) (tp _ _ hp1) (hh2.keep fun a xs q => tpa a xs (ea.at q))
    have a2 := IsTs.app (f := pairV) (x := z2) (be.tup hp2) a1
    have e : zs ++ [z1] ++ [z2] = zs ++ [z1, z2] := by rw [List.append_assoc]; rfl
    rw [e] at a2
    exact a2
  · rcases List.mem_append.mp hz with hz | hz
    · exact keepZ ((h.ht.hz z hz).keep (fun xs q => ea.at q) (fun xs q => ea.at q) ea.tups) (h.ht.n z hz).1 (h.ht.n z hz).2
    · rcases List.mem_cons.mp hz with rfl | hz
      · exact keepZ c1 (nh f1) (nh g1)
      · rw [List.mem_singleton.mp hz]; exact keepZ c2 (nh f2) (nh g2)
  · rw [List.map_append]
    refine List.nodup_append.mpr ⟨h.ht.nd, List.nodup_cons.mpr ⟨by rw [List.map_cons, List.map_nil, List.mem_singleton]; exact n2, List.nodup_cons.mpr ⟨by simp, List.nodup_nil⟩⟩, fun a ha c hc e => ?_⟩
    obtain ⟨z, hz, rfl⟩ := List.mem_map.mp ha
    rw [List.map_cons, List.map_cons, List.map_nil] at hc
    rcases List.mem_cons.mp hc with hc | hc
    · exact (old f1 hz).1 (hc.symm.trans e.symm)
    · exact (old f2 hz).1 ((List.mem_singleton.mp hc).symm.trans e.symm)
  · have two : ∀ {x : ZE}, x ∈ [z1, z2] → x = z1 ∨ x = z2 := fun {x} hx => (List.mem_cons.mp hx).imp id List.mem_singleton.mp
    rcases List.mem_append.mp hz with k1 | k1 <;> rcases List.mem_append.mp hz' with k2 | k2
    · exact h.ht.tu z k1 z' k2
    · rcases two k2 with e | e
      · rw [e]; exact fun e => (old g1 k1).1 e.symm
      · rw [e]; exact fun e => (old g2 k1).1 e.symm
    · rcases two k1 with e | e
      · rw [e]; exact (old f1 k2).2
      · rw [e]; exact (old f2 k2).2
    · rcases two k1 with e | e <;> rcases two k2 with e' | e'
      · rw [e, e']; exact n1
      · rw [e, e']; exact n3
      · rw [e, e']; exact n4
      · rw [e, e']; exact n5
  · rcases List.mem_append.mp hz with hz | hz
    · exact h.ht.n z hz
    · rcases List.mem_cons.mp hz with rfl | hz
      · exact ⟨nh f1, nh g1⟩
      · rw [List.mem_singleton.mp hz]; exact ⟨nh f2, nh g2⟩
  · rcases List.mem_append.mp hz with hz | hz
    · exact h.eq z hz
    · rcases List.mem_cons.mp hz with rfl | hz
      · exact q1
      · rw [List.mem_singleton.mp hz]; exact q2
theorem NBL.trans {l : Addr} {H1 H2 H3 : Hp} (e : NBL l H1 H2) (f : NBL l H2 H3) : NBL l H1 H3 := fun b o n q => f b o n (e b o n q)
theorem NBL.no {l : Addr} {H1 H2 : Hp} (e : NBL l H1 H2) {x : Addr} (h : H2 x = none) (n : x ≠ l) : H1 x = none := by
  cases z : H1 x with
  | none => rfl
  | some o => rw [e x o n z] at h; cases h
theorem Added.nil (H : Hp) (zs : List ZE) : Added H zs zs 0 := ⟨[], by rw [List.append_nil], Nat.le_refl _, fun z hz => nomatch hz⟩
theorem Added.mono {k k' : Nat} {zs' : List ZE} (h : Added H zs zs' k) (hk : k ≤ k') : Added H zs zs' k' := let ⟨n, a, b, c⟩ := h; ⟨n, a, Nat.le_trans b hk, c⟩
theorem Added.then {l : Addr} {k j : Nat} {zs' zs'' : List ZE} (h : Added H zs zs' k) (g : Added H' zs' zs'' j) (e : NBL l H H') (hl : H' l ≠ none) : Added H zs zs'' (k + j) := by
  obtain ⟨n1, a1, b1, c1⟩ := h
  obtain ⟨n2, a2, b2, c2⟩ := g
  refine ⟨n1 ++ n2, by rw [a2, a1, List.append_assoc], by rw [List.length_append]; omega, fun z hz => ?_⟩
  rcases List.mem_append.mp hz with hz | hz
  · exact c1 z hz
  · have := c2 z hz
    exact ⟨e.no this.1 fun q => hl (q ▸ this.1), e.no this.2.1 fun q => hl (q ▸ this.2.1), this.2.2⟩
theorem Added.len {k : Nat} {zs' : List ZE} (h : Added H zs zs' k) : zs'.length ≤ zs.length + k := by
  obtain ⟨n, a, b, c⟩ := h
  rw [a, List.length_append]; omega
end
noncomputable def posP (j : Int) (t : T7 × Str) : Bool := decide (t.1.w = j) && decide (t.2 = ("standing" : Str))
theorem pick_num {P : T7 × Str → Bool} {ts : List (T7 × Str)} : ∀ i, i ≤ ts.length → pickT ts (numF P ts i) = (ts.take i).filter P
  | 0, _ => rfl
  | i + 1, hi => by
    obtain ⟨t, ht⟩ := lt_some (show i < ts.length by omega)
    have ih := pick_num (P := P) (ts := ts) i (by omega)
    rw [numF_succ ht, take_snoc ht, List.filter_append, ← ih]
    unfold pickT
    rw [List.map_append]
    congr 1
    by_cases hp : P t = true
    · rw [if_pos hp, List.filter_cons_of_pos hp]
      show [ts.getD ((i : Int).toNat) t0] = [t]
      rw [Int.toNat_natCast, getD_of ht]
    · rw [if_neg hp, List.filter_cons_of_neg hp]; rfl
noncomputable def uSel (f : T7 × Str → Bool) (us : List (T7 × Str)) : List Int := (us.filter f).map fun t => t.1.u
theorem sumI_cons (x : Int) (xs : List Int) : sumI (x :: xs) = x + sumI xs := by
  have : ∀ (ys : List Int) (a : Int), ys.foldl (· + ·) a = a + ys.foldl (· + ·) 0 := fun ys => by
    induction ys with
    | nil => intro a; show a = a + 0; omega
    | cons z ys ih => intro a; rw [List.foldl_cons, List.foldl_cons, ih (a + z), ih (0 + z)]; omega
  show (x :: xs).foldl (· + ·) 0 = x + xs.foldl (· + ·) 0
  rw [List.foldl_cons, this xs (0 + x)]; omega
theorem pos_sum (n : Int) (j : Nat) : ∀ (ts : List (T7 × Str)), (∀ t ∈ ts, t.1.p ≠ t.1.q) → sumI (uSel (fun t => decide (t.1.p = n)) (ts.filter (posP j))) - sumI (uSel (fun t => decide (t.1.q = n)) (ts.filter (posP j))) = posF ts n j
  | [], _ => rfl
  | t :: ts, h => by
    have ih := pos_sum n j ts fun u hu => h u (List.mem_cons_of_mem _ hu)
    have hpq := h t List.mem_cons_self
    show _ = posD t n j + posF ts n j
    rw [← ih]
    unfold posD uSel
    by_cases hP : posP j t = true
    · have hc : t.1.w = (j : Int) ∧ t.2 = ("standing" : Str) := by
        unfold posP at hP
        rw [Bool.and_eq_true, decide_eq_true_eq, decide_eq_true_eq] at hP
        exact hP
      rw [List.filter_cons_of_pos hP, if_pos ⟨hc.2, hc.1⟩]
      by_cases h1 : t.1.p = n
      · rw [List.filter_cons_of_pos (by exact decide_eq_true h1), List.filter_cons_of_neg (by rw [decide_eq_true_eq]; exact fun z => hpq (h1.trans z.symm)), List.map_cons, sumI_cons, if_pos h1]; omega
      · rw [List.filter_cons_of_neg (by rw [decide_eq_true_eq]; exact h1), if_neg h1]
        by_cases h2 : t.1.q = n
        · rw [List.filter_cons_of_pos (by exact decide_eq_true h2), List.map_cons, sumI_cons, if_pos h2]; omega
        · rw [List.filter_cons_of_neg (by rw [decide_eq_true_eq]; exact h2), if_neg h2]; omega
    · have hc : ¬ (t.2 = ("standing" : Str) ∧ t.1.w = (j : Int)) := fun z => hP (by unfold posP; rw [decide_eq_true z.1, decide_eq_true z.2]; rfl)
      rw [List.filter_cons_of_neg hP, if_neg hc]; omega
noncomputable def dueI (d : Internal.Due) : List Int := [d.p, d.q, d.r, d.a]
theorem dueI_eq (d : Internal.Due) : dueV d = (dueI d).map V.int := rfl
noncomputable def e3I (x : Int × Int × Int) : List Int := [x.1, x.2.1, x.2.2]
theorem e3I_eq (x : Int × Int × Int) : e3V x = (e3I x).map V.int := rfl
theorem some_neq {H : Hp} {a : Addr} {o : HO} (h : H a = some o) : H a ≠ none := fun z => by rw [h] at z; cases z
theorem dsum_take {xs : List (Int × Int × Int)} {i : Nat} {x : Int × Int × Int} (h : xs[i]? = some x) (z : Int) : dsum (xs.take (i + 1)) z = dsum (xs.take i) z + (if x.1 = z then x.2.2 else 0) := by
  rw [take_snoc h, dsum_app]
  show _ + ((if x.1 = z then x.2.2 else 0) + 0) = _
  omega
theorem vec_zero_eq {n : Nat} {f : Nat → Int} (h : ∀ z, z < n → f z = 0) : vec n f = vec n fun _ => 0 := vec_congr h
theorem vec_nodup (n : Nat) : (vec n fun i => (i : Int)).Nodup := by
  unfold vec
  exact List.pairwise_map.mpr (List.nodup_range.imp fun h e => h (by omega))
theorem vec_mem {n : Nat} {k : Int} (h0 : 0 ≤ k) (h1 : k < n) : k ∈ vec n fun i => (i : Int) := by
  unfold vec
  exact List.mem_map.mpr ⟨k.toNat, List.mem_range.mpr (by omega), by omega⟩
set_option genInjectivity false in
set_option genSizeOf false in
structure LS (C : Addr) (H0 H : Hp) (b d ro hl : Addr) (m w y : Int) (ts : List (T7 × Str)) (as : List Addr) (zs : List ZE) : Prop where
  hb : HB C H b d ro hl m w y ts as zs
  e0 : Same H0 H
  f1 : H0 d = none
  f2 : H0 ro = none
  f3 : H0 hl = none
  f6 : H0 b = none
  f4 : ∀ c ∈ as, H0 c = none
  f5 : ∀ z ∈ zs, H0 z.t = none
  n : d ≠ ro
  nz : ∀ z ∈ zs, (z.t ≠ d ∧ z.t ≠ ro ∧ z.t ∉ as) ∧ z.u ≠ d ∧ z.u ≠ ro ∧ z.u ∉ as
section
variable {C : Addr} {H0 H H' : Hp} {b d ro hl : Addr} {m w y : Int} {ts : List (T7 × Str)} {as : List Addr} {zs : List ZE}
theorem LS.step {y' : Int} {ts' : List (T7 × Str)} {as' : List Addr} (h : LS C H0 H b d ro hl m w y ts as zs) (fr : ∀ c o, c ≠ d → c ≠ ro → c ≠ b → c ∉ as → H c = some o → H' c = some o) (br : BR C H' b d ro m w y' ts' as') (gt : GTs m w y' ts') (tl : ts'.length < 64) (fa : ∀ c ∈ as', c ∈ as ∨ H c = none) : LS C H0 H' b d ro hl m w y' ts' as' zs := by
  obtain ⟨dx, hbb⟩ := h.hb.br.B.ob
  obtain ⟨xs, hd, _⟩ := h.hb.br.B.ds
  have hro := h.hb.br.ro
  have tp : Tups H H' := fun a us q => fr a _ (ne_of q hd (by intro z; cases z)) (ne_of q hro (by intro z; cases z)) (ne_of q hbb (by intro z; cases z)) (fun hm => by
    obtain ⟨_, _, _, _, e⟩ := h.hb.br.R.mem hm
    rw [q] at e; cases e) q
  have lsK : ∀ c us, c ≠ d → c ≠ ro → c ∉ as → H c = some (.lst us) → H' c = some (.lst us) := fun c us n1 n2 n3 q => fr c _ n1 n2 (ne_of q hbb (by intro z; cases z)) n3 q
  obtain ⟨vs, hv, _⟩ := h.hb.ht.ls
  have ht : HeldAt H' hl zs := h.hb.ht.keep (fun c us hc q => by
    rcases hc with rfl | ⟨z, hz, rfl | rfl⟩
    · exact lsK _ us h.hb.n1 h.hb.n2 h.hb.n3 q
    · exact lsK _ us (h.nz z hz).1.1 (h.nz z hz).1.2.1 (h.nz z hz).1.2.2 q
    · exact lsK _ us (h.nz z hz).2.1 (h.nz z hz).2.2.1 (h.nz z hz).2.2.2 q) tp
  have not' : ∀ c, c ∉ as → H c ≠ none → c ∉ as' := fun c n1 n2 hm => (fa c hm).elim n1 n2
  refine ⟨⟨br, ht, h.hb.eq, gt, tl, h.hb.zl, h.hb.n1, h.hb.n2, not' hl h.hb.n3 (some_neq hv), h.hb.n4⟩, fun c o q => ?_, h.f1, h.f2, h.f3, h.f6, fun c hc => ?_, h.f5, h.n, fun z hz => ?_⟩
  · exact fr c o (ne_of_none q h.f1) (ne_of_none q h.f2) (ne_of_none q h.f6) (fun hm => by rw [h.f4 c hm] at q; cases q) (h.e0.at q)
  · rcases fa c hc with k | k
    · exact h.f4 c k
    · exact Same.none k h.e0
  · have k := h.nz z hz
    have k2 := h.hb.memU hz
    exact ⟨⟨k.1.1, k.1.2.1, not' _ k.1.2.2 k2.1⟩, k.2.1, k.2.2.1, not' _ k.2.2.2 k2.2⟩
theorem LS.asked {zs' : List ZE} {j : Nat} (h : LS C H0 H b d ro hl m w y ts as zs) (nb : NBL hl H H') (ad : Added H zs zs' j) (hb : HB C H' b d ro hl m w y ts as zs') : LS C H0 H' b d ro hl m w y ts as zs' := by
  obtain ⟨xs, hd, _⟩ := h.hb.br.B.ds
  have hro := h.hb.br.ro
  obtain ⟨new, rfl, _, hn⟩ := ad
  refine ⟨hb, fun c o q => nb c o (ne_of_none q h.f3) (h.e0.at q), h.f1, h.f2, h.f3, h.f6, h.f4, fun z hz => ?_, h.n, fun z hz => ?_⟩
  · rcases List.mem_append.mp hz with hz | hz
    · exact h.f5 z hz
    · exact Same.none (hn z hz).1 h.e0
  · rcases List.mem_append.mp hz with hz | hz
    · exact h.nz z hz
    · have k := hn z hz
      have go : ∀ c, H c = none → c ≠ d ∧ c ≠ ro ∧ c ∉ as := fun c k => ⟨(fun e => by rw [e, hd] at k; cases k), (fun e => by rw [e, hro] at k; cases k), h.hb.br.R.fresh k⟩
      exact ⟨go _ k.1, go _ k.2.1⟩
end
theorem gt_cls {m w y : Int} {ts : List (T7 × Str)} (h : GTs m w y ts) : GTs m w (y + 1) (ts.map (clsF y)) := fun t ht => by
  obtain ⟨u, hu, e⟩ := List.mem_map.mp ht
  have g := (h u hu).later
  rw [← e]
  unfold clsF
  split <;> exact g
theorem gt_app {m w y : Int} {ts : List (T7 × Str)} {t : T7} {s : Str} (h : GTs m w y ts) (g : GT m w y t) : GTs m w y (ts ++ [(t, s)]) := fun u hu => by
  rcases List.mem_append.mp hu with hu | hu
  · exact h u hu
  · rw [List.mem_singleton.mp hu]; exact g
theorem set_mid {α : Type} {f : α → α} {zs : List α} {i : Nat} {z : α} (hz : zs[i]? = some z) : ((zs.take i).map f ++ zs.drop i).set i (f z) = (zs.take (i + 1)).map f ++ zs.drop (i + 1) := by
  have hi := (List.getElem?_eq_some_iff.mp hz).1
  rw [List.set_append_right _ _ (by rw [List.length_map, List.length_take]; omega), List.length_map, List.length_take, show i - min i zs.length = 0 by omega, List.drop_eq_getElem_cons hi, List.set_cons_zero, take_snoc hz, List.map_append, List.map_singleton, List.append_assoc]
  rfl
theorem get_mid {α : Type} {f : α → α} {zs : List α} {i : Nat} {z : α} (hz : zs[i]? = some z) : ((zs.take i).map f ++ zs.drop i)[i]? = some z := by
  have hi := (List.getElem?_eq_some_iff.mp hz).1
  rw [List.getElem?_append_right (by rw [List.length_map, List.length_take]; omega), List.length_map, List.length_take, List.getElem?_drop, show i + (i - min i zs.length) = i by omega]
  exact hz
theorem Fls.last {H : Hp} : ∀ {vs : List V} {es : List FE}, Fls H vs (es ++ [e13]) → ∃ v ∈ vs, ∃ c, v = .ref c ∧ H c = some (.tup [.int 1, .int 1, .int 1])
  | [], [], h => h.elim
  | [], _ :: _, h => h.elim
  | v :: _, [], ⟨⟨c, e, h⟩, _⟩ => ⟨v, List.mem_cons_self, c, e, h⟩
  | v :: vs, _ :: es, ⟨_, r⟩ => by
    obtain ⟨u, hu, c, h1, h2⟩ := Fls.last (es := es) r
    exact ⟨u, List.mem_cons_of_mem _ hu, c, h1, h2⟩
noncomputable def Marked (Hb Hc : Hp) (zb zn : List ZE) : Prop := ∀ (j : Nat) (z z' : ZE), zb[j]? = some z → zn[j]? = some z' → z'.t = z.t ∧ z'.e1 = z.e1 ∧ z'.e2 = z.e2 ++ [e13] ∧ Hb z'.u = none ∧ ∃ ws, Hc z'.u = some (.lst ws) ∧ Fls Hc ws z'.e2
theorem LS.mark {C : Addr} {H0 Ha Hb Hc : Hp} {b d ro hl hl2 : Addr} {m w y : Int} {ts : List (T7 × Str)} {as : List Addr} {zs zn : List ZE} {vs : List V} (h : LS C H0 Ha b d ro hl m w y ts as zs) (fr : ∀ c o, (∀ z ∈ zs, c ≠ z.t) → Ha c = some o → Hb c = some o) (hb : HeldAt Hb hl (zs.map Internal.bump)) (e : Same Hb Hc) (fh : Hb hl2 = none) (hv : Hc hl2 = some (.lst vs)) (hI : IsTs pairV Hc vs zn) (hn : zn.length = zs.length) (rl : Marked Hb Hc (zs.map Internal.bump) zn) : LS C H0 Hc b d ro hl2 m w y ts as zn := by
  have pk : ∀ z' ∈ zn, ∃ z ∈ zs, z'.t = z.t ∧ z'.e1 = z.e1 ++ [e13] ∧ z'.e2 = z.e2 ++ [e13] ∧ Hb z'.u = none ∧ ∃ ws, Hc z'.u = some (.lst ws) ∧ Fls Hc ws z'.e2 := fun z' hz' => by
    obtain ⟨j, hj, ej⟩ := List.getElem_of_mem hz'
    obtain ⟨z, hz⟩ := lt_some (show j < zs.length by omega)
    have := rl j (Internal.bump z) z' (by rw [List.getElem?_map, hz]; rfl) (by rw [List.getElem?_eq_getElem hj, ej])
    exact ⟨z, List.mem_of_getElem? hz, this⟩
  obtain ⟨⟨⟨⟨dx, b1⟩, xs, b2, b3⟩, b4, b5, b6, b7⟩, _, _, _, _, _, _, _, _, _⟩ := id h.hb
  have nt : ∀ {c : Addr} {o : HO}, Ha c = some o → (∀ us, o ≠ .lst us) → Hb c = some o := fun {c o} q ne => fr c o (fun z hz e => by
    obtain ⟨⟨us, k, _⟩, _⟩ := h.hb.ht.hz z hz
    rw [e, k] at q
    exact ne us (Option.some.inj q).symm) q
  have br : BR C Hb b d ro m w y ts as := ⟨⟨⟨dx, nt b1 (fun us z => by cases z)⟩, xs, fr d _ (fun z hz => (h.nz z hz).1.1.symm) b2, b3.keep fun a us q => nt q (fun us z => by cases z)⟩, fr ro _ (fun z hz => (h.nz z hz).1.2.1.symm) b4, b5.keep fun c o hc q => fr c o (fun z hz e => (h.nz z hz).1.2.2 (e ▸ hc)) q, b6, b7⟩
  have e0b : Same H0 Hb := fun c o q => fr c o (fun z hz => ne_of_none q (h.f5 z hz)) (h.e0.at q)
  obtain ⟨xs', hd, _⟩ := br.B.ds
  obtain ⟨dx', hbb⟩ := br.B.ob
  have go : ∀ c, Hb c = none → c ≠ d ∧ c ≠ ro ∧ c ∉ as := fun c k => ⟨(fun e => by rw [e, hd] at k; cases k), (fun e => by rw [e, br.ro] at k; cases k), br.R.fresh k⟩
  have told : ∀ z ∈ zs, Hb z.t ≠ none := fun z hz => by
    obtain ⟨⟨us, k, _⟩, _⟩ := hb.hz (Internal.bump z) (List.mem_map.mpr ⟨z, hz, rfl⟩)
    exact some_neq k
  have et : zn.map (·.t) = zs.map (·.t) := by
    refine List.ext_getElem (by rw [List.length_map, List.length_map, hn]) fun j h1 h2 => ?_
    rw [List.length_map] at h1 h2
    rw [List.getElem_map, List.getElem_map]
    exact (rl j (Internal.bump zs[j]) zn[j] (by rw [List.getElem?_map, List.getElem?_eq_getElem h2]; rfl) (List.getElem?_eq_getElem h1)).1
  have nu : ∀ z' ∈ zn, z'.u ≠ hl2 := fun z' hz' q => by
    obtain ⟨z, hz, a1, a2, a3, a4, ws, a5, a6⟩ := pk z' hz'
    rw [q, hv] at a5
    have ev : vs = ws := by have := Option.some.inj a5; injection this
    rw [a3] at a6
    obtain ⟨v, hvm, c, c1, c2⟩ := Fls.last a6
    rw [← ev] at hvm
    obtain ⟨j, hj, ej⟩ := List.getElem_of_mem hvm
    obtain ⟨p, z2, p1, _, p3⟩ := hI.get (show vs[j]? = some v by rw [List.getElem?_eq_getElem hj, ej])
    rw [c1] at p1
    cases p1
    rw [c2] at p3
    cases p3
  refine ⟨⟨br.same e, ⟨⟨vs, hv, hI⟩, fun z' hz' => ?_, by rw [et]; exact h.hb.ht.nd, fun z hz z' hz' => ?_, fun z' hz' => ⟨?_, nu z' hz'⟩⟩, fun z' hz' => ?_, h.hb.gt, h.hb.tl, by rw [hn]; exact h.hb.zl, (go _ fh).1, (go _ fh).2.1, (go _ fh).2.2, fun q => by rw [q, hbb] at fh; cases fh⟩, e0b.trans e, h.f1, h.f2, Same.none fh e0b, h.f6, h.f4, fun z' hz' => ?_, h.n, fun z' hz' => ?_⟩
  · obtain ⟨z, hz, a1, a2, a3, a4, ws, a5, a6⟩ := pk z' hz'
    obtain ⟨⟨us, k1, k2⟩, _⟩ := hb.hz (Internal.bump z) (List.mem_map.mpr ⟨z, hz, rfl⟩)
    exact ⟨⟨us, by rw [a1]; exact e.at k1, by rw [a2]; exact k2.keep e.tups⟩, ws, a5, a6⟩
  · obtain ⟨x, hx, a1, _⟩ := pk z hz
    obtain ⟨x', hx', _, _, _, a4, _⟩ := pk z' hz'
    rw [a1]
    exact fun q => told x hx (by rw [q]; exact a4)
  · obtain ⟨x, hx, a1, _⟩ := pk z' hz'
    rw [a1]
    exact fun q => told x hx (by rw [q]; exact fh)
  · obtain ⟨x, hx, a1, a2, a3, _⟩ := pk z' hz'
    rw [a2, a3, h.hb.eq x hx]
  · obtain ⟨x, hx, a1, _⟩ := pk z' hz'
    rw [a1]; exact h.f5 x hx
  · obtain ⟨x, hx, a1, a2, a3, a4, _⟩ := pk z' hz'
    rw [a1]
    exact ⟨(h.nz x hx).1, go _ a4⟩
end Internal

set_option Elab.async false
set_option linter.all false
set_option maxRecDepth 100000
set_option maxHeartbeats 4000000
namespace Internal.K
open PySem Internal
local macro_rules | `(tactic| walk_at "z") => `(tactic| first
  | assumption
  | exact sz200 (by omega) (by omega)
  | exact szL (by decide) (by omega) (by omega)
  | ((with_reducible apply Nat.le_trans (m := _)); (focus assumption); omega))
local macro_rules | `(tactic| walk_at "h") => `(tactic| first
  | assumption
  | (with_reducible exact Same.refl _)
  | ((with_reducible apply Same.at); (focus assumption); walk_at "h")
  | ((with_reducible apply LBut.tup); (focus assumption); walk_at "h")
  | ((with_reducible apply LBut.lst); (focus assumption); (focus walk_at "h"); walk_at "h")
  | ((with_reducible apply SqL.keep); (focus (show SqL _ _ _ _; assumption)); walk_at "h")
  | ((with_reducible apply SqL.of); walk_at "h")
  | ((with_reducible apply Same.after); (focus assumption); walk_at "h")
  | ((with_reducible apply LBut.same); (focus assumption); (focus walk_at "h"); walk_at "h")
  | ((with_reducible apply Same.none); (focus assumption); walk_at "h")
  | ((with_reducible apply LBut.isTs); (focus assumption); walk_at "h")
  | ((with_reducible apply Same.cuts); (focus assumption); walk_at "h")
  | ((with_reducible apply Same.isSh); (focus assumption); walk_at "h")
  | ((with_reducible apply IsSh.of); (focus walk_at "h"); walk_at "h")
  | ((with_reducible apply LBut.ins); (focus assumption); walk_at "h")
  | ((with_reducible apply Bk.same); (focus walk_at "h"); (focus assumption))
  | ((with_reducible apply ne_new'); (focus assumption); walk_at "h"))
local macro_rules | `(tactic| walk_at "x1") => `(tactic| first
  | ((with_reducible apply x_var); (focus (exact rfl)))
  | (with_reducible (first
      | apply x_bl
      | apply x_truB
      | apply x_eqI
      | apply x_add
      | apply x_i0
      | apply x_neg
      | apply x_call
      | apply x_iteT
      | apply x_iteF
      | apply x_iteNT))
  | (with_reducible refine x_iteY (by assumption) ?_)
  | (with_reducible refine x_iteZ (by assumption) ?_)
  | (with_reducible refine x_iteNY (by assumption) ?_)
  | (with_reducible refine x_iteNZ (by assumption) ?_)
  | (with_reducible refine x_ite (fun _ => ?_) (fun _ => ?_))
  | (with_reducible refine x_iteN (fun _ => ?_) (fun _ => ?_))
  | (with_reducible (first
      | apply x_tup
      | apply x_lst))
  | ((with_reducible show rIx _ (V.ref _) (V.int _) _ _); first
      | refine x_ixTs (by assumption) (by rfl) ?_
      | refine x_ixVec (by assumption) (by omega) (by omega) ?_
      | refine x_ixRow (by assumption) (by omega) (by assumption) ?_
      | refine x_ixTs (by walk_at "h") (by rfl) ?_
      | refine x_ixVec (by walk_at "h") (by omega) (by omega) ?_
      | refine x_ixLs (by walk_at "h") (by assumption) ?_
      | refine x_ixL (by walk_at "h") (by assumption) ?_
      | refine x_ixLs (by walk_at "h") (by rfl) ?_)
  | ((with_reducible show rIsiU _ [V.int _, _] _ _); refine x_isU ?_)
  | ((with_reducible show rIsiU _ [V.bl _, _] _ _); refine x_isU ?_)
  | (with_reducible (first
      | apply x_isII
      | apply x_isIB))
  | ((with_reducible show rIsiU _ [V.ref _, V.ty "tuple"] _ _); refine x_isU ?_; first | refine IsQ.isT (by walk_at "h") ?_ | refine x_isTT (by walk_at "h") ?_ | refine x_isLT (by walk_at "h") ?_)
  | ((with_reducible show rIsiU _ [V.ref _, V.ty "list"] _ _); refine x_isU ?_; first | refine x_isLL (by walk_at "h") ?_ | refine x_isTL (by walk_at "h") ?_)
  | ((with_reducible show rTup _ [] _); refine x_tupN (by first | decide | simp) (fun _ _ _ _ _ => ?_))
  | ((with_reducible show rTup _ [_] _); refine x_tupN (by first | decide | simp) (fun _ _ _ _ _ => ?_))
  | ((with_reducible show rTup _ (_ :: _ :: _ :: _) _); refine x_tupN (by first | decide | simp) (fun _ _ _ _ _ => ?_))
  | (with_reducible refine x_raise ?_)
  | ((with_reducible show rLen _ [V.ref _] _ _); first | refine IsQ.len (by walk_at "h") ?_ | refine x_lenL (by walk_at "h") ?_ | refine x_lenT' (by walk_at "h") ?_)
  | (with_reducible (first
      | apply x_for
      | apply x_comp
      | apply x_augS
      | apply x_ip
      | apply x_gNil
      | apply x_gCons))
  | ((with_reducible show gTup _ _ _ (V.ref _) _ _ _); refine x_gTup (by assumption) rfl ?_)
  | ((with_reducible show rIxL _ (V.ref _) (V.int _) _ _); first
      | refine x_getVec (by walk_at "h") (by omega) (by omega) ?_
      | refine x_getL (by walk_at "h") (by assumption) ?_)
  | ((with_reducible show rSetL (V.ref _) (V.int _) (V.int _) _ _); refine x_setVec (by walk_at "h") (by omega) (by omega) (fun _ _ _ => ?_))
  | ((with_reducible show rMulU (V.ref _) (V.int _) _ _); first | refine x_repVec (by walk_at "h") (by omega) (by omega) (fun _ _ _ _ _ => ?_) | refine x_repOpt (by walk_at "h") (by omega) (by omega) (fun _ _ _ _ _ => ?_) | refine x_repBl (by walk_at "h") (by omega) (by omega) (fun _ _ _ _ _ => ?_))
  | ((with_reducible show rRange [V.int _] _ _); refine x_rangeN (fun _ _ _ _ _ => ?_))
  | ((with_reducible show rListRng [V.ref _] _ _); refine x_listRng (by walk_at "h") (by omega) (by omega) (fun _ _ _ _ _ => ?_))
  | (with_reducible (first
      | apply x_fld
      | apply x_sfld
      | apply x_meth
      | apply x_make
      | apply x_augF
      | apply x_itT
      | apply x_eqS
      | apply x_neS))
  | ((with_reducible show rFld _ _ _ (V.ref _) _); refine x_fldk (by walk_at "h") (by assumption) (by assumption) (by with_reducible first | exact bfl_many | exact bfl_wares | exact bfl_day | exact bfl_deals) ?_)
  | ((with_reducible show rMeth _ _ _ _ _ _ _ (V.ref _) _); refine x_methk (by walk_at "h") (bfl_no (by decide +kernel) (by decide +kernel) (by decide +kernel) (by decide +kernel)) ?_)
  | ((with_reducible show spCellB _ _ _ _ _); refine spCellB_i (by walk_at "h") (by omega) (fun _ => ?_))
  | ((with_reducible show spDrawB _ _ _ _ _); refine spDrawB_i (by walk_at "h") (by omega) (by omega) (by omega) (fun _ _ _ => ?_))
  | ((with_reducible show spGreatB _ _ _ _ _); refine spGreatB_i (by walk_at "h") (by omega) (by omega) (by omega) (by omega) (fun _ _ _ => ?_))
  | ((with_reducible show rSum _ [V.ref _] _ _); refine x_sum (by walk_at "h") ?_)
  | ((with_reducible show rRng1 _ [V.int _] _); refine x_rngk1 (by omega) (by omega) ?_)
  | ((with_reducible show rItL _ _ (V.ref _) _); refine x_itk (by walk_at "h") ?_)
  | ((with_reducible show rEnum _ _ [V.ref _] _); refine x_enumk (by walk_at "h") ?_)
  | ((with_reducible show CompK (Itr _ _) _ _ tYes (tC (V.int _)) _ _ _); refine x_comp0 rfl (by omega) (fun _ _ _ _ _ => ?_))
  | ((with_reducible show rEqU _ (V.ref _) (V.ref _) _ _); first | refine x_eqInts (by walk_at "h") (by walk_at "h") rfl ?_ | refine x_eqSh (by walk_at "h") (by walk_at "h") rfl ?_ | refine x_eqQs (by walk_at "h") (by walk_at "h") (by walk_at "h") (by walk_at "h") ?_)
  | ((with_reducible show rNeU _ (V.ref _) (V.ref _) _ _); first | refine x_neInts (by walk_at "h") (by walk_at "h") rfl ?_ | refine x_neRows (by walk_at "h") (by walk_at "h") (by walk_at "h") (by walk_at "h") (by omega) (fun _ _ _ _ => rfl) ?_ | refine x_neSh (by walk_at "h") (by walk_at "h") rfl ?_ | refine x_neQs (by walk_at "h") (by walk_at "h") (by walk_at "h") (by walk_at "h") ?_)
  | (with_reducible (first
      | apply x_rng1
      | apply x_itL
      | apply x_bm
      | apply x_part
      | apply x_partI))
  | ((with_reducible show tyV _ "list" (V.ref _) _ ∧ _); refine x_tyL (by walk_at "h") ?_)
  | ((with_reducible show rAppend (V.ref _) [_] _ _); refine x_appN (by walk_at "h") (by omega) (fun _ _ _ => ?_))
  | ((with_reducible show NewQ _ _ _); intro _ _ _ _)
  | ((with_reducible show rLst _ _ _); refine x_lstN (by first | decide | simp) (fun _ _ _ _ _ => ?_))
  | ((with_reducible show rSlL _ _ _ _ _ _); refine x_cutN (by walk_at "h") (fun _ _ _ _ _ => ?_))
  | ((with_reducible show rModU _ _ _ _); refine x_mod (by first | decide | omega) ?_)
  | ((with_reducible show rMulU _ _ _ _); refine x_mul (by first | assumption | (apply CMulS.of; (focus walk_at "z"); (focus walk_at "z"); first | decide | omega)) ?_)
  | ((with_reducible show rDivU _ _ _ _); refine x_div (by first | walk_at "h" | decide) (by first | walk_at "h" | exact szL (by decide) (by decide) (by decide)) ?_)
  | ((with_reducible show rI CPow _ _ _ _ _); refine x_pow ⟨by decide, by decide, by decide⟩ rfl ?_; (try simp only [Int.reduceToNat, Int.reducePow]))
  | ((with_reducible show Ends.nx _ _ _); dsimp only [List.set, Ends.gone]))
local macro_rules | `(tactic| walk_at "x") => `(tactic| repeat' (walk_at "x1"))

noncomputable def top (i : Nat) : Stmt := PySem.Challenge.pw_quits_k72_days_and_members.main.body.getD i (.Pass ⟨0, 0, 0, 0⟩)
noncomputable abbrev s_Book___init__ : Stmt := inClass (top 21) 0
noncomputable abbrev s_Book_strike : Stmt := inClass (top 21) 1
noncomputable abbrev s_Book_check_members : Stmt := inClass (top 21) 2
noncomputable abbrev s_Book_check_terms : Stmt := inClass (top 21) 3
noncomputable abbrev s_Book_change : Stmt := inClass (top 21) 4
noncomputable abbrev s_Book_break_off : Stmt := inClass (top 21) 5
noncomputable abbrev s_Book_standing_deal : Stmt := inClass (top 21) 6
noncomputable abbrev s_Book_put_state : Stmt := inClass (top 21) 7
noncomputable abbrev s_Book_close : Stmt := inClass (top 21) 11
noncomputable abbrev s_Book_deal : Stmt := inClass (top 21) 14
noncomputable abbrev s_Book_numbers_on : Stmt := inClass (top 21) 15
noncomputable abbrev s_Book_sheet_on : Stmt := inClass (top 21) 16
noncomputable abbrev s_Book_entries : Stmt := inClass (top 21) 17
noncomputable abbrev s_Book_position : Stmt := inClass (top 21) 18
noncomputable abbrev s__law_cell : Stmt := top 23
noncomputable abbrev s__law_draw : Stmt := top 24
noncomputable abbrev s__law_great : Stmt := top 25
noncomputable abbrev s__law_wholes : Stmt := top 26
noncomputable abbrev s__law_tuples : Stmt := top 27
noncomputable abbrev s__law_day_due : Stmt := top 28
noncomputable abbrev s__law_entries_due : Stmt := top 29
noncomputable abbrev s__law_position_due : Stmt := top 30
noncomputable abbrev s__law_days_right : Stmt := top 31
noncomputable abbrev s__law_members_right : Stmt := top 32
noncomputable abbrev s__law_asked : Stmt := top 33
noncomputable abbrev s__law_struck : Stmt := top 34
noncomputable abbrev s__law_turned : Stmt := top 35
noncomputable abbrev s__law_closed : Stmt := top 36
noncomputable abbrev s_law : Stmt := top 37
theorem sc_Book___init__ : FnScope ["self", "many", "wares"] ["self", "many", "wares"] (defScope s_Book___init__) := ⟨rfl, rfl, rfl, by decide +kernel, rfl, by decide +kernel, by decide +kernel⟩
theorem sc_Book_strike : FnScope ["self", "payer", "payee", "ware", "units", "amount", "day", "rank"] ["self", "payer", "payee", "ware", "units", "amount", "day", "rank"] (defScope s_Book_strike) := ⟨rfl, rfl, rfl, by decide +kernel, rfl, by decide +kernel, by decide +kernel⟩
theorem sc_Book_check_members : FnScope ["self", "payer", "payee", "member"] ["self", "payer", "payee"] (defScope s_Book_check_members) := ⟨rfl, rfl, rfl, by decide +kernel, rfl, by decide +kernel, by decide +kernel⟩
theorem sc_Book_check_terms : FnScope ["self", "ware", "units", "amount", "day", "rank"] ["self", "ware", "units", "amount", "day", "rank"] (defScope s_Book_check_terms) := ⟨rfl, rfl, rfl, by decide +kernel, rfl, by decide +kernel, by decide +kernel⟩
theorem sc_Book_change : FnScope ["self", "number", "amount", "day", "old"] ["self", "number", "amount", "day"] (defScope s_Book_change) := ⟨rfl, rfl, rfl, by decide +kernel, rfl, by decide +kernel, by decide +kernel⟩
theorem sc_Book_break_off : FnScope ["self", "number"] ["self", "number"] (defScope s_Book_break_off) := ⟨rfl, rfl, rfl, by decide +kernel, rfl, by decide +kernel, by decide +kernel⟩
theorem sc_Book_standing_deal : FnScope ["self", "number", "found"] ["self", "number"] (defScope s_Book_standing_deal) := ⟨rfl, rfl, rfl, by decide +kernel, rfl, by decide +kernel, by decide +kernel⟩
theorem sc_Book_put_state : FnScope ["self", "number", "state"] ["self", "number", "state"] (defScope s_Book_put_state) := ⟨rfl, rfl, rfl, by decide +kernel, rfl, by decide +kernel, by decide +kernel⟩
theorem sc_Book_close : FnScope ["self", "numbers", "number"] ["self"] (defScope s_Book_close) := ⟨rfl, rfl, rfl, by decide +kernel, rfl, by decide +kernel, by decide +kernel⟩
theorem sc_Book_deal : FnScope ["self", "number"] ["self", "number"] (defScope s_Book_deal) := ⟨rfl, rfl, rfl, by decide +kernel, rfl, by decide +kernel, by decide +kernel⟩
theorem sc_Book_numbers_on : FnScope ["self", "day"] ["self", "day"] (defScope s_Book_numbers_on) := ⟨rfl, rfl, rfl, by decide +kernel, rfl, by decide +kernel, by decide +kernel⟩
theorem sc_Book_sheet_on : FnScope ["self", "day", "some"] ["self", "day"] (defScope s_Book_sheet_on) := ⟨rfl, rfl, rfl, by decide +kernel, rfl, by decide +kernel, by decide +kernel⟩
theorem sc_Book_entries : FnScope ["self", "member", "made", "number", "one"] ["self", "member"] (defScope s_Book_entries) := ⟨rfl, rfl, rfl, by decide +kernel, rfl, by decide +kernel, by decide +kernel⟩
theorem sc_Book_position : FnScope ["self", "member", "made", "one"] ["self", "member"] (defScope s_Book_position) := ⟨rfl, rfl, rfl, by decide +kernel, rfl, by decide +kernel, by decide +kernel⟩
theorem sc__law_cell : FnScope ["_law_script", "_law_k"] ["_law_script", "_law_k"] (defScope s__law_cell) := ⟨rfl, rfl, rfl, by decide +kernel, rfl, by decide +kernel, by decide +kernel⟩
theorem sc__law_draw : FnScope ["_law_script", "_law_k", "_law_many"] ["_law_script", "_law_k", "_law_many"] (defScope s__law_draw) := ⟨rfl, rfl, rfl, by decide +kernel, rfl, by decide +kernel, by decide +kernel⟩
theorem sc__law_great : FnScope ["_law_script", "_law_k", "_law_many"] ["_law_script", "_law_k", "_law_many"] (defScope s__law_great) := ⟨rfl, rfl, rfl, by decide +kernel, rfl, by decide +kernel, by decide +kernel⟩
theorem sc__law_wholes : FnScope ["_law_told", "_law_many", "_law_one"] ["_law_told", "_law_many"] (defScope s__law_wholes) := ⟨rfl, rfl, rfl, by decide +kernel, rfl, by decide +kernel, by decide +kernel⟩
theorem sc__law_tuples : FnScope ["_law_told", "_law_many", "_law_one"] ["_law_told", "_law_many"] (defScope s__law_tuples) := ⟨rfl, rfl, rfl, by decide +kernel, rfl, by decide +kernel, by decide +kernel⟩
theorem sc__law_day_due : FnScope ["_law_rows", "_law_day", "_law_numbers"] ["_law_rows", "_law_day"] (defScope s__law_day_due) := ⟨rfl, rfl, rfl, by decide +kernel, rfl, by decide +kernel, by decide +kernel⟩
theorem sc__law_entries_due : FnScope ["_law_rows", "_law_member", "_law_due", "_law_number"] ["_law_rows", "_law_member"] (defScope s__law_entries_due) := ⟨rfl, rfl, rfl, by decide +kernel, rfl, by decide +kernel, by decide +kernel⟩
theorem sc__law_position_due : FnScope ["_law_rows", "_law_member", "_law_wares", "_law_due", "_law_ware", "_law_some", "_law_gained"] ["_law_rows", "_law_member", "_law_wares"] (defScope s__law_position_due) := ⟨rfl, rfl, rfl, by decide +kernel, rfl, by decide +kernel, by decide +kernel⟩
theorem sc__law_days_right : FnScope ["_law_book", "_law_rows", "_law_days", "_law_held", "_law_day", "_law_numbers", "_law_sheet", "_law_due"] ["_law_book", "_law_rows", "_law_days", "_law_held"] (defScope s__law_days_right) := ⟨rfl, rfl, rfl, by decide +kernel, rfl, by decide +kernel, by decide +kernel⟩
theorem sc__law_members_right : FnScope ["_law_book", "_law_rows", "_law_members", "_law_wares", "_law_days", "_law_held", "_law_sums", "_law_member", "_law_entries", "_law_position", "_law_due", "_law_due_position", "_law_entry"] ["_law_book", "_law_rows", "_law_members", "_law_wares", "_law_days", "_law_held"] (defScope s__law_members_right) := ⟨rfl, rfl, rfl, by decide +kernel, rfl, by decide +kernel, by decide +kernel⟩
theorem sc__law_asked : FnScope ["_law_script", "_law_at", "_law_book", "_law_rows", "_law_wares", "_law_many", "_law_today", "_law_held", "_law_days", "_law_members"] ["_law_script", "_law_at", "_law_book", "_law_rows", "_law_wares", "_law_many", "_law_today", "_law_held"] (defScope s__law_asked) := ⟨rfl, rfl, rfl, by decide +kernel, rfl, by decide +kernel, by decide +kernel⟩
theorem sc__law_struck : FnScope ["_law_script", "_law_at", "_law_book", "_law_rows", "_law_many", "_law_wares", "_law_today", "_law_payer", "_law_payee", "_law_units", "_law_amount", "_law_row"] ["_law_script", "_law_at", "_law_book", "_law_rows", "_law_many", "_law_wares", "_law_today"] (defScope s__law_struck) := ⟨rfl, rfl, rfl, by decide +kernel, rfl, by decide +kernel, by decide +kernel⟩
theorem sc__law_turned : FnScope ["_law_script", "_law_at", "_law_book", "_law_rows", "_law_today", "_law_number"] ["_law_script", "_law_at", "_law_book", "_law_rows", "_law_today"] (defScope s__law_turned) := ⟨rfl, rfl, rfl, by decide +kernel, rfl, by decide +kernel, by decide +kernel⟩
theorem sc__law_closed : FnScope ["_law_book", "_law_rows", "_law_today", "_law_row"] ["_law_book", "_law_rows", "_law_today"] (defScope s__law_closed) := ⟨rfl, rfl, rfl, by decide +kernel, rfl, by decide +kernel, by decide +kernel⟩
theorem sc_law : FnScope ["_law_script", "_law_many", "_law_wares", "_law_book", "_law_rows", "_law_held", "_law_today", "_law_count", "_law_k", "_law_at", "_law_way", "_law_pair"] ["_law_script"] (defScope s_law) := ⟨rfl, rfl, rfl, by decide +kernel, rfl, by decide +kernel, by decide +kernel⟩
theorem lenZ {α : Type} {us : List α} (h : us.length = 0) : us = [] := List.eq_nil_of_length_eq_zero h
theorem lenS {α : Type} {us : List α} {n : Nat} (h : us.length = n + 1) : ∃ a vs, us = a :: vs ∧ vs.length = n := by
  cases us with
  | nil => cases h
  | cons a vs => exact ⟨a, vs, rfl, Nat.succ.inj h⟩
theorem len1 {α : Type} {us : List α} (h : us.length = 1) : ∃ a0, us = [a0] := by
  obtain ⟨a0, us0, rfl, h0⟩ := lenS h
  obtain rfl := lenZ h0
  exact ⟨a0, rfl⟩
theorem len2 {α : Type} {us : List α} (h : us.length = 2) : ∃ a0 a1, us = [a0, a1] := by
  obtain ⟨a0, us0, rfl, h0⟩ := lenS h
  obtain ⟨a1, us1, rfl, h1⟩ := lenS h0
  obtain rfl := lenZ h1
  exact ⟨a0, a1, rfl⟩
theorem len3 {α : Type} {us : List α} (h : us.length = 3) : ∃ a0 a1 a2, us = [a0, a1, a2] := by
  obtain ⟨a0, us0, rfl, h0⟩ := lenS h
  obtain ⟨a1, us1, rfl, h1⟩ := lenS h0
  obtain ⟨a2, us2, rfl, h2⟩ := lenS h1
  obtain rfl := lenZ h2
  exact ⟨a0, a1, a2, rfl⟩
theorem len4 {α : Type} {us : List α} (h : us.length = 4) : ∃ a0 a1 a2 a3, us = [a0, a1, a2, a3] := by
  obtain ⟨a0, us0, rfl, h0⟩ := lenS h
  obtain ⟨a1, us1, rfl, h1⟩ := lenS h0
  obtain ⟨a2, us2, rfl, h2⟩ := lenS h1
  obtain ⟨a3, us3, rfl, h3⟩ := lenS h2
  obtain rfl := lenZ h3
  exact ⟨a0, a1, a2, a3, rfl⟩
theorem len5 {α : Type} {us : List α} (h : us.length = 5) : ∃ a0 a1 a2 a3 a4, us = [a0, a1, a2, a3, a4] := by
  obtain ⟨a0, us0, rfl, h0⟩ := lenS h
  obtain ⟨a1, us1, rfl, h1⟩ := lenS h0
  obtain ⟨a2, us2, rfl, h2⟩ := lenS h1
  obtain ⟨a3, us3, rfl, h3⟩ := lenS h2
  obtain ⟨a4, us4, rfl, h4⟩ := lenS h3
  obtain rfl := lenZ h4
  exact ⟨a0, a1, a2, a3, a4, rfl⟩
theorem len6 {α : Type} {us : List α} (h : us.length = 6) : ∃ a0 a1 a2 a3 a4 a5, us = [a0, a1, a2, a3, a4, a5] := by
  obtain ⟨a0, us0, rfl, h0⟩ := lenS h
  obtain ⟨a1, us1, rfl, h1⟩ := lenS h0
  obtain ⟨a2, us2, rfl, h2⟩ := lenS h1
  obtain ⟨a3, us3, rfl, h3⟩ := lenS h2
  obtain ⟨a4, us4, rfl, h4⟩ := lenS h3
  obtain ⟨a5, us5, rfl, h5⟩ := lenS h4
  obtain rfl := lenZ h5
  exact ⟨a0, a1, a2, a3, a4, a5, rfl⟩
theorem len7 {α : Type} {us : List α} (h : us.length = 7) : ∃ a0 a1 a2 a3 a4 a5 a6, us = [a0, a1, a2, a3, a4, a5, a6] := by
  obtain ⟨a0, us0, rfl, h0⟩ := lenS h
  obtain ⟨a1, us1, rfl, h1⟩ := lenS h0
  obtain ⟨a2, us2, rfl, h2⟩ := lenS h1
  obtain ⟨a3, us3, rfl, h3⟩ := lenS h2
  obtain ⟨a4, us4, rfl, h4⟩ := lenS h3
  obtain ⟨a5, us5, rfl, h5⟩ := lenS h4
  obtain ⟨a6, us6, rfl, h6⟩ := lenS h5
  obtain rfl := lenZ h6
  exact ⟨a0, a1, a2, a3, a4, a5, a6, rfl⟩
theorem len8 {α : Type} {us : List α} (h : us.length = 8) : ∃ a0 a1 a2 a3 a4 a5 a6 a7, us = [a0, a1, a2, a3, a4, a5, a6, a7] := by
  obtain ⟨a0, us0, rfl, h0⟩ := lenS h
  obtain ⟨a1, us1, rfl, h1⟩ := lenS h0
  obtain ⟨a2, us2, rfl, h2⟩ := lenS h1
  obtain ⟨a3, us3, rfl, h3⟩ := lenS h2
  obtain ⟨a4, us4, rfl, h4⟩ := lenS h3
  obtain ⟨a5, us5, rfl, h5⟩ := lenS h4
  obtain ⟨a6, us6, rfl, h6⟩ := lenS h5
  obtain ⟨a7, us7, rfl, h7⟩ := lenS h6
  obtain rfl := lenZ h7
  exact ⟨a0, a1, a2, a3, a4, a5, a6, a7, rfl⟩
set_option genInjectivity false in
set_option genSizeOf false in
set_option genInjectivity false in
set_option genSizeOf false in
structure Dfn (K : PySem.W.Frag) (mg : Str → Option Value) (x qual : Str) (st : Stmt) (ps : List Str) where
  a : Addr
  fd : FuncData
  F : Fun K x qual st a fd
  b : Binds K fd ps []
  m : mg x = some (.ref a)
set_option genInjectivity false in
set_option genSizeOf false in
set_option genInjectivity false in
set_option genSizeOf false in
structure DfnM (K : PySem.W.Frag) (C : Addr) (x qual : Str) (st : Stmt) (ps : List Str) where
  a : Addr
  fd : FuncData
  F : Fun K x qual st a fd
  b : Binds K fd ps []
  mt : Meth K C x a
set_option genInjectivity false in
set_option genSizeOf false in
set_option genInjectivity false in
set_option genSizeOf false in
structure Txt (K : PySem.W.Frag) (mg : Str → Option Value) where
  c_Closed : Addr
  m_Closed : mg "Closed" = some (.ref c_Closed)
  c_Gone : Addr
  m_Gone : mg "Gone" = some (.ref c_Gone)
  c_NoDeal : Addr
  m_NoDeal : mg "NoDeal" = some (.ref c_NoDeal)
  c_NoMember : Addr
  m_NoMember : mg "NoMember" = some (.ref c_NoMember)
  c_NoTerms : Addr
  m_NoTerms : mg "NoTerms" = some (.ref c_NoTerms)
  c_Settled : Addr
  m_Settled : mg "Settled" = some (.ref c_Settled)
  e_Closed : errOk K c_Closed = true
  i_Closed_Closed : PySem.W.kitOne K (.ref c_Closed) (.ref c_Closed) = some true
  i_Closed_Gone : PySem.W.kitOne K (.ref c_Closed) (.ref c_Gone) = some false
  i_Closed_NoDeal : PySem.W.kitOne K (.ref c_Closed) (.ref c_NoDeal) = some false
  i_Closed_NoMember : PySem.W.kitOne K (.ref c_Closed) (.ref c_NoMember) = some false
  i_Closed_NoTerms : PySem.W.kitOne K (.ref c_Closed) (.ref c_NoTerms) = some false
  i_Closed_Settled : PySem.W.kitOne K (.ref c_Closed) (.ref c_Settled) = some false
  e_Gone : errOk K c_Gone = true
  i_Gone_Closed : PySem.W.kitOne K (.ref c_Gone) (.ref c_Closed) = some false
  i_Gone_Gone : PySem.W.kitOne K (.ref c_Gone) (.ref c_Gone) = some true
  i_Gone_NoDeal : PySem.W.kitOne K (.ref c_Gone) (.ref c_NoDeal) = some false
  i_Gone_NoMember : PySem.W.kitOne K (.ref c_Gone) (.ref c_NoMember) = some false
  i_Gone_NoTerms : PySem.W.kitOne K (.ref c_Gone) (.ref c_NoTerms) = some false
  i_Gone_Settled : PySem.W.kitOne K (.ref c_Gone) (.ref c_Settled) = some false
  e_NoDeal : errOk K c_NoDeal = true
  i_NoDeal_Closed : PySem.W.kitOne K (.ref c_NoDeal) (.ref c_Closed) = some false
  i_NoDeal_Gone : PySem.W.kitOne K (.ref c_NoDeal) (.ref c_Gone) = some false
  i_NoDeal_NoDeal : PySem.W.kitOne K (.ref c_NoDeal) (.ref c_NoDeal) = some true
  i_NoDeal_NoMember : PySem.W.kitOne K (.ref c_NoDeal) (.ref c_NoMember) = some false
  i_NoDeal_NoTerms : PySem.W.kitOne K (.ref c_NoDeal) (.ref c_NoTerms) = some false
  i_NoDeal_Settled : PySem.W.kitOne K (.ref c_NoDeal) (.ref c_Settled) = some false
  e_NoMember : errOk K c_NoMember = true
  i_NoMember_Closed : PySem.W.kitOne K (.ref c_NoMember) (.ref c_Closed) = some false
  i_NoMember_Gone : PySem.W.kitOne K (.ref c_NoMember) (.ref c_Gone) = some false
  i_NoMember_NoDeal : PySem.W.kitOne K (.ref c_NoMember) (.ref c_NoDeal) = some false
  i_NoMember_NoMember : PySem.W.kitOne K (.ref c_NoMember) (.ref c_NoMember) = some true
  i_NoMember_NoTerms : PySem.W.kitOne K (.ref c_NoMember) (.ref c_NoTerms) = some false
  i_NoMember_Settled : PySem.W.kitOne K (.ref c_NoMember) (.ref c_Settled) = some false
  e_NoTerms : errOk K c_NoTerms = true
  i_NoTerms_Closed : PySem.W.kitOne K (.ref c_NoTerms) (.ref c_Closed) = some false
  i_NoTerms_Gone : PySem.W.kitOne K (.ref c_NoTerms) (.ref c_Gone) = some false
  i_NoTerms_NoDeal : PySem.W.kitOne K (.ref c_NoTerms) (.ref c_NoDeal) = some false
  i_NoTerms_NoMember : PySem.W.kitOne K (.ref c_NoTerms) (.ref c_NoMember) = some false
  i_NoTerms_NoTerms : PySem.W.kitOne K (.ref c_NoTerms) (.ref c_NoTerms) = some true
  i_NoTerms_Settled : PySem.W.kitOne K (.ref c_NoTerms) (.ref c_Settled) = some false
  e_Settled : errOk K c_Settled = true
  i_Settled_Closed : PySem.W.kitOne K (.ref c_Settled) (.ref c_Closed) = some false
  i_Settled_Gone : PySem.W.kitOne K (.ref c_Settled) (.ref c_Gone) = some false
  i_Settled_NoDeal : PySem.W.kitOne K (.ref c_Settled) (.ref c_NoDeal) = some false
  i_Settled_NoMember : PySem.W.kitOne K (.ref c_Settled) (.ref c_NoMember) = some false
  i_Settled_NoTerms : PySem.W.kitOne K (.ref c_Settled) (.ref c_NoTerms) = some false
  i_Settled_Settled : PySem.W.kitOne K (.ref c_Settled) (.ref c_Settled) = some true
  c_Book : Addr
  m_Book : mg "Book" = some (.ref c_Book)
  cl_Book : Cls K c_Book
  na_Book_day : NoAttr K c_Book "day"
  na_Book_deals : NoAttr K c_Book "deals"
  na_Book_many : NoAttr K c_Book "many"
  na_Book_wares : NoAttr K c_Book "wares"
  t_AMOUNT : Tok
  g_AMOUNT : mg "AMOUNT" = some (.int 4 t_AMOUNT)
  t_DAY : Tok
  g_DAY : mg "DAY" = some (.int 5 t_DAY)
  t_MOST_AMOUNT : Tok
  g_MOST_AMOUNT : mg "MOST_AMOUNT" = some (.int 1000000000 t_MOST_AMOUNT)
  t_MOST_DAY : Tok
  g_MOST_DAY : mg "MOST_DAY" = some (.int 1000000 t_MOST_DAY)
  t_MOST_UNITS : Tok
  g_MOST_UNITS : mg "MOST_UNITS" = some (.int 1000000 t_MOST_UNITS)
  t_PAYEE : Tok
  g_PAYEE : mg "PAYEE" = some (.int 1 t_PAYEE)
  t_PAYER : Tok
  g_PAYER : mg "PAYER" = some (.int 0 t_PAYER)
  t_RANK : Tok
  g_RANK : mg "RANK" = some (.int 6 t_RANK)
  t_STATE : Tok
  g_STATE : mg "STATE" = some (.int 7 t_STATE)
  t_UNITS : Tok
  g_UNITS : mg "UNITS" = some (.int 3 t_UNITS)
  t_WARE : Tok
  g_WARE : mg "WARE" = some (.int 2 t_WARE)
  d_Book___init__ : DfnM K c_Book "__init__" "Book.__init__" s_Book___init__ ["self", "many", "wares"]
  mk_Book : Mk K c_Book d_Book___init__.a
  d_Book_strike : DfnM K c_Book "strike" "Book.strike" s_Book_strike ["self", "payer", "payee", "ware", "units", "amount", "day", "rank"]
  d_Book_check_members : DfnM K c_Book "check_members" "Book.check_members" s_Book_check_members ["self", "payer", "payee"]
  d_Book_check_terms : DfnM K c_Book "check_terms" "Book.check_terms" s_Book_check_terms ["self", "ware", "units", "amount", "day", "rank"]
  d_Book_change : DfnM K c_Book "change" "Book.change" s_Book_change ["self", "number", "amount", "day"]
  d_Book_break_off : DfnM K c_Book "break_off" "Book.break_off" s_Book_break_off ["self", "number"]
  d_Book_standing_deal : DfnM K c_Book "standing_deal" "Book.standing_deal" s_Book_standing_deal ["self", "number"]
  d_Book_put_state : DfnM K c_Book "put_state" "Book.put_state" s_Book_put_state ["self", "number", "state"]
  d_Book_close : DfnM K c_Book "close" "Book.close" s_Book_close ["self"]
  d_Book_deal : DfnM K c_Book "deal" "Book.deal" s_Book_deal ["self", "number"]
  d_Book_numbers_on : DfnM K c_Book "numbers_on" "Book.numbers_on" s_Book_numbers_on ["self", "day"]
  d_Book_sheet_on : DfnM K c_Book "sheet_on" "Book.sheet_on" s_Book_sheet_on ["self", "day"]
  d_Book_entries : DfnM K c_Book "entries" "Book.entries" s_Book_entries ["self", "member"]
  d_Book_position : DfnM K c_Book "position" "Book.position" s_Book_position ["self", "member"]
  d__law_cell : Dfn K mg "_law_cell" "_law_cell" s__law_cell ["_law_script", "_law_k"]
  d__law_draw : Dfn K mg "_law_draw" "_law_draw" s__law_draw ["_law_script", "_law_k", "_law_many"]
  d__law_great : Dfn K mg "_law_great" "_law_great" s__law_great ["_law_script", "_law_k", "_law_many"]
  d__law_wholes : Dfn K mg "_law_wholes" "_law_wholes" s__law_wholes ["_law_told", "_law_many"]
  d__law_tuples : Dfn K mg "_law_tuples" "_law_tuples" s__law_tuples ["_law_told", "_law_many"]
  d__law_day_due : Dfn K mg "_law_day_due" "_law_day_due" s__law_day_due ["_law_rows", "_law_day"]
  d__law_entries_due : Dfn K mg "_law_entries_due" "_law_entries_due" s__law_entries_due ["_law_rows", "_law_member"]
  d__law_position_due : Dfn K mg "_law_position_due" "_law_position_due" s__law_position_due ["_law_rows", "_law_member", "_law_wares"]
  d__law_days_right : Dfn K mg "_law_days_right" "_law_days_right" s__law_days_right ["_law_book", "_law_rows", "_law_days", "_law_held"]
  d__law_members_right : Dfn K mg "_law_members_right" "_law_members_right" s__law_members_right ["_law_book", "_law_rows", "_law_members", "_law_wares", "_law_days", "_law_held"]
  d__law_asked : Dfn K mg "_law_asked" "_law_asked" s__law_asked ["_law_script", "_law_at", "_law_book", "_law_rows", "_law_wares", "_law_many", "_law_today", "_law_held"]
  d__law_struck : Dfn K mg "_law_struck" "_law_struck" s__law_struck ["_law_script", "_law_at", "_law_book", "_law_rows", "_law_many", "_law_wares", "_law_today"]
  d__law_turned : Dfn K mg "_law_turned" "_law_turned" s__law_turned ["_law_script", "_law_at", "_law_book", "_law_rows", "_law_today"]
  d__law_closed : Dfn K mg "_law_closed" "_law_closed" s__law_closed ["_law_book", "_law_rows", "_law_today"]
  d_law : Dfn K mg "law" "law" s_law ["_law_script"]
  bl_law : ∀ (s : Shared) (v : Value), BindsTo s d_law.fd ⟨[v], []⟩ [("_law_script", v)]
  z_bool : mg "bool" = none
  z_enumerate : mg "enumerate" = none
  z_int : mg "int" = none
  z_isinstance : mg "isinstance" = none
  z_len : mg "len" = none
  z_list : mg "list" = none
  z_range : mg "range" = none
  z_sorted : mg "sorted" = none
  z_sum : mg "sum" = none
  z_tuple : mg "tuple" = none
noncomputable def txt_mk {K : PySem.W.Frag} {h : Heap} {mg : Str → Option Value} (X : K.In h) (G : h.Ns mainGlobals mg)
    {c_Closed : Addr}
    {c_Gone : Addr}
    {c_NoDeal : Addr}
    {c_NoMember : Addr}
    {c_NoTerms : Addr}
    {c_Settled : Addr}
    {c_Book : Addr}
    {t_AMOUNT : Tok}
    {t_DAY : Tok}
    {t_MOST_AMOUNT : Tok}
    {t_MOST_DAY : Tok}
    {t_MOST_UNITS : Tok}
    {t_PAYEE : Tok}
    {t_PAYER : Tok}
    {t_RANK : Tok}
    {t_STATE : Tok}
    {t_UNITS : Tok}
    {t_WARE : Tok}
    {f_Book___init__ : Addr} {oc_Book___init__ kV_Book___init__ dc_Book___init__ pm_Book___init__ cd_Book___init__ ct_Book___init__ : Value} {od_Book___init__ an_Book___init__ : Option Addr} {sl_Book___init__ : Array (Option Value)}
    {f_Book_strike : Addr} {oc_Book_strike kV_Book_strike dc_Book_strike pm_Book_strike cd_Book_strike ct_Book_strike : Value} {od_Book_strike an_Book_strike : Option Addr} {sl_Book_strike : Array (Option Value)}
    {f_Book_check_members : Addr} {oc_Book_check_members kV_Book_check_members dc_Book_check_members pm_Book_check_members cd_Book_check_members ct_Book_check_members : Value} {od_Book_check_members an_Book_check_members : Option Addr} {sl_Book_check_members : Array (Option Value)}
    {f_Book_check_terms : Addr} {oc_Book_check_terms kV_Book_check_terms dc_Book_check_terms pm_Book_check_terms cd_Book_check_terms ct_Book_check_terms : Value} {od_Book_check_terms an_Book_check_terms : Option Addr} {sl_Book_check_terms : Array (Option Value)}
    {f_Book_change : Addr} {oc_Book_change kV_Book_change dc_Book_change pm_Book_change cd_Book_change ct_Book_change : Value} {od_Book_change an_Book_change : Option Addr} {sl_Book_change : Array (Option Value)}
    {f_Book_break_off : Addr} {oc_Book_break_off kV_Book_break_off dc_Book_break_off pm_Book_break_off cd_Book_break_off ct_Book_break_off : Value} {od_Book_break_off an_Book_break_off : Option Addr} {sl_Book_break_off : Array (Option Value)}
    {f_Book_standing_deal : Addr} {oc_Book_standing_deal kV_Book_standing_deal dc_Book_standing_deal pm_Book_standing_deal cd_Book_standing_deal ct_Book_standing_deal : Value} {od_Book_standing_deal an_Book_standing_deal : Option Addr} {sl_Book_standing_deal : Array (Option Value)}
    {f_Book_put_state : Addr} {oc_Book_put_state kV_Book_put_state dc_Book_put_state pm_Book_put_state cd_Book_put_state ct_Book_put_state : Value} {od_Book_put_state an_Book_put_state : Option Addr} {sl_Book_put_state : Array (Option Value)}
    {f_Book_close : Addr} {oc_Book_close kV_Book_close dc_Book_close pm_Book_close cd_Book_close ct_Book_close : Value} {od_Book_close an_Book_close : Option Addr} {sl_Book_close : Array (Option Value)}
    {f_Book_deal : Addr} {oc_Book_deal kV_Book_deal dc_Book_deal pm_Book_deal cd_Book_deal ct_Book_deal : Value} {od_Book_deal an_Book_deal : Option Addr} {sl_Book_deal : Array (Option Value)}
    {f_Book_numbers_on : Addr} {oc_Book_numbers_on kV_Book_numbers_on dc_Book_numbers_on pm_Book_numbers_on cd_Book_numbers_on ct_Book_numbers_on : Value} {od_Book_numbers_on an_Book_numbers_on : Option Addr} {sl_Book_numbers_on : Array (Option Value)}
    {f_Book_sheet_on : Addr} {oc_Book_sheet_on kV_Book_sheet_on dc_Book_sheet_on pm_Book_sheet_on cd_Book_sheet_on ct_Book_sheet_on : Value} {od_Book_sheet_on an_Book_sheet_on : Option Addr} {sl_Book_sheet_on : Array (Option Value)}
    {f_Book_entries : Addr} {oc_Book_entries kV_Book_entries dc_Book_entries pm_Book_entries cd_Book_entries ct_Book_entries : Value} {od_Book_entries an_Book_entries : Option Addr} {sl_Book_entries : Array (Option Value)}
    {f_Book_position : Addr} {oc_Book_position kV_Book_position dc_Book_position pm_Book_position cd_Book_position ct_Book_position : Value} {od_Book_position an_Book_position : Option Addr} {sl_Book_position : Array (Option Value)}
    {f__law_cell : Addr} {oc__law_cell kV__law_cell dc__law_cell pm__law_cell cd__law_cell ct__law_cell : Value} {od__law_cell an__law_cell : Option Addr} {sl__law_cell : Array (Option Value)}
    {f__law_draw : Addr} {oc__law_draw kV__law_draw dc__law_draw pm__law_draw cd__law_draw ct__law_draw : Value} {od__law_draw an__law_draw : Option Addr} {sl__law_draw : Array (Option Value)}
    {f__law_great : Addr} {oc__law_great kV__law_great dc__law_great pm__law_great cd__law_great ct__law_great : Value} {od__law_great an__law_great : Option Addr} {sl__law_great : Array (Option Value)}
    {f__law_wholes : Addr} {oc__law_wholes kV__law_wholes dc__law_wholes pm__law_wholes cd__law_wholes ct__law_wholes : Value} {od__law_wholes an__law_wholes : Option Addr} {sl__law_wholes : Array (Option Value)}
    {f__law_tuples : Addr} {oc__law_tuples kV__law_tuples dc__law_tuples pm__law_tuples cd__law_tuples ct__law_tuples : Value} {od__law_tuples an__law_tuples : Option Addr} {sl__law_tuples : Array (Option Value)}
    {f__law_day_due : Addr} {oc__law_day_due kV__law_day_due dc__law_day_due pm__law_day_due cd__law_day_due ct__law_day_due : Value} {od__law_day_due an__law_day_due : Option Addr} {sl__law_day_due : Array (Option Value)}
    {f__law_entries_due : Addr} {oc__law_entries_due kV__law_entries_due dc__law_entries_due pm__law_entries_due cd__law_entries_due ct__law_entries_due : Value} {od__law_entries_due an__law_entries_due : Option Addr} {sl__law_entries_due : Array (Option Value)}
    {f__law_position_due : Addr} {oc__law_position_due kV__law_position_due dc__law_position_due pm__law_position_due cd__law_position_due ct__law_position_due : Value} {od__law_position_due an__law_position_due : Option Addr} {sl__law_position_due : Array (Option Value)}
    {f__law_days_right : Addr} {oc__law_days_right kV__law_days_right dc__law_days_right pm__law_days_right cd__law_days_right ct__law_days_right : Value} {od__law_days_right an__law_days_right : Option Addr} {sl__law_days_right : Array (Option Value)}
    {f__law_members_right : Addr} {oc__law_members_right kV__law_members_right dc__law_members_right pm__law_members_right cd__law_members_right ct__law_members_right : Value} {od__law_members_right an__law_members_right : Option Addr} {sl__law_members_right : Array (Option Value)}
    {f__law_asked : Addr} {oc__law_asked kV__law_asked dc__law_asked pm__law_asked cd__law_asked ct__law_asked : Value} {od__law_asked an__law_asked : Option Addr} {sl__law_asked : Array (Option Value)}
    {f__law_struck : Addr} {oc__law_struck kV__law_struck dc__law_struck pm__law_struck cd__law_struck ct__law_struck : Value} {od__law_struck an__law_struck : Option Addr} {sl__law_struck : Array (Option Value)}
    {f__law_turned : Addr} {oc__law_turned kV__law_turned dc__law_turned pm__law_turned cd__law_turned ct__law_turned : Value} {od__law_turned an__law_turned : Option Addr} {sl__law_turned : Array (Option Value)}
    {f__law_closed : Addr} {oc__law_closed kV__law_closed dc__law_closed pm__law_closed cd__law_closed ct__law_closed : Value} {od__law_closed an__law_closed : Option Addr} {sl__law_closed : Array (Option Value)}
    {f_law : Addr} {oc_law kV_law dc_law pm_law cd_law ct_law : Value} {od_law an_law : Option Addr} {sl_law : Array (Option Value)}
    (m_Closed : PySem.W.nsIn K mainGlobals "Closed" = some (some (.ref c_Closed)))
    (m_Gone : PySem.W.nsIn K mainGlobals "Gone" = some (some (.ref c_Gone)))
    (m_NoDeal : PySem.W.nsIn K mainGlobals "NoDeal" = some (some (.ref c_NoDeal)))
    (m_NoMember : PySem.W.nsIn K mainGlobals "NoMember" = some (some (.ref c_NoMember)))
    (m_NoTerms : PySem.W.nsIn K mainGlobals "NoTerms" = some (some (.ref c_NoTerms)))
    (m_Settled : PySem.W.nsIn K mainGlobals "Settled" = some (some (.ref c_Settled)))
    (hd_Closed : PySem.W.hasDictIn K c_Closed = true) (ty_Closed : PySem.W.typeIn K (.ref c_Closed) = some (.type "type"))
    (hd_Gone : PySem.W.hasDictIn K c_Gone = true) (ty_Gone : PySem.W.typeIn K (.ref c_Gone) = some (.type "type"))
    (hd_NoDeal : PySem.W.hasDictIn K c_NoDeal = true) (ty_NoDeal : PySem.W.typeIn K (.ref c_NoDeal) = some (.type "type"))
    (hd_NoMember : PySem.W.hasDictIn K c_NoMember = true) (ty_NoMember : PySem.W.typeIn K (.ref c_NoMember) = some (.type "type"))
    (hd_NoTerms : PySem.W.hasDictIn K c_NoTerms = true) (ty_NoTerms : PySem.W.typeIn K (.ref c_NoTerms) = some (.type "type"))
    (hd_Settled : PySem.W.hasDictIn K c_Settled = true) (ty_Settled : PySem.W.typeIn K (.ref c_Settled) = some (.type "type"))
    (sn_ : PySem.W.specialIn K (.builtin "object.__class__") "__get__" = some (some (.builtin "getset_descriptor.__get__"))) (tk_ : PySem.W.takesIn K (.builtin "object.__class__") = some true)
    (x_Closed : PySem.W.excIn K c_Closed [.type "ValueError", .type "Exception", .type "BaseException", .type "object"] "ValueError.__new__" = true) (ga_Closed : PySem.W.findIn K (.ref c_Closed) "__getattribute__" = some (some (.builtin "BaseException.__getattribute__"))) (gn_Closed : PySem.W.findIn K (.ref c_Closed) "__getattr__" = some none) (be_Closed : PySem.W.mroIn K c_Closed (.type "BaseException") = some true) (fa_Closed : PySem.W.findIn K (.ref c_Closed) "__class__" = some (some (.builtin "object.__class__"))) (mo_Closed : PySem.W.mroIn K c_Closed (.type "object") = some true)
    (s_Closed_Closed : PySem.W.subIn K (.ref c_Closed) (.ref c_Closed) = some true)
    (s_Closed_Gone : PySem.W.subIn K (.ref c_Closed) (.ref c_Gone) = some false)
    (n_Closed_Gone : c_Closed ≠ c_Gone)
    (s_Closed_NoDeal : PySem.W.subIn K (.ref c_Closed) (.ref c_NoDeal) = some false)
    (n_Closed_NoDeal : c_Closed ≠ c_NoDeal)
    (s_Closed_NoMember : PySem.W.subIn K (.ref c_Closed) (.ref c_NoMember) = some false)
    (n_Closed_NoMember : c_Closed ≠ c_NoMember)
    (s_Closed_NoTerms : PySem.W.subIn K (.ref c_Closed) (.ref c_NoTerms) = some false)
    (n_Closed_NoTerms : c_Closed ≠ c_NoTerms)
    (s_Closed_Settled : PySem.W.subIn K (.ref c_Closed) (.ref c_Settled) = some false)
    (n_Closed_Settled : c_Closed ≠ c_Settled)
    (x_Gone : PySem.W.excIn K c_Gone [.type "ValueError", .type "Exception", .type "BaseException", .type "object"] "ValueError.__new__" = true) (ga_Gone : PySem.W.findIn K (.ref c_Gone) "__getattribute__" = some (some (.builtin "BaseException.__getattribute__"))) (gn_Gone : PySem.W.findIn K (.ref c_Gone) "__getattr__" = some none) (be_Gone : PySem.W.mroIn K c_Gone (.type "BaseException") = some true) (fa_Gone : PySem.W.findIn K (.ref c_Gone) "__class__" = some (some (.builtin "object.__class__"))) (mo_Gone : PySem.W.mroIn K c_Gone (.type "object") = some true)
    (s_Gone_Closed : PySem.W.subIn K (.ref c_Gone) (.ref c_Closed) = some false)
    (n_Gone_Closed : c_Gone ≠ c_Closed)
    (s_Gone_Gone : PySem.W.subIn K (.ref c_Gone) (.ref c_Gone) = some true)
    (s_Gone_NoDeal : PySem.W.subIn K (.ref c_Gone) (.ref c_NoDeal) = some false)
    (n_Gone_NoDeal : c_Gone ≠ c_NoDeal)
    (s_Gone_NoMember : PySem.W.subIn K (.ref c_Gone) (.ref c_NoMember) = some false)
    (n_Gone_NoMember : c_Gone ≠ c_NoMember)
    (s_Gone_NoTerms : PySem.W.subIn K (.ref c_Gone) (.ref c_NoTerms) = some false)
    (n_Gone_NoTerms : c_Gone ≠ c_NoTerms)
    (s_Gone_Settled : PySem.W.subIn K (.ref c_Gone) (.ref c_Settled) = some false)
    (n_Gone_Settled : c_Gone ≠ c_Settled)
    (x_NoDeal : PySem.W.excIn K c_NoDeal [.type "ValueError", .type "Exception", .type "BaseException", .type "object"] "ValueError.__new__" = true) (ga_NoDeal : PySem.W.findIn K (.ref c_NoDeal) "__getattribute__" = some (some (.builtin "BaseException.__getattribute__"))) (gn_NoDeal : PySem.W.findIn K (.ref c_NoDeal) "__getattr__" = some none) (be_NoDeal : PySem.W.mroIn K c_NoDeal (.type "BaseException") = some true) (fa_NoDeal : PySem.W.findIn K (.ref c_NoDeal) "__class__" = some (some (.builtin "object.__class__"))) (mo_NoDeal : PySem.W.mroIn K c_NoDeal (.type "object") = some true)
    (s_NoDeal_Closed : PySem.W.subIn K (.ref c_NoDeal) (.ref c_Closed) = some false)
    (n_NoDeal_Closed : c_NoDeal ≠ c_Closed)
    (s_NoDeal_Gone : PySem.W.subIn K (.ref c_NoDeal) (.ref c_Gone) = some false)
    (n_NoDeal_Gone : c_NoDeal ≠ c_Gone)
    (s_NoDeal_NoDeal : PySem.W.subIn K (.ref c_NoDeal) (.ref c_NoDeal) = some true)
    (s_NoDeal_NoMember : PySem.W.subIn K (.ref c_NoDeal) (.ref c_NoMember) = some false)
    (n_NoDeal_NoMember : c_NoDeal ≠ c_NoMember)
    (s_NoDeal_NoTerms : PySem.W.subIn K (.ref c_NoDeal) (.ref c_NoTerms) = some false)
    (n_NoDeal_NoTerms : c_NoDeal ≠ c_NoTerms)
    (s_NoDeal_Settled : PySem.W.subIn K (.ref c_NoDeal) (.ref c_Settled) = some false)
    (n_NoDeal_Settled : c_NoDeal ≠ c_Settled)
    (x_NoMember : PySem.W.excIn K c_NoMember [.type "ValueError", .type "Exception", .type "BaseException", .type "object"] "ValueError.__new__" = true) (ga_NoMember : PySem.W.findIn K (.ref c_NoMember) "__getattribute__" = some (some (.builtin "BaseException.__getattribute__"))) (gn_NoMember : PySem.W.findIn K (.ref c_NoMember) "__getattr__" = some none) (be_NoMember : PySem.W.mroIn K c_NoMember (.type "BaseException") = some true) (fa_NoMember : PySem.W.findIn K (.ref c_NoMember) "__class__" = some (some (.builtin "object.__class__"))) (mo_NoMember : PySem.W.mroIn K c_NoMember (.type "object") = some true)
    (s_NoMember_Closed : PySem.W.subIn K (.ref c_NoMember) (.ref c_Closed) = some false)
    (n_NoMember_Closed : c_NoMember ≠ c_Closed)
    (s_NoMember_Gone : PySem.W.subIn K (.ref c_NoMember) (.ref c_Gone) = some false)
    (n_NoMember_Gone : c_NoMember ≠ c_Gone)
    (s_NoMember_NoDeal : PySem.W.subIn K (.ref c_NoMember) (.ref c_NoDeal) = some false)
    (n_NoMember_NoDeal : c_NoMember ≠ c_NoDeal)
    (s_NoMember_NoMember : PySem.W.subIn K (.ref c_NoMember) (.ref c_NoMember) = some true)
    (s_NoMember_NoTerms : PySem.W.subIn K (.ref c_NoMember) (.ref c_NoTerms) = some false)
    (n_NoMember_NoTerms : c_NoMember ≠ c_NoTerms)
    (s_NoMember_Settled : PySem.W.subIn K (.ref c_NoMember) (.ref c_Settled) = some false)
    (n_NoMember_Settled : c_NoMember ≠ c_Settled)
    (x_NoTerms : PySem.W.excIn K c_NoTerms [.type "ValueError", .type "Exception", .type "BaseException", .type "object"] "ValueError.__new__" = true) (ga_NoTerms : PySem.W.findIn K (.ref c_NoTerms) "__getattribute__" = some (some (.builtin "BaseException.__getattribute__"))) (gn_NoTerms : PySem.W.findIn K (.ref c_NoTerms) "__getattr__" = some none) (be_NoTerms : PySem.W.mroIn K c_NoTerms (.type "BaseException") = some true) (fa_NoTerms : PySem.W.findIn K (.ref c_NoTerms) "__class__" = some (some (.builtin "object.__class__"))) (mo_NoTerms : PySem.W.mroIn K c_NoTerms (.type "object") = some true)
    (s_NoTerms_Closed : PySem.W.subIn K (.ref c_NoTerms) (.ref c_Closed) = some false)
    (n_NoTerms_Closed : c_NoTerms ≠ c_Closed)
    (s_NoTerms_Gone : PySem.W.subIn K (.ref c_NoTerms) (.ref c_Gone) = some false)
    (n_NoTerms_Gone : c_NoTerms ≠ c_Gone)
    (s_NoTerms_NoDeal : PySem.W.subIn K (.ref c_NoTerms) (.ref c_NoDeal) = some false)
    (n_NoTerms_NoDeal : c_NoTerms ≠ c_NoDeal)
    (s_NoTerms_NoMember : PySem.W.subIn K (.ref c_NoTerms) (.ref c_NoMember) = some false)
    (n_NoTerms_NoMember : c_NoTerms ≠ c_NoMember)
    (s_NoTerms_NoTerms : PySem.W.subIn K (.ref c_NoTerms) (.ref c_NoTerms) = some true)
    (s_NoTerms_Settled : PySem.W.subIn K (.ref c_NoTerms) (.ref c_Settled) = some false)
    (n_NoTerms_Settled : c_NoTerms ≠ c_Settled)
    (x_Settled : PySem.W.excIn K c_Settled [.type "ValueError", .type "Exception", .type "BaseException", .type "object"] "ValueError.__new__" = true) (ga_Settled : PySem.W.findIn K (.ref c_Settled) "__getattribute__" = some (some (.builtin "BaseException.__getattribute__"))) (gn_Settled : PySem.W.findIn K (.ref c_Settled) "__getattr__" = some none) (be_Settled : PySem.W.mroIn K c_Settled (.type "BaseException") = some true) (fa_Settled : PySem.W.findIn K (.ref c_Settled) "__class__" = some (some (.builtin "object.__class__"))) (mo_Settled : PySem.W.mroIn K c_Settled (.type "object") = some true)
    (s_Settled_Closed : PySem.W.subIn K (.ref c_Settled) (.ref c_Closed) = some false)
    (n_Settled_Closed : c_Settled ≠ c_Closed)
    (s_Settled_Gone : PySem.W.subIn K (.ref c_Settled) (.ref c_Gone) = some false)
    (n_Settled_Gone : c_Settled ≠ c_Gone)
    (s_Settled_NoDeal : PySem.W.subIn K (.ref c_Settled) (.ref c_NoDeal) = some false)
    (n_Settled_NoDeal : c_Settled ≠ c_NoDeal)
    (s_Settled_NoMember : PySem.W.subIn K (.ref c_Settled) (.ref c_NoMember) = some false)
    (n_Settled_NoMember : c_Settled ≠ c_NoMember)
    (s_Settled_NoTerms : PySem.W.subIn K (.ref c_Settled) (.ref c_NoTerms) = some false)
    (n_Settled_NoTerms : c_Settled ≠ c_NoTerms)
    (s_Settled_Settled : PySem.W.subIn K (.ref c_Settled) (.ref c_Settled) = some true)
    (m_Book : PySem.W.nsIn K mainGlobals "Book" = some (some (.ref c_Book))) (pg_Book : PySem.W.plainGet K c_Book Str.empty = true) (hd_Book : PySem.W.hasDictIn K c_Book = true) (po_Book : PySem.W.plainOver K c_Book = true) (sa_Book : PySem.W.findIn K (.ref c_Book) "__setattr__" = some (some (.builtin "object.__setattr__"))) (mk_Book : PySem.W.makesIn K c_Book = true) (kc_Book : PySem.W.keepIn K (.ref c_Book) = true)
    (na_Book_day : PySem.W.findIn K (.ref c_Book) "day" = some none)
    (na_Book_deals : PySem.W.findIn K (.ref c_Book) "deals" = some none)
    (na_Book_many : PySem.W.findIn K (.ref c_Book) "many" = some none)
    (na_Book_wares : PySem.W.findIn K (.ref c_Book) "wares" = some none)
    (g_AMOUNT : PySem.W.nsIn K mainGlobals "AMOUNT" = some (some (.int 4 t_AMOUNT)))
    (g_DAY : PySem.W.nsIn K mainGlobals "DAY" = some (some (.int 5 t_DAY)))
    (g_MOST_AMOUNT : PySem.W.nsIn K mainGlobals "MOST_AMOUNT" = some (some (.int 1000000000 t_MOST_AMOUNT)))
    (g_MOST_DAY : PySem.W.nsIn K mainGlobals "MOST_DAY" = some (some (.int 1000000 t_MOST_DAY)))
    (g_MOST_UNITS : PySem.W.nsIn K mainGlobals "MOST_UNITS" = some (some (.int 1000000 t_MOST_UNITS)))
    (g_PAYEE : PySem.W.nsIn K mainGlobals "PAYEE" = some (some (.int 1 t_PAYEE)))
    (g_PAYER : PySem.W.nsIn K mainGlobals "PAYER" = some (some (.int 0 t_PAYER)))
    (g_RANK : PySem.W.nsIn K mainGlobals "RANK" = some (some (.int 6 t_RANK)))
    (g_STATE : PySem.W.nsIn K mainGlobals "STATE" = some (some (.int 7 t_STATE)))
    (g_UNITS : PySem.W.nsIn K mainGlobals "UNITS" = some (some (.int 3 t_UNITS)))
    (g_WARE : PySem.W.nsIn K mainGlobals "WARE" = some (some (.int 2 t_WARE)))
    (a_Book___init__ : PySem.W.findIn K (.ref c_Book) "__init__" = some (some (.ref f_Book___init__))) (i_Book___init__ : PySem.W.isFn K (.ref f_Book___init__) = true) (l_Book___init__ : K.lookup f_Book___init__ = some ⟨oc_Book___init__, od_Book___init__, .func (PySem.W.fnOf "__init__" "Book.__init__" (defArgs s_Book___init__) (defBody s_Book___init__) (defScope s_Book___init__) .none kV_Book___init__ dc_Book___init__ pm_Book___init__ an_Book___init__ cd_Book___init__ ct_Book___init__), sl_Book___init__⟩) (c_Book___init__ : PySem.W.codeIn K cd_Book___init__ "Book.__init__" = true) (k_Book___init__ : PySem.W.keepIn K (.ref f_Book___init__) = true)
    (a_Book_strike : PySem.W.findIn K (.ref c_Book) "strike" = some (some (.ref f_Book_strike))) (i_Book_strike : PySem.W.isFn K (.ref f_Book_strike) = true) (l_Book_strike : K.lookup f_Book_strike = some ⟨oc_Book_strike, od_Book_strike, .func (PySem.W.fnOf "strike" "Book.strike" (defArgs s_Book_strike) (defBody s_Book_strike) (defScope s_Book_strike) .none kV_Book_strike dc_Book_strike pm_Book_strike an_Book_strike cd_Book_strike ct_Book_strike), sl_Book_strike⟩) (c_Book_strike : PySem.W.codeIn K cd_Book_strike "Book.strike" = true) (k_Book_strike : PySem.W.keepIn K (.ref f_Book_strike) = true)
    (a_Book_check_members : PySem.W.findIn K (.ref c_Book) "check_members" = some (some (.ref f_Book_check_members))) (i_Book_check_members : PySem.W.isFn K (.ref f_Book_check_members) = true) (l_Book_check_members : K.lookup f_Book_check_members = some ⟨oc_Book_check_members, od_Book_check_members, .func (PySem.W.fnOf "check_members" "Book.check_members" (defArgs s_Book_check_members) (defBody s_Book_check_members) (defScope s_Book_check_members) .none kV_Book_check_members dc_Book_check_members pm_Book_check_members an_Book_check_members cd_Book_check_members ct_Book_check_members), sl_Book_check_members⟩) (c_Book_check_members : PySem.W.codeIn K cd_Book_check_members "Book.check_members" = true) (k_Book_check_members : PySem.W.keepIn K (.ref f_Book_check_members) = true)
    (a_Book_check_terms : PySem.W.findIn K (.ref c_Book) "check_terms" = some (some (.ref f_Book_check_terms))) (i_Book_check_terms : PySem.W.isFn K (.ref f_Book_check_terms) = true) (l_Book_check_terms : K.lookup f_Book_check_terms = some ⟨oc_Book_check_terms, od_Book_check_terms, .func (PySem.W.fnOf "check_terms" "Book.check_terms" (defArgs s_Book_check_terms) (defBody s_Book_check_terms) (defScope s_Book_check_terms) .none kV_Book_check_terms dc_Book_check_terms pm_Book_check_terms an_Book_check_terms cd_Book_check_terms ct_Book_check_terms), sl_Book_check_terms⟩) (c_Book_check_terms : PySem.W.codeIn K cd_Book_check_terms "Book.check_terms" = true) (k_Book_check_terms : PySem.W.keepIn K (.ref f_Book_check_terms) = true)
    (a_Book_change : PySem.W.findIn K (.ref c_Book) "change" = some (some (.ref f_Book_change))) (i_Book_change : PySem.W.isFn K (.ref f_Book_change) = true) (l_Book_change : K.lookup f_Book_change = some ⟨oc_Book_change, od_Book_change, .func (PySem.W.fnOf "change" "Book.change" (defArgs s_Book_change) (defBody s_Book_change) (defScope s_Book_change) .none kV_Book_change dc_Book_change pm_Book_change an_Book_change cd_Book_change ct_Book_change), sl_Book_change⟩) (c_Book_change : PySem.W.codeIn K cd_Book_change "Book.change" = true) (k_Book_change : PySem.W.keepIn K (.ref f_Book_change) = true)
    (a_Book_break_off : PySem.W.findIn K (.ref c_Book) "break_off" = some (some (.ref f_Book_break_off))) (i_Book_break_off : PySem.W.isFn K (.ref f_Book_break_off) = true) (l_Book_break_off : K.lookup f_Book_break_off = some ⟨oc_Book_break_off, od_Book_break_off, .func (PySem.W.fnOf "break_off" "Book.break_off" (defArgs s_Book_break_off) (defBody s_Book_break_off) (defScope s_Book_break_off) .none kV_Book_break_off dc_Book_break_off pm_Book_break_off an_Book_break_off cd_Book_break_off ct_Book_break_off), sl_Book_break_off⟩) (c_Book_break_off : PySem.W.codeIn K cd_Book_break_off "Book.break_off" = true) (k_Book_break_off : PySem.W.keepIn K (.ref f_Book_break_off) = true)
    (a_Book_standing_deal : PySem.W.findIn K (.ref c_Book) "standing_deal" = some (some (.ref f_Book_standing_deal))) (i_Book_standing_deal : PySem.W.isFn K (.ref f_Book_standing_deal) = true) (l_Book_standing_deal : K.lookup f_Book_standing_deal = some ⟨oc_Book_standing_deal, od_Book_standing_deal, .func (PySem.W.fnOf "standing_deal" "Book.standing_deal" (defArgs s_Book_standing_deal) (defBody s_Book_standing_deal) (defScope s_Book_standing_deal) .none kV_Book_standing_deal dc_Book_standing_deal pm_Book_standing_deal an_Book_standing_deal cd_Book_standing_deal ct_Book_standing_deal), sl_Book_standing_deal⟩) (c_Book_standing_deal : PySem.W.codeIn K cd_Book_standing_deal "Book.standing_deal" = true) (k_Book_standing_deal : PySem.W.keepIn K (.ref f_Book_standing_deal) = true)
    (a_Book_put_state : PySem.W.findIn K (.ref c_Book) "put_state" = some (some (.ref f_Book_put_state))) (i_Book_put_state : PySem.W.isFn K (.ref f_Book_put_state) = true) (l_Book_put_state : K.lookup f_Book_put_state = some ⟨oc_Book_put_state, od_Book_put_state, .func (PySem.W.fnOf "put_state" "Book.put_state" (defArgs s_Book_put_state) (defBody s_Book_put_state) (defScope s_Book_put_state) .none kV_Book_put_state dc_Book_put_state pm_Book_put_state an_Book_put_state cd_Book_put_state ct_Book_put_state), sl_Book_put_state⟩) (c_Book_put_state : PySem.W.codeIn K cd_Book_put_state "Book.put_state" = true) (k_Book_put_state : PySem.W.keepIn K (.ref f_Book_put_state) = true)
    (a_Book_close : PySem.W.findIn K (.ref c_Book) "close" = some (some (.ref f_Book_close))) (i_Book_close : PySem.W.isFn K (.ref f_Book_close) = true) (l_Book_close : K.lookup f_Book_close = some ⟨oc_Book_close, od_Book_close, .func (PySem.W.fnOf "close" "Book.close" (defArgs s_Book_close) (defBody s_Book_close) (defScope s_Book_close) .none kV_Book_close dc_Book_close pm_Book_close an_Book_close cd_Book_close ct_Book_close), sl_Book_close⟩) (c_Book_close : PySem.W.codeIn K cd_Book_close "Book.close" = true) (k_Book_close : PySem.W.keepIn K (.ref f_Book_close) = true)
    (a_Book_deal : PySem.W.findIn K (.ref c_Book) "deal" = some (some (.ref f_Book_deal))) (i_Book_deal : PySem.W.isFn K (.ref f_Book_deal) = true) (l_Book_deal : K.lookup f_Book_deal = some ⟨oc_Book_deal, od_Book_deal, .func (PySem.W.fnOf "deal" "Book.deal" (defArgs s_Book_deal) (defBody s_Book_deal) (defScope s_Book_deal) .none kV_Book_deal dc_Book_deal pm_Book_deal an_Book_deal cd_Book_deal ct_Book_deal), sl_Book_deal⟩) (c_Book_deal : PySem.W.codeIn K cd_Book_deal "Book.deal" = true) (k_Book_deal : PySem.W.keepIn K (.ref f_Book_deal) = true)
    (a_Book_numbers_on : PySem.W.findIn K (.ref c_Book) "numbers_on" = some (some (.ref f_Book_numbers_on))) (i_Book_numbers_on : PySem.W.isFn K (.ref f_Book_numbers_on) = true) (l_Book_numbers_on : K.lookup f_Book_numbers_on = some ⟨oc_Book_numbers_on, od_Book_numbers_on, .func (PySem.W.fnOf "numbers_on" "Book.numbers_on" (defArgs s_Book_numbers_on) (defBody s_Book_numbers_on) (defScope s_Book_numbers_on) .none kV_Book_numbers_on dc_Book_numbers_on pm_Book_numbers_on an_Book_numbers_on cd_Book_numbers_on ct_Book_numbers_on), sl_Book_numbers_on⟩) (c_Book_numbers_on : PySem.W.codeIn K cd_Book_numbers_on "Book.numbers_on" = true) (k_Book_numbers_on : PySem.W.keepIn K (.ref f_Book_numbers_on) = true)
    (a_Book_sheet_on : PySem.W.findIn K (.ref c_Book) "sheet_on" = some (some (.ref f_Book_sheet_on))) (i_Book_sheet_on : PySem.W.isFn K (.ref f_Book_sheet_on) = true) (l_Book_sheet_on : K.lookup f_Book_sheet_on = some ⟨oc_Book_sheet_on, od_Book_sheet_on, .func (PySem.W.fnOf "sheet_on" "Book.sheet_on" (defArgs s_Book_sheet_on) (defBody s_Book_sheet_on) (defScope s_Book_sheet_on) .none kV_Book_sheet_on dc_Book_sheet_on pm_Book_sheet_on an_Book_sheet_on cd_Book_sheet_on ct_Book_sheet_on), sl_Book_sheet_on⟩) (c_Book_sheet_on : PySem.W.codeIn K cd_Book_sheet_on "Book.sheet_on" = true) (k_Book_sheet_on : PySem.W.keepIn K (.ref f_Book_sheet_on) = true)
    (a_Book_entries : PySem.W.findIn K (.ref c_Book) "entries" = some (some (.ref f_Book_entries))) (i_Book_entries : PySem.W.isFn K (.ref f_Book_entries) = true) (l_Book_entries : K.lookup f_Book_entries = some ⟨oc_Book_entries, od_Book_entries, .func (PySem.W.fnOf "entries" "Book.entries" (defArgs s_Book_entries) (defBody s_Book_entries) (defScope s_Book_entries) .none kV_Book_entries dc_Book_entries pm_Book_entries an_Book_entries cd_Book_entries ct_Book_entries), sl_Book_entries⟩) (c_Book_entries : PySem.W.codeIn K cd_Book_entries "Book.entries" = true) (k_Book_entries : PySem.W.keepIn K (.ref f_Book_entries) = true)
    (a_Book_position : PySem.W.findIn K (.ref c_Book) "position" = some (some (.ref f_Book_position))) (i_Book_position : PySem.W.isFn K (.ref f_Book_position) = true) (l_Book_position : K.lookup f_Book_position = some ⟨oc_Book_position, od_Book_position, .func (PySem.W.fnOf "position" "Book.position" (defArgs s_Book_position) (defBody s_Book_position) (defScope s_Book_position) .none kV_Book_position dc_Book_position pm_Book_position an_Book_position cd_Book_position ct_Book_position), sl_Book_position⟩) (c_Book_position : PySem.W.codeIn K cd_Book_position "Book.position" = true) (k_Book_position : PySem.W.keepIn K (.ref f_Book_position) = true)
    (a__law_cell : PySem.W.nsIn K mainGlobals "_law_cell" = some (some (.ref f__law_cell))) (l__law_cell : K.lookup f__law_cell = some ⟨oc__law_cell, od__law_cell, .func (PySem.W.fnOf "_law_cell" "_law_cell" (defArgs s__law_cell) (defBody s__law_cell) (defScope s__law_cell) .none kV__law_cell dc__law_cell pm__law_cell an__law_cell cd__law_cell ct__law_cell), sl__law_cell⟩) (c__law_cell : PySem.W.codeIn K cd__law_cell "_law_cell" = true) (k__law_cell : PySem.W.keepIn K (.ref f__law_cell) = true)
    (a__law_draw : PySem.W.nsIn K mainGlobals "_law_draw" = some (some (.ref f__law_draw))) (l__law_draw : K.lookup f__law_draw = some ⟨oc__law_draw, od__law_draw, .func (PySem.W.fnOf "_law_draw" "_law_draw" (defArgs s__law_draw) (defBody s__law_draw) (defScope s__law_draw) .none kV__law_draw dc__law_draw pm__law_draw an__law_draw cd__law_draw ct__law_draw), sl__law_draw⟩) (c__law_draw : PySem.W.codeIn K cd__law_draw "_law_draw" = true) (k__law_draw : PySem.W.keepIn K (.ref f__law_draw) = true)
    (a__law_great : PySem.W.nsIn K mainGlobals "_law_great" = some (some (.ref f__law_great))) (l__law_great : K.lookup f__law_great = some ⟨oc__law_great, od__law_great, .func (PySem.W.fnOf "_law_great" "_law_great" (defArgs s__law_great) (defBody s__law_great) (defScope s__law_great) .none kV__law_great dc__law_great pm__law_great an__law_great cd__law_great ct__law_great), sl__law_great⟩) (c__law_great : PySem.W.codeIn K cd__law_great "_law_great" = true) (k__law_great : PySem.W.keepIn K (.ref f__law_great) = true)
    (a__law_wholes : PySem.W.nsIn K mainGlobals "_law_wholes" = some (some (.ref f__law_wholes))) (l__law_wholes : K.lookup f__law_wholes = some ⟨oc__law_wholes, od__law_wholes, .func (PySem.W.fnOf "_law_wholes" "_law_wholes" (defArgs s__law_wholes) (defBody s__law_wholes) (defScope s__law_wholes) .none kV__law_wholes dc__law_wholes pm__law_wholes an__law_wholes cd__law_wholes ct__law_wholes), sl__law_wholes⟩) (c__law_wholes : PySem.W.codeIn K cd__law_wholes "_law_wholes" = true) (k__law_wholes : PySem.W.keepIn K (.ref f__law_wholes) = true)
    (a__law_tuples : PySem.W.nsIn K mainGlobals "_law_tuples" = some (some (.ref f__law_tuples))) (l__law_tuples : K.lookup f__law_tuples = some ⟨oc__law_tuples, od__law_tuples, .func (PySem.W.fnOf "_law_tuples" "_law_tuples" (defArgs s__law_tuples) (defBody s__law_tuples) (defScope s__law_tuples) .none kV__law_tuples dc__law_tuples pm__law_tuples an__law_tuples cd__law_tuples ct__law_tuples), sl__law_tuples⟩) (c__law_tuples : PySem.W.codeIn K cd__law_tuples "_law_tuples" = true) (k__law_tuples : PySem.W.keepIn K (.ref f__law_tuples) = true)
    (a__law_day_due : PySem.W.nsIn K mainGlobals "_law_day_due" = some (some (.ref f__law_day_due))) (l__law_day_due : K.lookup f__law_day_due = some ⟨oc__law_day_due, od__law_day_due, .func (PySem.W.fnOf "_law_day_due" "_law_day_due" (defArgs s__law_day_due) (defBody s__law_day_due) (defScope s__law_day_due) .none kV__law_day_due dc__law_day_due pm__law_day_due an__law_day_due cd__law_day_due ct__law_day_due), sl__law_day_due⟩) (c__law_day_due : PySem.W.codeIn K cd__law_day_due "_law_day_due" = true) (k__law_day_due : PySem.W.keepIn K (.ref f__law_day_due) = true)
    (a__law_entries_due : PySem.W.nsIn K mainGlobals "_law_entries_due" = some (some (.ref f__law_entries_due))) (l__law_entries_due : K.lookup f__law_entries_due = some ⟨oc__law_entries_due, od__law_entries_due, .func (PySem.W.fnOf "_law_entries_due" "_law_entries_due" (defArgs s__law_entries_due) (defBody s__law_entries_due) (defScope s__law_entries_due) .none kV__law_entries_due dc__law_entries_due pm__law_entries_due an__law_entries_due cd__law_entries_due ct__law_entries_due), sl__law_entries_due⟩) (c__law_entries_due : PySem.W.codeIn K cd__law_entries_due "_law_entries_due" = true) (k__law_entries_due : PySem.W.keepIn K (.ref f__law_entries_due) = true)
    (a__law_position_due : PySem.W.nsIn K mainGlobals "_law_position_due" = some (some (.ref f__law_position_due))) (l__law_position_due : K.lookup f__law_position_due = some ⟨oc__law_position_due, od__law_position_due, .func (PySem.W.fnOf "_law_position_due" "_law_position_due" (defArgs s__law_position_due) (defBody s__law_position_due) (defScope s__law_position_due) .none kV__law_position_due dc__law_position_due pm__law_position_due an__law_position_due cd__law_position_due ct__law_position_due), sl__law_position_due⟩) (c__law_position_due : PySem.W.codeIn K cd__law_position_due "_law_position_due" = true) (k__law_position_due : PySem.W.keepIn K (.ref f__law_position_due) = true)
    (a__law_days_right : PySem.W.nsIn K mainGlobals "_law_days_right" = some (some (.ref f__law_days_right))) (l__law_days_right : K.lookup f__law_days_right = some ⟨oc__law_days_right, od__law_days_right, .func (PySem.W.fnOf "_law_days_right" "_law_days_right" (defArgs s__law_days_right) (defBody s__law_days_right) (defScope s__law_days_right) .none kV__law_days_right dc__law_days_right pm__law_days_right an__law_days_right cd__law_days_right ct__law_days_right), sl__law_days_right⟩) (c__law_days_right : PySem.W.codeIn K cd__law_days_right "_law_days_right" = true) (k__law_days_right : PySem.W.keepIn K (.ref f__law_days_right) = true)
    (a__law_members_right : PySem.W.nsIn K mainGlobals "_law_members_right" = some (some (.ref f__law_members_right))) (l__law_members_right : K.lookup f__law_members_right = some ⟨oc__law_members_right, od__law_members_right, .func (PySem.W.fnOf "_law_members_right" "_law_members_right" (defArgs s__law_members_right) (defBody s__law_members_right) (defScope s__law_members_right) .none kV__law_members_right dc__law_members_right pm__law_members_right an__law_members_right cd__law_members_right ct__law_members_right), sl__law_members_right⟩) (c__law_members_right : PySem.W.codeIn K cd__law_members_right "_law_members_right" = true) (k__law_members_right : PySem.W.keepIn K (.ref f__law_members_right) = true)
    (a__law_asked : PySem.W.nsIn K mainGlobals "_law_asked" = some (some (.ref f__law_asked))) (l__law_asked : K.lookup f__law_asked = some ⟨oc__law_asked, od__law_asked, .func (PySem.W.fnOf "_law_asked" "_law_asked" (defArgs s__law_asked) (defBody s__law_asked) (defScope s__law_asked) .none kV__law_asked dc__law_asked pm__law_asked an__law_asked cd__law_asked ct__law_asked), sl__law_asked⟩) (c__law_asked : PySem.W.codeIn K cd__law_asked "_law_asked" = true) (k__law_asked : PySem.W.keepIn K (.ref f__law_asked) = true)
    (a__law_struck : PySem.W.nsIn K mainGlobals "_law_struck" = some (some (.ref f__law_struck))) (l__law_struck : K.lookup f__law_struck = some ⟨oc__law_struck, od__law_struck, .func (PySem.W.fnOf "_law_struck" "_law_struck" (defArgs s__law_struck) (defBody s__law_struck) (defScope s__law_struck) .none kV__law_struck dc__law_struck pm__law_struck an__law_struck cd__law_struck ct__law_struck), sl__law_struck⟩) (c__law_struck : PySem.W.codeIn K cd__law_struck "_law_struck" = true) (k__law_struck : PySem.W.keepIn K (.ref f__law_struck) = true)
    (a__law_turned : PySem.W.nsIn K mainGlobals "_law_turned" = some (some (.ref f__law_turned))) (l__law_turned : K.lookup f__law_turned = some ⟨oc__law_turned, od__law_turned, .func (PySem.W.fnOf "_law_turned" "_law_turned" (defArgs s__law_turned) (defBody s__law_turned) (defScope s__law_turned) .none kV__law_turned dc__law_turned pm__law_turned an__law_turned cd__law_turned ct__law_turned), sl__law_turned⟩) (c__law_turned : PySem.W.codeIn K cd__law_turned "_law_turned" = true) (k__law_turned : PySem.W.keepIn K (.ref f__law_turned) = true)
    (a__law_closed : PySem.W.nsIn K mainGlobals "_law_closed" = some (some (.ref f__law_closed))) (l__law_closed : K.lookup f__law_closed = some ⟨oc__law_closed, od__law_closed, .func (PySem.W.fnOf "_law_closed" "_law_closed" (defArgs s__law_closed) (defBody s__law_closed) (defScope s__law_closed) .none kV__law_closed dc__law_closed pm__law_closed an__law_closed cd__law_closed ct__law_closed), sl__law_closed⟩) (c__law_closed : PySem.W.codeIn K cd__law_closed "_law_closed" = true) (k__law_closed : PySem.W.keepIn K (.ref f__law_closed) = true)
    (a_law : PySem.W.nsIn K mainGlobals "law" = some (some (.ref f_law))) (l_law : K.lookup f_law = some ⟨oc_law, od_law, .func (PySem.W.fnOf "law" "law" (defArgs s_law) (defBody s_law) (defScope s_law) .none kV_law dc_law pm_law an_law cd_law ct_law), sl_law⟩) (c_law : PySem.W.codeIn K cd_law "law" = true) (k_law : PySem.W.keepIn K (.ref f_law) = true)
    (w_bool : PySem.W.nsIn K mainGlobals "bool" = some none)
    (w_enumerate : PySem.W.nsIn K mainGlobals "enumerate" = some none)
    (w_int : PySem.W.nsIn K mainGlobals "int" = some none)
    (w_isinstance : PySem.W.nsIn K mainGlobals "isinstance" = some none)
    (w_len : PySem.W.nsIn K mainGlobals "len" = some none)
    (w_list : PySem.W.nsIn K mainGlobals "list" = some none)
    (w_range : PySem.W.nsIn K mainGlobals "range" = some none)
    (w_sorted : PySem.W.nsIn K mainGlobals "sorted" = some none)
    (w_sum : PySem.W.nsIn K mainGlobals "sum" = some none)
    (w_tuple : PySem.W.nsIn K mainGlobals "tuple" = some none) : Txt K mg := {
    c_Closed := c_Closed, m_Closed := PySem.W.mg_of X G m_Closed,
    c_Gone := c_Gone, m_Gone := PySem.W.mg_of X G m_Gone,
    c_NoDeal := c_NoDeal, m_NoDeal := PySem.W.mg_of X G m_NoDeal,
    c_NoMember := c_NoMember, m_NoMember := PySem.W.mg_of X G m_NoMember,
    c_NoTerms := c_NoTerms, m_NoTerms := PySem.W.mg_of X G m_NoTerms,
    c_Settled := c_Settled, m_Settled := PySem.W.mg_of X G m_Settled,
    e_Closed := errOk_mk x_Closed ga_Closed gn_Closed be_Closed hd_Closed fa_Closed sn_ tk_ mo_Closed,
    i_Closed_Closed := kit_self,
    i_Closed_Gone := kit_ne n_Closed_Gone hd_Gone ty_Gone s_Closed_Gone,
    i_Closed_NoDeal := kit_ne n_Closed_NoDeal hd_NoDeal ty_NoDeal s_Closed_NoDeal,
    i_Closed_NoMember := kit_ne n_Closed_NoMember hd_NoMember ty_NoMember s_Closed_NoMember,
    i_Closed_NoTerms := kit_ne n_Closed_NoTerms hd_NoTerms ty_NoTerms s_Closed_NoTerms,
    i_Closed_Settled := kit_ne n_Closed_Settled hd_Settled ty_Settled s_Closed_Settled,
    e_Gone := errOk_mk x_Gone ga_Gone gn_Gone be_Gone hd_Gone fa_Gone sn_ tk_ mo_Gone,
    i_Gone_Closed := kit_ne n_Gone_Closed hd_Closed ty_Closed s_Gone_Closed,
    i_Gone_Gone := kit_self,
    i_Gone_NoDeal := kit_ne n_Gone_NoDeal hd_NoDeal ty_NoDeal s_Gone_NoDeal,
    i_Gone_NoMember := kit_ne n_Gone_NoMember hd_NoMember ty_NoMember s_Gone_NoMember,
    i_Gone_NoTerms := kit_ne n_Gone_NoTerms hd_NoTerms ty_NoTerms s_Gone_NoTerms,
    i_Gone_Settled := kit_ne n_Gone_Settled hd_Settled ty_Settled s_Gone_Settled,
    e_NoDeal := errOk_mk x_NoDeal ga_NoDeal gn_NoDeal be_NoDeal hd_NoDeal fa_NoDeal sn_ tk_ mo_NoDeal,
    i_NoDeal_Closed := kit_ne n_NoDeal_Closed hd_Closed ty_Closed s_NoDeal_Closed,
    i_NoDeal_Gone := kit_ne n_NoDeal_Gone hd_Gone ty_Gone s_NoDeal_Gone,
    i_NoDeal_NoDeal := kit_self,
    i_NoDeal_NoMember := kit_ne n_NoDeal_NoMember hd_NoMember ty_NoMember s_NoDeal_NoMember,
    i_NoDeal_NoTerms := kit_ne n_NoDeal_NoTerms hd_NoTerms ty_NoTerms s_NoDeal_NoTerms,
    i_NoDeal_Settled := kit_ne n_NoDeal_Settled hd_Settled ty_Settled s_NoDeal_Settled,
    e_NoMember := errOk_mk x_NoMember ga_NoMember gn_NoMember be_NoMember hd_NoMember fa_NoMember sn_ tk_ mo_NoMember,
    i_NoMember_Closed := kit_ne n_NoMember_Closed hd_Closed ty_Closed s_NoMember_Closed,
    i_NoMember_Gone := kit_ne n_NoMember_Gone hd_Gone ty_Gone s_NoMember_Gone,
    i_NoMember_NoDeal := kit_ne n_NoMember_NoDeal hd_NoDeal ty_NoDeal s_NoMember_NoDeal,
    i_NoMember_NoMember := kit_self,
    i_NoMember_NoTerms := kit_ne n_NoMember_NoTerms hd_NoTerms ty_NoTerms s_NoMember_NoTerms,
    i_NoMember_Settled := kit_ne n_NoMember_Settled hd_Settled ty_Settled s_NoMember_Settled,
    e_NoTerms := errOk_mk x_NoTerms ga_NoTerms gn_NoTerms be_NoTerms hd_NoTerms fa_NoTerms sn_ tk_ mo_NoTerms,
    i_NoTerms_Closed := kit_ne n_NoTerms_Closed hd_Closed ty_Closed s_NoTerms_Closed,
    i_NoTerms_Gone := kit_ne n_NoTerms_Gone hd_Gone ty_Gone s_NoTerms_Gone,
    i_NoTerms_NoDeal := kit_ne n_NoTerms_NoDeal hd_NoDeal ty_NoDeal s_NoTerms_NoDeal,
    i_NoTerms_NoMember := kit_ne n_NoTerms_NoMember hd_NoMember ty_NoMember s_NoTerms_NoMember,
    i_NoTerms_NoTerms := kit_self,
    i_NoTerms_Settled := kit_ne n_NoTerms_Settled hd_Settled ty_Settled s_NoTerms_Settled,
    e_Settled := errOk_mk x_Settled ga_Settled gn_Settled be_Settled hd_Settled fa_Settled sn_ tk_ mo_Settled,
    i_Settled_Closed := kit_ne n_Settled_Closed hd_Closed ty_Closed s_Settled_Closed,
    i_Settled_Gone := kit_ne n_Settled_Gone hd_Gone ty_Gone s_Settled_Gone,
    i_Settled_NoDeal := kit_ne n_Settled_NoDeal hd_NoDeal ty_NoDeal s_Settled_NoDeal,
    i_Settled_NoMember := kit_ne n_Settled_NoMember hd_NoMember ty_NoMember s_Settled_NoMember,
    i_Settled_NoTerms := kit_ne n_Settled_NoTerms hd_NoTerms ty_NoTerms s_Settled_NoTerms,
    i_Settled_Settled := kit_self,
    c_Book := c_Book, m_Book := PySem.W.mg_of X G m_Book, cl_Book := ⟨pg_Book, hd_Book, po_Book, sa_Book⟩,
    na_Book_day := na_Book_day,
    na_Book_deals := na_Book_deals,
    na_Book_many := na_Book_many,
    na_Book_wares := na_Book_wares,
    t_AMOUNT := t_AMOUNT, g_AMOUNT := PySem.W.mg_of X G g_AMOUNT,
    t_DAY := t_DAY, g_DAY := PySem.W.mg_of X G g_DAY,
    t_MOST_AMOUNT := t_MOST_AMOUNT, g_MOST_AMOUNT := PySem.W.mg_of X G g_MOST_AMOUNT,
    t_MOST_DAY := t_MOST_DAY, g_MOST_DAY := PySem.W.mg_of X G g_MOST_DAY,
    t_MOST_UNITS := t_MOST_UNITS, g_MOST_UNITS := PySem.W.mg_of X G g_MOST_UNITS,
    t_PAYEE := t_PAYEE, g_PAYEE := PySem.W.mg_of X G g_PAYEE,
    t_PAYER := t_PAYER, g_PAYER := PySem.W.mg_of X G g_PAYER,
    t_RANK := t_RANK, g_RANK := PySem.W.mg_of X G g_RANK,
    t_STATE := t_STATE, g_STATE := PySem.W.mg_of X G g_STATE,
    t_UNITS := t_UNITS, g_UNITS := PySem.W.mg_of X G g_UNITS,
    t_WARE := t_WARE, g_WARE := PySem.W.mg_of X G g_WARE,
    d_Book___init__ := { a := f_Book___init__, fd := _, F := fun_mk (st := s_Book___init__) l_Book___init__ c_Book___init__ k_Book___init__, b := (fun_mk (st := s_Book___init__) l_Book___init__ c_Book___init__ k_Book___init__).binds (ps := ["self", "many", "wares"]) fun _ _ _ _ _ _ us hl => (by obtain ⟨_, _, _, rfl⟩ := len3 hl; rfl), mt := ⟨a_Book___init__, i_Book___init__, k_Book___init__⟩ }, mk_Book := ⟨mk_Book, a_Book___init__, i_Book___init__, kc_Book⟩,
    d_Book_strike := { a := f_Book_strike, fd := _, F := fun_mk (st := s_Book_strike) l_Book_strike c_Book_strike k_Book_strike, b := (fun_mk (st := s_Book_strike) l_Book_strike c_Book_strike k_Book_strike).binds (ps := ["self", "payer", "payee", "ware", "units", "amount", "day", "rank"]) fun _ _ _ _ _ _ us hl => (by obtain ⟨_, _, _, _, _, _, _, _, rfl⟩ := len8 hl; rfl), mt := ⟨a_Book_strike, i_Book_strike, k_Book_strike⟩ },
    d_Book_check_members := { a := f_Book_check_members, fd := _, F := fun_mk (st := s_Book_check_members) l_Book_check_members c_Book_check_members k_Book_check_members, b := (fun_mk (st := s_Book_check_members) l_Book_check_members c_Book_check_members k_Book_check_members).binds (ps := ["self", "payer", "payee"]) fun _ _ _ _ _ _ us hl => (by obtain ⟨_, _, _, rfl⟩ := len3 hl; rfl), mt := ⟨a_Book_check_members, i_Book_check_members, k_Book_check_members⟩ },
    d_Book_check_terms := { a := f_Book_check_terms, fd := _, F := fun_mk (st := s_Book_check_terms) l_Book_check_terms c_Book_check_terms k_Book_check_terms, b := (fun_mk (st := s_Book_check_terms) l_Book_check_terms c_Book_check_terms k_Book_check_terms).binds (ps := ["self", "ware", "units", "amount", "day", "rank"]) fun _ _ _ _ _ _ us hl => (by obtain ⟨_, _, _, _, _, _, rfl⟩ := len6 hl; rfl), mt := ⟨a_Book_check_terms, i_Book_check_terms, k_Book_check_terms⟩ },
    d_Book_change := { a := f_Book_change, fd := _, F := fun_mk (st := s_Book_change) l_Book_change c_Book_change k_Book_change, b := (fun_mk (st := s_Book_change) l_Book_change c_Book_change k_Book_change).binds (ps := ["self", "number", "amount", "day"]) fun _ _ _ _ _ _ us hl => (by obtain ⟨_, _, _, _, rfl⟩ := len4 hl; rfl), mt := ⟨a_Book_change, i_Book_change, k_Book_change⟩ },
    d_Book_break_off := { a := f_Book_break_off, fd := _, F := fun_mk (st := s_Book_break_off) l_Book_break_off c_Book_break_off k_Book_break_off, b := (fun_mk (st := s_Book_break_off) l_Book_break_off c_Book_break_off k_Book_break_off).binds (ps := ["self", "number"]) fun _ _ _ _ _ _ us hl => (by obtain ⟨_, _, rfl⟩ := len2 hl; rfl), mt := ⟨a_Book_break_off, i_Book_break_off, k_Book_break_off⟩ },
    d_Book_standing_deal := { a := f_Book_standing_deal, fd := _, F := fun_mk (st := s_Book_standing_deal) l_Book_standing_deal c_Book_standing_deal k_Book_standing_deal, b := (fun_mk (st := s_Book_standing_deal) l_Book_standing_deal c_Book_standing_deal k_Book_standing_deal).binds (ps := ["self", "number"]) fun _ _ _ _ _ _ us hl => (by obtain ⟨_, _, rfl⟩ := len2 hl; rfl), mt := ⟨a_Book_standing_deal, i_Book_standing_deal, k_Book_standing_deal⟩ },
    d_Book_put_state := { a := f_Book_put_state, fd := _, F := fun_mk (st := s_Book_put_state) l_Book_put_state c_Book_put_state k_Book_put_state, b := (fun_mk (st := s_Book_put_state) l_Book_put_state c_Book_put_state k_Book_put_state).binds (ps := ["self", "number", "state"]) fun _ _ _ _ _ _ us hl => (by obtain ⟨_, _, _, rfl⟩ := len3 hl; rfl), mt := ⟨a_Book_put_state, i_Book_put_state, k_Book_put_state⟩ },
    d_Book_close := { a := f_Book_close, fd := _, F := fun_mk (st := s_Book_close) l_Book_close c_Book_close k_Book_close, b := (fun_mk (st := s_Book_close) l_Book_close c_Book_close k_Book_close).binds (ps := ["self"]) fun _ _ _ _ _ _ us hl => (by obtain ⟨_, rfl⟩ := len1 hl; rfl), mt := ⟨a_Book_close, i_Book_close, k_Book_close⟩ },
    d_Book_deal := { a := f_Book_deal, fd := _, F := fun_mk (st := s_Book_deal) l_Book_deal c_Book_deal k_Book_deal, b := (fun_mk (st := s_Book_deal) l_Book_deal c_Book_deal k_Book_deal).binds (ps := ["self", "number"]) fun _ _ _ _ _ _ us hl => (by obtain ⟨_, _, rfl⟩ := len2 hl; rfl), mt := ⟨a_Book_deal, i_Book_deal, k_Book_deal⟩ },
    d_Book_numbers_on := { a := f_Book_numbers_on, fd := _, F := fun_mk (st := s_Book_numbers_on) l_Book_numbers_on c_Book_numbers_on k_Book_numbers_on, b := (fun_mk (st := s_Book_numbers_on) l_Book_numbers_on c_Book_numbers_on k_Book_numbers_on).binds (ps := ["self", "day"]) fun _ _ _ _ _ _ us hl => (by obtain ⟨_, _, rfl⟩ := len2 hl; rfl), mt := ⟨a_Book_numbers_on, i_Book_numbers_on, k_Book_numbers_on⟩ },
    d_Book_sheet_on := { a := f_Book_sheet_on, fd := _, F := fun_mk (st := s_Book_sheet_on) l_Book_sheet_on c_Book_sheet_on k_Book_sheet_on, b := (fun_mk (st := s_Book_sheet_on) l_Book_sheet_on c_Book_sheet_on k_Book_sheet_on).binds (ps := ["self", "day"]) fun _ _ _ _ _ _ us hl => (by obtain ⟨_, _, rfl⟩ := len2 hl; rfl), mt := ⟨a_Book_sheet_on, i_Book_sheet_on, k_Book_sheet_on⟩ },
    d_Book_entries := { a := f_Book_entries, fd := _, F := fun_mk (st := s_Book_entries) l_Book_entries c_Book_entries k_Book_entries, b := (fun_mk (st := s_Book_entries) l_Book_entries c_Book_entries k_Book_entries).binds (ps := ["self", "member"]) fun _ _ _ _ _ _ us hl => (by obtain ⟨_, _, rfl⟩ := len2 hl; rfl), mt := ⟨a_Book_entries, i_Book_entries, k_Book_entries⟩ },
    d_Book_position := { a := f_Book_position, fd := _, F := fun_mk (st := s_Book_position) l_Book_position c_Book_position k_Book_position, b := (fun_mk (st := s_Book_position) l_Book_position c_Book_position k_Book_position).binds (ps := ["self", "member"]) fun _ _ _ _ _ _ us hl => (by obtain ⟨_, _, rfl⟩ := len2 hl; rfl), mt := ⟨a_Book_position, i_Book_position, k_Book_position⟩ },
    d__law_cell := { a := f__law_cell, fd := _, F := fun_mk (st := s__law_cell) l__law_cell c__law_cell k__law_cell, b := (fun_mk (st := s__law_cell) l__law_cell c__law_cell k__law_cell).binds (ps := ["_law_script", "_law_k"]) fun _ _ _ _ _ _ us hl => (by obtain ⟨_, _, rfl⟩ := len2 hl; rfl), m := PySem.W.mg_of X G a__law_cell },
    d__law_draw := { a := f__law_draw, fd := _, F := fun_mk (st := s__law_draw) l__law_draw c__law_draw k__law_draw, b := (fun_mk (st := s__law_draw) l__law_draw c__law_draw k__law_draw).binds (ps := ["_law_script", "_law_k", "_law_many"]) fun _ _ _ _ _ _ us hl => (by obtain ⟨_, _, _, rfl⟩ := len3 hl; rfl), m := PySem.W.mg_of X G a__law_draw },
    d__law_great := { a := f__law_great, fd := _, F := fun_mk (st := s__law_great) l__law_great c__law_great k__law_great, b := (fun_mk (st := s__law_great) l__law_great c__law_great k__law_great).binds (ps := ["_law_script", "_law_k", "_law_many"]) fun _ _ _ _ _ _ us hl => (by obtain ⟨_, _, _, rfl⟩ := len3 hl; rfl), m := PySem.W.mg_of X G a__law_great },
    d__law_wholes := { a := f__law_wholes, fd := _, F := fun_mk (st := s__law_wholes) l__law_wholes c__law_wholes k__law_wholes, b := (fun_mk (st := s__law_wholes) l__law_wholes c__law_wholes k__law_wholes).binds (ps := ["_law_told", "_law_many"]) fun _ _ _ _ _ _ us hl => (by obtain ⟨_, _, rfl⟩ := len2 hl; rfl), m := PySem.W.mg_of X G a__law_wholes },
    d__law_tuples := { a := f__law_tuples, fd := _, F := fun_mk (st := s__law_tuples) l__law_tuples c__law_tuples k__law_tuples, b := (fun_mk (st := s__law_tuples) l__law_tuples c__law_tuples k__law_tuples).binds (ps := ["_law_told", "_law_many"]) fun _ _ _ _ _ _ us hl => (by obtain ⟨_, _, rfl⟩ := len2 hl; rfl), m := PySem.W.mg_of X G a__law_tuples },
    d__law_day_due := { a := f__law_day_due, fd := _, F := fun_mk (st := s__law_day_due) l__law_day_due c__law_day_due k__law_day_due, b := (fun_mk (st := s__law_day_due) l__law_day_due c__law_day_due k__law_day_due).binds (ps := ["_law_rows", "_law_day"]) fun _ _ _ _ _ _ us hl => (by obtain ⟨_, _, rfl⟩ := len2 hl; rfl), m := PySem.W.mg_of X G a__law_day_due },
    d__law_entries_due := { a := f__law_entries_due, fd := _, F := fun_mk (st := s__law_entries_due) l__law_entries_due c__law_entries_due k__law_entries_due, b := (fun_mk (st := s__law_entries_due) l__law_entries_due c__law_entries_due k__law_entries_due).binds (ps := ["_law_rows", "_law_member"]) fun _ _ _ _ _ _ us hl => (by obtain ⟨_, _, rfl⟩ := len2 hl; rfl), m := PySem.W.mg_of X G a__law_entries_due },
    d__law_position_due := { a := f__law_position_due, fd := _, F := fun_mk (st := s__law_position_due) l__law_position_due c__law_position_due k__law_position_due, b := (fun_mk (st := s__law_position_due) l__law_position_due c__law_position_due k__law_position_due).binds (ps := ["_law_rows", "_law_member", "_law_wares"]) fun _ _ _ _ _ _ us hl => (by obtain ⟨_, _, _, rfl⟩ := len3 hl; rfl), m := PySem.W.mg_of X G a__law_position_due },
    d__law_days_right := { a := f__law_days_right, fd := _, F := fun_mk (st := s__law_days_right) l__law_days_right c__law_days_right k__law_days_right, b := (fun_mk (st := s__law_days_right) l__law_days_right c__law_days_right k__law_days_right).binds (ps := ["_law_book", "_law_rows", "_law_days", "_law_held"]) fun _ _ _ _ _ _ us hl => (by obtain ⟨_, _, _, _, rfl⟩ := len4 hl; rfl), m := PySem.W.mg_of X G a__law_days_right },
    d__law_members_right := { a := f__law_members_right, fd := _, F := fun_mk (st := s__law_members_right) l__law_members_right c__law_members_right k__law_members_right, b := (fun_mk (st := s__law_members_right) l__law_members_right c__law_members_right k__law_members_right).binds (ps := ["_law_book", "_law_rows", "_law_members", "_law_wares", "_law_days", "_law_held"]) fun _ _ _ _ _ _ us hl => (by obtain ⟨_, _, _, _, _, _, rfl⟩ := len6 hl; rfl), m := PySem.W.mg_of X G a__law_members_right },
    d__law_asked := { a := f__law_asked, fd := _, F := fun_mk (st := s__law_asked) l__law_asked c__law_asked k__law_asked, b := (fun_mk (st := s__law_asked) l__law_asked c__law_asked k__law_asked).binds (ps := ["_law_script", "_law_at", "_law_book", "_law_rows", "_law_wares", "_law_many", "_law_today", "_law_held"]) fun _ _ _ _ _ _ us hl => (by obtain ⟨_, _, _, _, _, _, _, _, rfl⟩ := len8 hl; rfl), m := PySem.W.mg_of X G a__law_asked },
    d__law_struck := { a := f__law_struck, fd := _, F := fun_mk (st := s__law_struck) l__law_struck c__law_struck k__law_struck, b := (fun_mk (st := s__law_struck) l__law_struck c__law_struck k__law_struck).binds (ps := ["_law_script", "_law_at", "_law_book", "_law_rows", "_law_many", "_law_wares", "_law_today"]) fun _ _ _ _ _ _ us hl => (by obtain ⟨_, _, _, _, _, _, _, rfl⟩ := len7 hl; rfl), m := PySem.W.mg_of X G a__law_struck },
    d__law_turned := { a := f__law_turned, fd := _, F := fun_mk (st := s__law_turned) l__law_turned c__law_turned k__law_turned, b := (fun_mk (st := s__law_turned) l__law_turned c__law_turned k__law_turned).binds (ps := ["_law_script", "_law_at", "_law_book", "_law_rows", "_law_today"]) fun _ _ _ _ _ _ us hl => (by obtain ⟨_, _, _, _, _, rfl⟩ := len5 hl; rfl), m := PySem.W.mg_of X G a__law_turned },
    d__law_closed := { a := f__law_closed, fd := _, F := fun_mk (st := s__law_closed) l__law_closed c__law_closed k__law_closed, b := (fun_mk (st := s__law_closed) l__law_closed c__law_closed k__law_closed).binds (ps := ["_law_book", "_law_rows", "_law_today"]) fun _ _ _ _ _ _ us hl => (by obtain ⟨_, _, _, rfl⟩ := len3 hl; rfl), m := PySem.W.mg_of X G a__law_closed },
    d_law := { a := f_law, fd := _, F := fun_mk (st := s_law) l_law c_law k_law, b := (fun_mk (st := s_law) l_law c_law k_law).binds (ps := ["_law_script"]) fun _ _ _ _ _ _ us hl => (by obtain ⟨_, rfl⟩ := len1 hl; rfl), m := PySem.W.mg_of X G a_law },
    bl_law := fun s v => .of_eq rfl,
    z_bool := PySem.W.mg_none_of X G w_bool,
    z_enumerate := PySem.W.mg_none_of X G w_enumerate,
    z_int := PySem.W.mg_none_of X G w_int,
    z_isinstance := PySem.W.mg_none_of X G w_isinstance,
    z_len := PySem.W.mg_none_of X G w_len,
    z_list := PySem.W.mg_none_of X G w_list,
    z_range := PySem.W.mg_none_of X G w_range,
    z_sorted := PySem.W.mg_none_of X G w_sorted,
    z_sum := PySem.W.mg_none_of X G w_sum,
    z_tuple := PySem.W.mg_none_of X G w_tuple }
section
variable {P : Program} {w : World} {K : PySem.W.Frag} {mg : Str → Option Value} {base : Heap}

theorem ok_Book___init__ (T : Txt K mg) : FnOk P w K mg base (CXF P w) 1 T.d_Book___init__.a T.d_Book___init__.fd ["self", "many", "wares"] (spBInit T.c_Book) := by
  refine T.d_Book___init__.F.okN sc_Book___init__ (fun vs H Q E h => ?_) (fun cdv A outer s H vs Q E hr h => ?_)
  · obtain ⟨p, dx, m, w, rfl, _⟩ := h; rfl
  obtain ⟨p, dx, m, w, rfl, hp, k⟩ := h
  refine ⟨_, (pss_cons (show PS _ _ (sFld K _ _ _) from ps_fld (pv 0) (pv 1) rfl)
 (pss_cons (show PS _ _ (sFld K _ _ _) from ps_fld (pv 0) (pv 2) rfl)
 (pss_cons (show PS _ _ (sFld K _ _ _) from ps_fld (pv 0) pe_int rfl)
 (pss_one (show PS _ _ (sFld K _ _ _) from ps_fld (pv 0) (pe_lst pa_nil) rfl))))), ?_⟩
  refine x_start (σ0 := [some (.ref p), some (.int m), some (.int w)]) rfl ?_
  walk_at "x"
  refine x_sfldk hp T.cl_Book T.na_Book_many (by show 0 < 1000; decide) fun H1 b1 h1 => ?_
  walk_at "x"
  refine x_sfldk h1 T.cl_Book T.na_Book_wares (by show 1 < 1000; decide) fun H2 b2 h2 => ?_
  walk_at "x"
  refine x_sfldk h2 T.cl_Book T.na_Book_day (Nat.lt_of_le_of_lt (length_putF _ _ _) (by show 2 < 1000; decide)) fun H3 b3 h3 => ?_
  walk_at "x"
  rename_i d H4 fd e4 hd
  refine x_sfldk (e4.at h3) T.cl_Book T.na_Book_deals (Nat.lt_of_le_of_lt (length_putF _ _ _) (Nat.lt_of_le_of_lt (Nat.add_le_add_right (length_putF _ _ _) 1) (by show 3 < 1000; decide))) fun H5 b5 h5 => ?_
  have npd : d ≠ p := ne_new' fd h3
  refine k d H5 ?_ (fun b o n q => b5.at (e4.at (b3.at (b2.at (b1.at q n) n) n)) n) h5 (b5.at hd npd)
  have f3 : H2 d = none := by rw [← b3 d npd]; exact fd
  have f2 : H1 d = none := by rw [← b2 d npd]; exact f3
  rw [← b1 d npd]; exact f2
theorem ok_Book_check_members (T : Txt K mg) : FnOk P w K mg base (CXF P w) 1 T.d_Book_check_members.a T.d_Book_check_members.fd ["self", "payer", "payee"] (spCheckMX T.c_Book T.c_NoMember) := by
  refine T.d_Book_check_members.F.okX sc_Book_check_members (fun vs H Q E h => ?_) (fun cdv A outer s H vs Q E hr h => ?_)
  · obtain ⟨b, dx, d, m, w, y, p, q, rfl, _⟩ := h; rfl
  obtain ⟨b, dx, d, m, w, y, p, q, rfl, hb, h⟩ := h
  have cl_Book := T.cl_Book
  have na_Book_many := T.na_Book_many
  refine ⟨_, (pss_cons (ps_for PassesOwn.leaving rfl (show PI _ _ _ (iTup K _) from pi_tup (pe_tup (pa_cons (pv 1) (pa_cons (pv 2) pa_nil)))) (pg_name (i := 3) sc_Book_check_members.nd rfl (Or.inl rfl))
  (pss_one (ps_if (PW.pt (pw_or (pt_cmpR op_lt (pv 3) pe_int (nomark _)) (pw_or1 (pt_cmpR op_ge (pv 3) (show PE _ _ (tFld K _ _) from pe_fld (pv 0) rfl) (nomark _)))))
  (pss_one (ps_raise rfl rfl T.m_NoMember (errOk.own T.e_NoMember) (pa_cons pe_str pa_nil) made_F))
  pss_nil)))
 (pss_one (ps_if (pt_cmpR (show OpR _ (compareOp .Eq) (rEqU K) from op_eqU hr.units) (pv 1) (pv 2) (nomark _))
  (pss_one (ps_raise rfl rfl T.m_NoMember (errOk.own T.e_NoMember) (pa_cons pe_str pa_nil) made_F))
  pss_nil))), ?_⟩
  refine x_start (σ0 := [some (.ref b), some (.int p), some (.int q), none]) rfl ?_
  walk_at "x"
  refine x_tupN (by first | decide | simp) fun t H1 ft e1 ht => ?_
  refine x_itTk (.of ht) ?_
  refine x_forS (src_tup (xs := [.int p, .int q])) (fun i σ' H' => ∃ f3 : Option V, σ' = [some (.ref b), some (.int p), some (.int q), f3] ∧ Same H1 H' ∧ (0 < i → 0 ≤ p ∧ p < m) ∧ (1 < i → 0 ≤ q ∧ q < m)) ⟨_, rfl, Same.refl _, fun z => absurd z (by omega), fun z => absurd z (by omega)⟩ ?_ ?_ ?_
  · rintro i σ' H' ⟨_, _, e, _⟩; exact .of (e.at ht)
  · rintro i x σ' H' H2 hi ⟨f3, rfl, e', i0, i1⟩ e2 hx
    have hb2 : H2 b = some (.ins T.c_Book dx (bfl m w y d)) := e2.at (e'.at (e1.at hb))
    obtain ⟨v, rfl, hv⟩ : ∃ v : Int, x = .int v ∧ ((i = 0 ∧ v = p) ∨ (i = 1 ∧ v = q)) := by
      have hi2 : i < 2 := hi
      obtain rfl | rfl : i = 0 ∨ i = 1 := by omega
      · exact ⟨p, (Option.some.inj hx).symm, .inl ⟨rfl, rfl⟩⟩
      · exact ⟨q, (Option.some.inj hx).symm, .inr ⟨rfl, rfl⟩⟩
    walk_at "x"
    all_goals first
      | exact ⟨_, rfl, e'.trans e2, fun _ => by rcases hv with ⟨_, rfl⟩ | ⟨z, _⟩ <;> first | (constructor <;> omega) | exact i0 (by omega), fun _ => by rcases hv with ⟨z, _⟩ | ⟨_, rfl⟩ <;> first | (exfalso; omega) | (constructor <;> omega)⟩
      | (rcases h with ⟨⟨⟨a1, a2⟩, ⟨a3, a4⟩, a5⟩, _⟩ | ⟨_, k⟩
         · exfalso; omega
         · exact ⟨by decide, k _ (e1.trans (e'.trans e2))⟩)
  · rintro σ' H' ⟨f3, rfl, e', i0, i1⟩
    have p0 := i0 (show 0 < 2 by decide)
    have q0 := i1 (show 1 < 2 by decide)
    walk_at "x"
    all_goals rcases h with ⟨⟨⟨a1, a2⟩, ⟨a3, a4⟩, a5⟩, k⟩ | ⟨hn, k⟩
    all_goals first
      | exact k _ (e1.trans e')
      | exact ⟨by decide, k _ (e1.trans e')⟩
      | (exfalso; omega)
      | exact absurd ⟨p0, q0, by omega⟩ hn
theorem ok_Book_check_terms (T : Txt K mg) : FnOk P w K mg base (CXF P w) 1 T.d_Book_check_terms.a T.d_Book_check_terms.fd ["self", "ware", "units", "amount", "day", "rank"] (spCheckTX T.c_Book T.c_NoTerms T.c_Closed) := by
  refine T.d_Book_check_terms.F.okX sc_Book_check_terms (fun vs H Q E h => ?_) (fun cdv A outer s H vs Q E hr h => ?_)
  · obtain ⟨b, dx, d, m, w, y, t, rfl, _⟩ := h; rfl
  obtain ⟨b, dx, d, m, w, y, t, rfl, hb, h⟩ := h
  have cl_Book := T.cl_Book
  have na_Book_wares := T.na_Book_wares
  have na_Book_day := T.na_Book_day
  refine ⟨_, (pss_cons (ps_if (PW.pt (pw_or (pt_cmpR op_lt (pv 1) pe_int (nomark _)) (pw_or1 (pt_cmpR op_ge (pv 1) (show PE _ _ (tFld K _ _) from pe_fld (pv 0) rfl) (nomark _)))))
  (pss_one (ps_raise rfl rfl T.m_NoTerms (errOk.own T.e_NoTerms) (pa_cons pe_str pa_nil) made_F))
  pss_nil)
 (pss_cons (ps_if (PW.pt (pw_or (pt_cmpR op_lt (pv 2) pe_int (nomark _)) (pw_or1 (pt_cmpR op_gt (pv 2) (pe_glob (v := .int 1000000) rfl T.g_MOST_UNITS ⟨_, rfl⟩) (nomark _)))))
  (pss_one (ps_raise rfl rfl T.m_NoTerms (errOk.own T.e_NoTerms) (pa_cons pe_str pa_nil) made_F))
  pss_nil)
 (pss_cons (ps_if (PW.pt (pw_or (pt_cmpR op_lt (pv 3) pe_int (nomark _)) (pw_or1 (pt_cmpR op_gt (pv 3) (pe_glob (v := .int 1000000000) rfl T.g_MOST_AMOUNT ⟨_, rfl⟩) (nomark _)))))
  (pss_one (ps_raise rfl rfl T.m_NoTerms (errOk.own T.e_NoTerms) (pa_cons pe_str pa_nil) made_F))
  pss_nil)
 (pss_cons (ps_if (PW.pt (pw_or (pt_cmpR op_lt (pv 4) pe_int (nomark _)) (pw_or1 (pt_cmpR op_gt (pv 4) (pe_glob (v := .int 1000000) rfl T.g_MOST_DAY ⟨_, rfl⟩) (nomark _)))))
  (pss_one (ps_raise rfl rfl T.m_NoTerms (errOk.own T.e_NoTerms) (pa_cons pe_str pa_nil) made_F))
  pss_nil)
 (pss_cons (ps_if (PW.pt (pw_or (pt_cmpR op_lt (pv 5) pe_int (nomark _)) (pw_or1 (pt_cmpR op_gt (pv 5) pe_int (nomark _)))))
  (pss_one (ps_raise rfl rfl T.m_NoTerms (errOk.own T.e_NoTerms) (pa_cons pe_str pa_nil) made_F))
  pss_nil)
 (pss_one (ps_if (pt_cmpR op_lt (pv 4) (show PE _ _ (tFld K _ _) from pe_fld (pv 0) rfl) (nomark _))
  (pss_one (ps_raise rfl rfl T.m_Closed (errOk.own T.e_Closed) (pa_cons pe_str pa_nil) made_F))
  pss_nil))))))), ?_⟩
  refine x_start (σ0 := [some (.ref b), some (.int t.w), some (.int t.u), some (.int t.a), some (.int t.y), some (.int t.r)]) rfl ?_
  rcases h with ⟨⟨⟨b1, b2⟩, ⟨b3, b4⟩, ⟨b5, b6⟩, ⟨b7, b8⟩, b9, b10⟩, h2, k⟩ | ⟨h1, k⟩ | ⟨⟨⟨b1, b2⟩, ⟨b3, b4⟩, ⟨b5, b6⟩, ⟨b7, b8⟩, b9, b10⟩, h2, k⟩
  · walk_at "x"
    all_goals first | exact k | (exfalso; omega)
  · walk_at "x"
    all_goals first | exact ⟨by decide, k⟩ | exact absurd (show TrmOk w t from ⟨⟨by omega, by omega⟩, ⟨by omega, by omega⟩, ⟨by omega, by omega⟩, ⟨by omega, by omega⟩, by omega, by omega⟩) h1
  · walk_at "x"
    all_goals first | exact ⟨by decide, k⟩ | (exfalso; omega)
theorem ok_Book_strike (T : Txt K mg) : FnOk P w K mg base (CXF P w) 2 T.d_Book_strike.a T.d_Book_strike.fd ["self", "payer", "payee", "ware", "units", "amount", "day", "rank"] (spStrikeX T.c_Book T.c_NoMember T.c_NoTerms T.c_Closed) := by
  refine T.d_Book_strike.F.okX sc_Book_strike (fun vs H Q E h => ?_) (fun cdv A outer s H vs Q E hr h => ?_)
  · obtain ⟨b, dx, d, m, w, y, t, xs, rfl, _⟩ := h; rfl
  obtain ⟨b, dx, d, m, w, y, t, xs, rfl, hb, hd, hl, h⟩ := h
  have cl_Book := T.cl_Book
  have na_Book_deals := T.na_Book_deals
  refine ⟨_, (pss_cons (ps_expr (pe_meth (pv 0) T.cl_Book T.d_Book_check_members.mt (ok_Book_check_members T) (hr.mono (by decide)) T.d_Book_check_members.b .nil pass_F (pa_cons (pv 1) (pa_cons (pv 2) pa_nil))))
 (pss_cons (ps_expr (pe_meth (pv 0) T.cl_Book T.d_Book_check_terms.mt (ok_Book_check_terms T) (hr.mono (by decide)) T.d_Book_check_terms.b .nil pass_F (pa_cons (pv 3) (pa_cons (pv 4) (pa_cons (pv 5) (pa_cons (pv 6) (pa_cons (pv 7) pa_nil)))))))
 (pss_cons (ps_expr (show PE _ _ (tBM K _ _ _ _) from pe_bm PySem.F.plainAttrs_list PySem.F.slot_list_append PySem.F.type_list_append mt_append (show PE _ _ (tFld K _ _) from pe_fld (pv 0) rfl) (pa_cons (pe_tup (pa_cons (pv 1) (pa_cons (pv 2) (pa_cons (pv 3) (pa_cons (pv 4) (pa_cons (pv 5) (pa_cons (pv 6) (pa_cons (pv 7) (pa_cons pe_str pa_nil))))))))) pa_nil)))
 (pss_one (ps_ret (pe_op op_sub (pe_callB (show CallR _ _ (rLen K) from call_lenU) rfl T.z_len BT.len (pa_cons (show PE _ _ (tFld K _ _) from pe_fld (pv 0) rfl) pa_nil)) pe_int)))))), ?_⟩
  refine x_start (σ0 := [some (.ref b), some (.int t.p), some (.int t.q), some (.int t.w), some (.int t.u), some (.int t.a), some (.int t.y), some (.int t.r)]) rfl ?_
  walk_at "x"
  by_cases hM : MemOk m t.p t.q
  · refine ⟨b, dx, d, m, w, y, _, _, rfl, hb, .inl ⟨hM, fun H1 e1 => ?_⟩⟩
    walk_at "x"
    by_cases hT : TrmOk w t
    · by_cases hy : t.y < y
      · have hk : dueK m w y t = 3 := by unfold dueK; rw [if_neg (Classical.not_not.mpr hM), if_neg (Classical.not_not.mpr hT), if_pos hy]
        refine ⟨b, dx, d, m, w, y, t, rfl, e1.at hb, .inr (.inr ⟨hT, hy, ?_⟩)⟩
        rcases h with ⟨z, _⟩ | ⟨z, _⟩ | ⟨z, _⟩ | ⟨_, k⟩
        all_goals first | exact k _ e1 | (exfalso; omega)
      · have hk : dueK m w y t = 0 := by unfold dueK; rw [if_neg (Classical.not_not.mpr hM), if_neg (Classical.not_not.mpr hT), if_neg hy]
        refine ⟨b, dx, d, m, w, y, t, rfl, e1.at hb, .inl ⟨hT, by omega, ?_⟩⟩
        rcases h with ⟨_, k⟩ | ⟨z, _⟩ | ⟨z, _⟩ | ⟨z, _⟩
        case inr.inl => exfalso; omega
        case inr.inr.inl => exfalso; omega
        case inr.inr.inr => exfalso; omega
        walk_at "x"
        rename_i a H2 fa e2 ha H3 b3 h3
        have el : (((xs ++ [V.ref a]).length : Nat) : Int) - 1 = ((xs.length : Nat) : Int) := by rw [List.length_append]; show (((xs.length + 1 : Nat) : Nat) : Int) - 1 = _; omega
        rw [el]
        exact k a H2 H3 (e1.trans e2) ha b3 h3
    · have hk : dueK m w y t = 2 := by unfold dueK; rw [if_neg (Classical.not_not.mpr hM), if_pos hT]
      refine ⟨b, dx, d, m, w, y, t, rfl, e1.at hb, .inr (.inl ⟨hT, ?_⟩)⟩
      rcases h with ⟨z, _⟩ | ⟨z, _⟩ | ⟨_, k⟩ | ⟨z, _⟩
      all_goals first | exact k _ e1 | (exfalso; omega)
  · have hk : dueK m w y t = 1 := by unfold dueK; rw [if_pos hM]
    refine ⟨b, dx, d, m, w, y, _, _, rfl, hb, .inr ⟨hM, fun H1 e1 => ?_⟩⟩
    rcases h with ⟨z, _⟩ | ⟨_, k⟩ | ⟨z, _⟩ | ⟨z, _⟩
    all_goals first | exact k _ e1 | (exfalso; omega)
theorem ok_Book_deal (T : Txt K mg) : FnOk P w K mg base (CXF P w) 1 T.d_Book_deal.a T.d_Book_deal.fd ["self", "number"] (spDealX T.c_Book T.c_NoDeal) := by
  refine T.d_Book_deal.F.okX sc_Book_deal (fun vs H Q E h => ?_) (fun cdv A outer s H vs Q E hr h => ?_)
  · obtain ⟨b, dx, d, m, w, y, n, xs, rfl, _⟩ := h; rfl
  obtain ⟨b, dx, d, m, w, y, n, xs, rfl, hb, hd, h⟩ := h
  have cl_Book := T.cl_Book
  have na_Book_deals := T.na_Book_deals
  refine ⟨_, (pss_cons (ps_if (PW.pt (pw_or (pt_cmpR op_lt (pv 1) pe_int (nomark _)) (pw_or1 (pt_cmpR op_ge (pv 1) (pe_callB (show CallR _ _ (rLen K) from call_lenU) rfl T.z_len BT.len (pa_cons (show PE _ _ (tFld K _ _) from pe_fld (pv 0) rfl) pa_nil)) (nomark _)))))
  (pss_one (ps_raise rfl rfl T.m_NoDeal (errOk.own T.e_NoDeal) (pa_cons pe_str pa_nil) made_F))
  pss_nil)
 (pss_one (ps_ret (pe_ix (show IxR _ (rIx K) from ix_seq) (show PE _ _ (tFld K _ _) from pe_fld (pv 0) rfl) (pv 1) (fun _ _ => rfl))))), ?_⟩
  refine x_start (σ0 := [some (.ref b), some (.int n)]) rfl ?_
  rcases h with ⟨n0, v, hv, k⟩ | ⟨hn, k⟩
  · have hlt := (List.getElem?_eq_some_iff.mp hv).1
    have hat : atI xs n = some v := atI_lt n0 hv
    walk_at "x"
    all_goals first | exact k | (exfalso; omega)
  · walk_at "x"
    all_goals first | exact ⟨by decide, k⟩ | (exfalso; omega)

theorem ok_Book_put_state (T : Txt K mg) : FnOk P w K mg base (CXF P w) 1 T.d_Book_put_state.a T.d_Book_put_state.fd ["self", "number", "state"] (spPutState T.c_Book) := by
  refine T.d_Book_put_state.F.okN sc_Book_put_state (fun vs H Q E h => ?_) (fun cdv A outer s H vs Q E hr h => ?_)
  · obtain ⟨b, d, m, w, y, n, st, ts, t, rfl, _⟩ := h; rfl
  obtain ⟨b, d, m, w, y, n, st, ts, t, rfl, hB, n0, ht, k⟩ := h
  obtain ⟨⟨dx, hb⟩, xs, hd, hI⟩ := id hB
  have hxl := hI.length
  have hnl := (List.getElem?_eq_some_iff.mp ht).1
  obtain ⟨a, ha1, ha2⟩ := hI.getI ht
  have ha3 : H a = some (.tup [.int t.1.p, .int t.1.q, .int t.1.w, .int t.1.u, .int t.1.a, .int t.1.y, .int t.1.r, .str t.2]) := ha2
  have hat : atI xs n = some (.ref a) := atI_lt n0 ha1
  have cl_Book := T.cl_Book
  have na_Book_deals := T.na_Book_deals
  refine ⟨_, (pss_one (ps_asg (pe_op (show OpR _ (binaryOp .Add) (rAddU K) from op_addU) (pe_slice (show SlR _ (rSlT K) from sl_tup) (pe_ix (show IxR _ (rIx K) from ix_seq) (show PE _ _ (tFld K _ _) from pe_fld (pv 0) rfl) (pv 1) (fun _ _ => rfl)) po_none (po_some (pe_glob (v := .int 7) rfl T.g_STATE ⟨_, rfl⟩))) (pe_tup (pa_cons (pv 2) pa_nil))) (pg_sub (show PE _ _ (tFld K _ _) from pe_fld (pv 0) rfl) (pv 1) set_list))), ?_⟩
  refine x_start (σ0 := [some (.ref b), some (.int n), some (.str st)]) rfl ?_
  walk_at "x"
  refine x_cutT ha3 (by show ¬ (HT.sIx 8 0 none = 0 ∧ HT.sIx 8 8 (some 7) = 8); decide) fun p H1 fp e1 hp => ?_
  have hp' : H1 p = some (.tup (termV t.1)) := hp
  walk_at "x"
  rename_i o H2 fo e2 ho
  refine x_catT (e2.at hp') ho (by unfold termV; simp) (by simp) (by show 7 + 1 ≤ 100000; decide) fun p2 H3 fp2 e3 hp2 => ?_
  have hp3 : H3 p2 = some (.tup (dealV (t.1, st))) := hp2
  have hd3 := e3.at (e2.at (e1.at hd))
  have hb3 := e3.at (e2.at (e1.at hb))
  walk_at "x"
  refine x_setN hd3 (ixN_lt n0 (by omega)) fun H4 b4 h4 => ?_
  walk_at "x"
  refine k H4 ⟨⟨dx, b4.ins hb3⟩, _, h4, ?_⟩ (ButL.of hd (e1.trans (e2.trans e3)) b4)
  exact IsTs.set (f := dealV) (b4.tup hp3) _ (LBut.isTs b4 (hI.same (e1.trans (e2.trans e3))))
theorem ok_Book_close (T : Txt K mg) : FnOk P w K mg base (CXF P w) 2 T.d_Book_close.a T.d_Book_close.fd ["self"] (spClose T.c_Book) := by
  refine T.d_Book_close.F.okN sc_Book_close (fun vs H Q E h => ?_) (fun cdv A outer s H vs Q E hr h => ?_)
  · obtain ⟨b, d, m, w, y, ts, rfl, _⟩ := h; rfl
  obtain ⟨b, d, m, w, y, ts, rfl, hB, hl, k⟩ := h
  obtain ⟨⟨dx, hb⟩, xs, hd, hI⟩ := id hB
  have hxl := hI.length
  have cl_Book := T.cl_Book
  have na_Book_deals := T.na_Book_deals
  have na_Book_day := T.na_Book_day
  refine ⟨_, (pss_cons (ps_setC (i := 1) sc_Book_close.nd rfl rfl rfl (show PI _ _ _ (iEnum K _) from pi_enum rfl T.z_enumerate (pa_cons (show PE _ _ (tFld K _ _) from pe_fld (pv 0) rfl) pa_nil)) (compScope_of (Ni := ["number", "one", "self"]) (caps := [none, none, some 0]) (by rfl)) (fun S _ _ _ _ _ => (show PG _ _ (gTup K 2 _) from pg_tup (n := 2) rfl (pgs_cons (pg_nameC (gi := 0) S (Or.inl rfl) rfl) (pgs_cons (pg_nameC (gi := 1) S (Or.inl rfl) rfl) pgs_nil)))) (fun _ _ _ _ _ => (pf_one (PW.pt (pw_and (pt_cmpR (show OpR _ (compareOp .Eq) (rEqU K) from op_eqU hr.units) (pe_ix (show IxR _ (rIx K) from ix_seq) (pv 1) (pe_glob (v := .int 7) rfl T.g_STATE ⟨_, rfl⟩) (fun _ _ => rfl)) pe_str (nomark _)) (pw_and1 (pt_cmpR (show OpR _ (compareOp .Eq) (rEqU K) from op_eqU hr.units) (pe_ix (show IxR _ (rIx K) from ix_seq) (pv 1) (pe_glob (v := .int 5) rfl T.g_DAY ⟨_, rfl⟩) (fun _ _ => rfl)) (show PE _ _ (tFld K _ _) from pe_fld (pv 2) rfl) (nomark _))))))) (fun _ _ _ _ _ => (pv 0)))
 (pss_cons (ps_for PassesOwn.never rfl (show PI _ _ _ (iList K _) from pi_list (pv 1)) (pg_name (i := 2) sc_Book_close.nd rfl (Or.inl rfl))
  (pss_one (ps_expr (pe_meth (pv 0) T.cl_Book T.d_Book_put_state.mt (ok_Book_put_state T) (hr.mono (by decide)) T.d_Book_put_state.b .nil (passN nox_F) (pa_cons (pv 2) (pa_cons pe_str pa_nil))))))
 (pss_cons (show PS _ _ (sFldAug K _ _ _ _) from ps_fldaug (pv 0) pe_int in_add)
 (pss_one (ps_ret (pv 1)))))), ?_⟩
  refine x_start (σ0 := [some (.ref b), none, none]) rfl ?_
  walk_at "x"
  refine x_compS2 (src_enum (K := K) (a := d) (xs := xs)) (fun H' e => SqL.of (e.at hd)) rfl (fun i vs _ => vs = (numF (standP y) ts i).map V.int) (fun H' _ => rfl) ?_ ?_
  · rintro i x D vs o o' H2 H3 hi hD e2 hv hvl rfl e3 ⟨t, v, rfl, hx, htt⟩
    obtain ⟨a, u, rfl, hu, ha⟩ := (hI.same (e2.trans e3)).get hx
    have ht' : H3 t = some (.tup [.int (i : Int), .ref a]) := htt
    have ha3 : H3 a = some (.tup [.int u.1.p, .int u.1.q, .int u.1.w, .int u.1.u, .int u.1.a, .int u.1.y, .int u.1.r, .str u.2]) := ha
    have hb3 : H3 b = some (.ins T.c_Book dx (bfl m w y d)) := e3.at (e2.at hb)
    have es := numF_succ (P := standP y) hu
    walk_at "x"
    · rename_i h1 h2 H5 b5 h5
      rw [if_pos (by unfold standP; rw [decide_eq_true h1, decide_eq_true h2]; rfl)] at es
      refine ⟨⟨_, _, rfl⟩, by walk_at "h", _, h5, by rw [List.length_append]; exact Nat.succ_le_succ hvl, ?_⟩
      show _ = (numF (standP y) ts (i + 1)).map V.int
      rw [es, List.map_append]; rfl
    · rename_i h1 h2
      rw [if_neg (by unfold standP; rw [decide_eq_false h2]; simp), List.append_nil] at es
      refine ⟨⟨_, _, rfl⟩, by walk_at "h", _, by walk_at "h", by omega, ?_⟩
      show _ = (numF (standP y) ts (i + 1)).map V.int
      rw [es]
    · rename_i h1
      rw [if_neg (by unfold standP; rw [decide_eq_false h1]; simp), List.append_nil] at es
      refine ⟨⟨_, _, rfl⟩, by walk_at "h", _, by walk_at "h", by omega, ?_⟩
      show _ = (numF (standP y) ts (i + 1)).map V.int
      rw [es]
  rintro nu H1 vs fnu e1 hnu hvl rfl
  rw [hxl] at hnu
  have hnl := numF_len (P := standP y) (ts := ts) ts.length
  walk_at "x"
  have ndn : nu ≠ d := ne_new' fnu hd
  refine x_forL (xs := (numF (standP y) ts ts.length).map V.int) (fun i σ' H' => ∃ f2 : Option V, σ' = [some (.ref b), some (.ref nu), f2] ∧ Bk T.c_Book H' b d m w y (markL "settled" ts ((numF (standP y) ts ts.length).take i)) ∧ H' nu = some (.lst ((numF (standP y) ts ts.length).map V.int)) ∧ ∀ c o, c ≠ d → H1 c = some o → H' c = some o) ⟨_, rfl, by rw [List.take_zero, markL_nil]; exact hB.same e1, hnu, fun c o _ h => h⟩ ?_ ?_ ?_
  · rintro i σ' H' _ ⟨_, _, _, h, _⟩; exact SqL.of h
  · rintro i x σ' H' hx ⟨f2, rfl, hB', hnu', hK'⟩
    obtain ⟨n, hn, ex⟩ : ∃ n, (numF (standP y) ts ts.length)[i]? = some n ∧ x = .int n := by
      rw [List.getElem?_map] at hx
      cases h : (numF (standP y) ts ts.length)[i]? with
      | none => rw [h] at hx; cases hx
      | some n => rw [h] at hx; exact ⟨n, rfl, (Option.some.inj hx).symm⟩
    subst ex
    obtain ⟨j, t, hj, rfl, htj, hP⟩ := (mem_numF (Nat.le_refl _)).mp (List.mem_of_getElem? hn)
    obtain ⟨⟨dx', hb'⟩, _⟩ := id hB'
    walk_at "x"
    have hmj := markL_get (s := "settled") (S := (numF (standP y) ts ts.length).take i) htj
    refine ⟨b, d, m, w, y, _, "settled", _, _, rfl, hB', by omega, by rw [Int.toNat_natCast]; exact hmj, fun H2 hB2 g2 => ?_⟩
    rw [Int.toNat_natCast] at hB2
    have e1st : (if (j : Int) ∈ (numF (standP y) ts ts.length).take i then (t.1, ("settled" : Str)) else t).1 = t.1 := by split <;> rfl
    rw [e1st, markL_set htj, ← take_snoc hn] at hB2
    walk_at "x"
    exact ⟨_, rfl, hB2, g2.at hnu' ndn, fun c o n h => g2.at (hK' c o n h) n⟩
  · rintro σ' H' ⟨f2, rfl, hB', hnu', hK'⟩
    rw [List.length_map, List.take_length, mark_cls] at hB'
    obtain ⟨⟨dx', hb'⟩, xs', hd', hI'⟩ := id hB'
    walk_at "x"
    have nbd : d ≠ b := ne_of hd' hb' (by intro z; cases z)
    refine ⟨b, T.c_Book, dx', _, _, rfl, hb', cl_Book, na_Book_day, bfl_day, ?_⟩
    walk_at "x"
    refine ⟨y, 1, rfl, rfl, dx', _, hb', bfl_len _ _ _ _, ?_⟩
    rw [bfl_put]
    walk_at "x"
    refine k nu _ ⟨⟨dx', upd_same⟩, xs', by rw [upd_ne nbd]; exact hd', IsTs.keep (fun a ys z => by rw [upd_ne (ne_of z hb' (by intro q; cases q))]; exact z) hI'⟩ (fun c o n1 n2 h => ?_) ?_
    · rw [upd_ne n2]
      exact hK' c o n1 (e1 c o h)
    · rw [upd_ne (ne_of hnu' hb' (by intro z; cases z))]
      exact hnu'
theorem ok_Book_numbers_on (T : Txt K mg) : FnOk P w K mg base (CXF P w) 1 T.d_Book_numbers_on.a T.d_Book_numbers_on.fd ["self", "day"] (spNumbersOn T.c_Book) := by
  refine T.d_Book_numbers_on.F.okN sc_Book_numbers_on (fun vs H Q E h => ?_) (fun cdv A outer s H vs Q E hr h => ?_)
  · obtain ⟨b, d, m, w, y, z, ts, rfl, _⟩ := h; rfl
  obtain ⟨b, d, m, w, y, z, ts, rfl, hB, hl, k⟩ := h
  obtain ⟨⟨dx, hb⟩, xs, hd, hI⟩ := id hB
  have hxl := hI.length
  have cl_Book := T.cl_Book
  have na_Book_deals := T.na_Book_deals
  refine ⟨_, (pss_one (ps_ret (pe_comp rfl (show PI _ _ _ (iEnum K _) from pi_enum rfl T.z_enumerate (pa_cons (show PE _ _ (tFld K _ _) from pe_fld (pv 0) rfl) pa_nil)) (compScope_of (Ni := ["number", "one", "day"]) (caps := [none, none, some 1]) (by rfl)) (fun S _ _ _ _ _ => (show PG _ _ (gTup K 2 _) from pg_tup (n := 2) rfl (pgs_cons (pg_nameC (gi := 0) S (Or.inl rfl) rfl) (pgs_cons (pg_nameC (gi := 1) S (Or.inl rfl) rfl) pgs_nil)))) (fun _ _ _ _ _ => (pf_one (PW.pt (pw_and (pt_cmpR (show OpR _ (compareOp .Eq) (rEqU K) from op_eqU hr.units) (pe_ix (show IxR _ (rIx K) from ix_seq) (pv 1) (pe_glob (v := .int 5) rfl T.g_DAY ⟨_, rfl⟩) (fun _ _ => rfl)) (pv 2) (nomark _)) (pw_and1 (pt_cmpR (show OpR _ (compareOp .NotEq) (rNeU K) from op_neU hr.units) (pe_ix (show IxR _ (rIx K) from ix_seq) (pv 1) (pe_glob (v := .int 7) rfl T.g_STATE ⟨_, rfl⟩) (fun _ _ => rfl)) pe_str (nomark _))))))) (fun _ _ _ _ _ => (pv 0))))), ?_⟩
  refine x_start (σ0 := [some (.ref b), some (.int z)]) rfl ?_
  walk_at "x"
  refine x_compS2 (src_enum (K := K) (a := d) (xs := xs)) (fun H' e => SqL.of (e.at hd)) rfl (fun i vs _ => vs = (numF (onP z) ts i).map V.int) (fun H' _ => rfl) ?_ ?_
  · rintro i x D vs o o' H2 H3 hi hD e2 hv hvl rfl e3 ⟨t, v, rfl, hx, htt⟩
    obtain ⟨a, u, rfl, hu, ha⟩ := (hI.same (e2.trans e3)).get hx
    have ht' : H3 t = some (.tup [.int (i : Int), .ref a]) := htt
    have ha3 : H3 a = some (.tup [.int u.1.p, .int u.1.q, .int u.1.w, .int u.1.u, .int u.1.a, .int u.1.y, .int u.1.r, .str u.2]) := ha
    have es := numF_succ (P := onP z) hu
    walk_at "x"
    · rename_i h1 h2 H5 b5 h5
      rw [if_pos (by unfold onP; rw [decide_eq_true h1, decide_eq_true h2]; rfl)] at es
      refine ⟨⟨_, _, rfl⟩, by walk_at "h", _, h5, by rw [List.length_append]; exact Nat.succ_le_succ hvl, ?_⟩
      show _ = (numF (onP z) ts (i + 1)).map V.int
      rw [es, List.map_append]; rfl
    · rename_i h1 h2
      rw [if_neg (by unfold onP; rw [decide_eq_false (show ¬ ¬ u.2 = ("broken" : Str) from fun w => w h2)]; simp), List.append_nil] at es
      refine ⟨⟨_, _, rfl⟩, by walk_at "h", _, by walk_at "h", by omega, ?_⟩
      show _ = (numF (onP z) ts (i + 1)).map V.int
      rw [es]
    · rename_i h1
      rw [if_neg (by unfold onP; rw [decide_eq_false h1]; simp), List.append_nil] at es
      refine ⟨⟨_, _, rfl⟩, by walk_at "h", _, by walk_at "h", by omega, ?_⟩
      show _ = (numF (onP z) ts (i + 1)).map V.int
      rw [es]
  rintro nu H1 vs fnu e1 hnu hvl rfl
  rw [hxl] at hnu
  exact k nu H1 fnu e1 hnu

theorem ok_Book_standing_deal (T : Txt K mg) : FnOk P w K mg base (CXF P w) 2 T.d_Book_standing_deal.a T.d_Book_standing_deal.fd ["self", "number"] (spStanding T.c_Book T.c_NoDeal T.c_Gone T.c_Settled) := by
  refine T.d_Book_standing_deal.F.okX sc_Book_standing_deal (fun vs H Q E h => ?_) (fun cdv A outer s H vs Q E hr h => ?_)
  · obtain ⟨b, d, m, w, y, n, ts, rfl, _⟩ := h; rfl
  obtain ⟨b, d, m, w, y, n, ts, rfl, hB, h⟩ := h
  obtain ⟨⟨dx, hb⟩, xs, hd, hI⟩ := id hB
  have hxl := hI.length
  refine ⟨_, (pss_cons (ps_set (i := 2) sc_Book_standing_deal.nd rfl (Or.inl rfl) (pe_meth (pv 0) T.cl_Book T.d_Book_deal.mt (ok_Book_deal T) (hr.mono (by decide)) T.d_Book_deal.b .nil pass_F (pa_cons (pv 1) pa_nil)))
 (pss_cons (ps_if (pt_cmpR (show OpR _ (compareOp .Eq) (rEqU K) from op_eqU hr.units) (pe_ix (show IxR _ (rIx K) from ix_seq) (pv 2) (pe_glob (v := .int 7) rfl T.g_STATE ⟨_, rfl⟩) (fun _ _ => rfl)) pe_str (nomark _))
  (pss_one (ps_raise rfl rfl T.m_Gone (errOk.own T.e_Gone) (pa_cons pe_str pa_nil) made_F))
  pss_nil)
 (pss_cons (ps_if (pt_cmpR (show OpR _ (compareOp .Eq) (rEqU K) from op_eqU hr.units) (pe_ix (show IxR _ (rIx K) from ix_seq) (pv 2) (pe_glob (v := .int 7) rfl T.g_STATE ⟨_, rfl⟩) (fun _ _ => rfl)) pe_str (nomark _))
  (pss_one (ps_raise rfl rfl T.m_Settled (errOk.own T.e_Settled) (pa_cons pe_str pa_nil) made_F))
  pss_nil)
 (pss_one (ps_ret (pv 2)))))), ?_⟩
  refine x_start (σ0 := [some (.ref b), some (.int n), none]) rfl ?_
  walk_at "x"
  rcases h with ⟨t, n0, ht, h1, h2, k⟩ | ⟨hn, k⟩ | ⟨t, n0, ht, h1, k⟩ | ⟨t, n0, ht, h2, k⟩
  · obtain ⟨x, hx1, hx2⟩ := hI.getI ht
    have hx3 : H x = some (.tup [.int t.1.p, .int t.1.q, .int t.1.w, .int t.1.u, .int t.1.a, .int t.1.y, .int t.1.r, .str t.2]) := hx2
    refine ⟨b, dx, d, m, w, y, n, xs, rfl, hb, hd, .inl ⟨n0, .ref x, hx1, ?_⟩⟩
    walk_at "x"
    all_goals first | exact k x hx2 | (exfalso; contradiction)
  · exact ⟨b, dx, d, m, w, y, n, xs, rfl, hb, hd, .inr ⟨by omega, k⟩⟩
  · obtain ⟨x, hx1, hx2⟩ := hI.getI ht
    have hx3 : H x = some (.tup [.int t.1.p, .int t.1.q, .int t.1.w, .int t.1.u, .int t.1.a, .int t.1.y, .int t.1.r, .str t.2]) := hx2
    refine ⟨b, dx, d, m, w, y, n, xs, rfl, hb, hd, .inl ⟨n0, .ref x, hx1, ?_⟩⟩
    walk_at "x"
    all_goals first | exact ⟨by decide, k⟩ | (exfalso; contradiction)
  · have h1 : ¬ t.2 = ("broken" : Str) := by rw [h2]; decide +kernel
    obtain ⟨x, hx1, hx2⟩ := hI.getI ht
    have hx3 : H x = some (.tup [.int t.1.p, .int t.1.q, .int t.1.w, .int t.1.u, .int t.1.a, .int t.1.y, .int t.1.r, .str t.2]) := hx2
    refine ⟨b, dx, d, m, w, y, n, xs, rfl, hb, hd, .inl ⟨n0, .ref x, hx1, ?_⟩⟩
    walk_at "x"
    all_goals first | exact ⟨by decide, k⟩ | (exfalso; contradiction)
theorem ok_Book_change (T : Txt K mg) : FnOk P w K mg base (CXF P w) 3 T.d_Book_change.a T.d_Book_change.fd ["self", "number", "amount", "day"] (spChange T.c_Book T.c_NoDeal T.c_Gone T.c_Settled T.c_NoTerms T.c_Closed) := by
  refine T.d_Book_change.F.okX sc_Book_change (fun vs H Q E h => ?_) (fun cdv A outer s H vs Q E hr h => ?_)
  · obtain ⟨b, d, m, w, y, n, a, z, ts, rfl, _⟩ := h; rfl
  obtain ⟨b, d, m, w, y, n, a, z, ts, rfl, hB, hG, h⟩ := h
  obtain ⟨⟨dx, hb⟩, xs, hd, hI⟩ := id hB
  have hxl := hI.length
  have cl_Book := T.cl_Book
  have na_Book_deals := T.na_Book_deals
  refine ⟨_, (pss_cons (ps_set (i := 4) sc_Book_change.nd rfl (Or.inl rfl) (pe_meth (pv 0) T.cl_Book T.d_Book_standing_deal.mt (ok_Book_standing_deal T) (hr.mono (by decide)) T.d_Book_standing_deal.b .nil pass_F (pa_cons (pv 1) pa_nil)))
 (pss_cons (ps_expr (pe_meth (pv 0) T.cl_Book T.d_Book_check_terms.mt (ok_Book_check_terms T) (hr.mono (by decide)) T.d_Book_check_terms.b .nil pass_F (pa_cons (pe_ix (show IxR _ (rIx K) from ix_seq) (pv 4) (pe_glob (v := .int 2) rfl T.g_WARE ⟨_, rfl⟩) (fun _ _ => rfl)) (pa_cons (pe_ix (show IxR _ (rIx K) from ix_seq) (pv 4) (pe_glob (v := .int 3) rfl T.g_UNITS ⟨_, rfl⟩) (fun _ _ => rfl)) (pa_cons (pv 2) (pa_cons (pv 3) (pa_cons (pe_ix (show IxR _ (rIx K) from ix_seq) (pv 4) (pe_glob (v := .int 6) rfl T.g_RANK ⟨_, rfl⟩) (fun _ _ => rfl)) pa_nil)))))))
 (pss_one (ps_asg (pe_op (show OpR _ (binaryOp .Add) (rAddU K) from op_addU) (pe_op (show OpR _ (binaryOp .Add) (rAddU K) from op_addU) (pe_slice (show SlR _ (rSlT K) from sl_tup) (pv 4) po_none (po_some (pe_glob (v := .int 4) rfl T.g_AMOUNT ⟨_, rfl⟩))) (pe_tup (pa_cons (pv 2) (pa_cons (pv 3) pa_nil)))) (pe_slice (show SlR _ (rSlT K) from sl_tup) (pv 4) (po_some (pe_glob (v := .int 6) rfl T.g_RANK ⟨_, rfl⟩)) po_none)) (pg_sub (show PE _ _ (tFld K _ _) from pe_fld (pv 0) rfl) (pv 1) set_list))))), ?_⟩
  refine x_start (σ0 := [some (.ref b), some (.int n), some (.int a), some (.int z), none]) rfl ?_
  walk_at "x"
  by_cases hr' : 0 ≤ n ∧ n < ts.length
  case neg =>
    have hk : chK y ts n a z = 1 := by unfold chK; rw [if_pos hr']
    refine ⟨b, d, m, w, y, n, ts, rfl, hB, .inr (.inl ⟨hr', ?_⟩)⟩
    rcases h with ⟨_, z0, _⟩ | ⟨_, k⟩ | ⟨z0, _⟩ | ⟨z0, _⟩ | ⟨z0, _⟩ | ⟨z0, _⟩
    all_goals first | exact k _ (Same.refl _) | (exfalso; omega)
  obtain ⟨t, ht⟩ := lt_some (show n.toNat < ts.length by omega)
  have hg := getD_of ht
  obtain ⟨g1, g2, g3⟩ := hG t (List.mem_of_getElem? ht)
  have hnn := Classical.not_not.mpr hr'
  by_cases hb1 : t.2 = ("broken" : Str)
  · have hk : chK y ts n a z = 2 := by unfold chK; rw [if_neg hnn, hg, if_pos hb1]
    refine ⟨b, d, m, w, y, n, ts, rfl, hB, .inr (.inr (.inl ⟨t, hr'.1, ht, hb1, ?_⟩))⟩
    rcases h with ⟨_, z0, _⟩ | ⟨z0, _⟩ | ⟨_, k⟩ | ⟨z0, _⟩ | ⟨z0, _⟩ | ⟨z0, _⟩
    all_goals first | exact k _ (Same.refl _) | (exfalso; omega)
  by_cases hs : t.2 = ("settled" : Str)
  · have hk : chK y ts n a z = 3 := by unfold chK; rw [if_neg hnn, hg, if_neg hb1, if_pos hs]
    refine ⟨b, d, m, w, y, n, ts, rfl, hB, .inr (.inr (.inr ⟨t, hr'.1, ht, hs, ?_⟩))⟩
    rcases h with ⟨_, z0, _⟩ | ⟨z0, _⟩ | ⟨z0, _⟩ | ⟨_, k⟩ | ⟨z0, _⟩ | ⟨z0, _⟩
    all_goals first | exact k _ (Same.refl _) | (exfalso; omega)
  refine ⟨b, d, m, w, y, n, ts, rfl, hB, .inl ⟨t, hr'.1, ht, hb1, hs, fun x hx => ?_⟩⟩
  have hx3 : H x = some (.tup [.int t.1.p, .int t.1.q, .int t.1.w, .int t.1.u, .int t.1.a, .int t.1.y, .int t.1.r, .str t.2]) := hx
  walk_at "x"
  refine ⟨b, dx, d, m, w, y, (chg t a z).1, rfl, hb, ?_⟩
  by_cases hT : TrmOk w (chg t a z).1
  · have hT' := id hT
    obtain ⟨_, _, q3, q4, _⟩ := hT'
    by_cases hy : z < y
    · have hk : chK y ts n a z = 5 := by unfold chK; rw [if_neg hnn, hg, if_neg hb1, if_neg hs, if_neg (Classical.not_not.mpr ⟨q3, q4⟩), if_pos hy]
      refine .inr (.inr ⟨hT, hy, ?_⟩)
      rcases h with ⟨_, z0, _⟩ | ⟨z0, _⟩ | ⟨z0, _⟩ | ⟨z0, _⟩ | ⟨z0, _⟩ | ⟨_, k⟩
      all_goals first | exact k _ (Same.refl _) | (exfalso; omega)
    · have hk : chK y ts n a z = 0 := by unfold chK; rw [if_neg hnn, hg, if_neg hb1, if_neg hs, if_neg (Classical.not_not.mpr ⟨q3, q4⟩), if_neg hy]
      refine .inl ⟨hT, Int.not_lt.mp hy, ?_⟩
      rcases h with ⟨t', _, ht', _, k⟩ | ⟨z0, _⟩ | ⟨z0, _⟩ | ⟨z0, _⟩ | ⟨z0, _⟩ | ⟨z0, _⟩
      case inr.inl => exfalso; omega
      case inr.inr.inl => exfalso; omega
      case inr.inr.inr.inl => exfalso; omega
      case inr.inr.inr.inr.inl => exfalso; omega
      case inr.inr.inr.inr.inr => exfalso; omega
      rw [ht] at ht'; cases ht'
      walk_at "x"
      refine x_cutT hx3 (by show ¬ (HT.sIx 8 0 none = 0 ∧ HT.sIx 8 8 (some 4) = 8); decide) fun p1 H1 fp1 e1 hp1 => ?_
      have hp1' : H1 p1 = some (.tup [.int t.1.p, .int t.1.q, .int t.1.w, .int t.1.u]) := hp1
      walk_at "x"
      refine x_tupN (by first | decide | simp) fun p2 H2 fp2 e2 hp2 => ?_
      refine x_catT (e2.at hp1') hp2 (by simp) (by simp) (by show 4 + 2 ≤ 100000; decide) fun p3 H3 fp3 e3 hp3 => ?_
      have hx33 := e3.at (e2.at (e1.at hx3))
      walk_at "x"
      refine x_cutT hx33 (by show ¬ (HT.sIx 8 0 (some 6) = 0 ∧ HT.sIx 8 8 none = 8); decide) fun p4 H4 fp4 e4 hp4 => ?_
      have hp4' : H4 p4 = some (.tup [.int t.1.r, .str t.2]) := hp4
      refine x_catT (e4.at hp3) hp4' (by simp) (by simp) (by show 6 + 2 ≤ 100000; decide) fun p5 H5 fp5 e5 hp5 => ?_
      have hp5' : H5 p5 = some (.tup (dealV (chg t a z))) := hp5
      have e05 : Same H H5 := e1.trans (e2.trans (e3.trans (e4.trans e5)))
      have hd5 := e05.at hd
      have hb5 := e05.at hb
      walk_at "x"
      refine x_setN hd5 (ixN_lt hr'.1 (by omega)) fun H6 b6 h6 => ?_
      walk_at "x"
      refine k H6 ⟨⟨dx, b6.ins hb5⟩, _, h6, ?_⟩ (ButL.of hd e05 b6)
      exact IsTs.set (f := dealV) (b6.tup hp5') _ (LBut.isTs b6 (hI.same e05))
  · have hk : chK y ts n a z = 4 := by unfold chK; rw [if_neg hnn, hg, if_neg hb1, if_neg hs, if_pos fun q => hT ⟨g1, g2, q.1, q.2, g3⟩]
    refine .inr (.inl ⟨hT, ?_⟩)
    rcases h with ⟨_, z0, _⟩ | ⟨z0, _⟩ | ⟨z0, _⟩ | ⟨z0, _⟩ | ⟨_, k⟩ | ⟨z0, _⟩
    all_goals first | exact k _ (Same.refl _) | (exfalso; omega)
theorem ok_Book_break_off (T : Txt K mg) : FnOk P w K mg base (CXF P w) 3 T.d_Book_break_off.a T.d_Book_break_off.fd ["self", "number"] (spBreakOff T.c_Book) := by
  refine T.d_Book_break_off.F.okN sc_Book_break_off (fun vs H Q E h => ?_) (fun cdv A outer s H vs Q E hr h => ?_)
  · obtain ⟨b, d, m, w, y, n, ts, t, rfl, _⟩ := h; rfl
  obtain ⟨b, d, m, w, y, n, ts, t, rfl, hB, n0, ht, hs, k⟩ := h
  obtain ⟨⟨dx, hb⟩, xs, hd, hI⟩ := id hB
  refine ⟨_, (pss_cons (ps_expr (pe_meth (pv 0) T.cl_Book T.d_Book_standing_deal.mt (ok_Book_standing_deal T) (hr.mono (by decide)) T.d_Book_standing_deal.b .nil (passN nox_F) (pa_cons (pv 1) pa_nil)))
 (pss_one (ps_expr (pe_meth (pv 0) T.cl_Book T.d_Book_put_state.mt (ok_Book_put_state T) (hr.mono (by decide)) T.d_Book_put_state.b .nil (passN nox_F) (pa_cons (pv 1) (pa_cons pe_str pa_nil)))))), ?_⟩
  refine x_start (σ0 := [some (.ref b), some (.int n)]) rfl ?_
  walk_at "x"
  refine ⟨b, d, m, w, y, n, ts, rfl, hB, .inl ⟨t, n0, ht, by rw [hs]; decide +kernel, by rw [hs]; decide +kernel, fun x hx => ?_⟩⟩
  walk_at "x"
  refine ⟨b, d, m, w, y, n, "broken", ts, t, rfl, hB, n0, ht, fun H1 hB1 g1 => ?_⟩
  walk_at "x"
  exact k H1 hB1 g1
theorem ok_Book_sheet_on (T : Txt K mg) : FnOk P w K mg base (CXF P w) 2 T.d_Book_sheet_on.a T.d_Book_sheet_on.fd ["self", "day"] (spSheetOn T.c_Book) := by
  refine T.d_Book_sheet_on.F.okN sc_Book_sheet_on (fun vs H Q E h => ?_) (fun cdv A outer s H vs Q E hr h => ?_)
  · obtain ⟨b, d, m, w, y, z, ts, rfl, _⟩ := h; rfl
  obtain ⟨b, d, m, w, y, z, ts, rfl, hB, hn, k⟩ := h
  obtain ⟨⟨dx, hb⟩, xs, hd, hI⟩ := id hB
  have hxl := hI.length
  have cl_Book := T.cl_Book
  have na_Book_deals := T.na_Book_deals
  refine ⟨_, (pss_cons (ps_setC (i := 2) sc_Book_sheet_on.nd rfl rfl rfl (show PI _ _ _ (iList K _) from pi_list (pe_meth (pv 0) T.cl_Book T.d_Book_numbers_on.mt (ok_Book_numbers_on T) (hr.mono (by decide)) T.d_Book_numbers_on.b .nil (passN nox_F) (pa_cons (pv 1) pa_nil))) (compScope_of (Ni := ["number", "self"]) (caps := [none, some 0]) (by rfl)) (fun S _ _ _ _ _ => (pg_nameC (gi := 0) S (Or.inl rfl) rfl)) (fun _ _ _ _ _ => pf_nil) (fun _ _ _ _ _ => (pe_ix (show IxR _ (rIx K) from ix_seq) (show PE _ _ (tFld K _ _) from pe_fld (pv 1) rfl) (pv 0) (fun _ _ => rfl))))
 (pss_one (ps_ret (pe_comp rfl (show PI _ _ _ (iList K _) from pi_list (pv 2)) (compScope_of (Ni := ["one"]) (caps := [none]) (by rfl)) (fun S _ _ _ _ _ => (pg_nameC (gi := 0) S (Or.inl rfl) rfl)) (fun _ _ _ _ _ => pf_nil) (fun _ _ _ _ _ => (pe_tup (pa_cons (pe_ix (show IxR _ (rIx K) from ix_seq) (pv 0) (pe_glob (v := .int 0) rfl T.g_PAYER ⟨_, rfl⟩) (fun _ _ => rfl)) (pa_cons (pe_ix (show IxR _ (rIx K) from ix_seq) (pv 0) (pe_glob (v := .int 1) rfl T.g_PAYEE ⟨_, rfl⟩) (fun _ _ => rfl)) (pa_cons (pe_ix (show IxR _ (rIx K) from ix_seq) (pv 0) (pe_glob (v := .int 6) rfl T.g_RANK ⟨_, rfl⟩) (fun _ _ => rfl)) (pa_cons (pe_ix (show IxR _ (rIx K) from ix_seq) (pv 0) (pe_glob (v := .int 4) rfl T.g_AMOUNT ⟨_, rfl⟩) (fun _ _ => rfl)) pa_nil)))))))))), ?_⟩
  refine x_start (σ0 := [some (.ref b), some (.int z), none]) rfl ?_
  walk_at "x"
  refine ⟨b, d, m, w, y, z, ts, rfl, hB, hn, fun p H1 fp e1 hp => ?_⟩
  have hnl := numF_len (P := onP z) (ts := ts) ts.length
  have hm := fun x => mem_numF (P := onP z) (ts := ts) (x := x) (Nat.le_refl ts.length)
  generalize hnu : numF (onP z) ts ts.length = nu at *
  walk_at "x"
  refine x_compS1 (src_list (K := K) (a := p) (xs := nu.map V.int)) (fun H' e => SqL.of (e.at hp)) rfl (fun i vs H' => IsTs dealV H' vs (pickT ts (nu.take i))) (fun H' _ => trivial) ?_ ?_
  · rintro i x D vs o H2 H3 hi hD e2 hv hvl hts e3 hx
    obtain ⟨j, hj, ex⟩ : ∃ n, nu[i]? = some n ∧ x = .int n := by
      rw [List.getElem?_map] at hx
      cases h : nu[i]? with
      | none => rw [h] at hx; cases hx
      | some n => rw [h] at hx; exact ⟨n, rfl, (Option.some.inj hx).symm⟩
    subst ex
    have hi' : i < nu.length := by simpa using hi
    obtain ⟨jj, t, hjl, rfl, htj, _⟩ := (hm j).mp (List.mem_of_getElem? hj)
    obtain ⟨c, hc1, hc2⟩ := hI.getI htj
    have hat : atI xs (jj : Int) = some (.ref c) := atI_nat hc1
    have e13 : Same H H3 := e1.trans (e2.trans e3)
    have hb3 := e13.at hb
    have hd3 := e13.at hd
    have hc3 : H3 c = some (.tup (dealV t)) := e13.at hc2
    have hts3 := hts.same e3
    clear e13
    walk_at "x"
    rename_i H4 b4 h4
    refine ⟨⟨_, rfl⟩, by walk_at "h", _, h4, by rw [List.length_append]; exact Nat.succ_le_succ hvl, ?_⟩
    have ep : pickT ts (nu.take (i + 1)) = pickT ts (nu.take i) ++ [t] := by
      rw [take_snoc hj]; unfold pickT; rw [List.map_append, List.map_singleton, Int.toNat_natCast, getD_of htj]
    show IsTs dealV H4 _ (pickT ts (nu.take (i + 1)))
    rw [ep]
    exact IsTs.app (f := dealV) (b4.tup hc3) (LBut.isTs b4 hts3)
  rintro so H2 vs fso e2 hso hvl hts
  rw [List.length_map, List.take_length] at hts
  have hvs := hts.length
  have hpl : (pickT ts nu).length = nu.length := by unfold pickT; rw [List.length_map]
  walk_at "x"
  refine x_compS1 (src_list (K := K) (a := so) (xs := vs)) (fun H' e => SqL.of (e.at hso)) rfl (fun i ws H' => IsTs dueV H' ws ((pickT ts nu).take i |>.map dueOf)) (fun H' _ => trivial) ?_ ?_
  · rintro i x D ws o H3 H4 hi hD e3 hv hwl hws e4 hx
    obtain ⟨c, t, rfl, ht, hc⟩ := (hts.same (e3.trans e4)).get hx
    have hc' : H4 c = some (.tup [.int t.1.p, .int t.1.q, .int t.1.w, .int t.1.u, .int t.1.a, .int t.1.y, .int t.1.r, .str t.2]) := hc
    have hws4 := hws.same e4
    walk_at "x"
    rename_i q H5 fq e5 hq H6 b6 h6
    have hq' : H5 q = some (.tup (dueV (dueOf t))) := hq
    refine ⟨⟨_, rfl⟩, by walk_at "h", _, h6, by rw [List.length_append]; exact Nat.succ_le_succ hwl, ?_⟩
    show IsTs dueV H6 _ (((pickT ts nu).take (i + 1)).map dueOf)
    rw [take_snoc ht, List.map_append]
    exact IsTs.app (f := dueV) (b6.tup hq') (LBut.isTs b6 (hws4.same e5))
  · rintro sh H3 ws fsh e3 hsh hwl hws
    rw [hvs, List.take_length] at hws
    refine k sh H3 ws (Same.none fsh (e1.trans e2)) (e1.trans (e2.trans e3)) hsh ?_
    unfold sheetT
    rw [hnu]
    exact hws

theorem ok_Book_entries (T : Txt K mg) : FnOk P w K mg base (CXF P w) 1 T.d_Book_entries.a T.d_Book_entries.fd ["self", "member"] (spEntries T.c_Book) := by
  refine T.d_Book_entries.F.okN sc_Book_entries (fun vs H Q E h => ?_) (fun cdv A outer s H vs Q E hr h => ?_)
  · obtain ⟨b, d, m, w, y, n, ts, rfl, _⟩ := h; rfl
  obtain ⟨b, d, m, w, y, n, ts, rfl, hB, hl, k⟩ := h
  obtain ⟨⟨dx, hb⟩, xs, hd, hI⟩ := id hB
  have hxl := hI.length
  have cl_Book := T.cl_Book
  have na_Book_deals := T.na_Book_deals
  refine ⟨_, (pss_cons (ps_set (i := 2) sc_Book_entries.nd rfl (Or.inl rfl) (pe_lst pa_nil))
 (pss_cons (ps_for PassesOwn.never rfl (show PI _ _ _ (iEnum K _) from pi_enum rfl T.z_enumerate (pa_cons (show PE _ _ (tFld K _ _) from pe_fld (pv 0) rfl) pa_nil)) (show PG _ _ (gTup K 2 _) from pg_tup (n := 2) rfl (pgs_cons (pg_name (i := 3) sc_Book_entries.nd rfl (Or.inl rfl)) (pgs_cons (pg_name (i := 4) sc_Book_entries.nd rfl (Or.inl rfl)) pgs_nil)))
  (pss_one (ps_if (PW.pt (pw_and (pt_cmpR (show OpR _ (compareOp .NotEq) (rNeU K) from op_neU hr.units) (pe_ix (show IxR _ (rIx K) from ix_seq) (pv 4) (pe_glob (v := .int 7) rfl T.g_STATE ⟨_, rfl⟩) (fun _ _ => rfl)) pe_str (nomark _)) (pw_and1 (pt_cmpR (show OpR _ (compareOp .Eq) (rEqU K) from op_eqU hr.units) (pe_ix (show IxR _ (rIx K) from ix_seq) (pv 4) (pe_glob (v := .int 0) rfl T.g_PAYER ⟨_, rfl⟩) (fun _ _ => rfl)) (pv 1) (nomark _)))))
  (pss_one (ps_expr (show PE _ _ (tBM K _ _ _ _) from pe_bm PySem.F.plainAttrs_list PySem.F.slot_list_append PySem.F.type_list_append mt_append (pv 2) (pa_cons (pe_tup (pa_cons (pe_ix (show IxR _ (rIx K) from ix_seq) (pv 4) (pe_glob (v := .int 5) rfl T.g_DAY ⟨_, rfl⟩) (fun _ _ => rfl)) (pa_cons (pv 3) (pa_cons (pe_un un_neg (pe_ix (show IxR _ (rIx K) from ix_seq) (pv 4) (pe_glob (v := .int 4) rfl T.g_AMOUNT ⟨_, rfl⟩) (fun _ _ => rfl))) pa_nil)))) pa_nil))))
  (pss_one (ps_if (PW.pt (pw_and (pt_cmpR (show OpR _ (compareOp .NotEq) (rNeU K) from op_neU hr.units) (pe_ix (show IxR _ (rIx K) from ix_seq) (pv 4) (pe_glob (v := .int 7) rfl T.g_STATE ⟨_, rfl⟩) (fun _ _ => rfl)) pe_str (nomark _)) (pw_and1 (pt_cmpR (show OpR _ (compareOp .Eq) (rEqU K) from op_eqU hr.units) (pe_ix (show IxR _ (rIx K) from ix_seq) (pv 4) (pe_glob (v := .int 1) rfl T.g_PAYEE ⟨_, rfl⟩) (fun _ _ => rfl)) (pv 1) (nomark _)))))
  (pss_one (ps_expr (show PE _ _ (tBM K _ _ _ _) from pe_bm PySem.F.plainAttrs_list PySem.F.slot_list_append PySem.F.type_list_append mt_append (pv 2) (pa_cons (pe_tup (pa_cons (pe_ix (show IxR _ (rIx K) from ix_seq) (pv 4) (pe_glob (v := .int 5) rfl T.g_DAY ⟨_, rfl⟩) (fun _ _ => rfl)) (pa_cons (pv 3) (pa_cons (pe_ix (show IxR _ (rIx K) from ix_seq) (pv 4) (pe_glob (v := .int 4) rfl T.g_AMOUNT ⟨_, rfl⟩) (fun _ _ => rfl)) pa_nil)))) pa_nil))))
  pss_nil)))))
 (pss_one (ps_ret (pe_callB (show CallR _ _ (rSorted3 K) from call_sorted3) rfl T.z_sorted BT.sorted (pa_cons (pv 2) pa_nil)))))), ?_⟩
  refine x_start (σ0 := [some (.ref b), some (.int n), none, none, none]) rfl ?_
  walk_at "x"
  rename_i ma H1 fma e1 hma
  refine x_forS (src_enum (K := K) (a := d) (xs := xs)) (fun i σ' H' => ∃ (f3 f4 : Option V) (us : List V), σ' = [some (.ref b), some (.int n), some (.ref ma), f3, f4] ∧ Same H H' ∧ H' ma = some (.lst us) ∧ IsTs e3V H' us (entF ts n i)) ⟨_, _, [], rfl, e1, hma, trivial⟩ ?_ ?_ ?_
  · rintro i σ' H' ⟨_, _, _, _, e, _⟩; exact e.seq (SqL.of hd)
  · rintro i yy σ' H2 H3 hi ⟨f3, f4, us, rfl, e2, hma2, hT2⟩ e3 ⟨t, v, rfl, hv, ht⟩
    obtain ⟨a, u, rfl, hu, ha⟩ := (hI.same (e2.trans e3)).get hv
    have ht' : H3 t = some (.tup [.int (i : Int), .ref a]) := ht
    have ha3 : H3 a = some (.tup [.int u.1.p, .int u.1.q, .int u.1.w, .int u.1.u, .int u.1.a, .int u.1.y, .int u.1.r, .str u.2]) := ha
    have hma3 := e3.at hma2
    have hT3 := hT2.same e3
    have hul : us.length ≤ 1000 := by rw [hT2.length]; have := entF_len (ts := ts) (m := n) i; omega
    have es := entF_succ (m := n) hu
    unfold entD at es
    walk_at "x"
    · rename_i h1 h2 tt H4 ftt e4 htt H5 b5 h5
      rw [if_neg h1, if_pos h2] at es
      refine ⟨_, _, _, rfl, b5.same (e2.trans (e3.trans e4)) fma, h5, ?_⟩
      rw [es]
      exact IsTs.app (f := e3V) (x := (u.1.y, (i : Int), -u.1.a)) (b5.tup htt) (LBut.isTs b5 (hT3.same e4))
    · rename_i h1 h2 h3 tt H4 ftt e4 htt H5 b5 h5
      rw [if_neg h1, if_neg h2, if_pos h3] at es
      refine ⟨_, _, _, rfl, b5.same (e2.trans (e3.trans e4)) fma, h5, ?_⟩
      rw [es]
      exact IsTs.app (f := e3V) (x := (u.1.y, (i : Int), u.1.a)) (b5.tup htt) (LBut.isTs b5 (hT3.same e4))
    · rename_i h1 h2 h3
      rw [if_neg h1, if_neg h2, if_neg h3, List.append_nil] at es
      exact ⟨_, _, us, rfl, e2.trans e3, hma3, by rw [es]; exact hT3⟩
    · rename_i h1
      rw [if_pos h1, List.append_nil] at es
      exact ⟨_, _, us, rfl, e2.trans e3, hma3, by rw [es]; exact hT3⟩
  · rintro σ' H2 ⟨f3, f4, us, rfl, e2, hma2, hT2⟩
    rw [hxl] at hT2
    walk_at "x"
    refine x_sort3 hma2 hT2 (by have := entF_len (ts := ts) (m := n) ts.length; omega) (entF_apart (by omega)) fun l H3 us' xs' fl e3 hl3 hT3 hp hs => ?_
    exact k l H3 us' xs' (Same.none fl e2) (e2.trans e3) hl3 hT3 hp hs
theorem ok_Book_position (T : Txt K mg) : FnOk P w K mg base (CXF P w) 1 T.d_Book_position.a T.d_Book_position.fd ["self", "member"] (spPosition T.c_Book) := by
  refine T.d_Book_position.F.okN sc_Book_position (fun vs H Q E h => ?_) (fun cdv A outer s H vs Q E hr h => ?_)
  · obtain ⟨b, d, m, y, n, w, ts, rfl, _⟩ := h; rfl
  obtain ⟨b, d, m, y, n, w, ts, rfl, hB, hw, w1, k⟩ := h
  obtain ⟨⟨dx, hb⟩, xs, hd, hI⟩ := id hB
  have cl_Book := T.cl_Book
  have na_Book_deals := T.na_Book_deals
  have na_Book_wares := T.na_Book_wares
  refine ⟨_, (pss_cons (ps_set (i := 2) sc_Book_position.nd rfl (Or.inl rfl) (pe_op op_mulU (pe_lst (pa_cons pe_int pa_nil)) (show PE _ _ (tFld K _ _) from pe_fld (pv 0) rfl)))
 (pss_cons (ps_for PassesOwn.never rfl (show PI _ _ _ (iList K _) from pi_list (show PE _ _ (tFld K _ _) from pe_fld (pv 0) rfl)) (pg_name (i := 3) sc_Book_position.nd rfl (Or.inl rfl))
  (pss_one (ps_if (PW.pt (pw_and (pt_cmpR (show OpR _ (compareOp .Eq) (rEqU K) from op_eqU hr.units) (pe_ix (show IxR _ (rIx K) from ix_seq) (pv 3) (pe_glob (v := .int 7) rfl T.g_STATE ⟨_, rfl⟩) (fun _ _ => rfl)) pe_str (nomark _)) (pw_and1 (pt_cmpR (show OpR _ (compareOp .Eq) (rEqU K) from op_eqU hr.units) (pe_ix (show IxR _ (rIx K) from ix_seq) (pv 3) (pe_glob (v := .int 0) rfl T.g_PAYER ⟨_, rfl⟩) (fun _ _ => rfl)) (pv 1) (nomark _)))))
  (pss_one (ps_augS (pv 2) (pe_ix (show IxR _ (rIx K) from ix_seq) (pv 3) (pe_glob (v := .int 2) rfl T.g_WARE ⟨_, rfl⟩) (fun _ _ => rfl)) (show PGet _ (rIxL K) from get_listL) (pe_ix (show IxR _ (rIx K) from ix_seq) (pv 3) (pe_glob (v := .int 3) rfl T.g_UNITS ⟨_, rfl⟩) (fun _ _ => rfl)) ip_add set_list))
  (pss_one (ps_if (PW.pt (pw_and (pt_cmpR (show OpR _ (compareOp .Eq) (rEqU K) from op_eqU hr.units) (pe_ix (show IxR _ (rIx K) from ix_seq) (pv 3) (pe_glob (v := .int 7) rfl T.g_STATE ⟨_, rfl⟩) (fun _ _ => rfl)) pe_str (nomark _)) (pw_and1 (pt_cmpR (show OpR _ (compareOp .Eq) (rEqU K) from op_eqU hr.units) (pe_ix (show IxR _ (rIx K) from ix_seq) (pv 3) (pe_glob (v := .int 1) rfl T.g_PAYEE ⟨_, rfl⟩) (fun _ _ => rfl)) (pv 1) (nomark _)))))
  (pss_one (ps_augS (pv 2) (pe_ix (show IxR _ (rIx K) from ix_seq) (pv 3) (pe_glob (v := .int 2) rfl T.g_WARE ⟨_, rfl⟩) (fun _ _ => rfl)) (show PGet _ (rIxL K) from get_listL) (pe_ix (show IxR _ (rIx K) from ix_seq) (pv 3) (pe_glob (v := .int 3) rfl T.g_UNITS ⟨_, rfl⟩) (fun _ _ => rfl)) ip_sub set_list))
  pss_nil)))))
 (pss_one (ps_ret (pv 2))))), ?_⟩
  refine x_start (σ0 := [some (.ref b), some (.int n), none, none]) rfl ?_
  walk_at "x"
  rename_i z0 H1 fz0 e1 hz0 ma H2 fma e2 hma
  rw [Int.toNat_natCast] at hma
  have fmaH : H ma = none := Same.none fma e1
  refine x_forL (xs := xs) (fun i σ' H' => ∃ f3 : Option V, σ' = [some (.ref b), some (.int n), some (.ref ma), f3] ∧ Same H H' ∧ H' ma = some (.lst ((vec w (posF (ts.take i) n)).map V.int))) ⟨_, rfl, e1.trans e2, hma⟩ ?_ ?_ ?_
  · rintro i σ' H' _ ⟨_, _, e, _⟩; exact SqL.of (e.at hd)
  · rintro i x σ' H3 hx ⟨f3, rfl, e3, hma3⟩
    obtain ⟨a, u, rfl, hu, ha⟩ := (hI.same e3).get hx
    have ha3 : H3 a = some (.tup [.int u.1.p, .int u.1.q, .int u.1.w, .int u.1.u, .int u.1.a, .int u.1.y, .int u.1.r, .str u.2]) := ha
    obtain ⟨uw0, uw1⟩ := hw u (List.mem_of_getElem? hu)
    have hpt := posF_take hu n
    have same : posF (ts.take (i + 1)) n = posF (ts.take i) n → H3 ma = some (.lst ((vec w (posF (ts.take (i + 1)) n)).map V.int)) := fun e => by rw [e]; exact hma3
    walk_at "x"
    · rename_i h1 h2 H4 b4 h4
      refine ⟨_, rfl, b4.same e3 fmaH, ?_⟩
      rw [h4]
      congr 3
      refine vec_congr fun j hj => ?_
      rw [hpt]
      unfold posD
      by_cases hj2 : u.1.w = (j : Int)
      · have hje : u.1.w.toNat = j := by omega
        rw [hje, if_pos rfl, if_pos ⟨h1, hj2⟩, if_pos h2]
      · rw [if_neg (show ¬ j = u.1.w.toNat by omega), if_neg (fun z => hj2 z.2)]; omega
    · rename_i h1 h2 h3 H4 b4 h4
      refine ⟨_, rfl, b4.same e3 fmaH, ?_⟩
      rw [h4]
      congr 3
      refine vec_congr fun j hj => ?_
      rw [hpt]
      unfold posD
      by_cases hj2 : u.1.w = (j : Int)
      · have hje : u.1.w.toNat = j := by omega
        rw [hje, if_pos rfl, if_pos ⟨h1, hj2⟩, if_neg h2, if_pos h3]; omega
      · rw [if_neg (show ¬ j = u.1.w.toNat by omega), if_neg (fun z => hj2 z.2)]; omega
    · rename_i h1 h2 h3
      refine ⟨_, rfl, e3, same (funext fun j => ?_)⟩
      rw [hpt]
      unfold posD
      rw [if_neg h2, if_neg h3]
      split <;> omega
    · rename_i h1
      refine ⟨_, rfl, e3, same (funext fun j => ?_)⟩
      rw [hpt]
      unfold posD
      rw [if_neg fun z => h1 z.1]
      omega
  · rintro σ' H3 ⟨f3, rfl, e3, hma3⟩
    rw [hI.length, List.take_length] at hma3
    walk_at "x"
    exact k ma H3 fmaH e3 hma3

theorem ok__law_cell (T : Txt K mg) : FnOk P w K mg base (CXF P w) 1 T.d__law_cell.a T.d__law_cell.fd ["_law_script", "_law_k"] (spCellB K) := by
  refine T.d__law_cell.F.okN sc__law_cell (fun vs H Q E h => ?_) (fun cdv A outer s H vs Q E hr h => ?_)
  · obtain ⟨a, ns, k, rfl, _⟩ := h; rfl
  obtain ⟨a, ns, k, rfl, hS, h0, q⟩ := h
  refine ⟨_, (pss_cons (ps_if (pt_cmpR (show OpR _ (compareOp .Eq) (rEqU K) from op_eqU hr.units) (pe_callB (show CallR _ _ (rLen K) from call_lenU) rfl T.z_len BT.len (pa_cons (pv 0) pa_nil)) pe_int (nomark _))
  (pss_one (ps_ret pe_int))
  pss_nil)
 (pss_one (ps_ret (pe_ix (show IxR _ (rIx K) from ix_seq) (pv 0) (pe_op op_modU (pv 1) (pe_callB (show CallR _ _ (rLen K) from call_lenU) rfl T.z_len BT.len (pa_cons (pv 0) pa_nil))) (fun _ _ => rfl))))), ?_⟩
  refine x_start (σ0 := [some (.ref a), some (.int k)]) rfl ?_
  have hml : (ns.map V.int).length = ns.length := List.length_map ..
  walk_at "x"
  · exact q _
  · rename_i h
    have hp : 0 < ((ns.map V.int).length : Int) := by omega
    have i0 := Int.emod_nonneg k (show ((ns.map V.int).length : Int) ≠ 0 by omega)
    have i1 := Int.emod_lt_of_pos k hp
    obtain ⟨x, hx⟩ := lt_some (show (k % ((ns.map V.int).length : Int)).toNat < ns.length by omega)
    refine x_ixL hS (atI_lt i0 (v := .int x) ?_) (q _)
    rw [List.getElem?_map, hx]; rfl
theorem ok__law_draw (T : Txt K mg) : FnOk P w K mg base (CXF P w) 2 T.d__law_draw.a T.d__law_draw.fd ["_law_script", "_law_k", "_law_many"] (spDrawB K) := by
  refine T.d__law_draw.F.okN sc__law_draw (fun vs H Q E h => ?_) (fun cdv A outer s H vs Q E hr h => ?_)
  · obtain ⟨a, ns, k, n, rfl, _⟩ := h; rfl
  obtain ⟨a, ns, k, n, rfl, hS, h0, h1, n0, q⟩ := h
  refine ⟨_, (pss_one (ps_ret (pe_op op_modU (pe_op op_modU (pe_op op_mulU (pe_op (show OpR _ (binaryOp .Add) (rAddU K) from op_addU) (pe_op (show OpR _ (binaryOp .Add) (rAddU K) from op_addU) (pe_op op_modU (pe_call (ok__law_cell T) (hr.mono (by decide)) rfl T.d__law_cell.m T.d__law_cell.F.kp T.d__law_cell.b .nil (passN nox_F) (pa_cons (pv 0) (pa_cons (pv 1) pa_nil))) pe_int) (pe_op op_mulU (pv 1) (pv 1))) pe_int) pe_int) pe_int) (pv 2)))), ?_⟩
  refine x_start (σ0 := [some (.ref a), some (.int k), some (.int n)]) rfl ?_
  have mk : CMulS k k := CMulS.of (sz200 (by omega) (by omega)) (sz200 (by omega) (by omega)) (by decide)
  have hkk : 0 ≤ k * k ∧ k * k ≤ 25000000 := ⟨Int.mul_nonneg h0 h0, Int.le_trans (Int.mul_le_mul h1 h1 h0 (by decide)) (by decide)⟩
  walk_at "x"
  exact q _ (Int.emod_nonneg _ (by omega)) (Int.emod_lt_of_pos _ (by omega))
theorem ok__law_great (T : Txt K mg) : FnOk P w K mg base (CXF P w) 2 T.d__law_great.a T.d__law_great.fd ["_law_script", "_law_k", "_law_many"] (spGreatB K) := by
  refine T.d__law_great.F.okN sc__law_great (fun vs H Q E h => ?_) (fun cdv A outer s H vs Q E hr h => ?_)
  · obtain ⟨a, ns, k, n, rfl, _⟩ := h; rfl
  obtain ⟨a, ns, k, n, rfl, hS, h0, h1, n0, n1, q⟩ := h
  refine ⟨_, (pss_one (ps_ret (pe_op op_modU (pe_op (show OpR _ (binaryOp .Add) (rAddU K) from op_addU) (pe_op (show OpR _ (binaryOp .Add) (rAddU K) from op_addU) (pe_op op_mulU (pe_op op_modU (pe_call (ok__law_cell T) (hr.mono (by decide)) rfl T.d__law_cell.m T.d__law_cell.F.kp T.d__law_cell.b .nil (passN nox_F) (pa_cons (pv 0) (pa_cons (pv 1) pa_nil))) (pv 2)) pe_int) (pe_op op_mulU (pe_op op_mulU (pv 1) (pv 1)) pe_int)) pe_int) (pv 2)))), ?_⟩
  refine x_start (σ0 := [some (.ref a), some (.int k), some (.int n)]) rfl ?_
  have mk : CMulS k k := CMulS.of (sz200 (by omega) (by omega)) (sz200 (by omega) (by omega)) (by decide)
  have hkk : 0 ≤ k * k ∧ k * k ≤ 25000000 := ⟨Int.mul_nonneg h0 h0, Int.le_trans (Int.mul_le_mul h1 h1 h0 (by decide)) (by decide)⟩
  have mk2 : CMulS (k * k) 40692 := CMulS.of (sz200 (by omega) (by omega)) (sz200 (by decide) (by decide)) (by decide)
  walk_at "x"
  rename_i x
  have x0 := Int.emod_nonneg x (show n ≠ 0 by omega)
  have x1 := Int.emod_lt_of_pos x (show (0 : Int) < n by omega)
  obtain ⟨v, ev⟩ : ∃ v, v = x % n := ⟨_, rfl⟩
  rw [← ev] at x0 x1 ⊢
  have mv : CMulS v 69621 := CMulS.of (sz200 (by omega) (by omega)) (sz200 (by decide) (by decide)) (by decide)
  walk_at "x"
  exact q _ (Int.emod_nonneg _ (by omega)) (Int.emod_lt_of_pos _ (by omega))
theorem ok__law_wholes (T : Txt K mg) : FnOk P w K mg base (CXF P w) 1 T.d__law_wholes.a T.d__law_wholes.fd ["_law_told", "_law_many"] spWholesA := by
  refine T.d__law_wholes.F.okN sc__law_wholes (fun vs H Q E h => ?_) (fun cdv A outer s H vs Q E hr h => ?_)
  · obtain ⟨a, ns, mn, rfl, _⟩ := h; rfl
  obtain ⟨a, ns, mn, rfl, ha, hn, k⟩ := h
  refine ⟨_, (pss_cons (ps_for PassesOwn.never rfl (show PI _ _ _ (iAny K _) from pi_any (pv 0)) (pg_name (i := 2) sc__law_wholes.nd rfl (Or.inl rfl))
  (pss_one (ps_if (PW.pt (pw_or (pt_not (show PT _ _ (tTru K _) from pt_truthU (pe_callB (show CallR _ _ (rIsiU K) from call_isiU) rfl T.z_isinstance BT.isinstance (pa_cons (pv 2) (pa_cons (pe_bltn (v := .ty "int") rfl T.z_int BT.int rfl) pa_nil))) (fun _ => rfl))) (pw_or1 (show PT _ _ (tTru K _) from pt_truthU (pe_callB (show CallR _ _ (rIsiU K) from call_isiU) rfl T.z_isinstance BT.isinstance (pa_cons (pv 2) (pa_cons (pe_bltn (v := .ty "bool") rfl T.z_bool BT.bool rfl) pa_nil))) (fun _ => rfl)))))
  (pss_one (ps_ret pe_bl))
  pss_nil)))
 (pss_one (ps_ret (pe_cmpR (show OpR _ (compareOp .Eq) (rEqU K) from op_eqU hr.units) (pe_callB (show CallR _ _ (rLen K) from call_lenU) rfl T.z_len BT.len (pa_cons (pv 0) pa_nil)) (pv 1) (nomark _))))), ?_⟩
  refine x_start (σ0 := [some (.ref a), some (.int mn), none]) rfl ?_
  have step : ∀ {i : Nat} {x : V}, (ns.map V.int)[i]? = some x → ∃ v, x = .int v := fun {i x} hx => by
    rw [List.getElem?_map] at hx
    cases h : ns[i]? with
    | none => rw [h] at hx; cases hx
    | some v => rw [h] at hx; exact ⟨v, (Option.some.inj hx).symm⟩
  have hml : ((ns.map V.int).length : Int) = mn := by rw [List.length_map]; exact hn
  walk_at "x"
  refine x_itA ?_
  walk_at "x"
  rcases ha with ha | ha
  · refine ⟨a, rfl, .inl ⟨⟨_, SqL.of ha⟩, ?_⟩⟩
    refine x_forL (xs := ns.map V.int) (fun j σ' H' => ∃ f2 : Option V, σ' = [some (.ref a), some (.int mn), f2] ∧ Same H H') ⟨_, rfl, Same.refl _⟩ ?_ ?_ ?_
    · rintro j σ' H' _ ⟨_, _, e⟩; exact SqL.of (e.at ha)
    · rintro j x σ' H' hx ⟨f2, rfl, e⟩
      obtain ⟨v, rfl⟩ := step hx
      walk_at "x"
      exact ⟨_, rfl, e⟩
    · rintro σ' H' ⟨f2, rfl, e⟩
      have ha' := e.at ha
      walk_at "x"
      rw [decide_eq_true hml]
      exact k _ e
  · refine ⟨a, rfl, .inr ⟨⟨_, SqT.of ha⟩, ?_⟩⟩
    refine x_forS (src_tup (K := K) (a := a) (xs := ns.map V.int)) (fun j σ' H' => ∃ f2 : Option V, σ' = [some (.ref a), some (.int mn), f2] ∧ Same H H') ⟨_, rfl, Same.refl _⟩ ?_ ?_ ?_
    · rintro j σ' H' ⟨_, _, e⟩; exact SqT.of (e.at ha)
    · rintro j x σ' H2 H3 hj ⟨f2, rfl, e2⟩ e3 hx
      obtain ⟨v, rfl⟩ := step hx
      walk_at "x"
      exact ⟨_, rfl, e2.trans e3⟩
    · rintro σ' H' ⟨f2, rfl, e⟩
      have ha' := e.at ha
      walk_at "x"
      rw [decide_eq_true hml]
      exact k _ e
theorem ok__law_tuples (T : Txt K mg) : FnOk P w K mg base (CXF P w) 2 T.d__law_tuples.a T.d__law_tuples.fd ["_law_told", "_law_many"] spTuplesA := by
  refine T.d__law_tuples.F.okN sc__law_tuples (fun vs H Q E h => ?_) (fun cdv A outer s H vs Q E hr h => ?_)
  · obtain ⟨a, us, es, mn, rfl, _⟩ := h; rfl
  obtain ⟨a, us, es, mn, rfl, ha, hF, hn, k⟩ := h
  refine ⟨_, (pss_cons (ps_if (pt_not (show PT _ _ (tTru K _) from pt_truthU (pe_callB (show CallR _ _ (rIsiU K) from call_isiU) rfl T.z_isinstance BT.isinstance (pa_cons (pv 0) (pa_cons (pe_bltn (v := .ty "list") rfl T.z_list BT.list rfl) pa_nil))) (fun _ => rfl)))
  (pss_one (ps_ret pe_bl))
  pss_nil)
 (pss_cons (ps_for PassesOwn.never rfl (show PI _ _ _ (iList K _) from pi_list (pv 0)) (pg_name (i := 2) sc__law_tuples.nd rfl (Or.inl rfl))
  (pss_one (ps_if (PW.pt (pw_or (pt_not (show PT _ _ (tTru K _) from pt_truthU (pe_callB (show CallR _ _ (rIsiU K) from call_isiU) rfl T.z_isinstance BT.isinstance (pa_cons (pv 2) (pa_cons (pe_bltn (v := .ty "tuple") rfl T.z_tuple BT.tuple rfl) pa_nil))) (fun _ => rfl))) (pw_or1 (pt_not (show PT _ _ (tTru K _) from pt_truthU (pe_call (ok__law_wholes T) (hr.mono (by decide)) rfl T.d__law_wholes.m T.d__law_wholes.F.kp T.d__law_wholes.b .nil (passN nox_F) (pa_cons (pv 2) (pa_cons (pv 1) pa_nil))) (fun _ => rfl))))))
  (pss_one (ps_ret pe_bl))
  pss_nil)))
 (pss_one (ps_ret pe_bl)))), ?_⟩
  refine x_start (σ0 := [some (.ref a), some (.int mn), none]) rfl ?_
  walk_at "x"
  refine x_forL (xs := us) (fun j σ' H' => ∃ f2 : Option V, σ' = [some (.ref a), some (.int mn), f2] ∧ Same H H') ⟨_, rfl, Same.refl _⟩ ?_ ?_ ?_
  · rintro j σ' H' _ ⟨_, _, e⟩; exact SqL.of (e.at ha)
  · rintro j x σ' H' hx ⟨f2, rfl, e⟩
    obtain ⟨c, ns, rfl, hc, hm⟩ := (hF.keep e.tups).getT hx
    have hnl := hn ns hm
    walk_at "x"
    refine ⟨c, ns, mn, rfl, .inr hc, hnl, fun H2 e2 => ?_⟩
    walk_at "x"
    exact ⟨_, rfl, e.trans e2⟩
  · rintro σ' H' ⟨f2, rfl, e⟩
    walk_at "x"
    exact k _ e

theorem ok__law_day_due (T : Txt K mg) : FnOk P w K mg base (CXF P w) 1 T.d__law_day_due.a T.d__law_day_due.fd ["_law_rows", "_law_day"] spDayDueA := by
  refine T.d__law_day_due.F.okN sc__law_day_due (fun vs H Q E h => ?_) (fun cdv A outer s H vs Q E hr h => ?_)
  · obtain ⟨ro, z, ts, as, rfl, _⟩ := h; rfl
  obtain ⟨ro, z, ts, as, rfl, hro, hR, hn, k⟩ := h
  have hal := hR.2.1
  have haml : (as.map V.ref).length = as.length := List.length_map ..
  refine ⟨_, (pss_cons (ps_setC (i := 2) sc__law_day_due.nd rfl rfl rfl (pi_range1 rfl T.z_range (pa_cons (pe_callB (show CallR _ _ (rLen K) from call_lenU) rfl T.z_len BT.len (pa_cons (pv 0) pa_nil)) pa_nil)) (compScope_of (Ni := ["_law_k", "_law_rows", "_law_day"]) (caps := [none, some 0, some 1]) (by rfl)) (fun S _ _ _ _ _ => (pg_nameC (gi := 0) S (Or.inl rfl) rfl)) (fun _ _ _ _ _ => (pf_one (PW.pt (pw_and (pt_cmpR (show OpR _ (compareOp .Eq) (rEqU K) from op_eqU hr.units) (pe_ix (show IxR _ (rIx K) from ix_seq) (pe_ix (show IxR _ (rIx K) from ix_seq) (pv 1) (pv 0) (fun _ _ => rfl)) pe_int (fun _ _ => rfl)) (pv 2) (nomark _)) (pw_and1 (pt_cmpR (show OpR _ (compareOp .NotEq) (rNeU K) from op_neU hr.units) (pe_ix (show IxR _ (rIx K) from ix_seq) (pe_ix (show IxR _ (rIx K) from ix_seq) (pv 1) (pv 0) (fun _ _ => rfl)) pe_int (fun _ _ => rfl)) pe_str (nomark _))))))) (fun _ _ _ _ _ => (pv 0)))
 (pss_one (ps_ret (pe_tup (pa_cons (pv 2) (pa_cons (pe_comp rfl (show PI _ _ _ (iList K _) from pi_list (pv 2)) (compScope_of (Ni := ["_law_k", "_law_rows"]) (caps := [none, some 0]) (by rfl)) (fun S _ _ _ _ _ => (pg_nameC (gi := 0) S (Or.inl rfl) rfl)) (fun _ _ _ _ _ => pf_nil) (fun _ _ _ _ _ => (pe_tup (pa_cons (pe_ix (show IxR _ (rIx K) from ix_seq) (pe_ix (show IxR _ (rIx K) from ix_seq) (pv 1) (pv 0) (fun _ _ => rfl)) pe_int (fun _ _ => rfl)) (pa_cons (pe_ix (show IxR _ (rIx K) from ix_seq) (pe_ix (show IxR _ (rIx K) from ix_seq) (pv 1) (pv 0) (fun _ _ => rfl)) pe_int (fun _ _ => rfl)) (pa_cons (pe_ix (show IxR _ (rIx K) from ix_seq) (pe_ix (show IxR _ (rIx K) from ix_seq) (pv 1) (pv 0) (fun _ _ => rfl)) pe_int (fun _ _ => rfl)) (pa_cons (pe_ix (show IxR _ (rIx K) from ix_seq) (pe_ix (show IxR _ (rIx K) from ix_seq) (pv 1) (pv 0) (fun _ _ => rfl)) pe_int (fun _ _ => rfl)) pa_nil))))))) pa_nil)))))), ?_⟩
  refine x_start (σ0 := [some (.ref ro), some (.int z), none]) rfl ?_
  walk_at "x"
  refine x_compS1 src_range (fun _ _ => trivial) rfl (fun i vs _ => vs = (numF (onP z) ts i).map V.int) (fun _ _ => rfl) ?_ ?_
  · rintro i x D vs o H4 H5 hi hD e4 hv hvl rfl e5 rfl
    have ei : ((0 : Int) + (i : Int)).toNat = i := by omega
    have ez : (0 : Int) + (i : Int) = i := by omega
    obtain ⟨a, ha⟩ := lt_some (show i < as.length by omega)
    obtain ⟨t, ht⟩ := lt_some (show i < ts.length by omega)
    have hra : H5 a = some (.lst [.int t.1.p, .int t.1.q, .int t.1.w, .int t.1.u, .int t.1.a, .int t.1.y, .int t.1.r, .str t.2]) := e5.at (e4.at (hR.2.2 i a t ha ht))
    have hat : atI (as.map V.ref) ((0 : Int) + (i : Int)) = some (.ref a) := atI_lt (by omega) (by rw [ei, List.getElem?_map, ha]; rfl)
    have hro5 : H5 ro = some (.lst (as.map V.ref)) := e5.at (e4.at hro)
    have es := numF_succ (P := onP z) ht
    walk_at "x"
    · rename_i h1 h2 H6 b6 h6
      rw [ez] at h6
      rw [if_pos (by unfold onP; rw [decide_eq_true h1, decide_eq_true h2]; rfl)] at es
      refine ⟨⟨_, rfl⟩, by walk_at "h", _, h6, by rw [List.length_append]; exact Nat.succ_le_succ hvl, ?_⟩
      show _ = (numF (onP z) ts (i + 1)).map V.int
      rw [es, List.map_append]; rfl
    · rename_i h1 h2
      rw [if_neg (by unfold onP; rw [decide_eq_false (show ¬ ¬ t.2 = ("broken" : Str) from fun w => w h2)]; simp), List.append_nil] at es
      refine ⟨⟨_, rfl⟩, by walk_at "h", _, by walk_at "h", by omega, ?_⟩
      show _ = (numF (onP z) ts (i + 1)).map V.int
      rw [es]
    · rename_i h1
      rw [if_neg (by unfold onP; rw [decide_eq_false h1]; simp), List.append_nil] at es
      refine ⟨⟨_, rfl⟩, by walk_at "h", _, by walk_at "h", by omega, ?_⟩
      show _ = (numF (onP z) ts (i + 1)).map V.int
      rw [es]
  rintro nu H1 vs fnu e1 hnu hvl rfl
  have hnu' : H1 nu = some (.lst ((numF (onP z) ts ts.length).map V.int)) := by
    have : ((as.map V.ref).length : Int).toNat = ts.length := by omega
    rw [this] at hnu
    exact hnu
  have hnl := numF_len (P := onP z) (ts := ts) ts.length
  have hmm := fun x => mem_numF (P := onP z) (ts := ts) (x := x) (Nat.le_refl ts.length)
  have hpl : (pickT ts (numF (onP z) ts ts.length)).length = (numF (onP z) ts ts.length).length := by unfold pickT; rw [List.length_map]
  have esh : sheetT z ts = (pickT ts (numF (onP z) ts ts.length)).map dueOf := rfl
  rw [esh] at k
  generalize numF (onP z) ts ts.length = nn at *
  have hnu3 := hnu'
  walk_at "x"
  refine x_compS1 (src_list (K := K) (a := nu) (xs := nn.map V.int)) (fun H' e => SqL.of (e.at hnu3)) rfl (fun i ws H' => IsTs dueV H' ws ((pickT ts (nn.take i)).map dueOf)) (fun H' _ => trivial) ?_ ?_
  · rintro i x D ws o H4 H5 hi hD e4 hv hwl hws e5 hx
    have hi' : i < nn.length := by simpa using hi
    obtain ⟨j, hj, ex⟩ : ∃ n, nn[i]? = some n ∧ x = .int n := by
      rw [List.getElem?_map] at hx
      cases h : nn[i]? with
      | none => rw [h] at hx; cases hx
      | some n => rw [h] at hx; exact ⟨n, rfl, (Option.some.inj hx).symm⟩
    subst ex
    obtain ⟨jj, t, hjl, rfl, htj, _⟩ := (hmm j).mp (List.mem_of_getElem? hj)
    obtain ⟨c, hc⟩ := lt_some (show jj < as.length by omega)
    have hat : atI (as.map V.ref) (jj : Int) = some (.ref c) := atI_nat (by rw [List.getElem?_map, hc]; rfl)
    have hro5 : H5 ro = some (.lst (as.map V.ref)) := e5.at (e4.at (e1.at hro))
    have hra : H5 c = some (.lst [.int t.1.p, .int t.1.q, .int t.1.w, .int t.1.u, .int t.1.a, .int t.1.y, .int t.1.r, .str t.2]) := e5.at (e4.at (e1.at (hR.2.2 jj c t hc htj)))
    have hws5 := hws.same e5
    walk_at "x"
    rename_i q H6 fq e6 hq H7 b7 h7
    have hq' : H6 q = some (.tup (dueV (dueOf t))) := hq
    have ep : (pickT ts (nn.take (i + 1))).map dueOf = (pickT ts (nn.take i)).map dueOf ++ [dueOf t] := by
      rw [take_snoc hj]; unfold pickT; rw [List.map_append, List.map_append, List.map_singleton, List.map_singleton, Int.toNat_natCast, getD_of htj]
    refine ⟨⟨_, rfl⟩, by walk_at "h", _, h7, by rw [List.length_append]; exact Nat.succ_le_succ hwl, ?_⟩
    show IsTs dueV H7 _ ((pickT ts (nn.take (i + 1))).map dueOf)
    rw [ep]
    exact IsTs.app (f := dueV) (b7.tup hq') (LBut.isTs b7 (hws5.same e6))
  · rintro sh H4 ws fsh e4 hsh hwl hws
    rw [List.length_map, List.take_length] at hws
    refine x_tupN (by first | decide | simp) fun p H5 fp e5 hp => ?_
    exact k p nu sh ws H5 fnu (Same.none fsh e1) (ne_new' fsh hnu').symm (e1.trans (e4.trans e5)) hp (e5.at (e4.at hnu')) (e5.at hsh) (hws.same e5)
theorem ok__law_entries_due (T : Txt K mg) : FnOk P w K mg base (CXF P w) 1 T.d__law_entries_due.a T.d__law_entries_due.fd ["_law_rows", "_law_member"] spEntDueA := by
  refine T.d__law_entries_due.F.okN sc__law_entries_due (fun vs H Q E h => ?_) (fun cdv A outer s H vs Q E hr h => ?_)
  · obtain ⟨ro, n, ts, as, rfl, _⟩ := h; rfl
  obtain ⟨ro, n, ts, as, rfl, hro, hR, hl, hpq, k⟩ := h
  have hal := hR.2.1
  have haml : (as.map V.ref).length = ts.length := by rw [List.length_map]; exact hal
  refine ⟨_, (pss_cons (ps_set (i := 2) sc__law_entries_due.nd rfl (Or.inl rfl) (pe_lst pa_nil))
 (pss_cons (ps_for PassesOwn.never rfl (pi_range1 rfl T.z_range (pa_cons (pe_callB (show CallR _ _ (rLen K) from call_lenU) rfl T.z_len BT.len (pa_cons (pv 0) pa_nil)) pa_nil)) (pg_name (i := 3) sc__law_entries_due.nd rfl (Or.inl rfl))
  (pss_mid (ps_if (PW.pt (pw_and (pt_cmpR (show OpR _ (compareOp .NotEq) (rNeU K) from op_neU hr.units) (pe_ix (show IxR _ (rIx K) from ix_seq) (pe_ix (show IxR _ (rIx K) from ix_seq) (pv 0) (pv 3) (fun _ _ => rfl)) pe_int (fun _ _ => rfl)) pe_str (nomark _)) (pw_and1 (pt_cmpR (show OpR _ (compareOp .Eq) (rEqU K) from op_eqU hr.units) (pe_ix (show IxR _ (rIx K) from ix_seq) (pe_ix (show IxR _ (rIx K) from ix_seq) (pv 0) (pv 3) (fun _ _ => rfl)) pe_int (fun _ _ => rfl)) (pv 1) (nomark _)))))
  (pss_one (ps_expr (show PE _ _ (tBM K _ _ _ _) from pe_bm PySem.F.plainAttrs_list PySem.F.slot_list_append PySem.F.type_list_append mt_append (pv 2) (pa_cons (pe_tup (pa_cons (pe_ix (show IxR _ (rIx K) from ix_seq) (pe_ix (show IxR _ (rIx K) from ix_seq) (pv 0) (pv 3) (fun _ _ => rfl)) pe_int (fun _ _ => rfl)) (pa_cons (pv 3) (pa_cons (pe_op op_sub pe_int (pe_ix (show IxR _ (rIx K) from ix_seq) (pe_ix (show IxR _ (rIx K) from ix_seq) (pv 0) (pv 3) (fun _ _ => rfl)) pe_int (fun _ _ => rfl))) pa_nil)))) pa_nil))))
  pss_nil)
 (pss_one (ps_if (PW.pt (pw_and (pt_cmpR (show OpR _ (compareOp .NotEq) (rNeU K) from op_neU hr.units) (pe_ix (show IxR _ (rIx K) from ix_seq) (pe_ix (show IxR _ (rIx K) from ix_seq) (pv 0) (pv 3) (fun _ _ => rfl)) pe_int (fun _ _ => rfl)) pe_str (nomark _)) (pw_and1 (pt_cmpR (show OpR _ (compareOp .Eq) (rEqU K) from op_eqU hr.units) (pe_ix (show IxR _ (rIx K) from ix_seq) (pe_ix (show IxR _ (rIx K) from ix_seq) (pv 0) (pv 3) (fun _ _ => rfl)) pe_int (fun _ _ => rfl)) (pv 1) (nomark _)))))
  (pss_one (ps_expr (show PE _ _ (tBM K _ _ _ _) from pe_bm PySem.F.plainAttrs_list PySem.F.slot_list_append PySem.F.type_list_append mt_append (pv 2) (pa_cons (pe_tup (pa_cons (pe_ix (show IxR _ (rIx K) from ix_seq) (pe_ix (show IxR _ (rIx K) from ix_seq) (pv 0) (pv 3) (fun _ _ => rfl)) pe_int (fun _ _ => rfl)) (pa_cons (pv 3) (pa_cons (pe_ix (show IxR _ (rIx K) from ix_seq) (pe_ix (show IxR _ (rIx K) from ix_seq) (pv 0) (pv 3) (fun _ _ => rfl)) pe_int (fun _ _ => rfl)) pa_nil)))) pa_nil))))
  pss_nil))))
 (pss_one (ps_ret (pe_callB (show CallR _ _ (rSorted3 K) from call_sorted3) rfl T.z_sorted BT.sorted (pa_cons (pv 2) pa_nil)))))), ?_⟩
  refine x_start (σ0 := [some (.ref ro), some (.int n), none, none]) rfl ?_
  walk_at "x"
  rename_i ma H1 fma e1 hma
  refine x_forR (fun i σ' H' => ∃ (f3 : Option V) (us : List V), σ' = [some (.ref ro), some (.int n), some (.ref ma), f3] ∧ Same H H' ∧ H' ma = some (.lst us) ∧ IsTs e3V H' us (entF ts n i)) ⟨_, [], rfl, e1, hma, trivial⟩ ?_ ?_
  · rintro i σ' H2 hi ⟨f3, us, rfl, e2, hma2, hT2⟩
    obtain ⟨c, hc⟩ := lt_some (show i < as.length by omega)
    obtain ⟨u, hu⟩ := lt_some (show i < ts.length by omega)
    have ez : (0 : Int) + (i : Int) = i := by omega
    have hat : atI (as.map V.ref) ((0 : Int) + (i : Int)) = some (.ref c) := by rw [ez]; exact atI_nat (by rw [List.getElem?_map, hc]; rfl)
    have hrow : H2 c = some (.lst [.int u.1.p, .int u.1.q, .int u.1.w, .int u.1.u, .int u.1.a, .int u.1.y, .int u.1.r, .str u.2]) := e2.at (hR.2.2 i c u hc hu)
    have hro2 := e2.at hro
    have hul : us.length ≤ 1000 := by rw [hT2.length]; have := entF_len (ts := ts) (m := n) i; omega
    have es := entF_succ (m := n) hu
    have upq := hpq u (List.mem_of_getElem? hu)
    unfold entD at es
    refine x_mid (fun σ' H' => ∃ us' : List V, σ' = [some (.ref ro), some (.int n), some (.ref ma), some (.int ((0 : Int) + (i : Int)))] ∧ Same H H' ∧ H' ma = some (.lst us') ∧ us'.length ≤ 1000 ∧ IsTs e3V H' us' (entF ts n i ++ if ¬ u.2 = ("broken" : Str) ∧ u.1.p = n then [(u.1.y, (i : Int), -u.1.a)] else [])) ?_ ?_
    · walk_at "x"
      · rename_i h1 h2 tt H4 ftt e4 htt H5 b5 h5
        rw [ez, Int.zero_sub] at htt
        refine ⟨_, rfl, b5.same (e2.trans e4) fma, h5, by rw [List.length_append, List.length_singleton, hT2.length]; have := entF_len (ts := ts) (m := n) i; omega, ?_⟩
        rw [if_pos ⟨h1, h2⟩]
        exact IsTs.app (f := e3V) (x := (u.1.y, (i : Int), -u.1.a)) (b5.tup htt) (LBut.isTs b5 (hT2.same e4))
      · rename_i h1 h2
        exact ⟨us, rfl, e2, hma2, hul, by rw [if_neg fun z => h2 z.2, List.append_nil]; exact hT2⟩
      · rename_i h1
        exact ⟨us, rfl, e2, hma2, hul, by rw [if_neg fun z => z.1 h1, List.append_nil]; exact hT2⟩
    rintro σ' H3 ⟨us', rfl, e3, hma3, hul3, hT3⟩
    have hrow3 : H3 c = some (.lst [.int u.1.p, .int u.1.q, .int u.1.w, .int u.1.u, .int u.1.a, .int u.1.y, .int u.1.r, .str u.2]) := e3.at (hR.2.2 i c u hc hu)
    have hro3 := e3.at hro
    walk_at "x"
    · rename_i h1 h2 tt H4 ftt e4 htt H5 b5 h5
      rw [ez] at htt
      rw [if_neg (fun z => upq (z.2.trans h2.symm)), List.append_nil] at hT3
      rw [if_neg h1, if_neg (fun z => upq (z.trans h2.symm)), if_pos h2] at es
      refine ⟨_, _, rfl, b5.same (e3.trans e4) fma, h5, ?_⟩
      rw [es]
      exact IsTs.app (f := e3V) (x := (u.1.y, (i : Int), u.1.a)) (b5.tup htt) (LBut.isTs b5 (hT3.same e4))
    · rename_i h1 h2
      rw [if_neg h1] at es
      refine ⟨_, us', rfl, e3, hma3, ?_⟩
      rw [es]
      by_cases hp : u.1.p = n
      · rw [if_pos ⟨h1, hp⟩] at hT3
        rw [if_pos hp]; exact hT3
      · rw [if_neg fun z => hp z.2] at hT3
        rw [if_neg hp, if_neg h2]; exact hT3
    · rename_i h1
      rw [if_pos h1] at es
      rw [if_neg fun z => z.1 h1] at hT3
      exact ⟨_, us', rfl, e3, hma3, by rw [es]; exact hT3⟩
  · rintro σ' H2 ⟨f3, us, rfl, e2, hma2, hT2⟩
    have hnn : ((as.map V.ref).length : Int).toNat = ts.length := by omega
    rw [hnn] at hT2
    walk_at "x"
    refine x_sort3 hma2 hT2 (by have := entF_len (ts := ts) (m := n) ts.length; omega) (entF_apart (by omega)) fun l H3 us' xs' fl e3 hl3 hT3 hp hs => ?_
    exact k l H3 us' xs' (Same.none fl e2) (e2.trans e3) hl3 hT3 hp hs

theorem ok__law_position_due (T : Txt K mg) : FnOk P w K mg base (CXF P w) 1 T.d__law_position_due.a T.d__law_position_due.fd ["_law_rows", "_law_member", "_law_wares"] spPosDueA := by
  refine T.d__law_position_due.F.okN sc__law_position_due (fun vs H Q E h => ?_) (fun cdv A outer s H vs Q E hr h => ?_)
  · obtain ⟨ro, n, w, ts, as, rfl, _⟩ := h; rfl
  obtain ⟨ro, n, w, ts, as, rfl, hro, hR, hl, w1, hpq, k⟩ := h
  have hal := hR.2.1
  refine ⟨_, (pss_cons (ps_set (i := 3) sc__law_position_due.nd rfl (Or.inl rfl) (pe_lst pa_nil))
 (pss_cons (ps_for PassesOwn.never rfl (pi_range1 rfl T.z_range (pa_cons (pv 2) pa_nil)) (pg_name (i := 4) sc__law_position_due.nd rfl (Or.inr rfl))
  (pss_cons (ps_setC (i := 5) sc__law_position_due.nd rfl rfl rfl (show PI _ _ _ (iList K _) from pi_list (pv 0)) (compScope_of (Ni := ["_law_row", "_law_ware"]) (caps := [none, some 4]) (by rfl)) (fun S _ _ _ _ _ => (pg_nameC (gi := 0) S (Or.inl rfl) rfl)) (fun _ _ _ _ _ => (pf_one (PW.pt (pw_and (pt_cmpR (show OpR _ (compareOp .Eq) (rEqU K) from op_eqU hr.units) (pe_ix (show IxR _ (rIx K) from ix_seq) (pv 0) pe_int (fun _ _ => rfl)) (pv 1) (nomark _)) (pw_and1 (pt_cmpR (show OpR _ (compareOp .Eq) (rEqU K) from op_eqU hr.units) (pe_ix (show IxR _ (rIx K) from ix_seq) (pv 0) pe_int (fun _ _ => rfl)) pe_str (nomark _))))))) (fun _ _ _ _ _ => (pv 0)))
 (pss_cons (ps_set (i := 6) sc__law_position_due.nd rfl (Or.inl rfl) (pe_callB (show CallR _ _ (rSum K) from call_sumU rfl) rfl T.z_sum BT.sum (pa_cons (pe_comp rfl (show PI _ _ _ (iList K _) from pi_list (pv 5)) (compScope_of (Ni := ["_law_row", "_law_member"]) (caps := [none, some 1]) (by rfl)) (fun S _ _ _ _ _ => (pg_nameC (gi := 0) S (Or.inl rfl) rfl)) (fun _ _ _ _ _ => (pf_one (pt_cmpR (show OpR _ (compareOp .Eq) (rEqU K) from op_eqU hr.units) (pe_ix (show IxR _ (rIx K) from ix_seq) (pv 0) pe_int (fun _ _ => rfl)) (pv 1) (nomark _)))) (fun _ _ _ _ _ => (pe_ix (show IxR _ (rIx K) from ix_seq) (pv 0) pe_int (fun _ _ => rfl)))) pa_nil)))
 (pss_one (ps_expr (show PE _ _ (tBM K _ _ _ _) from pe_bm PySem.F.plainAttrs_list PySem.F.slot_list_append PySem.F.type_list_append mt_append (pv 3) (pa_cons (pe_op op_sub (pv 6) (pe_callB (show CallR _ _ (rSum K) from call_sumU rfl) rfl T.z_sum BT.sum (pa_cons (pe_comp rfl (show PI _ _ _ (iList K _) from pi_list (pv 5)) (compScope_of (Ni := ["_law_row", "_law_member"]) (caps := [none, some 1]) (by rfl)) (fun S _ _ _ _ _ => (pg_nameC (gi := 0) S (Or.inl rfl) rfl)) (fun _ _ _ _ _ => (pf_one (pt_cmpR (show OpR _ (compareOp .Eq) (rEqU K) from op_eqU hr.units) (pe_ix (show IxR _ (rIx K) from ix_seq) (pv 0) pe_int (fun _ _ => rfl)) (pv 1) (nomark _)))) (fun _ _ _ _ _ => (pe_ix (show IxR _ (rIx K) from ix_seq) (pv 0) pe_int (fun _ _ => rfl)))) pa_nil))) pa_nil)))))))
 (pss_one (ps_ret (pv 3))))), ?_⟩
  refine x_start (σ0 := [some (.ref ro), some (.int n), some (.int (w:Int)), none, none, none, none]) rfl ?_
  walk_at "x"
  rename_i du H1 fdu e1 hdu
  refine x_forR (fun i σ' H' => ∃ (f4 f5 f6 : Option V), σ' = [some (.ref ro), some (.int n), some (.int (w : Int)), some (.ref du), f4, f5, f6] ∧ Same H H' ∧ H' du = some (.lst ((vec i (posF ts n)).map V.int))) ⟨_, _, _, rfl, e1, hdu⟩ ?_ ?_
  · rintro j σ' H2 hj ⟨f4, f5, f6, rfl, e2, hdu2⟩
    have hjw : j < w := by omega
    have ez : (0 : Int) + (j : Int) = j := by omega
    have hro2 := e2.at hro
    have hR2 := hR.same e2
    have hvl : ((vec j (posF ts n)).map V.int).length ≤ 1000 := by rw [List.length_map, vec_len]; omega
    walk_at "x"
    refine x_compS1 (src_list (K := K) (a := ro) (xs := as.map V.ref)) (fun H' e => SqL.of (e.at hro2)) rfl (fun i vs _ => vs = (numF (posP (j : Int)) ts i).map fun q => V.ref (as.getD q.toNat 0)) (fun H' _ => rfl) ?_ ?_
    · rintro i x D vs o H4 H5 hi hD e4 hv hvl' rfl e5 hx
      rw [List.length_map] at hi
      obtain ⟨c, hc⟩ := lt_some hi
      obtain ⟨u, hu⟩ := lt_some (show i < ts.length by omega)
      have ex : x = .ref c := by rw [List.getElem?_map, hc] at hx; exact (Option.some.inj hx).symm
      subst ex
      have hrow : H5 c = some (.lst [.int u.1.p, .int u.1.q, .int u.1.w, .int u.1.u, .int u.1.a, .int u.1.y, .int u.1.r, .str u.2]) := e5.at (e4.at (hR2.2.2 i c u hc hu))
      have es := numF_succ (P := posP (j : Int)) hu
      have hml : ((numF (posP (j : Int)) ts i).map fun q => V.ref (as.getD q.toNat 0)).length ≤ 1000 := by omega
      have hv5 := e5.at hv
      walk_at "x"
      · rename_i h1 h2 H6 b6 h6
        rw [ez] at h1
        rw [if_pos (by unfold posP; rw [decide_eq_true h1, decide_eq_true h2]; rfl)] at es
        refine ⟨⟨_, rfl⟩, b6.same (e4.trans e5) hD, _, h6, by rw [List.length_append]; exact Nat.succ_le_succ hvl', ?_⟩
        dsimp only
        rw [es, List.map_append, List.map_singleton, Int.toNat_natCast, List.getD_eq_getElem?_getD, hc]; rfl
      · rename_i h1 h2
        rw [if_neg (by unfold posP; rw [decide_eq_false h2]; simp), List.append_nil] at es
        refine ⟨⟨_, rfl⟩, e4.trans e5, _, hv5, by omega, ?_⟩
        dsimp only
        rw [es]
      · rename_i h1
        rw [ez] at h1
        rw [if_neg (by unfold posP; rw [decide_eq_false h1]; simp), List.append_nil] at es
        refine ⟨⟨_, rfl⟩, e4.trans e5, _, hv5, by omega, ?_⟩
        dsimp only
        rw [es]
    rintro so H3 vs fso e3 hso _ rfl
    rw [List.length_map, hal] at hso
    have hmm := fun x => mem_numF (P := posP (j : Int)) (ts := ts) (x := x) (Nat.le_refl ts.length)
    have hnl := numF_len (P := posP (j : Int)) (ts := ts) ts.length
    have hpk := pick_num (P := posP (j : Int)) (ts := ts) ts.length (Nat.le_refl _)
    rw [List.take_length] at hpk
    have hsum := pos_sum n j ts hpq
    rw [← hpk] at hsum
    generalize numF (posP (j : Int)) ts ts.length = nn at *
    have hR3 := hR2.same e3
    have hdu3 := e3.at hdu2
    walk_at "x"
    refine x_compS1 (src_list (K := K) (a := so) (xs := nn.map fun q => V.ref (as.getD q.toNat 0))) (fun H' e => SqL.of (e.at hso)) rfl (fun i vs _ => vs = (uSel (fun t => decide (t.1.p = n)) (pickT ts (nn.take i))).map V.int) (fun H' _ => rfl) ?_ ?_
    · rintro i x D vs o H4 H5 hi hD e4 hv hvl' rfl e5 hx
      rw [List.length_map] at hi
      obtain ⟨q, hq⟩ := lt_some hi
      obtain ⟨jj, u, hjl, rfl, hu, _⟩ := (hmm q).mp (List.mem_of_getElem? hq)
      obtain ⟨c, hc⟩ := lt_some (show jj < as.length by omega)
      have ex : x = .ref c := by
        rw [List.getElem?_map, hq] at hx
        have := (Option.some.inj hx).symm
        rw [this]; dsimp only; rw [Int.toNat_natCast, List.getD_eq_getElem?_getD, hc]; rfl
      subst ex
      have hrow : H5 c = some (.lst [.int u.1.p, .int u.1.q, .int u.1.w, .int u.1.u, .int u.1.a, .int u.1.y, .int u.1.r, .str u.2]) := e5.at (e4.at (hR3.2.2 jj c u hc hu))
      have es : pickT ts (nn.take (i + 1)) = pickT ts (nn.take i) ++ [u] := by
        rw [take_snoc hq]; unfold pickT; rw [List.map_append, List.map_singleton, Int.toNat_natCast, getD_of hu]
      have hv5 := e5.at hv
      have hvl2 : ((uSel (fun t => decide (t.1.p = n)) (pickT ts (nn.take i))).map V.int).length ≤ 1000 := by omega
      walk_at "x"
      · rename_i h1 H6 b6 h6
        refine ⟨⟨_, rfl⟩, b6.same (e4.trans e5) hD, _, h6, by rw [List.length_append]; exact Nat.succ_le_succ hvl', ?_⟩
        dsimp only
        rw [es]; unfold uSel
        rw [List.filter_append, List.filter_cons_of_pos (by exact decide_eq_true h1), List.filter_nil, List.map_append, List.map_append]; rfl
      · rename_i h1
        refine ⟨⟨_, rfl⟩, e4.trans e5, _, hv5, by omega, ?_⟩
        dsimp only
        rw [es]; unfold uSel
        rw [List.filter_append, List.filter_cons_of_neg (by rw [decide_eq_true_eq]; exact h1), List.filter_nil, List.append_nil]
    rintro g1 H4 vs fg1 e4 hg1 _ rfl
    rw [List.length_map, List.take_length] at hg1
    have hso4 := e4.at hso
    have hR4 := hR3.same e4
    walk_at "x"
    refine x_compS1 (src_list (K := K) (a := so) (xs := nn.map fun q => V.ref (as.getD q.toNat 0))) (fun H' e => SqL.of (e.at hso4)) rfl (fun i vs _ => vs = (uSel (fun t => decide (t.1.q = n)) (pickT ts (nn.take i))).map V.int) (fun H' _ => rfl) ?_ ?_
    · rintro i x D vs o H5 H6 hi hD e5 hv hvl' rfl e6 hx
      rw [List.length_map] at hi
      obtain ⟨q, hq⟩ := lt_some hi
      obtain ⟨jj, u, hjl, rfl, hu, _⟩ := (hmm q).mp (List.mem_of_getElem? hq)
      obtain ⟨c, hc⟩ := lt_some (show jj < as.length by omega)
      have ex : x = .ref c := by
        rw [List.getElem?_map, hq] at hx
        have := (Option.some.inj hx).symm
        rw [this]; dsimp only; rw [Int.toNat_natCast, List.getD_eq_getElem?_getD, hc]; rfl
      subst ex
      have hrow : H6 c = some (.lst [.int u.1.p, .int u.1.q, .int u.1.w, .int u.1.u, .int u.1.a, .int u.1.y, .int u.1.r, .str u.2]) := e6.at (e5.at (hR4.2.2 jj c u hc hu))
      have es : pickT ts (nn.take (i + 1)) = pickT ts (nn.take i) ++ [u] := by
        rw [take_snoc hq]; unfold pickT; rw [List.map_append, List.map_singleton, Int.toNat_natCast, getD_of hu]
      have hv5 := e6.at hv
      have hvl2 : ((uSel (fun t => decide (t.1.q = n)) (pickT ts (nn.take i))).map V.int).length ≤ 1000 := by omega
      walk_at "x"
      · rename_i h1 H7 b7 h7
        refine ⟨⟨_, rfl⟩, b7.same (e5.trans e6) hD, _, h7, by rw [List.length_append]; exact Nat.succ_le_succ hvl', ?_⟩
        dsimp only
        rw [es]; unfold uSel
        rw [List.filter_append, List.filter_cons_of_pos (by exact decide_eq_true h1), List.filter_nil, List.map_append, List.map_append]; rfl
      · rename_i h1
        refine ⟨⟨_, rfl⟩, e5.trans e6, _, hv5, by omega, ?_⟩
        dsimp only
        rw [es]; unfold uSel
        rw [List.filter_append, List.filter_cons_of_neg (by rw [decide_eq_true_eq]; exact h1), List.filter_nil, List.append_nil]
    rintro g2 H5 vs fg2 e5 hg2 _ rfl
    rw [List.length_map, List.take_length] at hg2
    have hdu5 := e5.at (e4.at hdu3)
    walk_at "x"
    rename_i H6 b6 h6
    rw [hsum] at h6
    refine ⟨_, _, _, rfl, b6.same (e2.trans (e3.trans (e4.trans e5))) fdu, ?_⟩
    rw [h6, vec_succ, List.map_append]; rfl
  · rintro σ' H2 ⟨f4, f5, f6, rfl, e2, hdu2⟩
    rw [show ((w : Int)).toNat = w from Int.toNat_natCast w] at hdu2
    walk_at "x"
    exact k du H2 fdu e2 hdu2

theorem ok__law_days_right (T : Txt K mg) : FnOk P w K mg base (CXF P w) 3 T.d__law_days_right.a T.d__law_days_right.fd ["_law_book", "_law_rows", "_law_days", "_law_held"] (spDaysRight T.c_Book) := by
  refine T.d__law_days_right.F.okN sc__law_days_right (fun vs H Q E h => ?_) (fun cdv A outer s H vs Q E hr h => ?_)
  · obtain ⟨b, d, ro, hl, dl, m, w, y, ts, as, zs, days, rfl, _⟩ := h; rfl
  obtain ⟨b, d, ro, hl, dl, m, w, y, ts, as, zs, days, rfl, hB, hdl, dn, ndl, zn, k⟩ := h
  refine ⟨_, (pss_cons (ps_for PassesOwn.never rfl (show PI _ _ _ (iList K _) from pi_list (pv 2)) (pg_name (i := 4) sc__law_days_right.nd rfl (Or.inl rfl))
  (pss_cons (ps_set (i := 5) sc__law_days_right.nd rfl (Or.inl rfl) (pe_meth (pv 0) T.cl_Book T.d_Book_numbers_on.mt (ok_Book_numbers_on T) (hr.mono (by decide)) T.d_Book_numbers_on.b .nil (passN nox_F) (pa_cons (pv 4) pa_nil)))
 (pss_cons (ps_set (i := 6) sc__law_days_right.nd rfl (Or.inl rfl) (pe_meth (pv 0) T.cl_Book T.d_Book_sheet_on.mt (ok_Book_sheet_on T) (hr.mono (by decide)) T.d_Book_sheet_on.b .nil (passN nox_F) (pa_cons (pv 4) pa_nil)))
 (pss_cons (ps_set (i := 7) sc__law_days_right.nd rfl (Or.inl rfl) (pe_call (ok__law_day_due T) (hr.mono (by decide)) rfl T.d__law_day_due.m T.d__law_day_due.F.kp T.d__law_day_due.b .nil (passN nox_F) (pa_cons (pv 1) (pa_cons (pv 4) pa_nil))))
 (pss_cons (ps_if (PW.pt (pw_or (pt_not (show PT _ _ (tTru K _) from pt_truthU (pe_callB (show CallR _ _ (rIsiU K) from call_isiU) rfl T.z_isinstance BT.isinstance (pa_cons (pv 5) (pa_cons (pe_bltn (v := .ty "list") rfl T.z_list BT.list rfl) pa_nil))) (fun _ => rfl))) (pw_or (pt_not (show PT _ _ (tTru K _) from pt_truthU (pe_call (ok__law_wholes T) (hr.mono (by decide)) rfl T.d__law_wholes.m T.d__law_wholes.F.kp T.d__law_wholes.b .nil (passN nox_F) (pa_cons (pv 5) (pa_cons (pe_callB (show CallR _ _ (rLen K) from call_lenU) rfl T.z_len BT.len (pa_cons (pe_ix (show IxR _ (rIx K) from ix_seq) (pv 7) pe_int (fun _ _ => rfl)) pa_nil)) pa_nil))) (fun _ => rfl))) (pw_or1 (pt_cmpR (show OpR _ (compareOp .NotEq) (rNeU K) from op_neU hr.units) (pv 5) (pe_ix (show IxR _ (rIx K) from ix_seq) (pv 7) pe_int (fun _ _ => rfl)) (nomark _))))))
  (pss_one (ps_ret pe_bl))
  pss_nil)
 (pss_cons (ps_if (PW.pt (pw_or (pt_not (show PT _ _ (tTru K _) from pt_truthU (pe_call (ok__law_tuples T) (hr.mono (by decide)) rfl T.d__law_tuples.m T.d__law_tuples.F.kp T.d__law_tuples.b .nil (passN nox_F) (pa_cons (pv 6) (pa_cons pe_int pa_nil))) (fun _ => rfl))) (pw_or1 (pt_cmpR (show OpR _ (compareOp .NotEq) (rNeU K) from op_neU hr.units) (pv 6) (pe_ix (show IxR _ (rIx K) from ix_seq) (pv 7) pe_int (fun _ _ => rfl)) (nomark _)))))
  (pss_one (ps_ret pe_bl))
  pss_nil)
 (pss_cons (ps_expr (show PE _ _ (tBM K _ _ _ _) from pe_bm PySem.F.plainAttrs_list PySem.F.slot_list_append PySem.F.type_list_append mt_append (pv 3) (pa_cons (pe_tup (pa_cons (pv 5) (pa_cons (pe_ix (show IxR _ (rIx K) from ix_seq) (pv 7) pe_int (fun _ _ => rfl)) pa_nil))) pa_nil)))
 (pss_one (ps_expr (show PE _ _ (tBM K _ _ _ _) from pe_bm PySem.F.plainAttrs_list PySem.F.slot_list_append PySem.F.type_list_append mt_append (pv 3) (pa_cons (pe_tup (pa_cons (pv 6) (pa_cons (pe_ix (show IxR _ (rIx K) from ix_seq) (pv 7) pe_int (fun _ _ => rfl)) pa_nil))) pa_nil)))))))))))
 (pss_one (ps_ret pe_bl))), ?_⟩
  refine x_start (σ0 := [some (.ref b), some (.ref ro), some (.ref dl), some (.ref hl), none, none, none, none]) rfl ?_
  walk_at "x"
  refine x_forL (xs := days.map V.int) (fun i σ' H' => ∃ (f4 f5 f6 f7 : Option V) (zs' : List ZE), σ' = [some (.ref b), some (.ref ro), some (.ref dl), some (.ref hl), f4, f5, f6, f7] ∧ NBL hl H H' ∧ Added H zs zs' (2 * i) ∧ HB T.c_Book H' b d ro hl m w y ts as zs') ⟨_, _, _, _, zs, rfl, (fun _ _ _ h => h), Added.nil H zs, hB⟩ ?_ ?_ ?_
  · rintro i σ' H' _ ⟨_, _, _, _, _, _, e, _⟩; exact SqL.of (e _ _ ndl.symm hdl)
  · rintro i x σ' H1 hx ⟨f4, f5, f6, f7, zs', rfl, nb1, ad1, hB1⟩
    have hi : i < days.length := by have := (List.getElem?_eq_some_iff.mp hx).1; rwa [List.length_map] at this
    obtain ⟨z, hz⟩ := lt_some hi
    have ex : x = .int z := by rw [List.getElem?_map, hz] at hx; exact (Option.some.inj hx).symm
    subst ex
    obtain ⟨⟨dx, hb⟩, _⟩ := id hB1.br.B
    obtain ⟨hv, hhl, hpt⟩ := hB1.ht.ls
    have hvl : hv.length ≤ 50000 := by rw [hpt.length]; exact hB1.zl
    have tl := hB1.tl
    walk_at "x"
    refine ⟨b, d, m, w, y, z, ts, rfl, hB1.br.B, by omega, fun nu H2 fnu e2 hnu => ?_⟩
    have hb2 := e2.at hb
    walk_at "x"
    refine ⟨b, d, m, w, y, z, ts, rfl, hB1.br.B.same e2, by omega, fun sh H3 us fsh e3 hsh hus => ?_⟩
    walk_at "x"
    refine ⟨ro, z, ts, as, rfl, (e2.trans e3).at hB1.br.ro, hB1.br.R.same (e2.trans e3), by omega, fun du nu2 sh2 us2 H4 fnu2 fsh2 nn2 e4 hdu hnu2 hsh2 hus2 => ?_⟩
    have hnu4 := e4.at (e3.at hnu)
    have hsh4 := e4.at hsh
    have hus4 := hus.same e4
    have e14 : Same H1 H4 := e2.trans (e3.trans e4)
    generalize hnn : numF (onP z) ts ts.length = nn at *
    have hml : ((nn.map V.int).length : Int) = nn.length := by rw [List.length_map]
    have hnl : nn.length ≤ ts.length := by rw [← hnn]; exact numF_len _
    walk_at "x"
    refine ⟨nu, nn, _, rfl, .inl hnu4, by rw [List.length_map], fun H5 e5 => ?_⟩
    have hnu5 := e5.at hnu4
    have hnu25 := e5.at hnu2
    have hdu5 := e5.at hdu
    have hsh5 := e5.at hsh4
    have hus5 := hus4.same e5
    have hsh25 := e5.at hsh2
    have hus25 := hus2.same e5
    walk_at "x"
    refine ⟨sh, us, (sheetT z ts).map dueI, 4, rfl, hsh5, by rw [List.map_map]; exact Fls.ts dueI_eq hus5, fun ns hns => ?_, fun H6 e6 => ?_⟩
    · obtain ⟨d', _, rfl⟩ := List.mem_map.mp hns; rfl
    have hdu6 := e6.at hdu5
    have hsh6 := e6.at hsh5
    have hus6 := hus5.same e6
    have hsh26 := e6.at hsh25
    have hus26 := hus25.same e6
    have hhl6 := e6.at (e5.at (e14.at hhl))
    walk_at "x"
    refine x_tupN (by first | decide | simp) fun p1 H7 fp1 e7 hp1 => ?_
    have hhl7 := e7.at hhl6
    have hdu7 := e7.at hdu6
    walk_at "x"
    rename_i H8 b8 h8
    have hdu8 := b8.tup hdu7
    walk_at "x"
    refine x_tupN (by first | decide | simp) fun p2 H9 fp2 e9 hp2 => ?_
    have hhl9 := e9.at h8
    have hvl2 : (hv ++ [V.ref p1]).length ≤ 50001 := by rw [List.length_append]; exact Nat.succ_le_succ hvl
    walk_at "x"
    rename_i H10 b10 h10
    have hul : us.length ≤ 1000 := by rw [hus.length]; unfold sheetT; rw [List.length_map]; unfold pickT; rw [List.length_map, hnn]; omega
    have hul2 : us2.length ≤ 1000 := by rw [hus2.length]; unfold sheetT; rw [List.length_map]; unfold pickT; rw [List.length_map, hnn]; omega
    have hnl2 : (nn.map V.int).length ≤ 1000 := by rw [List.length_map]; omega
    have adl := ad1.len
    obtain ⟨hB10, nb10⟩ := hB1.add2 (z1 := ⟨nu, nu2, nn.map .inl, nn.map .inl⟩) (z2 := ⟨sh, sh2, (sheetT z ts).map fun d => .inr (dueI d), (sheetT z ts).map fun d => .inr (dueI d)⟩) hhl (e14.trans (e5.trans e6)) ⟨⟨_, e6.at hnu5, Fls.ints _ nn⟩, _, e6.at hnu25, Fls.ints _ nn⟩ ⟨⟨us, hsh6, Fls.ts dueI_eq hus6⟩, us2, hsh26, Fls.ts dueI_eq hus26⟩
      fnu (Same.none fnu2 (e2.trans e3)) (Same.none fsh e2) (Same.none fsh2 (e2.trans e3)) (ne_new' fnu2 (e3.at hnu)).symm (ne_new' fsh hnu).symm (ne_new' fsh2 (e3.at hnu)).symm (ne_new' fnu2 hsh).symm (ne_new' fsh2 hsh).symm rfl rfl e7 hp1 b8 h8 e9 hp2 b10 h10 (by omega)
    refine ⟨_, _, _, _, _, rfl, nb1.trans nb10, ?_, hB10⟩
    have hadd : Added H1 zs' (zs' ++ [⟨nu, nu2, nn.map .inl, nn.map .inl⟩, ⟨sh, sh2, (sheetT z ts).map fun d => .inr (dueI d), (sheetT z ts).map fun d => .inr (dueI d)⟩]) 2 := ⟨_, rfl, Nat.le_refl _, fun y hy => by
      rcases List.mem_cons.mp hy with rfl | hy
      · exact ⟨fnu, Same.none fnu2 (e2.trans e3), by rw [List.length_map]; omega⟩
      · rw [List.mem_singleton.mp hy]; exact ⟨Same.none fsh e2, Same.none fsh2 (e2.trans e3), by rw [List.length_map, ← hus.length]; exact hul⟩⟩
    exact (ad1.then hadd nb1 (some_neq hhl)).mono (by omega)
  · rintro σ' H1 ⟨f4, f5, f6, f7, zs', rfl, nb1, ad1, hB1⟩
    rw [List.length_map] at ad1
    walk_at "x"
    exact k H1 zs' nb1 ad1 hB1

theorem ok__law_members_right (T : Txt K mg) : FnOk P w K mg base (CXF P w) 3 T.d__law_members_right.a T.d__law_members_right.fd ["_law_book", "_law_rows", "_law_members", "_law_wares", "_law_days", "_law_held"] (spMembersRight T.c_Book) := by
  refine T.d__law_members_right.F.okN sc__law_members_right (fun vs H Q E h => ?_) (fun cdv A outer s H vs Q E hr h => ?_)
  · obtain ⟨b, d, ro, hl, ml, m, y, nd, w, ts, as, zs, ks, rfl, _⟩ := h; rfl
  obtain ⟨b, d, ro, hl, ml, m, y, nd, w, ts, as, zs, ks, rfl, hB, hml, kn, nml, zn, knd, kall, w1, ynd, y0, nd1, k⟩ := h
  have hpq : ∀ t ∈ ts, t.1.p ≠ t.1.q := fun t ht => (hB.gt t ht).pq
  have hpk : ∀ t ∈ ts, t.1.p ∈ ks ∧ t.1.q ∈ ks ∧ t.1.p ≠ t.1.q := fun t ht => ⟨kall _ (hB.gt t ht).p0 (hB.gt t ht).p1, kall _ (hB.gt t ht).q0 (hB.gt t ht).q1, (hB.gt t ht).pq⟩
  refine ⟨_, (pss_cons (ps_setC (i := 6) sc__law_members_right.nd rfl rfl rfl (pi_range1 rfl T.z_range (pa_cons (pv 4) pa_nil)) (compScope_of (Ni := ["_law_day"]) (caps := [none]) (by rfl)) (fun S _ _ _ _ _ => (pg_nameC (gi := 0) S (Or.inl rfl) rfl)) (fun _ _ _ _ _ => pf_nil) (fun _ _ _ _ _ => pe_int))
 (pss_cons (ps_for PassesOwn.never rfl (show PI _ _ _ (iList K _) from pi_list (pv 2)) (pg_name (i := 7) sc__law_members_right.nd rfl (Or.inl rfl))
  (pss_cons (ps_set (i := 8) sc__law_members_right.nd rfl (Or.inl rfl) (pe_meth (pv 0) T.cl_Book T.d_Book_entries.mt (ok_Book_entries T) (hr.mono (by decide)) T.d_Book_entries.b .nil (passN nox_F) (pa_cons (pv 7) pa_nil)))
 (pss_cons (ps_set (i := 9) sc__law_members_right.nd rfl (Or.inl rfl) (pe_meth (pv 0) T.cl_Book T.d_Book_position.mt (ok_Book_position T) (hr.mono (by decide)) T.d_Book_position.b .nil (passN nox_F) (pa_cons (pv 7) pa_nil)))
 (pss_cons (ps_set (i := 10) sc__law_members_right.nd rfl (Or.inl rfl) (pe_call (ok__law_entries_due T) (hr.mono (by decide)) rfl T.d__law_entries_due.m T.d__law_entries_due.F.kp T.d__law_entries_due.b .nil (passN nox_F) (pa_cons (pv 1) (pa_cons (pv 7) pa_nil))))
 (pss_cons (ps_if (PW.pt (pw_or (pt_not (show PT _ _ (tTru K _) from pt_truthU (pe_call (ok__law_tuples T) (hr.mono (by decide)) rfl T.d__law_tuples.m T.d__law_tuples.F.kp T.d__law_tuples.b .nil (passN nox_F) (pa_cons (pv 8) (pa_cons pe_int pa_nil))) (fun _ => rfl))) (pw_or1 (pt_cmpR (show OpR _ (compareOp .NotEq) (rNeU K) from op_neU hr.units) (pv 8) (pv 10) (nomark _)))))
  (pss_one (ps_ret pe_bl))
  pss_nil)
 (pss_cons (ps_set (i := 11) sc__law_members_right.nd rfl (Or.inl rfl) (pe_call (ok__law_position_due T) (hr.mono (by decide)) rfl T.d__law_position_due.m T.d__law_position_due.F.kp T.d__law_position_due.b .nil (passN nox_F) (pa_cons (pv 1) (pa_cons (pv 7) (pa_cons (pv 3) pa_nil)))))
 (pss_cons (ps_if (PW.pt (pw_or (pt_not (show PT _ _ (tTru K _) from pt_truthU (pe_callB (show CallR _ _ (rIsiU K) from call_isiU) rfl T.z_isinstance BT.isinstance (pa_cons (pv 9) (pa_cons (pe_bltn (v := .ty "list") rfl T.z_list BT.list rfl) pa_nil))) (fun _ => rfl))) (pw_or (pt_not (show PT _ _ (tTru K _) from pt_truthU (pe_call (ok__law_wholes T) (hr.mono (by decide)) rfl T.d__law_wholes.m T.d__law_wholes.F.kp T.d__law_wholes.b .nil (passN nox_F) (pa_cons (pv 9) (pa_cons (pv 3) pa_nil))) (fun _ => rfl))) (pw_or1 (pt_cmpR (show OpR _ (compareOp .NotEq) (rNeU K) from op_neU hr.units) (pv 9) (pv 11) (nomark _))))))
  (pss_one (ps_ret pe_bl))
  pss_nil)
 (pss_cons (ps_expr (show PE _ _ (tBM K _ _ _ _) from pe_bm PySem.F.plainAttrs_list PySem.F.slot_list_append PySem.F.type_list_append mt_append (pv 5) (pa_cons (pe_tup (pa_cons (pv 8) (pa_cons (pv 10) pa_nil))) pa_nil)))
 (pss_cons (ps_expr (show PE _ _ (tBM K _ _ _ _) from pe_bm PySem.F.plainAttrs_list PySem.F.slot_list_append PySem.F.type_list_append mt_append (pv 5) (pa_cons (pe_tup (pa_cons (pv 9) (pa_cons (pv 11) pa_nil))) pa_nil)))
 (pss_one (ps_for PassesOwn.never rfl (show PI _ _ _ (iList K _) from pi_list (pv 8)) (pg_name (i := 12) sc__law_members_right.nd rfl (Or.inl rfl))
  (pss_one (ps_asg (pe_op (show OpR _ (binaryOp .Add) (rAddU K) from op_addU) (pe_ix (show IxR _ (rIx K) from ix_seq) (pv 6) (pe_ix (show IxR _ (rIx K) from ix_seq) (pv 12) pe_int (fun _ _ => rfl)) (fun _ _ => rfl)) (pe_ix (show IxR _ (rIx K) from ix_seq) (pv 12) pe_int (fun _ _ => rfl))) (pg_sub (pv 6) (pe_ix (show IxR _ (rIx K) from ix_seq) (pv 12) pe_int (fun _ _ => rfl)) set_list))))))))))))))
 (pss_one (ps_ret (pe_cmpR (show OpR _ (compareOp .Eq) (rEqU K) from op_eqU hr.units) (pv 6) (pe_comp rfl (pi_range1 rfl T.z_range (pa_cons (pv 4) pa_nil)) (compScope_of (Ni := ["_law_day"]) (caps := [none]) (by rfl)) (fun S _ _ _ _ _ => (pg_nameC (gi := 0) S (Or.inl rfl) rfl)) (fun _ _ _ _ _ => pf_nil) (fun _ _ _ _ _ => pe_int)) (nomark _)))))), ?_⟩
  refine x_start (σ0 := [some (.ref b), some (.ref ro), some (.ref ml), some (.int (w:Int)), some (.int nd), some (.ref hl), none, none, none, none, none, none, none]) rfl ?_
  walk_at "x"
  rename_i su H0 fsu e0 hsu
  refine x_forL (xs := ks.map V.int) (fun i σ' H' => ∃ (f7 f8 f9 f10 f11 f12 : Option V) (zs' : List ZE), σ' = [some (.ref b), some (.ref ro), some (.ref ml), some (.int (w : Int)), some (.int nd), some (.ref hl), some (.ref su), f7, f8, f9, f10, f11, f12] ∧ NBL hl H H' ∧ Added H zs zs' (2 * i) ∧ HB T.c_Book H' b d ro hl m (w : Int) y ts as zs' ∧ (∀ z ∈ zs', su ≠ z.t ∧ su ≠ z.u) ∧ H' su = some (.lst ((vec nd.toNat fun z => tsum (fun q => dsum (entF ts q ts.length) (z : Int)) (ks.take i)).map V.int))) ⟨_, _, _, _, _, _, zs, rfl, (fun b o _ h => e0.at h), Added.nil H zs, hB.same e0, (fun z hz => ⟨fun e => (hB.memU hz).1 (e ▸ fsu), fun e => (hB.memU hz).2 (e ▸ fsu)⟩), hsu⟩ ?_ ?_ ?_
  · rintro i σ' H' _ ⟨_, _, _, _, _, _, _, _, e, _⟩; exact SqL.of (e _ _ nml.symm hml)
  · rintro i x σ' H1 hx ⟨f7, f8, f9, f10, f11, f12, zs', rfl, nb1, ad1, hB1, hns1, hsu1⟩
    have hi : i < ks.length := by have := (List.getElem?_eq_some_iff.mp hx).1; rwa [List.length_map] at this
    obtain ⟨q, hq⟩ := lt_some hi
    have ex : x = .int q := by rw [List.getElem?_map, hq] at hx; exact (Option.some.inj hx).symm
    subst ex
    obtain ⟨⟨dx, hb⟩, _⟩ := id hB1.br.B
    obtain ⟨hv, hhl, hpt⟩ := hB1.ht.ls
    have hvl : hv.length ≤ 50000 := by rw [hpt.length]; exact hB1.zl
    have tl := hB1.tl
    walk_at "x"
    refine ⟨b, d, m, (w : Int), y, q, ts, rfl, hB1.br.B, tl, fun en H2 us xs fen e2 hen hus hpx hsx => ?_⟩
    have hb2 := e2.at hb
    walk_at "x"
    refine ⟨b, d, m, y, q, w, ts, rfl, hB1.br.B.same e2, (fun t ht => ⟨(hB1.gt t ht).w0, (hB1.gt t ht).w1⟩), w1, fun po H3 fpo e3 hpo => ?_⟩
    walk_at "x"
    refine ⟨ro, q, ts, as, rfl, (e2.trans e3).at hB1.br.ro, hB1.br.R.same (e2.trans e3), tl, hpq, fun en2 H4 us2 xs2 fen2 e4 hen2 hus2 hpx2 hsx2 => ?_⟩
    obtain rfl : xs = xs2 := sort3_eq (entF_apart (by omega)) hpx hpx2 hsx hsx2
    have hen4 := e4.at (e3.at hen)
    have hus4 := (hus.same e3).same e4
    walk_at "x"
    refine ⟨en, us, xs.map e3I, 3, rfl, hen4, by rw [List.map_map]; exact Fls.ts e3I_eq hus4, fun ns hns => ?_, fun H5 e5 => ?_⟩
    · obtain ⟨d', _, rfl⟩ := List.mem_map.mp hns; rfl
    have hen5 := e5.at hen4
    have hus5 := hus4.same e5
    have hen25 := e5.at hen2
    have hus25 := hus2.same e5
    walk_at "x"
    refine x_neFls hen5 hen25 (Fls.ts e3I_eq hus5) (Fls.ts e3I_eq hus25) ?_
    walk_at "x"
    have e15 : Same H1 H5 := e2.trans (e3.trans (e4.trans e5))
    refine ⟨ro, q, w, ts, as, rfl, e15.at hB1.br.ro, hB1.br.R.same e15, by omega, w1, hpq, fun po2 H6 fpo2 e6 hpo2 => ?_⟩
    have hpo6 := e6.at (e5.at (e4.at hpo))
    walk_at "x"
    refine ⟨po, vec w (posF ts q), _, rfl, .inl hpo6, by rw [vec_len], fun H7 e7 => ?_⟩
    have hpo7 := e7.at hpo6
    have hpo27 := e7.at hpo2
    have hhl7 := e7.at (e6.at (e15.at hhl))
    walk_at "x"
    refine x_tupN (by first | decide | simp) fun p1 H8 fp1 e8 hp1 => ?_
    have hhl8 := e8.at hhl7
    walk_at "x"
    rename_i H9 b9 h9
    walk_at "x"
    refine x_tupN (by first | decide | simp) fun p2 H10 fp2 e10 hp2 => ?_
    have hhl10 := e10.at h9
    have hvl2 : (hv ++ [V.ref p1]).length ≤ 50001 := by rw [List.length_append]; exact Nat.succ_le_succ hvl
    walk_at "x"
    rename_i H11 b11 h11
    have e17 : Same H1 H7 := e15.trans (e6.trans e7)
    have hul : us.length ≤ 1000 := by rw [hus.length, hpx.length_eq]; have := entF_len (ts := ts) (m := q) ts.length; omega
    have hul2 : us2.length ≤ 1000 := by rw [hus2.length, hpx.length_eq]; have := entF_len (ts := ts) (m := q) ts.length; omega
    have hpl : ((vec w (posF ts q)).map V.int).length ≤ 1000 := by rw [List.length_map, vec_len]; exact w1
    have adl := ad1.len
    have fen2' : H1 en2 = none := Same.none fen2 (e2.trans e3)
    have fpo' : H1 po = none := Same.none fpo e2
    have fpo2' : H1 po2 = none := Same.none fpo2 e15
    obtain ⟨hB11, nb11⟩ := hB1.add2 (z1 := ⟨en, en2, xs.map fun d => .inr (e3I d), xs.map fun d => .inr (e3I d)⟩) (z2 := ⟨po, po2, (vec w (posF ts q)).map .inl, (vec w (posF ts q)).map .inl⟩) hhl e17 ⟨⟨us, (e6.trans e7).at hen5, Fls.ts e3I_eq (hus5.same (e6.trans e7))⟩, us2, (e6.trans e7).at hen25, Fls.ts e3I_eq (hus25.same (e6.trans e7))⟩ ⟨⟨_, hpo7, Fls.ints _ _⟩, _, hpo27, Fls.ints _ _⟩
      fen fen2' fpo' fpo2' (ne_new' fen2 (e3.at hen)).symm (ne_new' fpo hen).symm (ne_new' fpo2 hen5).symm (ne_new' fen2 hpo).symm (ne_new' fpo2 (e5.at (e4.at hpo))).symm rfl rfl e8 hp1 b9 h9 e10 hp2 b11 h11 (by omega)
    have hadd : Added H1 zs' (zs' ++ [⟨en, en2, xs.map fun d => .inr (e3I d), xs.map fun d => .inr (e3I d)⟩, ⟨po, po2, (vec w (posF ts q)).map .inl, (vec w (posF ts q)).map .inl⟩]) 2 := ⟨_, rfl, Nat.le_refl _, fun y hy => by
      rcases List.mem_cons.mp hy with rfl | hy
      · exact ⟨fen, fen2', by rw [List.length_map, ← hus.length]; exact hul⟩
      · rw [List.mem_singleton.mp hy]; exact ⟨fpo', fpo2', by rw [List.length_map, vec_len]; exact w1⟩⟩
    have ad11 := (ad1.then hadd nb1 (some_neq hhl)).mono (show 2 * i + 2 ≤ 2 * (i + 1) by omega)
    have nsh : su ≠ hl := fun e => by rw [e] at fsu; obtain ⟨v0, h0, _⟩ := hB.ht.ls; rw [h0] at fsu; cases fsu
    have hsu11 := nb11 _ _ nsh hsu1
    have hns11 : ∀ z ∈ zs' ++ [⟨en, en2, xs.map fun d => .inr (e3I d), xs.map fun d => .inr (e3I d)⟩, ⟨po, po2, (vec w (posF ts q)).map .inl, (vec w (posF ts q)).map .inl⟩], su ≠ z.t ∧ su ≠ z.u := fun z hz => by
      rcases List.mem_append.mp hz with hz | hz
      · exact hns1 z hz
      · rcases List.mem_cons.mp hz with rfl | hz
        · exact ⟨(fun e => by rw [← show su = en from e, hsu1] at fen; cases fen), (fun e => by rw [← show su = en2 from e, hsu1] at fen2'; cases fen2')⟩
        · rw [List.mem_singleton.mp hz]
          exact ⟨(fun e => by rw [← show su = po from e, hsu1] at fpo'; cases fpo'), (fun e => by rw [← show su = po2 from e, hsu1] at fpo2'; cases fpo2')⟩
    have hday : ∀ x ∈ xs, 0 ≤ x.1 ∧ x.1 < nd := fun x hx => by
      obtain ⟨j, t, _, ht, hxd⟩ := entF_mem (hpx.mem_iff.mp hx)
      have g := hB1.gt t (List.mem_of_getElem? ht)
      have g1 := g.y0
      have g2 := g.y1
      rw [entD_day hxd]; omega
    have nenh : en ≠ hl := fun e => by rw [e, hhl] at fen; cases fen
    have hen11 : H11 en = some (.lst us) := b11.lst (e10.at (b9.lst (e8.at ((e6.trans e7).at hen5)) nenh)) nenh
    have hus11 : IsTs e3V H11 us xs := LBut.isTs b11 ((LBut.isTs b9 ((hus5.same (e6.trans e7)).same e8)).same e10)
    have nbH11 : NBL hl H H11 := nb1.trans nb11
    obtain ⟨xd, hxd, _⟩ := hB.br.B.ds
    have nsd : su ≠ d := fun e => by rw [e, hxd] at fsu; cases fsu
    have nsr : su ≠ ro := fun e => by rw [e, hB.br.ro] at fsu; cases fsu
    have nsa : su ∉ as := hB.br.R.fresh fsu
    have nen : su ≠ en := (hns11 _ (List.mem_append_right _ List.mem_cons_self)).1
    generalize hbase : (fun z : Nat => tsum (fun q => dsum (entF ts q ts.length) (z : Int)) (ks.take i)) = base' at *
    walk_at "x"
    refine x_forL (xs := us) (fun j σ' H' => ∃ f12 : Option V, σ' = [some (.ref b), some (.ref ro), some (.ref ml), some (.int (w : Int)), some (.int nd), some (.ref hl), some (.ref su), some (.int q), some (.ref en), some (.ref po), some (.ref en2), some (.ref po2), f12] ∧ NBL hl H H' ∧ HB T.c_Book H' b d ro hl m (w : Int) y ts as (zs' ++ [⟨en, en2, xs.map fun d => .inr (e3I d), xs.map fun d => .inr (e3I d)⟩, ⟨po, po2, (vec w (posF ts q)).map .inl, (vec w (posF ts q)).map .inl⟩]) ∧ H' en = some (.lst us) ∧ IsTs e3V H' us xs ∧ H' su = some (.lst ((vec nd.toNat fun z => base' z + dsum (xs.take j) (z : Int)).map V.int))) ⟨_, rfl, nbH11, hB11, hen11, hus11, by
      rw [hsu11]; congr 3; exact vec_congr fun z _ => by rw [List.take_zero]; show _ = _ + 0; omega⟩ ?_ ?_ ?_
    · rintro j σ' H' _ ⟨_, _, _, _, h, _⟩; exact SqL.of h
    · rintro j x σ' H12 hx ⟨f12', rfl, nb12, hB12, hen12, hus12, hsu12⟩
      obtain ⟨c, e, rfl, he, hc⟩ := hus12.get hx
      have hc' : H12 c = some (.tup [.int e.1, .int e.2.1, .int e.2.2]) := hc
      obtain ⟨d0, d1⟩ := hday e (List.mem_of_getElem? he)
      have hnd : ((nd.toNat : Nat) : Int) = nd := by omega
      walk_at "x"
      rename_i H13 b13 h13
      refine ⟨_, rfl, (fun c' o n h => by
        have hs : c' ≠ su := fun e => by rw [e, fsu] at h; cases h
        rw [b13.1 c' hs]; exact nb12 c' o n h), hB12.butL b13 nsd nsr nsa nsh hns11, b13.lst hen12 nen.symm, LBut.isTs b13 hus12, ?_⟩
      rw [h13]; congr 3
      refine vec_congr fun z hz => ?_
      rw [dsum_take he]
      by_cases hze : e.1 = (z : Int)
      · have hzn : e.1.toNat = z := by omega
        rw [hzn, if_pos rfl, if_pos hze]; omega
      · rw [if_neg (show ¬ z = e.1.toNat by omega), if_neg hze]; omega
    · rintro σ' H12 ⟨f12', rfl, nb12, hB12, hen12, hus12, hsu12⟩
      rw [hus.length, List.take_length] at hsu12
      refine ⟨_, _, _, _, _, _, _, rfl, nb12, ad11, hB12, hns11, ?_⟩
      rw [hsu12]; congr 3
      refine vec_congr fun z _ => ?_
      rw [take_snoc hq, tsum_app, ← hbase, dsum_perm hpx]
  · rintro σ' H1 ⟨f7, f8, f9, f10, f11, f12, zs', rfl, nb1, ad1, hB1, hns1, hsu1⟩
    rw [List.length_map] at ad1
    rw [List.length_map, List.take_length] at hsu1
    have hz : (vec nd.toNat fun z => tsum (fun q => dsum (entF ts q ts.length) (z : Int)) ks) = vec nd.toNat fun _ => 0 := vec_zero_eq fun z _ => even knd hpk z ts.length
    rw [hz] at hsu1
    walk_at "x"
    rename_i ze H2 fze e2 hze
    exact k H2 zs' (fun c o n h => e2.at (nb1 c o n h)) ad1 (hB1.same e2)

theorem ok__law_asked (T : Txt K mg) : FnOk P w K mg base (CXF P w) 4 T.d__law_asked.a T.d__law_asked.fd ["_law_script", "_law_at", "_law_book", "_law_rows", "_law_wares", "_law_many", "_law_today", "_law_held"] (spAskedA K T.c_Book) := by
  refine T.d__law_asked.F.okN sc__law_asked (fun vs H Q E h => ?_) (fun cdv A outer s H vs Q E hr h => ?_)
  · obtain ⟨a, b, d, ro, hl, ns, k, m, y, w, ts, as, zs, rfl, _⟩ := h; rfl
  obtain ⟨a, b, d, ro, hl, ns, kk, m, y, w, ts, as, zs, rfl, hS, k0, k1, hB, m0, m1, w1, y0, y1, zn, k⟩ := h
  obtain ⟨hv, hhl, _⟩ := hB.ht.ls
  refine ⟨_, (pss_cons (ps_set (i := 8) sc__law_asked.nd rfl (Or.inl rfl) (pe_callTy (show CallR _ _ rListRng from call_list_rng rfl) rfl T.z_list BT.list (pa_cons (pe_callTy (show CallR _ _ rRange from call_rangeV) rfl T.z_range BT.range (pa_cons (pe_op (show OpR _ (binaryOp .Add) (rAddU K) from op_addU) (pv 6) pe_int) pa_nil)) pa_nil)))
 (pss_cons (ps_set (i := 9) sc__law_asked.nd rfl (Or.inl rfl) (pe_callTy (show CallR _ _ rListRng from call_list_rng rfl) rfl T.z_list BT.list (pa_cons (pe_callTy (show CallR _ _ rRange from call_rangeV) rfl T.z_range BT.range (pa_cons (pv 5) pa_nil)) pa_nil)))
 (pss_cons (ps_if (pt_cmpR (show OpR _ (compareOp .Eq) (rEqU K) from op_eqU hr.units) (pe_call (ok__law_draw T) (hr.mono (by decide)) rfl T.d__law_draw.m T.d__law_draw.F.kp T.d__law_draw.b .nil (passN nox_F) (pa_cons (pv 0) (pa_cons (pv 1) (pa_cons pe_int pa_nil)))) pe_int (nomark _))
  (pss_cons (ps_if (pt_not (show PT _ _ (tTru K _) from pt_truthU (pe_call (ok__law_days_right T) (hr.mono (by decide)) rfl T.d__law_days_right.m T.d__law_days_right.F.kp T.d__law_days_right.b .nil (passN nox_F) (pa_cons (pv 2) (pa_cons (pv 3) (pa_cons (pv 8) (pa_cons (pv 7) pa_nil))))) (fun _ => rfl)))
  (pss_one (ps_ret pe_bl))
  pss_nil)
 (pss_one (ps_ret (pe_call (ok__law_members_right T) (hr.mono (by decide)) rfl T.d__law_members_right.m T.d__law_members_right.F.kp T.d__law_members_right.b .nil (passN nox_F) (pa_cons (pv 2) (pa_cons (pv 3) (pa_cons (pv 9) (pa_cons (pv 4) (pa_cons (pe_callB (show CallR _ _ (rLen K) from call_lenU) rfl T.z_len BT.len (pa_cons (pv 8) pa_nil)) (pa_cons (pv 7) pa_nil))))))))))
  pss_nil)
 (pss_cons (ps_set (i := 9) sc__law_asked.nd rfl (Or.inl rfl) (show PE _ _ (tCB (rSortedR K) _) from pe_sortedR (by rfl) T.z_sorted BT.sorted (pa_cons (pv 9) pa_nil)))
 (pss_cons (ps_set (i := 8) sc__law_asked.nd rfl (Or.inl rfl) (show PE _ _ (tCB (rSortedR K) _) from pe_sortedR (by rfl) T.z_sorted BT.sorted (pa_cons (pv 8) pa_nil)))
 (pss_cons (ps_if (pt_not (show PT _ _ (tTru K _) from pt_truthU (pe_call (ok__law_members_right T) (hr.mono (by decide)) rfl T.d__law_members_right.m T.d__law_members_right.F.kp T.d__law_members_right.b .nil (passN nox_F) (pa_cons (pv 2) (pa_cons (pv 3) (pa_cons (pv 9) (pa_cons (pv 4) (pa_cons (pe_callB (show CallR _ _ (rLen K) from call_lenU) rfl T.z_len BT.len (pa_cons (pv 8) pa_nil)) (pa_cons (pv 7) pa_nil))))))) (fun _ => rfl)))
  (pss_one (ps_ret pe_bl))
  pss_nil)
 (pss_one (ps_ret (pe_call (ok__law_days_right T) (hr.mono (by decide)) rfl T.d__law_days_right.m T.d__law_days_right.F.kp T.d__law_days_right.b .nil (passN nox_F) (pa_cons (pv 2) (pa_cons (pv 3) (pa_cons (pv 8) (pa_cons (pv 7) pa_nil))))))))))))), ?_⟩
  refine x_start (σ0 := [some (.ref a), some (.int kk), some (.ref b), some (.ref ro), some (.int (w:Int)), some (.int m), some (.int y), some (.ref hl), none, none]) rfl ?_
  walk_at "x"
  · rename_i r1 H1 fr1 e1 hr1 dl H2 fdl e2 hdl r2 H3 fr2 e3 hr2 ml H4 fml e4 hml x x0 x1 hx
    have e04 : Same H H4 := e1.trans (e2.trans (e3.trans e4))
    have ndl : hl ≠ dl := (ne_new' fdl (e1.at hhl)).symm
    have nml : hl ≠ ml := (ne_new' fml ((e1.trans (e2.trans e3)).at hhl)).symm
    have hdl4 := (e3.trans e4).at hdl
    refine ⟨b, d, ro, hl, dl, m, (w : Int), y, ts, as, zs, _, rfl, hB.same e04, hdl4, by rw [vec_len]; omega, ndl, by rw [vec_len]; omega, fun H5 zs5 nb5 ad5 hB5 => ?_⟩
    have hml5 := nb5 _ _ nml.symm hml
    have hdl5 := nb5 _ _ ndl.symm hdl4
    have l5 := ad5.len
    rw [vec_len] at l5
    walk_at "x"
    refine ⟨b, d, ro, hl, ml, m, y, _, w, ts, as, zs5, _, rfl, hB5, hml5, by rw [vec_len]; omega, nml, by rw [vec_len]; omega, vec_nodup _, (fun q q0 q1 => vec_mem q0 (by omega)), w1, by rw [List.length_map, vec_len]; omega, y0, by rw [List.length_map, vec_len]; omega, fun H6 zs6 nb6 ad6 hB6 => ?_⟩
    have hlN : H5 hl ≠ none := by obtain ⟨v5, h5, _⟩ := hB5.ht.ls; exact some_neq h5
    have ad : Added H4 zs zs6 200 := (ad5.then ad6 nb5 hlN).mono (by rw [vec_len, vec_len]; omega)
    obtain ⟨nw, a1, a2, a3⟩ := ad
    exact k H6 zs6 (fun c o n h => nb6 c o n (nb5 c o n (e04.at h))) ⟨nw, a1, a2, fun z hz => ⟨Same.none (a3 z hz).1 e04, Same.none (a3 z hz).2.1 e04, (a3 z hz).2.2⟩⟩ hB6
  · rename_i r1 H1 fr1 e1 hr1 dl H2 fdl e2 hdl r2 H3 fr2 e3 hr2 ml H4 fml e4 hml x x0 x1 hx
    have hdl4 := (e3.trans e4).at hdl
    refine x_sortR (SqL.of hml) (by rw [vec_len]; omega) fun ml2 ms H5 fml2 e5 hpm _ hml2 => ?_
    have hdl5 := e5.at hdl4
    walk_at "x"
    refine x_sortR (SqL.of hdl5) (by rw [vec_len]; omega) fun dl2 ds H6 fdl2 e6 hpd _ hdl2 => ?_
    have e06 : Same H H6 := e1.trans (e2.trans (e3.trans (e4.trans (e5.trans e6))))
    have e04 : Same H H4 := e1.trans (e2.trans (e3.trans e4))
    have ndl : hl ≠ dl2 := (ne_new' fdl2 ((e04.trans e5).at hhl)).symm
    have nml : hl ≠ ml2 := (ne_new' fml2 (e04.at hhl)).symm
    have hml6 := e6.at hml2
    have hml' : ms.length = m.toNat := by rw [hpm.length_eq, vec_len]
    have hdl' : ds.length = (y + 6).toNat := by rw [hpd.length_eq, vec_len]
    walk_at "x"
    refine ⟨b, d, ro, hl, ml2, m, y, _, w, ts, as, zs, ms, rfl, hB.same e06, hml6, by omega, nml, by omega, hpm.nodup_iff.mpr (vec_nodup _), (fun q q0 q1 => hpm.mem_iff.mpr (vec_mem q0 (by omega))), w1, by rw [List.length_map]; omega, y0, by rw [List.length_map]; omega, fun H7 zs7 nb7 ad7 hB7 => ?_⟩
    have hdl7 := nb7 _ _ ndl.symm hdl2
    have l7 := ad7.len
    walk_at "x"
    refine ⟨b, d, ro, hl, dl2, m, (w : Int), y, ts, as, zs7, ds, rfl, hB7, hdl7, by omega, ndl, by omega, fun H8 zs8 nb8 ad8 hB8 => ?_⟩
    have hlN : H7 hl ≠ none := by obtain ⟨v5, h5, _⟩ := hB7.ht.ls; exact some_neq h5
    have ad : Added H6 zs zs8 200 := (ad7.then ad8 nb7 hlN).mono (by omega)
    obtain ⟨nw, a1, a2, a3⟩ := ad
    exact k H8 zs8 (fun c o n h => nb8 c o n (nb7 c o n (e06.at h))) ⟨nw, a1, a2, fun z hz => ⟨Same.none (a3 z hz).1 e06, Same.none (a3 z hz).2.1 e06, (a3 z hz).2.2⟩⟩ hB8

theorem ok__law_struck (T : Txt K mg) : FnOk P w K mg base (CXF P w) 3 T.d__law_struck.a T.d__law_struck.fd ["_law_script", "_law_at", "_law_book", "_law_rows", "_law_many", "_law_wares", "_law_today"] (spStruckA K T.c_Book) := by
  refine T.d__law_struck.F.okN sc__law_struck (fun vs H Q E h => ?_) (fun cdv A outer s H vs Q E hr h => ?_)
  · obtain ⟨a, b, d, ro, ns, k, m, w, y, ts, as, rfl, _⟩ := h; rfl
  obtain ⟨a, b, d, ro, ns, kk, m, w, y, ts, as, rfl, hS, k0, k1, hB, ndr, hl, m0, m1, w0, w1, y0, y1, k⟩ := h
  obtain ⟨⟨dx, hb⟩, xs, hd, hI⟩ := id hB.B
  have hxl := hI.length
  refine ⟨_, (pss_cons (ps_set (i := 7) sc__law_struck.nd rfl (Or.inl rfl) (pe_call (ok__law_draw T) (hr.mono (by decide)) rfl T.d__law_draw.m T.d__law_draw.F.kp T.d__law_draw.b .nil (passN nox_F) (pa_cons (pv 0) (pa_cons (pv 1) (pa_cons (pv 4) pa_nil)))))
 (pss_cons (ps_set (i := 8) sc__law_struck.nd rfl (Or.inl rfl) (pe_op op_modU (pe_op (show OpR _ (binaryOp .Add) (rAddU K) from op_addU) (pe_op (show OpR _ (binaryOp .Add) (rAddU K) from op_addU) (pv 7) pe_int) (pe_call (ok__law_draw T) (hr.mono (by decide)) rfl T.d__law_draw.m T.d__law_draw.F.kp T.d__law_draw.b .nil (passN nox_F) (pa_cons (pv 0) (pa_cons (pe_op (show OpR _ (binaryOp .Add) (rAddU K) from op_addU) (pv 1) pe_int) (pa_cons (pe_op op_sub (pv 4) pe_int) pa_nil))))) (pv 4)))
 (pss_cons (ps_set (i := 9) sc__law_struck.nd rfl (Or.inl rfl) (pe_op (show OpR _ (binaryOp .Add) (rAddU K) from op_addU) pe_int (pe_call (ok__law_great T) (hr.mono (by decide)) rfl T.d__law_great.m T.d__law_great.F.kp T.d__law_great.b .nil (passN nox_F) (pa_cons (pv 0) (pa_cons (pe_op (show OpR _ (binaryOp .Add) (rAddU K) from op_addU) (pv 1) pe_int) (pa_cons (pe_op op_pow pe_int pe_int) pa_nil))))))
 (pss_cons (ps_set (i := 10) sc__law_struck.nd rfl (Or.inl rfl) (pe_op (show OpR _ (binaryOp .Add) (rAddU K) from op_addU) pe_int (pe_call (ok__law_great T) (hr.mono (by decide)) rfl T.d__law_great.m T.d__law_great.F.kp T.d__law_great.b .nil (passN nox_F) (pa_cons (pv 0) (pa_cons (pe_op (show OpR _ (binaryOp .Add) (rAddU K) from op_addU) (pv 1) pe_int) (pa_cons (pe_op op_pow pe_int pe_int) pa_nil))))))
 (pss_cons (ps_set (i := 11) sc__law_struck.nd rfl (Or.inl rfl) (pe_lst (pa_cons (pv 7) (pa_cons (pv 8) (pa_cons (pe_call (ok__law_draw T) (hr.mono (by decide)) rfl T.d__law_draw.m T.d__law_draw.F.kp T.d__law_draw.b .nil (passN nox_F) (pa_cons (pv 0) (pa_cons (pe_op (show OpR _ (binaryOp .Add) (rAddU K) from op_addU) (pv 1) pe_int) (pa_cons (pv 5) pa_nil)))) (pa_cons (pv 9) (pa_cons (pv 10) pa_nil)))))))
 (pss_cons (ps_set (i := 11) sc__law_struck.nd rfl (Or.inl rfl) (pe_op (show OpR _ (binaryOp .Add) (rAddU K) from op_addU) (pv 11) (pe_lst (pa_cons (pe_op (show OpR _ (binaryOp .Add) (rAddU K) from op_addU) (pv 6) (pe_call (ok__law_draw T) (hr.mono (by decide)) rfl T.d__law_draw.m T.d__law_draw.F.kp T.d__law_draw.b .nil (passN nox_F) (pa_cons (pv 0) (pa_cons (pe_op (show OpR _ (binaryOp .Add) (rAddU K) from op_addU) (pv 1) pe_int) (pa_cons pe_int pa_nil))))) (pa_cons (pe_call (ok__law_draw T) (hr.mono (by decide)) rfl T.d__law_draw.m T.d__law_draw.F.kp T.d__law_draw.b .nil (passN nox_F) (pa_cons (pv 0) (pa_cons (pe_op (show OpR _ (binaryOp .Add) (rAddU K) from op_addU) (pv 1) pe_int) (pa_cons pe_int pa_nil)))) (pa_cons pe_str pa_nil))))))
 (pss_cons (ps_expr (pe_meth (pv 2) T.cl_Book T.d_Book_strike.mt (ok_Book_strike T) (hr.mono (by decide)) T.d_Book_strike.b .nil (passN nox_F) (pa_cons (pe_ix (show IxR _ (rIx K) from ix_seq) (pv 11) pe_int (fun _ _ => rfl)) (pa_cons (pe_ix (show IxR _ (rIx K) from ix_seq) (pv 11) pe_int (fun _ _ => rfl)) (pa_cons (pe_ix (show IxR _ (rIx K) from ix_seq) (pv 11) pe_int (fun _ _ => rfl)) (pa_cons (pe_ix (show IxR _ (rIx K) from ix_seq) (pv 11) pe_int (fun _ _ => rfl)) (pa_cons (pe_ix (show IxR _ (rIx K) from ix_seq) (pv 11) pe_int (fun _ _ => rfl)) (pa_cons (pe_ix (show IxR _ (rIx K) from ix_seq) (pv 11) pe_int (fun _ _ => rfl)) (pa_cons (pe_ix (show IxR _ (rIx K) from ix_seq) (pv 11) pe_int (fun _ _ => rfl)) pa_nil)))))))))
 (pss_one (ps_expr (show PE _ _ (tBM K _ _ _ _) from pe_bm PySem.F.plainAttrs_list PySem.F.slot_list_append PySem.F.type_list_append mt_append (pv 3) (pa_cons (pv 11) pa_nil))))))))))), ?_⟩
  refine x_start (σ0 := [some (.ref a), some (.int kk), some (.ref b), some (.ref ro), some (.int m), some (.int w), some (.int y), none, none, none, none, none]) rfl ?_
  walk_at "x"
  rename_i p p0 p1 q q0 q1 u u0 u1 v v0 v1 wr wr0 wr1 l1 H1 fl1 e1 hl1 dd dd0 dd1 rk rk0 rk1 l2 H2 fl2 e2 hl2
  obtain ⟨py0, py1, pyn⟩ := payeeB p0 p1 q0 q1
  generalize (p + 1 + q) % m = pe at *
  refine x_catN (e2.at hl1) hl2 (by show 5 + 3 ≤ 100000; decide) fun rw' H5 frw e5 hrw => ?_
  have hrw' : H5 rw' = some (.lst [.int p, .int pe, .int wr, .int (1 + u), .int (1 + v), .int (y + dd), .int rk, .str "standing"]) := hrw
  have hT : TermOk m w y ⟨p, pe, wr, 1 + u, 1 + v, y + dd, rk⟩ := ⟨p0, p1, py0, py1, pyn, wr0, wr1, by show 1 ≤ 1 + u; omega, by show 1 + u ≤ 1000000; omega, by show 1 ≤ 1 + v; omega, by show 1 + v ≤ 1000000000; omega, by show 0 ≤ y + dd; omega, by show y + dd ≤ 1000000; omega, rk0, by show rk ≤ 2; omega, by show y ≤ y + dd; omega⟩
  have hGT : GT m w y ⟨p, pe, wr, 1 + u, 1 + v, y + dd, rk⟩ := ⟨p0, p1, py0, py1, pyn, wr0, wr1, by show 1 ≤ 1 + u; omega, by show 1 + u ≤ 1000000; omega, by show 1 ≤ 1 + v; omega, by show 1 + v ≤ 1000000000; omega, by show 0 ≤ y + dd; omega, by show y + dd ≤ y + 4; omega, rk0, by show rk ≤ 2; omega⟩
  have hro := hB.ro
  have hR := hB.R
  have e02 : Same H H2 := e1.trans e2
  have e05 : Same H H5 := e02.trans e5
  have hb5 := e05.at hb
  have hd5 := e05.at hd
  have hro5 := e05.at hro
  have hB5 := hB.B.same e05
  have hR5 := hR.same e05
  have nrd : rw' ≠ d := ne_new' frw (e02.at hd)
  have nrr : rw' ≠ ro := ne_new' frw (e02.at hro)
  have nrw : rw' ∉ as := (hR.same e02).fresh frw
  have frH : H rw' = none := Same.none frw e02
  have nda : d ∉ as := hR.neRef hd hI.refs
  have nra : ro ∉ as := hR.neRef hro (map_refs as)
  have hal := hR.2.1
  have haml : (as.map V.ref).length = as.length := List.length_map ..
  walk_at "x"
  refine ⟨b, dx, d, m, w, y, ⟨p, pe, wr, 1 + u, 1 + v, y + dd, rk⟩, xs, rfl, hb5, hd5, by omega, .inl ⟨dueK_of hT, fun a1 H6 H7 e6 ha1 g7 h7 => ?_⟩⟩
  have hB7 := hB5.app hd5 e6 ha1 g7 h7
  have hro7 : H7 ro = some (.lst (as.map V.ref)) := g7.lst (e6.at hro5) ndr.symm
  have hrw7 := g7.lst (e6.at hrw') nrd
  have hR7 : DRows H7 as ts := hR5.keep fun c o hc h => g7.1.at (e6.at h) fun z => nda (z ▸ hc)
  walk_at "x"
  rename_i H8 b8 h8
  refine k H8 ⟨p, pe, wr, 1 + u, 1 + v, y + dd, rk⟩ rw' frH (fun c o n1 n2 h => b8.1.at (g7.1.at (e6.at (e05.at h)) n1) n2) hGT ⟨hB7.but b8 ndr, by rw [List.map_append]; exact h8, ?_, st3_app hB.s, good_app hB.g ⟨⟨hT.w0, hT.w1⟩, ⟨hT.u0, hT.u1⟩, hT.r0, hT.r1⟩⟩
  exact DRows.app (hR7.keep fun c o hc h => b8.1.at h fun z => nra (z ▸ hc)) nrw (b8.lst hrw7 nrr)
theorem ok__law_turned (T : Txt K mg) : FnOk P w K mg base (CXF P w) 4 T.d__law_turned.a T.d__law_turned.fd ["_law_script", "_law_at", "_law_book", "_law_rows", "_law_today"] (spTurnedA K T.c_Book) := by
  refine T.d__law_turned.F.okN sc__law_turned (fun vs H Q E h => ?_) (fun cdv A outer s H vs Q E hr h => ?_)
  · obtain ⟨H0, a, b, d, ro, ns, k, m, w, y, ts, as, rfl, _⟩ := h; rfl
  obtain ⟨H0, a, b, d, ro, ns, kk, m, w, y, ts, as, rfl, hS0, e00, fas, k0, k1, hB, hG, ndr, l0, l1, y0, y1, k⟩ := h
  obtain ⟨⟨dx, hb⟩, xs, hd, hI⟩ := id hB.B
  have hS := e00.seq hS0
  have hal := hB.R.2.1
  have hro := hB.ro
  have haml : (as.map V.ref).length = ts.length := by rw [List.length_map]; exact hal
  refine ⟨_, (pss_cons (ps_set (i := 5) sc__law_turned.nd rfl (Or.inl rfl) (pe_call (ok__law_draw T) (hr.mono (by decide)) rfl T.d__law_draw.m T.d__law_draw.F.kp T.d__law_draw.b .nil (passN nox_F) (pa_cons (pv 0) (pa_cons (pe_op (show OpR _ (binaryOp .Add) (rAddU K) from op_addU) (pv 1) pe_int) (pa_cons (pe_callB (show CallR _ _ (rLen K) from call_lenU) rfl T.z_len BT.len (pa_cons (pv 3) pa_nil)) pa_nil)))))
 (pss_cons (ps_if (pt_cmpR (show OpR _ (compareOp .NotEq) (rNeU K) from op_neU hr.units) (pe_ix (show IxR _ (rIx K) from ix_seq) (pe_ix (show IxR _ (rIx K) from ix_seq) (pv 3) (pv 5) (fun _ _ => rfl)) pe_int (fun _ _ => rfl)) pe_str (nomark _))
  (pss_one ps_retN)
  pss_nil)
 (pss_cons (ps_if (pt_cmpR (show OpR _ (compareOp .Eq) (rEqU K) from op_eqU hr.units) (pe_call (ok__law_draw T) (hr.mono (by decide)) rfl T.d__law_draw.m T.d__law_draw.F.kp T.d__law_draw.b .nil (passN nox_F) (pa_cons (pv 0) (pa_cons (pe_op (show OpR _ (binaryOp .Add) (rAddU K) from op_addU) (pv 1) pe_int) (pa_cons pe_int pa_nil)))) pe_int (nomark _))
  (pss_cons (ps_expr (pe_meth (pv 2) T.cl_Book T.d_Book_break_off.mt (ok_Book_break_off T) (hr.mono (by decide)) T.d_Book_break_off.b .nil (passN nox_F) (pa_cons (pv 5) pa_nil)))
 (pss_cons (ps_asg pe_str (pg_sub (pe_ix (show IxR _ (rIx K) from ix_seq) (pv 3) (pv 5) (fun _ _ => rfl)) pe_int set_list))
 (pss_one ps_retN)))
  pss_nil)
 (pss_cons (ps_asg (pe_op (show OpR _ (binaryOp .Add) (rAddU K) from op_addU) pe_int (pe_call (ok__law_great T) (hr.mono (by decide)) rfl T.d__law_great.m T.d__law_great.F.kp T.d__law_great.b .nil (passN nox_F) (pa_cons (pv 0) (pa_cons (pe_op (show OpR _ (binaryOp .Add) (rAddU K) from op_addU) (pv 1) pe_int) (pa_cons (pe_op op_pow pe_int pe_int) pa_nil))))) (pg_sub (pe_ix (show IxR _ (rIx K) from ix_seq) (pv 3) (pv 5) (fun _ _ => rfl)) pe_int set_list))
 (pss_cons (ps_asg (pe_op (show OpR _ (binaryOp .Add) (rAddU K) from op_addU) (pv 4) (pe_call (ok__law_draw T) (hr.mono (by decide)) rfl T.d__law_draw.m T.d__law_draw.F.kp T.d__law_draw.b .nil (passN nox_F) (pa_cons (pv 0) (pa_cons (pe_op (show OpR _ (binaryOp .Add) (rAddU K) from op_addU) (pv 1) pe_int) (pa_cons pe_int pa_nil))))) (pg_sub (pe_ix (show IxR _ (rIx K) from ix_seq) (pv 3) (pv 5) (fun _ _ => rfl)) pe_int set_list))
 (pss_one (ps_expr (pe_meth (pv 2) T.cl_Book T.d_Book_change.mt (ok_Book_change T) (hr.mono (by decide)) T.d_Book_change.b .nil (passN nox_F) (pa_cons (pv 5) (pa_cons (pe_ix (show IxR _ (rIx K) from ix_seq) (pe_ix (show IxR _ (rIx K) from ix_seq) (pv 3) (pv 5) (fun _ _ => rfl)) pe_int (fun _ _ => rfl)) (pa_cons (pe_ix (show IxR _ (rIx K) from ix_seq) (pe_ix (show IxR _ (rIx K) from ix_seq) (pv 3) (pv 5) (fun _ _ => rfl)) pe_int (fun _ _ => rfl)) pa_nil))))))))))), ?_⟩
  refine x_start (σ0 := [some (.ref a), some (.int kk), some (.ref b), some (.ref ro), some (.int y), none]) rfl ?_
  walk_at "x"
  rename_i x x0 x1
  obtain ⟨hB0, hro0, hR, h3, hG3⟩ := id hB
  have nda : d ∉ as := hR.neRef hd hI.refs
  have nra : ro ∉ as := hR.neRef hro (map_refs as)
  have hxl := hI.length
  obtain ⟨t, ht⟩ := lt_some (show x.toNat < ts.length by omega)
  obtain ⟨c, hc⟩ := lt_some (show x.toNat < as.length by omega)
  have hcm := List.mem_of_getElem? hc
  have htm := List.mem_of_getElem? ht
  have hrow : H c = some (.lst [.int t.1.p, .int t.1.q, .int t.1.w, .int t.1.u, .int t.1.a, .int t.1.y, .int t.1.r, .str t.2]) := hR.2.2 _ c t hc ht
  have hat : atI (as.map V.ref) x = some (.ref c) := atI_lt x0 (by rw [List.getElem?_map, hc]; rfl)
  have gset : ∀ t' : T7 × Str, GT m w y t'.1 → GTs m w y (ts.set x.toNat t') := fun t' g u hu => by
    rcases mem_set_or hu with z | z
    · exact hG u z
    · rw [z]; exact g
  walk_at "x"
  · exact k H ts rfl hG (fun _ _ _ _ h => h) hB
  · rename_i hst _ _ _ _
    refine ⟨b, d, m, w, y, x, ts, t, rfl, hB0, x0, ht, hst, fun H1 hB1 g1 => ?_⟩
    have hro1 := g1.at hro ndr.symm
    have hrow1 := g1.at hrow (fun z => nda (z ▸ hcm))
    walk_at "x"
    refine x_setN hrow1 (show ixN 8 7 = some 7 from rfl) fun H2 b2 h2 => ?_
    walk_at "x"
    have hR1 : DRows H1 as ts := hR.keep fun e o he h => g1.at h fun z => nda (z ▸ he)
    exact k H2 (ts.set x.toNat (t.1, "broken")) (List.length_set ..) (gset (t.1, "broken") (hG t htm)) (fun e o n1 n2 h => b2.1.at (g1.at h n1) fun z => n2 (z ▸ hcm)) ⟨hB1.but b2 (fun z => nda (z ▸ hcm)), b2.lst hro1 (fun z => nra (z ▸ hcm)), hR1.set hc b2 (t := (t.1, "broken")) h2, st3_set h3 (.inr (.inr rfl)), good_set hG3 (hG3 t htm)⟩
  · rename_i hst _ _ _ _ v v0 v1
    refine x_setN hrow (show ixN 8 4 = some 4 from rfl) fun H1 b1 h1 => ?_
    have hS1 : SqL K H1 a (ns.map V.int) := (b1.same e00 (fas c hcm)).seq hS0
    have hro1 := b1.lst hro (fun z => nra (z ▸ hcm))
    have hrow1 : H1 c = some (.lst [.int t.1.p, .int t.1.q, .int t.1.w, .int t.1.u, .int (1 + v), .int t.1.y, .int t.1.r, .str t.2]) := h1
    have hb1 := b1.ins hb
    clear h1
    walk_at "x"
    rename_i z z0 z1
    refine x_setN hrow1 (show ixN 8 5 = some 5 from rfl) fun H2 b2 h2 => ?_
    have hro2 := b2.lst hro1 (fun z => nra (z ▸ hcm))
    have hrow2 : H2 c = some (.lst [.int t.1.p, .int t.1.q, .int t.1.w, .int t.1.u, .int (1 + v), .int (y + z), .int t.1.r, .str t.2]) := h2
    have hb2 := b2.ins hb1
    clear h2
    walk_at "x"
    have hg := getD_of ht
    have hch : chK y ts x (1 + v) (y + z) = 0 := by
      unfold chK
      rw [if_neg (by omega), hg, if_neg (by rw [hst]; decide +kernel), if_neg (by rw [hst]; decide +kernel), if_neg (by omega), if_neg (by omega)]
    have hB2 : Bk T.c_Book H2 b d m w y ts := (hB0.but b1 (fun z => nda (z ▸ hcm))).but b2 (fun z => nda (z ▸ hcm))
    refine ⟨b, d, m, w, y, x, 1 + v, y + z, ts, rfl, hB2, hG3, .inl ⟨t, hch, ht, x0, fun H3 hB3 g3 => ?_⟩⟩
    walk_at "x"
    have r1 := hR.set (t := ({ t.1 with a := 1 + v }, t.2)) hc b1 hrow1
    have r2 := r1.set (t := chg t (1 + v) (y + z)) hc b2 hrow2
    rw [List.set_set] at r2
    have hR3 : DRows H3 as (ts.set x.toNat (chg t (1 + v) (y + z))) := r2.keep fun e o he h => g3.at h fun z => nda (z ▸ he)
    have g := hG t htm
    have g' := hG3 t htm
    exact k H3 (ts.set x.toNat (chg t (1 + v) (y + z))) (List.length_set ..) (gset (chg t (1 + v) (y + z)) ⟨g.p0, g.p1, g.q0, g.q1, g.pq, g.w0, g.w1, g.u0, g.u1, by show 1 ≤ 1 + v; omega, by show 1 + v ≤ 1000000000; omega, by show 0 ≤ y + z; omega, by show y + z ≤ y + 4; omega, g.r0, g.r1⟩) (fun e o n1 n2 h => g3.at (b2.1.at (b1.1.at h fun z => n2 (z ▸ hcm)) fun z => n2 (z ▸ hcm)) n1) ⟨hB3, g3.at hro2 ndr.symm, hR3, st3_set h3 (h3 t htm), good_set hG3 g'⟩
theorem ok__law_closed (T : Txt K mg) : FnOk P w K mg base (CXF P w) 3 T.d__law_closed.a T.d__law_closed.fd ["_law_book", "_law_rows", "_law_today"] (spClosedC T.c_Book) := by
  refine T.d__law_closed.F.okN sc__law_closed (fun vs H Q E h => ?_) (fun cdv A outer s H vs Q E hr h => ?_)
  · obtain ⟨b, d, ro, m, w, y, ts, as, rfl, _⟩ := h; rfl
  obtain ⟨b, d, ro, m, w, y, ts, as, rfl, ⟨hB, hro, hR, h3, hG⟩, ndro, hn, k⟩ := h
  have hal := hR.2.1
  obtain ⟨⟨dx, hb⟩, xs, hd, hI⟩ := id hB
  have nda : d ∉ as := hR.neRef hd hI.refs
  have nra : ro ∉ as := hR.neRef hro (map_refs as)
  refine ⟨_, (pss_cons (ps_expr (pe_meth0 (pv 0) T.cl_Book T.d_Book_close.mt (ok_Book_close T) (hr.mono (by decide)) T.d_Book_close.b .nil (passN nox_F)))
 (pss_one (ps_for PassesOwn.never rfl (show PI _ _ _ (iList K _) from pi_list (pv 1)) (pg_name (i := 3) sc__law_closed.nd rfl (Or.inl rfl))
  (pss_one (ps_if (PW.pt (pw_and (pt_cmpR (show OpR _ (compareOp .Eq) (rEqU K) from op_eqU hr.units) (pe_ix (show IxR _ (rIx K) from ix_seq) (pv 3) pe_int (fun _ _ => rfl)) (pv 2) (nomark _)) (pw_and1 (pt_cmpR (show OpR _ (compareOp .Eq) (rEqU K) from op_eqU hr.units) (pe_ix (show IxR _ (rIx K) from ix_seq) (pv 3) pe_int (fun _ _ => rfl)) pe_str (nomark _)))))
  (pss_one (ps_asg pe_str (pg_sub (pv 3) pe_int set_list)))
  pss_nil))))), ?_⟩
  refine x_start (σ0 := [some (.ref b), some (.ref ro), some (.int y), none]) rfl ?_
  walk_at "x"
  refine ⟨b, d, m, w, y, ts, rfl, hB, hn, fun p H1 hB1 hK1 hp => ?_⟩
  have nrb : ro ≠ b := ne_of hro hb (by intro z; cases z)
  have hro1 : H1 ro = some (.lst (as.map V.ref)) := hK1 _ _ ndro.symm nrb hro
  have hR1 : DRows H1 as ts := hR.keep fun a o ha h => hK1 a o (fun z => nda (z ▸ ha)) (fun z => by
    obtain ⟨_, t, _, _, e⟩ := hR.mem ha
    rw [z, hb] at e; cases e) h
  walk_at "x"
  refine x_forL (xs := as.map V.ref) (fun i σ' H' => ∃ f3 : Option V, σ' = [some (.ref b), some (.ref ro), some (.int y), f3] ∧ Bk T.c_Book H' b d m w (y + 1) (ts.map (clsF y)) ∧ H' ro = some (.lst (as.map V.ref)) ∧ DRows H' as ((ts.take i).map (clsF y) ++ ts.drop i) ∧ ∀ c o, c ≠ d → c ≠ b → c ∉ as → H c = some o → H' c = some o) ⟨_, rfl, hB1, hro1, by rw [List.take_zero, List.map_nil, List.nil_append, List.drop_zero]; exact hR1, fun c o n1 n2 _ h => hK1 c o n1 n2 h⟩ ?_ ?_ ?_
  · rintro i σ' H' _ ⟨_, _, _, h, _⟩; exact SqL.of h
  · rintro i x σ' H' hx ⟨f3, rfl, hB', hro', hR', hK'⟩
    have hi : i < as.length := by have := (List.getElem?_eq_some_iff.mp hx).1; rwa [List.length_map] at this
    obtain ⟨a, ha⟩ := lt_some hi
    obtain ⟨t, ht⟩ := lt_some (show i < ts.length by omega)
    have ex : x = .ref a := by rw [List.getElem?_map, ha] at hx; exact (Option.some.inj hx).symm
    subst ex
    have ham := List.mem_of_getElem? ha
    have hcur : ((ts.take i).map (clsF y) ++ ts.drop i)[i]? = some t := by
      rw [List.getElem?_append_right (by rw [List.length_map, List.length_take]; omega), List.length_map, List.length_take, List.getElem?_drop, show i + (i - min i ts.length) = i by omega]
      exact ht
    have hrow : H' a = some (.lst [.int t.1.p, .int t.1.q, .int t.1.w, .int t.1.u, .int t.1.a, .int t.1.y, .int t.1.r, .str t.2]) := hR'.2.2 i a t ha hcur
    have hnext : ((ts.take i).map (clsF y) ++ ts.drop i).set i (clsF y t) = (ts.take (i + 1)).map (clsF y) ++ ts.drop (i + 1) := by
      rw [List.set_append_right _ _ (by rw [List.length_map, List.length_take]; omega), List.length_map, List.length_take, show i - min i ts.length = 0 by omega, List.drop_eq_getElem_cons (show i < ts.length by omega), List.set_cons_zero, take_snoc ht, List.map_append, List.map_singleton, List.append_assoc]
      rfl
    have hself : ((ts.take i).map (clsF y) ++ ts.drop i).set i t = (ts.take i).map (clsF y) ++ ts.drop i := by
      refine ext_get (by rw [List.length_set]) fun j u v hu hv => ?_
      by_cases e : j = i
      · subst e
        rw [List.getElem?_set_self (List.getElem?_eq_some_iff.mp hcur).1] at hu
        rw [hcur] at hv
        exact (Option.some.inj hu).symm.trans (Option.some.inj hv)
      · rw [List.getElem?_set_ne (fun z => e z.symm), hv] at hu
        exact (Option.some.inj hu).symm
    walk_at "x"
    · rename_i hy hs
      refine x_setN hrow (show ixN 8 7 = some 7 from rfl) fun H2 b2 h2' => ?_
      have hset : clsF y t = (t.1, ("settled" : Str)) := if_pos (by unfold standP; rw [decide_eq_true hs, decide_eq_true hy]; rfl)
      have hR2 := hR'.set ha b2 (t := clsF y t) (by rw [hset]; exact h2')
      rw [hnext] at hR2
      walk_at "x"
      exact ⟨_, rfl, hB'.but b2 (fun z => nda (z ▸ ham)), b2.lst hro' (fun z => nra (z ▸ ham)), hR2, fun c o n1 n2 n3 h => b2.lst (hK' c o n1 n2 n3 h) fun z => n3 (z ▸ ham)⟩
    · rename_i hy hs
      have hset : clsF y t = t := if_neg (by unfold standP; rw [decide_eq_false hs]; simp)
      rw [hset, hself] at hnext
      exact ⟨_, rfl, hB', hro', by rw [← hnext]; exact hR', hK'⟩
    · rename_i hy
      have hset : clsF y t = t := if_neg (by unfold standP; rw [decide_eq_false hy]; simp)
      rw [hset, hself] at hnext
      exact ⟨_, rfl, hB', hro', by rw [← hnext]; exact hR', hK'⟩
  · rintro σ' H' ⟨f3, rfl, hB', hro', hR', hK'⟩
    rw [List.length_map, hal, List.take_length, List.drop_length, List.append_nil] at hR'
    walk_at "x"
    exact k H' ⟨hB', hro', hR', st3_cls h3, good_cls hG⟩ hK'

noncomputable def spLaw (K : PySem.W.Frag) : Sp := fun vs H Q _ => ∃ (a : Addr) (ns : List Int), vs = [.ref a] ∧ SqL K H a (ns.map V.int) ∧ ns.length ≤ 63 ∧ ∀ H', Q (.bl true) H'
theorem ok_law (T : Txt K mg) : FnOk P w K mg base (CXF P w) 5 T.d_law.a T.d_law.fd ["_law_script"] (spLaw K) := by
  refine T.d_law.F.okN sc_law (fun vs H Q E h => ?_) (fun cdv A outer s H vs Q E hr h => ?_)
  · obtain ⟨a, ns, rfl, _⟩ := h; rfl
  obtain ⟨a, ns, rfl, hS, h63, k⟩ := h
  refine ⟨_, (pss_cons (ps_set (i := 1) sc_law.nd rfl (Or.inl rfl) (pe_op (show OpR _ (binaryOp .Add) (rAddU K) from op_addU) pe_int (pe_call (ok__law_draw T) (hr.mono (by decide)) rfl T.d__law_draw.m T.d__law_draw.F.kp T.d__law_draw.b .nil (passN nox_F) (pa_cons (pv 0) (pa_cons pe_int (pa_cons pe_int pa_nil))))))
 (pss_cons (ps_set (i := 2) sc_law.nd rfl (Or.inl rfl) (pe_op (show OpR _ (binaryOp .Add) (rAddU K) from op_addU) pe_int (pe_call (ok__law_draw T) (hr.mono (by decide)) rfl T.d__law_draw.m T.d__law_draw.F.kp T.d__law_draw.b .nil (passN nox_F) (pa_cons (pv 0) (pa_cons pe_int (pa_cons pe_int pa_nil))))))
 (pss_cons (ps_set (i := 3) sc_law.nd rfl (Or.inl rfl) (pe_make T.mk_Book (ok_Book___init__ T) (hr.mono (by decide)) rfl T.m_Book T.d_Book___init__.b .nil (passN nox_F) (pa_cons (pv 1) (pa_cons (pv 2) pa_nil))))
 (pss_cons (ps_set (i := 4) sc_law.nd rfl (Or.inl rfl) (pe_lst pa_nil))
 (pss_cons (ps_set (i := 5) sc_law.nd rfl (Or.inl rfl) (pe_lst pa_nil))
 (pss_cons (ps_set (i := 6) sc_law.nd rfl (Or.inl rfl) pe_int)
 (pss_cons (ps_set (i := 7) sc_law.nd rfl (Or.inl rfl) (pe_op (show OpR _ (binaryOp .Add) (rAddU K) from op_addU) (pe_op (show OpR _ (binaryOp .Add) (rAddU K) from op_addU) pe_int (pe_call (ok__law_draw T) (hr.mono (by decide)) rfl T.d__law_draw.m T.d__law_draw.F.kp T.d__law_draw.b .nil (passN nox_F) (pa_cons (pv 0) (pa_cons pe_int (pa_cons pe_int pa_nil))))) (pe_callB (show CallR _ _ (rLen K) from call_lenU) rfl T.z_len BT.len (pa_cons (pe_slice (show SlR _ (rSlL K) from sl_list) (pv 0) po_none (po_some pe_int)) pa_nil))))
 (pss_cons (ps_for PassesOwn.never rfl (pi_range1 rfl T.z_range (pa_cons (pv 7) pa_nil)) (pg_name (i := 8) sc_law.nd rfl (Or.inl rfl))
  (pss_cons (ps_set (i := 9) sc_law.nd rfl (Or.inl rfl) (pe_op (show OpR _ (binaryOp .Add) (rAddU K) from op_addU) pe_int (pe_op op_mulU pe_int (pv 8))))
 (pss_cons (ps_set (i := 10) sc_law.nd rfl (Or.inl rfl) (pe_call (ok__law_draw T) (hr.mono (by decide)) rfl T.d__law_draw.m T.d__law_draw.F.kp T.d__law_draw.b .nil (passN nox_F) (pa_cons (pv 0) (pa_cons (pe_op (show OpR _ (binaryOp .Add) (rAddU K) from op_addU) (pv 9) pe_int) (pa_cons pe_int pa_nil)))))
 (pss_mid (ps_if (PW.pt (pw_and (pt_cmpR op_lt (pv 10) pe_int (nomark _)) (pw_and1 (pt_cmpR op_gt (pv 8) pe_int (nomark _)))))
  (pss_one (ps_expr (pe_call (ok__law_turned T) (hr.mono (by decide)) rfl T.d__law_turned.m T.d__law_turned.F.kp T.d__law_turned.b .nil (passN nox_F) (pa_cons (pv 0) (pa_cons (pe_op (show OpR _ (binaryOp .Add) (rAddU K) from op_addU) (pv 9) pe_int) (pa_cons (pv 3) (pa_cons (pv 4) (pa_cons (pv 6) pa_nil))))))))
  pss_nil)
 (pss_mid (ps_if (pt_cmpR (show OpR _ (compareOp .Eq) (rEqU K) from op_eqU hr.units) (pv 10) pe_int (nomark _))
  (pss_cons (ps_expr (pe_call (ok__law_closed T) (hr.mono (by decide)) rfl T.d__law_closed.m T.d__law_closed.F.kp T.d__law_closed.b .nil (passN nox_F) (pa_cons (pv 3) (pa_cons (pv 4) (pa_cons (pv 6) pa_nil)))))
 (pss_one (ps_set (i := 6) sc_law.nd rfl (Or.inl rfl) (pe_op (show OpR _ (binaryOp .Add) (rAddU K) from op_addU) (pv 6) pe_int))))
  pss_nil)
 (pss_cons (ps_expr (pe_call (ok__law_struck T) (hr.mono (by decide)) rfl T.d__law_struck.m T.d__law_struck.F.kp T.d__law_struck.b .nil (passN nox_F) (pa_cons (pv 0) (pa_cons (pv 9) (pa_cons (pv 3) (pa_cons (pv 4) (pa_cons (pv 1) (pa_cons (pv 2) (pa_cons (pv 6) pa_nil)))))))))
 (pss_one (ps_if (PW.pt (pw_or (pt_cmpR (show OpR _ (compareOp .Eq) (rEqU K) from op_eqU hr.units) (pv 8) (pe_op op_divU (pv 7) pe_int) (nomark _)) (pw_or1 (pt_cmpR (show OpR _ (compareOp .Eq) (rEqU K) from op_eqU hr.units) (pv 8) (pe_op op_divU (pv 7) pe_int) (nomark _)))))
  (pss_cons (ps_if (pt_not (show PT _ _ (tTru K _) from pt_truthU (pe_call (ok__law_asked T) (hr.mono (by decide)) rfl T.d__law_asked.m T.d__law_asked.F.kp T.d__law_asked.b .nil (passN nox_F) (pa_cons (pv 0) (pa_cons (pe_op (show OpR _ (binaryOp .Add) (rAddU K) from op_addU) (pv 9) pe_int) (pa_cons (pv 3) (pa_cons (pv 4) (pa_cons (pv 2) (pa_cons (pv 1) (pa_cons (pv 6) (pa_cons (pv 5) pa_nil))))))))) (fun _ => rfl)))
  (pss_one (ps_ret pe_bl))
  pss_nil)
 (pss_cons (ps_for PassesOwn.never rfl (show PI _ _ _ (iList K _) from pi_list (pv 5)) (pg_name (i := 11) sc_law.nd rfl (Or.inl rfl))
  (pss_one (ps_expr (show PE _ _ (tBM K _ _ _ _) from pe_bm PySem.F.plainAttrs_list PySem.F.slot_list_append PySem.F.type_list_append mt_append (pe_ix (show IxR _ (rIx K) from ix_seq) (pv 11) pe_int (fun _ _ => rfl)) (pa_cons (pe_tup (pa_cons pe_int (pa_cons pe_int (pa_cons pe_int pa_nil)))) pa_nil)))))
 (pss_one (ps_setC (i := 5) sc_law.nd rfl rfl rfl (show PI _ _ _ (iList K _) from pi_list (pv 5)) (compScope_of (Ni := ["_law_pair"]) (caps := [none]) (by rfl)) (fun S _ _ _ _ _ => (pg_nameC (gi := 0) S (Or.inl rfl) rfl)) (fun _ _ _ _ _ => pf_nil) (fun _ _ _ _ _ => (pe_tup (pa_cons (pe_ix (show IxR _ (rIx K) from ix_seq) (pv 0) pe_int (fun _ _ => rfl)) (pa_cons (pe_op (show OpR _ (binaryOp .Add) (rAddU K) from op_addU) (pe_ix (show IxR _ (rIx K) from ix_seq) (pv 0) pe_int (fun _ _ => rfl)) (pe_lst (pa_cons (pe_tup (pa_cons pe_int (pa_cons pe_int (pa_cons pe_int pa_nil)))) pa_nil))) pa_nil))))))))
  pss_nil))))))))
 (pss_cons (ps_if (pt_not (show PT _ _ (tTru K _) from pt_truthU (pe_call (ok__law_asked T) (hr.mono (by decide)) rfl T.d__law_asked.m T.d__law_asked.F.kp T.d__law_asked.b .nil (passN nox_F) (pa_cons (pv 0) (pa_cons pe_int (pa_cons (pv 3) (pa_cons (pv 4) (pa_cons (pv 2) (pa_cons (pv 1) (pa_cons (pv 6) (pa_cons (pv 5) pa_nil))))))))) (fun _ => rfl)))
  (pss_one (ps_ret pe_bl))
  pss_nil)
 (pss_cons (ps_for PassesOwn.never rfl (show PI _ _ _ (iList K _) from pi_list (pv 5)) (pg_name (i := 11) sc_law.nd rfl (Or.inl rfl))
  (pss_one (ps_if (pt_cmpR (show OpR _ (compareOp .NotEq) (rNeU K) from op_neU hr.units) (pe_ix (show IxR _ (rIx K) from ix_seq) (pv 11) pe_int (fun _ _ => rfl)) (pe_ix (show IxR _ (rIx K) from ix_seq) (pv 11) pe_int (fun _ _ => rfl)) (nomark _))
  (pss_one (ps_ret pe_bl))
  pss_nil)))
 (pss_one (ps_ret pe_bl)))))))))))), ?_⟩
  refine x_start (σ0 := [some (.ref a), none, none, none, none, none, none, none, none, none, none, none]) rfl ?_
  walk_at "x"
  rename_i x x0 x1 x' x0' x1'
  obtain ⟨N, eN, N0, N1⟩ : ∃ N, 2 + x = N ∧ 2 ≤ N ∧ N ≤ 8 := ⟨_, rfl, by omega, by omega⟩
  obtain ⟨W, eW, W0, W1⟩ : ∃ W : Nat, 1 + x' = (W : Int) ∧ 1 ≤ W ∧ W ≤ 4 := ⟨(1 + x').toNat, by omega, by omega, by omega⟩
  rw [eN, eW]
  refine x_makek fun b dx H1 fb e1 h1 => ?_
  refine ⟨b, dx, _, _, rfl, h1, fun d H2 fd s2 hb2 hd2 => ⟨rfl, ?_⟩⟩
  have e2 : Same H H2 := fun c o q => s2 c o (ne_of_none q fb) (e1 c o q)
  have fd0 : H d = none := Same.none fd e1
  have hBk : Bk T.c_Book H2 b d N (W : Int) 0 [] := ⟨⟨dx, hb2⟩, [], hd2, trivial⟩
  have hS2 := e2.seq hS
  walk_at "x"
  rename_i ro H3 fro e3 hro hl H4 fhl e4 hhl c c0 c1 sc H5 fsc e5 hsc
  have hcl : (cutV (ns.map V.int) none (some 24)).length ≤ 24 := cut_le (k := 24)
  obtain ⟨cn, ecn, cn0, cn1⟩ : ∃ cn : Int, 1 + c + ((cutV (ns.map V.int) none (some 24)).length : Int) = cn ∧ 1 ≤ cn ∧ cn ≤ 36 := ⟨_, rfl, by omega, by omega⟩
  rw [ecn]
  have hd5 := (e3.trans (e4.trans e5)).at hd2
  have hb5 := (e3.trans (e4.trans e5)).at hb2
  have hro5 := (e4.trans e5).at hro
  have hhl5 := e5.at hhl
  have ndro : d ≠ ro := (ne_new' fro hd2).symm
  have nhd : hl ≠ d := ne_new' fhl (e3.at hd2)
  have nhr : hl ≠ ro := ne_new' fhl hro
  have hL0 : LS T.c_Book H H5 b d ro hl N (W : Int) 0 [] [] [] := by
    refine ⟨⟨⟨hBk.same (e3.trans (e4.trans e5)), hro5, ⟨List.nodup_nil, rfl, fun i a t h => nomatch h⟩, (fun t ht => nomatch ht), (fun t ht => nomatch ht)⟩, ⟨⟨[], hhl5, trivial⟩, (fun z hz => nomatch hz), List.nodup_nil, (fun z hz => nomatch hz), (fun z hz => nomatch hz)⟩, (fun z hz => nomatch hz), (fun z hz => nomatch hz), by show 0 < 64; decide, by show 0 ≤ 50000; decide, nhd, nhr, (fun h => nomatch h), ?_⟩, e2.trans (e3.trans (e4.trans e5)), fd0, Same.none fro e2, Same.none fhl (e2.trans e3), fb, (fun z hz => nomatch hz), (fun z hz => nomatch hz), ndro, (fun z hz => nomatch hz)⟩
    exact ne_of hhl5 hb5 (by intro z; cases z)
  walk_at "x"
  refine x_forR (fun i σ' H' => ∃ (g8 g9 g10 g11 : Option V) (hl' : Addr) (y : Int) (ts : List (T7 × Str)) (as : List Addr) (zs : List ZE), σ' = [some (.ref a), some (.int N), some (.int (W : Int)), some (.ref b), some (.ref ro), some (.ref hl'), some (.int y), some (.int cn), g8, g9, g10, g11] ∧ LS T.c_Book H H' b d ro hl' N (W : Int) y ts as zs ∧ ts.length = i ∧ 0 ≤ y ∧ y ≤ i ∧ zs.length ≤ 200 * i ∧ ∀ z ∈ zs, z.e1.length ≤ 1000 + i) ⟨_, _, _, _, hl, 0, [], [], [], rfl, hL0, rfl, by omega, by omega, by show 0 ≤ 0; decide, (fun z hz => nomatch hz)⟩ ?_ ?_
  · rintro i σ' H6 hi ⟨g8, g9, g10, g11, hl', y, ts, as, zs, rfl, hL, hlen, y0, y1, zl, zb⟩
    have hi36 : (i : Int) < 36 := by omega
    have hS6 : SqL K H6 a (ns.map V.int) := hL.e0.seq hS
    walk_at "x"
    rename_i wy wy0 wy1
    refine x_mid (fun σ' H' => ∃ ts' : List (T7 × Str), σ' = [some (.ref a), some (.int N), some (.int (W : Int)), some (.ref b), some (.ref ro), some (.ref hl'), some (.int y), some (.int cn), some (.int ((0 : Int) + (i : Int))), some (.int (10 + 16 * ((0 : Int) + (i : Int)))), some (.int wy), g11] ∧ LS T.c_Book H H' b d ro hl' N (W : Int) y ts' as zs ∧ ts'.length = i) ?_ ?_
    · walk_at "x"
      · rename_i hw hk
        refine ⟨H, a, b, d, ro, ns, _, N, (W : Int), y, ts, as, rfl, hS, hL.e0, hL.f4, by omega, by omega, hL.hb.br, hL.hb.gt, hL.n, by omega, by omega, y0, by omega, fun H7 ts7 hl7 gt7 fr7 br7 => ?_⟩
        walk_at "x"
        exact ⟨ts7, rfl, hL.step (fun c o n1 n2 n3 n4 h => fr7 c o n1 n4 h) br7 gt7 (by rw [hl7]; exact hL.hb.tl) (fun c hc => .inl hc), by omega⟩
      all_goals exact ⟨ts, rfl, hL, hlen⟩
    rintro σ' H7 ⟨ts1, rfl, hL1, hlen1⟩
    refine x_mid (fun σ' H' => ∃ (ts' : List (T7 × Str)) (y' : Int), σ' = [some (.ref a), some (.int N), some (.int (W : Int)), some (.ref b), some (.ref ro), some (.ref hl'), some (.int y'), some (.int cn), some (.int ((0 : Int) + (i : Int))), some (.int (10 + 16 * ((0 : Int) + (i : Int)))), some (.int wy), g11] ∧ LS T.c_Book H H' b d ro hl' N (W : Int) y' ts' as zs ∧ ts'.length = i ∧ 0 ≤ y' ∧ y' ≤ i + 1) ?_ ?_
    · walk_at "x"
      · rename_i hw
        refine ⟨b, d, ro, N, (W : Int), y, ts1, as, rfl, hL1.hb.br, hL1.n, by omega, fun H8 br8 fr8 => ?_⟩
        walk_at "x"
        exact ⟨ts1.map (clsF y), y + 1, rfl, hL1.step (fun c o n1 n2 n3 n4 h => fr8 c o n1 n3 n4 h) br8 (gt_cls hL1.hb.gt) (by rw [List.length_map]; exact hL1.hb.tl) (fun c hc => .inl hc), by rw [List.length_map]; exact hlen1, by omega, by omega⟩
      · exact ⟨ts1, y, rfl, hL1, hlen1, y0, by omega⟩
    rintro σ' H8 ⟨ts2, y3, rfl, hL2, hlen2, y30, y31⟩
    have hS8 : SqL K H8 a (ns.map V.int) := hL2.e0.seq hS
    walk_at "x"
    refine ⟨a, b, d, ro, ns, _, N, (W : Int), y3, ts2, as, rfl, hS8, by omega, by omega, hL2.hb.br, hL2.n, by omega, by omega, by omega, by omega, by omega, by omega, by omega, fun H9 t9 p9 fp9 fr9 gt9 br9 => ?_⟩
    have hL3 := hL2.step (fun c o n1 n2 n3 n4 h => fr9 c o n1 n2 h) br9 (gt_app hL2.hb.gt gt9) (by rw [List.length_append, List.length_singleton]; omega) (fun c hc => by
      rcases List.mem_append.mp hc with hc | hc
      · exact .inl hc
      · rw [List.mem_singleton.mp hc]; exact .inr fp9)
    have hl3 : (ts2 ++ [(t9, ("standing" : Str))]).length = i + 1 := by rw [List.length_append, hlen2]; rfl
    have hS9 : SqL K H9 a (ns.map V.int) := hL3.e0.seq hS
    walk_at "x"
    · rename_i hq1
      have tl' := hL3.hb.tl
      refine ⟨a, b, d, ro, hl', ns, _, N, y3, W, _, _, zs, rfl, hL3.e0.seq hS, by omega, by omega, hL3.hb, by omega, by omega, by omega, by omega, by omega, by omega, fun H4 zs4 nb4 ad4 hb4 => ?_⟩
      have hL4 := hL3.asked nb4 ad4 hb4
      have zl4 := ad4.len
      have zb4 : ∀ z ∈ zs4, z.e1.length ≤ 1000 + i := fun z hz => by
        obtain ⟨new, rfl, _, hnw⟩ := ad4
        rcases List.mem_append.mp hz with hz | hz
        · exact zb z hz
        · have := (hnw z hz).2.2; omega
      obtain ⟨us, hus, hut⟩ := hL4.hb.ht.ls
      walk_at "x"
      refine x_forL (xs := us) (fun j σ' H' => ∃ g11 : Option V, σ' = [some (.ref a), some (.int N), some (.int (W : Int)), some (.ref b), some (.ref ro), some (.ref hl'), some (.int y3), some (.int cn), some (.int ((0 : Int) + (i : Int))), some (.int (10 + 16 * ((0 : Int) + (i : Int)))), some (.int wy), g11] ∧ H' hl' = some (.lst us) ∧ HeldAt H' hl' ((zs4.take j).map Internal.bump ++ zs4.drop j) ∧ ∀ c o, (∀ z ∈ zs4, c ≠ z.t) → H4 c = some o → H' c = some o) ⟨_, rfl, hus, by rw [List.take_zero, List.drop_zero]; exact hL4.hb.ht, fun c o _ h => h⟩ ?_ ?_ ?_
      · rintro j σ' H' _ ⟨_, _, h, _⟩; exact SqL.of h
      · rintro j xx σ' H5 hx ⟨g11', rfl, hus5, ht5, fr5⟩
        have hj : j < zs4.length := by rw [← hut.length]; exact (List.getElem?_eq_some_iff.mp hx).1
        obtain ⟨z, hz⟩ := lt_some hj
        have hzm := List.mem_of_getElem? hz
        obtain ⟨us', q1, q2⟩ := ht5.ls
        rw [hus5] at q1; cases q1
        obtain ⟨pp, z', rfl, hz', hpp⟩ := q2.get hx
        rw [get_mid hz] at hz'; cases hz'
        have hpp' : H5 pp = some (.tup [.ref z.t, .ref z.u]) := hpp
        obtain ⟨⟨tv, ht1, ht2⟩, _⟩ := ht5.hz z (List.mem_of_getElem? (get_mid hz))
        have htl : tv.length ≤ 2000 := by rw [ht2.length]; have := zb4 z hzm; omega
        walk_at "x"
        rename_i qq H6 fqq e6 hqq H7 b7 h7
        refine ⟨_, rfl, b7.lst (e6.at hus5) (hL4.hb.ht.n z hzm).1.symm, ?_, fun c o n h => b7.1.at (e6.at (fr5 c o n h)) (n z hzm)⟩
        have := ht5.bump (get_mid hz) ht1 e6 hqq b7 h7
        rw [set_mid hz] at this
        exact this
      · rintro σ' H5 ⟨g11', rfl, hus5, ht5, fr5⟩
        rw [hut.length, List.take_length, List.drop_length, List.append_nil] at ht5
        obtain ⟨us', q1, q2⟩ := ht5.ls
        rw [hus5] at q1; cases q1
        walk_at "x"
        refine x_compS1 (src_list (K := K) (a := hl') (xs := us)) (fun H' e => SqL.of (e.at hus5)) rfl (fun j vs H' => ∃ zn : List ZE, IsTs pairV H' vs zn ∧ zn.length = j ∧ Marked H5 H' (zs4.map Internal.bump) zn) (fun H' _ => ⟨[], trivial, rfl, fun j z z' _ h => nomatch h⟩) ?_ ?_
        · rintro j xx D vs o H6 H7 hj hD e6 hv hvl ⟨zn, hzn, hznl, hmk⟩ e7 hx
          rw [hut.length] at hj
          obtain ⟨pp, zb', rfl, hzb, hpp⟩ := q2.get hx
          obtain ⟨z, hz⟩ := lt_some hj
          have ezb : zb' = Internal.bump z := by rw [List.getElem?_map, hz] at hzb; exact (Option.some.inj hzb).symm
          subst ezb
          have hzm := List.mem_of_getElem? hz
          have e57 : Same H5 H7 := e6.trans e7
          have hpp' : H7 pp = some (.tup [.ref z.t, .ref z.u]) := e57.at hpp
          obtain ⟨_, wv, hw1, hw2⟩ := ht5.hz (Internal.bump z) (List.mem_map.mpr ⟨z, hzm, rfl⟩)
          have hw1' : H7 z.u = some (.lst wv) := e57.at hw1
          have hwl : wv.length ≤ 2000 := by
            have h1 := hw2.length
            have h2 := zb4 z hzm
            have h3 := hL4.hb.eq z hzm
            have h4 : (Internal.bump z).e2 = z.e2 := rfl
            rw [h4, ← h3] at h1
            omega
          have hv7 := e7.at hv
          have hvl2 : vs.length ≤ 50000 := by have := hL4.hb.zl; omega
          walk_at "x"
          rename_i qq H8 fqq e8 hqq ll H9 fll e9 hll
          have hw9 := (e8.trans e9).at hw1'
          refine x_catN hw9 hll (by show _ + 1 ≤ 100000; omega) fun u2 H10 fu2 e10 hu2 => ?_
          walk_at "x"
          refine x_tupN (by first | decide | simp) fun p2 H11 fp2 e11 hp2 => ?_
          have e711 : Same H7 H11 := e8.trans (e9.trans (e10.trans e11))
          have hv11 := e711.at hv7
          walk_at "x"
          rename_i H12 b12 h12
          have e512 : Same H5 H12 := b12.same (e57.trans e711) hD
          have nu2 : u2 ≠ D := ne_new' fu2 ((e8.trans e9).at hv7)
          have tp12 : Tups H6 H12 := fun aa us q => b12.tup (e711.at (e7.at q))
          refine ⟨⟨_, rfl⟩, e512, _, h12, by rw [List.length_append]; exact Nat.succ_le_succ hvl, zn ++ [⟨z.t, u2, (Internal.bump z).e1, z.e2 ++ [e13]⟩], IsTs.app (f := pairV) (x := ⟨z.t, u2, (Internal.bump z).e1, z.e2 ++ [e13]⟩) (b12.tup hp2) (hzn.keep tp12), by rw [List.length_append, hznl]; rfl, fun j' y y' h1 h2 => ?_⟩
          rw [List.getElem?_append] at h2
          split at h2
          · obtain ⟨a1, a2, a3, a4, ws, a5, a6⟩ := hmk j' y y' h1 h2
            refine ⟨a1, a2, a3, a4, ws, ?_, a6.keep tp12⟩
            refine b12.lst ((e7.trans e711).at a5) fun q => ?_
            have hI' := hzn
            rw [q, hv] at a5
            have ev : vs = ws := by have := Option.some.inj a5; injection this
            rw [a3] at a6
            obtain ⟨v, hvm, c, c1, c2⟩ := Fls.last a6
            rw [← ev] at hvm
            obtain ⟨j2, hj2, ej2⟩ := List.getElem_of_mem hvm
            obtain ⟨p, z2, p1, _, p3⟩ := hI'.get (show vs[j2]? = some v by rw [List.getElem?_eq_getElem hj2, ej2])
            rw [c1] at p1
            cases p1
            rw [c2] at p3
            cases p3
          · rename_i hlt
            have e0' : j' - zn.length = 0 := by
              cases hh : j' - zn.length with
              | zero => rfl
              | succ kk => rw [hh] at h2; cases h2
            rw [e0'] at h2
            have hjj : j' = j := by omega
            subst hjj
            cases h2
            rw [List.getElem?_map, hz] at h1
            cases h1
            have hfe : feV H12 (.ref qq) e13 := ⟨qq, rfl, b12.tup ((e9.trans (e10.trans e11)).at hqq)⟩
            exact ⟨rfl, rfl, rfl, Same.none fu2 (e57.trans (e8.trans e9)), _, b12.lst (e11.at hu2) nu2, Fls.app hfe (hw2.keep e512.tups)⟩
        · rintro hl2 H6 vs fhl2 e6 hhl2 _ ⟨zn, hzn, hznl, hmk⟩
          rw [hut.length] at hznl
          have hL6 := hL4.mark fr5 ht5 e6 fhl2 hhl2 hzn hznl hmk
          walk_at "x"
          refine ⟨_, _, _, _, hl2, y3, _, _, zn, rfl, hL6, hl3, by omega, by omega, by rw [hznl]; omega, fun z' hz' => ?_⟩
          obtain ⟨j, hj, ej⟩ := List.getElem_of_mem hz'
          obtain ⟨z, hz⟩ := lt_some (show j < zs4.length by omega)
          have := (hmk j (Internal.bump z) z' (by rw [List.getElem?_map, hz]; rfl) (by rw [List.getElem?_eq_getElem hj, ej])).2.1
          rw [this]
          show (z.e1 ++ [e13]).length ≤ _
          rw [List.length_append, List.length_singleton]
          have := zb4 z (List.mem_of_getElem? hz)
          omega
    · rename_i hq1 hq2
      have tl' := hL3.hb.tl
      refine ⟨a, b, d, ro, hl', ns, _, N, y3, W, _, _, zs, rfl, hL3.e0.seq hS, by omega, by omega, hL3.hb, by omega, by omega, by omega, by omega, by omega, by omega, fun H4 zs4 nb4 ad4 hb4 => ?_⟩
      have hL4 := hL3.asked nb4 ad4 hb4
      have zl4 := ad4.len
      have zb4 : ∀ z ∈ zs4, z.e1.length ≤ 1000 + i := fun z hz => by
        obtain ⟨new, rfl, _, hnw⟩ := ad4
        rcases List.mem_append.mp hz with hz | hz
        · exact zb z hz
        · have := (hnw z hz).2.2; omega
      obtain ⟨us, hus, hut⟩ := hL4.hb.ht.ls
      walk_at "x"
      refine x_forL (xs := us) (fun j σ' H' => ∃ g11 : Option V, σ' = [some (.ref a), some (.int N), some (.int (W : Int)), some (.ref b), some (.ref ro), some (.ref hl'), some (.int y3), some (.int cn), some (.int ((0 : Int) + (i : Int))), some (.int (10 + 16 * ((0 : Int) + (i : Int)))), some (.int wy), g11] ∧ H' hl' = some (.lst us) ∧ HeldAt H' hl' ((zs4.take j).map Internal.bump ++ zs4.drop j) ∧ ∀ c o, (∀ z ∈ zs4, c ≠ z.t) → H4 c = some o → H' c = some o) ⟨_, rfl, hus, by rw [List.take_zero, List.drop_zero]; exact hL4.hb.ht, fun c o _ h => h⟩ ?_ ?_ ?_
      · rintro j σ' H' _ ⟨_, _, h, _⟩; exact SqL.of h
      · rintro j xx σ' H5 hx ⟨g11', rfl, hus5, ht5, fr5⟩
        have hj : j < zs4.length := by rw [← hut.length]; exact (List.getElem?_eq_some_iff.mp hx).1
        obtain ⟨z, hz⟩ := lt_some hj
        have hzm := List.mem_of_getElem? hz
        obtain ⟨us', q1, q2⟩ := ht5.ls
        rw [hus5] at q1; cases q1
        obtain ⟨pp, z', rfl, hz', hpp⟩ := q2.get hx
        rw [get_mid hz] at hz'; cases hz'
        have hpp' : H5 pp = some (.tup [.ref z.t, .ref z.u]) := hpp
        obtain ⟨⟨tv, ht1, ht2⟩, _⟩ := ht5.hz z (List.mem_of_getElem? (get_mid hz))
        have htl : tv.length ≤ 2000 := by rw [ht2.length]; have := zb4 z hzm; omega
        walk_at "x"
        rename_i qq H6 fqq e6 hqq H7 b7 h7
        refine ⟨_, rfl, b7.lst (e6.at hus5) (hL4.hb.ht.n z hzm).1.symm, ?_, fun c o n h => b7.1.at (e6.at (fr5 c o n h)) (n z hzm)⟩
        have := ht5.bump (get_mid hz) ht1 e6 hqq b7 h7
        rw [set_mid hz] at this
        exact this
      · rintro σ' H5 ⟨g11', rfl, hus5, ht5, fr5⟩
        rw [hut.length, List.take_length, List.drop_length, List.append_nil] at ht5
        obtain ⟨us', q1, q2⟩ := ht5.ls
        rw [hus5] at q1; cases q1
        walk_at "x"
        refine x_compS1 (src_list (K := K) (a := hl') (xs := us)) (fun H' e => SqL.of (e.at hus5)) rfl (fun j vs H' => ∃ zn : List ZE, IsTs pairV H' vs zn ∧ zn.length = j ∧ Marked H5 H' (zs4.map Internal.bump) zn) (fun H' _ => ⟨[], trivial, rfl, fun j z z' _ h => nomatch h⟩) ?_ ?_
        · rintro j xx D vs o H6 H7 hj hD e6 hv hvl ⟨zn, hzn, hznl, hmk⟩ e7 hx
          rw [hut.length] at hj
          obtain ⟨pp, zb', rfl, hzb, hpp⟩ := q2.get hx
          obtain ⟨z, hz⟩ := lt_some hj
          have ezb : zb' = Internal.bump z := by rw [List.getElem?_map, hz] at hzb; exact (Option.some.inj hzb).symm
          subst ezb
          have hzm := List.mem_of_getElem? hz
          have e57 : Same H5 H7 := e6.trans e7
          have hpp' : H7 pp = some (.tup [.ref z.t, .ref z.u]) := e57.at hpp
          obtain ⟨_, wv, hw1, hw2⟩ := ht5.hz (Internal.bump z) (List.mem_map.mpr ⟨z, hzm, rfl⟩)
          have hw1' : H7 z.u = some (.lst wv) := e57.at hw1
          have hwl : wv.length ≤ 2000 := by
            have h1 := hw2.length
            have h2 := zb4 z hzm
            have h3 := hL4.hb.eq z hzm
            have h4 : (Internal.bump z).e2 = z.e2 := rfl
            rw [h4, ← h3] at h1
            omega
          have hv7 := e7.at hv
          have hvl2 : vs.length ≤ 50000 := by have := hL4.hb.zl; omega
          walk_at "x"
          rename_i qq H8 fqq e8 hqq ll H9 fll e9 hll
          have hw9 := (e8.trans e9).at hw1'
          refine x_catN hw9 hll (by show _ + 1 ≤ 100000; omega) fun u2 H10 fu2 e10 hu2 => ?_
          walk_at "x"
          refine x_tupN (by first | decide | simp) fun p2 H11 fp2 e11 hp2 => ?_
          have e711 : Same H7 H11 := e8.trans (e9.trans (e10.trans e11))
          have hv11 := e711.at hv7
          walk_at "x"
          rename_i H12 b12 h12
          have e512 : Same H5 H12 := b12.same (e57.trans e711) hD
          have nu2 : u2 ≠ D := ne_new' fu2 ((e8.trans e9).at hv7)
          have tp12 : Tups H6 H12 := fun aa us q => b12.tup (e711.at (e7.at q))
          refine ⟨⟨_, rfl⟩, e512, _, h12, by rw [List.length_append]; exact Nat.succ_le_succ hvl, zn ++ [⟨z.t, u2, (Internal.bump z).e1, z.e2 ++ [e13]⟩], IsTs.app (f := pairV) (x := ⟨z.t, u2, (Internal.bump z).e1, z.e2 ++ [e13]⟩) (b12.tup hp2) (hzn.keep tp12), by rw [List.length_append, hznl]; rfl, fun j' y y' h1 h2 => ?_⟩
          rw [List.getElem?_append] at h2
          split at h2
          · obtain ⟨a1, a2, a3, a4, ws, a5, a6⟩ := hmk j' y y' h1 h2
            refine ⟨a1, a2, a3, a4, ws, ?_, a6.keep tp12⟩
            refine b12.lst ((e7.trans e711).at a5) fun q => ?_
            have hI' := hzn
            rw [q, hv] at a5
            have ev : vs = ws := by have := Option.some.inj a5; injection this
            rw [a3] at a6
            obtain ⟨v, hvm, c, c1, c2⟩ := Fls.last a6
            rw [← ev] at hvm
            obtain ⟨j2, hj2, ej2⟩ := List.getElem_of_mem hvm
            obtain ⟨p, z2, p1, _, p3⟩ := hI'.get (show vs[j2]? = some v by rw [List.getElem?_eq_getElem hj2, ej2])
            rw [c1] at p1
            cases p1
            rw [c2] at p3
            cases p3
          · rename_i hlt
            have e0' : j' - zn.length = 0 := by
              cases hh : j' - zn.length with
              | zero => rfl
              | succ kk => rw [hh] at h2; cases h2
            rw [e0'] at h2
            have hjj : j' = j := by omega
            subst hjj
            cases h2
            rw [List.getElem?_map, hz] at h1
            cases h1
            have hfe : feV H12 (.ref qq) e13 := ⟨qq, rfl, b12.tup ((e9.trans (e10.trans e11)).at hqq)⟩
            exact ⟨rfl, rfl, rfl, Same.none fu2 (e57.trans (e8.trans e9)), _, b12.lst (e11.at hu2) nu2, Fls.app hfe (hw2.keep e512.tups)⟩
        · rintro hl2 H6 vs fhl2 e6 hhl2 _ ⟨zn, hzn, hznl, hmk⟩
          rw [hut.length] at hznl
          have hL6 := hL4.mark fr5 ht5 e6 fhl2 hhl2 hzn hznl hmk
          walk_at "x"
          refine ⟨_, _, _, _, hl2, y3, _, _, zn, rfl, hL6, hl3, by omega, by omega, by rw [hznl]; omega, fun z' hz' => ?_⟩
          obtain ⟨j, hj, ej⟩ := List.getElem_of_mem hz'
          obtain ⟨z, hz⟩ := lt_some (show j < zs4.length by omega)
          have := (hmk j (Internal.bump z) z' (by rw [List.getElem?_map, hz]; rfl) (by rw [List.getElem?_eq_getElem hj, ej])).2.1
          rw [this]
          show (z.e1 ++ [e13]).length ≤ _
          rw [List.length_append, List.length_singleton]
          have := zb4 z (List.mem_of_getElem? hz)
          omega
    · exact ⟨_, _, _, _, hl', y3, _, _, zs, rfl, hL3, hl3, y30, by omega, by omega, fun z hz => by have := zb z hz; omega⟩
  · rintro σ' H6 ⟨g8, g9, g10, g11, hl', y, ts, as, zs, rfl, hL, hlen, y0, y1, zl, zb⟩
    have hS6 : SqL K H6 a (ns.map V.int) := hL.e0.seq hS
    have hi36 : (cn.toNat : Int) ≤ 36 := by omega
    walk_at "x"
    refine ⟨a, b, d, ro, hl', ns, _, N, y, W, ts, as, zs, rfl, hS6, by omega, by omega, hL.hb, by omega, by omega, by omega, y0, by omega, by omega, fun H7 zs7 nb7 ad7 hb7 => ?_⟩
    obtain ⟨us, hus, hut⟩ := hb7.ht.ls
    walk_at "x"
    refine x_forL (xs := us) (fun j σ' H' => ∃ g11 : Option V, σ' = [some (.ref a), some (.int N), some (.int (W : Int)), some (.ref b), some (.ref ro), some (.ref hl'), some (.int y), some (.int cn), g8, g9, g10, g11] ∧ H' = H7) ⟨_, rfl, rfl⟩ ?_ ?_ ?_
    · rintro j σ' H' _ ⟨_, _, rfl⟩; exact SqL.of hus
    · rintro j xx σ' H' hx ⟨g11', rfl, rfl⟩
      obtain ⟨pp, z, rfl, hz, hpp⟩ := hut.get hx
      have hzm := List.mem_of_getElem? hz
      have hpp' : H' pp = some (.tup [.ref z.t, .ref z.u]) := hpp
      obtain ⟨⟨tv, t1, t2⟩, wv, w1, w2⟩ := hb7.ht.hz z hzm
      rw [← hb7.eq z hzm] at w2
      walk_at "x"
      refine x_neFls t1 w1 t2 w2 ?_
      walk_at "x"
      exact ⟨_, rfl, rfl⟩
    · rintro σ' H' ⟨g11', rfl, rfl⟩
      walk_at "x"
      exact k _

end
theorem fin {P : Program} {w : World} {K : PySem.W.Frag} {mg : Str → Option Value} {fa : Addr} (T : Txt K mg) (hfa : mg "law" = some (.ref fa)) :
    ∃ fd : FuncData, (∀ (s : Shared) (v : Value), BindsTo s fd ⟨[v], []⟩ [("_law_script", v)]) ∧ ∀ base : Heap, K.In base → base.Ns mainGlobals mg → FnOk P w K mg base (CXF P w) 5 fa fd ["_law_script"] (spLaw K) := by
  have e := hfa.symm.trans T.d_law.m
  cases e
  exact ⟨_, T.bl_law, fun base _ _ => ok_law T⟩
theorem walk {l : PySem.W.OpenLaw} {q : Program} {loose : List Str} {XP : (Str → Option Value) → Heap → Prop} {YP : World → Heap → Prop} {d : DefRec} {K : Params → PySem.W.Frag} (hn : l.most = some 63) (hdf : d.params.defaults = [])
    (hY : ∀ (w : World) (h : Heap), YP w h → (K w.params).In h)
    (F : ∀ (w : World) (mg : Str → Option Value) (fa : Addr) (h : Heap), (K w.params).In h → h.Ns mainGlobals mg → mg d.name = some (.ref fa) →
      ∃ fd : FuncData, (∀ (s : Shared) (u : Value), BindsTo s fd ⟨[u], []⟩ [("_law_script", u)]) ∧ ∀ base : Heap, (K w.params).In base → base.Ns mainGlobals mg → FnOk l.prog w (K w.params) mg base (CXF l.prog w) 5 fa fd ["_law_script"] (spLaw (K w.params))) :
    PySem.W.WalkO q loose XP YP l.row.toRowW d [] (fun f vs => PySem.call f vs) :=
  Internal.walk_of (n := 63) (k := 5) (x := "_law_script") (CX := fun w => CXF l.prog w) (sp := fun w => spLaw (K w.params)) hn (by decide) hdf ⟨rfl, by decide, by decide⟩ hY F (fun _ _ a ns hl _ hS => ⟨a, ns, rfl, hS, hl, fun _ => rfl⟩) fun _ H s e s' z => nox_F _ H s e s' z
end Internal.K
theorem PySem.W.Fast.tw17338662092797285844 : True := trivial
theorem PySem.W.Fast.tw4220446183929005198 : True := trivial
theorem PySem.W.Fast.tw18221154915013767963 : True := trivial
theorem PySem.W.Fast.tw8366583034124526828 : True := trivial
theorem PySem.W.Fast.tw556959994103347292 : True := trivial
theorem PySem.W.Fast.tw10444553760680913227 : True := trivial
theorem PySem.W.Fast.tw12216859325529009373 : True := trivial
theorem PySem.W.Fast.tw13891862713942289697 : True := trivial
theorem PySem.W.Fast.tw17767296820531587047 : True := trivial
theorem PySem.W.Fast.tw12941291641388337911 : True := trivial
theorem PySem.W.Fast.tw18304757990327068476 : True := trivial
theorem PySem.W.Fast.tw12007008678771532567 : True := trivial
theorem PySem.W.Fast.tw11154727916576694288 : True := trivial
theorem PySem.W.Fast.tw13907858436815151080 : True := trivial
theorem PySem.W.Fast.tw2462837745414986357 : True := trivial
theorem PySem.W.Fast.tw14453345403318218686 : True := trivial
theorem PySem.W.Fast.tw1422635323308726895 : True := trivial
theorem PySem.W.Fast.tw6287544379303919644 : True := trivial
theorem PySem.W.Fast.tw13074437803640206754 : True := trivial
theorem PySem.W.Fast.tw14101151180535369846 : True := trivial
theorem PySem.W.Fast.tw4080493025851456045 : True := trivial
theorem PySem.W.Fast.tw981162110188412103 : True := trivial
theorem PySem.W.Fast.tw8522399014805493857 : True := trivial
theorem PySem.W.Fast.tw2106378871623449336 : True := trivial
theorem PySem.W.Fast.tw6491556738516943225 : True := trivial
theorem PySem.W.Fast.tw12437247443710359953 : True := trivial
open PySem PySem.W PyProof.Rows
set_option maxRecDepth 100000 in
set_option maxHeartbeats 0 in
theorem PySem.Challenge.cw_quits_k72_days_and_members_holds : PySem.Challenge.rw_quits_k72_days_and_members.Holds := by
  w_on; o_law; k_head; (case hw => w_witness2)
  k_fill
  refine Internal.K.walk (l := PySem.Challenge.rw_quits_k72_days_and_members) rfl rfl (fun w h Y => PySem.W.kIn_of Y) ?F
  case F =>
    intro w mg fa h KX G hmg
    refine Internal.K.fin ?T hmg
    case T =>
      refine' Internal.K.txt_mk KX G ?m_Closed ?m_Gone ?m_NoDeal ?m_NoMember ?m_NoTerms ?m_Settled ?hd_Closed ?ty_Closed ?hd_Gone ?ty_Gone ?hd_NoDeal ?ty_NoDeal ?hd_NoMember ?ty_NoMember ?hd_NoTerms ?ty_NoTerms ?hd_Settled ?ty_Settled ?sn_ ?tk_ ?x_Closed ?ga_Closed ?gn_Closed ?be_Closed ?fa_Closed ?mo_Closed ?s_Closed_Closed ?s_Closed_Gone ?n_Closed_Gone ?s_Closed_NoDeal ?n_Closed_NoDeal ?s_Closed_NoMember ?n_Closed_NoMember ?s_Closed_NoTerms ?n_Closed_NoTerms ?s_Closed_Settled ?n_Closed_Settled ?x_Gone ?ga_Gone ?gn_Gone ?be_Gone ?fa_Gone ?mo_Gone ?s_Gone_Closed ?n_Gone_Closed ?s_Gone_Gone ?s_Gone_NoDeal ?n_Gone_NoDeal ?s_Gone_NoMember ?n_Gone_NoMember ?s_Gone_NoTerms ?n_Gone_NoTerms ?s_Gone_Settled ?n_Gone_Settled ?x_NoDeal ?ga_NoDeal ?gn_NoDeal ?be_NoDeal ?fa_NoDeal ?mo_NoDeal ?s_NoDeal_Closed ?n_NoDeal_Closed ?s_NoDeal_Gone ?n_NoDeal_Gone ?s_NoDeal_NoDeal ?s_NoDeal_NoMember ?n_NoDeal_NoMember ?s_NoDeal_NoTerms ?n_NoDeal_NoTerms ?s_NoDeal_Settled ?n_NoDeal_Settled ?x_NoMember ?ga_NoMember ?gn_NoMember ?be_NoMember ?fa_NoMember ?mo_NoMember ?s_NoMember_Closed ?n_NoMember_Closed ?s_NoMember_Gone ?n_NoMember_Gone ?s_NoMember_NoDeal ?n_NoMember_NoDeal ?s_NoMember_NoMember ?s_NoMember_NoTerms ?n_NoMember_NoTerms ?s_NoMember_Settled ?n_NoMember_Settled ?x_NoTerms ?ga_NoTerms ?gn_NoTerms ?be_NoTerms ?fa_NoTerms ?mo_NoTerms ?s_NoTerms_Closed ?n_NoTerms_Closed ?s_NoTerms_Gone ?n_NoTerms_Gone ?s_NoTerms_NoDeal ?n_NoTerms_NoDeal ?s_NoTerms_NoMember ?n_NoTerms_NoMember ?s_NoTerms_NoTerms ?s_NoTerms_Settled ?n_NoTerms_Settled ?x_Settled ?ga_Settled ?gn_Settled ?be_Settled ?fa_Settled ?mo_Settled ?s_Settled_Closed ?n_Settled_Closed ?s_Settled_Gone ?n_Settled_Gone ?s_Settled_NoDeal ?n_Settled_NoDeal ?s_Settled_NoMember ?n_Settled_NoMember ?s_Settled_NoTerms ?n_Settled_NoTerms ?s_Settled_Settled ?m_Book ?pg_Book ?hd_Book ?po_Book ?sa_Book ?mk_Book ?kc_Book ?na_Book_day ?na_Book_deals ?na_Book_many ?na_Book_wares ?g_AMOUNT ?g_DAY ?g_MOST_AMOUNT ?g_MOST_DAY ?g_MOST_UNITS ?g_PAYEE ?g_PAYER ?g_RANK ?g_STATE ?g_UNITS ?g_WARE ?a_Book___init__ ?i_Book___init__ ?l_Book___init__ ?c_Book___init__ ?k_Book___init__ ?a_Book_strike ?i_Book_strike ?l_Book_strike ?c_Book_strike ?k_Book_strike ?a_Book_check_members ?i_Book_check_members ?l_Book_check_members ?c_Book_check_members ?k_Book_check_members ?a_Book_check_terms ?i_Book_check_terms ?l_Book_check_terms ?c_Book_check_terms ?k_Book_check_terms ?a_Book_change ?i_Book_change ?l_Book_change ?c_Book_change ?k_Book_change ?a_Book_break_off ?i_Book_break_off ?l_Book_break_off ?c_Book_break_off ?k_Book_break_off ?a_Book_standing_deal ?i_Book_standing_deal ?l_Book_standing_deal ?c_Book_standing_deal ?k_Book_standing_deal ?a_Book_put_state ?i_Book_put_state ?l_Book_put_state ?c_Book_put_state ?k_Book_put_state ?a_Book_close ?i_Book_close ?l_Book_close ?c_Book_close ?k_Book_close ?a_Book_deal ?i_Book_deal ?l_Book_deal ?c_Book_deal ?k_Book_deal ?a_Book_numbers_on ?i_Book_numbers_on ?l_Book_numbers_on ?c_Book_numbers_on ?k_Book_numbers_on ?a_Book_sheet_on ?i_Book_sheet_on ?l_Book_sheet_on ?c_Book_sheet_on ?k_Book_sheet_on ?a_Book_entries ?i_Book_entries ?l_Book_entries ?c_Book_entries ?k_Book_entries ?a_Book_position ?i_Book_position ?l_Book_position ?c_Book_position ?k_Book_position ?a__law_cell ?l__law_cell ?c__law_cell ?k__law_cell ?a__law_draw ?l__law_draw ?c__law_draw ?k__law_draw ?a__law_great ?l__law_great ?c__law_great ?k__law_great ?a__law_wholes ?l__law_wholes ?c__law_wholes ?k__law_wholes ?a__law_tuples ?l__law_tuples ?c__law_tuples ?k__law_tuples ?a__law_day_due ?l__law_day_due ?c__law_day_due ?k__law_day_due ?a__law_entries_due ?l__law_entries_due ?c__law_entries_due ?k__law_entries_due ?a__law_position_due ?l__law_position_due ?c__law_position_due ?k__law_position_due ?a__law_days_right ?l__law_days_right ?c__law_days_right ?k__law_days_right ?a__law_members_right ?l__law_members_right ?c__law_members_right ?k__law_members_right ?a__law_asked ?l__law_asked ?c__law_asked ?k__law_asked ?a__law_struck ?l__law_struck ?c__law_struck ?k__law_struck ?a__law_turned ?l__law_turned ?c__law_turned ?k__law_turned ?a__law_closed ?l__law_closed ?c__law_closed ?k__law_closed ?a_law ?l_law ?c_law ?k_law ?w_bool ?w_enumerate ?w_int ?w_isinstance ?w_len ?w_list ?w_range ?w_sorted ?w_sum ?w_tuple
      (case m_Closed => k_is)
      (case m_Gone => k_is)
      (case m_NoDeal => k_is)
      (case m_NoMember => k_is)
      (case m_NoTerms => k_is)
      (case m_Settled => k_is)
      (case hd_Closed => k_is)
      (case ty_Closed => k_is)
      (case hd_Gone => k_is)
      (case ty_Gone => k_is)
      (case hd_NoDeal => k_is)
      (case ty_NoDeal => k_is)
      (case hd_NoMember => k_is)
      (case ty_NoMember => k_is)
      (case hd_NoTerms => k_is)
      (case ty_NoTerms => k_is)
      (case hd_Settled => k_is)
      (case ty_Settled => k_is)
      (case sn_ => k_is)
      (case tk_ => k_is)
      (case x_Closed => k_exc)
      (case ga_Closed => k_is)
      (case gn_Closed => k_is)
      (case be_Closed => k_is)
      (case fa_Closed => k_is)
      (case mo_Closed => k_is)
      (case s_Closed_Closed => k_is)
      (case s_Closed_Gone => k_is)
      (case n_Closed_Gone => decide)
      (case s_Closed_NoDeal => k_is)
      (case n_Closed_NoDeal => decide)
      (case s_Closed_NoMember => k_is)
      (case n_Closed_NoMember => decide)
      (case s_Closed_NoTerms => k_is)
      (case n_Closed_NoTerms => decide)
      (case s_Closed_Settled => k_is)
      (case n_Closed_Settled => decide)
      (case x_Gone => k_exc)
      (case ga_Gone => k_is)
      (case gn_Gone => k_is)
      (case be_Gone => k_is)
      (case fa_Gone => k_is)
      (case mo_Gone => k_is)
      (case s_Gone_Closed => k_is)
      (case n_Gone_Closed => decide)
      (case s_Gone_Gone => k_is)
      (case s_Gone_NoDeal => k_is)
      (case n_Gone_NoDeal => decide)
      (case s_Gone_NoMember => k_is)
      (case n_Gone_NoMember => decide)
      (case s_Gone_NoTerms => k_is)
      (case n_Gone_NoTerms => decide)
      (case s_Gone_Settled => k_is)
      (case n_Gone_Settled => decide)
      (case x_NoDeal => k_exc)
      (case ga_NoDeal => k_is)
      (case gn_NoDeal => k_is)
      (case be_NoDeal => k_is)
      (case fa_NoDeal => k_is)
      (case mo_NoDeal => k_is)
      (case s_NoDeal_Closed => k_is)
      (case n_NoDeal_Closed => decide)
      (case s_NoDeal_Gone => k_is)
      (case n_NoDeal_Gone => decide)
      (case s_NoDeal_NoDeal => k_is)
      (case s_NoDeal_NoMember => k_is)
      (case n_NoDeal_NoMember => decide)
      (case s_NoDeal_NoTerms => k_is)
      (case n_NoDeal_NoTerms => decide)
      (case s_NoDeal_Settled => k_is)
      (case n_NoDeal_Settled => decide)
      (case x_NoMember => k_exc)
      (case ga_NoMember => k_is)
      (case gn_NoMember => k_is)
      (case be_NoMember => k_is)
      (case fa_NoMember => k_is)
      (case mo_NoMember => k_is)
      (case s_NoMember_Closed => k_is)
      (case n_NoMember_Closed => decide)
      (case s_NoMember_Gone => k_is)
      (case n_NoMember_Gone => decide)
      (case s_NoMember_NoDeal => k_is)
      (case n_NoMember_NoDeal => decide)
      (case s_NoMember_NoMember => k_is)
      (case s_NoMember_NoTerms => k_is)
      (case n_NoMember_NoTerms => decide)
      (case s_NoMember_Settled => k_is)
      (case n_NoMember_Settled => decide)
      (case x_NoTerms => k_exc)
      (case ga_NoTerms => k_is)
      (case gn_NoTerms => k_is)
      (case be_NoTerms => k_is)
      (case fa_NoTerms => k_is)
      (case mo_NoTerms => k_is)
      (case s_NoTerms_Closed => k_is)
      (case n_NoTerms_Closed => decide)
      (case s_NoTerms_Gone => k_is)
      (case n_NoTerms_Gone => decide)
      (case s_NoTerms_NoDeal => k_is)
      (case n_NoTerms_NoDeal => decide)
      (case s_NoTerms_NoMember => k_is)
      (case n_NoTerms_NoMember => decide)
      (case s_NoTerms_NoTerms => k_is)
      (case s_NoTerms_Settled => k_is)
      (case n_NoTerms_Settled => decide)
      (case x_Settled => k_exc)
      (case ga_Settled => k_is)
      (case gn_Settled => k_is)
      (case be_Settled => k_is)
      (case fa_Settled => k_is)
      (case mo_Settled => k_is)
      (case s_Settled_Closed => k_is)
      (case n_Settled_Closed => decide)
      (case s_Settled_Gone => k_is)
      (case n_Settled_Gone => decide)
      (case s_Settled_NoDeal => k_is)
      (case n_Settled_NoDeal => decide)
      (case s_Settled_NoMember => k_is)
      (case n_Settled_NoMember => decide)
      (case s_Settled_NoTerms => k_is)
      (case n_Settled_NoTerms => decide)
      (case s_Settled_Settled => k_is)
      (case m_Book => k_is)
      (case pg_Book => k_is)
      (case hd_Book => k_is)
      (case po_Book => k_is)
      (case sa_Book => k_is)
      (case mk_Book => k_is)
      (case kc_Book => k_is)
      (case na_Book_day => k_is)
      (case na_Book_deals => k_is)
      (case na_Book_many => k_is)
      (case na_Book_wares => k_is)
      (case g_AMOUNT => k_is)
      (case g_DAY => k_is)
      (case g_MOST_AMOUNT => k_is)
      (case g_MOST_DAY => k_is)
      (case g_MOST_UNITS => k_is)
      (case g_PAYEE => k_is)
      (case g_PAYER => k_is)
      (case g_RANK => k_is)
      (case g_STATE => k_is)
      (case g_UNITS => k_is)
      (case g_WARE => k_is)
      (case a_Book___init__ => k_is)
      (case i_Book___init__ => k_is)
      (case l_Book___init__ => k_is)
      (case c_Book___init__ => k_is)
      (case k_Book___init__ => k_is)
      (case a_Book_strike => k_is)
      (case i_Book_strike => k_is)
      (case l_Book_strike => k_is)
      (case c_Book_strike => k_is)
      (case k_Book_strike => k_is)
      (case a_Book_check_members => k_is)
      (case i_Book_check_members => k_is)
      (case l_Book_check_members => k_is)
      (case c_Book_check_members => k_is)
      (case k_Book_check_members => k_is)
      (case a_Book_check_terms => k_is)
      (case i_Book_check_terms => k_is)
      (case l_Book_check_terms => k_is)
      (case c_Book_check_terms => k_is)
      (case k_Book_check_terms => k_is)
      (case a_Book_change => k_is)
      (case i_Book_change => k_is)
      (case l_Book_change => k_is)
      (case c_Book_change => k_is)
      (case k_Book_change => k_is)
      (case a_Book_break_off => k_is)
      (case i_Book_break_off => k_is)
      (case l_Book_break_off => k_is)
      (case c_Book_break_off => k_is)
      (case k_Book_break_off => k_is)
      (case a_Book_standing_deal => k_is)
      (case i_Book_standing_deal => k_is)
      (case l_Book_standing_deal => k_is)
      (case c_Book_standing_deal => k_is)
      (case k_Book_standing_deal => k_is)
      (case a_Book_put_state => k_is)
      (case i_Book_put_state => k_is)
      (case l_Book_put_state => k_is)
      (case c_Book_put_state => k_is)
      (case k_Book_put_state => k_is)
      (case a_Book_close => k_is)
      (case i_Book_close => k_is)
      (case l_Book_close => k_is)
      (case c_Book_close => k_is)
      (case k_Book_close => k_is)
      (case a_Book_deal => k_is)
      (case i_Book_deal => k_is)
      (case l_Book_deal => k_is)
      (case c_Book_deal => k_is)
      (case k_Book_deal => k_is)
      (case a_Book_numbers_on => k_is)
      (case i_Book_numbers_on => k_is)
      (case l_Book_numbers_on => k_is)
      (case c_Book_numbers_on => k_is)
      (case k_Book_numbers_on => k_is)
      (case a_Book_sheet_on => k_is)
      (case i_Book_sheet_on => k_is)
      (case l_Book_sheet_on => k_is)
      (case c_Book_sheet_on => k_is)
      (case k_Book_sheet_on => k_is)
      (case a_Book_entries => k_is)
      (case i_Book_entries => k_is)
      (case l_Book_entries => k_is)
      (case c_Book_entries => k_is)
      (case k_Book_entries => k_is)
      (case a_Book_position => k_is)
      (case i_Book_position => k_is)
      (case l_Book_position => k_is)
      (case c_Book_position => k_is)
      (case k_Book_position => k_is)
      (case a__law_cell => k_is)
      (case l__law_cell => k_is)
      (case c__law_cell => k_is)
      (case k__law_cell => k_is)
      (case a__law_draw => k_is)
      (case l__law_draw => k_is)
      (case c__law_draw => k_is)
      (case k__law_draw => k_is)
      (case a__law_great => k_is)
      (case l__law_great => k_is)
      (case c__law_great => k_is)
      (case k__law_great => k_is)
      (case a__law_wholes => k_is)
      (case l__law_wholes => k_is)
      (case c__law_wholes => k_is)
      (case k__law_wholes => k_is)
      (case a__law_tuples => k_is)
      (case l__law_tuples => k_is)
      (case c__law_tuples => k_is)
      (case k__law_tuples => k_is)
      (case a__law_day_due => k_is)
      (case l__law_day_due => k_is)
      (case c__law_day_due => k_is)
      (case k__law_day_due => k_is)
      (case a__law_entries_due => k_is)
      (case l__law_entries_due => k_is)
      (case c__law_entries_due => k_is)
      (case k__law_entries_due => k_is)
      (case a__law_position_due => k_is)
      (case l__law_position_due => k_is)
      (case c__law_position_due => k_is)
      (case k__law_position_due => k_is)
      (case a__law_days_right => k_is)
      (case l__law_days_right => k_is)
      (case c__law_days_right => k_is)
      (case k__law_days_right => k_is)
      (case a__law_members_right => k_is)
      (case l__law_members_right => k_is)
      (case c__law_members_right => k_is)
      (case k__law_members_right => k_is)
      (case a__law_asked => k_is)
      (case l__law_asked => k_is)
      (case c__law_asked => k_is)
      (case k__law_asked => k_is)
      (case a__law_struck => k_is)
      (case l__law_struck => k_is)
      (case c__law_struck => k_is)
      (case k__law_struck => k_is)
      (case a__law_turned => k_is)
      (case l__law_turned => k_is)
      (case c__law_turned => k_is)
      (case k__law_turned => k_is)
      (case a__law_closed => k_is)
      (case l__law_closed => k_is)
      (case c__law_closed => k_is)
      (case k__law_closed => k_is)
      (case a_law => k_is)
      (case l_law => k_is)
      (case c_law => k_is)
      (case k_law => k_is)
      (case w_bool => k_is)
      (case w_enumerate => k_is)
      (case w_int => k_is)
      (case w_isinstance => k_is)
      (case w_len => k_is)
      (case w_list => k_is)
      (case w_range => k_is)
      (case w_sorted => k_is)
      (case w_sum => k_is)
      (case w_tuple => k_is)
